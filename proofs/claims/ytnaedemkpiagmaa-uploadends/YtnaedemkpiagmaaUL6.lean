/- What the law UploadEnds answers: true, for every uploads, text and two numbers. -/
import Derived.Test.YtnaedemkpiagmaaU15
import Derived.Test.YtnaedemkpiagmaaU32
import Derived.Test.YtnaedemkpiagmaaU33
set_option linter.unusedSimpArgs false
set_option linter.unusedVariables false
namespace Go.Proofs.Ytnaedemkpiagmaa
open Go.RowKit

set_option maxRecDepth 100000 in
set_option maxHeartbeats 4000000 in
theorem uploadEnds_err (G : List Se) (v : Value) (x l r : Int) (p : ByteArray) (n now : Int) (w : World) (hv : LiesS w v G) (y : Int) (hy : (y == 0) = false) (hQ : (∀ W, LiesS W v G → Calls Try.prog 13 #[.agg #[v, .int .i64 x, .int .i64 l, .int .i64 r], .string p, .int .i64 n, .int .i64 now] W fun e w' => e = .returned (.tuple #[.int .i64 0, .int .i64 y]) ∧ Below W.heap.size W w')) (hA : (∀ W, LiesS W v G → Calls Try.prog 14 #[.agg #[v, .int .i64 x, .int .i64 l, .int .i64 r], .string p, .int .i64 n, .int .i64 now] W fun e w' => e = .returned (.tuple #[.agg #[.slice none 0 0, .int .i64 0, .int .i64 0, .int .i64 0], .string ⟨#[]⟩, .int .i64 y]) ∧ Below W.heap.size W w')) (hM : (∀ W, LiesS W v G → Calls Try.prog 15 #[.agg #[v, .int .i64 x, .int .i64 l, .int .i64 r], .string p, .int .i64 n, .int .i64 now] W fun e w' => ∃ a m c, e = .returned (.tuple #[.agg #[.slice a m c, .int .i64 x, .int .i64 l, .int .i64 r], .int .i64 0, .int .i64 y]) ∧ Below W.heap.size W w')) (hR : (∀ W, LiesS W v G → Calls Try.prog 16 #[.agg #[v, .int .i64 x, .int .i64 l, .int .i64 r], .string p, .int .i64 n, .int .i64 now] W fun e w' => e = .returned (.tuple #[.agg #[.slice none 0 0, .int .i64 0, .int .i64 0, .int .i64 0], .string ⟨#[]⟩, .int .i64 y]) ∧ Below W.heap.size W w')) :
    Calls Try.prog 5 #[.agg #[v, .int .i64 x, .int .i64 l, .int .i64 r], .string p, .int .i64 n, .int .i64 now] w fun e w' => e = .returned (.bool true) ∧ Below w.heap.size w w' := by
  have HV := ghid hv
  have HQ := ghid hQ
  have HA := ghid hA
  have HM := ghid hM
  have HR := ghid hR
  clear hQ hA hM hR
  obtain ⟨av, capv, rfl, _⟩ := hv
  obtain ⟨w2, hw2⟩ : ∃ w2, w2 = w.alloc (.cells #[.slice av G.length capv, .int .i64 x, .int .i64 l, .int .i64 r] 24) := ⟨_, rfl⟩
  have hbw2 : Below w.heap.size w w2 := by rw [hw2]; exact (Below.refl _ _).alloc (Nat.le_refl _) _
  have HU2 : Hid (Bx w2 w.heap.size (.slice av G.length capv) (.int .i64 x) (.int .i64 l) (.int .i64 r)) := (by rw [hw2]; exact Bx.new _ _ _ _ _ _ : Bx w2 w.heap.size (.slice av G.length capv) (.int .i64 x) (.int .i64 l) (.int .i64 r))
  go_enter Try.func5, Try.ntmps5
  go_wp2_with fail
  rw [← hw2]
  clear hw2
  refine (HQ.out _ (HV.out.below hbw2)).mono ?_
  rintro e w1 ⟨rfl, hb1⟩
  have hb01 := below_trans hbw2 hb1
  have HU1 := ghid (HU2.out.below hb1)
  clear hb1
  obtain ⟨hUb, ⟨c0, c1, c2, c3⟩, _⟩ := HU1.out
  go_wp2_with fail
  clear c0 c1 c2 c3 hUb
  refine (HA.out _ (HV.out.below hb01)).mono ?_
  rintro e w3 ⟨rfl, hb3⟩
  have hb03 := below_trans hb01 hb3
  have HU3 := ghid (HU1.out.below hb3)
  clear hb3
  obtain ⟨wx, hwx⟩ : ∃ wx, wx = w3.alloc (.cells #[.slice none 0 0, .int .i64 0, .int .i64 0, .int .i64 0] 24) := ⟨_, rfl⟩
  have hbwx : Below w3.heap.size w3 wx := by rw [hwx]; exact (Below.refl _ _).alloc (Nat.le_refl _) _
  have HX : Hid (Bx wx w3.heap.size (.slice none 0 0) (.int .i64 0) (.int .i64 0) (.int .i64 0)) := (by rw [hwx]; exact Bx.new _ _ _ _ _ _ : Bx wx w3.heap.size (.slice none 0 0) (.int .i64 0) (.int .i64 0) (.int .i64 0))
  have HUX := ghid (HU3.out.below hbwx)
  have hb0x := below_trans hb03 hbwx
  obtain ⟨hUb, ⟨c0, c1, c2, c3⟩, _⟩ := HU3.out
  go_wp2_with fail
  rw [← hwx]
  clear hwx c0 c1 c2 c3 hUb
  refine (HM.out _ (HV.out.below hb0x)).mono ?_
  rintro e w4 ⟨am, mm, cm, rfl, hb4⟩
  have hb04 := below_trans hb0x hb4
  have HU4 := ghid (HUX.out.below hb4)
  have HX4 := ghid (HX.out.below hb4)
  clear hb4
  obtain ⟨wv, hwv⟩ : ∃ wv, wv = w4.alloc (.cells #[.slice am mm cm, .int .i64 x, .int .i64 l, .int .i64 r] 24) := ⟨_, rfl⟩
  have hbwv : Below w4.heap.size w4 wv := by rw [hwv]; exact (Below.refl _ _).alloc (Nat.le_refl _) _
  have HVB : Hid (Bx wv w4.heap.size (.slice am mm cm) (.int .i64 x) (.int .i64 l) (.int .i64 r)) := (by rw [hwv]; exact Bx.new _ _ _ _ _ _ : Bx wv w4.heap.size (.slice am mm cm) (.int .i64 x) (.int .i64 l) (.int .i64 r))
  have HUV := ghid (HU4.out.below hbwv)
  have HXV := ghid (HX4.out.below hbwv)
  have hb0v := below_trans hb04 hbwv
  obtain ⟨hUb, ⟨c0, c1, c2, c3⟩, _⟩ := HU4.out
  go_upto_region 4 with fail
  rw [← hwv]
  clear hwv c0 c1 c2 c3 hUb
  obtain ⟨hVb, ⟨z0, z1, z2, z3⟩, _⟩ := HVB.out
  obtain ⟨hUb, ⟨c0, c1, c2, c3⟩, _⟩ := HUV.out
  go_wp2_with fail
  clear c0 c1 c2 c3 hUb z0 z1 z2 z3 hVb
  refine (HR.out _ (HV.out.below hb0v)).mono ?_
  rintro e w5 ⟨rfl, hb5⟩
  have HX5 := ghid (HXV.out.below hb5)
  have hb05 := below_trans hb0v hb5
  clear hb5
  obtain ⟨wq, hwq⟩ : ∃ wq, wq = w5.alloc (.cells #[.slice none 0 0, .int .i64 0, .int .i64 0, .int .i64 0] 24) := ⟨_, rfl⟩
  have hbwq : Below w5.heap.size w5 wq := by rw [hwq]; exact (Below.refl _ _).alloc (Nat.le_refl _) _
  have HWQ : Hid (Bx wq w5.heap.size (.slice none 0 0) (.int .i64 0) (.int .i64 0) (.int .i64 0)) := (by rw [hwq]; exact Bx.new _ _ _ _ _ _ : Bx wq w5.heap.size (.slice none 0 0) (.int .i64 0) (.int .i64 0) (.int .i64 0))
  have HXQ := ghid (HX5.out.below hbwq)
  have hb0q := below_trans hb05 hbwq
  go_wp2_with fail
  rw [← hwq]
  clear hwq hbwq
  refine (uploadBegun_yes _).mono ?_
  rintro e wa ⟨rfl, hba⟩
  have hXA := HXQ.out.below hba
  have hWA := HWQ.out.below hba
  obtain ⟨_, ⟨z0, z1, z2, z3⟩, _⟩ := hXA
  obtain ⟨_, ⟨z4, z5, z6, z7⟩, _⟩ := hWA
  have hwa := hba
  clear hba
  go_wp2_with fail
  refine (sameUploads_yes [] _ _ 0 0 0 _ (liesS_nil _) (liesS_nil _)).mono ?_
  rintro e wd ⟨rfl, hbd⟩
  have hwd : Below wq.heap.size wq wd := below_trans hwa hbd
  clear hbd z0 z1 z2 z3 z4 z5 z6 z7
  go_wp2
  go_ret
  exact ⟨rfl, hb0q.trans (hwd.mono hb0q.size)⟩

set_option maxRecDepth 100000 in
set_option maxHeartbeats 4000000 in
theorem uploadEnds_mid (G : List Se) (v : Value) (x l r : Int) (p : ByteArray) (n now : Int) (w : World) (hv : LiesS w v G) (M : List Se) (k : Nat) (hk : k < M.length) (s : Se) (hS : M[k] = s) (hsl : s.tx.size ≤ 300) (hQ : (∀ W, LiesS W v G → Calls Try.prog 13 #[.agg #[v, .int .i64 x, .int .i64 l, .int .i64 r], .string p, .int .i64 n, .int .i64 now] W fun e w' => e = .returned (.tuple #[.int .i64 (s.tx.size : Int), .int .i64 0]) ∧ Below W.heap.size W w')) (hA : (∀ W, LiesS W v G → Calls Try.prog 14 #[.agg #[v, .int .i64 x, .int .i64 l, .int .i64 r], .string p, .int .i64 n, .int .i64 now] W fun e w' => e = .returned (.tuple #[.agg #[.slice none 0 0, .int .i64 0, .int .i64 0, .int .i64 0], .string ⟨#[]⟩, .int .i64 4]) ∧ Below W.heap.size W w')) (hM : (∀ W, LiesS W v G → Calls Try.prog 15 #[.agg #[v, .int .i64 x, .int .i64 l, .int .i64 r], .string p, .int .i64 n, .int .i64 now] W fun e w' => ∃ u, e = .returned (.tuple #[.agg #[u, .int .i64 x, .int .i64 l, .int .i64 r], .int .i64 (k : Nat), .int .i64 0]) ∧ OwnS W.heap.size w' u M ∧ Below W.heap.size W w')) (hR : (∀ W, LiesS W v G → Calls Try.prog 16 #[.agg #[v, .int .i64 x, .int .i64 l, .int .i64 r], .string p, .int .i64 n, .int .i64 now] W fun e w' => e = .returned (.tuple #[.agg #[.slice none 0 0, .int .i64 0, .int .i64 0, .int .i64 0], .string ⟨#[]⟩, .int .i64 4]) ∧ Below W.heap.size W w')) :
    Calls Try.prog 5 #[.agg #[v, .int .i64 x, .int .i64 l, .int .i64 r], .string p, .int .i64 n, .int .i64 now] w fun e w' => e = .returned (.bool true) ∧ Below w.heap.size w w' := by
  have HV := ghid hv
  have HQ := ghid hQ
  have HA := ghid hA
  have HM := ghid hM
  have HR := ghid hR
  clear hQ hA hM hR
  obtain ⟨av, capv, rfl, _⟩ := hv
  obtain ⟨w2, hw2⟩ : ∃ w2, w2 = w.alloc (.cells #[.slice av G.length capv, .int .i64 x, .int .i64 l, .int .i64 r] 24) := ⟨_, rfl⟩
  have hbw2 : Below w.heap.size w w2 := by rw [hw2]; exact (Below.refl _ _).alloc (Nat.le_refl _) _
  have HU2 : Hid (Bx w2 w.heap.size (.slice av G.length capv) (.int .i64 x) (.int .i64 l) (.int .i64 r)) := (by rw [hw2]; exact Bx.new _ _ _ _ _ _ : Bx w2 w.heap.size (.slice av G.length capv) (.int .i64 x) (.int .i64 l) (.int .i64 r))
  go_enter Try.func5, Try.ntmps5
  go_wp2_with fail
  rw [← hw2]
  clear hw2
  refine (HQ.out _ (HV.out.below hbw2)).mono ?_
  rintro e w1 ⟨rfl, hb1⟩
  have hb01 := below_trans hbw2 hb1
  have HU1 := ghid (HU2.out.below hb1)
  clear hb1
  obtain ⟨hUb, ⟨c0, c1, c2, c3⟩, _⟩ := HU1.out
  go_wp2_with fail
  clear c0 c1 c2 c3 hUb
  refine (HA.out _ (HV.out.below hb01)).mono ?_
  rintro e w3 ⟨rfl, hb3⟩
  have hb03 := below_trans hb01 hb3
  have HU3 := ghid (HU1.out.below hb3)
  clear hb3
  obtain ⟨wx, hwx⟩ : ∃ wx, wx = w3.alloc (.cells #[.slice none 0 0, .int .i64 0, .int .i64 0, .int .i64 0] 24) := ⟨_, rfl⟩
  have hbwx : Below w3.heap.size w3 wx := by rw [hwx]; exact (Below.refl _ _).alloc (Nat.le_refl _) _
  have HX : Hid (Bx wx w3.heap.size (.slice none 0 0) (.int .i64 0) (.int .i64 0) (.int .i64 0)) := (by rw [hwx]; exact Bx.new _ _ _ _ _ _ : Bx wx w3.heap.size (.slice none 0 0) (.int .i64 0) (.int .i64 0) (.int .i64 0))
  have HUX := ghid (HU3.out.below hbwx)
  have hb0x := below_trans hb03 hbwx
  obtain ⟨hUb, ⟨c0, c1, c2, c3⟩, _⟩ := HU3.out
  go_wp2_with fail
  rw [← hwx]
  clear hwx c0 c1 c2 c3 hUb
  refine (HM.out _ (HV.out.below hb0x)).mono ?_
  rintro e w4 ⟨u4, rfl, hown4, hb4⟩
  have HO4 := ghid hown4
  rcases hown4 with ⟨_, hnil⟩ | ⟨g, cap, rfl, hg1, hg2, hrow, hblk, hcm⟩
  · rw [hnil] at hk; simp at hk
  have HROW := ghid hrow
  clear hrow hblk
  have hb04 := below_trans hb0x hb4
  have HU4 := ghid (HUX.out.below hb4)
  have HX4 := ghid (HX.out.below hb4)
  clear hb4
  obtain ⟨wv, hwv⟩ : ∃ wv, wv = w4.alloc (.cells #[.slice (some ⟨g, 0, none⟩) M.length cap, .int .i64 x, .int .i64 l, .int .i64 r] 24) := ⟨_, rfl⟩
  have hbwv : Below w4.heap.size w4 wv := by rw [hwv]; exact (Below.refl _ _).alloc (Nat.le_refl _) _
  have HVB : Hid (Bx wv w4.heap.size (.slice (some ⟨g, 0, none⟩) M.length cap) (.int .i64 x) (.int .i64 l) (.int .i64 r)) := (by rw [hwv]; exact Bx.new _ _ _ _ _ _ : Bx wv w4.heap.size (.slice (some ⟨g, 0, none⟩) M.length cap) (.int .i64 x) (.int .i64 l) (.int .i64 r))
  have HUV := ghid (HU4.out.below hbwv)
  have HXV := ghid (HX4.out.below hbwv)
  have hb0v := below_trans hb04 hbwv
  obtain ⟨t0, t1, t2, t3, t4⟩ := (HROW.out.below hbwv).at hk
  rw [hS] at t0 t1 t2 t3 t4
  have hki : (k : Int) < (M.length : Int) := by omega
  obtain ⟨hUb, ⟨c0, c1, c2, c3⟩, _⟩ := HU4.out
  go_upto_region 4 with fail
  rw [← hwv]
  clear hwv c0 c1 c2 c3 hUb
  obtain ⟨hVb, ⟨z0, z1, z2, z3⟩, _⟩ := HVB.out
  obtain ⟨hUb, ⟨c0, c1, c2, c3⟩, _⟩ := HUV.out
  go_wp2_with fail
  clear c0 c1 c2 c3 hUb z0 z1 z2 z3 hVb
  clear t0 t1 t2 t3 t4
  refine (HR.out _ (HV.out.below hb0v)).mono ?_
  rintro e w5 ⟨rfl, hb5⟩
  have HX5 := ghid (HXV.out.below hb5)
  have hb05 := below_trans hb0v hb5
  clear hb5
  obtain ⟨wq, hwq⟩ : ∃ wq, wq = w5.alloc (.cells #[.slice none 0 0, .int .i64 0, .int .i64 0, .int .i64 0] 24) := ⟨_, rfl⟩
  have hbwq : Below w5.heap.size w5 wq := by rw [hwq]; exact (Below.refl _ _).alloc (Nat.le_refl _) _
  have HWQ : Hid (Bx wq w5.heap.size (.slice none 0 0) (.int .i64 0) (.int .i64 0) (.int .i64 0)) := (by rw [hwq]; exact Bx.new _ _ _ _ _ _ : Bx wq w5.heap.size (.slice none 0 0) (.int .i64 0) (.int .i64 0) (.int .i64 0))
  have HXQ := ghid (HX5.out.below hbwq)
  have hb0q := below_trans hb05 hbwq
  go_wp2_with fail
  rw [← hwq]
  clear hwq hbwq
  refine (uploadBegun_yes _).mono ?_
  rintro e wa ⟨rfl, hba⟩
  have hXA := HXQ.out.below hba
  have hWA := HWQ.out.below hba
  obtain ⟨_, ⟨z0, z1, z2, z3⟩, _⟩ := hXA
  obtain ⟨_, ⟨z4, z5, z6, z7⟩, _⟩ := hWA
  have hwa := hba
  clear hba
  go_wp2_with fail
  refine (sameUploads_yes [] _ _ 0 0 0 _ (liesS_nil _) (liesS_nil _)).mono ?_
  rintro e wd ⟨rfl, hbd⟩
  have hwd : Below wq.heap.size wq wd := below_trans hwa hbd
  clear hbd z0 z1 z2 z3 z4 z5 z6 z7
  go_wp2
  go_ret
  exact ⟨rfl, hb0q.trans (hwd.mono hb0q.size)⟩

set_option maxRecDepth 100000 in
set_option maxHeartbeats 4000000 in
theorem uploadEnds_ok (G : List Se) (v : Value) (x l r : Int) (p : ByteArray) (n now : Int) (w : World) (hv : LiesS w v G) (M : List Se) (k : Nat) (hk : k < M.length) (s : Se) (hS : M[k] = s) (hsl : s.tx.size ≤ 300) (t : ByteArray) (N : List Se) (hNl : N.length ≤ 1000) (hQ : (∀ W, LiesS W v G → Calls Try.prog 13 #[.agg #[v, .int .i64 x, .int .i64 l, .int .i64 r], .string p, .int .i64 n, .int .i64 now] W fun e w' => e = .returned (.tuple #[.int .i64 (s.tx.size : Int), .int .i64 0]) ∧ Below W.heap.size W w')) (hA : (∀ W, LiesS W v G → Calls Try.prog 14 #[.agg #[v, .int .i64 x, .int .i64 l, .int .i64 r], .string p, .int .i64 n, .int .i64 now] W fun e w' => ∃ u, e = .returned (.tuple #[.agg #[u, .int .i64 x, .int .i64 l, .int .i64 r], .string t, .int .i64 0]) ∧ OwnS W.heap.size w' u N ∧ Below W.heap.size W w')) (hM : (∀ W, LiesS W v G → Calls Try.prog 15 #[.agg #[v, .int .i64 x, .int .i64 l, .int .i64 r], .string p, .int .i64 n, .int .i64 now] W fun e w' => ∃ u, e = .returned (.tuple #[.agg #[u, .int .i64 x, .int .i64 l, .int .i64 r], .int .i64 (k : Nat), .int .i64 0]) ∧ OwnS W.heap.size w' u M ∧ Below W.heap.size W w')) (hR : (∀ W, LiesS W v G → Calls Try.prog 16 #[.agg #[v, .int .i64 x, .int .i64 l, .int .i64 r], .string p, .int .i64 n, .int .i64 now] W fun e w' => ∃ u, e = .returned (.tuple #[.agg #[u, .int .i64 x, .int .i64 l, .int .i64 r], .string t, .int .i64 0]) ∧ OwnS W.heap.size w' u N ∧ Below W.heap.size W w')) :
    Calls Try.prog 5 #[.agg #[v, .int .i64 x, .int .i64 l, .int .i64 r], .string p, .int .i64 n, .int .i64 now] w fun e w' => e = .returned (.bool true) ∧ Below w.heap.size w w' := by
  have HV := ghid hv
  have HQ := ghid hQ
  have HA := ghid hA
  have HM := ghid hM
  have HR := ghid hR
  clear hQ hA hM hR
  obtain ⟨av, capv, rfl, _⟩ := hv
  obtain ⟨w2, hw2⟩ : ∃ w2, w2 = w.alloc (.cells #[.slice av G.length capv, .int .i64 x, .int .i64 l, .int .i64 r] 24) := ⟨_, rfl⟩
  have hbw2 : Below w.heap.size w w2 := by rw [hw2]; exact (Below.refl _ _).alloc (Nat.le_refl _) _
  have HU2 : Hid (Bx w2 w.heap.size (.slice av G.length capv) (.int .i64 x) (.int .i64 l) (.int .i64 r)) := (by rw [hw2]; exact Bx.new _ _ _ _ _ _ : Bx w2 w.heap.size (.slice av G.length capv) (.int .i64 x) (.int .i64 l) (.int .i64 r))
  go_enter Try.func5, Try.ntmps5
  go_wp2_with fail
  rw [← hw2]
  clear hw2
  refine (HQ.out _ (HV.out.below hbw2)).mono ?_
  rintro e w1 ⟨rfl, hb1⟩
  have hb01 := below_trans hbw2 hb1
  have HU1 := ghid (HU2.out.below hb1)
  clear hb1
  obtain ⟨hUb, ⟨c0, c1, c2, c3⟩, _⟩ := HU1.out
  go_wp2_with fail
  clear c0 c1 c2 c3 hUb
  refine (HA.out _ (HV.out.below hb01)).mono ?_
  rintro e w3 ⟨u3, rfl, hown3, hb3⟩
  have HO3 := ghid hown3
  obtain ⟨a3, cap3, hu3, _, _, _⟩ := HO3.out.lies hNl
  subst hu3
  clear hown3
  have hb03 := below_trans hb01 hb3
  have HU3 := ghid (HU1.out.below hb3)
  clear hb3
  obtain ⟨wx, hwx⟩ : ∃ wx, wx = w3.alloc (.cells #[.slice a3 N.length cap3, .int .i64 x, .int .i64 l, .int .i64 r] 24) := ⟨_, rfl⟩
  have hbwx : Below w3.heap.size w3 wx := by rw [hwx]; exact (Below.refl _ _).alloc (Nat.le_refl _) _
  have HX : Hid (Bx wx w3.heap.size (.slice a3 N.length cap3) (.int .i64 x) (.int .i64 l) (.int .i64 r)) := (by rw [hwx]; exact Bx.new _ _ _ _ _ _ : Bx wx w3.heap.size (.slice a3 N.length cap3) (.int .i64 x) (.int .i64 l) (.int .i64 r))
  have HUX := ghid (HU3.out.below hbwx)
  have hb0x := below_trans hb03 hbwx
  have HOX := ghid (HO3.out.below hbwx)
  obtain ⟨hUb, ⟨c0, c1, c2, c3⟩, _⟩ := HU3.out
  go_wp2_with fail
  rw [← hwx]
  clear hwx c0 c1 c2 c3 hUb
  refine (HM.out _ (HV.out.below hb0x)).mono ?_
  rintro e w4 ⟨u4, rfl, hown4, hb4⟩
  have HO4 := ghid hown4
  rcases hown4 with ⟨_, hnil⟩ | ⟨g, cap, rfl, hg1, hg2, hrow, hblk, hcm⟩
  · rw [hnil] at hk; simp at hk
  have HROW := ghid hrow
  clear hrow hblk
  have hb04 := below_trans hb0x hb4
  have HU4 := ghid (HUX.out.below hb4)
  have HX4 := ghid (HX.out.below hb4)
  have HOX4 := ghid (HOX.out.below hb4)
  clear hb4
  obtain ⟨wv, hwv⟩ : ∃ wv, wv = w4.alloc (.cells #[.slice (some ⟨g, 0, none⟩) M.length cap, .int .i64 x, .int .i64 l, .int .i64 r] 24) := ⟨_, rfl⟩
  have hbwv : Below w4.heap.size w4 wv := by rw [hwv]; exact (Below.refl _ _).alloc (Nat.le_refl _) _
  have HVB : Hid (Bx wv w4.heap.size (.slice (some ⟨g, 0, none⟩) M.length cap) (.int .i64 x) (.int .i64 l) (.int .i64 r)) := (by rw [hwv]; exact Bx.new _ _ _ _ _ _ : Bx wv w4.heap.size (.slice (some ⟨g, 0, none⟩) M.length cap) (.int .i64 x) (.int .i64 l) (.int .i64 r))
  have HUV := ghid (HU4.out.below hbwv)
  have HXV := ghid (HX4.out.below hbwv)
  have hb0v := below_trans hb04 hbwv
  have HOXV := ghid (HOX4.out.below hbwv)
  obtain ⟨t0, t1, t2, t3, t4⟩ := (HROW.out.below hbwv).at hk
  rw [hS] at t0 t1 t2 t3 t4
  have hki : (k : Int) < (M.length : Int) := by omega
  obtain ⟨hUb, ⟨c0, c1, c2, c3⟩, _⟩ := HU4.out
  go_upto_region 4 with fail
  rw [← hwv]
  clear hwv c0 c1 c2 c3 hUb
  obtain ⟨hVb, ⟨z0, z1, z2, z3⟩, _⟩ := HVB.out
  obtain ⟨hUb, ⟨c0, c1, c2, c3⟩, _⟩ := HUV.out
  go_wp2_with fail
  clear c0 c1 c2 c3 hUb z0 z1 z2 z3 hVb
  clear t0 t1 t2 t3 t4
  refine (HR.out _ (HV.out.below hb0v)).mono ?_
  rintro e w5 ⟨u5, rfl, hown5, hb5⟩
  have HO5 := ghid hown5
  obtain ⟨a5, cap5, hu5, _, _, _⟩ := HO5.out.lies hNl
  subst hu5
  clear hown5
  have HOX5 := ghid (HOXV.out.below hb5)
  have HX5 := ghid (HXV.out.below hb5)
  have hb05 := below_trans hb0v hb5
  clear hb5
  obtain ⟨wq, hwq⟩ : ∃ wq, wq = w5.alloc (.cells #[.slice a5 N.length cap5, .int .i64 x, .int .i64 l, .int .i64 r] 24) := ⟨_, rfl⟩
  have hbwq : Below w5.heap.size w5 wq := by rw [hwq]; exact (Below.refl _ _).alloc (Nat.le_refl _) _
  have HWQ : Hid (Bx wq w5.heap.size (.slice a5 N.length cap5) (.int .i64 x) (.int .i64 l) (.int .i64 r)) := (by rw [hwq]; exact Bx.new _ _ _ _ _ _ : Bx wq w5.heap.size (.slice a5 N.length cap5) (.int .i64 x) (.int .i64 l) (.int .i64 r))
  have HXQ := ghid (HX5.out.below hbwq)
  have HLX : Hid (∀ W, Below wq.heap.size wq W → LiesS W (.slice a3 N.length cap3) N) := (fun W hW => ((HOX5.out.lies hNl).below hbwq).below hW : ∀ W, Below wq.heap.size wq W → LiesS W (.slice a3 N.length cap3) N)
  have HLN : Hid (∀ W, Below wq.heap.size wq W → LiesS W (.slice a5 N.length cap5) N) := (fun W hW => ((HO5.out.lies hNl).below hbwq).below hW : ∀ W, Below wq.heap.size wq W → LiesS W (.slice a5 N.length cap5) N)
  have hb0q := below_trans hb05 hbwq
  go_wp2_with fail
  rw [← hwq]
  clear hwq hbwq
  refine (uploadBegun_yes _).mono ?_
  rintro e wa ⟨rfl, hba⟩
  have hXA := HXQ.out.below hba
  have hWA := HWQ.out.below hba
  obtain ⟨_, ⟨z0, z1, z2, z3⟩, _⟩ := hXA
  obtain ⟨_, ⟨z4, z5, z6, z7⟩, _⟩ := hWA
  have hwa := hba
  clear hba
  go_wp2_with fail
  refine (sameUploads_yes N _ _ x l r _ (HLX.out _ hwa) (HLN.out _ hwa)).mono ?_
  rintro e wd ⟨rfl, hbd⟩
  have hwd : Below wq.heap.size wq wd := below_trans hwa hbd
  clear hbd z0 z1 z2 z3 z4 z5 z6 z7
  go_wp2
  go_ret
  exact ⟨rfl, hb0q.trans (hwd.mono hb0q.size)⟩

theorem uploadEnds_walk (G : List Se) (v : Value) (x l r : Int) (p : ByteArray) (n now : Int) (w : World) (hv : LiesS w v G) (hs : SizedS G) (hp : p.size ≤ 150000000000000) :
    Calls Try.prog 5 #[.agg #[v, .int .i64 x, .int .i64 l, .int .i64 r], .string p, .int .i64 n, .int .i64 now] w fun e w' => e = .returned (.bool true) ∧ Below w.heap.size w w' := by
  by_cases h0 : Pp.fiE G x l r p n now = 0
  · have huc := (Pp.go_zero (Pp.fi_zero h0)).1
    have hl20 := (Pp.bnd_zero (Pp.uch_zero huc).1).1
    have hsw := Pp.swL_len now G
    obtain ⟨M, hM⟩ : ∃ M, Pp.swL now G = M := ⟨_, rfl⟩
    have hid : ¬ Pp.idS (Pp.swL now G) (Pp.mine n p) = -1 := fun e => by
      have h := h0
      rw [Pp.fiE, if_pos (Pp.fi_zero h0), e] at h
      revert h; decide
    obtain ⟨k, hk, hidx⟩ : ∃ k, k < M.length ∧ Pp.idS M (Pp.mine n p) = (k : Int) := by
      rw [← hM]
      rcases Pp.idS_cases (Pp.swL now G) (Pp.mine n p) with ⟨h1, _⟩ | ⟨k, hk, h2, _⟩
      · exact absurd h1 hid
      · exact ⟨k, hk, h2⟩
    have hMl : M.length ≤ 1000 := by rw [← hM]; omega
    have hmem : M[k] ∈ Pp.swL now G := by rw [hM]; exact List.getElem_mem hk
    have hse := Pp.se_zero (Pp.ses_mem.1 (Pp.uch_zero huc).2.1 _ (List.mem_filter.1 hmem).1)
    obtain ⟨hsi1, hsi2⟩ := Pp.inR_yes hse.2.1
    have htx := hse.2.2.2.2
    have hmine : ∀ W, LiesS W v G → Calls Try.prog 15 #[.agg #[v, .int .i64 x, .int .i64 l, .int .i64 r], .string p, .int .i64 n, .int .i64 now] W fun e w' => ∃ u, e = .returned (.tuple #[.agg #[u, .int .i64 x, .int .i64 l, .int .i64 r], .int .i64 (k : Nat), .int .i64 0]) ∧ OwnS W.heap.size w' u M ∧ Below W.heap.size W w' := fun W hW => (mineOf_any G v x l r p n now W hW hs hp).mono fun e w' h => by
      rcases h with ⟨hne, _⟩ | ⟨_, u, k', he, hk', hid', hown, hb⟩
      · exact absurd h0 hne
      · have hkk : k' = k := by rw [hM, hidx] at hid'; omega
        subst hkk
        rw [hM] at hown
        exact ⟨u, he, hown, hb⟩
    have hq : ∀ W, LiesS W v G → Calls Try.prog 13 #[.agg #[v, .int .i64 x, .int .i64 l, .int .i64 r], .string p, .int .i64 n, .int .i64 now] W fun e w' => e = .returned (.tuple #[.int .i64 ((M[k]).tx.size : Int), .int .i64 0]) ∧ Below W.heap.size W w' := fun W hW => by subst hM; exact query_k G v x l r p n now W hW hs hp h0 k hk hidx
    by_cases hsz : ((M[k]).tx.size : Int) = (M[k]).si
    · refine uploadEnds_ok G v x l r p n now w hv M k hk (M[k]) rfl (by omega) (M[k]).tx (M.take k ++ M.drop (k + 1)) (by rw [List.length_append, List.length_take, List.length_drop]; omega) hq (fun W hW => by subst hM; exact finish_k G v x l r p n now W hW hs hp h0 k hk hidx (by omega)) hmine (fun W hW => (finishRef_rest G v x l r p n now W hW hs hp h0 M hM k hk hidx (M[k]) rfl).mono fun e w' h => ?_)
      rcases h with ⟨h1, _⟩ | ⟨_, h2⟩
      · exact absurd hsz h1
      · exact h2
    · refine uploadEnds_mid G v x l r p n now w hv M k hk (M[k]) rfl (by omega) hq (fun W hW => by subst hM; exact finish_e4 G v x l r p n now W hW hs hp h0 k hk hidx (by omega)) hmine (fun W hW => (finishRef_rest G v x l r p n now W hW hs hp h0 M hM k hk hidx (M[k]) rfl).mono fun e w' h => ?_)
      rcases h with ⟨_, h2⟩ | ⟨h1, _⟩
      · exact h2
      · exact absurd h1 hsz
  · exact uploadEnds_err G v x l r p n now w hv (Pp.fiE G x l r p n now) (by simpa using h0) (fun W hW => query_e1 G v x l r p n now W hW hs hp h0) (fun W hW => finish_e1 G v x l r p n now W hW hs hp h0) (fun W hW => (mineOf_any G v x l r p n now W hW hs hp).mono fun e w' h => by
      rcases h with ⟨_, h2⟩ | ⟨hh, _⟩
      · exact h2
      · exact absurd hh h0) (fun W hW => finishRef_e1 G v x l r p n now W hW hs hp h0)
end Go.Proofs.Ytnaedemkpiagmaa
