/- What the reference's MineOf answers. -/
import Derived.Test.YtnaedemkpiagmaaU19
import Derived.Test.YtnaedemkpiagmaaU17
import Derived.Deep.RegionHeld3
set_option linter.unusedSimpArgs false
set_option linter.unusedVariables false
namespace Go.Proofs.Ytnaedemkpiagmaa
open Go.RowKit

namespace Pp
theorem go_split (G : List Se) (x l r now : Int) (p : ByteArray) : (¬ bgE G x l r now = 0 ∧ goE G x l r now [p] = bgE G x l r now) ∨ (bgE G x l r now = 0 ∧ nameB p.data.toList = false ∧ goE G x l r now [p] = 1) ∨ (bgE G x l r now = 0 ∧ nameB p.data.toList = true ∧ goE G x l r now [p] = 0) := by
  rcases go_cases G x l r now [p] with ⟨h0, hE⟩ | ⟨h0, h1, hE⟩ | ⟨h0, h1, h2, hE⟩ | ⟨h0, h1, h2, hE⟩
  · have e : bgE G x l r now = uchE G x l r := by rw [bgE, if_neg h0]
    left; rw [e]; exact ⟨h0, hE⟩
  · have e : bgE G x l r now = 3 := by rw [bgE, if_pos h0, h1]; rfl
    left; rw [e]; exact ⟨by decide, hE⟩
  · have e : bgE G x l r now = 0 := by rw [bgE, if_pos h0, h1]; rfl
    right; left
    refine ⟨e, ?_, hE⟩
    cases hh : nameB p.data.toList with
    | false => rfl
    | true => rw [nmsE1 hh] at h2; cases h2
  · have e : bgE G x l r now = 0 := by rw [bgE, if_pos h0, h1]; rfl
    right; right
    refine ⟨e, ?_, hE⟩
    cases hh : nameB p.data.toList with
    | true => rfl
    | false => rw [nmsE1 hh] at h2; cases h2
theorem mine_two (n : Int) (p : ByteArray) : mine2 p n = mine n p := by
  funext s; rw [mine2, mine, Bool.and_comm]
end Pp

set_option maxRecDepth 100000 in
set_option maxHeartbeats 4000000 in
theorem mineOf_e0 (G : List Se) (v : Value) (x l r : Int) (p : ByteArray) (n now : Int) (w : World) (hv : LiesS w v G) (hs : SizedS G) (hp : p.size ≤ 150000000000000) (h0 : ¬ Pp.bgE G x l r now = 0) :
    Calls Try.prog 15 #[.agg #[v, .int .i64 x, .int .i64 l, .int .i64 r], .string p, .int .i64 n, .int .i64 now] w fun e w' => ∃ a m c, e = .returned (.tuple #[.agg #[.slice a m c, .int .i64 x, .int .i64 l, .int .i64 r], .int .i64 0, .int .i64 (Pp.bgE G x l r now)]) ∧ Below w.heap.size w w' := by
  have HV := ghid hv
  have HS := ghid hs
  obtain ⟨av, capv, rfl, _⟩ := hv
  clear hs
  obtain ⟨w3, hw3⟩ : ∃ w3, w3 = (w.alloc (.cells #[.slice av G.length capv, .int .i64 x, .int .i64 l, .int .i64 r] 24)).alloc (.cells #[.slice none 0 0, .int .i64 0, .int .i64 0, .int .i64 0] 24) := ⟨_, rfl⟩
  have B3 : Hid (Below w.heap.size w w3) := (by rw [hw3]; exact ((Below.refl _ _).alloc (Nat.le_refl _) _).alloc (by simp) _ : Below w.heap.size w w3)
  have HU3 : Hid (Bx w3 w.heap.size (.slice av G.length capv) (.int .i64 x) (.int .i64 l) (.int .i64 r)) := (by rw [hw3]; exact (Bx.new w _ _ _ _ _).below ((Below.refl _ _).alloc (Nat.le_refl _) _) : Bx w3 w.heap.size (.slice av G.length capv) (.int .i64 x) (.int .i64 l) (.int .i64 r))
  have HR3 : Hid (Bx w3 (w.heap.size + 1) (.slice none 0 0) (.int .i64 0) (.int .i64 0) (.int .i64 0)) := (by
    have := Bx.new (w.alloc (.cells #[.slice av G.length capv, .int .i64 x, .int .i64 l, .int .i64 r] 24)) (.slice none 0 0) (.int .i64 0) (.int .i64 0) (.int .i64 0) 24
    rw [hw3]; simpa using this : Bx w3 (w.heap.size + 1) (.slice none 0 0) (.int .i64 0) (.int .i64 0) (.int .i64 0))
  have hsz3 : w3.heap.size = w.heap.size + 2 := by rw [hw3]; simp
  have hz : (Pp.bgE G x l r now == 0) = false := by simpa using h0
  clear h0
  go_enter Try.func15, Try.ntmps15
  go_wp2_with fail
  rw [← hw3]
  clear hw3
  refine (beginUpload_any G _ x l r now _ (HV.out.below B3.out) HS.out).mono ?_
  rintro e w4 ⟨rfl, hb4⟩
  have hb04 := B3.out.trans (hb4.mono B3.out.size)
  have HU4 := ghid (HU3.out.below hb4)
  have HR4 := ghid (HR3.out.below hb4)
  have hsz4 := hb4.size
  clear hb4
  obtain ⟨hUb, ⟨u0, u1, u2, u3⟩, g0, g1, g2, g3⟩ := HU4.out
  obtain ⟨hRb, ⟨c0, c1, c2, c3⟩, f0, f1, f2, f3⟩ := HR4.out
  generalize hy : Pp.bgE G x l r now = y at *
  go_wp2_with fail
  refine bodyPost_ret (v := .tuple #[.agg #[.slice av G.length capv, .int .i64 x, .int .i64 l, .int .i64 r], .int .i64 0, .int .i64 y]) (by simp [results, Try.results15, go_sem, c0, c1, c2, c3, u0, u1, u2, u3, hRb, hUb]) rfl ⟨_, _, _, by rw [hy], ?_⟩
  exact below_set4 (b := w.heap.size + 1) hb04 (by omega)

set_option maxRecDepth 100000 in
set_option maxHeartbeats 4000000 in
theorem mineOf_e1 (G : List Se) (v : Value) (x l r : Int) (p : ByteArray) (n now : Int) (w : World) (hv : LiesS w v G) (hs : SizedS G) (hp : p.size ≤ 150000000000000) (h0 : Pp.bgE G x l r now = 0) (hn : Pp.nameB p.data.toList = false) :
    Calls Try.prog 15 #[.agg #[v, .int .i64 x, .int .i64 l, .int .i64 r], .string p, .int .i64 n, .int .i64 now] w fun e w' => ∃ a m c, e = .returned (.tuple #[.agg #[.slice a m c, .int .i64 x, .int .i64 l, .int .i64 r], .int .i64 0, .int .i64 1]) ∧ Below w.heap.size w w' := by
  have HV := ghid hv
  have HS := ghid hs
  obtain ⟨av, capv, rfl, _⟩ := hv
  clear hs
  obtain ⟨w3, hw3⟩ : ∃ w3, w3 = (w.alloc (.cells #[.slice av G.length capv, .int .i64 x, .int .i64 l, .int .i64 r] 24)).alloc (.cells #[.slice none 0 0, .int .i64 0, .int .i64 0, .int .i64 0] 24) := ⟨_, rfl⟩
  have B3 : Hid (Below w.heap.size w w3) := (by rw [hw3]; exact ((Below.refl _ _).alloc (Nat.le_refl _) _).alloc (by simp) _ : Below w.heap.size w w3)
  have HU3 : Hid (Bx w3 w.heap.size (.slice av G.length capv) (.int .i64 x) (.int .i64 l) (.int .i64 r)) := (by rw [hw3]; exact (Bx.new w _ _ _ _ _).below ((Below.refl _ _).alloc (Nat.le_refl _) _) : Bx w3 w.heap.size (.slice av G.length capv) (.int .i64 x) (.int .i64 l) (.int .i64 r))
  have HR3 : Hid (Bx w3 (w.heap.size + 1) (.slice none 0 0) (.int .i64 0) (.int .i64 0) (.int .i64 0)) := (by
    have := Bx.new (w.alloc (.cells #[.slice av G.length capv, .int .i64 x, .int .i64 l, .int .i64 r] 24)) (.slice none 0 0) (.int .i64 0) (.int .i64 0) (.int .i64 0) 24
    rw [hw3]; simpa using this : Bx w3 (w.heap.size + 1) (.slice none 0 0) (.int .i64 0) (.int .i64 0) (.int .i64 0))
  have hsz3 : w3.heap.size = w.heap.size + 2 := by rw [hw3]; simp
  have H0 := ghid h0
  have HNM := ghid hn
  clear h0 hn
  go_enter Try.func15, Try.ntmps15
  go_wp2_with fail
  rw [← hw3]
  clear hw3
  refine (beginUpload_any G _ x l r now _ (HV.out.below B3.out) HS.out).mono ?_
  rintro e w4 ⟨rfl, hb4⟩
  have hb04 := B3.out.trans (hb4.mono B3.out.size)
  have HU4 := ghid (HU3.out.below hb4)
  have HR4 := ghid (HR3.out.below hb4)
  have hsz4 := hb4.size
  clear hb4
  obtain ⟨hUb, ⟨u0, u1, u2, u3⟩, g0, g1, g2, g3⟩ := HU4.out
  obtain ⟨hRb, ⟨c0, c1, c2, c3⟩, f0, f1, f2, f3⟩ := HR4.out
  rw [H0.out]
  go_wp2_with fail
  refine (rIsName_any p _ hp).mono ?_
  rintro e wn ⟨rfl, hw⟩
  rw [hw, HNM.out]
  clear hw wn
  go_wp2_with fail
  refine bodyPost_ret (v := .tuple #[.agg #[.slice av G.length capv, .int .i64 x, .int .i64 l, .int .i64 r], .int .i64 0, .int .i64 1]) (by simp [results, Try.results15, go_sem, c0, c1, c2, c3, u0, u1, u2, u3, hRb, hUb]) rfl ⟨_, _, _, rfl, ?_⟩
  exact below_set4 (b := w.heap.size + 1) hb04 (by omega)

set_option maxRecDepth 100000 in
set_option maxHeartbeats 4000000 in
theorem mineOf_e5 (G : List Se) (v : Value) (x l r : Int) (p : ByteArray) (n now : Int) (w : World) (hv : LiesS w v G) (hs : SizedS G) (hp : p.size ≤ 150000000000000) (h0 : Pp.bgE G x l r now = 0) (hn : Pp.nameB p.data.toList = true) (hid : Pp.idS (Pp.swL now G) (Pp.mine n p) = -1) :
    Calls Try.prog 15 #[.agg #[v, .int .i64 x, .int .i64 l, .int .i64 r], .string p, .int .i64 n, .int .i64 now] w fun e w' => ∃ a m c, e = .returned (.tuple #[.agg #[.slice a m c, .int .i64 x, .int .i64 l, .int .i64 r], .int .i64 0, .int .i64 5]) ∧ Below w.heap.size w w' := by
  have HV := ghid hv
  have HS := ghid hs
  obtain ⟨av, capv, rfl, _⟩ := hv
  clear hs
  obtain ⟨w3, hw3⟩ : ∃ w3, w3 = (w.alloc (.cells #[.slice av G.length capv, .int .i64 x, .int .i64 l, .int .i64 r] 24)).alloc (.cells #[.slice none 0 0, .int .i64 0, .int .i64 0, .int .i64 0] 24) := ⟨_, rfl⟩
  have B3 : Hid (Below w.heap.size w w3) := (by rw [hw3]; exact ((Below.refl _ _).alloc (Nat.le_refl _) _).alloc (by simp) _ : Below w.heap.size w w3)
  have HU3 : Hid (Bx w3 w.heap.size (.slice av G.length capv) (.int .i64 x) (.int .i64 l) (.int .i64 r)) := (by rw [hw3]; exact (Bx.new w _ _ _ _ _).below ((Below.refl _ _).alloc (Nat.le_refl _) _) : Bx w3 w.heap.size (.slice av G.length capv) (.int .i64 x) (.int .i64 l) (.int .i64 r))
  have HR3 : Hid (Bx w3 (w.heap.size + 1) (.slice none 0 0) (.int .i64 0) (.int .i64 0) (.int .i64 0)) := (by
    have := Bx.new (w.alloc (.cells #[.slice av G.length capv, .int .i64 x, .int .i64 l, .int .i64 r] 24)) (.slice none 0 0) (.int .i64 0) (.int .i64 0) (.int .i64 0) 24
    rw [hw3]; simpa using this : Bx w3 (w.heap.size + 1) (.slice none 0 0) (.int .i64 0) (.int .i64 0) (.int .i64 0))
  have hsz3 : w3.heap.size = w.heap.size + 2 := by rw [hw3]; simp
  have H0 := ghid h0
  have HNM := ghid hn
  have hgo : Pp.goE G x l r now [] = 0 := by rw [Pp.go_bg]; exact h0
  have hl20 := (Pp.bnd_zero (Pp.uch_zero (Pp.go_zero hgo).1).1).1
  have hsw := Pp.swL_len now G
  rw [← Pp.mine_two] at hid
  have HID := ghid hid
  clear h0 hn hgo hid
  go_enter Try.func15, Try.ntmps15
  go_wp2_with fail
  rw [← hw3]
  clear hw3
  refine (beginUpload_any G _ x l r now _ (HV.out.below B3.out) HS.out).mono ?_
  rintro e w4 ⟨rfl, hb4⟩
  have hb04 := B3.out.trans (hb4.mono B3.out.size)
  have HU4 := ghid (HU3.out.below hb4)
  have HR4 := ghid (HR3.out.below hb4)
  have hsz4 := hb4.size
  clear hb4
  obtain ⟨hUb, ⟨u0, u1, u2, u3⟩, g0, g1, g2, g3⟩ := HU4.out
  obtain ⟨hRb, ⟨c0, c1, c2, c3⟩, f0, f1, f2, f3⟩ := HR4.out
  rw [H0.out]
  go_wp2_with fail
  refine (rIsName_any p _ hp).mono ?_
  rintro e wn ⟨rfl, hw⟩
  rw [hw, HNM.out]
  clear hw wn
  go_wp2_with fail
  refine (sweepOf_any G _ x l r now _ (HV.out.below hb04) (by omega)).mono ?_
  rintro e w5 ⟨u5, rfl, hown, hb5⟩
  have hb05 := below_trans hb04 hb5
  have HU5 := ghid (HU4.out.below hb5)
  have HR5 := ghid (HR4.out.below hb5)
  have hsz5 := hb5.size
  have HOWN := ghid hown
  clear hb5 hown u0 u1 u2 u3 g0 g1 g2 g3 c0 c1 c2 c3 f0 f1 f2 f3 hUb hRb
  obtain ⟨a5, cap5, hu5, hc5, _, _⟩ := HOWN.out.lies (by omega)
  subst hu5
  obtain ⟨wq, hwq⟩ : ∃ wq, wq = ((((w5.setCell ⟨w.heap.size, 0, none⟩ (.slice a5 (Pp.swL now G).length cap5)).setCell ⟨w.heap.size, 1, none⟩ (.int .i64 x)).setCell ⟨w.heap.size, 2, none⟩ (.int .i64 l)).setCell ⟨w.heap.size, 3, none⟩ (.int .i64 r)) := ⟨_, rfl⟩
  have hnbq : w5.grownBy wq (some w.heap.size) := by rw [hwq]; exact Nb.set4 _ _ _ _ _ _
  have hUQ : Bx wq w.heap.size (.slice a5 (Pp.swL now G).length cap5) (.int .i64 x) (.int .i64 l) (.int .i64 r) := by
    obtain ⟨hWb, ⟨d0, d1, d2, d3⟩, e0, e1, e2, e3⟩ := HU5.out
    rw [hwq]
    exact ⟨by simpa using hWb, ⟨by simp [go_sem, d0, d1, d2, d3], by simp [go_sem, d0, d1, d2, d3], by simp [go_sem, d0, d1, d2, d3], by simp [go_sem, d0, d1, d2, d3]⟩, by simpa using e0, by simpa using e1, by simpa using e2, by simpa using e3⟩
  have HUQ := ghid hUQ
  have HRQ := ghid (HR5.out.nb hnbq (by omega))
  have HOQ := ghid (HOWN.out.nb hnbq (by omega))
  have hb0q : Below w.heap.size w wq := hb05.trans (Nb.to hnbq hb05.size (Nat.le_refl _))
  have hszq := hnbq.size
  obtain ⟨hUb, ⟨d0, d1, d2, d3⟩, e0, e1, e2, e3⟩ := HU5.out
  go_wp2_with fail
  rw [← hwq]
  clear hwq hnbq d0 d1 d2 d3 e0 e1 e2 e3 hUb hUQ
  refine (sessionAt_any (Pp.swL now G) _ x l r p n _ (HOQ.out.lies (by omega))).mono ?_
  rintro e w6 ⟨rfl, hb6⟩
  rw [HID.out]
  have hb06 := hb0q.trans (hb6.mono hb0q.size)
  have HO6 := ghid (HOQ.out.below hb6)
  obtain ⟨hUb, ⟨u0, u1, u2, u3⟩, g0, g1, g2, g3⟩ := HUQ.out.below hb6
  obtain ⟨hRb, ⟨c0, c1, c2, c3⟩, f0, f1, f2, f3⟩ := HRQ.out.below hb6
  have hsz6 := hb6.size
  clear hb6
  go_wp2_with fail
  refine bodyPost_ret (v := .tuple #[.agg #[.slice a5 (Pp.swL now G).length cap5, .int .i64 x, .int .i64 l, .int .i64 r], .int .i64 0, .int .i64 5]) (by simp [results, Try.results15, go_sem, c0, c1, c2, c3, u0, u1, u2, u3, hRb, hUb]) rfl ⟨_, _, _, rfl, ?_⟩
  exact below_set4 (b := w.heap.size + 1) hb06 (by omega)

set_option maxRecDepth 100000 in
set_option maxHeartbeats 4000000 in
theorem mineOf_k (G : List Se) (v : Value) (x l r : Int) (p : ByteArray) (n now : Int) (w : World) (hv : LiesS w v G) (hs : SizedS G) (hp : p.size ≤ 150000000000000) (h0 : Pp.bgE G x l r now = 0) (hn : Pp.nameB p.data.toList = true) (k : Nat) (hid : Pp.idS (Pp.swL now G) (Pp.mine n p) = (k : Int)) :
    Calls Try.prog 15 #[.agg #[v, .int .i64 x, .int .i64 l, .int .i64 r], .string p, .int .i64 n, .int .i64 now] w fun e w' => ∃ u, e = .returned (.tuple #[.agg #[u, .int .i64 x, .int .i64 l, .int .i64 r], .int .i64 (k : Int), .int .i64 0]) ∧ OwnS w.heap.size w' u (Pp.swL now G) ∧ Below w.heap.size w w' := by
  have HV := ghid hv
  have HS := ghid hs
  obtain ⟨av, capv, rfl, _⟩ := hv
  clear hs
  obtain ⟨w3, hw3⟩ : ∃ w3, w3 = (w.alloc (.cells #[.slice av G.length capv, .int .i64 x, .int .i64 l, .int .i64 r] 24)).alloc (.cells #[.slice none 0 0, .int .i64 0, .int .i64 0, .int .i64 0] 24) := ⟨_, rfl⟩
  have B3 : Hid (Below w.heap.size w w3) := (by rw [hw3]; exact ((Below.refl _ _).alloc (Nat.le_refl _) _).alloc (by simp) _ : Below w.heap.size w w3)
  have HU3 : Hid (Bx w3 w.heap.size (.slice av G.length capv) (.int .i64 x) (.int .i64 l) (.int .i64 r)) := (by rw [hw3]; exact (Bx.new w _ _ _ _ _).below ((Below.refl _ _).alloc (Nat.le_refl _) _) : Bx w3 w.heap.size (.slice av G.length capv) (.int .i64 x) (.int .i64 l) (.int .i64 r))
  have HR3 : Hid (Bx w3 (w.heap.size + 1) (.slice none 0 0) (.int .i64 0) (.int .i64 0) (.int .i64 0)) := (by
    have := Bx.new (w.alloc (.cells #[.slice av G.length capv, .int .i64 x, .int .i64 l, .int .i64 r] 24)) (.slice none 0 0) (.int .i64 0) (.int .i64 0) (.int .i64 0) 24
    rw [hw3]; simpa using this : Bx w3 (w.heap.size + 1) (.slice none 0 0) (.int .i64 0) (.int .i64 0) (.int .i64 0))
  have hsz3 : w3.heap.size = w.heap.size + 2 := by rw [hw3]; simp
  have hkk : ¬ (k : Int) < 0 := by omega
  have H0 := ghid h0
  have HNM := ghid hn
  have hgo : Pp.goE G x l r now [] = 0 := by rw [Pp.go_bg]; exact h0
  have hl20 := (Pp.bnd_zero (Pp.uch_zero (Pp.go_zero hgo).1).1).1
  have hsw := Pp.swL_len now G
  rw [← Pp.mine_two] at hid
  have HID := ghid hid
  clear h0 hn hgo hid
  go_enter Try.func15, Try.ntmps15
  go_wp2_with fail
  rw [← hw3]
  clear hw3
  refine (beginUpload_any G _ x l r now _ (HV.out.below B3.out) HS.out).mono ?_
  rintro e w4 ⟨rfl, hb4⟩
  have hb04 := B3.out.trans (hb4.mono B3.out.size)
  have HU4 := ghid (HU3.out.below hb4)
  have HR4 := ghid (HR3.out.below hb4)
  have hsz4 := hb4.size
  clear hb4
  obtain ⟨hUb, ⟨u0, u1, u2, u3⟩, g0, g1, g2, g3⟩ := HU4.out
  obtain ⟨hRb, ⟨c0, c1, c2, c3⟩, f0, f1, f2, f3⟩ := HR4.out
  rw [H0.out]
  go_wp2_with fail
  refine (rIsName_any p _ hp).mono ?_
  rintro e wn ⟨rfl, hw⟩
  rw [hw, HNM.out]
  clear hw wn
  go_wp2_with fail
  refine (sweepOf_any G _ x l r now _ (HV.out.below hb04) (by omega)).mono ?_
  rintro e w5 ⟨u5, rfl, hown, hb5⟩
  have hb05 := below_trans hb04 hb5
  have HU5 := ghid (HU4.out.below hb5)
  have HR5 := ghid (HR4.out.below hb5)
  have hsz5 := hb5.size
  have HOWN := ghid hown
  clear hb5 hown u0 u1 u2 u3 g0 g1 g2 g3 c0 c1 c2 c3 f0 f1 f2 f3 hUb hRb
  obtain ⟨a5, cap5, hu5, hc5, _, _⟩ := HOWN.out.lies (by omega)
  subst hu5
  obtain ⟨wq, hwq⟩ : ∃ wq, wq = ((((w5.setCell ⟨w.heap.size, 0, none⟩ (.slice a5 (Pp.swL now G).length cap5)).setCell ⟨w.heap.size, 1, none⟩ (.int .i64 x)).setCell ⟨w.heap.size, 2, none⟩ (.int .i64 l)).setCell ⟨w.heap.size, 3, none⟩ (.int .i64 r)) := ⟨_, rfl⟩
  have hnbq : w5.grownBy wq (some w.heap.size) := by rw [hwq]; exact Nb.set4 _ _ _ _ _ _
  have hUQ : Bx wq w.heap.size (.slice a5 (Pp.swL now G).length cap5) (.int .i64 x) (.int .i64 l) (.int .i64 r) := by
    obtain ⟨hWb, ⟨d0, d1, d2, d3⟩, e0, e1, e2, e3⟩ := HU5.out
    rw [hwq]
    exact ⟨by simpa using hWb, ⟨by simp [go_sem, d0, d1, d2, d3], by simp [go_sem, d0, d1, d2, d3], by simp [go_sem, d0, d1, d2, d3], by simp [go_sem, d0, d1, d2, d3]⟩, by simpa using e0, by simpa using e1, by simpa using e2, by simpa using e3⟩
  have HUQ := ghid hUQ
  have HRQ := ghid (HR5.out.nb hnbq (by omega))
  have HOQ := ghid (HOWN.out.nb hnbq (by omega))
  have hb0q : Below w.heap.size w wq := hb05.trans (Nb.to hnbq hb05.size (Nat.le_refl _))
  have hszq := hnbq.size
  obtain ⟨hUb, ⟨d0, d1, d2, d3⟩, e0, e1, e2, e3⟩ := HU5.out
  go_wp2_with fail
  rw [← hwq]
  clear hwq hnbq d0 d1 d2 d3 e0 e1 e2 e3 hUb hUQ
  refine (sessionAt_any (Pp.swL now G) _ x l r p n _ (HOQ.out.lies (by omega))).mono ?_
  rintro e w6 ⟨rfl, hb6⟩
  rw [HID.out]
  have hb06 := hb0q.trans (hb6.mono hb0q.size)
  have HO6 := ghid (HOQ.out.below hb6)
  obtain ⟨hUb, ⟨u0, u1, u2, u3⟩, g0, g1, g2, g3⟩ := HUQ.out.below hb6
  obtain ⟨hRb, ⟨c0, c1, c2, c3⟩, f0, f1, f2, f3⟩ := HRQ.out.below hb6
  have hsz6 := hb6.size
  clear hb6
  go_wp2_with fail
  refine bodyPost_ret (v := .tuple #[.agg #[.slice a5 (Pp.swL now G).length cap5, .int .i64 x, .int .i64 l, .int .i64 r], .int .i64 k, .int .i64 0]) (by simp [results, Try.results15, go_sem, c0, c1, c2, c3, u0, u1, u2, u3, hRb, hUb]) rfl ⟨_, rfl, ?_, ?_⟩
  · exact (HO6.out.nb (Nb.set4 _ (w.heap.size + 1) _ _ _ _) (by omega)).mono (by omega)
  · exact below_set4 (b := w.heap.size + 1) hb06 (by omega)

theorem mineOf_any (G : List Se) (v : Value) (x l r : Int) (p : ByteArray) (n now : Int) (w : World) (hv : LiesS w v G) (hs : SizedS G) (hp : p.size ≤ 150000000000000) :
    Calls Try.prog 15 #[.agg #[v, .int .i64 x, .int .i64 l, .int .i64 r], .string p, .int .i64 n, .int .i64 now] w fun e w' => (¬ Pp.fiE G x l r p n now = 0 ∧ ∃ a m c, e = .returned (.tuple #[.agg #[.slice a m c, .int .i64 x, .int .i64 l, .int .i64 r], .int .i64 0, .int .i64 (Pp.fiE G x l r p n now)]) ∧ Below w.heap.size w w') ∨
      (Pp.fiE G x l r p n now = 0 ∧ ∃ u k, e = .returned (.tuple #[.agg #[u, .int .i64 x, .int .i64 l, .int .i64 r], .int .i64 (k : Nat), .int .i64 0]) ∧ k < (Pp.swL now G).length ∧ Pp.idS (Pp.swL now G) (Pp.mine n p) = k ∧ OwnS w.heap.size w' u (Pp.swL now G) ∧ Below w.heap.size w w') := by
  rcases Pp.go_split G x l r now p with ⟨h0, hE⟩ | ⟨h0, hn, hE⟩ | ⟨h0, hn, hE⟩
  · have e : Pp.fiE G x l r p n now = Pp.bgE G x l r now := by rw [Pp.fiE, if_neg (by rw [hE]; exact h0), hE]
    rw [e]
    exact (mineOf_e0 G v x l r p n now w hv hs hp h0).mono fun e w' h => Or.inl ⟨h0, h⟩
  · have e : Pp.fiE G x l r p n now = 1 := by rw [Pp.fiE, if_neg (by rw [hE]; decide), hE]
    rw [e]
    exact (mineOf_e1 G v x l r p n now w hv hs hp h0 hn).mono fun e w' h => Or.inl ⟨by decide, h⟩
  · rcases Pp.idS_cases (Pp.swL now G) (Pp.mine n p) with ⟨hi, _⟩ | ⟨k, hk, hi, _⟩
    · have e : Pp.fiE G x l r p n now = 5 := by rw [Pp.fiE, if_pos hE, hi]; rfl
      rw [e]
      exact (mineOf_e5 G v x l r p n now w hv hs hp h0 hn hi).mono fun e w' h => Or.inl ⟨by decide, h⟩
    · have e : Pp.fiE G x l r p n now = 0 := by rw [Pp.fiE, if_pos hE, hi, if_neg (by omega)]
      rw [e]
      refine (mineOf_k G v x l r p n now w hv hs hp h0 hn k hi).mono fun e w' h => Or.inr ⟨rfl, ?_⟩
      obtain ⟨u, he, ho, hb⟩ := h
      exact ⟨u, k, he, hk, hi, ho, hb⟩
end Go.Proofs.Ytnaedemkpiagmaa
