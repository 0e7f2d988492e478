/- What the reference's OpenUpload answers, where something is wrong ahead of the sessions. -/
import Derived.Test.YtnaedemkpiagmaaU17
import Derived.Deep.RegionHeld3
set_option linter.unusedSimpArgs false
set_option linter.unusedVariables false
namespace Go.Proofs.Ytnaedemkpiagmaa
open Go.RowKit

set_option maxRecDepth 100000 in
set_option maxHeartbeats 4000000 in
theorem openRef_e0 (G : List Se) (v : Value) (x l r : Int) (p : ByteArray) (size now : Int) (w : World) (hv : LiesS w v G) (hs : SizedS G) (hp : p.size ≤ 150000000000000) (h0 : ¬ Pp.bgE G x l r now = 0) :
    Calls Try.prog 8 #[.agg #[v, .int .i64 x, .int .i64 l, .int .i64 r], .string p, .int .i64 size, .int .i64 now] w fun e w' => e = .returned (.tuple #[.agg #[.slice none 0 0, .int .i64 0, .int .i64 0, .int .i64 0], .int .i64 0, .int .i64 (Pp.bgE G x l r now)]) ∧ Below w.heap.size w w' := by
  have HV := ghid hv
  have HS := ghid hs
  obtain ⟨av, capv, rfl, _⟩ := hv
  clear hs
  obtain ⟨w3, hw3⟩ : ∃ w3, w3 = (w.alloc (.cells #[.slice av G.length capv, .int .i64 x, .int .i64 l, .int .i64 r] 24)).alloc (.cells #[.slice none 0 0, .int .i64 0, .int .i64 0, .int .i64 0] 24) := ⟨_, rfl⟩
  have B3 : Hid (Below w.heap.size w w3) := (by rw [hw3]; exact ((Below.refl _ _).alloc (Nat.le_refl _) _).alloc (by simp) _ : Below w.heap.size w w3)
  have HU3 : Hid (Bx w3 w.heap.size (.slice av G.length capv) (.int .i64 x) (.int .i64 l) (.int .i64 r)) := (by rw [hw3]; exact (Bx.new w _ _ _ _ _).below ((Below.refl _ _).alloc (Nat.le_refl _) _) : Bx w3 w.heap.size (.slice av G.length capv) (.int .i64 x) (.int .i64 l) (.int .i64 r))
  have HR3 : Hid (Bx w3 (w.heap.size + 1) (.slice none 0 0) (.int .i64 0) (.int .i64 0) (.int .i64 0)) := (by
    have := Bx.new (w.alloc (.cells #[.slice av G.length capv, .int .i64 x, .int .i64 l, .int .i64 r] 24)) (.slice none 0 0) (.int .i64 0) (.int .i64 0) (.int .i64 0) 24
    rw [hw3]; simpa using this : Bx w3 (w.heap.size + 1) (.slice none 0 0) (.int .i64 0) (.int .i64 0) (.int .i64 0))
  have hsz3 : w3.heap.size = w.heap.size + 2 := by rw [hw3]; simp
  have HNZ := ghid h0
  have hz : (Pp.bgE G x l r now == 0) = false := by simpa using h0
  clear h0
  go_enter Try.func8, Try.ntmps8
  go_wp2_with fail
  rw [← hw3]
  clear hw3
  refine (beginUpload_any G _ x l r now _ (HV.out.below B3.out) HS.out).mono ?_
  rintro e w4 ⟨rfl, hb4⟩
  have hb04 := B3.out.trans (hb4.mono B3.out.size)
  have HU4 := ghid (HU3.out.below hb4)
  have HR4 := ghid (HR3.out.below hb4)
  have hsz4 := hb4.size
  clear hb4
  obtain ⟨hUb, ⟨u0, u1, u2, u3⟩, g0, g1, g2, g3⟩ := HU4.out
  obtain ⟨hRb, ⟨c0, c1, c2, c3⟩, f0, f1, f2, f3⟩ := HR4.out
  generalize hy : Pp.bgE G x l r now = y at *
  go_wp2_with fail
  refine bodyPost_ret (v := .tuple #[.agg #[.slice none 0 0, .int .i64 0, .int .i64 0, .int .i64 0], .int .i64 0, .int .i64 y]) (by simp [results, Try.results8, go_sem, c0, c1, c2, c3, hRb]) rfl ⟨by rw [hy], ?_⟩
  exact below_set4 (b := w.heap.size + 1) hb04 (by omega)

set_option maxRecDepth 100000 in
set_option maxHeartbeats 4000000 in
theorem openRef_e1 (G : List Se) (v : Value) (x l r : Int) (p : ByteArray) (size now : Int) (w : World) (hv : LiesS w v G) (hs : SizedS G) (hp : p.size ≤ 150000000000000) (h0 : Pp.bgE G x l r now = 0) (hn : Pp.nameB p.data.toList = false) :
    Calls Try.prog 8 #[.agg #[v, .int .i64 x, .int .i64 l, .int .i64 r], .string p, .int .i64 size, .int .i64 now] w fun e w' => e = .returned (.tuple #[.agg #[.slice none 0 0, .int .i64 0, .int .i64 0, .int .i64 0], .int .i64 0, .int .i64 1]) ∧ Below w.heap.size w w' := by
  have HV := ghid hv
  have HS := ghid hs
  obtain ⟨av, capv, rfl, _⟩ := hv
  clear hs
  obtain ⟨w3, hw3⟩ : ∃ w3, w3 = (w.alloc (.cells #[.slice av G.length capv, .int .i64 x, .int .i64 l, .int .i64 r] 24)).alloc (.cells #[.slice none 0 0, .int .i64 0, .int .i64 0, .int .i64 0] 24) := ⟨_, rfl⟩
  have B3 : Hid (Below w.heap.size w w3) := (by rw [hw3]; exact ((Below.refl _ _).alloc (Nat.le_refl _) _).alloc (by simp) _ : Below w.heap.size w w3)
  have HU3 : Hid (Bx w3 w.heap.size (.slice av G.length capv) (.int .i64 x) (.int .i64 l) (.int .i64 r)) := (by rw [hw3]; exact (Bx.new w _ _ _ _ _).below ((Below.refl _ _).alloc (Nat.le_refl _) _) : Bx w3 w.heap.size (.slice av G.length capv) (.int .i64 x) (.int .i64 l) (.int .i64 r))
  have HR3 : Hid (Bx w3 (w.heap.size + 1) (.slice none 0 0) (.int .i64 0) (.int .i64 0) (.int .i64 0)) := (by
    have := Bx.new (w.alloc (.cells #[.slice av G.length capv, .int .i64 x, .int .i64 l, .int .i64 r] 24)) (.slice none 0 0) (.int .i64 0) (.int .i64 0) (.int .i64 0) 24
    rw [hw3]; simpa using this : Bx w3 (w.heap.size + 1) (.slice none 0 0) (.int .i64 0) (.int .i64 0) (.int .i64 0))
  have hsz3 : w3.heap.size = w.heap.size + 2 := by rw [hw3]; simp
  have H0 := ghid h0
  have HNM := ghid hn
  clear h0 hn
  go_enter Try.func8, Try.ntmps8
  go_wp2_with fail
  rw [← hw3]
  clear hw3
  refine (beginUpload_any G _ x l r now _ (HV.out.below B3.out) HS.out).mono ?_
  rintro e w4 ⟨rfl, hb4⟩
  have hb04 := B3.out.trans (hb4.mono B3.out.size)
  have HU4 := ghid (HU3.out.below hb4)
  have HR4 := ghid (HR3.out.below hb4)
  have hsz4 := hb4.size
  clear hb4
  obtain ⟨hUb, ⟨u0, u1, u2, u3⟩, g0, g1, g2, g3⟩ := HU4.out
  obtain ⟨hRb, ⟨c0, c1, c2, c3⟩, f0, f1, f2, f3⟩ := HR4.out
  rw [H0.out]
  go_wp2_with fail
  refine (rIsName_any p _ hp).mono ?_
  rintro e wn ⟨rfl, hw⟩
  rw [hw, HNM.out]
  clear hw wn
  go_wp2_with fail
  refine bodyPost_ret (v := .tuple #[.agg #[.slice none 0 0, .int .i64 0, .int .i64 0, .int .i64 0], .int .i64 0, .int .i64 1]) (by simp [results, Try.results8, go_sem, c0, c1, c2, c3, hRb]) rfl ⟨rfl, ?_⟩
  exact below_set4 (b := w.heap.size + 1) hb04 (by omega)

set_option maxRecDepth 100000 in
set_option maxHeartbeats 4000000 in
theorem openRef_e2 (G : List Se) (v : Value) (x l r : Int) (p : ByteArray) (size now : Int) (w : World) (hv : LiesS w v G) (hs : SizedS G) (hp : p.size ≤ 150000000000000) (h0 : Pp.bgE G x l r now = 0) (hn : Pp.nameB p.data.toList = true) (h1 : size < 0) :
    Calls Try.prog 8 #[.agg #[v, .int .i64 x, .int .i64 l, .int .i64 r], .string p, .int .i64 size, .int .i64 now] w fun e w' => e = .returned (.tuple #[.agg #[.slice none 0 0, .int .i64 0, .int .i64 0, .int .i64 0], .int .i64 0, .int .i64 3]) ∧ Below w.heap.size w w' := by
  have HV := ghid hv
  have HS := ghid hs
  obtain ⟨av, capv, rfl, _⟩ := hv
  clear hs
  obtain ⟨w3, hw3⟩ : ∃ w3, w3 = (w.alloc (.cells #[.slice av G.length capv, .int .i64 x, .int .i64 l, .int .i64 r] 24)).alloc (.cells #[.slice none 0 0, .int .i64 0, .int .i64 0, .int .i64 0] 24) := ⟨_, rfl⟩
  have B3 : Hid (Below w.heap.size w w3) := (by rw [hw3]; exact ((Below.refl _ _).alloc (Nat.le_refl _) _).alloc (by simp) _ : Below w.heap.size w w3)
  have HU3 : Hid (Bx w3 w.heap.size (.slice av G.length capv) (.int .i64 x) (.int .i64 l) (.int .i64 r)) := (by rw [hw3]; exact (Bx.new w _ _ _ _ _).below ((Below.refl _ _).alloc (Nat.le_refl _) _) : Bx w3 w.heap.size (.slice av G.length capv) (.int .i64 x) (.int .i64 l) (.int .i64 r))
  have HR3 : Hid (Bx w3 (w.heap.size + 1) (.slice none 0 0) (.int .i64 0) (.int .i64 0) (.int .i64 0)) := (by
    have := Bx.new (w.alloc (.cells #[.slice av G.length capv, .int .i64 x, .int .i64 l, .int .i64 r] 24)) (.slice none 0 0) (.int .i64 0) (.int .i64 0) (.int .i64 0) 24
    rw [hw3]; simpa using this : Bx w3 (w.heap.size + 1) (.slice none 0 0) (.int .i64 0) (.int .i64 0) (.int .i64 0))
  have hsz3 : w3.heap.size = w.heap.size + 2 := by rw [hw3]; simp
  have H0 := ghid h0
  have HNM := ghid hn
  clear h0 hn
  go_enter Try.func8, Try.ntmps8
  go_wp2_with fail
  rw [← hw3]
  clear hw3
  refine (beginUpload_any G _ x l r now _ (HV.out.below B3.out) HS.out).mono ?_
  rintro e w4 ⟨rfl, hb4⟩
  have hb04 := B3.out.trans (hb4.mono B3.out.size)
  have HU4 := ghid (HU3.out.below hb4)
  have HR4 := ghid (HR3.out.below hb4)
  have hsz4 := hb4.size
  clear hb4
  obtain ⟨hUb, ⟨u0, u1, u2, u3⟩, g0, g1, g2, g3⟩ := HU4.out
  obtain ⟨hRb, ⟨c0, c1, c2, c3⟩, f0, f1, f2, f3⟩ := HR4.out
  rw [H0.out]
  go_wp2_with fail
  refine (rIsName_any p _ hp).mono ?_
  rintro e wn ⟨rfl, hw⟩
  rw [hw, HNM.out]
  clear hw wn
  go_wp2_with fail
  refine bodyPost_ret (v := .tuple #[.agg #[.slice none 0 0, .int .i64 0, .int .i64 0, .int .i64 0], .int .i64 0, .int .i64 3]) (by simp [results, Try.results8, go_sem, c0, c1, c2, c3, hRb]) rfl ⟨rfl, ?_⟩
  exact below_set4 (b := w.heap.size + 1) hb04 (by omega)

set_option maxRecDepth 100000 in
set_option maxHeartbeats 4000000 in
theorem openRef_e3 (G : List Se) (v : Value) (x l r : Int) (p : ByteArray) (size now : Int) (w : World) (hv : LiesS w v G) (hs : SizedS G) (hp : p.size ≤ 150000000000000) (h0 : Pp.bgE G x l r now = 0) (hn : Pp.nameB p.data.toList = true) (h1 : 0 ≤ size) (h2 : 300 < size) :
    Calls Try.prog 8 #[.agg #[v, .int .i64 x, .int .i64 l, .int .i64 r], .string p, .int .i64 size, .int .i64 now] w fun e w' => e = .returned (.tuple #[.agg #[.slice none 0 0, .int .i64 0, .int .i64 0, .int .i64 0], .int .i64 0, .int .i64 3]) ∧ Below w.heap.size w w' := by
  have HV := ghid hv
  have HS := ghid hs
  obtain ⟨av, capv, rfl, _⟩ := hv
  clear hs
  obtain ⟨w3, hw3⟩ : ∃ w3, w3 = (w.alloc (.cells #[.slice av G.length capv, .int .i64 x, .int .i64 l, .int .i64 r] 24)).alloc (.cells #[.slice none 0 0, .int .i64 0, .int .i64 0, .int .i64 0] 24) := ⟨_, rfl⟩
  have B3 : Hid (Below w.heap.size w w3) := (by rw [hw3]; exact ((Below.refl _ _).alloc (Nat.le_refl _) _).alloc (by simp) _ : Below w.heap.size w w3)
  have HU3 : Hid (Bx w3 w.heap.size (.slice av G.length capv) (.int .i64 x) (.int .i64 l) (.int .i64 r)) := (by rw [hw3]; exact (Bx.new w _ _ _ _ _).below ((Below.refl _ _).alloc (Nat.le_refl _) _) : Bx w3 w.heap.size (.slice av G.length capv) (.int .i64 x) (.int .i64 l) (.int .i64 r))
  have HR3 : Hid (Bx w3 (w.heap.size + 1) (.slice none 0 0) (.int .i64 0) (.int .i64 0) (.int .i64 0)) := (by
    have := Bx.new (w.alloc (.cells #[.slice av G.length capv, .int .i64 x, .int .i64 l, .int .i64 r] 24)) (.slice none 0 0) (.int .i64 0) (.int .i64 0) (.int .i64 0) 24
    rw [hw3]; simpa using this : Bx w3 (w.heap.size + 1) (.slice none 0 0) (.int .i64 0) (.int .i64 0) (.int .i64 0))
  have hsz3 : w3.heap.size = w.heap.size + 2 := by rw [hw3]; simp
  have H0 := ghid h0
  have HNM := ghid hn
  clear h0 hn
  go_enter Try.func8, Try.ntmps8
  go_wp2_with fail
  rw [← hw3]
  clear hw3
  refine (beginUpload_any G _ x l r now _ (HV.out.below B3.out) HS.out).mono ?_
  rintro e w4 ⟨rfl, hb4⟩
  have hb04 := B3.out.trans (hb4.mono B3.out.size)
  have HU4 := ghid (HU3.out.below hb4)
  have HR4 := ghid (HR3.out.below hb4)
  have hsz4 := hb4.size
  clear hb4
  obtain ⟨hUb, ⟨u0, u1, u2, u3⟩, g0, g1, g2, g3⟩ := HU4.out
  obtain ⟨hRb, ⟨c0, c1, c2, c3⟩, f0, f1, f2, f3⟩ := HR4.out
  rw [H0.out]
  go_wp2_with fail
  refine (rIsName_any p _ hp).mono ?_
  rintro e wn ⟨rfl, hw⟩
  rw [hw, HNM.out]
  clear hw wn
  go_wp2_with fail
  refine bodyPost_ret (v := .tuple #[.agg #[.slice none 0 0, .int .i64 0, .int .i64 0, .int .i64 0], .int .i64 0, .int .i64 3]) (by simp [results, Try.results8, go_sem, c0, c1, c2, c3, hRb]) rfl ⟨rfl, ?_⟩
  exact below_set4 (b := w.heap.size + 1) hb04 (by omega)

set_option maxRecDepth 100000 in
set_option maxHeartbeats 4000000 in
theorem openRef_e4 (G : List Se) (v : Value) (x l r : Int) (p : ByteArray) (size now : Int) (w : World) (hv : LiesS w v G) (hs : SizedS G) (hp : p.size ≤ 150000000000000) (h0 : Pp.bgE G x l r now = 0) (hn : Pp.nameB p.data.toList = true) (h1 : 0 ≤ size) (h2 : size ≤ 300) (h3 : (x == 1099511627776) = true) :
    Calls Try.prog 8 #[.agg #[v, .int .i64 x, .int .i64 l, .int .i64 r], .string p, .int .i64 size, .int .i64 now] w fun e w' => e = .returned (.tuple #[.agg #[.slice none 0 0, .int .i64 0, .int .i64 0, .int .i64 0], .int .i64 0, .int .i64 3]) ∧ Below w.heap.size w w' := by
  have HV := ghid hv
  have HS := ghid hs
  obtain ⟨av, capv, rfl, _⟩ := hv
  clear hs
  obtain ⟨w3, hw3⟩ : ∃ w3, w3 = (w.alloc (.cells #[.slice av G.length capv, .int .i64 x, .int .i64 l, .int .i64 r] 24)).alloc (.cells #[.slice none 0 0, .int .i64 0, .int .i64 0, .int .i64 0] 24) := ⟨_, rfl⟩
  have B3 : Hid (Below w.heap.size w w3) := (by rw [hw3]; exact ((Below.refl _ _).alloc (Nat.le_refl _) _).alloc (by simp) _ : Below w.heap.size w w3)
  have HU3 : Hid (Bx w3 w.heap.size (.slice av G.length capv) (.int .i64 x) (.int .i64 l) (.int .i64 r)) := (by rw [hw3]; exact (Bx.new w _ _ _ _ _).below ((Below.refl _ _).alloc (Nat.le_refl _) _) : Bx w3 w.heap.size (.slice av G.length capv) (.int .i64 x) (.int .i64 l) (.int .i64 r))
  have HR3 : Hid (Bx w3 (w.heap.size + 1) (.slice none 0 0) (.int .i64 0) (.int .i64 0) (.int .i64 0)) := (by
    have := Bx.new (w.alloc (.cells #[.slice av G.length capv, .int .i64 x, .int .i64 l, .int .i64 r] 24)) (.slice none 0 0) (.int .i64 0) (.int .i64 0) (.int .i64 0) 24
    rw [hw3]; simpa using this : Bx w3 (w.heap.size + 1) (.slice none 0 0) (.int .i64 0) (.int .i64 0) (.int .i64 0))
  have hsz3 : w3.heap.size = w.heap.size + 2 := by rw [hw3]; simp
  have H0 := ghid h0
  have HNM := ghid hn
  clear h0 hn
  go_enter Try.func8, Try.ntmps8
  go_wp2_with fail
  rw [← hw3]
  clear hw3
  refine (beginUpload_any G _ x l r now _ (HV.out.below B3.out) HS.out).mono ?_
  rintro e w4 ⟨rfl, hb4⟩
  have hb04 := B3.out.trans (hb4.mono B3.out.size)
  have HU4 := ghid (HU3.out.below hb4)
  have HR4 := ghid (HR3.out.below hb4)
  have hsz4 := hb4.size
  clear hb4
  obtain ⟨hUb, ⟨u0, u1, u2, u3⟩, g0, g1, g2, g3⟩ := HU4.out
  obtain ⟨hRb, ⟨c0, c1, c2, c3⟩, f0, f1, f2, f3⟩ := HR4.out
  rw [H0.out]
  go_wp2_with fail
  refine (rIsName_any p _ hp).mono ?_
  rintro e wn ⟨rfl, hw⟩
  rw [hw, HNM.out]
  clear hw wn
  go_wp2_with fail
  refine bodyPost_ret (v := .tuple #[.agg #[.slice none 0 0, .int .i64 0, .int .i64 0, .int .i64 0], .int .i64 0, .int .i64 3]) (by simp [results, Try.results8, go_sem, c0, c1, c2, c3, hRb]) rfl ⟨rfl, ?_⟩
  exact below_set4 (b := w.heap.size + 1) hb04 (by omega)
end Go.Proofs.Ytnaedemkpiagmaa
