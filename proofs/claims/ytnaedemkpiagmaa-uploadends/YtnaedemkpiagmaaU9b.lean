/- What upload.Open answers, where going has an error, or a number is out of its bounds, or there are too many sessions. -/
import Derived.Test.YtnaedemkpiagmaaU9
import Derived.Deep.RegionHeld3
set_option linter.unusedSimpArgs false
set_option linter.unusedVariables false
namespace Go.Proofs.Ytnaedemkpiagmaa
open Go.RowKit

set_option maxRecDepth 100000 in
set_option maxHeartbeats 4000000 in
theorem open_e1 (G : List Se) (v : Value) (x l r : Int) (p : ByteArray) (size now : Int) (w : World) (hv : LiesS w v G) (hs : SizedS G) (hp : p.size ≤ 150000000000000) (h0 : ¬ Pp.goE G x l r now [p] = 0) :
    Calls Try.prog 7 #[.agg #[v, .int .i64 x, .int .i64 l, .int .i64 r], .string p, .int .i64 size, .int .i64 now] w fun e w' => e = .returned (.tuple #[.agg #[.slice none 0 0, .int .i64 0, .int .i64 0, .int .i64 0], .int .i64 0, .int .i64 (Pp.goE G x l r now [p])]) ∧ Below w.heap.size w w' := by
  have HV := ghid hv
  have HS := ghid hs
  clear hv hs
  obtain ⟨w3, hw3⟩ : ∃ w3, w3 = ((w.alloc (.cells #[v, .int .i64 x, .int .i64 l, .int .i64 r] 24)).alloc (.cells #[.slice none 0 0, .int .i64 0, .int .i64 0, .int .i64 0] 24)).alloc (.cells #[.string p] 9) := ⟨_, rfl⟩
  have B3 : Hid (Below w.heap.size w w3) := (by rw [hw3]; exact (((Below.refl _ _).alloc (Nat.le_refl _) _).alloc (by simp) _).alloc (by simp; omega) _ : Below w.heap.size w w3)
  have HR3 : Hid (Bx w3 (w.heap.size + 1) (.slice none 0 0) (.int .i64 0) (.int .i64 0) (.int .i64 0)) := (by
    have := (Bx.new (w.alloc (.cells #[v, .int .i64 x, .int .i64 l, .int .i64 r] 24)) (.slice none 0 0) (.int .i64 0) (.int .i64 0) (.int .i64 0) 24).below ((Below.refl _ _).alloc (Nat.le_refl _) (.cells #[.string p] 9))
    rw [hw3]; simpa using this : Bx w3 (w.heap.size + 1) (.slice none 0 0) (.int .i64 0) (.int .i64 0) (.int .i64 0))
  have HN3 : Hid (Nms w3 (.slice (some ⟨w.heap.size + 2, 0, none⟩) 1 1) [p]) := (Or.inr ⟨w.heap.size + 2, 1, rfl, by rw [hw3]; simp, fun i hi => by
    match i, hi with
    | 0, _ => rw [hw3]; simp [go_sem]⟩ : Nms w3 (.slice (some ⟨w.heap.size + 2, 0, none⟩) 1 1) [p])
  have hsz3 : w3.heap.size = w.heap.size + 3 := by rw [hw3]; simp
  have hns : ∀ s ∈ [p], s.size ≤ 150000000000000 := fun s h => by rw [List.mem_singleton.1 h]; exact hp
  have HNZ := ghid h0
  have hz : (Pp.goE G x l r now [p] == 0) = false := by simpa using h0
  clear h0
  go_enter Try.func7, Try.ntmps7
  go_wp2_with fail
  rw [← hw3]
  clear hw3
  refine (going_any G _ x l r now [p] _ _ (HV.out.below B3.out) HS.out HN3.out hns (by simp)).mono ?_
  rintro e w4 (⟨_, rfl, hb4⟩ | ⟨hh, _⟩)
  rotate_left
  · exact absurd hh HNZ.out
  have hb04 := B3.out.trans (hb4.mono B3.out.size)
  obtain ⟨hRb, ⟨c0, c1, c2, c3⟩, f0, f1, f2, f3⟩ := HR3.out.below hb4
  have hsz4 := hb4.size
  clear hb4
  generalize hy : Pp.goE G x l r now [p] = y at *
  go_wp2_with fail
  refine bodyPost_ret (v := .tuple #[.agg #[.slice none 0 0, .int .i64 0, .int .i64 0, .int .i64 0], .int .i64 0, .int .i64 y]) (by simp [results, Try.results7, go_sem, c0, c1, c2, c3, hRb]) rfl ⟨by rw [hy], ?_⟩
  exact (below_set4 (b := w.heap.size + 1) (hb04) (by omega)).alloc (by simp; omega) _

set_option maxRecDepth 100000 in
set_option maxHeartbeats 4000000 in
theorem open_e2 (G : List Se) (v : Value) (x l r : Int) (p : ByteArray) (size now : Int) (w : World) (hv : LiesS w v G) (hs : SizedS G) (hp : p.size ≤ 150000000000000) (h0 : Pp.goE G x l r now [p] = 0) (h1 : size < 0) :
    Calls Try.prog 7 #[.agg #[v, .int .i64 x, .int .i64 l, .int .i64 r], .string p, .int .i64 size, .int .i64 now] w fun e w' => e = .returned (.tuple #[.agg #[.slice none 0 0, .int .i64 0, .int .i64 0, .int .i64 0], .int .i64 0, .int .i64 3]) ∧ Below w.heap.size w w' := by
  have HV := ghid hv
  have HS := ghid hs
  clear hv hs
  obtain ⟨w3, hw3⟩ : ∃ w3, w3 = ((w.alloc (.cells #[v, .int .i64 x, .int .i64 l, .int .i64 r] 24)).alloc (.cells #[.slice none 0 0, .int .i64 0, .int .i64 0, .int .i64 0] 24)).alloc (.cells #[.string p] 9) := ⟨_, rfl⟩
  have B3 : Hid (Below w.heap.size w w3) := (by rw [hw3]; exact (((Below.refl _ _).alloc (Nat.le_refl _) _).alloc (by simp) _).alloc (by simp; omega) _ : Below w.heap.size w w3)
  have HR3 : Hid (Bx w3 (w.heap.size + 1) (.slice none 0 0) (.int .i64 0) (.int .i64 0) (.int .i64 0)) := (by
    have := (Bx.new (w.alloc (.cells #[v, .int .i64 x, .int .i64 l, .int .i64 r] 24)) (.slice none 0 0) (.int .i64 0) (.int .i64 0) (.int .i64 0) 24).below ((Below.refl _ _).alloc (Nat.le_refl _) (.cells #[.string p] 9))
    rw [hw3]; simpa using this : Bx w3 (w.heap.size + 1) (.slice none 0 0) (.int .i64 0) (.int .i64 0) (.int .i64 0))
  have HN3 : Hid (Nms w3 (.slice (some ⟨w.heap.size + 2, 0, none⟩) 1 1) [p]) := (Or.inr ⟨w.heap.size + 2, 1, rfl, by rw [hw3]; simp, fun i hi => by
    match i, hi with
    | 0, _ => rw [hw3]; simp [go_sem]⟩ : Nms w3 (.slice (some ⟨w.heap.size + 2, 0, none⟩) 1 1) [p])
  have hsz3 : w3.heap.size = w.heap.size + 3 := by rw [hw3]; simp
  have hns : ∀ s ∈ [p], s.size ≤ 150000000000000 := fun s h => by rw [List.mem_singleton.1 h]; exact hp
  have H0 := ghid h0
  obtain ⟨huc, ⟨hn1, hn2⟩, _⟩ := Pp.go_zero h0
  obtain ⟨hl20, ⟨hl1, hl2⟩, ⟨hr1, hr2⟩, hx1, hx2⟩ := Pp.bnd_zero (Pp.uch_zero huc).1
  have hsw := Pp.swL_len now G
  have HSI : Hid (∀ s ∈ Pp.swL now G, 0 ≤ s.si ∧ s.si ≤ 300) := (fun s h => Pp.ses_si (Pp.uch_zero huc).2.1 s (List.mem_filter.1 h).1 : ∀ s ∈ Pp.swL now G, 0 ≤ s.si ∧ s.si ≤ 300)
  clear h0 huc
  go_enter Try.func7, Try.ntmps7
  go_wp2_with fail
  rw [← hw3]
  clear hw3
  refine (going_any G _ x l r now [p] _ _ (HV.out.below B3.out) HS.out HN3.out hns (by simp)).mono ?_
  rintro e w4 (⟨hne, _⟩ | ⟨_, u, rfl, hown, hb4⟩)
  · exact absurd H0.out hne
  have hb04 := B3.out.trans (hb4.mono B3.out.size)
  have hR4 := HR3.out.below hb4
  have hsz4 := hb4.size
  have HOWN := ghid hown
  clear hb4 hown
  obtain ⟨a4, cap4, rfl, hc4, _, _⟩ := HOWN.out.lies (by omega)
  obtain ⟨hRb, ⟨c0, c1, c2, c3⟩, f0, f1, f2, f3⟩ := hR4
  go_wp2_with fail
  refine bodyPost_ret (v := .tuple #[.agg #[.slice none 0 0, .int .i64 0, .int .i64 0, .int .i64 0], .int .i64 0, .int .i64 3]) (by simp [results, Try.results7, go_sem, c0, c1, c2, c3, hRb]) rfl ⟨rfl, ?_⟩
  exact (below_set4 (b := w.heap.size + 1) (hb04) (by omega)).alloc (by simp; omega) _

set_option maxRecDepth 100000 in
set_option maxHeartbeats 4000000 in
theorem open_e3 (G : List Se) (v : Value) (x l r : Int) (p : ByteArray) (size now : Int) (w : World) (hv : LiesS w v G) (hs : SizedS G) (hp : p.size ≤ 150000000000000) (h0 : Pp.goE G x l r now [p] = 0) (h1 : 0 ≤ size) (h2 : 300 < size) :
    Calls Try.prog 7 #[.agg #[v, .int .i64 x, .int .i64 l, .int .i64 r], .string p, .int .i64 size, .int .i64 now] w fun e w' => e = .returned (.tuple #[.agg #[.slice none 0 0, .int .i64 0, .int .i64 0, .int .i64 0], .int .i64 0, .int .i64 3]) ∧ Below w.heap.size w w' := by
  have HV := ghid hv
  have HS := ghid hs
  clear hv hs
  obtain ⟨w3, hw3⟩ : ∃ w3, w3 = ((w.alloc (.cells #[v, .int .i64 x, .int .i64 l, .int .i64 r] 24)).alloc (.cells #[.slice none 0 0, .int .i64 0, .int .i64 0, .int .i64 0] 24)).alloc (.cells #[.string p] 9) := ⟨_, rfl⟩
  have B3 : Hid (Below w.heap.size w w3) := (by rw [hw3]; exact (((Below.refl _ _).alloc (Nat.le_refl _) _).alloc (by simp) _).alloc (by simp; omega) _ : Below w.heap.size w w3)
  have HR3 : Hid (Bx w3 (w.heap.size + 1) (.slice none 0 0) (.int .i64 0) (.int .i64 0) (.int .i64 0)) := (by
    have := (Bx.new (w.alloc (.cells #[v, .int .i64 x, .int .i64 l, .int .i64 r] 24)) (.slice none 0 0) (.int .i64 0) (.int .i64 0) (.int .i64 0) 24).below ((Below.refl _ _).alloc (Nat.le_refl _) (.cells #[.string p] 9))
    rw [hw3]; simpa using this : Bx w3 (w.heap.size + 1) (.slice none 0 0) (.int .i64 0) (.int .i64 0) (.int .i64 0))
  have HN3 : Hid (Nms w3 (.slice (some ⟨w.heap.size + 2, 0, none⟩) 1 1) [p]) := (Or.inr ⟨w.heap.size + 2, 1, rfl, by rw [hw3]; simp, fun i hi => by
    match i, hi with
    | 0, _ => rw [hw3]; simp [go_sem]⟩ : Nms w3 (.slice (some ⟨w.heap.size + 2, 0, none⟩) 1 1) [p])
  have hsz3 : w3.heap.size = w.heap.size + 3 := by rw [hw3]; simp
  have hns : ∀ s ∈ [p], s.size ≤ 150000000000000 := fun s h => by rw [List.mem_singleton.1 h]; exact hp
  have H0 := ghid h0
  obtain ⟨huc, ⟨hn1, hn2⟩, _⟩ := Pp.go_zero h0
  obtain ⟨hl20, ⟨hl1, hl2⟩, ⟨hr1, hr2⟩, hx1, hx2⟩ := Pp.bnd_zero (Pp.uch_zero huc).1
  have hsw := Pp.swL_len now G
  have HSI : Hid (∀ s ∈ Pp.swL now G, 0 ≤ s.si ∧ s.si ≤ 300) := (fun s h => Pp.ses_si (Pp.uch_zero huc).2.1 s (List.mem_filter.1 h).1 : ∀ s ∈ Pp.swL now G, 0 ≤ s.si ∧ s.si ≤ 300)
  clear h0 huc
  go_enter Try.func7, Try.ntmps7
  go_wp2_with fail
  rw [← hw3]
  clear hw3
  refine (going_any G _ x l r now [p] _ _ (HV.out.below B3.out) HS.out HN3.out hns (by simp)).mono ?_
  rintro e w4 (⟨hne, _⟩ | ⟨_, u, rfl, hown, hb4⟩)
  · exact absurd H0.out hne
  have hb04 := B3.out.trans (hb4.mono B3.out.size)
  have hR4 := HR3.out.below hb4
  have hsz4 := hb4.size
  have HOWN := ghid hown
  clear hb4 hown
  obtain ⟨a4, cap4, rfl, hc4, _, _⟩ := HOWN.out.lies (by omega)
  obtain ⟨hRb, ⟨c0, c1, c2, c3⟩, f0, f1, f2, f3⟩ := hR4
  go_wp2_with fail
  refine bodyPost_ret (v := .tuple #[.agg #[.slice none 0 0, .int .i64 0, .int .i64 0, .int .i64 0], .int .i64 0, .int .i64 3]) (by simp [results, Try.results7, go_sem, c0, c1, c2, c3, hRb]) rfl ⟨rfl, ?_⟩
  exact (below_set4 (b := w.heap.size + 1) (hb04) (by omega)).alloc (by simp; omega) _

set_option maxRecDepth 100000 in
set_option maxHeartbeats 4000000 in
theorem open_e4 (G : List Se) (v : Value) (x l r : Int) (p : ByteArray) (size now : Int) (w : World) (hv : LiesS w v G) (hs : SizedS G) (hp : p.size ≤ 150000000000000) (h0 : Pp.goE G x l r now [p] = 0) (h1 : 0 ≤ size) (h2 : size ≤ 300) (h3 : 1099511627776 ≤ x) :
    Calls Try.prog 7 #[.agg #[v, .int .i64 x, .int .i64 l, .int .i64 r], .string p, .int .i64 size, .int .i64 now] w fun e w' => e = .returned (.tuple #[.agg #[.slice none 0 0, .int .i64 0, .int .i64 0, .int .i64 0], .int .i64 0, .int .i64 3]) ∧ Below w.heap.size w w' := by
  have HV := ghid hv
  have HS := ghid hs
  clear hv hs
  obtain ⟨w3, hw3⟩ : ∃ w3, w3 = ((w.alloc (.cells #[v, .int .i64 x, .int .i64 l, .int .i64 r] 24)).alloc (.cells #[.slice none 0 0, .int .i64 0, .int .i64 0, .int .i64 0] 24)).alloc (.cells #[.string p] 9) := ⟨_, rfl⟩
  have B3 : Hid (Below w.heap.size w w3) := (by rw [hw3]; exact (((Below.refl _ _).alloc (Nat.le_refl _) _).alloc (by simp) _).alloc (by simp; omega) _ : Below w.heap.size w w3)
  have HR3 : Hid (Bx w3 (w.heap.size + 1) (.slice none 0 0) (.int .i64 0) (.int .i64 0) (.int .i64 0)) := (by
    have := (Bx.new (w.alloc (.cells #[v, .int .i64 x, .int .i64 l, .int .i64 r] 24)) (.slice none 0 0) (.int .i64 0) (.int .i64 0) (.int .i64 0) 24).below ((Below.refl _ _).alloc (Nat.le_refl _) (.cells #[.string p] 9))
    rw [hw3]; simpa using this : Bx w3 (w.heap.size + 1) (.slice none 0 0) (.int .i64 0) (.int .i64 0) (.int .i64 0))
  have HN3 : Hid (Nms w3 (.slice (some ⟨w.heap.size + 2, 0, none⟩) 1 1) [p]) := (Or.inr ⟨w.heap.size + 2, 1, rfl, by rw [hw3]; simp, fun i hi => by
    match i, hi with
    | 0, _ => rw [hw3]; simp [go_sem]⟩ : Nms w3 (.slice (some ⟨w.heap.size + 2, 0, none⟩) 1 1) [p])
  have hsz3 : w3.heap.size = w.heap.size + 3 := by rw [hw3]; simp
  have hns : ∀ s ∈ [p], s.size ≤ 150000000000000 := fun s h => by rw [List.mem_singleton.1 h]; exact hp
  have H0 := ghid h0
  obtain ⟨huc, ⟨hn1, hn2⟩, _⟩ := Pp.go_zero h0
  obtain ⟨hl20, ⟨hl1, hl2⟩, ⟨hr1, hr2⟩, hx1, hx2⟩ := Pp.bnd_zero (Pp.uch_zero huc).1
  have hsw := Pp.swL_len now G
  have HSI : Hid (∀ s ∈ Pp.swL now G, 0 ≤ s.si ∧ s.si ≤ 300) := (fun s h => Pp.ses_si (Pp.uch_zero huc).2.1 s (List.mem_filter.1 h).1 : ∀ s ∈ Pp.swL now G, 0 ≤ s.si ∧ s.si ≤ 300)
  clear h0 huc
  go_enter Try.func7, Try.ntmps7
  go_wp2_with fail
  rw [← hw3]
  clear hw3
  refine (going_any G _ x l r now [p] _ _ (HV.out.below B3.out) HS.out HN3.out hns (by simp)).mono ?_
  rintro e w4 (⟨hne, _⟩ | ⟨_, u, rfl, hown, hb4⟩)
  · exact absurd H0.out hne
  have hb04 := B3.out.trans (hb4.mono B3.out.size)
  have hR4 := HR3.out.below hb4
  have hsz4 := hb4.size
  have HOWN := ghid hown
  clear hb4 hown
  obtain ⟨a4, cap4, rfl, hc4, _, _⟩ := HOWN.out.lies (by omega)
  obtain ⟨hRb, ⟨c0, c1, c2, c3⟩, f0, f1, f2, f3⟩ := hR4
  go_wp2_with fail
  refine bodyPost_ret (v := .tuple #[.agg #[.slice none 0 0, .int .i64 0, .int .i64 0, .int .i64 0], .int .i64 0, .int .i64 3]) (by simp [results, Try.results7, go_sem, c0, c1, c2, c3, hRb]) rfl ⟨rfl, ?_⟩
  exact (below_set4 (b := w.heap.size + 1) (hb04) (by omega)).alloc (by simp; omega) _

set_option maxRecDepth 100000 in
set_option maxHeartbeats 4000000 in
theorem open_e5 (G : List Se) (v : Value) (x l r : Int) (p : ByteArray) (size now : Int) (w : World) (hv : LiesS w v G) (hs : SizedS G) (hp : p.size ≤ 150000000000000) (h0 : Pp.goE G x l r now [p] = 0) (h1 : 0 ≤ size) (h2 : size ≤ 300) (h3 : x < 1099511627776) (h4 : 20 ≤ (Pp.swL now G).length) :
    Calls Try.prog 7 #[.agg #[v, .int .i64 x, .int .i64 l, .int .i64 r], .string p, .int .i64 size, .int .i64 now] w fun e w' => e = .returned (.tuple #[.agg #[.slice none 0 0, .int .i64 0, .int .i64 0, .int .i64 0], .int .i64 0, .int .i64 2]) ∧ Below w.heap.size w w' := by
  have HV := ghid hv
  have HS := ghid hs
  clear hv hs
  obtain ⟨w3, hw3⟩ : ∃ w3, w3 = ((w.alloc (.cells #[v, .int .i64 x, .int .i64 l, .int .i64 r] 24)).alloc (.cells #[.slice none 0 0, .int .i64 0, .int .i64 0, .int .i64 0] 24)).alloc (.cells #[.string p] 9) := ⟨_, rfl⟩
  have B3 : Hid (Below w.heap.size w w3) := (by rw [hw3]; exact (((Below.refl _ _).alloc (Nat.le_refl _) _).alloc (by simp) _).alloc (by simp; omega) _ : Below w.heap.size w w3)
  have HR3 : Hid (Bx w3 (w.heap.size + 1) (.slice none 0 0) (.int .i64 0) (.int .i64 0) (.int .i64 0)) := (by
    have := (Bx.new (w.alloc (.cells #[v, .int .i64 x, .int .i64 l, .int .i64 r] 24)) (.slice none 0 0) (.int .i64 0) (.int .i64 0) (.int .i64 0) 24).below ((Below.refl _ _).alloc (Nat.le_refl _) (.cells #[.string p] 9))
    rw [hw3]; simpa using this : Bx w3 (w.heap.size + 1) (.slice none 0 0) (.int .i64 0) (.int .i64 0) (.int .i64 0))
  have HN3 : Hid (Nms w3 (.slice (some ⟨w.heap.size + 2, 0, none⟩) 1 1) [p]) := (Or.inr ⟨w.heap.size + 2, 1, rfl, by rw [hw3]; simp, fun i hi => by
    match i, hi with
    | 0, _ => rw [hw3]; simp [go_sem]⟩ : Nms w3 (.slice (some ⟨w.heap.size + 2, 0, none⟩) 1 1) [p])
  have hsz3 : w3.heap.size = w.heap.size + 3 := by rw [hw3]; simp
  have hns : ∀ s ∈ [p], s.size ≤ 150000000000000 := fun s h => by rw [List.mem_singleton.1 h]; exact hp
  have H0 := ghid h0
  obtain ⟨huc, ⟨hn1, hn2⟩, _⟩ := Pp.go_zero h0
  obtain ⟨hl20, ⟨hl1, hl2⟩, ⟨hr1, hr2⟩, hx1, hx2⟩ := Pp.bnd_zero (Pp.uch_zero huc).1
  have hsw := Pp.swL_len now G
  have HSI : Hid (∀ s ∈ Pp.swL now G, 0 ≤ s.si ∧ s.si ≤ 300) := (fun s h => Pp.ses_si (Pp.uch_zero huc).2.1 s (List.mem_filter.1 h).1 : ∀ s ∈ Pp.swL now G, 0 ≤ s.si ∧ s.si ≤ 300)
  clear h0 huc
  have h20 : 20 ≤ ((Pp.swL now G).length : Int) := by omega
  go_enter Try.func7, Try.ntmps7
  go_wp2_with fail
  rw [← hw3]
  clear hw3
  refine (going_any G _ x l r now [p] _ _ (HV.out.below B3.out) HS.out HN3.out hns (by simp)).mono ?_
  rintro e w4 (⟨hne, _⟩ | ⟨_, u, rfl, hown, hb4⟩)
  · exact absurd H0.out hne
  have hb04 := B3.out.trans (hb4.mono B3.out.size)
  have hR4 := HR3.out.below hb4
  have hsz4 := hb4.size
  have HOWN := ghid hown
  clear hb4 hown
  obtain ⟨a4, cap4, rfl, hc4, _, _⟩ := HOWN.out.lies (by omega)
  obtain ⟨hRb, ⟨c0, c1, c2, c3⟩, f0, f1, f2, f3⟩ := hR4
  go_wp2_with fail
  refine bodyPost_ret (v := .tuple #[.agg #[.slice none 0 0, .int .i64 0, .int .i64 0, .int .i64 0], .int .i64 0, .int .i64 2]) (by simp [results, Try.results7, go_sem, c0, c1, c2, c3, hRb]) rfl ⟨rfl, ?_⟩
  exact (below_set4 (b := w.heap.size + 1) (hb04) (by omega)).alloc (by simp; omega) _
end Go.Proofs.Ytnaedemkpiagmaa
