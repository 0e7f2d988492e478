/- What upload.Open answers, errors too, for every uploads. What upload.Open answers, where going has an error, or a number is out of its bounds, or there are too many sessions. What upload.Open answers, where there is no room. What upload.Open answers, where all is right; and in all cases. -/
import Derived.Test.YtmdkecdhgjjceaaGreatUB
import Derived.Deep.RegionHeld3
set_option linter.unusedSimpArgs false
set_option linter.unusedVariables false
namespace Go.Proofs.YtmdkecdhgjjceaaGreat
open Go.RowKit

namespace Pp
/-- Open, where going has no error. -/
def opE (G : List Se) (x l r : Int) (p : ByteArray) (size now : Int) : Int := if ¬ goE G x l r now [p] = 0 then goE G x l r now [p] else if size < 0 ∨ 300 < size ∨ 1099511627776 ≤ x then 3 else if 20 ≤ (swL now G).length then 2 else if r < takS (swL now G) p + size then 10 else 0
theorem op_cases (G : List Se) (x l r : Int) (p : ByteArray) (size now : Int) : (¬ goE G x l r now [p] = 0 ∧ opE G x l r p size now = goE G x l r now [p]) ∨
    (goE G x l r now [p] = 0 ∧ size < 0 ∧ opE G x l r p size now = 3) ∨ (goE G x l r now [p] = 0 ∧ 0 ≤ size ∧ 300 < size ∧ opE G x l r p size now = 3) ∨ (goE G x l r now [p] = 0 ∧ 0 ≤ size ∧ size ≤ 300 ∧ 1099511627776 ≤ x ∧ opE G x l r p size now = 3) ∨
    (goE G x l r now [p] = 0 ∧ 0 ≤ size ∧ size ≤ 300 ∧ x < 1099511627776 ∧ 20 ≤ (swL now G).length ∧ opE G x l r p size now = 2) ∨ (goE G x l r now [p] = 0 ∧ 0 ≤ size ∧ size ≤ 300 ∧ x < 1099511627776 ∧ (swL now G).length < 20 ∧ r < takS (swL now G) p + size ∧ opE G x l r p size now = 10) ∨
    (goE G x l r now [p] = 0 ∧ 0 ≤ size ∧ size ≤ 300 ∧ x < 1099511627776 ∧ (swL now G).length < 20 ∧ takS (swL now G) p + size ≤ r ∧ opE G x l r p size now = 0) := by
  by_cases h0 : goE G x l r now [p] = 0
  · right
    have e : opE G x l r p size now = if size < 0 ∨ 300 < size ∨ 1099511627776 ≤ x then 3 else if 20 ≤ (swL now G).length then 2 else if r < takS (swL now G) p + size then 10 else 0 := by rw [opE, if_neg (fun k => k h0)]
    by_cases h1 : size < 0
    · left; exact ⟨h0, h1, by rw [e, if_pos (Or.inl h1)]⟩
    · right
      by_cases h2 : 300 < size
      · left; exact ⟨h0, by omega, h2, by rw [e, if_pos (Or.inr (Or.inl h2))]⟩
      · right
        by_cases h3 : 1099511627776 ≤ x
        · left; exact ⟨h0, by omega, by omega, h3, by rw [e, if_pos (Or.inr (Or.inr h3))]⟩
        · right
          rw [if_neg (by omega)] at e
          by_cases h4 : 20 ≤ (swL now G).length
          · left; exact ⟨h0, by omega, by omega, by omega, h4, by rw [e, if_pos h4]⟩
          · right
            rw [if_neg h4] at e
            by_cases h5 : r < takS (swL now G) p + size
            · left; exact ⟨h0, by omega, by omega, by omega, by omega, h5, by rw [e, if_pos h5]⟩
            · right; exact ⟨h0, by omega, by omega, by omega, by omega, by omega, by rw [e, if_neg h5]⟩
  · left; exact ⟨h0, by rw [opE, if_pos h0]⟩
theorem go_zero {G : List Se} {x l r now : Int} {ns : List ByteArray} (h : goE G x l r now ns = 0) : uchE G x l r = 0 ∧ (0 ≤ now ∧ now ≤ 1099511627776) ∧ nmsE ns = 0 := by
  rcases go_cases G x l r now ns with ⟨h0, hE⟩ | ⟨h0, h1, hE⟩ | ⟨h0, h1, h2, hE⟩ | ⟨h0, h1, h2, hE⟩
  · rw [h] at hE; exact absurd hE.symm h0
  · rw [h] at hE; cases hE
  · rw [h] at hE; cases hE
  · exact ⟨h0, inR_yes h1, h2⟩
def newS (x : Int) (p : ByteArray) (size till : Int) : Se := ⟨x, p, ⟨#[]⟩, size, till⟩
end Pp
end Go.Proofs.YtmdkecdhgjjceaaGreat
set_option linter.unusedSimpArgs false
set_option linter.unusedVariables false
namespace Go.Proofs.YtmdkecdhgjjceaaGreat
open Go.RowKit

set_option maxRecDepth 100000 in
set_option maxHeartbeats 4000000 in
theorem open_e1 (G : List Se) (v : Value) (x l r : Int) (p : ByteArray) (size now : Int) (w : World) (hv : LiesS w v G) (hs : SizedS G) (hp : p.size ≤ 150000000000000) (h0 : ¬ Pp.goE G x l r now [p] = 0) :
    Calls Tryz.prog 107 #[.agg #[v, .int .i64 x, .int .i64 l, .int .i64 r], .string p, .int .i64 size, .int .i64 now] w fun e w' => e = .returned (.tuple #[.agg #[.slice none 0 0, .int .i64 0, .int .i64 0, .int .i64 0], .int .i64 0, .int .i64 (Pp.goE G x l r now [p])]) ∧ Below w.heap.size w w' := by
  have HV := ghid hv
  have HS := ghid hs
  clear hv hs
  obtain ⟨w3, hw3⟩ : ∃ w3, w3 = ((w.alloc (.cells #[v, .int .i64 x, .int .i64 l, .int .i64 r] 26)).alloc (.cells #[.slice none 0 0, .int .i64 0, .int .i64 0, .int .i64 0] 26)).alloc (.cells #[.string p] 9) := ⟨_, rfl⟩
  have B3 : Hid (Below w.heap.size w w3) := (by rw [hw3]; exact (((Below.refl _ _).alloc (Nat.le_refl _) _).alloc (by simp) _).alloc (by simp; omega) _ : Below w.heap.size w w3)
  have HR3 : Hid (Bx w3 (w.heap.size + 1) (.slice none 0 0) (.int .i64 0) (.int .i64 0) (.int .i64 0)) := (by
    have := (Bx.new (w.alloc (.cells #[v, .int .i64 x, .int .i64 l, .int .i64 r] 26)) (.slice none 0 0) (.int .i64 0) (.int .i64 0) (.int .i64 0) 26).below ((Below.refl _ _).alloc (Nat.le_refl _) (.cells #[.string p] 9))
    rw [hw3]; simpa using this : Bx w3 (w.heap.size + 1) (.slice none 0 0) (.int .i64 0) (.int .i64 0) (.int .i64 0))
  have HN3 : Hid (Nms w3 (.slice (some ⟨w.heap.size + 2, 0, none⟩) 1 1) [p]) := (Or.inr ⟨w.heap.size + 2, 1, rfl, by rw [hw3]; simp, fun i hi => by
    match i, hi with
    | 0, _ => rw [hw3]; simp [go_sem]⟩ : Nms w3 (.slice (some ⟨w.heap.size + 2, 0, none⟩) 1 1) [p])
  have hsz3 : w3.heap.size = w.heap.size + 3 := by rw [hw3]; simp
  have hns : ∀ s ∈ [p], s.size ≤ 150000000000000 := fun s h => by rw [List.mem_singleton.1 h]; exact hp
  have HNZ := ghid h0
  have hz : (Pp.goE G x l r now [p] == 0) = false := by simpa using h0
  clear h0
  go_enter Tryz.func107, Tryz.ntmps107
  go_wp2_with fail
  rw [← hw3]
  clear hw3
  refine (going_any G _ x l r now [p] _ _ (HV.out.below B3.out) HS.out HN3.out hns (by simp)).mono ?_
  rintro e w4 (⟨_, rfl, hb4⟩ | ⟨hh, _⟩)
  rotate_left
  · exact absurd hh HNZ.out
  have hb04 := B3.out.trans (hb4.mono B3.out.size)
  obtain ⟨hRb, ⟨c0, c1, c2, c3⟩, f0, f1, f2, f3⟩ := HR3.out.below hb4
  have hsz4 := hb4.size
  clear hb4
  generalize hy : Pp.goE G x l r now [p] = y at *
  go_wp2_with fail
  refine bodyPost_ret (v := .tuple #[.agg #[.slice none 0 0, .int .i64 0, .int .i64 0, .int .i64 0], .int .i64 0, .int .i64 y]) (by simp [results, Tryz.results107, go_sem, c0, c1, c2, c3, hRb]) rfl ⟨by rw [hy], ?_⟩
  exact (below_set4 (b := w.heap.size + 1) (hb04) (by omega)).alloc (by simp; omega) _

set_option maxRecDepth 100000 in
set_option maxHeartbeats 4000000 in
theorem open_e2 (G : List Se) (v : Value) (x l r : Int) (p : ByteArray) (size now : Int) (w : World) (hv : LiesS w v G) (hs : SizedS G) (hp : p.size ≤ 150000000000000) (h0 : Pp.goE G x l r now [p] = 0) (h1 : size < 0) :
    Calls Tryz.prog 107 #[.agg #[v, .int .i64 x, .int .i64 l, .int .i64 r], .string p, .int .i64 size, .int .i64 now] w fun e w' => e = .returned (.tuple #[.agg #[.slice none 0 0, .int .i64 0, .int .i64 0, .int .i64 0], .int .i64 0, .int .i64 3]) ∧ Below w.heap.size w w' := by
  have HV := ghid hv
  have HS := ghid hs
  clear hv hs
  obtain ⟨w3, hw3⟩ : ∃ w3, w3 = ((w.alloc (.cells #[v, .int .i64 x, .int .i64 l, .int .i64 r] 26)).alloc (.cells #[.slice none 0 0, .int .i64 0, .int .i64 0, .int .i64 0] 26)).alloc (.cells #[.string p] 9) := ⟨_, rfl⟩
  have B3 : Hid (Below w.heap.size w w3) := (by rw [hw3]; exact (((Below.refl _ _).alloc (Nat.le_refl _) _).alloc (by simp) _).alloc (by simp; omega) _ : Below w.heap.size w w3)
  have HR3 : Hid (Bx w3 (w.heap.size + 1) (.slice none 0 0) (.int .i64 0) (.int .i64 0) (.int .i64 0)) := (by
    have := (Bx.new (w.alloc (.cells #[v, .int .i64 x, .int .i64 l, .int .i64 r] 26)) (.slice none 0 0) (.int .i64 0) (.int .i64 0) (.int .i64 0) 26).below ((Below.refl _ _).alloc (Nat.le_refl _) (.cells #[.string p] 9))
    rw [hw3]; simpa using this : Bx w3 (w.heap.size + 1) (.slice none 0 0) (.int .i64 0) (.int .i64 0) (.int .i64 0))
  have HN3 : Hid (Nms w3 (.slice (some ⟨w.heap.size + 2, 0, none⟩) 1 1) [p]) := (Or.inr ⟨w.heap.size + 2, 1, rfl, by rw [hw3]; simp, fun i hi => by
    match i, hi with
    | 0, _ => rw [hw3]; simp [go_sem]⟩ : Nms w3 (.slice (some ⟨w.heap.size + 2, 0, none⟩) 1 1) [p])
  have hsz3 : w3.heap.size = w.heap.size + 3 := by rw [hw3]; simp
  have hns : ∀ s ∈ [p], s.size ≤ 150000000000000 := fun s h => by rw [List.mem_singleton.1 h]; exact hp
  have H0 := ghid h0
  obtain ⟨huc, ⟨hn1, hn2⟩, _⟩ := Pp.go_zero h0
  obtain ⟨hl20, ⟨hl1, hl2⟩, ⟨hr1, hr2⟩, hx1, hx2⟩ := Pp.bnd_zero (Pp.uch_zero huc).1
  have hsw := Pp.swL_len now G
  have HSI : Hid (∀ s ∈ Pp.swL now G, 0 ≤ s.si ∧ s.si ≤ 300) := (fun s h => Pp.ses_si (Pp.uch_zero huc).2.1 s (List.mem_filter.1 h).1 : ∀ s ∈ Pp.swL now G, 0 ≤ s.si ∧ s.si ≤ 300)
  clear h0 huc
  go_enter Tryz.func107, Tryz.ntmps107
  go_wp2_with fail
  rw [← hw3]
  clear hw3
  refine (going_any G _ x l r now [p] _ _ (HV.out.below B3.out) HS.out HN3.out hns (by simp)).mono ?_
  rintro e w4 (⟨hne, _⟩ | ⟨_, u, rfl, hown, hb4⟩)
  · exact absurd H0.out hne
  have hb04 := B3.out.trans (hb4.mono B3.out.size)
  have hR4 := HR3.out.below hb4
  have hsz4 := hb4.size
  have HOWN := ghid hown
  clear hb4 hown
  obtain ⟨a4, cap4, rfl, hc4, _, _⟩ := HOWN.out.lies (by omega)
  obtain ⟨hRb, ⟨c0, c1, c2, c3⟩, f0, f1, f2, f3⟩ := hR4
  go_wp2_with fail
  refine bodyPost_ret (v := .tuple #[.agg #[.slice none 0 0, .int .i64 0, .int .i64 0, .int .i64 0], .int .i64 0, .int .i64 3]) (by simp [results, Tryz.results107, go_sem, c0, c1, c2, c3, hRb]) rfl ⟨rfl, ?_⟩
  exact (below_set4 (b := w.heap.size + 1) (hb04) (by omega)).alloc (by simp; omega) _

set_option maxRecDepth 100000 in
set_option maxHeartbeats 4000000 in
theorem open_e3 (G : List Se) (v : Value) (x l r : Int) (p : ByteArray) (size now : Int) (w : World) (hv : LiesS w v G) (hs : SizedS G) (hp : p.size ≤ 150000000000000) (h0 : Pp.goE G x l r now [p] = 0) (h1 : 0 ≤ size) (h2 : 300 < size) :
    Calls Tryz.prog 107 #[.agg #[v, .int .i64 x, .int .i64 l, .int .i64 r], .string p, .int .i64 size, .int .i64 now] w fun e w' => e = .returned (.tuple #[.agg #[.slice none 0 0, .int .i64 0, .int .i64 0, .int .i64 0], .int .i64 0, .int .i64 3]) ∧ Below w.heap.size w w' := by
  have HV := ghid hv
  have HS := ghid hs
  clear hv hs
  obtain ⟨w3, hw3⟩ : ∃ w3, w3 = ((w.alloc (.cells #[v, .int .i64 x, .int .i64 l, .int .i64 r] 26)).alloc (.cells #[.slice none 0 0, .int .i64 0, .int .i64 0, .int .i64 0] 26)).alloc (.cells #[.string p] 9) := ⟨_, rfl⟩
  have B3 : Hid (Below w.heap.size w w3) := (by rw [hw3]; exact (((Below.refl _ _).alloc (Nat.le_refl _) _).alloc (by simp) _).alloc (by simp; omega) _ : Below w.heap.size w w3)
  have HR3 : Hid (Bx w3 (w.heap.size + 1) (.slice none 0 0) (.int .i64 0) (.int .i64 0) (.int .i64 0)) := (by
    have := (Bx.new (w.alloc (.cells #[v, .int .i64 x, .int .i64 l, .int .i64 r] 26)) (.slice none 0 0) (.int .i64 0) (.int .i64 0) (.int .i64 0) 26).below ((Below.refl _ _).alloc (Nat.le_refl _) (.cells #[.string p] 9))
    rw [hw3]; simpa using this : Bx w3 (w.heap.size + 1) (.slice none 0 0) (.int .i64 0) (.int .i64 0) (.int .i64 0))
  have HN3 : Hid (Nms w3 (.slice (some ⟨w.heap.size + 2, 0, none⟩) 1 1) [p]) := (Or.inr ⟨w.heap.size + 2, 1, rfl, by rw [hw3]; simp, fun i hi => by
    match i, hi with
    | 0, _ => rw [hw3]; simp [go_sem]⟩ : Nms w3 (.slice (some ⟨w.heap.size + 2, 0, none⟩) 1 1) [p])
  have hsz3 : w3.heap.size = w.heap.size + 3 := by rw [hw3]; simp
  have hns : ∀ s ∈ [p], s.size ≤ 150000000000000 := fun s h => by rw [List.mem_singleton.1 h]; exact hp
  have H0 := ghid h0
  obtain ⟨huc, ⟨hn1, hn2⟩, _⟩ := Pp.go_zero h0
  obtain ⟨hl20, ⟨hl1, hl2⟩, ⟨hr1, hr2⟩, hx1, hx2⟩ := Pp.bnd_zero (Pp.uch_zero huc).1
  have hsw := Pp.swL_len now G
  have HSI : Hid (∀ s ∈ Pp.swL now G, 0 ≤ s.si ∧ s.si ≤ 300) := (fun s h => Pp.ses_si (Pp.uch_zero huc).2.1 s (List.mem_filter.1 h).1 : ∀ s ∈ Pp.swL now G, 0 ≤ s.si ∧ s.si ≤ 300)
  clear h0 huc
  go_enter Tryz.func107, Tryz.ntmps107
  go_wp2_with fail
  rw [← hw3]
  clear hw3
  refine (going_any G _ x l r now [p] _ _ (HV.out.below B3.out) HS.out HN3.out hns (by simp)).mono ?_
  rintro e w4 (⟨hne, _⟩ | ⟨_, u, rfl, hown, hb4⟩)
  · exact absurd H0.out hne
  have hb04 := B3.out.trans (hb4.mono B3.out.size)
  have hR4 := HR3.out.below hb4
  have hsz4 := hb4.size
  have HOWN := ghid hown
  clear hb4 hown
  obtain ⟨a4, cap4, rfl, hc4, _, _⟩ := HOWN.out.lies (by omega)
  obtain ⟨hRb, ⟨c0, c1, c2, c3⟩, f0, f1, f2, f3⟩ := hR4
  go_wp2_with fail
  refine bodyPost_ret (v := .tuple #[.agg #[.slice none 0 0, .int .i64 0, .int .i64 0, .int .i64 0], .int .i64 0, .int .i64 3]) (by simp [results, Tryz.results107, go_sem, c0, c1, c2, c3, hRb]) rfl ⟨rfl, ?_⟩
  exact (below_set4 (b := w.heap.size + 1) (hb04) (by omega)).alloc (by simp; omega) _

set_option maxRecDepth 100000 in
set_option maxHeartbeats 4000000 in
theorem open_e4 (G : List Se) (v : Value) (x l r : Int) (p : ByteArray) (size now : Int) (w : World) (hv : LiesS w v G) (hs : SizedS G) (hp : p.size ≤ 150000000000000) (h0 : Pp.goE G x l r now [p] = 0) (h1 : 0 ≤ size) (h2 : size ≤ 300) (h3 : 1099511627776 ≤ x) :
    Calls Tryz.prog 107 #[.agg #[v, .int .i64 x, .int .i64 l, .int .i64 r], .string p, .int .i64 size, .int .i64 now] w fun e w' => e = .returned (.tuple #[.agg #[.slice none 0 0, .int .i64 0, .int .i64 0, .int .i64 0], .int .i64 0, .int .i64 3]) ∧ Below w.heap.size w w' := by
  have HV := ghid hv
  have HS := ghid hs
  clear hv hs
  obtain ⟨w3, hw3⟩ : ∃ w3, w3 = ((w.alloc (.cells #[v, .int .i64 x, .int .i64 l, .int .i64 r] 26)).alloc (.cells #[.slice none 0 0, .int .i64 0, .int .i64 0, .int .i64 0] 26)).alloc (.cells #[.string p] 9) := ⟨_, rfl⟩
  have B3 : Hid (Below w.heap.size w w3) := (by rw [hw3]; exact (((Below.refl _ _).alloc (Nat.le_refl _) _).alloc (by simp) _).alloc (by simp; omega) _ : Below w.heap.size w w3)
  have HR3 : Hid (Bx w3 (w.heap.size + 1) (.slice none 0 0) (.int .i64 0) (.int .i64 0) (.int .i64 0)) := (by
    have := (Bx.new (w.alloc (.cells #[v, .int .i64 x, .int .i64 l, .int .i64 r] 26)) (.slice none 0 0) (.int .i64 0) (.int .i64 0) (.int .i64 0) 26).below ((Below.refl _ _).alloc (Nat.le_refl _) (.cells #[.string p] 9))
    rw [hw3]; simpa using this : Bx w3 (w.heap.size + 1) (.slice none 0 0) (.int .i64 0) (.int .i64 0) (.int .i64 0))
  have HN3 : Hid (Nms w3 (.slice (some ⟨w.heap.size + 2, 0, none⟩) 1 1) [p]) := (Or.inr ⟨w.heap.size + 2, 1, rfl, by rw [hw3]; simp, fun i hi => by
    match i, hi with
    | 0, _ => rw [hw3]; simp [go_sem]⟩ : Nms w3 (.slice (some ⟨w.heap.size + 2, 0, none⟩) 1 1) [p])
  have hsz3 : w3.heap.size = w.heap.size + 3 := by rw [hw3]; simp
  have hns : ∀ s ∈ [p], s.size ≤ 150000000000000 := fun s h => by rw [List.mem_singleton.1 h]; exact hp
  have H0 := ghid h0
  obtain ⟨huc, ⟨hn1, hn2⟩, _⟩ := Pp.go_zero h0
  obtain ⟨hl20, ⟨hl1, hl2⟩, ⟨hr1, hr2⟩, hx1, hx2⟩ := Pp.bnd_zero (Pp.uch_zero huc).1
  have hsw := Pp.swL_len now G
  have HSI : Hid (∀ s ∈ Pp.swL now G, 0 ≤ s.si ∧ s.si ≤ 300) := (fun s h => Pp.ses_si (Pp.uch_zero huc).2.1 s (List.mem_filter.1 h).1 : ∀ s ∈ Pp.swL now G, 0 ≤ s.si ∧ s.si ≤ 300)
  clear h0 huc
  go_enter Tryz.func107, Tryz.ntmps107
  go_wp2_with fail
  rw [← hw3]
  clear hw3
  refine (going_any G _ x l r now [p] _ _ (HV.out.below B3.out) HS.out HN3.out hns (by simp)).mono ?_
  rintro e w4 (⟨hne, _⟩ | ⟨_, u, rfl, hown, hb4⟩)
  · exact absurd H0.out hne
  have hb04 := B3.out.trans (hb4.mono B3.out.size)
  have hR4 := HR3.out.below hb4
  have hsz4 := hb4.size
  have HOWN := ghid hown
  clear hb4 hown
  obtain ⟨a4, cap4, rfl, hc4, _, _⟩ := HOWN.out.lies (by omega)
  obtain ⟨hRb, ⟨c0, c1, c2, c3⟩, f0, f1, f2, f3⟩ := hR4
  go_wp2_with fail
  refine bodyPost_ret (v := .tuple #[.agg #[.slice none 0 0, .int .i64 0, .int .i64 0, .int .i64 0], .int .i64 0, .int .i64 3]) (by simp [results, Tryz.results107, go_sem, c0, c1, c2, c3, hRb]) rfl ⟨rfl, ?_⟩
  exact (below_set4 (b := w.heap.size + 1) (hb04) (by omega)).alloc (by simp; omega) _

set_option maxRecDepth 100000 in
set_option maxHeartbeats 4000000 in
theorem open_e5 (G : List Se) (v : Value) (x l r : Int) (p : ByteArray) (size now : Int) (w : World) (hv : LiesS w v G) (hs : SizedS G) (hp : p.size ≤ 150000000000000) (h0 : Pp.goE G x l r now [p] = 0) (h1 : 0 ≤ size) (h2 : size ≤ 300) (h3 : x < 1099511627776) (h4 : 20 ≤ (Pp.swL now G).length) :
    Calls Tryz.prog 107 #[.agg #[v, .int .i64 x, .int .i64 l, .int .i64 r], .string p, .int .i64 size, .int .i64 now] w fun e w' => e = .returned (.tuple #[.agg #[.slice none 0 0, .int .i64 0, .int .i64 0, .int .i64 0], .int .i64 0, .int .i64 2]) ∧ Below w.heap.size w w' := by
  have HV := ghid hv
  have HS := ghid hs
  clear hv hs
  obtain ⟨w3, hw3⟩ : ∃ w3, w3 = ((w.alloc (.cells #[v, .int .i64 x, .int .i64 l, .int .i64 r] 26)).alloc (.cells #[.slice none 0 0, .int .i64 0, .int .i64 0, .int .i64 0] 26)).alloc (.cells #[.string p] 9) := ⟨_, rfl⟩
  have B3 : Hid (Below w.heap.size w w3) := (by rw [hw3]; exact (((Below.refl _ _).alloc (Nat.le_refl _) _).alloc (by simp) _).alloc (by simp; omega) _ : Below w.heap.size w w3)
  have HR3 : Hid (Bx w3 (w.heap.size + 1) (.slice none 0 0) (.int .i64 0) (.int .i64 0) (.int .i64 0)) := (by
    have := (Bx.new (w.alloc (.cells #[v, .int .i64 x, .int .i64 l, .int .i64 r] 26)) (.slice none 0 0) (.int .i64 0) (.int .i64 0) (.int .i64 0) 26).below ((Below.refl _ _).alloc (Nat.le_refl _) (.cells #[.string p] 9))
    rw [hw3]; simpa using this : Bx w3 (w.heap.size + 1) (.slice none 0 0) (.int .i64 0) (.int .i64 0) (.int .i64 0))
  have HN3 : Hid (Nms w3 (.slice (some ⟨w.heap.size + 2, 0, none⟩) 1 1) [p]) := (Or.inr ⟨w.heap.size + 2, 1, rfl, by rw [hw3]; simp, fun i hi => by
    match i, hi with
    | 0, _ => rw [hw3]; simp [go_sem]⟩ : Nms w3 (.slice (some ⟨w.heap.size + 2, 0, none⟩) 1 1) [p])
  have hsz3 : w3.heap.size = w.heap.size + 3 := by rw [hw3]; simp
  have hns : ∀ s ∈ [p], s.size ≤ 150000000000000 := fun s h => by rw [List.mem_singleton.1 h]; exact hp
  have H0 := ghid h0
  obtain ⟨huc, ⟨hn1, hn2⟩, _⟩ := Pp.go_zero h0
  obtain ⟨hl20, ⟨hl1, hl2⟩, ⟨hr1, hr2⟩, hx1, hx2⟩ := Pp.bnd_zero (Pp.uch_zero huc).1
  have hsw := Pp.swL_len now G
  have HSI : Hid (∀ s ∈ Pp.swL now G, 0 ≤ s.si ∧ s.si ≤ 300) := (fun s h => Pp.ses_si (Pp.uch_zero huc).2.1 s (List.mem_filter.1 h).1 : ∀ s ∈ Pp.swL now G, 0 ≤ s.si ∧ s.si ≤ 300)
  clear h0 huc
  have h20 : 20 ≤ ((Pp.swL now G).length : Int) := by omega
  go_enter Tryz.func107, Tryz.ntmps107
  go_wp2_with fail
  rw [← hw3]
  clear hw3
  refine (going_any G _ x l r now [p] _ _ (HV.out.below B3.out) HS.out HN3.out hns (by simp)).mono ?_
  rintro e w4 (⟨hne, _⟩ | ⟨_, u, rfl, hown, hb4⟩)
  · exact absurd H0.out hne
  have hb04 := B3.out.trans (hb4.mono B3.out.size)
  have hR4 := HR3.out.below hb4
  have hsz4 := hb4.size
  have HOWN := ghid hown
  clear hb4 hown
  obtain ⟨a4, cap4, rfl, hc4, _, _⟩ := HOWN.out.lies (by omega)
  obtain ⟨hRb, ⟨c0, c1, c2, c3⟩, f0, f1, f2, f3⟩ := hR4
  go_wp2_with fail
  refine bodyPost_ret (v := .tuple #[.agg #[.slice none 0 0, .int .i64 0, .int .i64 0, .int .i64 0], .int .i64 0, .int .i64 2]) (by simp [results, Tryz.results107, go_sem, c0, c1, c2, c3, hRb]) rfl ⟨rfl, ?_⟩
  exact (below_set4 (b := w.heap.size + 1) (hb04) (by omega)).alloc (by simp; omega) _
end Go.Proofs.YtmdkecdhgjjceaaGreat
set_option linter.unusedSimpArgs false
set_option linter.unusedVariables false
namespace Go.Proofs.YtmdkecdhgjjceaaGreat
open Go.RowKit

set_option maxRecDepth 100000 in
set_option maxHeartbeats 4000000 in
theorem open_e6 (G : List Se) (v : Value) (x l r : Int) (p : ByteArray) (size now : Int) (w : World) (hv : LiesS w v G) (hs : SizedS G) (hp : p.size ≤ 150000000000000) (h0 : Pp.goE G x l r now [p] = 0) (h1 : 0 ≤ size) (h2 : size ≤ 300) (h3 : x < 1099511627776) (h4 : (Pp.swL now G).length < 20) (h5 : r < Pp.takS (Pp.swL now G) p + size) :
    Calls Tryz.prog 107 #[.agg #[v, .int .i64 x, .int .i64 l, .int .i64 r], .string p, .int .i64 size, .int .i64 now] w fun e w' => e = .returned (.tuple #[.agg #[.slice none 0 0, .int .i64 0, .int .i64 0, .int .i64 0], .int .i64 0, .int .i64 10]) ∧ Below w.heap.size w w' := by
  have HV := ghid hv
  have HS := ghid hs
  clear hv hs
  obtain ⟨w3, hw3⟩ : ∃ w3, w3 = ((w.alloc (.cells #[v, .int .i64 x, .int .i64 l, .int .i64 r] 26)).alloc (.cells #[.slice none 0 0, .int .i64 0, .int .i64 0, .int .i64 0] 26)).alloc (.cells #[.string p] 9) := ⟨_, rfl⟩
  have B3 : Hid (Below w.heap.size w w3) := (by rw [hw3]; exact (((Below.refl _ _).alloc (Nat.le_refl _) _).alloc (by simp) _).alloc (by simp; omega) _ : Below w.heap.size w w3)
  have HR3 : Hid (Bx w3 (w.heap.size + 1) (.slice none 0 0) (.int .i64 0) (.int .i64 0) (.int .i64 0)) := (by
    have := (Bx.new (w.alloc (.cells #[v, .int .i64 x, .int .i64 l, .int .i64 r] 26)) (.slice none 0 0) (.int .i64 0) (.int .i64 0) (.int .i64 0) 26).below ((Below.refl _ _).alloc (Nat.le_refl _) (.cells #[.string p] 9))
    rw [hw3]; simpa using this : Bx w3 (w.heap.size + 1) (.slice none 0 0) (.int .i64 0) (.int .i64 0) (.int .i64 0))
  have HN3 : Hid (Nms w3 (.slice (some ⟨w.heap.size + 2, 0, none⟩) 1 1) [p]) := (Or.inr ⟨w.heap.size + 2, 1, rfl, by rw [hw3]; simp, fun i hi => by
    match i, hi with
    | 0, _ => rw [hw3]; simp [go_sem]⟩ : Nms w3 (.slice (some ⟨w.heap.size + 2, 0, none⟩) 1 1) [p])
  have hsz3 : w3.heap.size = w.heap.size + 3 := by rw [hw3]; simp
  have hns : ∀ s ∈ [p], s.size ≤ 150000000000000 := fun s h => by rw [List.mem_singleton.1 h]; exact hp
  have H0 := ghid h0
  obtain ⟨huc, ⟨hn1, hn2⟩, _⟩ := Pp.go_zero h0
  obtain ⟨hl20, ⟨hl1, hl2⟩, ⟨hr1, hr2⟩, hx1, hx2⟩ := Pp.bnd_zero (Pp.uch_zero huc).1
  have hsw := Pp.swL_len now G
  have HSI : Hid (∀ s ∈ Pp.swL now G, 0 ≤ s.si ∧ s.si ≤ 300) := (fun s h => Pp.ses_si (Pp.uch_zero huc).2.1 s (List.mem_filter.1 h).1 : ∀ s ∈ Pp.swL now G, 0 ≤ s.si ∧ s.si ≤ 300)
  clear h0 huc
  have h20 : ¬ 20 ≤ ((Pp.swL now G).length : Int) := by omega
  go_enter Tryz.func107, Tryz.ntmps107
  go_wp2_with fail
  rw [← hw3]
  clear hw3
  refine (going_any G _ x l r now [p] _ _ (HV.out.below B3.out) HS.out HN3.out hns (by simp)).mono ?_
  rintro e w4 (⟨hne, _⟩ | ⟨_, u, rfl, hown, hb4⟩)
  · exact absurd H0.out hne
  have hb04 := B3.out.trans (hb4.mono B3.out.size)
  have hR4 := HR3.out.below hb4
  have hsz4 := hb4.size
  have HOWN := ghid hown
  clear hb4 hown
  obtain ⟨a4, cap4, rfl, hc4, _, _⟩ := HOWN.out.lies (by omega)
  have htk := Pp.takS_bound p HSI.out
  obtain ⟨M, hM⟩ : ∃ M, M = Pp.swL now G := ⟨_, rfl⟩
  rw [← hM] at HSI HOWN h20 h5 hsw htk hc4 h4
  have hMl : M.length ≤ 1000 := by omega
  have hT1 : 0 ≤ Pp.takS M p := htk.1
  have hT2 : Pp.takS M p ≤ 6000 := by have := htk.2; omega
  have hwr : IntKind.i64.wrap (Pp.takS M p + size) = Pp.takS M p + size := by rw [IntKind.wrap_i64]; omega
  clear htk
  obtain ⟨wz, hwz⟩ : ∃ wz, wz = w4.alloc (.cells #[.slice a4 M.length cap4, .int .i64 x, .int .i64 l, .int .i64 r] 26) := ⟨_, rfl⟩
  have hbz : Below w4.heap.size w4 wz := by rw [hwz]; exact (Below.refl _ _).alloc (Nat.le_refl _) _
  have hGz : Bx wz w4.heap.size (.slice a4 M.length cap4) (.int .i64 x) (.int .i64 l) (.int .i64 r) := by rw [hwz]; exact Bx.new _ _ _ _ _ _
  have hRz := hR4.below hbz
  have hb0z := hb04.trans (hbz.mono hb04.size)
  have HOZ := ghid (HOWN.out.below hbz)
  have hszz := hbz.size
  rw [← hM]
  clear hM HOWN hR4 hb04 hbz
  have HGZ := ghid hGz
  obtain ⟨hGb, ⟨q0, q1, q2, q3⟩, k0, k1, k2, k3⟩ := hGz
  have hGb0 := hGb
  go_wp2_with fail
  rw [← hwz]
  clear hwz
  go_region_held3 (fun W => W.cell? ⟨w4.heap.size, 0, none⟩ = some (.slice a4 M.length cap4) ∧ W.cell? ⟨w4.heap.size, 3, none⟩ = some (.int .i64 r)) (go_keep) (first
    | (go_at_call 89; refine (taken_any M _ p _ ((HOZ.out.lies hMl).below (Below.refl _ _).drew) hMl HSI.out).mono ?_; rintro e wa ⟨rfl, hba⟩; have j0 := (hba.cell (p := ⟨w4.heap.size, 0, none⟩) hGb).trans q0; have j3 := (hba.cell (p := ⟨w4.heap.size, 3, none⟩) hGb).trans q3))
  all_goals
    have hbza : Below wz.heap.size wz wa := (Below.refl _ _).drew.trans hba
    have hb0a := hb0z.trans (hbza.mono hb0z.size)
    obtain ⟨hRb, ⟨c0, c1, c2, c3⟩, f0, f1, f2, f3⟩ := hRz.below hbza
    have hsza := hbza.size
    clear hba hbza hRz q0 q1 q2 q3
    generalize Pp.takS M p = T at *
    go_wp2_with fail
    refine bodyPost_ret (v := .tuple #[.agg #[.slice none 0 0, .int .i64 0, .int .i64 0, .int .i64 0], .int .i64 0, .int .i64 10]) (by simp [results, Tryz.results107, go_sem, c0, c1, c2, c3, hRb]) rfl ⟨rfl, ?_⟩
    exact below_set4 (b := w.heap.size + 1) (hb0a) (by omega)
end Go.Proofs.YtmdkecdhgjjceaaGreat
set_option linter.unusedSimpArgs false
set_option linter.unusedVariables false
namespace Go.Proofs.YtmdkecdhgjjceaaGreat
open Go.RowKit

theorem OwnS.row {B : Nat} {w : World} {u : Value} {L : List Se} (h : OwnS B w u L) : w.ownsRow B 70 5 u L.length (Pp.flatS L) := by
  rcases h with ⟨rfl, rfl⟩ | ⟨g, cap, rfl, h2, h3, h4, h5, h6⟩
  · exact World.ownsRow_nil _ _ _ _
  · exact own_rowS h4 h5 h3 h6 h2
theorem OwnS.nb {B b : Nat} {w w' : World} {u : Value} {L : List Se} (h : OwnS B w u L) (hw : w.grownBy w' (some b)) (hb : b < B) : OwnS B w' u L := by
  rcases h with h | ⟨g, cap, h1, h2, h3, h4, h5, h6⟩
  · exact Or.inl h
  · exact Or.inr ⟨g, cap, h1, h2, h3, h4.nb hw (by omega), h5.nb hw (by omega), h6⟩
theorem ownS_of {B : Nat} {w : World} {u : Value} {L : List Se} (h : w.ownsRow B 70 5 u L.length (Pp.flatS L)) : OwnS B w u L := by
  have h' := h
  obtain ⟨_, h2⟩ := h
  rcases h2 with ⟨rfl, hz⟩ | ⟨g, cap, cur, rfl, hg, hh, hn2, hm, hz, htake⟩
  · exact Or.inl ⟨rfl, List.length_eq_zero_iff.1 hz⟩
  · exact Or.inr ⟨g, cap, rfl, hg, hn2, rowS_own h' rfl, ⟨cur, hh, hz⟩, hm⟩
theorem new_cellsS (w : World) (e : Se) (T : TypeId) : ∀ j u, (Pp.cellsS e)[j]? = some u → (w.alloc (.cells #[.int .i64 e.nu, .string e.wh, .string e.tx, .int .i64 e.si, .int .i64 e.ti] T)).cell? ((⟨w.heap.size, 0, none⟩ : Addr).add j) = some u := by
  intro j u hj
  match j, hj with
  | 0, hj => simp [Pp.cellsS] at hj; subst hj; simp [Addr.add]
  | 1, hj => simp [Pp.cellsS] at hj; subst hj; simp [Addr.add]
  | 2, hj => simp [Pp.cellsS] at hj; subst hj; simp [Addr.add]
  | 3, hj => simp [Pp.cellsS] at hj; subst hj; simp [Addr.add]
  | 4, hj => simp [Pp.cellsS] at hj; subst hj; simp [Addr.add]
  | j + 5, hj => simp [Pp.cellsS] at hj
theorem Bx.gr {W W' : World} {b : Nat} {row : Option Nat} {a0 a1 a2 a3 : Value} (h : Bx W b a0 a1 a2 a3) (hw : W.grownBy W' row) (hne : row ≠ some b) : Bx W' b a0 a1 a2 a3 := by
  obtain ⟨hb, ⟨c0, c1, c2, c3⟩, f0, f1, f2, f3⟩ := h
  have k : W'.heap[b]? = W.heap[b]? := hw.block b hb (fun e => hne e.symm)
  exact ⟨Nat.lt_of_lt_of_le hb hw.size, ⟨(World.cell?_of_block (a := ⟨b, 0, none⟩) k).trans c0, (World.cell?_of_block (a := ⟨b, 1, none⟩) k).trans c1, (World.cell?_of_block (a := ⟨b, 2, none⟩) k).trans c2, (World.cell?_of_block (a := ⟨b, 3, none⟩) k).trans c3⟩, (World.frozen?_of_block (a := ⟨b, 0, none⟩) k).trans f0, (World.frozen?_of_block (a := ⟨b, 1, none⟩) k).trans f1, (World.frozen?_of_block (a := ⟨b, 2, none⟩) k).trans f2, (World.frozen?_of_block (a := ⟨b, 3, none⟩) k).trans f3⟩

set_option maxRecDepth 100000 in
set_option maxHeartbeats 4000000 in
theorem open_k (G : List Se) (v : Value) (x l r : Int) (p : ByteArray) (size now : Int) (w : World) (hv : LiesS w v G) (hs : SizedS G) (hp : p.size ≤ 150000000000000) (h0 : Pp.goE G x l r now [p] = 0) (h1 : 0 ≤ size) (h2 : size ≤ 300) (h3 : x < 1099511627776) (h4 : (Pp.swL now G).length < 20) (h5 : Pp.takS (Pp.swL now G) p + size ≤ r) :
    Calls Tryz.prog 107 #[.agg #[v, .int .i64 x, .int .i64 l, .int .i64 r], .string p, .int .i64 size, .int .i64 now] w fun e w' => ∃ u, e = .returned (.tuple #[.agg #[u, .int .i64 (x + 1), .int .i64 l, .int .i64 r], .int .i64 x, .int .i64 0]) ∧ OwnS w.heap.size w' u (Pp.swL now G ++ [Pp.newS x p size (now + l)]) ∧ Below w.heap.size w w' := by
  have HV := ghid hv
  have HS := ghid hs
  clear hv hs
  obtain ⟨w3, hw3⟩ : ∃ w3, w3 = ((w.alloc (.cells #[v, .int .i64 x, .int .i64 l, .int .i64 r] 26)).alloc (.cells #[.slice none 0 0, .int .i64 0, .int .i64 0, .int .i64 0] 26)).alloc (.cells #[.string p] 9) := ⟨_, rfl⟩
  have B3 : Hid (Below w.heap.size w w3) := (by rw [hw3]; exact (((Below.refl _ _).alloc (Nat.le_refl _) _).alloc (by simp) _).alloc (by simp; omega) _ : Below w.heap.size w w3)
  have HR3 : Hid (Bx w3 (w.heap.size + 1) (.slice none 0 0) (.int .i64 0) (.int .i64 0) (.int .i64 0)) := (by
    have := (Bx.new (w.alloc (.cells #[v, .int .i64 x, .int .i64 l, .int .i64 r] 26)) (.slice none 0 0) (.int .i64 0) (.int .i64 0) (.int .i64 0) 26).below ((Below.refl _ _).alloc (Nat.le_refl _) (.cells #[.string p] 9))
    rw [hw3]; simpa using this : Bx w3 (w.heap.size + 1) (.slice none 0 0) (.int .i64 0) (.int .i64 0) (.int .i64 0))
  have HN3 : Hid (Nms w3 (.slice (some ⟨w.heap.size + 2, 0, none⟩) 1 1) [p]) := (Or.inr ⟨w.heap.size + 2, 1, rfl, by rw [hw3]; simp, fun i hi => by
    match i, hi with
    | 0, _ => rw [hw3]; simp [go_sem]⟩ : Nms w3 (.slice (some ⟨w.heap.size + 2, 0, none⟩) 1 1) [p])
  have hsz3 : w3.heap.size = w.heap.size + 3 := by rw [hw3]; simp
  have hns : ∀ s ∈ [p], s.size ≤ 150000000000000 := fun s h => by rw [List.mem_singleton.1 h]; exact hp
  obtain ⟨i0, hi0, hz0, hz1, hz2⟩ := info_parts Tryz.infoSe
  have H0 := ghid h0
  obtain ⟨huc, ⟨hn1, hn2⟩, _⟩ := Pp.go_zero h0
  obtain ⟨hl20, ⟨hl1, hl2⟩, ⟨hr1, hr2⟩, hx1, hx2⟩ := Pp.bnd_zero (Pp.uch_zero huc).1
  have hsw := Pp.swL_len now G
  have HSI : Hid (∀ s ∈ Pp.swL now G, 0 ≤ s.si ∧ s.si ≤ 300) := (fun s h => Pp.ses_si (Pp.uch_zero huc).2.1 s (List.mem_filter.1 h).1 : ∀ s ∈ Pp.swL now G, 0 ≤ s.si ∧ s.si ≤ 300)
  clear h0 huc
  have h20 : ¬ 20 ≤ ((Pp.swL now G).length : Int) := by omega
  go_enter Tryz.func107, Tryz.ntmps107
  go_wp2_with fail
  rw [← hw3]
  clear hw3
  refine (going_any G _ x l r now [p] _ _ (HV.out.below B3.out) HS.out HN3.out hns (by simp)).mono ?_
  rintro e w4 (⟨hne, _⟩ | ⟨_, u, rfl, hown, hb4⟩)
  · exact absurd H0.out hne
  have hb04 := B3.out.trans (hb4.mono B3.out.size)
  have hR4 := HR3.out.below hb4
  have hsz4 := hb4.size
  have HOWN := ghid hown
  clear hb4 hown
  obtain ⟨a4, cap4, rfl, hc4, _, _⟩ := HOWN.out.lies (by omega)
  have htk := Pp.takS_bound p HSI.out
  obtain ⟨M, hM⟩ : ∃ M, M = Pp.swL now G := ⟨_, rfl⟩
  rw [← hM] at HSI HOWN h20 h5 hsw htk hc4 h4
  have hMl : M.length ≤ 1000 := by omega
  have hT1 : 0 ≤ Pp.takS M p := htk.1
  have hT2 : Pp.takS M p ≤ 6000 := by have := htk.2; omega
  have hwr : IntKind.i64.wrap (Pp.takS M p + size) = Pp.takS M p + size := by rw [IntKind.wrap_i64]; omega
  clear htk
  obtain ⟨wz, hwz⟩ : ∃ wz, wz = w4.alloc (.cells #[.slice a4 M.length cap4, .int .i64 x, .int .i64 l, .int .i64 r] 26) := ⟨_, rfl⟩
  have hbz : Below w4.heap.size w4 wz := by rw [hwz]; exact (Below.refl _ _).alloc (Nat.le_refl _) _
  have hGz : Bx wz w4.heap.size (.slice a4 M.length cap4) (.int .i64 x) (.int .i64 l) (.int .i64 r) := by rw [hwz]; exact Bx.new _ _ _ _ _ _
  have hRz := hR4.below hbz
  have hb0z := hb04.trans (hbz.mono hb04.size)
  have HOZ := ghid (HOWN.out.below hbz)
  have hszz := hbz.size
  have hOB : ∀ q, (Value.slice a4 M.length cap4).ownBlock = some q → w3.heap.size ≤ q ∧ q < w4.heap.size := fun q hq => HOWN.out.row.lt q hq
  have HOB := ghid hOB
  have HMM := ghid hM
  rw [← hM]
  clear hM HOWN hR4 hb04 hbz hOB
  have HGZ := ghid hGz
  obtain ⟨hGb, ⟨q0, q1, q2, q3⟩, k0, k1, k2, k3⟩ := hGz
  have hGb0 := hGb
  go_wp2_with fail
  rw [← hwz]
  clear hwz
  go_region_held3 (fun W => W.cell? ⟨w4.heap.size, 0, none⟩ = some (.slice a4 M.length cap4) ∧ W.cell? ⟨w4.heap.size, 3, none⟩ = some (.int .i64 r)) (go_keep) (first
    | (go_at_call 89; refine (taken_any M _ p _ ((HOZ.out.lies hMl).below (Below.refl _ _).drew) hMl HSI.out).mono ?_; rintro e wa ⟨rfl, hba⟩; have j0 := (hba.cell (p := ⟨w4.heap.size, 0, none⟩) hGb).trans q0; have j3 := (hba.cell (p := ⟨w4.heap.size, 3, none⟩) hGb).trans q3))
  all_goals
    have hbza : Below wz.heap.size wz wa := (Below.refl _ _).drew.trans hba
    have hb0a := hb0z.trans (hbza.mono hb0z.size)
    have HRA := ghid (hRz.below hbza)
    have HGA := ghid (HGZ.out.below hbza)
    have HOA := ghid (HOZ.out.below hbza)
    have hsza := hbza.size
    clear hba hbza hRz q0 q1 q2 q3
    generalize Pp.takS M p = T at *
    obtain ⟨hGb2, ⟨q0, q1, q2, q3⟩, _⟩ := HGA.out
    obtain ⟨wt, hwt⟩ : ∃ wt, wt = (wa.alloc (.cells #[.int .i64 x, .string p, .string ⟨#[]⟩, .int .i64 size, .int .i64 (now + l)] 70)).alloc (.cells #[.int .i64 x, .string p, .string ⟨#[]⟩, .int .i64 size, .int .i64 (now + l)] 70) := ⟨_, rfl⟩
    have hbt : Below wa.heap.size wa wt := by rw [hwt]; exact ((Below.refl _ _).alloc (Nat.le_refl _) _).alloc (by simp) _
    have hrow : wt.ownsRow w3.heap.size 70 5 (.slice a4 M.length cap4) M.length (Pp.flatS M) := by rw [hwt]; exact (HOA.out.row.alloc _).alloc _
    have hnews : ∀ j u, (Pp.cellsS (Pp.newS x p size (now + l)))[j]? = some u → wt.cell? ((⟨wa.heap.size + 1, 0, none⟩ : Addr).add j) = some u := by
      intro j u hj
      have := new_cellsS (wa.alloc (.cells #[.int .i64 x, .string p, .string ⟨#[]⟩, .int .i64 size, .int .i64 (now + l)] 70)) (Pp.newS x p size (now + l)) 70 j u hj
      rw [hwt]
      simpa [Pp.newS] using this
    have s0 : wt.cell? ⟨wa.heap.size, 0, none⟩ = some (.int .i64 x) := by rw [hwt]; simp [go_sem]
    have hszt : wt.heap.size = wa.heap.size + 2 := by rw [hwt]; simp
    have HRT := ghid (HRA.out.below hbt)
    have HGT := ghid (HGA.out.below hbt)
    have hb0t := hb0a.trans (hbt.mono hb0a.size)
    have HROWT := ghid hrow
    have HNEWS := ghid hnews
    clear hnews hrow HRA HOA hbt
    go_wp2_with (at_builtin; rw [← hwt]; refine wpList_append_own _ rfl _ _ 24 rfl w3.heap.size 70 i0 (.agg #[.int .i64 0, .string ⟨#[]⟩, .string ⟨#[]⟩, .int .i64 0, .int .i64 0]) 5 56 Tryz.underlying24 hi0 hz0 hz1 hz2 rfl (by decide) _ _ _ rfl HROWT.out ⟨wa.heap.size + 1, 0, none⟩ 1 1 (Pp.cellsS (Pp.newS x p size (now + l))) rfl rfl HNEWS.out (Pp.cellsS_one _) (by unfold maxLen; omega) (by omega) (by omega) ?_)
    intro v2 w2 ho2 hgr2 hnn2
    rw [← hwt] at hgr2
    have hne : ∀ b, b < w3.heap.size ∨ w4.heap.size ≤ b → (Value.slice a4 M.length cap4).ownBlock ≠ some b := fun b hb e => by
      have := HOB.out b e
      omega
    have HR2 := ghid (HRT.out.gr hgr2 (hne _ (Or.inl (by omega))))
    have HG2 := ghid (HGT.out.gr hgr2 (hne _ (Or.inr (Nat.le_refl _))))
    have s2 : w2.cell? ⟨wa.heap.size, 0, none⟩ = some (.int .i64 x) := (World.cell?_of_block (w := wt) (a := ⟨wa.heap.size, 0, none⟩) (hgr2.block _ (by show wa.heap.size < wt.heap.size; omega) (fun e => hne wa.heap.size (Or.inr (by omega)) e.symm))).trans s0
    have hb02 : Below w.heap.size w w2 := hb0t.grown hgr2 hb0t.size (fun k hk => by have := (HOB.out k hk).1; omega)
    rw [Pp.flatS_snoc] at ho2
    have ho3 : w2.ownsRow w3.heap.size 70 5 v2 (M ++ [Pp.newS x p size (now + l)]).length (Pp.flatS (M ++ [Pp.newS x p size (now + l)])) := by rw [List.length_append, hsz3]; exact ho2
    have HO2 := ghid (ownS_of ho3)
    obtain ⟨g5, cap5, hv2⟩ : ∃ g5 cap5, v2 = .slice (some ⟨g5, 0, none⟩) (M ++ [Pp.newS x p size (now + l)]).length cap5 := by
      rcases HO2.out with ⟨_, hnil⟩ | ⟨g5, cap5, h5, _⟩
      · simp at hnil
      · exact ⟨g5, cap5, h5⟩
    subst hv2
    have hgne : g5 ≠ w4.heap.size := fun e => by
      have h9 := (rowS_own ho3 rfl).2 0 (by simp) 0 (by decide)
      have h10 := HG2.out.2.1.1
      rw [← e] at h10
      have h11 := h9.1
      rw [show (0 * 5 + 0 : Nat) = 0 from rfl, h10] at h11
      simp [Pp.cellsS] at h11
    have HGNE := ghid hgne
    have hsz2 := hgr2.size
    clear ho2 ho3 hgr2 hnn2 s0 hwt q0 q1 q2 q3 hGb hGb2 k0 k1 k2 k3
    obtain ⟨g5lt, g5ne⟩ : w3.heap.size ≤ g5 ∧ g5 < w2.heap.size ∧ OwnS w3.heap.size w2 (.slice (some ⟨g5, 0, none⟩) (M ++ [Pp.newS x p size (now + l)]).length cap5) (M ++ [Pp.newS x p size (now + l)]) := ⟨(HO2.out.row.lt g5 rfl).1, (HO2.out.row.lt g5 rfl).2, HO2.out⟩
    obtain ⟨hRb, ⟨c0, c1, c2, c3⟩, f0, f1, f2, f3⟩ := HR2.out
    obtain ⟨hGb, ⟨q0, q1, q2, q3⟩, k0, k1, k2, k3⟩ := HG2.out
    obtain ⟨wq, hwq⟩ : ∃ wq, wq = (w2.setCell ⟨w4.heap.size, 0, none⟩ (.slice (some ⟨g5, 0, none⟩) (M.length + 1) cap5)).setCell ⟨w4.heap.size, 1, none⟩ (.int .i64 (x + 1)) := ⟨_, rfl⟩
    have hnbq : w2.grownBy wq (some w4.heap.size) := by rw [hwq]; exact Nb.trans (Nb.setCell _ _ _ _) (Nb.setCell _ _ _ _)
    have HRQ := ghid (HR2.out.nb hnbq (by omega))
    have y0 : wq.cell? ⟨w4.heap.size, 0, none⟩ = some (.slice (some ⟨g5, 0, none⟩) (M.length + 1) cap5) := by rw [hwq]; simp [go_sem, q0, q1]
    have y1 : wq.cell? ⟨w4.heap.size, 1, none⟩ = some (.int .i64 (x + 1)) := by rw [hwq]; simp [go_sem, q0, q1]
    have y2 : wq.cell? ⟨w4.heap.size, 2, none⟩ = some (.int .i64 l) := by rw [hwq]; simp [go_sem, q2]
    have y3 : wq.cell? ⟨w4.heap.size, 3, none⟩ = some (.int .i64 r) := by rw [hwq]; simp [go_sem, q3]
    have sq : wq.cell? ⟨wa.heap.size, 0, none⟩ = some (.int .i64 x) := (Nb.cell hnbq (p := ⟨wa.heap.size, 0, none⟩) (by show wa.heap.size < w2.heap.size; omega) (by show wa.heap.size ≠ w4.heap.size; omega)).trans s2
    have hb0q : Below w.heap.size w wq := hb02.trans (Nb.to hnbq hb02.size (by omega))
    have hoq : OwnS w3.heap.size wq (.slice (some ⟨g5, 0, none⟩) (M.length + 1) cap5) (M ++ [Pp.newS x p size (now + l)]) := by
      rcases HO2.out with ⟨h5, _⟩ | ⟨g6, cap6, h5, h6, h7, h8, h9, h10⟩
      · cases h5
      · injection h5 with h5a h5b h5c
        injection h5a with h5a
        injection h5a with h5d
        subst h5d; subst h5c
        have hgne : g5 ≠ w4.heap.size := HGNE.out
        exact Or.inr ⟨g5, cap5, by simp, h6, h7, h8.nb hnbq hgne, h9.nb hnbq hgne, h10⟩
    have HOQ := ghid hoq
    have hszq := hnbq.size
    go_wp2_with fail
    rw [← hwq]
    clear hwq hnbq q0 q1 q2 q3 k0 k1 k2 k3 c0 c1 c2 c3 f0 f1 f2 f3 s2 hoq hRb hb02
    obtain ⟨hRb, ⟨c0, c1, c2, c3⟩, f0, f1, f2, f3⟩ := HRQ.out
    go_region
    go_wp2_with fail
    refine bodyPost_ret (v := .tuple #[.agg #[.slice (some ⟨g5, 0, none⟩) (M.length + 1) cap5, .int .i64 (x + 1), .int .i64 l, .int .i64 r], .int .i64 x, .int .i64 0]) (by simp [results, Tryz.results107, go_sem, c0, c1, c2, c3, hRb]) rfl ⟨_, rfl, ?_, ?_⟩
    · rw [← HMM.out]
      exact ((HOQ.out.nb (Nb.set4 _ (w.heap.size + 1) _ _ _ _) (by omega)).below (Below.refl _ _).drew).mono (by omega)
    · exact (below_set4 (b := w.heap.size + 1) hb0q (by omega)).drew


theorem open_any (G : List Se) (v : Value) (x l r : Int) (p : ByteArray) (size now : Int) (w : World) (hv : LiesS w v G) (hs : SizedS G) (hp : p.size ≤ 150000000000000) :
    Calls Tryz.prog 107 #[.agg #[v, .int .i64 x, .int .i64 l, .int .i64 r], .string p, .int .i64 size, .int .i64 now] w fun e w' => (¬ Pp.opE G x l r p size now = 0 ∧ e = .returned (.tuple #[.agg #[.slice none 0 0, .int .i64 0, .int .i64 0, .int .i64 0], .int .i64 0, .int .i64 (Pp.opE G x l r p size now)]) ∧ Below w.heap.size w w') ∨
      (Pp.opE G x l r p size now = 0 ∧ ∃ u, e = .returned (.tuple #[.agg #[u, .int .i64 (x + 1), .int .i64 l, .int .i64 r], .int .i64 x, .int .i64 0]) ∧ OwnS w.heap.size w' u (Pp.swL now G ++ [Pp.newS x p size (now + l)]) ∧ Below w.heap.size w w') := by
  rcases Pp.op_cases G x l r p size now with ⟨h0, hE⟩ | ⟨h0, h1, hE⟩ | ⟨h0, h1, h2, hE⟩ | ⟨h0, h1, h2, h3, hE⟩ | ⟨h0, h1, h2, h3, h4, hE⟩ | ⟨h0, h1, h2, h3, h4, h5, hE⟩ | ⟨h0, h1, h2, h3, h4, h5, hE⟩
  · rw [hE]; exact (open_e1 G v x l r p size now w hv hs hp h0).mono fun e w' h => Or.inl ⟨h0, h⟩
  · rw [hE]; exact (open_e2 G v x l r p size now w hv hs hp h0 h1).mono fun e w' h => Or.inl ⟨by decide, h⟩
  · rw [hE]; exact (open_e3 G v x l r p size now w hv hs hp h0 h1 h2).mono fun e w' h => Or.inl ⟨by decide, h⟩
  · rw [hE]; exact (open_e4 G v x l r p size now w hv hs hp h0 h1 h2 h3).mono fun e w' h => Or.inl ⟨by decide, h⟩
  · rw [hE]; exact (open_e5 G v x l r p size now w hv hs hp h0 h1 h2 h3 h4).mono fun e w' h => Or.inl ⟨by decide, h⟩
  · rw [hE]; exact (open_e6 G v x l r p size now w hv hs hp h0 h1 h2 h3 h4 h5).mono fun e w' h => Or.inl ⟨by decide, h⟩
  · rw [hE]; exact (open_k G v x l r p size now w hv hs hp h0 h1 h2 h3 h4 h5).mono fun e w' h => Or.inr ⟨rfl, h⟩
end Go.Proofs.YtmdkecdhgjjceaaGreat
