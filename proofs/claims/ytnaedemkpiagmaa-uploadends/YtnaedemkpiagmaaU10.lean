/- What upload.find answers, errors too, for every uploads. -/
import Derived.Test.YtnaedemkpiagmaaU9d
set_option linter.unusedSimpArgs false
set_option linter.unusedVariables false
namespace Go.Proofs.Ytnaedemkpiagmaa
open Go.RowKit

namespace Pp
/-- Is a session somebody's, by a number? -/
def mine (n : Int) (p : ByteArray) (s : Se) : Bool := (s.nu == n) && (s.wh.toList == p.toList)
def fiE (G : List Se) (x l r : Int) (p : ByteArray) (n now : Int) : Int := if goE G x l r now [p] = 0 then (if idS (swL now G) (mine n p) < 0 then 5 else 0) else goE G x l r now [p]
theorem fi_cases (G : List Se) (x l r : Int) (p : ByteArray) (n now : Int) : (¬ goE G x l r now [p] = 0 ∧ fiE G x l r p n now = goE G x l r now [p]) ∨ (goE G x l r now [p] = 0 ∧ idS (swL now G) (mine n p) = -1 ∧ fiE G x l r p n now = 5) ∨ (goE G x l r now [p] = 0 ∧ fiE G x l r p n now = 0 ∧ ∃ k, k < (swL now G).length ∧ idS (swL now G) (mine n p) = (k : Int)) := by
  by_cases h0 : goE G x l r now [p] = 0
  · right
    have e : fiE G x l r p n now = if idS (swL now G) (mine n p) < 0 then 5 else 0 := if_pos h0
    rcases idS_cases (swL now G) (mine n p) with ⟨h1, _⟩ | ⟨k, hk, h1, _⟩
    · left; exact ⟨h0, h1, by rw [e, h1]; rfl⟩
    · right; exact ⟨h0, by rw [e, h1, if_neg (by omega)], k, hk, h1⟩
  · left; exact ⟨h0, if_neg h0⟩
end Pp

set_option maxHeartbeats 1000000 in
theorem find1_any (s : Se) (n : Int) (p : ByteArray) (b1 b2 : Nat) (w : World) (hb1 : b1 < w.heap.size) (hb2 : b2 < w.heap.size) (hc1 : w.cell? ⟨b1, 0, none⟩ = some (.int .i64 n)) (hc2 : w.cell? ⟨b2, 0, none⟩ = some (.string p)) :
    Calls Try.prog 36 #[.agg #[.int .i64 s.nu, .string s.wh, .string s.tx, .int .i64 s.si, .int .i64 s.ti], .pointer (some ⟨b1, 0, none⟩), .pointer (some ⟨b2, 0, none⟩)] w fun r w' => r = .returned (.bool (Pp.mine n p s)) ∧ Below w.heap.size w w' := by
  have k0 : ∀ o, (w.alloc o).cell? ⟨b1, 0, none⟩ = some (.int .i64 n) := fun o => (((Below.refl w.heap.size w).alloc (Nat.le_refl _) o).cell (p := ⟨b1, 0, none⟩) hb1).trans hc1
  have k1 : ∀ o, (w.alloc o).cell? ⟨b2, 0, none⟩ = some (.string p) := fun o => (((Below.refl w.heap.size w).alloc (Nat.le_refl _) o).cell (p := ⟨b2, 0, none⟩) hb2).trans hc2
  cases h1 : (s.nu == n) with
  | true =>
    have HE : Hid ((s.wh.toList == p.toList) = Pp.mine n p s) := (by rw [Pp.mine, h1]; rfl : (s.wh.toList == p.toList) = Pp.mine n p s)
    go_enter Try.func36, Try.ntmps36
    go_wp2
    go_ret
    exact ⟨Pp.ret_bool HE.out, (Below.refl _ _).alloc (Nat.le_refl _) _⟩
  | false =>
    have HE : Hid (false = Pp.mine n p s) := (by rw [Pp.mine, h1]; rfl : false = Pp.mine n p s)
    go_enter Try.func36, Try.ntmps36
    go_wp2
    go_ret
    exact ⟨Pp.ret_bool HE.out, (Below.refl _ _).alloc (Nat.le_refl _) _⟩

set_option maxRecDepth 100000 in
set_option maxHeartbeats 4000000 in
theorem find_any (G : List Se) (v : Value) (x l r : Int) (p : ByteArray) (n now : Int) (w : World) (hv : LiesS w v G) (hs : SizedS G) (hp : p.size ≤ 150000000000000) :
    Calls Try.prog 24 #[.agg #[v, .int .i64 x, .int .i64 l, .int .i64 r], .string p, .int .i64 n, .int .i64 now] w fun e w' => (¬ Pp.fiE G x l r p n now = 0 ∧ e = .returned (.tuple #[.agg #[.slice none 0 0, .int .i64 0, .int .i64 0, .int .i64 0], .int .i64 0, .int .i64 (Pp.fiE G x l r p n now)]) ∧ Below w.heap.size w w') ∨
      (Pp.fiE G x l r p n now = 0 ∧ ∃ u k, e = .returned (.tuple #[.agg #[u, .int .i64 x, .int .i64 l, .int .i64 r], .int .i64 (k : Nat), .int .i64 0]) ∧ k < (Pp.swL now G).length ∧ Pp.idS (Pp.swL now G) (Pp.mine n p) = k ∧ OwnS w.heap.size w' u (Pp.swL now G) ∧ Below w.heap.size w w') := by
  have HV := ghid hv
  have HS := ghid hs
  clear hv hs
  obtain ⟨w2, hw2⟩ : ∃ w2, w2 = ((w.alloc (.cells #[v, .int .i64 x, .int .i64 l, .int .i64 r] 24)).alloc (.cells #[.string p] 9)).alloc (.cells #[.int .i64 n] 3) := ⟨_, rfl⟩
  have hb2 : Below w.heap.size w w2 := by rw [hw2]; exact (((Below.refl _ _).alloc (Nat.le_refl _) _).alloc (by simp) _).alloc (by simp; omega) _
  have hsz2 : w2.heap.size = w.heap.size + 3 := by rw [hw2]; simp
  have p2 : w2.cell? ⟨w.heap.size + 1, 0, none⟩ = some (.string p) := by rw [hw2]; simp [go_sem]
  have n2 : w2.cell? ⟨w.heap.size + 2, 0, none⟩ = some (.int .i64 n) := by rw [hw2]; simp [go_sem]
  obtain ⟨w3, hw3⟩ : ∃ w3, w3 = (w2.alloc (.cells #[.slice none 0 0, .int .i64 0, .int .i64 0, .int .i64 0] 24)).alloc (.cells #[.string p] 9) := ⟨_, rfl⟩
  have hb23 : Below w2.heap.size w2 w3 := by rw [hw3]; exact ((Below.refl _ _).alloc (Nat.le_refl _) _).alloc (by simp) _
  have B3 := ghid (hb2.trans (hb23.mono hb2.size))
  have HR3 : Hid (Bx w3 (w.heap.size + 3) (.slice none 0 0) (.int .i64 0) (.int .i64 0) (.int .i64 0)) := (by
    have := (Bx.new w2 (.slice none 0 0) (.int .i64 0) (.int .i64 0) (.int .i64 0) 24).below ((Below.refl _ _).alloc (Nat.le_refl _) (.cells #[.string p] 9))
    rw [hw3]; rw [hsz2] at this; exact this : Bx w3 (w.heap.size + 3) (.slice none 0 0) (.int .i64 0) (.int .i64 0) (.int .i64 0))
  have hsz3 : w3.heap.size = w.heap.size + 5 := by rw [hw3]; simp [hsz2]
  have P3 := ghid ((hb23.cell (p := ⟨w.heap.size + 1, 0, none⟩) (by show w.heap.size + 1 < w2.heap.size; omega)).trans p2)
  have N3 := ghid ((hb23.cell (p := ⟨w.heap.size + 2, 0, none⟩) (by show w.heap.size + 2 < w2.heap.size; omega)).trans n2)
  have HN3 : Hid (Nms w3 (.slice (some ⟨w.heap.size + 4, 0, none⟩) 1 1) [p]) := (Or.inr ⟨w.heap.size + 4, 1, rfl, by omega, fun i hi => by
    match i, hi with
    | 0, _ =>
      have : ((w2.alloc (.cells #[.slice none 0 0, .int .i64 0, .int .i64 0, .int .i64 0] 24)).alloc (.cells #[.string p] 9)).cell? ⟨(w2.alloc (.cells #[.slice none 0 0, .int .i64 0, .int .i64 0, .int .i64 0] 24)).heap.size, 0, none⟩ = some (.string p) := by simp
      rw [hw3]
      simpa [hsz2] using this⟩ : Nms w3 (.slice (some ⟨w.heap.size + 4, 0, none⟩) 1 1) [p])
  have hns : ∀ s ∈ [p], s.size ≤ 150000000000000 := fun s h => by rw [List.mem_singleton.1 h]; exact hp
  rw [hw2] at hw3
  clear hb2 hb23 p2 n2 hsz2 hw2
  rcases Pp.fi_cases G x l r p n now with ⟨h0, hE⟩ | ⟨h0, h1, hE⟩ | ⟨h0, hE, k, hk, h1⟩
  · have HE := ghid hE
    have HNZ := ghid h0
    have hz : (Pp.goE G x l r now [p] == 0) = false := by simpa using h0
    clear hE h0
    go_enter Try.func24, Try.ntmps24
    go_wp2_with fail
    rw [← hw3]
    clear hw3
    refine (going_any G _ x l r now [p] _ _ (HV.out.below B3.out) HS.out HN3.out hns (by simp)).mono ?_
    rintro e w4 (⟨_, rfl, hb4⟩ | ⟨hh, _⟩)
    rotate_left
    · exact absurd hh HNZ.out
    have hb04 := B3.out.trans (hb4.mono B3.out.size)
    obtain ⟨hRb, ⟨c0, c1, c2, c3⟩, f0, f1, f2, f3⟩ := HR3.out.below hb4
    have hsz4 := hb4.size
    clear hb4
    generalize hy : Pp.goE G x l r now [p] = y at *
    go_wp2_with fail
    refine bodyPost_ret (v := .tuple #[.agg #[.slice none 0 0, .int .i64 0, .int .i64 0, .int .i64 0], .int .i64 0, .int .i64 y]) (by simp [results, Try.results24, go_sem, c0, c1, c2, c3, hRb]) rfl (Or.inl ⟨by rw [HE.out]; exact HNZ.out, by rw [HE.out], ?_⟩)
    exact (below_set4 (b := w.heap.size + 3) hb04 (by omega)).alloc (by simp; omega) _
  · have HE := ghid hE
    have H0 := ghid h0
    have HI := ghid h1
    have hl20 := (Pp.bnd_zero (Pp.uch_zero (Pp.go_zero h0).1).1).1
    have hsw := Pp.swL_len now G
    clear hE h0 h1
    go_enter Try.func24, Try.ntmps24
    go_wp2_with fail
    rw [← hw3]
    clear hw3
    refine (going_any G _ x l r now [p] _ _ (HV.out.below B3.out) HS.out HN3.out hns (by simp)).mono ?_
    rintro e w4 (⟨hne, _⟩ | ⟨_, u, rfl, hown, hb4⟩)
    · exact absurd H0.out hne
    have hb04 := B3.out.trans (hb4.mono B3.out.size)
    have hR4 := HR3.out.below hb4
    have P4 := ghid ((hb4.cell (p := ⟨w.heap.size + 1, 0, none⟩) (by show w.heap.size + 1 < w3.heap.size; omega)).trans P3.out)
    have N4 := ghid ((hb4.cell (p := ⟨w.heap.size + 2, 0, none⟩) (by show w.heap.size + 2 < w3.heap.size; omega)).trans N3.out)
    have hsz4 := hb4.size
    have HOWN := ghid hown
    clear hb4 hown
    obtain ⟨a5, cap5, hu5, _, _, _⟩ := HOWN.out.lies (by omega)
    subst hu5
    obtain ⟨wz, hwz⟩ : ∃ wz, wz = w4.alloc (.cells #[.slice a5 (Pp.swL now G).length cap5, .int .i64 x, .int .i64 l, .int .i64 r] 24) := ⟨_, rfl⟩
    have hbz : Below w4.heap.size w4 wz := by rw [hwz]; exact (Below.refl _ _).alloc (Nat.le_refl _) _
    have hGz : Bx wz w4.heap.size (.slice a5 (Pp.swL now G).length cap5) (.int .i64 x) (.int .i64 l) (.int .i64 r) := by rw [hwz]; exact Bx.new _ _ _ _ _ _
    have hRz := hR4.below hbz
    have hb0z := hb04.trans (hbz.mono hb04.size)
    have hOz := HOWN.out.below hbz
    have pz := (hbz.cell (p := ⟨w.heap.size + 1, 0, none⟩) (by show w.heap.size + 1 < w4.heap.size; omega)).trans P4.out
    have nz := (hbz.cell (p := ⟨w.heap.size + 2, 0, none⟩) (by show w.heap.size + 2 < w4.heap.size; omega)).trans N4.out
    have hszz := hbz.size
    have hTell : TellsS wz 0 36 #[.pointer (some ⟨w.heap.size + 2, 0, none⟩), .pointer (some ⟨w.heap.size + 1, 0, none⟩)] (Pp.mine n p) :=
      ⟨enters_of Try.func36 (by kernel_rfl) rfl, fun W hW s => find1_any s n p (w.heap.size + 2) (w.heap.size + 1) W (Nat.lt_of_lt_of_le (by omega) hW.size) (Nat.lt_of_lt_of_le (by omega) hW.size) ((Nb.cell hW (p := ⟨w.heap.size + 2, 0, none⟩) (by show w.heap.size + 2 < wz.heap.size; omega) (by show w.heap.size + 2 ≠ 0; omega)).trans nz) ((Nb.cell hW (p := ⟨w.heap.size + 1, 0, none⟩) (by show w.heap.size + 1 < wz.heap.size; omega) (by show w.heap.size + 1 ≠ 0; omega)).trans pz)⟩
    have HT := ghid hTell
    have HOZ := ghid hOz
    have HGZ := ghid hGz
    clear hTell hR4 hb04 hbz HOWN hOz
    obtain ⟨hGb, ⟨q0, q1, q2, q3⟩, k0, k1, k2, k3⟩ := hGz
    go_wp2_with fail
    rw [← hwz]
    clear hwz
    refine (sindexFunc_any (Pp.swL now G) _ 0 _ _ (Pp.mine n p) _ (HOZ.out.lies (by omega)) HT.out).mono ?_
    rintro e w5 ⟨rfl, hb5⟩
    rw [HI.out]
    have hb05 := hb0z.trans (hb5.mono hb0z.size)
    have hR5 := hRz.below hb5
    have HG5 := ghid (HGZ.out.below hb5)
    have HO5 := ghid (HOZ.out.below hb5)
    have hsz5 := hb5.size
    clear hb5 hRz hb0z q0 q1 q2 q3 k0 k1 k2 k3
    obtain ⟨hRb, ⟨c0, c1, c2, c3⟩, f0, f1, f2, f3⟩ := hR5
    obtain ⟨hGb5, ⟨q0, q1, q2, q3⟩, k0, k1, k2, k3⟩ := HG5.out
    go_wp2_with fail
    refine bodyPost_ret (v := .tuple #[.agg #[.slice none 0 0, .int .i64 0, .int .i64 0, .int .i64 0], .int .i64 0, .int .i64 5]) (by simp [results, Try.results24, go_sem, c0, c1, c2, c3, hRb]) rfl (Or.inl ⟨by rw [HE.out]; decide, by rw [HE.out], ?_⟩)
    exact below_set4 (b := w.heap.size + 3) hb05 (by omega)
  · have HE := ghid hE
    have HI1 := ghid h1
    have hkk : ¬ (k : Int) < 0 := by omega
    have H0 := ghid h0
    have HI := ghid h1
    have hl20 := (Pp.bnd_zero (Pp.uch_zero (Pp.go_zero h0).1).1).1
    have hsw := Pp.swL_len now G
    clear hE h0 h1
    go_enter Try.func24, Try.ntmps24
    go_wp2_with fail
    rw [← hw3]
    clear hw3
    refine (going_any G _ x l r now [p] _ _ (HV.out.below B3.out) HS.out HN3.out hns (by simp)).mono ?_
    rintro e w4 (⟨hne, _⟩ | ⟨_, u, rfl, hown, hb4⟩)
    · exact absurd H0.out hne
    have hb04 := B3.out.trans (hb4.mono B3.out.size)
    have hR4 := HR3.out.below hb4
    have P4 := ghid ((hb4.cell (p := ⟨w.heap.size + 1, 0, none⟩) (by show w.heap.size + 1 < w3.heap.size; omega)).trans P3.out)
    have N4 := ghid ((hb4.cell (p := ⟨w.heap.size + 2, 0, none⟩) (by show w.heap.size + 2 < w3.heap.size; omega)).trans N3.out)
    have hsz4 := hb4.size
    have HOWN := ghid hown
    clear hb4 hown
    obtain ⟨a5, cap5, hu5, _, _, _⟩ := HOWN.out.lies (by omega)
    subst hu5
    obtain ⟨wz, hwz⟩ : ∃ wz, wz = w4.alloc (.cells #[.slice a5 (Pp.swL now G).length cap5, .int .i64 x, .int .i64 l, .int .i64 r] 24) := ⟨_, rfl⟩
    have hbz : Below w4.heap.size w4 wz := by rw [hwz]; exact (Below.refl _ _).alloc (Nat.le_refl _) _
    have hGz : Bx wz w4.heap.size (.slice a5 (Pp.swL now G).length cap5) (.int .i64 x) (.int .i64 l) (.int .i64 r) := by rw [hwz]; exact Bx.new _ _ _ _ _ _
    have hRz := hR4.below hbz
    have hb0z := hb04.trans (hbz.mono hb04.size)
    have hOz := HOWN.out.below hbz
    have pz := (hbz.cell (p := ⟨w.heap.size + 1, 0, none⟩) (by show w.heap.size + 1 < w4.heap.size; omega)).trans P4.out
    have nz := (hbz.cell (p := ⟨w.heap.size + 2, 0, none⟩) (by show w.heap.size + 2 < w4.heap.size; omega)).trans N4.out
    have hszz := hbz.size
    have hTell : TellsS wz 0 36 #[.pointer (some ⟨w.heap.size + 2, 0, none⟩), .pointer (some ⟨w.heap.size + 1, 0, none⟩)] (Pp.mine n p) :=
      ⟨enters_of Try.func36 (by kernel_rfl) rfl, fun W hW s => find1_any s n p (w.heap.size + 2) (w.heap.size + 1) W (Nat.lt_of_lt_of_le (by omega) hW.size) (Nat.lt_of_lt_of_le (by omega) hW.size) ((Nb.cell hW (p := ⟨w.heap.size + 2, 0, none⟩) (by show w.heap.size + 2 < wz.heap.size; omega) (by show w.heap.size + 2 ≠ 0; omega)).trans nz) ((Nb.cell hW (p := ⟨w.heap.size + 1, 0, none⟩) (by show w.heap.size + 1 < wz.heap.size; omega) (by show w.heap.size + 1 ≠ 0; omega)).trans pz)⟩
    have HT := ghid hTell
    have HOZ := ghid hOz
    have HGZ := ghid hGz
    clear hTell hR4 hb04 hbz HOWN hOz
    obtain ⟨hGb, ⟨q0, q1, q2, q3⟩, k0, k1, k2, k3⟩ := hGz
    go_wp2_with fail
    rw [← hwz]
    clear hwz
    refine (sindexFunc_any (Pp.swL now G) _ 0 _ _ (Pp.mine n p) _ (HOZ.out.lies (by omega)) HT.out).mono ?_
    rintro e w5 ⟨rfl, hb5⟩
    rw [HI.out]
    have hb05 := hb0z.trans (hb5.mono hb0z.size)
    have hR5 := hRz.below hb5
    have HG5 := ghid (HGZ.out.below hb5)
    have HO5 := ghid (HOZ.out.below hb5)
    have hsz5 := hb5.size
    clear hb5 hRz hb0z q0 q1 q2 q3 k0 k1 k2 k3
    obtain ⟨hRb, ⟨c0, c1, c2, c3⟩, f0, f1, f2, f3⟩ := hR5
    obtain ⟨hGb5, ⟨q0, q1, q2, q3⟩, k0, k1, k2, k3⟩ := HG5.out
    go_wp2_with fail
    refine bodyPost_ret (v := .tuple #[.agg #[.slice a5 (Pp.swL now G).length cap5, .int .i64 x, .int .i64 l, .int .i64 r], .int .i64 k, .int .i64 0]) (by simp [results, Try.results24, go_sem, c0, c1, c2, c3, hRb]) rfl (Or.inr ⟨HE.out, _, k, rfl, hk, HI1.out, ?_, ?_⟩)
    · exact (HO5.out.nb (Nb.set4 _ (w.heap.size + 3) _ _ _ _) (by omega)).mono (by omega)
    · exact below_set4 (b := w.heap.size + 3) hb05 (by omega)
end Go.Proofs.Ytnaedemkpiagmaa
