/- What upload.find answers, errors too, for every uploads. What upload.ends answers, for every two texts and every number. What upload.Append answers. What slices.Delete answers of a row of sessions, one of them. -/
import Derived.Test.YtmdkecdhgjjceaaGreatUC
import Derived.Deep.RegionHeld3
import Derived.Deep.RegionLaw
set_option linter.unusedSimpArgs false
set_option linter.unusedVariables false
namespace Go.Proofs.YtmdkecdhgjjceaaGreat
open Go.RowKit

namespace Pp
/-- Is a session somebody's, by a number? -/
def mine (n : Int) (p : ByteArray) (s : Se) : Bool := (s.nu == n) && (s.wh.toList == p.toList)
def fiE (G : List Se) (x l r : Int) (p : ByteArray) (n now : Int) : Int := if goE G x l r now [p] = 0 then (if idS (swL now G) (mine n p) < 0 then 5 else 0) else goE G x l r now [p]
theorem fi_cases (G : List Se) (x l r : Int) (p : ByteArray) (n now : Int) : (¬ goE G x l r now [p] = 0 ∧ fiE G x l r p n now = goE G x l r now [p]) ∨ (goE G x l r now [p] = 0 ∧ idS (swL now G) (mine n p) = -1 ∧ fiE G x l r p n now = 5) ∨ (goE G x l r now [p] = 0 ∧ fiE G x l r p n now = 0 ∧ ∃ k, k < (swL now G).length ∧ idS (swL now G) (mine n p) = (k : Int)) := by
  by_cases h0 : goE G x l r now [p] = 0
  · right
    have e : fiE G x l r p n now = if idS (swL now G) (mine n p) < 0 then 5 else 0 := if_pos h0
    rcases idS_cases (swL now G) (mine n p) with ⟨h1, _⟩ | ⟨k, hk, h1, _⟩
    · left; exact ⟨h0, h1, by rw [e, h1]; rfl⟩
    · right; exact ⟨h0, by rw [e, h1, if_neg (by omega)], k, hk, h1⟩
  · left; exact ⟨h0, if_neg h0⟩
end Pp

set_option maxHeartbeats 1000000 in
theorem find1_any (s : Se) (n : Int) (p : ByteArray) (b1 b2 : Nat) (w : World) (hb1 : b1 < w.heap.size) (hb2 : b2 < w.heap.size) (hc1 : w.cell? ⟨b1, 0, none⟩ = some (.int .i64 n)) (hc2 : w.cell? ⟨b2, 0, none⟩ = some (.string p)) :
    Calls Tryz.prog 167 #[.agg #[.int .i64 s.nu, .string s.wh, .string s.tx, .int .i64 s.si, .int .i64 s.ti], .pointer (some ⟨b1, 0, none⟩), .pointer (some ⟨b2, 0, none⟩)] w fun r w' => r = .returned (.bool (Pp.mine n p s)) ∧ Below w.heap.size w w' := by
  have k0 : ∀ o, (w.alloc o).cell? ⟨b1, 0, none⟩ = some (.int .i64 n) := fun o => (((Below.refl w.heap.size w).alloc (Nat.le_refl _) o).cell (p := ⟨b1, 0, none⟩) hb1).trans hc1
  have k1 : ∀ o, (w.alloc o).cell? ⟨b2, 0, none⟩ = some (.string p) := fun o => (((Below.refl w.heap.size w).alloc (Nat.le_refl _) o).cell (p := ⟨b2, 0, none⟩) hb2).trans hc2
  cases h1 : (s.nu == n) with
  | true =>
    have HE : Hid ((s.wh.toList == p.toList) = Pp.mine n p s) := (by rw [Pp.mine, h1]; rfl : (s.wh.toList == p.toList) = Pp.mine n p s)
    go_enter Tryz.func167, Tryz.ntmps167
    go_wp2
    go_ret
    exact ⟨Pp.ret_bool HE.out, (Below.refl _ _).alloc (Nat.le_refl _) _⟩
  | false =>
    have HE : Hid (false = Pp.mine n p s) := (by rw [Pp.mine, h1]; rfl : false = Pp.mine n p s)
    go_enter Tryz.func167, Tryz.ntmps167
    go_wp2
    go_ret
    exact ⟨Pp.ret_bool HE.out, (Below.refl _ _).alloc (Nat.le_refl _) _⟩

set_option maxRecDepth 100000 in
set_option maxHeartbeats 4000000 in
theorem find_any (G : List Se) (v : Value) (x l r : Int) (p : ByteArray) (n now : Int) (w : World) (hv : LiesS w v G) (hs : SizedS G) (hp : p.size ≤ 150000000000000) :
    Calls Tryz.prog 134 #[.agg #[v, .int .i64 x, .int .i64 l, .int .i64 r], .string p, .int .i64 n, .int .i64 now] w fun e w' => (¬ Pp.fiE G x l r p n now = 0 ∧ e = .returned (.tuple #[.agg #[.slice none 0 0, .int .i64 0, .int .i64 0, .int .i64 0], .int .i64 0, .int .i64 (Pp.fiE G x l r p n now)]) ∧ Below w.heap.size w w') ∨
      (Pp.fiE G x l r p n now = 0 ∧ ∃ u k, e = .returned (.tuple #[.agg #[u, .int .i64 x, .int .i64 l, .int .i64 r], .int .i64 (k : Nat), .int .i64 0]) ∧ k < (Pp.swL now G).length ∧ Pp.idS (Pp.swL now G) (Pp.mine n p) = k ∧ OwnS w.heap.size w' u (Pp.swL now G) ∧ Below w.heap.size w w') := by
  have HV := ghid hv
  have HS := ghid hs
  clear hv hs
  obtain ⟨w2, hw2⟩ : ∃ w2, w2 = ((w.alloc (.cells #[v, .int .i64 x, .int .i64 l, .int .i64 r] 26)).alloc (.cells #[.string p] 9)).alloc (.cells #[.int .i64 n] 3) := ⟨_, rfl⟩
  have hb2 : Below w.heap.size w w2 := by rw [hw2]; exact (((Below.refl _ _).alloc (Nat.le_refl _) _).alloc (by simp) _).alloc (by simp; omega) _
  have hsz2 : w2.heap.size = w.heap.size + 3 := by rw [hw2]; simp
  have p2 : w2.cell? ⟨w.heap.size + 1, 0, none⟩ = some (.string p) := by rw [hw2]; simp [go_sem]
  have n2 : w2.cell? ⟨w.heap.size + 2, 0, none⟩ = some (.int .i64 n) := by rw [hw2]; simp [go_sem]
  obtain ⟨w3, hw3⟩ : ∃ w3, w3 = (w2.alloc (.cells #[.slice none 0 0, .int .i64 0, .int .i64 0, .int .i64 0] 26)).alloc (.cells #[.string p] 9) := ⟨_, rfl⟩
  have hb23 : Below w2.heap.size w2 w3 := by rw [hw3]; exact ((Below.refl _ _).alloc (Nat.le_refl _) _).alloc (by simp) _
  have B3 := ghid (hb2.trans (hb23.mono hb2.size))
  have HR3 : Hid (Bx w3 (w.heap.size + 3) (.slice none 0 0) (.int .i64 0) (.int .i64 0) (.int .i64 0)) := (by
    have := (Bx.new w2 (.slice none 0 0) (.int .i64 0) (.int .i64 0) (.int .i64 0) 26).below ((Below.refl _ _).alloc (Nat.le_refl _) (.cells #[.string p] 9))
    rw [hw3]; rw [hsz2] at this; exact this : Bx w3 (w.heap.size + 3) (.slice none 0 0) (.int .i64 0) (.int .i64 0) (.int .i64 0))
  have hsz3 : w3.heap.size = w.heap.size + 5 := by rw [hw3]; simp [hsz2]
  have P3 := ghid ((hb23.cell (p := ⟨w.heap.size + 1, 0, none⟩) (by show w.heap.size + 1 < w2.heap.size; omega)).trans p2)
  have N3 := ghid ((hb23.cell (p := ⟨w.heap.size + 2, 0, none⟩) (by show w.heap.size + 2 < w2.heap.size; omega)).trans n2)
  have HN3 : Hid (Nms w3 (.slice (some ⟨w.heap.size + 4, 0, none⟩) 1 1) [p]) := (Or.inr ⟨w.heap.size + 4, 1, rfl, by omega, fun i hi => by
    match i, hi with
    | 0, _ =>
      have : ((w2.alloc (.cells #[.slice none 0 0, .int .i64 0, .int .i64 0, .int .i64 0] 26)).alloc (.cells #[.string p] 9)).cell? ⟨(w2.alloc (.cells #[.slice none 0 0, .int .i64 0, .int .i64 0, .int .i64 0] 26)).heap.size, 0, none⟩ = some (.string p) := by simp
      rw [hw3]
      simpa [hsz2] using this⟩ : Nms w3 (.slice (some ⟨w.heap.size + 4, 0, none⟩) 1 1) [p])
  have hns : ∀ s ∈ [p], s.size ≤ 150000000000000 := fun s h => by rw [List.mem_singleton.1 h]; exact hp
  rw [hw2] at hw3
  clear hb2 hb23 p2 n2 hsz2 hw2
  rcases Pp.fi_cases G x l r p n now with ⟨h0, hE⟩ | ⟨h0, h1, hE⟩ | ⟨h0, hE, k, hk, h1⟩
  · have HE := ghid hE
    have HNZ := ghid h0
    have hz : (Pp.goE G x l r now [p] == 0) = false := by simpa using h0
    clear hE h0
    go_enter Tryz.func134, Tryz.ntmps134
    go_wp2_with fail
    rw [← hw3]
    clear hw3
    refine (going_any G _ x l r now [p] _ _ (HV.out.below B3.out) HS.out HN3.out hns (by simp)).mono ?_
    rintro e w4 (⟨_, rfl, hb4⟩ | ⟨hh, _⟩)
    rotate_left
    · exact absurd hh HNZ.out
    have hb04 := B3.out.trans (hb4.mono B3.out.size)
    obtain ⟨hRb, ⟨c0, c1, c2, c3⟩, f0, f1, f2, f3⟩ := HR3.out.below hb4
    have hsz4 := hb4.size
    clear hb4
    generalize hy : Pp.goE G x l r now [p] = y at *
    go_wp2_with fail
    refine bodyPost_ret (v := .tuple #[.agg #[.slice none 0 0, .int .i64 0, .int .i64 0, .int .i64 0], .int .i64 0, .int .i64 y]) (by simp [results, Tryz.results134, go_sem, c0, c1, c2, c3, hRb]) rfl (Or.inl ⟨by rw [HE.out]; exact HNZ.out, by rw [HE.out], ?_⟩)
    exact (below_set4 (b := w.heap.size + 3) hb04 (by omega)).alloc (by simp; omega) _
  · have HE := ghid hE
    have H0 := ghid h0
    have HI := ghid h1
    have hl20 := (Pp.bnd_zero (Pp.uch_zero (Pp.go_zero h0).1).1).1
    have hsw := Pp.swL_len now G
    clear hE h0 h1
    go_enter Tryz.func134, Tryz.ntmps134
    go_wp2_with fail
    rw [← hw3]
    clear hw3
    refine (going_any G _ x l r now [p] _ _ (HV.out.below B3.out) HS.out HN3.out hns (by simp)).mono ?_
    rintro e w4 (⟨hne, _⟩ | ⟨_, u, rfl, hown, hb4⟩)
    · exact absurd H0.out hne
    have hb04 := B3.out.trans (hb4.mono B3.out.size)
    have hR4 := HR3.out.below hb4
    have P4 := ghid ((hb4.cell (p := ⟨w.heap.size + 1, 0, none⟩) (by show w.heap.size + 1 < w3.heap.size; omega)).trans P3.out)
    have N4 := ghid ((hb4.cell (p := ⟨w.heap.size + 2, 0, none⟩) (by show w.heap.size + 2 < w3.heap.size; omega)).trans N3.out)
    have hsz4 := hb4.size
    have HOWN := ghid hown
    clear hb4 hown
    obtain ⟨a5, cap5, hu5, _, _, _⟩ := HOWN.out.lies (by omega)
    subst hu5
    obtain ⟨wz, hwz⟩ : ∃ wz, wz = w4.alloc (.cells #[.slice a5 (Pp.swL now G).length cap5, .int .i64 x, .int .i64 l, .int .i64 r] 26) := ⟨_, rfl⟩
    have hbz : Below w4.heap.size w4 wz := by rw [hwz]; exact (Below.refl _ _).alloc (Nat.le_refl _) _
    have hGz : Bx wz w4.heap.size (.slice a5 (Pp.swL now G).length cap5) (.int .i64 x) (.int .i64 l) (.int .i64 r) := by rw [hwz]; exact Bx.new _ _ _ _ _ _
    have hRz := hR4.below hbz
    have hb0z := hb04.trans (hbz.mono hb04.size)
    have hOz := HOWN.out.below hbz
    have pz := (hbz.cell (p := ⟨w.heap.size + 1, 0, none⟩) (by show w.heap.size + 1 < w4.heap.size; omega)).trans P4.out
    have nz := (hbz.cell (p := ⟨w.heap.size + 2, 0, none⟩) (by show w.heap.size + 2 < w4.heap.size; omega)).trans N4.out
    have hszz := hbz.size
    have hTell : TellsS wz 0 167 #[.pointer (some ⟨w.heap.size + 2, 0, none⟩), .pointer (some ⟨w.heap.size + 1, 0, none⟩)] (Pp.mine n p) :=
      ⟨enters_of Tryz.func167 (by kernel_rfl) rfl, fun W hW s => find1_any s n p (w.heap.size + 2) (w.heap.size + 1) W (Nat.lt_of_lt_of_le (by omega) hW.size) (Nat.lt_of_lt_of_le (by omega) hW.size) ((Nb.cell hW (p := ⟨w.heap.size + 2, 0, none⟩) (by show w.heap.size + 2 < wz.heap.size; omega) (by show w.heap.size + 2 ≠ 0; omega)).trans nz) ((Nb.cell hW (p := ⟨w.heap.size + 1, 0, none⟩) (by show w.heap.size + 1 < wz.heap.size; omega) (by show w.heap.size + 1 ≠ 0; omega)).trans pz)⟩
    have HT := ghid hTell
    have HOZ := ghid hOz
    have HGZ := ghid hGz
    clear hTell hR4 hb04 hbz HOWN hOz
    obtain ⟨hGb, ⟨q0, q1, q2, q3⟩, k0, k1, k2, k3⟩ := hGz
    go_wp2_with fail
    rw [← hwz]
    clear hwz
    refine (sindexFunc_any (Pp.swL now G) _ 0 _ _ (Pp.mine n p) _ (HOZ.out.lies (by omega)) HT.out).mono ?_
    rintro e w5 ⟨rfl, hb5⟩
    rw [HI.out]
    have hb05 := hb0z.trans (hb5.mono hb0z.size)
    have hR5 := hRz.below hb5
    have HG5 := ghid (HGZ.out.below hb5)
    have HO5 := ghid (HOZ.out.below hb5)
    have hsz5 := hb5.size
    clear hb5 hRz hb0z q0 q1 q2 q3 k0 k1 k2 k3
    obtain ⟨hRb, ⟨c0, c1, c2, c3⟩, f0, f1, f2, f3⟩ := hR5
    obtain ⟨hGb5, ⟨q0, q1, q2, q3⟩, k0, k1, k2, k3⟩ := HG5.out
    go_wp2_with fail
    refine bodyPost_ret (v := .tuple #[.agg #[.slice none 0 0, .int .i64 0, .int .i64 0, .int .i64 0], .int .i64 0, .int .i64 5]) (by simp [results, Tryz.results134, go_sem, c0, c1, c2, c3, hRb]) rfl (Or.inl ⟨by rw [HE.out]; decide, by rw [HE.out], ?_⟩)
    exact below_set4 (b := w.heap.size + 3) hb05 (by omega)
  · have HE := ghid hE
    have HI1 := ghid h1
    have hkk : ¬ (k : Int) < 0 := by omega
    have H0 := ghid h0
    have HI := ghid h1
    have hl20 := (Pp.bnd_zero (Pp.uch_zero (Pp.go_zero h0).1).1).1
    have hsw := Pp.swL_len now G
    clear hE h0 h1
    go_enter Tryz.func134, Tryz.ntmps134
    go_wp2_with fail
    rw [← hw3]
    clear hw3
    refine (going_any G _ x l r now [p] _ _ (HV.out.below B3.out) HS.out HN3.out hns (by simp)).mono ?_
    rintro e w4 (⟨hne, _⟩ | ⟨_, u, rfl, hown, hb4⟩)
    · exact absurd H0.out hne
    have hb04 := B3.out.trans (hb4.mono B3.out.size)
    have hR4 := HR3.out.below hb4
    have P4 := ghid ((hb4.cell (p := ⟨w.heap.size + 1, 0, none⟩) (by show w.heap.size + 1 < w3.heap.size; omega)).trans P3.out)
    have N4 := ghid ((hb4.cell (p := ⟨w.heap.size + 2, 0, none⟩) (by show w.heap.size + 2 < w3.heap.size; omega)).trans N3.out)
    have hsz4 := hb4.size
    have HOWN := ghid hown
    clear hb4 hown
    obtain ⟨a5, cap5, hu5, _, _, _⟩ := HOWN.out.lies (by omega)
    subst hu5
    obtain ⟨wz, hwz⟩ : ∃ wz, wz = w4.alloc (.cells #[.slice a5 (Pp.swL now G).length cap5, .int .i64 x, .int .i64 l, .int .i64 r] 26) := ⟨_, rfl⟩
    have hbz : Below w4.heap.size w4 wz := by rw [hwz]; exact (Below.refl _ _).alloc (Nat.le_refl _) _
    have hGz : Bx wz w4.heap.size (.slice a5 (Pp.swL now G).length cap5) (.int .i64 x) (.int .i64 l) (.int .i64 r) := by rw [hwz]; exact Bx.new _ _ _ _ _ _
    have hRz := hR4.below hbz
    have hb0z := hb04.trans (hbz.mono hb04.size)
    have hOz := HOWN.out.below hbz
    have pz := (hbz.cell (p := ⟨w.heap.size + 1, 0, none⟩) (by show w.heap.size + 1 < w4.heap.size; omega)).trans P4.out
    have nz := (hbz.cell (p := ⟨w.heap.size + 2, 0, none⟩) (by show w.heap.size + 2 < w4.heap.size; omega)).trans N4.out
    have hszz := hbz.size
    have hTell : TellsS wz 0 167 #[.pointer (some ⟨w.heap.size + 2, 0, none⟩), .pointer (some ⟨w.heap.size + 1, 0, none⟩)] (Pp.mine n p) :=
      ⟨enters_of Tryz.func167 (by kernel_rfl) rfl, fun W hW s => find1_any s n p (w.heap.size + 2) (w.heap.size + 1) W (Nat.lt_of_lt_of_le (by omega) hW.size) (Nat.lt_of_lt_of_le (by omega) hW.size) ((Nb.cell hW (p := ⟨w.heap.size + 2, 0, none⟩) (by show w.heap.size + 2 < wz.heap.size; omega) (by show w.heap.size + 2 ≠ 0; omega)).trans nz) ((Nb.cell hW (p := ⟨w.heap.size + 1, 0, none⟩) (by show w.heap.size + 1 < wz.heap.size; omega) (by show w.heap.size + 1 ≠ 0; omega)).trans pz)⟩
    have HT := ghid hTell
    have HOZ := ghid hOz
    have HGZ := ghid hGz
    clear hTell hR4 hb04 hbz HOWN hOz
    obtain ⟨hGb, ⟨q0, q1, q2, q3⟩, k0, k1, k2, k3⟩ := hGz
    go_wp2_with fail
    rw [← hwz]
    clear hwz
    refine (sindexFunc_any (Pp.swL now G) _ 0 _ _ (Pp.mine n p) _ (HOZ.out.lies (by omega)) HT.out).mono ?_
    rintro e w5 ⟨rfl, hb5⟩
    rw [HI.out]
    have hb05 := hb0z.trans (hb5.mono hb0z.size)
    have hR5 := hRz.below hb5
    have HG5 := ghid (HGZ.out.below hb5)
    have HO5 := ghid (HOZ.out.below hb5)
    have hsz5 := hb5.size
    clear hb5 hRz hb0z q0 q1 q2 q3 k0 k1 k2 k3
    obtain ⟨hRb, ⟨c0, c1, c2, c3⟩, f0, f1, f2, f3⟩ := hR5
    obtain ⟨hGb5, ⟨q0, q1, q2, q3⟩, k0, k1, k2, k3⟩ := HG5.out
    go_wp2_with fail
    refine bodyPost_ret (v := .tuple #[.agg #[.slice a5 (Pp.swL now G).length cap5, .int .i64 x, .int .i64 l, .int .i64 r], .int .i64 k, .int .i64 0]) (by simp [results, Tryz.results134, go_sem, c0, c1, c2, c3, hRb]) rfl (Or.inr ⟨HE.out, _, k, rfl, hk, HI1.out, ?_, ?_⟩)
    · exact (HO5.out.nb (Nb.set4 _ (w.heap.size + 3) _ _ _ _) (by omega)).mono (by omega)
    · exact below_set4 (b := w.heap.size + 3) hb05 (by omega)
end Go.Proofs.YtmdkecdhgjjceaaGreat
set_option linter.unusedSimpArgs false
set_option linter.unusedVariables false
namespace Go.Proofs.YtmdkecdhgjjceaaGreat
open Go.RowKit

namespace Pp
/-- Is a piece just what a text has from an offset on? -/
def enB (t : ByteArray) (o : Int) (p : ByteArray) : Bool := inR 0 o t.size && ((t.extract o.toNat t.size).toList == p.toList)
end Pp

set_option maxHeartbeats 1000000 in
theorem ends_any (t p : ByteArray) (o : Int) (w : World) (ht : t.size ≤ 150000000000000) :
    Calls Tryz.prog 135 #[.string t, .int .i64 o, .string p] w fun e w' => e = .returned (.bool (Pp.enB t o p)) ∧ w' = w := by
  cases h1 : Pp.inR 0 o t.size with
  | false =>
    have H1 := ghid h1
    have HE : Hid (false = Pp.enB t o p) := (by rw [Pp.enB, h1]; rfl : false = Pp.enB t o p)
    clear h1
    go_enter Tryz.func135, Tryz.ntmps135
    go_wp2_with fail
    refine (isFrom_any 0 o t.size _).mono ?_
    rintro e w1 ⟨rfl, hw⟩
    rw [hw, H1.out]
    clear hw w1
    go_wp2
    go_ret
    exact ⟨Pp.ret_bool HE.out, rfl⟩
  | true =>
    have H1 := ghid h1
    obtain ⟨ho1, ho2⟩ := Pp.inR_yes h1
    obtain ⟨k, rfl⟩ : ∃ k : Nat, o = (k : Int) := ⟨o.toNat, by omega⟩
    have hk : k ≤ t.size := by omega
    have HE : Hid (((t.extract k t.size).toList == p.toList) = Pp.enB t k p) := (by rw [Pp.enB, h1]; rfl : ((t.extract k t.size).toList == p.toList) = Pp.enB t k p)
    clear h1
    go_enter Tryz.func135, Tryz.ntmps135
    go_wp2_with fail
    refine (isFrom_any 0 k t.size _).mono ?_
    rintro e w1 ⟨rfl, hw⟩
    rw [hw, H1.out]
    clear hw w1
    go_wp2
    go_ret
    exact ⟨Pp.ret_bool HE.out, rfl⟩
end Go.Proofs.YtmdkecdhgjjceaaGreat
set_option linter.unusedSimpArgs false
set_option linter.unusedVariables false
namespace Go.Proofs.YtmdkecdhgjjceaaGreat
open Go.RowKit

namespace Pp
theorem fi_zero {G : List Se} {x l r : Int} {p : ByteArray} {n now : Int} (h : fiE G x l r p n now = 0) : goE G x l r now [p] = 0 := by
  rcases fi_cases G x l r p n now with ⟨h0, hE⟩ | ⟨h0, _, hE⟩ | ⟨h0, _⟩
  · rw [h] at hE; exact hE.symm
  · exact h0
  · exact h0
/-- What Append makes of a session. -/
def moreS (s : Se) (t : ByteArray) (till : Int) : Se := ⟨s.nu, s.wh, s.tx ++ t, s.si, till⟩
end Pp
theorem RowS.set2 {w : World} {g : Nat} {d : List Se} (h : RowS w g d) {i : Nat} (hi : i < d.length) (t : ByteArray) (till : Int) : RowS ((w.setCell ⟨g, i * 5 + 2, none⟩ (.string t)).setCell ⟨g, i * 5 + 4, none⟩ (.int .i64 till)) g (d.set i ⟨(d[i]).nu, (d[i]).wh, t, (d[i]).si, till⟩) := by
  have hs2 : (w.cell? ⟨g, i * 5 + 2, none⟩).isSome = true := by rw [(h.2 i hi 2 (by decide)).1]; rfl
  have hs4 : (w.cell? ⟨g, i * 5 + 4, none⟩).isSome = true := by rw [(h.2 i hi 4 (by decide)).1]; rfl
  refine ⟨by simpa using h.1, fun j hj c hc => ⟨?_, ?_⟩⟩
  · have hj' : j < d.length := by simpa using hj
    by_cases e4 : j * 5 + c = i * 5 + 4
    · obtain ⟨rfl, rfl⟩ : j = i ∧ c = 4 := by omega
      rw [World.cell?_setCell_same' _ _ _ (by rw [World.cell?_setCell_other (h := by simp)]; exact hs4), List.getElem_set_self]
      rfl
    · rw [World.cell?_setCell_other (h := fun e => e4 (by injection e with _ e2; exact e2.symm))]
      by_cases e2 : j * 5 + c = i * 5 + 2
      · obtain ⟨rfl, rfl⟩ : j = i ∧ c = 2 := by omega
        rw [World.cell?_setCell_same' _ _ _ hs2, List.getElem_set_self]
        rfl
      · rw [World.cell?_setCell_other (h := fun e => e2 (by injection e with _ e3; exact e3.symm)), (h.2 j hj' c hc).1]
        by_cases e : j = i
        · subst e
          rw [List.getElem_set_self]
          match c, hc with
          | 0, _ => rfl
          | 1, _ => rfl
          | 2, _ => exact absurd rfl e2
          | 3, _ => rfl
          | 4, _ => exact absurd rfl e4
        · rw [List.getElem_set_ne (fun e' => e e'.symm)]
  · rw [World.frozen?_setCell, World.frozen?_setCell]; exact (h.2 j (by simpa using hj) c hc).2

set_option maxRecDepth 100000 in
set_option maxHeartbeats 4000000 in
theorem append_k (G : List Se) (v : Value) (x l r : Int) (p : ByteArray) (n o : Int) (t : ByteArray) (now : Int) (w : World) (hv : LiesS w v G) (hs : SizedS G) (hp : p.size ≤ 150000000000000) (h0 : Pp.fiE G x l r p n now = 0) (kk : Nat) (hkk : kk < (Pp.swL now G).length) (hidx : Pp.idS (Pp.swL now G) (Pp.mine n p) = (kk : Int)) (ht : t.size ≤ 150000000000000) (he : Pp.enB ((Pp.swL now G)[kk]).tx o t = false) (ho : o = (((Pp.swL now G)[kk]).tx.size : Int)) (hsi : (((Pp.swL now G)[kk]).tx.size : Int) + t.size ≤ ((Pp.swL now G)[kk]).si) :
    Calls Tryz.prog 108 #[.agg #[v, .int .i64 x, .int .i64 l, .int .i64 r], .string p, .int .i64 n, .int .i64 o, .string t, .int .i64 now] w fun e w' => ∃ u, e = .returned (.tuple #[.agg #[u, .int .i64 x, .int .i64 l, .int .i64 r], .int .i64 ((((Pp.swL now G)[kk]).tx.size : Int) + t.size), .int .i64 0]) ∧ OwnS w.heap.size w' u ((Pp.swL now G).set kk (Pp.moreS (Pp.swL now G)[kk] t (now + l))) ∧ Below w.heap.size w w' := by
  have HV := ghid hv
  have HS := ghid hs
  clear hv hs
  obtain ⟨w3, hw3⟩ : ∃ w3, w3 = (w.alloc (.cells #[v, .int .i64 x, .int .i64 l, .int .i64 r] 26)).alloc (.cells #[.slice none 0 0, .int .i64 0, .int .i64 0, .int .i64 0] 26) := ⟨_, rfl⟩
  have B3 : Hid (Below w.heap.size w w3) := (by rw [hw3]; exact ((Below.refl _ _).alloc (Nat.le_refl _) _).alloc (by simp) _ : Below w.heap.size w w3)
  have HR3 : Hid (Bx w3 (w.heap.size + 1) (.slice none 0 0) (.int .i64 0) (.int .i64 0) (.int .i64 0)) := (by
    have := Bx.new (w.alloc (.cells #[v, .int .i64 x, .int .i64 l, .int .i64 r] 26)) (.slice none 0 0) (.int .i64 0) (.int .i64 0) (.int .i64 0) 26
    rw [hw3]; simpa using this : Bx w3 (w.heap.size + 1) (.slice none 0 0) (.int .i64 0) (.int .i64 0) (.int .i64 0))
  have hsz3 : w3.heap.size = w.heap.size + 2 := by rw [hw3]; simp
  subst ho
  have H0 := ghid h0
  have HI := ghid hidx
  have hgz := Pp.fi_zero h0
  obtain ⟨huc, ⟨hn1, hn2⟩, _⟩ := Pp.go_zero hgz
  obtain ⟨hl20, ⟨hl1, hl2⟩, ⟨hr1, hr2⟩, hx1, hx2⟩ := Pp.bnd_zero (Pp.uch_zero huc).1
  have hsw := Pp.swL_len now G
  have hse := Pp.se_zero (Pp.ses_mem.1 (Pp.uch_zero huc).2.1 _ (List.mem_filter.1 (List.getElem_mem hkk)).1)
  obtain ⟨hsi1, hsi2⟩ := Pp.inR_yes hse.2.1
  have htx := hse.2.2.2.2
  clear h0 hgz huc hse hidx
  go_enter Tryz.func108, Tryz.ntmps108
  go_wp2_with fail
  rw [← hw3]
  clear hw3
  refine (find_any G _ x l r p n now _ (HV.out.below B3.out) HS.out hp).mono ?_
  rintro e w4 (⟨hne, _⟩ | ⟨_, u, k, rfl, hk, hid, hown, hb4⟩)
  · exact absurd H0.out hne
  obtain rfl : k = kk := by have := HI.out; rw [hid] at this; omega
  have hb04 := B3.out.trans (hb4.mono B3.out.size)
  have hR4 := HR3.out.below hb4
  have hsz4 := hb4.size
  clear hb4 hid
  rcases hown with ⟨_, hnil⟩ | ⟨g, cap, rfl, hg1, hg2, hrow, hblk, hcm⟩
  · rw [hnil] at hk; simp at hk
  have hglt := hrow.1
  obtain ⟨wz, hwz⟩ : ∃ wz, wz = w4.alloc (.cells #[.slice (some ⟨g, 0, none⟩) (Pp.swL now G).length cap, .int .i64 x, .int .i64 l, .int .i64 r] 26) := ⟨_, rfl⟩
  have hbz : Below w4.heap.size w4 wz := by rw [hwz]; exact (Below.refl _ _).alloc (Nat.le_refl _) _
  have hGz : Bx wz w4.heap.size (.slice (some ⟨g, 0, none⟩) (Pp.swL now G).length cap) (.int .i64 x) (.int .i64 l) (.int .i64 r) := by rw [hwz]; exact Bx.new _ _ _ _ _ _
  have hRz := hR4.below hbz
  have hb0z := hb04.trans (hbz.mono hb04.size)
  have hrz := hrow.below hbz
  have hblz := hblk.below hbz
  have hszz := hbz.size
  have HGZ := ghid hGz
  have HRZ := ghid hRz
  have HROWZ := ghid hrz
  have HBLZ := ghid hblz
  obtain ⟨t0, t1, t2, t3, t4⟩ := hrz.at hk
  clear hR4 hb04 hbz hrow hblk hrz hblz
  obtain ⟨hGb, ⟨q0, q1, q2, q3⟩, k0, k1, k2, k3⟩ := hGz
  have HEN := ghid he
  have hsl : ((Pp.swL now G)[k]).tx.size ≤ 150000000000000 := by omega
  clear he
  generalize hS : (Pp.swL now G)[k] = s at *
  have T2 := ghid t2
  have T3 := ghid t3
  rw [hwz] at t0 t1 t2 t3 t4
  go_wp2_with fail
  rw [← hwz]
  clear hwz t0 t1 t2 t3 t4
  have t2 := T2.out
  have t3 := T3.out
  refine (ends_any s.tx t _ _ hsl).mono ?_
  rintro e w5 ⟨rfl, hw⟩
  rw [hw, HEN.out]
  clear hw w5
  have hF2 := (HROWZ.out.2 k hk 2 (by decide)).2
  have hF4 := (HROWZ.out.2 k hk 4 (by decide)).2
  have hC4 : wz.cell? ⟨g, k * 5 + 4, none⟩ = some (.int .i64 s.ti) := by have := (HROWZ.out.at hk).2.2.2.2; rw [hS] at this; exact this
  have hwr2 : IntKind.i64.wrap ((s.tx.size : Int) + t.size) = (s.tx.size : Int) + t.size := by rw [IntKind.wrap_i64]; omega
  have hwr3 : IntKind.i64.wrap (now + l) = now + l := by rw [IntKind.wrap_i64]; omega
  have hns : ¬ s.si < (s.tx.size : Int) + t.size := by omega
  obtain ⟨wq, hwq⟩ : ∃ wq, wq = ((wz.setCell ⟨g, k * 5 + 2, none⟩ (.string (s.tx ++ t))).setCell ⟨g, k * 5 + 4, none⟩ (.int .i64 (now + l))).drew := ⟨_, rfl⟩
  have hnb0 : wz.grownBy ((wz.setCell ⟨g, k * 5 + 2, none⟩ (.string (s.tx ++ t))).setCell ⟨g, k * 5 + 4, none⟩ (.int .i64 (now + l))) (some g) := Nb.trans (Nb.setCell _ _ _ _) (Nb.setCell _ _ _ _)
  have hnbq : wz.grownBy wq (some g) := by rw [hwq]; exact Nb.trans hnb0 (Nb.below g (Below.refl _ _).drew)
  have hrq : RowS wq g ((Pp.swL now G).set k (Pp.moreS s t (now + l))) := by
    have := (HROWZ.out.set2 hk (s.tx ++ t) (now + l)).below (Below.refl _ _).drew
    rw [hS] at this
    rw [hwq]; exact this
  have hblq : Blk wq g 70 (cap * 5) := by
    rw [hwq]
    exact (KeepB.setCell g _ _ _ _ _ (KeepB.setCell g _ _ _ _ _ HBLZ.out)).below (Below.refl _ _).drew
  have hq2 : wq.cell? ⟨g, k * 5 + 2, none⟩ = some (.string (s.tx ++ t)) := by
    have h9 : k < ((Pp.swL now G).set k (Pp.moreS s t (now + l))).length := by simpa using hk
    have := (hrq.at h9).2.2.1
    rw [List.getElem_set_self] at this
    exact this
  have HRQ := ghid (HRZ.out.nb hnbq (by omega))
  have HGQ := ghid (HGZ.out.nb hnbq (by omega))
  have hb0q : Below w.heap.size w wq := hb0z.trans (Nb.to hnbq hb0z.size (by omega))
  have HROWQ := ghid hrq
  have HBLQ := ghid hblq
  have hszq := hnbq.size
  have hsapp : (s.tx ++ t).size = s.tx.size + t.size := ByteArray.size_append
  have HSA := ghid hsapp
  go_wp2_with fail
  go_region
  go_wp2_with fail
  rw [← hwq]
  clear hwq hnb0 hnbq hrq hblq t2 t3 hF2 hF4 hC4 q0 q1 q2 q3 k0 k1 k2 k3 hwr2 hwr3 hsapp
  obtain ⟨hRb, ⟨c0, c1, c2, c3⟩, f0, f1, f2, f3⟩ := HRQ.out
  obtain ⟨hGb2, ⟨q0, q1, q2, q3⟩, k0, k1, k2, k3⟩ := HGQ.out
  go_region
  go_wp2_with fail
  refine bodyPost_ret (v := .tuple #[.agg #[.slice (some ⟨g, 0, none⟩) (Pp.swL now G).length cap, .int .i64 x, .int .i64 l, .int .i64 r], .int .i64 ((s.tx.size : Int) + t.size), .int .i64 0]) (by simp [results, Tryz.results108, go_sem, c0, c1, c2, c3, hRb, HSA.out]) rfl ⟨_, by rw [hS], ?_, ?_⟩
  · rw [hS]
    refine Or.inr ⟨g, cap, by simp, by omega, by simpa using hg2, ?_, ?_, hcm⟩
    · exact (HROWQ.out.nb (Nb.set4 _ (w.heap.size + 1) _ _ _ _) (by omega)).below (Below.refl _ _).drew
    · exact (HBLQ.out.nb (Nb.set4 _ (w.heap.size + 1) _ _ _ _) (by omega)).below (Below.refl _ _).drew
  · exact (below_set4 (b := w.heap.size + 1) hb0q (by omega)).drew
end Go.Proofs.YtmdkecdhgjjceaaGreat
set_option linter.unusedSimpArgs false
set_option linter.unusedVariables false
namespace Go.Proofs.YtmdkecdhgjjceaaGreat
open Go.RowKit

theorem RowS.setMany {w : World} {g : Nat} {A B C B' : List Se} (h : RowS w g (A ++ B ++ C)) (hl : B'.length = B.length) : RowS (w.setCells g (A.length * 5) (Pp.flatS B')) g (A ++ B' ++ C) := by
  have hfl := Pp.flatS_len B'
  refine ⟨Nat.lt_of_lt_of_le h.1 (Nb.setCells g _ _ w).size, fun j hj c hc => ⟨?_, ?_⟩⟩
  · have hj' : j < (A ++ B ++ C).length := by simp only [List.length_append] at hj ⊢; omega
    by_cases h1 : j < A.length
    · rw [World.cell?_setCells_out g _ _ _ _ (fun _ _ => by simp only; omega), (h.2 j hj' c hc).1]
      simp only [List.append_assoc]
      rw [List.getElem_append_left h1, List.getElem_append_left h1]
    · by_cases h2 : j < A.length + B'.length
      · have ht : (j - A.length) * 5 + c < (Pp.flatS B').length := by rw [hfl]; omega
        have hin := World.cell?_setCells_in g (Pp.flatS B') (A.length * 5) w (fun t ht' => by
          rw [hfl] at ht'
          exact (rowS_some h (by simp only [List.length_append]; omega)).1) _ ht
        rw [show A.length * 5 + ((j - A.length) * 5 + c) = j * 5 + c by omega] at hin
        rw [hin]
        have hg := Pp.flatS_get B' (j - A.length) c (by omega) hc
        rw [List.getElem?_eq_getElem ht] at hg
        rw [hg]
        have e : (A ++ B' ++ C)[j] = B'[j - A.length] := by
          simp only [List.append_assoc]
          rw [List.getElem_append_right (by omega), List.getElem_append_left (by omega)]
        rw [e]
      · rw [World.cell?_setCells_out g _ _ _ _ (fun _ _ => by simp only; rw [hfl]; omega), (h.2 j hj' c hc).1]
        have e : (A ++ B' ++ C)[j] = (A ++ B ++ C)[j] := by
          simp only [List.append_assoc]
          rw [List.getElem_append_right (by omega), List.getElem_append_right (by omega), List.getElem_append_right (by omega), List.getElem_append_right (by omega)]
          congr 1
          omega
        rw [e]
  · rw [World.frozen?_setCells]; exact (h.2 j (by simp only [List.length_append] at hj ⊢; omega) c hc).2

set_option maxRecDepth 100000 in
set_option maxHeartbeats 4000000 in
theorem sdelete_any (A C : List Se) (y : Se) (q cap : Nat) (w : World) (hR : RowS w q (A ++ y :: C)) (hcap : (A ++ y :: C).length ≤ cap) (hm : cap ≤ maxLen) :
    Calls Tryz.prog 168 #[.slice (some ⟨q, 0, none⟩) (A ++ y :: C).length cap, .int .i64 A.length, .int .i64 ((A.length : Int) + 1)] w fun e w' => e = .returned (.slice (some ⟨q, 0, none⟩) (A ++ C).length cap) ∧ RowS w' q (A ++ C) ∧ w.grownBy w' (some q) ∧ KeepB q w w' := by
  obtain ⟨i0, hi0, hz0, hz1, hz2⟩ := info_parts Tryz.infoSe
  have hmx : cap ≤ 9223372036854775807 := by unfold maxLen at hm; omega
  have hlen : (A ++ y :: C).length = A.length + C.length + 1 := by simp; omega
  obtain ⟨B, z, hBz⟩ : ∃ B z, y :: C = B ++ [z] := ⟨(y :: C).dropLast, (y :: C).getLast (by simp), (List.dropLast_concat_getLast (by simp)).symm⟩
  have hBl : C.length = B.length := by have := congrArg List.length hBz; simp at this; omega
  have hR2 : RowS w q (A ++ B ++ [z]) := by rw [List.append_assoc, ← hBz]; exact hR
  have hm1 : A.length + C.length + 1 - (A.length + 1) = C.length := by omega
  obtain ⟨W1, hW1⟩ : ∃ W1, W1 = w.drew.setCells q (0 + A.length * 5) (Pp.flatS C) := ⟨_, rfl⟩
  have hRd : RowS w.drew q (A ++ B ++ [z]) := hR2.below (Below.refl _ _).drew
  have hR1 : RowS W1 q (A ++ C ++ [z]) := by rw [hW1, Nat.zero_add]; exact hRd.setMany hBl
  have hnb1 : w.grownBy W1 (some q) := by rw [hW1]; exact Nb.trans (Nb.below q (Below.refl _ _).drew) (Nb.setCells q _ _ _)
  have hkb1 : KeepB q w W1 := by rw [hW1]; exact (KeepB.below (Below.refl _ _).drew).trans (KeepB.setCells q _ _ _)
  obtain ⟨wc, hcl, hrc, hnc, hkc⟩ := clearS (A := A ++ C) (X := [z]) hR1 0 (by simp)
  have s1 : Hid ((Pp.flatS C).length = C.length * 5) := (Pp.flatS_len C : (Pp.flatS C).length = C.length * 5)
  have s3 : Hid (∀ t, t < (Pp.flatS C).length → (w.drew.cell? ⟨q, 0 + A.length * 5 + t, none⟩).isSome = true ∧ w.drew.frozen? ⟨q, 0 + A.length * 5 + t, none⟩ = false) := (fun t ht => by
    rw [Pp.flatS_len] at ht
    rw [Nat.zero_add]
    exact rowS_some hRd (by simp only [List.length_append, List.length_singleton]; omega) : ∀ t, t < (Pp.flatS C).length → (w.drew.cell? ⟨q, 0 + A.length * 5 + t, none⟩).isSome = true ∧ w.drew.frozen? ⟨q, 0 + A.length * 5 + t, none⟩ = false)
  have hsrc : C ≠ [] → ∀ t u, (Pp.flatS C)[t]? = some u → w.drew.cell? ((⟨q, (A.length + 1) * 5, none⟩ : Addr).add t) = some u := fun _ => liesS_cells fun i hi => by
    have hi2 : A.length + 1 + i < (A ++ y :: C).length := by omega
    have := (hR.below (Below.refl _ _).drew).at hi2
    rw [show (A.length + 1 + i) * 5 = (A.length + 1) * 5 + i * 5 by omega] at this
    have e : (A ++ y :: C)[A.length + 1 + i] = C[i] := by
      rw [List.getElem_append_right (by omega)]
      simp [show A.length + 1 + i - A.length = i + 1 by omega]
    rw [e] at this
    exact this
  have hACl : (A ++ C).length = A.length + C.length := List.length_append
  rw [hACl] at hcl ⊢
  simp only [List.length_singleton] at hcl
  have HRC := ghid hrc
  have HNC := ghid (Nb.trans hnb1 hnc)
  have HKC := ghid (hkb1.trans hkc)
  have HW := ghid hW1
  have HSRC := ghid hsrc
  clear hrc hnc hkc hnb1 hkb1 hW1 hR1 hRd hR2 hR hsrc hBz hBl
  have hA0 : A.length ≤ cap := by omega
  have hN1 : (0 : Int) ≤ (A.length : Int) + 1 := by omega
  have hN2 : (A.length : Int) ≤ (A.length : Int) + C.length := by omega
  have hA1 : A.length + 1 ≤ cap := by omega
  rw [hlen] at hcap ⊢
  by_cases hcj : cap = A.length + 1
  · have hC0 : C = [] := List.length_eq_zero_iff.1 (by omega)
    subst hC0
    subst hcj
    have hM1 : A.length ≤ A.length + 1 := by omega
    have hM2 : (A.length : Int) ≤ (A.length : Int) + 1 := by omega
    have hM3 : (0 : Int) ≤ (A.length : Int) + 1 := by omega
    simp only [List.length_nil, Nat.add_zero] at *
    go_enter Tryz.func168, Tryz.ntmps168
    go_wp2_with fail
    go_region_law (refine step_append_room rfl (.tmp 22) (.tmp 25) 24 rfl 70 i0 5 Tryz.underlying24 hi0 hz1 q 0 A.length (A.length + 1) (by simp [Act.eval, Act.put]) ⟨q, 0, none⟩ 0 0 (Pp.flatS []) (by simp [Act.eval, Act.put]) rfl (by intro t u hu; simp [Pp.flatS] at hu) (flatS_one []) (by omega) s3.out ?_; rw [← HW.out])
    go_wp2_with fail
    go_ret
    exact ⟨rfl, HRC.out, HNC.out, HKC.out⟩
  · have hsrc2 : Hid (∀ t u, (Pp.flatS C)[t]? = some u → w.drew.cell? ((⟨q, (A.length + 1) * 5, none⟩ : Addr).add t) = some u) := (by
      by_cases hC0 : C = []
      · subst hC0; intro t u hu; simp [Pp.flatS] at hu
      · exact HSRC.out hC0 : ∀ t u, (Pp.flatS C)[t]? = some u → w.drew.cell? ((⟨q, (A.length + 1) * 5, none⟩ : Addr).add t) = some u)
    go_enter Tryz.func168, Tryz.ntmps168
    go_wp2_with fail
    go_region_law (refine step_append_room rfl (.tmp 22) (.tmp 25) 24 rfl 70 i0 5 Tryz.underlying24 hi0 hz1 q 0 A.length cap (by simp [Act.eval, Act.put]) ⟨q, (A.length + 1) * 5, none⟩ C.length (cap - (A.length + 1)) (Pp.flatS C) (by simp [Act.eval, Act.put, hcj]) s1.out hsrc2.out (flatS_one C) (by omega) s3.out ?_; rw [← HW.out])
    go_wp2_with fail
    go_ret
    exact ⟨rfl, HRC.out, HNC.out, HKC.out⟩
end Go.Proofs.YtmdkecdhgjjceaaGreat
