/- What upload.Open answers, where there is no room. -/
import Derived.Test.YtnaedemkpiagmaaU9b
import Derived.Deep.RegionHeld3
set_option linter.unusedSimpArgs false
set_option linter.unusedVariables false
namespace Go.Proofs.Ytnaedemkpiagmaa
open Go.RowKit

set_option maxRecDepth 100000 in
set_option maxHeartbeats 4000000 in
theorem open_e6 (G : List Se) (v : Value) (x l r : Int) (p : ByteArray) (size now : Int) (w : World) (hv : LiesS w v G) (hs : SizedS G) (hp : p.size ≤ 150000000000000) (h0 : Pp.goE G x l r now [p] = 0) (h1 : 0 ≤ size) (h2 : size ≤ 300) (h3 : x < 1099511627776) (h4 : (Pp.swL now G).length < 20) (h5 : r < Pp.takS (Pp.swL now G) p + size) :
    Calls Try.prog 7 #[.agg #[v, .int .i64 x, .int .i64 l, .int .i64 r], .string p, .int .i64 size, .int .i64 now] w fun e w' => e = .returned (.tuple #[.agg #[.slice none 0 0, .int .i64 0, .int .i64 0, .int .i64 0], .int .i64 0, .int .i64 10]) ∧ Below w.heap.size w w' := by
  have HV := ghid hv
  have HS := ghid hs
  clear hv hs
  obtain ⟨w3, hw3⟩ : ∃ w3, w3 = ((w.alloc (.cells #[v, .int .i64 x, .int .i64 l, .int .i64 r] 24)).alloc (.cells #[.slice none 0 0, .int .i64 0, .int .i64 0, .int .i64 0] 24)).alloc (.cells #[.string p] 9) := ⟨_, rfl⟩
  have B3 : Hid (Below w.heap.size w w3) := (by rw [hw3]; exact (((Below.refl _ _).alloc (Nat.le_refl _) _).alloc (by simp) _).alloc (by simp; omega) _ : Below w.heap.size w w3)
  have HR3 : Hid (Bx w3 (w.heap.size + 1) (.slice none 0 0) (.int .i64 0) (.int .i64 0) (.int .i64 0)) := (by
    have := (Bx.new (w.alloc (.cells #[v, .int .i64 x, .int .i64 l, .int .i64 r] 24)) (.slice none 0 0) (.int .i64 0) (.int .i64 0) (.int .i64 0) 24).below ((Below.refl _ _).alloc (Nat.le_refl _) (.cells #[.string p] 9))
    rw [hw3]; simpa using this : Bx w3 (w.heap.size + 1) (.slice none 0 0) (.int .i64 0) (.int .i64 0) (.int .i64 0))
  have HN3 : Hid (Nms w3 (.slice (some ⟨w.heap.size + 2, 0, none⟩) 1 1) [p]) := (Or.inr ⟨w.heap.size + 2, 1, rfl, by rw [hw3]; simp, fun i hi => by
    match i, hi with
    | 0, _ => rw [hw3]; simp [go_sem]⟩ : Nms w3 (.slice (some ⟨w.heap.size + 2, 0, none⟩) 1 1) [p])
  have hsz3 : w3.heap.size = w.heap.size + 3 := by rw [hw3]; simp
  have hns : ∀ s ∈ [p], s.size ≤ 150000000000000 := fun s h => by rw [List.mem_singleton.1 h]; exact hp
  have H0 := ghid h0
  obtain ⟨huc, ⟨hn1, hn2⟩, _⟩ := Pp.go_zero h0
  obtain ⟨hl20, ⟨hl1, hl2⟩, ⟨hr1, hr2⟩, hx1, hx2⟩ := Pp.bnd_zero (Pp.uch_zero huc).1
  have hsw := Pp.swL_len now G
  have HSI : Hid (∀ s ∈ Pp.swL now G, 0 ≤ s.si ∧ s.si ≤ 300) := (fun s h => Pp.ses_si (Pp.uch_zero huc).2.1 s (List.mem_filter.1 h).1 : ∀ s ∈ Pp.swL now G, 0 ≤ s.si ∧ s.si ≤ 300)
  clear h0 huc
  have h20 : ¬ 20 ≤ ((Pp.swL now G).length : Int) := by omega
  go_enter Try.func7, Try.ntmps7
  go_wp2_with fail
  rw [← hw3]
  clear hw3
  refine (going_any G _ x l r now [p] _ _ (HV.out.below B3.out) HS.out HN3.out hns (by simp)).mono ?_
  rintro e w4 (⟨hne, _⟩ | ⟨_, u, rfl, hown, hb4⟩)
  · exact absurd H0.out hne
  have hb04 := B3.out.trans (hb4.mono B3.out.size)
  have hR4 := HR3.out.below hb4
  have hsz4 := hb4.size
  have HOWN := ghid hown
  clear hb4 hown
  obtain ⟨a4, cap4, rfl, hc4, _, _⟩ := HOWN.out.lies (by omega)
  have htk := Pp.takS_bound p HSI.out
  obtain ⟨M, hM⟩ : ∃ M, M = Pp.swL now G := ⟨_, rfl⟩
  rw [← hM] at HSI HOWN h20 h5 hsw htk hc4 h4
  have hMl : M.length ≤ 1000 := by omega
  have hT1 : 0 ≤ Pp.takS M p := htk.1
  have hT2 : Pp.takS M p ≤ 6000 := by have := htk.2; omega
  have hwr : IntKind.i64.wrap (Pp.takS M p + size) = Pp.takS M p + size := by rw [IntKind.wrap_i64]; omega
  clear htk
  obtain ⟨wz, hwz⟩ : ∃ wz, wz = w4.alloc (.cells #[.slice a4 M.length cap4, .int .i64 x, .int .i64 l, .int .i64 r] 24) := ⟨_, rfl⟩
  have hbz : Below w4.heap.size w4 wz := by rw [hwz]; exact (Below.refl _ _).alloc (Nat.le_refl _) _
  have hGz : Bx wz w4.heap.size (.slice a4 M.length cap4) (.int .i64 x) (.int .i64 l) (.int .i64 r) := by rw [hwz]; exact Bx.new _ _ _ _ _ _
  have hRz := hR4.below hbz
  have hb0z := hb04.trans (hbz.mono hb04.size)
  have HOZ := ghid (HOWN.out.below hbz)
  have hszz := hbz.size
  rw [← hM]
  clear hM HOWN hR4 hb04 hbz
  have HGZ := ghid hGz
  obtain ⟨hGb, ⟨q0, q1, q2, q3⟩, k0, k1, k2, k3⟩ := hGz
  have hGb0 := hGb
  go_wp2_with fail
  rw [← hwz]
  clear hwz
  go_region_held3 (fun W => W.cell? ⟨w4.heap.size, 0, none⟩ = some (.slice a4 M.length cap4) ∧ W.cell? ⟨w4.heap.size, 3, none⟩ = some (.int .i64 r)) (go_keep) (first
    | (go_at_call 20; refine (taken_any M _ p _ ((HOZ.out.lies hMl).below (Below.refl _ _).drew) hMl HSI.out).mono ?_; rintro e wa ⟨rfl, hba⟩; have j0 := (hba.cell (p := ⟨w4.heap.size, 0, none⟩) hGb).trans q0; have j3 := (hba.cell (p := ⟨w4.heap.size, 3, none⟩) hGb).trans q3))
  all_goals
    have hbza : Below wz.heap.size wz wa := (Below.refl _ _).drew.trans hba
    have hb0a := hb0z.trans (hbza.mono hb0z.size)
    obtain ⟨hRb, ⟨c0, c1, c2, c3⟩, f0, f1, f2, f3⟩ := hRz.below hbza
    have hsza := hbza.size
    clear hba hbza hRz q0 q1 q2 q3
    generalize Pp.takS M p = T at *
    go_wp2_with fail
    refine bodyPost_ret (v := .tuple #[.agg #[.slice none 0 0, .int .i64 0, .int .i64 0, .int .i64 0], .int .i64 0, .int .i64 10]) (by simp [results, Try.results7, go_sem, c0, c1, c2, c3, hRb]) rfl ⟨rfl, ?_⟩
    exact below_set4 (b := w.heap.size + 1) (hb0a) (by omega)
end Go.Proofs.Ytnaedemkpiagmaa
