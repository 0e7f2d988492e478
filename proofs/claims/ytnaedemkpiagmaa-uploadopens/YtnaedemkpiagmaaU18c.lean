/- What the reference's OpenUpload answers, where there is no room. -/
import Derived.Test.YtnaedemkpiagmaaU18
import Derived.Deep.RegionHeld3
set_option linter.unusedSimpArgs false
set_option linter.unusedVariables false
namespace Go.Proofs.Ytnaedemkpiagmaa
open Go.RowKit

set_option maxRecDepth 100000 in
set_option maxHeartbeats 4000000 in
theorem openRef_e6 (G : List Se) (v : Value) (x l r : Int) (p : ByteArray) (size now : Int) (w : World) (hv : LiesS w v G) (hs : SizedS G) (hp : p.size ≤ 150000000000000) (h0 : Pp.bgE G x l r now = 0) (hn : Pp.nameB p.data.toList = true) (h1 : 0 ≤ size) (h2 : size ≤ 300) (h3 : x < 1099511627776) (h4 : (Pp.swL now G).length < 20) (h5 : r < Pp.takS (Pp.swL now G) p + size) :
    Calls Try.prog 8 #[.agg #[v, .int .i64 x, .int .i64 l, .int .i64 r], .string p, .int .i64 size, .int .i64 now] w fun e w' => e = .returned (.tuple #[.agg #[.slice none 0 0, .int .i64 0, .int .i64 0, .int .i64 0], .int .i64 0, .int .i64 10]) ∧ Below w.heap.size w w' := by
  have HV := ghid hv
  have HS := ghid hs
  obtain ⟨av, capv, rfl, _⟩ := hv
  clear hs
  obtain ⟨w3, hw3⟩ : ∃ w3, w3 = (w.alloc (.cells #[.slice av G.length capv, .int .i64 x, .int .i64 l, .int .i64 r] 24)).alloc (.cells #[.slice none 0 0, .int .i64 0, .int .i64 0, .int .i64 0] 24) := ⟨_, rfl⟩
  have B3 : Hid (Below w.heap.size w w3) := (by rw [hw3]; exact ((Below.refl _ _).alloc (Nat.le_refl _) _).alloc (by simp) _ : Below w.heap.size w w3)
  have HU3 : Hid (Bx w3 w.heap.size (.slice av G.length capv) (.int .i64 x) (.int .i64 l) (.int .i64 r)) := (by rw [hw3]; exact (Bx.new w _ _ _ _ _).below ((Below.refl _ _).alloc (Nat.le_refl _) _) : Bx w3 w.heap.size (.slice av G.length capv) (.int .i64 x) (.int .i64 l) (.int .i64 r))
  have HR3 : Hid (Bx w3 (w.heap.size + 1) (.slice none 0 0) (.int .i64 0) (.int .i64 0) (.int .i64 0)) := (by
    have := Bx.new (w.alloc (.cells #[.slice av G.length capv, .int .i64 x, .int .i64 l, .int .i64 r] 24)) (.slice none 0 0) (.int .i64 0) (.int .i64 0) (.int .i64 0) 24
    rw [hw3]; simpa using this : Bx w3 (w.heap.size + 1) (.slice none 0 0) (.int .i64 0) (.int .i64 0) (.int .i64 0))
  have hsz3 : w3.heap.size = w.heap.size + 2 := by rw [hw3]; simp
  have H0 := ghid h0
  have HNM := ghid hn
  have hgo : Pp.goE G x l r now [] = 0 := by rw [Pp.go_bg]; exact h0
  obtain ⟨huc, ⟨hn1, hn2⟩, _⟩ := Pp.go_zero hgo
  obtain ⟨hl20, ⟨hl1, hl2⟩, ⟨hr1, hr2⟩, hx1, hx2⟩ := Pp.bnd_zero (Pp.uch_zero huc).1
  have hsw := Pp.swL_len now G
  have HSI : Hid (∀ s ∈ Pp.swL now G, 0 ≤ s.si ∧ s.si ≤ 300) := (fun s h => Pp.ses_si (Pp.uch_zero huc).2.1 s (List.mem_filter.1 h).1 : ∀ s ∈ Pp.swL now G, 0 ≤ s.si ∧ s.si ≤ 300)
  have hx3 : (x == 1099511627776) = false := beq_eq_false_iff_ne.2 (by omega)
  clear h0 hn hgo huc
  go_enter Try.func8, Try.ntmps8
  go_wp2_with fail
  rw [← hw3]
  clear hw3
  refine (beginUpload_any G _ x l r now _ (HV.out.below B3.out) HS.out).mono ?_
  rintro e w4 ⟨rfl, hb4⟩
  have hb04 := B3.out.trans (hb4.mono B3.out.size)
  have HU4 := ghid (HU3.out.below hb4)
  have HR4 := ghid (HR3.out.below hb4)
  have hsz4 := hb4.size
  clear hb4
  obtain ⟨hUb, ⟨u0, u1, u2, u3⟩, g0, g1, g2, g3⟩ := HU4.out
  obtain ⟨hRb, ⟨c0, c1, c2, c3⟩, f0, f1, f2, f3⟩ := HR4.out
  rw [H0.out]
  go_wp2_with fail
  refine (rIsName_any p _ hp).mono ?_
  rintro e wn ⟨rfl, hw⟩
  rw [hw, HNM.out]
  clear hw wn
  go_wp2_with fail
  refine (sweepOf_any G _ x l r now _ (HV.out.below hb04) (by omega)).mono ?_
  rintro e w5 ⟨u5, rfl, hown, hb5⟩
  have hb05 := below_trans hb04 hb5
  have HU5 := ghid (HU4.out.below hb5)
  have HR5 := ghid (HR4.out.below hb5)
  have hsz5 := hb5.size
  have HOWN := ghid hown
  clear hb5 hown u0 u1 u2 u3 g0 g1 g2 g3 c0 c1 c2 c3 f0 f1 f2 f3 hUb hRb
  obtain ⟨a5, cap5, hu5, hc5, _, _⟩ := HOWN.out.lies (by omega)
  subst hu5
  obtain ⟨M, hM⟩ : ∃ M, M = Pp.swL now G := ⟨_, rfl⟩
  rw [← hM] at HSI HOWN hsw hc5 h4 ⊢
  have HMM := ghid hM
  clear hM
  have hMl : M.length ≤ 1000 := by omega
  obtain ⟨wq, hwq⟩ : ∃ wq, wq = ((((w5.setCell ⟨w.heap.size, 0, none⟩ (.slice a5 M.length cap5)).setCell ⟨w.heap.size, 1, none⟩ (.int .i64 x)).setCell ⟨w.heap.size, 2, none⟩ (.int .i64 l)).setCell ⟨w.heap.size, 3, none⟩ (.int .i64 r)) := ⟨_, rfl⟩
  have hnbq : w5.grownBy wq (some w.heap.size) := by rw [hwq]; exact Nb.set4 _ _ _ _ _ _
  have hUQ : Bx wq w.heap.size (.slice a5 M.length cap5) (.int .i64 x) (.int .i64 l) (.int .i64 r) := by
    obtain ⟨hWb, ⟨d0, d1, d2, d3⟩, e0, e1, e2, e3⟩ := HU5.out
    rw [hwq]
    exact ⟨by simpa using hWb, ⟨by simp [go_sem, d0, d1, d2, d3], by simp [go_sem, d0, d1, d2, d3], by simp [go_sem, d0, d1, d2, d3], by simp [go_sem, d0, d1, d2, d3]⟩, by simpa using e0, by simpa using e1, by simpa using e2, by simpa using e3⟩
  have HUQ := ghid hUQ
  have HRQ := ghid (HR5.out.nb hnbq (by omega))
  have HOQ := ghid (HOWN.out.nb hnbq (by omega))
  have hb0q : Below w.heap.size w wq := hb05.trans (Nb.to hnbq hb05.size (Nat.le_refl _))
  have hszq := hnbq.size
  obtain ⟨hUb, ⟨d0, d1, d2, d3⟩, e0, e1, e2, e3⟩ := HU5.out
  obtain ⟨hUb2, ⟨y0, y1, y2, y3⟩, y4, y5, y6, y7⟩ := hUQ
  rw [hwq] at y0 y1 y2 y3
  have h20 : ((M.length : Int) == 20) = false := beq_eq_false_iff_ne.2 (by omega)
  have htk := Pp.takS_bound p HSI.out
  have hT1 : 0 ≤ Pp.takS M p := htk.1
  have hT2 : Pp.takS M p ≤ 6000 := by have := htk.2; omega
  have hwr : IntKind.i64.wrap (Pp.takS M p + size) = Pp.takS M p + size := by rw [IntKind.wrap_i64]; omega
  rw [← HMM.out] at h5
  clear htk
  go_wp2_with fail
  rw [← hwq]
  clear hwq hnbq d0 d1 d2 d3 e0 e1 e2 e3 hUb y0 y1 y2 y3 y4 y5 y6 y7
  obtain ⟨hUb, ⟨y0, y1, y2, y3⟩, y4, y5, y6, y7⟩ := HUQ.out
  go_region_held3 (fun W => W.cell? ⟨w.heap.size, 0, none⟩ = some (.slice a5 M.length cap5) ∧ W.cell? ⟨w.heap.size, 3, none⟩ = some (.int .i64 r)) (go_keep) (first
    | (go_at_call 23; refine (openOf_any M _ p _ ((HOQ.out.lies hMl).below (Below.refl _ _).drew) hMl HSI.out).mono ?_; rintro e wa ⟨rfl, hba⟩; have j0 := (hba.cell (p := ⟨w.heap.size, 0, none⟩) hUb).trans y0; have j3 := (hba.cell (p := ⟨w.heap.size, 3, none⟩) hUb).trans y3))
  all_goals
    have hbza : Below wq.heap.size wq wa := (Below.refl _ _).drew.trans hba
    have hb0a := hb0q.trans (hbza.mono hb0q.size)
    obtain ⟨hRb, ⟨c0, c1, c2, c3⟩, f0, f1, f2, f3⟩ := HRQ.out.below hbza
    clear hba hbza y0 y1 y2 y3 y4 y5 y6 y7
    generalize Pp.takS M p = T at *
    go_wp2_with fail
    refine bodyPost_ret (v := .tuple #[.agg #[.slice none 0 0, .int .i64 0, .int .i64 0, .int .i64 0], .int .i64 0, .int .i64 10]) (by simp [results, Try.results8, go_sem, c0, c1, c2, c3, hRb]) rfl ⟨rfl, ?_⟩
    exact below_set4 (b := w.heap.size + 1) hb0a (by omega)
end Go.Proofs.Ytnaedemkpiagmaa
