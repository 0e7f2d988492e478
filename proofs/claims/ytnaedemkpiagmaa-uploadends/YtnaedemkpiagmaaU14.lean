/- What upload.Finish answers, where all is right. -/
import Derived.Test.YtnaedemkpiagmaaU13
import Derived.Deep.RegionHeld3
set_option linter.unusedSimpArgs false
set_option linter.unusedVariables false
namespace Go.Proofs.Ytnaedemkpiagmaa
open Go.RowKit

set_option maxRecDepth 100000 in
set_option maxHeartbeats 4000000 in
theorem finish_k (G : List Se) (v : Value) (x l r : Int) (p : ByteArray) (n : Int) (now : Int) (w : World) (hv : LiesS w v G) (hs : SizedS G) (hp : p.size ≤ 150000000000000) (h0 : Pp.fiE G x l r p n now = 0) (kk : Nat) (hkk : kk < (Pp.swL now G).length) (hidx : Pp.idS (Pp.swL now G) (Pp.mine n p) = (kk : Int)) (hsi : ¬ (((Pp.swL now G)[kk]).tx.size : Int) < ((Pp.swL now G)[kk]).si) :
    Calls Try.prog 14 #[.agg #[v, .int .i64 x, .int .i64 l, .int .i64 r], .string p, .int .i64 n, .int .i64 now] w fun e w' => ∃ u, e = .returned (.tuple #[.agg #[u, .int .i64 x, .int .i64 l, .int .i64 r], .string ((Pp.swL now G)[kk]).tx, .int .i64 0]) ∧ OwnS w.heap.size w' u ((Pp.swL now G).take kk ++ (Pp.swL now G).drop (kk + 1)) ∧ Below w.heap.size w w' := by
  have HV := ghid hv
  have HS := ghid hs
  clear hv hs
  obtain ⟨w3, hw3⟩ : ∃ w3, w3 = (w.alloc (.cells #[v, .int .i64 x, .int .i64 l, .int .i64 r] 24)).alloc (.cells #[.slice none 0 0, .int .i64 0, .int .i64 0, .int .i64 0] 24) := ⟨_, rfl⟩
  have B3 : Hid (Below w.heap.size w w3) := (by rw [hw3]; exact ((Below.refl _ _).alloc (Nat.le_refl _) _).alloc (by simp) _ : Below w.heap.size w w3)
  have HR3 : Hid (Bx w3 (w.heap.size + 1) (.slice none 0 0) (.int .i64 0) (.int .i64 0) (.int .i64 0)) := (by
    have := Bx.new (w.alloc (.cells #[v, .int .i64 x, .int .i64 l, .int .i64 r] 24)) (.slice none 0 0) (.int .i64 0) (.int .i64 0) (.int .i64 0) 24
    rw [hw3]; simpa using this : Bx w3 (w.heap.size + 1) (.slice none 0 0) (.int .i64 0) (.int .i64 0) (.int .i64 0))
  have hsz3 : w3.heap.size = w.heap.size + 2 := by rw [hw3]; simp
  have H0 := ghid h0
  have HI := ghid hidx
  have hgz := Pp.fi_zero h0
  obtain ⟨huc, ⟨hn1, hn2⟩, _⟩ := Pp.go_zero hgz
  obtain ⟨hl20, ⟨hl1, hl2⟩, ⟨hr1, hr2⟩, hx1, hx2⟩ := Pp.bnd_zero (Pp.uch_zero huc).1
  have hsw := Pp.swL_len now G
  have hse := Pp.se_zero (Pp.ses_mem.1 (Pp.uch_zero huc).2.1 _ (List.mem_filter.1 (List.getElem_mem hkk)).1)
  obtain ⟨hsi1, hsi2⟩ := Pp.inR_yes hse.2.1
  have htx := hse.2.2.2.2
  clear h0 hgz huc hse hidx
  go_enter Try.func14, Try.ntmps14
  go_wp2_with fail
  rw [← hw3]
  clear hw3
  refine (find_any G _ x l r p n now _ (HV.out.below B3.out) HS.out hp).mono ?_
  rintro e w4 (⟨hne, _⟩ | ⟨_, u, k, rfl, hk, hid, hown, hb4⟩)
  · exact absurd H0.out hne
  obtain rfl : k = kk := by have := HI.out; rw [hid] at this; omega
  have hb04 := B3.out.trans (hb4.mono B3.out.size)
  have hR4 := HR3.out.below hb4
  have hsz4 := hb4.size
  clear hb4 hid
  rcases hown with ⟨_, hnil⟩ | ⟨g, cap, rfl, hg1, hg2, hrow, hblk, hcm⟩
  · rw [hnil] at hk; simp at hk
  have hglt := hrow.1
  obtain ⟨wz, hwz⟩ : ∃ wz, wz = w4.alloc (.cells #[.slice (some ⟨g, 0, none⟩) (Pp.swL now G).length cap, .int .i64 x, .int .i64 l, .int .i64 r] 24) := ⟨_, rfl⟩
  have hbz : Below w4.heap.size w4 wz := by rw [hwz]; exact (Below.refl _ _).alloc (Nat.le_refl _) _
  have hGz : Bx wz w4.heap.size (.slice (some ⟨g, 0, none⟩) (Pp.swL now G).length cap) (.int .i64 x) (.int .i64 l) (.int .i64 r) := by rw [hwz]; exact Bx.new _ _ _ _ _ _
  have hRz := hR4.below hbz
  have hb0z := hb04.trans (hbz.mono hb04.size)
  have hrz := hrow.below hbz
  have hblz := hblk.below hbz
  have hszz := hbz.size
  have HGZ := ghid hGz
  have HRZ := ghid hRz
  have HROWZ := ghid hrz
  have HBLZ := ghid hblz
  obtain ⟨t0, t1, t2, t3, t4⟩ := hrz.at hk
  clear hR4 hb04 hbz hrow hblk hrz hblz
  obtain ⟨hGb, ⟨q0, q1, q2, q3⟩, k0, k1, k2, k3⟩ := hGz
  have hM : Pp.swL now G = (Pp.swL now G).take k ++ (Pp.swL now G)[k] :: (Pp.swL now G).drop (k + 1) := by rw [← List.drop_eq_getElem_cons hk, List.take_append_drop]
  have hAl : ((Pp.swL now G).take k).length = k := by rw [List.length_take]; omega
  generalize hS : (Pp.swL now G)[k] = s at *
  obtain ⟨A, hA⟩ : ∃ A, A = (Pp.swL now G).take k := ⟨_, rfl⟩
  obtain ⟨C, hC⟩ : ∃ C, C = (Pp.swL now G).drop (k + 1) := ⟨_, rfl⟩
  rw [← hA, ← hC] at hM
  rw [← hA] at hAl
  have HROWA : Hid (RowS wz g (A ++ s :: C)) := (by rw [← hM]; exact HROWZ.out : RowS wz g (A ++ s :: C))
  have HMM := ghid hM
  have HML : Hid ((Pp.swL now G).length = (A ++ s :: C).length) := (by rw [← hM] : (Pp.swL now G).length = (A ++ s :: C).length)
  have HAC : Hid ((Pp.swL now G).take k ++ (Pp.swL now G).drop (k + 1) = A ++ C) := (by rw [hA, hC] : (Pp.swL now G).take k ++ (Pp.swL now G).drop (k + 1) = A ++ C)
  obtain ⟨ws, hws⟩ : ∃ ws, ws = wz.alloc (.cells #[.int .i64 s.nu, .string s.wh, .string s.tx, .int .i64 s.si, .int .i64 s.ti] 38) := ⟨_, rfl⟩
  have hbs : Below wz.heap.size wz ws := by rw [hws]; exact (Below.refl _ _).alloc (Nat.le_refl _) _
  have hz2 : ws.cell? ⟨wz.heap.size, 2, none⟩ = some (.string s.tx) := by rw [hws]; simp
  have hszs : ws.heap.size = wz.heap.size + 1 := by rw [hws]; simp
  have HGS := ghid (HGZ.out.below hbs)
  have HRS := ghid (HRZ.out.below hbs)
  have HROWS := ghid (HROWA.out.below hbs)
  have HBLS := ghid (HBLZ.out.below hbs)
  have hb0s := hb0z.trans (hbs.mono hb0z.size)
  have hszz1 : wz.heap.size = w4.heap.size + 1 := by rw [hwz]; simp
  obtain ⟨hGs, ⟨y0, y1, y2, y3⟩, _⟩ := HGS.out
  rw [hws, hwz] at y0 y1 y2 y3
  rw [hwz] at t0 t1 t2 t3 t4 q0
  clear hA hC hM
  have hdel := sdelete_any A C s g cap ws HROWS.out (by rw [← HML.out]; exact hg2) hcm
  rw [hAl, ← HML.out] at hdel
  have HAL := ghid hAl
  clear hAl
  go_wp2_with fail
  rw [← hwz, ← hws]
  refine hdel.mono ?_
  rintro e w5 ⟨rfl, hr5, hnb5, hkb5⟩
  have HG5 := ghid (HGS.out.nb hnb5 (by omega))
  have HR5 := ghid (HRS.out.nb hnb5 (by omega))
  have z5 : w5.cell? ⟨w4.heap.size + 1, 2, none⟩ = some (.string s.tx) := by
    rw [← hszz1]
    exact (Nb.cell hnb5 (p := ⟨wz.heap.size, 2, none⟩) (by show wz.heap.size < ws.heap.size; omega) (by show wz.heap.size ≠ g; omega)).trans hz2
  have hb05 : Below w.heap.size w w5 := hb0s.trans (Nb.to hnb5 hb0s.size (by omega))
  have hsz5 := hnb5.size
  have hbl5 := hkb5 _ _ HBLS.out
  clear hnb5 hkb5 hdel t0 t1 t2 t3 t4 q0 q1 q2 q3 k0 k1 k2 k3 y0 y1 y2 y3 hz2 hwz hws hbs
  obtain ⟨hGb5, ⟨q0, q1, q2, q3⟩, k0, k1, k2, k3⟩ := HG5.out
  obtain ⟨wq, hwq⟩ : ∃ wq, wq = w5.setCell ⟨w4.heap.size, 0, none⟩ (.slice (some ⟨g, 0, none⟩) (A.length + C.length) cap) := ⟨_, rfl⟩
  have hnbq : w5.grownBy wq (some w4.heap.size) := by rw [hwq]; exact Nb.setCell _ _ _ _
  have HRQ := ghid (HR5.out.nb hnbq (by omega))
  have u0 : wq.cell? ⟨w4.heap.size, 0, none⟩ = some (.slice (some ⟨g, 0, none⟩) (A.length + C.length) cap) := by rw [hwq]; simp [go_sem, q0]
  have u1 : wq.cell? ⟨w4.heap.size, 1, none⟩ = some (.int .i64 x) := by rw [hwq]; simp [go_sem, q1]
  have u2 : wq.cell? ⟨w4.heap.size, 2, none⟩ = some (.int .i64 l) := by rw [hwq]; simp [go_sem, q2]
  have u3 : wq.cell? ⟨w4.heap.size, 3, none⟩ = some (.int .i64 r) := by rw [hwq]; simp [go_sem, q3]
  have zq : wq.cell? ⟨w4.heap.size + 1, 2, none⟩ = some (.string s.tx) := (Nb.cell hnbq (p := ⟨w4.heap.size + 1, 2, none⟩) (by show w4.heap.size + 1 < w5.heap.size; omega) (by show w4.heap.size + 1 ≠ w4.heap.size; omega)).trans z5
  have HROWQ := ghid (hr5.nb hnbq (by omega))
  have HBLQ := ghid (hbl5.nb hnbq (by omega))
  have hb0q : Below w.heap.size w wq := hb05.trans (Nb.to hnbq hb05.size (by omega))
  have hszq := hnbq.size
  have hACle : (A ++ C).length ≤ cap := by have := HML.out; simp only [List.length_append, List.length_cons] at this ⊢; omega
  clear hr5 hbl5
  go_wp2_with fail
  rw [← hwq]
  clear hwq hnbq q0 q1 q2 q3 k0 k1 k2 k3 z5 hb05
  obtain ⟨hRb, ⟨c0, c1, c2, c3⟩, f0, f1, f2, f3⟩ := HRQ.out
  go_region
  go_wp2_with fail
  refine bodyPost_ret (v := .tuple #[.agg #[.slice (some ⟨g, 0, none⟩) (A.length + C.length) cap, .int .i64 x, .int .i64 l, .int .i64 r], .string s.tx, .int .i64 0]) (by simp [results, Try.results14, go_sem, c0, c1, c2, c3, hRb]) rfl ⟨_, by rw [hS], ?_, ?_⟩
  · rw [HAC.out]
    refine Or.inr ⟨g, cap, by simp, by omega, hACle, ?_, ?_, hcm⟩
    · exact (HROWQ.out.nb (Nb.set4 _ (w.heap.size + 1) _ _ _ _) (by omega)).below (Below.refl _ _).drew
    · exact (HBLQ.out.nb (Nb.set4 _ (w.heap.size + 1) _ _ _ _) (by omega)).below (Below.refl _ _).drew
  · exact (below_set4 (b := w.heap.size + 1) hb0q (by omega)).drew
end Go.Proofs.Ytnaedemkpiagmaa
