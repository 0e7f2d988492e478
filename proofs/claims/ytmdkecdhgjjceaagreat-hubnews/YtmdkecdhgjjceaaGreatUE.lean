/- What upload.Finish answers, where all is right. What upload.Sweep and the reference's BeginUpload, SweepOf and SameUploads answer. What upload.Query and the reference's SessionAt answer. What upload.Append answers, where something is wrong, or the text is there already; and in all cases. -/
import Derived.Test.YtmdkecdhgjjceaaGreatUD
import Derived.Deep.RegionHeld3
import Derived.Test.YtmdkecdhgjjceaaGreatU4
import Derived.Test.YtmdkecdhgjjceaaGreatUC
set_option linter.unusedSimpArgs false
set_option linter.unusedVariables false
namespace Go.Proofs.YtmdkecdhgjjceaaGreat
open Go.RowKit

set_option maxRecDepth 100000 in
set_option maxHeartbeats 4000000 in
theorem finish_k (G : List Se) (v : Value) (x l r : Int) (p : ByteArray) (n : Int) (now : Int) (w : World) (hv : LiesS w v G) (hs : SizedS G) (hp : p.size ≤ 150000000000000) (h0 : Pp.fiE G x l r p n now = 0) (kk : Nat) (hkk : kk < (Pp.swL now G).length) (hidx : Pp.idS (Pp.swL now G) (Pp.mine n p) = (kk : Int)) (hsi : ¬ (((Pp.swL now G)[kk]).tx.size : Int) < ((Pp.swL now G)[kk]).si) :
    Calls Tryz.prog 136 #[.agg #[v, .int .i64 x, .int .i64 l, .int .i64 r], .string p, .int .i64 n, .int .i64 now] w fun e w' => ∃ u, e = .returned (.tuple #[.agg #[u, .int .i64 x, .int .i64 l, .int .i64 r], .string ((Pp.swL now G)[kk]).tx, .int .i64 0]) ∧ OwnS w.heap.size w' u ((Pp.swL now G).take kk ++ (Pp.swL now G).drop (kk + 1)) ∧ Below w.heap.size w w' := by
  have HV := ghid hv
  have HS := ghid hs
  clear hv hs
  obtain ⟨w3, hw3⟩ : ∃ w3, w3 = (w.alloc (.cells #[v, .int .i64 x, .int .i64 l, .int .i64 r] 26)).alloc (.cells #[.slice none 0 0, .int .i64 0, .int .i64 0, .int .i64 0] 26) := ⟨_, rfl⟩
  have B3 : Hid (Below w.heap.size w w3) := (by rw [hw3]; exact ((Below.refl _ _).alloc (Nat.le_refl _) _).alloc (by simp) _ : Below w.heap.size w w3)
  have HR3 : Hid (Bx w3 (w.heap.size + 1) (.slice none 0 0) (.int .i64 0) (.int .i64 0) (.int .i64 0)) := (by
    have := Bx.new (w.alloc (.cells #[v, .int .i64 x, .int .i64 l, .int .i64 r] 26)) (.slice none 0 0) (.int .i64 0) (.int .i64 0) (.int .i64 0) 26
    rw [hw3]; simpa using this : Bx w3 (w.heap.size + 1) (.slice none 0 0) (.int .i64 0) (.int .i64 0) (.int .i64 0))
  have hsz3 : w3.heap.size = w.heap.size + 2 := by rw [hw3]; simp
  have H0 := ghid h0
  have HI := ghid hidx
  have hgz := Pp.fi_zero h0
  obtain ⟨huc, ⟨hn1, hn2⟩, _⟩ := Pp.go_zero hgz
  obtain ⟨hl20, ⟨hl1, hl2⟩, ⟨hr1, hr2⟩, hx1, hx2⟩ := Pp.bnd_zero (Pp.uch_zero huc).1
  have hsw := Pp.swL_len now G
  have hse := Pp.se_zero (Pp.ses_mem.1 (Pp.uch_zero huc).2.1 _ (List.mem_filter.1 (List.getElem_mem hkk)).1)
  obtain ⟨hsi1, hsi2⟩ := Pp.inR_yes hse.2.1
  have htx := hse.2.2.2.2
  clear h0 hgz huc hse hidx
  go_enter Tryz.func136, Tryz.ntmps136
  go_wp2_with fail
  rw [← hw3]
  clear hw3
  refine (find_any G _ x l r p n now _ (HV.out.below B3.out) HS.out hp).mono ?_
  rintro e w4 (⟨hne, _⟩ | ⟨_, u, k, rfl, hk, hid, hown, hb4⟩)
  · exact absurd H0.out hne
  obtain rfl : k = kk := by have := HI.out; rw [hid] at this; omega
  have hb04 := B3.out.trans (hb4.mono B3.out.size)
  have hR4 := HR3.out.below hb4
  have hsz4 := hb4.size
  clear hb4 hid
  rcases hown with ⟨_, hnil⟩ | ⟨g, cap, rfl, hg1, hg2, hrow, hblk, hcm⟩
  · rw [hnil] at hk; simp at hk
  have hglt := hrow.1
  obtain ⟨wz, hwz⟩ : ∃ wz, wz = w4.alloc (.cells #[.slice (some ⟨g, 0, none⟩) (Pp.swL now G).length cap, .int .i64 x, .int .i64 l, .int .i64 r] 26) := ⟨_, rfl⟩
  have hbz : Below w4.heap.size w4 wz := by rw [hwz]; exact (Below.refl _ _).alloc (Nat.le_refl _) _
  have hGz : Bx wz w4.heap.size (.slice (some ⟨g, 0, none⟩) (Pp.swL now G).length cap) (.int .i64 x) (.int .i64 l) (.int .i64 r) := by rw [hwz]; exact Bx.new _ _ _ _ _ _
  have hRz := hR4.below hbz
  have hb0z := hb04.trans (hbz.mono hb04.size)
  have hrz := hrow.below hbz
  have hblz := hblk.below hbz
  have hszz := hbz.size
  have HGZ := ghid hGz
  have HRZ := ghid hRz
  have HROWZ := ghid hrz
  have HBLZ := ghid hblz
  obtain ⟨t0, t1, t2, t3, t4⟩ := hrz.at hk
  clear hR4 hb04 hbz hrow hblk hrz hblz
  obtain ⟨hGb, ⟨q0, q1, q2, q3⟩, k0, k1, k2, k3⟩ := hGz
  have hM : Pp.swL now G = (Pp.swL now G).take k ++ (Pp.swL now G)[k] :: (Pp.swL now G).drop (k + 1) := by rw [← List.drop_eq_getElem_cons hk, List.take_append_drop]
  have hAl : ((Pp.swL now G).take k).length = k := by rw [List.length_take]; omega
  generalize hS : (Pp.swL now G)[k] = s at *
  obtain ⟨A, hA⟩ : ∃ A, A = (Pp.swL now G).take k := ⟨_, rfl⟩
  obtain ⟨C, hC⟩ : ∃ C, C = (Pp.swL now G).drop (k + 1) := ⟨_, rfl⟩
  rw [← hA, ← hC] at hM
  rw [← hA] at hAl
  have HROWA : Hid (RowS wz g (A ++ s :: C)) := (by rw [← hM]; exact HROWZ.out : RowS wz g (A ++ s :: C))
  have HMM := ghid hM
  have HML : Hid ((Pp.swL now G).length = (A ++ s :: C).length) := (by rw [← hM] : (Pp.swL now G).length = (A ++ s :: C).length)
  have HAC : Hid ((Pp.swL now G).take k ++ (Pp.swL now G).drop (k + 1) = A ++ C) := (by rw [hA, hC] : (Pp.swL now G).take k ++ (Pp.swL now G).drop (k + 1) = A ++ C)
  obtain ⟨ws, hws⟩ : ∃ ws, ws = wz.alloc (.cells #[.int .i64 s.nu, .string s.wh, .string s.tx, .int .i64 s.si, .int .i64 s.ti] 70) := ⟨_, rfl⟩
  have hbs : Below wz.heap.size wz ws := by rw [hws]; exact (Below.refl _ _).alloc (Nat.le_refl _) _
  have hz2 : ws.cell? ⟨wz.heap.size, 2, none⟩ = some (.string s.tx) := by rw [hws]; simp
  have hszs : ws.heap.size = wz.heap.size + 1 := by rw [hws]; simp
  have HGS := ghid (HGZ.out.below hbs)
  have HRS := ghid (HRZ.out.below hbs)
  have HROWS := ghid (HROWA.out.below hbs)
  have HBLS := ghid (HBLZ.out.below hbs)
  have hb0s := hb0z.trans (hbs.mono hb0z.size)
  have hszz1 : wz.heap.size = w4.heap.size + 1 := by rw [hwz]; simp
  obtain ⟨hGs, ⟨y0, y1, y2, y3⟩, _⟩ := HGS.out
  rw [hws, hwz] at y0 y1 y2 y3
  rw [hwz] at t0 t1 t2 t3 t4 q0
  clear hA hC hM
  have hdel := sdelete_any A C s g cap ws HROWS.out (by rw [← HML.out]; exact hg2) hcm
  rw [hAl, ← HML.out] at hdel
  have HAL := ghid hAl
  clear hAl
  go_wp2_with fail
  rw [← hwz, ← hws]
  refine hdel.mono ?_
  rintro e w5 ⟨rfl, hr5, hnb5, hkb5⟩
  have HG5 := ghid (HGS.out.nb hnb5 (by omega))
  have HR5 := ghid (HRS.out.nb hnb5 (by omega))
  have z5 : w5.cell? ⟨w4.heap.size + 1, 2, none⟩ = some (.string s.tx) := by
    rw [← hszz1]
    exact (Nb.cell hnb5 (p := ⟨wz.heap.size, 2, none⟩) (by show wz.heap.size < ws.heap.size; omega) (by show wz.heap.size ≠ g; omega)).trans hz2
  have hb05 : Below w.heap.size w w5 := hb0s.trans (Nb.to hnb5 hb0s.size (by omega))
  have hsz5 := hnb5.size
  have hbl5 := hkb5 _ _ HBLS.out
  clear hnb5 hkb5 hdel t0 t1 t2 t3 t4 q0 q1 q2 q3 k0 k1 k2 k3 y0 y1 y2 y3 hz2 hwz hws hbs
  obtain ⟨hGb5, ⟨q0, q1, q2, q3⟩, k0, k1, k2, k3⟩ := HG5.out
  obtain ⟨wq, hwq⟩ : ∃ wq, wq = w5.setCell ⟨w4.heap.size, 0, none⟩ (.slice (some ⟨g, 0, none⟩) (A.length + C.length) cap) := ⟨_, rfl⟩
  have hnbq : w5.grownBy wq (some w4.heap.size) := by rw [hwq]; exact Nb.setCell _ _ _ _
  have HRQ := ghid (HR5.out.nb hnbq (by omega))
  have u0 : wq.cell? ⟨w4.heap.size, 0, none⟩ = some (.slice (some ⟨g, 0, none⟩) (A.length + C.length) cap) := by rw [hwq]; simp [go_sem, q0]
  have u1 : wq.cell? ⟨w4.heap.size, 1, none⟩ = some (.int .i64 x) := by rw [hwq]; simp [go_sem, q1]
  have u2 : wq.cell? ⟨w4.heap.size, 2, none⟩ = some (.int .i64 l) := by rw [hwq]; simp [go_sem, q2]
  have u3 : wq.cell? ⟨w4.heap.size, 3, none⟩ = some (.int .i64 r) := by rw [hwq]; simp [go_sem, q3]
  have zq : wq.cell? ⟨w4.heap.size + 1, 2, none⟩ = some (.string s.tx) := (Nb.cell hnbq (p := ⟨w4.heap.size + 1, 2, none⟩) (by show w4.heap.size + 1 < w5.heap.size; omega) (by show w4.heap.size + 1 ≠ w4.heap.size; omega)).trans z5
  have HROWQ := ghid (hr5.nb hnbq (by omega))
  have HBLQ := ghid (hbl5.nb hnbq (by omega))
  have hb0q : Below w.heap.size w wq := hb05.trans (Nb.to hnbq hb05.size (by omega))
  have hszq := hnbq.size
  have hACle : (A ++ C).length ≤ cap := by have := HML.out; simp only [List.length_append, List.length_cons] at this ⊢; omega
  clear hr5 hbl5
  go_wp2_with fail
  rw [← hwq]
  clear hwq hnbq q0 q1 q2 q3 k0 k1 k2 k3 z5 hb05
  obtain ⟨hRb, ⟨c0, c1, c2, c3⟩, f0, f1, f2, f3⟩ := HRQ.out
  go_region
  go_wp2_with fail
  refine bodyPost_ret (v := .tuple #[.agg #[.slice (some ⟨g, 0, none⟩) (A.length + C.length) cap, .int .i64 x, .int .i64 l, .int .i64 r], .string s.tx, .int .i64 0]) (by simp [results, Tryz.results136, go_sem, c0, c1, c2, c3, hRb]) rfl ⟨_, by rw [hS], ?_, ?_⟩
  · rw [HAC.out]
    refine Or.inr ⟨g, cap, by simp, by omega, hACle, ?_, ?_, hcm⟩
    · exact (HROWQ.out.nb (Nb.set4 _ (w.heap.size + 1) _ _ _ _) (by omega)).below (Below.refl _ _).drew
    · exact (HBLQ.out.nb (Nb.set4 _ (w.heap.size + 1) _ _ _ _) (by omega)).below (Below.refl _ _).drew
  · exact (below_set4 (b := w.heap.size + 1) hb0q (by omega)).drew
end Go.Proofs.YtmdkecdhgjjceaaGreat
set_option linter.unusedSimpArgs false
set_option linter.unusedVariables false
namespace Go.Proofs.YtmdkecdhgjjceaaGreat
open Go.RowKit

namespace Pp
/-- What all calls tell first, but for names. -/
def bgE (G : List Se) (x l r now : Int) : Int := if uchE G x l r = 0 then (if inR 0 now 1099511627776 = true then 0 else 3) else uchE G x l r
theorem go_bg (G : List Se) (x l r now : Int) : goE G x l r now [] = bgE G x l r now := by
  have h : nmsE [] = 0 := rfl
  rw [goE, bgE, h]
theorem swL_snoc {now : Int} {G : List Se} {k : Nat} (h : k < G.length) : swL now (G.take (k + 1)) = if ovr now G[k] = true then swL now (G.take k) else swL now (G.take k) ++ [G[k]] := by
  rw [swL, swL, List.take_succ_eq_append_getElem h, List.filter_append]
  cases hh : ovr now G[k] <;> simp [hh]
end Pp

set_option maxHeartbeats 2000000 in
theorem beginUpload_any (G : List Se) (v : Value) (x l r now : Int) (w : World) (hv : LiesS w v G) (hs : SizedS G) :
    Calls Tryz.prog 70 #[.agg #[v, .int .i64 x, .int .i64 l, .int .i64 r], .int .i64 now] w fun e w' => e = .returned (.int .i64 (Pp.bgE G x l r now)) ∧ Below w.heap.size w w' := by
  have HV := ghid hv
  have HS := ghid hs
  clear hv hs
  by_cases h0 : Pp.uchE G x l r = 0
  · have H0 := ghid h0
    by_cases h1 : now < 0
    · have HE : Hid (3 = Pp.bgE G x l r now) := (by rw [Pp.bgE, if_pos h0, if_neg]; simp [Pp.inR]; omega : 3 = Pp.bgE G x l r now)
      clear h0
      go_enter Tryz.func70, Tryz.ntmps70
      go_wp2_with fail
      refine (rCheckUploads_any G _ x l r _ (HV.out.below ((Below.refl _ _).alloc (Nat.le_refl _) _)) HS.out).mono ?_
      rintro e w1 ⟨rfl, hb1⟩
      rw [H0.out]
      obtain ⟨_, _, _, _, hbw, _⟩ := bx4 hb1
      go_wp2
      go_ret
      exact ⟨Pp.ret_int HE.out, hbw⟩
    · by_cases h2 : 1099511627776 < now
      · have HE : Hid (3 = Pp.bgE G x l r now) := (by rw [Pp.bgE, if_pos h0, if_neg]; simp [Pp.inR]; omega : 3 = Pp.bgE G x l r now)
        clear h0
        go_enter Tryz.func70, Tryz.ntmps70
        go_wp2_with fail
        refine (rCheckUploads_any G _ x l r _ (HV.out.below ((Below.refl _ _).alloc (Nat.le_refl _) _)) HS.out).mono ?_
        rintro e w1 ⟨rfl, hb1⟩
        rw [H0.out]
        obtain ⟨_, _, _, _, hbw, _⟩ := bx4 hb1
        go_wp2
        go_ret
        exact ⟨Pp.ret_int HE.out, hbw⟩
      · have HE : Hid (0 = Pp.bgE G x l r now) := (by rw [Pp.bgE, if_pos h0, if_pos]; simp [Pp.inR]; omega : 0 = Pp.bgE G x l r now)
        clear h0
        go_enter Tryz.func70, Tryz.ntmps70
        go_wp2_with fail
        refine (rCheckUploads_any G _ x l r _ (HV.out.below ((Below.refl _ _).alloc (Nat.le_refl _) _)) HS.out).mono ?_
        rintro e w1 ⟨rfl, hb1⟩
        rw [H0.out]
        obtain ⟨_, _, _, _, hbw, _⟩ := bx4 hb1
        go_wp2
        go_ret
        exact ⟨Pp.ret_int HE.out, hbw⟩
  · have HE : Hid (Pp.uchE G x l r = Pp.bgE G x l r now) := ((if_neg h0).symm : Pp.uchE G x l r = Pp.bgE G x l r now)
    have hz : (Pp.uchE G x l r == 0) = false := by simpa using h0
    go_enter Tryz.func70, Tryz.ntmps70
    go_wp2_with fail
    refine (rCheckUploads_any G _ x l r _ (HV.out.below ((Below.refl _ _).alloc (Nat.le_refl _) _)) HS.out).mono ?_
    rintro e w1 ⟨rfl, hb1⟩
    obtain ⟨_, _, _, _, hbw, _⟩ := bx4 hb1
    generalize Pp.uchE G x l r = y at *
    go_wp2
    go_ret
    exact ⟨Pp.ret_int HE.out, hbw⟩

set_option maxRecDepth 100000 in
set_option maxHeartbeats 2000000 in
theorem sameUploads_yes (G : List Se) (v u : Value) (x l r : Int) (w : World) (hv : LiesS w v G) (hu : LiesS w u G) :
    Calls Tryz.prog 31 #[.agg #[v, .int .i64 x, .int .i64 l, .int .i64 r], .agg #[u, .int .i64 x, .int .i64 l, .int .i64 r]] w fun e w' => e = .returned (.bool true) ∧ Below w.heap.size w w' := by
  obtain ⟨a, cap, rfl, hcap, hcap2, hL⟩ := hv
  have HL : Hid (∀ i (h : i < G.length), ∃ b o, a = some ⟨b, o, none⟩ ∧ b < w.heap.size ∧ SeAt w b (o + i * 5) G[i]) := hL
  obtain ⟨a', cap', rfl, hcap', _, hL'⟩ := hu
  have HL' : Hid (∀ i (h : i < G.length), ∃ b o, a' = some ⟨b, o, none⟩ ∧ b < w.heap.size ∧ SeAt w b (o + i * 5) G[i]) := hL'
  clear hL hL'
  obtain ⟨w2, hw2⟩ : ∃ w2, w2 = (w.alloc (.cells #[.slice a G.length cap, .int .i64 x, .int .i64 l, .int .i64 r] 26)).alloc (.cells #[.slice a' G.length cap', .int .i64 x, .int .i64 l, .int .i64 r] 26) := ⟨_, rfl⟩
  have hb2 : Below w.heap.size w w2 := by rw [hw2]; exact ((Below.refl _ _).alloc (Nat.le_refl _) _).alloc (by simp) _
  have HA2 : Hid (Bx w2 w.heap.size (.slice a G.length cap) (.int .i64 x) (.int .i64 l) (.int .i64 r)) := (by rw [hw2]; exact (Bx.new w _ _ _ _ _).below ((Below.refl _ _).alloc (Nat.le_refl _) _) : Bx w2 w.heap.size (.slice a G.length cap) (.int .i64 x) (.int .i64 l) (.int .i64 r))
  have HB2 : Hid (Bx w2 (w.heap.size + 1) (.slice a' G.length cap') (.int .i64 x) (.int .i64 l) (.int .i64 r)) := (by
    have := Bx.new (w.alloc (.cells #[.slice a G.length cap, .int .i64 x, .int .i64 l, .int .i64 r] 26)) (.slice a' G.length cap') (.int .i64 x) (.int .i64 l) (.int .i64 r) 26
    rw [hw2]; simpa using this : Bx w2 (w.heap.size + 1) (.slice a' G.length cap') (.int .i64 x) (.int .i64 l) (.int .i64 r))
  have hsz2 : w2.heap.size = w.heap.size + 2 := by rw [hw2]; simp
  have HW2 := ghid hw2
  go_enter Tryz.func31, Tryz.ntmps31
  go_wp2_with fail
  rw [← hw2]
  clear hw2 HW2
  go_loopw [5] (fun i wr => ∃ k : Nat, k ≤ G.length ∧ i = .int .i64 k ∧ Below w2.heap.size w2 wr) (fun i _ => G.length - (intOf i).toNat)
  case atStart => exact ⟨0, Nat.zero_le _, rfl, Below.refl _ _⟩
  case round =>
    obtain ⟨k, hk, rfl, hbel2⟩ := hrel
    have hbel : Below w.heap.size w wr := hb2.trans (hbel2.mono hb2.size)
    obtain ⟨hAb, ⟨a0, a1, a2, a3⟩, _⟩ := HA2.out.below hbel2
    obtain ⟨hBb, ⟨b0, b1, b2, b3⟩, _⟩ := HB2.out.below hbel2
    by_cases hlt : k < G.length
    · obtain ⟨b, o, rfl, hb, he⟩ := HL.out k hlt
      obtain ⟨b', o', rfl, hb', he'⟩ := HL'.out k hlt
      obtain ⟨c0, c1, c2, c3, c4⟩ := he.below hb hbel
      obtain ⟨d0, d1, d2, d3, d4⟩ := he'.below hb' hbel
      generalize G[k] = s at *
      go_wp2_with fail
      go_region
      go_wp2_with fail
      go_roundw
      case rel => exact ⟨k + 1, by omega, by simp, hbel2.drew⟩
      case measure => simp [intOf]; omega
    · go_wp2_with fail
      go_ret
      exact ⟨rfl, hbel⟩
end Go.Proofs.YtmdkecdhgjjceaaGreat
set_option linter.unusedSimpArgs false
set_option linter.unusedVariables false
namespace Go.Proofs.YtmdkecdhgjjceaaGreat
open Go.RowKit

set_option maxRecDepth 100000 in
set_option maxHeartbeats 2000000 in
theorem query_any (G : List Se) (v : Value) (x l r : Int) (p : ByteArray) (n now : Int) (w : World) (hv : LiesS w v G) (hs : SizedS G) (hp : p.size ≤ 150000000000000) :
    Calls Tryz.prog 109 #[.agg #[v, .int .i64 x, .int .i64 l, .int .i64 r], .string p, .int .i64 n, .int .i64 now] w fun e w' => ∃ q, e = .returned (.tuple #[.int .i64 q, .int .i64 (Pp.fiE G x l r p n now)]) ∧ Below w.heap.size w w' := by
  have HV := ghid hv
  have HS := ghid hs
  clear hv hs
  have hb3 : Below w.heap.size w (w.alloc (.cells #[v, .int .i64 x, .int .i64 l, .int .i64 r] 26)) := (Below.refl _ _).alloc (Nat.le_refl _) _
  have hsw : Pp.fiE G x l r p n now = 0 → (Pp.swL now G).length ≤ 1000 := fun h => by
    have h2 := Pp.swL_len now G
    have hg : Pp.goE G x l r now [p] = 0 := by
      rcases Pp.fi_cases G x l r p n now with ⟨h0, hE⟩ | ⟨h0, _⟩ | ⟨h0, _⟩
      · rw [h] at hE; exact hE.symm
      · exact h0
      · exact h0
    have := (Pp.bnd_zero (Pp.uch_zero (Pp.go_zero hg).1).1).1
    omega
  have HSW := ghid hsw
  clear hsw
  go_enter Tryz.func109, Tryz.ntmps109
  go_wp2_with fail
  refine (find_any G _ x l r p n now _ (HV.out.below hb3) HS.out hp).mono ?_
  rintro e w4 (⟨hne, rfl, hb4⟩ | ⟨hz, u, k, rfl, hk, _, hown, hb4⟩)
  · have hb04 : Below w.heap.size w w4 := hb3.trans (hb4.mono (by simp))
    have hz : (Pp.fiE G x l r p n now == 0) = false := by simpa using hne
    clear hb4 hne
    generalize hy : Pp.fiE G x l r p n now = y at *
    go_wp2_with fail
    go_ret2
    exact ⟨_, by rw [hy]; rfl, hb04.alloc hb04.size _⟩
  · have HZ := ghid hz
    have hb04 : Below w.heap.size w w4 := hb3.trans (hb4.mono (by simp))
    have hsw2 := HSW.out hz
    clear hb4 hz
    rcases hown with ⟨_, hnil⟩ | ⟨g, cap, rfl, hg1, hg2, hrow, _⟩
    · rw [hnil] at hk; simp at hk
    have hglt := hrow.1
    obtain ⟨t0, t1, t2, t3, t4⟩ := (hrow.below ((Below.refl _ _).alloc (Nat.le_refl _) (.cells #[.slice (some ⟨g, 0, none⟩) (Pp.swL now G).length cap, .int .i64 x, .int .i64 l, .int .i64 r] 26))).at hk
    clear hrow
    go_wp2_with fail
    go_ret2
    exact ⟨_, by rw [HZ.out]; rfl, hb04.alloc hb04.size _⟩

namespace Pp
def mine2 (p : ByteArray) (n : Int) (s : Se) : Bool := (s.wh.toList == p.toList) && (s.nu == n)
end Pp

set_option maxRecDepth 100000 in
set_option maxHeartbeats 2000000 in
theorem sessionAt_any (G : List Se) (v : Value) (x l r : Int) (p : ByteArray) (n : Int) (w : World) (hv : LiesS w v G) :
    Calls Tryz.prog 72 #[.agg #[v, .int .i64 x, .int .i64 l, .int .i64 r], .string p, .int .i64 n] w fun e w' => e = .returned (.int .i64 (Pp.idS G (Pp.mine2 p n))) ∧ Below w.heap.size w w' := by
  obtain ⟨a, cap, rfl, hcap, hcap2, hLL⟩ := hv
  have HL : Hid (∀ i (h : i < G.length), ∃ b o, a = some ⟨b, o, none⟩ ∧ b < w.heap.size ∧ SeAt w b (o + i * 5) G[i]) := hLL
  clear hLL
  obtain ⟨w2, hw2⟩ : ∃ w2, w2 = w.alloc (.cells #[.slice a G.length cap, .int .i64 x, .int .i64 l, .int .i64 r] 26) := ⟨_, rfl⟩
  have hb2 : Below w.heap.size w w2 := by rw [hw2]; exact (Below.refl _ _).alloc (Nat.le_refl _) _
  have HA2 : Hid (Bx w2 w.heap.size (.slice a G.length cap) (.int .i64 x) (.int .i64 l) (.int .i64 r)) := (by rw [hw2]; exact Bx.new _ _ _ _ _ _ : Bx w2 w.heap.size (.slice a G.length cap) (.int .i64 x) (.int .i64 l) (.int .i64 r))
  go_enter Tryz.func72, Tryz.ntmps72
  go_wp2_with fail
  rw [← hw2]
  clear hw2
  go_loopw [7] (fun i wr => ∃ k : Nat, k ≤ G.length ∧ i = .int .i64 k ∧ Hid (∀ j (h' : j < G.length), j < k → Pp.mine2 p n G[j] = false) ∧ Below w2.heap.size w2 wr) (fun i _ => G.length - (intOf i).toNat)
  case atStart => exact ⟨0, Nat.zero_le _, rfl, (fun j _ h => absurd h (Nat.not_lt_zero _) : ∀ j (h' : j < G.length), j < 0 → Pp.mine2 p n G[j] = false), Below.refl _ _⟩
  case round =>
    obtain ⟨k, hk, rfl, HP, hbel2⟩ := hrel
    have hbel : Below w.heap.size w wr := hb2.trans (hbel2.mono hb2.size)
    obtain ⟨hAb, ⟨a0, a1, a2, a3⟩, _⟩ := HA2.out.below hbel2
    by_cases hlt : k < G.length
    · obtain ⟨b, o, rfl, hb, he⟩ := HL.out k hlt
      obtain ⟨c0, c1, c2, c3, c4⟩ := he.below hb hbel
      have HT : Hid (Pp.mine2 p n G[k] = true → (k : Int) = Pp.idS G (Pp.mine2 p n)) := (fun h => Pp.idS_hit hlt HP.out h : Pp.mine2 p n G[k] = true → (k : Int) = Pp.idS G (Pp.mine2 p n))
      have HF : Hid (Pp.mine2 p n G[k] = false → ∀ j (h' : j < G.length), j < k + 1 → Pp.mine2 p n G[j] = false) := (fun hp j h1 h2 => by
        by_cases e : j = k
        · subst e; exact hp
        · exact HP.out j h1 (by omega) : Pp.mine2 p n G[k] = false → ∀ j (h' : j < G.length), j < k + 1 → Pp.mine2 p n G[j] = false)
      clear he
      generalize G[k] = s at *
      cases h1 : (s.wh.toList == p.toList) with
      | true =>
        cases h2 : (s.nu == n) with
        | true =>
          have HE := ghid (HT.out (by rw [Pp.mine2, h1, h2]; rfl))
          go_wp2_with fail
          go_ret
          exact ⟨Pp.ret_int HE.out, hbel⟩
        | false =>
          have HP2 := ghid (HF.out (by rw [Pp.mine2, h1, h2]; rfl))
          go_wp2_with fail
          go_roundw
          case rel => exact ⟨k + 1, by omega, by simp, HP2, hbel2⟩
          case measure => simp [intOf]; omega
      | false =>
        have HP2 := ghid (HF.out (by rw [Pp.mine2, h1]; rfl))
        go_wp2_with fail
        go_roundw
        case rel => exact ⟨k + 1, by omega, by simp, HP2, hbel2⟩
        case measure => simp [intOf]; omega
    · have HE : Hid (-1 = Pp.idS G (Pp.mine2 p n)) := (Pp.idS_miss (fun j h => HP.out j h (by omega)) : -1 = Pp.idS G (Pp.mine2 p n))
      go_wp2_with fail
      go_ret
      exact ⟨Pp.ret_int HE.out, hbel⟩
end Go.Proofs.YtmdkecdhgjjceaaGreat
set_option linter.unusedSimpArgs false
set_option linter.unusedVariables false
namespace Go.Proofs.YtmdkecdhgjjceaaGreat
open Go.RowKit

set_option maxRecDepth 100000 in
set_option maxHeartbeats 4000000 in
theorem append_e1 (G : List Se) (v : Value) (x l r : Int) (p : ByteArray) (n o : Int) (t : ByteArray) (now : Int) (w : World) (hv : LiesS w v G) (hs : SizedS G) (hp : p.size ≤ 150000000000000) (h0 : ¬ Pp.fiE G x l r p n now = 0) :
    Calls Tryz.prog 108 #[.agg #[v, .int .i64 x, .int .i64 l, .int .i64 r], .string p, .int .i64 n, .int .i64 o, .string t, .int .i64 now] w fun e w' => e = .returned (.tuple #[.agg #[.slice none 0 0, .int .i64 0, .int .i64 0, .int .i64 0], .int .i64 0, .int .i64 (Pp.fiE G x l r p n now)]) ∧ Below w.heap.size w w' := by
  have HV := ghid hv
  have HS := ghid hs
  clear hv hs
  obtain ⟨w3, hw3⟩ : ∃ w3, w3 = (w.alloc (.cells #[v, .int .i64 x, .int .i64 l, .int .i64 r] 26)).alloc (.cells #[.slice none 0 0, .int .i64 0, .int .i64 0, .int .i64 0] 26) := ⟨_, rfl⟩
  have B3 : Hid (Below w.heap.size w w3) := (by rw [hw3]; exact ((Below.refl _ _).alloc (Nat.le_refl _) _).alloc (by simp) _ : Below w.heap.size w w3)
  have HR3 : Hid (Bx w3 (w.heap.size + 1) (.slice none 0 0) (.int .i64 0) (.int .i64 0) (.int .i64 0)) := (by
    have := Bx.new (w.alloc (.cells #[v, .int .i64 x, .int .i64 l, .int .i64 r] 26)) (.slice none 0 0) (.int .i64 0) (.int .i64 0) (.int .i64 0) 26
    rw [hw3]; simpa using this : Bx w3 (w.heap.size + 1) (.slice none 0 0) (.int .i64 0) (.int .i64 0) (.int .i64 0))
  have hsz3 : w3.heap.size = w.heap.size + 2 := by rw [hw3]; simp
  have HNZ := ghid h0
  have hz : (Pp.fiE G x l r p n now == 0) = false := by simpa using h0
  clear h0
  go_enter Tryz.func108, Tryz.ntmps108
  go_wp2_with fail
  rw [← hw3]
  clear hw3
  refine (find_any G _ x l r p n now _ (HV.out.below B3.out) HS.out hp).mono ?_
  rintro e w4 (⟨_, rfl, hb4⟩ | ⟨hh, _⟩)
  rotate_left
  · exact absurd hh HNZ.out
  have hb04 := B3.out.trans (hb4.mono B3.out.size)
  obtain ⟨hRb, ⟨c0, c1, c2, c3⟩, f0, f1, f2, f3⟩ := HR3.out.below hb4
  have hsz4 := hb4.size
  clear hb4
  generalize hy : Pp.fiE G x l r p n now = y at *
  go_wp2_with fail
  refine bodyPost_ret (v := .tuple #[.agg #[.slice none 0 0, .int .i64 0, .int .i64 0, .int .i64 0], .int .i64 0, .int .i64 y]) (by simp [results, Tryz.results108, go_sem, c0, c1, c2, c3, hRb]) rfl ⟨by rw [hy], ?_⟩
  exact (below_set4 (b := w.heap.size + 1) hb04 (by omega)).alloc (by simp; omega) _

set_option maxRecDepth 100000 in
set_option maxHeartbeats 4000000 in
theorem append_same (G : List Se) (v : Value) (x l r : Int) (p : ByteArray) (n o : Int) (t : ByteArray) (now : Int) (w : World) (hv : LiesS w v G) (hs : SizedS G) (hp : p.size ≤ 150000000000000) (h0 : Pp.fiE G x l r p n now = 0) (kk : Nat) (hkk : kk < (Pp.swL now G).length) (hidx : Pp.idS (Pp.swL now G) (Pp.mine n p) = (kk : Int)) (ht : t.size ≤ 150000000000000) (he : Pp.enB ((Pp.swL now G)[kk]).tx o t = true) :
    Calls Tryz.prog 108 #[.agg #[v, .int .i64 x, .int .i64 l, .int .i64 r], .string p, .int .i64 n, .int .i64 o, .string t, .int .i64 now] w fun e w' => ∃ u, e = .returned (.tuple #[.agg #[u, .int .i64 x, .int .i64 l, .int .i64 r], .int .i64 (((Pp.swL now G)[kk]).tx.size : Int), .int .i64 0]) ∧ OwnS w.heap.size w' u (Pp.swL now G) ∧ Below w.heap.size w w' := by
  have HV := ghid hv
  have HS := ghid hs
  clear hv hs
  obtain ⟨w3, hw3⟩ : ∃ w3, w3 = (w.alloc (.cells #[v, .int .i64 x, .int .i64 l, .int .i64 r] 26)).alloc (.cells #[.slice none 0 0, .int .i64 0, .int .i64 0, .int .i64 0] 26) := ⟨_, rfl⟩
  have B3 : Hid (Below w.heap.size w w3) := (by rw [hw3]; exact ((Below.refl _ _).alloc (Nat.le_refl _) _).alloc (by simp) _ : Below w.heap.size w w3)
  have HR3 : Hid (Bx w3 (w.heap.size + 1) (.slice none 0 0) (.int .i64 0) (.int .i64 0) (.int .i64 0)) := (by
    have := Bx.new (w.alloc (.cells #[v, .int .i64 x, .int .i64 l, .int .i64 r] 26)) (.slice none 0 0) (.int .i64 0) (.int .i64 0) (.int .i64 0) 26
    rw [hw3]; simpa using this : Bx w3 (w.heap.size + 1) (.slice none 0 0) (.int .i64 0) (.int .i64 0) (.int .i64 0))
  have hsz3 : w3.heap.size = w.heap.size + 2 := by rw [hw3]; simp
  have H0 := ghid h0
  have HI := ghid hidx
  have hgz := Pp.fi_zero h0
  obtain ⟨huc, ⟨hn1, hn2⟩, _⟩ := Pp.go_zero hgz
  obtain ⟨hl20, ⟨hl1, hl2⟩, ⟨hr1, hr2⟩, hx1, hx2⟩ := Pp.bnd_zero (Pp.uch_zero huc).1
  have hsw := Pp.swL_len now G
  have hse := Pp.se_zero (Pp.ses_mem.1 (Pp.uch_zero huc).2.1 _ (List.mem_filter.1 (List.getElem_mem hkk)).1)
  obtain ⟨hsi1, hsi2⟩ := Pp.inR_yes hse.2.1
  have htx := hse.2.2.2.2
  clear h0 hgz huc hse hidx
  go_enter Tryz.func108, Tryz.ntmps108
  go_wp2_with fail
  rw [← hw3]
  clear hw3
  refine (find_any G _ x l r p n now _ (HV.out.below B3.out) HS.out hp).mono ?_
  rintro e w4 (⟨hne, _⟩ | ⟨_, u, k, rfl, hk, hid, hown, hb4⟩)
  · exact absurd H0.out hne
  obtain rfl : k = kk := by have := HI.out; rw [hid] at this; omega
  have hb04 := B3.out.trans (hb4.mono B3.out.size)
  have hR4 := HR3.out.below hb4
  have hsz4 := hb4.size
  clear hb4 hid
  rcases hown with ⟨_, hnil⟩ | ⟨g, cap, rfl, hg1, hg2, hrow, hblk, hcm⟩
  · rw [hnil] at hk; simp at hk
  have hglt := hrow.1
  obtain ⟨wz, hwz⟩ : ∃ wz, wz = w4.alloc (.cells #[.slice (some ⟨g, 0, none⟩) (Pp.swL now G).length cap, .int .i64 x, .int .i64 l, .int .i64 r] 26) := ⟨_, rfl⟩
  have hbz : Below w4.heap.size w4 wz := by rw [hwz]; exact (Below.refl _ _).alloc (Nat.le_refl _) _
  have hGz : Bx wz w4.heap.size (.slice (some ⟨g, 0, none⟩) (Pp.swL now G).length cap) (.int .i64 x) (.int .i64 l) (.int .i64 r) := by rw [hwz]; exact Bx.new _ _ _ _ _ _
  have hRz := hR4.below hbz
  have hb0z := hb04.trans (hbz.mono hb04.size)
  have hrz := hrow.below hbz
  have hblz := hblk.below hbz
  have hszz := hbz.size
  have HGZ := ghid hGz
  have HRZ := ghid hRz
  have HROWZ := ghid hrz
  have HBLZ := ghid hblz
  obtain ⟨t0, t1, t2, t3, t4⟩ := hrz.at hk
  clear hR4 hb04 hbz hrow hblk hrz hblz
  obtain ⟨hGb, ⟨q0, q1, q2, q3⟩, k0, k1, k2, k3⟩ := hGz
  have HEN := ghid he
  have hsl : ((Pp.swL now G)[k]).tx.size ≤ 150000000000000 := by omega
  clear he
  generalize hS : (Pp.swL now G)[k] = s at *
  have T2 := ghid t2
  have T3 := ghid t3
  rw [hwz] at t0 t1 t2 t3 t4
  go_wp2_with fail
  rw [← hwz]
  clear hwz t0 t1 t2 t3 t4
  have t2 := T2.out
  have t3 := T3.out
  refine (ends_any s.tx t _ _ hsl).mono ?_
  rintro e w5 ⟨rfl, hw⟩
  rw [hw, HEN.out]
  clear hw w5
  obtain ⟨hRb, ⟨c0, c1, c2, c3⟩, f0, f1, f2, f3⟩ := HRZ.out
  go_wp2_with fail
  go_region
  go_wp2_with fail
  refine bodyPost_ret (v := .tuple #[.agg #[.slice (some ⟨g, 0, none⟩) (Pp.swL now G).length cap, .int .i64 x, .int .i64 l, .int .i64 r], .int .i64 (s.tx.size : Int), .int .i64 0]) (by simp [results, Tryz.results108, go_sem, c0, c1, c2, c3, hRb]) rfl ⟨_, by rw [hS], ?_, ?_⟩
  · refine Or.inr ⟨g, cap, rfl, by omega, hg2, ?_, ?_, hcm⟩
    · exact (HROWZ.out.nb (Nb.set4 _ (w.heap.size + 1) _ _ _ _) (by omega)).below (Below.refl _ _).drew
    · exact (HBLZ.out.nb (Nb.set4 _ (w.heap.size + 1) _ _ _ _) (by omega)).below (Below.refl _ _).drew
  · exact (below_set4 (b := w.heap.size + 1) hb0z (by omega)).drew

set_option maxRecDepth 100000 in
set_option maxHeartbeats 4000000 in
theorem append_e4 (G : List Se) (v : Value) (x l r : Int) (p : ByteArray) (n o : Int) (t : ByteArray) (now : Int) (w : World) (hv : LiesS w v G) (hs : SizedS G) (hp : p.size ≤ 150000000000000) (h0 : Pp.fiE G x l r p n now = 0) (kk : Nat) (hkk : kk < (Pp.swL now G).length) (hidx : Pp.idS (Pp.swL now G) (Pp.mine n p) = (kk : Int)) (ht : t.size ≤ 150000000000000) (he : Pp.enB ((Pp.swL now G)[kk]).tx o t = false) (ho : (o != (((Pp.swL now G)[kk]).tx.size : Int)) = true) :
    Calls Tryz.prog 108 #[.agg #[v, .int .i64 x, .int .i64 l, .int .i64 r], .string p, .int .i64 n, .int .i64 o, .string t, .int .i64 now] w fun e w' => e = .returned (.tuple #[.agg #[.slice none 0 0, .int .i64 0, .int .i64 0, .int .i64 0], .int .i64 0, .int .i64 4]) ∧ Below w.heap.size w w' := by
  have HV := ghid hv
  have HS := ghid hs
  clear hv hs
  obtain ⟨w3, hw3⟩ : ∃ w3, w3 = (w.alloc (.cells #[v, .int .i64 x, .int .i64 l, .int .i64 r] 26)).alloc (.cells #[.slice none 0 0, .int .i64 0, .int .i64 0, .int .i64 0] 26) := ⟨_, rfl⟩
  have B3 : Hid (Below w.heap.size w w3) := (by rw [hw3]; exact ((Below.refl _ _).alloc (Nat.le_refl _) _).alloc (by simp) _ : Below w.heap.size w w3)
  have HR3 : Hid (Bx w3 (w.heap.size + 1) (.slice none 0 0) (.int .i64 0) (.int .i64 0) (.int .i64 0)) := (by
    have := Bx.new (w.alloc (.cells #[v, .int .i64 x, .int .i64 l, .int .i64 r] 26)) (.slice none 0 0) (.int .i64 0) (.int .i64 0) (.int .i64 0) 26
    rw [hw3]; simpa using this : Bx w3 (w.heap.size + 1) (.slice none 0 0) (.int .i64 0) (.int .i64 0) (.int .i64 0))
  have hsz3 : w3.heap.size = w.heap.size + 2 := by rw [hw3]; simp
  have H0 := ghid h0
  have HI := ghid hidx
  have hgz := Pp.fi_zero h0
  obtain ⟨huc, ⟨hn1, hn2⟩, _⟩ := Pp.go_zero hgz
  obtain ⟨hl20, ⟨hl1, hl2⟩, ⟨hr1, hr2⟩, hx1, hx2⟩ := Pp.bnd_zero (Pp.uch_zero huc).1
  have hsw := Pp.swL_len now G
  have hse := Pp.se_zero (Pp.ses_mem.1 (Pp.uch_zero huc).2.1 _ (List.mem_filter.1 (List.getElem_mem hkk)).1)
  obtain ⟨hsi1, hsi2⟩ := Pp.inR_yes hse.2.1
  have htx := hse.2.2.2.2
  clear h0 hgz huc hse hidx
  go_enter Tryz.func108, Tryz.ntmps108
  go_wp2_with fail
  rw [← hw3]
  clear hw3
  refine (find_any G _ x l r p n now _ (HV.out.below B3.out) HS.out hp).mono ?_
  rintro e w4 (⟨hne, _⟩ | ⟨_, u, k, rfl, hk, hid, hown, hb4⟩)
  · exact absurd H0.out hne
  obtain rfl : k = kk := by have := HI.out; rw [hid] at this; omega
  have hb04 := B3.out.trans (hb4.mono B3.out.size)
  have hR4 := HR3.out.below hb4
  have hsz4 := hb4.size
  clear hb4 hid
  rcases hown with ⟨_, hnil⟩ | ⟨g, cap, rfl, hg1, hg2, hrow, hblk, hcm⟩
  · rw [hnil] at hk; simp at hk
  have hglt := hrow.1
  obtain ⟨wz, hwz⟩ : ∃ wz, wz = w4.alloc (.cells #[.slice (some ⟨g, 0, none⟩) (Pp.swL now G).length cap, .int .i64 x, .int .i64 l, .int .i64 r] 26) := ⟨_, rfl⟩
  have hbz : Below w4.heap.size w4 wz := by rw [hwz]; exact (Below.refl _ _).alloc (Nat.le_refl _) _
  have hGz : Bx wz w4.heap.size (.slice (some ⟨g, 0, none⟩) (Pp.swL now G).length cap) (.int .i64 x) (.int .i64 l) (.int .i64 r) := by rw [hwz]; exact Bx.new _ _ _ _ _ _
  have hRz := hR4.below hbz
  have hb0z := hb04.trans (hbz.mono hb04.size)
  have hrz := hrow.below hbz
  have hblz := hblk.below hbz
  have hszz := hbz.size
  have HGZ := ghid hGz
  have HRZ := ghid hRz
  have HROWZ := ghid hrz
  have HBLZ := ghid hblz
  obtain ⟨t0, t1, t2, t3, t4⟩ := hrz.at hk
  clear hR4 hb04 hbz hrow hblk hrz hblz
  obtain ⟨hGb, ⟨q0, q1, q2, q3⟩, k0, k1, k2, k3⟩ := hGz
  have HEN := ghid he
  have hsl : ((Pp.swL now G)[k]).tx.size ≤ 150000000000000 := by omega
  clear he
  generalize hS : (Pp.swL now G)[k] = s at *
  have T2 := ghid t2
  have T3 := ghid t3
  rw [hwz] at t0 t1 t2 t3 t4
  go_wp2_with fail
  rw [← hwz]
  clear hwz t0 t1 t2 t3 t4
  have t2 := T2.out
  have t3 := T3.out
  refine (ends_any s.tx t _ _ hsl).mono ?_
  rintro e w5 ⟨rfl, hw⟩
  rw [hw, HEN.out]
  clear hw w5
  obtain ⟨hRb, ⟨c0, c1, c2, c3⟩, f0, f1, f2, f3⟩ := HRZ.out
  go_wp2_with fail
  refine bodyPost_ret (v := .tuple #[.agg #[.slice none 0 0, .int .i64 0, .int .i64 0, .int .i64 0], .int .i64 0, .int .i64 4]) (by simp [results, Tryz.results108, go_sem, c0, c1, c2, c3, hRb]) rfl ⟨rfl, ?_⟩
  exact below_set4 (b := w.heap.size + 1) hb0z (by omega)

set_option maxRecDepth 100000 in
set_option maxHeartbeats 4000000 in
theorem append_e2 (G : List Se) (v : Value) (x l r : Int) (p : ByteArray) (n o : Int) (t : ByteArray) (now : Int) (w : World) (hv : LiesS w v G) (hs : SizedS G) (hp : p.size ≤ 150000000000000) (h0 : Pp.fiE G x l r p n now = 0) (kk : Nat) (hkk : kk < (Pp.swL now G).length) (hidx : Pp.idS (Pp.swL now G) (Pp.mine n p) = (kk : Int)) (ht : t.size ≤ 150000000000000) (he : Pp.enB ((Pp.swL now G)[kk]).tx o t = false) (ho : o = (((Pp.swL now G)[kk]).tx.size : Int)) (hsi : ((Pp.swL now G)[kk]).si < (((Pp.swL now G)[kk]).tx.size : Int) + t.size) :
    Calls Tryz.prog 108 #[.agg #[v, .int .i64 x, .int .i64 l, .int .i64 r], .string p, .int .i64 n, .int .i64 o, .string t, .int .i64 now] w fun e w' => e = .returned (.tuple #[.agg #[.slice none 0 0, .int .i64 0, .int .i64 0, .int .i64 0], .int .i64 0, .int .i64 2]) ∧ Below w.heap.size w w' := by
  have HV := ghid hv
  have HS := ghid hs
  clear hv hs
  obtain ⟨w3, hw3⟩ : ∃ w3, w3 = (w.alloc (.cells #[v, .int .i64 x, .int .i64 l, .int .i64 r] 26)).alloc (.cells #[.slice none 0 0, .int .i64 0, .int .i64 0, .int .i64 0] 26) := ⟨_, rfl⟩
  have B3 : Hid (Below w.heap.size w w3) := (by rw [hw3]; exact ((Below.refl _ _).alloc (Nat.le_refl _) _).alloc (by simp) _ : Below w.heap.size w w3)
  have HR3 : Hid (Bx w3 (w.heap.size + 1) (.slice none 0 0) (.int .i64 0) (.int .i64 0) (.int .i64 0)) := (by
    have := Bx.new (w.alloc (.cells #[v, .int .i64 x, .int .i64 l, .int .i64 r] 26)) (.slice none 0 0) (.int .i64 0) (.int .i64 0) (.int .i64 0) 26
    rw [hw3]; simpa using this : Bx w3 (w.heap.size + 1) (.slice none 0 0) (.int .i64 0) (.int .i64 0) (.int .i64 0))
  have hsz3 : w3.heap.size = w.heap.size + 2 := by rw [hw3]; simp
  subst ho
  have H0 := ghid h0
  have HI := ghid hidx
  have hgz := Pp.fi_zero h0
  obtain ⟨huc, ⟨hn1, hn2⟩, _⟩ := Pp.go_zero hgz
  obtain ⟨hl20, ⟨hl1, hl2⟩, ⟨hr1, hr2⟩, hx1, hx2⟩ := Pp.bnd_zero (Pp.uch_zero huc).1
  have hsw := Pp.swL_len now G
  have hse := Pp.se_zero (Pp.ses_mem.1 (Pp.uch_zero huc).2.1 _ (List.mem_filter.1 (List.getElem_mem hkk)).1)
  obtain ⟨hsi1, hsi2⟩ := Pp.inR_yes hse.2.1
  have htx := hse.2.2.2.2
  clear h0 hgz huc hse hidx
  go_enter Tryz.func108, Tryz.ntmps108
  go_wp2_with fail
  rw [← hw3]
  clear hw3
  refine (find_any G _ x l r p n now _ (HV.out.below B3.out) HS.out hp).mono ?_
  rintro e w4 (⟨hne, _⟩ | ⟨_, u, k, rfl, hk, hid, hown, hb4⟩)
  · exact absurd H0.out hne
  obtain rfl : k = kk := by have := HI.out; rw [hid] at this; omega
  have hb04 := B3.out.trans (hb4.mono B3.out.size)
  have hR4 := HR3.out.below hb4
  have hsz4 := hb4.size
  clear hb4 hid
  rcases hown with ⟨_, hnil⟩ | ⟨g, cap, rfl, hg1, hg2, hrow, hblk, hcm⟩
  · rw [hnil] at hk; simp at hk
  have hglt := hrow.1
  obtain ⟨wz, hwz⟩ : ∃ wz, wz = w4.alloc (.cells #[.slice (some ⟨g, 0, none⟩) (Pp.swL now G).length cap, .int .i64 x, .int .i64 l, .int .i64 r] 26) := ⟨_, rfl⟩
  have hbz : Below w4.heap.size w4 wz := by rw [hwz]; exact (Below.refl _ _).alloc (Nat.le_refl _) _
  have hGz : Bx wz w4.heap.size (.slice (some ⟨g, 0, none⟩) (Pp.swL now G).length cap) (.int .i64 x) (.int .i64 l) (.int .i64 r) := by rw [hwz]; exact Bx.new _ _ _ _ _ _
  have hRz := hR4.below hbz
  have hb0z := hb04.trans (hbz.mono hb04.size)
  have hrz := hrow.below hbz
  have hblz := hblk.below hbz
  have hszz := hbz.size
  have HGZ := ghid hGz
  have HRZ := ghid hRz
  have HROWZ := ghid hrz
  have HBLZ := ghid hblz
  obtain ⟨t0, t1, t2, t3, t4⟩ := hrz.at hk
  clear hR4 hb04 hbz hrow hblk hrz hblz
  obtain ⟨hGb, ⟨q0, q1, q2, q3⟩, k0, k1, k2, k3⟩ := hGz
  have HEN := ghid he
  have hsl : ((Pp.swL now G)[k]).tx.size ≤ 150000000000000 := by omega
  clear he
  generalize hS : (Pp.swL now G)[k] = s at *
  have T2 := ghid t2
  have T3 := ghid t3
  rw [hwz] at t0 t1 t2 t3 t4
  go_wp2_with fail
  rw [← hwz]
  clear hwz t0 t1 t2 t3 t4
  have t2 := T2.out
  have t3 := T3.out
  refine (ends_any s.tx t _ _ hsl).mono ?_
  rintro e w5 ⟨rfl, hw⟩
  rw [hw, HEN.out]
  clear hw w5
  obtain ⟨hRb, ⟨c0, c1, c2, c3⟩, f0, f1, f2, f3⟩ := HRZ.out
  have hwr2 : IntKind.i64.wrap ((s.tx.size : Int) + t.size) = (s.tx.size : Int) + t.size := by rw [IntKind.wrap_i64]; omega
  go_wp2_with fail
  go_region
  go_wp2_with fail
  refine bodyPost_ret (v := .tuple #[.agg #[.slice none 0 0, .int .i64 0, .int .i64 0, .int .i64 0], .int .i64 0, .int .i64 2]) (by simp [results, Tryz.results108, go_sem, c0, c1, c2, c3, hRb]) rfl ⟨rfl, ?_⟩
  first | exact (below_set4 (b := w.heap.size + 1) hb0z (by omega)).drew | exact below_set4 (b := w.heap.size + 1) hb0z.drew (by omega)
end Go.Proofs.YtmdkecdhgjjceaaGreat
