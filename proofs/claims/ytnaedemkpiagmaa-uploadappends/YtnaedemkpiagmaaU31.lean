/- What the reference's AppendUpload answers, where the text is not there already. -/
import Derived.Test.YtnaedemkpiagmaaU23
import Derived.Test.YtnaedemkpiagmaaU22
import Derived.Test.YtnaedemkpiagmaaUReg
import Derived.Deep.Cut
import Derived.Deep.RegionHeld3
set_option linter.unusedSimpArgs false
set_option linter.unusedVariables false
namespace Go.Proofs.Ytnaedemkpiagmaa
open Go.RowKit

/-- What comes of a piece that is not there already. -/
def ApPost (M : List Se) (kk : Nat) (s : Se) (t : ByteArray) (o now x l r : Int) (w : World) (e : Ending) (w' : World) : Prop := (¬ o = (s.tx.size : Int) ∧ e = .returned (.tuple #[.agg #[.slice none 0 0, .int .i64 0, .int .i64 0, .int .i64 0], .int .i64 0, .int .i64 4]) ∧ Below w.heap.size w w') ∨ (o = (s.tx.size : Int) ∧ s.si < (s.tx.size : Int) + t.size ∧ e = .returned (.tuple #[.agg #[.slice none 0 0, .int .i64 0, .int .i64 0, .int .i64 0], .int .i64 0, .int .i64 2]) ∧ Below w.heap.size w w') ∨ (o = (s.tx.size : Int) ∧ (s.tx.size : Int) + t.size ≤ s.si ∧ ∃ u, e = .returned (.tuple #[.agg #[u, .int .i64 x, .int .i64 l, .int .i64 r], .int .i64 ((s.tx.size : Int) + t.size), .int .i64 0]) ∧ OwnS w.heap.size w' u (M.set kk (Pp.moreS s t (now + l))) ∧ Below w.heap.size w w')
theorem ApPost.e4 {M : List Se} {kk : Nat} {s : Se} {t : ByteArray} {o now x l r : Int} {w w' : World} (h : ¬ o = (s.tx.size : Int)) (hb : Below w.heap.size w w') : ApPost M kk s t o now x l r w (.returned (.tuple #[.agg #[.slice none 0 0, .int .i64 0, .int .i64 0, .int .i64 0], .int .i64 0, .int .i64 4])) w' := Or.inl ⟨h, rfl, hb⟩
theorem ApPost.e2 {M : List Se} {kk : Nat} {s : Se} {t : ByteArray} {o now x l r : Int} {w w' : World} (h : o = (s.tx.size : Int)) (h2 : s.si < (s.tx.size : Int) + t.size) (hb : Below w.heap.size w w') : ApPost M kk s t o now x l r w (.returned (.tuple #[.agg #[.slice none 0 0, .int .i64 0, .int .i64 0, .int .i64 0], .int .i64 0, .int .i64 2])) w' := Or.inr (Or.inl ⟨h, h2, rfl, hb⟩)
theorem ApPost.ok {M : List Se} {kk : Nat} {s : Se} {t : ByteArray} {o now x l r : Int} {w w' : World} {u : Value} (h : o = (s.tx.size : Int)) (h2 : (s.tx.size : Int) + t.size ≤ s.si) (ho : OwnS w.heap.size w' u (M.set kk (Pp.moreS s t (now + l)))) (hb : Below w.heap.size w w') : ApPost M kk s t o now x l r w (.returned (.tuple #[.agg #[u, .int .i64 x, .int .i64 l, .int .i64 r], .int .i64 ((s.tx.size : Int) + t.size), .int .i64 0])) w' := Or.inr (Or.inr ⟨h, h2, u, rfl, ho, hb⟩)

set_option maxRecDepth 100000 in
set_option maxHeartbeats 4000000 in
theorem appendRef_rest (G : List Se) (v : Value) (x l r : Int) (p : ByteArray) (n o : Int) (t : ByteArray) (now : Int) (w : World) (hv : LiesS w v G) (hs : SizedS G) (hp : p.size ≤ 150000000000000) (h0 : Pp.fiE G x l r p n now = 0) (M : List Se) (hM : Pp.swL now G = M) (kk : Nat) (hkk : kk < M.length) (hidx : Pp.idS M (Pp.mine n p) = (kk : Int)) (s : Se) (hS : M[kk] = s) (ht : t.size ≤ 150000000000000) (hen : Pp.enB s.tx o t = false) :
    Calls Try.prog 12 #[.agg #[v, .int .i64 x, .int .i64 l, .int .i64 r], .string p, .int .i64 n, .int .i64 o, .string t, .int .i64 now] w fun e w' => ApPost M kk s t o now x l r w e w' := by
  have HV := ghid hv
  have HS := ghid hs
  obtain ⟨av, capv, rfl, _⟩ := hv
  clear hs
  obtain ⟨w3, hw3⟩ : ∃ w3, w3 = (w.alloc (.cells #[.slice av G.length capv, .int .i64 x, .int .i64 l, .int .i64 r] 24)).alloc (.cells #[.slice none 0 0, .int .i64 0, .int .i64 0, .int .i64 0] 24) := ⟨_, rfl⟩
  have B3 : Hid (Below w.heap.size w w3) := (by rw [hw3]; exact ((Below.refl _ _).alloc (Nat.le_refl _) _).alloc (by simp) _ : Below w.heap.size w w3)
  have HU3 : Hid (Bx w3 w.heap.size (.slice av G.length capv) (.int .i64 x) (.int .i64 l) (.int .i64 r)) := (by rw [hw3]; exact (Bx.new w _ _ _ _ _).below ((Below.refl _ _).alloc (Nat.le_refl _) _) : Bx w3 w.heap.size (.slice av G.length capv) (.int .i64 x) (.int .i64 l) (.int .i64 r))
  have HR3 : Hid (Bx w3 (w.heap.size + 1) (.slice none 0 0) (.int .i64 0) (.int .i64 0) (.int .i64 0)) := (by
    have := Bx.new (w.alloc (.cells #[.slice av G.length capv, .int .i64 x, .int .i64 l, .int .i64 r] 24)) (.slice none 0 0) (.int .i64 0) (.int .i64 0) (.int .i64 0) 24
    rw [hw3]; simpa using this : Bx w3 (w.heap.size + 1) (.slice none 0 0) (.int .i64 0) (.int .i64 0) (.int .i64 0))
  have hsz3 : w3.heap.size = w.heap.size + 2 := by rw [hw3]; simp
  obtain ⟨i0, hi0, hz0, hz1, hz2⟩ := info_parts Try.infoS
  have H0 := ghid h0
  have HI := ghid hidx
  have HMM := ghid hM
  obtain ⟨huc, ⟨hn1, hn2⟩, _⟩ := Pp.go_zero (Pp.fi_zero h0)
  obtain ⟨hl20, ⟨hl1, hl2⟩, ⟨hr1, hr2⟩, hx1, hx2⟩ := Pp.bnd_zero (Pp.uch_zero huc).1
  have hsw : M.length ≤ G.length := by rw [← hM]; exact Pp.swL_len now G
  have hmem : s ∈ Pp.swL now G := by rw [hM, ← hS]; exact List.getElem_mem hkk
  have hse := Pp.se_zero (Pp.ses_mem.1 (Pp.uch_zero huc).2.1 _ (List.mem_filter.1 hmem).1)
  obtain ⟨hsi1, hsi2⟩ := Pp.inR_yes hse.2.1
  have htx := hse.2.2.2.2
  have HS9 := ghid hS
  clear h0 huc hse hidx hM hmem hS
  go_enter Try.func12, Try.ntmps12
  go_wp2_with fail
  rw [← hw3]
  clear hw3
  refine (mineOf_any G _ x l r p n now _ (HV.out.below B3.out) HS.out hp).mono ?_
  rintro e w4 (⟨hne, _⟩ | ⟨_, u, k, rfl, hk, hid, hown, hb4⟩)
  · exact absurd H0.out hne
  rw [HMM.out] at hk hid hown
  obtain rfl : k = kk := by have := HI.out; rw [hid] at this; omega
  have hb04 := B3.out.trans (hb4.mono B3.out.size)
  have HU4 := ghid (HU3.out.below hb4)
  have HR4 := ghid (HR3.out.below hb4)
  have hsz4 := hb4.size
  clear hb4 hid
  rcases hown with ⟨_, hnil⟩ | ⟨g, cap, rfl, hg1, hg2, hrow, hblk, hcm⟩
  · simp [hnil] at hk
  have hglt := hrow.1
  have hS := HS9.out
  have hkM := hk
  clear hk
  obtain ⟨wq, hwq⟩ : ∃ wq, wq = ((((w4.setCell ⟨w.heap.size, 0, none⟩ (.slice (some ⟨g, 0, none⟩) M.length cap)).setCell ⟨w.heap.size, 1, none⟩ (.int .i64 x)).setCell ⟨w.heap.size, 2, none⟩ (.int .i64 l)).setCell ⟨w.heap.size, 3, none⟩ (.int .i64 r)) := ⟨_, rfl⟩
  have hnbq : w4.grownBy wq (some w.heap.size) := by rw [hwq]; exact Nb.set4 _ _ _ _ _ _
  have hUQ : Bx wq w.heap.size (.slice (some ⟨g, 0, none⟩) M.length cap) (.int .i64 x) (.int .i64 l) (.int .i64 r) := by
    obtain ⟨hWb, ⟨d0, d1, d2, d3⟩, e0, e1, e2, e3⟩ := HU4.out
    rw [hwq]
    exact ⟨by simpa using hWb, ⟨by simp [go_sem, d0, d1, d2, d3], by simp [go_sem, d0, d1, d2, d3], by simp [go_sem, d0, d1, d2, d3], by simp [go_sem, d0, d1, d2, d3]⟩, by simpa using e0, by simpa using e1, by simpa using e2, by simpa using e3⟩
  have HUQ := ghid hUQ
  have HRQ := ghid (HR4.out.nb hnbq (by omega))
  have HROWQ := ghid (hrow.nb hnbq (by omega))
  have hb0q : Below w.heap.size w wq := hb04.trans (Nb.to hnbq hb04.size (Nat.le_refl _))
  have hszq := hnbq.size
  obtain ⟨hdb, ⟨d0, d1, d2, d3⟩, e0, e1, e2, e3⟩ := HU4.out
  clear hrow hblk hnbq hb04 hUQ
  have hsl : s.tx.size ≤ 300 := by omega
  have hen2 := hen
  clear hen
  have HEN := ghid hen2
  clear hen2
  have hki : (k : Int) < (M.length : Int) := by omega
  go_upto_region 2 with fail
  rw [← hwq]
  clear hwq d0 d1 d2 d3 e0 e1 e2 e3 hdb
  obtain ⟨hQb, ⟨v0, v1, v2, v3⟩, g0, g1, g2, g3⟩ := HUQ.out
  obtain ⟨t0, t1, t2, t3, t4⟩ := HROWQ.out.at hkM
  rw [hS] at t0 t1 t2 t3 t4
  clear hS
  obtain ⟨ws, hws⟩ : ∃ ws, ws = wq.alloc (.cells #[.int .i64 s.nu, .string s.wh, .string s.tx, .int .i64 s.si, .int .i64 s.ti] 38) := ⟨_, rfl⟩
  have hbs : Below wq.heap.size wq ws := by rw [hws]; exact (Below.refl _ _).alloc (Nat.le_refl _) _
  have HUS := ghid (HUQ.out.below hbs)
  have HRS := ghid (HRQ.out.below hbs)
  have HROWS := ghid (HROWQ.out.below hbs)
  have hb0s := hb0q.trans (hbs.mono hb0q.size)
  have hszs : ws.heap.size = wq.heap.size + 1 := by rw [hws]; simp
  have s0 : ws.cell? ⟨wq.heap.size, 0, none⟩ = some (.int .i64 s.nu) := by rw [hws]; simp
  have s1 : ws.cell? ⟨wq.heap.size, 1, none⟩ = some (.string s.wh) := by rw [hws]; simp
  have s2 : ws.cell? ⟨wq.heap.size, 2, none⟩ = some (.string s.tx) := by rw [hws]; simp
  have s3 : ws.cell? ⟨wq.heap.size, 3, none⟩ = some (.int .i64 s.si) := by rw [hws]; simp
  have s4 : ws.cell? ⟨wq.heap.size, 4, none⟩ = some (.int .i64 s.ti) := by rw [hws]; simp
  have m2 : ws.frozen? ⟨wq.heap.size, 2, none⟩ = false := by rw [hws]; exact World.frozen?_alloc_at _ _ _ _ rfl
  have m4 : ws.frozen? ⟨wq.heap.size, 4, none⟩ = false := by rw [hws]; exact World.frozen?_alloc_at _ _ _ _ rfl
  have HSB := ghid (And.intro (And.intro s0 (And.intro s1 (And.intro s2 (And.intro s3 s4)))) (And.intro m2 m4))
  clear s0 s1 s2 s3 s4 m2 m4 hbs
  go_upto_region 5 with fail
  rw [← hws]
  clear hws t0 t1 t2 t3 t4 v0 v1 v2 v3 g0 g1 g2 g3 HROWQ HUQ HRQ
  obtain ⟨⟨s0, s1, s2, s3, s4⟩, m2, m4⟩ := HSB.out
  go_upto_region 6 with fail
  clear s0 s1 s4 m2 m4
  by_cases hoz : o = (s.tx.size : Int)
  · obtain ⟨m, hm0⟩ : ∃ m : Nat, o = (m : Int) := ⟨s.tx.size, hoz⟩
    subst hm0
    have HOZ := ghid hoz
    have ho2 : ((m : Int) != (s.tx.size : Int)) = false := by simpa using hoz
    have hm : m ≤ s.tx.size := by omega
    have he : ((s.tx.extract m s.tx.size).toList == t.toList) = false := by
      have h := HEN.out
      rw [Pp.enB] at h
      have hin : Pp.inR 0 (m : Int) (s.tx.size : Int) = true := by simp [Pp.inR]; omega
      rw [hin, Bool.true_and, Int.toNat_natCast] at h
      exact h
    clear hoz
    have hwr2 : IntKind.i64.wrap ((s.tx.size : Int) + t.size) = (s.tx.size : Int) + t.size := by rw [IntKind.wrap_i64]; omega
    by_cases hsi : s.si < (s.tx.size : Int) + t.size
    · have HSX := ghid hsi
      obtain ⟨hRb, ⟨c0, c1, c2, c3⟩, f0, f1, f2, f3⟩ := HRS.out
      go_wp2_with fail
      refine bodyPost_ret (v := .tuple #[.agg #[.slice none 0 0, .int .i64 0, .int .i64 0, .int .i64 0], .int .i64 0, .int .i64 2]) (by simp [results, Try.results12, go_sem, c0, c1, c2, c3, hRb]) rfl (ApPost.e2 HOZ.out HSX.out ?_)
      exact below_set4 (b := w.heap.size + 1) hb0s (by omega)
    · have hsi' : (s.tx.size : Int) + t.size ≤ s.si := by omega
      have HSI := ghid hsi'
      clear hsi
      have hns : ¬ s.si < (s.tx.size : Int) + t.size := by omega
      have hwr3 : IntKind.i64.wrap (now + l) = now + l := by rw [IntKind.wrap_i64]; omega
      go_upto_region 12 with fail
      clear s2 s3
      obtain ⟨⟨s0, s1, s2, s3, s4⟩, m2, m4⟩ := HSB.out
      obtain ⟨hUb, ⟨u0, u1, u2, u3⟩, g0, g1, g2, g3⟩ := HUS.out
      obtain ⟨wt, hwt⟩ : ∃ wt, wt = (ws.setCell ⟨wq.heap.size, 2, none⟩ (.string (s.tx ++ t))).setCell ⟨wq.heap.size, 4, none⟩ (.int .i64 (now + l)) := ⟨_, rfl⟩
      have hnbt : ws.grownBy wt (some wq.heap.size) := by rw [hwt]; exact Nb.trans (Nb.setCell _ _ _ _) (Nb.setCell _ _ _ _)
      have hszt := hnbt.size
      have HUT := ghid (HUS.out.nb hnbt (by omega))
      have HRT := ghid (HRS.out.nb hnbt (by omega))
      have HROWT := ghid (HROWS.out.nb hnbt (by omega))
      have hb0t : Below w.heap.size w wt := hb0s.trans (Nb.to hnbt hb0s.size (by omega))
      have HST : Hid (wt.cell? ⟨wq.heap.size, 0, none⟩ = some (.int .i64 s.nu) ∧ wt.cell? ⟨wq.heap.size, 1, none⟩ = some (.string s.wh) ∧ wt.cell? ⟨wq.heap.size, 2, none⟩ = some (.string (s.tx ++ t)) ∧ wt.cell? ⟨wq.heap.size, 3, none⟩ = some (.int .i64 s.si) ∧ wt.cell? ⟨wq.heap.size, 4, none⟩ = some (.int .i64 (now + l))) := (by rw [hwt]; exact ⟨by simp [go_sem, s0], by simp [go_sem, s1], by simp [go_sem, s2], by simp [go_sem, s3], by simp [go_sem, s4]⟩ : wt.cell? ⟨wq.heap.size, 0, none⟩ = some (.int .i64 s.nu) ∧ wt.cell? ⟨wq.heap.size, 1, none⟩ = some (.string s.wh) ∧ wt.cell? ⟨wq.heap.size, 2, none⟩ = some (.string (s.tx ++ t)) ∧ wt.cell? ⟨wq.heap.size, 3, none⟩ = some (.int .i64 s.si) ∧ wt.cell? ⟨wq.heap.size, 4, none⟩ = some (.int .i64 (now + l)))
      clear hnbt
      go_upto_region 14 with fail
      rw [← hwt]
      clear hwt s0 s1 s2 s3 s4 m2 m4 u0 u1 u2 u3 g0 g1 g2 g3 hUb HSB HUS HRS HROWS
      obtain ⟨hUb, ⟨u0, u1, u2, u3⟩, g0, g1, g2, g3⟩ := HUT.out
      obtain ⟨wv, hwv⟩ : ∃ wv, wt.alloc (.cells #[] 38) = wv := ⟨_, rfl⟩
      have hbv : Below wt.heap.size wt wv := by rw [← hwv]; exact (Below.refl _ _).alloc (Nat.le_refl _) _
      have HEV := ghid (Emp5.new hwv (Nat.le_refl _))
      have HNEWS := ghid (liesS_cells (b := g) (o := 0) (L := M) (fun i hi => by rw [Nat.zero_add]; exact (HROWT.out.below hbv).at hi))
      have hszv := hbv.size
      have HBV := ghid hbv
      obtain ⟨hvb, ⟨vv0, vv1, vv2, vv3⟩, _⟩ := HUT.out.below hbv
      clear hbv
      go_wp2_with (at_builtin; (try rw [hwv]); refine wpList_append_own _ rfl _ _ 22 rfl wt.heap.size 38 i0 (.agg #[.int .i64 0, .string ⟨#[]⟩, .string ⟨#[]⟩, .int .i64 0, .int .i64 0]) 5 56 Try.underlying22 hi0 hz0 hz1 hz2 rfl (by decide) _ 0 [] rfl HEV.out.own ⟨g, 0, none⟩ M.length cap (Pp.flatS M) rfl (Pp.flatS_len M) HNEWS.out (flatS_one M) (by unfold maxLen; omega) (by omega) (by omega) ?_)
      intro v83 w6 ho6 hgr6 hnn6
      have HO6 := ghid (ownS_of ho6)
      have hb6 : Below wt.heap.size wt w6 := HBV.out.grown hgr6 hszv (fun q hq => (HEV.out.own.lt q hq).1)
      rcases HO6.out with ⟨_, hnil⟩ | ⟨g6, cap6, rfl, hg61, hg62, hrow6, hblk6, hcm6⟩
      · rw [hnil] at hkM; exact absurd hkM (by simp)
      have HU6 := ghid (HUT.out.below hb6)
      have HR6 := ghid (HRT.out.below hb6)
      have hb06 := hb0t.trans (hb6.mono hb0t.size)
      have hsz6 := hb6.size
      have hqt : wq.heap.size < wt.heap.size := by omega
      have HS6 : Hid (w6.cell? ⟨wq.heap.size, 0, none⟩ = some (.int .i64 s.nu) ∧ w6.cell? ⟨wq.heap.size, 1, none⟩ = some (.string s.wh) ∧ w6.cell? ⟨wq.heap.size, 2, none⟩ = some (.string (s.tx ++ t)) ∧ w6.cell? ⟨wq.heap.size, 3, none⟩ = some (.int .i64 s.si) ∧ w6.cell? ⟨wq.heap.size, 4, none⟩ = some (.int .i64 (now + l))) := (⟨(hb6.cell (p := ⟨wq.heap.size, 0, none⟩) hqt).trans HST.out.1, (hb6.cell (p := ⟨wq.heap.size, 1, none⟩) hqt).trans HST.out.2.1, (hb6.cell (p := ⟨wq.heap.size, 2, none⟩) hqt).trans HST.out.2.2.1, (hb6.cell (p := ⟨wq.heap.size, 3, none⟩) hqt).trans HST.out.2.2.2.1, (hb6.cell (p := ⟨wq.heap.size, 4, none⟩) hqt).trans HST.out.2.2.2.2⟩ : w6.cell? ⟨wq.heap.size, 0, none⟩ = some (.int .i64 s.nu) ∧ w6.cell? ⟨wq.heap.size, 1, none⟩ = some (.string s.wh) ∧ w6.cell? ⟨wq.heap.size, 2, none⟩ = some (.string (s.tx ++ t)) ∧ w6.cell? ⟨wq.heap.size, 3, none⟩ = some (.int .i64 s.si) ∧ w6.cell? ⟨wq.heap.size, 4, none⟩ = some (.int .i64 (now + l)))
      clear hb6 hgr6 hnn6 ho6 vv0 vv1 vv2 vv3 u0 u1 u2 u3 g0 g1 g2 g3 hwv HEV HNEWS HBV HROWT
      obtain ⟨t0, t1, t2, t3, t4⟩ := hrow6.at hkM
      have k0 := (hrow6.2 k hkM 0 (by decide)).2
      have k1 := (hrow6.2 k hkM 1 (by decide)).2
      have k2 := (hrow6.2 k hkM 2 (by decide)).2
      have k3 := (hrow6.2 k hkM 3 (by decide)).2
      have k4 := (hrow6.2 k hkM 4 (by decide)).2
      rw [Nat.add_zero] at k0
      have hset := hrow6.set hkM (Pp.moreS s t (now + l))
      have HBL := ghid hblk6
      obtain ⟨w7, hw7⟩ : ∃ w7, w7 = ((((w6.setCell ⟨g6, k * 5, none⟩ (.int .i64 s.nu)).setCell ⟨g6, k * 5 + 1, none⟩ (.string s.wh)).setCell ⟨g6, k * 5 + 2, none⟩ (.string (s.tx ++ t))).setCell ⟨g6, k * 5 + 3, none⟩ (.int .i64 s.si)).setCell ⟨g6, k * 5 + 4, none⟩ (.int .i64 (now + l)) := ⟨_, rfl⟩
      have HROW7 : Hid (RowS w7 g6 (M.set k (Pp.moreS s t (now + l)))) := (by rw [hw7]; exact hset : RowS w7 g6 (M.set k (Pp.moreS s t (now + l))))
      have hnb7 : w6.grownBy w7 (some g6) := by rw [hw7]; exact Nb.setCells g6 (Pp.cellsS (Pp.moreS s t (now + l))) (k * 5) w6
      have HBL7 : Hid (Blk w7 g6 38 (cap6 * 5)) := (by rw [hw7]; exact KeepB.setCells g6 (Pp.cellsS (Pp.moreS s t (now + l))) (k * 5) w6 _ _ HBL.out : Blk w7 g6 38 (cap6 * 5))
      clear hset hblk6
      generalize M[k] = s9 at t0 t1 t2 t3 t4
      obtain ⟨s0, s1, s2, s3, s4⟩ := HS6.out
      go_upto_region 16 with fail
      rw [← hw7]
      clear hw7 t0 t1 t2 t3 t4 k0 k1 k2 k3 k4 s0 s1 s2 s3 s4
      have hsz7 := hnb7.size
      have HU7 := ghid (HU6.out.nb hnb7 (by omega))
      have HR7 := ghid (HR6.out.nb hnb7 (by omega))
      have hb07 : Below w.heap.size w w7 := hb06.trans (Nb.to hnb7 hb06.size (by omega))
      have y2 : w7.cell? ⟨wq.heap.size, 2, none⟩ = some (.string (s.tx ++ t)) := (Nb.cell hnb7 (p := ⟨wq.heap.size, 2, none⟩) (by show wq.heap.size < w6.heap.size; omega) (by show wq.heap.size ≠ g6; omega)).trans HS6.out.2.2.1
      have HY2 := ghid y2
      clear y2
      obtain ⟨hUb7, ⟨u0, u1, u2, u3⟩, g0, g1, g2, g3⟩ := HU7.out
      obtain ⟨w8, hw8⟩ : ∃ w8, w8 = w7.setCell ⟨w.heap.size, 0, none⟩ (.slice (some ⟨g6, 0, none⟩) M.length cap6) := ⟨_, rfl⟩
      have hnb8 : w7.grownBy w8 (some w.heap.size) := by rw [hw8]; exact Nb.setCell _ _ _ _
      have hsz8 := hnb8.size
      have HU8 : Hid (Bx w8 w.heap.size (.slice (some ⟨g6, 0, none⟩) M.length cap6) (.int .i64 x) (.int .i64 l) (.int .i64 r)) := (by
        rw [hw8]
        exact ⟨by simpa using hUb7, ⟨by simp [go_sem, u0], by simp [go_sem, u1], by simp [go_sem, u2], by simp [go_sem, u3]⟩, by simpa using g0, by simpa using g1, by simpa using g2, by simpa using g3⟩ : Bx w8 w.heap.size (.slice (some ⟨g6, 0, none⟩) M.length cap6) (.int .i64 x) (.int .i64 l) (.int .i64 r))
      have HR8 := ghid (HR7.out.nb hnb8 (by omega))
      have hb08 : Below w.heap.size w w8 := hb07.trans (Nb.to hnb8 hb07.size (Nat.le_refl _))
      have HO8 : Hid (OwnS wt.heap.size w8 (.slice (some ⟨g6, 0, none⟩) M.length cap6) (M.set k (Pp.moreS s t (now + l)))) := (Or.inr ⟨g6, cap6, by simp, hg61, by simpa using hg62, HROW7.out.nb hnb8 (by omega), HBL7.out.nb hnb8 (by omega), hcm6⟩ : OwnS wt.heap.size w8 (.slice (some ⟨g6, 0, none⟩) M.length cap6) (M.set k (Pp.moreS s t (now + l))))
      have HY8 := ghid ((Nb.cell hnb8 (p := ⟨wq.heap.size, 2, none⟩) (by show wq.heap.size < w7.heap.size; omega) (by show wq.heap.size ≠ w.heap.size; omega)).trans HY2.out)
      have hln : ((s.tx ++ t).size : Int) = (s.tx.size : Int) + t.size := by rw [ByteArray.size_append]; simp
      go_upto_region 17 with fail
      rw [← hw8]
      clear hw8 u0 u1 u2 u3 g0 g1 g2 g3 hnb7 hnb8
      obtain ⟨hUb8, ⟨u0, u1, u2, u3⟩, g0, g1, g2, g3⟩ := HU8.out
      obtain ⟨hRb, ⟨c0, c1, c2, c3⟩, f0, f1, f2, f3⟩ := HR8.out
      have y8 := HY8.out
      go_region
      go_wp2_with fail
      refine bodyPost_ret (v := .tuple #[.agg #[.slice (some ⟨g6, 0, none⟩) M.length cap6, .int .i64 x, .int .i64 l, .int .i64 r], .int .i64 ((s.tx.size : Int) + t.size), .int .i64 0]) (by simp [results, Try.results12, go_sem, c0, c1, c2, c3, hRb]) rfl (ApPost.ok HOZ.out HSI.out ?_ ?_)
      · exact ((HO8.out.nb (Nb.set4 _ (w.heap.size + 1) _ _ _ _) (by omega)).below (Below.refl _ _).drew).mono (by omega)
      · exact (below_set4 (b := w.heap.size + 1) hb08 (by omega)).drew
  · have HNO := ghid hoz
    have ho2 : (o != (s.tx.size : Int)) = true := by simpa using hoz
    by_cases hneg : o < 0
    · skip
      obtain ⟨hRb, ⟨c0, c1, c2, c3⟩, f0, f1, f2, f3⟩ := HRS.out
      go_wp2_with fail
      refine bodyPost_ret (v := .tuple #[.agg #[.slice none 0 0, .int .i64 0, .int .i64 0, .int .i64 0], .int .i64 0, .int .i64 4]) (by simp [results, Try.results12, go_sem, c0, c1, c2, c3, hRb]) rfl (ApPost.e4 HNO.out ?_)
      exact below_set4 (b := w.heap.size + 1) hb0s (by omega)
    · by_cases hbig : (s.tx.size : Int) < o
      · skip
        obtain ⟨hRb, ⟨c0, c1, c2, c3⟩, f0, f1, f2, f3⟩ := HRS.out
        go_wp2_with fail
        refine bodyPost_ret (v := .tuple #[.agg #[.slice none 0 0, .int .i64 0, .int .i64 0, .int .i64 0], .int .i64 0, .int .i64 4]) (by simp [results, Try.results12, go_sem, c0, c1, c2, c3, hRb]) rfl (ApPost.e4 HNO.out ?_)
        exact below_set4 (b := w.heap.size + 1) hb0s (by omega)
      · obtain ⟨m, rfl⟩ : ∃ m : Nat, o = (m : Int) := ⟨o.toNat, by omega⟩
        have hm : m ≤ s.tx.size := by omega
        have he : ((s.tx.extract m s.tx.size).toList == t.toList) = false := by
          have h := HEN.out
          rw [Pp.enB] at h
          have hin : Pp.inR 0 (m : Int) (s.tx.size : Int) = true := by simp [Pp.inR]; omega
          rw [hin, Bool.true_and, Int.toNat_natCast] at h
          exact h
        obtain ⟨hRb, ⟨c0, c1, c2, c3⟩, f0, f1, f2, f3⟩ := HRS.out
        go_wp2_with fail
        refine bodyPost_ret (v := .tuple #[.agg #[.slice none 0 0, .int .i64 0, .int .i64 0, .int .i64 0], .int .i64 0, .int .i64 4]) (by simp [results, Try.results12, go_sem, c0, c1, c2, c3, hRb]) rfl (ApPost.e4 HNO.out ?_)
        exact below_set4 (b := w.heap.size + 1) hb0s (by omega)
end Go.Proofs.Ytnaedemkpiagmaa
