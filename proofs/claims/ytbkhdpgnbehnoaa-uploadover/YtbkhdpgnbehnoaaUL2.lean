/- What the law UploadOver answers: true, for every uploads, two texts and two numbers. -/
import Derived.Test.YtbkhdpgnbehnoaaU15
import Derived.Test.YtbkhdpgnbehnoaaU21
import Derived.Deep.RegionHeld3
set_option linter.unusedSimpArgs false
set_option linter.unusedVariables false
namespace Go.Proofs.Ytbkhdpgnbehnoaa
open Go.RowKit

set_option maxRecDepth 100000 in
set_option maxHeartbeats 4000000 in
theorem uploadOver_err (G : List Se) (v : Value) (x l r : Int) (p o : ByteArray) (size now : Int) (w : World) (hv : LiesS w v G) (hs : SizedS G) (hp : p.size ≤ 150000000000000) (hne : ¬ Pp.opE G x l r p size now = 0) :
    Calls Try.prog 8 #[.agg #[v, .int .i64 x, .int .i64 l, .int .i64 r], .string p, .string o, .int .i64 size, .int .i64 now] w fun e w' => e = .returned (.bool true) ∧ Below w.heap.size w w' := by
  have HV := ghid hv
  have HS := ghid hs
  obtain ⟨av, capv, rfl, _⟩ := hv
  clear hs
  have HNE := ghid hne
  have hz : (Pp.opE G x l r p size now == 0) = false := by simpa using hne
  clear hne
  obtain ⟨w2, hw2⟩ : ∃ w2, w2 = w.alloc (.cells #[.slice av G.length capv, .int .i64 x, .int .i64 l, .int .i64 r] 24) := ⟨_, rfl⟩
  have hb2 : Below w.heap.size w w2 := by rw [hw2]; exact (Below.refl _ _).alloc (Nat.le_refl _) _
  have HU2 : Hid (Bx w2 w.heap.size (.slice av G.length capv) (.int .i64 x) (.int .i64 l) (.int .i64 r)) := (by rw [hw2]; exact Bx.new _ _ _ _ _ _ : Bx w2 w.heap.size (.slice av G.length capv) (.int .i64 x) (.int .i64 l) (.int .i64 r))
  go_enter Try.func8, Try.ntmps8
  go_wp2_with fail
  rw [← hw2]
  clear hw2
  refine (uploadBegun_yes _).mono ?_
  rintro e w3 ⟨rfl, hb3⟩
  have hb03 := below_trans hb2 hb3
  obtain ⟨hUb, ⟨c0, c1, c2, c3⟩, _⟩ := HU2.out.below hb3
  clear hb3
  go_wp2_with fail
  refine (open_any G _ x l r p size now _ (HV.out.below hb03) HS.out hp).mono ?_
  rintro e w4 (⟨_, rfl, hb4⟩ | ⟨hh, _⟩)
  rotate_left
  · exact absurd hh HNE.out
  have hb04 := below_trans hb03 hb4
  clear hb4 c0 c1 c2 c3
  generalize Pp.opE G x l r p size now = y at *
  go_wp2_with fail
  go_ret
  exact ⟨Pp.ret_bool (by simp), hb04.alloc hb04.size _⟩

set_option maxRecDepth 100000 in
set_option maxHeartbeats 4000000 in
theorem uploadOver_ok (G : List Se) (v : Value) (x l r : Int) (p o : ByteArray) (size now : Int) (w : World) (hv : LiesS w v G) (hs : SizedS G) (hp : p.size ≤ 150000000000000) (ho : o.size ≤ 150000000000000) (h0 : Pp.goE G x l r now [p] = 0) (h1 : 0 ≤ size) (h2 : size ≤ 300) (h3 : x < 1099511627776) (h4 : (Pp.swL now G).length < 20) (h5 : Pp.takS (Pp.swL now G) p + size ≤ r) (y : Int) (hy : Pp.fiE (Pp.swL now G ++ [Pp.newS x p size (now + l)]) (x + 1) l r o x now = y)
    (hq : y = 1 ∨ (y = 0 ∧ (o.toList == p.toList) = true) ∨ (y = 5 ∧ (o.toList == p.toList) = false)) :
    Calls Try.prog 8 #[.agg #[v, .int .i64 x, .int .i64 l, .int .i64 r], .string p, .string o, .int .i64 size, .int .i64 now] w fun e w' => e = .returned (.bool true) ∧ Below w.heap.size w w' := by
  have HV := ghid hv
  have HS := ghid hs
  obtain ⟨av, capv, rfl, _⟩ := hv
  obtain ⟨hu0, ⟨hn1, hn2⟩, _⟩ := Pp.go_zero h0
  obtain ⟨_, ⟨hl1, hl2⟩, _, hx1, hx2⟩ := Pp.bnd_zero (Pp.uch_zero hu0).1
  have HLATE := ghid (Pp.late_all h0 h1 h2 h3 h4 h5)
  have HOP := ghid (fun W (hW : LiesS W (.slice av G.length capv) G) => open_k G (.slice av G.length capv) x l r p size now W hW hs hp h0 h1 h2 h3 h4 h5)
  have HSZ := ghid (Pp.sized_open (x := x) (now := now) (t := now + l) (size := size) hs hp)
  obtain ⟨N, hN⟩ : ∃ N, N = Pp.swL now G ++ [Pp.newS x p size (now + l)] := ⟨_, rfl⟩
  have hNl : N.length ≤ 1000 := by rw [hN, List.length_append]; simp; omega
  rw [← hN] at HLATE HSZ hy
  have HY := ghid hy
  have HN := ghid hN
  clear hs h0 h1 h2 h3 h4 h5 hu0 hy hN
  obtain ⟨w2, hw2⟩ : ∃ w2, w2 = w.alloc (.cells #[.slice av G.length capv, .int .i64 x, .int .i64 l, .int .i64 r] 24) := ⟨_, rfl⟩
  have hb2 : Below w.heap.size w w2 := by rw [hw2]; exact (Below.refl _ _).alloc (Nat.le_refl _) _
  have HU2 : Hid (Bx w2 w.heap.size (.slice av G.length capv) (.int .i64 x) (.int .i64 l) (.int .i64 r)) := (by rw [hw2]; exact Bx.new _ _ _ _ _ _ : Bx w2 w.heap.size (.slice av G.length capv) (.int .i64 x) (.int .i64 l) (.int .i64 r))
  have hwr1 : IntKind.i64.wrap (now + l) = now + l := by rw [IntKind.wrap_i64]; omega
  have hwr2 : IntKind.i64.wrap (now + l + 1) = now + l + 1 := by rw [IntKind.wrap_i64]; omega
  go_enter Try.func8, Try.ntmps8
  go_wp2_with fail
  rw [← hw2]
  clear hw2
  refine (uploadBegun_yes _).mono ?_
  rintro e w3 ⟨rfl, hb3⟩
  have hb03 := below_trans hb2 hb3
  have HU3 := ghid (HU2.out.below hb3)
  clear hb3
  obtain ⟨hUb, ⟨c0, c1, c2, c3⟩, _⟩ := HU3.out
  go_wp2_with fail
  refine (HOP.out _ (HV.out.below hb03)).mono ?_
  rintro e w4 ⟨u4, rfl, hown4, hb4⟩
  rw [← HN.out] at hown4
  have HO4 := ghid hown4
  obtain ⟨a4, cap4, hu4, _, _, _⟩ := HO4.out.lies hNl
  subst hu4
  have hb04 := below_trans hb03 hb4
  have HU4 := ghid (HU3.out.below hb4)
  clear hb4 hown4 c0 c1 c2 c3 hUb
  obtain ⟨wx, hwx⟩ : ∃ wx, wx = w4.alloc (.cells #[.slice a4 N.length cap4, .int .i64 (x + 1), .int .i64 l, .int .i64 r] 24) := ⟨_, rfl⟩
  have hbx : Below w4.heap.size w4 wx := by rw [hwx]; exact (Below.refl _ _).alloc (Nat.le_refl _) _
  have HX : Hid (Bx wx w4.heap.size (.slice a4 N.length cap4) (.int .i64 (x + 1)) (.int .i64 l) (.int .i64 r)) := (by rw [hwx]; exact Bx.new _ _ _ _ _ _ : Bx wx w4.heap.size (.slice a4 N.length cap4) (.int .i64 (x + 1)) (.int .i64 l) (.int .i64 r))
  have HUX := ghid (HU4.out.below hbx)
  have HOX := ghid (HO4.out.below hbx)
  have hb0x := below_trans hb04 hbx
  clear hbx
  go_wp2_with fail
  rw [← hwx]
  clear hwx
  refine (query_any N _ (x + 1) l r o x now _ (HOX.out.lies hNl) HSZ.out ho).mono ?_
  rintro e w5 ⟨q5, rfl, hb5⟩
  rw [HY.out]
  have hb05 := below_trans hb0x hb5
  have HX5 := ghid (HX.out.below hb5)
  have HU5 := ghid (HUX.out.below hb5)
  have HO5 := ghid (HOX.out.below hb5)
  have hsz5 := hb5.size
  clear hb5
  obtain ⟨hUb, ⟨c0, c1, c2, c3⟩, _⟩ := HU5.out
  obtain ⟨hXb, ⟨d0, d1, d2, d3⟩, _⟩ := HX5.out
  by_cases hlate : 1099511627776 < now + l + 1
  · rcases hq with rfl | ⟨rfl, hop⟩ | ⟨rfl, hop⟩
    all_goals
      go_wp2_with fail
      go_ret
      exact ⟨rfl, hb05⟩
  · obtain ⟨hbg, hfi, huc, hix⟩ := HLATE.out (by omega)
    have HBG := ghid hbg
    have HFI := ghid hfi
    have HUC := ghid huc
    have HIX := ghid hix
    clear hbg hfi huc hix
    have hswl := Pp.swL_len (now + l + 1) N
    have HSZ2 : Hid (SizedS (Pp.swL (now + l + 1) N)) := (fun g hg => HSZ.out g (List.mem_filter.1 hg).1 : SizedS (Pp.swL (now + l + 1) N))
    rcases hq with rfl | ⟨rfl, hop⟩ | ⟨rfl, hop⟩
    all_goals
      go_wp2_with fail
      refine (sweep_any N _ (x + 1) l r (now + l + 1) _ (HO5.out.lies hNl) HSZ.out).mono ?_
      rintro e w6 (⟨hne, _⟩ | ⟨_, u6, rfl, hown6, hb6⟩)
      · exact absurd HBG.out hne
      have HO6 := ghid hown6
      obtain ⟨a6, cap6, hu6, _, _, _⟩ := HO6.out.lies (by omega)
      subst hu6
      have hb06 := below_trans hb05 hb6
      have HX6 := ghid (HX5.out.below hb6)
      have HOX6 := ghid (HO5.out.below hb6)
      clear hb6 hown6 c0 c1 c2 c3 d0 d1 d2 d3
      generalize hK : Pp.swL (now + l + 1) N = K at *
      obtain ⟨wy, hwy⟩ : ∃ wy, wy = w6.alloc (.cells #[.slice a6 K.length cap6, .int .i64 (x + 1), .int .i64 l, .int .i64 r] 24) := ⟨_, rfl⟩
      have hby : Below w6.heap.size w6 wy := by rw [hwy]; exact (Below.refl _ _).alloc (Nat.le_refl _) _
      have HYB : Hid (Bx wy w6.heap.size (.slice a6 K.length cap6) (.int .i64 (x + 1)) (.int .i64 l) (.int .i64 r)) := (by rw [hwy]; exact Bx.new _ _ _ _ _ _ : Bx wy w6.heap.size (.slice a6 K.length cap6) (.int .i64 (x + 1)) (.int .i64 l) (.int .i64 r))
      have HXY := ghid (HX6.out.below hby)
      have HOY := ghid (HO6.out.below hby)
      have HOXY := ghid (HOX6.out.below hby)
      have hb0y := below_trans hb06 hby
      clear hby
      go_wp2_with fail
      rw [← hwy]
      clear hwy
      refine (sessionAt_any K _ (x + 1) l r p x _ (HOY.out.lies (by omega))).mono ?_
      rintro e w7 ⟨rfl, hb7⟩
      rw [HIX.out]
      have hb07 := below_trans hb0y hb7
      have HY7 := ghid (HYB.out.below hb7)
      have HX7 := ghid (HXY.out.below hb7)
      have HO7 := ghid (HOY.out.below hb7)
      have HOX7 := ghid (HOXY.out.below hb7)
      clear hb7
      obtain ⟨hYb, ⟨y0, y1, y2, y3⟩, _⟩ := HY7.out
      go_wp2_with fail
      refine (ucheck_any K _ (x + 1) l r _ (HO7.out.lies (by omega)) HSZ2.out).mono ?_
      rintro e w8 ⟨rfl, hb8⟩
      rw [HUC.out]
      have hb08 := below_trans hb07 hb8
      have HX8 := ghid (HX7.out.below hb8)
      have HOX8 := ghid (HOX7.out.below hb8)
      clear hb8 y0 y1 y2 y3 hYb
      obtain ⟨hXb8, ⟨d0, d1, d2, d3⟩, _⟩ := HX8.out
      go_wp2_with fail
      refine (query_any N _ (x + 1) l r p x (now + l + 1) _ (HOX8.out.lies hNl) HSZ.out hp).mono ?_
      rintro e w9 ⟨q9, rfl, hb9⟩
      rw [HFI.out]
      have hb09 := below_trans hb08 hb9
      clear hb9 d0 d1 d2 d3
      go_wp2_with fail
      go_ret
      exact ⟨rfl, hb09⟩

theorem uploadOver_walk (G : List Se) (v : Value) (x l r : Int) (p o : ByteArray) (size now : Int) (w : World) (hv : LiesS w v G) (hs : SizedS G) (hp : p.size ≤ 150000000000000) (ho : o.size ≤ 150000000000000) :
    Calls Try.prog 8 #[.agg #[v, .int .i64 x, .int .i64 l, .int .i64 r], .string p, .string o, .int .i64 size, .int .i64 now] w fun e w' => e = .returned (.bool true) ∧ Below w.heap.size w w' := by
  by_cases hne : Pp.opE G x l r p size now = 0
  · rcases Pp.op_cases G x l r p size now with ⟨h0, hE⟩ | ⟨h0, h1, hE⟩ | ⟨h0, h1, h2, hE⟩ | ⟨h0, h1, h2, h3, hE⟩ | ⟨h0, h1, h2, h3, h4, hE⟩ | ⟨h0, h1, h2, h3, h4, h5, hE⟩ | ⟨h0, h1, h2, h3, h4, h5, hE⟩
    · rw [hne] at hE; exact absurd hE.symm h0
    · rw [hne] at hE; cases hE
    · rw [hne] at hE; cases hE
    · rw [hne] at hE; cases hE
    · rw [hne] at hE; cases hE
    · rw [hne] at hE; cases hE
    · exact uploadOver_ok G v x l r p o size now w hv hs hp ho h0 h1 h2 h3 h4 h5 _ rfl (Pp.fi_other h0 h1 h2 h3 h4 h5 o)
  · exact uploadOver_err G v x l r p o size now w hv hs hp hne
end Go.Proofs.Ytbkhdpgnbehnoaa
