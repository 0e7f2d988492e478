/- What the law UploadOpens answers: true, for every uploads, text, size and time. -/
import Derived.Test.YtnaedemkpiagmaaU15
import Derived.Test.YtnaedemkpiagmaaU30
import Derived.Deep.RegionHeld3
set_option linter.unusedSimpArgs false
set_option linter.unusedVariables false
namespace Go.Proofs.Ytnaedemkpiagmaa
open Go.RowKit

set_option maxRecDepth 100000 in
set_option maxHeartbeats 4000000 in
theorem uploadOpens_walk (G : List Se) (v : Value) (x l r : Int) (p : ByteArray) (size now : Int) (w : World) (hv : LiesS w v G) (hs : SizedS G) (hp : p.size ≤ 150000000000000) :
    Calls Try.prog 3 #[.agg #[v, .int .i64 x, .int .i64 l, .int .i64 r], .string p, .int .i64 size, .int .i64 now] w fun e w' => e = .returned (.bool true) ∧ Below w.heap.size w w' := by
  have HV := ghid hv
  have HS := ghid hs
  obtain ⟨av, capv, rfl, _⟩ := hv
  clear hs
  obtain ⟨w2, hw2⟩ : ∃ w2, w2 = w.alloc (.cells #[.slice av G.length capv, .int .i64 x, .int .i64 l, .int .i64 r] 24) := ⟨_, rfl⟩
  have hbw2 : Below w.heap.size w w2 := by rw [hw2]; exact (Below.refl _ _).alloc (Nat.le_refl _) _
  have HU2 : Hid (Bx w2 w.heap.size (.slice av G.length capv) (.int .i64 x) (.int .i64 l) (.int .i64 r)) := (by rw [hw2]; exact Bx.new _ _ _ _ _ _ : Bx w2 w.heap.size (.slice av G.length capv) (.int .i64 x) (.int .i64 l) (.int .i64 r))
  by_cases hop : Pp.opE G x l r p size now = 0
  · have HOP := ghid hop
    have hNl : (Pp.swL now G ++ [Pp.newS x p size (now + l)]).length ≤ 1000 := by
      have h20 := Pp.op_len hop
      rw [List.length_append]; simp; omega
    obtain ⟨M, hM⟩ : ∃ M, M = Pp.swL now G ++ [Pp.newS x p size (now + l)] := ⟨_, rfl⟩
    have HM := ghid hM
    rw [← hM] at hNl
    clear hM hop
    go_enter Try.func3, Try.ntmps3
    go_wp2_with fail
    rw [← hw2]
    clear hw2
    refine (open_any G _ x l r p size now _ (HV.out.below hbw2) HS.out hp).mono ?_
    rintro e w3 (⟨hne, _⟩ | ⟨_, u3, rfl, hown3, hb3⟩)
    · exact absurd HOP.out hne
    rw [← HM.out] at hown3
    have HO3 := ghid hown3
    obtain ⟨a3, cap3, hu3, _, _, _⟩ := HO3.out.lies hNl
    subst hu3
    have hb03 := below_trans hbw2 hb3
    have hU3 := HU2.out.below hb3
    clear hown3 hb3
    have HU3 := ghid hU3
    obtain ⟨wx, hwx⟩ : ∃ wx, wx = w3.alloc (.cells #[.slice a3 M.length cap3, .int .i64 (x + 1), .int .i64 l, .int .i64 r] 24) := ⟨_, rfl⟩
    have hbwx : Below w3.heap.size w3 wx := by rw [hwx]; exact (Below.refl _ _).alloc (Nat.le_refl _) _
    have HX : Hid (Bx wx w3.heap.size (.slice a3 M.length cap3) (.int .i64 (x + 1)) (.int .i64 l) (.int .i64 r)) := (by rw [hwx]; exact Bx.new _ _ _ _ _ _ : Bx wx w3.heap.size (.slice a3 M.length cap3) (.int .i64 (x + 1)) (.int .i64 l) (.int .i64 r))
    have HOX := ghid (HO3.out.below hbwx)
    have hb0x := below_trans hb03 hbwx
    obtain ⟨hUb, ⟨c0, c1, c2, c3⟩, _⟩ := hU3
    go_wp2_with fail
    rw [← hwx]
    clear hwx c0 c1 c2 c3 hUb
    refine (openRef_any G _ x l r p size now _ (HV.out.below hb0x) HS.out hp).mono ?_
    rintro e w5 (⟨hne, _⟩ | ⟨_, u5, rfl, hown5, hb5⟩)
    · exact absurd HOP.out hne
    rw [← HM.out] at hown5
    have HO5 := ghid hown5
    obtain ⟨a5, cap5, hu5, _, _, _⟩ := HO5.out.lies hNl
    subst hu5
    have HX5 := ghid (HX.out.below hb5)
    have HOX5 := ghid (HOX.out.below hb5)
    have hb05 := below_trans hb0x hb5
    clear hown5 hb5
    obtain ⟨wq, hwq⟩ : ∃ wq, wq = w5.alloc (.cells #[.slice a5 M.length cap5, .int .i64 (x + 1), .int .i64 l, .int .i64 r] 24) := ⟨_, rfl⟩
    have hbwq : Below w5.heap.size w5 wq := by rw [hwq]; exact (Below.refl _ _).alloc (Nat.le_refl _) _
    have HWQ : Hid (Bx wq w5.heap.size (.slice a5 M.length cap5) (.int .i64 (x + 1)) (.int .i64 l) (.int .i64 r)) := (by rw [hwq]; exact Bx.new _ _ _ _ _ _ : Bx wq w5.heap.size (.slice a5 M.length cap5) (.int .i64 (x + 1)) (.int .i64 l) (.int .i64 r))
    have HXQ := ghid (HX5.out.below hbwq)
    have HLX : Hid (∀ W, Below wq.heap.size wq W → LiesS W (.slice a3 M.length cap3) M) := (fun W hW => ((HOX5.out.lies hNl).below hbwq).below hW : ∀ W, Below wq.heap.size wq W → LiesS W (.slice a3 M.length cap3) M)
    have HLN : Hid (∀ W, Below wq.heap.size wq W → LiesS W (.slice a5 M.length cap5) M) := (fun W hW => ((HO5.out.lies hNl).below hbwq).below hW : ∀ W, Below wq.heap.size wq W → LiesS W (.slice a5 M.length cap5) M)
    have hb0q := below_trans hb05 hbwq
    go_wp2_with fail
    rw [← hwq]
    clear hwq hbwq
    refine (uploadBegun_yes _).mono ?_
    rintro e wa ⟨rfl, hba⟩
    have hXA := HXQ.out.below hba
    have hWA := HWQ.out.below hba
    obtain ⟨_, ⟨z0, z1, z2, z3⟩, _⟩ := hXA
    obtain ⟨_, ⟨z4, z5, z6, z7⟩, _⟩ := hWA
    have hwa := hba
    clear hba
    go_wp2_with fail
    refine (sameUploads_yes M _ _ (x + 1) l r _ (HLX.out _ hwa) (HLN.out _ hwa)).mono ?_
    rintro e wd ⟨rfl, hbd⟩
    have hwd : Below wq.heap.size wq wd := below_trans hwa hbd
    clear hbd z0 z1 z2 z3 z4 z5 z6 z7
    go_wp2
    go_ret
    exact ⟨rfl, hb0q.trans (hwd.mono hb0q.size)⟩
  · have HOP := ghid hop
    clear hop
    go_enter Try.func3, Try.ntmps3
    go_wp2_with fail
    rw [← hw2]
    clear hw2
    refine (open_any G _ x l r p size now _ (HV.out.below hbw2) HS.out hp).mono ?_
    rintro e w3 (⟨_, rfl, hb3⟩ | ⟨hh, _⟩)
    rotate_left
    · exact absurd hh HOP.out
    have hb03 := below_trans hbw2 hb3
    have hU3 := HU2.out.below hb3
    have HU3 := ghid hU3
    clear hb3
    generalize hyy : Pp.opE G x l r p size now = yy at *
    obtain ⟨wx, hwx⟩ : ∃ wx, wx = w3.alloc (.cells #[.slice none 0 0, .int .i64 0, .int .i64 0, .int .i64 0] 24) := ⟨_, rfl⟩
    have hbwx : Below w3.heap.size w3 wx := by rw [hwx]; exact (Below.refl _ _).alloc (Nat.le_refl _) _
    have HX : Hid (Bx wx w3.heap.size (.slice none 0 0) (.int .i64 0) (.int .i64 0) (.int .i64 0)) := (by rw [hwx]; exact Bx.new _ _ _ _ _ _ : Bx wx w3.heap.size (.slice none 0 0) (.int .i64 0) (.int .i64 0) (.int .i64 0))
    have hb0x := below_trans hb03 hbwx
    obtain ⟨hUb, ⟨c0, c1, c2, c3⟩, _⟩ := hU3
    go_wp2_with fail
    rw [← hwx]
    clear hwx c0 c1 c2 c3 hUb
    refine (openRef_any G _ x l r p size now _ (HV.out.below hb0x) HS.out hp).mono ?_
    rintro e w5 (⟨_, rfl, hb5⟩ | ⟨hh, _⟩)
    rotate_left
    · exact absurd (hyy.symm.trans hh) HOP.out
    rw [hyy]
    have HX5 := ghid (HX.out.below hb5)
    have hb05 := below_trans hb0x hb5
    clear hb5
    obtain ⟨wq, hwq⟩ : ∃ wq, wq = w5.alloc (.cells #[.slice none 0 0, .int .i64 0, .int .i64 0, .int .i64 0] 24) := ⟨_, rfl⟩
    have hbwq : Below w5.heap.size w5 wq := by rw [hwq]; exact (Below.refl _ _).alloc (Nat.le_refl _) _
    have HWQ : Hid (Bx wq w5.heap.size (.slice none 0 0) (.int .i64 0) (.int .i64 0) (.int .i64 0)) := (by rw [hwq]; exact Bx.new _ _ _ _ _ _ : Bx wq w5.heap.size (.slice none 0 0) (.int .i64 0) (.int .i64 0) (.int .i64 0))
    have HXQ := ghid (HX5.out.below hbwq)
    have hb0q := below_trans hb05 hbwq
    clear hyy
    go_wp2_with fail
    rw [← hwq]
    clear hwq hbwq
    refine (uploadBegun_yes _).mono ?_
    rintro e wa ⟨rfl, hba⟩
    have hXA := HXQ.out.below hba
    have hWA := HWQ.out.below hba
    obtain ⟨_, ⟨z0, z1, z2, z3⟩, _⟩ := hXA
    obtain ⟨_, ⟨z4, z5, z6, z7⟩, _⟩ := hWA
    have hwa := hba
    clear hba
    go_wp2_with fail
    refine (sameUploads_yes [] _ _ 0 0 0 _ (liesS_nil _) (liesS_nil _)).mono ?_
    rintro e wd ⟨rfl, hbd⟩
    have hwd : Below wq.heap.size wq wd := below_trans hwa hbd
    clear hbd z0 z1 z2 z3 z4 z5 z6 z7
    go_wp2
    go_ret
    exact ⟨rfl, hb0q.trans (hwd.mono hb0q.size)⟩
end Go.Proofs.Ytnaedemkpiagmaa
