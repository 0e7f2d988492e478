/- What the law UploadAppends answers: true, for every uploads, two texts and three numbers. -/
import Derived.Test.YtnaedemkpiagmaaU15
import Derived.Test.YtnaedemkpiagmaaU24
import Derived.Test.YtnaedemkpiagmaaU31
set_option linter.unusedSimpArgs false
set_option linter.unusedVariables false
namespace Go.Proofs.Ytnaedemkpiagmaa
open Go.RowKit

set_option maxRecDepth 100000 in
set_option maxHeartbeats 4000000 in
theorem uploadAppends_err (G : List Se) (v : Value) (x l r : Int) (p : ByteArray) (n o : Int) (t : ByteArray) (now : Int) (w : World) (hv : LiesS w v G) (y : Int) (hA : (∀ W, LiesS W v G → Calls Try.prog 11 #[.agg #[v, .int .i64 x, .int .i64 l, .int .i64 r], .string p, .int .i64 n, .int .i64 o, .string t, .int .i64 now] W fun e w' => e = .returned (.tuple #[.agg #[.slice none 0 0, .int .i64 0, .int .i64 0, .int .i64 0], .int .i64 0, .int .i64 y]) ∧ Below W.heap.size W w')) (hR : (∀ W, LiesS W v G → Calls Try.prog 12 #[.agg #[v, .int .i64 x, .int .i64 l, .int .i64 r], .string p, .int .i64 n, .int .i64 o, .string t, .int .i64 now] W fun e w' => e = .returned (.tuple #[.agg #[.slice none 0 0, .int .i64 0, .int .i64 0, .int .i64 0], .int .i64 0, .int .i64 y]) ∧ Below W.heap.size W w')) :
    Calls Try.prog 4 #[.agg #[v, .int .i64 x, .int .i64 l, .int .i64 r], .string p, .int .i64 n, .int .i64 o, .string t, .int .i64 now] w fun e w' => e = .returned (.bool true) ∧ Below w.heap.size w w' := by
  have HV := ghid hv
  have HA := ghid hA
  have HR := ghid hR
  clear hA hR
  obtain ⟨av, capv, rfl, _⟩ := hv
  obtain ⟨w2, hw2⟩ : ∃ w2, w2 = w.alloc (.cells #[.slice av G.length capv, .int .i64 x, .int .i64 l, .int .i64 r] 24) := ⟨_, rfl⟩
  have hbw2 : Below w.heap.size w w2 := by rw [hw2]; exact (Below.refl _ _).alloc (Nat.le_refl _) _
  have HU2 : Hid (Bx w2 w.heap.size (.slice av G.length capv) (.int .i64 x) (.int .i64 l) (.int .i64 r)) := (by rw [hw2]; exact Bx.new _ _ _ _ _ _ : Bx w2 w.heap.size (.slice av G.length capv) (.int .i64 x) (.int .i64 l) (.int .i64 r))
  go_enter Try.func4, Try.ntmps4
  go_wp2_with fail
  rw [← hw2]
  clear hw2
  refine (HA.out _ (HV.out.below hbw2)).mono ?_
  rintro e w3 ⟨rfl, hb3⟩
  have hb03 := below_trans hbw2 hb3
  have hU3 := HU2.out.below hb3
  clear hb3
  obtain ⟨wx, hwx⟩ : ∃ wx, wx = w3.alloc (.cells #[.slice none 0 0, .int .i64 0, .int .i64 0, .int .i64 0] 24) := ⟨_, rfl⟩
  have hbwx : Below w3.heap.size w3 wx := by rw [hwx]; exact (Below.refl _ _).alloc (Nat.le_refl _) _
  have HX : Hid (Bx wx w3.heap.size (.slice none 0 0) (.int .i64 0) (.int .i64 0) (.int .i64 0)) := (by rw [hwx]; exact Bx.new _ _ _ _ _ _ : Bx wx w3.heap.size (.slice none 0 0) (.int .i64 0) (.int .i64 0) (.int .i64 0))
  have hb0x := below_trans hb03 hbwx
  obtain ⟨hUb, ⟨c0, c1, c2, c3⟩, _⟩ := hU3
  go_wp2_with fail
  rw [← hwx]
  clear hwx c0 c1 c2 c3 hUb
  refine (HR.out _ (HV.out.below hb0x)).mono ?_
  rintro e w5 ⟨rfl, hb5⟩
  have HX5 := ghid (HX.out.below hb5)
  have hb05 := below_trans hb0x hb5
  clear hb5
  obtain ⟨wq, hwq⟩ : ∃ wq, wq = w5.alloc (.cells #[.slice none 0 0, .int .i64 0, .int .i64 0, .int .i64 0] 24) := ⟨_, rfl⟩
  have hbwq : Below w5.heap.size w5 wq := by rw [hwq]; exact (Below.refl _ _).alloc (Nat.le_refl _) _
  have HWQ : Hid (Bx wq w5.heap.size (.slice none 0 0) (.int .i64 0) (.int .i64 0) (.int .i64 0)) := (by rw [hwq]; exact Bx.new _ _ _ _ _ _ : Bx wq w5.heap.size (.slice none 0 0) (.int .i64 0) (.int .i64 0) (.int .i64 0))
  have HXQ := ghid (HX5.out.below hbwq)
  have hb0q := below_trans hb05 hbwq
  go_wp2_with fail
  rw [← hwq]
  clear hwq hbwq
  refine (uploadBegun_yes _).mono ?_
  rintro e wa ⟨rfl, hba⟩
  have hXA := HXQ.out.below hba
  have hWA := HWQ.out.below hba
  obtain ⟨_, ⟨z0, z1, z2, z3⟩, _⟩ := hXA
  obtain ⟨_, ⟨z4, z5, z6, z7⟩, _⟩ := hWA
  have hwa := hba
  clear hba
  go_wp2_with fail
  refine (sameUploads_yes [] _ _ 0 0 0 _ (liesS_nil _) (liesS_nil _)).mono ?_
  rintro e wd ⟨rfl, hbd⟩
  have hwd : Below wq.heap.size wq wd := below_trans hwa hbd
  clear hbd z0 z1 z2 z3 z4 z5 z6 z7
  go_wp2
  go_ret
  exact ⟨rfl, hb0q.trans (hwd.mono hb0q.size)⟩

set_option maxRecDepth 100000 in
set_option maxHeartbeats 4000000 in
theorem uploadAppends_ok (G : List Se) (v : Value) (x l r : Int) (p : ByteArray) (n o : Int) (t : ByteArray) (now : Int) (w : World) (hv : LiesS w v G) (c : Int) (M : List Se) (hNl : M.length ≤ 1000) (hA : (∀ W, LiesS W v G → Calls Try.prog 11 #[.agg #[v, .int .i64 x, .int .i64 l, .int .i64 r], .string p, .int .i64 n, .int .i64 o, .string t, .int .i64 now] W fun e w' => ∃ u, e = .returned (.tuple #[.agg #[u, .int .i64 x, .int .i64 l, .int .i64 r], .int .i64 c, .int .i64 0]) ∧ OwnS W.heap.size w' u M ∧ Below W.heap.size W w')) (hR : (∀ W, LiesS W v G → Calls Try.prog 12 #[.agg #[v, .int .i64 x, .int .i64 l, .int .i64 r], .string p, .int .i64 n, .int .i64 o, .string t, .int .i64 now] W fun e w' => ∃ u, e = .returned (.tuple #[.agg #[u, .int .i64 x, .int .i64 l, .int .i64 r], .int .i64 c, .int .i64 0]) ∧ OwnS W.heap.size w' u M ∧ Below W.heap.size W w')) :
    Calls Try.prog 4 #[.agg #[v, .int .i64 x, .int .i64 l, .int .i64 r], .string p, .int .i64 n, .int .i64 o, .string t, .int .i64 now] w fun e w' => e = .returned (.bool true) ∧ Below w.heap.size w w' := by
  have HV := ghid hv
  have HA := ghid hA
  have HR := ghid hR
  clear hA hR
  obtain ⟨av, capv, rfl, _⟩ := hv
  obtain ⟨w2, hw2⟩ : ∃ w2, w2 = w.alloc (.cells #[.slice av G.length capv, .int .i64 x, .int .i64 l, .int .i64 r] 24) := ⟨_, rfl⟩
  have hbw2 : Below w.heap.size w w2 := by rw [hw2]; exact (Below.refl _ _).alloc (Nat.le_refl _) _
  have HU2 : Hid (Bx w2 w.heap.size (.slice av G.length capv) (.int .i64 x) (.int .i64 l) (.int .i64 r)) := (by rw [hw2]; exact Bx.new _ _ _ _ _ _ : Bx w2 w.heap.size (.slice av G.length capv) (.int .i64 x) (.int .i64 l) (.int .i64 r))
  go_enter Try.func4, Try.ntmps4
  go_wp2_with fail
  rw [← hw2]
  clear hw2
  refine (HA.out _ (HV.out.below hbw2)).mono ?_
  rintro e w3 ⟨u3, rfl, hown3, hb3⟩
  have HO3 := ghid hown3
  obtain ⟨a3, cap3, hu3, _, _, _⟩ := HO3.out.lies hNl
  subst hu3
  have hb03 := below_trans hbw2 hb3
  have hU3 := HU2.out.below hb3
  clear hown3 hb3
  obtain ⟨wx, hwx⟩ : ∃ wx, wx = w3.alloc (.cells #[.slice a3 M.length cap3, .int .i64 x, .int .i64 l, .int .i64 r] 24) := ⟨_, rfl⟩
  have hbwx : Below w3.heap.size w3 wx := by rw [hwx]; exact (Below.refl _ _).alloc (Nat.le_refl _) _
  have HX : Hid (Bx wx w3.heap.size (.slice a3 M.length cap3) (.int .i64 x) (.int .i64 l) (.int .i64 r)) := (by rw [hwx]; exact Bx.new _ _ _ _ _ _ : Bx wx w3.heap.size (.slice a3 M.length cap3) (.int .i64 x) (.int .i64 l) (.int .i64 r))
  have HOX := ghid (HO3.out.below hbwx)
  have hb0x := below_trans hb03 hbwx
  obtain ⟨hUb, ⟨c0, c1, c2, c3⟩, _⟩ := hU3
  go_wp2_with fail
  rw [← hwx]
  clear hwx c0 c1 c2 c3 hUb
  refine (HR.out _ (HV.out.below hb0x)).mono ?_
  rintro e w5 ⟨u5, rfl, hown5, hb5⟩
  have HO5 := ghid hown5
  obtain ⟨a5, cap5, hu5, _, _, _⟩ := HO5.out.lies hNl
  subst hu5
  have HX5 := ghid (HX.out.below hb5)
  have HOX5 := ghid (HOX.out.below hb5)
  have hb05 := below_trans hb0x hb5
  clear hown5 hb5
  obtain ⟨wq, hwq⟩ : ∃ wq, wq = w5.alloc (.cells #[.slice a5 M.length cap5, .int .i64 x, .int .i64 l, .int .i64 r] 24) := ⟨_, rfl⟩
  have hbwq : Below w5.heap.size w5 wq := by rw [hwq]; exact (Below.refl _ _).alloc (Nat.le_refl _) _
  have HWQ : Hid (Bx wq w5.heap.size (.slice a5 M.length cap5) (.int .i64 x) (.int .i64 l) (.int .i64 r)) := (by rw [hwq]; exact Bx.new _ _ _ _ _ _ : Bx wq w5.heap.size (.slice a5 M.length cap5) (.int .i64 x) (.int .i64 l) (.int .i64 r))
  have HXQ := ghid (HX5.out.below hbwq)
  have HLX : Hid (∀ W, Below wq.heap.size wq W → LiesS W (.slice a3 M.length cap3) M) := (fun W hW => ((HOX5.out.lies hNl).below hbwq).below hW : ∀ W, Below wq.heap.size wq W → LiesS W (.slice a3 M.length cap3) M)
  have HLN : Hid (∀ W, Below wq.heap.size wq W → LiesS W (.slice a5 M.length cap5) M) := (fun W hW => ((HO5.out.lies hNl).below hbwq).below hW : ∀ W, Below wq.heap.size wq W → LiesS W (.slice a5 M.length cap5) M)
  have hb0q := below_trans hb05 hbwq
  go_wp2_with fail
  rw [← hwq]
  clear hwq hbwq
  refine (uploadBegun_yes _).mono ?_
  rintro e wa ⟨rfl, hba⟩
  have hXA := HXQ.out.below hba
  have hWA := HWQ.out.below hba
  obtain ⟨_, ⟨z0, z1, z2, z3⟩, _⟩ := hXA
  obtain ⟨_, ⟨z4, z5, z6, z7⟩, _⟩ := hWA
  have hwa := hba
  clear hba
  go_wp2_with fail
  refine (sameUploads_yes M _ _ x l r _ (HLX.out _ hwa) (HLN.out _ hwa)).mono ?_
  rintro e wd ⟨rfl, hbd⟩
  have hwd : Below wq.heap.size wq wd := below_trans hwa hbd
  clear hbd z0 z1 z2 z3 z4 z5 z6 z7
  go_wp2
  go_ret
  exact ⟨rfl, hb0q.trans (hwd.mono hb0q.size)⟩

theorem uploadAppends_walk (G : List Se) (v : Value) (x l r : Int) (p : ByteArray) (n o : Int) (t : ByteArray) (now : Int) (w : World) (hv : LiesS w v G) (hs : SizedS G) (hp : p.size ≤ 150000000000000) (ht : t.size ≤ 150000000000000) :
    Calls Try.prog 4 #[.agg #[v, .int .i64 x, .int .i64 l, .int .i64 r], .string p, .int .i64 n, .int .i64 o, .string t, .int .i64 now] w fun e w' => e = .returned (.bool true) ∧ Below w.heap.size w w' := by
  by_cases h0 : Pp.fiE G x l r p n now = 0
  · have hl20 := (Pp.bnd_zero (Pp.uch_zero (Pp.go_zero (Pp.fi_zero h0)).1).1).1
    have hsw := Pp.swL_len now G
    obtain ⟨M, hM⟩ : ∃ M, Pp.swL now G = M := ⟨_, rfl⟩
    have hid : ¬ Pp.idS (Pp.swL now G) (Pp.mine n p) = -1 := fun e => by
      have h := h0
      rw [Pp.fiE, if_pos (Pp.fi_zero h0), e] at h
      revert h; decide
    obtain ⟨k, hk, hidx⟩ : ∃ k, k < M.length ∧ Pp.idS M (Pp.mine n p) = (k : Int) := by
      rw [← hM]
      rcases Pp.idS_cases (Pp.swL now G) (Pp.mine n p) with ⟨h1, _⟩ | ⟨k, hk, h2, _⟩
      · exact absurd h1 hid
      · exact ⟨k, hk, h2⟩
    have hMl : M.length ≤ 1000 := by rw [← hM]; omega
    cases hen : Pp.enB (M[k]).tx o t with
    | true =>
      have hsplit := hen
      rw [Pp.enB, Bool.and_eq_true] at hsplit
      obtain ⟨hin, he⟩ := hsplit
      obtain ⟨ho1, ho2⟩ := Pp.inR_yes hin
      obtain ⟨m, hm⟩ : ∃ m : Nat, o = (m : Int) := ⟨o.toNat, by omega⟩
      have he2 : (((M[k]).tx.extract m (M[k]).tx.size).toList == t.toList) = true := by
        rw [hm, Int.toNat_natCast] at he; exact he
      subst hM
      exact uploadAppends_ok G v x l r p n o t now w hv _ (Pp.swL now G) hMl (fun W hW => append_same G v x l r p n o t now W hW hs hp h0 k hk hidx ht hen) (fun W hW => appendRef_same G v x l r p n o t now W hW hs hp h0 k hk hidx ht m hm (by omega) he2)
    | false =>
      by_cases ho : o = ((M[k]).tx.size : Int)
      · by_cases hsi : (M[k]).si < ((M[k]).tx.size : Int) + t.size
        · exact uploadAppends_err G v x l r p n o t now w hv 2 (fun W hW => by subst hM; exact append_e2 G v x l r p n o t now W hW hs hp h0 k hk hidx ht hen ho hsi) (fun W hW => (appendRef_rest G v x l r p n o t now W hW hs hp h0 M hM k hk hidx (M[k]) rfl ht hen).mono fun e w' h => by
            rcases h with ⟨h1, _⟩ | ⟨_, _, h3, h4⟩ | ⟨_, h2, _⟩
            · exact absurd ho h1
            · exact ⟨h3, h4⟩
            · omega)
        · exact uploadAppends_ok G v x l r p n o t now w hv (((M[k]).tx.size : Int) + t.size) (M.set k (Pp.moreS (M[k]) t (now + l))) (by rw [List.length_set]; exact hMl) (fun W hW => by subst hM; exact append_k G v x l r p n o t now W hW hs hp h0 k hk hidx ht hen ho (by omega)) (fun W hW => (appendRef_rest G v x l r p n o t now W hW hs hp h0 M hM k hk hidx (M[k]) rfl ht hen).mono fun e w' h => by
            rcases h with ⟨h1, _⟩ | ⟨_, h2, _⟩ | ⟨_, _, h3⟩
            · exact absurd ho h1
            · exact absurd h2 hsi
            · exact h3)
      · exact uploadAppends_err G v x l r p n o t now w hv 4 (fun W hW => by subst hM; exact append_e4 G v x l r p n o t now W hW hs hp h0 k hk hidx ht hen (by simpa using ho)) (fun W hW => (appendRef_rest G v x l r p n o t now W hW hs hp h0 M hM k hk hidx (M[k]) rfl ht hen).mono fun e w' h => by
          rcases h with ⟨_, h3⟩ | ⟨h1, _⟩ | ⟨h1, _⟩
          · exact h3
          · exact absurd h1 ho
          · exact absurd h1 ho)
  · exact uploadAppends_err G v x l r p n o t now w hv _ (fun W hW => append_e1 G v x l r p n o t now W hW hs hp h0) (fun W hW => appendRef_e1 G v x l r p n o t now W hW hs hp h0)
end Go.Proofs.Ytnaedemkpiagmaa
