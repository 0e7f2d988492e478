/- What upload.Query answers, where all is right; what upload.Finish answers, where something is wrong. -/
import Derived.Test.YtnaedemkpiagmaaU25
set_option linter.unusedSimpArgs false
set_option linter.unusedVariables false
namespace Go.Proofs.Ytnaedemkpiagmaa
open Go.RowKit

set_option maxRecDepth 100000 in
set_option maxHeartbeats 2000000 in
theorem query_k (G : List Se) (v : Value) (x l r : Int) (p : ByteArray) (n now : Int) (w : World) (hv : LiesS w v G) (hs : SizedS G) (hp : p.size ≤ 150000000000000) (h0 : Pp.fiE G x l r p n now = 0) (kk : Nat) (hkk : kk < (Pp.swL now G).length) (hidx : Pp.idS (Pp.swL now G) (Pp.mine n p) = (kk : Int)) :
    Calls Try.prog 13 #[.agg #[v, .int .i64 x, .int .i64 l, .int .i64 r], .string p, .int .i64 n, .int .i64 now] w fun e w' => e = .returned (.tuple #[.int .i64 (((Pp.swL now G)[kk]).tx.size : Int), .int .i64 0]) ∧ Below w.heap.size w w' := by
  have HV := ghid hv
  have HS := ghid hs
  have H0 := ghid h0
  have HI := ghid hidx
  have hb3 : Below w.heap.size w (w.alloc (.cells #[v, .int .i64 x, .int .i64 l, .int .i64 r] 24)) := (Below.refl _ _).alloc (Nat.le_refl _) _
  have hsw2 : (Pp.swL now G).length ≤ 1000 := by
    have h2 := Pp.swL_len now G
    have := (Pp.bnd_zero (Pp.uch_zero (Pp.go_zero (Pp.fi_zero h0)).1).1).1
    omega
  clear hv hs h0 hidx
  go_enter Try.func13, Try.ntmps13
  go_wp2_with fail
  refine (find_any G _ x l r p n now _ (HV.out.below hb3) HS.out hp).mono ?_
  rintro e w4 (⟨hne, _⟩ | ⟨_, u, k, rfl, hk, hid, hown, hb4⟩)
  · exact absurd H0.out hne
  obtain rfl : k = kk := by have := HI.out; rw [hid] at this; omega
  have hb04 : Below w.heap.size w w4 := hb3.trans (hb4.mono (by simp))
  clear hb4 hid
  rcases hown with ⟨_, hnil⟩ | ⟨g, cap, rfl, hg1, hg2, hrow, _⟩
  · rw [hnil] at hk; simp at hk
  have hglt := hrow.1
  obtain ⟨t0, t1, t2, t3, t4⟩ := (hrow.below ((Below.refl _ _).alloc (Nat.le_refl _) (.cells #[.slice (some ⟨g, 0, none⟩) (Pp.swL now G).length cap, .int .i64 x, .int .i64 l, .int .i64 r] 24))).at hk
  clear hrow
  go_wp2_with fail
  go_ret2
  exact ⟨rfl, hb04.alloc hb04.size _⟩
end Go.Proofs.Ytnaedemkpiagmaa
