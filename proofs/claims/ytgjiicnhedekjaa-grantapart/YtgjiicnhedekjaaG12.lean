/- What grant.checkAll, bounded, Make and Give answer, where all is right. -/
import Derived.Test.YtgjiicnhedekjaaG11
set_option linter.unusedSimpArgs false
set_option linter.unusedVariables false
namespace Go.Proofs.Ytgjiicnhedekjaa
open Go.RowKit

set_option maxHeartbeats 1000000 in
theorem checkAll_ok (G : List Gr) (v : Value) (ns : List ByteArray) (g cap : Nat) (w : World) (hv : LiesG w v G) (hs : SizedG G) (hg : g < w.heap.size) (hns : ∀ i (h : i < ns.length), (ns[i]).size ≤ 1000000000000000) (hl : ns.length ≤ 1000) (hc : ∀ i (h : i < ns.length), w.cell? ⟨g, 0 + i, none⟩ = some (.string ns[i])) (h0 : Pp.gchE G = 0) (h1 : Pp.nmsE ns = 0) :
    Calls Try.prog 15 #[v, .slice (some ⟨g, 0, none⟩) ns.length cap] w fun e w' => e = .returned (.int .i64 0) ∧ Below w.heap.size w w' := by
  have HV := ghid hv
  have HS := ghid hs
  have HN := ghid hns
  have HC := ghid hc
  have H0 := ghid h0
  have H1 := ghid h1
  clear hv hs hns hc h0 h1
  go_enter Try.func15, Try.ntmps15
  go_wp2_with fail
  refine (gcheck_any G _ _ HV.out HS.out).mono ?_
  rintro e w1 ⟨rfl, hb1⟩
  rw [H0.out]
  go_wp2_with fail
  refine (names_any ns g 0 cap _ (Nat.lt_of_lt_of_le hg hb1.size) HN.out hl (fun i h => (hb1.cell (p := ⟨g, 0 + i, none⟩) hg).trans (HC.out i h))).mono ?_
  rintro e w2 ⟨rfl, hb2⟩
  rw [H1.out]
  go_wp2
  go_ret
  exact ⟨rfl, below_trans hb1 hb2⟩

set_option maxHeartbeats 1000000 in
theorem bounded_ok (G : List Gr) (v : Value) (w : World) (hv : LiesG w v G) (hn : G.length ≤ 60) :
    Calls Try.prog 19 #[v] w fun e w' => e = .returned (.tuple #[v, .int .i64 0]) ∧ w' = w := by
  obtain ⟨a, cap, rfl, hcap, hcap2, hLL⟩ := hv
  have h60 : ¬ 60 < (G.length : Int) := by omega
  clear hLL
  go_enter Try.func19, Try.ntmps19
  go_wp2
  go_ret2
  exact ⟨rfl, rfl⟩

set_option maxRecDepth 100000 in
set_option maxHeartbeats 2000000 in
theorem make_ok (G : List Gr) (v : Value) (f h : ByteArray) (w : World) (hv : LiesG w v G) (hs : SizedG G) (hf : f.size ≤ 1000000000) (hh : h.size ≤ 1000000000) (h0 : Pp.gchE G = 0) (h1 : Pp.nmsE [f, h] = 0) (h2 : G.any (Pp.inF f) = false) (hn : G.length + 1 ≤ 60) :
    Calls Try.prog 11 #[v, .string f, .string h] w fun e w' => ∃ u M, e = .returned (.tuple #[u, .int .i64 0]) ∧ M.Perm (Pp.outG ⟨f, h, 3⟩ G ++ [⟨f, h, 3⟩]) ∧ M.Pairwise (fun a b => Pp.ltG b a = false) ∧ LiesG w' u M ∧ Below w.heap.size w w' := by
  have HV := ghid hv
  have HS := ghid hs
  have H0 := ghid h0
  have H1 := ghid h1
  have H2 := ghid h2
  have hFl : (Pp.outG ⟨f, h, 3⟩ G).length ≤ G.length := List.length_filter_le _ _
  clear hv hs h0 h1 h2
  go_enter Try.func11, Try.ntmps11
  go_wp2_with fail
  refine (checkAll_ok G _ [f, h] w.heap.size 2 _ (HV.out.below ((Below.refl _ _).alloc (Nat.le_refl _) _)) HS.out (by simp) (fun i hi => by match i, hi with | 0, _ => exact Nat.le_trans hf (by decide) | 1, _ => exact Nat.le_trans hh (by decide)) (by simp) (fun i hi => by match i, hi with | 0, _ => simp | 1, _ => simp) H0.out H1.out).mono ?_
  rintro e w1 ⟨rfl, hb1⟩
  have hb01 : Below w.heap.size w w1 := ((Below.refl _ _).alloc (Nat.le_refl _) _).trans (hb1.mono (by simp))
  clear hb1
  go_wp2_with fail
  refine (in_any f _).mono ?_
  rintro e w2 ⟨rfl, ht2, hb2⟩
  have HT := ghid ht2
  have hb02 := below_trans hb01 hb2
  clear ht2 hb2 hb01
  go_wp2_with fail
  refine (isAny_any G _ _ _ (Pp.inF f) _ (HV.out.below hb02) HT.out).mono ?_
  rintro e w3 ⟨rfl, hb3⟩
  rw [H2.out]
  have hb03 := below_trans hb02 hb3
  clear hb3 hb02
  go_wp2_with fail
  refine (put_yes G _ ⟨f, h, 3⟩ _ (HV.out.below hb03) (by omega) (show ¬ (3 : Int) = 0 by decide)).mono ?_
  rintro e w4 ⟨u, M, rfl, hp, hsrt, hli, hb4⟩
  have hM : M.length ≤ 60 := by rw [hp.length_eq, List.length_append]; simp; omega
  have HP := ghid hp
  have HSS := ghid hsrt
  have HLI := ghid hli
  have hb04 := below_trans hb03 hb4
  clear hp hsrt hli hb4 hb03
  go_wp2_with fail
  refine (bounded_ok M _ _ HLI.out hM).mono ?_
  rintro e w5 ⟨rfl, hw⟩
  rw [hw]
  clear hw w5
  go_wp2
  go_ret2
  exact ⟨_, M, rfl, HP.out, HSS.out, HLI.out, hb04⟩
end Go.Proofs.Ytgjiicnhedekjaa
