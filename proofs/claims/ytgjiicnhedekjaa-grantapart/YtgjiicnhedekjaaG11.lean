/- What grant.put does, for every list of grants. -/
import Derived.Test.YtgjiicnhedekjaaG10
set_option linter.unusedSimpArgs false
set_option linter.unusedVariables false
namespace Go.Proofs.Ytgjiicnhedekjaa
open Go.RowKit

theorem own_shapeG {w : World} {base : Nat} {T : TypeId} {v : Value} {L : List Gr} (h : w.ownsRow base T 3 v L.length (Pp.flatG L)) (h0 : L ≠ []) : ∃ g cap, v = .slice (some ⟨g, 0, none⟩) L.length cap ∧ base ≤ g ∧ g < w.heap.size ∧ L.length ≤ cap ∧ cap ≤ maxLen := by
  obtain ⟨hl, h2⟩ := h
  rcases h2 with ⟨_, hz⟩ | ⟨g, cap, cur, rfl, hg, hh, hn, hm, hz, htake⟩
  · exact absurd (List.length_eq_zero_iff.1 hz) h0
  · have hlt : g < w.heap.size := by
      rcases Nat.lt_or_ge g w.heap.size with h | h
      · exact h
      · rw [Array.getElem?_eq_none h] at hh; cases hh
    exact ⟨g, cap, rfl, hg, hlt, hn, hm⟩
theorem liesG_own {w : World} {base : Nat} {T : TypeId} {v : Value} {L : List Gr} (h : w.ownsRow base T 3 v L.length (Pp.flatG L)) (hn : L.length ≤ 1000000000000000) : LiesG w v L := by
  haveI : Inhabited Gr := ⟨⟨⟨#[]⟩, ⟨#[]⟩, 0⟩⟩
  by_cases h0 : L = []
  · subst h0
    obtain ⟨_, h2⟩ := h
    rcases h2 with ⟨rfl, _⟩ | ⟨g, cap, cur, rfl, hg, hh, hc, _⟩
    · exact liesG_nil _
    · exact ⟨some ⟨g, 0, none⟩, cap, rfl, hc, by simp, fun i hi => absurd hi (by simp)⟩
  · obtain ⟨g, cap, rfl, hb, hg, hc, hm⟩ := own_shapeG h h0
    have := Pp.liesG_holds hg (Pp.holdsG_own h rfl) (d := L.toArray) (cap := cap) (by simpa using hc) (by simpa using hn)
    simpa using this

set_option maxRecDepth 100000 in
set_option maxHeartbeats 2000000 in
theorem put_yes (G : List Gr) (v : Value) (x : Gr) (w : World) (hv : LiesG w v G) (hn : G.length ≤ 1000) (hx : ¬ x.ri = 0) :
    Calls Try.prog 17 #[v, .agg #[.string x.fo, .string x.wh, .int .i64 x.ri]] w fun e w' => ∃ u M, e = .returned u ∧ M.Perm (Pp.outG x G ++ [x]) ∧ M.Pairwise (fun a b => Pp.ltG b a = false) ∧ LiesG w' u M ∧ Below w.heap.size w w' := by
  obtain ⟨i0, hi0, hz0, hz1, hz2⟩ := info_parts Try.infoG
  have HV := ghid hv
  have hT : TellsG (w.alloc (.cells #[.string x.fo, .string x.wh, .int .i64 x.ri] 33)) 34 #[.pointer (some ⟨w.heap.size, 0, none⟩)] (Pp.othG x) := by
    refine ⟨enters_of Try.func34 (by kernel_rfl) rfl, fun W hW e => ?_⟩
    exact put1_any e x w.heap.size W (Nat.lt_of_lt_of_le (by simp) hW.size) ((hW.cell (p := ⟨w.heap.size, 0, none⟩) (by simp)).trans (by simp)) ((hW.cell (p := ⟨w.heap.size, 1, none⟩) (by simp)).trans (by simp)) ((hW.cell (p := ⟨w.heap.size, 2, none⟩) (by simp)).trans (by simp))
  have HT := ghid hT
  have hFl : (Pp.outG x G).length ≤ G.length := List.length_filter_le _ _
  have hz : (x.ri == 0) = false := by simpa using hx
  have HF : Hid (G.filter (Pp.othG x) = Pp.outG x G) := rfl
  clear hT hv hx
  generalize Pp.outG x G = F at *
  go_enter Try.func17, Try.ntmps17
  go_wp2_with fail
  refine (gevery_any G _ _ _ (Pp.othG x) _ (HV.out.below ((Below.refl _ _).alloc (Nat.le_refl _) _)) HT.out (by omega)).mono ?_
  rintro e w1 ⟨u1, rfl, ho1, hn1, hb1⟩
  rw [HF.out] at ho1
  obtain ⟨c0, c1, c2, hbw, hlt⟩ := bx3 hb1
  have hown1 := own_monoG (B := w.heap.size) ho1 (by simp)
  clear ho1 hb1
  go_wp2_with (at_builtin; refine wpList_append_own _ rfl _ _ 22 rfl w.heap.size 33 i0 (.agg #[.string ⟨#[]⟩, .string ⟨#[]⟩, .int .i64 0]) 3 40 Try.underlying22 hi0 hz0 hz1 hz2 rfl (by decide) _ _ _ rfl (hown1.alloc _) ⟨w1.heap.size, 0, none⟩ 1 1 (Pp.cellsG x) rfl rfl (new_cellsG w1 x _) (Pp.cellsG_one _) (by unfold maxLen; omega) (by omega) (by have := hbw.size; simp; omega) ?_)
  intro v2 w2 ho2 hgr2 hnn2
  have hbel2 : Below w.heap.size w w2 := (hbw.alloc hbw.size _).grown hgr2 (by have := hbw.size; simp; omega) (fun q hq => (hown1.lt q hq).1)
  rw [Pp.flatG_snoc] at ho2
  have ho3 : w2.ownsRow w.heap.size 33 3 v2 (F ++ [x]).length (Pp.flatG (F ++ [x])) := by rw [List.length_append]; exact ho2
  obtain ⟨g, cap, rfl, hg1, hg2, hc1, hc2⟩ := own_shapeG ho3 (by simp)
  have HO := ghid ho3
  have hFX : (F ++ [x]).length ≤ 1001 := by rw [List.length_append]; simp; omega
  clear ho2 hgr2 hnn2 ho3 hown1 hn1 c0 c1 c2
  obtain ⟨FX, hFX0⟩ : ∃ FX, FX = F ++ [x] := ⟨_, rfl⟩
  rw [← hFX0] at HO hFX hc1 ⊢
  have HFX := ghid hFX0
  clear hFX0
  go_wp2_with fail
  refine (sortG_any FX w.heap.size g cap _ HO.out (by omega) hc1 hg1 hg2).mono ?_
  rintro e w3 ⟨rfl, M, hp, hs, hli, hb3⟩
  have HP := ghid hp
  have HSS := ghid hs
  have HLI := ghid hli
  have hb03 : Below w.heap.size w w3 := hbel2.trans hb3
  clear hp hs hli hb3
  go_wp2
  go_ret
  exact ⟨_, M, rfl, by rw [← HFX.out]; exact HP.out, HSS.out, HLI.out, hb03⟩
end Go.Proofs.Ytgjiicnhedekjaa
