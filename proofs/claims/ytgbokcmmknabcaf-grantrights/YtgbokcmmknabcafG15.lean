/- What grant.Who and the reference's WhoOf and SameTexts answer. -/
import Derived.Test.YtgbokcmmknabcafG14
set_option linter.unusedSimpArgs false
set_option linter.unusedVariables false
namespace Go.Proofs.Ytgbokcmmknabcaf
open Go.RowKit

/-- A row of texts. -/
def LiesB (w : World) (v : Value) (N : List ByteArray) : Prop := ∃ a cap, v = .slice a N.length cap ∧ N.length ≤ cap ∧ N.length ≤ 1000000 ∧ ∀ i (h : i < N.length), ∃ b o, a = some ⟨b, o, none⟩ ∧ b < w.heap.size ∧ w.cell? ⟨b, o + i, none⟩ = some (.string N[i])
theorem LiesB.below {w w' : World} {v : Value} {N : List ByteArray} (h : LiesB w v N) (hw : Below w.heap.size w w') : LiesB w' v N := by
  obtain ⟨a, cap, hv, h1, h2, h5⟩ := h
  refine ⟨a, cap, hv, h1, h2, fun i hi => ?_⟩
  obtain ⟨b, o, ha, hb, he⟩ := h5 i hi
  exact ⟨b, o, ha, Nat.lt_of_lt_of_le hb hw.size, (hw.cell (p := ⟨b, o + i, none⟩) hb).trans he⟩
theorem liesB_nil (w : World) : LiesB w (.slice none 0 0) [] := ⟨none, 0, rfl, Nat.le_refl _, by decide, fun i h => absurd h (by simp)⟩
namespace Pp
def bs (N : List ByteArray) : List Value := N.map Value.string
theorem bs_snoc (N : List ByteArray) (x : ByteArray) : bs N ++ [.string x] = bs (N ++ [x]) := by simp [bs]
end Pp
theorem liesB_own {w : World} {base : Nat} {v : Value} {N : List ByteArray} (h : w.ownsRow base 9 1 v N.length (Pp.bs N)) (hN : N.length ≤ 1000000) : LiesB w v N := by
  have h' := h
  obtain ⟨hl, h2⟩ := h
  rcases h2 with ⟨rfl, hz⟩ | ⟨g, cap, cur, rfl, hg, hh, hn2, hm, hz, htake⟩
  · exact ⟨none, 0, by rw [hz], by omega, hN, fun i h => absurd h (by omega)⟩
  · have hlt : g < w.heap.size := by
      rcases Nat.lt_or_ge g w.heap.size with h | h
      · exact h
      · rw [Array.getElem?_eq_none h] at hh; cases hh
    refine ⟨some ⟨g, 0, none⟩, cap, rfl, hn2, hN, fun i h => ⟨g, 0, rfl, hlt, ?_⟩⟩
    rw [Nat.zero_add, h'.cellAt i (by omega)]
    simp [Pp.bs, h]

theorem Try.infoS9 : (Try.prog.info? 9).map (fun i => (i.zero, i.size, i.bytes)) = some (some (.string ⟨#[]⟩), 1, 16) := by kernel_rfl

set_option maxHeartbeats 1000000 in
theorem sameTextsB_yes (N : List ByteArray) (v u : Value) (w : World) (hv : LiesB w v N) (hu : LiesB w u N) :
    Calls Try.prog 19 #[v, u] w fun e w' => e = .returned (.bool true) ∧ Below w.heap.size w w' := by
  obtain ⟨a, cap, rfl, h1, h2, h5⟩ := hv
  have HL : Hid (∀ i (h : i < N.length), ∃ b o, a = some ⟨b, o, none⟩ ∧ b < w.heap.size ∧ w.cell? ⟨b, o + i, none⟩ = some (.string N[i])) := h5
  obtain ⟨a', cap', rfl, g1, g2, g5⟩ := hu
  have HL' : Hid (∀ i (h : i < N.length), ∃ b o, a' = some ⟨b, o, none⟩ ∧ b < w.heap.size ∧ w.cell? ⟨b, o + i, none⟩ = some (.string N[i])) := g5
  clear h5 g5
  go_enter Try.func19, Try.ntmps19
  go_wp2_with fail
  go_loopw [5] (fun i wr => ∃ k : Nat, k ≤ N.length ∧ i = .int .i64 k ∧ Below w.heap.size w wr) (fun i _ => N.length - (intOf i).toNat)
  case atStart => exact ⟨0, Nat.zero_le _, rfl, Below.refl _ _⟩
  case round =>
    obtain ⟨k, hk, rfl, hbel⟩ := hrel
    by_cases hlt : k < N.length
    · obtain ⟨b, o, rfl, hb, he⟩ := HL.out k hlt
      obtain ⟨b', o', rfl, hb', he'⟩ := HL'.out k hlt
      have c0 := (hbel.cell (p := ⟨b, o + k, none⟩) hb).trans he
      have c1 := (hbel.cell (p := ⟨b', o' + k, none⟩) hb').trans he'
      clear he he'
      generalize N[k] = x at *
      go_wp2_with fail
      go_region
      go_wp2_with fail
      go_roundw
      case rel => exact ⟨k + 1, by omega, by simp, hbel.drew⟩
      case measure => simp [intOf]; omega
    · go_wp2_with fail
      go_ret
      exact ⟨rfl, hbel⟩

namespace Pp
def whoR (G : List Gr) (f : ByteArray) : List ByteArray := (G.filter (inF f)).map Gr.wh
end Pp

set_option maxRecDepth 100000 in
set_option maxHeartbeats 1000000 in
theorem whoOf_any (G : List Gr) (v : Value) (f : ByteArray) (w : World) (hv : LiesG w v G) (hn : G.length ≤ 1000) :
    Calls Try.prog 18 #[v, .string f] w fun e w' => ∃ u, e = .returned u ∧ LiesB w' u (Pp.whoR G f) ∧ Below w.heap.size w w' := by
  obtain ⟨i0, hi0, hz0, hz1, hz2⟩ := info_parts Try.infoS9
  obtain ⟨a, cap, rfl, hcap, hcap2, hLL⟩ := hv
  have HL : Hid (∀ i (h : i < G.length), ∃ b o, a = some ⟨b, o, none⟩ ∧ b < w.heap.size ∧ GrAt w b (o + i * 3) G[i]) := hLL
  clear hLL
  go_enter Try.func18, Try.ntmps18
  go_wp2_with fail
  go_loopw [5, 6] (fun u i wr => ∃ k : Nat, k ≤ G.length ∧ i = .int .i64 k ∧ wr.ownsRow w.heap.size 9 1 u (Pp.whoR (G.take k) f).length (Pp.bs (Pp.whoR (G.take k) f)) ∧ Below w.heap.size w wr) (fun _ i _ => G.length - (intOf i).toNat)
  case atStart => exact ⟨0, Nat.zero_le _, rfl, World.ownsRow_nil _ _ _ _, Below.refl _ _⟩
  case round =>
    obtain ⟨k, hk, rfl, hown, hbel⟩ := hrel
    by_cases hlt : k < G.length
    · obtain ⟨b, o, rfl, hb, he⟩ := HL.out k hlt
      obtain ⟨c0, c1, c2⟩ := he.below hb hbel
      have hXl : (Pp.whoR (G.take k) f).length ≤ 1000 := by
        rw [Pp.whoR, List.length_map]
        exact Nat.le_trans (List.length_filter_le _ _) (by rw [List.length_take]; omega)
      cases hp : Pp.inF f G[k] with
      | true =>
        have h1 : ((G[k]).fo.toList == f.toList) = true := hp
        have HF : Hid (Pp.whoR (G.take (k + 1)) f = Pp.whoR (G.take k) f ++ [(G[k]).wh]) := (by rw [Pp.whoR, Pp.gfilter_hit hlt hp, List.map_append]; rfl : Pp.whoR (G.take (k + 1)) f = Pp.whoR (G.take k) f ++ [(G[k]).wh])
        clear hp
        generalize Pp.whoR (G.take k) f = X at *
        go_wp2_with (at_builtin; refine wpList_append_own _ rfl _ _ 39 rfl w.heap.size 9 i0 (.string ⟨#[]⟩) 1 16 Try.underlying39 hi0 hz0 hz1 hz2 rfl (by decide) _ _ _ rfl (hown.alloc _) ⟨wr.heap.size, 0, none⟩ 1 1 [.string (G[k]).wh] rfl rfl (by intro j u hj; match j, hj with | 0, hj => simp at hj; subst hj; simp [Addr.add] | j + 1, hj => simp at hj) (by intro u hu; simp at hu; subst hu; rfl) (by unfold maxLen; omega) (by omega) (by have := hbel.size; simp at this ⊢; omega) ?_)
        intro v2 w2 ho2 hgr2 hnn2
        have hbel2 : Below w.heap.size w w2 := (hbel.alloc hbel.size _).grown hgr2 (by have := hbel.size; simp at this ⊢; omega) (fun g hg => (hown.lt g hg).1)
        rw [Pp.bs_snoc] at ho2
        have hown2 : w2.ownsRow w.heap.size 9 1 v2 (X ++ [(G[k]).wh]).length (Pp.bs (X ++ [(G[k]).wh])) := by rw [List.length_append]; exact ho2
        have HO := ghid hown2
        clear ho2 hgr2 hnn2 hown2 hown hbel c0 c1 c2
        go_wp2_with fail
        go_roundw
        case rel => exact ⟨k + 1, by omega, by simp, by rw [HF.out]; exact HO.out, hbel2⟩
        case measure => simp [intOf]; omega
      | false =>
        have h1 : ((G[k]).fo.toList == f.toList) = false := hp
        have HF : Hid (Pp.whoR (G.take (k + 1)) f = Pp.whoR (G.take k) f) := (by rw [Pp.whoR, Pp.gfilter_miss hlt hp]; rfl : Pp.whoR (G.take (k + 1)) f = Pp.whoR (G.take k) f)
        clear hp
        go_wp2_with fail
        go_roundw
        case rel => exact ⟨k + 1, by omega, by simp, by rw [HF.out]; exact hown, hbel⟩
        case measure => simp [intOf]; omega
    · have e : G.take k = G := List.take_of_length_le (by omega)
      rw [e] at hown
      have HLI := ghid (liesB_own hown (by
        rw [Pp.whoR, List.length_map]
        exact Nat.le_trans (List.length_filter_le _ _) (by omega)))
      go_wp2_with fail
      go_ret
      exact ⟨_, rfl, HLI.out, hbel⟩

namespace Pp
def whoN (G : List Gr) (f : ByteArray) : List ByteArray := if calE G [f] = 0 then whoR G f else []
theorem cal_len {G : List Gr} {ns : List ByteArray} (h : calE G ns = 0) : G.length ≤ 60 := by
  by_cases h60 : 60 < G.length
  · rw [calE, gch_many h60, if_neg (by decide)] at h; cases h
  · omega
end Pp

set_option maxRecDepth 100000 in
set_option maxHeartbeats 1000000 in
theorem who_any (G : List Gr) (v : Value) (f : ByteArray) (w : World) (hv : LiesG w v G) (hs : SizedG G) (hf : f.size ≤ 150000000000000) :
    Calls Try.prog 15 #[v, .string f] w fun e w' => ∃ u, e = .returned (.tuple #[u, .int .i64 (Pp.calE G [f])]) ∧ LiesB w' u (Pp.whoN G f) ∧ Below w.heap.size w w' := by
  obtain ⟨i0, hi0, hz0, hz1, hz2⟩ := info_parts Try.infoS9
  have HV := ghid hv
  have HS := ghid hs
  clear hv hs
  have hsz : ∀ i (hi : i < [f].length), ([f][i]).size ≤ 1000000000000000 := fun i hi => by match i, hi with | 0, _ => exact Nat.le_trans hf (by decide)
  by_cases h0 : Pp.calE G [f] = 0
  · have HW : Hid (Pp.whoN G f = Pp.whoR G f) := (if_pos h0 : Pp.whoN G f = Pp.whoR G f)
    have hlen := Pp.cal_len h0
    have H0 := ghid h0
    rw [h0]
    clear h0
    go_enter Try.func15, Try.ntmps15
    go_wp2_with fail
    refine (gcheckAll_any G _ [f] w.heap.size 1 _ (HV.out.below ((Below.refl _ _).alloc (Nat.le_refl _) _)) HS.out (by simp) hsz (by simp) (fun i hi => by match i, hi with | 0, _ => simp)).mono ?_
    rintro e w1 ⟨rfl, hb1⟩
    rw [H0.out]
    have hb01 : Below w.heap.size w w1 := ((Below.refl _ _).alloc (Nat.le_refl _) _).trans (hb1.mono (by simp))
    clear hb1
    go_wp2_with fail
    refine (in_any f _).mono ?_
    rintro e w2 ⟨rfl, ht2, hb2⟩
    have HT := ghid ht2
    have hb02 := below_trans hb01 hb2
    clear ht2 hb2 hb01
    go_wp2_with fail
    refine (gevery_any G _ _ _ (Pp.inF f) _ (HV.out.below hb02) HT.out (by omega)).mono ?_
    rintro e w3 ⟨u3, rfl, ho3, hn3, hb3⟩
    have hb03 := below_trans hb02 hb3
    have hFl : (G.filter (Pp.inF f)).length ≤ 60 := Nat.le_trans (List.length_filter_le _ _) hlen
    have HWR : Hid (Pp.whoN G f = (G.filter (Pp.inF f)).map Gr.wh) := HW.out
    generalize G.filter (Pp.inF f) = F at *
    have hli := liesG_own ho3 (by omega)
    obtain ⟨a3, cap3, rfl, hc3, hc3', hL3⟩ := hli
    have HL3 : Hid (∀ i (h : i < F.length), ∃ b o, a3 = some ⟨b, o, none⟩ ∧ b < w3.heap.size ∧ GrAt w3 b (o + i * 3) F[i]) := hL3
    clear hL3 ho3 hn3 hb3 hb02 HW
    go_wp2_with fail
    go_loopw [7, 22] (fun u i wr => ∃ k : Nat, k ≤ F.length ∧ i = .int .i64 k ∧ wr.ownsRow w3.heap.size 9 1 u ((F.take k).map Gr.wh).length (Pp.bs ((F.take k).map Gr.wh)) ∧ Below w3.heap.size w3 wr) (fun _ i _ => F.length - (intOf i).toNat)
    case atStart => exact ⟨0, Nat.zero_le _, rfl, World.ownsRow_nil _ _ _ _, Below.refl _ _⟩
    case round =>
      obtain ⟨k, hk, rfl, hown, hbel⟩ := hrel
      by_cases hlt : k < F.length
      · obtain ⟨b, o, rfl, hb, he⟩ := HL3.out k hlt
        obtain ⟨c0, c1, c2⟩ := he.below hb hbel
        have hXl : ((F.take k).map Gr.wh).length ≤ 60 := by rw [List.length_map, List.length_take]; omega
        have HF : Hid ((F.take (k + 1)).map Gr.wh = (F.take k).map Gr.wh ++ [(F[k]).wh]) := (by rw [List.take_succ_eq_append_getElem hlt, List.map_append]; rfl : (F.take (k + 1)).map Gr.wh = (F.take k).map Gr.wh ++ [(F[k]).wh])
        generalize (F.take k).map Gr.wh = X at *
        clear he
        obtain ⟨wz, hwz⟩ : ∃ wz, wz = wr.alloc (.cells #[.string (F[k]).fo, .string (F[k]).wh, .int .i64 (F[k]).ri] 72) := ⟨_, rfl⟩
        have hownz : wz.ownsRow w3.heap.size 9 1 _ X.length (Pp.bs X) := hwz ▸ hown.alloc _
        have hbelz : Below w3.heap.size w3 wz := hwz ▸ hbel.alloc hbel.size _
        have hq1 : wz.cell? ⟨wr.heap.size, 1, none⟩ = some (.string (F[k]).wh) := by rw [hwz]; simp
        have hszz : wz.heap.size = wr.heap.size + 1 := by rw [hwz]; simp
        go_wp2_with (at_builtin; rw [← hwz]; refine wpList_append_own _ rfl _ _ 39 rfl w3.heap.size 9 i0 (.string ⟨#[]⟩) 1 16 Try.underlying39 hi0 hz0 hz1 hz2 rfl (by decide) _ _ _ rfl (hownz.alloc _) ⟨wr.heap.size + 1, 0, none⟩ 1 1 [.string (F[k]).wh] rfl rfl (by intro j u hj; match j, hj with | 0, hj => simp at hj; subst hj; simp [Addr.add, ← hszz] | j + 1, hj => simp at hj) (by intro u hu; simp at hu; subst hu; rfl) (by unfold maxLen; omega) (by omega) (by have := hbelz.size; simp at this ⊢; omega) ?_)
        intro v2 w2 ho2 hgr2 hnn2
        rw [← hwz] at hgr2
        have hbel2 : Below w3.heap.size w3 w2 := (hbelz.alloc hbelz.size _).grown hgr2 (by have := hbelz.size; simp at this ⊢; omega) (fun g hg => (hownz.lt g hg).1)
        rw [Pp.bs_snoc] at ho2
        have hown2 : w2.ownsRow w3.heap.size 9 1 v2 (X ++ [(F[k]).wh]).length (Pp.bs (X ++ [(F[k]).wh])) := by rw [List.length_append]; exact ho2
        have HO := ghid hown2
        clear ho2 hgr2 hnn2 hown2 hown hbel c0 c1 c2 hownz hbelz hq1 hszz hwz
        go_wp2_with fail
        go_roundw
        case rel => exact ⟨k + 1, by omega, by simp, by rw [HF.out]; exact HO.out, hbel2⟩
        case measure => simp [intOf]; omega
      · have e : F.take k = F := List.take_of_length_le (by omega)
        rw [e] at hown
        have HLI := ghid (liesB_own hown (by rw [List.length_map]; omega))
        have hb04 := hb03.trans (hbel.mono hb03.size)
        go_wp2_with fail
        go_ret2
        exact ⟨_, rfl, by rw [HWR.out]; exact HLI.out, hb04⟩
  · have HW : Hid (Pp.whoN G f = []) := (if_neg h0 : Pp.whoN G f = [])
    have hz : (Pp.calE G [f] == 0) = false := by simpa using h0
    go_enter Try.func15, Try.ntmps15
    go_wp2_with fail
    refine (gcheckAll_any G _ [f] w.heap.size 1 _ (HV.out.below ((Below.refl _ _).alloc (Nat.le_refl _) _)) HS.out (by simp) hsz (by simp) (fun i hi => by match i, hi with | 0, _ => simp)).mono ?_
    rintro e w1 ⟨rfl, hb1⟩
    have hb01 : Below w.heap.size w w1 := ((Below.refl _ _).alloc (Nat.le_refl _) _).trans (hb1.mono (by simp))
    go_wp2
    go_ret2
    exact ⟨_, rfl, by rw [HW.out]; exact liesB_nil _, hb01⟩
end Go.Proofs.Ytgbokcmmknabcaf
