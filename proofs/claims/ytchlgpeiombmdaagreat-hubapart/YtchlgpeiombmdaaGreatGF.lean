/- What the reference's WhoOf answers. What grant.Make and the reference's MakeOf answer, errors too, for every list of grants. -/
import Derived.Test.YtchlgpeiombmdaaGreatGD
import Derived.Test.YtchlgpeiombmdaaGreatGE
set_option linter.unusedSimpArgs false
set_option linter.unusedVariables false
namespace Go.Proofs.YtchlgpeiombmdaaGreat
open Go.RowKit

/-- A row of texts. -/
def LiesB (w : World) (v : Value) (N : List ByteArray) : Prop := ∃ a cap, v = .slice a N.length cap ∧ N.length ≤ cap ∧ N.length ≤ 1000000 ∧ ∀ i (h : i < N.length), ∃ b o, a = some ⟨b, o, none⟩ ∧ b < w.heap.size ∧ w.cell? ⟨b, o + i, none⟩ = some (.string N[i])
theorem LiesB.below {w w' : World} {v : Value} {N : List ByteArray} (h : LiesB w v N) (hw : Below w.heap.size w w') : LiesB w' v N := by
 obtain ⟨a, cap, hv, h1, h2, h5⟩ := h
 refine ⟨a, cap, hv, h1, h2, fun i hi => ?_⟩
 obtain ⟨b, o, ha, hb, he⟩ := h5 i hi
 exact ⟨b, o, ha, Nat.lt_of_lt_of_le hb hw.size, (hw.cell (p := ⟨b, o + i, none⟩) hb).trans he⟩
theorem liesB_nil (w : World) : LiesB w (.slice none 0 0) [] := ⟨none, 0, rfl, Nat.le_refl _, by decide, fun i h => absurd h (by simp)⟩
namespace Pp
def bs (N : List ByteArray) : List Value := N.map Value.string
theorem bs_snoc (N : List ByteArray) (x : ByteArray) : bs N ++ [.string x] = bs (N ++ [x]) := by simp [bs]
end Pp
theorem liesB_own {w : World} {base : Nat} {v : Value} {N : List ByteArray} (h : w.ownsRow base 9 1 v N.length (Pp.bs N)) (hN : N.length ≤ 1000000) : LiesB w v N := by
 have h' := h
 obtain ⟨hl, h2⟩ := h
 rcases h2 with ⟨rfl, hz⟩ | ⟨g, cap, cur, rfl, hg, hh, hn2, hm, hz, htake⟩
 · exact ⟨none, 0, by rw [hz], by omega, hN, fun i h => absurd h (by omega)⟩
 · have hlt : g < w.heap.size := by
    rcases Nat.lt_or_ge g w.heap.size with h | h
    · exact h
    · rw [Array.getElem?_eq_none h] at hh; cases hh
   refine ⟨some ⟨g, 0, none⟩, cap, rfl, hn2, hN, fun i h => ⟨g, 0, rfl, hlt, ?_⟩⟩
   rw [Nat.zero_add, h'.cellAt i (by omega)]
   simp [Pp.bs, h]
theorem Tryz.infoS9 : (Tryz.prog.info? 9).map (fun i => (i.zero, i.size, i.bytes)) = some (some (.string ⟨#[]⟩), 1, 16) := by kernel_rfl
namespace Pp
def whoR (G : List Gr) (f : ByteArray) : List ByteArray := (G.filter (inF f)).map Gr.wh
end Pp

namespace Pp
theorem cal_len {G : List Gr} {ns : List ByteArray} (h : calE G ns = 0) : G.length ≤ 60 := by
 by_cases h60 : 60 < G.length
 · rw [calE, gch_many h60, if_neg (by decide)] at h; cases h
 · omega
end Pp
end Go.Proofs.YtchlgpeiombmdaaGreat
set_option linter.unusedSimpArgs false
set_option linter.unusedVariables false
namespace Go.Proofs.YtchlgpeiombmdaaGreat
open Go.RowKit

namespace Pp
/-- Make, of grants that pass Check. -/
def mkE (G : List Gr) (f m : ByteArray) : Int := if nmsE [f, m] = 0 then (if G.any (inF f) = true then 6 else if 60 ≤ G.length then 2 else 0) else 1
theorem mk_cases (G : List Gr) (f m : ByteArray) : (nmsE [f, m] = 1 ∧ mkE G f m = 1) ∨ (nmsE [f, m] = 0 ∧ G.any (inF f) = true ∧ mkE G f m = 6) ∨ (nmsE [f, m] = 0 ∧ G.any (inF f) = false ∧ 60 ≤ G.length ∧ mkE G f m = 2) ∨ (nmsE [f, m] = 0 ∧ G.any (inF f) = false ∧ G.length < 60 ∧ mkE G f m = 0) := by
 rcases nms_cases [f, m] with h | h
 · right
   cases ha : G.any (inF f) with
   | true => left; exact ⟨h, rfl, by rw [mkE, if_pos h, ha]; rfl⟩
   | false =>
    right
    by_cases h6 : 60 ≤ G.length
    · left; exact ⟨h, rfl, h6, by rw [mkE, if_pos h, ha, if_neg (by decide), if_pos h6]⟩
    · right; exact ⟨h, rfl, by omega, by rw [mkE, if_pos h, ha, if_neg (by decide), if_neg h6]⟩
 · left; exact ⟨h, by rw [mkE, if_neg (by rw [h]; decide)]⟩
def maE (G : List Gr) (f m : ByteArray) : Int := if gchE G = 0 then mkE G f m else gchE G
def maL (G : List Gr) (f m : ByteArray) : List Gr := if maE G f m = 0 then pgN ⟨f, m, 3⟩ G else []
theorem maL_no {G : List Gr} {f m : ByteArray} (h : ¬ maE G f m = 0) : maL G f m = [] := if_neg h
theorem maL_yes {G : List Gr} {f m : ByteArray} (h : maE G f m = 0) : maL G f m = pgN ⟨f, m, 3⟩ G := if_pos h
theorem pg_new {G : List Gr} {f m : ByteArray} (h : G.any (inF f) = false) : (pgN ⟨f, m, 3⟩ G).length = G.length + 1 := by
 have ho : outG ⟨f, m, 3⟩ G = G := by
  rw [outG, List.filter_eq_self]
  intro y hy
  refine oth_fo ?_
  have := List.any_eq_false.1 h y hy
  simpa [inF] using this
 rw [pgN_yes (by show ¬ (3 : Int) = 0; decide), (insG_perm _ _).length_eq, ho]; rfl
theorem who_some {G : List Gr} {f : ByteArray} (h : G.any (inF f) = true) : 0 < (whoR G f).length := by
 rw [whoR, List.length_map, List.length_filter_pos_iff]
 simpa using h
theorem who_none {G : List Gr} {f : ByteArray} (h : G.any (inF f) = false) : (whoR G f).length = 0 := by
 rw [whoR, List.length_map]
 have : G.filter (inF f) = [] := by
  rw [List.filter_eq_nil_iff]
  intro y hy
  exact List.any_eq_false.1 h y hy
 rw [this]; rfl
theorem nms2c (f m : ByteArray) : (nmsE [f, m] = 1 ∧ (nameB f.data.toList = false ∨ (nameB f.data.toList = true ∧ nameB m.data.toList = false))) ∨ (nmsE [f, m] = 0 ∧ nameB f.data.toList = true ∧ nameB m.data.toList = true) := by
 cases h1 : nameB f.data.toList <;> cases h3 : nameB m.data.toList <;> simp [nmsE, h1, h3]
end Pp

set_option maxRecDepth 100000 in
set_option maxHeartbeats 4000000 in
theorem make_any (G : List Gr) (v : Value) (f m : ByteArray) (w : World) (hv : LiesG w v G) (hs : SizedG G) (hf : f.size ≤ 150000000000000) (hm : m.size ≤ 150000000000000) :
    Calls Tryz.prog 26 #[v, .string f, .string m] w fun e w' => ∃ u, e = .returned (.tuple #[u, .int .i64 (Pp.maE G f m)]) ∧ (LiesG w' u (Pp.maL G f m) ∧ Fr w.heap.size u) ∧ Below w.heap.size w w' := by
 have HV := ghid hv
 have HS := ghid hs
 clear hv hs
 have hsz : ∀ i (hi : i < [f, m].length), ([f, m][i]).size ≤ 1000000000000000 := fun i hi => by match i, hi with | 0, _ => exact Nat.le_trans hf (by decide) | 1, _ => exact Nat.le_trans hm (by decide)
 have HSZ := ghid hsz
 clear hsz hf hm
 by_cases hg0 : Pp.gchE G = 0
 case neg =>
  have eE : Pp.maE G f m = Pp.gchE G := if_neg hg0
  have eC : Pp.calE G [f, m] = Pp.gchE G := if_neg hg0
  have HL : Hid (Pp.maL G f m = []) := Pp.maL_no (by rw [eE]; exact hg0)
  have HE := ghid eE
  have HC := ghid eC
  have hz : (Pp.gchE G == 0) = false := by simpa using hg0
  clear eE eC hg0
  go_enter Tryz.func26, Tryz.ntmps26
  go_wp2_with fail
  refine (gcheckAll_any G _ [f, m] w.heap.size 2 _ (HV.out.below ((Below.refl _ _).alloc (Nat.le_refl _) _)) HS.out (by simp) HSZ.out (by simp) (fun i hi => by match i, hi with | 0, _ => simp | 1, _ => simp)).mono ?_
  rintro e w1 ⟨rfl, hb1⟩
  rw [HC.out]
  have hb01 : Below w.heap.size w w1 := ((Below.refl _ _).alloc (Nat.le_refl _) _).trans (hb1.mono (by simp))
  clear hb1
  generalize hy : Pp.gchE G = y at *
  go_wp2
  go_ret2
  exact ⟨_, by rw [HE.out]; rfl, by rw [HL.out]; exact ⟨liesG_nil _, fr_nil _⟩, hb01⟩
 case pos =>
 have eE : Pp.maE G f m = Pp.mkE G f m := if_pos hg0
 have eC : Pp.calE G [f, m] = Pp.nmsE [f, m] := if_pos hg0
 obtain ⟨hl60, _, hris, _⟩ := Pp.gch0 hg0
 have HPW := ghid ((Pp.risG_pair G).1 hris)
 clear hris
 rcases Pp.mk_cases G f m with ⟨hn, hE⟩ | ⟨hn, ha, hE⟩ | ⟨hn, ha, h6, hE⟩ | ⟨hn, ha, h6, hE⟩
 · have HL : Hid (Pp.maL G f m = []) := Pp.maL_no (by rw [eE, hE]; decide)
   have HE := ghid (eE.trans hE)
   have HC := ghid (eC.trans hn)
   clear eE eC hE hn hg0
   go_enter Tryz.func26, Tryz.ntmps26
   go_wp2_with fail
   refine (gcheckAll_any G _ [f, m] w.heap.size 2 _ (HV.out.below ((Below.refl _ _).alloc (Nat.le_refl _) _)) HS.out (by simp) HSZ.out (by simp) (fun i hi => by match i, hi with | 0, _ => simp | 1, _ => simp)).mono ?_
   rintro e w1 ⟨rfl, hb1⟩
   rw [HC.out]
   have hb01 : Below w.heap.size w w1 := ((Below.refl _ _).alloc (Nat.le_refl _) _).trans (hb1.mono (by simp))
   clear hb1
   go_wp2
   go_ret2
   exact ⟨_, by rw [HE.out]; rfl, by rw [HL.out]; exact ⟨liesG_nil _, fr_nil _⟩, hb01⟩
 · have HL : Hid (Pp.maL G f m = []) := Pp.maL_no (by rw [eE, hE]; decide)
   have HE := ghid (eE.trans hE)
   have HC := ghid (eC.trans hn)
   have HA := ghid ha
   clear eE eC hE hn hg0 ha
   go_enter Tryz.func26, Tryz.ntmps26
   go_wp2_with fail
   refine (gcheckAll_any G _ [f, m] w.heap.size 2 _ (HV.out.below ((Below.refl _ _).alloc (Nat.le_refl _) _)) HS.out (by simp) HSZ.out (by simp) (fun i hi => by match i, hi with | 0, _ => simp | 1, _ => simp)).mono ?_
   rintro e w1 ⟨rfl, hb1⟩
   rw [HC.out]
   have hb01 : Below w.heap.size w w1 := ((Below.refl _ _).alloc (Nat.le_refl _) _).trans (hb1.mono (by simp))
   clear hb1
   go_wp2_with fail
   refine (in_any f _).mono ?_
   rintro e w2 ⟨rfl, ht2, hb2⟩
   have HT := ghid ht2
   have hb02 := below_trans hb01 hb2
   clear ht2 hb2 hb01
   go_wp2_with fail
   refine (isAny_any G _ _ _ (Pp.inF f) _ (HV.out.below hb02) HT.out).mono ?_
   rintro e w3 ⟨rfl, hb3⟩
   rw [HA.out]
   have hb03 := below_trans hb02 hb3
   clear hb3 hb02
   go_wp2
   go_ret2
   exact ⟨_, by rw [HE.out]; rfl, by rw [HL.out]; exact ⟨liesG_nil _, fr_nil _⟩, hb03⟩
 all_goals
  have hpl := Pp.pg_new (m := m) ha
  have HE := ghid (eE.trans hE)
  have HC := ghid (eC.trans hn)
  have HA := ghid ha
  first
   | (have HLN : Hid (Pp.maL G f m = []) := Pp.maL_no (by rw [eE, hE]; decide))
   | (have HLY : Hid (Pp.maL G f m = Pp.pgN ⟨f, m, 3⟩ G) := Pp.maL_yes (eE.trans hE))
  clear eE eC hE hn hg0 ha
  go_enter Tryz.func26, Tryz.ntmps26
  go_wp2_with fail
  refine (gcheckAll_any G _ [f, m] w.heap.size 2 _ (HV.out.below ((Below.refl _ _).alloc (Nat.le_refl _) _)) HS.out (by simp) HSZ.out (by simp) (fun i hi => by match i, hi with | 0, _ => simp | 1, _ => simp)).mono ?_
  rintro e w1 ⟨rfl, hb1⟩
  rw [HC.out]
  have hb01 : Below w.heap.size w w1 := ((Below.refl _ _).alloc (Nat.le_refl _) _).trans (hb1.mono (by simp))
  clear hb1
  go_wp2_with fail
  refine (in_any f _).mono ?_
  rintro e w2 ⟨rfl, ht2, hb2⟩
  have HT := ghid ht2
  have hb02 := below_trans hb01 hb2
  clear ht2 hb2 hb01
  go_wp2_with fail
  refine (isAny_any G _ _ _ (Pp.inF f) _ (HV.out.below hb02) HT.out).mono ?_
  rintro e w3 ⟨rfl, hb3⟩
  rw [HA.out]
  have hb03 := below_trans hb02 hb3
  clear hb3 hb02
  go_wp2_with fail
  refine (gput_any G _ ⟨f, m, 3⟩ _ (HV.out.below hb03) (by omega) HPW.out).mono ?_
  rintro e w4 ⟨u, rfl, ⟨hli, hfr⟩, hb4⟩
  have HFR := ghid (hfr.mono hb03.size)
  clear hfr
  have HLI := ghid hli
  have hb04 := below_trans hb03 hb4
  clear hli hb4 hb03
  go_wp2_with fail
  first
   | refine (bounded_no _ _ _ HLI.out (by omega)).mono ?_
   | refine (bounded_ok _ _ _ HLI.out (by omega)).mono ?_
  rintro e w5 ⟨rfl, hw⟩
  rw [hw]
  clear hw w5
  go_wp2
  go_ret2
  first
   | exact ⟨_, by rw [HE.out]; rfl, by rw [HLN.out]; exact ⟨liesG_nil _, fr_nil _⟩, hb04⟩
   | exact ⟨_, by rw [HE.out]; rfl, by rw [HLY.out]; exact ⟨HLI.out, HFR.out⟩, hb04⟩
end Go.Proofs.YtchlgpeiombmdaaGreat
