/- What grant.put and checkGive answer, for every list of grants that rises. What grant.Give answers, errors too, for every list of grants. -/
import Derived.Test.YtmdkecdhgjjceaaGreatGD
set_option linter.unusedSimpArgs false
set_option linter.unusedVariables false
namespace Go.Proofs.YtmdkecdhgjjceaaGreat
open Go.RowKit

namespace Pp
/-- What put makes of grants: the grant in its place; of right 0 there is none then. -/
def pgN (x : Gr) (G : List Gr) : List Gr := if x.ri = 0 then outG x G else insG x (outG x G)
theorem pgN_no {x : Gr} {G : List Gr} (h : x.ri = 0) : pgN x G = outG x G := if_pos h
theorem pgN_yes {x : Gr} {G : List Gr} (h : ¬ x.ri = 0) : pgN x G = insG x (outG x G) := if_neg h
theorem pgN_len (x : Gr) (G : List Gr) : (pgN x G).length ≤ G.length + 1 := by
  have h1 : (outG x G).length ≤ G.length := List.length_filter_le _ _
  rw [pgN]; split
  · omega
  · rw [(insG_perm x _).length_eq]; simp; omega
theorem gch0 {G : List Gr} (h : gchE G = 0) : G.length ≤ 60 ∧ grsE G = 0 ∧ risG G = true ∧ ownsE G = 0 := by
  by_cases h60 : 60 < G.length
  · rw [gch_many h60] at h; cases h
  · by_cases h1 : grsE G = 0
    · cases h2 : risG G with
      | false => rw [gch_ris h60 h1 h2] at h; cases h
      | true => rw [gch_own h60 h1 h2] at h; exact ⟨by omega, h1, rfl, h⟩
    · rw [gch_grs h60 h1] at h; exact absurd h h1
theorem gputR_pg {f h : ByteArray} {r : Int} {G : List Gr} (hG : G.Pairwise (fun x y => ltG x y = true)) : gputR ⟨f, h, r⟩ (r == 0) G = pgN ⟨f, h, r⟩ G := by
  by_cases hr : r = 0
  · rw [pgN_no hr, show (r == 0) = true by simpa using hr]; exact gputR_none _ _
  · rw [pgN_yes hr, show (r == 0) = false by simpa using hr]; exact gputR_eq hG
/-- 9: who gives is no owner; 5: who is taken from has none. -/
def gvgE (G : List Gr) (b : ByteArray) (x : Gr) : Int := if (x.ri = 0 ∧ (b.toList == x.wh.toList) = true) ∨ rgt G x.fo b = 3 then (if x.ri = 0 ∧ rgt G x.fo x.wh = 0 then 5 else 0) else 9
theorem chg_cases (G : List Gr) (b : ByteArray) (x : Gr) :
    (¬ x.ri = 0 ∧ ¬ rgt G x.fo b = 3 ∧ gvgE G b x = 9) ∨ (¬ x.ri = 0 ∧ rgt G x.fo b = 3 ∧ gvgE G b x = 0) ∨
    (x.ri = 0 ∧ (b.toList == x.wh.toList) = true ∧ rgt G x.fo x.wh = 0 ∧ gvgE G b x = 5) ∨ (x.ri = 0 ∧ (b.toList == x.wh.toList) = true ∧ ¬ rgt G x.fo x.wh = 0 ∧ gvgE G b x = 0) ∨
    (x.ri = 0 ∧ (b.toList == x.wh.toList) = false ∧ ¬ rgt G x.fo b = 3 ∧ gvgE G b x = 9) ∨
    (x.ri = 0 ∧ (b.toList == x.wh.toList) = false ∧ rgt G x.fo b = 3 ∧ rgt G x.fo x.wh = 0 ∧ gvgE G b x = 5) ∨ (x.ri = 0 ∧ (b.toList == x.wh.toList) = false ∧ rgt G x.fo b = 3 ∧ ¬ rgt G x.fo x.wh = 0 ∧ gvgE G b x = 0) := by
  by_cases h0 : x.ri = 0 <;> cases hS : (b.toList == x.wh.toList) <;> by_cases h3 : rgt G x.fo b = 3 <;> by_cases hz : rgt G x.fo x.wh = 0 <;> simp [gvgE, h0, hS, h3, hz]
end Pp

set_option maxRecDepth 100000 in
set_option maxHeartbeats 2000000 in
theorem put_none (G : List Gr) (v : Value) (x : Gr) (w : World) (hv : LiesG w v G) (hn : G.length ≤ 1000) (hx : x.ri = 0) :
    Calls Tryz.prog 82 #[v, .agg #[.string x.fo, .string x.wh, .int .i64 x.ri]] w fun e w' => ∃ u, e = .returned u ∧ (LiesG w' u (Pp.outG x G) ∧ Fr w.heap.size u) ∧ Below w.heap.size w w' := by
  have HV := ghid hv
  have hT : TellsG (w.alloc (.cells #[.string x.fo, .string x.wh, .int .i64 x.ri] 83)) 121 #[.pointer (some ⟨w.heap.size, 0, none⟩)] (Pp.othG x) := by
    refine ⟨enters_of Tryz.func121 (by kernel_rfl) rfl, fun W hW e => ?_⟩
    exact put1_any e x w.heap.size W (Nat.lt_of_lt_of_le (by simp) hW.size) ((hW.cell (p := ⟨w.heap.size, 0, none⟩) (by simp)).trans (by simp)) ((hW.cell (p := ⟨w.heap.size, 1, none⟩) (by simp)).trans (by simp)) ((hW.cell (p := ⟨w.heap.size, 2, none⟩) (by simp)).trans (by simp))
  have HT := ghid hT
  have hFl : (Pp.outG x G).length ≤ G.length := List.length_filter_le _ _
  have hz : (x.ri == 0) = true := by simpa using hx
  have HF : Hid (G.filter (Pp.othG x) = Pp.outG x G) := rfl
  clear hT hv hx
  generalize Pp.outG x G = F at *
  go_enter Tryz.func82, Tryz.ntmps82
  go_wp2_with fail
  refine (gevery_any G _ _ _ (Pp.othG x) _ (HV.out.below ((Below.refl _ _).alloc (Nat.le_refl _) _)) HT.out (by omega)).mono ?_
  rintro e w1 ⟨u1, rfl, ho1, hn1, hb1⟩
  rw [HF.out] at ho1
  obtain ⟨c0, c1, c2, hbw, hlt⟩ := bxG3 hb1
  have HLI := ghid (liesG_own ho1 (by omega))
  have HFR : Hid (Fr w.heap.size u1) := (fun q hq => by have := (ho1.lt q hq).1; simp at this; omega : Fr w.heap.size u1)
  clear ho1 hb1 hn1
  go_wp2
  go_ret
  exact ⟨_, rfl, ⟨HLI.out, HFR.out⟩, hbw⟩

theorem gput_any (G : List Gr) (v : Value) (x : Gr) (w : World) (hv : LiesG w v G) (hn : G.length ≤ 1000) (hG : G.Pairwise (fun x y => Pp.ltG x y = true)) :
    Calls Tryz.prog 82 #[v, .agg #[.string x.fo, .string x.wh, .int .i64 x.ri]] w fun e w' => ∃ u, e = .returned u ∧ (LiesG w' u (Pp.pgN x G) ∧ Fr w.heap.size u) ∧ Below w.heap.size w w' := by
  by_cases hx : x.ri = 0
  · rw [Pp.pgN_no hx]
    exact put_none G v x w hv hn hx
  · rw [Pp.pgN_yes hx]
    refine (put_yes G v x w hv hn hx).mono ?_
    rintro e w1 ⟨u, M, rfl, hp, hs, ⟨hli, hfr⟩, hb⟩
    rw [Pp.put_ins hG hp hs] at hli
    exact ⟨u, rfl, ⟨hli, hfr⟩, hb⟩

set_option maxRecDepth 100000 in
set_option maxHeartbeats 2000000 in
theorem checkGive_any (G : List Gr) (v : Value) (b : ByteArray) (x : Gr) (w : World) (hv : LiesG w v G) :
    Calls Tryz.prog 83 #[v, .string b, .agg #[.string x.fo, .string x.wh, .int .i64 x.ri]] w fun e w' => e = .returned (.int .i64 (Pp.gvgE G b x)) ∧ Below w.heap.size w w' := by
  have HV := ghid hv
  clear hv
  rcases Pp.chg_cases G b x with ⟨h0, h3, hE⟩ | ⟨h0, h3, hE⟩ | ⟨h0, hS, h5, hE⟩ | ⟨h0, hS, h5, hE⟩ | ⟨h0, hS, h3, hE⟩ | ⟨h0, hS, h3, h5, hE⟩ | ⟨h0, hS, h3, h5, hE⟩
  · have hz : (x.ri == 0) = false := by simpa using h0
    have h3' : (Pp.rgt G x.fo b == 3) = false := by simpa using h3
    have HE := ghid hE
    clear hE h0 h3
    go_enter Tryz.func83, Tryz.ntmps83
    go_wp2_with fail
    refine (right_any G _ x.fo b _ (HV.out.below ((Below.refl _ _).alloc (Nat.le_refl _) _))).mono ?_
    rintro e w1 ⟨rfl, hb1⟩
    obtain ⟨c0, c1, c2, hbw, hlt⟩ := bxG3 hb1
    clear hb1
    go_wp2
    go_ret
    exact ⟨by rw [HE.out]; rfl, hbw⟩
  · have hz : (x.ri == 0) = false := by simpa using h0
    have H3 := ghid h3
    have HE := ghid hE
    clear hE h0 h3
    go_enter Tryz.func83, Tryz.ntmps83
    go_wp2_with fail
    refine (right_any G _ x.fo b _ (HV.out.below ((Below.refl _ _).alloc (Nat.le_refl _) _))).mono ?_
    rintro e w1 ⟨rfl, hb1⟩
    rw [H3.out]
    obtain ⟨c0, c1, c2, hbw, hlt⟩ := bxG3 hb1
    clear hb1
    go_wp2
    go_ret
    exact ⟨by rw [HE.out]; rfl, hbw⟩
  · have hz : (x.ri == 0) = true := by simpa using h0
    have H5 := ghid h5
    have HE := ghid hE
    clear hE h0 h5
    go_enter Tryz.func83, Tryz.ntmps83
    go_wp2_with fail
    refine (right_any G _ x.fo x.wh _ (HV.out.below ((Below.refl _ _).alloc (Nat.le_refl _) _))).mono ?_
    rintro e w1 ⟨rfl, hb1⟩
    rw [H5.out]
    obtain ⟨c0, c1, c2, hbw, hlt⟩ := bxG3 hb1
    clear hb1
    go_wp2
    go_ret
    exact ⟨by rw [HE.out]; rfl, hbw⟩
  · have hz : (x.ri == 0) = true := by simpa using h0
    have h5' : (Pp.rgt G x.fo x.wh == 0) = false := by simpa using h5
    have HE := ghid hE
    clear hE h0 h5
    go_enter Tryz.func83, Tryz.ntmps83
    go_wp2_with fail
    refine (right_any G _ x.fo x.wh _ (HV.out.below ((Below.refl _ _).alloc (Nat.le_refl _) _))).mono ?_
    rintro e w1 ⟨rfl, hb1⟩
    obtain ⟨c0, c1, c2, hbw, hlt⟩ := bxG3 hb1
    clear hb1
    go_wp2
    go_ret
    exact ⟨by rw [HE.out]; rfl, hbw⟩
  · have hz : (x.ri == 0) = true := by simpa using h0
    have h3' : (Pp.rgt G x.fo b == 3) = false := by simpa using h3
    have HE := ghid hE
    clear hE h0 h3
    go_enter Tryz.func83, Tryz.ntmps83
    go_wp2_with fail
    refine (right_any G _ x.fo b _ (HV.out.below ((Below.refl _ _).alloc (Nat.le_refl _) _))).mono ?_
    rintro e w1 ⟨rfl, hb1⟩
    obtain ⟨c0, c1, c2, hbw, hlt⟩ := bxG3 hb1
    clear hb1
    go_wp2
    go_ret
    exact ⟨by rw [HE.out]; rfl, hbw⟩
  all_goals
    have hz : (x.ri == 0) = true := by simpa using h0
    have H3 := ghid h3
    have HE := ghid hE
    first
      | (have H5 : Hid (Pp.rgt G x.fo x.wh = 0) := h5)
      | (have h5' : (Pp.rgt G x.fo x.wh == 0) = false := by simpa using h5)
    clear hE h0 h3 h5
    go_enter Tryz.func83, Tryz.ntmps83
    go_wp2_with fail
    refine (right_any G _ x.fo b _ (HV.out.below ((Below.refl _ _).alloc (Nat.le_refl _) _))).mono ?_
    rintro e w1 ⟨rfl, hb1⟩
    rw [H3.out]
    obtain ⟨c0, c1, c2, hbw, hlt⟩ := bxG3 hb1
    clear hb1
    go_wp2_with fail
    refine (right_any G _ x.fo x.wh _ (HV.out.below hbw)).mono ?_
    rintro e w2 ⟨rfl, hb2⟩
    try rw [H5.out]
    have hb02 := below_trans hbw hb2
    clear hb2 hbw
    go_wp2
    go_ret
    exact ⟨by rw [HE.out]; rfl, hb02⟩
end Go.Proofs.YtmdkecdhgjjceaaGreat
set_option linter.unusedSimpArgs false
set_option linter.unusedVariables false
namespace Go.Proofs.YtmdkecdhgjjceaaGreat
open Go.RowKit

namespace Pp
/-- Give, of grants that pass Check. -/
def gvE (G : List Gr) (f b m : ByteArray) (r : Int) : Int :=
  if nmsE [f, b, m] = 0 then (if r < 0 ∨ 3 < r then 3 else if gvgE G b ⟨f, m, r⟩ = 0 then (if (pgN ⟨f, m, r⟩ G).any (ownF f) = true then (if 60 < (pgN ⟨f, m, r⟩ G).length then 2 else 0) else 4) else gvgE G b ⟨f, m, r⟩) else 1
theorem gv_cases (G : List Gr) (f b m : ByteArray) (r : Int) :
    (nmsE [f, b, m] = 1 ∧ gvE G f b m r = 1) ∨ (nmsE [f, b, m] = 0 ∧ r < 0 ∧ gvE G f b m r = 3) ∨ (nmsE [f, b, m] = 0 ∧ 0 ≤ r ∧ 3 < r ∧ gvE G f b m r = 3) ∨
    (nmsE [f, b, m] = 0 ∧ 0 ≤ r ∧ r ≤ 3 ∧ ¬ gvgE G b ⟨f, m, r⟩ = 0 ∧ gvE G f b m r = gvgE G b ⟨f, m, r⟩) ∨
    (nmsE [f, b, m] = 0 ∧ 0 ≤ r ∧ r ≤ 3 ∧ gvgE G b ⟨f, m, r⟩ = 0 ∧ (pgN ⟨f, m, r⟩ G).any (ownF f) = false ∧ gvE G f b m r = 4) ∨
    (nmsE [f, b, m] = 0 ∧ 0 ≤ r ∧ r ≤ 3 ∧ gvgE G b ⟨f, m, r⟩ = 0 ∧ (pgN ⟨f, m, r⟩ G).any (ownF f) = true ∧ 60 < (pgN ⟨f, m, r⟩ G).length ∧ gvE G f b m r = 2) ∨
    (nmsE [f, b, m] = 0 ∧ 0 ≤ r ∧ r ≤ 3 ∧ gvgE G b ⟨f, m, r⟩ = 0 ∧ (pgN ⟨f, m, r⟩ G).any (ownF f) = true ∧ (pgN ⟨f, m, r⟩ G).length ≤ 60 ∧ gvE G f b m r = 0) := by
  rcases nms_cases [f, b, m] with h | h
  · right
    have e1 : gvE G f b m r = (if r < 0 ∨ 3 < r then 3 else if gvgE G b ⟨f, m, r⟩ = 0 then (if (pgN ⟨f, m, r⟩ G).any (ownF f) = true then (if 60 < (pgN ⟨f, m, r⟩ G).length then 2 else 0) else 4) else gvgE G b ⟨f, m, r⟩) := if_pos h
    by_cases h1 : r < 0
    · left; exact ⟨h, h1, by rw [e1, if_pos (Or.inl h1)]⟩
    · right
      by_cases h2 : 3 < r
      · left; exact ⟨h, by omega, h2, by rw [e1, if_pos (Or.inr h2)]⟩
      · right
        rw [if_neg (by omega)] at e1
        by_cases h3 : gvgE G b ⟨f, m, r⟩ = 0
        · right
          rw [if_pos h3] at e1
          cases h4 : (pgN ⟨f, m, r⟩ G).any (ownF f) with
          | false => left; exact ⟨h, by omega, by omega, h3, rfl, by rw [e1, h4]; rfl⟩
          | true =>
            right
            rw [h4, if_pos rfl] at e1
            by_cases h5 : 60 < (pgN ⟨f, m, r⟩ G).length
            · left; exact ⟨h, by omega, by omega, h3, rfl, h5, by rw [e1, if_pos h5]⟩
            · right; exact ⟨h, by omega, by omega, h3, rfl, by omega, by rw [e1, if_neg h5]⟩
        · left; exact ⟨h, by omega, by omega, h3, by rw [e1, if_neg h3]⟩
  · left; exact ⟨h, by rw [gvE, if_neg (by rw [h]; decide)]⟩
def giE (G : List Gr) (f b m : ByteArray) (r : Int) : Int := if gchE G = 0 then gvE G f b m r else gchE G
def giL (G : List Gr) (f b m : ByteArray) (r : Int) : List Gr := if giE G f b m r = 0 then pgN ⟨f, m, r⟩ G else []
theorem giL_no {G : List Gr} {f b m : ByteArray} {r : Int} (h : ¬ giE G f b m r = 0) : giL G f b m r = [] := if_neg h
theorem giL_yes {G : List Gr} {f b m : ByteArray} {r : Int} (h : giE G f b m r = 0) : giL G f b m r = pgN ⟨f, m, r⟩ G := if_pos h
theorem chg_vals (G : List Gr) (b : ByteArray) (x : Gr) : gvgE G b x = 0 ∨ gvgE G b x = 5 ∨ gvgE G b x = 9 := by
  rw [gvgE]; split
  · split <;> simp
  · simp
end Pp

set_option maxHeartbeats 1000000 in
theorem bounded_no (G : List Gr) (v : Value) (w : World) (hv : LiesG w v G) (hn : 60 < G.length) :
    Calls Tryz.prog 81 #[v] w fun e w' => e = .returned (.tuple #[.slice none 0 0, .int .i64 2]) ∧ w' = w := by
  obtain ⟨a, cap, rfl, hcap, hcap2, hLL⟩ := hv
  have h60 : 60 < (G.length : Int) := by omega
  clear hLL
  go_enter Tryz.func81, Tryz.ntmps81
  go_wp2
  go_ret2
  exact ⟨rfl, rfl⟩

set_option maxRecDepth 100000 in
set_option maxHeartbeats 4000000 in
theorem give_any (G : List Gr) (v : Value) (f b m : ByteArray) (r : Int) (w : World) (hv : LiesG w v G) (hs : SizedG G) (hf : f.size ≤ 150000000000000) (hb : b.size ≤ 150000000000000) (hm : m.size ≤ 150000000000000) :
    Calls Tryz.prog 53 #[v, .string f, .string b, .string m, .int .i64 r] w fun e w' => ∃ u, e = .returned (.tuple #[u, .int .i64 (Pp.giE G f b m r)]) ∧ (LiesG w' u (Pp.giL G f b m r) ∧ Fr w.heap.size u) ∧ Below w.heap.size w w' := by
  have HV := ghid hv
  have HS := ghid hs
  clear hv hs
  have hsz : ∀ i (hi : i < [f, b, m].length), ([f, b, m][i]).size ≤ 1000000000000000 := fun i hi => by match i, hi with | 0, _ => exact Nat.le_trans hf (by decide) | 1, _ => exact Nat.le_trans hb (by decide) | 2, _ => exact Nat.le_trans hm (by decide)
  have HSZ := ghid hsz
  clear hsz hf hb hm
  by_cases hg0 : Pp.gchE G = 0
  case neg =>
    have eE : Pp.giE G f b m r = Pp.gchE G := if_neg hg0
    have eC : Pp.calE G [f, b, m] = Pp.gchE G := if_neg hg0
    have HL : Hid (Pp.giL G f b m r = []) := Pp.giL_no (by rw [eE]; exact hg0)
    have HE := ghid eE
    have HC := ghid eC
    have hz : (Pp.gchE G == 0) = false := by simpa using hg0
    clear eE eC hg0
    go_enter Tryz.func53, Tryz.ntmps53
    go_wp2_with fail
    refine (gcheckAll_any G _ [f, b, m] w.heap.size 3 _ (HV.out.below ((Below.refl _ _).alloc (Nat.le_refl _) _)) HS.out (by simp) HSZ.out (by simp) (fun i hi => by match i, hi with | 0, _ => simp | 1, _ => simp | 2, _ => simp)).mono ?_
    rintro e w1 ⟨rfl, hb1⟩
    rw [HC.out]
    have hb01 : Below w.heap.size w w1 := ((Below.refl _ _).alloc (Nat.le_refl _) _).trans (hb1.mono (by simp))
    clear hb1
    generalize hy : Pp.gchE G = y at *
    go_wp2
    go_ret2
    exact ⟨_, by rw [HE.out]; rfl, by rw [HL.out]; exact ⟨liesG_nil _, fr_nil _⟩, hb01⟩
  case pos =>
  have eE : Pp.giE G f b m r = Pp.gvE G f b m r := if_pos hg0
  have eC : Pp.calE G [f, b, m] = Pp.nmsE [f, b, m] := if_pos hg0
  obtain ⟨hl60, _, hris, _⟩ := Pp.gch0 hg0
  have HPW := ghid ((Pp.risG_pair G).1 hris)
  have hpl := Pp.pgN_len ⟨f, m, r⟩ G
  clear hris
  rcases Pp.gv_cases G f b m r with ⟨hn, hE⟩ | ⟨hn, h1, hE⟩ | ⟨hn, h1, h2, hE⟩ | ⟨hn, h1, h2, hc, hE⟩ | ⟨hn, h1, h2, hc, ha, hE⟩ | ⟨hn, h1, h2, hc, ha, h6, hE⟩ | ⟨hn, h1, h2, hc, ha, h6, hE⟩
  case inl =>
    have HL : Hid (Pp.giL G f b m r = []) := Pp.giL_no (by rw [eE, hE]; decide)
    have HE := ghid (eE.trans hE)
    have HC := ghid (eC.trans hn)
    clear eE eC hE hn hg0
    go_enter Tryz.func53, Tryz.ntmps53
    go_wp2_with fail
    refine (gcheckAll_any G _ [f, b, m] w.heap.size 3 _ (HV.out.below ((Below.refl _ _).alloc (Nat.le_refl _) _)) HS.out (by simp) HSZ.out (by simp) (fun i hi => by match i, hi with | 0, _ => simp | 1, _ => simp | 2, _ => simp)).mono ?_
    rintro e w1 ⟨rfl, hb1⟩
    rw [HC.out]
    have hb01 : Below w.heap.size w w1 := ((Below.refl _ _).alloc (Nat.le_refl _) _).trans (hb1.mono (by simp))
    clear hb1
    go_wp2
    go_ret2
    exact ⟨_, by rw [HE.out]; rfl, by rw [HL.out]; exact ⟨liesG_nil _, fr_nil _⟩, hb01⟩
  case inr.inl =>
    have HL : Hid (Pp.giL G f b m r = []) := Pp.giL_no (by rw [eE, hE]; decide)
    have HE := ghid (eE.trans hE)
    have HC := ghid (eC.trans hn)
    clear eE eC hE hn hg0
    go_enter Tryz.func53, Tryz.ntmps53
    go_wp2_with fail
    refine (gcheckAll_any G _ [f, b, m] w.heap.size 3 _ (HV.out.below ((Below.refl _ _).alloc (Nat.le_refl _) _)) HS.out (by simp) HSZ.out (by simp) (fun i hi => by match i, hi with | 0, _ => simp | 1, _ => simp | 2, _ => simp)).mono ?_
    rintro e w1 ⟨rfl, hb1⟩
    rw [HC.out]
    have hb01 : Below w.heap.size w w1 := ((Below.refl _ _).alloc (Nat.le_refl _) _).trans (hb1.mono (by simp))
    clear hb1
    go_wp2
    go_ret2
    exact ⟨_, by rw [HE.out]; rfl, by rw [HL.out]; exact ⟨liesG_nil _, fr_nil _⟩, hb01⟩
  case inr.inr.inl =>
    have HL : Hid (Pp.giL G f b m r = []) := Pp.giL_no (by rw [eE, hE]; decide)
    have HE := ghid (eE.trans hE)
    have HC := ghid (eC.trans hn)
    clear eE eC hE hn hg0
    go_enter Tryz.func53, Tryz.ntmps53
    go_wp2_with fail
    refine (gcheckAll_any G _ [f, b, m] w.heap.size 3 _ (HV.out.below ((Below.refl _ _).alloc (Nat.le_refl _) _)) HS.out (by simp) HSZ.out (by simp) (fun i hi => by match i, hi with | 0, _ => simp | 1, _ => simp | 2, _ => simp)).mono ?_
    rintro e w1 ⟨rfl, hb1⟩
    rw [HC.out]
    have hb01 : Below w.heap.size w w1 := ((Below.refl _ _).alloc (Nat.le_refl _) _).trans (hb1.mono (by simp))
    clear hb1
    go_wp2
    go_ret2
    exact ⟨_, by rw [HE.out]; rfl, by rw [HL.out]; exact ⟨liesG_nil _, fr_nil _⟩, hb01⟩
  case inr.inr.inr.inl =>
    have HL : Hid (Pp.giL G f b m r = []) := Pp.giL_no (by rw [eE, hE]; exact hc)
    have HE := ghid (eE.trans hE)
    have HC := ghid (eC.trans hn)
    have hz : (Pp.gvgE G b ⟨f, m, r⟩ == 0) = false := by simpa using hc
    clear eE eC hE hn hg0 hc
    go_enter Tryz.func53, Tryz.ntmps53
    go_wp2_with fail
    refine (gcheckAll_any G _ [f, b, m] w.heap.size 3 _ (HV.out.below ((Below.refl _ _).alloc (Nat.le_refl _) _)) HS.out (by simp) HSZ.out (by simp) (fun i hi => by match i, hi with | 0, _ => simp | 1, _ => simp | 2, _ => simp)).mono ?_
    rintro e w1 ⟨rfl, hb1⟩
    rw [HC.out]
    have hb01 : Below w.heap.size w w1 := ((Below.refl _ _).alloc (Nat.le_refl _) _).trans (hb1.mono (by simp))
    clear hb1
    go_wp2_with fail
    refine (checkGive_any G _ b ⟨f, m, r⟩ _ (HV.out.below (by first | exact hb01 | exact hb01.alloc hb01.size _))).mono ?_
    rintro e w2 ⟨rfl, hb2⟩
    obtain ⟨c0, c1, c2, hbw, hlt⟩ := bxG3 hb2
    have hb02 := below_trans hb01 hbw
    clear hb2 hbw hb01
    generalize Pp.gvgE G b ⟨f, m, r⟩ = y at *
    go_wp2
    go_ret2
    exact ⟨_, by rw [HE.out]; rfl, by rw [HL.out]; exact ⟨liesG_nil _, fr_nil _⟩, hb02⟩
  case inr.inr.inr.inr.inl =>
    have HL : Hid (Pp.giL G f b m r = []) := Pp.giL_no (by rw [eE, hE]; decide)
    have HE := ghid (eE.trans hE)
    have HC := ghid (eC.trans hn)
    have HG := ghid hc
    have HA := ghid ha
    clear eE eC hE hn hg0 hc ha
    go_enter Tryz.func53, Tryz.ntmps53
    go_wp2_with fail
    refine (gcheckAll_any G _ [f, b, m] w.heap.size 3 _ (HV.out.below ((Below.refl _ _).alloc (Nat.le_refl _) _)) HS.out (by simp) HSZ.out (by simp) (fun i hi => by match i, hi with | 0, _ => simp | 1, _ => simp | 2, _ => simp)).mono ?_
    rintro e w1 ⟨rfl, hb1⟩
    rw [HC.out]
    have hb01 : Below w.heap.size w w1 := ((Below.refl _ _).alloc (Nat.le_refl _) _).trans (hb1.mono (by simp))
    clear hb1
    go_wp2_with fail
    refine (checkGive_any G _ b ⟨f, m, r⟩ _ (HV.out.below (by first | exact hb01 | exact hb01.alloc hb01.size _))).mono ?_
    rintro e w2 ⟨rfl, hb2⟩
    rw [HG.out]
    obtain ⟨c0, c1, c2, hbw, hlt⟩ := bxG3 hb2
    have hb02 := below_trans hb01 hbw
    clear hb2 hbw hb01
    go_wp2_with fail
    refine (gput_any G _ ⟨f, m, r⟩ _ (HV.out.below hb02) (by omega) HPW.out).mono ?_
    rintro e w4 ⟨u, rfl, ⟨hli, hfr⟩, hb4⟩
    have HFR := ghid (hfr.mono hb02.size)
    clear hfr
    have HLI := ghid hli
    have hb04 := below_trans hb02 hb4
    clear hli hb4 hb02 c0 c1 c2
    go_wp2_with fail
    refine (isOwned_any _ _ f _ HLI.out).mono ?_
    rintro e w5 ⟨rfl, hb5⟩
    rw [HA.out]
    have hb05 := below_trans hb04 hb5
    clear hb5 hb04
    go_wp2
    go_ret2
    exact ⟨_, by rw [HE.out]; rfl, by rw [HL.out]; exact ⟨liesG_nil _, fr_nil _⟩, hb05⟩
  case inr.inr.inr.inr.inr.inl =>
    have HL : Hid (Pp.giL G f b m r = []) := Pp.giL_no (by rw [eE, hE]; decide)
    have HE := ghid (eE.trans hE)
    have HC := ghid (eC.trans hn)
    have HG := ghid hc
    have HA := ghid ha
    clear eE eC hE hn hg0 hc ha
    go_enter Tryz.func53, Tryz.ntmps53
    go_wp2_with fail
    refine (gcheckAll_any G _ [f, b, m] w.heap.size 3 _ (HV.out.below ((Below.refl _ _).alloc (Nat.le_refl _) _)) HS.out (by simp) HSZ.out (by simp) (fun i hi => by match i, hi with | 0, _ => simp | 1, _ => simp | 2, _ => simp)).mono ?_
    rintro e w1 ⟨rfl, hb1⟩
    rw [HC.out]
    have hb01 : Below w.heap.size w w1 := ((Below.refl _ _).alloc (Nat.le_refl _) _).trans (hb1.mono (by simp))
    clear hb1
    go_wp2_with fail
    refine (checkGive_any G _ b ⟨f, m, r⟩ _ (HV.out.below (by first | exact hb01 | exact hb01.alloc hb01.size _))).mono ?_
    rintro e w2 ⟨rfl, hb2⟩
    rw [HG.out]
    obtain ⟨c0, c1, c2, hbw, hlt⟩ := bxG3 hb2
    have hb02 := below_trans hb01 hbw
    clear hb2 hbw hb01
    go_wp2_with fail
    refine (gput_any G _ ⟨f, m, r⟩ _ (HV.out.below hb02) (by omega) HPW.out).mono ?_
    rintro e w4 ⟨u, rfl, ⟨hli, hfr⟩, hb4⟩
    have HFR := ghid (hfr.mono hb02.size)
    clear hfr
    have HLI := ghid hli
    have hb04 := below_trans hb02 hb4
    clear hli hb4 hb02 c0 c1 c2
    go_wp2_with fail
    refine (isOwned_any _ _ f _ HLI.out).mono ?_
    rintro e w5 ⟨rfl, hb5⟩
    rw [HA.out]
    have hb05 := below_trans hb04 hb5
    have HLI5 := ghid (HLI.out.below hb5)
    clear hb5 hb04 HLI
    go_wp2_with fail
    refine (bounded_no _ _ _ HLI5.out h6).mono ?_
    rintro e w6 ⟨rfl, hw⟩
    rw [hw]
    clear hw w6
    go_wp2
    go_ret2
    exact ⟨_, by rw [HE.out]; rfl, by rw [HL.out]; exact ⟨liesG_nil _, fr_nil _⟩, hb05⟩
  case inr.inr.inr.inr.inr.inr =>
    have HL : Hid (Pp.giL G f b m r = Pp.pgN ⟨f, m, r⟩ G) := Pp.giL_yes (eE.trans hE)
    have HE := ghid (eE.trans hE)
    have HC := ghid (eC.trans hn)
    have HG := ghid hc
    have HA := ghid ha
    clear eE eC hE hn hg0 hc ha
    go_enter Tryz.func53, Tryz.ntmps53
    go_wp2_with fail
    refine (gcheckAll_any G _ [f, b, m] w.heap.size 3 _ (HV.out.below ((Below.refl _ _).alloc (Nat.le_refl _) _)) HS.out (by simp) HSZ.out (by simp) (fun i hi => by match i, hi with | 0, _ => simp | 1, _ => simp | 2, _ => simp)).mono ?_
    rintro e w1 ⟨rfl, hb1⟩
    rw [HC.out]
    have hb01 : Below w.heap.size w w1 := ((Below.refl _ _).alloc (Nat.le_refl _) _).trans (hb1.mono (by simp))
    clear hb1
    go_wp2_with fail
    refine (checkGive_any G _ b ⟨f, m, r⟩ _ (HV.out.below (by first | exact hb01 | exact hb01.alloc hb01.size _))).mono ?_
    rintro e w2 ⟨rfl, hb2⟩
    rw [HG.out]
    obtain ⟨c0, c1, c2, hbw, hlt⟩ := bxG3 hb2
    have hb02 := below_trans hb01 hbw
    clear hb2 hbw hb01
    go_wp2_with fail
    refine (gput_any G _ ⟨f, m, r⟩ _ (HV.out.below hb02) (by omega) HPW.out).mono ?_
    rintro e w4 ⟨u, rfl, ⟨hli, hfr⟩, hb4⟩
    have HFR := ghid (hfr.mono hb02.size)
    clear hfr
    have HLI := ghid hli
    have hb04 := below_trans hb02 hb4
    clear hli hb4 hb02 c0 c1 c2
    go_wp2_with fail
    refine (isOwned_any _ _ f _ HLI.out).mono ?_
    rintro e w5 ⟨rfl, hb5⟩
    rw [HA.out]
    have hb05 := below_trans hb04 hb5
    have HLI5 := ghid (HLI.out.below hb5)
    clear hb5 hb04 HLI
    go_wp2_with fail
    refine (bounded_ok _ _ _ HLI5.out h6).mono ?_
    rintro e w6 ⟨rfl, hw⟩
    rw [hw]
    clear hw w6
    go_wp2
    go_ret2
    exact ⟨_, by rw [HE.out]; rfl, by rw [HL.out]; exact ⟨HLI5.out, HFR.out⟩, hb05⟩
end Go.Proofs.YtmdkecdhgjjceaaGreat
