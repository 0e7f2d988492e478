/- What grant.put and checkGive answer, for every list of grants that rises. -/
import Derived.Test.YtgjiicnhedekjaaG18
set_option linter.unusedSimpArgs false
set_option linter.unusedVariables false
namespace Go.Proofs.Ytgjiicnhedekjaa
open Go.RowKit

namespace Pp
/-- What put makes of grants: the grant in its place; of right 0 there is none then. -/
def pgN (x : Gr) (G : List Gr) : List Gr := if x.ri = 0 then outG x G else insG x (outG x G)
theorem pgN_no {x : Gr} {G : List Gr} (h : x.ri = 0) : pgN x G = outG x G := if_pos h
theorem pgN_yes {x : Gr} {G : List Gr} (h : ¬ x.ri = 0) : pgN x G = insG x (outG x G) := if_neg h
theorem pgN_len (x : Gr) (G : List Gr) : (pgN x G).length ≤ G.length + 1 := by
  have h1 : (outG x G).length ≤ G.length := List.length_filter_le _ _
  rw [pgN]; split
  · omega
  · rw [(insG_perm x _).length_eq]; simp; omega
theorem gch0 {G : List Gr} (h : gchE G = 0) : G.length ≤ 60 ∧ grsE G = 0 ∧ risG G = true ∧ ownsE G = 0 := by
  by_cases h60 : 60 < G.length
  · rw [gch_many h60] at h; cases h
  · by_cases h1 : grsE G = 0
    · cases h2 : risG G with
      | false => rw [gch_ris h60 h1 h2] at h; cases h
      | true => rw [gch_own h60 h1 h2] at h; exact ⟨by omega, h1, rfl, h⟩
    · rw [gch_grs h60 h1] at h; exact absurd h h1
theorem gputR_pg {f h : ByteArray} {r : Int} {G : List Gr} (hG : G.Pairwise (fun x y => ltG x y = true)) : gputR ⟨f, h, r⟩ (r == 0) G = pgN ⟨f, h, r⟩ G := by
  by_cases hr : r = 0
  · rw [pgN_no hr, show (r == 0) = true by simpa using hr]; exact gputR_none _ _
  · rw [pgN_yes hr, show (r == 0) = false by simpa using hr]; exact gputR_eq hG
/-- 9: who gives is no owner; 5: who is taken from has none. -/
def chgE (G : List Gr) (b : ByteArray) (x : Gr) : Int := if (x.ri = 0 ∧ (b.toList == x.wh.toList) = true) ∨ rgt G x.fo b = 3 then (if x.ri = 0 ∧ rgt G x.fo x.wh = 0 then 5 else 0) else 9
theorem chg_cases (G : List Gr) (b : ByteArray) (x : Gr) :
    (¬ x.ri = 0 ∧ ¬ rgt G x.fo b = 3 ∧ chgE G b x = 9) ∨ (¬ x.ri = 0 ∧ rgt G x.fo b = 3 ∧ chgE G b x = 0) ∨
    (x.ri = 0 ∧ (b.toList == x.wh.toList) = true ∧ rgt G x.fo x.wh = 0 ∧ chgE G b x = 5) ∨ (x.ri = 0 ∧ (b.toList == x.wh.toList) = true ∧ ¬ rgt G x.fo x.wh = 0 ∧ chgE G b x = 0) ∨
    (x.ri = 0 ∧ (b.toList == x.wh.toList) = false ∧ ¬ rgt G x.fo b = 3 ∧ chgE G b x = 9) ∨
    (x.ri = 0 ∧ (b.toList == x.wh.toList) = false ∧ rgt G x.fo b = 3 ∧ rgt G x.fo x.wh = 0 ∧ chgE G b x = 5) ∨ (x.ri = 0 ∧ (b.toList == x.wh.toList) = false ∧ rgt G x.fo b = 3 ∧ ¬ rgt G x.fo x.wh = 0 ∧ chgE G b x = 0) := by
  by_cases h0 : x.ri = 0 <;> cases hS : (b.toList == x.wh.toList) <;> by_cases h3 : rgt G x.fo b = 3 <;> by_cases hz : rgt G x.fo x.wh = 0 <;> simp [chgE, h0, hS, h3, hz]
end Pp

set_option maxRecDepth 100000 in
set_option maxHeartbeats 2000000 in
theorem put_none (G : List Gr) (v : Value) (x : Gr) (w : World) (hv : LiesG w v G) (hn : G.length ≤ 1000) (hx : x.ri = 0) :
    Calls Try.prog 17 #[v, .agg #[.string x.fo, .string x.wh, .int .i64 x.ri]] w fun e w' => ∃ u, e = .returned u ∧ LiesG w' u (Pp.outG x G) ∧ Below w.heap.size w w' := by
  have HV := ghid hv
  have hT : TellsG (w.alloc (.cells #[.string x.fo, .string x.wh, .int .i64 x.ri] 33)) 34 #[.pointer (some ⟨w.heap.size, 0, none⟩)] (Pp.othG x) := by
    refine ⟨enters_of Try.func34 (by kernel_rfl) rfl, fun W hW e => ?_⟩
    exact put1_any e x w.heap.size W (Nat.lt_of_lt_of_le (by simp) hW.size) ((hW.cell (p := ⟨w.heap.size, 0, none⟩) (by simp)).trans (by simp)) ((hW.cell (p := ⟨w.heap.size, 1, none⟩) (by simp)).trans (by simp)) ((hW.cell (p := ⟨w.heap.size, 2, none⟩) (by simp)).trans (by simp))
  have HT := ghid hT
  have hFl : (Pp.outG x G).length ≤ G.length := List.length_filter_le _ _
  have hz : (x.ri == 0) = true := by simpa using hx
  have HF : Hid (G.filter (Pp.othG x) = Pp.outG x G) := rfl
  clear hT hv hx
  generalize Pp.outG x G = F at *
  go_enter Try.func17, Try.ntmps17
  go_wp2_with fail
  refine (gevery_any G _ _ _ (Pp.othG x) _ (HV.out.below ((Below.refl _ _).alloc (Nat.le_refl _) _)) HT.out (by omega)).mono ?_
  rintro e w1 ⟨u1, rfl, ho1, hn1, hb1⟩
  rw [HF.out] at ho1
  obtain ⟨c0, c1, c2, hbw, hlt⟩ := bx3 hb1
  have HLI := ghid (liesG_own ho1 (by omega))
  clear ho1 hb1 hn1
  go_wp2
  go_ret
  exact ⟨_, rfl, HLI.out, hbw⟩

theorem put_any (G : List Gr) (v : Value) (x : Gr) (w : World) (hv : LiesG w v G) (hn : G.length ≤ 1000) (hG : G.Pairwise (fun x y => Pp.ltG x y = true)) :
    Calls Try.prog 17 #[v, .agg #[.string x.fo, .string x.wh, .int .i64 x.ri]] w fun e w' => ∃ u, e = .returned u ∧ LiesG w' u (Pp.pgN x G) ∧ Below w.heap.size w w' := by
  by_cases hx : x.ri = 0
  · rw [Pp.pgN_no hx]
    exact put_none G v x w hv hn hx
  · rw [Pp.pgN_yes hx]
    refine (put_yes G v x w hv hn hx).mono ?_
    rintro e w1 ⟨u, M, rfl, hp, hs, hli, hb⟩
    rw [Pp.put_ins hG hp hs] at hli
    exact ⟨u, rfl, hli, hb⟩

set_option maxRecDepth 100000 in
set_option maxHeartbeats 2000000 in
theorem checkGive_any (G : List Gr) (v : Value) (b : ByteArray) (x : Gr) (w : World) (hv : LiesG w v G) :
    Calls Try.prog 16 #[v, .string b, .agg #[.string x.fo, .string x.wh, .int .i64 x.ri]] w fun e w' => e = .returned (.int .i64 (Pp.chgE G b x)) ∧ Below w.heap.size w w' := by
  have HV := ghid hv
  clear hv
  rcases Pp.chg_cases G b x with ⟨h0, h3, hE⟩ | ⟨h0, h3, hE⟩ | ⟨h0, hS, h5, hE⟩ | ⟨h0, hS, h5, hE⟩ | ⟨h0, hS, h3, hE⟩ | ⟨h0, hS, h3, h5, hE⟩ | ⟨h0, hS, h3, h5, hE⟩
  · have hz : (x.ri == 0) = false := by simpa using h0
    have h3' : (Pp.rgt G x.fo b == 3) = false := by simpa using h3
    have HE := ghid hE
    clear hE h0 h3
    go_enter Try.func16, Try.ntmps16
    go_wp2_with fail
    refine (right_any G _ x.fo b _ (HV.out.below ((Below.refl _ _).alloc (Nat.le_refl _) _))).mono ?_
    rintro e w1 ⟨rfl, hb1⟩
    obtain ⟨c0, c1, c2, hbw, hlt⟩ := bx3 hb1
    clear hb1
    go_wp2
    go_ret
    exact ⟨by rw [HE.out]; rfl, hbw⟩
  · have hz : (x.ri == 0) = false := by simpa using h0
    have H3 := ghid h3
    have HE := ghid hE
    clear hE h0 h3
    go_enter Try.func16, Try.ntmps16
    go_wp2_with fail
    refine (right_any G _ x.fo b _ (HV.out.below ((Below.refl _ _).alloc (Nat.le_refl _) _))).mono ?_
    rintro e w1 ⟨rfl, hb1⟩
    rw [H3.out]
    obtain ⟨c0, c1, c2, hbw, hlt⟩ := bx3 hb1
    clear hb1
    go_wp2
    go_ret
    exact ⟨by rw [HE.out]; rfl, hbw⟩
  · have hz : (x.ri == 0) = true := by simpa using h0
    have H5 := ghid h5
    have HE := ghid hE
    clear hE h0 h5
    go_enter Try.func16, Try.ntmps16
    go_wp2_with fail
    refine (right_any G _ x.fo x.wh _ (HV.out.below ((Below.refl _ _).alloc (Nat.le_refl _) _))).mono ?_
    rintro e w1 ⟨rfl, hb1⟩
    rw [H5.out]
    obtain ⟨c0, c1, c2, hbw, hlt⟩ := bx3 hb1
    clear hb1
    go_wp2
    go_ret
    exact ⟨by rw [HE.out]; rfl, hbw⟩
  · have hz : (x.ri == 0) = true := by simpa using h0
    have h5' : (Pp.rgt G x.fo x.wh == 0) = false := by simpa using h5
    have HE := ghid hE
    clear hE h0 h5
    go_enter Try.func16, Try.ntmps16
    go_wp2_with fail
    refine (right_any G _ x.fo x.wh _ (HV.out.below ((Below.refl _ _).alloc (Nat.le_refl _) _))).mono ?_
    rintro e w1 ⟨rfl, hb1⟩
    obtain ⟨c0, c1, c2, hbw, hlt⟩ := bx3 hb1
    clear hb1
    go_wp2
    go_ret
    exact ⟨by rw [HE.out]; rfl, hbw⟩
  · have hz : (x.ri == 0) = true := by simpa using h0
    have h3' : (Pp.rgt G x.fo b == 3) = false := by simpa using h3
    have HE := ghid hE
    clear hE h0 h3
    go_enter Try.func16, Try.ntmps16
    go_wp2_with fail
    refine (right_any G _ x.fo b _ (HV.out.below ((Below.refl _ _).alloc (Nat.le_refl _) _))).mono ?_
    rintro e w1 ⟨rfl, hb1⟩
    obtain ⟨c0, c1, c2, hbw, hlt⟩ := bx3 hb1
    clear hb1
    go_wp2
    go_ret
    exact ⟨by rw [HE.out]; rfl, hbw⟩
  all_goals
    have hz : (x.ri == 0) = true := by simpa using h0
    have H3 := ghid h3
    have HE := ghid hE
    first
      | (have H5 : Hid (Pp.rgt G x.fo x.wh = 0) := h5)
      | (have h5' : (Pp.rgt G x.fo x.wh == 0) = false := by simpa using h5)
    clear hE h0 h3 h5
    go_enter Try.func16, Try.ntmps16
    go_wp2_with fail
    refine (right_any G _ x.fo b _ (HV.out.below ((Below.refl _ _).alloc (Nat.le_refl _) _))).mono ?_
    rintro e w1 ⟨rfl, hb1⟩
    rw [H3.out]
    obtain ⟨c0, c1, c2, hbw, hlt⟩ := bx3 hb1
    clear hb1
    go_wp2_with fail
    refine (right_any G _ x.fo x.wh _ (HV.out.below hbw)).mono ?_
    rintro e w2 ⟨rfl, hb2⟩
    try rw [H5.out]
    have hb02 := below_trans hbw hb2
    clear hb2 hbw
    go_wp2
    go_ret
    exact ⟨by rw [HE.out]; rfl, hb02⟩
end Go.Proofs.Ytgjiicnhedekjaa
