/- What grant.put and checkGive answer, for every list of grants that rises. -/
import Derived.Test.YtchlgpeiombmdaaGreatGD
set_option linter.unusedSimpArgs false
set_option linter.unusedVariables false
namespace Go.Proofs.YtchlgpeiombmdaaGreat
open Go.RowKit

namespace Pp
/-- What put makes of grants: the grant in its place; of right 0 there is none then. -/
def pgN (x : Gr) (G : List Gr) : List Gr := if x.ri = 0 then outG x G else insG x (outG x G)
theorem pgN_no {x : Gr} {G : List Gr} (h : x.ri = 0) : pgN x G = outG x G := if_pos h
theorem pgN_yes {x : Gr} {G : List Gr} (h : ¬ x.ri = 0) : pgN x G = insG x (outG x G) := if_neg h
theorem pgN_len (x : Gr) (G : List Gr) : (pgN x G).length ≤ G.length + 1 := by
 have h1 : (outG x G).length ≤ G.length := List.length_filter_le _ _
 rw [pgN]; split
 · omega
 · rw [(insG_perm x _).length_eq]; simp; omega
theorem gch0 {G : List Gr} (h : gchE G = 0) : G.length ≤ 60 ∧ grsE G = 0 ∧ risG G = true ∧ ownsE G = 0 := by
 by_cases h60 : 60 < G.length
 · rw [gch_many h60] at h; cases h
 · by_cases h1 : grsE G = 0
   · cases h2 : risG G with
     | false => rw [gch_ris h60 h1 h2] at h; cases h
     | true => rw [gch_own h60 h1 h2] at h; exact ⟨by omega, h1, rfl, h⟩
   · rw [gch_grs h60 h1] at h; exact absurd h h1
theorem cS_ne {a b : ByteArray} (h2 : (a.toList == b.toList) = false) : ¬ cS a b = 0 := by rw [cS, h2]; split <;> simp
theorem oth_fo {x y : Gr} (h : (y.fo.toList == x.fo.toList) = false) : othG x y = true := by
 have h1 := cS_ne h
 rw [othG, cG, if_neg h1]; simpa using h1
end Pp

set_option maxRecDepth 100000 in
set_option maxHeartbeats 2000000 in
theorem put_none (G : List Gr) (v : Value) (x : Gr) (w : World) (hv : LiesG w v G) (hn : G.length ≤ 1000) (hx : x.ri = 0) :
    Calls Tryz.prog 47 #[v, .agg #[.string x.fo, .string x.wh, .int .i64 x.ri]] w fun e w' => ∃ u, e = .returned u ∧ (LiesG w' u (Pp.outG x G) ∧ Fr w.heap.size u) ∧ Below w.heap.size w w' := by
 have HV := ghid hv
 have hT : TellsG (w.alloc (.cells #[.string x.fo, .string x.wh, .int .i64 x.ri] 102)) 89 #[.pointer (some ⟨w.heap.size, 0, none⟩)] (Pp.othG x) := by
  refine ⟨enters_of Tryz.func89 (by kernel_rfl) rfl, fun W hW e => ?_⟩
  exact put1_any e x w.heap.size W (Nat.lt_of_lt_of_le (by simp) hW.size) ((hW.cell (p := ⟨w.heap.size, 0, none⟩) (by simp)).trans (by simp)) ((hW.cell (p := ⟨w.heap.size, 1, none⟩) (by simp)).trans (by simp)) ((hW.cell (p := ⟨w.heap.size, 2, none⟩) (by simp)).trans (by simp))
 have HT := ghid hT
 have hFl : (Pp.outG x G).length ≤ G.length := List.length_filter_le _ _
 have hz : (x.ri == 0) = true := by simpa using hx
 have HF : Hid (G.filter (Pp.othG x) = Pp.outG x G) := rfl
 clear hT hv hx
 generalize Pp.outG x G = F at *
 go_enter Tryz.func47, Tryz.ntmps47
 go_wp2_with fail
 refine (gevery_any G _ _ _ (Pp.othG x) _ (HV.out.below ((Below.refl _ _).alloc (Nat.le_refl _) _)) HT.out (by omega)).mono ?_
 rintro e w1 ⟨u1, rfl, ho1, hn1, hb1⟩
 rw [HF.out] at ho1
 obtain ⟨c0, c1, c2, hbw, hlt⟩ := bxG3 hb1
 have HLI := ghid (liesG_own ho1 (by omega))
 have HFR := hid (show Fr w.heap.size u1 from fun q hq => by have := (ho1.lt q hq).1; simp at this; omega)
 clear ho1 hb1 hn1
 go_wp2
 go_ret
 exact ⟨_, rfl, ⟨HLI.out, HFR.out⟩, hbw⟩
theorem gput_any (G : List Gr) (v : Value) (x : Gr) (w : World) (hv : LiesG w v G) (hn : G.length ≤ 1000) (hG : G.Pairwise (fun x y => Pp.ltG x y = true)) :
    Calls Tryz.prog 47 #[v, .agg #[.string x.fo, .string x.wh, .int .i64 x.ri]] w fun e w' => ∃ u, e = .returned u ∧ (LiesG w' u (Pp.pgN x G) ∧ Fr w.heap.size u) ∧ Below w.heap.size w w' := by
 by_cases hx : x.ri = 0
 · rw [Pp.pgN_no hx]
   exact put_none G v x w hv hn hx
 · rw [Pp.pgN_yes hx]
   refine (put_yes G v x w hv hn hx).mono ?_
   rintro e w1 ⟨u, M, rfl, hp, hs, ⟨hli, hfr⟩, hb⟩
   rw [Pp.put_ins hG hp hs] at hli
   exact ⟨u, rfl, ⟨hli, hfr⟩, hb⟩
set_option maxHeartbeats 1000000 in
theorem bounded_no (G : List Gr) (v : Value) (w : World) (hv : LiesG w v G) (hn : 60 < G.length) :
    Calls Tryz.prog 46 #[v] w fun e w' => e = .returned (.tuple #[.slice none 0 0, .int .i64 2]) ∧ w' = w := by
 obtain ⟨a, cap, rfl, hcap, hcap2, hLL⟩ := hv
 have h60 : 60 < (G.length : Int) := by omega
 clear hLL
 go_enter Tryz.func46, Tryz.ntmps46
 go_wp2
 go_ret2
 exact ⟨rfl, rfl⟩
end Go.Proofs.YtchlgpeiombmdaaGreat
