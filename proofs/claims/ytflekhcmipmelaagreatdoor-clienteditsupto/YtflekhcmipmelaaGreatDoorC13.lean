/- What the reference's EditOf answers. -/
import Derived.Test.YtflekhcmipmelaaGreatDoorPS
import Derived.Test.YtflekhcmipmelaaGreatDoorPM
set_option linter.unusedSimpArgs false
set_option linter.unusedVariables false
namespace Go.Proofs.YtflekhcmipmelaaGreatDoor
open Go.RowKit

namespace Cy
def eoE (c : Cn) (x : Pp.Ch) : Int := if x.b = -1 then Pp.appE c.mine x 1 else 3
def eoR (c : Cn) (x : Pp.Ch) : Cn := if eoE c x = 0 then ⟨c.who, c.fo, c.base, c.cur, Pp.chdR c.mine x 1, c.key, c.ask, c.keys⟩ else zeroN
theorem ed_eo {c : Cn} (x : Pp.Ch) (h : chE c = 0) : edE c x = eoE c x := by
  have hm := (ch_parts h).2.2.1
  rw [edE, eoE, if_neg (fun z => z h)]
  by_cases hb : x.b = -1
  · rw [if_neg (fun z => z hb), if_pos hb, Pp.tapE, if_pos hm]
  · rw [if_pos hb, if_neg hb]
theorem ed_eoR {c : Cn} (x : Pp.Ch) (h : chE c = 0) : edR c x = eoR c x := by
  have hm := (ch_parts h).2.2.1
  rw [edR, eoR, ed_eo x h]
  by_cases h0 : eoE c x = 0
  · rw [if_pos h0, if_pos h0]
    have hb : x.b = -1 := by
      by_cases hb : x.b = -1
      · exact hb
      · rw [eoE, if_neg hb] at h0; cases h0
    have ht : Pp.tapE c.mine x 1 = 0 := by rw [Pp.tapE, if_pos hm]; rw [eoE, if_pos hb] at h0; exact h0
    rw [Pp.tapR, ht]
    rfl
  · rw [if_neg h0, if_neg h0]
end Cy

set_option maxRecDepth 100000 in
set_option maxHeartbeats 8000000 in
theorem editOf_any (c : Cn) (x : Pp.Ch) (v : Value) (w : World) (hv : LiesN w v c) (hg : Pp.treeE c.mine = 0) (hp : x.p.size ≤ 1000000000) (hq : x.q.size ≤ 1000000000) (ht : x.t.size ≤ 1000000000) :
    Calls Tryz.prog 16 #[v, .agg #[.int .i64 x.k, .string x.p, .string x.q, .string x.t, .int .i64 x.b]] w fun e w' => ∃ u, e = .returned (.tuple #[u, .int .i64 (Cy.eoE c x)]) ∧ LiesN w' u (Cy.eoR c x) ∧ Below w.heap.size w w' := by
  have HV := hid hv
  have HG := hid hg
  obtain ⟨vb, vm, va, rfl, lb, lm, la⟩ := hv
  have HLB := hid lb
  have HLM := hid lm
  have HLC := hid la
  obtain ⟨ab, cb, rfl, _⟩ := lb
  obtain ⟨am, cm, rfl, _⟩ := lm
  obtain ⟨aa, ca, rfl, _⟩ := la
  obtain ⟨r, hr⟩ : ∃ r, r = Cy.eoE c x := ⟨_, rfl⟩
  rw [← hr]
  have HR := hid hr
  clear hr hg
  obtain ⟨wa, hwa⟩ : ∃ wa, wa = w.alloc (.cells #[.string c.who, .string c.fo, .slice ab c.base.length cb, .int .i64 c.cur, .slice am c.mine.length cm, .string c.key, .slice aa c.ask.length ca, .int .i64 c.keys] 25) := ⟨_, rfl⟩
  obtain ⟨wb, hwb⟩ : ∃ wb, wb = wa.alloc (.cells #[.int .i64 x.k, .string x.p, .string x.q, .string x.t, .int .i64 x.b] 35) := ⟨_, rfl⟩
  obtain ⟨wz, hwz⟩ : ∃ wz, wz = wb.alloc (.cells #[.string ⟨#[]⟩, .string ⟨#[]⟩, .slice none 0 0, .int .i64 0, .slice none 0 0, .string ⟨#[]⟩, .slice none 0 0, .int .i64 0] 25) := ⟨_, rfl⟩
  have sa : wa.heap.size = w.heap.size + 1 := by rw [hwa]; simp
  have sb : wb.heap.size = w.heap.size + 1 + 1 := by rw [hwb]; simp [sa]
  have bwa : Below w.heap.size w wa := by rw [hwa]; exact (Below.refl _ _).alloc (Nat.le_refl _) _
  have bwb : Below wa.heap.size wa wb := by rw [hwb]; exact (Below.refl _ _).alloc (Nat.le_refl _) _
  have bwz : Below wb.heap.size wb wz := by rw [hwz]; exact (Below.refl _ _).alloc (Nat.le_refl _) _
  have hbz : Below w.heap.size w wz := below_tr bwa (below_tr bwb bwz)
  have HX : Hid (Cs wz w.heap.size [.string c.who, .string c.fo, .slice ab c.base.length cb, .int .i64 c.cur, .slice am c.mine.length cm, .string c.key, .slice aa c.ask.length ca, .int .i64 c.keys]) := (((by rw [hwa]; exact Cs.new w [.string c.who, .string c.fo, .slice ab c.base.length cb, .int .i64 c.cur, .slice am c.mine.length cm, .string c.key, .slice aa c.ask.length ca, .int .i64 c.keys] _ : Cs wa w.heap.size [.string c.who, .string c.fo, .slice ab c.base.length cb, .int .i64 c.cur, .slice am c.mine.length cm, .string c.key, .slice aa c.ask.length ca, .int .i64 c.keys]).below bwb).below bwz : Cs wz w.heap.size _)
  have HC : Hid (Cs wz (w.heap.size + 1) [.int .i64 x.k, .string x.p, .string x.q, .string x.t, .int .i64 x.b]) := ((by rw [← sa, hwb]; exact Cs.new wa [.int .i64 x.k, .string x.p, .string x.q, .string x.t, .int .i64 x.b] _ : Cs wb (w.heap.size + 1) [.int .i64 x.k, .string x.p, .string x.q, .string x.t, .int .i64 x.b]).below bwz : Cs wz (w.heap.size + 1) _)
  have HY : Hid (Cs wz (w.heap.size + 1 + 1) zs) := (by rw [← sb, hwz]; exact Cs.new wb zs _ : Cs wz (w.heap.size + 1 + 1) zs)
  have hNz : w.heap.size + 1 + 1 < wz.heap.size := HY.out.lt
  have hwzz : (((w.alloc (.cells #[.string c.who, .string c.fo, .slice ab c.base.length cb, .int .i64 c.cur, .slice am c.mine.length cm, .string c.key, .slice aa c.ask.length ca, .int .i64 c.keys] 25)).alloc (.cells #[.int .i64 x.k, .string x.p, .string x.q, .string x.t, .int .i64 x.b] 35)).alloc (.cells #[.string ⟨#[]⟩, .string ⟨#[]⟩, .slice none 0 0, .int .i64 0, .slice none 0 0, .string ⟨#[]⟩, .slice none 0 0, .int .i64 0] 25)) = wz := by rw [hwz, hwb, hwa]
  have HWZ := hid hwzz
  clear hwa hwb hwz bwa bwb bwz sa sb hwzz
  have HNO : Hid (∀ z : Bool, Value.bool z ∉ zs) := (fun z hz => by simp at hz : ∀ z : Bool, Value.bool z ∉ zs)
  by_cases hx : x.b = -1
  · have hxb := hid hx
    have hxi : (x.b == -1) = true := by simpa using hx
    have hxn : (x.b != -1) = false := by simpa using hx
    clear hx
    go_enter Tryz.func16, Tryz.ntmps16
    go_upto_region 1 with fail
    rw [HWZ.out]
    clear HWZ
    have p4 := HX.out.cell 4 rfl
    have z0 := HC.out.cell 0 rfl
    have z1 := HC.out.cell 1 rfl
    have z2 := HC.out.cell 2 rfl
    have z3 := HC.out.cell 3 rfl
    have z4 := HC.out.cell 4 rfl
    go_wp2_with fail
    refine (changeOf_any c.mine _ x.k x.p x.q x.t x.b 1 _ (HLM.out.below hbz) hp hq ht ((Pp.good_iff _).1 HG.out) (by decide)).mono ?_
    rintro e w3 ⟨u3, rfl, hl3, hb3⟩
    have hs3 := hb3.size
    have HX3 := hid (HX.out.below hb3)
    have HY3 := hid (HY.out.below hb3)
    have hb03 := below_tr hbz hb3
    clear p4 z0 z1 z2 z3 z4
    by_cases h0 : Pp.appE c.mine ⟨x.k, x.p, x.q, x.t, x.b⟩ 1 = 0
    · have HOK : Hid (Cy.eoR c x = ⟨c.who, c.fo, c.base, c.cur, Pp.chdR c.mine x 1, c.key, c.ask, c.keys⟩ ∧ r = 0) := (by
        have h3 : Cy.eoE c x = 0 := by rw [Cy.eoE, if_pos hxb.out]; exact h0
        exact ⟨by rw [Cy.eoR, if_pos h3], by rw [HR.out, h3]⟩ : Cy.eoR c x = ⟨c.who, c.fo, c.base, c.cur, Pp.chdR c.mine x 1, c.key, c.ask, c.keys⟩ ∧ r = 0)
      have HL3 := hid (hl3 h0)
      obtain ⟨ua, uc, rfl, _⟩ := HL3.out
      rw [h0]
      clear hl3 h0
      obtain ⟨n, hn⟩ : ∃ n, n = (Pp.chdR c.mine ⟨x.k, x.p, x.q, x.t, x.b⟩ 1).length := ⟨_, rfl⟩
      rw [← hn]
      have HNL := hid hn
      clear hn
      obtain ⟨w4, hw4⟩ : ∃ w4, w4 = w3.setCell ⟨w.heap.size, 4, none⟩ (.slice ua n uc) := ⟨_, rfl⟩
      have hg4 : w3.grownBy w4 (some w.heap.size) := by rw [hw4]; exact nb_set _ _ _ _
      have HX4 : Hid (Cs w4 w.heap.size [.string c.who, .string c.fo, .slice ab c.base.length cb, .int .i64 c.cur, .slice ua n uc, .string c.key, .slice aa c.ask.length ca, .int .i64 c.keys]) := (by rw [hw4]; exact HX3.out.set 4 _ : Cs w4 w.heap.size _)
      have HY4 := hid (HY3.out.nb hg4 (by omega))
      have hb4 : Below w.heap.size w w4 := by rw [hw4]; exact hb03.setCell (p := ⟨w.heap.size, 4, none⟩) (Nat.le_refl _) _
      have hs4 := hg4.size
      have p4 := HX3.out.cell 4 rfl
      have f4 := HX3.out.fr 4
      go_upto_region 7 with fail
      rw [← hw4]
      clear hw4 p4 f4
      have p0 := HX4.out.cell 0 rfl
      have p1 := HX4.out.cell 1 rfl
      have p2 := HX4.out.cell 2 rfl
      have p3 := HX4.out.cell 3 rfl
      have p4 := HX4.out.cell 4 rfl
      have p5 := HX4.out.cell 5 rfl
      have p6 := HX4.out.cell 6 rfl
      have p7 := HX4.out.cell 7 rfl
      have y0 := HY4.out.cell 0 rfl
      have g0 := HY4.out.fr 0
      have y1 := HY4.out.cell 1 rfl
      have g1 := HY4.out.fr 1
      have y2 := HY4.out.cell 2 rfl
      have g2 := HY4.out.fr 2
      have y3 := HY4.out.cell 3 rfl
      have g3 := HY4.out.fr 3
      have y4 := HY4.out.cell 4 rfl
      have g4 := HY4.out.fr 4
      have y5 := HY4.out.cell 5 rfl
      have g5 := HY4.out.fr 5
      have y6 := HY4.out.cell 6 rfl
      have g6 := HY4.out.fr 6
      have y7 := HY4.out.cell 7 rfl
      have g7 := HY4.out.fr 7
      have hne : ¬ w.heap.size = w.heap.size + 1 + 1 := by omega
      go_wp2_with fail
      refine bodyPost_ret (v := .tuple #[.agg #[.string c.who, .string c.fo, .slice ab c.base.length cb, .int .i64 c.cur, .slice ua n uc, .string c.key, .slice aa c.ask.length ca, .int .i64 c.keys], .int .i64 0]) (by simp [results, Tryz.results16, go_sem, y0, y1, y2, y3, y4, y5, y6, y7]) rfl ⟨_, by rw [HOK.out.2], ?_, ?_⟩
      · rw [HOK.out.1]
        have hgz : w4.grownBy _ (some (w.heap.size + 1 + 1)) := (grown_on (grown_on (grown_on (grown_on (grown_on (grown_on (grown_on (nb_set w4 (w.heap.size + 1 + 1) 0 (.string c.who)) (nb_set _ (w.heap.size + 1 + 1) 1 (.string c.fo))) (nb_set _ (w.heap.size + 1 + 1) 2 (.slice ab c.base.length cb))) (nb_set _ (w.heap.size + 1 + 1) 3 (.int .i64 c.cur))) (nb_set _ (w.heap.size + 1 + 1) 4 (.slice ua n uc))) (nb_set _ (w.heap.size + 1 + 1) 5 (.string c.key))) (nb_set _ (w.heap.size + 1 + 1) 6 (.slice aa c.ask.length ca))) (nb_set _ (w.heap.size + 1 + 1) 7 (.int .i64 c.keys)))
        have hbl := ((((((((hb4.setCell (p := ⟨w.heap.size + 1 + 1, 0, none⟩) (by show _ ≤ w.heap.size + 1 + 1; omega) (.string c.who)).setCell (p := ⟨w.heap.size + 1 + 1, 1, none⟩) (by show _ ≤ w.heap.size + 1 + 1; omega) (.string c.fo)).setCell (p := ⟨w.heap.size + 1 + 1, 2, none⟩) (by show _ ≤ w.heap.size + 1 + 1; omega) (.slice ab c.base.length cb)).setCell (p := ⟨w.heap.size + 1 + 1, 3, none⟩) (by show _ ≤ w.heap.size + 1 + 1; omega) (.int .i64 c.cur)).setCell (p := ⟨w.heap.size + 1 + 1, 4, none⟩) (by show _ ≤ w.heap.size + 1 + 1; omega) (.slice ua n uc)).setCell (p := ⟨w.heap.size + 1 + 1, 5, none⟩) (by show _ ≤ w.heap.size + 1 + 1; omega) (.string c.key)).setCell (p := ⟨w.heap.size + 1 + 1, 6, none⟩) (by show _ ≤ w.heap.size + 1 + 1; omega) (.slice aa c.ask.length ca)).setCell (p := ⟨w.heap.size + 1 + 1, 7, none⟩) (by show _ ≤ w.heap.size + 1 + 1; omega) (.int .i64 c.keys))
        refine ⟨_, _, _, rfl, HLB.out.below hbl, ?_, HLC.out.below hbl⟩
        have HL3' : Lies w3 (.slice ua n uc) (Pp.chdR c.mine x 1) := by rw [HNL.out]; exact HL3.out
        exact (HL3'.offbox HX3.out (fun z hz => by simp at hz) hg4).offbox HY4.out HNO.out hgz
      · exact ((((((((hb4.setCell (p := ⟨w.heap.size + 1 + 1, 0, none⟩) (by show _ ≤ w.heap.size + 1 + 1; omega) _).setCell (p := ⟨w.heap.size + 1 + 1, 1, none⟩) (by show _ ≤ w.heap.size + 1 + 1; omega) _).setCell (p := ⟨w.heap.size + 1 + 1, 2, none⟩) (by show _ ≤ w.heap.size + 1 + 1; omega) _).setCell (p := ⟨w.heap.size + 1 + 1, 3, none⟩) (by show _ ≤ w.heap.size + 1 + 1; omega) _).setCell (p := ⟨w.heap.size + 1 + 1, 4, none⟩) (by show _ ≤ w.heap.size + 1 + 1; omega) _).setCell (p := ⟨w.heap.size + 1 + 1, 5, none⟩) (by show _ ≤ w.heap.size + 1 + 1; omega) _).setCell (p := ⟨w.heap.size + 1 + 1, 6, none⟩) (by show _ ≤ w.heap.size + 1 + 1; omega) _).setCell (p := ⟨w.heap.size + 1 + 1, 7, none⟩) (by show _ ≤ w.heap.size + 1 + 1; omega) _)
    · have HE : Hid (r = Pp.appE c.mine ⟨x.k, x.p, x.q, x.t, x.b⟩ 1 ∧ Cy.eoR c x = zeroN) := (by
        have h3 : Cy.eoE c x = Pp.appE c.mine ⟨x.k, x.p, x.q, x.t, x.b⟩ 1 := by rw [Cy.eoE, if_pos hxb.out]
        exact ⟨by rw [HR.out, h3], by rw [Cy.eoR, h3, if_neg h0]⟩ : r = Pp.appE c.mine ⟨x.k, x.p, x.q, x.t, x.b⟩ 1 ∧ Cy.eoR c x = zeroN)
      have h0' : (Pp.appE c.mine ⟨x.k, x.p, x.q, x.t, x.b⟩ 1 != 0) = true := by simpa using h0
      rw [← HE.out.1] at h0' ⊢
      clear hl3 h0
      have y0 := HY3.out.cell 0 rfl
      have g0 := HY3.out.fr 0
      have y1 := HY3.out.cell 1 rfl
      have g1 := HY3.out.fr 1
      have y2 := HY3.out.cell 2 rfl
      have g2 := HY3.out.fr 2
      have y3 := HY3.out.cell 3 rfl
      have g3 := HY3.out.fr 3
      have y4 := HY3.out.cell 4 rfl
      have g4 := HY3.out.fr 4
      have y5 := HY3.out.cell 5 rfl
      have g5 := HY3.out.fr 5
      have y6 := HY3.out.cell 6 rfl
      have g6 := HY3.out.fr 6
      have y7 := HY3.out.cell 7 rfl
      have g7 := HY3.out.fr 7
      go_wp2_with fail
      refine bodyPost_ret (v := .tuple #[.agg #[.string ⟨#[]⟩, .string ⟨#[]⟩, .slice none 0 0, .int .i64 0, .slice none 0 0, .string ⟨#[]⟩, .slice none 0 0, .int .i64 0], .int .i64 r]) (by simp [results, Tryz.results16, go_sem, y0, y1, y2, y3, y4, y5, y6, y7]) rfl ⟨_, rfl, ?_, ?_⟩
      · rw [HE.out.2]
        exact (ownN_zero 0 _).lies
      · exact ((((((((hb03.setCell (p := ⟨w.heap.size + 1 + 1, 0, none⟩) (by show _ ≤ w.heap.size + 1 + 1; omega) _).setCell (p := ⟨w.heap.size + 1 + 1, 1, none⟩) (by show _ ≤ w.heap.size + 1 + 1; omega) _).setCell (p := ⟨w.heap.size + 1 + 1, 2, none⟩) (by show _ ≤ w.heap.size + 1 + 1; omega) _).setCell (p := ⟨w.heap.size + 1 + 1, 3, none⟩) (by show _ ≤ w.heap.size + 1 + 1; omega) _).setCell (p := ⟨w.heap.size + 1 + 1, 4, none⟩) (by show _ ≤ w.heap.size + 1 + 1; omega) _).setCell (p := ⟨w.heap.size + 1 + 1, 5, none⟩) (by show _ ≤ w.heap.size + 1 + 1; omega) _).setCell (p := ⟨w.heap.size + 1 + 1, 6, none⟩) (by show _ ≤ w.heap.size + 1 + 1; omega) _).setCell (p := ⟨w.heap.size + 1 + 1, 7, none⟩) (by show _ ≤ w.heap.size + 1 + 1; omega) _)
  · have HE : Hid (r = 3 ∧ Cy.eoR c x = zeroN) := (by
      have h3 : Cy.eoE c x = 3 := by rw [Cy.eoE, if_neg hx]
      exact ⟨by rw [HR.out, h3], by rw [Cy.eoR, h3, if_neg (by decide)]⟩ : r = 3 ∧ Cy.eoR c x = zeroN)
    have hxn : (x.b != -1) = true := by simpa using hx
    have hxi : (x.b == -1) = false := by simpa using hx
    go_enter Tryz.func16, Tryz.ntmps16
    go_upto_region 1 with fail
    rw [HWZ.out]
    clear HWZ
    have z4 := HC.out.cell 4 rfl
    have y0 := HY.out.cell 0 rfl
    have g0 := HY.out.fr 0
    have y1 := HY.out.cell 1 rfl
    have g1 := HY.out.fr 1
    have y2 := HY.out.cell 2 rfl
    have g2 := HY.out.fr 2
    have y3 := HY.out.cell 3 rfl
    have g3 := HY.out.fr 3
    have y4 := HY.out.cell 4 rfl
    have g4 := HY.out.fr 4
    have y5 := HY.out.cell 5 rfl
    have g5 := HY.out.fr 5
    have y6 := HY.out.cell 6 rfl
    have g6 := HY.out.fr 6
    have y7 := HY.out.cell 7 rfl
    have g7 := HY.out.fr 7
    go_wp2_with fail
    refine bodyPost_ret (v := .tuple #[.agg #[.string ⟨#[]⟩, .string ⟨#[]⟩, .slice none 0 0, .int .i64 0, .slice none 0 0, .string ⟨#[]⟩, .slice none 0 0, .int .i64 0], .int .i64 3]) (by simp [results, Tryz.results16, go_sem, y0, y1, y2, y3, y4, y5, y6, y7]) rfl ⟨_, by rw [HE.out.1], ?_, ?_⟩
    · rw [HE.out.2]
      exact (ownN_zero 0 _).lies
    · exact ((((((((hbz.setCell (p := ⟨w.heap.size + 1 + 1, 0, none⟩) (by show _ ≤ w.heap.size + 1 + 1; omega) _).setCell (p := ⟨w.heap.size + 1 + 1, 1, none⟩) (by show _ ≤ w.heap.size + 1 + 1; omega) _).setCell (p := ⟨w.heap.size + 1 + 1, 2, none⟩) (by show _ ≤ w.heap.size + 1 + 1; omega) _).setCell (p := ⟨w.heap.size + 1 + 1, 3, none⟩) (by show _ ≤ w.heap.size + 1 + 1; omega) _).setCell (p := ⟨w.heap.size + 1 + 1, 4, none⟩) (by show _ ≤ w.heap.size + 1 + 1; omega) _).setCell (p := ⟨w.heap.size + 1 + 1, 5, none⟩) (by show _ ≤ w.heap.size + 1 + 1; omega) _).setCell (p := ⟨w.heap.size + 1 + 1, 6, none⟩) (by show _ ≤ w.heap.size + 1 + 1; omega) _).setCell (p := ⟨w.heap.size + 1 + 1, 7, none⟩) (by show _ ≤ w.heap.size + 1 + 1; omega) _)
end Go.Proofs.YtflekhcmipmelaaGreatDoor
