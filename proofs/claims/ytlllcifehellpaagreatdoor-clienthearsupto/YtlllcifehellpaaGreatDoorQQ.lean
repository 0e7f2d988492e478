/- What the reference's HearOf answers. What Clean answers; the reference's SameCopies of the same copies. What the law ClientHears answers: true, for every client, every kind and every answer. -/
import Derived.Test.YtlllcifehellpaaGreatDoorQP
import Derived.Test.YtlllcifehellpaaGreatDoorJ15
import Derived.Test.YtlllcifehellpaaGreatDoorM15
import Derived.Test.YtlllcifehellpaaGreatDoorQD
import Derived.Test.YtlllcifehellpaaGreatDoorQM
import Derived.Test.YtlllcifehellpaaGreatDoorPN
set_option linter.unusedSimpArgs false
set_option linter.unusedVariables false
namespace Go.Proofs.YtlllcifehellpaaGreatDoor
open Go.RowKit


set_option maxRecDepth 100000 in
set_option maxHeartbeats 8000000 in
theorem hearOf_any (c : Cn) (k : Int) (a : An) (v va : Value) (w : World) (hv : LiesN w v c) (ha : LiesA w va a) (hs : SizedN c) (hsa : SizedA a) (hpb : ∀ e ∈ c.base, e.path.size ≤ 1000000000) (hpt : ∀ e ∈ a.pg.tree, e.path.size ≤ 1000000000) (hpc : SizedO 1000000000 a.pg.cos) (h0 : Cy.chE c = 0) :
    Calls Tryz.prog 6 #[v, .int .i64 k, va] w fun e w' => ∃ u vk, e = .returned (.tuple #[u, vk, .int .i64 (Cy.heE c k a)]) ∧ LiesN w' u (Cy.heC c k a) ∧ LiesK w' vk (Cy.heK c k a) ∧ Own w.heap.size w' vk ∧ Below w.heap.size w w' := by
  have HPB := hid hpb
  have HPT := hid hpt
  have HPC := hid hpc
  have HG : Hid (Pp.Good c.base ∧ Pp.Good c.mine) := (⟨(Pp.good_iff _).1 (Cy.ch_parts h0).2.1, (Pp.good_iff _).1 (Cy.ch_parts h0).2.2.1⟩ : Pp.Good c.base ∧ Pp.Good c.mine)
  clear hpb hpt hpc
  have HV := hid hv
  have HA := hid ha
  have HS := hid hs
  have HSA := hid hsa
  obtain ⟨vb, vm, vq, rfl, lb, lm, la⟩ := hv
  have HLB := hid lb
  have HLM := hid lm
  have HLC := hid la
  obtain ⟨ab, cb, rfl, _⟩ := lb
  obtain ⟨am, cm, rfl, _⟩ := lm
  obtain ⟨aa, ca, rfl, _⟩ := la
  obtain ⟨vt, vc, rfl, lt, lc⟩ := ha
  have HLT := hid lt
  have HLO := hid lc
  obtain ⟨xt, yt, rfl, _⟩ := lt
  obtain ⟨xc, yc, rfl⟩ := liesO_shape lc
  clear hs hsa lc
  obtain ⟨wa, hwa⟩ : ∃ wa, wa = w.alloc (.cells #[.string c.who, .string c.fo, .slice ab c.base.length cb, .int .i64 c.cur, .slice am c.mine.length cm, .string c.key, .slice aa c.ask.length ca, .int .i64 c.keys] 25) := ⟨_, rfl⟩
  obtain ⟨wb, hwb⟩ : ∃ wb, wb = wa.alloc (.cells #[.int .i64 a.err, .int .i64 a.num, .bool a.pg.reset, .slice xt a.pg.tree.length yt, .slice xc a.pg.cos.length yc, .int .i64 a.pg.cur, .bool a.pg.more] 31) := ⟨_, rfl⟩
  obtain ⟨wz, hwz⟩ : ∃ wz, wz = wb.alloc (.cells #[.string ⟨#[]⟩, .string ⟨#[]⟩, .slice none 0 0, .int .i64 0, .slice none 0 0, .string ⟨#[]⟩, .slice none 0 0, .int .i64 0] 25) := ⟨_, rfl⟩
  have sa : wa.heap.size = w.heap.size + 1 := by rw [hwa]; simp
  have sb : wb.heap.size = w.heap.size + 1 + 1 := by rw [hwb]; simp [sa]
  have bwa : Below w.heap.size w wa := by rw [hwa]; exact (Below.refl _ _).alloc (Nat.le_refl _) _
  have bwb : Below wa.heap.size wa wb := by rw [hwb]; exact (Below.refl _ _).alloc (Nat.le_refl _) _
  have bwz : Below wb.heap.size wb wz := by rw [hwz]; exact (Below.refl _ _).alloc (Nat.le_refl _) _
  have hbz : Below w.heap.size w wz := below_tr bwa (below_tr bwb bwz)
  have HX : Hid (Cs wz w.heap.size [.string c.who, .string c.fo, .slice ab c.base.length cb, .int .i64 c.cur, .slice am c.mine.length cm, .string c.key, .slice aa c.ask.length ca, .int .i64 c.keys]) := (((by rw [hwa]; exact Cs.new w [.string c.who, .string c.fo, .slice ab c.base.length cb, .int .i64 c.cur, .slice am c.mine.length cm, .string c.key, .slice aa c.ask.length ca, .int .i64 c.keys] _ : Cs wa w.heap.size [.string c.who, .string c.fo, .slice ab c.base.length cb, .int .i64 c.cur, .slice am c.mine.length cm, .string c.key, .slice aa c.ask.length ca, .int .i64 c.keys]).below bwb).below bwz : Cs wz w.heap.size _)
  have HC : Hid (Cs wz (w.heap.size + 1) [.int .i64 a.err, .int .i64 a.num, .bool a.pg.reset, .slice xt a.pg.tree.length yt, .slice xc a.pg.cos.length yc, .int .i64 a.pg.cur, .bool a.pg.more]) := ((by rw [← sa, hwb]; exact Cs.new wa [.int .i64 a.err, .int .i64 a.num, .bool a.pg.reset, .slice xt a.pg.tree.length yt, .slice xc a.pg.cos.length yc, .int .i64 a.pg.cur, .bool a.pg.more] _ : Cs wb (w.heap.size + 1) [.int .i64 a.err, .int .i64 a.num, .bool a.pg.reset, .slice xt a.pg.tree.length yt, .slice xc a.pg.cos.length yc, .int .i64 a.pg.cur, .bool a.pg.more]).below bwz : Cs wz (w.heap.size + 1) _)
  have HY : Hid (Cs wz (w.heap.size + 1 + 1) zs) := (by rw [← sb, hwz]; exact Cs.new wb zs _ : Cs wz (w.heap.size + 1 + 1) zs)
  have hNz : w.heap.size + 1 + 1 < wz.heap.size := HY.out.lt
  have hwzz : (((w.alloc (.cells #[.string c.who, .string c.fo, .slice ab c.base.length cb, .int .i64 c.cur, .slice am c.mine.length cm, .string c.key, .slice aa c.ask.length ca, .int .i64 c.keys] 25)).alloc (.cells #[.int .i64 a.err, .int .i64 a.num, .bool a.pg.reset, .slice xt a.pg.tree.length yt, .slice xc a.pg.cos.length yc, .int .i64 a.pg.cur, .bool a.pg.more] 31)).alloc (.cells #[.string ⟨#[]⟩, .string ⟨#[]⟩, .slice none 0 0, .int .i64 0, .slice none 0 0, .string ⟨#[]⟩, .slice none 0 0, .int .i64 0] 25)) = wz := by rw [hwz, hwb, hwa]
  have HWZ := hid hwzz
  have n1 : ¬ w.heap.size = w.heap.size + 1 + 1 := by omega
  have n2 : ¬ w.heap.size + 1 = w.heap.size + 1 + 1 := by omega
  have n3 : ¬ w.heap.size + 1 + 1 = w.heap.size + 1 := by omega
  clear hwa hwb hwz bwa bwb bwz sa sb hwzz
  by_cases h1 : k = 1
  · have HQ : Hid (Cy.heE c k a = 0 ∧ Cy.heC c k a = Cy.hdC c ∧ Cy.heK c k a = []) := (⟨by rw [Cy.heE, if_neg (fun x => x h0), if_pos h1], by rw [Cy.heC, if_neg (fun x => x h0), if_pos h1], by rw [Cy.heK, if_neg (fun x => x h0), if_pos h1]⟩ : Cy.heE c k a = 0 ∧ Cy.heC c k a = Cy.hdC c ∧ Cy.heK c k a = [])
    have hk1 : (k == 1) = true := by simpa using h1
    rw [HQ.out.1]
    clear h0 h1
    obtain ⟨w3, hw3⟩ : ∃ w3, w3 = (wz.setCell ⟨w.heap.size, 5, none⟩ (.string ⟨#[]⟩)).setCell ⟨w.heap.size, 6, none⟩ (.slice none 0 0) := ⟨_, rfl⟩
    have g3 : wz.grownBy w3 (some w.heap.size) := by rw [hw3]; exact grown_on (nb_set wz w.heap.size 5 _) (nb_set _ w.heap.size 6 _)
    have HX3 : Hid (Cs w3 w.heap.size [.string c.who, .string c.fo, .slice ab c.base.length cb, .int .i64 c.cur, .slice am c.mine.length cm, .string ⟨#[]⟩, .slice none 0 0, .int .i64 c.keys]) := (by rw [hw3]; exact (HX.out.set 5 _).set 6 _ : Cs w3 w.heap.size _)
    have HY3 := hid (HY.out.nb g3 (by omega))
    have hb3 : Below w.heap.size w w3 := by rw [hw3]; exact (hbz.setCell (p := ⟨w.heap.size, 5, none⟩) (Nat.le_refl _) _).setCell (p := ⟨w.heap.size, 6, none⟩) (Nat.le_refl _) _
    have s3 := g3.size
    go_enter Tryz.func6, Tryz.ntmps6
    go_upto_region 1 with fail
    rw [HWZ.out]
    clear HWZ
    have p5 := HX.out.cell 5 rfl
    have f5 := HX.out.fr 5
    have p6 := HX.out.cell 6 rfl
    have f6 := HX.out.fr 6
    go_upto_region 3 with fail
    rw [← hw3]
    clear hw3 p5 p6 f5 f6
    have p0 := HX3.out.cell 0 rfl
    have p1 := HX3.out.cell 1 rfl
    have p2 := HX3.out.cell 2 rfl
    have p3 := HX3.out.cell 3 rfl
    have p4 := HX3.out.cell 4 rfl
    have p5 := HX3.out.cell 5 rfl
    have p6 := HX3.out.cell 6 rfl
    have p7 := HX3.out.cell 7 rfl
    have y0 := HY3.out.cell 0 rfl
    have g0 := HY3.out.fr 0
    have y1 := HY3.out.cell 1 rfl
    have g1 := HY3.out.fr 1
    have y2 := HY3.out.cell 2 rfl
    have g2 := HY3.out.fr 2
    have y3 := HY3.out.cell 3 rfl
    have g3 := HY3.out.fr 3
    have y4 := HY3.out.cell 4 rfl
    have g4 := HY3.out.fr 4
    have y5 := HY3.out.cell 5 rfl
    have g5 := HY3.out.fr 5
    have y6 := HY3.out.cell 6 rfl
    have g6 := HY3.out.fr 6
    have y7 := HY3.out.cell 7 rfl
    have g7 := HY3.out.fr 7
    go_wp2_with fail
    have hbl := ((((((((hb3.setCell (p := ⟨w.heap.size + 1 + 1, 0, none⟩) (by show _ ≤ w.heap.size + 1 + 1; omega) (.string c.who)).setCell (p := ⟨w.heap.size + 1 + 1, 1, none⟩) (by show _ ≤ w.heap.size + 1 + 1; omega) (.string c.fo)).setCell (p := ⟨w.heap.size + 1 + 1, 2, none⟩) (by show _ ≤ w.heap.size + 1 + 1; omega) (.slice ab c.base.length cb)).setCell (p := ⟨w.heap.size + 1 + 1, 3, none⟩) (by show _ ≤ w.heap.size + 1 + 1; omega) (.int .i64 c.cur)).setCell (p := ⟨w.heap.size + 1 + 1, 4, none⟩) (by show _ ≤ w.heap.size + 1 + 1; omega) (.slice am c.mine.length cm)).setCell (p := ⟨w.heap.size + 1 + 1, 5, none⟩) (by show _ ≤ w.heap.size + 1 + 1; omega) (.string ⟨#[]⟩)).setCell (p := ⟨w.heap.size + 1 + 1, 6, none⟩) (by show _ ≤ w.heap.size + 1 + 1; omega) (.slice none 0 0)).setCell (p := ⟨w.heap.size + 1 + 1, 7, none⟩) (by show _ ≤ w.heap.size + 1 + 1; omega) (.int .i64 c.keys))
    refine bodyPost_ret (v := .tuple #[.agg #[.string c.who, .string c.fo, .slice ab c.base.length cb, .int .i64 c.cur, .slice am c.mine.length cm, .string ⟨#[]⟩, .slice none 0 0, .int .i64 c.keys], .slice none 0 0, .int .i64 0]) (by simp [results, Tryz.results6, go_sem, y0, y1, y2, y3, y4, y5, y6, y7]) rfl ⟨_, _, rfl, ?_, ?_, own_nil _ _, hbl⟩
    · rw [HQ.out.2.1]
      exact ⟨_, _, _, rfl, HLB.out.below hbl, HLM.out.below hbl, liesC_nil _⟩
    · rw [HQ.out.2.2]; exact LiesK.nil _
  · by_cases h2 : k = 2
    · have HQ0 : Cy.heE c k a = Cy.tnE c a := by rw [Cy.heE, if_neg (fun x => x h0), if_neg h1, if_pos h2]
      have HQ : Hid (Cy.heC c k a = Cy.tnC c a ∧ Cy.heK c k a = Cy.tnK c a) := (⟨by rw [Cy.heC, if_neg (fun x => x h0), if_neg h1, if_pos h2], by rw [Cy.heK, if_neg (fun x => x h0), if_neg h1, if_pos h2]⟩ : Cy.heC c k a = Cy.tnC c a ∧ Cy.heK c k a = Cy.tnK c a)
      have hk1 : (k == 1) = false := by simpa using h1
      have hk2 : (k != 2) = false := by simpa using h2
      have hk3 : (k == 2) = true := by simpa using h2
      rw [HQ0]
      clear h0 h1 h2 HQ0
      obtain ⟨r, hr⟩ : ∃ r, r = Cy.tnE c a := ⟨_, rfl⟩
      rw [← hr]
      have HR := hid hr
      clear hr
      have HZE : Hid (¬ r = 0 → Cy.tnC c a = zeroN ∧ Cy.tnK c a = []) := (fun h => by rw [HR.out] at h; exact ⟨by rw [Cy.tnC, if_neg h], by rw [Cy.tnK, if_neg h]⟩ : ¬ r = 0 → Cy.tnC c a = zeroN ∧ Cy.tnK c a = [])
      by_cases he : a.err = 0
      · by_cases hrs : a.pg.reset = true ∧ a.pg.cur < c.cur
        · have hr4 : r = 4 := by rw [HR.out, Cy.tnE, if_neg (fun x => x he), if_pos hrs]
          have HZ4 := hid (HZE.out (by rw [hr4]; decide))
          subst hr4
          have heb : (a.err == 0) = true := by simpa using he
          have heb2 : (a.err != 0) = false := by simpa using he
          have HRS := hid hrs
          clear he
          clear hrs
          go_enter Tryz.func6, Tryz.ntmps6
          go_upto_region 1 with fail
          rw [HWZ.out]
          clear HWZ
          obtain ⟨hr1, hr2⟩ := HRS.out
          have p3 := HX.out.cell 3 rfl
          have t0 := HC.out.cell 0 rfl
          have t2 := HC.out.cell 2 rfl
          have t5 := HC.out.cell 5 rfl
          have y0 := HY.out.cell 0 rfl
          have g0 := HY.out.fr 0
          have y1 := HY.out.cell 1 rfl
          have g1 := HY.out.fr 1
          have y2 := HY.out.cell 2 rfl
          have g2 := HY.out.fr 2
          have y3 := HY.out.cell 3 rfl
          have g3 := HY.out.fr 3
          have y4 := HY.out.cell 4 rfl
          have g4 := HY.out.fr 4
          have y5 := HY.out.cell 5 rfl
          have g5 := HY.out.fr 5
          have y6 := HY.out.cell 6 rfl
          have g6 := HY.out.fr 6
          have y7 := HY.out.cell 7 rfl
          have g7 := HY.out.fr 7
          go_wp2_with fail
          refine bodyPost_ret (v := .tuple #[.agg #[.string ⟨#[]⟩, .string ⟨#[]⟩, .slice none 0 0, .int .i64 0, .slice none 0 0, .string ⟨#[]⟩, .slice none 0 0, .int .i64 0], .slice none 0 0, .int .i64 4]) (by simp [results, Tryz.results6, go_sem, y0, y1, y2, y3, y4, y5, y6, y7]) rfl ⟨_, _, rfl, ?_, ?_, own_nil _ _, ?_⟩
          · rw [HQ.out.1, HZ4.out.1]; exact (ownN_zero 0 _).lies
          · rw [HQ.out.2, HZ4.out.2]; exact LiesK.nil _
          · exact ((((((((hbz.setCell (p := ⟨w.heap.size + 1 + 1, 0, none⟩) (by show _ ≤ w.heap.size + 1 + 1; omega) _).setCell (p := ⟨w.heap.size + 1 + 1, 1, none⟩) (by show _ ≤ w.heap.size + 1 + 1; omega) _).setCell (p := ⟨w.heap.size + 1 + 1, 2, none⟩) (by show _ ≤ w.heap.size + 1 + 1; omega) _).setCell (p := ⟨w.heap.size + 1 + 1, 3, none⟩) (by show _ ≤ w.heap.size + 1 + 1; omega) _).setCell (p := ⟨w.heap.size + 1 + 1, 4, none⟩) (by show _ ≤ w.heap.size + 1 + 1; omega) _).setCell (p := ⟨w.heap.size + 1 + 1, 5, none⟩) (by show _ ≤ w.heap.size + 1 + 1; omega) _).setCell (p := ⟨w.heap.size + 1 + 1, 6, none⟩) (by show _ ≤ w.heap.size + 1 + 1; omega) _).setCell (p := ⟨w.heap.size + 1 + 1, 7, none⟩) (by show _ ≤ w.heap.size + 1 + 1; omega) _)
        · have heb : (a.err == 0) = true := by simpa using he
          have heb2 : (a.err != 0) = false := by simpa using he
          have HRR : Hid (r = if ¬ Jn.folE c.base c.cur a.pg = 0 then Jn.folE c.base c.cur a.pg else Mg.mE c.base c.mine (Jn.folR c.base c.cur a.pg)) := (by rw [HR.out, Cy.tnE, if_neg (fun x => x he), if_neg hrs] : r = if ¬ Jn.folE c.base c.cur a.pg = 0 then Jn.folE c.base c.cur a.pg else Mg.mE c.base c.mine (Jn.folR c.base c.cur a.pg))
          have hgo : a.pg.reset = false ∨ (a.pg.reset = true ∧ ¬ a.pg.cur < c.cur) := by
            cases h : a.pg.reset with
            | false => exact Or.inl rfl
            | true => exact Or.inr ⟨rfl, fun x => hrs ⟨h, x⟩⟩
          have HGO := hid hgo
          clear he hrs hgo
          rcases HGO.out with hg1 | ⟨hg1, hg2⟩
          · have HG1 := hid hg1
            clear hg1
            clear HGO
            go_enter Tryz.func6, Tryz.ntmps6
            go_upto_region 1 with fail
            rw [HWZ.out]
            clear HWZ
            have hg1 := HG1.out
            have p2 := HX.out.cell 2 rfl
            have p3 := HX.out.cell 3 rfl
            have t0 := HC.out.cell 0 rfl
            have t1 := HC.out.cell 1 rfl
            have t2 := HC.out.cell 2 rfl
            have t3 := HC.out.cell 3 rfl
            have t4 := HC.out.cell 4 rfl
            have t5 := HC.out.cell 5 rfl
            have t6 := HC.out.cell 6 rfl
            go_wp2_with fail
            refine (followOf_any c.base _ c.cur a.pg _ _ (HLB.out.below hbz) HPB.out ⟨_, _, by rw [HG1.out], HLT.out.below hbz, HLO.out.below hbz⟩ HPT.out HPC.out).mono ?_
            rintro e w1 ⟨u1, rfl, hl1, hb1⟩
            have hb01 := below_tr hbz hb1
            have HX1 := hid (HX.out.below hb1)
            have HY1 := hid (HY.out.below hb1)
            have s1 := hb1.size
            clear p2 p3 t0 t1 t2 t3 t4 t5 t6
            by_cases hf : Jn.folE c.base c.cur a.pg = 0
            · have HF := hid hf
              have hl1 := hl1 hf
              rw [hf]
              clear hf
              obtain ⟨T, hT⟩ : ∃ T, T = Jn.folR c.base c.cur a.pg := ⟨_, rfl⟩
              rw [← hT] at hl1
              have HT := hid hT
              have HTG : Hid (Pp.Good T) := (by rw [hT]; exact Jn.fol_good HF.out : Pp.Good T)
              obtain ⟨nn, hnn⟩ : ∃ nn, nn = Jn.folN c.base c.cur a.pg := ⟨_, rfl⟩
              rw [← hnn]
              have HNN := hid hnn
              clear hT hnn
              have HL1 := hid hl1
              obtain ⟨ta, tc, rfl, _⟩ := hl1
              have HME := hid (Mg.m_yes (B := c.base) (M := c.mine) (T := T) ((Pp.good_iff _).2 HG.out.1) ((Pp.good_iff _).2 HG.out.2) ((Pp.good_iff _).2 HTG.out))
              have p2 := HX1.out.cell 2 rfl
              have p4 := HX1.out.cell 4 rfl
              go_wp2_with fail
              refine (mergeOf_any c.base c.mine T _ _ _ _ (HLB.out.below hb01) (HLM.out.below hb01) HL1.out HG.out.1 HG.out.2 HTG.out).mono ?_
              rintro e w2 ⟨hn2, hs2, hb2⟩
              have hb02 := below_tr hb01 hb2
              have HX2 := hid (HX1.out.below hb2)
              have HY2 := hid (HY1.out.below hb2)
              have HL2 := hid (HL1.out.below hb2)
              have s2 := hb2.size
              clear p2 p4
              cases hm : Mg.mrg c.base c.mine T with
              | some XC =>
                obtain ⟨X, C⟩ := XC
                obtain ⟨ve, vk, rfl, hl2, hk2, ho2, ho3⟩ := hs2 X C hm
                have HMX := hid (Mg.m_some ((Pp.good_iff _).2 HG.out.1) ((Pp.good_iff _).2 HG.out.2) ((Pp.good_iff _).2 HTG.out) hm)
                have HOK : Hid (r = 0 ∧ Cy.tnC c a = ⟨c.who, c.fo, T, nn, X, c.key, c.ask, c.keys⟩ ∧ Cy.tnK c a = C) := (by
                  have h3 : r = 0 := by rw [HRR.out, if_neg (fun x => x HF.out), ← HT.out]; exact HMX.out.1
                  have h4 : Cy.tnE c a = 0 := by rw [← HR.out]; exact h3
                  exact ⟨h3, by rw [Cy.tnC, if_pos h4, ← HT.out, ← HNN.out, HMX.out.2.1], by rw [Cy.tnK, if_pos h4, ← HT.out, HMX.out.2.2]⟩ : r = 0 ∧ Cy.tnC c a = ⟨c.who, c.fo, T, nn, X, c.key, c.ask, c.keys⟩ ∧ Cy.tnK c a = C)
                have h0r := HOK.out.1
                subst h0r
                clear hm hn2 hs2
                have HV2 := hid hl2
                have HK2 := hid hk2
                have HO3 := hid ho3
                obtain ⟨ea, ec, rfl, _⟩ := hl2
                obtain ⟨ka, kc, rfl, _⟩ := hk2
                clear ho2 ho3
                obtain ⟨w3, hw3⟩ : ∃ w3, w3 = ((w2.setCell ⟨w.heap.size, 2, none⟩ (.slice ta T.length tc)).setCell ⟨w.heap.size, 3, none⟩ (.int .i64 nn)).setCell ⟨w.heap.size, 4, none⟩ (.slice ea X.length ec) := ⟨_, rfl⟩
                have g3 : w2.grownBy w3 (some w.heap.size) := by rw [hw3]; exact grown_on (grown_on (nb_set w2 w.heap.size 2 _) (nb_set _ w.heap.size 3 _)) (nb_set _ w.heap.size 4 _)
                have HX3 : Hid (Cs w3 w.heap.size [.string c.who, .string c.fo, .slice ta T.length tc, .int .i64 nn, .slice ea X.length ec, .string c.key, .slice aa c.ask.length ca, .int .i64 c.keys]) := (by rw [hw3]; exact ((HX2.out.set 2 _).set 3 _).set 4 _ : Cs w3 w.heap.size _)
                have HY3 := hid (HY2.out.nb g3 (by omega))
                have HL3 := hid (HL2.out.offbox HX2.out (fun z hz => by simp at hz) g3)
                have HV3 := hid (HV2.out.offbox HX2.out (fun z hz => by simp at hz) g3)
                have HK3 := hid (HK2.out.nbo g3 (fun b hb => by have := (HO3.out b hb).1; omega))
                have HP3 := hid (HO3.out.nb g3 (fun b hb => by have := (HO3.out b hb).1; omega))
                have hb3 : Below w.heap.size w w3 := by rw [hw3]; exact ((hb02.setCell (p := ⟨w.heap.size, 2, none⟩) (Nat.le_refl _) _).setCell (p := ⟨w.heap.size, 3, none⟩) (Nat.le_refl _) _).setCell (p := ⟨w.heap.size, 4, none⟩) (Nat.le_refl _) _
                have s3 := g3.size
                have p2 := HX2.out.cell 2 rfl
                have f2 := HX2.out.fr 2
                have p3 := HX2.out.cell 3 rfl
                have f3 := HX2.out.fr 3
                have p4 := HX2.out.cell 4 rfl
                have f4 := HX2.out.fr 4
                go_upto_region 17 with fail
                rw [← hw3]
                clear hw3 p2 p3 p4 f2 f3 f4
                have p0 := HX3.out.cell 0 rfl
                have p1 := HX3.out.cell 1 rfl
                have p2 := HX3.out.cell 2 rfl
                have p3 := HX3.out.cell 3 rfl
                have p4 := HX3.out.cell 4 rfl
                have p5 := HX3.out.cell 5 rfl
                have p6 := HX3.out.cell 6 rfl
                have p7 := HX3.out.cell 7 rfl
                have y0 := HY3.out.cell 0 rfl
                have g0 := HY3.out.fr 0
                have y1 := HY3.out.cell 1 rfl
                have g1 := HY3.out.fr 1
                have y2 := HY3.out.cell 2 rfl
                have g2 := HY3.out.fr 2
                have y3 := HY3.out.cell 3 rfl
                have g3 := HY3.out.fr 3
                have y4 := HY3.out.cell 4 rfl
                have g4 := HY3.out.fr 4
                have y5 := HY3.out.cell 5 rfl
                have g5 := HY3.out.fr 5
                have y6 := HY3.out.cell 6 rfl
                have g6 := HY3.out.fr 6
                have y7 := HY3.out.cell 7 rfl
                have g7 := HY3.out.fr 7
                go_wp2_with fail
                have gz : w3.grownBy _ (some (w.heap.size + 1 + 1)) := (grown_on (grown_on (grown_on (grown_on (grown_on (grown_on (grown_on (nb_set w3 (w.heap.size + 1 + 1) 0 (.string c.who)) (nb_set _ (w.heap.size + 1 + 1) 1 (.string c.fo))) (nb_set _ (w.heap.size + 1 + 1) 2 (.slice ta T.length tc))) (nb_set _ (w.heap.size + 1 + 1) 3 (.int .i64 nn))) (nb_set _ (w.heap.size + 1 + 1) 4 (.slice ea X.length ec))) (nb_set _ (w.heap.size + 1 + 1) 5 (.string c.key))) (nb_set _ (w.heap.size + 1 + 1) 6 (.slice aa c.ask.length ca))) (nb_set _ (w.heap.size + 1 + 1) 7 (.int .i64 c.keys)))
                have hbl := ((((((((hb3.setCell (p := ⟨w.heap.size + 1 + 1, 0, none⟩) (by show _ ≤ w.heap.size + 1 + 1; omega) (.string c.who)).setCell (p := ⟨w.heap.size + 1 + 1, 1, none⟩) (by show _ ≤ w.heap.size + 1 + 1; omega) (.string c.fo)).setCell (p := ⟨w.heap.size + 1 + 1, 2, none⟩) (by show _ ≤ w.heap.size + 1 + 1; omega) (.slice ta T.length tc)).setCell (p := ⟨w.heap.size + 1 + 1, 3, none⟩) (by show _ ≤ w.heap.size + 1 + 1; omega) (.int .i64 nn)).setCell (p := ⟨w.heap.size + 1 + 1, 4, none⟩) (by show _ ≤ w.heap.size + 1 + 1; omega) (.slice ea X.length ec)).setCell (p := ⟨w.heap.size + 1 + 1, 5, none⟩) (by show _ ≤ w.heap.size + 1 + 1; omega) (.string c.key)).setCell (p := ⟨w.heap.size + 1 + 1, 6, none⟩) (by show _ ≤ w.heap.size + 1 + 1; omega) (.slice aa c.ask.length ca)).setCell (p := ⟨w.heap.size + 1 + 1, 7, none⟩) (by show _ ≤ w.heap.size + 1 + 1; omega) (.int .i64 c.keys))
                refine bodyPost_ret (v := .tuple #[.agg #[.string c.who, .string c.fo, .slice ta T.length tc, .int .i64 nn, .slice ea X.length ec, .string c.key, .slice aa c.ask.length ca, .int .i64 c.keys], .slice ka C.length kc, .int .i64 0]) (by simp [results, Tryz.results6, go_sem, y0, y1, y2, y3, y4, y5, y6, y7]) rfl ⟨_, _, rfl, ?_, ?_, (HP3.out.nb gz (fun b hb => by have := (HP3.out b hb).1; omega)).mono (by omega), hbl⟩
                · rw [HQ.out.1, HOK.out.2.1]
                  exact ⟨_, _, _, rfl, HL3.out.offbox HY3.out (fun z hz => by simp at hz) gz, HV3.out.offbox HY3.out (fun z hz => by simp at hz) gz, HLC.out.below hbl⟩
                · rw [HQ.out.2, HOK.out.2.2]
                  exact HK3.out.nbo gz (fun b hb => by have := (HP3.out b hb).1; omega)
              | none =>
                obtain rfl := hn2 hm
                have hrm : r = 2 := by rw [HRR.out, if_neg (fun x => x HF.out), ← HT.out]; exact (Mg.m_none ((Pp.good_iff _).2 HG.out.1) ((Pp.good_iff _).2 HG.out.2) ((Pp.good_iff _).2 HTG.out) hm).1
                have HZ4 := hid (HZE.out (by rw [hrm]; decide))
                subst hrm
                clear hm hn2 hs2
                have y0 := HY2.out.cell 0 rfl
                have g0 := HY2.out.fr 0
                have y1 := HY2.out.cell 1 rfl
                have g1 := HY2.out.fr 1
                have y2 := HY2.out.cell 2 rfl
                have g2 := HY2.out.fr 2
                have y3 := HY2.out.cell 3 rfl
                have g3 := HY2.out.fr 3
                have y4 := HY2.out.cell 4 rfl
                have g4 := HY2.out.fr 4
                have y5 := HY2.out.cell 5 rfl
                have g5 := HY2.out.fr 5
                have y6 := HY2.out.cell 6 rfl
                have g6 := HY2.out.fr 6
                have y7 := HY2.out.cell 7 rfl
                have g7 := HY2.out.fr 7
                go_wp2_with fail
                refine bodyPost_ret (v := .tuple #[.agg #[.string ⟨#[]⟩, .string ⟨#[]⟩, .slice none 0 0, .int .i64 0, .slice none 0 0, .string ⟨#[]⟩, .slice none 0 0, .int .i64 0], .slice none 0 0, .int .i64 2]) (by simp [results, Tryz.results6, go_sem, y0, y1, y2, y3, y4, y5, y6, y7]) rfl ⟨_, _, rfl, ?_, ?_, own_nil _ _, ?_⟩
                · rw [HQ.out.1, HZ4.out.1]; exact (ownN_zero 0 _).lies
                · rw [HQ.out.2, HZ4.out.2]; exact LiesK.nil _
                · exact ((((((((hb02.setCell (p := ⟨w.heap.size + 1 + 1, 0, none⟩) (by show _ ≤ w.heap.size + 1 + 1; omega) _).setCell (p := ⟨w.heap.size + 1 + 1, 1, none⟩) (by show _ ≤ w.heap.size + 1 + 1; omega) _).setCell (p := ⟨w.heap.size + 1 + 1, 2, none⟩) (by show _ ≤ w.heap.size + 1 + 1; omega) _).setCell (p := ⟨w.heap.size + 1 + 1, 3, none⟩) (by show _ ≤ w.heap.size + 1 + 1; omega) _).setCell (p := ⟨w.heap.size + 1 + 1, 4, none⟩) (by show _ ≤ w.heap.size + 1 + 1; omega) _).setCell (p := ⟨w.heap.size + 1 + 1, 5, none⟩) (by show _ ≤ w.heap.size + 1 + 1; omega) _).setCell (p := ⟨w.heap.size + 1 + 1, 6, none⟩) (by show _ ≤ w.heap.size + 1 + 1; omega) _).setCell (p := ⟨w.heap.size + 1 + 1, 7, none⟩) (by show _ ≤ w.heap.size + 1 + 1; omega) _)
            · have hrm : r = Jn.folE c.base c.cur a.pg := by rw [HRR.out, if_pos hf]
              have HZ4 := hid (HZE.out (by rw [hrm]; exact hf))
              have hmb : (r != 0) = true := by rw [hrm]; simpa using hf
              rw [← hrm]
              clear hrm hf hl1
              have y0 := HY1.out.cell 0 rfl
              have g0 := HY1.out.fr 0
              have y1 := HY1.out.cell 1 rfl
              have g1 := HY1.out.fr 1
              have y2 := HY1.out.cell 2 rfl
              have g2 := HY1.out.fr 2
              have y3 := HY1.out.cell 3 rfl
              have g3 := HY1.out.fr 3
              have y4 := HY1.out.cell 4 rfl
              have g4 := HY1.out.fr 4
              have y5 := HY1.out.cell 5 rfl
              have g5 := HY1.out.fr 5
              have y6 := HY1.out.cell 6 rfl
              have g6 := HY1.out.fr 6
              have y7 := HY1.out.cell 7 rfl
              have g7 := HY1.out.fr 7
              go_wp2_with fail
              refine bodyPost_ret (v := .tuple #[.agg #[.string ⟨#[]⟩, .string ⟨#[]⟩, .slice none 0 0, .int .i64 0, .slice none 0 0, .string ⟨#[]⟩, .slice none 0 0, .int .i64 0], .slice none 0 0, .int .i64 r]) (by simp [results, Tryz.results6, go_sem, y0, y1, y2, y3, y4, y5, y6, y7]) rfl ⟨_, _, rfl, ?_, ?_, own_nil _ _, ?_⟩
              · rw [HQ.out.1, HZ4.out.1]; exact (ownN_zero 0 _).lies
              · rw [HQ.out.2, HZ4.out.2]; exact LiesK.nil _
              · exact ((((((((hb01.setCell (p := ⟨w.heap.size + 1 + 1, 0, none⟩) (by show _ ≤ w.heap.size + 1 + 1; omega) _).setCell (p := ⟨w.heap.size + 1 + 1, 1, none⟩) (by show _ ≤ w.heap.size + 1 + 1; omega) _).setCell (p := ⟨w.heap.size + 1 + 1, 2, none⟩) (by show _ ≤ w.heap.size + 1 + 1; omega) _).setCell (p := ⟨w.heap.size + 1 + 1, 3, none⟩) (by show _ ≤ w.heap.size + 1 + 1; omega) _).setCell (p := ⟨w.heap.size + 1 + 1, 4, none⟩) (by show _ ≤ w.heap.size + 1 + 1; omega) _).setCell (p := ⟨w.heap.size + 1 + 1, 5, none⟩) (by show _ ≤ w.heap.size + 1 + 1; omega) _).setCell (p := ⟨w.heap.size + 1 + 1, 6, none⟩) (by show _ ≤ w.heap.size + 1 + 1; omega) _).setCell (p := ⟨w.heap.size + 1 + 1, 7, none⟩) (by show _ ≤ w.heap.size + 1 + 1; omega) _)
          · have HG1 := hid hg1
            clear hg1
            clear HGO
            go_enter Tryz.func6, Tryz.ntmps6
            go_upto_region 1 with fail
            rw [HWZ.out]
            clear HWZ
            have hg1 := HG1.out
            have p2 := HX.out.cell 2 rfl
            have p3 := HX.out.cell 3 rfl
            have t0 := HC.out.cell 0 rfl
            have t1 := HC.out.cell 1 rfl
            have t2 := HC.out.cell 2 rfl
            have t3 := HC.out.cell 3 rfl
            have t4 := HC.out.cell 4 rfl
            have t5 := HC.out.cell 5 rfl
            have t6 := HC.out.cell 6 rfl
            go_wp2_with fail
            refine (followOf_any c.base _ c.cur a.pg _ _ (HLB.out.below hbz) HPB.out ⟨_, _, by rw [HG1.out], HLT.out.below hbz, HLO.out.below hbz⟩ HPT.out HPC.out).mono ?_
            rintro e w1 ⟨u1, rfl, hl1, hb1⟩
            have hb01 := below_tr hbz hb1
            have HX1 := hid (HX.out.below hb1)
            have HY1 := hid (HY.out.below hb1)
            have s1 := hb1.size
            clear p2 p3 t0 t1 t2 t3 t4 t5 t6
            by_cases hf : Jn.folE c.base c.cur a.pg = 0
            · have HF := hid hf
              have hl1 := hl1 hf
              rw [hf]
              clear hf
              obtain ⟨T, hT⟩ : ∃ T, T = Jn.folR c.base c.cur a.pg := ⟨_, rfl⟩
              rw [← hT] at hl1
              have HT := hid hT
              have HTG : Hid (Pp.Good T) := (by rw [hT]; exact Jn.fol_good HF.out : Pp.Good T)
              obtain ⟨nn, hnn⟩ : ∃ nn, nn = Jn.folN c.base c.cur a.pg := ⟨_, rfl⟩
              rw [← hnn]
              have HNN := hid hnn
              clear hT hnn
              have HL1 := hid hl1
              obtain ⟨ta, tc, rfl, _⟩ := hl1
              have HME := hid (Mg.m_yes (B := c.base) (M := c.mine) (T := T) ((Pp.good_iff _).2 HG.out.1) ((Pp.good_iff _).2 HG.out.2) ((Pp.good_iff _).2 HTG.out))
              have p2 := HX1.out.cell 2 rfl
              have p4 := HX1.out.cell 4 rfl
              go_wp2_with fail
              refine (mergeOf_any c.base c.mine T _ _ _ _ (HLB.out.below hb01) (HLM.out.below hb01) HL1.out HG.out.1 HG.out.2 HTG.out).mono ?_
              rintro e w2 ⟨hn2, hs2, hb2⟩
              have hb02 := below_tr hb01 hb2
              have HX2 := hid (HX1.out.below hb2)
              have HY2 := hid (HY1.out.below hb2)
              have HL2 := hid (HL1.out.below hb2)
              have s2 := hb2.size
              clear p2 p4
              cases hm : Mg.mrg c.base c.mine T with
              | some XC =>
                obtain ⟨X, C⟩ := XC
                obtain ⟨ve, vk, rfl, hl2, hk2, ho2, ho3⟩ := hs2 X C hm
                have HMX := hid (Mg.m_some ((Pp.good_iff _).2 HG.out.1) ((Pp.good_iff _).2 HG.out.2) ((Pp.good_iff _).2 HTG.out) hm)
                have HOK : Hid (r = 0 ∧ Cy.tnC c a = ⟨c.who, c.fo, T, nn, X, c.key, c.ask, c.keys⟩ ∧ Cy.tnK c a = C) := (by
                  have h3 : r = 0 := by rw [HRR.out, if_neg (fun x => x HF.out), ← HT.out]; exact HMX.out.1
                  have h4 : Cy.tnE c a = 0 := by rw [← HR.out]; exact h3
                  exact ⟨h3, by rw [Cy.tnC, if_pos h4, ← HT.out, ← HNN.out, HMX.out.2.1], by rw [Cy.tnK, if_pos h4, ← HT.out, HMX.out.2.2]⟩ : r = 0 ∧ Cy.tnC c a = ⟨c.who, c.fo, T, nn, X, c.key, c.ask, c.keys⟩ ∧ Cy.tnK c a = C)
                have h0r := HOK.out.1
                subst h0r
                clear hm hn2 hs2
                have HV2 := hid hl2
                have HK2 := hid hk2
                have HO3 := hid ho3
                obtain ⟨ea, ec, rfl, _⟩ := hl2
                obtain ⟨ka, kc, rfl, _⟩ := hk2
                clear ho2 ho3
                obtain ⟨w3, hw3⟩ : ∃ w3, w3 = ((w2.setCell ⟨w.heap.size, 2, none⟩ (.slice ta T.length tc)).setCell ⟨w.heap.size, 3, none⟩ (.int .i64 nn)).setCell ⟨w.heap.size, 4, none⟩ (.slice ea X.length ec) := ⟨_, rfl⟩
                have g3 : w2.grownBy w3 (some w.heap.size) := by rw [hw3]; exact grown_on (grown_on (nb_set w2 w.heap.size 2 _) (nb_set _ w.heap.size 3 _)) (nb_set _ w.heap.size 4 _)
                have HX3 : Hid (Cs w3 w.heap.size [.string c.who, .string c.fo, .slice ta T.length tc, .int .i64 nn, .slice ea X.length ec, .string c.key, .slice aa c.ask.length ca, .int .i64 c.keys]) := (by rw [hw3]; exact ((HX2.out.set 2 _).set 3 _).set 4 _ : Cs w3 w.heap.size _)
                have HY3 := hid (HY2.out.nb g3 (by omega))
                have HL3 := hid (HL2.out.offbox HX2.out (fun z hz => by simp at hz) g3)
                have HV3 := hid (HV2.out.offbox HX2.out (fun z hz => by simp at hz) g3)
                have HK3 := hid (HK2.out.nbo g3 (fun b hb => by have := (HO3.out b hb).1; omega))
                have HP3 := hid (HO3.out.nb g3 (fun b hb => by have := (HO3.out b hb).1; omega))
                have hb3 : Below w.heap.size w w3 := by rw [hw3]; exact ((hb02.setCell (p := ⟨w.heap.size, 2, none⟩) (Nat.le_refl _) _).setCell (p := ⟨w.heap.size, 3, none⟩) (Nat.le_refl _) _).setCell (p := ⟨w.heap.size, 4, none⟩) (Nat.le_refl _) _
                have s3 := g3.size
                have p2 := HX2.out.cell 2 rfl
                have f2 := HX2.out.fr 2
                have p3 := HX2.out.cell 3 rfl
                have f3 := HX2.out.fr 3
                have p4 := HX2.out.cell 4 rfl
                have f4 := HX2.out.fr 4
                go_upto_region 17 with fail
                rw [← hw3]
                clear hw3 p2 p3 p4 f2 f3 f4
                have p0 := HX3.out.cell 0 rfl
                have p1 := HX3.out.cell 1 rfl
                have p2 := HX3.out.cell 2 rfl
                have p3 := HX3.out.cell 3 rfl
                have p4 := HX3.out.cell 4 rfl
                have p5 := HX3.out.cell 5 rfl
                have p6 := HX3.out.cell 6 rfl
                have p7 := HX3.out.cell 7 rfl
                have y0 := HY3.out.cell 0 rfl
                have g0 := HY3.out.fr 0
                have y1 := HY3.out.cell 1 rfl
                have g1 := HY3.out.fr 1
                have y2 := HY3.out.cell 2 rfl
                have g2 := HY3.out.fr 2
                have y3 := HY3.out.cell 3 rfl
                have g3 := HY3.out.fr 3
                have y4 := HY3.out.cell 4 rfl
                have g4 := HY3.out.fr 4
                have y5 := HY3.out.cell 5 rfl
                have g5 := HY3.out.fr 5
                have y6 := HY3.out.cell 6 rfl
                have g6 := HY3.out.fr 6
                have y7 := HY3.out.cell 7 rfl
                have g7 := HY3.out.fr 7
                go_wp2_with fail
                have gz : w3.grownBy _ (some (w.heap.size + 1 + 1)) := (grown_on (grown_on (grown_on (grown_on (grown_on (grown_on (grown_on (nb_set w3 (w.heap.size + 1 + 1) 0 (.string c.who)) (nb_set _ (w.heap.size + 1 + 1) 1 (.string c.fo))) (nb_set _ (w.heap.size + 1 + 1) 2 (.slice ta T.length tc))) (nb_set _ (w.heap.size + 1 + 1) 3 (.int .i64 nn))) (nb_set _ (w.heap.size + 1 + 1) 4 (.slice ea X.length ec))) (nb_set _ (w.heap.size + 1 + 1) 5 (.string c.key))) (nb_set _ (w.heap.size + 1 + 1) 6 (.slice aa c.ask.length ca))) (nb_set _ (w.heap.size + 1 + 1) 7 (.int .i64 c.keys)))
                have hbl := ((((((((hb3.setCell (p := ⟨w.heap.size + 1 + 1, 0, none⟩) (by show _ ≤ w.heap.size + 1 + 1; omega) (.string c.who)).setCell (p := ⟨w.heap.size + 1 + 1, 1, none⟩) (by show _ ≤ w.heap.size + 1 + 1; omega) (.string c.fo)).setCell (p := ⟨w.heap.size + 1 + 1, 2, none⟩) (by show _ ≤ w.heap.size + 1 + 1; omega) (.slice ta T.length tc)).setCell (p := ⟨w.heap.size + 1 + 1, 3, none⟩) (by show _ ≤ w.heap.size + 1 + 1; omega) (.int .i64 nn)).setCell (p := ⟨w.heap.size + 1 + 1, 4, none⟩) (by show _ ≤ w.heap.size + 1 + 1; omega) (.slice ea X.length ec)).setCell (p := ⟨w.heap.size + 1 + 1, 5, none⟩) (by show _ ≤ w.heap.size + 1 + 1; omega) (.string c.key)).setCell (p := ⟨w.heap.size + 1 + 1, 6, none⟩) (by show _ ≤ w.heap.size + 1 + 1; omega) (.slice aa c.ask.length ca)).setCell (p := ⟨w.heap.size + 1 + 1, 7, none⟩) (by show _ ≤ w.heap.size + 1 + 1; omega) (.int .i64 c.keys))
                refine bodyPost_ret (v := .tuple #[.agg #[.string c.who, .string c.fo, .slice ta T.length tc, .int .i64 nn, .slice ea X.length ec, .string c.key, .slice aa c.ask.length ca, .int .i64 c.keys], .slice ka C.length kc, .int .i64 0]) (by simp [results, Tryz.results6, go_sem, y0, y1, y2, y3, y4, y5, y6, y7]) rfl ⟨_, _, rfl, ?_, ?_, (HP3.out.nb gz (fun b hb => by have := (HP3.out b hb).1; omega)).mono (by omega), hbl⟩
                · rw [HQ.out.1, HOK.out.2.1]
                  exact ⟨_, _, _, rfl, HL3.out.offbox HY3.out (fun z hz => by simp at hz) gz, HV3.out.offbox HY3.out (fun z hz => by simp at hz) gz, HLC.out.below hbl⟩
                · rw [HQ.out.2, HOK.out.2.2]
                  exact HK3.out.nbo gz (fun b hb => by have := (HP3.out b hb).1; omega)
              | none =>
                obtain rfl := hn2 hm
                have hrm : r = 2 := by rw [HRR.out, if_neg (fun x => x HF.out), ← HT.out]; exact (Mg.m_none ((Pp.good_iff _).2 HG.out.1) ((Pp.good_iff _).2 HG.out.2) ((Pp.good_iff _).2 HTG.out) hm).1
                have HZ4 := hid (HZE.out (by rw [hrm]; decide))
                subst hrm
                clear hm hn2 hs2
                have y0 := HY2.out.cell 0 rfl
                have g0 := HY2.out.fr 0
                have y1 := HY2.out.cell 1 rfl
                have g1 := HY2.out.fr 1
                have y2 := HY2.out.cell 2 rfl
                have g2 := HY2.out.fr 2
                have y3 := HY2.out.cell 3 rfl
                have g3 := HY2.out.fr 3
                have y4 := HY2.out.cell 4 rfl
                have g4 := HY2.out.fr 4
                have y5 := HY2.out.cell 5 rfl
                have g5 := HY2.out.fr 5
                have y6 := HY2.out.cell 6 rfl
                have g6 := HY2.out.fr 6
                have y7 := HY2.out.cell 7 rfl
                have g7 := HY2.out.fr 7
                go_wp2_with fail
                refine bodyPost_ret (v := .tuple #[.agg #[.string ⟨#[]⟩, .string ⟨#[]⟩, .slice none 0 0, .int .i64 0, .slice none 0 0, .string ⟨#[]⟩, .slice none 0 0, .int .i64 0], .slice none 0 0, .int .i64 2]) (by simp [results, Tryz.results6, go_sem, y0, y1, y2, y3, y4, y5, y6, y7]) rfl ⟨_, _, rfl, ?_, ?_, own_nil _ _, ?_⟩
                · rw [HQ.out.1, HZ4.out.1]; exact (ownN_zero 0 _).lies
                · rw [HQ.out.2, HZ4.out.2]; exact LiesK.nil _
                · exact ((((((((hb02.setCell (p := ⟨w.heap.size + 1 + 1, 0, none⟩) (by show _ ≤ w.heap.size + 1 + 1; omega) _).setCell (p := ⟨w.heap.size + 1 + 1, 1, none⟩) (by show _ ≤ w.heap.size + 1 + 1; omega) _).setCell (p := ⟨w.heap.size + 1 + 1, 2, none⟩) (by show _ ≤ w.heap.size + 1 + 1; omega) _).setCell (p := ⟨w.heap.size + 1 + 1, 3, none⟩) (by show _ ≤ w.heap.size + 1 + 1; omega) _).setCell (p := ⟨w.heap.size + 1 + 1, 4, none⟩) (by show _ ≤ w.heap.size + 1 + 1; omega) _).setCell (p := ⟨w.heap.size + 1 + 1, 5, none⟩) (by show _ ≤ w.heap.size + 1 + 1; omega) _).setCell (p := ⟨w.heap.size + 1 + 1, 6, none⟩) (by show _ ≤ w.heap.size + 1 + 1; omega) _).setCell (p := ⟨w.heap.size + 1 + 1, 7, none⟩) (by show _ ≤ w.heap.size + 1 + 1; omega) _)
            · have hrm : r = Jn.folE c.base c.cur a.pg := by rw [HRR.out, if_pos hf]
              have HZ4 := hid (HZE.out (by rw [hrm]; exact hf))
              have hmb : (r != 0) = true := by rw [hrm]; simpa using hf
              rw [← hrm]
              clear hrm hf hl1
              have y0 := HY1.out.cell 0 rfl
              have g0 := HY1.out.fr 0
              have y1 := HY1.out.cell 1 rfl
              have g1 := HY1.out.fr 1
              have y2 := HY1.out.cell 2 rfl
              have g2 := HY1.out.fr 2
              have y3 := HY1.out.cell 3 rfl
              have g3 := HY1.out.fr 3
              have y4 := HY1.out.cell 4 rfl
              have g4 := HY1.out.fr 4
              have y5 := HY1.out.cell 5 rfl
              have g5 := HY1.out.fr 5
              have y6 := HY1.out.cell 6 rfl
              have g6 := HY1.out.fr 6
              have y7 := HY1.out.cell 7 rfl
              have g7 := HY1.out.fr 7
              go_wp2_with fail
              refine bodyPost_ret (v := .tuple #[.agg #[.string ⟨#[]⟩, .string ⟨#[]⟩, .slice none 0 0, .int .i64 0, .slice none 0 0, .string ⟨#[]⟩, .slice none 0 0, .int .i64 0], .slice none 0 0, .int .i64 r]) (by simp [results, Tryz.results6, go_sem, y0, y1, y2, y3, y4, y5, y6, y7]) rfl ⟨_, _, rfl, ?_, ?_, own_nil _ _, ?_⟩
              · rw [HQ.out.1, HZ4.out.1]; exact (ownN_zero 0 _).lies
              · rw [HQ.out.2, HZ4.out.2]; exact LiesK.nil _
              · exact ((((((((hb01.setCell (p := ⟨w.heap.size + 1 + 1, 0, none⟩) (by show _ ≤ w.heap.size + 1 + 1; omega) _).setCell (p := ⟨w.heap.size + 1 + 1, 1, none⟩) (by show _ ≤ w.heap.size + 1 + 1; omega) _).setCell (p := ⟨w.heap.size + 1 + 1, 2, none⟩) (by show _ ≤ w.heap.size + 1 + 1; omega) _).setCell (p := ⟨w.heap.size + 1 + 1, 3, none⟩) (by show _ ≤ w.heap.size + 1 + 1; omega) _).setCell (p := ⟨w.heap.size + 1 + 1, 4, none⟩) (by show _ ≤ w.heap.size + 1 + 1; omega) _).setCell (p := ⟨w.heap.size + 1 + 1, 5, none⟩) (by show _ ≤ w.heap.size + 1 + 1; omega) _).setCell (p := ⟨w.heap.size + 1 + 1, 6, none⟩) (by show _ ≤ w.heap.size + 1 + 1; omega) _).setCell (p := ⟨w.heap.size + 1 + 1, 7, none⟩) (by show _ ≤ w.heap.size + 1 + 1; omega) _)
      · have hre : r = a.err := by rw [HR.out, Cy.tnE, if_pos he]
        have HZ4 := hid (HZE.out (by rw [hre]; exact he))
        have heb : (a.err == 0) = false := by simpa using he
        have heb2 : (a.err != 0) = true := by simpa using he
        rw [hre]
        clear he hre
        go_enter Tryz.func6, Tryz.ntmps6
        go_upto_region 1 with fail
        rw [HWZ.out]
        clear HWZ
        have t0 := HC.out.cell 0 rfl
        have y0 := HY.out.cell 0 rfl
        have g0 := HY.out.fr 0
        have y1 := HY.out.cell 1 rfl
        have g1 := HY.out.fr 1
        have y2 := HY.out.cell 2 rfl
        have g2 := HY.out.fr 2
        have y3 := HY.out.cell 3 rfl
        have g3 := HY.out.fr 3
        have y4 := HY.out.cell 4 rfl
        have g4 := HY.out.fr 4
        have y5 := HY.out.cell 5 rfl
        have g5 := HY.out.fr 5
        have y6 := HY.out.cell 6 rfl
        have g6 := HY.out.fr 6
        have y7 := HY.out.cell 7 rfl
        have g7 := HY.out.fr 7
        go_upto_region 7 with fail
        go_region_held3 (fun W => W.cell? ⟨w.heap.size + 1, 0, none⟩ = some (.int .i64 a.err)) (go_keep) (fail)
        all_goals
          go_wp2_with fail
          refine bodyPost_ret (v := .tuple #[.agg #[.string ⟨#[]⟩, .string ⟨#[]⟩, .slice none 0 0, .int .i64 0, .slice none 0 0, .string ⟨#[]⟩, .slice none 0 0, .int .i64 0], .slice none 0 0, .int .i64 a.err]) (by simp [results, Tryz.results6, go_sem, y0, y1, y2, y3, y4, y5, y6, y7]) rfl ⟨_, _, rfl, ?_, ?_, own_nil _ _, ?_⟩
          · rw [HQ.out.1, HZ4.out.1]; exact (ownN_zero 0 _).lies
          · rw [HQ.out.2, HZ4.out.2]; exact LiesK.nil _
          · exact ((((((((hbz.setCell (p := ⟨w.heap.size + 1 + 1, 0, none⟩) (by show _ ≤ w.heap.size + 1 + 1; omega) _).setCell (p := ⟨w.heap.size + 1 + 1, 1, none⟩) (by show _ ≤ w.heap.size + 1 + 1; omega) _).setCell (p := ⟨w.heap.size + 1 + 1, 2, none⟩) (by show _ ≤ w.heap.size + 1 + 1; omega) _).setCell (p := ⟨w.heap.size + 1 + 1, 3, none⟩) (by show _ ≤ w.heap.size + 1 + 1; omega) _).setCell (p := ⟨w.heap.size + 1 + 1, 4, none⟩) (by show _ ≤ w.heap.size + 1 + 1; omega) _).setCell (p := ⟨w.heap.size + 1 + 1, 5, none⟩) (by show _ ≤ w.heap.size + 1 + 1; omega) _).setCell (p := ⟨w.heap.size + 1 + 1, 6, none⟩) (by show _ ≤ w.heap.size + 1 + 1; omega) _).setCell (p := ⟨w.heap.size + 1 + 1, 7, none⟩) (by show _ ≤ w.heap.size + 1 + 1; omega) _).drew
    · have HQ : Hid (Cy.heE c k a = 7 ∧ Cy.heC c k a = zeroN ∧ Cy.heK c k a = []) := (⟨by rw [Cy.heE, if_neg (fun x => x h0), if_neg h1, if_neg h2], by rw [Cy.heC, if_neg (fun x => x h0), if_neg h1, if_neg h2], by rw [Cy.heK, if_neg (fun x => x h0), if_neg h1, if_neg h2]⟩ : Cy.heE c k a = 7 ∧ Cy.heC c k a = zeroN ∧ Cy.heK c k a = [])
      have hk1 : (k == 1) = false := by simpa using h1
      have hk2 : (k != 2) = true := by simpa using h2
      have hk3 : (k == 2) = false := by simpa using h2
      rw [HQ.out.1]
      clear h0 h1 h2
      go_enter Tryz.func6, Tryz.ntmps6
      go_upto_region 1 with fail
      rw [HWZ.out]
      clear HWZ
      have y0 := HY.out.cell 0 rfl
      have g0 := HY.out.fr 0
      have y1 := HY.out.cell 1 rfl
      have g1 := HY.out.fr 1
      have y2 := HY.out.cell 2 rfl
      have g2 := HY.out.fr 2
      have y3 := HY.out.cell 3 rfl
      have g3 := HY.out.fr 3
      have y4 := HY.out.cell 4 rfl
      have g4 := HY.out.fr 4
      have y5 := HY.out.cell 5 rfl
      have g5 := HY.out.fr 5
      have y6 := HY.out.cell 6 rfl
      have g6 := HY.out.fr 6
      have y7 := HY.out.cell 7 rfl
      have g7 := HY.out.fr 7
      go_wp2_with fail
      refine bodyPost_ret (v := .tuple #[.agg #[.string ⟨#[]⟩, .string ⟨#[]⟩, .slice none 0 0, .int .i64 0, .slice none 0 0, .string ⟨#[]⟩, .slice none 0 0, .int .i64 0], .slice none 0 0, .int .i64 7]) (by simp [results, Tryz.results6, go_sem, y0, y1, y2, y3, y4, y5, y6, y7]) rfl ⟨_, _, rfl, ?_, ?_, own_nil _ _, ?_⟩
      · rw [HQ.out.2.1]; exact (ownN_zero 0 _).lies
      · rw [HQ.out.2.2]; exact LiesK.nil _
      · exact ((((((((hbz.setCell (p := ⟨w.heap.size + 1 + 1, 0, none⟩) (by show _ ≤ w.heap.size + 1 + 1; omega) _).setCell (p := ⟨w.heap.size + 1 + 1, 1, none⟩) (by show _ ≤ w.heap.size + 1 + 1; omega) _).setCell (p := ⟨w.heap.size + 1 + 1, 2, none⟩) (by show _ ≤ w.heap.size + 1 + 1; omega) _).setCell (p := ⟨w.heap.size + 1 + 1, 3, none⟩) (by show _ ≤ w.heap.size + 1 + 1; omega) _).setCell (p := ⟨w.heap.size + 1 + 1, 4, none⟩) (by show _ ≤ w.heap.size + 1 + 1; omega) _).setCell (p := ⟨w.heap.size + 1 + 1, 5, none⟩) (by show _ ≤ w.heap.size + 1 + 1; omega) _).setCell (p := ⟨w.heap.size + 1 + 1, 6, none⟩) (by show _ ≤ w.heap.size + 1 + 1; omega) _).setCell (p := ⟨w.heap.size + 1 + 1, 7, none⟩) (by show _ ≤ w.heap.size + 1 + 1; omega) _)
end Go.Proofs.YtlllcifehellpaaGreatDoor
set_option linter.unusedSimpArgs false
set_option linter.unusedVariables false
namespace Go.Proofs.YtlllcifehellpaaGreatDoor
open Go.RowKit Go.Maps

set_option maxRecDepth 100000 in
set_option maxHeartbeats 1000000 in
theorem sameCopies_yes (C : Mg.CC) (v u : Value) (w : World) (hv : LiesK w v C) (hu : LiesK w u C) :
    Calls Tryz.prog 9 #[v, u] w fun e w' => e = .returned (.bool true) ∧ Below w.heap.size w w' := by
  obtain ⟨a, cap, rfl, hcap, hcap2, hL⟩ := hv
  have HL := hid hL
  obtain ⟨a', cap', rfl, hcap', _, hL'⟩ := hu
  have HL' := hid hL'
  clear hL hL'
  go_enter Tryz.func9, Tryz.ntmps9
  go_wp2_with fail
  go_loopw [5] (fun i wr => ∃ k : Nat, k ≤ C.length ∧ i = .int .i64 k ∧ Below w.heap.size w wr) (fun i _ => C.length - (intOf i).toNat)
  case atStart => exact ⟨0, Nat.zero_le _, rfl, Below.refl _ _⟩
  case round =>
    obtain ⟨k, hk, rfl, hbel⟩ := hrel
    by_cases hlt : k < C.length
    · obtain ⟨b, o, rfl, hb, c0, c1⟩ := HL.out k hlt
      obtain ⟨b', o', rfl, hb', d0, d1⟩ := HL'.out k hlt
      have hlt' : (k : Int) < C.length := by omega
      have x0 := (hbel.cell (p := ⟨b, o + k * 2, none⟩) hb).trans c0
      have x1 := (hbel.cell (p := ⟨b, o + k * 2 + 1, none⟩) hb).trans c1
      have y0 := (hbel.cell (p := ⟨b', o' + k * 2, none⟩) hb').trans d0
      have y1 := (hbel.cell (p := ⟨b', o' + k * 2 + 1, none⟩) hb').trans d1
      clear c0 c1 d0 d1
      go_wp2_with fail
      go_region
      go_wp2_with fail
      go_roundw
      case rel => exact ⟨k + 1, by omega, by simp, hbel.drew⟩
      case measure => simp [intOf]; omega
    · go_wp2_with fail
      go_ret
      exact ⟨rfl, hbel⟩
end Go.Proofs.YtlllcifehellpaaGreatDoor
set_option linter.unusedSimpArgs false
set_option linter.unusedVariables false
namespace Go.Proofs.YtlllcifehellpaaGreatDoor
open Go.RowKit


set_option maxRecDepth 100000 in
set_option maxHeartbeats 8000000 in
theorem clientHears_walk (c : Cn) (k : Int) (a : An) (v va : Value) (w : World) (hv : LiesN w v c) (ha : LiesA w va a) (hs : SizedN c) (hsa : SizedA a) (hpb : ∀ e ∈ c.base, e.path.size ≤ 1000000000) (hpm : ∀ e ∈ c.mine, e.path.size ≤ 1000000000) (hpt : ∀ e ∈ a.pg.tree, e.path.size ≤ 1000000000) (hpc : SizedO 1000000000 a.pg.cos) :
    Calls Tryz.prog 3 #[v, .int .i64 k, va] w fun e w' => e = .returned (.bool true) ∧ Below w.heap.size w w' := by
  by_cases h0 : Cy.chE c = 0
  · have H0 := hid h0
    clear h0
    have HV := hid hv
    have HA := hid ha
    have HS := hid hs
    have HSA := hid hsa
    have HPB := hid hpb
    have HPM := hid hpm
    have HPT := hid hpt
    have HPC := hid hpc
    obtain ⟨vb, vm, vq, rfl, lb, lm, la⟩ := hv
    obtain ⟨ab, cb, rfl, _⟩ := lb
    obtain ⟨am, cm, rfl, _⟩ := lm
    obtain ⟨aa, ca, rfl, _⟩ := la
    obtain ⟨vt, vc, rfl, lt, lc⟩ := ha
    obtain ⟨xt, yt, rfl, _⟩ := lt
    obtain ⟨xc, yc, rfl⟩ := liesO_shape lc
    clear hs hsa hpb hpm hpt hpc lc
    obtain ⟨wz, hwz⟩ : ∃ wz, wz = (w.alloc (.cells #[.string c.who, .string c.fo, .slice ab c.base.length cb, .int .i64 c.cur, .slice am c.mine.length cm, .string c.key, .slice aa c.ask.length ca, .int .i64 c.keys] 25)).alloc (.cells #[.int .i64 a.err, .int .i64 a.num, .bool a.pg.reset, .slice xt a.pg.tree.length yt, .slice xc a.pg.cos.length yc, .int .i64 a.pg.cur, .bool a.pg.more] 31) := ⟨_, rfl⟩
    have hbz : Below w.heap.size w wz := by rw [hwz]; exact ((Below.refl _ _).alloc (Nat.le_refl _) _).alloc (by simp) _
    have HX : Hid (Cs wz w.heap.size [.string c.who, .string c.fo, .slice ab c.base.length cb, .int .i64 c.cur, .slice am c.mine.length cm, .string c.key, .slice aa c.ask.length ca, .int .i64 c.keys]) := (by rw [hwz]; exact (Cs.new w [.string c.who, .string c.fo, .slice ab c.base.length cb, .int .i64 c.cur, .slice am c.mine.length cm, .string c.key, .slice aa c.ask.length ca, .int .i64 c.keys] _).below ((Below.refl _ _).alloc (Nat.le_refl _) _) : Cs wz w.heap.size _)
    have HC : Hid (Cs wz (w.heap.size + 1) [.int .i64 a.err, .int .i64 a.num, .bool a.pg.reset, .slice xt a.pg.tree.length yt, .slice xc a.pg.cos.length yc, .int .i64 a.pg.cur, .bool a.pg.more]) := (by
      have := Cs.new (w.alloc (.cells #[.string c.who, .string c.fo, .slice ab c.base.length cb, .int .i64 c.cur, .slice am c.mine.length cm, .string c.key, .slice aa c.ask.length ca, .int .i64 c.keys] 25)) [.int .i64 a.err, .int .i64 a.num, .bool a.pg.reset, .slice xt a.pg.tree.length yt, .slice xc a.pg.cos.length yc, .int .i64 a.pg.cur, .bool a.pg.more] 31
      rw [hwz]; simpa using this : Cs wz (w.heap.size + 1) [.int .i64 a.err, .int .i64 a.num, .bool a.pg.reset, .slice xt a.pg.tree.length yt, .slice xc a.pg.cos.length yc, .int .i64 a.pg.cur, .bool a.pg.more])
    obtain ⟨r, hr⟩ : ∃ r, r = Cy.heE c k a := ⟨_, rfl⟩
    have HR := hid hr
    clear hr
    go_enter Tryz.func3, Tryz.ntmps3
    go_upto_region 1 with fail
    rw [← hwz]
    clear hwz
    have p0 := HX.out.cell 0 rfl
    have p1 := HX.out.cell 1 rfl
    have p2 := HX.out.cell 2 rfl
    have p3 := HX.out.cell 3 rfl
    have p4 := HX.out.cell 4 rfl
    have p5 := HX.out.cell 5 rfl
    have p6 := HX.out.cell 6 rfl
    have p7 := HX.out.cell 7 rfl
    have t0 := HC.out.cell 0 rfl
    have t1 := HC.out.cell 1 rfl
    have t2 := HC.out.cell 2 rfl
    have t3 := HC.out.cell 3 rfl
    have t4 := HC.out.cell 4 rfl
    have t5 := HC.out.cell 5 rfl
    have t6 := HC.out.cell 6 rfl
    go_wp2_with fail
    refine (hear_any c k a _ _ _ (HV.out.below hbz) (HA.out.below hbz) HS.out HSA.out).mono ?_
    rintro e w1 ⟨u1, vk, rfl, hN1, hK1, _, hb1⟩
    rw [← HR.out]
    obtain ⟨d, hd⟩ : ∃ d, d = Cy.heC c k a := ⟨_, rfl⟩
    rw [← hd] at hN1
    have HD := hid hd
    obtain ⟨C, hC⟩ : ∃ C, C = Cy.heK c k a := ⟨_, rfl⟩
    rw [← hC] at hK1
    have HCC := hid hC
    clear hd hC p0 p1 p2 p3 p4 p5 p6 p7 t0 t1 t2 t3 t4 t5 t6
    have HN1 := hid hN1
    have HK1 := hid hK1
    obtain ⟨vb, vm, vq, rfl, lb1, lm1, la1⟩ := hN1
    obtain ⟨eb, fb, rfl, _⟩ := lb1
    obtain ⟨em, fm, rfl, _⟩ := lm1
    obtain ⟨ea, fa, rfl, _⟩ := la1
    obtain ⟨ja, jc, rfl, _⟩ := hK1
    obtain ⟨w2, hw2⟩ : ∃ w2, w2 = w1.alloc (.cells #[.string d.who, .string d.fo, .slice eb d.base.length fb, .int .i64 d.cur, .slice em d.mine.length fm, .string d.key, .slice ea d.ask.length fa, .int .i64 d.keys] 25) := ⟨_, rfl⟩
    have b12 : Below w1.heap.size w1 w2 := by rw [hw2]; exact (Below.refl _ _).alloc (Nat.le_refl _) _
    have HD2 : Hid (Cs w2 w1.heap.size [.string d.who, .string d.fo, .slice eb d.base.length fb, .int .i64 d.cur, .slice em d.mine.length fm, .string d.key, .slice ea d.ask.length fa, .int .i64 d.keys]) := (by rw [hw2]; exact Cs.new w1 [.string d.who, .string d.fo, .slice eb d.base.length fb, .int .i64 d.cur, .slice em d.mine.length fm, .string d.key, .slice ea d.ask.length fa, .int .i64 d.keys] _ : Cs w2 w1.heap.size [.string d.who, .string d.fo, .slice eb d.base.length fb, .int .i64 d.cur, .slice em d.mine.length fm, .string d.key, .slice ea d.ask.length fa, .int .i64 d.keys])
    have hb01 := below_tr hbz hb1
    have hb02 := below_tr hb01 b12
    have HX2 := hid ((HX.out.below hb1).below b12)
    have HC2 := hid ((HC.out.below hb1).below b12)
    have p0 := HX2.out.cell 0 rfl
    have p1 := HX2.out.cell 1 rfl
    have p2 := HX2.out.cell 2 rfl
    have p3 := HX2.out.cell 3 rfl
    have p4 := HX2.out.cell 4 rfl
    have p5 := HX2.out.cell 5 rfl
    have p6 := HX2.out.cell 6 rfl
    have p7 := HX2.out.cell 7 rfl
    go_upto_region 2 with fail
    rw [← hw2]
    clear hw2
    go_wp2_with fail
    refine (rCheckClient_any c _ _ (HV.out.below hb02) HS.out HPB.out HPM.out).mono ?_
    rintro e w5 ⟨rfl, hb5⟩
    clear p0 p1 p2 p3 p4 p5 p6 p7
    obtain ⟨w6, hw6⟩ : ∃ w6, w6 = w5.alloc (.cells #[.string ⟨#[]⟩, .string ⟨#[]⟩, .slice none 0 0, .int .i64 0, .slice none 0 0, .string ⟨#[]⟩, .slice none 0 0, .int .i64 0] 25) := ⟨_, rfl⟩
    have b56 : Below w5.heap.size w5 w6 := by rw [hw6]; exact (Below.refl _ _).alloc (Nat.le_refl _) _
    have HY6 : Hid (Cs w6 w5.heap.size zs) := (by rw [hw6]; exact Cs.new w5 zs _ : Cs w6 w5.heap.size zs)
    have b26 := below_tr hb5 b56
    have hb06 := below_tr hb02 b26
    have HX6 := hid (HX2.out.below b26)
    have HC6 := hid (HC2.out.below b26)
    have HD6 := hid (HD2.out.below b26)
    have HNd6 := hid (HN1.out.below (below_tr b12 b26))
    have HKk6 := hid (HK1.out.below (below_tr b12 b26))
    have s1 := hb1.size
    have s12 := b12.size
    have s4 := hb5.size
    have l1 := HD2.out.lt
    have l0 := HC.out.lt
    rw [H0.out]
    have p0 := HX6.out.cell 0 rfl
    have p1 := HX6.out.cell 1 rfl
    have p2 := HX6.out.cell 2 rfl
    have p3 := HX6.out.cell 3 rfl
    have p4 := HX6.out.cell 4 rfl
    have p5 := HX6.out.cell 5 rfl
    have p6 := HX6.out.cell 6 rfl
    have p7 := HX6.out.cell 7 rfl
    have t0 := HC6.out.cell 0 rfl
    have t1 := HC6.out.cell 1 rfl
    have t2 := HC6.out.cell 2 rfl
    have t3 := HC6.out.cell 3 rfl
    have t4 := HC6.out.cell 4 rfl
    have t5 := HC6.out.cell 5 rfl
    have t6 := HC6.out.cell 6 rfl
    go_upto_region 5 with fail
    rw [← hw6]
    clear hw6
    go_wp2_with fail
    refine (hearOf_any c k a _ _ _ (HV.out.below hb06) (HA.out.below hb06) HS.out HSA.out HPB.out HPT.out HPC.out H0.out).mono ?_
    rintro e w7 ⟨u7, vk7, rfl, hN7, hK7, hO7, hb7⟩
    rw [← HR.out]
    rw [← HD.out] at hN7
    rw [← HCC.out] at hK7
    have HN7 := hid hN7
    have HK7 := hid hK7
    obtain ⟨vb, vm, vq, rfl, lb1, lm1, la1⟩ := hN7
    obtain ⟨gb, kb, rfl, _⟩ := lb1
    obtain ⟨gm, km, rfl, _⟩ := lm1
    obtain ⟨ga, ka, rfl, _⟩ := la1
    obtain ⟨ia, ic, rfl, _⟩ := hK7
    clear p0 p1 p2 p3 p4 p5 p6 p7 t0 t1 t2 t3 t4 t5 t6
    have s7 := hb7.size
    have s6 := HY6.out.lt
    have HY7 := hid (HY6.out.below hb7)
    have HD7 := hid (HD6.out.below hb7)
    obtain ⟨w8, hw8⟩ : ∃ w8, w8 = ((((((((w7.setCell ⟨w5.heap.size, 0, none⟩ (.string d.who)).setCell ⟨w5.heap.size, 1, none⟩ (.string d.fo)).setCell ⟨w5.heap.size, 2, none⟩ (.slice gb d.base.length kb)).setCell ⟨w5.heap.size, 3, none⟩ (.int .i64 d.cur)).setCell ⟨w5.heap.size, 4, none⟩ (.slice gm d.mine.length km)).setCell ⟨w5.heap.size, 5, none⟩ (.string d.key)).setCell ⟨w5.heap.size, 6, none⟩ (.slice ga d.ask.length ka)).setCell ⟨w5.heap.size, 7, none⟩ (.int .i64 d.keys)) := ⟨_, rfl⟩
    have g8 : w7.grownBy w8 (some w5.heap.size) := by rw [hw8]; exact (grown_on (grown_on (grown_on (grown_on (grown_on (grown_on (grown_on (nb_set w7 (w5.heap.size) 0 (.string d.who)) (nb_set _ (w5.heap.size) 1 (.string d.fo))) (nb_set _ (w5.heap.size) 2 (.slice gb d.base.length kb))) (nb_set _ (w5.heap.size) 3 (.int .i64 d.cur))) (nb_set _ (w5.heap.size) 4 (.slice gm d.mine.length km))) (nb_set _ (w5.heap.size) 5 (.string d.key))) (nb_set _ (w5.heap.size) 6 (.slice ga d.ask.length ka))) (nb_set _ (w5.heap.size) 7 (.int .i64 d.keys)))
    have HY8 : Hid (Cs w8 w5.heap.size [.string d.who, .string d.fo, .slice gb d.base.length kb, .int .i64 d.cur, .slice gm d.mine.length km, .string d.key, .slice ga d.ask.length ka, .int .i64 d.keys]) := (by rw [hw8]; exact ((((((((HY7.out.set 0 (.string d.who)).set 1 (.string d.fo)).set 2 (.slice gb d.base.length kb)).set 3 (.int .i64 d.cur)).set 4 (.slice gm d.mine.length km)).set 5 (.string d.key)).set 6 (.slice ga d.ask.length ka)).set 7 (.int .i64 d.keys)) : Cs w8 w5.heap.size _)
    have HD8 := hid (HD7.out.nb g8 (by omega))
    have HNw8 := hid (HN7.out.off HY7.out (noLies_cn _ _ _ _ _ _ _ _ _ _ _ _ _ _) g8)
    have HNd8 := hid ((HNd6.out.below hb7).off HY7.out (noLies_cn _ _ _ _ _ _ _ _ _ _ _ _ _ _) g8)
    have HKd8 : Hid (LiesK w8 (.slice ja C.length jc) C) := (HK1.out.below (by rw [hw8]; exact (((((((((below_tr b12 (below_tr b26 hb7)).setCell (p := ⟨w5.heap.size, 0, none⟩) (by show _ ≤ w5.heap.size; omega) _).setCell (p := ⟨w5.heap.size, 1, none⟩) (by show _ ≤ w5.heap.size; omega) _).setCell (p := ⟨w5.heap.size, 2, none⟩) (by show _ ≤ w5.heap.size; omega) _).setCell (p := ⟨w5.heap.size, 3, none⟩) (by show _ ≤ w5.heap.size; omega) _).setCell (p := ⟨w5.heap.size, 4, none⟩) (by show _ ≤ w5.heap.size; omega) _).setCell (p := ⟨w5.heap.size, 5, none⟩) (by show _ ≤ w5.heap.size; omega) _).setCell (p := ⟨w5.heap.size, 6, none⟩) (by show _ ≤ w5.heap.size; omega) _).setCell (p := ⟨w5.heap.size, 7, none⟩) (by show _ ≤ w5.heap.size; omega) _)) : LiesK w8 (.slice ja C.length jc) C)
    have HKw8 := hid (HK7.out.nbo g8 (fun b hb => by have := (hO7 b hb).1; omega))
    clear hO7
    have hb8 : Below w.heap.size w w8 := by rw [hw8]; exact (((((((((below_tr hb06 hb7).setCell (p := ⟨w5.heap.size, 0, none⟩) (by show _ ≤ w5.heap.size; omega) _).setCell (p := ⟨w5.heap.size, 1, none⟩) (by show _ ≤ w5.heap.size; omega) _).setCell (p := ⟨w5.heap.size, 2, none⟩) (by show _ ≤ w5.heap.size; omega) _).setCell (p := ⟨w5.heap.size, 3, none⟩) (by show _ ≤ w5.heap.size; omega) _).setCell (p := ⟨w5.heap.size, 4, none⟩) (by show _ ≤ w5.heap.size; omega) _).setCell (p := ⟨w5.heap.size, 5, none⟩) (by show _ ≤ w5.heap.size; omega) _).setCell (p := ⟨w5.heap.size, 6, none⟩) (by show _ ≤ w5.heap.size; omega) _).setCell (p := ⟨w5.heap.size, 7, none⟩) (by show _ ≤ w5.heap.size; omega) _)
    have y0 := HY7.out.cell 0 rfl
    have g0 := HY7.out.fr 0
    have y1 := HY7.out.cell 1 rfl
    have g1 := HY7.out.fr 1
    have y2 := HY7.out.cell 2 rfl
    have g2 := HY7.out.fr 2
    have y3 := HY7.out.cell 3 rfl
    have g3 := HY7.out.fr 3
    have y4 := HY7.out.cell 4 rfl
    have g4 := HY7.out.fr 4
    have y5 := HY7.out.cell 5 rfl
    have g5 := HY7.out.fr 5
    have y6 := HY7.out.cell 6 rfl
    have g6 := HY7.out.fr 6
    have y7 := HY7.out.cell 7 rfl
    have g7 := HY7.out.fr 7
    go_upto_region 6 with fail
    rw [← hw8]
    clear hw8 y0 y1 y2 y3 y4 y5 y6 y7 g0 g1 g2 g3 g4 g5 g6 g7
    go_wp2_with fail
    refine (clientBegun_yes _).mono ?_
    rintro e wa ⟨rfl, hba⟩
    have HDa := hid (HD8.out.below hba)
    have HYa := hid (HY8.out.below hba)
    have p0 := HDa.out.cell 0 rfl
    have p1 := HDa.out.cell 1 rfl
    have p2 := HDa.out.cell 2 rfl
    have p3 := HDa.out.cell 3 rfl
    have p4 := HDa.out.cell 4 rfl
    have p5 := HDa.out.cell 5 rfl
    have p6 := HDa.out.cell 6 rfl
    have p7 := HDa.out.cell 7 rfl
    have t0 := HYa.out.cell 0 rfl
    have t1 := HYa.out.cell 1 rfl
    have t2 := HYa.out.cell 2 rfl
    have t3 := HYa.out.cell 3 rfl
    have t4 := HYa.out.cell 4 rfl
    have t5 := HYa.out.cell 5 rfl
    have t6 := HYa.out.cell 6 rfl
    have t7 := HYa.out.cell 7 rfl
    go_wp2_with fail
    refine (clientIs_yes d d _ _ r _ (by
      by_cases hr0 : r = 0
      · rw [if_pos hr0]; exact HNd8.out.below hba
      · rw [if_neg hr0]
        have : d = zeroN := by rw [HD.out]; exact Cy.he_zero (by rw [← HR.out]; exact hr0)
        rw [← this]; exact HNd8.out.below hba) (HNw8.out.below hba) (fun _ => rfl)).mono ?_
    rintro e wb ⟨rfl, hbb⟩
    have b8b := below_tr hba hbb
    clear p0 p1 p2 p3 p4 p5 p6 p7 t0 t1 t2 t3 t4 t5 t6 t7
    go_wp2_with fail
    refine (sameCopies_yes C _ _ _ (HKd8.out.below b8b) (HKw8.out.below b8b)).mono ?_
    rintro e wc ⟨rfl, hbc⟩
    go_wp2_with fail
    go_ret
    exact ⟨rfl, below_tr hb8 (below_tr b8b hbc)⟩
  · have H0 := hid h0
    have h0' : (Cy.chE c == 0) = false := by simpa using h0
    clear h0
    have HV := hid hv
    have HA := hid ha
    have HS := hid hs
    have HSA := hid hsa
    have HPB := hid hpb
    have HPM := hid hpm
    have HPT := hid hpt
    have HPC := hid hpc
    obtain ⟨vb, vm, vq, rfl, lb, lm, la⟩ := hv
    obtain ⟨ab, cb, rfl, _⟩ := lb
    obtain ⟨am, cm, rfl, _⟩ := lm
    obtain ⟨aa, ca, rfl, _⟩ := la
    obtain ⟨vt, vc, rfl, lt, lc⟩ := ha
    obtain ⟨xt, yt, rfl, _⟩ := lt
    obtain ⟨xc, yc, rfl⟩ := liesO_shape lc
    clear hs hsa hpb hpm hpt hpc lc
    obtain ⟨wz, hwz⟩ : ∃ wz, wz = (w.alloc (.cells #[.string c.who, .string c.fo, .slice ab c.base.length cb, .int .i64 c.cur, .slice am c.mine.length cm, .string c.key, .slice aa c.ask.length ca, .int .i64 c.keys] 25)).alloc (.cells #[.int .i64 a.err, .int .i64 a.num, .bool a.pg.reset, .slice xt a.pg.tree.length yt, .slice xc a.pg.cos.length yc, .int .i64 a.pg.cur, .bool a.pg.more] 31) := ⟨_, rfl⟩
    have hbz : Below w.heap.size w wz := by rw [hwz]; exact ((Below.refl _ _).alloc (Nat.le_refl _) _).alloc (by simp) _
    have HX : Hid (Cs wz w.heap.size [.string c.who, .string c.fo, .slice ab c.base.length cb, .int .i64 c.cur, .slice am c.mine.length cm, .string c.key, .slice aa c.ask.length ca, .int .i64 c.keys]) := (by rw [hwz]; exact (Cs.new w [.string c.who, .string c.fo, .slice ab c.base.length cb, .int .i64 c.cur, .slice am c.mine.length cm, .string c.key, .slice aa c.ask.length ca, .int .i64 c.keys] _).below ((Below.refl _ _).alloc (Nat.le_refl _) _) : Cs wz w.heap.size _)
    have HC : Hid (Cs wz (w.heap.size + 1) [.int .i64 a.err, .int .i64 a.num, .bool a.pg.reset, .slice xt a.pg.tree.length yt, .slice xc a.pg.cos.length yc, .int .i64 a.pg.cur, .bool a.pg.more]) := (by
      have := Cs.new (w.alloc (.cells #[.string c.who, .string c.fo, .slice ab c.base.length cb, .int .i64 c.cur, .slice am c.mine.length cm, .string c.key, .slice aa c.ask.length ca, .int .i64 c.keys] 25)) [.int .i64 a.err, .int .i64 a.num, .bool a.pg.reset, .slice xt a.pg.tree.length yt, .slice xc a.pg.cos.length yc, .int .i64 a.pg.cur, .bool a.pg.more] 31
      rw [hwz]; simpa using this : Cs wz (w.heap.size + 1) [.int .i64 a.err, .int .i64 a.num, .bool a.pg.reset, .slice xt a.pg.tree.length yt, .slice xc a.pg.cos.length yc, .int .i64 a.pg.cur, .bool a.pg.more])
    obtain ⟨r, hr⟩ : ∃ r, r = Cy.heE c k a := ⟨_, rfl⟩
    have HR := hid hr
    clear hr
    go_enter Tryz.func3, Tryz.ntmps3
    go_upto_region 1 with fail
    rw [← hwz]
    clear hwz
    have p0 := HX.out.cell 0 rfl
    have p1 := HX.out.cell 1 rfl
    have p2 := HX.out.cell 2 rfl
    have p3 := HX.out.cell 3 rfl
    have p4 := HX.out.cell 4 rfl
    have p5 := HX.out.cell 5 rfl
    have p6 := HX.out.cell 6 rfl
    have p7 := HX.out.cell 7 rfl
    have t0 := HC.out.cell 0 rfl
    have t1 := HC.out.cell 1 rfl
    have t2 := HC.out.cell 2 rfl
    have t3 := HC.out.cell 3 rfl
    have t4 := HC.out.cell 4 rfl
    have t5 := HC.out.cell 5 rfl
    have t6 := HC.out.cell 6 rfl
    go_wp2_with fail
    refine (hear_any c k a _ _ _ (HV.out.below hbz) (HA.out.below hbz) HS.out HSA.out).mono ?_
    rintro e w1 ⟨u1, vk, rfl, hN1, hK1, _, hb1⟩
    rw [← HR.out]
    obtain ⟨d, hd⟩ : ∃ d, d = Cy.heC c k a := ⟨_, rfl⟩
    rw [← hd] at hN1
    have HD := hid hd
    obtain ⟨C, hC⟩ : ∃ C, C = Cy.heK c k a := ⟨_, rfl⟩
    rw [← hC] at hK1
    have HCC := hid hC
    clear hd hC p0 p1 p2 p3 p4 p5 p6 p7 t0 t1 t2 t3 t4 t5 t6
    have HN1 := hid hN1
    have HK1 := hid hK1
    obtain ⟨vb, vm, vq, rfl, lb1, lm1, la1⟩ := hN1
    obtain ⟨eb, fb, rfl, _⟩ := lb1
    obtain ⟨em, fm, rfl, _⟩ := lm1
    obtain ⟨ea, fa, rfl, _⟩ := la1
    obtain ⟨ja, jc, rfl, _⟩ := hK1
    obtain ⟨w2, hw2⟩ : ∃ w2, w2 = w1.alloc (.cells #[.string d.who, .string d.fo, .slice eb d.base.length fb, .int .i64 d.cur, .slice em d.mine.length fm, .string d.key, .slice ea d.ask.length fa, .int .i64 d.keys] 25) := ⟨_, rfl⟩
    have b12 : Below w1.heap.size w1 w2 := by rw [hw2]; exact (Below.refl _ _).alloc (Nat.le_refl _) _
    have HD2 : Hid (Cs w2 w1.heap.size [.string d.who, .string d.fo, .slice eb d.base.length fb, .int .i64 d.cur, .slice em d.mine.length fm, .string d.key, .slice ea d.ask.length fa, .int .i64 d.keys]) := (by rw [hw2]; exact Cs.new w1 [.string d.who, .string d.fo, .slice eb d.base.length fb, .int .i64 d.cur, .slice em d.mine.length fm, .string d.key, .slice ea d.ask.length fa, .int .i64 d.keys] _ : Cs w2 w1.heap.size [.string d.who, .string d.fo, .slice eb d.base.length fb, .int .i64 d.cur, .slice em d.mine.length fm, .string d.key, .slice ea d.ask.length fa, .int .i64 d.keys])
    have hb01 := below_tr hbz hb1
    have hb02 := below_tr hb01 b12
    have HX2 := hid ((HX.out.below hb1).below b12)
    have HC2 := hid ((HC.out.below hb1).below b12)
    have p0 := HX2.out.cell 0 rfl
    have p1 := HX2.out.cell 1 rfl
    have p2 := HX2.out.cell 2 rfl
    have p3 := HX2.out.cell 3 rfl
    have p4 := HX2.out.cell 4 rfl
    have p5 := HX2.out.cell 5 rfl
    have p6 := HX2.out.cell 6 rfl
    have p7 := HX2.out.cell 7 rfl
    go_upto_region 2 with fail
    rw [← hw2]
    clear hw2
    go_wp2_with fail
    refine (rCheckClient_any c _ _ (HV.out.below hb02) HS.out HPB.out HPM.out).mono ?_
    rintro e w5 ⟨rfl, hb5⟩
    clear p0 p1 p2 p3 p4 p5 p6 p7
    obtain ⟨w6, hw6⟩ : ∃ w6, w6 = w5.alloc (.cells #[.string ⟨#[]⟩, .string ⟨#[]⟩, .slice none 0 0, .int .i64 0, .slice none 0 0, .string ⟨#[]⟩, .slice none 0 0, .int .i64 0] 25) := ⟨_, rfl⟩
    have b56 : Below w5.heap.size w5 w6 := by rw [hw6]; exact (Below.refl _ _).alloc (Nat.le_refl _) _
    have HY6 : Hid (Cs w6 w5.heap.size zs) := (by rw [hw6]; exact Cs.new w5 zs _ : Cs w6 w5.heap.size zs)
    have b26 := below_tr hb5 b56
    have hb06 := below_tr hb02 b26
    have HX6 := hid (HX2.out.below b26)
    have HC6 := hid (HC2.out.below b26)
    have HD6 := hid (HD2.out.below b26)
    have HNd6 := hid (HN1.out.below (below_tr b12 b26))
    have HKk6 := hid (HK1.out.below (below_tr b12 b26))
    have s1 := hb1.size
    have s12 := b12.size
    have s4 := hb5.size
    have l1 := HD2.out.lt
    have l0 := HC.out.lt
    have HRE : Hid (r = Cy.chE c ∧ d = zeroN ∧ C = []) := (⟨by rw [HR.out, Cy.heE, if_pos H0.out], by rw [HD.out, Cy.heC, if_pos H0.out], by rw [HCC.out, Cy.heK, if_pos H0.out]⟩ : r = Cy.chE c ∧ d = zeroN ∧ C = [])
    rw [← HRE.out.1] at h0' ⊢
    go_upto_region 6 with fail
    rw [← hw6]
    clear hw6
    go_wp2_with fail
    refine (clientBegun_yes _).mono ?_
    rintro e wa ⟨rfl, hba⟩
    have HDa := hid (HD6.out.below hba)
    have HYa := hid (HY6.out.below hba)
    have p0 := HDa.out.cell 0 rfl
    have p1 := HDa.out.cell 1 rfl
    have p2 := HDa.out.cell 2 rfl
    have p3 := HDa.out.cell 3 rfl
    have p4 := HDa.out.cell 4 rfl
    have p5 := HDa.out.cell 5 rfl
    have p6 := HDa.out.cell 6 rfl
    have p7 := HDa.out.cell 7 rfl
    have t0 := HYa.out.cell 0 rfl
    have t1 := HYa.out.cell 1 rfl
    have t2 := HYa.out.cell 2 rfl
    have t3 := HYa.out.cell 3 rfl
    have t4 := HYa.out.cell 4 rfl
    have t5 := HYa.out.cell 5 rfl
    have t6 := HYa.out.cell 6 rfl
    have t7 := HYa.out.cell 7 rfl
    go_wp2_with fail
    refine (clientIs_yes zeroN zeroN _ _ r _ (by
      have h9 : (if r = 0 then zeroN else zeroN) = zeroN := by split <;> rfl
      rw [h9, ← HRE.out.2.1]; exact HNd6.out.below hba) (ownN_zero 0 _).lies (fun _ => rfl)).mono ?_
    rintro e wb ⟨rfl, hbb⟩
    have b8b := below_tr hba hbb
    clear p0 p1 p2 p3 p4 p5 p6 p7 t0 t1 t2 t3 t4 t5 t6 t7
    go_wp2_with fail
    refine (sameCopies_yes C _ _ _ (HKk6.out.below b8b) (by rw [HRE.out.2.2]; exact LiesK.nil _)).mono ?_
    rintro e wc ⟨rfl, hbc⟩
    go_wp2_with fail
    go_ret
    exact ⟨rfl, below_tr hb06 (below_tr b8b hbc)⟩
end Go.Proofs.YtlllcifehellpaaGreatDoor
