/- Answers that lie in memory; copies and boxes; what client.turn answers. What client.Hear answers. -/
import Derived.Test.YtlllcifehellpaaGreatDoorPM
import Derived.Test.YtlllcifehellpaaGreatDoorQD
import Derived.Test.YtlllcifehellpaaGreatDoorQL
set_option linter.unusedSimpArgs false
set_option linter.unusedVariables false
namespace Go.Proofs.YtlllcifehellpaaGreatDoor
open Go.RowKit

structure An where
  err : Int
  num : Int
  pg : Pg
/-- An answer as a value: its page's tree and commits lie in memory. -/
def LiesA (w : World) (v : Value) (a : An) : Prop := ∃ vt vc, v = .agg #[.int .i64 a.err, .int .i64 a.num, .bool a.pg.reset, vt, vc, .int .i64 a.pg.cur, .bool a.pg.more] ∧ Lies w vt a.pg.tree ∧ LiesO w vc a.pg.cos
theorem LiesA.below {w w' : World} {v : Value} {a : An} (h : LiesA w v a) (hw : Below w.heap.size w w') : LiesA w' v a := by
  obtain ⟨vt, vc, e, h1, h2⟩ := h
  exact ⟨vt, vc, e, h1.below hw, h2.below hw⟩
structure SizedA (a : An) : Prop where
  tree : Sized a.pg.tree
  cos : SizedO 150000000000000 a.pg.cos
theorem LiesK.nbo {W W' : World} {v : Value} {C : Mg.CC} {g : Nat} (h : LiesK W v C) (hw : W.grownBy W' (some g)) (hn : ∀ b, v.ownBlock = some b → b ≠ g) : LiesK W' v C := by
  obtain ⟨a, cap, rfl, h1, h2, h3⟩ := h
  refine ⟨a, cap, rfl, h1, h2, fun i hi => ?_⟩
  obtain ⟨b, o, rfl, hb, c1, c2⟩ := h3 i hi
  have c := cell_nb hw hb (hn b rfl)
  exact ⟨b, o, rfl, Nat.lt_of_lt_of_le hb hw.size, (c _).trans c1, (c _).trans c2⟩
namespace Jn
theorem run_goodH {n : Int} : ∀ (l : List Pp.Ch) (T : List En), Pp.Good T → (Pp.runF n T l).2.1 = 0 → Pp.Good (Pp.runF n T l).2.2
  | [], T, hT, _ => hT
  | c :: r, T, hT, h => by
    rw [Pp.runF] at h ⊢
    by_cases h0 : Pp.appE T c n = 0
    · rw [if_pos h0] at h ⊢
      exact run_goodH r _ (Pp.app_good hT h0) h
    · rw [if_neg h0] at h; exact absurd h h0
theorem all_goodH {T : List En} {l : List Pp.Ch} {n : Int} (hT : Pp.Good T) (h : Pp.allE T l n = 0) : Pp.Good (Pp.allR T l n) := by
  have ht := (Pp.good_iff _).2 hT
  rw [Pp.allE, if_neg (fun x => x ht)] at h
  rw [Pp.allR, if_neg (fun x => x ht)]
  by_cases h20 : 20 < l.length
  · rw [if_pos h20] at h; cases h
  · rw [if_neg h20] at h
    rw [if_neg h20]
    exact run_goodH l T hT h
theorem folF_good : ∀ (l : List Co) (T : List En), Pp.Good T → (folF T l).1 = 0 → Pp.Good (folF T l).2
  | [], T, hT, _ => hT
  | c :: r, T, hT, h => by
    rw [folF] at h ⊢
    by_cases h0 : Pp.allE T c.ch c.nu = 0
    · rw [if_pos h0] at h ⊢
      exact folF_good r _ (all_goodH hT h0) h
    · rw [if_neg h0] at h; exact absurd h h0
theorem fol_good {T : List En} {c : Int} {P : Pg} (h : folE T c P = 0) : Pp.Good (folR T c P) := by
  have hk : knE T c = 0 := by
    by_cases hk : knE T c = 0
    · exact hk
    · rw [fol_kn hk] at h; exact h
  have hT := (Pp.good_iff _).1 (kn_zero hk).1
  cases hr : P.reset with
  | true =>
    rw [(fol_okR h hr).1]
    rw [fol_reset hk hr] at h
    have h1 : knE P.tree P.cur = 0 := by
      by_cases h1 : knE P.tree P.cur = 0
      · exact h1
      · rw [rst_kn h1] at h; exact h
    exact (Pp.good_iff _).1 (kn_zero h1).1
  | false =>
    rw [(fol_okF h hr).1]
    by_cases ho : onE P c = 0
    · rw [fol_run hk hr ho] at h
      exact folF_good _ _ hT h
    · rw [fol_on hk hr ho] at h; exact absurd h ho
end Jn
namespace Cy
def tnE (c : Cn) (a : An) : Int := if ¬ a.err = 0 then a.err else if a.pg.reset = true ∧ a.pg.cur < c.cur then 4 else if ¬ Jn.folE c.base c.cur a.pg = 0 then Jn.folE c.base c.cur a.pg else Mg.mE c.base c.mine (Jn.folR c.base c.cur a.pg)
def tnC (c : Cn) (a : An) : Cn := if tnE c a = 0 then ⟨c.who, c.fo, Jn.folR c.base c.cur a.pg, Jn.folN c.base c.cur a.pg, Mg.mT c.base c.mine (Jn.folR c.base c.cur a.pg), c.key, c.ask, c.keys⟩ else zeroN
def tnK (c : Cn) (a : An) : Mg.CC := if tnE c a = 0 then Mg.mC c.base c.mine (Jn.folR c.base c.cur a.pg) else []
end Cy


set_option maxRecDepth 100000 in
set_option maxHeartbeats 8000000 in
theorem turn_any (c : Cn) (a : An) (v va : Value) (w : World) (hv : LiesN w v c) (ha : LiesA w va a) (hs : SizedN c) (hsa : SizedA a) (hgb : Pp.treeE c.base = 0) :
    Calls Tryz.prog 11 #[v, va] w fun e w' => ∃ u vk, e = .returned (.tuple #[u, vk, .int .i64 (Cy.tnE c a)]) ∧ LiesN w' u (Cy.tnC c a) ∧ LiesK w' vk (Cy.tnK c a) ∧ Own w.heap.size w' vk ∧ Below w.heap.size w w' := by
  have HS := hid hs
  have HSA := hid hsa
  have HGB := hid hgb
  have HV := hid hv
  have HA := hid ha
  obtain ⟨vb, vm, vq, rfl, lb, lm, la⟩ := hv
  have HLB := hid lb
  have HLM := hid lm
  have HLC := hid la
  obtain ⟨ab, cb, rfl, _⟩ := lb
  obtain ⟨am, cm, rfl, _⟩ := lm
  obtain ⟨aa, ca, rfl, _⟩ := la
  obtain ⟨vt, vc, rfl, lt, lc⟩ := ha
  have HLT := hid lt
  have HLO := hid lc
  obtain ⟨xt, yt, rfl, _⟩ := lt
  obtain ⟨xc, yc, rfl⟩ := liesO_shape lc
  clear hs hsa lc hgb
  obtain ⟨r, hr⟩ : ∃ r, r = Cy.tnE c a := ⟨_, rfl⟩
  rw [← hr]
  have HR := hid hr
  clear hr
  have HZE : Hid (¬ r = 0 → r = r ∧ Cy.tnC c a = zeroN ∧ Cy.tnK c a = []) := (fun h => by rw [HR.out] at h; exact ⟨rfl, by rw [Cy.tnC, if_neg h], by rw [Cy.tnK, if_neg h]⟩ : ¬ r = 0 → r = r ∧ Cy.tnC c a = zeroN ∧ Cy.tnK c a = [])
  obtain ⟨wa, hwa⟩ : ∃ wa, wa = w.alloc (.cells #[.string c.who, .string c.fo, .slice ab c.base.length cb, .int .i64 c.cur, .slice am c.mine.length cm, .string c.key, .slice aa c.ask.length ca, .int .i64 c.keys] 25) := ⟨_, rfl⟩
  obtain ⟨wb, hwb⟩ : ∃ wb, wb = wa.alloc (.cells #[.int .i64 a.err, .int .i64 a.num, .bool a.pg.reset, .slice xt a.pg.tree.length yt, .slice xc a.pg.cos.length yc, .int .i64 a.pg.cur, .bool a.pg.more] 31) := ⟨_, rfl⟩
  obtain ⟨wz, hwz⟩ : ∃ wz, wz = wb.alloc (.cells #[.string ⟨#[]⟩, .string ⟨#[]⟩, .slice none 0 0, .int .i64 0, .slice none 0 0, .string ⟨#[]⟩, .slice none 0 0, .int .i64 0] 25) := ⟨_, rfl⟩
  have sa : wa.heap.size = w.heap.size + 1 := by rw [hwa]; simp
  have sb : wb.heap.size = w.heap.size + 1 + 1 := by rw [hwb]; simp [sa]
  have bwa : Below w.heap.size w wa := by rw [hwa]; exact (Below.refl _ _).alloc (Nat.le_refl _) _
  have bwb : Below wa.heap.size wa wb := by rw [hwb]; exact (Below.refl _ _).alloc (Nat.le_refl _) _
  have bwz : Below wb.heap.size wb wz := by rw [hwz]; exact (Below.refl _ _).alloc (Nat.le_refl _) _
  have hbz : Below w.heap.size w wz := below_tr bwa (below_tr bwb bwz)
  have HX : Hid (Cs wz w.heap.size [.string c.who, .string c.fo, .slice ab c.base.length cb, .int .i64 c.cur, .slice am c.mine.length cm, .string c.key, .slice aa c.ask.length ca, .int .i64 c.keys]) := (((by rw [hwa]; exact Cs.new w [.string c.who, .string c.fo, .slice ab c.base.length cb, .int .i64 c.cur, .slice am c.mine.length cm, .string c.key, .slice aa c.ask.length ca, .int .i64 c.keys] _ : Cs wa w.heap.size [.string c.who, .string c.fo, .slice ab c.base.length cb, .int .i64 c.cur, .slice am c.mine.length cm, .string c.key, .slice aa c.ask.length ca, .int .i64 c.keys]).below bwb).below bwz : Cs wz w.heap.size _)
  have HC : Hid (Cs wz (w.heap.size + 1) [.int .i64 a.err, .int .i64 a.num, .bool a.pg.reset, .slice xt a.pg.tree.length yt, .slice xc a.pg.cos.length yc, .int .i64 a.pg.cur, .bool a.pg.more]) := ((by rw [← sa, hwb]; exact Cs.new wa [.int .i64 a.err, .int .i64 a.num, .bool a.pg.reset, .slice xt a.pg.tree.length yt, .slice xc a.pg.cos.length yc, .int .i64 a.pg.cur, .bool a.pg.more] _ : Cs wb (w.heap.size + 1) [.int .i64 a.err, .int .i64 a.num, .bool a.pg.reset, .slice xt a.pg.tree.length yt, .slice xc a.pg.cos.length yc, .int .i64 a.pg.cur, .bool a.pg.more]).below bwz : Cs wz (w.heap.size + 1) _)
  have HY : Hid (Cs wz (w.heap.size + 1 + 1) zs) := (by rw [← sb, hwz]; exact Cs.new wb zs _ : Cs wz (w.heap.size + 1 + 1) zs)
  have hNz : w.heap.size + 1 + 1 < wz.heap.size := HY.out.lt
  have hwzz : (((w.alloc (.cells #[.string c.who, .string c.fo, .slice ab c.base.length cb, .int .i64 c.cur, .slice am c.mine.length cm, .string c.key, .slice aa c.ask.length ca, .int .i64 c.keys] 25)).alloc (.cells #[.int .i64 a.err, .int .i64 a.num, .bool a.pg.reset, .slice xt a.pg.tree.length yt, .slice xc a.pg.cos.length yc, .int .i64 a.pg.cur, .bool a.pg.more] 31)).alloc (.cells #[.string ⟨#[]⟩, .string ⟨#[]⟩, .slice none 0 0, .int .i64 0, .slice none 0 0, .string ⟨#[]⟩, .slice none 0 0, .int .i64 0] 25)) = wz := by rw [hwz, hwb, hwa]
  have HWZ := hid hwzz
  have n1 : ¬ w.heap.size = w.heap.size + 1 + 1 := by omega
  have n2 : ¬ w.heap.size + 1 = w.heap.size + 1 + 1 := by omega
  have n3 : ¬ w.heap.size + 1 + 1 = w.heap.size + 1 := by omega
  clear hwa hwb hwz bwa bwb bwz sa sb hwzz
  by_cases he : a.err = 0
  · by_cases hrs : a.pg.reset = true ∧ a.pg.cur < c.cur
    · have hr4 : r = 4 := by rw [HR.out, Cy.tnE, if_neg (fun x => x he), if_pos hrs]
      have HZ4 := hid (HZE.out (by rw [hr4]; decide))
      subst hr4
      have heb : (a.err == 0) = true := by simpa using he
      have heb2 : (a.err != 0) = false := by simpa using he
      have HRS := hid hrs
      clear he hrs
      go_enter Tryz.func11, Tryz.ntmps11
      go_upto_region 1 with fail
      rw [HWZ.out]
      clear HWZ
      obtain ⟨hr1, hr2⟩ := HRS.out
      have p3 := HX.out.cell 3 rfl
      have t0 := HC.out.cell 0 rfl
      have t2 := HC.out.cell 2 rfl
      have t5 := HC.out.cell 5 rfl
      have y0 := HY.out.cell 0 rfl
      have g0 := HY.out.fr 0
      have y1 := HY.out.cell 1 rfl
      have g1 := HY.out.fr 1
      have y2 := HY.out.cell 2 rfl
      have g2 := HY.out.fr 2
      have y3 := HY.out.cell 3 rfl
      have g3 := HY.out.fr 3
      have y4 := HY.out.cell 4 rfl
      have g4 := HY.out.fr 4
      have y5 := HY.out.cell 5 rfl
      have g5 := HY.out.fr 5
      have y6 := HY.out.cell 6 rfl
      have g6 := HY.out.fr 6
      have y7 := HY.out.cell 7 rfl
      have g7 := HY.out.fr 7
      go_wp2_with fail
      refine bodyPost_ret (v := .tuple #[.agg #[.string ⟨#[]⟩, .string ⟨#[]⟩, .slice none 0 0, .int .i64 0, .slice none 0 0, .string ⟨#[]⟩, .slice none 0 0, .int .i64 0], .slice none 0 0, .int .i64 4]) (by simp [results, Tryz.results11, go_sem, y0, y1, y2, y3, y4, y5, y6, y7]) rfl ⟨_, _, rfl, ?_, ?_, own_nil _ _, ?_⟩
      · rw [(HZ4.out).2.1]; exact (ownN_zero 0 _).lies
      · rw [(HZ4.out).2.2]; exact LiesK.nil _
      · exact ((((((((hbz.setCell (p := ⟨w.heap.size + 1 + 1, 0, none⟩) (by show _ ≤ w.heap.size + 1 + 1; omega) _).setCell (p := ⟨w.heap.size + 1 + 1, 1, none⟩) (by show _ ≤ w.heap.size + 1 + 1; omega) _).setCell (p := ⟨w.heap.size + 1 + 1, 2, none⟩) (by show _ ≤ w.heap.size + 1 + 1; omega) _).setCell (p := ⟨w.heap.size + 1 + 1, 3, none⟩) (by show _ ≤ w.heap.size + 1 + 1; omega) _).setCell (p := ⟨w.heap.size + 1 + 1, 4, none⟩) (by show _ ≤ w.heap.size + 1 + 1; omega) _).setCell (p := ⟨w.heap.size + 1 + 1, 5, none⟩) (by show _ ≤ w.heap.size + 1 + 1; omega) _).setCell (p := ⟨w.heap.size + 1 + 1, 6, none⟩) (by show _ ≤ w.heap.size + 1 + 1; omega) _).setCell (p := ⟨w.heap.size + 1 + 1, 7, none⟩) (by show _ ≤ w.heap.size + 1 + 1; omega) _)
    · have heb : (a.err == 0) = true := by simpa using he
      have heb2 : (a.err != 0) = false := by simpa using he
      have HRR : Hid (r = if ¬ Jn.folE c.base c.cur a.pg = 0 then Jn.folE c.base c.cur a.pg else Mg.mE c.base c.mine (Jn.folR c.base c.cur a.pg)) := (by rw [HR.out, Cy.tnE, if_neg (fun x => x he), if_neg hrs] : r = if ¬ Jn.folE c.base c.cur a.pg = 0 then Jn.folE c.base c.cur a.pg else Mg.mE c.base c.mine (Jn.folR c.base c.cur a.pg))
      have hgo : a.pg.reset = false ∨ (a.pg.reset = true ∧ ¬ a.pg.cur < c.cur) := by
        cases h : a.pg.reset with
        | false => exact Or.inl rfl
        | true => exact Or.inr ⟨rfl, fun x => hrs ⟨h, x⟩⟩
      have HGO := hid hgo
      clear he hrs hgo
      rcases HGO.out with hg1 | ⟨hg1, hg2⟩
      · have HG1 := hid hg1
        clear hg1
        clear HGO
        go_enter Tryz.func11, Tryz.ntmps11
        go_upto_region 1 with fail
        rw [HWZ.out]
        clear HWZ
        have hg1 := HG1.out
        have p2 := HX.out.cell 2 rfl
        have p3 := HX.out.cell 3 rfl
        have t0 := HC.out.cell 0 rfl
        have t1 := HC.out.cell 1 rfl
        have t2 := HC.out.cell 2 rfl
        have t3 := HC.out.cell 3 rfl
        have t4 := HC.out.cell 4 rfl
        have t5 := HC.out.cell 5 rfl
        have t6 := HC.out.cell 6 rfl
        go_wp2_with fail
        refine (follow_any c.base _ c.cur a.pg _ _ (HLB.out.below hbz) HS.out.base ⟨_, _, by rw [HG1.out], HLT.out.below hbz, HLO.out.below hbz⟩ HSA.out.tree HSA.out.cos).mono ?_
        rintro e w1 ⟨u1, rfl, hl1, hb1⟩
        have hb01 := below_tr hbz hb1
        have HX1 := hid (HX.out.below hb1)
        have HY1 := hid (HY.out.below hb1)
        have s1 := hb1.size
        clear p2 p3 t0 t1 t2 t3 t4 t5 t6
        by_cases hf : Jn.folE c.base c.cur a.pg = 0
        · have HF := hid hf
          rw [hf]
          clear hf
          obtain ⟨T, hT⟩ : ∃ T, T = Jn.folR c.base c.cur a.pg := ⟨_, rfl⟩
          rw [← hT] at hl1
          have HT := hid hT
          have HTG : Hid (Pp.Good T) := (by rw [hT]; exact Jn.fol_good HF.out : Pp.Good T)
          obtain ⟨nn, hnn⟩ : ∃ nn, nn = Jn.folN c.base c.cur a.pg := ⟨_, rfl⟩
          rw [← hnn]
          have HNN := hid hnn
          clear hT hnn
          have HL1 := hid hl1
          obtain ⟨ta, tc, rfl, _⟩ := hl1
          have p2 := HX1.out.cell 2 rfl
          have p4 := HX1.out.cell 4 rfl
          go_wp2_with fail
          refine (merge_own c.base c.mine T _ _ _ _ (HLB.out.below hb01) (HLM.out.below hb01) HL1.out HS.out.base HS.out.mine (Pp.good_sized HTG.out)).mono ?_
          rintro e w2 ⟨ve, vk, rfl, hl2, hk2, ⟨ho2, ho3⟩, hb2⟩
          have hb02 := below_tr hb01 hb2
          have HX2 := hid (HX1.out.below hb2)
          have HY2 := hid (HY1.out.below hb2)
          have HL2 := hid (HL1.out.below hb2)
          have s2 := hb2.size
          clear p2 p4
          by_cases hm : Mg.mE c.base c.mine T = 0
          · have HOK : Hid (r = 0 ∧ Cy.tnC c a = ⟨c.who, c.fo, T, nn, Mg.mT c.base c.mine T, c.key, c.ask, c.keys⟩ ∧ Cy.tnK c a = Mg.mC c.base c.mine T) := (by
              have h3 : r = 0 := by rw [HRR.out, if_neg (fun x => x HF.out), ← HT.out]; exact hm
              have h4 : Cy.tnE c a = 0 := by rw [← HR.out]; exact h3
              exact ⟨h3, by rw [Cy.tnC, if_pos h4, HT.out, HNN.out], by rw [Cy.tnK, if_pos h4, HT.out]⟩ : r = 0 ∧ Cy.tnC c a = ⟨c.who, c.fo, T, nn, Mg.mT c.base c.mine T, c.key, c.ask, c.keys⟩ ∧ Cy.tnK c a = Mg.mC c.base c.mine T)
            rw [hm]
            have h0r := HOK.out.1
            subst h0r
            clear hm
            obtain ⟨X, hX⟩ : ∃ X, X = Mg.mT c.base c.mine T := ⟨_, rfl⟩
            rw [← hX] at hl2
            obtain ⟨C, hC⟩ : ∃ C, C = Mg.mC c.base c.mine T := ⟨_, rfl⟩
            rw [← hC] at hk2
            have HXC : Hid (X = Mg.mT c.base c.mine T ∧ C = Mg.mC c.base c.mine T) := (⟨hX, hC⟩ : X = Mg.mT c.base c.mine T ∧ C = Mg.mC c.base c.mine T)
            have HV2 := hid hl2
            have HK2 := hid hk2
            have HO3 := hid ho3
            obtain ⟨ea, ec, rfl, _⟩ := hl2
            obtain ⟨ka, kc, rfl, _⟩ := hk2
            clear hX hC ho2 ho3
            obtain ⟨w3, hw3⟩ : ∃ w3, w3 = ((w2.setCell ⟨w.heap.size, 2, none⟩ (.slice ta T.length tc)).setCell ⟨w.heap.size, 4, none⟩ (.slice ea X.length ec)).setCell ⟨w.heap.size, 3, none⟩ (.int .i64 nn) := ⟨_, rfl⟩
            have g3 : w2.grownBy w3 (some w.heap.size) := by rw [hw3]; exact grown_on (grown_on (nb_set w2 w.heap.size 2 _) (nb_set _ w.heap.size 4 _)) (nb_set _ w.heap.size 3 _)
            have HX3 : Hid (Cs w3 w.heap.size [.string c.who, .string c.fo, .slice ta T.length tc, .int .i64 nn, .slice ea X.length ec, .string c.key, .slice aa c.ask.length ca, .int .i64 c.keys]) := (by rw [hw3]; exact ((HX2.out.set 2 _).set 4 _).set 3 _ : Cs w3 w.heap.size _)
            have HY3 := hid (HY2.out.nb g3 (by omega))
            have HL3 := hid (HL2.out.offbox HX2.out (fun z hz => by simp at hz) g3)
            have HV3 := hid (HV2.out.offbox HX2.out (fun z hz => by simp at hz) g3)
            have HK3 := hid (HK2.out.nbo g3 (fun b hb => by have := (HO3.out b hb).1; omega))
            have HP3 := hid (HO3.out.nb g3 (fun b hb => by have := (HO3.out b hb).1; omega))
            have hb3 : Below w.heap.size w w3 := by rw [hw3]; exact ((hb02.setCell (p := ⟨w.heap.size, 2, none⟩) (Nat.le_refl _) _).setCell (p := ⟨w.heap.size, 4, none⟩) (Nat.le_refl _) _).setCell (p := ⟨w.heap.size, 3, none⟩) (Nat.le_refl _) _
            have s3 := g3.size
            have p2 := HX2.out.cell 2 rfl
            have f2 := HX2.out.fr 2
            have p3 := HX2.out.cell 3 rfl
            have f3 := HX2.out.fr 3
            have p4 := HX2.out.cell 4 rfl
            have f4 := HX2.out.fr 4
            go_upto_region 12 with fail
            rw [← hw3]
            clear hw3 p2 p3 p4 f2 f3 f4
            have p0 := HX3.out.cell 0 rfl
            have p1 := HX3.out.cell 1 rfl
            have p2 := HX3.out.cell 2 rfl
            have p3 := HX3.out.cell 3 rfl
            have p4 := HX3.out.cell 4 rfl
            have p5 := HX3.out.cell 5 rfl
            have p6 := HX3.out.cell 6 rfl
            have p7 := HX3.out.cell 7 rfl
            have y0 := HY3.out.cell 0 rfl
            have g0 := HY3.out.fr 0
            have y1 := HY3.out.cell 1 rfl
            have g1 := HY3.out.fr 1
            have y2 := HY3.out.cell 2 rfl
            have g2 := HY3.out.fr 2
            have y3 := HY3.out.cell 3 rfl
            have g3 := HY3.out.fr 3
            have y4 := HY3.out.cell 4 rfl
            have g4 := HY3.out.fr 4
            have y5 := HY3.out.cell 5 rfl
            have g5 := HY3.out.fr 5
            have y6 := HY3.out.cell 6 rfl
            have g6 := HY3.out.fr 6
            have y7 := HY3.out.cell 7 rfl
            have g7 := HY3.out.fr 7
            go_wp2_with fail
            have gz : w3.grownBy _ (some (w.heap.size + 1 + 1)) := (grown_on (grown_on (grown_on (grown_on (grown_on (grown_on (grown_on (nb_set w3 (w.heap.size + 1 + 1) 0 (.string c.who)) (nb_set _ (w.heap.size + 1 + 1) 1 (.string c.fo))) (nb_set _ (w.heap.size + 1 + 1) 2 (.slice ta T.length tc))) (nb_set _ (w.heap.size + 1 + 1) 3 (.int .i64 nn))) (nb_set _ (w.heap.size + 1 + 1) 4 (.slice ea X.length ec))) (nb_set _ (w.heap.size + 1 + 1) 5 (.string c.key))) (nb_set _ (w.heap.size + 1 + 1) 6 (.slice aa c.ask.length ca))) (nb_set _ (w.heap.size + 1 + 1) 7 (.int .i64 c.keys)))
            have hbl := ((((((((hb3.setCell (p := ⟨w.heap.size + 1 + 1, 0, none⟩) (by show _ ≤ w.heap.size + 1 + 1; omega) (.string c.who)).setCell (p := ⟨w.heap.size + 1 + 1, 1, none⟩) (by show _ ≤ w.heap.size + 1 + 1; omega) (.string c.fo)).setCell (p := ⟨w.heap.size + 1 + 1, 2, none⟩) (by show _ ≤ w.heap.size + 1 + 1; omega) (.slice ta T.length tc)).setCell (p := ⟨w.heap.size + 1 + 1, 3, none⟩) (by show _ ≤ w.heap.size + 1 + 1; omega) (.int .i64 nn)).setCell (p := ⟨w.heap.size + 1 + 1, 4, none⟩) (by show _ ≤ w.heap.size + 1 + 1; omega) (.slice ea X.length ec)).setCell (p := ⟨w.heap.size + 1 + 1, 5, none⟩) (by show _ ≤ w.heap.size + 1 + 1; omega) (.string c.key)).setCell (p := ⟨w.heap.size + 1 + 1, 6, none⟩) (by show _ ≤ w.heap.size + 1 + 1; omega) (.slice aa c.ask.length ca)).setCell (p := ⟨w.heap.size + 1 + 1, 7, none⟩) (by show _ ≤ w.heap.size + 1 + 1; omega) (.int .i64 c.keys))
            refine bodyPost_ret (v := .tuple #[.agg #[.string c.who, .string c.fo, .slice ta T.length tc, .int .i64 nn, .slice ea X.length ec, .string c.key, .slice aa c.ask.length ca, .int .i64 c.keys], .slice ka C.length kc, .int .i64 0]) (by simp [results, Tryz.results11, go_sem, y0, y1, y2, y3, y4, y5, y6, y7]) rfl ⟨_, _, rfl, ?_, ?_, ?_, hbl⟩
            · rw [HOK.out.2.1, ← HXC.out.1]
              exact ⟨_, _, _, rfl, HL3.out.offbox HY3.out (fun z hz => by simp at hz) gz, HV3.out.offbox HY3.out (fun z hz => by simp at hz) gz, HLC.out.below hbl⟩
            · rw [HOK.out.2.2, ← HXC.out.2]
              exact HK3.out.nbo gz (fun b hb => by have := (HP3.out b hb).1; omega)
            · exact (HP3.out.nb gz (fun b hb => by have := (HP3.out b hb).1; omega)).mono (by omega)
          · have hrm : r = Mg.mE c.base c.mine T := by rw [HRR.out, if_neg (fun x => x HF.out), ← HT.out]
            have HZ4 := hid (HZE.out (by rw [hrm]; exact hm))
            have hmb : (r != 0) = true := by rw [hrm]; simpa using hm
            rw [← hrm]
            clear hrm hm hl2 hk2 ho2 ho3
            have y0 := HY2.out.cell 0 rfl
            have g0 := HY2.out.fr 0
            have y1 := HY2.out.cell 1 rfl
            have g1 := HY2.out.fr 1
            have y2 := HY2.out.cell 2 rfl
            have g2 := HY2.out.fr 2
            have y3 := HY2.out.cell 3 rfl
            have g3 := HY2.out.fr 3
            have y4 := HY2.out.cell 4 rfl
            have g4 := HY2.out.fr 4
            have y5 := HY2.out.cell 5 rfl
            have g5 := HY2.out.fr 5
            have y6 := HY2.out.cell 6 rfl
            have g6 := HY2.out.fr 6
            have y7 := HY2.out.cell 7 rfl
            have g7 := HY2.out.fr 7
            go_wp2_with fail
            refine bodyPost_ret (v := .tuple #[.agg #[.string ⟨#[]⟩, .string ⟨#[]⟩, .slice none 0 0, .int .i64 0, .slice none 0 0, .string ⟨#[]⟩, .slice none 0 0, .int .i64 0], .slice none 0 0, .int .i64 r]) (by simp [results, Tryz.results11, go_sem, y0, y1, y2, y3, y4, y5, y6, y7]) rfl ⟨_, _, rfl, ?_, ?_, own_nil _ _, ?_⟩
            · rw [(HZ4.out).2.1]; exact (ownN_zero 0 _).lies
            · rw [(HZ4.out).2.2]; exact LiesK.nil _
            · exact ((((((((hb02.setCell (p := ⟨w.heap.size + 1 + 1, 0, none⟩) (by show _ ≤ w.heap.size + 1 + 1; omega) _).setCell (p := ⟨w.heap.size + 1 + 1, 1, none⟩) (by show _ ≤ w.heap.size + 1 + 1; omega) _).setCell (p := ⟨w.heap.size + 1 + 1, 2, none⟩) (by show _ ≤ w.heap.size + 1 + 1; omega) _).setCell (p := ⟨w.heap.size + 1 + 1, 3, none⟩) (by show _ ≤ w.heap.size + 1 + 1; omega) _).setCell (p := ⟨w.heap.size + 1 + 1, 4, none⟩) (by show _ ≤ w.heap.size + 1 + 1; omega) _).setCell (p := ⟨w.heap.size + 1 + 1, 5, none⟩) (by show _ ≤ w.heap.size + 1 + 1; omega) _).setCell (p := ⟨w.heap.size + 1 + 1, 6, none⟩) (by show _ ≤ w.heap.size + 1 + 1; omega) _).setCell (p := ⟨w.heap.size + 1 + 1, 7, none⟩) (by show _ ≤ w.heap.size + 1 + 1; omega) _)
        · have hrm : r = Jn.folE c.base c.cur a.pg := by rw [HRR.out, if_pos hf]
          have HZ4 := hid (HZE.out (by rw [hrm]; exact hf))
          have hmb : (r != 0) = true := by rw [hrm]; simpa using hf
          rw [← hrm]
          clear hrm hf hl1
          have y0 := HY1.out.cell 0 rfl
          have g0 := HY1.out.fr 0
          have y1 := HY1.out.cell 1 rfl
          have g1 := HY1.out.fr 1
          have y2 := HY1.out.cell 2 rfl
          have g2 := HY1.out.fr 2
          have y3 := HY1.out.cell 3 rfl
          have g3 := HY1.out.fr 3
          have y4 := HY1.out.cell 4 rfl
          have g4 := HY1.out.fr 4
          have y5 := HY1.out.cell 5 rfl
          have g5 := HY1.out.fr 5
          have y6 := HY1.out.cell 6 rfl
          have g6 := HY1.out.fr 6
          have y7 := HY1.out.cell 7 rfl
          have g7 := HY1.out.fr 7
          go_wp2_with fail
          refine bodyPost_ret (v := .tuple #[.agg #[.string ⟨#[]⟩, .string ⟨#[]⟩, .slice none 0 0, .int .i64 0, .slice none 0 0, .string ⟨#[]⟩, .slice none 0 0, .int .i64 0], .slice none 0 0, .int .i64 r]) (by simp [results, Tryz.results11, go_sem, y0, y1, y2, y3, y4, y5, y6, y7]) rfl ⟨_, _, rfl, ?_, ?_, own_nil _ _, ?_⟩
          · rw [(HZ4.out).2.1]; exact (ownN_zero 0 _).lies
          · rw [(HZ4.out).2.2]; exact LiesK.nil _
          · exact ((((((((hb01.setCell (p := ⟨w.heap.size + 1 + 1, 0, none⟩) (by show _ ≤ w.heap.size + 1 + 1; omega) _).setCell (p := ⟨w.heap.size + 1 + 1, 1, none⟩) (by show _ ≤ w.heap.size + 1 + 1; omega) _).setCell (p := ⟨w.heap.size + 1 + 1, 2, none⟩) (by show _ ≤ w.heap.size + 1 + 1; omega) _).setCell (p := ⟨w.heap.size + 1 + 1, 3, none⟩) (by show _ ≤ w.heap.size + 1 + 1; omega) _).setCell (p := ⟨w.heap.size + 1 + 1, 4, none⟩) (by show _ ≤ w.heap.size + 1 + 1; omega) _).setCell (p := ⟨w.heap.size + 1 + 1, 5, none⟩) (by show _ ≤ w.heap.size + 1 + 1; omega) _).setCell (p := ⟨w.heap.size + 1 + 1, 6, none⟩) (by show _ ≤ w.heap.size + 1 + 1; omega) _).setCell (p := ⟨w.heap.size + 1 + 1, 7, none⟩) (by show _ ≤ w.heap.size + 1 + 1; omega) _)
      · have HG1 := hid hg1
        clear hg1
        clear HGO
        go_enter Tryz.func11, Tryz.ntmps11
        go_upto_region 1 with fail
        rw [HWZ.out]
        clear HWZ
        have hg1 := HG1.out
        have p2 := HX.out.cell 2 rfl
        have p3 := HX.out.cell 3 rfl
        have t0 := HC.out.cell 0 rfl
        have t1 := HC.out.cell 1 rfl
        have t2 := HC.out.cell 2 rfl
        have t3 := HC.out.cell 3 rfl
        have t4 := HC.out.cell 4 rfl
        have t5 := HC.out.cell 5 rfl
        have t6 := HC.out.cell 6 rfl
        go_wp2_with fail
        refine (follow_any c.base _ c.cur a.pg _ _ (HLB.out.below hbz) HS.out.base ⟨_, _, by rw [HG1.out], HLT.out.below hbz, HLO.out.below hbz⟩ HSA.out.tree HSA.out.cos).mono ?_
        rintro e w1 ⟨u1, rfl, hl1, hb1⟩
        have hb01 := below_tr hbz hb1
        have HX1 := hid (HX.out.below hb1)
        have HY1 := hid (HY.out.below hb1)
        have s1 := hb1.size
        clear p2 p3 t0 t1 t2 t3 t4 t5 t6
        by_cases hf : Jn.folE c.base c.cur a.pg = 0
        · have HF := hid hf
          rw [hf]
          clear hf
          obtain ⟨T, hT⟩ : ∃ T, T = Jn.folR c.base c.cur a.pg := ⟨_, rfl⟩
          rw [← hT] at hl1
          have HT := hid hT
          have HTG : Hid (Pp.Good T) := (by rw [hT]; exact Jn.fol_good HF.out : Pp.Good T)
          obtain ⟨nn, hnn⟩ : ∃ nn, nn = Jn.folN c.base c.cur a.pg := ⟨_, rfl⟩
          rw [← hnn]
          have HNN := hid hnn
          clear hT hnn
          have HL1 := hid hl1
          obtain ⟨ta, tc, rfl, _⟩ := hl1
          have p2 := HX1.out.cell 2 rfl
          have p4 := HX1.out.cell 4 rfl
          go_wp2_with fail
          refine (merge_own c.base c.mine T _ _ _ _ (HLB.out.below hb01) (HLM.out.below hb01) HL1.out HS.out.base HS.out.mine (Pp.good_sized HTG.out)).mono ?_
          rintro e w2 ⟨ve, vk, rfl, hl2, hk2, ⟨ho2, ho3⟩, hb2⟩
          have hb02 := below_tr hb01 hb2
          have HX2 := hid (HX1.out.below hb2)
          have HY2 := hid (HY1.out.below hb2)
          have HL2 := hid (HL1.out.below hb2)
          have s2 := hb2.size
          clear p2 p4
          by_cases hm : Mg.mE c.base c.mine T = 0
          · have HOK : Hid (r = 0 ∧ Cy.tnC c a = ⟨c.who, c.fo, T, nn, Mg.mT c.base c.mine T, c.key, c.ask, c.keys⟩ ∧ Cy.tnK c a = Mg.mC c.base c.mine T) := (by
              have h3 : r = 0 := by rw [HRR.out, if_neg (fun x => x HF.out), ← HT.out]; exact hm
              have h4 : Cy.tnE c a = 0 := by rw [← HR.out]; exact h3
              exact ⟨h3, by rw [Cy.tnC, if_pos h4, HT.out, HNN.out], by rw [Cy.tnK, if_pos h4, HT.out]⟩ : r = 0 ∧ Cy.tnC c a = ⟨c.who, c.fo, T, nn, Mg.mT c.base c.mine T, c.key, c.ask, c.keys⟩ ∧ Cy.tnK c a = Mg.mC c.base c.mine T)
            rw [hm]
            have h0r := HOK.out.1
            subst h0r
            clear hm
            obtain ⟨X, hX⟩ : ∃ X, X = Mg.mT c.base c.mine T := ⟨_, rfl⟩
            rw [← hX] at hl2
            obtain ⟨C, hC⟩ : ∃ C, C = Mg.mC c.base c.mine T := ⟨_, rfl⟩
            rw [← hC] at hk2
            have HXC : Hid (X = Mg.mT c.base c.mine T ∧ C = Mg.mC c.base c.mine T) := (⟨hX, hC⟩ : X = Mg.mT c.base c.mine T ∧ C = Mg.mC c.base c.mine T)
            have HV2 := hid hl2
            have HK2 := hid hk2
            have HO3 := hid ho3
            obtain ⟨ea, ec, rfl, _⟩ := hl2
            obtain ⟨ka, kc, rfl, _⟩ := hk2
            clear hX hC ho2 ho3
            obtain ⟨w3, hw3⟩ : ∃ w3, w3 = ((w2.setCell ⟨w.heap.size, 2, none⟩ (.slice ta T.length tc)).setCell ⟨w.heap.size, 4, none⟩ (.slice ea X.length ec)).setCell ⟨w.heap.size, 3, none⟩ (.int .i64 nn) := ⟨_, rfl⟩
            have g3 : w2.grownBy w3 (some w.heap.size) := by rw [hw3]; exact grown_on (grown_on (nb_set w2 w.heap.size 2 _) (nb_set _ w.heap.size 4 _)) (nb_set _ w.heap.size 3 _)
            have HX3 : Hid (Cs w3 w.heap.size [.string c.who, .string c.fo, .slice ta T.length tc, .int .i64 nn, .slice ea X.length ec, .string c.key, .slice aa c.ask.length ca, .int .i64 c.keys]) := (by rw [hw3]; exact ((HX2.out.set 2 _).set 4 _).set 3 _ : Cs w3 w.heap.size _)
            have HY3 := hid (HY2.out.nb g3 (by omega))
            have HL3 := hid (HL2.out.offbox HX2.out (fun z hz => by simp at hz) g3)
            have HV3 := hid (HV2.out.offbox HX2.out (fun z hz => by simp at hz) g3)
            have HK3 := hid (HK2.out.nbo g3 (fun b hb => by have := (HO3.out b hb).1; omega))
            have HP3 := hid (HO3.out.nb g3 (fun b hb => by have := (HO3.out b hb).1; omega))
            have hb3 : Below w.heap.size w w3 := by rw [hw3]; exact ((hb02.setCell (p := ⟨w.heap.size, 2, none⟩) (Nat.le_refl _) _).setCell (p := ⟨w.heap.size, 4, none⟩) (Nat.le_refl _) _).setCell (p := ⟨w.heap.size, 3, none⟩) (Nat.le_refl _) _
            have s3 := g3.size
            have p2 := HX2.out.cell 2 rfl
            have f2 := HX2.out.fr 2
            have p3 := HX2.out.cell 3 rfl
            have f3 := HX2.out.fr 3
            have p4 := HX2.out.cell 4 rfl
            have f4 := HX2.out.fr 4
            go_upto_region 12 with fail
            rw [← hw3]
            clear hw3 p2 p3 p4 f2 f3 f4
            have p0 := HX3.out.cell 0 rfl
            have p1 := HX3.out.cell 1 rfl
            have p2 := HX3.out.cell 2 rfl
            have p3 := HX3.out.cell 3 rfl
            have p4 := HX3.out.cell 4 rfl
            have p5 := HX3.out.cell 5 rfl
            have p6 := HX3.out.cell 6 rfl
            have p7 := HX3.out.cell 7 rfl
            have y0 := HY3.out.cell 0 rfl
            have g0 := HY3.out.fr 0
            have y1 := HY3.out.cell 1 rfl
            have g1 := HY3.out.fr 1
            have y2 := HY3.out.cell 2 rfl
            have g2 := HY3.out.fr 2
            have y3 := HY3.out.cell 3 rfl
            have g3 := HY3.out.fr 3
            have y4 := HY3.out.cell 4 rfl
            have g4 := HY3.out.fr 4
            have y5 := HY3.out.cell 5 rfl
            have g5 := HY3.out.fr 5
            have y6 := HY3.out.cell 6 rfl
            have g6 := HY3.out.fr 6
            have y7 := HY3.out.cell 7 rfl
            have g7 := HY3.out.fr 7
            go_wp2_with fail
            have gz : w3.grownBy _ (some (w.heap.size + 1 + 1)) := (grown_on (grown_on (grown_on (grown_on (grown_on (grown_on (grown_on (nb_set w3 (w.heap.size + 1 + 1) 0 (.string c.who)) (nb_set _ (w.heap.size + 1 + 1) 1 (.string c.fo))) (nb_set _ (w.heap.size + 1 + 1) 2 (.slice ta T.length tc))) (nb_set _ (w.heap.size + 1 + 1) 3 (.int .i64 nn))) (nb_set _ (w.heap.size + 1 + 1) 4 (.slice ea X.length ec))) (nb_set _ (w.heap.size + 1 + 1) 5 (.string c.key))) (nb_set _ (w.heap.size + 1 + 1) 6 (.slice aa c.ask.length ca))) (nb_set _ (w.heap.size + 1 + 1) 7 (.int .i64 c.keys)))
            have hbl := ((((((((hb3.setCell (p := ⟨w.heap.size + 1 + 1, 0, none⟩) (by show _ ≤ w.heap.size + 1 + 1; omega) (.string c.who)).setCell (p := ⟨w.heap.size + 1 + 1, 1, none⟩) (by show _ ≤ w.heap.size + 1 + 1; omega) (.string c.fo)).setCell (p := ⟨w.heap.size + 1 + 1, 2, none⟩) (by show _ ≤ w.heap.size + 1 + 1; omega) (.slice ta T.length tc)).setCell (p := ⟨w.heap.size + 1 + 1, 3, none⟩) (by show _ ≤ w.heap.size + 1 + 1; omega) (.int .i64 nn)).setCell (p := ⟨w.heap.size + 1 + 1, 4, none⟩) (by show _ ≤ w.heap.size + 1 + 1; omega) (.slice ea X.length ec)).setCell (p := ⟨w.heap.size + 1 + 1, 5, none⟩) (by show _ ≤ w.heap.size + 1 + 1; omega) (.string c.key)).setCell (p := ⟨w.heap.size + 1 + 1, 6, none⟩) (by show _ ≤ w.heap.size + 1 + 1; omega) (.slice aa c.ask.length ca)).setCell (p := ⟨w.heap.size + 1 + 1, 7, none⟩) (by show _ ≤ w.heap.size + 1 + 1; omega) (.int .i64 c.keys))
            refine bodyPost_ret (v := .tuple #[.agg #[.string c.who, .string c.fo, .slice ta T.length tc, .int .i64 nn, .slice ea X.length ec, .string c.key, .slice aa c.ask.length ca, .int .i64 c.keys], .slice ka C.length kc, .int .i64 0]) (by simp [results, Tryz.results11, go_sem, y0, y1, y2, y3, y4, y5, y6, y7]) rfl ⟨_, _, rfl, ?_, ?_, ?_, hbl⟩
            · rw [HOK.out.2.1, ← HXC.out.1]
              exact ⟨_, _, _, rfl, HL3.out.offbox HY3.out (fun z hz => by simp at hz) gz, HV3.out.offbox HY3.out (fun z hz => by simp at hz) gz, HLC.out.below hbl⟩
            · rw [HOK.out.2.2, ← HXC.out.2]
              exact HK3.out.nbo gz (fun b hb => by have := (HP3.out b hb).1; omega)
            · exact (HP3.out.nb gz (fun b hb => by have := (HP3.out b hb).1; omega)).mono (by omega)
          · have hrm : r = Mg.mE c.base c.mine T := by rw [HRR.out, if_neg (fun x => x HF.out), ← HT.out]
            have HZ4 := hid (HZE.out (by rw [hrm]; exact hm))
            have hmb : (r != 0) = true := by rw [hrm]; simpa using hm
            rw [← hrm]
            clear hrm hm hl2 hk2 ho2 ho3
            have y0 := HY2.out.cell 0 rfl
            have g0 := HY2.out.fr 0
            have y1 := HY2.out.cell 1 rfl
            have g1 := HY2.out.fr 1
            have y2 := HY2.out.cell 2 rfl
            have g2 := HY2.out.fr 2
            have y3 := HY2.out.cell 3 rfl
            have g3 := HY2.out.fr 3
            have y4 := HY2.out.cell 4 rfl
            have g4 := HY2.out.fr 4
            have y5 := HY2.out.cell 5 rfl
            have g5 := HY2.out.fr 5
            have y6 := HY2.out.cell 6 rfl
            have g6 := HY2.out.fr 6
            have y7 := HY2.out.cell 7 rfl
            have g7 := HY2.out.fr 7
            go_wp2_with fail
            refine bodyPost_ret (v := .tuple #[.agg #[.string ⟨#[]⟩, .string ⟨#[]⟩, .slice none 0 0, .int .i64 0, .slice none 0 0, .string ⟨#[]⟩, .slice none 0 0, .int .i64 0], .slice none 0 0, .int .i64 r]) (by simp [results, Tryz.results11, go_sem, y0, y1, y2, y3, y4, y5, y6, y7]) rfl ⟨_, _, rfl, ?_, ?_, own_nil _ _, ?_⟩
            · rw [(HZ4.out).2.1]; exact (ownN_zero 0 _).lies
            · rw [(HZ4.out).2.2]; exact LiesK.nil _
            · exact ((((((((hb02.setCell (p := ⟨w.heap.size + 1 + 1, 0, none⟩) (by show _ ≤ w.heap.size + 1 + 1; omega) _).setCell (p := ⟨w.heap.size + 1 + 1, 1, none⟩) (by show _ ≤ w.heap.size + 1 + 1; omega) _).setCell (p := ⟨w.heap.size + 1 + 1, 2, none⟩) (by show _ ≤ w.heap.size + 1 + 1; omega) _).setCell (p := ⟨w.heap.size + 1 + 1, 3, none⟩) (by show _ ≤ w.heap.size + 1 + 1; omega) _).setCell (p := ⟨w.heap.size + 1 + 1, 4, none⟩) (by show _ ≤ w.heap.size + 1 + 1; omega) _).setCell (p := ⟨w.heap.size + 1 + 1, 5, none⟩) (by show _ ≤ w.heap.size + 1 + 1; omega) _).setCell (p := ⟨w.heap.size + 1 + 1, 6, none⟩) (by show _ ≤ w.heap.size + 1 + 1; omega) _).setCell (p := ⟨w.heap.size + 1 + 1, 7, none⟩) (by show _ ≤ w.heap.size + 1 + 1; omega) _)
        · have hrm : r = Jn.folE c.base c.cur a.pg := by rw [HRR.out, if_pos hf]
          have HZ4 := hid (HZE.out (by rw [hrm]; exact hf))
          have hmb : (r != 0) = true := by rw [hrm]; simpa using hf
          rw [← hrm]
          clear hrm hf hl1
          have y0 := HY1.out.cell 0 rfl
          have g0 := HY1.out.fr 0
          have y1 := HY1.out.cell 1 rfl
          have g1 := HY1.out.fr 1
          have y2 := HY1.out.cell 2 rfl
          have g2 := HY1.out.fr 2
          have y3 := HY1.out.cell 3 rfl
          have g3 := HY1.out.fr 3
          have y4 := HY1.out.cell 4 rfl
          have g4 := HY1.out.fr 4
          have y5 := HY1.out.cell 5 rfl
          have g5 := HY1.out.fr 5
          have y6 := HY1.out.cell 6 rfl
          have g6 := HY1.out.fr 6
          have y7 := HY1.out.cell 7 rfl
          have g7 := HY1.out.fr 7
          go_wp2_with fail
          refine bodyPost_ret (v := .tuple #[.agg #[.string ⟨#[]⟩, .string ⟨#[]⟩, .slice none 0 0, .int .i64 0, .slice none 0 0, .string ⟨#[]⟩, .slice none 0 0, .int .i64 0], .slice none 0 0, .int .i64 r]) (by simp [results, Tryz.results11, go_sem, y0, y1, y2, y3, y4, y5, y6, y7]) rfl ⟨_, _, rfl, ?_, ?_, own_nil _ _, ?_⟩
          · rw [(HZ4.out).2.1]; exact (ownN_zero 0 _).lies
          · rw [(HZ4.out).2.2]; exact LiesK.nil _
          · exact ((((((((hb01.setCell (p := ⟨w.heap.size + 1 + 1, 0, none⟩) (by show _ ≤ w.heap.size + 1 + 1; omega) _).setCell (p := ⟨w.heap.size + 1 + 1, 1, none⟩) (by show _ ≤ w.heap.size + 1 + 1; omega) _).setCell (p := ⟨w.heap.size + 1 + 1, 2, none⟩) (by show _ ≤ w.heap.size + 1 + 1; omega) _).setCell (p := ⟨w.heap.size + 1 + 1, 3, none⟩) (by show _ ≤ w.heap.size + 1 + 1; omega) _).setCell (p := ⟨w.heap.size + 1 + 1, 4, none⟩) (by show _ ≤ w.heap.size + 1 + 1; omega) _).setCell (p := ⟨w.heap.size + 1 + 1, 5, none⟩) (by show _ ≤ w.heap.size + 1 + 1; omega) _).setCell (p := ⟨w.heap.size + 1 + 1, 6, none⟩) (by show _ ≤ w.heap.size + 1 + 1; omega) _).setCell (p := ⟨w.heap.size + 1 + 1, 7, none⟩) (by show _ ≤ w.heap.size + 1 + 1; omega) _)
  · have hre : r = a.err := by rw [HR.out, Cy.tnE, if_pos he]
    have HZ4 := hid (HZE.out (by rw [hre]; exact he))
    have heb : (a.err == 0) = false := by simpa using he
    have heb2 : (a.err != 0) = true := by simpa using he
    rw [hre]
    clear he hre
    go_enter Tryz.func11, Tryz.ntmps11
    go_upto_region 1 with fail
    rw [HWZ.out]
    clear HWZ
    have t0 := HC.out.cell 0 rfl
    have y0 := HY.out.cell 0 rfl
    have g0 := HY.out.fr 0
    have y1 := HY.out.cell 1 rfl
    have g1 := HY.out.fr 1
    have y2 := HY.out.cell 2 rfl
    have g2 := HY.out.fr 2
    have y3 := HY.out.cell 3 rfl
    have g3 := HY.out.fr 3
    have y4 := HY.out.cell 4 rfl
    have g4 := HY.out.fr 4
    have y5 := HY.out.cell 5 rfl
    have g5 := HY.out.fr 5
    have y6 := HY.out.cell 6 rfl
    have g6 := HY.out.fr 6
    have y7 := HY.out.cell 7 rfl
    have g7 := HY.out.fr 7
    go_upto_region 2 with fail
    go_region_held3 (fun W => W.cell? ⟨w.heap.size + 1, 0, none⟩ = some (.int .i64 a.err)) (go_keep) (fail)
    all_goals
      go_wp2_with fail
      refine bodyPost_ret (v := .tuple #[.agg #[.string ⟨#[]⟩, .string ⟨#[]⟩, .slice none 0 0, .int .i64 0, .slice none 0 0, .string ⟨#[]⟩, .slice none 0 0, .int .i64 0], .slice none 0 0, .int .i64 a.err]) (by simp [results, Tryz.results11, go_sem, y0, y1, y2, y3, y4, y5, y6, y7]) rfl ⟨_, _, rfl, ?_, ?_, own_nil _ _, ?_⟩
      · rw [HZ4.out.2.1]; exact (ownN_zero 0 _).lies
      · rw [HZ4.out.2.2]; exact LiesK.nil _
      · exact ((((((((hbz.setCell (p := ⟨w.heap.size + 1 + 1, 0, none⟩) (by show _ ≤ w.heap.size + 1 + 1; omega) _).setCell (p := ⟨w.heap.size + 1 + 1, 1, none⟩) (by show _ ≤ w.heap.size + 1 + 1; omega) _).setCell (p := ⟨w.heap.size + 1 + 1, 2, none⟩) (by show _ ≤ w.heap.size + 1 + 1; omega) _).setCell (p := ⟨w.heap.size + 1 + 1, 3, none⟩) (by show _ ≤ w.heap.size + 1 + 1; omega) _).setCell (p := ⟨w.heap.size + 1 + 1, 4, none⟩) (by show _ ≤ w.heap.size + 1 + 1; omega) _).setCell (p := ⟨w.heap.size + 1 + 1, 5, none⟩) (by show _ ≤ w.heap.size + 1 + 1; omega) _).setCell (p := ⟨w.heap.size + 1 + 1, 6, none⟩) (by show _ ≤ w.heap.size + 1 + 1; omega) _).setCell (p := ⟨w.heap.size + 1 + 1, 7, none⟩) (by show _ ≤ w.heap.size + 1 + 1; omega) _).drew
end Go.Proofs.YtlllcifehellpaaGreatDoor
set_option linter.unusedSimpArgs false
set_option linter.unusedVariables false
namespace Go.Proofs.YtlllcifehellpaaGreatDoor
open Go.RowKit

namespace Cy
def hdC (c : Cn) : Cn := ⟨c.who, c.fo, c.base, c.cur, c.mine, ⟨#[]⟩, [], c.keys⟩
def heE (c : Cn) (k : Int) (a : An) : Int := if ¬ chE c = 0 then chE c else if k = 1 then 0 else if k = 2 then tnE c a else 7
def heC (c : Cn) (k : Int) (a : An) : Cn := if ¬ chE c = 0 then zeroN else if k = 1 then hdC c else if k = 2 then tnC c a else zeroN
def heK (c : Cn) (k : Int) (a : An) : Mg.CC := if ¬ chE c = 0 then [] else if k = 1 then [] else if k = 2 then tnK c a else []
theorem he_zero {c : Cn} {k : Int} {a : An} (h : ¬ heE c k a = 0) : heC c k a = zeroN := by
  unfold heE at h
  unfold heC
  by_cases h0 : chE c = 0
  · rw [if_neg (fun x => x h0)] at h ⊢
    by_cases h1 : k = 1
    · rw [if_pos h1] at h; exact absurd rfl h
    · rw [if_neg h1] at h ⊢
      by_cases h2 : k = 2
      · rw [if_pos h2] at h ⊢
        rw [tnC, if_neg h]
      · rw [if_neg h2]
  · rw [if_pos h0]
end Cy

set_option maxRecDepth 100000 in
set_option maxHeartbeats 8000000 in
theorem hear_any (c : Cn) (k : Int) (a : An) (v va : Value) (w : World) (hv : LiesN w v c) (ha : LiesA w va a) (hs : SizedN c) (hsa : SizedA a) :
    Calls Tryz.prog 4 #[v, .int .i64 k, va] w fun e w' => ∃ u vk, e = .returned (.tuple #[u, vk, .int .i64 (Cy.heE c k a)]) ∧ LiesN w' u (Cy.heC c k a) ∧ LiesK w' vk (Cy.heK c k a) ∧ Own w.heap.size w' vk ∧ Below w.heap.size w w' := by
  have HV := hid hv
  have HA := hid ha
  have HS := hid hs
  have HSA := hid hsa
  obtain ⟨vb, vm, vq, rfl, lb, lm, la⟩ := hv
  have HLB := hid lb
  have HLM := hid lm
  have HLC := hid la
  obtain ⟨ab, cb, rfl, _⟩ := lb
  obtain ⟨am, cm, rfl, _⟩ := lm
  obtain ⟨aa, ca, rfl, _⟩ := la
  obtain ⟨vt, vc, rfl, lt, lc⟩ := ha
  have HLT := hid lt
  have HLO := hid lc
  obtain ⟨xt, yt, rfl, _⟩ := lt
  obtain ⟨xc, yc, rfl⟩ := liesO_shape lc
  clear hs hsa lc
  obtain ⟨wa, hwa⟩ : ∃ wa, wa = w.alloc (.cells #[.string c.who, .string c.fo, .slice ab c.base.length cb, .int .i64 c.cur, .slice am c.mine.length cm, .string c.key, .slice aa c.ask.length ca, .int .i64 c.keys] 25) := ⟨_, rfl⟩
  obtain ⟨wb, hwb⟩ : ∃ wb, wb = wa.alloc (.cells #[.int .i64 a.err, .int .i64 a.num, .bool a.pg.reset, .slice xt a.pg.tree.length yt, .slice xc a.pg.cos.length yc, .int .i64 a.pg.cur, .bool a.pg.more] 31) := ⟨_, rfl⟩
  obtain ⟨wz, hwz⟩ : ∃ wz, wz = wb.alloc (.cells #[.string ⟨#[]⟩, .string ⟨#[]⟩, .slice none 0 0, .int .i64 0, .slice none 0 0, .string ⟨#[]⟩, .slice none 0 0, .int .i64 0] 25) := ⟨_, rfl⟩
  have sa : wa.heap.size = w.heap.size + 1 := by rw [hwa]; simp
  have sb : wb.heap.size = w.heap.size + 1 + 1 := by rw [hwb]; simp [sa]
  have bwa : Below w.heap.size w wa := by rw [hwa]; exact (Below.refl _ _).alloc (Nat.le_refl _) _
  have bwb : Below wa.heap.size wa wb := by rw [hwb]; exact (Below.refl _ _).alloc (Nat.le_refl _) _
  have bwz : Below wb.heap.size wb wz := by rw [hwz]; exact (Below.refl _ _).alloc (Nat.le_refl _) _
  have hbz : Below w.heap.size w wz := below_tr bwa (below_tr bwb bwz)
  have HX : Hid (Cs wz w.heap.size [.string c.who, .string c.fo, .slice ab c.base.length cb, .int .i64 c.cur, .slice am c.mine.length cm, .string c.key, .slice aa c.ask.length ca, .int .i64 c.keys]) := (((by rw [hwa]; exact Cs.new w [.string c.who, .string c.fo, .slice ab c.base.length cb, .int .i64 c.cur, .slice am c.mine.length cm, .string c.key, .slice aa c.ask.length ca, .int .i64 c.keys] _ : Cs wa w.heap.size [.string c.who, .string c.fo, .slice ab c.base.length cb, .int .i64 c.cur, .slice am c.mine.length cm, .string c.key, .slice aa c.ask.length ca, .int .i64 c.keys]).below bwb).below bwz : Cs wz w.heap.size _)
  have HC : Hid (Cs wz (w.heap.size + 1) [.int .i64 a.err, .int .i64 a.num, .bool a.pg.reset, .slice xt a.pg.tree.length yt, .slice xc a.pg.cos.length yc, .int .i64 a.pg.cur, .bool a.pg.more]) := ((by rw [← sa, hwb]; exact Cs.new wa [.int .i64 a.err, .int .i64 a.num, .bool a.pg.reset, .slice xt a.pg.tree.length yt, .slice xc a.pg.cos.length yc, .int .i64 a.pg.cur, .bool a.pg.more] _ : Cs wb (w.heap.size + 1) [.int .i64 a.err, .int .i64 a.num, .bool a.pg.reset, .slice xt a.pg.tree.length yt, .slice xc a.pg.cos.length yc, .int .i64 a.pg.cur, .bool a.pg.more]).below bwz : Cs wz (w.heap.size + 1) _)
  have HY : Hid (Cs wz (w.heap.size + 1 + 1) zs) := (by rw [← sb, hwz]; exact Cs.new wb zs _ : Cs wz (w.heap.size + 1 + 1) zs)
  have hNz : w.heap.size + 1 + 1 < wz.heap.size := HY.out.lt
  have hwzz : (((w.alloc (.cells #[.string c.who, .string c.fo, .slice ab c.base.length cb, .int .i64 c.cur, .slice am c.mine.length cm, .string c.key, .slice aa c.ask.length ca, .int .i64 c.keys] 25)).alloc (.cells #[.int .i64 a.err, .int .i64 a.num, .bool a.pg.reset, .slice xt a.pg.tree.length yt, .slice xc a.pg.cos.length yc, .int .i64 a.pg.cur, .bool a.pg.more] 31)).alloc (.cells #[.string ⟨#[]⟩, .string ⟨#[]⟩, .slice none 0 0, .int .i64 0, .slice none 0 0, .string ⟨#[]⟩, .slice none 0 0, .int .i64 0] 25)) = wz := by rw [hwz, hwb, hwa]
  have HWZ := hid hwzz
  have n1 : ¬ w.heap.size = w.heap.size + 1 + 1 := by omega
  have n2 : ¬ w.heap.size + 1 = w.heap.size + 1 + 1 := by omega
  have n3 : ¬ w.heap.size + 1 + 1 = w.heap.size + 1 := by omega
  clear hwa hwb hwz bwa bwb bwz sa sb hwzz
  by_cases h0 : Cy.chE c = 0
  · by_cases h1 : k = 1
    · have HQ : Hid (Cy.heE c k a = 0 ∧ Cy.heC c k a = Cy.hdC c ∧ Cy.heK c k a = []) := (⟨by rw [Cy.heE, if_neg (fun x => x h0), if_pos h1], by rw [Cy.heC, if_neg (fun x => x h0), if_pos h1], by rw [Cy.heK, if_neg (fun x => x h0), if_pos h1]⟩ : Cy.heE c k a = 0 ∧ Cy.heC c k a = Cy.hdC c ∧ Cy.heK c k a = [])
      have H0 := hid h0
      have hk1 : (k == 1) = true := by simpa using h1
      rw [HQ.out.1]
      clear h0 h1
      go_enter Tryz.func4, Tryz.ntmps4
      go_upto_region 1 with fail
      rw [HWZ.out]
      clear HWZ
      have p0 := HX.out.cell 0 rfl
      have p1 := HX.out.cell 1 rfl
      have p2 := HX.out.cell 2 rfl
      have p3 := HX.out.cell 3 rfl
      have p4 := HX.out.cell 4 rfl
      have p5 := HX.out.cell 5 rfl
      have p6 := HX.out.cell 6 rfl
      have p7 := HX.out.cell 7 rfl
      go_wp2_with fail
      refine (checked_any c _ _ (HV.out.below hbz) HS.out).mono ?_
      rintro e w1 ⟨u1, rfl, hN1, hb1⟩
      clear p0 p1 p2 p3 p4 p5 p6 p7
      obtain ⟨d, hd⟩ : ∃ d, d = Cy.ok c := ⟨_, rfl⟩
      rw [← hd] at hN1
      have HD := hid hd
      clear hd
      have hs1 := hb1.size
      have HX1 := hid (HX.out.below hb1)
      have HC1 := hid (HC.out.below hb1)
      have HY1 := hid (HY.out.below hb1)
      have HN1 := hid hN1
      obtain ⟨vb, vm, vq, rfl, ⟨lb1, ob1⟩, ⟨lm1, om1⟩, la1, oa1⟩ := hN1
      obtain ⟨eb, fb, rfl, _⟩ := lb1
      obtain ⟨em, fm, rfl, _⟩ := lm1
      obtain ⟨ea, fa, rfl, _⟩ := la1
      clear ob1 om1 oa1
      obtain ⟨w2, hw2⟩ : ∃ w2, w2 = ((((((((w1.setCell ⟨w.heap.size, 0, none⟩ (.string d.who)).setCell ⟨w.heap.size, 1, none⟩ (.string d.fo)).setCell ⟨w.heap.size, 2, none⟩ (.slice eb d.base.length fb)).setCell ⟨w.heap.size, 3, none⟩ (.int .i64 d.cur)).setCell ⟨w.heap.size, 4, none⟩ (.slice em d.mine.length fm)).setCell ⟨w.heap.size, 5, none⟩ (.string d.key)).setCell ⟨w.heap.size, 6, none⟩ (.slice ea d.ask.length fa)).setCell ⟨w.heap.size, 7, none⟩ (.int .i64 d.keys)) := ⟨_, rfl⟩
      have hg2 : w1.grownBy w2 (some w.heap.size) := by rw [hw2]; exact (grown_on (grown_on (grown_on (grown_on (grown_on (grown_on (grown_on (nb_set w1 (w.heap.size) 0 (.string d.who)) (nb_set _ (w.heap.size) 1 (.string d.fo))) (nb_set _ (w.heap.size) 2 (.slice eb d.base.length fb))) (nb_set _ (w.heap.size) 3 (.int .i64 d.cur))) (nb_set _ (w.heap.size) 4 (.slice em d.mine.length fm))) (nb_set _ (w.heap.size) 5 (.string d.key))) (nb_set _ (w.heap.size) 6 (.slice ea d.ask.length fa))) (nb_set _ (w.heap.size) 7 (.int .i64 d.keys)))
      have HX2 : Hid (Cs w2 w.heap.size [.string d.who, .string d.fo, .slice eb d.base.length fb, .int .i64 d.cur, .slice em d.mine.length fm, .string d.key, .slice ea d.ask.length fa, .int .i64 d.keys]) := (by rw [hw2]; exact ((((((((HX1.out.set 0 (.string d.who)).set 1 (.string d.fo)).set 2 (.slice eb d.base.length fb)).set 3 (.int .i64 d.cur)).set 4 (.slice em d.mine.length fm)).set 5 (.string d.key)).set 6 (.slice ea d.ask.length fa)).set 7 (.int .i64 d.keys)) : Cs w2 w.heap.size _)
      have HC2 := hid (HC1.out.nb hg2 (by omega))
      have HY2 := hid (HY1.out.nb hg2 (by omega))
      have HN2 := hid (HN1.out.nbo hg2 (by omega))
      have hb2 : Below w.heap.size w w2 := by rw [hw2]; exact (((((((((below_tr hbz hb1).setCell (p := ⟨w.heap.size, 0, none⟩) (Nat.le_refl _) _).setCell (p := ⟨w.heap.size, 1, none⟩) (Nat.le_refl _) _).setCell (p := ⟨w.heap.size, 2, none⟩) (Nat.le_refl _) _).setCell (p := ⟨w.heap.size, 3, none⟩) (Nat.le_refl _) _).setCell (p := ⟨w.heap.size, 4, none⟩) (Nat.le_refl _) _).setCell (p := ⟨w.heap.size, 5, none⟩) (Nat.le_refl _) _).setCell (p := ⟨w.heap.size, 6, none⟩) (Nat.le_refl _) _).setCell (p := ⟨w.heap.size, 7, none⟩) (Nat.le_refl _) _)
      have hs2 := hg2.size
      have p0 := HX1.out.cell 0 rfl
      have f0 := HX1.out.fr 0
      have p1 := HX1.out.cell 1 rfl
      have f1 := HX1.out.fr 1
      have p2 := HX1.out.cell 2 rfl
      have f2 := HX1.out.fr 2
      have p3 := HX1.out.cell 3 rfl
      have f3 := HX1.out.fr 3
      have p4 := HX1.out.cell 4 rfl
      have f4 := HX1.out.fr 4
      have p5 := HX1.out.cell 5 rfl
      have f5 := HX1.out.fr 5
      have p6 := HX1.out.cell 6 rfl
      have f6 := HX1.out.fr 6
      have p7 := HX1.out.cell 7 rfl
      have f7 := HX1.out.fr 7
      obtain rfl : d = c := by rw [HD.out, Cy.ok_yes H0.out]
      rw [H0.out]
      go_upto_region 6 with fail
      rw [← hw2]
      clear hw2
      clear p0 f0 p1 f1 p2 f2 p3 f3 p4 f4 p5 f5 p6 f6 p7 f7
      obtain ⟨w3, hw3⟩ : ∃ w3, w3 = (w2.setCell ⟨w.heap.size, 5, none⟩ (.string ⟨#[]⟩)).setCell ⟨w.heap.size, 6, none⟩ (.slice none 0 0) := ⟨_, rfl⟩
      have g3 : w2.grownBy w3 (some w.heap.size) := by rw [hw3]; exact grown_on (nb_set w2 w.heap.size 5 _) (nb_set _ w.heap.size 6 _)
      have HX3 : Hid (Cs w3 w.heap.size [.string d.who, .string d.fo, .slice eb d.base.length fb, .int .i64 d.cur, .slice em d.mine.length fm, .string ⟨#[]⟩, .slice none 0 0, .int .i64 d.keys]) := (by rw [hw3]; exact (HX2.out.set 5 _).set 6 _ : Cs w3 w.heap.size _)
      have HY3 := hid (HY2.out.nb g3 (by omega))
      have HN3 := hid (HN2.out.nbo g3 (by omega))
      have hb3 : Below w.heap.size w w3 := by rw [hw3]; exact (hb2.setCell (p := ⟨w.heap.size, 5, none⟩) (Nat.le_refl _) _).setCell (p := ⟨w.heap.size, 6, none⟩) (Nat.le_refl _) _
      have s3 := g3.size
      have p5 := HX2.out.cell 5 rfl
      have f5 := HX2.out.fr 5
      have p6 := HX2.out.cell 6 rfl
      have f6 := HX2.out.fr 6
      go_upto_region 7 with fail
      rw [← hw3]
      clear hw3 p5 p6 f5 f6
      have p0 := HX3.out.cell 0 rfl
      have p1 := HX3.out.cell 1 rfl
      have p2 := HX3.out.cell 2 rfl
      have p3 := HX3.out.cell 3 rfl
      have p4 := HX3.out.cell 4 rfl
      have p5 := HX3.out.cell 5 rfl
      have p6 := HX3.out.cell 6 rfl
      have p7 := HX3.out.cell 7 rfl
      have y0 := HY3.out.cell 0 rfl
      have g0 := HY3.out.fr 0
      have y1 := HY3.out.cell 1 rfl
      have g1 := HY3.out.fr 1
      have y2 := HY3.out.cell 2 rfl
      have g2 := HY3.out.fr 2
      have y3 := HY3.out.cell 3 rfl
      have g3 := HY3.out.fr 3
      have y4 := HY3.out.cell 4 rfl
      have g4 := HY3.out.fr 4
      have y5 := HY3.out.cell 5 rfl
      have g5 := HY3.out.fr 5
      have y6 := HY3.out.cell 6 rfl
      have g6 := HY3.out.fr 6
      have y7 := HY3.out.cell 7 rfl
      have g7 := HY3.out.fr 7
      go_wp2_with fail
      refine bodyPost_ret (v := .tuple #[.agg #[.string d.who, .string d.fo, .slice eb d.base.length fb, .int .i64 d.cur, .slice em d.mine.length fm, .string ⟨#[]⟩, .slice none 0 0, .int .i64 d.keys], .slice none 0 0, .int .i64 0]) (by simp [results, Tryz.results4, go_sem, y0, y1, y2, y3, y4, y5, y6, y7]) rfl ⟨_, _, rfl, ?_, ?_, own_nil _ _, ?_⟩
      · rw [HQ.out.2.1]
        obtain ⟨_, _, _, e, h1, h2, _⟩ := (HN3.out.nbo (grown_on (grown_on (grown_on (grown_on (grown_on (grown_on (grown_on (nb_set w3 (w.heap.size + 1 + 1) 0 (.string d.who)) (nb_set _ (w.heap.size + 1 + 1) 1 (.string d.fo))) (nb_set _ (w.heap.size + 1 + 1) 2 (.slice eb d.base.length fb))) (nb_set _ (w.heap.size + 1 + 1) 3 (.int .i64 d.cur))) (nb_set _ (w.heap.size + 1 + 1) 4 (.slice em d.mine.length fm))) (nb_set _ (w.heap.size + 1 + 1) 5 (.string ⟨#[]⟩))) (nb_set _ (w.heap.size + 1 + 1) 6 (.slice none 0 0))) (nb_set _ (w.heap.size + 1 + 1) 7 (.int .i64 d.keys))) (by omega))
        injection e with e
        simp only [Array.mk.injEq, List.cons.injEq] at e
        obtain ⟨_, _, e1, _, e2, _⟩ := e
        exact ⟨_, _, _, rfl, by have q := h1.1; rw [← e1] at q; exact q, by have q := h2.1; rw [← e2] at q; exact q, liesC_nil _⟩
      · rw [HQ.out.2.2]; exact LiesK.nil _
      · exact ((((((((hb3.setCell (p := ⟨w.heap.size + 1 + 1, 0, none⟩) (by show _ ≤ w.heap.size + 1 + 1; omega) _).setCell (p := ⟨w.heap.size + 1 + 1, 1, none⟩) (by show _ ≤ w.heap.size + 1 + 1; omega) _).setCell (p := ⟨w.heap.size + 1 + 1, 2, none⟩) (by show _ ≤ w.heap.size + 1 + 1; omega) _).setCell (p := ⟨w.heap.size + 1 + 1, 3, none⟩) (by show _ ≤ w.heap.size + 1 + 1; omega) _).setCell (p := ⟨w.heap.size + 1 + 1, 4, none⟩) (by show _ ≤ w.heap.size + 1 + 1; omega) _).setCell (p := ⟨w.heap.size + 1 + 1, 5, none⟩) (by show _ ≤ w.heap.size + 1 + 1; omega) _).setCell (p := ⟨w.heap.size + 1 + 1, 6, none⟩) (by show _ ≤ w.heap.size + 1 + 1; omega) _).setCell (p := ⟨w.heap.size + 1 + 1, 7, none⟩) (by show _ ≤ w.heap.size + 1 + 1; omega) _)
    · by_cases h2 : k = 2
      · have HQ : Hid (Cy.heE c k a = Cy.tnE c a ∧ Cy.heC c k a = Cy.tnC c a ∧ Cy.heK c k a = Cy.tnK c a) := (⟨by rw [Cy.heE, if_neg (fun x => x h0), if_neg h1, if_pos h2], by rw [Cy.heC, if_neg (fun x => x h0), if_neg h1, if_pos h2], by rw [Cy.heK, if_neg (fun x => x h0), if_neg h1, if_pos h2]⟩ : Cy.heE c k a = Cy.tnE c a ∧ Cy.heC c k a = Cy.tnC c a ∧ Cy.heK c k a = Cy.tnK c a)
        have H0 := hid h0
        have hk1 : (k == 1) = false := by simpa using h1
        have hk2 : (k == 2) = true := by simpa using h2
        rw [HQ.out.1]
        clear h0 h1 h2
        go_enter Tryz.func4, Tryz.ntmps4
        go_upto_region 1 with fail
        rw [HWZ.out]
        clear HWZ
        have p0 := HX.out.cell 0 rfl
        have p1 := HX.out.cell 1 rfl
        have p2 := HX.out.cell 2 rfl
        have p3 := HX.out.cell 3 rfl
        have p4 := HX.out.cell 4 rfl
        have p5 := HX.out.cell 5 rfl
        have p6 := HX.out.cell 6 rfl
        have p7 := HX.out.cell 7 rfl
        go_wp2_with fail
        refine (checked_any c _ _ (HV.out.below hbz) HS.out).mono ?_
        rintro e w1 ⟨u1, rfl, hN1, hb1⟩
        clear p0 p1 p2 p3 p4 p5 p6 p7
        obtain ⟨d, hd⟩ : ∃ d, d = Cy.ok c := ⟨_, rfl⟩
        rw [← hd] at hN1
        have HD := hid hd
        clear hd
        have hs1 := hb1.size
        have HX1 := hid (HX.out.below hb1)
        have HC1 := hid (HC.out.below hb1)
        have HY1 := hid (HY.out.below hb1)
        have HN1 := hid hN1
        obtain ⟨vb, vm, vq, rfl, ⟨lb1, ob1⟩, ⟨lm1, om1⟩, la1, oa1⟩ := hN1
        obtain ⟨eb, fb, rfl, _⟩ := lb1
        obtain ⟨em, fm, rfl, _⟩ := lm1
        obtain ⟨ea, fa, rfl, _⟩ := la1
        clear ob1 om1 oa1
        obtain ⟨w2, hw2⟩ : ∃ w2, w2 = ((((((((w1.setCell ⟨w.heap.size, 0, none⟩ (.string d.who)).setCell ⟨w.heap.size, 1, none⟩ (.string d.fo)).setCell ⟨w.heap.size, 2, none⟩ (.slice eb d.base.length fb)).setCell ⟨w.heap.size, 3, none⟩ (.int .i64 d.cur)).setCell ⟨w.heap.size, 4, none⟩ (.slice em d.mine.length fm)).setCell ⟨w.heap.size, 5, none⟩ (.string d.key)).setCell ⟨w.heap.size, 6, none⟩ (.slice ea d.ask.length fa)).setCell ⟨w.heap.size, 7, none⟩ (.int .i64 d.keys)) := ⟨_, rfl⟩
        have hg2 : w1.grownBy w2 (some w.heap.size) := by rw [hw2]; exact (grown_on (grown_on (grown_on (grown_on (grown_on (grown_on (grown_on (nb_set w1 (w.heap.size) 0 (.string d.who)) (nb_set _ (w.heap.size) 1 (.string d.fo))) (nb_set _ (w.heap.size) 2 (.slice eb d.base.length fb))) (nb_set _ (w.heap.size) 3 (.int .i64 d.cur))) (nb_set _ (w.heap.size) 4 (.slice em d.mine.length fm))) (nb_set _ (w.heap.size) 5 (.string d.key))) (nb_set _ (w.heap.size) 6 (.slice ea d.ask.length fa))) (nb_set _ (w.heap.size) 7 (.int .i64 d.keys)))
        have HX2 : Hid (Cs w2 w.heap.size [.string d.who, .string d.fo, .slice eb d.base.length fb, .int .i64 d.cur, .slice em d.mine.length fm, .string d.key, .slice ea d.ask.length fa, .int .i64 d.keys]) := (by rw [hw2]; exact ((((((((HX1.out.set 0 (.string d.who)).set 1 (.string d.fo)).set 2 (.slice eb d.base.length fb)).set 3 (.int .i64 d.cur)).set 4 (.slice em d.mine.length fm)).set 5 (.string d.key)).set 6 (.slice ea d.ask.length fa)).set 7 (.int .i64 d.keys)) : Cs w2 w.heap.size _)
        have HC2 := hid (HC1.out.nb hg2 (by omega))
        have HY2 := hid (HY1.out.nb hg2 (by omega))
        have HN2 := hid (HN1.out.nbo hg2 (by omega))
        have hb2 : Below w.heap.size w w2 := by rw [hw2]; exact (((((((((below_tr hbz hb1).setCell (p := ⟨w.heap.size, 0, none⟩) (Nat.le_refl _) _).setCell (p := ⟨w.heap.size, 1, none⟩) (Nat.le_refl _) _).setCell (p := ⟨w.heap.size, 2, none⟩) (Nat.le_refl _) _).setCell (p := ⟨w.heap.size, 3, none⟩) (Nat.le_refl _) _).setCell (p := ⟨w.heap.size, 4, none⟩) (Nat.le_refl _) _).setCell (p := ⟨w.heap.size, 5, none⟩) (Nat.le_refl _) _).setCell (p := ⟨w.heap.size, 6, none⟩) (Nat.le_refl _) _).setCell (p := ⟨w.heap.size, 7, none⟩) (Nat.le_refl _) _)
        have hs2 := hg2.size
        have p0 := HX1.out.cell 0 rfl
        have f0 := HX1.out.fr 0
        have p1 := HX1.out.cell 1 rfl
        have f1 := HX1.out.fr 1
        have p2 := HX1.out.cell 2 rfl
        have f2 := HX1.out.fr 2
        have p3 := HX1.out.cell 3 rfl
        have f3 := HX1.out.fr 3
        have p4 := HX1.out.cell 4 rfl
        have f4 := HX1.out.fr 4
        have p5 := HX1.out.cell 5 rfl
        have f5 := HX1.out.fr 5
        have p6 := HX1.out.cell 6 rfl
        have f6 := HX1.out.fr 6
        have p7 := HX1.out.cell 7 rfl
        have f7 := HX1.out.fr 7
        obtain rfl : d = c := by rw [HD.out, Cy.ok_yes H0.out]
        rw [H0.out]
        go_upto_region 9 with fail
        rw [← hw2]
        clear hw2
        clear p0 f0 p1 f1 p2 f2 p3 f3 p4 f4 p5 f5 p6 f6 p7 f7
        have p0 := HX2.out.cell 0 rfl
        have p1 := HX2.out.cell 1 rfl
        have p2 := HX2.out.cell 2 rfl
        have p3 := HX2.out.cell 3 rfl
        have p4 := HX2.out.cell 4 rfl
        have p5 := HX2.out.cell 5 rfl
        have p6 := HX2.out.cell 6 rfl
        have p7 := HX2.out.cell 7 rfl
        have t0 := HC2.out.cell 0 rfl
        have t1 := HC2.out.cell 1 rfl
        have t2 := HC2.out.cell 2 rfl
        have t3 := HC2.out.cell 3 rfl
        have t4 := HC2.out.cell 4 rfl
        have t5 := HC2.out.cell 5 rfl
        have t6 := HC2.out.cell 6 rfl
        go_wp2_with fail
        refine (turn_any d a _ _ _ HN2.out.lies ⟨_, _, rfl, HLT.out.below hb2, HLO.out.below hb2⟩ HS.out HSA.out (Cy.ch_parts H0.out).2.1).mono ?_
        rintro e w3 ⟨u3, vk, rfl, hN3, hK3, hO3, hb3⟩
        have HY3 := hid (HY2.out.below hb3)
        have HN3 := hid hN3
        have HK3 := hid hK3
        have HO3 := hid hO3
        obtain ⟨x, hx⟩ : ∃ x, x = Cy.tnC d a := ⟨_, rfl⟩
        rw [← hx] at hN3 HN3
        have HXX := hid hx
        obtain ⟨r, hr⟩ : ∃ r, r = Cy.tnE d a := ⟨_, rfl⟩
        rw [← hr]
        have HRT := hid hr
        clear hx hr hO3
        obtain ⟨vb, vm, vq, rfl, lb1, lm1, la1⟩ := hN3
        obtain ⟨gb, kb, rfl, _⟩ := lb1
        obtain ⟨gm, km, rfl, _⟩ := lm1
        obtain ⟨ga, ka, rfl, _⟩ := la1
        obtain ⟨C, hC⟩ : ∃ C, C = Cy.tnK d a := ⟨_, rfl⟩
        rw [← hC] at hK3 HK3
        have HCC := hid hC
        obtain ⟨ja, jc, rfl, _⟩ := hK3
        clear hC p0 p1 p2 p3 p4 p5 p6 p7 t0 t1 t2 t3 t4 t5 t6
        have hs3 := hb3.size
        have hb03 := below_tr hb2 hb3
        have y0 := HY3.out.cell 0 rfl
        have g0 := HY3.out.fr 0
        have y1 := HY3.out.cell 1 rfl
        have g1 := HY3.out.fr 1
        have y2 := HY3.out.cell 2 rfl
        have g2 := HY3.out.fr 2
        have y3 := HY3.out.cell 3 rfl
        have g3 := HY3.out.fr 3
        have y4 := HY3.out.cell 4 rfl
        have g4 := HY3.out.fr 4
        have y5 := HY3.out.cell 5 rfl
        have g5 := HY3.out.fr 5
        have y6 := HY3.out.cell 6 rfl
        have g6 := HY3.out.fr 6
        have y7 := HY3.out.cell 7 rfl
        have g7 := HY3.out.fr 7
        go_wp2_with fail
        have gz : w3.grownBy _ (some (w.heap.size + 1 + 1)) := (grown_on (grown_on (grown_on (grown_on (grown_on (grown_on (grown_on (nb_set w3 (w.heap.size + 1 + 1) 0 (.string x.who)) (nb_set _ (w.heap.size + 1 + 1) 1 (.string x.fo))) (nb_set _ (w.heap.size + 1 + 1) 2 (.slice gb x.base.length kb))) (nb_set _ (w.heap.size + 1 + 1) 3 (.int .i64 x.cur))) (nb_set _ (w.heap.size + 1 + 1) 4 (.slice gm x.mine.length km))) (nb_set _ (w.heap.size + 1 + 1) 5 (.string x.key))) (nb_set _ (w.heap.size + 1 + 1) 6 (.slice ga x.ask.length ka))) (nb_set _ (w.heap.size + 1 + 1) 7 (.int .i64 x.keys)))
        refine bodyPost_ret (v := .tuple #[.agg #[.string x.who, .string x.fo, .slice gb x.base.length kb, .int .i64 x.cur, .slice gm x.mine.length km, .string x.key, .slice ga x.ask.length ka, .int .i64 x.keys], .slice ja C.length jc, .int .i64 r]) (by simp [results, Tryz.results4, go_sem, y0, y1, y2, y3, y4, y5, y6, y7]) rfl ⟨_, _, by rw [HRT.out], ?_, ?_, (HO3.out.nb gz (fun b hb => by have := (HO3.out b hb).1; omega)).mono (by have := hb2.size; omega), ?_⟩
        · rw [HQ.out.2.1, ← HXX.out]
          exact HN3.out.off HY3.out (noLies_cn _ _ _ _ _ _ _ _ _ _ _ _ _ _) gz
        · rw [HQ.out.2.2, ← HCC.out]
          exact HK3.out.nbo gz (fun b hb => by have := (HO3.out b hb).1; omega)
        · exact ((((((((hb03.setCell (p := ⟨w.heap.size + 1 + 1, 0, none⟩) (by show _ ≤ w.heap.size + 1 + 1; omega) _).setCell (p := ⟨w.heap.size + 1 + 1, 1, none⟩) (by show _ ≤ w.heap.size + 1 + 1; omega) _).setCell (p := ⟨w.heap.size + 1 + 1, 2, none⟩) (by show _ ≤ w.heap.size + 1 + 1; omega) _).setCell (p := ⟨w.heap.size + 1 + 1, 3, none⟩) (by show _ ≤ w.heap.size + 1 + 1; omega) _).setCell (p := ⟨w.heap.size + 1 + 1, 4, none⟩) (by show _ ≤ w.heap.size + 1 + 1; omega) _).setCell (p := ⟨w.heap.size + 1 + 1, 5, none⟩) (by show _ ≤ w.heap.size + 1 + 1; omega) _).setCell (p := ⟨w.heap.size + 1 + 1, 6, none⟩) (by show _ ≤ w.heap.size + 1 + 1; omega) _).setCell (p := ⟨w.heap.size + 1 + 1, 7, none⟩) (by show _ ≤ w.heap.size + 1 + 1; omega) _)
      · have HQ : Hid (Cy.heE c k a = 7 ∧ Cy.heC c k a = zeroN ∧ Cy.heK c k a = []) := (⟨by rw [Cy.heE, if_neg (fun x => x h0), if_neg h1, if_neg h2], by rw [Cy.heC, if_neg (fun x => x h0), if_neg h1, if_neg h2], by rw [Cy.heK, if_neg (fun x => x h0), if_neg h1, if_neg h2]⟩ : Cy.heE c k a = 7 ∧ Cy.heC c k a = zeroN ∧ Cy.heK c k a = [])
        have H0 := hid h0
        have hk1 : (k == 1) = false := by simpa using h1
        have hk2 : (k == 2) = false := by simpa using h2
        rw [HQ.out.1]
        clear h0 h1 h2
        go_enter Tryz.func4, Tryz.ntmps4
        go_upto_region 1 with fail
        rw [HWZ.out]
        clear HWZ
        have p0 := HX.out.cell 0 rfl
        have p1 := HX.out.cell 1 rfl
        have p2 := HX.out.cell 2 rfl
        have p3 := HX.out.cell 3 rfl
        have p4 := HX.out.cell 4 rfl
        have p5 := HX.out.cell 5 rfl
        have p6 := HX.out.cell 6 rfl
        have p7 := HX.out.cell 7 rfl
        go_wp2_with fail
        refine (checked_any c _ _ (HV.out.below hbz) HS.out).mono ?_
        rintro e w1 ⟨u1, rfl, hN1, hb1⟩
        clear p0 p1 p2 p3 p4 p5 p6 p7
        obtain ⟨d, hd⟩ : ∃ d, d = Cy.ok c := ⟨_, rfl⟩
        rw [← hd] at hN1
        have HD := hid hd
        clear hd
        have hs1 := hb1.size
        have HX1 := hid (HX.out.below hb1)
        have HC1 := hid (HC.out.below hb1)
        have HY1 := hid (HY.out.below hb1)
        have HN1 := hid hN1
        obtain ⟨vb, vm, vq, rfl, ⟨lb1, ob1⟩, ⟨lm1, om1⟩, la1, oa1⟩ := hN1
        obtain ⟨eb, fb, rfl, _⟩ := lb1
        obtain ⟨em, fm, rfl, _⟩ := lm1
        obtain ⟨ea, fa, rfl, _⟩ := la1
        clear ob1 om1 oa1
        obtain ⟨w2, hw2⟩ : ∃ w2, w2 = ((((((((w1.setCell ⟨w.heap.size, 0, none⟩ (.string d.who)).setCell ⟨w.heap.size, 1, none⟩ (.string d.fo)).setCell ⟨w.heap.size, 2, none⟩ (.slice eb d.base.length fb)).setCell ⟨w.heap.size, 3, none⟩ (.int .i64 d.cur)).setCell ⟨w.heap.size, 4, none⟩ (.slice em d.mine.length fm)).setCell ⟨w.heap.size, 5, none⟩ (.string d.key)).setCell ⟨w.heap.size, 6, none⟩ (.slice ea d.ask.length fa)).setCell ⟨w.heap.size, 7, none⟩ (.int .i64 d.keys)) := ⟨_, rfl⟩
        have hg2 : w1.grownBy w2 (some w.heap.size) := by rw [hw2]; exact (grown_on (grown_on (grown_on (grown_on (grown_on (grown_on (grown_on (nb_set w1 (w.heap.size) 0 (.string d.who)) (nb_set _ (w.heap.size) 1 (.string d.fo))) (nb_set _ (w.heap.size) 2 (.slice eb d.base.length fb))) (nb_set _ (w.heap.size) 3 (.int .i64 d.cur))) (nb_set _ (w.heap.size) 4 (.slice em d.mine.length fm))) (nb_set _ (w.heap.size) 5 (.string d.key))) (nb_set _ (w.heap.size) 6 (.slice ea d.ask.length fa))) (nb_set _ (w.heap.size) 7 (.int .i64 d.keys)))
        have HX2 : Hid (Cs w2 w.heap.size [.string d.who, .string d.fo, .slice eb d.base.length fb, .int .i64 d.cur, .slice em d.mine.length fm, .string d.key, .slice ea d.ask.length fa, .int .i64 d.keys]) := (by rw [hw2]; exact ((((((((HX1.out.set 0 (.string d.who)).set 1 (.string d.fo)).set 2 (.slice eb d.base.length fb)).set 3 (.int .i64 d.cur)).set 4 (.slice em d.mine.length fm)).set 5 (.string d.key)).set 6 (.slice ea d.ask.length fa)).set 7 (.int .i64 d.keys)) : Cs w2 w.heap.size _)
        have HC2 := hid (HC1.out.nb hg2 (by omega))
        have HY2 := hid (HY1.out.nb hg2 (by omega))
        have HN2 := hid (HN1.out.nbo hg2 (by omega))
        have hb2 : Below w.heap.size w w2 := by rw [hw2]; exact (((((((((below_tr hbz hb1).setCell (p := ⟨w.heap.size, 0, none⟩) (Nat.le_refl _) _).setCell (p := ⟨w.heap.size, 1, none⟩) (Nat.le_refl _) _).setCell (p := ⟨w.heap.size, 2, none⟩) (Nat.le_refl _) _).setCell (p := ⟨w.heap.size, 3, none⟩) (Nat.le_refl _) _).setCell (p := ⟨w.heap.size, 4, none⟩) (Nat.le_refl _) _).setCell (p := ⟨w.heap.size, 5, none⟩) (Nat.le_refl _) _).setCell (p := ⟨w.heap.size, 6, none⟩) (Nat.le_refl _) _).setCell (p := ⟨w.heap.size, 7, none⟩) (Nat.le_refl _) _)
        have hs2 := hg2.size
        have p0 := HX1.out.cell 0 rfl
        have f0 := HX1.out.fr 0
        have p1 := HX1.out.cell 1 rfl
        have f1 := HX1.out.fr 1
        have p2 := HX1.out.cell 2 rfl
        have f2 := HX1.out.fr 2
        have p3 := HX1.out.cell 3 rfl
        have f3 := HX1.out.fr 3
        have p4 := HX1.out.cell 4 rfl
        have f4 := HX1.out.fr 4
        have p5 := HX1.out.cell 5 rfl
        have f5 := HX1.out.fr 5
        have p6 := HX1.out.cell 6 rfl
        have f6 := HX1.out.fr 6
        have p7 := HX1.out.cell 7 rfl
        have f7 := HX1.out.fr 7
        obtain rfl : d = c := by rw [HD.out, Cy.ok_yes H0.out]
        rw [H0.out]
        go_upto_region 10 with fail
        rw [← hw2]
        clear hw2
        clear p0 f0 p1 f1 p2 f2 p3 f3 p4 f4 p5 f5 p6 f6 p7 f7
        have y0 := HY2.out.cell 0 rfl
        have g0 := HY2.out.fr 0
        have y1 := HY2.out.cell 1 rfl
        have g1 := HY2.out.fr 1
        have y2 := HY2.out.cell 2 rfl
        have g2 := HY2.out.fr 2
        have y3 := HY2.out.cell 3 rfl
        have g3 := HY2.out.fr 3
        have y4 := HY2.out.cell 4 rfl
        have g4 := HY2.out.fr 4
        have y5 := HY2.out.cell 5 rfl
        have g5 := HY2.out.fr 5
        have y6 := HY2.out.cell 6 rfl
        have g6 := HY2.out.fr 6
        have y7 := HY2.out.cell 7 rfl
        have g7 := HY2.out.fr 7
        go_wp2_with fail
        refine bodyPost_ret (v := .tuple #[.agg #[.string ⟨#[]⟩, .string ⟨#[]⟩, .slice none 0 0, .int .i64 0, .slice none 0 0, .string ⟨#[]⟩, .slice none 0 0, .int .i64 0], .slice none 0 0, .int .i64 7]) (by simp [results, Tryz.results4, go_sem, y0, y1, y2, y3, y4, y5, y6, y7]) rfl ⟨_, _, rfl, ?_, ?_, own_nil _ _, ?_⟩
        · rw [HQ.out.2.1]; exact (ownN_zero 0 _).lies
        · rw [HQ.out.2.2]; exact LiesK.nil _
        · exact ((((((((hb2.setCell (p := ⟨w.heap.size + 1 + 1, 0, none⟩) (by show _ ≤ w.heap.size + 1 + 1; omega) _).setCell (p := ⟨w.heap.size + 1 + 1, 1, none⟩) (by show _ ≤ w.heap.size + 1 + 1; omega) _).setCell (p := ⟨w.heap.size + 1 + 1, 2, none⟩) (by show _ ≤ w.heap.size + 1 + 1; omega) _).setCell (p := ⟨w.heap.size + 1 + 1, 3, none⟩) (by show _ ≤ w.heap.size + 1 + 1; omega) _).setCell (p := ⟨w.heap.size + 1 + 1, 4, none⟩) (by show _ ≤ w.heap.size + 1 + 1; omega) _).setCell (p := ⟨w.heap.size + 1 + 1, 5, none⟩) (by show _ ≤ w.heap.size + 1 + 1; omega) _).setCell (p := ⟨w.heap.size + 1 + 1, 6, none⟩) (by show _ ≤ w.heap.size + 1 + 1; omega) _).setCell (p := ⟨w.heap.size + 1 + 1, 7, none⟩) (by show _ ≤ w.heap.size + 1 + 1; omega) _)
  · have HQ : Hid (Cy.heE c k a = Cy.chE c ∧ Cy.heC c k a = zeroN ∧ Cy.heK c k a = []) := (⟨by rw [Cy.heE, if_pos h0], by rw [Cy.heC, if_pos h0], by rw [Cy.heK, if_pos h0]⟩ : Cy.heE c k a = Cy.chE c ∧ Cy.heC c k a = zeroN ∧ Cy.heK c k a = [])
    have h0' : (Cy.chE c != 0) = true := by simpa using h0
    rw [HQ.out.1]
    obtain ⟨r, hr⟩ : ∃ r, r = Cy.chE c := ⟨_, rfl⟩
    rw [← hr] at h0' ⊢
    have HR := hid hr
    clear h0 hr
    go_enter Tryz.func4, Tryz.ntmps4
    go_upto_region 1 with fail
    rw [HWZ.out]
    clear HWZ
    have p0 := HX.out.cell 0 rfl
    have p1 := HX.out.cell 1 rfl
    have p2 := HX.out.cell 2 rfl
    have p3 := HX.out.cell 3 rfl
    have p4 := HX.out.cell 4 rfl
    have p5 := HX.out.cell 5 rfl
    have p6 := HX.out.cell 6 rfl
    have p7 := HX.out.cell 7 rfl
    go_wp2_with fail
    refine (checked_any c _ _ (HV.out.below hbz) HS.out).mono ?_
    rintro e w1 ⟨u1, rfl, hN1, hb1⟩
    clear p0 p1 p2 p3 p4 p5 p6 p7
    obtain ⟨d, hd⟩ : ∃ d, d = Cy.ok c := ⟨_, rfl⟩
    rw [← hd] at hN1
    have HD := hid hd
    clear hd
    have hs1 := hb1.size
    have HX1 := hid (HX.out.below hb1)
    have HC1 := hid (HC.out.below hb1)
    have HY1 := hid (HY.out.below hb1)
    have HN1 := hid hN1
    obtain ⟨vb, vm, vq, rfl, ⟨lb1, ob1⟩, ⟨lm1, om1⟩, la1, oa1⟩ := hN1
    obtain ⟨eb, fb, rfl, _⟩ := lb1
    obtain ⟨em, fm, rfl, _⟩ := lm1
    obtain ⟨ea, fa, rfl, _⟩ := la1
    clear ob1 om1 oa1
    obtain ⟨w2, hw2⟩ : ∃ w2, w2 = ((((((((w1.setCell ⟨w.heap.size, 0, none⟩ (.string d.who)).setCell ⟨w.heap.size, 1, none⟩ (.string d.fo)).setCell ⟨w.heap.size, 2, none⟩ (.slice eb d.base.length fb)).setCell ⟨w.heap.size, 3, none⟩ (.int .i64 d.cur)).setCell ⟨w.heap.size, 4, none⟩ (.slice em d.mine.length fm)).setCell ⟨w.heap.size, 5, none⟩ (.string d.key)).setCell ⟨w.heap.size, 6, none⟩ (.slice ea d.ask.length fa)).setCell ⟨w.heap.size, 7, none⟩ (.int .i64 d.keys)) := ⟨_, rfl⟩
    have hg2 : w1.grownBy w2 (some w.heap.size) := by rw [hw2]; exact (grown_on (grown_on (grown_on (grown_on (grown_on (grown_on (grown_on (nb_set w1 (w.heap.size) 0 (.string d.who)) (nb_set _ (w.heap.size) 1 (.string d.fo))) (nb_set _ (w.heap.size) 2 (.slice eb d.base.length fb))) (nb_set _ (w.heap.size) 3 (.int .i64 d.cur))) (nb_set _ (w.heap.size) 4 (.slice em d.mine.length fm))) (nb_set _ (w.heap.size) 5 (.string d.key))) (nb_set _ (w.heap.size) 6 (.slice ea d.ask.length fa))) (nb_set _ (w.heap.size) 7 (.int .i64 d.keys)))
    have HX2 : Hid (Cs w2 w.heap.size [.string d.who, .string d.fo, .slice eb d.base.length fb, .int .i64 d.cur, .slice em d.mine.length fm, .string d.key, .slice ea d.ask.length fa, .int .i64 d.keys]) := (by rw [hw2]; exact ((((((((HX1.out.set 0 (.string d.who)).set 1 (.string d.fo)).set 2 (.slice eb d.base.length fb)).set 3 (.int .i64 d.cur)).set 4 (.slice em d.mine.length fm)).set 5 (.string d.key)).set 6 (.slice ea d.ask.length fa)).set 7 (.int .i64 d.keys)) : Cs w2 w.heap.size _)
    have HC2 := hid (HC1.out.nb hg2 (by omega))
    have HY2 := hid (HY1.out.nb hg2 (by omega))
    have HN2 := hid (HN1.out.nbo hg2 (by omega))
    have hb2 : Below w.heap.size w w2 := by rw [hw2]; exact (((((((((below_tr hbz hb1).setCell (p := ⟨w.heap.size, 0, none⟩) (Nat.le_refl _) _).setCell (p := ⟨w.heap.size, 1, none⟩) (Nat.le_refl _) _).setCell (p := ⟨w.heap.size, 2, none⟩) (Nat.le_refl _) _).setCell (p := ⟨w.heap.size, 3, none⟩) (Nat.le_refl _) _).setCell (p := ⟨w.heap.size, 4, none⟩) (Nat.le_refl _) _).setCell (p := ⟨w.heap.size, 5, none⟩) (Nat.le_refl _) _).setCell (p := ⟨w.heap.size, 6, none⟩) (Nat.le_refl _) _).setCell (p := ⟨w.heap.size, 7, none⟩) (Nat.le_refl _) _)
    have hs2 := hg2.size
    have p0 := HX1.out.cell 0 rfl
    have f0 := HX1.out.fr 0
    have p1 := HX1.out.cell 1 rfl
    have f1 := HX1.out.fr 1
    have p2 := HX1.out.cell 2 rfl
    have f2 := HX1.out.fr 2
    have p3 := HX1.out.cell 3 rfl
    have f3 := HX1.out.fr 3
    have p4 := HX1.out.cell 4 rfl
    have f4 := HX1.out.fr 4
    have p5 := HX1.out.cell 5 rfl
    have f5 := HX1.out.fr 5
    have p6 := HX1.out.cell 6 rfl
    have f6 := HX1.out.fr 6
    have p7 := HX1.out.cell 7 rfl
    have f7 := HX1.out.fr 7
    rw [← HR.out]
    go_upto_region 3 with fail
    rw [← hw2]
    clear hw2
    clear p0 f0 p1 f1 p2 f2 p3 f3 p4 f4 p5 f5 p6 f6 p7 f7
    have y0 := HY2.out.cell 0 rfl
    have g0 := HY2.out.fr 0
    have y1 := HY2.out.cell 1 rfl
    have g1 := HY2.out.fr 1
    have y2 := HY2.out.cell 2 rfl
    have g2 := HY2.out.fr 2
    have y3 := HY2.out.cell 3 rfl
    have g3 := HY2.out.fr 3
    have y4 := HY2.out.cell 4 rfl
    have g4 := HY2.out.fr 4
    have y5 := HY2.out.cell 5 rfl
    have g5 := HY2.out.fr 5
    have y6 := HY2.out.cell 6 rfl
    have g6 := HY2.out.fr 6
    have y7 := HY2.out.cell 7 rfl
    have g7 := HY2.out.fr 7
    go_wp2_with fail
    refine bodyPost_ret (v := .tuple #[.agg #[.string ⟨#[]⟩, .string ⟨#[]⟩, .slice none 0 0, .int .i64 0, .slice none 0 0, .string ⟨#[]⟩, .slice none 0 0, .int .i64 0], .slice none 0 0, .int .i64 r]) (by simp [results, Tryz.results4, go_sem, y0, y1, y2, y3, y4, y5, y6, y7]) rfl ⟨_, _, rfl, ?_, ?_, own_nil _ _, ?_⟩
    · rw [HQ.out.2.1]; exact (ownN_zero 0 _).lies
    · rw [HQ.out.2.2]; exact LiesK.nil _
    · exact ((((((((hb2.setCell (p := ⟨w.heap.size + 1 + 1, 0, none⟩) (by show _ ≤ w.heap.size + 1 + 1; omega) _).setCell (p := ⟨w.heap.size + 1 + 1, 1, none⟩) (by show _ ≤ w.heap.size + 1 + 1; omega) _).setCell (p := ⟨w.heap.size + 1 + 1, 2, none⟩) (by show _ ≤ w.heap.size + 1 + 1; omega) _).setCell (p := ⟨w.heap.size + 1 + 1, 3, none⟩) (by show _ ≤ w.heap.size + 1 + 1; omega) _).setCell (p := ⟨w.heap.size + 1 + 1, 4, none⟩) (by show _ ≤ w.heap.size + 1 + 1; omega) _).setCell (p := ⟨w.heap.size + 1 + 1, 5, none⟩) (by show _ ≤ w.heap.size + 1 + 1; omega) _).setCell (p := ⟨w.heap.size + 1 + 1, 6, none⟩) (by show _ ≤ w.heap.size + 1 + 1; omega) _).setCell (p := ⟨w.heap.size + 1 + 1, 7, none⟩) (by show _ ≤ w.heap.size + 1 + 1; omega) _)
end Go.Proofs.YtlllcifehellpaaGreatDoor
