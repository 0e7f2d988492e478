/- What client.Edit answers: a change of what it shows. What client.asking answers: what is asked for next. Requests: a record that lies in memory; what Fetch and the reference's SameRequest answer. Trees, changes, clients and requests lie in no box of a client or of a request. What client.asking answers where no key is left. -/
import Derived.Test.YtlllcifehellpaaGreatDoorQM
import Derived.Test.YtlllcifehellpaaGreatDoorPL
import Derived.Test.YtlllcifehellpaaGreatDoorPO
set_option linter.unusedSimpArgs false
set_option linter.unusedVariables false
namespace Go.Proofs.YtlllcifehellpaaGreatDoor
open Go.RowKit

/-- A tree that lies in no box without a Bool. -/
theorem Lies.offbox {W W' : World} {v : Value} {L : List En} {b : Nat} {cs : List Value} (h : Lies W v L) (hc : Cs W b cs) (hnb : ∀ x, Value.bool x ∉ cs) (hw : W.grownBy W' (some b)) : Lies W' v L := by
  obtain ⟨a, cap, rfl, h1, h2, h3⟩ := h
  refine ⟨a, cap, rfl, h1, h2, fun i hi => ?_⟩
  obtain ⟨g, o, rfl, hb, he⟩ := h3 i hi
  have hne : g ≠ b := by
    rintro rfl
    obtain ⟨T, hh⟩ := hc
    have h5 := he.2.1
    simp [World.cell?, hh] at h5
    exact hnb _ (List.mem_of_getElem? h5)
  have c := cell_nb hw hb hne
  exact ⟨g, o, rfl, Nat.lt_of_lt_of_le hb hw.size, (c _).trans he.1, (c _).trans he.2.1, (c _).trans he.2.2.1, (c _).trans he.2.2.2⟩
namespace Cy
def edE (c : Cn) (x : Pp.Ch) : Int := if ¬ chE c = 0 then chE c else if ¬ x.b = -1 then 3 else Pp.tapE c.mine x 1
def edR (c : Cn) (x : Pp.Ch) : Cn := if edE c x = 0 then ⟨c.who, c.fo, c.base, c.cur, Pp.tapR c.mine x 1, c.key, c.ask, c.keys⟩ else zeroN
end Cy

set_option maxRecDepth 100000 in
set_option maxHeartbeats 8000000 in
theorem edit_any (c : Cn) (x : Pp.Ch) (v : Value) (w : World) (hv : LiesN w v c) (hs : SizedN c) (hp : x.p.size ≤ 150000000000000) (hq : x.q.size ≤ 150000000000000) (ht : x.t.size ≤ 150000000000000) :
    Calls Tryz.prog 19 #[v, .agg #[.int .i64 x.k, .string x.p, .string x.q, .string x.t, .int .i64 x.b]] w fun e w' => ∃ u, e = .returned (.tuple #[u, .int .i64 (Cy.edE c x)]) ∧ LiesN w' u (Cy.edR c x) ∧ Below w.heap.size w w' := by
  have HV := hid hv
  have HS := hid hs
  obtain ⟨vb, vm, va, rfl, lb, lm, la⟩ := hv
  obtain ⟨ab, cb, rfl, _⟩ := lb
  obtain ⟨am, cm, rfl, _⟩ := lm
  obtain ⟨aa, ca, rfl, _⟩ := la
  obtain ⟨r, hr⟩ : ∃ r, r = Cy.edE c x := ⟨_, rfl⟩
  rw [← hr]
  have HR := hid hr
  clear hr hs
  obtain ⟨wa, hwa⟩ : ∃ wa, wa = w.alloc (.cells #[.string c.who, .string c.fo, .slice ab c.base.length cb, .int .i64 c.cur, .slice am c.mine.length cm, .string c.key, .slice aa c.ask.length ca, .int .i64 c.keys] 25) := ⟨_, rfl⟩
  obtain ⟨wb, hwb⟩ : ∃ wb, wb = wa.alloc (.cells #[.int .i64 x.k, .string x.p, .string x.q, .string x.t, .int .i64 x.b] 53) := ⟨_, rfl⟩
  obtain ⟨wz, hwz⟩ : ∃ wz, wz = wb.alloc (.cells #[.string ⟨#[]⟩, .string ⟨#[]⟩, .slice none 0 0, .int .i64 0, .slice none 0 0, .string ⟨#[]⟩, .slice none 0 0, .int .i64 0] 25) := ⟨_, rfl⟩
  have sa : wa.heap.size = w.heap.size + 1 := by rw [hwa]; simp
  have sb : wb.heap.size = w.heap.size + 1 + 1 := by rw [hwb]; simp [sa]
  have bwa : Below w.heap.size w wa := by rw [hwa]; exact (Below.refl _ _).alloc (Nat.le_refl _) _
  have bwb : Below wa.heap.size wa wb := by rw [hwb]; exact (Below.refl _ _).alloc (Nat.le_refl _) _
  have bwz : Below wb.heap.size wb wz := by rw [hwz]; exact (Below.refl _ _).alloc (Nat.le_refl _) _
  have hbz : Below w.heap.size w wz := below_tr bwa (below_tr bwb bwz)
  have HX : Hid (Cs wz w.heap.size [.string c.who, .string c.fo, .slice ab c.base.length cb, .int .i64 c.cur, .slice am c.mine.length cm, .string c.key, .slice aa c.ask.length ca, .int .i64 c.keys]) := (((by rw [hwa]; exact Cs.new w [.string c.who, .string c.fo, .slice ab c.base.length cb, .int .i64 c.cur, .slice am c.mine.length cm, .string c.key, .slice aa c.ask.length ca, .int .i64 c.keys] _ : Cs wa w.heap.size [.string c.who, .string c.fo, .slice ab c.base.length cb, .int .i64 c.cur, .slice am c.mine.length cm, .string c.key, .slice aa c.ask.length ca, .int .i64 c.keys]).below bwb).below bwz : Cs wz w.heap.size _)
  have HC : Hid (Cs wz (w.heap.size + 1) [.int .i64 x.k, .string x.p, .string x.q, .string x.t, .int .i64 x.b]) := ((by rw [← sa, hwb]; exact Cs.new wa [.int .i64 x.k, .string x.p, .string x.q, .string x.t, .int .i64 x.b] _ : Cs wb (w.heap.size + 1) [.int .i64 x.k, .string x.p, .string x.q, .string x.t, .int .i64 x.b]).below bwz : Cs wz (w.heap.size + 1) _)
  have HY : Hid (Cs wz (w.heap.size + 1 + 1) zs) := (by rw [← sb, hwz]; exact Cs.new wb zs _ : Cs wz (w.heap.size + 1 + 1) zs)
  have hNz : w.heap.size + 1 + 1 < wz.heap.size := HY.out.lt
  have hwzz : (((w.alloc (.cells #[.string c.who, .string c.fo, .slice ab c.base.length cb, .int .i64 c.cur, .slice am c.mine.length cm, .string c.key, .slice aa c.ask.length ca, .int .i64 c.keys] 25)).alloc (.cells #[.int .i64 x.k, .string x.p, .string x.q, .string x.t, .int .i64 x.b] 53)).alloc (.cells #[.string ⟨#[]⟩, .string ⟨#[]⟩, .slice none 0 0, .int .i64 0, .slice none 0 0, .string ⟨#[]⟩, .slice none 0 0, .int .i64 0] 25)) = wz := by rw [hwz, hwb, hwa]
  have HWZ := hid hwzz
  clear hwa hwb hwz bwa bwb bwz sa sb hwzz
  go_enter Tryz.func19, Tryz.ntmps19
  go_wp2_with fail
  rw [HWZ.out]
  clear HWZ
  refine (checked_any c _ _ (HV.out.below hbz) HS.out).mono ?_
  rintro e w1 ⟨u1, rfl, hN1, hb1⟩
  have hs1 := hb1.size
  have HX1 := hid (HX.out.below hb1)
  have HC1 := hid (HC.out.below hb1)
  have HY1 := hid (HY.out.below hb1)
  obtain ⟨d, hd⟩ : ∃ d, d = Cy.ok c := ⟨_, rfl⟩
  rw [← hd] at hN1
  have HD := hid hd
  have HN1 := hid hN1
  obtain ⟨vb, vm, va, rfl, ⟨lb1, ob1⟩, ⟨lm1, om1⟩, la1, oa1⟩ := hN1
  have HLB1 := hid (And.intro lb1 ob1)
  have HLM1 := hid (And.intro lm1 om1)
  have HLA1 := hid (And.intro la1 oa1)
  clear ob1 om1 oa1
  obtain ⟨eb, fb, rfl, _⟩ := lb1
  obtain ⟨em, fm, rfl, _⟩ := lm1
  obtain ⟨ea, fa, rfl, _⟩ := la1
  clear hd
  obtain ⟨w2, hw2⟩ : ∃ w2, w2 = ((((((((w1.setCell ⟨w.heap.size, 0, none⟩ (.string d.who)).setCell ⟨w.heap.size, 1, none⟩ (.string d.fo)).setCell ⟨w.heap.size, 2, none⟩ (.slice eb d.base.length fb)).setCell ⟨w.heap.size, 3, none⟩ (.int .i64 d.cur)).setCell ⟨w.heap.size, 4, none⟩ (.slice em d.mine.length fm)).setCell ⟨w.heap.size, 5, none⟩ (.string d.key)).setCell ⟨w.heap.size, 6, none⟩ (.slice ea d.ask.length fa)).setCell ⟨w.heap.size, 7, none⟩ (.int .i64 d.keys)) := ⟨_, rfl⟩
  have hg2 : w1.grownBy w2 (some w.heap.size) := by rw [hw2]; exact (grown_on (grown_on (grown_on (grown_on (grown_on (grown_on (grown_on (nb_set w1 (w.heap.size) 0 (.string d.who)) (nb_set _ (w.heap.size) 1 (.string d.fo))) (nb_set _ (w.heap.size) 2 (.slice eb d.base.length fb))) (nb_set _ (w.heap.size) 3 (.int .i64 d.cur))) (nb_set _ (w.heap.size) 4 (.slice em d.mine.length fm))) (nb_set _ (w.heap.size) 5 (.string d.key))) (nb_set _ (w.heap.size) 6 (.slice ea d.ask.length fa))) (nb_set _ (w.heap.size) 7 (.int .i64 d.keys)))
  have HX2 : Hid (Cs w2 w.heap.size [.string d.who, .string d.fo, .slice eb d.base.length fb, .int .i64 d.cur, .slice em d.mine.length fm, .string d.key, .slice ea d.ask.length fa, .int .i64 d.keys]) := (by rw [hw2]; exact ((((((((HX1.out.set 0 (.string d.who)).set 1 (.string d.fo)).set 2 (.slice eb d.base.length fb)).set 3 (.int .i64 d.cur)).set 4 (.slice em d.mine.length fm)).set 5 (.string d.key)).set 6 (.slice ea d.ask.length fa)).set 7 (.int .i64 d.keys)) : Cs w2 w.heap.size _)
  have HC2 := hid (HC1.out.nb hg2 (by omega))
  have HY2 := hid (HY1.out.nb hg2 (by omega))
  have kk : ∀ {W : World} {u : Value}, Own wz.heap.size W u → ∀ b, u.ownBlock = some b → b ≠ w.heap.size := fun h b hb => by have := (h b hb).1; omega
  have kz : ∀ {W : World} {u : Value}, Own wz.heap.size W u → ∀ b, u.ownBlock = some b → b ≠ w.heap.size + 1 + 1 := fun h b hb => by have := (h b hb).1; omega
  have HLB2 := hid (And.intro (HLB1.out.1.nbo hg2 (kk HLB1.out.2)) (HLB1.out.2.nb hg2 (kk HLB1.out.2)))
  have HLM2 := hid (And.intro (HLM1.out.1.nbo hg2 (kk HLM1.out.2)) (HLM1.out.2.nb hg2 (kk HLM1.out.2)))
  have HLA2 := hid (And.intro (HLA1.out.1.nbo hg2 (kk HLA1.out.2)) (HLA1.out.2.nb hg2 (kk HLA1.out.2)))
  have HKK : Hid (∀ (W : World) (u : Value), Own wz.heap.size W u → ∀ b, u.ownBlock = some b → b ≠ w.heap.size) := (fun W u h b hb => kk h b hb : ∀ (W : World) (u : Value), Own wz.heap.size W u → ∀ b, u.ownBlock = some b → b ≠ w.heap.size)
  have HKZ : Hid (∀ (W : World) (u : Value), Own wz.heap.size W u → ∀ b, u.ownBlock = some b → b ≠ w.heap.size + 1 + 1) := (fun W u h b hb => kz h b hb : ∀ (W : World) (u : Value), Own wz.heap.size W u → ∀ b, u.ownBlock = some b → b ≠ w.heap.size + 1 + 1)
  clear kk kz
  have hb2 : Below w.heap.size w w2 := by rw [hw2]; exact (((((((((below_tr hbz hb1).setCell (p := ⟨w.heap.size, 0, none⟩) (Nat.le_refl _) _).setCell (p := ⟨w.heap.size, 1, none⟩) (Nat.le_refl _) _).setCell (p := ⟨w.heap.size, 2, none⟩) (Nat.le_refl _) _).setCell (p := ⟨w.heap.size, 3, none⟩) (Nat.le_refl _) _).setCell (p := ⟨w.heap.size, 4, none⟩) (Nat.le_refl _) _).setCell (p := ⟨w.heap.size, 5, none⟩) (Nat.le_refl _) _).setCell (p := ⟨w.heap.size, 6, none⟩) (Nat.le_refl _) _).setCell (p := ⟨w.heap.size, 7, none⟩) (Nat.le_refl _) _)
  have hs2 := hg2.size
  have p0 := HX1.out.cell 0 rfl
  have p1 := HX1.out.cell 1 rfl
  have p2 := HX1.out.cell 2 rfl
  have p3 := HX1.out.cell 3 rfl
  have p4 := HX1.out.cell 4 rfl
  have p5 := HX1.out.cell 5 rfl
  have p6 := HX1.out.cell 6 rfl
  have p7 := HX1.out.cell 7 rfl
  have f0 := HX1.out.fr 0
  have f1 := HX1.out.fr 1
  have f2 := HX1.out.fr 2
  have f3 := HX1.out.fr 3
  have f4 := HX1.out.fr 4
  have f5 := HX1.out.fr 5
  have f6 := HX1.out.fr 6
  have f7 := HX1.out.fr 7
  by_cases h0 : Cy.chE c = 0
  · have hde : Hid (d = c) := (by rw [HD.out, Cy.ok_yes h0] : d = c)
    have H0 := hid h0
    rw [h0]
    clear h0
    have k4 := HC2.out.cell 4 rfl
    by_cases hx : x.b = -1
    · have hxb := hid hx
      go_upto_region 4 with fail
      rw [← hw2]
      clear hw2 p0 p1 p2 p3 p4 p5 p6 p7 f0 f1 f2 f3 f4 f5 f6 f7
      have x4 := HX2.out.cell 4 rfl
      have z0 := HC2.out.cell 0 rfl
      have z1 := HC2.out.cell 1 rfl
      have z2 := HC2.out.cell 2 rfl
      have z3 := HC2.out.cell 3 rfl
      have hs0 := hid HS.out
      have hxi : (x.b == -1) = true := by simpa using hx
      clear hx
      go_wp2_with fail
      refine (tapply_all d.mine _ x.k x.p x.q x.t x.b 1 _ HLM2.out.1 (by rw [hde.out]; exact HS.out.mine) hp hq ht).mono ?_
      rintro e w3 ⟨u3, rfl, hl3, hb3⟩
      have HL3 := hid hl3
      obtain ⟨ua, uc, rfl, _⟩ := hl3
      have hs3 := hb3.size
      have HX3 := hid (HX2.out.below hb3)
      have HY3 := hid (HY2.out.below hb3)
      clear x4 z0 z1 z2 z3 k4
      obtain ⟨w4, hw4⟩ : ∃ w4, w4 = w3.setCell ⟨w.heap.size, 4, none⟩ (.slice ua (Pp.tapR d.mine ⟨x.k, x.p, x.q, x.t, x.b⟩ 1).length uc) := ⟨_, rfl⟩
      have hg4 : w3.grownBy w4 (some w.heap.size) := by rw [hw4]; exact nb_set _ _ _ _
      have HX4 : Hid (Cs w4 w.heap.size [.string d.who, .string d.fo, .slice eb d.base.length fb, .int .i64 d.cur, .slice ua (Pp.tapR d.mine ⟨x.k, x.p, x.q, x.t, x.b⟩ 1).length uc, .string d.key, .slice ea d.ask.length fa, .int .i64 d.keys]) := (by rw [hw4]; exact HX3.out.set 4 _ : Cs w4 w.heap.size _)
      have HY4 := hid (HY3.out.nb hg4 (by omega))
      have hb4 : Below w.heap.size w w4 := by rw [hw4]; exact (below_tr hb2 hb3).setCell (p := ⟨w.heap.size, 4, none⟩) (Nat.le_refl _) _
      have hs4 := hg4.size
      have HLM4 : Hid (Lies w4 (.slice ua (Pp.tapR d.mine ⟨x.k, x.p, x.q, x.t, x.b⟩ 1).length uc) (Pp.tapR d.mine ⟨x.k, x.p, x.q, x.t, x.b⟩ 1)) := (HL3.out.offbox HX3.out (fun z hz => by simp at hz) hg4 : Lies w4 (.slice ua (Pp.tapR d.mine ⟨x.k, x.p, x.q, x.t, x.b⟩ 1).length uc) (Pp.tapR d.mine ⟨x.k, x.p, x.q, x.t, x.b⟩ 1))
      have HLB4 := hid (And.intro ((HLB2.out.1.below hb3).nbo hg4 (HKK.out _ _ HLB2.out.2)) ((HLB2.out.2.below hb3).nb hg4 (HKK.out _ _ HLB2.out.2)))
      have HLA4 := hid (And.intro ((HLA2.out.1.below hb3).nbo hg4 (HKK.out _ _ HLA2.out.2)) ((HLA2.out.2.below hb3).nb hg4 (HKK.out _ _ HLA2.out.2)))
      have c4 := HX3.out.cell 4 rfl
      have f4 := HX3.out.fr 4
      by_cases hy : Pp.tapE d.mine ⟨x.k, x.p, x.q, x.t, x.b⟩ 1 = 0
      · have HOK : Hid (Cy.edR c x = ⟨d.who, d.fo, d.base, d.cur, Pp.tapR d.mine ⟨x.k, x.p, x.q, x.t, x.b⟩ 1, d.key, d.ask, d.keys⟩ ∧ r = 0) := (by
          have h3 : Cy.edE c x = 0 := by rw [Cy.edE, if_neg (fun z => z H0.out), if_neg (fun z => z hxb.out), ← hde.out]; exact hy
          exact ⟨by rw [Cy.edR, if_pos h3, hde.out], by rw [HR.out, h3]⟩ : Cy.edR c x = ⟨d.who, d.fo, d.base, d.cur, Pp.tapR d.mine ⟨x.k, x.p, x.q, x.t, x.b⟩ 1, d.key, d.ask, d.keys⟩ ∧ r = 0)
        rw [hy]
        clear hy
        go_upto_region 9 with fail
        rw [← hw4]
        clear hw4 c4 f4
        have p0 := HX4.out.cell 0 rfl
        have p1 := HX4.out.cell 1 rfl
        have p2 := HX4.out.cell 2 rfl
        have p3 := HX4.out.cell 3 rfl
        have p4 := HX4.out.cell 4 rfl
        have p5 := HX4.out.cell 5 rfl
        have p6 := HX4.out.cell 6 rfl
        have p7 := HX4.out.cell 7 rfl
        have y0 := HY4.out.cell 0 rfl
        have y1 := HY4.out.cell 1 rfl
        have y2 := HY4.out.cell 2 rfl
        have y3 := HY4.out.cell 3 rfl
        have y4 := HY4.out.cell 4 rfl
        have y5 := HY4.out.cell 5 rfl
        have y6 := HY4.out.cell 6 rfl
        have y7 := HY4.out.cell 7 rfl
        have g0 := HY4.out.fr 0
        have g1 := HY4.out.fr 1
        have g2 := HY4.out.fr 2
        have g3 := HY4.out.fr 3
        have g4 := HY4.out.fr 4
        have g5 := HY4.out.fr 5
        have g6 := HY4.out.fr 6
        have g7 := HY4.out.fr 7
        have hne : ¬ w.heap.size = w.heap.size + 1 + 1 := by omega
        go_wp2_with fail
        refine bodyPost_ret (v := .tuple #[.agg #[.string d.who, .string d.fo, .slice eb d.base.length fb, .int .i64 d.cur, .slice ua (Pp.tapR d.mine ⟨x.k, x.p, x.q, x.t, x.b⟩ 1).length uc, .string d.key, .slice ea d.ask.length fa, .int .i64 d.keys], .int .i64 0]) (by simp [results, Tryz.results19, go_sem, y0, y1, y2, y3, y4, y5, y6, y7]) rfl ⟨_, by rw [HOK.out.2], ?_, ?_⟩
        · rw [HOK.out.1]
          have hgz : w4.grownBy _ (some (w.heap.size + 1 + 1)) := (grown_on (grown_on (grown_on (grown_on (grown_on (grown_on (grown_on (nb_set w4 (w.heap.size + 1 + 1) 0 (.string d.who)) (nb_set _ (w.heap.size + 1 + 1) 1 (.string d.fo))) (nb_set _ (w.heap.size + 1 + 1) 2 (.slice eb d.base.length fb))) (nb_set _ (w.heap.size + 1 + 1) 3 (.int .i64 d.cur))) (nb_set _ (w.heap.size + 1 + 1) 4 (.slice ua (Pp.tapR d.mine ⟨x.k, x.p, x.q, x.t, x.b⟩ 1).length uc))) (nb_set _ (w.heap.size + 1 + 1) 5 (.string d.key))) (nb_set _ (w.heap.size + 1 + 1) 6 (.slice ea d.ask.length fa))) (nb_set _ (w.heap.size + 1 + 1) 7 (.int .i64 d.keys)))
          exact ⟨_, _, _, rfl, HLB4.out.1.nbo hgz (HKZ.out _ _ HLB4.out.2), HLM4.out.offbox HY4.out (fun z hz => by simp at hz) hgz, HLA4.out.1.nbo hgz (HKZ.out _ _ HLA4.out.2)⟩
        · exact ((((((((hb4.setCell (p := ⟨w.heap.size + 1 + 1, 0, none⟩) (by show _ ≤ w.heap.size + 1 + 1; omega) _).setCell (p := ⟨w.heap.size + 1 + 1, 1, none⟩) (by show _ ≤ w.heap.size + 1 + 1; omega) _).setCell (p := ⟨w.heap.size + 1 + 1, 2, none⟩) (by show _ ≤ w.heap.size + 1 + 1; omega) _).setCell (p := ⟨w.heap.size + 1 + 1, 3, none⟩) (by show _ ≤ w.heap.size + 1 + 1; omega) _).setCell (p := ⟨w.heap.size + 1 + 1, 4, none⟩) (by show _ ≤ w.heap.size + 1 + 1; omega) _).setCell (p := ⟨w.heap.size + 1 + 1, 5, none⟩) (by show _ ≤ w.heap.size + 1 + 1; omega) _).setCell (p := ⟨w.heap.size + 1 + 1, 6, none⟩) (by show _ ≤ w.heap.size + 1 + 1; omega) _).setCell (p := ⟨w.heap.size + 1 + 1, 7, none⟩) (by show _ ≤ w.heap.size + 1 + 1; omega) _)
      · have HZR : Hid (Cy.edR c x = zeroN ∧ r = Pp.tapE d.mine ⟨x.k, x.p, x.q, x.t, x.b⟩ 1) := (by
          have h3 : Cy.edE c x = Pp.tapE d.mine ⟨x.k, x.p, x.q, x.t, x.b⟩ 1 := by rw [Cy.edE, if_neg (fun z => z H0.out), if_neg (fun z => z hxb.out), ← hde.out]
          exact ⟨by rw [Cy.edR, if_neg (by rw [h3]; exact hy)], by rw [HR.out, h3]⟩ : Cy.edR c x = zeroN ∧ r = Pp.tapE d.mine ⟨x.k, x.p, x.q, x.t, x.b⟩ 1)
        have hy' : (Pp.tapE d.mine ⟨x.k, x.p, x.q, x.t, x.b⟩ 1 != 0) = true := by simpa using hy
        obtain ⟨q, hq'⟩ : ∃ q, q = Pp.tapE d.mine ⟨x.k, x.p, x.q, x.t, x.b⟩ 1 := ⟨_, rfl⟩
        rw [← hq'] at HZR hy' ⊢
        clear hy hq'
        go_upto_region 8 with fail
        rw [← hw4]
        clear hw4 c4 f4
        have y0 := HY4.out.cell 0 rfl
        have y1 := HY4.out.cell 1 rfl
        have y2 := HY4.out.cell 2 rfl
        have y3 := HY4.out.cell 3 rfl
        have y4 := HY4.out.cell 4 rfl
        have y5 := HY4.out.cell 5 rfl
        have y6 := HY4.out.cell 6 rfl
        have y7 := HY4.out.cell 7 rfl
        have g0 := HY4.out.fr 0
        have g1 := HY4.out.fr 1
        have g2 := HY4.out.fr 2
        have g3 := HY4.out.fr 3
        have g4 := HY4.out.fr 4
        have g5 := HY4.out.fr 5
        have g6 := HY4.out.fr 6
        have g7 := HY4.out.fr 7
        go_wp2_with fail
        refine bodyPost_ret (v := .tuple #[.agg #[.string ⟨#[]⟩, .string ⟨#[]⟩, .slice none 0 0, .int .i64 0, .slice none 0 0, .string ⟨#[]⟩, .slice none 0 0, .int .i64 0], .int .i64 q]) (by simp [results, Tryz.results19, go_sem, y0, y1, y2, y3, y4, y5, y6, y7]) rfl ⟨_, by rw [HZR.out.2], ?_, ?_⟩
        · rw [HZR.out.1]
          exact (ownN_zero 0 _).lies
        · exact ((((((((hb4.setCell (p := ⟨w.heap.size + 1 + 1, 0, none⟩) (by show _ ≤ w.heap.size + 1 + 1; omega) _).setCell (p := ⟨w.heap.size + 1 + 1, 1, none⟩) (by show _ ≤ w.heap.size + 1 + 1; omega) _).setCell (p := ⟨w.heap.size + 1 + 1, 2, none⟩) (by show _ ≤ w.heap.size + 1 + 1; omega) _).setCell (p := ⟨w.heap.size + 1 + 1, 3, none⟩) (by show _ ≤ w.heap.size + 1 + 1; omega) _).setCell (p := ⟨w.heap.size + 1 + 1, 4, none⟩) (by show _ ≤ w.heap.size + 1 + 1; omega) _).setCell (p := ⟨w.heap.size + 1 + 1, 5, none⟩) (by show _ ≤ w.heap.size + 1 + 1; omega) _).setCell (p := ⟨w.heap.size + 1 + 1, 6, none⟩) (by show _ ≤ w.heap.size + 1 + 1; omega) _).setCell (p := ⟨w.heap.size + 1 + 1, 7, none⟩) (by show _ ≤ w.heap.size + 1 + 1; omega) _)
    · have HZR : Hid (Cy.edR c x = zeroN ∧ r = 3) := (by
        have h3 : Cy.edE c x = 3 := by rw [Cy.edE, if_neg (fun z => z H0.out), if_pos hx]
        exact ⟨by rw [Cy.edR, if_neg (by rw [h3]; decide)], by rw [HR.out, h3]⟩ : Cy.edR c x = zeroN ∧ r = 3)
      go_upto_region 4 with fail
      rw [← hw2]
      clear hw2 p0 p1 p2 p3 p4 p5 p6 p7 f0 f1 f2 f3 f4 f5 f6 f7
      have hxi : (x.b != -1) = true := by simpa using hx
      clear hx
      have y0 := HY2.out.cell 0 rfl
      have y1 := HY2.out.cell 1 rfl
      have y2 := HY2.out.cell 2 rfl
      have y3 := HY2.out.cell 3 rfl
      have y4 := HY2.out.cell 4 rfl
      have y5 := HY2.out.cell 5 rfl
      have y6 := HY2.out.cell 6 rfl
      have y7 := HY2.out.cell 7 rfl
      have g0 := HY2.out.fr 0
      have g1 := HY2.out.fr 1
      have g2 := HY2.out.fr 2
      have g3 := HY2.out.fr 3
      have g4 := HY2.out.fr 4
      have g5 := HY2.out.fr 5
      have g6 := HY2.out.fr 6
      have g7 := HY2.out.fr 7
      go_wp2_with fail
      refine bodyPost_ret (v := .tuple #[.agg #[.string ⟨#[]⟩, .string ⟨#[]⟩, .slice none 0 0, .int .i64 0, .slice none 0 0, .string ⟨#[]⟩, .slice none 0 0, .int .i64 0], .int .i64 3]) (by simp [results, Tryz.results19, go_sem, y0, y1, y2, y3, y4, y5, y6, y7]) rfl ⟨_, by rw [HZR.out.2], ?_, ?_⟩
      · rw [HZR.out.1]
        exact (ownN_zero 0 _).lies
      · exact ((((((((hb2.setCell (p := ⟨w.heap.size + 1 + 1, 0, none⟩) (by show _ ≤ w.heap.size + 1 + 1; omega) _).setCell (p := ⟨w.heap.size + 1 + 1, 1, none⟩) (by show _ ≤ w.heap.size + 1 + 1; omega) _).setCell (p := ⟨w.heap.size + 1 + 1, 2, none⟩) (by show _ ≤ w.heap.size + 1 + 1; omega) _).setCell (p := ⟨w.heap.size + 1 + 1, 3, none⟩) (by show _ ≤ w.heap.size + 1 + 1; omega) _).setCell (p := ⟨w.heap.size + 1 + 1, 4, none⟩) (by show _ ≤ w.heap.size + 1 + 1; omega) _).setCell (p := ⟨w.heap.size + 1 + 1, 5, none⟩) (by show _ ≤ w.heap.size + 1 + 1; omega) _).setCell (p := ⟨w.heap.size + 1 + 1, 6, none⟩) (by show _ ≤ w.heap.size + 1 + 1; omega) _).setCell (p := ⟨w.heap.size + 1 + 1, 7, none⟩) (by show _ ≤ w.heap.size + 1 + 1; omega) _)
  · have HZR : Hid (Cy.edR c x = zeroN ∧ r = Cy.chE c) := (by
      have h3 : Cy.edE c x = Cy.chE c := by rw [Cy.edE, if_pos h0]
      exact ⟨by rw [Cy.edR, if_neg (by rw [h3]; exact h0)], by rw [HR.out, h3]⟩ : Cy.edR c x = zeroN ∧ r = Cy.chE c)
    have h0' : (Cy.chE c != 0) = true := by simpa using h0
    obtain ⟨q, hq⟩ : ∃ q, q = Cy.chE c := ⟨_, rfl⟩
    rw [← hq] at HZR h0' ⊢
    clear h0 hq
    go_upto_region 3 with fail
    rw [← hw2]
    clear hw2 p0 p1 p2 p3 p4 p5 p6 p7 f0 f1 f2 f3 f4 f5 f6 f7
    have y0 := HY2.out.cell 0 rfl
    have y1 := HY2.out.cell 1 rfl
    have y2 := HY2.out.cell 2 rfl
    have y3 := HY2.out.cell 3 rfl
    have y4 := HY2.out.cell 4 rfl
    have y5 := HY2.out.cell 5 rfl
    have y6 := HY2.out.cell 6 rfl
    have y7 := HY2.out.cell 7 rfl
    have g0 := HY2.out.fr 0
    have g1 := HY2.out.fr 1
    have g2 := HY2.out.fr 2
    have g3 := HY2.out.fr 3
    have g4 := HY2.out.fr 4
    have g5 := HY2.out.fr 5
    have g6 := HY2.out.fr 6
    have g7 := HY2.out.fr 7
    go_wp2_with fail
    refine bodyPost_ret (v := .tuple #[.agg #[.string ⟨#[]⟩, .string ⟨#[]⟩, .slice none 0 0, .int .i64 0, .slice none 0 0, .string ⟨#[]⟩, .slice none 0 0, .int .i64 0], .int .i64 q]) (by simp [results, Tryz.results19, go_sem, y0, y1, y2, y3, y4, y5, y6, y7]) rfl ⟨_, by rw [HZR.out.2], ?_, ?_⟩
    · rw [HZR.out.1]
      exact (ownN_zero 0 _).lies
    · exact ((((((((hb2.setCell (p := ⟨w.heap.size + 1 + 1, 0, none⟩) (by show _ ≤ w.heap.size + 1 + 1; omega) _).setCell (p := ⟨w.heap.size + 1 + 1, 1, none⟩) (by show _ ≤ w.heap.size + 1 + 1; omega) _).setCell (p := ⟨w.heap.size + 1 + 1, 2, none⟩) (by show _ ≤ w.heap.size + 1 + 1; omega) _).setCell (p := ⟨w.heap.size + 1 + 1, 3, none⟩) (by show _ ≤ w.heap.size + 1 + 1; omega) _).setCell (p := ⟨w.heap.size + 1 + 1, 4, none⟩) (by show _ ≤ w.heap.size + 1 + 1; omega) _).setCell (p := ⟨w.heap.size + 1 + 1, 5, none⟩) (by show _ ≤ w.heap.size + 1 + 1; omega) _).setCell (p := ⟨w.heap.size + 1 + 1, 6, none⟩) (by show _ ≤ w.heap.size + 1 + 1; omega) _).setCell (p := ⟨w.heap.size + 1 + 1, 7, none⟩) (by show _ ≤ w.heap.size + 1 + 1; omega) _)
end Go.Proofs.YtlllcifehellpaaGreatDoor
set_option linter.unusedSimpArgs false
set_option linter.unusedVariables false
namespace Go.Proofs.YtlllcifehellpaaGreatDoor
open Go.RowKit

namespace Cy
def setB (b : Int) (x : Pp.Ch) : Pp.Ch := ⟨x.k, x.p, x.q, x.t, b⟩
def akL (c : Cn) : List Pp.Ch := ((Sp.dfL c.base c.mine).take 20).map (setB c.cur)
/-- Changes whose base is told so far. -/
def toB (b : Int) (l : List Pp.Ch) (i : Nat) : List Pp.Ch := (l.take i).map (setB b) ++ l.drop i
theorem toB_len (b : Int) (l : List Pp.Ch) (i : Nat) : (toB b l i).length = l.length := by
  rw [toB, List.length_append, List.length_map, List.length_take, List.length_drop]; omega
theorem flatC_cons (c : Pp.Ch) (l : List Pp.Ch) : Pp.flatC (c :: l) = .int .i64 c.k :: .string c.p :: .string c.q :: .string c.t :: .int .i64 c.b :: Pp.flatC l := rfl
theorem toB_flat : ∀ (b : Int) (l : List Pp.Ch) (i : Nat), i < l.length → Pp.flatC (toB b l (i + 1)) = (Pp.flatC (toB b l i)).set (i * 5 + 4) (.int .i64 b)
  | b, c :: l, 0, _ => rfl
  | b, c :: l, i + 1, h => by
    have ih := toB_flat b l i (by simpa using h)
    have e1 : toB b (c :: l) (i + 1 + 1) = setB b c :: toB b l (i + 1) := rfl
    have e2 : toB b (c :: l) (i + 1) = setB b c :: toB b l i := rfl
    rw [e1, e2, flatC_cons, flatC_cons, ih, show (i + 1) * 5 + 4 = (i * 5 + 4) + 1 + 1 + 1 + 1 + 1 by omega]
    simp
end Cy
theorem ownsRow_set' {w : World} {base g n cap size : Nat} {e : TypeId} {xs : List Value} (h : w.ownsRow base e size (.slice (some ⟨g, 0, none⟩) n cap) n xs) (j : Nat) (u : Value) : (w.setCell ⟨g, j, none⟩ u).ownsRow base e size (.slice (some ⟨g, 0, none⟩) n cap) n (xs.set j u) := by
  obtain ⟨hl, hc⟩ := h
  refine ⟨by rw [List.length_set]; exact hl, ?_⟩
  rcases hc with ⟨hc, _⟩ | ⟨g', cap', cur, hv, hg, hh, h1, h2, h3, h4⟩
  · cases hc
  · injection hv with e1 _ e3
    injection e1 with e1
    injection e1 with e1 _ _
    subst e1
    subst e3
    refine Or.inr ⟨g, cap, cur.setIfInBounds j u, rfl, hg, ?_, h1, h2, by simpa using h3, ?_⟩
    · unfold World.setCell
      simp only [Array.getElem?_modify, hh, if_true, Option.map_some]
      rfl
    · rw [Array.toList_setIfInBounds, List.take_set, h4]

set_option maxRecDepth 100000 in
set_option maxHeartbeats 8000000 in
theorem asking_none (c : Cn) (v : Value) (w : World) (hv : LiesN w v c) (hs : SizedN c) (hB : Pp.treeE c.base = 0) (hM : Pp.treeE c.mine = 0) (h0 : (Sp.dfL c.base c.mine).length = 0) :
    Calls Tryz.prog 42 #[v] w fun e w' => e = .returned (.tuple #[v, .int .i64 0]) ∧ Below w.heap.size w w' := by
  have HV := hid hv
  have HS := hid hs
  have HE : Hid (Sp.dfE c.base c.mine = 0) := (by rw [Sp.dfE, if_pos hB]; exact hM : Sp.dfE c.base c.mine = 0)
  obtain ⟨vb, vm, va, rfl, lb, lm, la⟩ := hv
  have HB := hid lb
  have HM := hid lm
  obtain ⟨ab, cb, rfl, _⟩ := lb
  obtain ⟨am, cm, rfl, _⟩ := lm
  obtain ⟨aa, ca, rfl, _⟩ := la
  clear hs hB hM
  obtain ⟨wz, hwz⟩ : ∃ wz, wz = (w.alloc (.cells #[.string c.who, .string c.fo, .slice ab c.base.length cb, .int .i64 c.cur, .slice am c.mine.length cm, .string c.key, .slice aa c.ask.length ca, .int .i64 c.keys] 25)).alloc (.cells #[.string ⟨#[]⟩, .string ⟨#[]⟩, .slice none 0 0, .int .i64 0, .slice none 0 0, .string ⟨#[]⟩, .slice none 0 0, .int .i64 0] 25) := ⟨_, rfl⟩
  have hbz : Below w.heap.size w wz := by rw [hwz]; exact ((Below.refl _ _).alloc (Nat.le_refl _) _).alloc (by simp) _
  have HX : Hid (Cs wz w.heap.size [.string c.who, .string c.fo, .slice ab c.base.length cb, .int .i64 c.cur, .slice am c.mine.length cm, .string c.key, .slice aa c.ask.length ca, .int .i64 c.keys]) := (by rw [hwz]; exact (Cs.new w [.string c.who, .string c.fo, .slice ab c.base.length cb, .int .i64 c.cur, .slice am c.mine.length cm, .string c.key, .slice aa c.ask.length ca, .int .i64 c.keys] _).below ((Below.refl _ _).alloc (Nat.le_refl _) _) : Cs wz w.heap.size _)
  have HY : Hid (Cs wz (w.heap.size + 1) zs) := (by
    have := Cs.new (w.alloc (.cells #[.string c.who, .string c.fo, .slice ab c.base.length cb, .int .i64 c.cur, .slice am c.mine.length cm, .string c.key, .slice aa c.ask.length ca, .int .i64 c.keys] 25)) zs 25
    rw [hwz]; simpa using this : Cs wz (w.heap.size + 1) zs)
  go_enter Tryz.func42, Tryz.ntmps42
  go_wp2_with fail
  rw [← hwz]
  clear hwz
  refine (diff_any c.base c.mine _ _ _ (HB.out.below hbz) (HM.out.below hbz) HS.out.base HS.out.mine).mono ?_
  rintro e w1 ⟨u1, rfl, hr1, hb1⟩
  rw [HE.out]
  rw [h0] at hr1
  have hb01 := below_tr hbz hb1
  have HX1 := hid (HX.out.below hb1)
  have HY1 := hid (HY.out.below hb1)
  obtain ⟨la, lc, rfl⟩ : ∃ la lc, u1 = .slice la 0 lc := by
    obtain ⟨_, h2⟩ := hr1
    rcases h2 with ⟨rfl, _⟩ | ⟨g, cap, cur, rfl, _⟩
    · exact ⟨none, 0, rfl⟩
    · exact ⟨_, cap, rfl⟩
  clear hr1 h0
  have p0 := HX1.out.cell 0 rfl
  have p1 := HX1.out.cell 1 rfl
  have p2 := HX1.out.cell 2 rfl
  have p3 := HX1.out.cell 3 rfl
  have p4 := HX1.out.cell 4 rfl
  have p5 := HX1.out.cell 5 rfl
  have p6 := HX1.out.cell 6 rfl
  have p7 := HX1.out.cell 7 rfl
  have y0 := HY1.out.cell 0 rfl
  have y1 := HY1.out.cell 1 rfl
  have y2 := HY1.out.cell 2 rfl
  have y3 := HY1.out.cell 3 rfl
  have y4 := HY1.out.cell 4 rfl
  have y5 := HY1.out.cell 5 rfl
  have y6 := HY1.out.cell 6 rfl
  have y7 := HY1.out.cell 7 rfl
  have g0 := HY1.out.fr 0
  have g1 := HY1.out.fr 1
  have g2 := HY1.out.fr 2
  have g3 := HY1.out.fr 3
  have g4 := HY1.out.fr 4
  have g5 := HY1.out.fr 5
  have g6 := HY1.out.fr 6
  have g7 := HY1.out.fr 7
  have hne : ¬ w.heap.size = w.heap.size + 1 := by omega
  go_wp2_with fail
  refine bodyPost_ret (v := .tuple #[.agg #[.string c.who, .string c.fo, .slice ab c.base.length cb, .int .i64 c.cur, .slice am c.mine.length cm, .string c.key, .slice aa c.ask.length ca, .int .i64 c.keys], .int .i64 0]) (by simp [results, Tryz.results42, go_sem, y0, y1, y2, y3, y4, y5, y6, y7]) rfl ⟨rfl, ?_⟩
  exact ((((((((hb01.setCell (p := ⟨w.heap.size + 1, 0, none⟩) (Nat.le_succ _) _).setCell (p := ⟨w.heap.size + 1, 1, none⟩) (Nat.le_succ _) _).setCell (p := ⟨w.heap.size + 1, 2, none⟩) (Nat.le_succ _) _).setCell (p := ⟨w.heap.size + 1, 3, none⟩) (Nat.le_succ _) _).setCell (p := ⟨w.heap.size + 1, 4, none⟩) (Nat.le_succ _) _).setCell (p := ⟨w.heap.size + 1, 5, none⟩) (Nat.le_succ _) _).setCell (p := ⟨w.heap.size + 1, 6, none⟩) (Nat.le_succ _) _).setCell (p := ⟨w.heap.size + 1, 7, none⟩) (Nat.le_succ _) _)
set_option maxRecDepth 100000 in
set_option maxHeartbeats 8000000 in
theorem asking_some (c : Cn) (vb vm va : Value) (w : World) (hvb : Lies w vb c.base) (hvm : Lies w vm c.mine) (hva : LiesC w va c.ask) (hs : SizedN c) (hB : Pp.treeE c.base = 0) (hM : Pp.treeE c.mine = 0) (h0 : ¬ (Sp.dfL c.base c.mine).length = 0) (hn : (Sp.dfL c.base c.mine).length ≤ 1000) (hk : c.keys < 1000000) (hk0 : 0 ≤ c.keys) (num : ByteArray) (hnum : num.size ≤ 1000)
    (hI : ∀ W, Below w.heap.size w W → Calls Tryz.prog 65 #[.int .i64 (c.keys + 1)] W fun e w' => e = .returned (.string num) ∧ Below W.heap.size W w') :
    Calls Tryz.prog 42 #[.agg #[.string c.who, .string c.fo, vb, .int .i64 c.cur, vm, .string c.key, va, .int .i64 c.keys]] w fun e w' => ∃ u, e = .returned (.tuple #[.agg #[.string c.who, .string c.fo, vb, .int .i64 c.cur, vm, .string (c.who ++ ⟨#[45]⟩ ++ num), u, .int .i64 (c.keys + 1)], .int .i64 0]) ∧ LiesC w' u (Cy.akL c) ∧ Own w.heap.size w' u ∧ Below w.heap.size w w' := by
  have HS := hid hs
  have HI := hid hI
  have HE : Hid (Sp.dfE c.base c.mine = 0) := (by rw [Sp.dfE, if_pos hB]; exact hM : Sp.dfE c.base c.mine = 0)
  have HB := hid hvb
  have HM := hid hvm
  obtain ⟨ab, cb, rfl, _⟩ := hvb
  obtain ⟨am, cm, rfl, _⟩ := hvm
  obtain ⟨aa, ca, rfl, _⟩ := hva
  clear hs hB hM hI
  obtain ⟨l, hl⟩ : ∃ l, l = Sp.dfL c.base c.mine := ⟨_, rfl⟩
  have HAK : Hid (Cy.akL c = (l.take 20).map (Cy.setB c.cur)) := (by rw [hl]; rfl : Cy.akL c = (l.take 20).map (Cy.setB c.cur))
  rw [← hl] at h0 hn
  have HLL := hid hl
  clear hl
  obtain ⟨wz, hwz⟩ : ∃ wz, wz = (w.alloc (.cells #[.string c.who, .string c.fo, .slice ab c.base.length cb, .int .i64 c.cur, .slice am c.mine.length cm, .string c.key, .slice aa c.ask.length ca, .int .i64 c.keys] 25)).alloc (.cells #[.string ⟨#[]⟩, .string ⟨#[]⟩, .slice none 0 0, .int .i64 0, .slice none 0 0, .string ⟨#[]⟩, .slice none 0 0, .int .i64 0] 25) := ⟨_, rfl⟩
  have hbz : Below w.heap.size w wz := by rw [hwz]; exact ((Below.refl _ _).alloc (Nat.le_refl _) _).alloc (by simp) _
  have HX : Hid (Cs wz w.heap.size [.string c.who, .string c.fo, .slice ab c.base.length cb, .int .i64 c.cur, .slice am c.mine.length cm, .string c.key, .slice aa c.ask.length ca, .int .i64 c.keys]) := (by rw [hwz]; exact (Cs.new w [.string c.who, .string c.fo, .slice ab c.base.length cb, .int .i64 c.cur, .slice am c.mine.length cm, .string c.key, .slice aa c.ask.length ca, .int .i64 c.keys] _).below ((Below.refl _ _).alloc (Nat.le_refl _) _) : Cs wz w.heap.size _)
  have HY : Hid (Cs wz (w.heap.size + 1) zs) := (by
    have := Cs.new (w.alloc (.cells #[.string c.who, .string c.fo, .slice ab c.base.length cb, .int .i64 c.cur, .slice am c.mine.length cm, .string c.key, .slice aa c.ask.length ca, .int .i64 c.keys] 25)) zs 25
    rw [hwz]; simpa using this : Cs wz (w.heap.size + 1) zs)
  have hNz : w.heap.size + 1 < wz.heap.size := HY.out.lt
  go_enter Tryz.func42, Tryz.ntmps42
  go_wp2_with fail
  rw [← hwz]
  clear hwz
  refine (diff_any c.base c.mine _ _ _ (HB.out.below hbz) (HM.out.below hbz) HS.out.base HS.out.mine).mono ?_
  rintro e w1 ⟨u1, rfl, hr1, hb1⟩
  rw [HE.out]
  rw [← HLL.out] at hr1
  have hb01 := below_tr hbz hb1
  have hs1 := hb1.size
  have HX1 := hid (HX.out.below hb1)
  have HY1 := hid (HY.out.below hb1)
  obtain ⟨g, lc, rfl, hgl, hlc⟩ : ∃ g lc, u1 = .slice (some ⟨g, 0, none⟩) l.length lc ∧ wz.heap.size ≤ g ∧ l.length ≤ lc := by
    obtain ⟨_, h2⟩ := hr1
    rcases h2 with ⟨_, h3⟩ | ⟨g, cap, cur, rfl, hg, _, hc, _⟩
    · exact absurd h3 h0
    · exact ⟨g, cap, rfl, hg, hc⟩
  have HR1 := hid hr1
  have hn0 : ((l.length : Int) == 0) = false := by simpa using (by omega : ¬ (l.length : Int) = 0)
  have hki : ¬ 1000000 ≤ c.keys := by omega
  have p7 := HX1.out.cell 7 rfl
  obtain ⟨m, hm⟩ : ∃ m, m = min l.length 20 := ⟨_, rfl⟩
  have hmm : min (l.length : Int) 20 = (m : Int) := by omega
  have hml : m ≤ l.length := by omega
  have hmlc : m ≤ lc := by omega
  clear hr1
  go_wp2_with fail
  go_loopw [35] (fun x wr => ∃ i : Nat, i ≤ m ∧ x = .int .i64 i ∧ Hid (wr.ownsRow wz.heap.size 53 5 (.slice (some ⟨g, 0, none⟩) l.length lc) l.length (Pp.flatC (Cy.toB c.cur l i))) ∧ Hid (Cs wr w.heap.size [.string c.who, .string c.fo, .slice ab c.base.length cb, .int .i64 c.cur, .slice am c.mine.length cm, .string c.key, .slice aa c.ask.length ca, .int .i64 c.keys]) ∧ Hid (Cs wr (w.heap.size + 1) zs) ∧ Below w.heap.size w wr) (fun x _ => m - (intOf x).toNat)
  case atStart => exact ⟨0, Nat.zero_le _, rfl, (by rw [show Cy.toB c.cur l 0 = l from by simp [Cy.toB]]; exact HR1.out : w1.ownsRow wz.heap.size 53 5 (.slice (some ⟨g, 0, none⟩) l.length lc) l.length (Pp.flatC (Cy.toB c.cur l 0))), HX1, HY1, hb01⟩
  case round =>
    obtain ⟨i, hi, rfl, HR2, HX2, HY2, hbel⟩ := hrel
    clear HX1 HY1 HR1 p7
    by_cases hil : i < m
    · have hili : (i : Int) < m := by omega
      have p3 := HX2.out.cell 3 rfl
      have r4 := HR2.out.cellAt (i * 5 + 4) (by omega)
      rw [Pp.flatC_at _ i (by rw [Cy.toB_len]; omega) 4 (by decide)] at r4
      have f4 := HR2.out.frozenAt (i * 5 + 4)
      obtain ⟨ov, r4⟩ : ∃ ov : Int, wr.cell? ⟨g, i * 5 + 4, none⟩ = some (.int .i64 ov) := ⟨_, r4⟩
      have hne : ¬ w.heap.size = g := by omega
      have HR3 : Hid ((wr.setCell ⟨g, i * 5 + 4, none⟩ (.int .i64 c.cur)).ownsRow wz.heap.size 53 5 (.slice (some ⟨g, 0, none⟩) l.length lc) l.length (Pp.flatC (Cy.toB c.cur l (i + 1)))) := (by rw [Cy.toB_flat c.cur l i (by omega)]; exact ownsRow_set' HR2.out _ _ : (wr.setCell ⟨g, i * 5 + 4, none⟩ (.int .i64 c.cur)).ownsRow wz.heap.size 53 5 (.slice (some ⟨g, 0, none⟩) l.length lc) l.length (Pp.flatC (Cy.toB c.cur l (i + 1))))
      have HX3 := hid (HX2.out.other (b' := g) (o := i * 5 + 4) (by omega) (.int .i64 c.cur))
      have HY3 := hid (HY2.out.other (b' := g) (o := i * 5 + 4) (by omega) (.int .i64 c.cur))
      have hbel3 : Below w.heap.size w (wr.setCell ⟨g, i * 5 + 4, none⟩ (.int .i64 c.cur)) := hbel.setCell (p := ⟨g, i * 5 + 4, none⟩) (by show w.heap.size ≤ g; omega) _
      clear HR2 HX2 HY2
      go_wp2_with fail
      go_roundw
      case rel => exact ⟨i + 1, by omega, rfl, HR3, HX3, HY3, hbel3⟩
      case measure => simp [intOf]; omega
    · have hili : ¬ (i : Int) < m := by omega
      have HLC : Hid (∀ W, W.ownsRow wz.heap.size 53 5 (.slice (some ⟨g, 0, none⟩) l.length lc) l.length (Pp.flatC (Cy.toB c.cur l i)) → LiesC W (.slice (some ⟨g, 0, none⟩) m lc) (Cy.akL c) ∧ Own w.heap.size W (.slice (some ⟨g, 0, none⟩) m lc)) := (fun W h => by
        have him : i = m := by omega
        have hal : (Cy.akL c).length = m := by rw [HAK.out, List.length_map, List.length_take]; omega
        have hg : ∀ (j : Nat) (hj : j < (Cy.akL c).length) (hj2 : j < (Cy.toB c.cur l i).length), (Cy.toB c.cur l i)[j] = (Cy.akL c)[j] := fun j hj hj2 => by
          have h20 : j < 20 := by omega
          have hjl : j < l.length := by omega
          have e1 : (Cy.akL c)[j]? = some (Cy.setB c.cur l[j]) := by rw [HAK.out]; simp [h20, hjl]
          have e2 : (Cy.toB c.cur l i)[j]? = some (Cy.setB c.cur l[j]) := by
            rw [Cy.toB, List.getElem?_append_left (by rw [List.length_map, List.length_take]; omega)]
            have : j < i := by omega
            simp [this, hjl]
          rw [List.getElem?_eq_getElem hj2] at e2
          rw [List.getElem?_eq_getElem hj] at e1
          injection e1 with e1
          injection e2 with e2
          rw [e1, e2]
        have hlC : LiesC W (.slice (some ⟨g, 0, none⟩) l.length lc) (Cy.toB c.cur l i) := liesC_row (by rw [Cy.toB_len]; exact h) (by rw [Cy.toB_len]; omega)
        obtain ⟨a', cap', e, h1, h2, h3⟩ := hlC
        injection e with ea el ec
        subst ea
        subst ec
        refine ⟨⟨_, lc, by rw [hal], by rw [hal]; exact hmlc, by rw [hal]; omega, fun j hj => ?_⟩, fun b hb => ?_⟩
        · obtain ⟨b, o, e1, e2, e3⟩ := h3 j (by rw [Cy.toB_len]; omega)
          rw [hg j hj] at e3
          exact ⟨b, o, e1, e2, e3⟩
        · have h9 := own_row h b hb
          exact ⟨by have := h9.1; omega, h9.2⟩ : ∀ W, W.ownsRow wz.heap.size 53 5 (.slice (some ⟨g, 0, none⟩) l.length lc) l.length (Pp.flatC (Cy.toB c.cur l i)) → LiesC W (.slice (some ⟨g, 0, none⟩) m lc) (Cy.akL c) ∧ Own w.heap.size W (.slice (some ⟨g, 0, none⟩) m lc))
      have p7 := HX2.out.cell 7 rfl
      have f7 := HX2.out.fr 7
      obtain ⟨w5, hw5⟩ : ∃ w5, w5 = wr.setCell ⟨w.heap.size, 7, none⟩ (.int .i64 (c.keys + 1)) := ⟨_, rfl⟩
      have HX5 : Hid (Cs w5 w.heap.size [.string c.who, .string c.fo, .slice ab c.base.length cb, .int .i64 c.cur, .slice am c.mine.length cm, .string c.key, .slice aa c.ask.length ca, .int .i64 (c.keys + 1)]) := (by rw [hw5]; exact HX2.out.set 7 _ : Cs w5 w.heap.size _)
      have HY5 : Hid (Cs w5 (w.heap.size + 1) zs) := (by rw [hw5]; exact HY2.out.other (by omega) _ : Cs w5 (w.heap.size + 1) zs)
      have HR5 : Hid (w5.ownsRow wz.heap.size 53 5 (.slice (some ⟨g, 0, none⟩) l.length lc) l.length (Pp.flatC (Cy.toB c.cur l i))) := (by rw [hw5]; exact HR2.out.kept (row := some w.heap.size) (nb_set _ _ _ _) (Or.inr (by simp [Value.ownBlock]; omega)) : w5.ownsRow wz.heap.size 53 5 (.slice (some ⟨g, 0, none⟩) l.length lc) l.length (Pp.flatC (Cy.toB c.cur l i)))
      have hb5 : Below w.heap.size w w5 := by rw [hw5]; exact hbel.setCell (p := ⟨w.heap.size, 7, none⟩) (Nat.le_refl _) _
      clear HR2 HX2 HY2
      go_upto_region 13 with fail
      rw [← hw5]
      clear hw5 p7 f7
      have p0 := HX5.out.cell 0 rfl
      have p7 := HX5.out.cell 7 rfl
      have p5 := HX5.out.cell 5 rfl
      have f5 := HX5.out.fr 5
      have hdr : Below w5.heap.size w5 w5.drew := (Below.refl _ _).drew
      have hws := HS.out.who
      have hop1 : Op.stringOp BinOp.add c.who ⟨#[45]⟩ = pure (.string (c.who ++ ⟨#[45]⟩)) := by
        unfold Op.stringOp
        rw [if_neg (by show ¬ ((c.who.size + 1 : Nat) : Int) > 9223372036854775807; omega)]
      have hop2 : Op.stringOp BinOp.add (c.who ++ ⟨#[45]⟩) num = pure (.string (c.who ++ ⟨#[45]⟩ ++ num)) := by
        unfold Op.stringOp
        have hsz : (c.who ++ (⟨#[45]⟩ : ByteArray)).size = c.who.size + 1 := by rw [ByteArray.size_append]; rfl
        rw [if_neg (by rw [hsz]; show ¬ ((c.who.size + 1 + num.size : Nat) : Int) > 9223372036854775807; omega)]
      go_region_held3 (fun W => W.cell? ⟨w.heap.size, 0, none⟩ = some (.string c.who) ∧ W.cell? ⟨w.heap.size, 7, none⟩ = some (.int .i64 (c.keys + 1))) (first | go_keep | exact ⟨(World.cell?_setCell_other _ ⟨w.heap.size, 5, none⟩ ⟨w.heap.size, 0, none⟩ _ (by simp)).trans q0, (World.cell?_setCell_other _ ⟨w.heap.size, 5, none⟩ ⟨w.heap.size, 7, none⟩ _ (by simp)).trans q7⟩) (first
        | (go_at_call 65; refine (HI.out _ (below_tr hb5 hdr)).mono ?_; rintro e w6 ⟨rfl, hb6⟩; have hb56 := below_tr hdr hb6; have q0 := (HX5.out.below hb56).cell 0 rfl; have q7 := (HX5.out.below hb56).cell 7 rfl; have q5 := (HX5.out.below hb56).cell 5 rfl; have e5 := (HX5.out.below hb56).fr 5))
      subst hm
      have HX6 := hid (HX5.out.below hb56)
      have HY6 := hid (HY5.out.below hb56)
      have HR6 := hid (HR5.out.kept9 hb56)
      have hb6w := below_tr hb5 hb56
      obtain ⟨w8, hw8⟩ : ∃ w8, w8 = (w6.setCell ⟨w.heap.size, 5, none⟩ (.string (c.who ++ ⟨#[45]⟩ ++ num))).setCell ⟨w.heap.size, 6, none⟩ (.slice (some ⟨g, 0, none⟩) (min l.length 20) lc) := ⟨_, rfl⟩
      have HX8 : Hid (Cs w8 w.heap.size [.string c.who, .string c.fo, .slice ab c.base.length cb, .int .i64 c.cur, .slice am c.mine.length cm, .string (c.who ++ ⟨#[45]⟩ ++ num), .slice (some ⟨g, 0, none⟩) (min l.length 20) lc, .int .i64 (c.keys + 1)]) := (by rw [hw8]; exact (HX6.out.set 5 _).set 6 _ : Cs w8 w.heap.size _)
      have HY8 : Hid (Cs w8 (w.heap.size + 1) zs) := (by rw [hw8]; exact (HY6.out.other (by omega) _).other (by omega) _ : Cs w8 (w.heap.size + 1) zs)
      have hne9 : (Value.slice (some ⟨g, 0, none⟩) l.length lc).ownBlock ≠ some w.heap.size := by simp [Value.ownBlock]; omega
      have HR8 : Hid (w8.ownsRow wz.heap.size 53 5 (.slice (some ⟨g, 0, none⟩) l.length lc) l.length (Pp.flatC (Cy.toB c.cur l i))) := (by rw [hw8]; exact (HR6.out.kept (row := some w.heap.size) (nb_set _ _ _ _) (Or.inr hne9)).kept (row := some w.heap.size) (nb_set _ _ _ _) (Or.inr hne9) : w8.ownsRow wz.heap.size 53 5 (.slice (some ⟨g, 0, none⟩) l.length lc) l.length (Pp.flatC (Cy.toB c.cur l i)))
      have hb8 : Below w.heap.size w w8 := by rw [hw8]; exact (hb6w.setCell (p := ⟨w.heap.size, 5, none⟩) (Nat.le_refl _) _).setCell (p := ⟨w.heap.size, 6, none⟩) (Nat.le_refl _) _
      have t6 := (HX6.out.set 5 (.string (c.who ++ ⟨#[45]⟩ ++ num))).cell 6 rfl
      have g6 := (HX6.out.set 5 (.string (c.who ++ ⟨#[45]⟩ ++ num))).fr 6
      clear p0 p5 f5 p7 q0 q7 q5 e5 hop1 hop2 HX6 HY6 HR6 HX5 HY5 HR5
      go_upto_region 15 with fail
      rw [← hw8]
      clear hw8 t6 g6
      have p0 := HX8.out.cell 0 rfl
      have p1 := HX8.out.cell 1 rfl
      have p2 := HX8.out.cell 2 rfl
      have p3 := HX8.out.cell 3 rfl
      have p4 := HX8.out.cell 4 rfl
      have p5 := HX8.out.cell 5 rfl
      have p6 := HX8.out.cell 6 rfl
      have p7 := HX8.out.cell 7 rfl
      have y0 := HY8.out.cell 0 rfl
      have y1 := HY8.out.cell 1 rfl
      have y2 := HY8.out.cell 2 rfl
      have y3 := HY8.out.cell 3 rfl
      have y4 := HY8.out.cell 4 rfl
      have y5 := HY8.out.cell 5 rfl
      have y6 := HY8.out.cell 6 rfl
      have y7 := HY8.out.cell 7 rfl
      have g0 := HY8.out.fr 0
      have g1 := HY8.out.fr 1
      have g2 := HY8.out.fr 2
      have g3 := HY8.out.fr 3
      have g4 := HY8.out.fr 4
      have g5 := HY8.out.fr 5
      have g6 := HY8.out.fr 6
      have g7 := HY8.out.fr 7
      have hne : ¬ w.heap.size = w.heap.size + 1 := by omega
      go_wp2_with fail
      refine bodyPost_ret (v := .tuple #[.agg #[.string c.who, .string c.fo, .slice ab c.base.length cb, .int .i64 c.cur, .slice am c.mine.length cm, .string (c.who ++ ⟨#[45]⟩ ++ num), .slice (some ⟨g, 0, none⟩) (min l.length 20) lc, .int .i64 (c.keys + 1)], .int .i64 0]) (by simp [results, Tryz.results42, go_sem, y0, y1, y2, y3, y4, y5, y6, y7]) rfl ⟨_, rfl, ?_, ?_, ?_⟩
      · have hgz : w8.grownBy _ (some (w.heap.size + 1)) := (grown_on (grown_on (grown_on (grown_on (grown_on (grown_on (grown_on (nb_set w8 (w.heap.size + 1) 0 (.string c.who)) (nb_set _ (w.heap.size + 1) 1 (.string c.fo))) (nb_set _ (w.heap.size + 1) 2 (.slice ab c.base.length cb))) (nb_set _ (w.heap.size + 1) 3 (.int .i64 c.cur))) (nb_set _ (w.heap.size + 1) 4 (.slice am c.mine.length cm))) (nb_set _ (w.heap.size + 1) 5 (.string (c.who ++ ⟨#[45]⟩ ++ num)))) (nb_set _ (w.heap.size + 1) 6 (.slice (some ⟨g, 0, none⟩) (min l.length 20) lc))) (nb_set _ (w.heap.size + 1) 7 (.int .i64 (c.keys + 1))))
        exact (HLC.out _ (HR8.out.kept (row := some (w.heap.size + 1)) hgz (Or.inr (by simp [Value.ownBlock]; omega)))).1
      · have hgz : w8.grownBy _ (some (w.heap.size + 1)) := (grown_on (grown_on (grown_on (grown_on (grown_on (grown_on (grown_on (nb_set w8 (w.heap.size + 1) 0 (.string c.who)) (nb_set _ (w.heap.size + 1) 1 (.string c.fo))) (nb_set _ (w.heap.size + 1) 2 (.slice ab c.base.length cb))) (nb_set _ (w.heap.size + 1) 3 (.int .i64 c.cur))) (nb_set _ (w.heap.size + 1) 4 (.slice am c.mine.length cm))) (nb_set _ (w.heap.size + 1) 5 (.string (c.who ++ ⟨#[45]⟩ ++ num)))) (nb_set _ (w.heap.size + 1) 6 (.slice (some ⟨g, 0, none⟩) (min l.length 20) lc))) (nb_set _ (w.heap.size + 1) 7 (.int .i64 (c.keys + 1))))
        exact (HLC.out _ (HR8.out.kept (row := some (w.heap.size + 1)) hgz (Or.inr (by simp [Value.ownBlock]; omega)))).2
      · exact ((((((((hb8.setCell (p := ⟨w.heap.size + 1, 0, none⟩) (Nat.le_succ _) _).setCell (p := ⟨w.heap.size + 1, 1, none⟩) (Nat.le_succ _) _).setCell (p := ⟨w.heap.size + 1, 2, none⟩) (Nat.le_succ _) _).setCell (p := ⟨w.heap.size + 1, 3, none⟩) (Nat.le_succ _) _).setCell (p := ⟨w.heap.size + 1, 4, none⟩) (Nat.le_succ _) _).setCell (p := ⟨w.heap.size + 1, 5, none⟩) (Nat.le_succ _) _).setCell (p := ⟨w.heap.size + 1, 6, none⟩) (Nat.le_succ _) _).setCell (p := ⟨w.heap.size + 1, 7, none⟩) (Nat.le_succ _) _)
end Go.Proofs.YtlllcifehellpaaGreatDoor
set_option linter.unusedSimpArgs false
set_option linter.unusedVariables false
namespace Go.Proofs.YtlllcifehellpaaGreatDoor
open Go.RowKit

structure Rq where
  kind : Int
  who : ByteArray
  fo : ByteArray
  name : ByteArray
  key : ByteArray
  text : ByteArray
  num : Int
  off : Int
  base : Int
  ch : List Pp.Ch
/-- A request as a value: its changes lie in memory. -/
def LiesQ (w : World) (v : Value) (q : Rq) : Prop := ∃ va, v = .agg #[.int .i64 q.kind, .string q.who, .string q.fo, .string q.name, .string q.key, .string q.text, .int .i64 q.num, .int .i64 q.off, .int .i64 q.base, va] ∧ LiesC w va q.ch
theorem LiesQ.below {w w' : World} {v : Value} {q : Rq} (h : LiesQ w v q) (hw : Below w.heap.size w w') : LiesQ w' v q := by
  obtain ⟨va, e, h1⟩ := h
  exact ⟨va, e, h1.below hw⟩
def zeroQ : Rq := ⟨0, ⟨#[]⟩, ⟨#[]⟩, ⟨#[]⟩, ⟨#[]⟩, ⟨#[]⟩, 0, 0, 0, []⟩
theorem liesC_nil (w : World) : LiesC w (.slice none 0 0) [] := ⟨none, 0, rfl, Nat.le_refl _, Nat.zero_le _, fun i h => absurd h (by simp)⟩
theorem liesQ_zero (w : World) : LiesQ w (.agg #[.int .i64 0, .string ⟨#[]⟩, .string ⟨#[]⟩, .string ⟨#[]⟩, .string ⟨#[]⟩, .string ⟨#[]⟩, .int .i64 0, .int .i64 0, .int .i64 0, .slice none 0 0]) zeroQ := ⟨_, rfl, liesC_nil _⟩
abbrev zq : List Value := [.int .i64 0, .string ⟨#[]⟩, .string ⟨#[]⟩, .string ⟨#[]⟩, .string ⟨#[]⟩, .string ⟨#[]⟩, .int .i64 0, .int .i64 0, .int .i64 0, .slice none 0 0]
namespace Cy
def feR (c : Cn) : Rq := if chE c = 0 then ⟨2, c.who, c.fo, ⟨#[]⟩, ⟨#[]⟩, ⟨#[]⟩, c.cur, 0, 0, []⟩ else zeroQ
end Cy

end Go.Proofs.YtlllcifehellpaaGreatDoor
set_option linter.unusedSimpArgs false
set_option linter.unusedVariables false
namespace Go.Proofs.YtlllcifehellpaaGreatDoor
open Go.RowKit

/-- Cells among which no entry and no change lies. -/
structure NoLies (cs : List Value) : Prop where
  nb : ∀ x, Value.bool x ∉ cs
  nc : ∀ (i : Nat) (k : Int) (p q t : ByteArray) (n : Int), cs[i]? = some (.int .i64 k) → cs[i + 1]? = some (.string p) → cs[i + 2]? = some (.string q) → cs[i + 3]? = some (.string t) → cs[i + 4]? = some (.int .i64 n) → False
theorem LiesC.offbox {W W' : World} {v : Value} {L : List Pp.Ch} {b : Nat} {cs : List Value} (h : LiesC W v L) (hc : Cs W b cs) (hn : NoLies cs) (hw : W.grownBy W' (some b)) : LiesC W' v L := by
  obtain ⟨a, cap, rfl, h1, h2, h3⟩ := h
  refine ⟨a, cap, rfl, h1, h2, fun i hi => ?_⟩
  obtain ⟨g, o, rfl, hb, he⟩ := h3 i hi
  have hne : g ≠ b := by
    rintro rfl
    obtain ⟨T, hh⟩ := hc
    obtain ⟨e0, e1, e2, e3, e4⟩ := he
    simp [World.cell?, hh] at e0 e1 e2 e3 e4
    exact hn.nc _ _ _ _ _ _ e0 e1 e2 e3 e4
  have c := cell_nb hw hb hne
  exact ⟨g, o, rfl, Nat.lt_of_lt_of_le hb hw.size, (c _).trans he.1, (c _).trans he.2.1, (c _).trans he.2.2.1, (c _).trans he.2.2.2.1, (c _).trans he.2.2.2.2⟩
theorem LiesN.off {W W' : World} {v : Value} {c : Cn} {b : Nat} {cs : List Value} (h : LiesN W v c) (hc : Cs W b cs) (hn : NoLies cs) (hw : W.grownBy W' (some b)) : LiesN W' v c := by
  obtain ⟨vb, vm, va, e, h1, h2, h3⟩ := h
  exact ⟨vb, vm, va, e, h1.offbox hc hn.nb hw, h2.offbox hc hn.nb hw, h3.offbox hc hn hw⟩
theorem LiesQ.off {W W' : World} {v : Value} {q : Rq} {b : Nat} {cs : List Value} (h : LiesQ W v q) (hc : Cs W b cs) (hn : NoLies cs) (hw : W.grownBy W' (some b)) : LiesQ W' v q := by
  obtain ⟨va, e, h1⟩ := h
  exact ⟨va, e, h1.offbox hc hn hw⟩
theorem noLies_cn (s0 s1 s5 : ByteArray) (a2 a4 a6 : Option Addr) (l2 l4 l6 c2 c4 c6 : Nat) (i3 i7 : Int) : NoLies [.string s0, .string s1, .slice a2 l2 c2, .int .i64 i3, .slice a4 l4 c4, .string s5, .slice a6 l6 c6, .int .i64 i7] := by
  refine ⟨fun x h => by simp at h, fun i k p q t n h0 h1 h2 h3 h4 => ?_⟩
  rcases i with _ | _ | _ | _ | _ | _ | _ | _ | i <;> simp at h0 h1 h2
theorem noLies_rq (i0 i6 i7 i8 : Int) (s1 s2 s3 s4 s5 : ByteArray) (a9 : Option Addr) (l9 c9 : Nat) : NoLies [.int .i64 i0, .string s1, .string s2, .string s3, .string s4, .string s5, .int .i64 i6, .int .i64 i7, .int .i64 i8, .slice a9 l9 c9] := by
  refine ⟨fun x h => by simp at h, fun i k p q t n h0 h1 h2 h3 h4 => ?_⟩
  rcases i with _ | _ | _ | _ | _ | _ | _ | _ | _ | _ | i <;> simp at h0 h1 h2 h3 h4
end Go.Proofs.YtlllcifehellpaaGreatDoor
set_option linter.unusedSimpArgs false
set_option linter.unusedVariables false
namespace Go.Proofs.YtlllcifehellpaaGreatDoor
open Go.RowKit

set_option maxRecDepth 100000 in
set_option maxHeartbeats 8000000 in
theorem asking_full (c : Cn) (v : Value) (w : World) (hv : LiesN w v c) (hs : SizedN c) (hB : Pp.treeE c.base = 0) (hM : Pp.treeE c.mine = 0) (h0 : ¬ (Sp.dfL c.base c.mine).length = 0) (hn : (Sp.dfL c.base c.mine).length ≤ 1000) (hk : 1000000 ≤ c.keys) :
    Calls Tryz.prog 42 #[v] w fun e w' => e = .returned (.tuple #[.agg #[.string ⟨#[]⟩, .string ⟨#[]⟩, .slice none 0 0, .int .i64 0, .slice none 0 0, .string ⟨#[]⟩, .slice none 0 0, .int .i64 0], .int .i64 3]) ∧ Below w.heap.size w w' := by
  have HV := hid hv
  have HS := hid hs
  have HE : Hid (Sp.dfE c.base c.mine = 0) := (by rw [Sp.dfE, if_pos hB]; exact hM : Sp.dfE c.base c.mine = 0)
  obtain ⟨vb, vm, va, rfl, lb, lm, la⟩ := hv
  have HB := hid lb
  have HM := hid lm
  obtain ⟨ab, cb, rfl, _⟩ := lb
  obtain ⟨am, cm, rfl, _⟩ := lm
  obtain ⟨aa, ca, rfl, _⟩ := la
  clear hs hB hM
  obtain ⟨wz, hwz⟩ : ∃ wz, wz = (w.alloc (.cells #[.string c.who, .string c.fo, .slice ab c.base.length cb, .int .i64 c.cur, .slice am c.mine.length cm, .string c.key, .slice aa c.ask.length ca, .int .i64 c.keys] 25)).alloc (.cells #[.string ⟨#[]⟩, .string ⟨#[]⟩, .slice none 0 0, .int .i64 0, .slice none 0 0, .string ⟨#[]⟩, .slice none 0 0, .int .i64 0] 25) := ⟨_, rfl⟩
  have hbz : Below w.heap.size w wz := by rw [hwz]; exact ((Below.refl _ _).alloc (Nat.le_refl _) _).alloc (by simp) _
  have HX : Hid (Cs wz w.heap.size [.string c.who, .string c.fo, .slice ab c.base.length cb, .int .i64 c.cur, .slice am c.mine.length cm, .string c.key, .slice aa c.ask.length ca, .int .i64 c.keys]) := (by rw [hwz]; exact (Cs.new w [.string c.who, .string c.fo, .slice ab c.base.length cb, .int .i64 c.cur, .slice am c.mine.length cm, .string c.key, .slice aa c.ask.length ca, .int .i64 c.keys] _).below ((Below.refl _ _).alloc (Nat.le_refl _) _) : Cs wz w.heap.size _)
  have HY : Hid (Cs wz (w.heap.size + 1) zs) := (by
    have := Cs.new (w.alloc (.cells #[.string c.who, .string c.fo, .slice ab c.base.length cb, .int .i64 c.cur, .slice am c.mine.length cm, .string c.key, .slice aa c.ask.length ca, .int .i64 c.keys] 25)) zs 25
    rw [hwz]; simpa using this : Cs wz (w.heap.size + 1) zs)
  go_enter Tryz.func42, Tryz.ntmps42
  go_wp2_with fail
  rw [← hwz]
  clear hwz
  refine (diff_any c.base c.mine _ _ _ (HB.out.below hbz) (HM.out.below hbz) HS.out.base HS.out.mine).mono ?_
  rintro e w1 ⟨u1, rfl, hr1, hb1⟩
  rw [HE.out]
  obtain ⟨n, hnn⟩ : ∃ n, n = (Sp.dfL c.base c.mine).length := ⟨_, rfl⟩
  rw [← hnn] at hr1 h0 hn
  have hb01 := below_tr hbz hb1
  have HX1 := hid (HX.out.below hb1)
  have HY1 := hid (HY.out.below hb1)
  obtain ⟨la, lc, rfl⟩ : ∃ la lc, u1 = .slice la n lc := by
    obtain ⟨_, h2⟩ := hr1
    rcases h2 with ⟨_, h3⟩ | ⟨g, cap, cur, rfl, _⟩
    · exact absurd h3 h0
    · exact ⟨_, cap, rfl⟩
  have hn0 : ((n : Int) == 0) = false := by simpa using (by omega : ¬ (n : Int) = 0)
  clear hr1 h0 hnn
  have p7 := HX1.out.cell 7 rfl
  have y0 := HY1.out.cell 0 rfl
  have g0 := HY1.out.fr 0
  have y1 := HY1.out.cell 1 rfl
  have g1 := HY1.out.fr 1
  have y2 := HY1.out.cell 2 rfl
  have g2 := HY1.out.fr 2
  have y3 := HY1.out.cell 3 rfl
  have g3 := HY1.out.fr 3
  have y4 := HY1.out.cell 4 rfl
  have g4 := HY1.out.fr 4
  have y5 := HY1.out.cell 5 rfl
  have g5 := HY1.out.fr 5
  have y6 := HY1.out.cell 6 rfl
  have g6 := HY1.out.fr 6
  have y7 := HY1.out.cell 7 rfl
  have g7 := HY1.out.fr 7
  have hne : ¬ w.heap.size = w.heap.size + 1 := by omega
  go_wp2_with fail
  refine bodyPost_ret (v := .tuple #[.agg #[.string ⟨#[]⟩, .string ⟨#[]⟩, .slice none 0 0, .int .i64 0, .slice none 0 0, .string ⟨#[]⟩, .slice none 0 0, .int .i64 0], .int .i64 3]) (by simp [results, Tryz.results42, go_sem, y0, y1, y2, y3, y4, y5, y6, y7]) rfl ⟨rfl, ?_⟩
  exact ((((((((hb01.setCell (p := ⟨w.heap.size + 1, 0, none⟩) (Nat.le_succ _) _).setCell (p := ⟨w.heap.size + 1, 1, none⟩) (Nat.le_succ _) _).setCell (p := ⟨w.heap.size + 1, 2, none⟩) (Nat.le_succ _) _).setCell (p := ⟨w.heap.size + 1, 3, none⟩) (Nat.le_succ _) _).setCell (p := ⟨w.heap.size + 1, 4, none⟩) (Nat.le_succ _) _).setCell (p := ⟨w.heap.size + 1, 5, none⟩) (Nat.le_succ _) _).setCell (p := ⟨w.heap.size + 1, 6, none⟩) (Nat.le_succ _) _).setCell (p := ⟨w.heap.size + 1, 7, none⟩) (Nat.le_succ _) _)
end Go.Proofs.YtlllcifehellpaaGreatDoor
