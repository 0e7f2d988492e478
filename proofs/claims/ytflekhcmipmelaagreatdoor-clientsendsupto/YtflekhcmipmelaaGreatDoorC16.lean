/- What the law ClientSends answers: true, for every client. -/
import Derived.Test.YtflekhcmipmelaaGreatDoorC2
import Derived.Test.YtflekhcmipmelaaGreatDoorC5
import Derived.Test.YtflekhcmipmelaaGreatDoorPN
import Derived.Test.YtflekhcmipmelaaGreatDoorCTab
import Derived.Test.YtflekhcmipmelaaGreatDoorPM
set_option linter.unusedSimpArgs false
set_option linter.unusedVariables false
namespace Go.Proofs.YtflekhcmipmelaaGreatDoor
open Go.RowKit


set_option maxRecDepth 100000 in
set_option maxHeartbeats 8000000 in
theorem clientSends_walk (c : Cn) (v : Value) (w : World) (hv : LiesN w v c) (hs : SizedN c) (hpb : ∀ e ∈ c.base, e.path.size ≤ 1000000000) (hpm : ∀ e ∈ c.mine, e.path.size ≤ 1000000000) (ht : PowTab w) :
    Calls Tryz.prog 6 #[v] w fun e w' => e = .returned (.bool true) ∧ Below w.heap.size w w' := by
  by_cases h0 : Cy.chE c = 0
  · have H0 := hid h0
    clear h0
    have HV := hid hv
    have HS := hid hs
    have HPB := hid hpb
    have HPM := hid hpm
    have HT := hid ht
    obtain ⟨vb, vm, va, rfl, lb, lm, la⟩ := hv
    obtain ⟨ab, cb, rfl, _⟩ := lb
    obtain ⟨am, cm, rfl, _⟩ := lm
    obtain ⟨aa, ca, rfl, _⟩ := la
    clear hs hpb hpm ht
    obtain ⟨wz, hwz⟩ : ∃ wz, wz = w.alloc (.cells #[.string c.who, .string c.fo, .slice ab c.base.length cb, .int .i64 c.cur, .slice am c.mine.length cm, .string c.key, .slice aa c.ask.length ca, .int .i64 c.keys] 25) := ⟨_, rfl⟩
    have hbz : Below w.heap.size w wz := by rw [hwz]; exact (Below.refl _ _).alloc (Nat.le_refl _) _
    have HX : Hid (Cs wz w.heap.size [.string c.who, .string c.fo, .slice ab c.base.length cb, .int .i64 c.cur, .slice am c.mine.length cm, .string c.key, .slice aa c.ask.length ca, .int .i64 c.keys]) := (by rw [hwz]; exact Cs.new w [.string c.who, .string c.fo, .slice ab c.base.length cb, .int .i64 c.cur, .slice am c.mine.length cm, .string c.key, .slice aa c.ask.length ca, .int .i64 c.keys] _ : Cs wz w.heap.size [.string c.who, .string c.fo, .slice ab c.base.length cb, .int .i64 c.cur, .slice am c.mine.length cm, .string c.key, .slice aa c.ask.length ca, .int .i64 c.keys])
    obtain ⟨r, hr⟩ : ∃ r, r = Cy.sdE c := ⟨_, rfl⟩
    have HR := hid hr
    obtain ⟨y, hy⟩ : ∃ y, y = Cy.sdB c := ⟨_, rfl⟩
    have HB := hid hy
    clear hr hy
    go_enter Tryz.func6, Tryz.ntmps6
    go_upto_region 1 with fail
    rw [← hwz]
    clear hwz
    have p0 := HX.out.cell 0 rfl
    have p1 := HX.out.cell 1 rfl
    have p2 := HX.out.cell 2 rfl
    have p3 := HX.out.cell 3 rfl
    have p4 := HX.out.cell 4 rfl
    have p5 := HX.out.cell 5 rfl
    have p6 := HX.out.cell 6 rfl
    have p7 := HX.out.cell 7 rfl
    go_wp2_with fail
    refine (send_any c _ _ (HV.out.below hbz) HS.out (HT.out.below hbz)).mono ?_
    rintro e w1 ⟨u1, q1, rfl, hN1, hQ1, hb1⟩
    rw [← HR.out, ← HB.out]
    obtain ⟨d, hd⟩ : ∃ d, d = Cy.sdC c := ⟨_, rfl⟩
    rw [← hd] at hN1
    have HD := hid hd
    obtain ⟨q, hq⟩ : ∃ q, q = Cy.sdQ c := ⟨_, rfl⟩
    rw [← hq] at hQ1
    have HQQ := hid hq
    clear hd hq p0 p1 p2 p3 p4 p5 p6 p7
    have HN1 := hid hN1
    have HQ1 := hid hQ1
    obtain ⟨vb, vm, va, rfl, lb1, lm1, la1⟩ := hN1
    obtain ⟨eb, fb, rfl, _⟩ := lb1
    obtain ⟨em, fm, rfl, _⟩ := lm1
    obtain ⟨ea, fa, rfl, _⟩ := la1
    obtain ⟨vq, rfl, lq⟩ := hQ1
    obtain ⟨qa, qc, rfl, _⟩ := lq
    obtain ⟨w2, hw2⟩ : ∃ w2, w2 = (w1.alloc (.cells #[.string d.who, .string d.fo, .slice eb d.base.length fb, .int .i64 d.cur, .slice em d.mine.length fm, .string d.key, .slice ea d.ask.length fa, .int .i64 d.keys] 25)).alloc (.cells #[.int .i64 q.kind, .string q.who, .string q.fo, .string q.name, .string q.key, .string q.text, .int .i64 q.num, .int .i64 q.off, .int .i64 q.base, .slice qa q.ch.length qc] 38) := ⟨_, rfl⟩
    have b12 : Below w1.heap.size w1 w2 := by rw [hw2]; exact ((Below.refl _ _).alloc (Nat.le_refl _) _).alloc (by simp) _
    have HD2 : Hid (Cs w2 w1.heap.size [.string d.who, .string d.fo, .slice eb d.base.length fb, .int .i64 d.cur, .slice em d.mine.length fm, .string d.key, .slice ea d.ask.length fa, .int .i64 d.keys]) := (by rw [hw2]; exact (Cs.new w1 [.string d.who, .string d.fo, .slice eb d.base.length fb, .int .i64 d.cur, .slice em d.mine.length fm, .string d.key, .slice ea d.ask.length fa, .int .i64 d.keys] _).below ((Below.refl _ _).alloc (Nat.le_refl _) _) : Cs w2 w1.heap.size _)
    have HQ2 : Hid (Cs w2 (w1.heap.size + 1) [.int .i64 q.kind, .string q.who, .string q.fo, .string q.name, .string q.key, .string q.text, .int .i64 q.num, .int .i64 q.off, .int .i64 q.base, .slice qa q.ch.length qc]) := (by
      have := Cs.new (w1.alloc (.cells #[.string d.who, .string d.fo, .slice eb d.base.length fb, .int .i64 d.cur, .slice em d.mine.length fm, .string d.key, .slice ea d.ask.length fa, .int .i64 d.keys] 25)) [.int .i64 q.kind, .string q.who, .string q.fo, .string q.name, .string q.key, .string q.text, .int .i64 q.num, .int .i64 q.off, .int .i64 q.base, .slice qa q.ch.length qc] 38
      rw [hw2]; simpa using this : Cs w2 (w1.heap.size + 1) [.int .i64 q.kind, .string q.who, .string q.fo, .string q.name, .string q.key, .string q.text, .int .i64 q.num, .int .i64 q.off, .int .i64 q.base, .slice qa q.ch.length qc])
    have hb01 := below_tr hbz hb1
    have hb02 := below_tr hb01 b12
    have HX2 := hid ((HX.out.below hb1).below b12)
    have p0 := HX2.out.cell 0 rfl
    have p1 := HX2.out.cell 1 rfl
    have p2 := HX2.out.cell 2 rfl
    have p3 := HX2.out.cell 3 rfl
    have p4 := HX2.out.cell 4 rfl
    have p5 := HX2.out.cell 5 rfl
    have p6 := HX2.out.cell 6 rfl
    have p7 := HX2.out.cell 7 rfl
    go_upto_region 2 with fail
    rw [← hw2]
    clear hw2
    go_wp2_with fail
    refine (rCheckClient_any c _ _ (HV.out.below hb02) HS.out HPB.out HPM.out).mono ?_
    rintro e w5 ⟨rfl, hb5⟩
    clear p0 p1 p2 p3 p4 p5 p6 p7
    obtain ⟨w6, hw6⟩ : ∃ w6, w6 = (w5.alloc (.cells #[.string ⟨#[]⟩, .string ⟨#[]⟩, .slice none 0 0, .int .i64 0, .slice none 0 0, .string ⟨#[]⟩, .slice none 0 0, .int .i64 0] 25)).alloc (.cells #[.int .i64 0, .string ⟨#[]⟩, .string ⟨#[]⟩, .string ⟨#[]⟩, .string ⟨#[]⟩, .string ⟨#[]⟩, .int .i64 0, .int .i64 0, .int .i64 0, .slice none 0 0] 38) := ⟨_, rfl⟩
    have b56 : Below w5.heap.size w5 w6 := by rw [hw6]; exact ((Below.refl _ _).alloc (Nat.le_refl _) _).alloc (by simp) _
    have HY6 : Hid (Cs w6 w5.heap.size zs) := (by rw [hw6]; exact (Cs.new w5 zs _).below ((Below.refl _ _).alloc (Nat.le_refl _) _) : Cs w6 w5.heap.size zs)
    have HZ6 : Hid (Cs w6 (w5.heap.size + 1) zq) := (by
      have := Cs.new (w5.alloc (.cells #[.string ⟨#[]⟩, .string ⟨#[]⟩, .slice none 0 0, .int .i64 0, .slice none 0 0, .string ⟨#[]⟩, .slice none 0 0, .int .i64 0] 25)) zq 38
      rw [hw6]; simpa using this : Cs w6 (w5.heap.size + 1) zq)
    have b26 := below_tr hb5 b56
    have hb06 := below_tr hb02 b26
    have HX6 := hid (HX2.out.below b26)
    have HD6 := hid (HD2.out.below b26)
    have HQ6 := hid (HQ2.out.below b26)
    have HNd6 := hid (HN1.out.below (below_tr b12 b26))
    have HQq6 := hid (HQ1.out.below (below_tr b12 b26))
    have s1 := hb1.size
    have s4 := hb5.size
    have l1 := HQ2.out.lt
    have l0 := HX.out.lt
    rw [H0.out]
    have p0 := HX6.out.cell 0 rfl
    have p1 := HX6.out.cell 1 rfl
    have p2 := HX6.out.cell 2 rfl
    have p3 := HX6.out.cell 3 rfl
    have p4 := HX6.out.cell 4 rfl
    have p5 := HX6.out.cell 5 rfl
    have p6 := HX6.out.cell 6 rfl
    have p7 := HX6.out.cell 7 rfl
    go_upto_region 4 with fail
    rw [← hw6]
    clear hw6
    go_wp2_with fail
    refine (sendOf_any c _ _ (HV.out.below hb06) H0.out).mono ?_
    rintro e w7 ⟨u7, q7, rfl, hN7, hQ7, hb7⟩
    rw [← HR.out, ← HB.out]
    rw [← HD.out] at hN7
    rw [← HQQ.out] at hQ7
    have HN7 := hid hN7
    have HR7 := hid hQ7
    obtain ⟨vb, vm, va, rfl, lb1, lm1, la1⟩ := hN7
    obtain ⟨gb, kb, rfl, _⟩ := lb1
    obtain ⟨gm, km, rfl, _⟩ := lm1
    obtain ⟨ga, ka, rfl, _⟩ := la1
    obtain ⟨vq, rfl, lq⟩ := hQ7
    obtain ⟨ja, jc, rfl, _⟩ := lq
    clear p0 p1 p2 p3 p4 p5 p6 p7
    have s7 := hb7.size
    have s6 := HZ6.out.lt
    have HY7 := hid (HY6.out.below hb7)
    have HZ7 := hid (HZ6.out.below hb7)
    have HD7 := hid (HD6.out.below hb7)
    have HQ7 := hid (HQ6.out.below hb7)
    obtain ⟨w8, hw8⟩ : ∃ w8, w8 = ((((((((w7.setCell ⟨w5.heap.size, 0, none⟩ (.string d.who)).setCell ⟨w5.heap.size, 1, none⟩ (.string d.fo)).setCell ⟨w5.heap.size, 2, none⟩ (.slice gb d.base.length kb)).setCell ⟨w5.heap.size, 3, none⟩ (.int .i64 d.cur)).setCell ⟨w5.heap.size, 4, none⟩ (.slice gm d.mine.length km)).setCell ⟨w5.heap.size, 5, none⟩ (.string d.key)).setCell ⟨w5.heap.size, 6, none⟩ (.slice ga d.ask.length ka)).setCell ⟨w5.heap.size, 7, none⟩ (.int .i64 d.keys)) := ⟨_, rfl⟩
    have g8 : w7.grownBy w8 (some w5.heap.size) := by rw [hw8]; exact (grown_on (grown_on (grown_on (grown_on (grown_on (grown_on (grown_on (nb_set w7 (w5.heap.size) 0 (.string d.who)) (nb_set _ (w5.heap.size) 1 (.string d.fo))) (nb_set _ (w5.heap.size) 2 (.slice gb d.base.length kb))) (nb_set _ (w5.heap.size) 3 (.int .i64 d.cur))) (nb_set _ (w5.heap.size) 4 (.slice gm d.mine.length km))) (nb_set _ (w5.heap.size) 5 (.string d.key))) (nb_set _ (w5.heap.size) 6 (.slice ga d.ask.length ka))) (nb_set _ (w5.heap.size) 7 (.int .i64 d.keys)))
    have HY8 : Hid (Cs w8 w5.heap.size [.string d.who, .string d.fo, .slice gb d.base.length kb, .int .i64 d.cur, .slice gm d.mine.length km, .string d.key, .slice ga d.ask.length ka, .int .i64 d.keys]) := (by rw [hw8]; exact ((((((((HY7.out.set 0 (.string d.who)).set 1 (.string d.fo)).set 2 (.slice gb d.base.length kb)).set 3 (.int .i64 d.cur)).set 4 (.slice gm d.mine.length km)).set 5 (.string d.key)).set 6 (.slice ga d.ask.length ka)).set 7 (.int .i64 d.keys)) : Cs w8 w5.heap.size _)
    have HZ8 := hid (HZ7.out.nb g8 (by omega))
    have HD8 := hid (HD7.out.nb g8 (by omega))
    have HQ8 := hid (HQ7.out.nb g8 (by omega))
    have HNw8 := hid (HN7.out.off HY7.out (noLies_cn _ _ _ _ _ _ _ _ _ _ _ _ _ _) g8)
    have HRw8 := hid (HR7.out.off HY7.out (noLies_cn _ _ _ _ _ _ _ _ _ _ _ _ _ _) g8)
    have HNd8 := hid ((HNd6.out.below hb7).off HY7.out (noLies_cn _ _ _ _ _ _ _ _ _ _ _ _ _ _) g8)
    have HQq8 := hid ((HQq6.out.below hb7).off HY7.out (noLies_cn _ _ _ _ _ _ _ _ _ _ _ _ _ _) g8)
    have hb8 : Below w.heap.size w w8 := by rw [hw8]; exact (((((((((below_tr hb06 hb7).setCell (p := ⟨w5.heap.size, 0, none⟩) (by show _ ≤ w5.heap.size; omega) _).setCell (p := ⟨w5.heap.size, 1, none⟩) (by show _ ≤ w5.heap.size; omega) _).setCell (p := ⟨w5.heap.size, 2, none⟩) (by show _ ≤ w5.heap.size; omega) _).setCell (p := ⟨w5.heap.size, 3, none⟩) (by show _ ≤ w5.heap.size; omega) _).setCell (p := ⟨w5.heap.size, 4, none⟩) (by show _ ≤ w5.heap.size; omega) _).setCell (p := ⟨w5.heap.size, 5, none⟩) (by show _ ≤ w5.heap.size; omega) _).setCell (p := ⟨w5.heap.size, 6, none⟩) (by show _ ≤ w5.heap.size; omega) _).setCell (p := ⟨w5.heap.size, 7, none⟩) (by show _ ≤ w5.heap.size; omega) _)
    have s8 := g8.size
    obtain ⟨w9, hw9⟩ : ∃ w9, w9 = ((((((((((w8.setCell ⟨w5.heap.size + 1, 0, none⟩ (.int .i64 q.kind)).setCell ⟨w5.heap.size + 1, 1, none⟩ (.string q.who)).setCell ⟨w5.heap.size + 1, 2, none⟩ (.string q.fo)).setCell ⟨w5.heap.size + 1, 3, none⟩ (.string q.name)).setCell ⟨w5.heap.size + 1, 4, none⟩ (.string q.key)).setCell ⟨w5.heap.size + 1, 5, none⟩ (.string q.text)).setCell ⟨w5.heap.size + 1, 6, none⟩ (.int .i64 q.num)).setCell ⟨w5.heap.size + 1, 7, none⟩ (.int .i64 q.off)).setCell ⟨w5.heap.size + 1, 8, none⟩ (.int .i64 q.base)).setCell ⟨w5.heap.size + 1, 9, none⟩ (.slice ja q.ch.length jc)) := ⟨_, rfl⟩
    have g9 : w8.grownBy w9 (some (w5.heap.size + 1)) := by rw [hw9]; exact (grown_on (grown_on (grown_on (grown_on (grown_on (grown_on (grown_on (grown_on (grown_on (nb_set w8 (w5.heap.size + 1) 0 (.int .i64 q.kind)) (nb_set _ (w5.heap.size + 1) 1 (.string q.who))) (nb_set _ (w5.heap.size + 1) 2 (.string q.fo))) (nb_set _ (w5.heap.size + 1) 3 (.string q.name))) (nb_set _ (w5.heap.size + 1) 4 (.string q.key))) (nb_set _ (w5.heap.size + 1) 5 (.string q.text))) (nb_set _ (w5.heap.size + 1) 6 (.int .i64 q.num))) (nb_set _ (w5.heap.size + 1) 7 (.int .i64 q.off))) (nb_set _ (w5.heap.size + 1) 8 (.int .i64 q.base))) (nb_set _ (w5.heap.size + 1) 9 (.slice ja q.ch.length jc)))
    have HZ9 : Hid (Cs w9 (w5.heap.size + 1) [.int .i64 q.kind, .string q.who, .string q.fo, .string q.name, .string q.key, .string q.text, .int .i64 q.num, .int .i64 q.off, .int .i64 q.base, .slice ja q.ch.length jc]) := (by rw [hw9]; exact ((((((((((HZ8.out.set 0 (.int .i64 q.kind)).set 1 (.string q.who)).set 2 (.string q.fo)).set 3 (.string q.name)).set 4 (.string q.key)).set 5 (.string q.text)).set 6 (.int .i64 q.num)).set 7 (.int .i64 q.off)).set 8 (.int .i64 q.base)).set 9 (.slice ja q.ch.length jc)) : Cs w9 (w5.heap.size + 1) _)
    have HY9 := hid (HY8.out.nb g9 (by omega))
    have HD9 := hid (HD8.out.nb g9 (by omega))
    have HQ9 := hid (HQ8.out.nb g9 (by omega))
    have HNw9 := hid (HNw8.out.off HZ8.out (noLies_rq _ _ _ _ _ _ _ _ _ _ _ _) g9)
    have HRw9 := hid (HRw8.out.off HZ8.out (noLies_rq _ _ _ _ _ _ _ _ _ _ _ _) g9)
    have HNd9 := hid (HNd8.out.off HZ8.out (noLies_rq _ _ _ _ _ _ _ _ _ _ _ _) g9)
    have HQq9 := hid (HQq8.out.off HZ8.out (noLies_rq _ _ _ _ _ _ _ _ _ _ _ _) g9)
    have hb9 : Below w.heap.size w w9 := by rw [hw9]; exact ((((((((((hb8.setCell (p := ⟨w5.heap.size + 1, 0, none⟩) (by show _ ≤ w5.heap.size + 1; omega) _).setCell (p := ⟨w5.heap.size + 1, 1, none⟩) (by show _ ≤ w5.heap.size + 1; omega) _).setCell (p := ⟨w5.heap.size + 1, 2, none⟩) (by show _ ≤ w5.heap.size + 1; omega) _).setCell (p := ⟨w5.heap.size + 1, 3, none⟩) (by show _ ≤ w5.heap.size + 1; omega) _).setCell (p := ⟨w5.heap.size + 1, 4, none⟩) (by show _ ≤ w5.heap.size + 1; omega) _).setCell (p := ⟨w5.heap.size + 1, 5, none⟩) (by show _ ≤ w5.heap.size + 1; omega) _).setCell (p := ⟨w5.heap.size + 1, 6, none⟩) (by show _ ≤ w5.heap.size + 1; omega) _).setCell (p := ⟨w5.heap.size + 1, 7, none⟩) (by show _ ≤ w5.heap.size + 1; omega) _).setCell (p := ⟨w5.heap.size + 1, 8, none⟩) (by show _ ≤ w5.heap.size + 1; omega) _).setCell (p := ⟨w5.heap.size + 1, 9, none⟩) (by show _ ≤ w5.heap.size + 1; omega) _)
    have n1 : ¬ w5.heap.size = w5.heap.size + 1 := by omega
    have y0 := HY7.out.cell 0 rfl
    have g0 := HY7.out.fr 0
    have y1 := HY7.out.cell 1 rfl
    have g1 := HY7.out.fr 1
    have y2 := HY7.out.cell 2 rfl
    have g2 := HY7.out.fr 2
    have y3 := HY7.out.cell 3 rfl
    have g3 := HY7.out.fr 3
    have y4 := HY7.out.cell 4 rfl
    have g4 := HY7.out.fr 4
    have y5 := HY7.out.cell 5 rfl
    have g5 := HY7.out.fr 5
    have y6 := HY7.out.cell 6 rfl
    have g6 := HY7.out.fr 6
    have y7 := HY7.out.cell 7 rfl
    have g7 := HY7.out.fr 7
    have t0 := HZ7.out.cell 0 rfl
    have k0 := HZ7.out.fr 0
    have t1 := HZ7.out.cell 1 rfl
    have k1 := HZ7.out.fr 1
    have t2 := HZ7.out.cell 2 rfl
    have k2 := HZ7.out.fr 2
    have t3 := HZ7.out.cell 3 rfl
    have k3 := HZ7.out.fr 3
    have t4 := HZ7.out.cell 4 rfl
    have k4 := HZ7.out.fr 4
    have t5 := HZ7.out.cell 5 rfl
    have k5 := HZ7.out.fr 5
    have t6 := HZ7.out.cell 6 rfl
    have k6 := HZ7.out.fr 6
    have t7 := HZ7.out.cell 7 rfl
    have k7 := HZ7.out.fr 7
    have t8 := HZ7.out.cell 8 rfl
    have k8 := HZ7.out.fr 8
    have t9 := HZ7.out.cell 9 rfl
    have k9 := HZ7.out.fr 9
    go_upto_region 5 with fail
    rw [← hw8, ← hw9]
    clear hw8 hw9 y0 y1 y2 y3 y4 y5 y6 y7 g0 g1 g2 g3 g4 g5 g6 g7 t0 t1 t2 t3 t4 t5 t6 t7 t8 t9 k0 k1 k2 k3 k4 k5 k6 k7 k8 k9
    go_wp2_with fail
    refine (clientBegun_yes _).mono ?_
    rintro e wa ⟨rfl, hba⟩
    have HDa := hid (HD9.out.below hba)
    have HYa := hid (HY9.out.below hba)
    have p0 := HDa.out.cell 0 rfl
    have p1 := HDa.out.cell 1 rfl
    have p2 := HDa.out.cell 2 rfl
    have p3 := HDa.out.cell 3 rfl
    have p4 := HDa.out.cell 4 rfl
    have p5 := HDa.out.cell 5 rfl
    have p6 := HDa.out.cell 6 rfl
    have p7 := HDa.out.cell 7 rfl
    have t0 := HYa.out.cell 0 rfl
    have t1 := HYa.out.cell 1 rfl
    have t2 := HYa.out.cell 2 rfl
    have t3 := HYa.out.cell 3 rfl
    have t4 := HYa.out.cell 4 rfl
    have t5 := HYa.out.cell 5 rfl
    have t6 := HYa.out.cell 6 rfl
    have t7 := HYa.out.cell 7 rfl
    go_wp2_with fail
    refine (clientIs_yes d d _ _ r _ (by
      by_cases hr0 : r = 0
      · rw [if_pos hr0]; exact HNd9.out.below hba
      · rw [if_neg hr0]
        have : d = zeroN := by rw [HD.out, Cy.sdC, ← HR.out, if_pos hr0]
        rw [← this]; exact HNd9.out.below hba) (HNw9.out.below hba) (fun _ => rfl)).mono ?_
    rintro e wb ⟨rfl, hbb⟩
    have b9b := below_tr hba hbb
    have HQb := hid (HQ9.out.below b9b)
    have HZb := hid (HZ9.out.below b9b)
    clear p0 p1 p2 p3 p4 p5 p6 p7 t0 t1 t2 t3 t4 t5 t6 t7
    have p0 := HQb.out.cell 0 rfl
    have p1 := HQb.out.cell 1 rfl
    have p2 := HQb.out.cell 2 rfl
    have p3 := HQb.out.cell 3 rfl
    have p4 := HQb.out.cell 4 rfl
    have p5 := HQb.out.cell 5 rfl
    have p6 := HQb.out.cell 6 rfl
    have p7 := HQb.out.cell 7 rfl
    have p8 := HQb.out.cell 8 rfl
    have p9 := HQb.out.cell 9 rfl
    have t0 := HZb.out.cell 0 rfl
    have t1 := HZb.out.cell 1 rfl
    have t2 := HZb.out.cell 2 rfl
    have t3 := HZb.out.cell 3 rfl
    have t4 := HZb.out.cell 4 rfl
    have t5 := HZb.out.cell 5 rfl
    have t6 := HZb.out.cell 6 rfl
    have t7 := HZb.out.cell 7 rfl
    have t8 := HZb.out.cell 8 rfl
    have t9 := HZb.out.cell 9 rfl
    go_wp2_with fail
    refine (sameRequest_yes q _ _ _ (HQq9.out.below b9b) (HRw9.out.below b9b)).mono ?_
    rintro e wc ⟨rfl, hbc⟩
    go_wp2_with fail
    go_ret
    exact ⟨rfl, below_tr hb9 (below_tr b9b hbc)⟩
  · have H0 := hid h0
    have h0' : (Cy.chE c == 0) = false := by simpa using h0
    clear h0
    have HV := hid hv
    have HS := hid hs
    have HPB := hid hpb
    have HPM := hid hpm
    have HT := hid ht
    obtain ⟨vb, vm, va, rfl, lb, lm, la⟩ := hv
    obtain ⟨ab, cb, rfl, _⟩ := lb
    obtain ⟨am, cm, rfl, _⟩ := lm
    obtain ⟨aa, ca, rfl, _⟩ := la
    clear hs hpb hpm ht
    obtain ⟨wz, hwz⟩ : ∃ wz, wz = w.alloc (.cells #[.string c.who, .string c.fo, .slice ab c.base.length cb, .int .i64 c.cur, .slice am c.mine.length cm, .string c.key, .slice aa c.ask.length ca, .int .i64 c.keys] 25) := ⟨_, rfl⟩
    have hbz : Below w.heap.size w wz := by rw [hwz]; exact (Below.refl _ _).alloc (Nat.le_refl _) _
    have HX : Hid (Cs wz w.heap.size [.string c.who, .string c.fo, .slice ab c.base.length cb, .int .i64 c.cur, .slice am c.mine.length cm, .string c.key, .slice aa c.ask.length ca, .int .i64 c.keys]) := (by rw [hwz]; exact Cs.new w [.string c.who, .string c.fo, .slice ab c.base.length cb, .int .i64 c.cur, .slice am c.mine.length cm, .string c.key, .slice aa c.ask.length ca, .int .i64 c.keys] _ : Cs wz w.heap.size [.string c.who, .string c.fo, .slice ab c.base.length cb, .int .i64 c.cur, .slice am c.mine.length cm, .string c.key, .slice aa c.ask.length ca, .int .i64 c.keys])
    obtain ⟨r, hr⟩ : ∃ r, r = Cy.sdE c := ⟨_, rfl⟩
    have HR := hid hr
    obtain ⟨y, hy⟩ : ∃ y, y = Cy.sdB c := ⟨_, rfl⟩
    have HB := hid hy
    clear hr hy
    go_enter Tryz.func6, Tryz.ntmps6
    go_upto_region 1 with fail
    rw [← hwz]
    clear hwz
    have p0 := HX.out.cell 0 rfl
    have p1 := HX.out.cell 1 rfl
    have p2 := HX.out.cell 2 rfl
    have p3 := HX.out.cell 3 rfl
    have p4 := HX.out.cell 4 rfl
    have p5 := HX.out.cell 5 rfl
    have p6 := HX.out.cell 6 rfl
    have p7 := HX.out.cell 7 rfl
    go_wp2_with fail
    refine (send_any c _ _ (HV.out.below hbz) HS.out (HT.out.below hbz)).mono ?_
    rintro e w1 ⟨u1, q1, rfl, hN1, hQ1, hb1⟩
    rw [← HR.out, ← HB.out]
    obtain ⟨d, hd⟩ : ∃ d, d = Cy.sdC c := ⟨_, rfl⟩
    rw [← hd] at hN1
    have HD := hid hd
    obtain ⟨q, hq⟩ : ∃ q, q = Cy.sdQ c := ⟨_, rfl⟩
    rw [← hq] at hQ1
    have HQQ := hid hq
    clear hd hq p0 p1 p2 p3 p4 p5 p6 p7
    have HN1 := hid hN1
    have HQ1 := hid hQ1
    obtain ⟨vb, vm, va, rfl, lb1, lm1, la1⟩ := hN1
    obtain ⟨eb, fb, rfl, _⟩ := lb1
    obtain ⟨em, fm, rfl, _⟩ := lm1
    obtain ⟨ea, fa, rfl, _⟩ := la1
    obtain ⟨vq, rfl, lq⟩ := hQ1
    obtain ⟨qa, qc, rfl, _⟩ := lq
    obtain ⟨w2, hw2⟩ : ∃ w2, w2 = (w1.alloc (.cells #[.string d.who, .string d.fo, .slice eb d.base.length fb, .int .i64 d.cur, .slice em d.mine.length fm, .string d.key, .slice ea d.ask.length fa, .int .i64 d.keys] 25)).alloc (.cells #[.int .i64 q.kind, .string q.who, .string q.fo, .string q.name, .string q.key, .string q.text, .int .i64 q.num, .int .i64 q.off, .int .i64 q.base, .slice qa q.ch.length qc] 38) := ⟨_, rfl⟩
    have b12 : Below w1.heap.size w1 w2 := by rw [hw2]; exact ((Below.refl _ _).alloc (Nat.le_refl _) _).alloc (by simp) _
    have HD2 : Hid (Cs w2 w1.heap.size [.string d.who, .string d.fo, .slice eb d.base.length fb, .int .i64 d.cur, .slice em d.mine.length fm, .string d.key, .slice ea d.ask.length fa, .int .i64 d.keys]) := (by rw [hw2]; exact (Cs.new w1 [.string d.who, .string d.fo, .slice eb d.base.length fb, .int .i64 d.cur, .slice em d.mine.length fm, .string d.key, .slice ea d.ask.length fa, .int .i64 d.keys] _).below ((Below.refl _ _).alloc (Nat.le_refl _) _) : Cs w2 w1.heap.size _)
    have HQ2 : Hid (Cs w2 (w1.heap.size + 1) [.int .i64 q.kind, .string q.who, .string q.fo, .string q.name, .string q.key, .string q.text, .int .i64 q.num, .int .i64 q.off, .int .i64 q.base, .slice qa q.ch.length qc]) := (by
      have := Cs.new (w1.alloc (.cells #[.string d.who, .string d.fo, .slice eb d.base.length fb, .int .i64 d.cur, .slice em d.mine.length fm, .string d.key, .slice ea d.ask.length fa, .int .i64 d.keys] 25)) [.int .i64 q.kind, .string q.who, .string q.fo, .string q.name, .string q.key, .string q.text, .int .i64 q.num, .int .i64 q.off, .int .i64 q.base, .slice qa q.ch.length qc] 38
      rw [hw2]; simpa using this : Cs w2 (w1.heap.size + 1) [.int .i64 q.kind, .string q.who, .string q.fo, .string q.name, .string q.key, .string q.text, .int .i64 q.num, .int .i64 q.off, .int .i64 q.base, .slice qa q.ch.length qc])
    have hb01 := below_tr hbz hb1
    have hb02 := below_tr hb01 b12
    have HX2 := hid ((HX.out.below hb1).below b12)
    have p0 := HX2.out.cell 0 rfl
    have p1 := HX2.out.cell 1 rfl
    have p2 := HX2.out.cell 2 rfl
    have p3 := HX2.out.cell 3 rfl
    have p4 := HX2.out.cell 4 rfl
    have p5 := HX2.out.cell 5 rfl
    have p6 := HX2.out.cell 6 rfl
    have p7 := HX2.out.cell 7 rfl
    go_upto_region 2 with fail
    rw [← hw2]
    clear hw2
    go_wp2_with fail
    refine (rCheckClient_any c _ _ (HV.out.below hb02) HS.out HPB.out HPM.out).mono ?_
    rintro e w5 ⟨rfl, hb5⟩
    clear p0 p1 p2 p3 p4 p5 p6 p7
    obtain ⟨w6, hw6⟩ : ∃ w6, w6 = (w5.alloc (.cells #[.string ⟨#[]⟩, .string ⟨#[]⟩, .slice none 0 0, .int .i64 0, .slice none 0 0, .string ⟨#[]⟩, .slice none 0 0, .int .i64 0] 25)).alloc (.cells #[.int .i64 0, .string ⟨#[]⟩, .string ⟨#[]⟩, .string ⟨#[]⟩, .string ⟨#[]⟩, .string ⟨#[]⟩, .int .i64 0, .int .i64 0, .int .i64 0, .slice none 0 0] 38) := ⟨_, rfl⟩
    have b56 : Below w5.heap.size w5 w6 := by rw [hw6]; exact ((Below.refl _ _).alloc (Nat.le_refl _) _).alloc (by simp) _
    have HY6 : Hid (Cs w6 w5.heap.size zs) := (by rw [hw6]; exact (Cs.new w5 zs _).below ((Below.refl _ _).alloc (Nat.le_refl _) _) : Cs w6 w5.heap.size zs)
    have HZ6 : Hid (Cs w6 (w5.heap.size + 1) zq) := (by
      have := Cs.new (w5.alloc (.cells #[.string ⟨#[]⟩, .string ⟨#[]⟩, .slice none 0 0, .int .i64 0, .slice none 0 0, .string ⟨#[]⟩, .slice none 0 0, .int .i64 0] 25)) zq 38
      rw [hw6]; simpa using this : Cs w6 (w5.heap.size + 1) zq)
    have b26 := below_tr hb5 b56
    have hb06 := below_tr hb02 b26
    have HX6 := hid (HX2.out.below b26)
    have HD6 := hid (HD2.out.below b26)
    have HQ6 := hid (HQ2.out.below b26)
    have HNd6 := hid (HN1.out.below (below_tr b12 b26))
    have HQq6 := hid (HQ1.out.below (below_tr b12 b26))
    have s1 := hb1.size
    have s4 := hb5.size
    have l1 := HQ2.out.lt
    have l0 := HX.out.lt
    have HRE : Hid (r = Cy.chE c ∧ d = zeroN ∧ q = zeroQ ∧ y = false) := (by
      obtain ⟨e1, e2, e3, e4⟩ := Cy.sd_bad H0.out
      exact ⟨by rw [HR.out, e1], by rw [HD.out, e2], by rw [HQQ.out, e4], by rw [HB.out, e3]⟩ : r = Cy.chE c ∧ d = zeroN ∧ q = zeroQ ∧ y = false)
    have hyf := HRE.out.2.2.2
    rw [← HRE.out.1] at h0' ⊢
    subst hyf
    go_upto_region 5 with fail
    rw [← hw6]
    clear hw6
    go_wp2_with fail
    refine (clientBegun_yes _).mono ?_
    rintro e wa ⟨rfl, hba⟩
    have HDa := hid (HD6.out.below hba)
    have HYa := hid (HY6.out.below hba)
    have p0 := HDa.out.cell 0 rfl
    have p1 := HDa.out.cell 1 rfl
    have p2 := HDa.out.cell 2 rfl
    have p3 := HDa.out.cell 3 rfl
    have p4 := HDa.out.cell 4 rfl
    have p5 := HDa.out.cell 5 rfl
    have p6 := HDa.out.cell 6 rfl
    have p7 := HDa.out.cell 7 rfl
    have t0 := HYa.out.cell 0 rfl
    have t1 := HYa.out.cell 1 rfl
    have t2 := HYa.out.cell 2 rfl
    have t3 := HYa.out.cell 3 rfl
    have t4 := HYa.out.cell 4 rfl
    have t5 := HYa.out.cell 5 rfl
    have t6 := HYa.out.cell 6 rfl
    have t7 := HYa.out.cell 7 rfl
    go_wp2_with fail
    refine (clientIs_yes zeroN zeroN _ _ r _ (by
      have h9 : (if r = 0 then zeroN else zeroN) = zeroN := by split <;> rfl
      rw [h9, ← HRE.out.2.1]; exact HNd6.out.below hba) (ownN_zero 0 _).lies (fun _ => rfl)).mono ?_
    rintro e wb ⟨rfl, hbb⟩
    have b9b := below_tr hba hbb
    have HQb := hid (HQ6.out.below b9b)
    have HZb := hid (HZ6.out.below b9b)
    clear p0 p1 p2 p3 p4 p5 p6 p7 t0 t1 t2 t3 t4 t5 t6 t7
    have p0 := HQb.out.cell 0 rfl
    have p1 := HQb.out.cell 1 rfl
    have p2 := HQb.out.cell 2 rfl
    have p3 := HQb.out.cell 3 rfl
    have p4 := HQb.out.cell 4 rfl
    have p5 := HQb.out.cell 5 rfl
    have p6 := HQb.out.cell 6 rfl
    have p7 := HQb.out.cell 7 rfl
    have p8 := HQb.out.cell 8 rfl
    have p9 := HQb.out.cell 9 rfl
    have t0 := HZb.out.cell 0 rfl
    have t1 := HZb.out.cell 1 rfl
    have t2 := HZb.out.cell 2 rfl
    have t3 := HZb.out.cell 3 rfl
    have t4 := HZb.out.cell 4 rfl
    have t5 := HZb.out.cell 5 rfl
    have t6 := HZb.out.cell 6 rfl
    have t7 := HZb.out.cell 7 rfl
    have t8 := HZb.out.cell 8 rfl
    have t9 := HZb.out.cell 9 rfl
    go_wp2_with fail
    refine (sameRequest_yes q _ _ _ (HQq6.out.below b9b) (by rw [HRE.out.2.2.1]; exact liesQ_zero _)).mono ?_
    rintro e wc ⟨rfl, hbc⟩
    go_wp2_with fail
    go_ret
    exact ⟨rfl, below_tr hb06 (below_tr b9b hbc)⟩
end Go.Proofs.YtflekhcmipmelaaGreatDoor
