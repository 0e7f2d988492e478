/- What the law ClientSays answers: true, for every client. -/
import Derived.Test.YtflekhcmipmelaaGreatDoorCSay
import Derived.Test.YtflekhcmipmelaaGreatDoorPV
import Derived.Test.YtflekhcmipmelaaGreatDoorD5
import Derived.Deep.RegionHeld3
set_option linter.unusedSimpArgs false
set_option linter.unusedVariables false
namespace Go.Proofs.YtflekhcmipmelaaGreatDoor
open Go.RowKit


set_option maxRecDepth 100000 in
set_option maxHeartbeats 8000000 in
theorem clientSays_no (c : Cn) (v : Value) (w : World) (hv : LiesN w v c) (hs : SizedN c) (ht : PowTab w) (hn : ¬ Cy.sdE c = 0 ∨ Cy.sdB c = false ∨ ¬ c.key.size = 0) :
    Calls Tryz.prog 7 #[v] w fun e w' => e = .returned (.bool true) ∧ Below w.heap.size w w' := by
  have HNN := hid hn
  clear hn
  have HV := hid hv
  have HS := hid hs
  have HT := hid ht
  obtain ⟨vb, vm, va, rfl, lb, lm, la⟩ := hv
  have HLB := hid lb
  have HLM := hid lm
  obtain ⟨ab, cb, rfl, hlb⟩ := lb
  obtain ⟨am, cm, rfl, _⟩ := lm
  obtain ⟨aa, ca, rfl, _⟩ := la
  have HLBB := hid hlb
  clear hs ht hlb
  obtain ⟨wz, hwz⟩ : ∃ wz, wz = w.alloc (.cells #[.string c.who, .string c.fo, .slice ab c.base.length cb, .int .i64 c.cur, .slice am c.mine.length cm, .string c.key, .slice aa c.ask.length ca, .int .i64 c.keys] 25) := ⟨_, rfl⟩
  have hbz : Below w.heap.size w wz := by rw [hwz]; exact (Below.refl _ _).alloc (Nat.le_refl _) _
  have HX : Hid (Cs wz w.heap.size [.string c.who, .string c.fo, .slice ab c.base.length cb, .int .i64 c.cur, .slice am c.mine.length cm, .string c.key, .slice aa c.ask.length ca, .int .i64 c.keys]) := (by rw [hwz]; exact Cs.new w [.string c.who, .string c.fo, .slice ab c.base.length cb, .int .i64 c.cur, .slice am c.mine.length cm, .string c.key, .slice aa c.ask.length ca, .int .i64 c.keys] _ : Cs wz w.heap.size [.string c.who, .string c.fo, .slice ab c.base.length cb, .int .i64 c.cur, .slice am c.mine.length cm, .string c.key, .slice aa c.ask.length ca, .int .i64 c.keys])
  obtain ⟨r, hr⟩ : ∃ r, r = Cy.sdE c := ⟨_, rfl⟩
  have HR := hid hr
  obtain ⟨y, hy⟩ : ∃ y, y = Cy.sdB c := ⟨_, rfl⟩
  have HB := hid hy
  clear hr hy
  go_enter Tryz.func7, Tryz.ntmps7
  go_upto_region 1 with fail
  rw [← hwz]
  clear hwz
  go_wp2_with fail
  refine (clientBegun_yes _).mono ?_
  rintro e wa1 ⟨rfl, hba1⟩
  go_wp2_with fail
  refine (begun_yes _).mono ?_
  rintro e wa2 ⟨rfl, hba2⟩
  go_wp2_with fail
  refine (deltaBegun_yes _).mono ?_
  rintro e wa ⟨rfl, hba3⟩
  have hba := below_tr hba1 (below_tr hba2 hba3)
  clear hba1 hba2 hba3
  have hb0a := below_tr hbz hba
  have HXa := hid (HX.out.below hba)
  have p0 := HXa.out.cell 0 rfl
  have p1 := HXa.out.cell 1 rfl
  have p2 := HXa.out.cell 2 rfl
  have p3 := HXa.out.cell 3 rfl
  have p4 := HXa.out.cell 4 rfl
  have p5 := HXa.out.cell 5 rfl
  have p6 := HXa.out.cell 6 rfl
  have p7 := HXa.out.cell 7 rfl
  go_wp2_with fail
  refine (send_any c _ _ (HV.out.below hb0a) HS.out (HT.out.below hb0a)).mono ?_
  rintro e w1 ⟨u1, q1, rfl, hN1, hQ1, hb1⟩
  rw [← HR.out, ← HB.out]
  obtain ⟨d, hd⟩ : ∃ d, d = Cy.sdC c := ⟨_, rfl⟩
  rw [← hd] at hN1
  have HD := hid hd
  obtain ⟨q, hq⟩ : ∃ q, q = Cy.sdQ c := ⟨_, rfl⟩
  rw [← hq] at hQ1
  have HQQ := hid hq
  clear hd hq p0 p1 p2 p3 p4 p5 p6 p7
  have HN1 := hid hN1
  have HQ1 := hid hQ1
  obtain ⟨vb, vm, va, rfl, lb1, lm1, la1⟩ := hN1
  obtain ⟨eb, fb, rfl, _⟩ := lb1
  obtain ⟨em, fm, rfl, _⟩ := lm1
  obtain ⟨ea, fa, rfl, _⟩ := la1
  obtain ⟨vq, rfl, lq⟩ := hQ1
  have HLQ := hid lq
  obtain ⟨qa, qc, rfl, _⟩ := lq
  have hb01 := below_tr hb0a hb1
  obtain ⟨w2, hw2⟩ : ∃ w2, w2 = (w1.alloc (.cells #[.string d.who, .string d.fo, .slice eb d.base.length fb, .int .i64 d.cur, .slice em d.mine.length fm, .string d.key, .slice ea d.ask.length fa, .int .i64 d.keys] 25)).alloc (.cells #[.int .i64 q.kind, .string q.who, .string q.fo, .string q.name, .string q.key, .string q.text, .int .i64 q.num, .int .i64 q.off, .int .i64 q.base, .slice qa q.ch.length qc] 38) := ⟨_, rfl⟩
  have b12 : Below w1.heap.size w1 w2 := by rw [hw2]; exact ((Below.refl _ _).alloc (Nat.le_refl _) _).alloc (by simp) _
  have HD2 : Hid (Cs w2 w1.heap.size [.string d.who, .string d.fo, .slice eb d.base.length fb, .int .i64 d.cur, .slice em d.mine.length fm, .string d.key, .slice ea d.ask.length fa, .int .i64 d.keys]) := (by rw [hw2]; exact (Cs.new w1 [.string d.who, .string d.fo, .slice eb d.base.length fb, .int .i64 d.cur, .slice em d.mine.length fm, .string d.key, .slice ea d.ask.length fa, .int .i64 d.keys] _).below ((Below.refl _ _).alloc (Nat.le_refl _) _) : Cs w2 w1.heap.size _)
  have HQ2 : Hid (Cs w2 (w1.heap.size + 1) [.int .i64 q.kind, .string q.who, .string q.fo, .string q.name, .string q.key, .string q.text, .int .i64 q.num, .int .i64 q.off, .int .i64 q.base, .slice qa q.ch.length qc]) := (by
    have := Cs.new (w1.alloc (.cells #[.string d.who, .string d.fo, .slice eb d.base.length fb, .int .i64 d.cur, .slice em d.mine.length fm, .string d.key, .slice ea d.ask.length fa, .int .i64 d.keys] 25)) [.int .i64 q.kind, .string q.who, .string q.fo, .string q.name, .string q.key, .string q.text, .int .i64 q.num, .int .i64 q.off, .int .i64 q.base, .slice qa q.ch.length qc] 38
    rw [hw2]; simpa using this : Cs w2 (w1.heap.size + 1) [.int .i64 q.kind, .string q.who, .string q.fo, .string q.name, .string q.key, .string q.text, .int .i64 q.num, .int .i64 q.off, .int .i64 q.base, .slice qa q.ch.length qc])
  have hb02 := below_tr hb01 b12
  have HX2 := hid ((HXa.out.below hb1).below b12)
  go_upto_region 4 with fail
  rw [← hw2]
  clear hw2
  by_cases hr0 : r = 0
  · subst hr0
    by_cases hy0 : y = false
    · subst hy0
      go_wp2_with fail
      go_ret
      exact ⟨rfl, hb02⟩
    · obtain rfl : y = true := by cases y <;> simp_all
      obtain ⟨kb2, kb, kb3⟩ := key_no (k := c.key) (by
        rcases HNN.out with h | h | h
        · exact absurd HR.out.symm h
        · rw [← HB.out] at h; cases h
        · exact h)
      have p5 := HX2.out.cell 5 rfl
      go_wp2_with fail
      go_ret
      exact ⟨rfl, hb02⟩
  · have hr1 : (r != 0) = true := by simpa using hr0
    clear hr0
    go_wp2_with fail
    go_ret
    exact ⟨rfl, hb02⟩

set_option maxRecDepth 100000 in
set_option maxHeartbeats 8000000 in
theorem clientSays_some (c : Cn) (v : Value) (w : World) (hv : LiesN w v c) (hs : SizedN c) (ht : PowTab w) (h0 : Cy.chE c = 0) (hk : c.key.size = 0) (hn : ¬ (Sp.dfL c.base c.mine).length = 0) (hm : c.keys < 1000000) :
    Calls Tryz.prog 7 #[v] w fun e w' => e = .returned (.bool true) ∧ Below w.heap.size w w' := by
  have H0 := hid h0
  have HNN := hid hn
  have HSD := hid (Cy.sd_some h0 hk hn hm)
  have hkk := Cy.ch_keys h0
  have hln := (Cy.ch_len h0).1
  obtain ⟨kb2, kb, kb3⟩ := key_emp hk
  clear h0 hn hk
  have HV := hid hv
  have HS := hid hs
  have HT := hid ht
  obtain ⟨vb, vm, va, rfl, lb, lm, la⟩ := hv
  have HLB := hid lb
  have HLM := hid lm
  obtain ⟨ab, cb, rfl, hlb⟩ := lb
  obtain ⟨am, cm, rfl, _⟩ := lm
  obtain ⟨aa, ca, rfl, _⟩ := la
  have HLBB := hid hlb
  clear hs ht hlb
  obtain ⟨wz, hwz⟩ : ∃ wz, wz = w.alloc (.cells #[.string c.who, .string c.fo, .slice ab c.base.length cb, .int .i64 c.cur, .slice am c.mine.length cm, .string c.key, .slice aa c.ask.length ca, .int .i64 c.keys] 25) := ⟨_, rfl⟩
  have hbz : Below w.heap.size w wz := by rw [hwz]; exact (Below.refl _ _).alloc (Nat.le_refl _) _
  have HX : Hid (Cs wz w.heap.size [.string c.who, .string c.fo, .slice ab c.base.length cb, .int .i64 c.cur, .slice am c.mine.length cm, .string c.key, .slice aa c.ask.length ca, .int .i64 c.keys]) := (by rw [hwz]; exact Cs.new w [.string c.who, .string c.fo, .slice ab c.base.length cb, .int .i64 c.cur, .slice am c.mine.length cm, .string c.key, .slice aa c.ask.length ca, .int .i64 c.keys] _ : Cs wz w.heap.size [.string c.who, .string c.fo, .slice ab c.base.length cb, .int .i64 c.cur, .slice am c.mine.length cm, .string c.key, .slice aa c.ask.length ca, .int .i64 c.keys])
  obtain ⟨r, hr⟩ : ∃ r, r = Cy.sdE c := ⟨_, rfl⟩
  have HR := hid hr
  obtain ⟨y, hy⟩ : ∃ y, y = Cy.sdB c := ⟨_, rfl⟩
  have HB := hid hy
  clear hr hy
  go_enter Tryz.func7, Tryz.ntmps7
  go_upto_region 1 with fail
  rw [← hwz]
  clear hwz
  go_wp2_with fail
  refine (clientBegun_yes _).mono ?_
  rintro e wa1 ⟨rfl, hba1⟩
  go_wp2_with fail
  refine (begun_yes _).mono ?_
  rintro e wa2 ⟨rfl, hba2⟩
  go_wp2_with fail
  refine (deltaBegun_yes _).mono ?_
  rintro e wa ⟨rfl, hba3⟩
  have hba := below_tr hba1 (below_tr hba2 hba3)
  clear hba1 hba2 hba3
  have hb0a := below_tr hbz hba
  have HXa := hid (HX.out.below hba)
  have p0 := HXa.out.cell 0 rfl
  have p1 := HXa.out.cell 1 rfl
  have p2 := HXa.out.cell 2 rfl
  have p3 := HXa.out.cell 3 rfl
  have p4 := HXa.out.cell 4 rfl
  have p5 := HXa.out.cell 5 rfl
  have p6 := HXa.out.cell 6 rfl
  have p7 := HXa.out.cell 7 rfl
  go_wp2_with fail
  refine (send_any c _ _ (HV.out.below hb0a) HS.out (HT.out.below hb0a)).mono ?_
  rintro e w1 ⟨u1, q1, rfl, hN1, hQ1, hb1⟩
  rw [← HR.out, ← HB.out]
  obtain ⟨d, hd⟩ : ∃ d, d = Cy.sdC c := ⟨_, rfl⟩
  rw [← hd] at hN1
  have HD := hid hd
  obtain ⟨q, hq⟩ : ∃ q, q = Cy.sdQ c := ⟨_, rfl⟩
  rw [← hq] at hQ1
  have HQQ := hid hq
  clear hd hq p0 p1 p2 p3 p4 p5 p6 p7
  have HN1 := hid hN1
  have HQ1 := hid hQ1
  obtain ⟨vb, vm, va, rfl, lb1, lm1, la1⟩ := hN1
  obtain ⟨eb, fb, rfl, _⟩ := lb1
  obtain ⟨em, fm, rfl, _⟩ := lm1
  obtain ⟨ea, fa, rfl, _⟩ := la1
  obtain ⟨vq, rfl, lq⟩ := hQ1
  have HLQ := hid lq
  obtain ⟨qa, qc, rfl, _⟩ := lq
  have hb01 := below_tr hb0a hb1
  obtain ⟨w2, hw2⟩ : ∃ w2, w2 = (w1.alloc (.cells #[.string d.who, .string d.fo, .slice eb d.base.length fb, .int .i64 d.cur, .slice em d.mine.length fm, .string d.key, .slice ea d.ask.length fa, .int .i64 d.keys] 25)).alloc (.cells #[.int .i64 q.kind, .string q.who, .string q.fo, .string q.name, .string q.key, .string q.text, .int .i64 q.num, .int .i64 q.off, .int .i64 q.base, .slice qa q.ch.length qc] 38) := ⟨_, rfl⟩
  have b12 : Below w1.heap.size w1 w2 := by rw [hw2]; exact ((Below.refl _ _).alloc (Nat.le_refl _) _).alloc (by simp) _
  have HD2 : Hid (Cs w2 w1.heap.size [.string d.who, .string d.fo, .slice eb d.base.length fb, .int .i64 d.cur, .slice em d.mine.length fm, .string d.key, .slice ea d.ask.length fa, .int .i64 d.keys]) := (by rw [hw2]; exact (Cs.new w1 [.string d.who, .string d.fo, .slice eb d.base.length fb, .int .i64 d.cur, .slice em d.mine.length fm, .string d.key, .slice ea d.ask.length fa, .int .i64 d.keys] _).below ((Below.refl _ _).alloc (Nat.le_refl _) _) : Cs w2 w1.heap.size _)
  have HQ2 : Hid (Cs w2 (w1.heap.size + 1) [.int .i64 q.kind, .string q.who, .string q.fo, .string q.name, .string q.key, .string q.text, .int .i64 q.num, .int .i64 q.off, .int .i64 q.base, .slice qa q.ch.length qc]) := (by
    have := Cs.new (w1.alloc (.cells #[.string d.who, .string d.fo, .slice eb d.base.length fb, .int .i64 d.cur, .slice em d.mine.length fm, .string d.key, .slice ea d.ask.length fa, .int .i64 d.keys] 25)) [.int .i64 q.kind, .string q.who, .string q.fo, .string q.name, .string q.key, .string q.text, .int .i64 q.num, .int .i64 q.off, .int .i64 q.base, .slice qa q.ch.length qc] 38
    rw [hw2]; simpa using this : Cs w2 (w1.heap.size + 1) [.int .i64 q.kind, .string q.who, .string q.fo, .string q.name, .string q.key, .string q.text, .int .i64 q.num, .int .i64 q.off, .int .i64 q.base, .slice qa q.ch.length qc])
  have hb02 := below_tr hb01 b12
  have HX2 := hid ((HXa.out.below hb1).below b12)
  go_upto_region 4 with fail
  rw [← hw2]
  clear hw2
  obtain rfl : r = 0 := by rw [HR.out]; exact HSD.out.1
  obtain rfl : y = true := by rw [HB.out]; exact HSD.out.2.2.1
  have HDE : Hid (d.keys = c.keys + 1 ∧ d.key = q.key ∧ q.ch = Cy.akL c) := (by rw [HD.out, HQQ.out, HSD.out.2.1, HSD.out.2.2.2]; exact ⟨rfl, rfl, rfl⟩ : d.keys = c.keys + 1 ∧ d.key = q.key ∧ q.ch = Cy.akL c)
  have p5 := HX2.out.cell 5 rfl
  go_wp2_with fail
  clear p5
  go_loopw [7] (fun x wr => ∃ i : Nat, i ≤ c.base.length ∧ x = .int .i64 i ∧ Hid (∀ j (h : j < c.base.length), j < i → c.base[j].ver ≤ c.cur) ∧ Below w2.heap.size w2 wr) (fun x _ => c.base.length - (intOf x).toNat)
  case atStart => exact ⟨0, Nat.zero_le _, rfl, (fun j h hj => absurd hj (Nat.not_lt_zero _) : ∀ j (h : j < c.base.length), j < 0 → c.base[j].ver ≤ c.cur), Below.refl _ _⟩
  case round =>
    obtain ⟨i, hi, rfl, HW, hbr⟩ := hrel
    have HXr := hid (HX2.out.below hbr)
    have hb0r := below_tr hb02 hbr
    by_cases hil : i < c.base.length
    · have hili : (i : Int) < c.base.length := by omega
      have hi0 : (0 : Int) ≤ (i : Int) := by omega
      obtain ⟨b1, o1, hab, hb1l, he1⟩ := HLBB.out.2.2 i hil
      have ev := ((Below.trans hb0r (Below.refl _ _)).cell (p := ⟨b1, o1 + i * 4 + 3, none⟩) hb1l).trans he1.2.2.2
      subst hab
      obtain ⟨ver, hver⟩ : ∃ ver, ver = c.base[i].ver := ⟨_, rfl⟩
      rw [← hver] at ev
      have HVE := hid hver
      clear hver he1
      have p2 := HXr.out.cell 2 rfl
      have p3 := HXr.out.cell 3 rfl
      by_cases hgt : c.cur < ver
      · go_upto_region 9 with fail
        go_region_held3 (fun W => W.cell? ⟨w.heap.size, 2, none⟩ = some (.slice (some ⟨b1, o1, none⟩) c.base.length cb) ∧ W.cell? ⟨w.heap.size, 3, none⟩ = some (.int .i64 c.cur) ∧ W.cell? ⟨b1, o1 + i * 4 + 3, none⟩ = some (.int .i64 ver)) (go_keep) (fail)
        all_goals
          go_wp2_with fail
          go_ret
          exact ⟨rfl, hb0r.drew⟩
      · go_upto_region 9 with fail
        go_region_held3 (fun W => W.cell? ⟨w.heap.size, 2, none⟩ = some (.slice (some ⟨b1, o1, none⟩) c.base.length cb) ∧ W.cell? ⟨w.heap.size, 3, none⟩ = some (.int .i64 c.cur) ∧ W.cell? ⟨b1, o1 + i * 4 + 3, none⟩ = some (.int .i64 ver)) (go_keep) (fail)
        all_goals
          go_wp2_with fail
          go_roundw
          case rel => exact ⟨i + 1, by omega, rfl, (fun j h hj => by
            by_cases e : j = i
            · subst e; rw [← HVE.out]; omega
            · exact HW.out j h (by omega) : ∀ j (h : j < c.base.length), j < i + 1 → c.base[j].ver ≤ c.cur), hbr.drew⟩
          case measure => simp [intOf]; omega
    · have hili : ¬ (i : Int) < c.base.length := by omega
      have HVER : Hid (∀ e ∈ c.base, e.ver ≤ c.cur) := (fun e he => by
        obtain ⟨j, hj, rfl⟩ := List.getElem_of_mem he
        exact HW.out j hj (by omega) : ∀ e ∈ c.base, e.ver ≤ c.cur)
      have HDr := hid (HD2.out.below hbr)
      have HQr := hid (HQ2.out.below hbr)
      have p2 := HXr.out.cell 2 rfl
      have p3 := HXr.out.cell 3 rfl
      have t9 := HQr.out.cell 9 rfl
      go_wp2_with fail
      refine (tall_any c.base _ q.ch _ (c.cur + 1) _ (HLB.out.below hb0r) HS.out.base (HLQ.out.below (below_tr b12 hbr)) (by rw [HDE.out.2.2]; exact Cy.ak_sized H0.out)).mono ?_
      rintro e w3 ⟨u3, rfl, hl3, hb3⟩
      have b23 := below_tr hbr hb3
      have hb03 := below_tr hb02 b23
      have HX3 := hid (HXr.out.below hb3)
      have HD3 := hid (HDr.out.below hb3)
      have HQ3 := hid (HQr.out.below hb3)
      clear p2 p3 t9
      have p3 := HX3.out.cell 3 rfl
      have p4 := HX3.out.cell 4 rfl
      have p7 := HX3.out.cell 7 rfl
      by_cases hc : c.cur = 1000000
      · have HE : Hid (Pp.allE c.base q.ch (c.cur + 1) = 3) := (by rw [HDE.out.2.2]; exact Cy.says_max H0.out hc HNN.out : Pp.allE c.base q.ch (c.cur + 1) = 3)
        have hcb : (c.cur == 1000000) = true := by simpa using hc
        rw [HE.out]
        clear hc
        go_wp2_with fail
        go_ret
        exact ⟨rfl, hb03⟩
      · have HE := hid (Cy.says H0.out (by omega) HVER.out)
        have hcb : (c.cur == 1000000) = false := by simpa using hc
        rw [show Pp.allE c.base q.ch (c.cur + 1) = 0 from by rw [HDE.out.2.2]; exact HE.out.1, show Pp.allN c.base q.ch (c.cur + 1) = q.ch.length from by rw [HDE.out.2.2]; exact HE.out.2.1]
        obtain ⟨T, hT⟩ : ∃ T, T = Pp.allR c.base q.ch (c.cur + 1) := ⟨_, rfl⟩
        rw [← hT] at hl3
        have HTE : Hid (Pp.Good T ∧ (Sp.sameB T c.mine = true ∨ q.ch.length = 20)) := (by rw [hT, HDE.out.2.2]; exact ⟨HE.out.2.2.1, HE.out.2.2.2⟩ : Pp.Good T ∧ (Sp.sameB T c.mine = true ∨ q.ch.length = 20))
        have HL3 := hid hl3
        obtain ⟨ta, tc, rfl, _⟩ := hl3
        clear hc hT
        have hdk : d.keys = c.keys + 1 := HDE.out.1
        have hqk : (d.key.toList == q.key.toList) = true := by rw [HDE.out.2.1]; simp
        have hwr : IntKind.i64.wrap (c.keys + 1) = c.keys + 1 := by rw [IntKind.wrap_i64]; omega
        have d7 : w3.cell? ⟨w1.heap.size, 7, none⟩ = some (.int .i64 (c.keys + 1)) := by rw [← hdk]; exact HD3.out.cell 7 rfl
        clear hdk
        have d5 := HD3.out.cell 5 rfl
        have t4 := HQ3.out.cell 4 rfl
        have t9 := HQ3.out.cell 9 rfl
        go_wp2_with fail
        refine (same_any T c.mine _ _ _ HL3.out (HLM.out.below hb03) (Pp.good_sized HTE.out.1) HS.out.mine).mono ?_
        rintro e w4 ⟨rfl, hb4⟩
        rw [show Sp.dfE T c.mine = 0 from by rw [Sp.dfE, if_pos ((Pp.good_iff _).2 HTE.out.1)]; exact (Cy.ch_parts H0.out).2.2.1]
        have HQ4 := hid (HQ3.out.below hb4)
        clear t4 t9 d5 d7 p3 p4 p7
        have t9 := HQ4.out.cell 9 rfl
        have hb04 := below_tr hb03 hb4
        cases hsm : Sp.sameB T c.mine with
        | true =>
          go_wp2_with fail
          go_ret
          exact ⟨rfl, hb04⟩
        | false =>
          have h20 : ((q.ch.length : Int) == 20) = true := by
            rcases HTE.out.2 with h | h
            · rw [hsm] at h; cases h
            · rw [h]; rfl
          go_wp2_with fail
          go_ret
          exact ⟨rfl, hb04⟩
theorem clientSays_walk (c : Cn) (v : Value) (w : World) (hv : LiesN w v c) (hs : SizedN c) (ht : PowTab w) :
    Calls Tryz.prog 7 #[v] w fun e w' => e = .returned (.bool true) ∧ Below w.heap.size w w' := by
  by_cases h0 : Cy.chE c = 0
  · by_cases hk : c.key.size = 0
    · by_cases hn : (Sp.dfL c.base c.mine).length = 0
      · exact clientSays_no c v w hv hs ht (Or.inr (Or.inl (Cy.sd_none h0 hk hn).2.2.1))
      · by_cases hm : c.keys < 1000000
        · exact clientSays_some c v w hv hs ht h0 hk hn hm
        · exact clientSays_no c v w hv hs ht (Or.inl (by rw [(Cy.sd_full h0 hk hn hm).1]; decide))
    · exact clientSays_no c v w hv hs ht (Or.inr (Or.inr hk))
  · exact clientSays_no c v w hv hs ht (Or.inl (by rw [(Cy.sd_bad h0).1]; exact h0))
end Go.Proofs.YtflekhcmipmelaaGreatDoor
