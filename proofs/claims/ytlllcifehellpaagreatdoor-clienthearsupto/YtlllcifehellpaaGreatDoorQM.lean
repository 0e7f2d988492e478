/- The reference's SameClient and the laws' clientIs, of the same clients. What the reference's CheckClient answers. -/
import Derived.Test.YtlllcifehellpaaGreatDoorPJ
import Derived.Test.YtlllcifehellpaaGreatDoorQS
import Derived.Test.YtlllcifehellpaaGreatDoorPO
import Derived.Test.YtlllcifehellpaaGreatDoorT13
set_option linter.unusedSimpArgs false
set_option linter.unusedVariables false
namespace Go.Proofs.YtlllcifehellpaaGreatDoor
open Go.RowKit

set_option maxRecDepth 100000 in
set_option maxHeartbeats 4000000 in
theorem sameClient_yes (c : Cn) (v u : Value) (w : World) (hv : LiesN w v c) (hu : LiesN w u c) :
    Calls Tryz.prog 21 #[v, u] w fun e w' => e = .returned (.bool true) ∧ Below w.heap.size w w' := by
  obtain ⟨vb, vm, va, rfl, lb, lm, la⟩ := hv
  obtain ⟨ub, um, ua, rfl, lb', lm', la'⟩ := hu
  have HB := hid lb
  have HM := hid lm
  have HA := hid la
  have HB' := hid lb'
  have HM' := hid lm'
  have HA' := hid la'
  obtain ⟨ab, cb, rfl, _⟩ := lb
  obtain ⟨am, cm, rfl, _⟩ := lm
  obtain ⟨aa, ca, rfl, _⟩ := la
  obtain ⟨ab', cb', rfl, _⟩ := lb'
  obtain ⟨am', cm', rfl, _⟩ := lm'
  obtain ⟨aa', ca', rfl, _⟩ := la'
  obtain ⟨wz, hwz⟩ : ∃ wz, wz = (w.alloc (.cells #[.string c.who, .string c.fo, .slice ab c.base.length cb, .int .i64 c.cur, .slice am c.mine.length cm, .string c.key, .slice aa c.ask.length ca, .int .i64 c.keys] 25)).alloc (.cells #[.string c.who, .string c.fo, .slice ab' c.base.length cb', .int .i64 c.cur, .slice am' c.mine.length cm', .string c.key, .slice aa' c.ask.length ca', .int .i64 c.keys] 25) := ⟨_, rfl⟩
  have hbz : Below w.heap.size w wz := by rw [hwz]; exact ((Below.refl _ _).alloc (Nat.le_refl _) _).alloc (by simp) _
  have HX : Hid (Cs wz w.heap.size [.string c.who, .string c.fo, .slice ab c.base.length cb, .int .i64 c.cur, .slice am c.mine.length cm, .string c.key, .slice aa c.ask.length ca, .int .i64 c.keys]) := (by rw [hwz]; exact (Cs.new w [.string c.who, .string c.fo, .slice ab c.base.length cb, .int .i64 c.cur, .slice am c.mine.length cm, .string c.key, .slice aa c.ask.length ca, .int .i64 c.keys] _).below ((Below.refl _ _).alloc (Nat.le_refl _) _) : Cs wz w.heap.size _)
  have HY : Hid (Cs wz (w.heap.size + 1) [.string c.who, .string c.fo, .slice ab' c.base.length cb', .int .i64 c.cur, .slice am' c.mine.length cm', .string c.key, .slice aa' c.ask.length ca', .int .i64 c.keys]) := (by
    have := Cs.new (w.alloc (.cells #[.string c.who, .string c.fo, .slice ab c.base.length cb, .int .i64 c.cur, .slice am c.mine.length cm, .string c.key, .slice aa c.ask.length ca, .int .i64 c.keys] 25)) [.string c.who, .string c.fo, .slice ab' c.base.length cb', .int .i64 c.cur, .slice am' c.mine.length cm', .string c.key, .slice aa' c.ask.length ca', .int .i64 c.keys] 25
    rw [hwz]; simpa using this : Cs wz (w.heap.size + 1) _)
  go_enter Tryz.func21, Tryz.ntmps21
  go_wp2_with fail
  rw [← hwz]
  clear hwz
  refine (same_yes c.base _ _ _ (HB.out.below hbz) (HB'.out.below hbz)).mono ?_
  rintro e w1 ⟨rfl, hb1⟩
  have hb01 := below_tr hbz hb1
  have HX1 := hid (HX.out.below hb1)
  have HY1 := hid (HY.out.below hb1)
  have a3 := HX1.out.cell 3 rfl
  have a4 := HX1.out.cell 4 rfl
  have b3 := HY1.out.cell 3 rfl
  have b4 := HY1.out.cell 4 rfl
  go_wp2_with fail
  refine (same_yes c.mine _ _ _ (HM.out.below hb01) (HM'.out.below hb01)).mono ?_
  rintro e w2 ⟨rfl, hb2⟩
  have hb02 := below_tr hb01 hb2
  have HX2 := hid (HX1.out.below hb2)
  have HY2 := hid (HY1.out.below hb2)
  clear a3 a4 b3 b4
  have a5 := HX2.out.cell 5 rfl
  have a6 := HX2.out.cell 6 rfl
  have b5 := HY2.out.cell 5 rfl
  have b6 := HY2.out.cell 6 rfl
  go_wp2_with fail
  refine (sameChg_yes c.ask _ _ _ (HA.out.below hb02) (HA'.out.below hb02)).mono ?_
  rintro e w3 ⟨rfl, hb3⟩
  have hb03 := below_tr hb02 hb3
  have HX3 := hid (HX2.out.below hb3)
  have HY3 := hid (HY2.out.below hb3)
  clear a5 a6 b5 b6
  have a7 := HX3.out.cell 7 rfl
  have b7 := HY3.out.cell 7 rfl
  go_wp2_with fail
  go_ret
  exact ⟨rfl, hb03⟩
set_option maxRecDepth 100000 in
set_option maxHeartbeats 4000000 in
theorem clientIs_yes (c d : Cn) (v u : Value) (r : Int) (w : World) (hv : LiesN w v (if r = 0 then c else zeroN)) (hu : LiesN w u d) (hd : r = 0 → d = c) :
    Calls Tryz.prog 8 #[v, .int .i64 r, .int .i64 r, u] w fun e w' => e = .returned (.bool true) ∧ Below w.heap.size w w' := by
  obtain ⟨x, hx⟩ : ∃ x, x = (if r = 0 then c else zeroN) := ⟨_, rfl⟩
  rw [← hx] at hv
  have HV := hid hv
  have HU := hid hu
  have HX0 := hid hx
  have HD := hid hd
  obtain ⟨vb, vm, va, rfl, lb, lm, la⟩ := hv
  obtain ⟨ub, um, ua, rfl, lb', lm', la'⟩ := hu
  obtain ⟨axb, cxb, rfl, _⟩ := lb
  obtain ⟨axm, cxm, rfl, _⟩ := lm
  obtain ⟨axa, cxa, rfl, _⟩ := la
  obtain ⟨adb, cdb, rfl, _⟩ := lb'
  obtain ⟨adm, cdm, rfl, _⟩ := lm'
  obtain ⟨ada, cda, rfl, _⟩ := la'
  clear hx hd
  obtain ⟨wz, hwz⟩ : ∃ wz, wz = (w.alloc (.cells #[.string x.who, .string x.fo, .slice axb x.base.length cxb, .int .i64 x.cur, .slice axm x.mine.length cxm, .string x.key, .slice axa x.ask.length cxa, .int .i64 x.keys] 25)).alloc (.cells #[.string d.who, .string d.fo, .slice adb d.base.length cdb, .int .i64 d.cur, .slice adm d.mine.length cdm, .string d.key, .slice ada d.ask.length cda, .int .i64 d.keys] 25) := ⟨_, rfl⟩
  have hbz : Below w.heap.size w wz := by rw [hwz]; exact ((Below.refl _ _).alloc (Nat.le_refl _) _).alloc (by simp) _
  by_cases h0 : r = 0
  · have HE : Hid (x = d) := (by rw [HX0.out, if_pos h0]; exact (HD.out h0).symm : x = d)
    subst h0
    clear HX0 HD
    go_enter Tryz.func8, Tryz.ntmps8
    go_wp2_with fail
    rw [← hwz]
    clear hwz
    refine (sameClient_yes d _ _ _ (by rw [← HE.out]; exact HV.out.below hbz) (HU.out.below hbz)).mono ?_
    rintro e w1 ⟨rfl, hb1⟩
    have hb01 := below_tr hbz hb1
    go_wp2_with fail
    go_ret
    exact ⟨rfl, hb01⟩
  · have HE : Hid (x = zeroN) := (by rw [HX0.out, if_neg h0] : x = zeroN)
    have h0' : (r != 0) = true := by simpa using h0
    clear HX0 HD h0
    go_enter Tryz.func8, Tryz.ntmps8
    go_wp2_with fail
    have hbq : ∀ o : Obj, Below w.heap.size w ((w.alloc (.cells #[.string x.who, .string x.fo, .slice axb x.base.length cxb, .int .i64 x.cur, .slice axm x.mine.length cxm, .string x.key, .slice axa x.ask.length cxa, .int .i64 x.keys] 25)).alloc o) := fun o => ((Below.refl _ _).alloc (Nat.le_refl _) _).alloc (by simp) _
    refine (sameClient_yes zeroN _ _ _ (by rw [← HE.out]; exact HV.out.below (hbq _)) (ownN_zero 0 _).lies).mono ?_
    rintro e w1 ⟨rfl, hb1⟩
    have hb01 := below_tr (hbq _) hb1
    go_wp2_with fail
    go_ret
    exact ⟨rfl, hb01⟩
end Go.Proofs.YtlllcifehellpaaGreatDoor
set_option linter.unusedSimpArgs false
set_option linter.unusedVariables false
namespace Go.Proofs.YtlllcifehellpaaGreatDoor
open Go.RowKit

namespace Cy
theorem nms2 (a b : ByteArray) : Pp.nmsE [a, b] = if Pp.nameB a.data.toList = true ∧ Pp.nameB b.data.toList = true then 0 else 1 := by
  rw [Pp.nmsE]
  simp only [List.all_cons, List.all_nil, Bool.and_true, Bool.and_eq_true]
theorem cn_name {a b : ByteArray} (h : ¬ (Pp.nameB a.data.toList = true ∧ Pp.nameB b.data.toList = true)) : cnE a b = 1 := by
  have h1 : Pp.nmsE [a, b] = 1 := by rw [nms2, if_neg h]
  rw [cnE, h1, if_pos (by decide)]
theorem cn_key {a b : ByteArray} (h1 : Pp.nameB a.data.toList = true) (h2 : Pp.nameB b.data.toList = true) (h : Pp.keyB a.data.toList = false) : cnE a b = 1 := by
  have h0 : Pp.nmsE [a, b] = 0 := by rw [nms2, if_pos ⟨h1, h2⟩]
  rw [cnE, h0, if_neg (by decide), Pp.keyE_no h]
  split <;> rfl
theorem cn_long {a b : ByteArray} (h1 : Pp.nameB a.data.toList = true) (h2 : Pp.nameB b.data.toList = true) (h : 10 < a.size) : cnE a b = 1 := by
  have h0 : Pp.nmsE [a, b] = 0 := by rw [nms2, if_pos ⟨h1, h2⟩]
  rw [cnE, h0, if_neg (by decide), if_pos h]
theorem cn_ok {a b : ByteArray} (h1 : Pp.nameB a.data.toList = true) (h2 : Pp.nameB b.data.toList = true) (h3 : Pp.keyB a.data.toList = true) (h : ¬ 10 < a.size) : cnE a b = 0 := by
  have h0 : Pp.nmsE [a, b] = 0 := by rw [nms2, if_pos ⟨h1, h2⟩]
  rw [cnE, h0, if_neg (by decide), if_neg h, Pp.keyE_yes h3]
theorem rg_cur {c : Cn} (h : (decide (0 ≤ c.cur) && decide (c.cur ≤ 1000000)) = false) : rgB c = true := by
  simp only [rgB, Bool.or_eq_true, decide_eq_true_eq]
  simp only [Bool.and_eq_false_iff, decide_eq_false_iff_not] at h
  omega
theorem rg_keys {c : Cn} (h : (decide (0 ≤ c.keys) && decide (c.keys ≤ 1000000)) = false) : rgB c = true := by
  simp only [rgB, Bool.or_eq_true, decide_eq_true_eq]
  simp only [Bool.and_eq_false_iff, decide_eq_false_iff_not] at h
  omega
theorem rg_ok {c : Cn} (h : (decide (0 ≤ c.cur) && decide (c.cur ≤ 1000000)) = true) (h2 : (decide (0 ≤ c.keys) && decide (c.keys ≤ 1000000)) = true) : rgB c = false := by
  simp only [Bool.and_eq_true, decide_eq_true_eq] at h h2
  simp only [rgB, Bool.or_eq_false_iff, decide_eq_false_iff_not]
  omega
end Cy

set_option maxHeartbeats 400000 in
theorem isCursor_any (n : Int) (w : World) : Calls Tryz.prog 15 #[.int .i64 n] w fun e w' => e = .returned (.bool (decide (0 ≤ n) && decide (n ≤ 1000000))) ∧ w' = w := by
  by_cases h1 : 0 ≤ n
  · by_cases h2 : n ≤ 1000000
    · have HE : Hid ((decide (0 ≤ n) && decide (n ≤ 1000000)) = true) := (by simp [h1, h2] : (decide (0 ≤ n) && decide (n ≤ 1000000)) = true)
      rw [HE.out]
      go_enter Tryz.func15, Tryz.ntmps15
      go_wp2_with fail
      go_ret
      exact ⟨rfl, rfl⟩
    · have HE : Hid ((decide (0 ≤ n) && decide (n ≤ 1000000)) = false) := (by simp [h2] : (decide (0 ≤ n) && decide (n ≤ 1000000)) = false)
      rw [HE.out]
      go_enter Tryz.func15, Tryz.ntmps15
      go_wp2_with fail
      go_ret
      exact ⟨rfl, rfl⟩
  · have HE : Hid ((decide (0 ≤ n) && decide (n ≤ 1000000)) = false) := (by simp [h1] : (decide (0 ≤ n) && decide (n ≤ 1000000)) = false)
    have h1' : decide (0 ≤ n) = false := decide_eq_false h1
    rw [HE.out]
    go_enter Tryz.func15, Tryz.ntmps15
    go_wp2_with fail
    go_ret
    exact ⟨rfl, rfl⟩

set_option maxRecDepth 100000 in
set_option maxHeartbeats 4000000 in
theorem rCheckClient_any (c : Cn) (v : Value) (w : World) (hv : LiesN w v c) (hs : SizedN c) (hpb : ∀ e ∈ c.base, e.path.size ≤ 1000000000) (hpm : ∀ e ∈ c.mine, e.path.size ≤ 1000000000) :
    Calls Tryz.prog 5 #[v] w fun e w' => e = .returned (.int .i64 (Cy.chE c)) ∧ Below w.heap.size w w' := by
  obtain ⟨vb, vm, va, rfl, hb, hm, ha⟩ := hv
  have HB := hid hb
  have HM := hid hm
  have HPB := hid hpb
  have HPM := hid hpm
  obtain ⟨ab, cb, rfl, _⟩ := hb
  obtain ⟨am, cm, rfl, _⟩ := hm
  obtain ⟨aa, ca, rfl, _, hal, _⟩ := ha
  obtain ⟨r, hr⟩ : ∃ r, r = Cy.chE c := ⟨_, rfl⟩
  rw [← hr]
  have HR := hid hr
  have hwho := hs.who
  have hfo := hs.fo
  have hkey := hs.key
  clear hr hs hpb hpm
  obtain ⟨wz, hwz⟩ : ∃ wz, wz = w.alloc (.cells #[.string c.who, .string c.fo, .slice ab c.base.length cb, .int .i64 c.cur, .slice am c.mine.length cm, .string c.key, .slice aa c.ask.length ca, .int .i64 c.keys] 25) := ⟨_, rfl⟩
  have hbz : Below w.heap.size w wz := by rw [hwz]; exact (Below.refl _ _).alloc (Nat.le_refl _) _
  have HX : Hid (Cs wz w.heap.size [.string c.who, .string c.fo, .slice ab c.base.length cb, .int .i64 c.cur, .slice am c.mine.length cm, .string c.key, .slice aa c.ask.length ca, .int .i64 c.keys]) := (by rw [hwz]; exact Cs.new _ [.string c.who, .string c.fo, .slice ab c.base.length cb, .int .i64 c.cur, .slice am c.mine.length cm, .string c.key, .slice aa c.ask.length ca, .int .i64 c.keys] _ : Cs wz w.heap.size [.string c.who, .string c.fo, .slice ab c.base.length cb, .int .i64 c.cur, .slice am c.mine.length cm, .string c.key, .slice aa c.ask.length ca, .int .i64 c.keys])
  have bad : ∀ {n : Int}, Cy.cnE c.who c.fo = n → ¬ n = 0 → Hid (r = n) := fun h1 h2 => (by rw [HR.out, Cy.chE, if_pos (by rw [h1]; exact h2), h1] : r = _)
  go_enter Tryz.func5, Tryz.ntmps5
  go_wp2_with fail
  rw [← hwz]
  clear hwz
  refine (rIsName_any c.who _ hwho).mono ?_
  rintro e w1 ⟨rfl, rfl⟩
  have x0 := HX.out.cell 0 rfl
  have x1 := HX.out.cell 1 rfl
  cases n1 : Pp.nameB c.who.data.toList with
  | false =>
    have HE := bad (Cy.cn_name (fun h => by rw [n1] at h; cases h.1)) (by decide)
    clear bad
    go_wp2_with fail
    go_ret
    exact ⟨by rw [HE.out]; rfl, hbz⟩
  | true =>
    go_wp2_with fail
    refine (rIsName_any c.fo _ hfo).mono ?_
    rintro e w1 ⟨rfl, rfl⟩
    cases n2 : Pp.nameB c.fo.data.toList with
    | false =>
      have HE := bad (Cy.cn_name (fun h => by rw [n2] at h; cases h.2)) (by decide)
      clear bad
      go_wp2_with fail
      go_ret
      exact ⟨by rw [HE.out]; rfl, hbz⟩
    | true =>
      go_wp2_with fail
      refine (isKey_any c.who _ (by unfold maxLen; omega)).mono ?_
      rintro e w1 ⟨rfl, rfl⟩
      cases n3 : Pp.keyB c.who.data.toList with
      | false =>
        have HE := bad (Cy.cn_key n1 n2 n3) (by decide)
        clear bad
        go_wp2_with fail
        go_ret
        exact ⟨by rw [HE.out]; rfl, hbz⟩
      | true =>
        by_cases n4 : 10 < c.who.size
        · have HE := bad (Cy.cn_long n1 n2 n4) (by decide)
          have n4' : 10 < (c.who.size : Int) := by omega
          clear bad
          go_wp2_with fail
          go_ret
          exact ⟨by rw [HE.out]; rfl, hbz⟩
        · have HN := hid (Cy.cn_ok n1 n2 n3 n4)
          have n4' : decide (10 < (c.who.size : Int)) = false := decide_eq_false (by omega)
          clear bad
          have x2 := HX.out.cell 2 rfl
          go_wp2_with fail
          refine (rCheckTree_any c.base _ _ (HB.out.below hbz) HPB.out).mono ?_
          rintro e w2 ⟨rfl, hb2⟩
          have hb02 := below_tr hbz hb2
          have HX2 := hid (HX.out.below hb2)
          clear x0 x1 x2 n1 n2 n3 n4 n4'
          by_cases hE : Pp.treeE c.base = 0
          · have HE0 := hid hE
            rw [hE]
            clear hE
            have x4 := HX2.out.cell 4 rfl
            go_wp2_with fail
            refine (rCheckTree_any c.mine _ _ (HM.out.below hb02) HPM.out).mono ?_
            rintro e w3 ⟨rfl, hb3⟩
            have hb03 := below_tr hb02 hb3
            have HX3 := hid (HX2.out.below hb3)
            clear x4
            by_cases hF : Pp.treeE c.mine = 0
            · have HRR : Hid (r = if Cy.rgB c = true then 3 else Cy.caE c.key c.ask.length) := (by rw [HR.out, Cy.chE, if_neg (fun x => x HN.out), if_neg (fun x => x HE0.out), if_neg (fun x => x hF)] : r = if Cy.rgB c = true then 3 else Cy.caE c.key c.ask.length)
              rw [hF]
              clear hF
              have x3 := HX3.out.cell 3 rfl
              have x5 := HX3.out.cell 5 rfl
              have x6 := HX3.out.cell 6 rfl
              have x7 := HX3.out.cell 7 rfl
              go_wp2_with fail
              refine (isCursor_any c.cur _).mono ?_
              rintro e w4 ⟨rfl, rfl⟩
              cases g1 : (decide (0 ≤ c.cur) && decide (c.cur ≤ 1000000)) with
              | false =>
                have HE : Hid (r = 3) := (by rw [HRR.out, if_pos (Cy.rg_cur g1)] : r = 3)
                go_wp2_with fail
                go_ret
                exact ⟨by rw [HE.out]; rfl, hb03⟩
              | true =>
                go_wp2_with fail
                refine (isCursor_any c.keys _).mono ?_
                rintro e w4 ⟨rfl, rfl⟩
                cases g2 : (decide (0 ≤ c.keys) && decide (c.keys ≤ 1000000)) with
                | false =>
                  have HE : Hid (r = 3) := (by rw [HRR.out, if_pos (Cy.rg_keys g2)] : r = 3)
                  go_wp2_with fail
                  go_ret
                  exact ⟨by rw [HE.out]; rfl, hb03⟩
                | true =>
                  have HRC : Hid (r = Cy.caE c.key c.ask.length) := (by rw [HRR.out, if_neg (by rw [Cy.rg_ok g1 g2]; decide)] : r = Cy.caE c.key c.ask.length)
                  clear HRR g1 g2
                  obtain ⟨n, hn⟩ : ∃ n, n = c.ask.length := ⟨_, rfl⟩
                  rw [← hn] at HRC x6
                  clear hn
                  by_cases k0 : c.key.size = 0
                  · have ke : c.key = ⟨#[]⟩ := by
                      cases hck : c.key with
                      | mk d => rw [hck] at k0; have h : d.size = 0 := k0; rw [Array.size_eq_zero_iff.1 h]
                    by_cases n0 : n = 0
                    · have HE : Hid (r = 0) := (by rw [HRC.out, ke, n0]; rfl : r = 0)
                      rw [ke] at x5
                      rw [n0] at x6
                      go_wp2_with fail
                      go_ret
                      exact ⟨by rw [HE.out]; rfl, hb03⟩
                    · have HE : Hid (r = 4) := (by rw [HRC.out, Cy.caE, if_neg (fun h => h.1 k0), if_pos (by rw [decide_eq_true k0]; simp [n0])] : r = 4)
                      have n1 : 0 < (n : Int) := by omega
                      rw [ke] at x5
                      go_wp2_with fail
                      go_ret
                      exact ⟨by rw [HE.out]; rfl, hb03⟩
                  · have kl : ¬ c.key.toList = [] := by
                      rw [Lib.toList_data]
                      intro e
                      have : c.key.data.toList.length = c.key.size := Array.length_toList
                      rw [e] at this
                      exact k0 this.symm
                    have kb : (c.key.toList == ([] : List UInt8)) = false := beq_eq_false_iff_ne.2 kl
                    have kb2 : (c.key.toList == (⟨#[]⟩ : ByteArray).toList) = false := by rw [Lib.toList_data ⟨#[]⟩]; exact kb
                    have kb3 : (c.key.toList != (⟨#[]⟩ : ByteArray).toList) = true := by rw [bne, kb2]; rfl
                    go_wp2_with fail
                    refine (isKey_any c.key _ (by unfold maxLen; omega)).mono ?_
                    rintro e w4 ⟨rfl, rfl⟩
                    cases hK : Pp.keyB c.key.data.toList with
                    | false =>
                      have HE : Hid (r = 1) := (by rw [HRC.out, Cy.caE, if_pos ⟨k0, by rw [Pp.keyE_no hK]; decide⟩] : r = 1)
                      go_wp2_with fail
                      go_ret
                      exact ⟨by rw [HE.out]; rfl, hb03⟩
                    | true =>
                      have hc : ¬ (¬ c.key.size = 0 ∧ ¬ Pp.keyE c.key.data.toList = 0) := fun h => h.2 (Pp.keyE_yes hK)
                      by_cases n0 : n = 0
                      · have HE : Hid (r = 4) := (by rw [HRC.out, Cy.caE, if_neg hc, if_pos (by simp [k0, n0])] : r = 4)
                        rw [n0] at x6
                        clear hc
                        go_wp2_with fail
                        go_ret
                        exact ⟨by rw [HE.out]; rfl, hb03⟩
                      · have n1 : ((n : Int) == 0) = false := by simpa using (by omega : ¬ (n : Int) = 0)
                        have hd : ¬ decide (c.key.size = 0) ≠ decide (n = 0) := by simp [k0, n0]
                        by_cases h20 : 20 < n
                        · have HE : Hid (r = 2) := (by rw [HRC.out, Cy.caE, if_neg hc, if_neg hd, if_pos h20] : r = 2)
                          have h20' : 20 < (n : Int) := by omega
                          clear hc hd n0
                          go_wp2_with fail
                          go_ret
                          exact ⟨by rw [HE.out]; rfl, hb03⟩
                        · have HE : Hid (r = 0) := (by rw [HRC.out, Cy.caE, if_neg hc, if_neg hd, if_neg h20] : r = 0)
                          have h20' : ¬ 20 < (n : Int) := by omega
                          clear hc hd n0
                          go_wp2_with fail
                          go_ret
                          exact ⟨by rw [HE.out]; rfl, hb03⟩
            · have HE : Hid (r = Pp.treeE c.mine) := (by rw [HR.out, Cy.chE, if_neg (fun x => x HN.out), if_neg (fun x => x HE0.out), if_pos hF] : r = Pp.treeE c.mine)
              have hF' : (Pp.treeE c.mine != 0) = true := by simpa using hF
              generalize Pp.treeE c.mine = n at *
              clear hF
              go_wp2_with fail
              go_ret
              exact ⟨by rw [HE.out]; rfl, hb03⟩
          · have HE : Hid (r = Pp.treeE c.base) := (by rw [HR.out, Cy.chE, if_neg (fun x => x HN.out), if_pos hE] : r = Pp.treeE c.base)
            have hE' : (Pp.treeE c.base != 0) = true := by simpa using hE
            have hE2 : (Pp.treeE c.base == 0) = false := by simpa using hE
            generalize Pp.treeE c.base = n at *
            clear hE
            go_wp2_with fail
            go_ret
            exact ⟨by rw [HE.out]; rfl, hb02⟩
end Go.Proofs.YtlllcifehellpaaGreatDoor
