/- What the law ClientWaits answers: true, for every client. -/
import Derived.Test.YtflekhcmipmelaaGreatDoorC5
import Derived.Test.YtflekhcmipmelaaGreatDoorPN
import Derived.Test.YtflekhcmipmelaaGreatDoorCTab
import Derived.Test.YtflekhcmipmelaaGreatDoorPM
set_option linter.unusedSimpArgs false
set_option linter.unusedVariables false
namespace Go.Proofs.YtflekhcmipmelaaGreatDoor
open Go.RowKit

namespace Cy
theorem okK_dig (u : Nat) : Pp.okK (Pp.dg u) = true := by
  have h : Pp.dg u = Pp.dg (u % 10) := by rw [Pp.dg, Pp.dg, Nat.mod_mod]
  rw [h]
  have : ∀ k : Fin 10, Pp.okK (Pp.dg k.val) = true := by decide
  exact this ⟨u % 10, Nat.mod_lt _ (by decide)⟩
theorem okK_dec : ∀ (n u : Nat), u < n → (Lib.decDigits u).all Pp.okK = true
  | 0, u, h => absurd h (Nat.not_lt_zero _)
  | n + 1, u, h => by
    by_cases h1 : u < 10
    · rw [Pp.dec_one h1]; simp [okK_dig]
    · rw [Pp.dec_two h1, List.all_append, okK_dec n (u / 10) (by omega)]
      simp [okK_dig]
theorem keyB_of {l : List UInt8} (h : Pp.keyE l = 0) : Pp.keyB l = true := by
  rw [Pp.keyE] at h
  split at h
  · assumption
  · cases h
theorem cn_key {who fo : ByteArray} (h : cnE who fo = 0) : who.size ≤ 10 ∧ Pp.keyE who.data.toList = 0 := by
  unfold cnE at h
  split at h
  · rename_i h2; exact absurd h h2
  · split at h
    · cases h
    · exact ⟨by omega, h⟩
theorem nxt_data (c : Cn) : (nxt (num c) c).key.data.toList = c.who.data.toList ++ [45] ++ Lib.decDigits (c.keys + 1).toNat := by
  show (c.who ++ ⟨#[45]⟩ ++ num c).data.toList = _
  rw [ByteArray.data_append, ByteArray.data_append, Array.toList_append, Array.toList_append]
  rfl
theorem nxt_ok {c : Cn} (h : chE c = 0) (hm : c.keys < 1000000) (hn : ¬ (Sp.dfL c.base c.mine).length = 0) : chE (nxt (num c) c) = 0 := by
  obtain ⟨h1, h2, h3, h4, h5⟩ := ch_parts h
  have hk := ch_keys h
  have hc : cnE (nxt (num c) c).who (nxt (num c) c).fo = 0 := h1
  have hb : Pp.treeE (nxt (num c) c).base = 0 := h2
  have hmn : Pp.treeE (nxt (num c) c).mine = 0 := h3
  have hr : rgB (nxt (num c) c) = false := by
    have e : (nxt (num c) c).keys = c.keys + 1 := rfl
    have e2 : (nxt (num c) c).cur = c.cur := rfl
    unfold rgB
    rw [e, e2]
    simp
    omega
  have hkey : Pp.keyE (nxt (num c) c).key.data.toList = 0 := by
    apply Pp.keyE_yes
    have hw := keyB_of (cn_key h1).2
    have hl := num_small c hk.1 hm
    have hl2 : (Lib.decDigits (c.keys + 1).toNat).length ≤ 7 := by
      have e : (num c).size = (Lib.decDigits (c.keys + 1).toNat).length := by show (Lib.decDigits (c.keys + 1).toNat).toArray.size = _; rw [List.size_toArray]
      omega
    have hs := (cn_key h1).1
    have hs2 : c.who.data.toList.length ≤ 10 := by rw [Array.length_toList]; exact hs
    rw [nxt_data]
    unfold Pp.keyB at hw ⊢
    simp only [Bool.and_eq_true, decide_eq_true_eq] at hw ⊢
    refine ⟨⟨by simp only [List.length_append, List.length_cons, List.length_nil]; omega, by simp only [List.length_append, List.length_cons, List.length_nil]; omega⟩, ?_⟩
    rw [List.all_append, List.all_append, hw.2, okK_dec _ _ (Nat.lt_succ_self _)]
    decide
  have hl : (nxt (num c) c).ask.length = min 20 (Sp.dfL c.base c.mine).length := by
    show (akL c).length = _
    rw [akL, List.length_map, List.length_take]
  have hca : caE (nxt (num c) c).key (nxt (num c) c).ask.length = 0 := by
    have hz := nxt_key (num c) c
    unfold caE
    rw [if_neg (fun x => x.2 hkey), if_neg (by
      have a1 : decide ((nxt (num c) c).key.size = 0) = false := decide_eq_false hz
      have a2 : decide ((nxt (num c) c).ask.length = 0) = false := decide_eq_false (by omega)
      rw [a1, a2]; simp), if_neg (by omega)]
  unfold chE
  rw [if_neg (fun x => x hc), if_neg (fun x => x hb), if_neg (fun x => x hmn), if_neg (by rw [hr]; decide)]
  exact hca
/-- Who sends again asks for the same. -/
theorem sd_twice {c : Cn} (h : sdE c = 0) : chE (sdC c) = 0 ∧ sdE (sdC c) = 0 ∧ sdC (sdC c) = sdC c ∧ sdB (sdC c) = sdB c ∧ sdQ (sdC c) = sdQ c := by
  by_cases h0 : chE c = 0
  · by_cases hk : c.key.size = 0
    · by_cases hn : (Sp.dfL c.base c.mine).length = 0
      · obtain ⟨e, d, b, q⟩ := sd_none h0 hk hn
        rw [d]
        exact ⟨h0, e, d, rfl, rfl⟩
      · by_cases hm : c.keys < 1000000
        · obtain ⟨e, d, b, q⟩ := sd_some h0 hk hn hm
          obtain ⟨e', d', b', q'⟩ := sd_again (nxt_ok h0 hm hn) (nxt_key (num c) c)
          rw [d, b, q]
          exact ⟨nxt_ok h0 hm hn, e', d', b', q'⟩
        · rw [(sd_full h0 hk hn hm).1] at h; cases h
    · obtain ⟨e, d, b, q⟩ := sd_again h0 hk
      rw [d]
      exact ⟨h0, e, d, rfl, rfl⟩
  · rw [(sd_bad h0).1] at h; exact absurd h h0
theorem sd_sized {c : Cn} (hs : SizedN c) (h : sdE c = 0) : SizedN (sdC c) := by
  by_cases h0 : chE c = 0
  · by_cases hk : c.key.size = 0
    · by_cases hn : (Sp.dfL c.base c.mine).length = 0
      · rw [(sd_none h0 hk hn).2.1]; exact hs
      · by_cases hm : c.keys < 1000000
        · rw [(sd_some h0 hk hn hm).2.1]
          have hl := num_small c (ch_keys h0).1 hm
          have hw := (cn_key (ch_parts h0).1).1
          refine ⟨hs.who, hs.fo, ?_, hs.base, hs.mine⟩
          show (c.who ++ ⟨#[45]⟩ ++ num c).size ≤ _
          rw [ByteArray.size_append, ByteArray.size_append]
          have : (⟨#[45]⟩ : ByteArray).size = 1 := rfl
          omega
        · rw [(sd_full h0 hk hn hm).1] at h; cases h
    · rw [(sd_again h0 hk).2.1]; exact hs
  · rw [(sd_bad h0).1] at h; exact absurd h h0
end Cy

set_option maxRecDepth 100000 in
set_option maxHeartbeats 8000000 in
theorem clientWaits_walk (c : Cn) (v : Value) (w : World) (hv : LiesN w v c) (hs : SizedN c) (ht : PowTab w) :
    Calls Tryz.prog 8 #[v] w fun e w' => e = .returned (.bool true) ∧ Below w.heap.size w w' := by
  have HV := hid hv
  have HS := hid hs
  have HT := hid ht
  obtain ⟨vb, vm, va, rfl, lb, lm, la⟩ := hv
  obtain ⟨ab, cb, rfl, _⟩ := lb
  obtain ⟨am, cm, rfl, _⟩ := lm
  obtain ⟨aa, ca, rfl, _⟩ := la
  clear hs ht
  obtain ⟨wz, hwz⟩ : ∃ wz, wz = w.alloc (.cells #[.string c.who, .string c.fo, .slice ab c.base.length cb, .int .i64 c.cur, .slice am c.mine.length cm, .string c.key, .slice aa c.ask.length ca, .int .i64 c.keys] 25) := ⟨_, rfl⟩
  have hbz : Below w.heap.size w wz := by rw [hwz]; exact (Below.refl _ _).alloc (Nat.le_refl _) _
  have HX : Hid (Cs wz w.heap.size [.string c.who, .string c.fo, .slice ab c.base.length cb, .int .i64 c.cur, .slice am c.mine.length cm, .string c.key, .slice aa c.ask.length ca, .int .i64 c.keys]) := (by rw [hwz]; exact Cs.new w [.string c.who, .string c.fo, .slice ab c.base.length cb, .int .i64 c.cur, .slice am c.mine.length cm, .string c.key, .slice aa c.ask.length ca, .int .i64 c.keys] _ : Cs wz w.heap.size [.string c.who, .string c.fo, .slice ab c.base.length cb, .int .i64 c.cur, .slice am c.mine.length cm, .string c.key, .slice aa c.ask.length ca, .int .i64 c.keys])
  obtain ⟨r, hr⟩ : ∃ r, r = Cy.sdE c := ⟨_, rfl⟩
  have HR := hid hr
  obtain ⟨y, hy⟩ : ∃ y, y = Cy.sdB c := ⟨_, rfl⟩
  have HB := hid hy
  clear hr hy
  go_enter Tryz.func8, Tryz.ntmps8
  go_upto_region 1 with fail
  rw [← hwz]
  clear hwz
  go_wp2_with fail
  refine (clientBegun_yes _).mono ?_
  rintro e wa ⟨rfl, hba⟩
  have hb0a := below_tr hbz hba
  have HXa := hid (HX.out.below hba)
  have p0 := HXa.out.cell 0 rfl
  have p1 := HXa.out.cell 1 rfl
  have p2 := HXa.out.cell 2 rfl
  have p3 := HXa.out.cell 3 rfl
  have p4 := HXa.out.cell 4 rfl
  have p5 := HXa.out.cell 5 rfl
  have p6 := HXa.out.cell 6 rfl
  have p7 := HXa.out.cell 7 rfl
  go_wp2_with fail
  refine (send_any c _ _ (HV.out.below hb0a) HS.out (HT.out.below hb0a)).mono ?_
  rintro e w1 ⟨u1, q1, rfl, hN1, hQ1, hb1⟩
  rw [← HR.out, ← HB.out]
  obtain ⟨d, hd⟩ : ∃ d, d = Cy.sdC c := ⟨_, rfl⟩
  rw [← hd] at hN1
  have HD := hid hd
  obtain ⟨q, hq⟩ : ∃ q, q = Cy.sdQ c := ⟨_, rfl⟩
  rw [← hq] at hQ1
  have HQQ := hid hq
  clear hd hq p0 p1 p2 p3 p4 p5 p6 p7
  have HN1 := hid hN1
  have HQ1 := hid hQ1
  obtain ⟨vb, vm, va, rfl, lb1, lm1, la1⟩ := hN1
  obtain ⟨eb, fb, rfl, _⟩ := lb1
  obtain ⟨em, fm, rfl, _⟩ := lm1
  obtain ⟨ea, fa, rfl, _⟩ := la1
  obtain ⟨vq, rfl, lq⟩ := hQ1
  obtain ⟨qa, qc, rfl, _⟩ := lq
  have hb01 := below_tr hb0a hb1
  obtain ⟨w2, hw2⟩ : ∃ w2, w2 = (w1.alloc (.cells #[.string d.who, .string d.fo, .slice eb d.base.length fb, .int .i64 d.cur, .slice em d.mine.length fm, .string d.key, .slice ea d.ask.length fa, .int .i64 d.keys] 25)).alloc (.cells #[.int .i64 q.kind, .string q.who, .string q.fo, .string q.name, .string q.key, .string q.text, .int .i64 q.num, .int .i64 q.off, .int .i64 q.base, .slice qa q.ch.length qc] 38) := ⟨_, rfl⟩
  have b12 : Below w1.heap.size w1 w2 := by rw [hw2]; exact ((Below.refl _ _).alloc (Nat.le_refl _) _).alloc (by simp) _
  have HD2 : Hid (Cs w2 w1.heap.size [.string d.who, .string d.fo, .slice eb d.base.length fb, .int .i64 d.cur, .slice em d.mine.length fm, .string d.key, .slice ea d.ask.length fa, .int .i64 d.keys]) := (by rw [hw2]; exact (Cs.new w1 [.string d.who, .string d.fo, .slice eb d.base.length fb, .int .i64 d.cur, .slice em d.mine.length fm, .string d.key, .slice ea d.ask.length fa, .int .i64 d.keys] _).below ((Below.refl _ _).alloc (Nat.le_refl _) _) : Cs w2 w1.heap.size _)
  have HQ2 : Hid (Cs w2 (w1.heap.size + 1) [.int .i64 q.kind, .string q.who, .string q.fo, .string q.name, .string q.key, .string q.text, .int .i64 q.num, .int .i64 q.off, .int .i64 q.base, .slice qa q.ch.length qc]) := (by
    have := Cs.new (w1.alloc (.cells #[.string d.who, .string d.fo, .slice eb d.base.length fb, .int .i64 d.cur, .slice em d.mine.length fm, .string d.key, .slice ea d.ask.length fa, .int .i64 d.keys] 25)) [.int .i64 q.kind, .string q.who, .string q.fo, .string q.name, .string q.key, .string q.text, .int .i64 q.num, .int .i64 q.off, .int .i64 q.base, .slice qa q.ch.length qc] 38
    rw [hw2]; simpa using this : Cs w2 (w1.heap.size + 1) [.int .i64 q.kind, .string q.who, .string q.fo, .string q.name, .string q.key, .string q.text, .int .i64 q.num, .int .i64 q.off, .int .i64 q.base, .slice qa q.ch.length qc])
  have hb02 := below_tr hb01 b12
  by_cases hr0 : r = 0
  · subst hr0
    have HTW := hid (Cy.sd_twice HR.out.symm)
    have HSZ := hid (Cy.sd_sized HS.out HR.out.symm)
    have HNd2 := hid (HN1.out.below b12)
    have HQq2 := hid (HQ1.out.below b12)
    go_upto_region 6 with fail
    rw [← hw2]
    clear hw2
    have p0 := HD2.out.cell 0 rfl
    have p1 := HD2.out.cell 1 rfl
    have p2 := HD2.out.cell 2 rfl
    have p3 := HD2.out.cell 3 rfl
    have p4 := HD2.out.cell 4 rfl
    have p5 := HD2.out.cell 5 rfl
    have p6 := HD2.out.cell 6 rfl
    have p7 := HD2.out.cell 7 rfl
    go_wp2_with fail
    refine (send_any d _ _ HNd2.out (by rw [HD.out]; exact HSZ.out) (HT.out.below hb02)).mono ?_
    rintro e w3 ⟨u3, q3, rfl, hN3, hQ3, hb3⟩
    rw [show Cy.sdE d = 0 from by rw [HD.out]; exact HTW.out.2.1, show Cy.sdB d = y from by rw [HD.out, HB.out]; exact HTW.out.2.2.2.1]
    rw [show Cy.sdC d = d from by rw [HD.out]; exact HTW.out.2.2.1] at hN3
    rw [show Cy.sdQ d = q from by rw [HD.out, HQQ.out]; exact HTW.out.2.2.2.2] at hQ3
    clear p0 p1 p2 p3 p4 p5 p6 p7
    have HN3 := hid hN3
    have HQ3 := hid hQ3
    obtain ⟨vb, vm, va, rfl, lb1, lm1, la1⟩ := hN3
    obtain ⟨gb, kb, rfl, _⟩ := lb1
    obtain ⟨gm, km, rfl, _⟩ := lm1
    obtain ⟨ga, ka, rfl, _⟩ := la1
    obtain ⟨vq, rfl, lq⟩ := hQ3
    obtain ⟨ja, jc, rfl, _⟩ := lq
    obtain ⟨w4, hw4⟩ : ∃ w4, w4 = (w3.alloc (.cells #[.string d.who, .string d.fo, .slice gb d.base.length kb, .int .i64 d.cur, .slice gm d.mine.length km, .string d.key, .slice ga d.ask.length ka, .int .i64 d.keys] 25)).alloc (.cells #[.int .i64 q.kind, .string q.who, .string q.fo, .string q.name, .string q.key, .string q.text, .int .i64 q.num, .int .i64 q.off, .int .i64 q.base, .slice ja q.ch.length jc] 38) := ⟨_, rfl⟩
    have b34 : Below w3.heap.size w3 w4 := by rw [hw4]; exact ((Below.refl _ _).alloc (Nat.le_refl _) _).alloc (by simp) _
    have HE4 : Hid (Cs w4 w3.heap.size [.string d.who, .string d.fo, .slice gb d.base.length kb, .int .i64 d.cur, .slice gm d.mine.length km, .string d.key, .slice ga d.ask.length ka, .int .i64 d.keys]) := (by rw [hw4]; exact (Cs.new w3 [.string d.who, .string d.fo, .slice gb d.base.length kb, .int .i64 d.cur, .slice gm d.mine.length km, .string d.key, .slice ga d.ask.length ka, .int .i64 d.keys] _).below ((Below.refl _ _).alloc (Nat.le_refl _) _) : Cs w4 w3.heap.size _)
    have HF4 : Hid (Cs w4 (w3.heap.size + 1) [.int .i64 q.kind, .string q.who, .string q.fo, .string q.name, .string q.key, .string q.text, .int .i64 q.num, .int .i64 q.off, .int .i64 q.base, .slice ja q.ch.length jc]) := (by
      have := Cs.new (w3.alloc (.cells #[.string d.who, .string d.fo, .slice gb d.base.length kb, .int .i64 d.cur, .slice gm d.mine.length km, .string d.key, .slice ga d.ask.length ka, .int .i64 d.keys] 25)) [.int .i64 q.kind, .string q.who, .string q.fo, .string q.name, .string q.key, .string q.text, .int .i64 q.num, .int .i64 q.off, .int .i64 q.base, .slice ja q.ch.length jc] 38
      rw [hw4]; simpa using this : Cs w4 (w3.heap.size + 1) [.int .i64 q.kind, .string q.who, .string q.fo, .string q.name, .string q.key, .string q.text, .int .i64 q.num, .int .i64 q.off, .int .i64 q.base, .slice ja q.ch.length jc])
    have b24 := below_tr hb3 b34
    have HD4 := hid (HD2.out.below b24)
    have HQ4 := hid (HQ2.out.below b24)
    have hb04 := below_tr hb02 b24
    go_upto_region 7 with fail
    rw [← hw4]
    clear hw4
    have p0 := HQ4.out.cell 0 rfl
    have p1 := HQ4.out.cell 1 rfl
    have p2 := HQ4.out.cell 2 rfl
    have p3 := HQ4.out.cell 3 rfl
    have p4 := HQ4.out.cell 4 rfl
    have p5 := HQ4.out.cell 5 rfl
    have p6 := HQ4.out.cell 6 rfl
    have p7 := HQ4.out.cell 7 rfl
    have p8 := HQ4.out.cell 8 rfl
    have p9 := HQ4.out.cell 9 rfl
    have t0 := HF4.out.cell 0 rfl
    have t1 := HF4.out.cell 1 rfl
    have t2 := HF4.out.cell 2 rfl
    have t3 := HF4.out.cell 3 rfl
    have t4 := HF4.out.cell 4 rfl
    have t5 := HF4.out.cell 5 rfl
    have t6 := HF4.out.cell 6 rfl
    have t7 := HF4.out.cell 7 rfl
    have t8 := HF4.out.cell 8 rfl
    have t9 := HF4.out.cell 9 rfl
    go_wp2_with fail
    refine (sameRequest_yes q _ _ _ (HQq2.out.below b24) (HQ3.out.below b34)).mono ?_
    rintro e w5 ⟨rfl, hb5⟩
    have HE5 := hid (HE4.out.below hb5)
    have HD5 := hid (HD4.out.below hb5)
    clear p0 p1 p2 p3 p4 p5 p6 p7 p8 p9 t0 t1 t2 t3 t4 t5 t6 t7 t8 t9
    have p0 := HE5.out.cell 0 rfl
    have p1 := HE5.out.cell 1 rfl
    have p2 := HE5.out.cell 2 rfl
    have p3 := HE5.out.cell 3 rfl
    have p4 := HE5.out.cell 4 rfl
    have p5 := HE5.out.cell 5 rfl
    have p6 := HE5.out.cell 6 rfl
    have p7 := HE5.out.cell 7 rfl
    have t0 := HD5.out.cell 0 rfl
    have t1 := HD5.out.cell 1 rfl
    have t2 := HD5.out.cell 2 rfl
    have t3 := HD5.out.cell 3 rfl
    have t4 := HD5.out.cell 4 rfl
    have t5 := HD5.out.cell 5 rfl
    have t6 := HD5.out.cell 6 rfl
    have t7 := HD5.out.cell 7 rfl
    go_wp2_with fail
    refine (sameClient_yes d _ _ _ ((HN3.out.below b34).below hb5) ((HNd2.out.below b24).below hb5)).mono ?_
    rintro e w6 ⟨rfl, hb6⟩
    go_wp2_with fail
    go_ret
    exact ⟨rfl, below_tr hb04 (below_tr hb5 hb6)⟩
  · have hr1 : (r != 0) = true := by simpa using hr0
    clear hr0
    go_upto_region 5 with fail
    rw [← hw2]
    clear hw2
    go_wp2_with fail
    go_ret
    exact ⟨rfl, hb02⟩
end Go.Proofs.YtflekhcmipmelaaGreatDoor
