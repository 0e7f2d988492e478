/- What the reference's OpenUpload answers, where all is right. -/
import Derived.Test.YtnaedemkpiagmaaU18
import Derived.Test.YtnaedemkpiagmaaUReg
import Derived.Deep.RegionHeld3
set_option linter.unusedSimpArgs false
set_option linter.unusedVariables false
namespace Go.Proofs.Ytnaedemkpiagmaa
open Go.RowKit

set_option maxRecDepth 100000 in
set_option maxHeartbeats 4000000 in
theorem openRef_k (G : List Se) (v : Value) (x l r : Int) (p : ByteArray) (size now : Int) (w : World) (hv : LiesS w v G) (hs : SizedS G) (hp : p.size ≤ 150000000000000) (h0 : Pp.bgE G x l r now = 0) (hn : Pp.nameB p.data.toList = true) (h1 : 0 ≤ size) (h2 : size ≤ 300) (h3 : x < 1099511627776) (h4 : (Pp.swL now G).length < 20) (h5 : ¬ r < Pp.takS (Pp.swL now G) p + size) :
    Calls Try.prog 8 #[.agg #[v, .int .i64 x, .int .i64 l, .int .i64 r], .string p, .int .i64 size, .int .i64 now] w fun e w' => ∃ u, e = .returned (.tuple #[.agg #[u, .int .i64 (x + 1), .int .i64 l, .int .i64 r], .int .i64 x, .int .i64 0]) ∧ OwnS w.heap.size w' u (Pp.swL now G ++ [Pp.newS x p size (now + l)]) ∧ Below w.heap.size w w' := by
  have HV := ghid hv
  have HS := ghid hs
  obtain ⟨av, capv, rfl, _⟩ := hv
  clear hs
  obtain ⟨w3, hw3⟩ : ∃ w3, w3 = (w.alloc (.cells #[.slice av G.length capv, .int .i64 x, .int .i64 l, .int .i64 r] 24)).alloc (.cells #[.slice none 0 0, .int .i64 0, .int .i64 0, .int .i64 0] 24) := ⟨_, rfl⟩
  have B3 : Hid (Below w.heap.size w w3) := (by rw [hw3]; exact ((Below.refl _ _).alloc (Nat.le_refl _) _).alloc (by simp) _ : Below w.heap.size w w3)
  have HU3 : Hid (Bx w3 w.heap.size (.slice av G.length capv) (.int .i64 x) (.int .i64 l) (.int .i64 r)) := (by rw [hw3]; exact (Bx.new w _ _ _ _ _).below ((Below.refl _ _).alloc (Nat.le_refl _) _) : Bx w3 w.heap.size (.slice av G.length capv) (.int .i64 x) (.int .i64 l) (.int .i64 r))
  have HR3 : Hid (Bx w3 (w.heap.size + 1) (.slice none 0 0) (.int .i64 0) (.int .i64 0) (.int .i64 0)) := (by
    have := Bx.new (w.alloc (.cells #[.slice av G.length capv, .int .i64 x, .int .i64 l, .int .i64 r] 24)) (.slice none 0 0) (.int .i64 0) (.int .i64 0) (.int .i64 0) 24
    rw [hw3]; simpa using this : Bx w3 (w.heap.size + 1) (.slice none 0 0) (.int .i64 0) (.int .i64 0) (.int .i64 0))
  have hsz3 : w3.heap.size = w.heap.size + 2 := by rw [hw3]; simp
  obtain ⟨i0, hi0, hz0, hz1, hz2⟩ := info_parts Try.infoS
  have H0 := ghid h0
  have HNM := ghid hn
  have hgo : Pp.goE G x l r now [] = 0 := by rw [Pp.go_bg]; exact h0
  obtain ⟨huc, ⟨hn1, hn2⟩, _⟩ := Pp.go_zero hgo
  obtain ⟨hl20, ⟨hl1, hl2⟩, ⟨hr1, hr2⟩, hx1, hx2⟩ := Pp.bnd_zero (Pp.uch_zero huc).1
  have hsw := Pp.swL_len now G
  have HSI : Hid (∀ s ∈ Pp.swL now G, 0 ≤ s.si ∧ s.si ≤ 300) := (fun s h => Pp.ses_si (Pp.uch_zero huc).2.1 s (List.mem_filter.1 h).1 : ∀ s ∈ Pp.swL now G, 0 ≤ s.si ∧ s.si ≤ 300)
  have hx3 : (x == 1099511627776) = false := beq_eq_false_iff_ne.2 (by omega)
  clear h0 hn hgo huc
  go_enter Try.func8, Try.ntmps8
  go_wp2_with fail
  rw [← hw3]
  clear hw3
  refine (beginUpload_any G _ x l r now _ (HV.out.below B3.out) HS.out).mono ?_
  rintro e w4 ⟨rfl, hb4⟩
  have hb04 := B3.out.trans (hb4.mono B3.out.size)
  have HU4 := ghid (HU3.out.below hb4)
  have HR4 := ghid (HR3.out.below hb4)
  have hsz4 := hb4.size
  clear hb4
  obtain ⟨hUb, ⟨u0, u1, u2, u3⟩, g0, g1, g2, g3⟩ := HU4.out
  obtain ⟨hRb, ⟨c0, c1, c2, c3⟩, f0, f1, f2, f3⟩ := HR4.out
  rw [H0.out]
  go_wp2_with fail
  refine (rIsName_any p _ hp).mono ?_
  rintro e wn ⟨rfl, hw⟩
  rw [hw, HNM.out]
  clear hw wn
  go_wp2_with fail
  refine (sweepOf_any G _ x l r now _ (HV.out.below hb04) (by omega)).mono ?_
  rintro e w5 ⟨u5, rfl, hown, hb5⟩
  have hb05 := below_trans hb04 hb5
  have HU5 := ghid (HU4.out.below hb5)
  have HR5 := ghid (HR4.out.below hb5)
  have hsz5 := hb5.size
  have HOWN := ghid hown
  clear hb5 hown u0 u1 u2 u3 g0 g1 g2 g3 c0 c1 c2 c3 f0 f1 f2 f3 hUb hRb
  obtain ⟨a5, cap5, hu5, hc5, _, _⟩ := HOWN.out.lies (by omega)
  subst hu5
  obtain ⟨M, hM⟩ : ∃ M, M = Pp.swL now G := ⟨_, rfl⟩
  rw [← hM] at HSI HOWN hsw hc5 h4 ⊢
  have HMM := ghid hM
  clear hM
  have hMl : M.length ≤ 1000 := by omega
  obtain ⟨wq, hwq⟩ : ∃ wq, wq = ((((w5.setCell ⟨w.heap.size, 0, none⟩ (.slice a5 M.length cap5)).setCell ⟨w.heap.size, 1, none⟩ (.int .i64 x)).setCell ⟨w.heap.size, 2, none⟩ (.int .i64 l)).setCell ⟨w.heap.size, 3, none⟩ (.int .i64 r)) := ⟨_, rfl⟩
  have hnbq : w5.grownBy wq (some w.heap.size) := by rw [hwq]; exact Nb.set4 _ _ _ _ _ _
  have hUQ : Bx wq w.heap.size (.slice a5 M.length cap5) (.int .i64 x) (.int .i64 l) (.int .i64 r) := by
    obtain ⟨hWb, ⟨d0, d1, d2, d3⟩, e0, e1, e2, e3⟩ := HU5.out
    rw [hwq]
    exact ⟨by simpa using hWb, ⟨by simp [go_sem, d0, d1, d2, d3], by simp [go_sem, d0, d1, d2, d3], by simp [go_sem, d0, d1, d2, d3], by simp [go_sem, d0, d1, d2, d3]⟩, by simpa using e0, by simpa using e1, by simpa using e2, by simpa using e3⟩
  have HUQ := ghid hUQ
  have HRQ := ghid (HR5.out.nb hnbq (by omega))
  have HOQ := ghid (HOWN.out.nb hnbq (by omega))
  have hb0q : Below w.heap.size w wq := hb05.trans (Nb.to hnbq hb05.size (Nat.le_refl _))
  have hszq := hnbq.size
  obtain ⟨hUb, ⟨d0, d1, d2, d3⟩, e0, e1, e2, e3⟩ := HU5.out
  obtain ⟨hUb2, ⟨y0, y1, y2, y3⟩, y4, y5, y6, y7⟩ := hUQ
  rw [hwq] at y0 y1 y2 y3
  have h20 : ((M.length : Int) == 20) = false := beq_eq_false_iff_ne.2 (by omega)
  have htk := Pp.takS_bound p HSI.out
  have hT1 : 0 ≤ Pp.takS M p := htk.1
  have hT2 : Pp.takS M p ≤ 6000 := by have := htk.2; omega
  have hwr : IntKind.i64.wrap (Pp.takS M p + size) = Pp.takS M p + size := by rw [IntKind.wrap_i64]; omega
  rw [← HMM.out] at h5
  clear htk
  go_wp2_with fail
  rw [← hwq]
  clear hwq hnbq d0 d1 d2 d3 e0 e1 e2 e3 hUb y0 y1 y2 y3 y4 y5 y6 y7
  obtain ⟨hUb, ⟨y0, y1, y2, y3⟩, y4, y5, y6, y7⟩ := HUQ.out
  go_region_held3 (fun W => W.cell? ⟨w.heap.size, 0, none⟩ = some (.slice a5 M.length cap5) ∧ W.cell? ⟨w.heap.size, 3, none⟩ = some (.int .i64 r)) (go_keep) (first
    | (go_at_call 23; refine (openOf_any M _ p _ ((HOQ.out.lies hMl).below (Below.refl _ _).drew) hMl HSI.out).mono ?_; rintro e wa ⟨rfl, hba⟩; have j0 := (hba.cell (p := ⟨w.heap.size, 0, none⟩) hUb).trans y0; have j3 := (hba.cell (p := ⟨w.heap.size, 3, none⟩) hUb).trans y3))
  all_goals
    have hbza : Below wq.heap.size wq wa := (Below.refl _ _).drew.trans hba
    have hb0a := hb0q.trans (hbza.mono hb0q.size)
    have HRA := ghid (HRQ.out.below hbza)
    have HUA := ghid (HUQ.out.below hbza)
    have HOA := ghid (HOQ.out.below hbza)
    have hsza := hbza.size
    clear hba hbza y0 y1 y2 y3 y4 y5 y6 y7
    generalize Pp.takS M p = T at *
    obtain ⟨hUb, ⟨y0, y1, y2, y3⟩, y4, y5, y6, y7⟩ := HUA.out
    have hwr9 : IntKind.i64.wrap (now + l) = now + l := by rw [IntKind.wrap_i64]; omega
    go_wp2_with fail
    refine wp_region_held_drew (S := fun W => W.cell? ⟨w.heap.size, 1, none⟩ = some (.int .i64 x) ∧ W.cell? ⟨w.heap.size, 2, none⟩ = some (.int .i64 l)) (by kernel_rfl) ⟨by simpa using y1, by simpa using y2⟩ (fun hHeld => ?_)
    change wpAnyH _ _ _ _ _ 17 #[false, false, false, false, false, false, false, false, false, false, false, false, false, false, false, false, false] _ _
    have hc0 : Below wa.heap.size wa wa.drew := (Below.refl _ _).drew
    generalize wa.drew = c0 at hHeld hc0 ⊢
    clear y0 y1 y2 y3 y4 y5 y6 y7
    refine wpAnyH_take (i := 1) (oi := ⟨some 60, Op.fieldAddr 24 (Operand.tmp 4) 0, 0, _, _, none⟩) (v := ?_) rfl (by kernel_rfl) (by kernel_rfl) (by kernel_rfl) (fun _ _ _ h => h) (Or.inl ⟨by rfl, ?_⟩) hHeld ?_
    rotate_left
    · (intro W hSw; obtain ⟨t1, t2⟩ := hSw; go_simp <;> with_reducible rfl)
    try simp only [Act.put, List.setIfInBounds_toArray, List.set_cons_zero, List.set_cons_succ]
    refine wpAnyH_take (i := 4) (oi := ⟨some 63, Op.fieldAddr 24 (Operand.tmp 4) 1, 0, _, _, none⟩) (v := ?_) rfl (by kernel_rfl) (by kernel_rfl) (by kernel_rfl) (fun _ _ _ h => h) (Or.inl ⟨by rfl, ?_⟩) hHeld ?_
    rotate_left
    · (intro W hSw; obtain ⟨t1, t2⟩ := hSw; go_simp <;> with_reducible rfl)
    try simp only [Act.put, List.setIfInBounds_toArray, List.set_cons_zero, List.set_cons_succ]
    refine wpAnyH_take (i := 5) (oi := ⟨some 64, Op.load 3 (Operand.tmp 63), 3, _, _, none⟩) (v := ?_) rfl (by kernel_rfl) (by kernel_rfl) (by kernel_rfl) (fun _ _ _ h => h) (Or.inl ⟨by rfl, ?_⟩) hHeld ?_
    rotate_left
    · (intro W hSw; obtain ⟨t1, t2⟩ := hSw; go_simp <;> with_reducible rfl)
    try simp only [Act.put, List.setIfInBounds_toArray, List.set_cons_zero, List.set_cons_succ]
    refine wpAnyH_take (i := 6) (oi := ⟨some 65, Op.move (Operand.tmp 1), 9, _, _, none⟩) (v := ?_) rfl (by kernel_rfl) (by kernel_rfl) (by kernel_rfl) (fun _ _ _ h => h) (Or.inl ⟨by rfl, ?_⟩) hHeld ?_
    rotate_left
    · (intro W hSw; obtain ⟨t1, t2⟩ := hSw; go_simp <;> with_reducible rfl)
    try simp only [Act.put, List.setIfInBounds_toArray, List.set_cons_zero, List.set_cons_succ]
    refine wpAnyH_take (i := 7) (oi := ⟨some 66, Op.move (Operand.tmp 2), 3, _, _, none⟩) (v := ?_) rfl (by kernel_rfl) (by kernel_rfl) (by kernel_rfl) (fun _ _ _ h => h) (Or.inl ⟨by rfl, ?_⟩) hHeld ?_
    rotate_left
    · (intro W hSw; obtain ⟨t1, t2⟩ := hSw; go_simp <;> with_reducible rfl)
    try simp only [Act.put, List.setIfInBounds_toArray, List.set_cons_zero, List.set_cons_succ]
    refine wpAnyH_take (i := 8) (oi := ⟨some 67, Op.move (Operand.tmp 3), 3, _, _, none⟩) (v := ?_) rfl (by kernel_rfl) (by kernel_rfl) (by kernel_rfl) (fun _ _ _ h => h) (Or.inl ⟨by rfl, ?_⟩) hHeld ?_
    rotate_left
    · (intro W hSw; obtain ⟨t1, t2⟩ := hSw; go_simp <;> with_reducible rfl)
    try simp only [Act.put, List.setIfInBounds_toArray, List.set_cons_zero, List.set_cons_succ]
    refine wpAnyH_take (i := 9) (oi := ⟨some 68, Op.fieldAddr 24 (Operand.tmp 4) 2, 0, _, _, none⟩) (v := ?_) rfl (by kernel_rfl) (by kernel_rfl) (by kernel_rfl) (fun _ _ _ h => h) (Or.inl ⟨by rfl, ?_⟩) hHeld ?_
    rotate_left
    · (intro W hSw; obtain ⟨t1, t2⟩ := hSw; go_simp <;> with_reducible rfl)
    try simp only [Act.put, List.setIfInBounds_toArray, List.set_cons_zero, List.set_cons_succ]
    refine wpAnyH_take (i := 10) (oi := ⟨some 69, Op.load 3 (Operand.tmp 68), 3, _, _, none⟩) (v := ?_) rfl (by kernel_rfl) (by kernel_rfl) (by kernel_rfl) (fun _ _ _ h => h) (Or.inl ⟨by rfl, ?_⟩) hHeld ?_
    rotate_left
    · (intro W hSw; obtain ⟨t1, t2⟩ := hSw; go_simp <;> with_reducible rfl)
    try simp only [Act.put, List.setIfInBounds_toArray, List.set_cons_zero, List.set_cons_succ]
    refine wpAnyH_take (i := 11) (oi := ⟨some 70, Op.binOp BinOp.add 3 (Operand.tmp 67) (Operand.tmp 69) 3, 3, _, _, none⟩) (v := ?_) rfl (by kernel_rfl) (by kernel_rfl) (by kernel_rfl) (fun _ _ _ h => h) (Or.inl ⟨by rfl, ?_⟩) hHeld ?_
    rotate_left
    · (intro W hSw; obtain ⟨t1, t2⟩ := hSw; go_simp <;> with_reducible rfl)
    try simp only [Act.put, List.setIfInBounds_toArray, List.set_cons_zero, List.set_cons_succ]
    refine wpAnyH_take (i := 12) (oi := ⟨some 71, Op.build 38 #[(0, Operand.tmp 64), (1, Operand.tmp 65), (3, Operand.tmp 66), (4, Operand.tmp 70)], 38, _, _, none⟩) (v := ?_) rfl (by kernel_rfl) (by kernel_rfl) (by kernel_rfl) (fun _ _ _ h => h) (Or.inl ⟨by rfl, ?_⟩) hHeld ?_
    rotate_left
    · (intro W hSw; obtain ⟨t1, t2⟩ := hSw; go_simp <;> with_reducible rfl)
    try simp only [Act.put, List.setIfInBounds_toArray, List.set_cons_zero, List.set_cons_succ]
    refine later (p := ?_) (fun rest => ?_) ?_
    rotate_left
    · skip
      refine wpAnyH_ready (rs := [0, 2, 13]) (by kernel_rfl) (by simp) ?_
      refine AllReadyH.cons (o := ⟨some 59, Op.buildSlice 22 0 #[], 22, _, _, none⟩) rfl (fun K hK => ?_) (AllReadyH.cons (o := ⟨some 61, Op.load 22 (Operand.tmp 60), 22, _, _, none⟩) rfl (fun K hK => ?_) (AllReadyH.cons (o := ⟨some 72, Op.buildSlice 22 1 #[(0, Operand.tmp 71)], 22, _, _, none⟩) rfl (fun K hK => ?_) (AllReadyH.nil)))
      · skip
        go_simp
        generalize hwz : World.alloc c0 (.cells #[] 38) = c1
        have hz : Below c0.heap.size c0 c1 := hwz ▸ (Below.refl _ _).alloc (Nat.le_refl _) _
        have hc1 : Below wa.heap.size wa c1 := below_trans hc0 hz
        have e59 : Emp5 wa.heap.size c1 (.slice (some ⟨c0.heap.size, 0, none⟩) 0 0) := Emp5.new hwz hc0.size
        clear hwz hz
        generalize Value.slice (some (Addr.mk c0.heap.size 0 none)) 0 0 = v59 at e59 ⊢
        try clear hc0
        try clear c0
        have hbx := HUA.out.below hc1
        refine hK.out _ _ ⟨hbx.2.1.2.1, hbx.2.1.2.2.1⟩ (fun hzz => ?_)
        clear hzz hK K hbx
        try simp only [Act.put, List.setIfInBounds_toArray, List.set_cons_zero, List.set_cons_succ]
        refine wpAnyH_ready (rs := [2, 13]) (by kernel_rfl) (by simp) ?_
        refine AllReadyH.cons (o := ⟨some 61, Op.load 22 (Operand.tmp 60), 22, _, _, none⟩) rfl (fun K hK => ?_) (AllReadyH.cons (o := ⟨some 72, Op.buildSlice 22 1 #[(0, Operand.tmp 71)], 22, _, _, none⟩) rfl (fun K hK => ?_) (AllReadyH.nil))
        · skip
          obtain ⟨f9, ⟨f0, s1, s2, s3⟩, f8⟩ := HUA.out.below hc1
          go_simp
          refine hK.out _ _ ⟨s1, s2⟩ (fun hzz => ?_)
          clear hzz hK K s1 s2 s3 f0 f8 f9
          try simp only [Act.put, List.setIfInBounds_toArray, List.set_cons_zero, List.set_cons_succ]
          refine wpAnyH_ready (rs := [3, 13]) (by kernel_rfl) (by simp) ?_
          refine AllReadyH.cons (o := ⟨some 62, Op.call ⟨Callee.builtin Builtin.append, #[Operand.tmp 59, Operand.tmp 61], #[22, 22]⟩, 22, _, _, none⟩) rfl (fun K hK => ?_) (AllReadyH.cons (o := ⟨some 72, Op.buildSlice 22 1 #[(0, Operand.tmp 71)], 22, _, _, none⟩) rfl (fun K hK => ?_) (AllReadyH.nil))
          · skip
            refine step_append_may rfl (.tmp 59) (.tmp 61) 22 rfl wa.heap.size 38 i0 (.agg #[.int .i64 0, .string ⟨#[]⟩, .string ⟨#[]⟩, .int .i64 0, .int .i64 0]) 5 56 Try.underlying22 hi0 hz0 hz1 hz2 rfl (by decide) v59 0 [] rfl e59.own (.slice a5 M.length cap5) M.length (Pp.flatS M) rfl (Src5.own (HOA.out.below hc1)) (flatS_one M) (by unfold maxLen; omega) (by omega) hc1.size ?_
            intro v62 c2 ho hgr
            have o62 : OwnS wa.heap.size c2 v62 M := ownS_of (by rw [Nat.zero_add, List.nil_append] at ho; exact ho)
            have hc2 : Below wa.heap.size wa c2 := hc1.grown hgr hc1.size (fun k hk => (e59.own.lt k hk).1)
            clear ho hgr e59
            try clear hc1
            try clear c1
            have hbx := HUA.out.below hc2
            refine hK.out _ _ ⟨hbx.2.1.2.1, hbx.2.1.2.2.1⟩ (fun hzz => ?_)
            clear hzz hK K hbx
            try simp only [Act.put, List.setIfInBounds_toArray, List.set_cons_zero, List.set_cons_succ]
            refine wpAnyH_ready (rs := [13]) (by kernel_rfl) (by simp) ?_
            refine AllReadyH.cons (o := ⟨some 72, Op.buildSlice 22 1 #[(0, Operand.tmp 71)], 22, _, _, none⟩) rfl (fun K hK => ?_) (AllReadyH.nil)
            · skip
              go_simp
              generalize hwz : World.alloc c2 (.cells #[.int .i64 x, .string p, .string ⟨#[]⟩, .int .i64 size, .int .i64 (now + l)] 38) = c3
              have hz : Below c2.heap.size c2 c3 := hwz ▸ (Below.refl _ _).alloc (Nat.le_refl _) _
              have hc3 : Below wa.heap.size wa c3 := below_trans hc2 hz
              have n72 : New5 c3 (.slice (some ⟨c2.heap.size, 0, none⟩) 1 1) (Pp.newS x p size (now + l)) := New5.new (s := (Pp.newS x p size (now + l))) hwz
              replace o62 := o62.below hz
              clear hwz hz
              generalize Value.slice (some (Addr.mk c2.heap.size 0 none)) 1 1 = v72 at n72 ⊢
              try clear hc2
              try clear c2
              have hbx := HUA.out.below hc3
              refine hK.out _ _ ⟨hbx.2.1.2.1, hbx.2.1.2.2.1⟩ (fun hzz => ?_)
              clear hzz hK K hbx
              try simp only [Act.put, List.setIfInBounds_toArray, List.set_cons_zero, List.set_cons_succ]
              revert o62
              revert n72
              revert hc3
              revert c3
              revert v72
              revert v62
              revert v59
              exact rest.out
          · skip
            go_simp
            generalize hwz : World.alloc c1 (.cells #[.int .i64 x, .string p, .string ⟨#[]⟩, .int .i64 size, .int .i64 (now + l)] 38) = c2
            have hz : Below c1.heap.size c1 c2 := hwz ▸ (Below.refl _ _).alloc (Nat.le_refl _) _
            have hc2 : Below wa.heap.size wa c2 := below_trans hc1 hz
            have n72 : New5 c2 (.slice (some ⟨c1.heap.size, 0, none⟩) 1 1) (Pp.newS x p size (now + l)) := New5.new (s := (Pp.newS x p size (now + l))) hwz
            replace e59 := e59.below hz
            clear hwz hz
            generalize Value.slice (some (Addr.mk c1.heap.size 0 none)) 1 1 = v72 at n72 ⊢
            try clear hc1
            try clear c1
            have hbx := HUA.out.below hc2
            refine hK.out _ _ ⟨hbx.2.1.2.1, hbx.2.1.2.2.1⟩ (fun hzz => ?_)
            clear hzz hK K hbx
            try simp only [Act.put, List.setIfInBounds_toArray, List.set_cons_zero, List.set_cons_succ]
            refine wpAnyH_ready (rs := [3]) (by kernel_rfl) (by simp) ?_
            refine AllReadyH.cons (o := ⟨some 62, Op.call ⟨Callee.builtin Builtin.append, #[Operand.tmp 59, Operand.tmp 61], #[22, 22]⟩, 22, _, _, none⟩) rfl (fun K hK => ?_) (AllReadyH.nil)
            · skip
              refine step_append_may rfl (.tmp 59) (.tmp 61) 22 rfl wa.heap.size 38 i0 (.agg #[.int .i64 0, .string ⟨#[]⟩, .string ⟨#[]⟩, .int .i64 0, .int .i64 0]) 5 56 Try.underlying22 hi0 hz0 hz1 hz2 rfl (by decide) v59 0 [] rfl e59.own (.slice a5 M.length cap5) M.length (Pp.flatS M) rfl (Src5.own (HOA.out.below hc2)) (flatS_one M) (by unfold maxLen; omega) (by omega) hc2.size ?_
              intro v62 c3 ho hgr
              have o62 : OwnS wa.heap.size c3 v62 M := ownS_of (by rw [Nat.zero_add, List.nil_append] at ho; exact ho)
              have hc3 : Below wa.heap.size wa c3 := hc2.grown hgr hc2.size (fun k hk => (e59.own.lt k hk).1)
              replace n72 := n72.gr e59 hgr
              clear ho hgr e59
              try clear hc2
              try clear c2
              have hbx := HUA.out.below hc3
              refine hK.out _ _ ⟨hbx.2.1.2.1, hbx.2.1.2.2.1⟩ (fun hzz => ?_)
              clear hzz hK K hbx
              try simp only [Act.put, List.setIfInBounds_toArray, List.set_cons_zero, List.set_cons_succ]
              revert o62
              revert n72
              revert hc3
              revert c3
              revert v72
              revert v62
              revert v59
              exact rest.out
        · skip
          go_simp
          generalize hwz : World.alloc c1 (.cells #[.int .i64 x, .string p, .string ⟨#[]⟩, .int .i64 size, .int .i64 (now + l)] 38) = c2
          have hz : Below c1.heap.size c1 c2 := hwz ▸ (Below.refl _ _).alloc (Nat.le_refl _) _
          have hc2 : Below wa.heap.size wa c2 := below_trans hc1 hz
          have n72 : New5 c2 (.slice (some ⟨c1.heap.size, 0, none⟩) 1 1) (Pp.newS x p size (now + l)) := New5.new (s := (Pp.newS x p size (now + l))) hwz
          replace e59 := e59.below hz
          clear hwz hz
          generalize Value.slice (some (Addr.mk c1.heap.size 0 none)) 1 1 = v72 at n72 ⊢
          try clear hc1
          try clear c1
          have hbx := HUA.out.below hc2
          refine hK.out _ _ ⟨hbx.2.1.2.1, hbx.2.1.2.2.1⟩ (fun hzz => ?_)
          clear hzz hK K hbx
          try simp only [Act.put, List.setIfInBounds_toArray, List.set_cons_zero, List.set_cons_succ]
          refine wpAnyH_ready (rs := [2]) (by kernel_rfl) (by simp) ?_
          refine AllReadyH.cons (o := ⟨some 61, Op.load 22 (Operand.tmp 60), 22, _, _, none⟩) rfl (fun K hK => ?_) (AllReadyH.nil)
          · skip
            obtain ⟨f9, ⟨f0, s1, s2, s3⟩, f8⟩ := HUA.out.below hc2
            go_simp
            refine hK.out _ _ ⟨s1, s2⟩ (fun hzz => ?_)
            clear hzz hK K s1 s2 s3 f0 f8 f9
            try simp only [Act.put, List.setIfInBounds_toArray, List.set_cons_zero, List.set_cons_succ]
            refine wpAnyH_ready (rs := [3]) (by kernel_rfl) (by simp) ?_
            refine AllReadyH.cons (o := ⟨some 62, Op.call ⟨Callee.builtin Builtin.append, #[Operand.tmp 59, Operand.tmp 61], #[22, 22]⟩, 22, _, _, none⟩) rfl (fun K hK => ?_) (AllReadyH.nil)
            · skip
              refine step_append_may rfl (.tmp 59) (.tmp 61) 22 rfl wa.heap.size 38 i0 (.agg #[.int .i64 0, .string ⟨#[]⟩, .string ⟨#[]⟩, .int .i64 0, .int .i64 0]) 5 56 Try.underlying22 hi0 hz0 hz1 hz2 rfl (by decide) v59 0 [] rfl e59.own (.slice a5 M.length cap5) M.length (Pp.flatS M) rfl (Src5.own (HOA.out.below hc2)) (flatS_one M) (by unfold maxLen; omega) (by omega) hc2.size ?_
              intro v62 c3 ho hgr
              have o62 : OwnS wa.heap.size c3 v62 M := ownS_of (by rw [Nat.zero_add, List.nil_append] at ho; exact ho)
              have hc3 : Below wa.heap.size wa c3 := hc2.grown hgr hc2.size (fun k hk => (e59.own.lt k hk).1)
              replace n72 := n72.gr e59 hgr
              clear ho hgr e59
              try clear hc2
              try clear c2
              have hbx := HUA.out.below hc3
              refine hK.out _ _ ⟨hbx.2.1.2.1, hbx.2.1.2.2.1⟩ (fun hzz => ?_)
              clear hzz hK K hbx
              try simp only [Act.put, List.setIfInBounds_toArray, List.set_cons_zero, List.set_cons_succ]
              revert o62
              revert n72
              revert hc3
              revert c3
              revert v72
              revert v62
              revert v59
              exact rest.out
      · skip
        obtain ⟨f9, ⟨f0, s1, s2, s3⟩, f8⟩ := HUA.out.below hc0
        go_simp
        refine hK.out _ _ ⟨s1, s2⟩ (fun hzz => ?_)
        clear hzz hK K s1 s2 s3 f0 f8 f9
        try simp only [Act.put, List.setIfInBounds_toArray, List.set_cons_zero, List.set_cons_succ]
        refine wpAnyH_ready (rs := [0, 13]) (by kernel_rfl) (by simp) ?_
        refine AllReadyH.cons (o := ⟨some 59, Op.buildSlice 22 0 #[], 22, _, _, none⟩) rfl (fun K hK => ?_) (AllReadyH.cons (o := ⟨some 72, Op.buildSlice 22 1 #[(0, Operand.tmp 71)], 22, _, _, none⟩) rfl (fun K hK => ?_) (AllReadyH.nil))
        · skip
          go_simp
          generalize hwz : World.alloc c0 (.cells #[] 38) = c1
          have hz : Below c0.heap.size c0 c1 := hwz ▸ (Below.refl _ _).alloc (Nat.le_refl _) _
          have hc1 : Below wa.heap.size wa c1 := below_trans hc0 hz
          have e59 : Emp5 wa.heap.size c1 (.slice (some ⟨c0.heap.size, 0, none⟩) 0 0) := Emp5.new hwz hc0.size
          clear hwz hz
          generalize Value.slice (some (Addr.mk c0.heap.size 0 none)) 0 0 = v59 at e59 ⊢
          try clear hc0
          try clear c0
          have hbx := HUA.out.below hc1
          refine hK.out _ _ ⟨hbx.2.1.2.1, hbx.2.1.2.2.1⟩ (fun hzz => ?_)
          clear hzz hK K hbx
          try simp only [Act.put, List.setIfInBounds_toArray, List.set_cons_zero, List.set_cons_succ]
          refine wpAnyH_ready (rs := [3, 13]) (by kernel_rfl) (by simp) ?_
          refine AllReadyH.cons (o := ⟨some 62, Op.call ⟨Callee.builtin Builtin.append, #[Operand.tmp 59, Operand.tmp 61], #[22, 22]⟩, 22, _, _, none⟩) rfl (fun K hK => ?_) (AllReadyH.cons (o := ⟨some 72, Op.buildSlice 22 1 #[(0, Operand.tmp 71)], 22, _, _, none⟩) rfl (fun K hK => ?_) (AllReadyH.nil))
          · skip
            refine step_append_may rfl (.tmp 59) (.tmp 61) 22 rfl wa.heap.size 38 i0 (.agg #[.int .i64 0, .string ⟨#[]⟩, .string ⟨#[]⟩, .int .i64 0, .int .i64 0]) 5 56 Try.underlying22 hi0 hz0 hz1 hz2 rfl (by decide) v59 0 [] rfl e59.own (.slice a5 M.length cap5) M.length (Pp.flatS M) rfl (Src5.own (HOA.out.below hc1)) (flatS_one M) (by unfold maxLen; omega) (by omega) hc1.size ?_
            intro v62 c2 ho hgr
            have o62 : OwnS wa.heap.size c2 v62 M := ownS_of (by rw [Nat.zero_add, List.nil_append] at ho; exact ho)
            have hc2 : Below wa.heap.size wa c2 := hc1.grown hgr hc1.size (fun k hk => (e59.own.lt k hk).1)
            clear ho hgr e59
            try clear hc1
            try clear c1
            have hbx := HUA.out.below hc2
            refine hK.out _ _ ⟨hbx.2.1.2.1, hbx.2.1.2.2.1⟩ (fun hzz => ?_)
            clear hzz hK K hbx
            try simp only [Act.put, List.setIfInBounds_toArray, List.set_cons_zero, List.set_cons_succ]
            refine wpAnyH_ready (rs := [13]) (by kernel_rfl) (by simp) ?_
            refine AllReadyH.cons (o := ⟨some 72, Op.buildSlice 22 1 #[(0, Operand.tmp 71)], 22, _, _, none⟩) rfl (fun K hK => ?_) (AllReadyH.nil)
            · skip
              go_simp
              generalize hwz : World.alloc c2 (.cells #[.int .i64 x, .string p, .string ⟨#[]⟩, .int .i64 size, .int .i64 (now + l)] 38) = c3
              have hz : Below c2.heap.size c2 c3 := hwz ▸ (Below.refl _ _).alloc (Nat.le_refl _) _
              have hc3 : Below wa.heap.size wa c3 := below_trans hc2 hz
              have n72 : New5 c3 (.slice (some ⟨c2.heap.size, 0, none⟩) 1 1) (Pp.newS x p size (now + l)) := New5.new (s := (Pp.newS x p size (now + l))) hwz
              replace o62 := o62.below hz
              clear hwz hz
              generalize Value.slice (some (Addr.mk c2.heap.size 0 none)) 1 1 = v72 at n72 ⊢
              try clear hc2
              try clear c2
              have hbx := HUA.out.below hc3
              refine hK.out _ _ ⟨hbx.2.1.2.1, hbx.2.1.2.2.1⟩ (fun hzz => ?_)
              clear hzz hK K hbx
              try simp only [Act.put, List.setIfInBounds_toArray, List.set_cons_zero, List.set_cons_succ]
              revert o62
              revert n72
              revert hc3
              revert c3
              revert v72
              revert v62
              revert v59
              exact rest.out
          · skip
            go_simp
            generalize hwz : World.alloc c1 (.cells #[.int .i64 x, .string p, .string ⟨#[]⟩, .int .i64 size, .int .i64 (now + l)] 38) = c2
            have hz : Below c1.heap.size c1 c2 := hwz ▸ (Below.refl _ _).alloc (Nat.le_refl _) _
            have hc2 : Below wa.heap.size wa c2 := below_trans hc1 hz
            have n72 : New5 c2 (.slice (some ⟨c1.heap.size, 0, none⟩) 1 1) (Pp.newS x p size (now + l)) := New5.new (s := (Pp.newS x p size (now + l))) hwz
            replace e59 := e59.below hz
            clear hwz hz
            generalize Value.slice (some (Addr.mk c1.heap.size 0 none)) 1 1 = v72 at n72 ⊢
            try clear hc1
            try clear c1
            have hbx := HUA.out.below hc2
            refine hK.out _ _ ⟨hbx.2.1.2.1, hbx.2.1.2.2.1⟩ (fun hzz => ?_)
            clear hzz hK K hbx
            try simp only [Act.put, List.setIfInBounds_toArray, List.set_cons_zero, List.set_cons_succ]
            refine wpAnyH_ready (rs := [3]) (by kernel_rfl) (by simp) ?_
            refine AllReadyH.cons (o := ⟨some 62, Op.call ⟨Callee.builtin Builtin.append, #[Operand.tmp 59, Operand.tmp 61], #[22, 22]⟩, 22, _, _, none⟩) rfl (fun K hK => ?_) (AllReadyH.nil)
            · skip
              refine step_append_may rfl (.tmp 59) (.tmp 61) 22 rfl wa.heap.size 38 i0 (.agg #[.int .i64 0, .string ⟨#[]⟩, .string ⟨#[]⟩, .int .i64 0, .int .i64 0]) 5 56 Try.underlying22 hi0 hz0 hz1 hz2 rfl (by decide) v59 0 [] rfl e59.own (.slice a5 M.length cap5) M.length (Pp.flatS M) rfl (Src5.own (HOA.out.below hc2)) (flatS_one M) (by unfold maxLen; omega) (by omega) hc2.size ?_
              intro v62 c3 ho hgr
              have o62 : OwnS wa.heap.size c3 v62 M := ownS_of (by rw [Nat.zero_add, List.nil_append] at ho; exact ho)
              have hc3 : Below wa.heap.size wa c3 := hc2.grown hgr hc2.size (fun k hk => (e59.own.lt k hk).1)
              replace n72 := n72.gr e59 hgr
              clear ho hgr e59
              try clear hc2
              try clear c2
              have hbx := HUA.out.below hc3
              refine hK.out _ _ ⟨hbx.2.1.2.1, hbx.2.1.2.2.1⟩ (fun hzz => ?_)
              clear hzz hK K hbx
              try simp only [Act.put, List.setIfInBounds_toArray, List.set_cons_zero, List.set_cons_succ]
              revert o62
              revert n72
              revert hc3
              revert c3
              revert v72
              revert v62
              revert v59
              exact rest.out
        · skip
          go_simp
          generalize hwz : World.alloc c0 (.cells #[.int .i64 x, .string p, .string ⟨#[]⟩, .int .i64 size, .int .i64 (now + l)] 38) = c1
          have hz : Below c0.heap.size c0 c1 := hwz ▸ (Below.refl _ _).alloc (Nat.le_refl _) _
          have hc1 : Below wa.heap.size wa c1 := below_trans hc0 hz
          have n72 : New5 c1 (.slice (some ⟨c0.heap.size, 0, none⟩) 1 1) (Pp.newS x p size (now + l)) := New5.new (s := (Pp.newS x p size (now + l))) hwz
          clear hwz hz
          generalize Value.slice (some (Addr.mk c0.heap.size 0 none)) 1 1 = v72 at n72 ⊢
          try clear hc0
          try clear c0
          have hbx := HUA.out.below hc1
          refine hK.out _ _ ⟨hbx.2.1.2.1, hbx.2.1.2.2.1⟩ (fun hzz => ?_)
          clear hzz hK K hbx
          try simp only [Act.put, List.setIfInBounds_toArray, List.set_cons_zero, List.set_cons_succ]
          refine wpAnyH_ready (rs := [0]) (by kernel_rfl) (by simp) ?_
          refine AllReadyH.cons (o := ⟨some 59, Op.buildSlice 22 0 #[], 22, _, _, none⟩) rfl (fun K hK => ?_) (AllReadyH.nil)
          · skip
            go_simp
            generalize hwz : World.alloc c1 (.cells #[] 38) = c2
            have hz : Below c1.heap.size c1 c2 := hwz ▸ (Below.refl _ _).alloc (Nat.le_refl _) _
            have hc2 : Below wa.heap.size wa c2 := below_trans hc1 hz
            have e59 : Emp5 wa.heap.size c2 (.slice (some ⟨c1.heap.size, 0, none⟩) 0 0) := Emp5.new hwz hc1.size
            replace n72 := n72.below hz
            clear hwz hz
            generalize Value.slice (some (Addr.mk c1.heap.size 0 none)) 0 0 = v59 at e59 ⊢
            try clear hc1
            try clear c1
            have hbx := HUA.out.below hc2
            refine hK.out _ _ ⟨hbx.2.1.2.1, hbx.2.1.2.2.1⟩ (fun hzz => ?_)
            clear hzz hK K hbx
            try simp only [Act.put, List.setIfInBounds_toArray, List.set_cons_zero, List.set_cons_succ]
            refine wpAnyH_ready (rs := [3]) (by kernel_rfl) (by simp) ?_
            refine AllReadyH.cons (o := ⟨some 62, Op.call ⟨Callee.builtin Builtin.append, #[Operand.tmp 59, Operand.tmp 61], #[22, 22]⟩, 22, _, _, none⟩) rfl (fun K hK => ?_) (AllReadyH.nil)
            · skip
              refine step_append_may rfl (.tmp 59) (.tmp 61) 22 rfl wa.heap.size 38 i0 (.agg #[.int .i64 0, .string ⟨#[]⟩, .string ⟨#[]⟩, .int .i64 0, .int .i64 0]) 5 56 Try.underlying22 hi0 hz0 hz1 hz2 rfl (by decide) v59 0 [] rfl e59.own (.slice a5 M.length cap5) M.length (Pp.flatS M) rfl (Src5.own (HOA.out.below hc2)) (flatS_one M) (by unfold maxLen; omega) (by omega) hc2.size ?_
              intro v62 c3 ho hgr
              have o62 : OwnS wa.heap.size c3 v62 M := ownS_of (by rw [Nat.zero_add, List.nil_append] at ho; exact ho)
              have hc3 : Below wa.heap.size wa c3 := hc2.grown hgr hc2.size (fun k hk => (e59.own.lt k hk).1)
              replace n72 := n72.gr e59 hgr
              clear ho hgr e59
              try clear hc2
              try clear c2
              have hbx := HUA.out.below hc3
              refine hK.out _ _ ⟨hbx.2.1.2.1, hbx.2.1.2.2.1⟩ (fun hzz => ?_)
              clear hzz hK K hbx
              try simp only [Act.put, List.setIfInBounds_toArray, List.set_cons_zero, List.set_cons_succ]
              revert o62
              revert n72
              revert hc3
              revert c3
              revert v72
              revert v62
              revert v59
              exact rest.out
      · skip
        go_simp
        generalize hwz : World.alloc c0 (.cells #[.int .i64 x, .string p, .string ⟨#[]⟩, .int .i64 size, .int .i64 (now + l)] 38) = c1
        have hz : Below c0.heap.size c0 c1 := hwz ▸ (Below.refl _ _).alloc (Nat.le_refl _) _
        have hc1 : Below wa.heap.size wa c1 := below_trans hc0 hz
        have n72 : New5 c1 (.slice (some ⟨c0.heap.size, 0, none⟩) 1 1) (Pp.newS x p size (now + l)) := New5.new (s := (Pp.newS x p size (now + l))) hwz
        clear hwz hz
        generalize Value.slice (some (Addr.mk c0.heap.size 0 none)) 1 1 = v72 at n72 ⊢
        try clear hc0
        try clear c0
        have hbx := HUA.out.below hc1
        refine hK.out _ _ ⟨hbx.2.1.2.1, hbx.2.1.2.2.1⟩ (fun hzz => ?_)
        clear hzz hK K hbx
        try simp only [Act.put, List.setIfInBounds_toArray, List.set_cons_zero, List.set_cons_succ]
        refine wpAnyH_ready (rs := [0, 2]) (by kernel_rfl) (by simp) ?_
        refine AllReadyH.cons (o := ⟨some 59, Op.buildSlice 22 0 #[], 22, _, _, none⟩) rfl (fun K hK => ?_) (AllReadyH.cons (o := ⟨some 61, Op.load 22 (Operand.tmp 60), 22, _, _, none⟩) rfl (fun K hK => ?_) (AllReadyH.nil))
        · skip
          go_simp
          generalize hwz : World.alloc c1 (.cells #[] 38) = c2
          have hz : Below c1.heap.size c1 c2 := hwz ▸ (Below.refl _ _).alloc (Nat.le_refl _) _
          have hc2 : Below wa.heap.size wa c2 := below_trans hc1 hz
          have e59 : Emp5 wa.heap.size c2 (.slice (some ⟨c1.heap.size, 0, none⟩) 0 0) := Emp5.new hwz hc1.size
          replace n72 := n72.below hz
          clear hwz hz
          generalize Value.slice (some (Addr.mk c1.heap.size 0 none)) 0 0 = v59 at e59 ⊢
          try clear hc1
          try clear c1
          have hbx := HUA.out.below hc2
          refine hK.out _ _ ⟨hbx.2.1.2.1, hbx.2.1.2.2.1⟩ (fun hzz => ?_)
          clear hzz hK K hbx
          try simp only [Act.put, List.setIfInBounds_toArray, List.set_cons_zero, List.set_cons_succ]
          refine wpAnyH_ready (rs := [2]) (by kernel_rfl) (by simp) ?_
          refine AllReadyH.cons (o := ⟨some 61, Op.load 22 (Operand.tmp 60), 22, _, _, none⟩) rfl (fun K hK => ?_) (AllReadyH.nil)
          · skip
            obtain ⟨f9, ⟨f0, s1, s2, s3⟩, f8⟩ := HUA.out.below hc2
            go_simp
            refine hK.out _ _ ⟨s1, s2⟩ (fun hzz => ?_)
            clear hzz hK K s1 s2 s3 f0 f8 f9
            try simp only [Act.put, List.setIfInBounds_toArray, List.set_cons_zero, List.set_cons_succ]
            refine wpAnyH_ready (rs := [3]) (by kernel_rfl) (by simp) ?_
            refine AllReadyH.cons (o := ⟨some 62, Op.call ⟨Callee.builtin Builtin.append, #[Operand.tmp 59, Operand.tmp 61], #[22, 22]⟩, 22, _, _, none⟩) rfl (fun K hK => ?_) (AllReadyH.nil)
            · skip
              refine step_append_may rfl (.tmp 59) (.tmp 61) 22 rfl wa.heap.size 38 i0 (.agg #[.int .i64 0, .string ⟨#[]⟩, .string ⟨#[]⟩, .int .i64 0, .int .i64 0]) 5 56 Try.underlying22 hi0 hz0 hz1 hz2 rfl (by decide) v59 0 [] rfl e59.own (.slice a5 M.length cap5) M.length (Pp.flatS M) rfl (Src5.own (HOA.out.below hc2)) (flatS_one M) (by unfold maxLen; omega) (by omega) hc2.size ?_
              intro v62 c3 ho hgr
              have o62 : OwnS wa.heap.size c3 v62 M := ownS_of (by rw [Nat.zero_add, List.nil_append] at ho; exact ho)
              have hc3 : Below wa.heap.size wa c3 := hc2.grown hgr hc2.size (fun k hk => (e59.own.lt k hk).1)
              replace n72 := n72.gr e59 hgr
              clear ho hgr e59
              try clear hc2
              try clear c2
              have hbx := HUA.out.below hc3
              refine hK.out _ _ ⟨hbx.2.1.2.1, hbx.2.1.2.2.1⟩ (fun hzz => ?_)
              clear hzz hK K hbx
              try simp only [Act.put, List.setIfInBounds_toArray, List.set_cons_zero, List.set_cons_succ]
              revert o62
              revert n72
              revert hc3
              revert c3
              revert v72
              revert v62
              revert v59
              exact rest.out
        · skip
          obtain ⟨f9, ⟨f0, s1, s2, s3⟩, f8⟩ := HUA.out.below hc1
          go_simp
          refine hK.out _ _ ⟨s1, s2⟩ (fun hzz => ?_)
          clear hzz hK K s1 s2 s3 f0 f8 f9
          try simp only [Act.put, List.setIfInBounds_toArray, List.set_cons_zero, List.set_cons_succ]
          refine wpAnyH_ready (rs := [0]) (by kernel_rfl) (by simp) ?_
          refine AllReadyH.cons (o := ⟨some 59, Op.buildSlice 22 0 #[], 22, _, _, none⟩) rfl (fun K hK => ?_) (AllReadyH.nil)
          · skip
            go_simp
            generalize hwz : World.alloc c1 (.cells #[] 38) = c2
            have hz : Below c1.heap.size c1 c2 := hwz ▸ (Below.refl _ _).alloc (Nat.le_refl _) _
            have hc2 : Below wa.heap.size wa c2 := below_trans hc1 hz
            have e59 : Emp5 wa.heap.size c2 (.slice (some ⟨c1.heap.size, 0, none⟩) 0 0) := Emp5.new hwz hc1.size
            replace n72 := n72.below hz
            clear hwz hz
            generalize Value.slice (some (Addr.mk c1.heap.size 0 none)) 0 0 = v59 at e59 ⊢
            try clear hc1
            try clear c1
            have hbx := HUA.out.below hc2
            refine hK.out _ _ ⟨hbx.2.1.2.1, hbx.2.1.2.2.1⟩ (fun hzz => ?_)
            clear hzz hK K hbx
            try simp only [Act.put, List.setIfInBounds_toArray, List.set_cons_zero, List.set_cons_succ]
            refine wpAnyH_ready (rs := [3]) (by kernel_rfl) (by simp) ?_
            refine AllReadyH.cons (o := ⟨some 62, Op.call ⟨Callee.builtin Builtin.append, #[Operand.tmp 59, Operand.tmp 61], #[22, 22]⟩, 22, _, _, none⟩) rfl (fun K hK => ?_) (AllReadyH.nil)
            · skip
              refine step_append_may rfl (.tmp 59) (.tmp 61) 22 rfl wa.heap.size 38 i0 (.agg #[.int .i64 0, .string ⟨#[]⟩, .string ⟨#[]⟩, .int .i64 0, .int .i64 0]) 5 56 Try.underlying22 hi0 hz0 hz1 hz2 rfl (by decide) v59 0 [] rfl e59.own (.slice a5 M.length cap5) M.length (Pp.flatS M) rfl (Src5.own (HOA.out.below hc2)) (flatS_one M) (by unfold maxLen; omega) (by omega) hc2.size ?_
              intro v62 c3 ho hgr
              have o62 : OwnS wa.heap.size c3 v62 M := ownS_of (by rw [Nat.zero_add, List.nil_append] at ho; exact ho)
              have hc3 : Below wa.heap.size wa c3 := hc2.grown hgr hc2.size (fun k hk => (e59.own.lt k hk).1)
              replace n72 := n72.gr e59 hgr
              clear ho hgr e59
              try clear hc2
              try clear c2
              have hbx := HUA.out.below hc3
              refine hK.out _ _ ⟨hbx.2.1.2.1, hbx.2.1.2.2.1⟩ (fun hzz => ?_)
              clear hzz hK K hbx
              try simp only [Act.put, List.setIfInBounds_toArray, List.set_cons_zero, List.set_cons_succ]
              revert o62
              revert n72
              revert hc3
              revert c3
              revert v72
              revert v62
              revert v59
              exact rest.out
    intro v59 v62 v72 cw hc n72 o62
    refine wpAnyH_ready (rs := [14]) (by kernel_rfl) (by simp) ?_
    refine AllReadyH.cons (o := ⟨some 73, Op.call ⟨Callee.builtin Builtin.append, #[Operand.tmp 62, Operand.tmp 72], #[22, 22]⟩, 22, _, _, none⟩) rfl (fun K hK => ?_) AllReadyH.nil
    refine step_append_may rfl (.tmp 62) (.tmp 72) 22 rfl wa.heap.size 38 i0 (.agg #[.int .i64 0, .string ⟨#[]⟩, .string ⟨#[]⟩, .int .i64 0, .int .i64 0]) 5 56 Try.underlying22 hi0 hz0 hz1 hz2 rfl (by decide) v62 M.length (Pp.flatS M) rfl o62.row v72 1 (Pp.cellsS (Pp.newS x p size (now + l))) rfl n72.src (Pp.cellsS_one _) (by unfold maxLen; omega) (by omega) hc.size ?_
    intro v73 w2 ho2 hgr2
    rw [Pp.flatS_snoc] at ho2
    have ho3 : w2.ownsRow wa.heap.size 38 5 v73 (M ++ [Pp.newS x p size (now + l)]).length (Pp.flatS (M ++ [Pp.newS x p size (now + l)])) := by rw [List.length_append]; exact ho2
    have HO2 := ghid (ownS_of ho3)
    have hc2 : Below wa.heap.size wa w2 := hc.grown hgr2 hc.size (fun k hk => (o62.row.lt k hk).1)
    obtain ⟨g5, cap6, hv2⟩ : ∃ g5 cap6, v73 = .slice (some ⟨g5, 0, none⟩) (M ++ [Pp.newS x p size (now + l)]).length cap6 := by
      rcases HO2.out with ⟨_, hnil⟩ | ⟨g5, cap6, h5, _⟩
      · simp at hnil
      · exact ⟨g5, cap6, h5⟩
    subst hv2
    have hlen9 : (M ++ [Pp.newS x p size (now + l)]).length = M.length + 1 := by simp
    rw [hlen9]
    have HL9 := ghid hlen9
    clear ho2 ho3 hgr2 o62 n72 hc hlen9
    have hbx := HUA.out.below hc2
    refine hK.out _ _ ⟨hbx.2.1.2.1, hbx.2.1.2.2.1⟩ (fun hHeld => ?_)
    clear hK K hbx
    try simp only [Act.put, List.setIfInBounds_toArray, List.set_cons_zero, List.set_cons_succ]
    refine wpAnyH_take (i := 15) (oi := ⟨some 74, Op.fieldAddr 24 (Operand.tmp 4) 0, 0, _, _, none⟩) (v := ?_) rfl (by kernel_rfl) (by kernel_rfl) (by kernel_rfl) (fun _ _ _ h => h) (Or.inl ⟨by rfl, ?_⟩) hHeld ?_
    rotate_left
    · (intro W hSw; obtain ⟨t1, t2⟩ := hSw; go_simp <;> with_reducible rfl)
    try simp only [Act.put, List.setIfInBounds_toArray, List.set_cons_zero, List.set_cons_succ]
    have hwx1 : IntKind.i64.wrap (x + 1) = x + 1 := by rw [IntKind.wrap_i64]; omega
    have hwx2 : IntKind.i64.wrap (x + 1 - 1) = x := by rw [IntKind.wrap_i64]; omega
    obtain ⟨hUb2, ⟨q0, q1, q2, q3⟩, k0, k1, k2, k3⟩ := HUA.out.below hc2
    refine wpAnyH_ready (rs := [16]) (by kernel_rfl) (by simp) ?_
    refine AllReadyH.cons (o := ⟨none, Op.store 22 (Operand.tmp 74) (Operand.tmp 73), 0, _, _, none⟩) rfl (fun K hK => ?_) AllReadyH.nil
    go_simp
    refine hK.out _ _ ⟨by simpa [go_sem] using q1, by simpa [go_sem] using q2⟩ (fun hzz => ?_)
    clear hzz hK K
    try simp only [Act.put, List.setIfInBounds_toArray, List.set_cons_zero, List.set_cons_succ]
    refine wpAnyH_done (by kernel_rfl) ?_ _
    have hwa2 := hc2.size
    have hwlt : w.heap.size < wa.heap.size := by have := hUb; omega
    obtain ⟨wz, hwz⟩ : ∃ wz, wz = (w2.setCell ⟨w.heap.size, 0, none⟩ (.slice (some ⟨g5, 0, none⟩) (M.length + 1) cap6)).setCell ⟨w.heap.size, 1, none⟩ (.int .i64 (x + 1)) := ⟨_, rfl⟩
    have hnbz : w2.grownBy wz (some w.heap.size) := by rw [hwz]; exact Nb.trans (Nb.setCell _ _ _ _) (Nb.setCell _ _ _ _)
    have HRZ := ghid ((HRA.out.below hc2).nb hnbz (by omega))
    have z0 : wz.cell? ⟨w.heap.size, 0, none⟩ = some (.slice (some ⟨g5, 0, none⟩) (M.length + 1) cap6) := by rw [hwz]; simp [go_sem, q0, q1]
    have z1 : wz.cell? ⟨w.heap.size, 1, none⟩ = some (.int .i64 (x + 1)) := by rw [hwz]; simp [go_sem, q0, q1]
    have z2 : wz.cell? ⟨w.heap.size, 2, none⟩ = some (.int .i64 l) := by rw [hwz]; simp [go_sem, q2]
    have z3 : wz.cell? ⟨w.heap.size, 3, none⟩ = some (.int .i64 r) := by rw [hwz]; simp [go_sem, q3]
    have hb0z : Below w.heap.size w wz := (hb0a.trans (hc2.mono hb0a.size)).trans (Nb.to hnbz (hb0a.trans (hc2.mono hb0a.size)).size (Nat.le_refl _))
    have HOZ : Hid (OwnS wa.heap.size wz (.slice (some ⟨g5, 0, none⟩) (M.length + 1) cap6) (M ++ [Pp.newS x p size (now + l)])) := (by
      have h := HO2.out.nb hnbz hwlt
      rw [HL9.out] at h
      exact h : OwnS wa.heap.size wz (.slice (some ⟨g5, 0, none⟩) (M.length + 1) cap6) (M ++ [Pp.newS x p size (now + l)]))
    clear HO2 HUA HOA HRA hnbz
    go_wp2_with fail
    rw [← hwz]
    clear hwz q0 q1 q2 q3 k0 k1 k2 k3 hHeld
    obtain ⟨hRb, ⟨c0, c1, c2, c3⟩, f0, f1, f2, f3⟩ := HRZ.out
    go_region
    go_wp2_with fail
    refine bodyPost_ret (v := .tuple #[.agg #[.slice (some ⟨g5, 0, none⟩) (M.length + 1) cap6, .int .i64 (x + 1), .int .i64 l, .int .i64 r], .int .i64 x, .int .i64 0]) (by simp [results, Try.results8, go_sem, c0, c1, c2, c3, hRb]) rfl ⟨_, rfl, ?_, ?_⟩
    · rw [← HMM.out]
      exact ((HOZ.out.nb (Nb.set4 _ (w.heap.size + 1) _ _ _ _) (by omega)).below (Below.refl _ _).drew).mono (by omega)
    · exact (below_set4 (b := w.heap.size + 1) hb0z (by omega)).drew
end Go.Proofs.Ytnaedemkpiagmaa
