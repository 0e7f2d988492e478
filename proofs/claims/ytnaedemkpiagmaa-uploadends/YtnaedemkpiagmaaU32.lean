/- What the reference's FinishUpload answers. -/
import Derived.Test.YtnaedemkpiagmaaU23
import Derived.Test.YtnaedemkpiagmaaU22
import Derived.Test.YtnaedemkpiagmaaUReg
import Derived.Deep.Cut
import Derived.Deep.RegionHeld3
set_option linter.unusedSimpArgs false
set_option linter.unusedVariables false
namespace Go.Proofs.Ytnaedemkpiagmaa
open Go.RowKit

theorem Pp.flatS_append (A B : List Se) : Pp.flatS (A ++ B) = Pp.flatS A ++ Pp.flatS B := by simp [Pp.flatS]
/-- What comes of a session that is finished. -/
def FiPost (M : List Se) (kk : Nat) (s : Se) (x l r : Int) (w : World) (e : Ending) (w' : World) : Prop := (¬ (s.tx.size : Int) = s.si ∧ e = .returned (.tuple #[.agg #[.slice none 0 0, .int .i64 0, .int .i64 0, .int .i64 0], .string ⟨#[]⟩, .int .i64 4]) ∧ Below w.heap.size w w') ∨ ((s.tx.size : Int) = s.si ∧ ∃ u, e = .returned (.tuple #[.agg #[u, .int .i64 x, .int .i64 l, .int .i64 r], .string s.tx, .int .i64 0]) ∧ OwnS w.heap.size w' u (M.take kk ++ M.drop (kk + 1)) ∧ Below w.heap.size w w')
theorem FiPost.e4 {M : List Se} {kk : Nat} {s : Se} {x l r : Int} {w w' : World} (h : ¬ (s.tx.size : Int) = s.si) (hb : Below w.heap.size w w') : FiPost M kk s x l r w (.returned (.tuple #[.agg #[.slice none 0 0, .int .i64 0, .int .i64 0, .int .i64 0], .string ⟨#[]⟩, .int .i64 4])) w' := Or.inl ⟨h, rfl, hb⟩
theorem FiPost.ok {M : List Se} {kk : Nat} {s : Se} {x l r : Int} {w w' : World} {u : Value} (h : (s.tx.size : Int) = s.si) (ho : OwnS w.heap.size w' u (M.take kk ++ M.drop (kk + 1))) (hb : Below w.heap.size w w') : FiPost M kk s x l r w (.returned (.tuple #[.agg #[u, .int .i64 x, .int .i64 l, .int .i64 r], .string s.tx, .int .i64 0])) w' := Or.inr ⟨h, u, rfl, ho, hb⟩

set_option maxRecDepth 100000 in
set_option maxHeartbeats 8000000 in
theorem finishRef_rest (G : List Se) (v : Value) (x l r : Int) (p : ByteArray) (n : Int) (now : Int) (w : World) (hv : LiesS w v G) (hs : SizedS G) (hp : p.size ≤ 150000000000000) (h0 : Pp.fiE G x l r p n now = 0) (M : List Se) (hM : Pp.swL now G = M) (kk : Nat) (hkk : kk < M.length) (hidx : Pp.idS M (Pp.mine n p) = (kk : Int)) (s : Se) (hS : M[kk] = s)  :
    Calls Try.prog 16 #[.agg #[v, .int .i64 x, .int .i64 l, .int .i64 r], .string p, .int .i64 n, .int .i64 now] w fun e w' => FiPost M kk s x l r w e w' := by
  have HV := ghid hv
  have HS := ghid hs
  obtain ⟨av, capv, rfl, _⟩ := hv
  clear hs
  obtain ⟨w3, hw3⟩ : ∃ w3, w3 = (w.alloc (.cells #[.slice av G.length capv, .int .i64 x, .int .i64 l, .int .i64 r] 24)).alloc (.cells #[.slice none 0 0, .int .i64 0, .int .i64 0, .int .i64 0] 24) := ⟨_, rfl⟩
  have B3 : Hid (Below w.heap.size w w3) := (by rw [hw3]; exact ((Below.refl _ _).alloc (Nat.le_refl _) _).alloc (by simp) _ : Below w.heap.size w w3)
  have HU3 : Hid (Bx w3 w.heap.size (.slice av G.length capv) (.int .i64 x) (.int .i64 l) (.int .i64 r)) := (by rw [hw3]; exact (Bx.new w _ _ _ _ _).below ((Below.refl _ _).alloc (Nat.le_refl _) _) : Bx w3 w.heap.size (.slice av G.length capv) (.int .i64 x) (.int .i64 l) (.int .i64 r))
  have HR3 : Hid (Bx w3 (w.heap.size + 1) (.slice none 0 0) (.int .i64 0) (.int .i64 0) (.int .i64 0)) := (by
    have := Bx.new (w.alloc (.cells #[.slice av G.length capv, .int .i64 x, .int .i64 l, .int .i64 r] 24)) (.slice none 0 0) (.int .i64 0) (.int .i64 0) (.int .i64 0) 24
    rw [hw3]; simpa using this : Bx w3 (w.heap.size + 1) (.slice none 0 0) (.int .i64 0) (.int .i64 0) (.int .i64 0))
  have hsz3 : w3.heap.size = w.heap.size + 2 := by rw [hw3]; simp
  obtain ⟨i0, hi0, hz0, hz1, hz2⟩ := info_parts Try.infoS
  have H0 := ghid h0
  have HI := ghid hidx
  have HMM := ghid hM
  obtain ⟨huc, ⟨hn1, hn2⟩, _⟩ := Pp.go_zero (Pp.fi_zero h0)
  obtain ⟨hl20, ⟨hl1, hl2⟩, ⟨hr1, hr2⟩, hx1, hx2⟩ := Pp.bnd_zero (Pp.uch_zero huc).1
  have hsw : M.length ≤ G.length := by rw [← hM]; exact Pp.swL_len now G
  have hmem : s ∈ Pp.swL now G := by rw [hM, ← hS]; exact List.getElem_mem hkk
  have hse := Pp.se_zero (Pp.ses_mem.1 (Pp.uch_zero huc).2.1 _ (List.mem_filter.1 hmem).1)
  obtain ⟨hsi1, hsi2⟩ := Pp.inR_yes hse.2.1
  have htx := hse.2.2.2.2
  have HS9 := ghid hS
  clear h0 huc hse hidx hM hmem hS
  go_enter Try.func16, Try.ntmps16
  go_wp2_with fail
  rw [← hw3]
  clear hw3
  refine (mineOf_any G _ x l r p n now _ (HV.out.below B3.out) HS.out hp).mono ?_
  rintro e w4 (⟨hne, _⟩ | ⟨_, u, k, rfl, hk, hid, hown, hb4⟩)
  · exact absurd H0.out hne
  rw [HMM.out] at hk hid hown
  obtain rfl : k = kk := by have := HI.out; rw [hid] at this; omega
  have hb04 := B3.out.trans (hb4.mono B3.out.size)
  have HU4 := ghid (HU3.out.below hb4)
  have HR4 := ghid (HR3.out.below hb4)
  have hsz4 := hb4.size
  clear hb4 hid
  rcases hown with ⟨_, hnil⟩ | ⟨g, cap, rfl, hg1, hg2, hrow, hblk, hcm⟩
  · simp [hnil] at hk
  have hglt := hrow.1
  have hS := HS9.out
  have hkM := hk
  clear hk
  obtain ⟨wq, hwq⟩ : ∃ wq, wq = ((((w4.setCell ⟨w.heap.size, 0, none⟩ (.slice (some ⟨g, 0, none⟩) M.length cap)).setCell ⟨w.heap.size, 1, none⟩ (.int .i64 x)).setCell ⟨w.heap.size, 2, none⟩ (.int .i64 l)).setCell ⟨w.heap.size, 3, none⟩ (.int .i64 r)) := ⟨_, rfl⟩
  have hnbq : w4.grownBy wq (some w.heap.size) := by rw [hwq]; exact Nb.set4 _ _ _ _ _ _
  have hUQ : Bx wq w.heap.size (.slice (some ⟨g, 0, none⟩) M.length cap) (.int .i64 x) (.int .i64 l) (.int .i64 r) := by
    obtain ⟨hWb, ⟨d0, d1, d2, d3⟩, e0, e1, e2, e3⟩ := HU4.out
    rw [hwq]
    exact ⟨by simpa using hWb, ⟨by simp [go_sem, d0, d1, d2, d3], by simp [go_sem, d0, d1, d2, d3], by simp [go_sem, d0, d1, d2, d3], by simp [go_sem, d0, d1, d2, d3]⟩, by simpa using e0, by simpa using e1, by simpa using e2, by simpa using e3⟩
  have HUQ := ghid hUQ
  have HRQ := ghid (HR4.out.nb hnbq (by omega))
  have HROWQ := ghid (hrow.nb hnbq (by omega))
  have hb0q : Below w.heap.size w wq := hb04.trans (Nb.to hnbq hb04.size (Nat.le_refl _))
  have hszq := hnbq.size
  obtain ⟨hdb, ⟨d0, d1, d2, d3⟩, e0, e1, e2, e3⟩ := HU4.out
  clear hrow hblk hnbq hb04 hUQ
  have hsl : s.tx.size ≤ 300 := by omega
  have hki : (k : Int) < (M.length : Int) := by omega
  go_upto_region 2 with fail
  rw [← hwq]
  clear hwq d0 d1 d2 d3 e0 e1 e2 e3 hdb
  obtain ⟨hQb, ⟨v0, v1, v2, v3⟩, g0, g1, g2, g3⟩ := HUQ.out
  obtain ⟨t0, t1, t2, t3, t4⟩ := HROWQ.out.at hkM
  rw [hS] at t0 t1 t2 t3 t4
  clear hS
  obtain ⟨ws, hws⟩ : ∃ ws, ws = wq.alloc (.cells #[.int .i64 s.nu, .string s.wh, .string s.tx, .int .i64 s.si, .int .i64 s.ti] 38) := ⟨_, rfl⟩
  have hbs : Below wq.heap.size wq ws := by rw [hws]; exact (Below.refl _ _).alloc (Nat.le_refl _) _
  have HUS := ghid (HUQ.out.below hbs)
  have HRS := ghid (HRQ.out.below hbs)
  have HROWS := ghid (HROWQ.out.below hbs)
  have hb0s := hb0q.trans (hbs.mono hb0q.size)
  have hszs : ws.heap.size = wq.heap.size + 1 := by rw [hws]; simp
  have s0 : ws.cell? ⟨wq.heap.size, 0, none⟩ = some (.int .i64 s.nu) := by rw [hws]; simp
  have s1 : ws.cell? ⟨wq.heap.size, 1, none⟩ = some (.string s.wh) := by rw [hws]; simp
  have s2 : ws.cell? ⟨wq.heap.size, 2, none⟩ = some (.string s.tx) := by rw [hws]; simp
  have s3 : ws.cell? ⟨wq.heap.size, 3, none⟩ = some (.int .i64 s.si) := by rw [hws]; simp
  have s4 : ws.cell? ⟨wq.heap.size, 4, none⟩ = some (.int .i64 s.ti) := by rw [hws]; simp
  have m2 : ws.frozen? ⟨wq.heap.size, 2, none⟩ = false := by rw [hws]; exact World.frozen?_alloc_at _ _ _ _ rfl
  have m4 : ws.frozen? ⟨wq.heap.size, 4, none⟩ = false := by rw [hws]; exact World.frozen?_alloc_at _ _ _ _ rfl
  have HSB := ghid (And.intro (And.intro s0 (And.intro s1 (And.intro s2 (And.intro s3 s4)))) (And.intro m2 m4))
  clear s0 s1 s2 s3 s4 m2 m4 hbs
  go_upto_region 5 with fail
  rw [← hws]
  clear hws t0 t1 t2 t3 t4 v0 v1 v2 v3 g0 g1 g2 g3 HROWQ HUQ HRQ
  obtain ⟨⟨s0, s1, s2, s3, s4⟩, m2, m4⟩ := HSB.out
  by_cases hsz : (s.tx.size : Int) = s.si
  · have HEQ := ghid hsz
    have hne : ((s.tx.size : Int) != s.si) = false := by simpa using hsz
    clear hsz
    have HSR1 : Hid (∀ W, Below ws.heap.size ws W → Src5 W (.slice (some ⟨g, 0, none⟩) k cap) k 5 (Pp.flatS (M.take k))) := (fun W hW => Or.inr ⟨⟨g, 0, none⟩, cap, rfl, by rw [Pp.flatS_len, List.length_take, Nat.min_eq_left (by omega)], liesS_cells (b := g) (o := 0) (L := M.take k) (fun i hi => by rw [Nat.zero_add]; exact ((HROWS.out.below hW).take k).at hi)⟩ : ∀ W, Below ws.heap.size ws W → Src5 W (.slice (some ⟨g, 0, none⟩) k cap) k 5 (Pp.flatS (M.take k)))
    have hwk : IntKind.i64.wrap ((k : Int) + 1) = (k : Int) + 1 := by rw [IntKind.wrap_i64]; omega
    have hk0 : (0 : Int) ≤ (k : Int) := by omega
    have hk1 : (k : Int) ≤ (cap : Int) := by omega
    have hk2 : (0 : Int) ≤ (k : Int) + 1 := by omega
    have hk3 : (k : Int) + 1 ≤ (M.length : Int) := by omega
    have hk4 : (M.length : Int) ≤ (cap : Int) := by omega
    have hk5 : k + 1 ≤ cap := by omega
    have hk6 : k ≤ cap := by omega
    go_upto_region 7 with fail
    clear s0 s1 s2 s3 s4 m2 m4
    by_cases hcj : cap = k + 1
    · subst hcj
      have hM1 : k ≤ k + 1 := by omega
      have hM2 : (k : Int) ≤ (k : Int) + 1 := by omega
      have HSRC : Hid (∀ W, Below ws.heap.size ws W → Src5 W (.slice (some ⟨g, 0, none⟩) 0 0) 0 5 (Pp.flatS (M.drop (k + 1)))) := (fun W hW => Or.inr ⟨⟨g, 0, none⟩, _, rfl, by rw [Pp.flatS_len, List.length_drop]; omega, fun j u hj => by
        have : M.drop (k + 1) = [] := List.drop_eq_nil_iff.2 (by omega)
        rw [this] at hj; simp [Pp.flatS] at hj⟩ : ∀ W, Below ws.heap.size ws W → Src5 W (.slice (some ⟨g, 0, none⟩) 0 0) 0 5 (Pp.flatS (M.drop (k + 1))))
      have HSR2 : Hid (∀ W, Below ws.heap.size ws W → Src5 W (.slice (some ⟨g, 0, none⟩) 0 0) 0 5 (Pp.flatS (M.drop (k + 1)))) := (fun W hW => HSRC.out W hW : ∀ W, Below ws.heap.size ws W → Src5 W (.slice (some ⟨g, 0, none⟩) 0 0) 0 5 (Pp.flatS (M.drop (k + 1))))
      refine wp_region_held_drew (S := fun _ => True) (by kernel_rfl) trivial (fun hHeld => ?_)
      change wpAnyH _ _ _ _ _ 14 #[false, false, false, false, false, false, false, false, false, false, false, false, false, false] _ _
      have hc0 : Below ws.heap.size ws ws.drew := (Below.refl _ _).drew
      generalize ws.drew = c0 at hc0 ⊢
      refine wpAnyH_take (i := 1) (oi := ⟨some 40, Op.fieldAddr 24 (Operand.tmp 4) 0, 0, _, _, none⟩) (v := ?_) rfl (by kernel_rfl) (by kernel_rfl) (by kernel_rfl) (fun _ _ _ h => h) (Or.inl ⟨by rfl, ?_⟩) trivial ?_
      rotate_left
      · (intro W hSw; go_simp <;> with_reducible rfl)
      try simp only [Act.put, List.setIfInBounds_toArray, List.set_cons_zero, List.set_cons_succ]
      refine wpAnyH_take (i := 3) (oi := ⟨some 42, Op.move (Operand.tmp 11), 3, _, _, none⟩) (v := ?_) rfl (by kernel_rfl) (by kernel_rfl) (by kernel_rfl) (fun _ _ _ h => h) (Or.inl ⟨by rfl, ?_⟩) trivial ?_
      rotate_left
      · (intro W hSw; go_simp <;> with_reducible rfl)
      try simp only [Act.put, List.setIfInBounds_toArray, List.set_cons_zero, List.set_cons_succ]
      refine wpAnyH_take (i := 6) (oi := ⟨some 45, Op.fieldAddr 24 (Operand.tmp 4) 0, 0, _, _, none⟩) (v := ?_) rfl (by kernel_rfl) (by kernel_rfl) (by kernel_rfl) (fun _ _ _ h => h) (Or.inl ⟨by rfl, ?_⟩) trivial ?_
      rotate_left
      · (intro W hSw; go_simp <;> with_reducible rfl)
      try simp only [Act.put, List.setIfInBounds_toArray, List.set_cons_zero, List.set_cons_succ]
      refine wpAnyH_take (i := 8) (oi := ⟨some 47, Op.move (Operand.tmp 11), 3, _, _, none⟩) (v := ?_) rfl (by kernel_rfl) (by kernel_rfl) (by kernel_rfl) (fun _ _ _ h => h) (Or.inl ⟨by rfl, ?_⟩) trivial ?_
      rotate_left
      · (intro W hSw; go_simp <;> with_reducible rfl)
      try simp only [Act.put, List.setIfInBounds_toArray, List.set_cons_zero, List.set_cons_succ]
      refine wpAnyH_take (i := 9) (oi := ⟨some 48, Op.binOp BinOp.add 3 (Operand.tmp 47) (Operand.const (Value.int IntKind.i64 1)) 3, 3, _, _, none⟩) (v := ?_) rfl (by kernel_rfl) (by kernel_rfl) (by kernel_rfl) (fun _ _ _ h => h) (Or.inl ⟨by rfl, ?_⟩) trivial ?_
      rotate_left
      · (intro W hSw; go_simp <;> with_reducible rfl)
      try simp only [Act.put, List.setIfInBounds_toArray, List.set_cons_zero, List.set_cons_succ]
      refine later (p := ?_) (fun rest => ?_) ?_
      rotate_left
      · skip
        refine wpAnyH_ready (rs := [0, 2, 7]) (by kernel_rfl) (by simp) ?_
        refine AllReadyH.cons (o := ⟨some 39, Op.buildSlice 22 0 #[], 22, _, _, none⟩) rfl (fun K hK => ?_) (AllReadyH.cons (o := ⟨some 41, Op.load 22 (Operand.tmp 40), 22, _, _, none⟩) rfl (fun K hK => ?_) (AllReadyH.cons (o := ⟨some 46, Op.load 22 (Operand.tmp 45), 22, _, _, none⟩) rfl (fun K hK => ?_) (AllReadyH.nil)))
        · skip
          go_simp
          generalize hwz : World.alloc c0 (.cells #[] 38) = c1
          have hz : Below c0.heap.size c0 c1 := hwz ▸ (Below.refl _ _).alloc (Nat.le_refl _) _
          have hc1 : Below ws.heap.size ws c1 := below_trans hc0 hz
          have e39 : Emp5 ws.heap.size c1 (.slice (some ⟨c0.heap.size, 0, none⟩) 0 0) := Emp5.new hwz hc0.size
          clear hwz hz
          generalize Value.slice (some (Addr.mk c0.heap.size 0 none)) 0 0 = v39 at e39 ⊢
          try clear hc0
          try clear c0
          refine hK.out _ _ trivial (fun hzz => ?_)
          clear hzz hK K
          try simp only [Act.put, List.setIfInBounds_toArray, List.set_cons_zero, List.set_cons_succ]
          refine wpAnyH_ready (rs := [2, 7]) (by kernel_rfl) (by simp) ?_
          refine AllReadyH.cons (o := ⟨some 41, Op.load 22 (Operand.tmp 40), 22, _, _, none⟩) rfl (fun K hK => ?_) (AllReadyH.cons (o := ⟨some 46, Op.load 22 (Operand.tmp 45), 22, _, _, none⟩) rfl (fun K hK => ?_) (AllReadyH.nil))
          · skip
            obtain ⟨f9, ⟨f0, f1, f2, f3⟩, f8⟩ := HUS.out.below hc1
            go_simp
            refine hK.out _ _ trivial (fun hzz => ?_)
            clear hzz hK K f0 f1 f2 f3 f8 f9
            try simp only [Act.put, List.setIfInBounds_toArray, List.set_cons_zero, List.set_cons_succ]
            refine wpAnyH_take (i := 4) (oi := ⟨some 43, Op.slice 22 (Operand.tmp 41) none (some (Operand.tmp 42)) none, 22, _, _, none⟩) (v := ?_) rfl (by kernel_rfl) (by kernel_rfl) (by kernel_rfl) (fun _ _ _ h => h) (Or.inl ⟨by rfl, ?_⟩) trivial ?_
            rotate_left
            · (intro W hSw; go_simp <;> with_reducible rfl)
            try simp only [Act.put, List.setIfInBounds_toArray, List.set_cons_zero, List.set_cons_succ]
            refine wpAnyH_ready (rs := [5, 7]) (by kernel_rfl) (by simp) ?_
            refine AllReadyH.cons (o := ⟨some 44, Op.call ⟨Callee.builtin Builtin.append, #[Operand.tmp 39, Operand.tmp 43], #[22, 22]⟩, 22, _, _, none⟩) rfl (fun K hK => ?_) (AllReadyH.cons (o := ⟨some 46, Op.load 22 (Operand.tmp 45), 22, _, _, none⟩) rfl (fun K hK => ?_) (AllReadyH.nil))
            · skip
              refine step_append_may rfl (.tmp 39) (.tmp 43) 22 rfl ws.heap.size 38 i0 (.agg #[.int .i64 0, .string ⟨#[]⟩, .string ⟨#[]⟩, .int .i64 0, .int .i64 0]) 5 56 Try.underlying22 hi0 hz0 hz1 hz2 rfl (by decide) v39 0 [] rfl e39.own _ k (Pp.flatS (M.take k)) rfl (HSR1.out _ hc1) (flatS_one _) (by unfold maxLen; omega) (by omega) hc1.size ?_
              intro v44 c2 ho hgr
              have o44 : OwnS ws.heap.size c2 v44 (M.take k) := ownS_of (by rw [List.length_take, Nat.min_eq_left (by omega)]; rw [Nat.zero_add, List.nil_append] at ho; exact ho)
              have hc2 : Below ws.heap.size ws c2 := hc1.grown hgr hc1.size (fun k hk => (e39.own.lt k hk).1)
              clear ho hgr e39
              try clear hc1
              try clear c1
              refine hK.out _ _ trivial (fun hzz => ?_)
              clear hzz hK K
              try simp only [Act.put, List.setIfInBounds_toArray, List.set_cons_zero, List.set_cons_succ]
              refine wpAnyH_ready (rs := [7]) (by kernel_rfl) (by simp) ?_
              refine AllReadyH.cons (o := ⟨some 46, Op.load 22 (Operand.tmp 45), 22, _, _, none⟩) rfl (fun K hK => ?_) (AllReadyH.nil)
              · skip
                obtain ⟨f9, ⟨f0, f1, f2, f3⟩, f8⟩ := HUS.out.below hc2
                go_simp
                refine hK.out _ _ trivial (fun hzz => ?_)
                clear hzz hK K f0 f1 f2 f3 f8 f9
                try simp only [Act.put, List.setIfInBounds_toArray, List.set_cons_zero, List.set_cons_succ]
                refine wpAnyH_take (i := 10) (oi := ⟨some 49, Op.slice 22 (Operand.tmp 46) (some (Operand.tmp 48)) none none, 22, _, _, none⟩) (v := ?_) rfl (by kernel_rfl) (by kernel_rfl) (by kernel_rfl) (fun _ _ _ h => h) (Or.inl ⟨by rfl, ?_⟩) trivial ?_
                rotate_left
                · (intro W hSw; go_simp <;> with_reducible rfl)
                try simp only [Act.put, List.setIfInBounds_toArray, List.set_cons_zero, List.set_cons_succ]
                revert o44
                revert hc2
                revert c2
                revert v44
                revert v39
                exact rest.out
            · skip
              obtain ⟨f9, ⟨f0, f1, f2, f3⟩, f8⟩ := HUS.out.below hc1
              go_simp
              refine hK.out _ _ trivial (fun hzz => ?_)
              clear hzz hK K f0 f1 f2 f3 f8 f9
              try simp only [Act.put, List.setIfInBounds_toArray, List.set_cons_zero, List.set_cons_succ]
              refine wpAnyH_take (i := 10) (oi := ⟨some 49, Op.slice 22 (Operand.tmp 46) (some (Operand.tmp 48)) none none, 22, _, _, none⟩) (v := ?_) rfl (by kernel_rfl) (by kernel_rfl) (by kernel_rfl) (fun _ _ _ h => h) (Or.inl ⟨by rfl, ?_⟩) trivial ?_
              rotate_left
              · (intro W hSw; go_simp <;> with_reducible rfl)
              try simp only [Act.put, List.setIfInBounds_toArray, List.set_cons_zero, List.set_cons_succ]
              refine wpAnyH_ready (rs := [5]) (by kernel_rfl) (by simp) ?_
              refine AllReadyH.cons (o := ⟨some 44, Op.call ⟨Callee.builtin Builtin.append, #[Operand.tmp 39, Operand.tmp 43], #[22, 22]⟩, 22, _, _, none⟩) rfl (fun K hK => ?_) (AllReadyH.nil)
              · skip
                refine step_append_may rfl (.tmp 39) (.tmp 43) 22 rfl ws.heap.size 38 i0 (.agg #[.int .i64 0, .string ⟨#[]⟩, .string ⟨#[]⟩, .int .i64 0, .int .i64 0]) 5 56 Try.underlying22 hi0 hz0 hz1 hz2 rfl (by decide) v39 0 [] rfl e39.own _ k (Pp.flatS (M.take k)) rfl (HSR1.out _ hc1) (flatS_one _) (by unfold maxLen; omega) (by omega) hc1.size ?_
                intro v44 c2 ho hgr
                have o44 : OwnS ws.heap.size c2 v44 (M.take k) := ownS_of (by rw [List.length_take, Nat.min_eq_left (by omega)]; rw [Nat.zero_add, List.nil_append] at ho; exact ho)
                have hc2 : Below ws.heap.size ws c2 := hc1.grown hgr hc1.size (fun k hk => (e39.own.lt k hk).1)
                clear ho hgr e39
                try clear hc1
                try clear c1
                refine hK.out _ _ trivial (fun hzz => ?_)
                clear hzz hK K
                try simp only [Act.put, List.setIfInBounds_toArray, List.set_cons_zero, List.set_cons_succ]
                revert o44
                revert hc2
                revert c2
                revert v44
                revert v39
                exact rest.out
          · skip
            obtain ⟨f9, ⟨f0, f1, f2, f3⟩, f8⟩ := HUS.out.below hc1
            go_simp
            refine hK.out _ _ trivial (fun hzz => ?_)
            clear hzz hK K f0 f1 f2 f3 f8 f9
            try simp only [Act.put, List.setIfInBounds_toArray, List.set_cons_zero, List.set_cons_succ]
            refine wpAnyH_take (i := 10) (oi := ⟨some 49, Op.slice 22 (Operand.tmp 46) (some (Operand.tmp 48)) none none, 22, _, _, none⟩) (v := ?_) rfl (by kernel_rfl) (by kernel_rfl) (by kernel_rfl) (fun _ _ _ h => h) (Or.inl ⟨by rfl, ?_⟩) trivial ?_
            rotate_left
            · (intro W hSw; go_simp <;> with_reducible rfl)
            try simp only [Act.put, List.setIfInBounds_toArray, List.set_cons_zero, List.set_cons_succ]
            refine wpAnyH_ready (rs := [2]) (by kernel_rfl) (by simp) ?_
            refine AllReadyH.cons (o := ⟨some 41, Op.load 22 (Operand.tmp 40), 22, _, _, none⟩) rfl (fun K hK => ?_) (AllReadyH.nil)
            · skip
              obtain ⟨f9, ⟨f0, f1, f2, f3⟩, f8⟩ := HUS.out.below hc1
              go_simp
              refine hK.out _ _ trivial (fun hzz => ?_)
              clear hzz hK K f0 f1 f2 f3 f8 f9
              try simp only [Act.put, List.setIfInBounds_toArray, List.set_cons_zero, List.set_cons_succ]
              refine wpAnyH_take (i := 4) (oi := ⟨some 43, Op.slice 22 (Operand.tmp 41) none (some (Operand.tmp 42)) none, 22, _, _, none⟩) (v := ?_) rfl (by kernel_rfl) (by kernel_rfl) (by kernel_rfl) (fun _ _ _ h => h) (Or.inl ⟨by rfl, ?_⟩) trivial ?_
              rotate_left
              · (intro W hSw; go_simp <;> with_reducible rfl)
              try simp only [Act.put, List.setIfInBounds_toArray, List.set_cons_zero, List.set_cons_succ]
              refine wpAnyH_ready (rs := [5]) (by kernel_rfl) (by simp) ?_
              refine AllReadyH.cons (o := ⟨some 44, Op.call ⟨Callee.builtin Builtin.append, #[Operand.tmp 39, Operand.tmp 43], #[22, 22]⟩, 22, _, _, none⟩) rfl (fun K hK => ?_) (AllReadyH.nil)
              · skip
                refine step_append_may rfl (.tmp 39) (.tmp 43) 22 rfl ws.heap.size 38 i0 (.agg #[.int .i64 0, .string ⟨#[]⟩, .string ⟨#[]⟩, .int .i64 0, .int .i64 0]) 5 56 Try.underlying22 hi0 hz0 hz1 hz2 rfl (by decide) v39 0 [] rfl e39.own _ k (Pp.flatS (M.take k)) rfl (HSR1.out _ hc1) (flatS_one _) (by unfold maxLen; omega) (by omega) hc1.size ?_
                intro v44 c2 ho hgr
                have o44 : OwnS ws.heap.size c2 v44 (M.take k) := ownS_of (by rw [List.length_take, Nat.min_eq_left (by omega)]; rw [Nat.zero_add, List.nil_append] at ho; exact ho)
                have hc2 : Below ws.heap.size ws c2 := hc1.grown hgr hc1.size (fun k hk => (e39.own.lt k hk).1)
                clear ho hgr e39
                try clear hc1
                try clear c1
                refine hK.out _ _ trivial (fun hzz => ?_)
                clear hzz hK K
                try simp only [Act.put, List.setIfInBounds_toArray, List.set_cons_zero, List.set_cons_succ]
                revert o44
                revert hc2
                revert c2
                revert v44
                revert v39
                exact rest.out
        · skip
          obtain ⟨f9, ⟨f0, f1, f2, f3⟩, f8⟩ := HUS.out.below hc0
          go_simp
          refine hK.out _ _ trivial (fun hzz => ?_)
          clear hzz hK K f0 f1 f2 f3 f8 f9
          try simp only [Act.put, List.setIfInBounds_toArray, List.set_cons_zero, List.set_cons_succ]
          refine wpAnyH_take (i := 4) (oi := ⟨some 43, Op.slice 22 (Operand.tmp 41) none (some (Operand.tmp 42)) none, 22, _, _, none⟩) (v := ?_) rfl (by kernel_rfl) (by kernel_rfl) (by kernel_rfl) (fun _ _ _ h => h) (Or.inl ⟨by rfl, ?_⟩) trivial ?_
          rotate_left
          · (intro W hSw; go_simp <;> with_reducible rfl)
          try simp only [Act.put, List.setIfInBounds_toArray, List.set_cons_zero, List.set_cons_succ]
          refine wpAnyH_ready (rs := [0, 7]) (by kernel_rfl) (by simp) ?_
          refine AllReadyH.cons (o := ⟨some 39, Op.buildSlice 22 0 #[], 22, _, _, none⟩) rfl (fun K hK => ?_) (AllReadyH.cons (o := ⟨some 46, Op.load 22 (Operand.tmp 45), 22, _, _, none⟩) rfl (fun K hK => ?_) (AllReadyH.nil))
          · skip
            go_simp
            generalize hwz : World.alloc c0 (.cells #[] 38) = c1
            have hz : Below c0.heap.size c0 c1 := hwz ▸ (Below.refl _ _).alloc (Nat.le_refl _) _
            have hc1 : Below ws.heap.size ws c1 := below_trans hc0 hz
            have e39 : Emp5 ws.heap.size c1 (.slice (some ⟨c0.heap.size, 0, none⟩) 0 0) := Emp5.new hwz hc0.size
            clear hwz hz
            generalize Value.slice (some (Addr.mk c0.heap.size 0 none)) 0 0 = v39 at e39 ⊢
            try clear hc0
            try clear c0
            refine hK.out _ _ trivial (fun hzz => ?_)
            clear hzz hK K
            try simp only [Act.put, List.setIfInBounds_toArray, List.set_cons_zero, List.set_cons_succ]
            refine wpAnyH_ready (rs := [5, 7]) (by kernel_rfl) (by simp) ?_
            refine AllReadyH.cons (o := ⟨some 44, Op.call ⟨Callee.builtin Builtin.append, #[Operand.tmp 39, Operand.tmp 43], #[22, 22]⟩, 22, _, _, none⟩) rfl (fun K hK => ?_) (AllReadyH.cons (o := ⟨some 46, Op.load 22 (Operand.tmp 45), 22, _, _, none⟩) rfl (fun K hK => ?_) (AllReadyH.nil))
            · skip
              refine step_append_may rfl (.tmp 39) (.tmp 43) 22 rfl ws.heap.size 38 i0 (.agg #[.int .i64 0, .string ⟨#[]⟩, .string ⟨#[]⟩, .int .i64 0, .int .i64 0]) 5 56 Try.underlying22 hi0 hz0 hz1 hz2 rfl (by decide) v39 0 [] rfl e39.own _ k (Pp.flatS (M.take k)) rfl (HSR1.out _ hc1) (flatS_one _) (by unfold maxLen; omega) (by omega) hc1.size ?_
              intro v44 c2 ho hgr
              have o44 : OwnS ws.heap.size c2 v44 (M.take k) := ownS_of (by rw [List.length_take, Nat.min_eq_left (by omega)]; rw [Nat.zero_add, List.nil_append] at ho; exact ho)
              have hc2 : Below ws.heap.size ws c2 := hc1.grown hgr hc1.size (fun k hk => (e39.own.lt k hk).1)
              clear ho hgr e39
              try clear hc1
              try clear c1
              refine hK.out _ _ trivial (fun hzz => ?_)
              clear hzz hK K
              try simp only [Act.put, List.setIfInBounds_toArray, List.set_cons_zero, List.set_cons_succ]
              refine wpAnyH_ready (rs := [7]) (by kernel_rfl) (by simp) ?_
              refine AllReadyH.cons (o := ⟨some 46, Op.load 22 (Operand.tmp 45), 22, _, _, none⟩) rfl (fun K hK => ?_) (AllReadyH.nil)
              · skip
                obtain ⟨f9, ⟨f0, f1, f2, f3⟩, f8⟩ := HUS.out.below hc2
                go_simp
                refine hK.out _ _ trivial (fun hzz => ?_)
                clear hzz hK K f0 f1 f2 f3 f8 f9
                try simp only [Act.put, List.setIfInBounds_toArray, List.set_cons_zero, List.set_cons_succ]
                refine wpAnyH_take (i := 10) (oi := ⟨some 49, Op.slice 22 (Operand.tmp 46) (some (Operand.tmp 48)) none none, 22, _, _, none⟩) (v := ?_) rfl (by kernel_rfl) (by kernel_rfl) (by kernel_rfl) (fun _ _ _ h => h) (Or.inl ⟨by rfl, ?_⟩) trivial ?_
                rotate_left
                · (intro W hSw; go_simp <;> with_reducible rfl)
                try simp only [Act.put, List.setIfInBounds_toArray, List.set_cons_zero, List.set_cons_succ]
                revert o44
                revert hc2
                revert c2
                revert v44
                revert v39
                exact rest.out
            · skip
              obtain ⟨f9, ⟨f0, f1, f2, f3⟩, f8⟩ := HUS.out.below hc1
              go_simp
              refine hK.out _ _ trivial (fun hzz => ?_)
              clear hzz hK K f0 f1 f2 f3 f8 f9
              try simp only [Act.put, List.setIfInBounds_toArray, List.set_cons_zero, List.set_cons_succ]
              refine wpAnyH_take (i := 10) (oi := ⟨some 49, Op.slice 22 (Operand.tmp 46) (some (Operand.tmp 48)) none none, 22, _, _, none⟩) (v := ?_) rfl (by kernel_rfl) (by kernel_rfl) (by kernel_rfl) (fun _ _ _ h => h) (Or.inl ⟨by rfl, ?_⟩) trivial ?_
              rotate_left
              · (intro W hSw; go_simp <;> with_reducible rfl)
              try simp only [Act.put, List.setIfInBounds_toArray, List.set_cons_zero, List.set_cons_succ]
              refine wpAnyH_ready (rs := [5]) (by kernel_rfl) (by simp) ?_
              refine AllReadyH.cons (o := ⟨some 44, Op.call ⟨Callee.builtin Builtin.append, #[Operand.tmp 39, Operand.tmp 43], #[22, 22]⟩, 22, _, _, none⟩) rfl (fun K hK => ?_) (AllReadyH.nil)
              · skip
                refine step_append_may rfl (.tmp 39) (.tmp 43) 22 rfl ws.heap.size 38 i0 (.agg #[.int .i64 0, .string ⟨#[]⟩, .string ⟨#[]⟩, .int .i64 0, .int .i64 0]) 5 56 Try.underlying22 hi0 hz0 hz1 hz2 rfl (by decide) v39 0 [] rfl e39.own _ k (Pp.flatS (M.take k)) rfl (HSR1.out _ hc1) (flatS_one _) (by unfold maxLen; omega) (by omega) hc1.size ?_
                intro v44 c2 ho hgr
                have o44 : OwnS ws.heap.size c2 v44 (M.take k) := ownS_of (by rw [List.length_take, Nat.min_eq_left (by omega)]; rw [Nat.zero_add, List.nil_append] at ho; exact ho)
                have hc2 : Below ws.heap.size ws c2 := hc1.grown hgr hc1.size (fun k hk => (e39.own.lt k hk).1)
                clear ho hgr e39
                try clear hc1
                try clear c1
                refine hK.out _ _ trivial (fun hzz => ?_)
                clear hzz hK K
                try simp only [Act.put, List.setIfInBounds_toArray, List.set_cons_zero, List.set_cons_succ]
                revert o44
                revert hc2
                revert c2
                revert v44
                revert v39
                exact rest.out
          · skip
            obtain ⟨f9, ⟨f0, f1, f2, f3⟩, f8⟩ := HUS.out.below hc0
            go_simp
            refine hK.out _ _ trivial (fun hzz => ?_)
            clear hzz hK K f0 f1 f2 f3 f8 f9
            try simp only [Act.put, List.setIfInBounds_toArray, List.set_cons_zero, List.set_cons_succ]
            refine wpAnyH_take (i := 10) (oi := ⟨some 49, Op.slice 22 (Operand.tmp 46) (some (Operand.tmp 48)) none none, 22, _, _, none⟩) (v := ?_) rfl (by kernel_rfl) (by kernel_rfl) (by kernel_rfl) (fun _ _ _ h => h) (Or.inl ⟨by rfl, ?_⟩) trivial ?_
            rotate_left
            · (intro W hSw; go_simp <;> with_reducible rfl)
            try simp only [Act.put, List.setIfInBounds_toArray, List.set_cons_zero, List.set_cons_succ]
            refine wpAnyH_ready (rs := [0]) (by kernel_rfl) (by simp) ?_
            refine AllReadyH.cons (o := ⟨some 39, Op.buildSlice 22 0 #[], 22, _, _, none⟩) rfl (fun K hK => ?_) (AllReadyH.nil)
            · skip
              go_simp
              generalize hwz : World.alloc c0 (.cells #[] 38) = c1
              have hz : Below c0.heap.size c0 c1 := hwz ▸ (Below.refl _ _).alloc (Nat.le_refl _) _
              have hc1 : Below ws.heap.size ws c1 := below_trans hc0 hz
              have e39 : Emp5 ws.heap.size c1 (.slice (some ⟨c0.heap.size, 0, none⟩) 0 0) := Emp5.new hwz hc0.size
              clear hwz hz
              generalize Value.slice (some (Addr.mk c0.heap.size 0 none)) 0 0 = v39 at e39 ⊢
              try clear hc0
              try clear c0
              refine hK.out _ _ trivial (fun hzz => ?_)
              clear hzz hK K
              try simp only [Act.put, List.setIfInBounds_toArray, List.set_cons_zero, List.set_cons_succ]
              refine wpAnyH_ready (rs := [5]) (by kernel_rfl) (by simp) ?_
              refine AllReadyH.cons (o := ⟨some 44, Op.call ⟨Callee.builtin Builtin.append, #[Operand.tmp 39, Operand.tmp 43], #[22, 22]⟩, 22, _, _, none⟩) rfl (fun K hK => ?_) (AllReadyH.nil)
              · skip
                refine step_append_may rfl (.tmp 39) (.tmp 43) 22 rfl ws.heap.size 38 i0 (.agg #[.int .i64 0, .string ⟨#[]⟩, .string ⟨#[]⟩, .int .i64 0, .int .i64 0]) 5 56 Try.underlying22 hi0 hz0 hz1 hz2 rfl (by decide) v39 0 [] rfl e39.own _ k (Pp.flatS (M.take k)) rfl (HSR1.out _ hc1) (flatS_one _) (by unfold maxLen; omega) (by omega) hc1.size ?_
                intro v44 c2 ho hgr
                have o44 : OwnS ws.heap.size c2 v44 (M.take k) := ownS_of (by rw [List.length_take, Nat.min_eq_left (by omega)]; rw [Nat.zero_add, List.nil_append] at ho; exact ho)
                have hc2 : Below ws.heap.size ws c2 := hc1.grown hgr hc1.size (fun k hk => (e39.own.lt k hk).1)
                clear ho hgr e39
                try clear hc1
                try clear c1
                refine hK.out _ _ trivial (fun hzz => ?_)
                clear hzz hK K
                try simp only [Act.put, List.setIfInBounds_toArray, List.set_cons_zero, List.set_cons_succ]
                revert o44
                revert hc2
                revert c2
                revert v44
                revert v39
                exact rest.out
        · skip
          obtain ⟨f9, ⟨f0, f1, f2, f3⟩, f8⟩ := HUS.out.below hc0
          go_simp
          refine hK.out _ _ trivial (fun hzz => ?_)
          clear hzz hK K f0 f1 f2 f3 f8 f9
          try simp only [Act.put, List.setIfInBounds_toArray, List.set_cons_zero, List.set_cons_succ]
          refine wpAnyH_take (i := 10) (oi := ⟨some 49, Op.slice 22 (Operand.tmp 46) (some (Operand.tmp 48)) none none, 22, _, _, none⟩) (v := ?_) rfl (by kernel_rfl) (by kernel_rfl) (by kernel_rfl) (fun _ _ _ h => h) (Or.inl ⟨by rfl, ?_⟩) trivial ?_
          rotate_left
          · (intro W hSw; go_simp <;> with_reducible rfl)
          try simp only [Act.put, List.setIfInBounds_toArray, List.set_cons_zero, List.set_cons_succ]
          refine wpAnyH_ready (rs := [0, 2]) (by kernel_rfl) (by simp) ?_
          refine AllReadyH.cons (o := ⟨some 39, Op.buildSlice 22 0 #[], 22, _, _, none⟩) rfl (fun K hK => ?_) (AllReadyH.cons (o := ⟨some 41, Op.load 22 (Operand.tmp 40), 22, _, _, none⟩) rfl (fun K hK => ?_) (AllReadyH.nil))
          · skip
            go_simp
            generalize hwz : World.alloc c0 (.cells #[] 38) = c1
            have hz : Below c0.heap.size c0 c1 := hwz ▸ (Below.refl _ _).alloc (Nat.le_refl _) _
            have hc1 : Below ws.heap.size ws c1 := below_trans hc0 hz
            have e39 : Emp5 ws.heap.size c1 (.slice (some ⟨c0.heap.size, 0, none⟩) 0 0) := Emp5.new hwz hc0.size
            clear hwz hz
            generalize Value.slice (some (Addr.mk c0.heap.size 0 none)) 0 0 = v39 at e39 ⊢
            try clear hc0
            try clear c0
            refine hK.out _ _ trivial (fun hzz => ?_)
            clear hzz hK K
            try simp only [Act.put, List.setIfInBounds_toArray, List.set_cons_zero, List.set_cons_succ]
            refine wpAnyH_ready (rs := [2]) (by kernel_rfl) (by simp) ?_
            refine AllReadyH.cons (o := ⟨some 41, Op.load 22 (Operand.tmp 40), 22, _, _, none⟩) rfl (fun K hK => ?_) (AllReadyH.nil)
            · skip
              obtain ⟨f9, ⟨f0, f1, f2, f3⟩, f8⟩ := HUS.out.below hc1
              go_simp
              refine hK.out _ _ trivial (fun hzz => ?_)
              clear hzz hK K f0 f1 f2 f3 f8 f9
              try simp only [Act.put, List.setIfInBounds_toArray, List.set_cons_zero, List.set_cons_succ]
              refine wpAnyH_take (i := 4) (oi := ⟨some 43, Op.slice 22 (Operand.tmp 41) none (some (Operand.tmp 42)) none, 22, _, _, none⟩) (v := ?_) rfl (by kernel_rfl) (by kernel_rfl) (by kernel_rfl) (fun _ _ _ h => h) (Or.inl ⟨by rfl, ?_⟩) trivial ?_
              rotate_left
              · (intro W hSw; go_simp <;> with_reducible rfl)
              try simp only [Act.put, List.setIfInBounds_toArray, List.set_cons_zero, List.set_cons_succ]
              refine wpAnyH_ready (rs := [5]) (by kernel_rfl) (by simp) ?_
              refine AllReadyH.cons (o := ⟨some 44, Op.call ⟨Callee.builtin Builtin.append, #[Operand.tmp 39, Operand.tmp 43], #[22, 22]⟩, 22, _, _, none⟩) rfl (fun K hK => ?_) (AllReadyH.nil)
              · skip
                refine step_append_may rfl (.tmp 39) (.tmp 43) 22 rfl ws.heap.size 38 i0 (.agg #[.int .i64 0, .string ⟨#[]⟩, .string ⟨#[]⟩, .int .i64 0, .int .i64 0]) 5 56 Try.underlying22 hi0 hz0 hz1 hz2 rfl (by decide) v39 0 [] rfl e39.own _ k (Pp.flatS (M.take k)) rfl (HSR1.out _ hc1) (flatS_one _) (by unfold maxLen; omega) (by omega) hc1.size ?_
                intro v44 c2 ho hgr
                have o44 : OwnS ws.heap.size c2 v44 (M.take k) := ownS_of (by rw [List.length_take, Nat.min_eq_left (by omega)]; rw [Nat.zero_add, List.nil_append] at ho; exact ho)
                have hc2 : Below ws.heap.size ws c2 := hc1.grown hgr hc1.size (fun k hk => (e39.own.lt k hk).1)
                clear ho hgr e39
                try clear hc1
                try clear c1
                refine hK.out _ _ trivial (fun hzz => ?_)
                clear hzz hK K
                try simp only [Act.put, List.setIfInBounds_toArray, List.set_cons_zero, List.set_cons_succ]
                revert o44
                revert hc2
                revert c2
                revert v44
                revert v39
                exact rest.out
          · skip
            obtain ⟨f9, ⟨f0, f1, f2, f3⟩, f8⟩ := HUS.out.below hc0
            go_simp
            refine hK.out _ _ trivial (fun hzz => ?_)
            clear hzz hK K f0 f1 f2 f3 f8 f9
            try simp only [Act.put, List.setIfInBounds_toArray, List.set_cons_zero, List.set_cons_succ]
            refine wpAnyH_take (i := 4) (oi := ⟨some 43, Op.slice 22 (Operand.tmp 41) none (some (Operand.tmp 42)) none, 22, _, _, none⟩) (v := ?_) rfl (by kernel_rfl) (by kernel_rfl) (by kernel_rfl) (fun _ _ _ h => h) (Or.inl ⟨by rfl, ?_⟩) trivial ?_
            rotate_left
            · (intro W hSw; go_simp <;> with_reducible rfl)
            try simp only [Act.put, List.setIfInBounds_toArray, List.set_cons_zero, List.set_cons_succ]
            refine wpAnyH_ready (rs := [0]) (by kernel_rfl) (by simp) ?_
            refine AllReadyH.cons (o := ⟨some 39, Op.buildSlice 22 0 #[], 22, _, _, none⟩) rfl (fun K hK => ?_) (AllReadyH.nil)
            · skip
              go_simp
              generalize hwz : World.alloc c0 (.cells #[] 38) = c1
              have hz : Below c0.heap.size c0 c1 := hwz ▸ (Below.refl _ _).alloc (Nat.le_refl _) _
              have hc1 : Below ws.heap.size ws c1 := below_trans hc0 hz
              have e39 : Emp5 ws.heap.size c1 (.slice (some ⟨c0.heap.size, 0, none⟩) 0 0) := Emp5.new hwz hc0.size
              clear hwz hz
              generalize Value.slice (some (Addr.mk c0.heap.size 0 none)) 0 0 = v39 at e39 ⊢
              try clear hc0
              try clear c0
              refine hK.out _ _ trivial (fun hzz => ?_)
              clear hzz hK K
              try simp only [Act.put, List.setIfInBounds_toArray, List.set_cons_zero, List.set_cons_succ]
              refine wpAnyH_ready (rs := [5]) (by kernel_rfl) (by simp) ?_
              refine AllReadyH.cons (o := ⟨some 44, Op.call ⟨Callee.builtin Builtin.append, #[Operand.tmp 39, Operand.tmp 43], #[22, 22]⟩, 22, _, _, none⟩) rfl (fun K hK => ?_) (AllReadyH.nil)
              · skip
                refine step_append_may rfl (.tmp 39) (.tmp 43) 22 rfl ws.heap.size 38 i0 (.agg #[.int .i64 0, .string ⟨#[]⟩, .string ⟨#[]⟩, .int .i64 0, .int .i64 0]) 5 56 Try.underlying22 hi0 hz0 hz1 hz2 rfl (by decide) v39 0 [] rfl e39.own _ k (Pp.flatS (M.take k)) rfl (HSR1.out _ hc1) (flatS_one _) (by unfold maxLen; omega) (by omega) hc1.size ?_
                intro v44 c2 ho hgr
                have o44 : OwnS ws.heap.size c2 v44 (M.take k) := ownS_of (by rw [List.length_take, Nat.min_eq_left (by omega)]; rw [Nat.zero_add, List.nil_append] at ho; exact ho)
                have hc2 : Below ws.heap.size ws c2 := hc1.grown hgr hc1.size (fun k hk => (e39.own.lt k hk).1)
                clear ho hgr e39
                try clear hc1
                try clear c1
                refine hK.out _ _ trivial (fun hzz => ?_)
                clear hzz hK K
                try simp only [Act.put, List.setIfInBounds_toArray, List.set_cons_zero, List.set_cons_succ]
                revert o44
                revert hc2
                revert c2
                revert v44
                revert v39
                exact rest.out
      intro v39 v44 cw hc o44
      refine wpAnyH_ready (rs := [11]) (by kernel_rfl) (by simp) ?_
      refine AllReadyH.cons (o := ⟨some 50, Op.call ⟨Callee.builtin Builtin.append, #[Operand.tmp 44, Operand.tmp 49], #[22, 22]⟩, 22, _, _, none⟩) rfl (fun K hK => ?_) AllReadyH.nil
      refine step_append_may rfl (.tmp 44) (.tmp 49) 22 rfl ws.heap.size 38 i0 (.agg #[.int .i64 0, .string ⟨#[]⟩, .string ⟨#[]⟩, .int .i64 0, .int .i64 0]) 5 56 Try.underlying22 hi0 hz0 hz1 hz2 rfl (by decide) v44 (M.take k).length (Pp.flatS (M.take k)) rfl o44.row _ 0 (Pp.flatS (M.drop (k + 1))) rfl (HSR2.out _ hc) (flatS_one _) (by rw [List.length_take]; unfold maxLen; omega) (by rw [List.length_take]; omega) hc.size ?_
      intro v50 w2 ho2 hgr2
      have hnl : (M.take k ++ M.drop (k + 1)).length = (M.take k).length + 0 := by
        have h9 : (M.take k ++ M.drop (k + 1)).length = (M.take k).length + (M.drop (k + 1)).length := List.length_append
        rw [List.length_drop] at h9
        omega
      have ho3 : w2.ownsRow ws.heap.size 38 5 v50 (M.take k ++ M.drop (k + 1)).length (Pp.flatS (M.take k ++ M.drop (k + 1))) := by rw [hnl, Pp.flatS_append]; exact ho2
      have HO2 := ghid (ownS_of ho3)
      have hc2 : Below ws.heap.size ws w2 := hc.grown hgr2 hc.size (fun k hk => (o44.row.lt k hk).1)
      have hnl2 : (M.take k ++ M.drop (k + 1)).length ≤ 1000 := by rw [hnl, List.length_take]; omega
      obtain ⟨a6, cap6, hv2, _, _, _⟩ := HO2.out.lies hnl2
      subst hv2
      obtain ⟨N, hN⟩ : ∃ N, N = (M.take k ++ M.drop (k + 1)) := ⟨_, rfl⟩
      have HN9 := ghid hN
      rw [← hN] at HO2 ⊢
      clear ho2 ho3 hgr2 o44 hc hnl hnl2 hN
      refine hK.out _ _ trivial (fun hzz => ?_)
      clear hK K hzz
      try simp only [Act.put, List.setIfInBounds_toArray, List.set_cons_zero, List.set_cons_succ]
      refine wpAnyH_take (i := 12) (oi := ⟨some 51, Op.fieldAddr 24 (Operand.tmp 4) 0, 0, _, _, none⟩) (v := ?_) rfl (by kernel_rfl) (by kernel_rfl) (by kernel_rfl) (fun _ _ _ h => h) (Or.inl ⟨by rfl, ?_⟩) trivial ?_
      rotate_left
      · (intro W hSw; go_simp <;> with_reducible rfl)
      try simp only [Act.put, List.setIfInBounds_toArray, List.set_cons_zero, List.set_cons_succ]
      obtain ⟨hUb2, ⟨q0, q1, q2, q3⟩, k0, k1, k2, k3⟩ := HUS.out.below hc2
      refine wpAnyH_ready (rs := [13]) (by kernel_rfl) (by simp) ?_
      refine AllReadyH.cons (o := ⟨none, Op.store 22 (Operand.tmp 51) (Operand.tmp 50), 0, _, _, none⟩) rfl (fun K hK => ?_) AllReadyH.nil
      go_simp
      refine hK.out _ _ trivial (fun hzz => ?_)
      clear hzz hK K
      try simp only [Act.put, List.setIfInBounds_toArray, List.set_cons_zero, List.set_cons_succ]
      refine wpAnyH_done (by kernel_rfl) ?_ _
      have hsz2 := hc2.size
      obtain ⟨wz, hwz⟩ : ∃ wz, wz = w2.setCell ⟨w.heap.size, 0, none⟩ (.slice a6 N.length cap6) := ⟨_, rfl⟩
      have hnbz : w2.grownBy wz (some w.heap.size) := by rw [hwz]; exact Nb.setCell _ _ _ _
      have HRZ := ghid ((HRS.out.below hc2).nb hnbz (by omega))
      have z0 : wz.cell? ⟨w.heap.size, 0, none⟩ = some (.slice a6 N.length cap6) := by rw [hwz]; simp [go_sem, q0]
      have z1 : wz.cell? ⟨w.heap.size, 1, none⟩ = some (.int .i64 x) := by rw [hwz]; simp [go_sem, q1]
      have z2 : wz.cell? ⟨w.heap.size, 2, none⟩ = some (.int .i64 l) := by rw [hwz]; simp [go_sem, q2]
      have z3 : wz.cell? ⟨w.heap.size, 3, none⟩ = some (.int .i64 r) := by rw [hwz]; simp [go_sem, q3]
      have y2 : wz.cell? ⟨wq.heap.size, 2, none⟩ = some (.string s.tx) := (Nb.cell hnbz (p := ⟨wq.heap.size, 2, none⟩) (by show wq.heap.size < w2.heap.size; omega) (by show wq.heap.size ≠ w.heap.size; omega)).trans ((hc2.cell (p := ⟨wq.heap.size, 2, none⟩) (by show wq.heap.size < ws.heap.size; omega)).trans HSB.out.1.2.2.1)
      have hb0z : Below w.heap.size w wz := (hb0s.trans (hc2.mono hb0s.size)).trans (Nb.to hnbz (hb0s.trans (hc2.mono hb0s.size)).size (Nat.le_refl _))
      have HOZ := ghid (HO2.out.nb hnbz (by omega))
      clear HO2 hnbz
      go_wp2_with fail
      rw [← hwz]
      clear hwz q0 q1 q2 q3 k0 k1 k2 k3
      obtain ⟨hRb, ⟨c0, c1, c2, c3⟩, f0, f1, f2, f3⟩ := HRZ.out
      go_region
      go_wp2_with fail
      refine bodyPost_ret (v := .tuple #[.agg #[.slice a6 N.length cap6, .int .i64 x, .int .i64 l, .int .i64 r], .string s.tx, .int .i64 0]) (by simp [results, Try.results16, go_sem, c0, c1, c2, c3, hRb]) rfl (FiPost.ok HEQ.out ?_ ?_)
      · rw [← HN9.out]
        exact ((HOZ.out.nb (Nb.set4 _ (w.heap.size + 1) _ _ _ _) (by omega)).below (Below.refl _ _).drew).mono (by omega)
      · exact (below_set4 (b := w.heap.size + 1) hb0z (by omega)).drew
    · have HSRC : Hid (∀ W, Below ws.heap.size ws W → Src5 W (.slice (some ⟨g, (k + 1) * 5, none⟩) (M.length - (k + 1)) (cap - (k + 1))) (M.length - (k + 1)) 5 (Pp.flatS (M.drop (k + 1)))) := (fun W hW => Or.inr ⟨⟨g, (k + 1) * 5, none⟩, _, rfl, by rw [Pp.flatS_len, List.length_drop], liesS_cells (b := g) (o := (k + 1) * 5) (L := M.drop (k + 1)) (fun i hi => by
        have hi2 : k + 1 + i < M.length := by rw [List.length_drop] at hi; omega
        have h9 := (HROWS.out.below hW).at hi2
        rw [show (k + 1 + i) * 5 = (k + 1) * 5 + i * 5 by omega] at h9
        rw [List.getElem_drop]
        exact h9)⟩ : ∀ W, Below ws.heap.size ws W → Src5 W (.slice (some ⟨g, (k + 1) * 5, none⟩) (M.length - (k + 1)) (cap - (k + 1))) (M.length - (k + 1)) 5 (Pp.flatS (M.drop (k + 1))))
      have HSR2 : Hid (∀ W, Below ws.heap.size ws W → Src5 W (.slice (some ⟨g, (k + 1) * 5, none⟩) (M.length - (k + 1)) (cap - (k + 1))) (M.length - (k + 1)) 5 (Pp.flatS (M.drop (k + 1)))) := (fun W hW => HSRC.out W hW : ∀ W, Below ws.heap.size ws W → Src5 W (.slice (some ⟨g, (k + 1) * 5, none⟩) (M.length - (k + 1)) (cap - (k + 1))) (M.length - (k + 1)) 5 (Pp.flatS (M.drop (k + 1))))
      refine wp_region_held_drew (S := fun _ => True) (by kernel_rfl) trivial (fun hHeld => ?_)
      change wpAnyH _ _ _ _ _ 14 #[false, false, false, false, false, false, false, false, false, false, false, false, false, false] _ _
      have hc0 : Below ws.heap.size ws ws.drew := (Below.refl _ _).drew
      generalize ws.drew = c0 at hc0 ⊢
      refine wpAnyH_take (i := 1) (oi := ⟨some 40, Op.fieldAddr 24 (Operand.tmp 4) 0, 0, _, _, none⟩) (v := ?_) rfl (by kernel_rfl) (by kernel_rfl) (by kernel_rfl) (fun _ _ _ h => h) (Or.inl ⟨by rfl, ?_⟩) trivial ?_
      rotate_left
      · (intro W hSw; go_simp <;> with_reducible rfl)
      try simp only [Act.put, List.setIfInBounds_toArray, List.set_cons_zero, List.set_cons_succ]
      refine wpAnyH_take (i := 3) (oi := ⟨some 42, Op.move (Operand.tmp 11), 3, _, _, none⟩) (v := ?_) rfl (by kernel_rfl) (by kernel_rfl) (by kernel_rfl) (fun _ _ _ h => h) (Or.inl ⟨by rfl, ?_⟩) trivial ?_
      rotate_left
      · (intro W hSw; go_simp <;> with_reducible rfl)
      try simp only [Act.put, List.setIfInBounds_toArray, List.set_cons_zero, List.set_cons_succ]
      refine wpAnyH_take (i := 6) (oi := ⟨some 45, Op.fieldAddr 24 (Operand.tmp 4) 0, 0, _, _, none⟩) (v := ?_) rfl (by kernel_rfl) (by kernel_rfl) (by kernel_rfl) (fun _ _ _ h => h) (Or.inl ⟨by rfl, ?_⟩) trivial ?_
      rotate_left
      · (intro W hSw; go_simp <;> with_reducible rfl)
      try simp only [Act.put, List.setIfInBounds_toArray, List.set_cons_zero, List.set_cons_succ]
      refine wpAnyH_take (i := 8) (oi := ⟨some 47, Op.move (Operand.tmp 11), 3, _, _, none⟩) (v := ?_) rfl (by kernel_rfl) (by kernel_rfl) (by kernel_rfl) (fun _ _ _ h => h) (Or.inl ⟨by rfl, ?_⟩) trivial ?_
      rotate_left
      · (intro W hSw; go_simp <;> with_reducible rfl)
      try simp only [Act.put, List.setIfInBounds_toArray, List.set_cons_zero, List.set_cons_succ]
      refine wpAnyH_take (i := 9) (oi := ⟨some 48, Op.binOp BinOp.add 3 (Operand.tmp 47) (Operand.const (Value.int IntKind.i64 1)) 3, 3, _, _, none⟩) (v := ?_) rfl (by kernel_rfl) (by kernel_rfl) (by kernel_rfl) (fun _ _ _ h => h) (Or.inl ⟨by rfl, ?_⟩) trivial ?_
      rotate_left
      · (intro W hSw; go_simp <;> with_reducible rfl)
      try simp only [Act.put, List.setIfInBounds_toArray, List.set_cons_zero, List.set_cons_succ]
      refine later (p := ?_) (fun rest => ?_) ?_
      rotate_left
      · skip
        refine wpAnyH_ready (rs := [0, 2, 7]) (by kernel_rfl) (by simp) ?_
        refine AllReadyH.cons (o := ⟨some 39, Op.buildSlice 22 0 #[], 22, _, _, none⟩) rfl (fun K hK => ?_) (AllReadyH.cons (o := ⟨some 41, Op.load 22 (Operand.tmp 40), 22, _, _, none⟩) rfl (fun K hK => ?_) (AllReadyH.cons (o := ⟨some 46, Op.load 22 (Operand.tmp 45), 22, _, _, none⟩) rfl (fun K hK => ?_) (AllReadyH.nil)))
        · skip
          go_simp
          generalize hwz : World.alloc c0 (.cells #[] 38) = c1
          have hz : Below c0.heap.size c0 c1 := hwz ▸ (Below.refl _ _).alloc (Nat.le_refl _) _
          have hc1 : Below ws.heap.size ws c1 := below_trans hc0 hz
          have e39 : Emp5 ws.heap.size c1 (.slice (some ⟨c0.heap.size, 0, none⟩) 0 0) := Emp5.new hwz hc0.size
          clear hwz hz
          generalize Value.slice (some (Addr.mk c0.heap.size 0 none)) 0 0 = v39 at e39 ⊢
          try clear hc0
          try clear c0
          refine hK.out _ _ trivial (fun hzz => ?_)
          clear hzz hK K
          try simp only [Act.put, List.setIfInBounds_toArray, List.set_cons_zero, List.set_cons_succ]
          refine wpAnyH_ready (rs := [2, 7]) (by kernel_rfl) (by simp) ?_
          refine AllReadyH.cons (o := ⟨some 41, Op.load 22 (Operand.tmp 40), 22, _, _, none⟩) rfl (fun K hK => ?_) (AllReadyH.cons (o := ⟨some 46, Op.load 22 (Operand.tmp 45), 22, _, _, none⟩) rfl (fun K hK => ?_) (AllReadyH.nil))
          · skip
            obtain ⟨f9, ⟨f0, f1, f2, f3⟩, f8⟩ := HUS.out.below hc1
            go_simp
            refine hK.out _ _ trivial (fun hzz => ?_)
            clear hzz hK K f0 f1 f2 f3 f8 f9
            try simp only [Act.put, List.setIfInBounds_toArray, List.set_cons_zero, List.set_cons_succ]
            refine wpAnyH_take (i := 4) (oi := ⟨some 43, Op.slice 22 (Operand.tmp 41) none (some (Operand.tmp 42)) none, 22, _, _, none⟩) (v := ?_) rfl (by kernel_rfl) (by kernel_rfl) (by kernel_rfl) (fun _ _ _ h => h) (Or.inl ⟨by rfl, ?_⟩) trivial ?_
            rotate_left
            · (intro W hSw; go_simp <;> with_reducible rfl)
            try simp only [Act.put, List.setIfInBounds_toArray, List.set_cons_zero, List.set_cons_succ]
            refine wpAnyH_ready (rs := [5, 7]) (by kernel_rfl) (by simp) ?_
            refine AllReadyH.cons (o := ⟨some 44, Op.call ⟨Callee.builtin Builtin.append, #[Operand.tmp 39, Operand.tmp 43], #[22, 22]⟩, 22, _, _, none⟩) rfl (fun K hK => ?_) (AllReadyH.cons (o := ⟨some 46, Op.load 22 (Operand.tmp 45), 22, _, _, none⟩) rfl (fun K hK => ?_) (AllReadyH.nil))
            · skip
              refine step_append_may rfl (.tmp 39) (.tmp 43) 22 rfl ws.heap.size 38 i0 (.agg #[.int .i64 0, .string ⟨#[]⟩, .string ⟨#[]⟩, .int .i64 0, .int .i64 0]) 5 56 Try.underlying22 hi0 hz0 hz1 hz2 rfl (by decide) v39 0 [] rfl e39.own _ k (Pp.flatS (M.take k)) rfl (HSR1.out _ hc1) (flatS_one _) (by unfold maxLen; omega) (by omega) hc1.size ?_
              intro v44 c2 ho hgr
              have o44 : OwnS ws.heap.size c2 v44 (M.take k) := ownS_of (by rw [List.length_take, Nat.min_eq_left (by omega)]; rw [Nat.zero_add, List.nil_append] at ho; exact ho)
              have hc2 : Below ws.heap.size ws c2 := hc1.grown hgr hc1.size (fun k hk => (e39.own.lt k hk).1)
              clear ho hgr e39
              try clear hc1
              try clear c1
              refine hK.out _ _ trivial (fun hzz => ?_)
              clear hzz hK K
              try simp only [Act.put, List.setIfInBounds_toArray, List.set_cons_zero, List.set_cons_succ]
              refine wpAnyH_ready (rs := [7]) (by kernel_rfl) (by simp) ?_
              refine AllReadyH.cons (o := ⟨some 46, Op.load 22 (Operand.tmp 45), 22, _, _, none⟩) rfl (fun K hK => ?_) (AllReadyH.nil)
              · skip
                obtain ⟨f9, ⟨f0, f1, f2, f3⟩, f8⟩ := HUS.out.below hc2
                go_simp
                refine hK.out _ _ trivial (fun hzz => ?_)
                clear hzz hK K f0 f1 f2 f3 f8 f9
                try simp only [Act.put, List.setIfInBounds_toArray, List.set_cons_zero, List.set_cons_succ]
                refine wpAnyH_take (i := 10) (oi := ⟨some 49, Op.slice 22 (Operand.tmp 46) (some (Operand.tmp 48)) none none, 22, _, _, none⟩) (v := ?_) rfl (by kernel_rfl) (by kernel_rfl) (by kernel_rfl) (fun _ _ _ h => h) (Or.inl ⟨by rfl, ?_⟩) trivial ?_
                rotate_left
                · (intro W hSw; go_simp <;> with_reducible rfl)
                try simp only [Act.put, List.setIfInBounds_toArray, List.set_cons_zero, List.set_cons_succ]
                revert o44
                revert hc2
                revert c2
                revert v44
                revert v39
                exact rest.out
            · skip
              obtain ⟨f9, ⟨f0, f1, f2, f3⟩, f8⟩ := HUS.out.below hc1
              go_simp
              refine hK.out _ _ trivial (fun hzz => ?_)
              clear hzz hK K f0 f1 f2 f3 f8 f9
              try simp only [Act.put, List.setIfInBounds_toArray, List.set_cons_zero, List.set_cons_succ]
              refine wpAnyH_take (i := 10) (oi := ⟨some 49, Op.slice 22 (Operand.tmp 46) (some (Operand.tmp 48)) none none, 22, _, _, none⟩) (v := ?_) rfl (by kernel_rfl) (by kernel_rfl) (by kernel_rfl) (fun _ _ _ h => h) (Or.inl ⟨by rfl, ?_⟩) trivial ?_
              rotate_left
              · (intro W hSw; go_simp <;> with_reducible rfl)
              try simp only [Act.put, List.setIfInBounds_toArray, List.set_cons_zero, List.set_cons_succ]
              refine wpAnyH_ready (rs := [5]) (by kernel_rfl) (by simp) ?_
              refine AllReadyH.cons (o := ⟨some 44, Op.call ⟨Callee.builtin Builtin.append, #[Operand.tmp 39, Operand.tmp 43], #[22, 22]⟩, 22, _, _, none⟩) rfl (fun K hK => ?_) (AllReadyH.nil)
              · skip
                refine step_append_may rfl (.tmp 39) (.tmp 43) 22 rfl ws.heap.size 38 i0 (.agg #[.int .i64 0, .string ⟨#[]⟩, .string ⟨#[]⟩, .int .i64 0, .int .i64 0]) 5 56 Try.underlying22 hi0 hz0 hz1 hz2 rfl (by decide) v39 0 [] rfl e39.own _ k (Pp.flatS (M.take k)) rfl (HSR1.out _ hc1) (flatS_one _) (by unfold maxLen; omega) (by omega) hc1.size ?_
                intro v44 c2 ho hgr
                have o44 : OwnS ws.heap.size c2 v44 (M.take k) := ownS_of (by rw [List.length_take, Nat.min_eq_left (by omega)]; rw [Nat.zero_add, List.nil_append] at ho; exact ho)
                have hc2 : Below ws.heap.size ws c2 := hc1.grown hgr hc1.size (fun k hk => (e39.own.lt k hk).1)
                clear ho hgr e39
                try clear hc1
                try clear c1
                refine hK.out _ _ trivial (fun hzz => ?_)
                clear hzz hK K
                try simp only [Act.put, List.setIfInBounds_toArray, List.set_cons_zero, List.set_cons_succ]
                revert o44
                revert hc2
                revert c2
                revert v44
                revert v39
                exact rest.out
          · skip
            obtain ⟨f9, ⟨f0, f1, f2, f3⟩, f8⟩ := HUS.out.below hc1
            go_simp
            refine hK.out _ _ trivial (fun hzz => ?_)
            clear hzz hK K f0 f1 f2 f3 f8 f9
            try simp only [Act.put, List.setIfInBounds_toArray, List.set_cons_zero, List.set_cons_succ]
            refine wpAnyH_take (i := 10) (oi := ⟨some 49, Op.slice 22 (Operand.tmp 46) (some (Operand.tmp 48)) none none, 22, _, _, none⟩) (v := ?_) rfl (by kernel_rfl) (by kernel_rfl) (by kernel_rfl) (fun _ _ _ h => h) (Or.inl ⟨by rfl, ?_⟩) trivial ?_
            rotate_left
            · (intro W hSw; go_simp <;> with_reducible rfl)
            try simp only [Act.put, List.setIfInBounds_toArray, List.set_cons_zero, List.set_cons_succ]
            refine wpAnyH_ready (rs := [2]) (by kernel_rfl) (by simp) ?_
            refine AllReadyH.cons (o := ⟨some 41, Op.load 22 (Operand.tmp 40), 22, _, _, none⟩) rfl (fun K hK => ?_) (AllReadyH.nil)
            · skip
              obtain ⟨f9, ⟨f0, f1, f2, f3⟩, f8⟩ := HUS.out.below hc1
              go_simp
              refine hK.out _ _ trivial (fun hzz => ?_)
              clear hzz hK K f0 f1 f2 f3 f8 f9
              try simp only [Act.put, List.setIfInBounds_toArray, List.set_cons_zero, List.set_cons_succ]
              refine wpAnyH_take (i := 4) (oi := ⟨some 43, Op.slice 22 (Operand.tmp 41) none (some (Operand.tmp 42)) none, 22, _, _, none⟩) (v := ?_) rfl (by kernel_rfl) (by kernel_rfl) (by kernel_rfl) (fun _ _ _ h => h) (Or.inl ⟨by rfl, ?_⟩) trivial ?_
              rotate_left
              · (intro W hSw; go_simp <;> with_reducible rfl)
              try simp only [Act.put, List.setIfInBounds_toArray, List.set_cons_zero, List.set_cons_succ]
              refine wpAnyH_ready (rs := [5]) (by kernel_rfl) (by simp) ?_
              refine AllReadyH.cons (o := ⟨some 44, Op.call ⟨Callee.builtin Builtin.append, #[Operand.tmp 39, Operand.tmp 43], #[22, 22]⟩, 22, _, _, none⟩) rfl (fun K hK => ?_) (AllReadyH.nil)
              · skip
                refine step_append_may rfl (.tmp 39) (.tmp 43) 22 rfl ws.heap.size 38 i0 (.agg #[.int .i64 0, .string ⟨#[]⟩, .string ⟨#[]⟩, .int .i64 0, .int .i64 0]) 5 56 Try.underlying22 hi0 hz0 hz1 hz2 rfl (by decide) v39 0 [] rfl e39.own _ k (Pp.flatS (M.take k)) rfl (HSR1.out _ hc1) (flatS_one _) (by unfold maxLen; omega) (by omega) hc1.size ?_
                intro v44 c2 ho hgr
                have o44 : OwnS ws.heap.size c2 v44 (M.take k) := ownS_of (by rw [List.length_take, Nat.min_eq_left (by omega)]; rw [Nat.zero_add, List.nil_append] at ho; exact ho)
                have hc2 : Below ws.heap.size ws c2 := hc1.grown hgr hc1.size (fun k hk => (e39.own.lt k hk).1)
                clear ho hgr e39
                try clear hc1
                try clear c1
                refine hK.out _ _ trivial (fun hzz => ?_)
                clear hzz hK K
                try simp only [Act.put, List.setIfInBounds_toArray, List.set_cons_zero, List.set_cons_succ]
                revert o44
                revert hc2
                revert c2
                revert v44
                revert v39
                exact rest.out
        · skip
          obtain ⟨f9, ⟨f0, f1, f2, f3⟩, f8⟩ := HUS.out.below hc0
          go_simp
          refine hK.out _ _ trivial (fun hzz => ?_)
          clear hzz hK K f0 f1 f2 f3 f8 f9
          try simp only [Act.put, List.setIfInBounds_toArray, List.set_cons_zero, List.set_cons_succ]
          refine wpAnyH_take (i := 4) (oi := ⟨some 43, Op.slice 22 (Operand.tmp 41) none (some (Operand.tmp 42)) none, 22, _, _, none⟩) (v := ?_) rfl (by kernel_rfl) (by kernel_rfl) (by kernel_rfl) (fun _ _ _ h => h) (Or.inl ⟨by rfl, ?_⟩) trivial ?_
          rotate_left
          · (intro W hSw; go_simp <;> with_reducible rfl)
          try simp only [Act.put, List.setIfInBounds_toArray, List.set_cons_zero, List.set_cons_succ]
          refine wpAnyH_ready (rs := [0, 7]) (by kernel_rfl) (by simp) ?_
          refine AllReadyH.cons (o := ⟨some 39, Op.buildSlice 22 0 #[], 22, _, _, none⟩) rfl (fun K hK => ?_) (AllReadyH.cons (o := ⟨some 46, Op.load 22 (Operand.tmp 45), 22, _, _, none⟩) rfl (fun K hK => ?_) (AllReadyH.nil))
          · skip
            go_simp
            generalize hwz : World.alloc c0 (.cells #[] 38) = c1
            have hz : Below c0.heap.size c0 c1 := hwz ▸ (Below.refl _ _).alloc (Nat.le_refl _) _
            have hc1 : Below ws.heap.size ws c1 := below_trans hc0 hz
            have e39 : Emp5 ws.heap.size c1 (.slice (some ⟨c0.heap.size, 0, none⟩) 0 0) := Emp5.new hwz hc0.size
            clear hwz hz
            generalize Value.slice (some (Addr.mk c0.heap.size 0 none)) 0 0 = v39 at e39 ⊢
            try clear hc0
            try clear c0
            refine hK.out _ _ trivial (fun hzz => ?_)
            clear hzz hK K
            try simp only [Act.put, List.setIfInBounds_toArray, List.set_cons_zero, List.set_cons_succ]
            refine wpAnyH_ready (rs := [5, 7]) (by kernel_rfl) (by simp) ?_
            refine AllReadyH.cons (o := ⟨some 44, Op.call ⟨Callee.builtin Builtin.append, #[Operand.tmp 39, Operand.tmp 43], #[22, 22]⟩, 22, _, _, none⟩) rfl (fun K hK => ?_) (AllReadyH.cons (o := ⟨some 46, Op.load 22 (Operand.tmp 45), 22, _, _, none⟩) rfl (fun K hK => ?_) (AllReadyH.nil))
            · skip
              refine step_append_may rfl (.tmp 39) (.tmp 43) 22 rfl ws.heap.size 38 i0 (.agg #[.int .i64 0, .string ⟨#[]⟩, .string ⟨#[]⟩, .int .i64 0, .int .i64 0]) 5 56 Try.underlying22 hi0 hz0 hz1 hz2 rfl (by decide) v39 0 [] rfl e39.own _ k (Pp.flatS (M.take k)) rfl (HSR1.out _ hc1) (flatS_one _) (by unfold maxLen; omega) (by omega) hc1.size ?_
              intro v44 c2 ho hgr
              have o44 : OwnS ws.heap.size c2 v44 (M.take k) := ownS_of (by rw [List.length_take, Nat.min_eq_left (by omega)]; rw [Nat.zero_add, List.nil_append] at ho; exact ho)
              have hc2 : Below ws.heap.size ws c2 := hc1.grown hgr hc1.size (fun k hk => (e39.own.lt k hk).1)
              clear ho hgr e39
              try clear hc1
              try clear c1
              refine hK.out _ _ trivial (fun hzz => ?_)
              clear hzz hK K
              try simp only [Act.put, List.setIfInBounds_toArray, List.set_cons_zero, List.set_cons_succ]
              refine wpAnyH_ready (rs := [7]) (by kernel_rfl) (by simp) ?_
              refine AllReadyH.cons (o := ⟨some 46, Op.load 22 (Operand.tmp 45), 22, _, _, none⟩) rfl (fun K hK => ?_) (AllReadyH.nil)
              · skip
                obtain ⟨f9, ⟨f0, f1, f2, f3⟩, f8⟩ := HUS.out.below hc2
                go_simp
                refine hK.out _ _ trivial (fun hzz => ?_)
                clear hzz hK K f0 f1 f2 f3 f8 f9
                try simp only [Act.put, List.setIfInBounds_toArray, List.set_cons_zero, List.set_cons_succ]
                refine wpAnyH_take (i := 10) (oi := ⟨some 49, Op.slice 22 (Operand.tmp 46) (some (Operand.tmp 48)) none none, 22, _, _, none⟩) (v := ?_) rfl (by kernel_rfl) (by kernel_rfl) (by kernel_rfl) (fun _ _ _ h => h) (Or.inl ⟨by rfl, ?_⟩) trivial ?_
                rotate_left
                · (intro W hSw; go_simp <;> with_reducible rfl)
                try simp only [Act.put, List.setIfInBounds_toArray, List.set_cons_zero, List.set_cons_succ]
                revert o44
                revert hc2
                revert c2
                revert v44
                revert v39
                exact rest.out
            · skip
              obtain ⟨f9, ⟨f0, f1, f2, f3⟩, f8⟩ := HUS.out.below hc1
              go_simp
              refine hK.out _ _ trivial (fun hzz => ?_)
              clear hzz hK K f0 f1 f2 f3 f8 f9
              try simp only [Act.put, List.setIfInBounds_toArray, List.set_cons_zero, List.set_cons_succ]
              refine wpAnyH_take (i := 10) (oi := ⟨some 49, Op.slice 22 (Operand.tmp 46) (some (Operand.tmp 48)) none none, 22, _, _, none⟩) (v := ?_) rfl (by kernel_rfl) (by kernel_rfl) (by kernel_rfl) (fun _ _ _ h => h) (Or.inl ⟨by rfl, ?_⟩) trivial ?_
              rotate_left
              · (intro W hSw; go_simp <;> with_reducible rfl)
              try simp only [Act.put, List.setIfInBounds_toArray, List.set_cons_zero, List.set_cons_succ]
              refine wpAnyH_ready (rs := [5]) (by kernel_rfl) (by simp) ?_
              refine AllReadyH.cons (o := ⟨some 44, Op.call ⟨Callee.builtin Builtin.append, #[Operand.tmp 39, Operand.tmp 43], #[22, 22]⟩, 22, _, _, none⟩) rfl (fun K hK => ?_) (AllReadyH.nil)
              · skip
                refine step_append_may rfl (.tmp 39) (.tmp 43) 22 rfl ws.heap.size 38 i0 (.agg #[.int .i64 0, .string ⟨#[]⟩, .string ⟨#[]⟩, .int .i64 0, .int .i64 0]) 5 56 Try.underlying22 hi0 hz0 hz1 hz2 rfl (by decide) v39 0 [] rfl e39.own _ k (Pp.flatS (M.take k)) rfl (HSR1.out _ hc1) (flatS_one _) (by unfold maxLen; omega) (by omega) hc1.size ?_
                intro v44 c2 ho hgr
                have o44 : OwnS ws.heap.size c2 v44 (M.take k) := ownS_of (by rw [List.length_take, Nat.min_eq_left (by omega)]; rw [Nat.zero_add, List.nil_append] at ho; exact ho)
                have hc2 : Below ws.heap.size ws c2 := hc1.grown hgr hc1.size (fun k hk => (e39.own.lt k hk).1)
                clear ho hgr e39
                try clear hc1
                try clear c1
                refine hK.out _ _ trivial (fun hzz => ?_)
                clear hzz hK K
                try simp only [Act.put, List.setIfInBounds_toArray, List.set_cons_zero, List.set_cons_succ]
                revert o44
                revert hc2
                revert c2
                revert v44
                revert v39
                exact rest.out
          · skip
            obtain ⟨f9, ⟨f0, f1, f2, f3⟩, f8⟩ := HUS.out.below hc0
            go_simp
            refine hK.out _ _ trivial (fun hzz => ?_)
            clear hzz hK K f0 f1 f2 f3 f8 f9
            try simp only [Act.put, List.setIfInBounds_toArray, List.set_cons_zero, List.set_cons_succ]
            refine wpAnyH_take (i := 10) (oi := ⟨some 49, Op.slice 22 (Operand.tmp 46) (some (Operand.tmp 48)) none none, 22, _, _, none⟩) (v := ?_) rfl (by kernel_rfl) (by kernel_rfl) (by kernel_rfl) (fun _ _ _ h => h) (Or.inl ⟨by rfl, ?_⟩) trivial ?_
            rotate_left
            · (intro W hSw; go_simp <;> with_reducible rfl)
            try simp only [Act.put, List.setIfInBounds_toArray, List.set_cons_zero, List.set_cons_succ]
            refine wpAnyH_ready (rs := [0]) (by kernel_rfl) (by simp) ?_
            refine AllReadyH.cons (o := ⟨some 39, Op.buildSlice 22 0 #[], 22, _, _, none⟩) rfl (fun K hK => ?_) (AllReadyH.nil)
            · skip
              go_simp
              generalize hwz : World.alloc c0 (.cells #[] 38) = c1
              have hz : Below c0.heap.size c0 c1 := hwz ▸ (Below.refl _ _).alloc (Nat.le_refl _) _
              have hc1 : Below ws.heap.size ws c1 := below_trans hc0 hz
              have e39 : Emp5 ws.heap.size c1 (.slice (some ⟨c0.heap.size, 0, none⟩) 0 0) := Emp5.new hwz hc0.size
              clear hwz hz
              generalize Value.slice (some (Addr.mk c0.heap.size 0 none)) 0 0 = v39 at e39 ⊢
              try clear hc0
              try clear c0
              refine hK.out _ _ trivial (fun hzz => ?_)
              clear hzz hK K
              try simp only [Act.put, List.setIfInBounds_toArray, List.set_cons_zero, List.set_cons_succ]
              refine wpAnyH_ready (rs := [5]) (by kernel_rfl) (by simp) ?_
              refine AllReadyH.cons (o := ⟨some 44, Op.call ⟨Callee.builtin Builtin.append, #[Operand.tmp 39, Operand.tmp 43], #[22, 22]⟩, 22, _, _, none⟩) rfl (fun K hK => ?_) (AllReadyH.nil)
              · skip
                refine step_append_may rfl (.tmp 39) (.tmp 43) 22 rfl ws.heap.size 38 i0 (.agg #[.int .i64 0, .string ⟨#[]⟩, .string ⟨#[]⟩, .int .i64 0, .int .i64 0]) 5 56 Try.underlying22 hi0 hz0 hz1 hz2 rfl (by decide) v39 0 [] rfl e39.own _ k (Pp.flatS (M.take k)) rfl (HSR1.out _ hc1) (flatS_one _) (by unfold maxLen; omega) (by omega) hc1.size ?_
                intro v44 c2 ho hgr
                have o44 : OwnS ws.heap.size c2 v44 (M.take k) := ownS_of (by rw [List.length_take, Nat.min_eq_left (by omega)]; rw [Nat.zero_add, List.nil_append] at ho; exact ho)
                have hc2 : Below ws.heap.size ws c2 := hc1.grown hgr hc1.size (fun k hk => (e39.own.lt k hk).1)
                clear ho hgr e39
                try clear hc1
                try clear c1
                refine hK.out _ _ trivial (fun hzz => ?_)
                clear hzz hK K
                try simp only [Act.put, List.setIfInBounds_toArray, List.set_cons_zero, List.set_cons_succ]
                revert o44
                revert hc2
                revert c2
                revert v44
                revert v39
                exact rest.out
        · skip
          obtain ⟨f9, ⟨f0, f1, f2, f3⟩, f8⟩ := HUS.out.below hc0
          go_simp
          refine hK.out _ _ trivial (fun hzz => ?_)
          clear hzz hK K f0 f1 f2 f3 f8 f9
          try simp only [Act.put, List.setIfInBounds_toArray, List.set_cons_zero, List.set_cons_succ]
          refine wpAnyH_take (i := 10) (oi := ⟨some 49, Op.slice 22 (Operand.tmp 46) (some (Operand.tmp 48)) none none, 22, _, _, none⟩) (v := ?_) rfl (by kernel_rfl) (by kernel_rfl) (by kernel_rfl) (fun _ _ _ h => h) (Or.inl ⟨by rfl, ?_⟩) trivial ?_
          rotate_left
          · (intro W hSw; go_simp <;> with_reducible rfl)
          try simp only [Act.put, List.setIfInBounds_toArray, List.set_cons_zero, List.set_cons_succ]
          refine wpAnyH_ready (rs := [0, 2]) (by kernel_rfl) (by simp) ?_
          refine AllReadyH.cons (o := ⟨some 39, Op.buildSlice 22 0 #[], 22, _, _, none⟩) rfl (fun K hK => ?_) (AllReadyH.cons (o := ⟨some 41, Op.load 22 (Operand.tmp 40), 22, _, _, none⟩) rfl (fun K hK => ?_) (AllReadyH.nil))
          · skip
            go_simp
            generalize hwz : World.alloc c0 (.cells #[] 38) = c1
            have hz : Below c0.heap.size c0 c1 := hwz ▸ (Below.refl _ _).alloc (Nat.le_refl _) _
            have hc1 : Below ws.heap.size ws c1 := below_trans hc0 hz
            have e39 : Emp5 ws.heap.size c1 (.slice (some ⟨c0.heap.size, 0, none⟩) 0 0) := Emp5.new hwz hc0.size
            clear hwz hz
            generalize Value.slice (some (Addr.mk c0.heap.size 0 none)) 0 0 = v39 at e39 ⊢
            try clear hc0
            try clear c0
            refine hK.out _ _ trivial (fun hzz => ?_)
            clear hzz hK K
            try simp only [Act.put, List.setIfInBounds_toArray, List.set_cons_zero, List.set_cons_succ]
            refine wpAnyH_ready (rs := [2]) (by kernel_rfl) (by simp) ?_
            refine AllReadyH.cons (o := ⟨some 41, Op.load 22 (Operand.tmp 40), 22, _, _, none⟩) rfl (fun K hK => ?_) (AllReadyH.nil)
            · skip
              obtain ⟨f9, ⟨f0, f1, f2, f3⟩, f8⟩ := HUS.out.below hc1
              go_simp
              refine hK.out _ _ trivial (fun hzz => ?_)
              clear hzz hK K f0 f1 f2 f3 f8 f9
              try simp only [Act.put, List.setIfInBounds_toArray, List.set_cons_zero, List.set_cons_succ]
              refine wpAnyH_take (i := 4) (oi := ⟨some 43, Op.slice 22 (Operand.tmp 41) none (some (Operand.tmp 42)) none, 22, _, _, none⟩) (v := ?_) rfl (by kernel_rfl) (by kernel_rfl) (by kernel_rfl) (fun _ _ _ h => h) (Or.inl ⟨by rfl, ?_⟩) trivial ?_
              rotate_left
              · (intro W hSw; go_simp <;> with_reducible rfl)
              try simp only [Act.put, List.setIfInBounds_toArray, List.set_cons_zero, List.set_cons_succ]
              refine wpAnyH_ready (rs := [5]) (by kernel_rfl) (by simp) ?_
              refine AllReadyH.cons (o := ⟨some 44, Op.call ⟨Callee.builtin Builtin.append, #[Operand.tmp 39, Operand.tmp 43], #[22, 22]⟩, 22, _, _, none⟩) rfl (fun K hK => ?_) (AllReadyH.nil)
              · skip
                refine step_append_may rfl (.tmp 39) (.tmp 43) 22 rfl ws.heap.size 38 i0 (.agg #[.int .i64 0, .string ⟨#[]⟩, .string ⟨#[]⟩, .int .i64 0, .int .i64 0]) 5 56 Try.underlying22 hi0 hz0 hz1 hz2 rfl (by decide) v39 0 [] rfl e39.own _ k (Pp.flatS (M.take k)) rfl (HSR1.out _ hc1) (flatS_one _) (by unfold maxLen; omega) (by omega) hc1.size ?_
                intro v44 c2 ho hgr
                have o44 : OwnS ws.heap.size c2 v44 (M.take k) := ownS_of (by rw [List.length_take, Nat.min_eq_left (by omega)]; rw [Nat.zero_add, List.nil_append] at ho; exact ho)
                have hc2 : Below ws.heap.size ws c2 := hc1.grown hgr hc1.size (fun k hk => (e39.own.lt k hk).1)
                clear ho hgr e39
                try clear hc1
                try clear c1
                refine hK.out _ _ trivial (fun hzz => ?_)
                clear hzz hK K
                try simp only [Act.put, List.setIfInBounds_toArray, List.set_cons_zero, List.set_cons_succ]
                revert o44
                revert hc2
                revert c2
                revert v44
                revert v39
                exact rest.out
          · skip
            obtain ⟨f9, ⟨f0, f1, f2, f3⟩, f8⟩ := HUS.out.below hc0
            go_simp
            refine hK.out _ _ trivial (fun hzz => ?_)
            clear hzz hK K f0 f1 f2 f3 f8 f9
            try simp only [Act.put, List.setIfInBounds_toArray, List.set_cons_zero, List.set_cons_succ]
            refine wpAnyH_take (i := 4) (oi := ⟨some 43, Op.slice 22 (Operand.tmp 41) none (some (Operand.tmp 42)) none, 22, _, _, none⟩) (v := ?_) rfl (by kernel_rfl) (by kernel_rfl) (by kernel_rfl) (fun _ _ _ h => h) (Or.inl ⟨by rfl, ?_⟩) trivial ?_
            rotate_left
            · (intro W hSw; go_simp <;> with_reducible rfl)
            try simp only [Act.put, List.setIfInBounds_toArray, List.set_cons_zero, List.set_cons_succ]
            refine wpAnyH_ready (rs := [0]) (by kernel_rfl) (by simp) ?_
            refine AllReadyH.cons (o := ⟨some 39, Op.buildSlice 22 0 #[], 22, _, _, none⟩) rfl (fun K hK => ?_) (AllReadyH.nil)
            · skip
              go_simp
              generalize hwz : World.alloc c0 (.cells #[] 38) = c1
              have hz : Below c0.heap.size c0 c1 := hwz ▸ (Below.refl _ _).alloc (Nat.le_refl _) _
              have hc1 : Below ws.heap.size ws c1 := below_trans hc0 hz
              have e39 : Emp5 ws.heap.size c1 (.slice (some ⟨c0.heap.size, 0, none⟩) 0 0) := Emp5.new hwz hc0.size
              clear hwz hz
              generalize Value.slice (some (Addr.mk c0.heap.size 0 none)) 0 0 = v39 at e39 ⊢
              try clear hc0
              try clear c0
              refine hK.out _ _ trivial (fun hzz => ?_)
              clear hzz hK K
              try simp only [Act.put, List.setIfInBounds_toArray, List.set_cons_zero, List.set_cons_succ]
              refine wpAnyH_ready (rs := [5]) (by kernel_rfl) (by simp) ?_
              refine AllReadyH.cons (o := ⟨some 44, Op.call ⟨Callee.builtin Builtin.append, #[Operand.tmp 39, Operand.tmp 43], #[22, 22]⟩, 22, _, _, none⟩) rfl (fun K hK => ?_) (AllReadyH.nil)
              · skip
                refine step_append_may rfl (.tmp 39) (.tmp 43) 22 rfl ws.heap.size 38 i0 (.agg #[.int .i64 0, .string ⟨#[]⟩, .string ⟨#[]⟩, .int .i64 0, .int .i64 0]) 5 56 Try.underlying22 hi0 hz0 hz1 hz2 rfl (by decide) v39 0 [] rfl e39.own _ k (Pp.flatS (M.take k)) rfl (HSR1.out _ hc1) (flatS_one _) (by unfold maxLen; omega) (by omega) hc1.size ?_
                intro v44 c2 ho hgr
                have o44 : OwnS ws.heap.size c2 v44 (M.take k) := ownS_of (by rw [List.length_take, Nat.min_eq_left (by omega)]; rw [Nat.zero_add, List.nil_append] at ho; exact ho)
                have hc2 : Below ws.heap.size ws c2 := hc1.grown hgr hc1.size (fun k hk => (e39.own.lt k hk).1)
                clear ho hgr e39
                try clear hc1
                try clear c1
                refine hK.out _ _ trivial (fun hzz => ?_)
                clear hzz hK K
                try simp only [Act.put, List.setIfInBounds_toArray, List.set_cons_zero, List.set_cons_succ]
                revert o44
                revert hc2
                revert c2
                revert v44
                revert v39
                exact rest.out
      intro v39 v44 cw hc o44
      refine wpAnyH_ready (rs := [11]) (by kernel_rfl) (by simp) ?_
      refine AllReadyH.cons (o := ⟨some 50, Op.call ⟨Callee.builtin Builtin.append, #[Operand.tmp 44, Operand.tmp 49], #[22, 22]⟩, 22, _, _, none⟩) rfl (fun K hK => ?_) AllReadyH.nil
      refine step_append_may rfl (.tmp 44) (.tmp 49) 22 rfl ws.heap.size 38 i0 (.agg #[.int .i64 0, .string ⟨#[]⟩, .string ⟨#[]⟩, .int .i64 0, .int .i64 0]) 5 56 Try.underlying22 hi0 hz0 hz1 hz2 rfl (by decide) v44 (M.take k).length (Pp.flatS (M.take k)) rfl o44.row _ (M.length - (k + 1)) (Pp.flatS (M.drop (k + 1))) rfl (HSR2.out _ hc) (flatS_one _) (by rw [List.length_take]; unfold maxLen; omega) (by rw [List.length_take]; omega) hc.size ?_
      intro v50 w2 ho2 hgr2
      have hnl : (M.take k ++ M.drop (k + 1)).length = (M.take k).length + (M.length - (k + 1)) := by
        have h9 : (M.take k ++ M.drop (k + 1)).length = (M.take k).length + (M.drop (k + 1)).length := List.length_append
        rw [List.length_drop] at h9
        omega
      have ho3 : w2.ownsRow ws.heap.size 38 5 v50 (M.take k ++ M.drop (k + 1)).length (Pp.flatS (M.take k ++ M.drop (k + 1))) := by rw [hnl, Pp.flatS_append]; exact ho2
      have HO2 := ghid (ownS_of ho3)
      have hc2 : Below ws.heap.size ws w2 := hc.grown hgr2 hc.size (fun k hk => (o44.row.lt k hk).1)
      have hnl2 : (M.take k ++ M.drop (k + 1)).length ≤ 1000 := by rw [hnl, List.length_take]; omega
      obtain ⟨a6, cap6, hv2, _, _, _⟩ := HO2.out.lies hnl2
      subst hv2
      obtain ⟨N, hN⟩ : ∃ N, N = (M.take k ++ M.drop (k + 1)) := ⟨_, rfl⟩
      have HN9 := ghid hN
      rw [← hN] at HO2 ⊢
      clear ho2 ho3 hgr2 o44 hc hnl hnl2 hN
      refine hK.out _ _ trivial (fun hzz => ?_)
      clear hK K hzz
      try simp only [Act.put, List.setIfInBounds_toArray, List.set_cons_zero, List.set_cons_succ]
      refine wpAnyH_take (i := 12) (oi := ⟨some 51, Op.fieldAddr 24 (Operand.tmp 4) 0, 0, _, _, none⟩) (v := ?_) rfl (by kernel_rfl) (by kernel_rfl) (by kernel_rfl) (fun _ _ _ h => h) (Or.inl ⟨by rfl, ?_⟩) trivial ?_
      rotate_left
      · (intro W hSw; go_simp <;> with_reducible rfl)
      try simp only [Act.put, List.setIfInBounds_toArray, List.set_cons_zero, List.set_cons_succ]
      obtain ⟨hUb2, ⟨q0, q1, q2, q3⟩, k0, k1, k2, k3⟩ := HUS.out.below hc2
      refine wpAnyH_ready (rs := [13]) (by kernel_rfl) (by simp) ?_
      refine AllReadyH.cons (o := ⟨none, Op.store 22 (Operand.tmp 51) (Operand.tmp 50), 0, _, _, none⟩) rfl (fun K hK => ?_) AllReadyH.nil
      go_simp
      refine hK.out _ _ trivial (fun hzz => ?_)
      clear hzz hK K
      try simp only [Act.put, List.setIfInBounds_toArray, List.set_cons_zero, List.set_cons_succ]
      refine wpAnyH_done (by kernel_rfl) ?_ _
      have hsz2 := hc2.size
      obtain ⟨wz, hwz⟩ : ∃ wz, wz = w2.setCell ⟨w.heap.size, 0, none⟩ (.slice a6 N.length cap6) := ⟨_, rfl⟩
      have hnbz : w2.grownBy wz (some w.heap.size) := by rw [hwz]; exact Nb.setCell _ _ _ _
      have HRZ := ghid ((HRS.out.below hc2).nb hnbz (by omega))
      have z0 : wz.cell? ⟨w.heap.size, 0, none⟩ = some (.slice a6 N.length cap6) := by rw [hwz]; simp [go_sem, q0]
      have z1 : wz.cell? ⟨w.heap.size, 1, none⟩ = some (.int .i64 x) := by rw [hwz]; simp [go_sem, q1]
      have z2 : wz.cell? ⟨w.heap.size, 2, none⟩ = some (.int .i64 l) := by rw [hwz]; simp [go_sem, q2]
      have z3 : wz.cell? ⟨w.heap.size, 3, none⟩ = some (.int .i64 r) := by rw [hwz]; simp [go_sem, q3]
      have y2 : wz.cell? ⟨wq.heap.size, 2, none⟩ = some (.string s.tx) := (Nb.cell hnbz (p := ⟨wq.heap.size, 2, none⟩) (by show wq.heap.size < w2.heap.size; omega) (by show wq.heap.size ≠ w.heap.size; omega)).trans ((hc2.cell (p := ⟨wq.heap.size, 2, none⟩) (by show wq.heap.size < ws.heap.size; omega)).trans HSB.out.1.2.2.1)
      have hb0z : Below w.heap.size w wz := (hb0s.trans (hc2.mono hb0s.size)).trans (Nb.to hnbz (hb0s.trans (hc2.mono hb0s.size)).size (Nat.le_refl _))
      have HOZ := ghid (HO2.out.nb hnbz (by omega))
      clear HO2 hnbz
      go_wp2_with fail
      rw [← hwz]
      clear hwz q0 q1 q2 q3 k0 k1 k2 k3
      obtain ⟨hRb, ⟨c0, c1, c2, c3⟩, f0, f1, f2, f3⟩ := HRZ.out
      go_region
      go_wp2_with fail
      refine bodyPost_ret (v := .tuple #[.agg #[.slice a6 N.length cap6, .int .i64 x, .int .i64 l, .int .i64 r], .string s.tx, .int .i64 0]) (by simp [results, Try.results16, go_sem, c0, c1, c2, c3, hRb]) rfl (FiPost.ok HEQ.out ?_ ?_)
      · rw [← HN9.out]
        exact ((HOZ.out.nb (Nb.set4 _ (w.heap.size + 1) _ _ _ _) (by omega)).below (Below.refl _ _).drew).mono (by omega)
      · exact (below_set4 (b := w.heap.size + 1) hb0z (by omega)).drew
  · have HNE := ghid hsz
    have hne : ((s.tx.size : Int) != s.si) = true := by simpa using hsz
    clear hsz
    obtain ⟨hRb, ⟨c0, c1, c2, c3⟩, f0, f1, f2, f3⟩ := HRS.out
    go_wp2_with fail
    refine bodyPost_ret (v := .tuple #[.agg #[.slice none 0 0, .int .i64 0, .int .i64 0, .int .i64 0], .string ⟨#[]⟩, .int .i64 4]) (by simp [results, Try.results16, go_sem, c0, c1, c2, c3, hRb]) rfl (FiPost.e4 HNE.out ?_)
    exact below_set4 (b := w.heap.size + 1) hb0s (by omega)

set_option maxRecDepth 100000 in
set_option maxHeartbeats 8000000 in
theorem finishRef_e1 (G : List Se) (v : Value) (x l r : Int) (p : ByteArray) (n : Int) (now : Int) (w : World) (hv : LiesS w v G) (hs : SizedS G) (hp : p.size ≤ 150000000000000) (h0 : ¬ Pp.fiE G x l r p n now = 0) :
    Calls Try.prog 16 #[.agg #[v, .int .i64 x, .int .i64 l, .int .i64 r], .string p, .int .i64 n, .int .i64 now] w fun e w' => e = .returned (.tuple #[.agg #[.slice none 0 0, .int .i64 0, .int .i64 0, .int .i64 0], .string ⟨#[]⟩, .int .i64 (Pp.fiE G x l r p n now)]) ∧ Below w.heap.size w w' := by
  have HV := ghid hv
  have HS := ghid hs
  obtain ⟨av, capv, rfl, _⟩ := hv
  clear hs
  obtain ⟨w3, hw3⟩ : ∃ w3, w3 = (w.alloc (.cells #[.slice av G.length capv, .int .i64 x, .int .i64 l, .int .i64 r] 24)).alloc (.cells #[.slice none 0 0, .int .i64 0, .int .i64 0, .int .i64 0] 24) := ⟨_, rfl⟩
  have B3 : Hid (Below w.heap.size w w3) := (by rw [hw3]; exact ((Below.refl _ _).alloc (Nat.le_refl _) _).alloc (by simp) _ : Below w.heap.size w w3)
  have HU3 : Hid (Bx w3 w.heap.size (.slice av G.length capv) (.int .i64 x) (.int .i64 l) (.int .i64 r)) := (by rw [hw3]; exact (Bx.new w _ _ _ _ _).below ((Below.refl _ _).alloc (Nat.le_refl _) _) : Bx w3 w.heap.size (.slice av G.length capv) (.int .i64 x) (.int .i64 l) (.int .i64 r))
  have HR3 : Hid (Bx w3 (w.heap.size + 1) (.slice none 0 0) (.int .i64 0) (.int .i64 0) (.int .i64 0)) := (by
    have := Bx.new (w.alloc (.cells #[.slice av G.length capv, .int .i64 x, .int .i64 l, .int .i64 r] 24)) (.slice none 0 0) (.int .i64 0) (.int .i64 0) (.int .i64 0) 24
    rw [hw3]; simpa using this : Bx w3 (w.heap.size + 1) (.slice none 0 0) (.int .i64 0) (.int .i64 0) (.int .i64 0))
  have hsz3 : w3.heap.size = w.heap.size + 2 := by rw [hw3]; simp
  have HNZ := ghid h0
  have hz : (Pp.fiE G x l r p n now == 0) = false := by simpa using h0
  clear h0
  go_enter Try.func16, Try.ntmps16
  go_wp2_with fail
  rw [← hw3]
  clear hw3
  refine (mineOf_any G _ x l r p n now _ (HV.out.below B3.out) HS.out hp).mono ?_
  rintro e w4 (⟨_, a4, m4, cc4, rfl, hb4⟩ | ⟨hh, _⟩)
  rotate_left
  · exact absurd hh HNZ.out
  have hb04 := B3.out.trans (hb4.mono B3.out.size)
  obtain ⟨hRb, ⟨c0, c1, c2, c3⟩, f0, f1, f2, f3⟩ := HR3.out.below hb4
  obtain ⟨hUb, ⟨u0, u1, u2, u3⟩, g0, g1, g2, g3⟩ := HU3.out.below hb4
  have hsz4 := hb4.size
  clear hb4
  generalize hy : Pp.fiE G x l r p n now = y at *
  go_wp2_with fail
  refine bodyPost_ret (v := .tuple #[.agg #[.slice none 0 0, .int .i64 0, .int .i64 0, .int .i64 0], .string ⟨#[]⟩, .int .i64 y]) (by simp [results, Try.results16, go_sem, c0, c1, c2, c3, hRb]) rfl ⟨by rw [hy], ?_⟩
  exact below_set4 (b := w.heap.size + 1) (below_set4 (b := w.heap.size) hb04 (Nat.le_refl _)) (by omega)
end Go.Proofs.Ytnaedemkpiagmaa
