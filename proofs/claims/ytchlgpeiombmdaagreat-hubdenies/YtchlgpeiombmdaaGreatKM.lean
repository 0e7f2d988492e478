/- What the server's number answers to requests that open an upload, or append to one. What the server's number answers to requests that ask after an upload. What the server's finish does. -/
import Derived.Test.YtchlgpeiombmdaaGreatKG
import Derived.Deep.RegionLaw
import Derived.Deep.DeepCutAuto
import Derived.WalkKit
import Derived.Deep.RegionHeld3
set_option linter.unusedSimpArgs false
set_option linter.unusedVariables false
namespace Go.Proofs.YtchlgpeiombmdaaGreat
open Go.RowKit

structure LaterH (p : Prop) : Prop where out : p
theorem laterH {p q : Prop} (h : LaterH p → q) (hp : p) : q := h ⟨hp⟩
/-- What becomes of uploads: the error, the sessions, the next number, how long they last, the room, and the number that is told. -/
structure Ur where
 e : Int
 ss : List Se
 nx : Int
 la : Int
 ro : Int
 num : Int
def UpCall (W : World) (f : Nat) (args : Array Value) (U : Ur) : Prop := Calls Tryz.prog f args W fun z w' => ∃ u, z = .returned (.tuple #[.agg #[u, .int .i64 U.nx, .int .i64 U.la, .int .i64 U.ro], .int .i64 U.num, .int .i64 U.e]) ∧ LiesS w' u U.ss ∧ Below W.heap.size W w'
set_option maxRecDepth 100000 in
set_option maxHeartbeats 8000000 in
theorem snum_open (H : Hb) (q : Rq) (vq vf : Value) (g mb : Nat) (w : World) (U : Ur) (hsv : SvL w g mb H) (hq : LiesQ w vq q) (hk : q.kind = 4) (hop : ∀ (W : World) (v : Value), LiesS W v H.ss → UpCall W 81 #[.agg #[v, .int .i64 H.nx, .int .i64 H.la, .int .i64 H.ro], .string q.who, .int .i64 q.num, .int .i64 H.now] U) :
    Calls Tryz.prog 42 #[.pointer (some ⟨g, 0, none⟩), vq] w fun z w' => z = .returned (.tuple #[.int .i64 U.num, .int .i64 U.e]) ∧ SvL w' g mb (Hu.upH H U.e U.ss U.nx U.la U.ro) ∧ Nb2 w w' g (bo vf g) := by
 have HOP := hid hop
 clear hop
 obtain ⟨va, rfl, lq⟩ := hq
 have HLQ := hid lq
 obtain ⟨qa, qc, rfl, _⟩ := lq
 obtain ⟨kind, who, fo, name, key, text, num, off, base, ch⟩ := q
 simp only at *
 obtain ⟨wz, hwz⟩ : ∃ wz, wz = w.alloc (.cells #[.int .i64 kind, .string who, .string fo, .string name, .string key, .string text, .int .i64 num, .int .i64 off, .int .i64 base, .slice qa ch.length qc] 31) := ⟨_, rfl⟩
 have hbz : Below w.heap.size w wz := by rw [hwz]; exact (Below.refl _ _).alloc (Nat.le_refl _) _
 have HQX : Hid (Cs wz w.heap.size [.int .i64 kind, .string who, .string fo, .string name, .string key, .string text, .int .i64 num, .int .i64 off, .int .i64 base, .slice qa ch.length qc]) := (by rw [hwz]; exact Cs.new w [.int .i64 kind, .string who, .string fo, .string name, .string key, .string text, .int .i64 num, .int .i64 off, .int .i64 base, .slice qa ch.length qc] _ : Cs wz w.heap.size _)
 subst hk
 obtain ⟨fa, fc, ga, gc, sa, sc, hC, hF, hG, hS⟩ := hsv.shape
 have HC := hid (hC.below hbz)
 have HLS := hid (hS.below hbz)
 have HSZ := hid (hsv.below hbz)
 have hgl : g < w.heap.size := hC.lt
 have hgz := HC.out.lt
 have hql := HQX.out.lt
 clear hsv hC hF hG hS
 have x0 := HQX.out.cell 0 rfl
 have x1 := HQX.out.cell 1 rfl
 have x6 := HQX.out.cell 6 rfl
 go_enter Tryz.func42, Tryz.ntmps42
 go_upto_region 1 with fail
 rw [← hwz]
 clear hwz
 go_wp2_with fail
 clear x0
 refine wp_region_held_drew (S := fun W => W.cell? ⟨w.heap.size, 1, none⟩ = some (.string who) ∧ W.cell? ⟨w.heap.size, 6, none⟩ = some (.int .i64 num)) (by kernel_rfl) ⟨by simpa using x1, by simpa using x6⟩ (fun hHeld => ?_)
 change wpAnyH _ _ _ _ _ 24 #[false, false, false, false, false, false, false, false, false, false, false, false, false, false, false, false, false, false, false, false, false, false, false, false] _ _
 have hc0 : Below wz.heap.size wz wz.drew := (Below.refl _ _).drew
 generalize wz.drew = c0 at hHeld hc0 ⊢
 refine wpAnyH_take (i := 0) (oi := ⟨some 29, Op.move (Operand.tmp 0), _, _, _, none⟩) (v := ?_) rfl (by kernel_rfl) (by kernel_rfl) (by kernel_rfl) (fun _ _ _ h => h) (Or.inl ⟨by rfl, ?_⟩) hHeld ?_
 rotate_left
 · (intro W hSw; obtain ⟨t0, t1⟩ := hSw; go_simp <;> with_reducible rfl)
 try simp only [Act.put, List.setIfInBounds_toArray, List.set_cons_zero, List.set_cons_succ]
 refine wpAnyH_take (i := 1) (oi := ⟨some 30, Op.move (Operand.tmp 0), _, _, _, none⟩) (v := ?_) rfl (by kernel_rfl) (by kernel_rfl) (by kernel_rfl) (fun _ _ _ h => h) (Or.inl ⟨by rfl, ?_⟩) hHeld ?_
 rotate_left
 · (intro W hSw; obtain ⟨t0, t1⟩ := hSw; go_simp <;> with_reducible rfl)
 try simp only [Act.put, List.setIfInBounds_toArray, List.set_cons_zero, List.set_cons_succ]
 refine wpAnyH_take (i := 2) (oi := ⟨some 31, Op.nilCheck (Operand.tmp 30), _, _, _, none⟩) (v := ?_) rfl (by kernel_rfl) (by kernel_rfl) (by kernel_rfl) (fun _ _ _ h => h) (Or.inl ⟨by rfl, ?_⟩) hHeld ?_
 rotate_left
 · (intro W hSw; obtain ⟨t0, t1⟩ := hSw; go_simp <;> with_reducible rfl)
 try simp only [Act.put, List.setIfInBounds_toArray, List.set_cons_zero, List.set_cons_succ]
 refine wpAnyH_take (i := 3) (oi := ⟨some 32, Op.fieldAddr 74 (Operand.tmp 31) 0, _, _, _, none⟩) (v := ?_) rfl (by kernel_rfl) (by kernel_rfl) (by kernel_rfl) (fun _ _ _ h => h) (Or.inl ⟨by rfl, ?_⟩) hHeld ?_
 rotate_left
 · (intro W hSw; obtain ⟨t0, t1⟩ := hSw; go_simp <;> with_reducible rfl)
 try simp only [Act.put, List.setIfInBounds_toArray, List.set_cons_zero, List.set_cons_succ]
 refine wpAnyH_take (i := 4) (oi := ⟨some 33, Op.fieldAddr 28 (Operand.tmp 32) 2, _, _, _, none⟩) (v := ?_) rfl (by kernel_rfl) (by kernel_rfl) (by kernel_rfl) (fun _ _ _ h => h) (Or.inl ⟨by rfl, ?_⟩) hHeld ?_
 rotate_left
 · (intro W hSw; obtain ⟨t0, t1⟩ := hSw; go_simp <;> with_reducible rfl)
 try simp only [Act.put, List.setIfInBounds_toArray, List.set_cons_zero, List.set_cons_succ]
 refine wpAnyH_take (i := 6) (oi := ⟨some 35, Op.fieldAddr 31 (Operand.tmp 3) 1, _, _, _, none⟩) (v := ?_) rfl (by kernel_rfl) (by kernel_rfl) (by kernel_rfl) (fun _ _ _ h => h) (Or.inl ⟨by rfl, ?_⟩) hHeld ?_
 rotate_left
 · (intro W hSw; obtain ⟨t0, t1⟩ := hSw; go_simp <;> with_reducible rfl)
 try simp only [Act.put, List.setIfInBounds_toArray, List.set_cons_zero, List.set_cons_succ]
 refine wpAnyH_take (i := 7) (oi := ⟨some 36, Op.load 9 (Operand.tmp 35), _, _, _, none⟩) (v := ?_) rfl (by kernel_rfl) (by kernel_rfl) (by kernel_rfl) (fun _ _ _ h => h) (Or.inl ⟨by rfl, ?_⟩) hHeld ?_
 rotate_left
 · (intro W hSw; obtain ⟨t0, t1⟩ := hSw; go_simp <;> with_reducible rfl)
 try simp only [Act.put, List.setIfInBounds_toArray, List.set_cons_zero, List.set_cons_succ]
 refine wpAnyH_take (i := 8) (oi := ⟨some 37, Op.fieldAddr 31 (Operand.tmp 3) 6, _, _, _, none⟩) (v := ?_) rfl (by kernel_rfl) (by kernel_rfl) (by kernel_rfl) (fun _ _ _ h => h) (Or.inl ⟨by rfl, ?_⟩) hHeld ?_
 rotate_left
 · (intro W hSw; obtain ⟨t0, t1⟩ := hSw; go_simp <;> with_reducible rfl)
 try simp only [Act.put, List.setIfInBounds_toArray, List.set_cons_zero, List.set_cons_succ]
 refine wpAnyH_take (i := 9) (oi := ⟨some 38, Op.load 3 (Operand.tmp 37), _, _, _, none⟩) (v := ?_) rfl (by kernel_rfl) (by kernel_rfl) (by kernel_rfl) (fun _ _ _ h => h) (Or.inl ⟨by rfl, ?_⟩) hHeld ?_
 rotate_left
 · (intro W hSw; obtain ⟨t0, t1⟩ := hSw; go_simp <;> with_reducible rfl)
 try simp only [Act.put, List.setIfInBounds_toArray, List.set_cons_zero, List.set_cons_succ]
 refine wpAnyH_take (i := 10) (oi := ⟨some 39, Op.move (Operand.tmp 0), _, _, _, none⟩) (v := ?_) rfl (by kernel_rfl) (by kernel_rfl) (by kernel_rfl) (fun _ _ _ h => h) (Or.inl ⟨by rfl, ?_⟩) hHeld ?_
 rotate_left
 · (intro W hSw; obtain ⟨t0, t1⟩ := hSw; go_simp <;> with_reducible rfl)
 try simp only [Act.put, List.setIfInBounds_toArray, List.set_cons_zero, List.set_cons_succ]
 refine wpAnyH_take (i := 11) (oi := ⟨some 40, Op.nilCheck (Operand.tmp 39), _, _, _, none⟩) (v := ?_) rfl (by kernel_rfl) (by kernel_rfl) (by kernel_rfl) (fun _ _ _ h => h) (Or.inl ⟨by rfl, ?_⟩) hHeld ?_
 rotate_left
 · (intro W hSw; obtain ⟨t0, t1⟩ := hSw; go_simp <;> with_reducible rfl)
 try simp only [Act.put, List.setIfInBounds_toArray, List.set_cons_zero, List.set_cons_succ]
 refine wpAnyH_take (i := 12) (oi := ⟨some 41, Op.fieldAddr 74 (Operand.tmp 40) 0, _, _, _, none⟩) (v := ?_) rfl (by kernel_rfl) (by kernel_rfl) (by kernel_rfl) (fun _ _ _ h => h) (Or.inl ⟨by rfl, ?_⟩) hHeld ?_
 rotate_left
 · (intro W hSw; obtain ⟨t0, t1⟩ := hSw; go_simp <;> with_reducible rfl)
 try simp only [Act.put, List.setIfInBounds_toArray, List.set_cons_zero, List.set_cons_succ]
 refine wpAnyH_take (i := 13) (oi := ⟨some 42, Op.fieldAddr 28 (Operand.tmp 41) 3, _, _, _, none⟩) (v := ?_) rfl (by kernel_rfl) (by kernel_rfl) (by kernel_rfl) (fun _ _ _ h => h) (Or.inl ⟨by rfl, ?_⟩) hHeld ?_
 rotate_left
 · (intro W hSw; obtain ⟨t0, t1⟩ := hSw; go_simp <;> with_reducible rfl)
 try simp only [Act.put, List.setIfInBounds_toArray, List.set_cons_zero, List.set_cons_succ]
 refine laterH (p := ?_) (fun rest => ?_) ?_
 rotate_left
 · skip
   refine wpAnyH_ready (rs := [5, 14]) (by kernel_rfl) (by simp) ?_
   refine AllReadyH.cons (o := ⟨some 34, Op.load 26 (Operand.tmp 33), _, _, _, none⟩) rfl (fun K hK => ?_) (AllReadyH.cons (o := ⟨some 43, Op.load 3 (Operand.tmp 42), _, _, _, none⟩) rfl (fun K hK => ?_) AllReadyH.nil)
   · skip
     have p2 := (HC.out.below hc0).cell 2 rfl
     have p3 := (HC.out.below hc0).cell 3 rfl
     have p4 := (HC.out.below hc0).cell 4 rfl
     have p5 := (HC.out.below hc0).cell 5 rfl
     go_simp
     refine hK.out _ _ ⟨(HQX.out.below hc0).cell 1 rfl, (HQX.out.below hc0).cell 6 rfl⟩ (fun hzz => ?_)
     clear hzz hK K p2 p3 p4 p5
     try simp only [Act.put, List.setIfInBounds_toArray, List.set_cons_zero, List.set_cons_succ]
     refine wpAnyH_ready (rs := [14]) (by kernel_rfl) (by simp) ?_
     refine AllReadyH.cons (o := ⟨some 43, Op.load 3 (Operand.tmp 42), _, _, _, none⟩) rfl (fun K hK => ?_) AllReadyH.nil
     have p6 := (HC.out.below hc0).cell 6 rfl
     go_simp
     refine hK.out _ _ ⟨(HQX.out.below hc0).cell 1 rfl, (HQX.out.below hc0).cell 6 rfl⟩ (fun hzz => ?_)
     clear hzz hK K p6
     try simp only [Act.put, List.setIfInBounds_toArray, List.set_cons_zero, List.set_cons_succ]
     exact rest.out
   · skip
     have p6 := (HC.out.below hc0).cell 6 rfl
     go_simp
     refine hK.out _ _ ⟨(HQX.out.below hc0).cell 1 rfl, (HQX.out.below hc0).cell 6 rfl⟩ (fun hzz => ?_)
     clear hzz hK K p6
     try simp only [Act.put, List.setIfInBounds_toArray, List.set_cons_zero, List.set_cons_succ]
     refine wpAnyH_ready (rs := [5]) (by kernel_rfl) (by simp) ?_
     refine AllReadyH.cons (o := ⟨some 34, Op.load 26 (Operand.tmp 33), _, _, _, none⟩) rfl (fun K hK => ?_) AllReadyH.nil
     have p2 := (HC.out.below hc0).cell 2 rfl
     have p3 := (HC.out.below hc0).cell 3 rfl
     have p4 := (HC.out.below hc0).cell 4 rfl
     have p5 := (HC.out.below hc0).cell 5 rfl
     go_simp
     refine hK.out _ _ ⟨(HQX.out.below hc0).cell 1 rfl, (HQX.out.below hc0).cell 6 rfl⟩ (fun hzz => ?_)
     clear hzz hK K p2 p3 p4 p5
     try simp only [Act.put, List.setIfInBounds_toArray, List.set_cons_zero, List.set_cons_succ]
     exact rest.out
 refine wpAnyH_ready (rs := [15]) (by kernel_rfl) (by simp) ?_
 refine AllReadyH.cons (o := ⟨some 44, Op.call ⟨Callee.value (Operand.func 81), #[Operand.tmp 34, Operand.tmp 36, Operand.tmp 38, Operand.tmp 43], #[26, 9, 3, 3]⟩, _, _, _, none⟩) rfl (fun K hK => ?_) AllReadyH.nil
 go_simp
 refine (HOP.out c0 _ (HLS.out.below hc0)).mono ?_
 rintro e wa ⟨ua, rfl, hla, hba⟩
 have hya : Below wz.heap.size wz wa := below_tr hc0 hba
 go_wp2_with fail
 refine hK.out _ _ ⟨(HQX.out.below hya).cell 1 rfl, (HQX.out.below hya).cell 6 rfl⟩ (fun hHeld => ?_)
 clear hK K
 try simp only [Act.put, List.setIfInBounds_toArray, List.set_cons_zero, List.set_cons_succ]
 refine wpAnyH_take (i := 16) (oi := ⟨some 45, Op.extract (Operand.tmp 44) 0, _, _, _, none⟩) (v := ?_) rfl (by kernel_rfl) (by kernel_rfl) (by kernel_rfl) (fun _ _ _ h => h) (Or.inl ⟨by rfl, ?_⟩) hHeld ?_
 rotate_left
 · (intro W hSw; obtain ⟨t0, t1⟩ := hSw; go_simp <;> with_reducible rfl)
 try simp only [Act.put, List.setIfInBounds_toArray, List.set_cons_zero, List.set_cons_succ]
 refine wpAnyH_take (i := 17) (oi := ⟨some 46, Op.extract (Operand.tmp 44) 1, _, _, _, none⟩) (v := ?_) rfl (by kernel_rfl) (by kernel_rfl) (by kernel_rfl) (fun _ _ _ h => h) (Or.inl ⟨by rfl, ?_⟩) hHeld ?_
 rotate_left
 · (intro W hSw; obtain ⟨t0, t1⟩ := hSw; go_simp <;> with_reducible rfl)
 try simp only [Act.put, List.setIfInBounds_toArray, List.set_cons_zero, List.set_cons_succ]
 refine wpAnyH_take (i := 18) (oi := ⟨some 47, Op.extract (Operand.tmp 44) 2, _, _, _, none⟩) (v := ?_) rfl (by kernel_rfl) (by kernel_rfl) (by kernel_rfl) (fun _ _ _ h => h) (Or.inl ⟨by rfl, ?_⟩) hHeld ?_
 rotate_left
 · (intro W hSw; obtain ⟨t0, t1⟩ := hSw; go_simp <;> with_reducible rfl)
 try simp only [Act.put, List.setIfInBounds_toArray, List.set_cons_zero, List.set_cons_succ]
 refine wpAnyH_ready (rs := [19]) (by kernel_rfl) (by simp) ?_
 refine AllReadyH.cons (o := ⟨some 48, Op.call ⟨Callee.value (Operand.func 80), #[Operand.tmp 29, Operand.tmp 45, Operand.tmp 46, Operand.tmp 47], #[68, 26, 3, 33]⟩, _, _, _, none⟩) rfl (fun K hK => ?_) AllReadyH.nil
 go_simp
 refine (stake_any H U.ss _ U.nx U.la U.ro U.num U.e g mb wa (HSZ.out.below hya) hla).mono ?_
 rintro e wb ⟨rfl, hsb, hgb⟩
 have HSB := hid hsb
 have HNB := hid (show Nb2 w wb g (bo vf g) from (Nb2.of_below _ _ (below_tr hbz hya)).trans (Nb2.of_left _ hgb))
 have HQB := hid ((HQX.out.below hya).nb hgb (by omega))
 clear hsb hgb hla
 go_wp2_with fail
 refine hK.out _ _ ⟨HQB.out.cell 1 rfl, HQB.out.cell 6 rfl⟩ (fun hHeld => ?_)
 clear hK K
 try simp only [Act.put, List.setIfInBounds_toArray, List.set_cons_zero, List.set_cons_succ]
 refine wpAnyH_take (i := 20) (oi := ⟨some 49, Op.extract (Operand.tmp 48) 0, _, _, _, none⟩) (v := ?_) rfl (by kernel_rfl) (by kernel_rfl) (by kernel_rfl) (fun _ _ _ h => h) (Or.inl ⟨by rfl, ?_⟩) hHeld ?_
 rotate_left
 · (intro W hSw; obtain ⟨t0, t1⟩ := hSw; go_simp <;> with_reducible rfl)
 try simp only [Act.put, List.setIfInBounds_toArray, List.set_cons_zero, List.set_cons_succ]
 refine wpAnyH_take (i := 21) (oi := ⟨some 50, Op.extract (Operand.tmp 48) 1, _, _, _, none⟩) (v := ?_) rfl (by kernel_rfl) (by kernel_rfl) (by kernel_rfl) (fun _ _ _ h => h) (Or.inl ⟨by rfl, ?_⟩) hHeld ?_
 rotate_left
 · (intro W hSw; obtain ⟨t0, t1⟩ := hSw; go_simp <;> with_reducible rfl)
 try simp only [Act.put, List.setIfInBounds_toArray, List.set_cons_zero, List.set_cons_succ]
 refine wpAnyH_take (i := 22) (oi := ⟨some 4, Op.assign (Operand.tmp 49), _, _, _, none⟩) (v := ?_) rfl (by kernel_rfl) (by kernel_rfl) (by kernel_rfl) (fun _ _ _ h => h) (Or.inl ⟨by rfl, ?_⟩) hHeld ?_
 rotate_left
 · (intro W hSw; obtain ⟨t0, t1⟩ := hSw; go_simp <;> with_reducible rfl)
 try simp only [Act.put, List.setIfInBounds_toArray, List.set_cons_zero, List.set_cons_succ]
 refine wpAnyH_take (i := 23) (oi := ⟨some 5, Op.assign (Operand.tmp 50), _, _, _, none⟩) (v := ?_) rfl (by kernel_rfl) (by kernel_rfl) (by kernel_rfl) (fun _ _ _ h => h) (Or.inl ⟨by rfl, ?_⟩) hHeld ?_
 rotate_left
 · (intro W hSw; obtain ⟨t0, t1⟩ := hSw; go_simp <;> with_reducible rfl)
 try simp only [Act.put, List.setIfInBounds_toArray, List.set_cons_zero, List.set_cons_succ]
 refine wpAnyH_done (by kernel_rfl) ?_ _
 go_wp2_with fail
 go_ret2
 exact ⟨rfl, HSB.out, HNB.out⟩
set_option maxRecDepth 100000 in
set_option maxHeartbeats 8000000 in
theorem snum_append (H : Hb) (q : Rq) (vq vf : Value) (g mb : Nat) (w : World) (U : Ur) (hsv : SvL w g mb H) (hq : LiesQ w vq q) (hk : q.kind = 5) (hop : ∀ (W : World) (v : Value), LiesS W v H.ss → UpCall W 82 #[.agg #[v, .int .i64 H.nx, .int .i64 H.la, .int .i64 H.ro], .string q.who, .int .i64 q.num, .int .i64 q.off, .string q.text, .int .i64 H.now] U) :
    Calls Tryz.prog 42 #[.pointer (some ⟨g, 0, none⟩), vq] w fun z w' => z = .returned (.tuple #[.int .i64 U.num, .int .i64 U.e]) ∧ SvL w' g mb (Hu.upH H U.e U.ss U.nx U.la U.ro) ∧ Nb2 w w' g (bo vf g) := by
 have HOP := hid hop
 clear hop
 obtain ⟨va, rfl, lq⟩ := hq
 have HLQ := hid lq
 obtain ⟨qa, qc, rfl, _⟩ := lq
 obtain ⟨kind, who, fo, name, key, text, num, off, base, ch⟩ := q
 simp only at *
 obtain ⟨wz, hwz⟩ : ∃ wz, wz = w.alloc (.cells #[.int .i64 kind, .string who, .string fo, .string name, .string key, .string text, .int .i64 num, .int .i64 off, .int .i64 base, .slice qa ch.length qc] 31) := ⟨_, rfl⟩
 have hbz : Below w.heap.size w wz := by rw [hwz]; exact (Below.refl _ _).alloc (Nat.le_refl _) _
 have HQX : Hid (Cs wz w.heap.size [.int .i64 kind, .string who, .string fo, .string name, .string key, .string text, .int .i64 num, .int .i64 off, .int .i64 base, .slice qa ch.length qc]) := (by rw [hwz]; exact Cs.new w [.int .i64 kind, .string who, .string fo, .string name, .string key, .string text, .int .i64 num, .int .i64 off, .int .i64 base, .slice qa ch.length qc] _ : Cs wz w.heap.size _)
 subst hk
 obtain ⟨fa, fc, ga, gc, sa, sc, hC, hF, hG, hS⟩ := hsv.shape
 have HC := hid (hC.below hbz)
 have HLS := hid (hS.below hbz)
 have HSZ := hid (hsv.below hbz)
 have hgl : g < w.heap.size := hC.lt
 have hgz := HC.out.lt
 have hql := HQX.out.lt
 clear hsv hC hF hG hS
 have x0 := HQX.out.cell 0 rfl
 have x1 := HQX.out.cell 1 rfl
 have x6 := HQX.out.cell 6 rfl
 have x7 := HQX.out.cell 7 rfl
 have x5 := HQX.out.cell 5 rfl
 go_enter Tryz.func42, Tryz.ntmps42
 go_upto_region 1 with fail
 rw [← hwz]
 clear hwz
 go_wp2_with fail
 clear x0
 refine wp_region_held_drew (S := fun W => W.cell? ⟨w.heap.size, 1, none⟩ = some (.string who) ∧ W.cell? ⟨w.heap.size, 6, none⟩ = some (.int .i64 num) ∧ W.cell? ⟨w.heap.size, 7, none⟩ = some (.int .i64 off) ∧ W.cell? ⟨w.heap.size, 5, none⟩ = some (.string text)) (by kernel_rfl) ⟨by simpa using x1, by simpa using x6, by simpa using x7, by simpa using x5⟩ (fun hHeld => ?_)
 change wpAnyH _ _ _ _ _ 28 #[false, false, false, false, false, false, false, false, false, false, false, false, false, false, false, false, false, false, false, false, false, false, false, false, false, false, false, false] _ _
 have hc0 : Below wz.heap.size wz wz.drew := (Below.refl _ _).drew
 generalize wz.drew = c0 at hHeld hc0 ⊢
 refine wpAnyH_take (i := 0) (oi := ⟨some 53, Op.move (Operand.tmp 0), _, _, _, none⟩) (v := ?_) rfl (by kernel_rfl) (by kernel_rfl) (by kernel_rfl) (fun _ _ _ h => h) (Or.inl ⟨by rfl, ?_⟩) hHeld ?_
 rotate_left
 · (intro W hSw; obtain ⟨t0, t1, t2, t3⟩ := hSw; go_simp <;> with_reducible rfl)
 try simp only [Act.put, List.setIfInBounds_toArray, List.set_cons_zero, List.set_cons_succ]
 refine wpAnyH_take (i := 1) (oi := ⟨some 54, Op.move (Operand.tmp 0), _, _, _, none⟩) (v := ?_) rfl (by kernel_rfl) (by kernel_rfl) (by kernel_rfl) (fun _ _ _ h => h) (Or.inl ⟨by rfl, ?_⟩) hHeld ?_
 rotate_left
 · (intro W hSw; obtain ⟨t0, t1, t2, t3⟩ := hSw; go_simp <;> with_reducible rfl)
 try simp only [Act.put, List.setIfInBounds_toArray, List.set_cons_zero, List.set_cons_succ]
 refine wpAnyH_take (i := 2) (oi := ⟨some 55, Op.nilCheck (Operand.tmp 54), _, _, _, none⟩) (v := ?_) rfl (by kernel_rfl) (by kernel_rfl) (by kernel_rfl) (fun _ _ _ h => h) (Or.inl ⟨by rfl, ?_⟩) hHeld ?_
 rotate_left
 · (intro W hSw; obtain ⟨t0, t1, t2, t3⟩ := hSw; go_simp <;> with_reducible rfl)
 try simp only [Act.put, List.setIfInBounds_toArray, List.set_cons_zero, List.set_cons_succ]
 refine wpAnyH_take (i := 3) (oi := ⟨some 56, Op.fieldAddr 74 (Operand.tmp 55) 0, _, _, _, none⟩) (v := ?_) rfl (by kernel_rfl) (by kernel_rfl) (by kernel_rfl) (fun _ _ _ h => h) (Or.inl ⟨by rfl, ?_⟩) hHeld ?_
 rotate_left
 · (intro W hSw; obtain ⟨t0, t1, t2, t3⟩ := hSw; go_simp <;> with_reducible rfl)
 try simp only [Act.put, List.setIfInBounds_toArray, List.set_cons_zero, List.set_cons_succ]
 refine wpAnyH_take (i := 4) (oi := ⟨some 57, Op.fieldAddr 28 (Operand.tmp 56) 2, _, _, _, none⟩) (v := ?_) rfl (by kernel_rfl) (by kernel_rfl) (by kernel_rfl) (fun _ _ _ h => h) (Or.inl ⟨by rfl, ?_⟩) hHeld ?_
 rotate_left
 · (intro W hSw; obtain ⟨t0, t1, t2, t3⟩ := hSw; go_simp <;> with_reducible rfl)
 try simp only [Act.put, List.setIfInBounds_toArray, List.set_cons_zero, List.set_cons_succ]
 refine wpAnyH_take (i := 6) (oi := ⟨some 59, Op.fieldAddr 31 (Operand.tmp 3) 1, _, _, _, none⟩) (v := ?_) rfl (by kernel_rfl) (by kernel_rfl) (by kernel_rfl) (fun _ _ _ h => h) (Or.inl ⟨by rfl, ?_⟩) hHeld ?_
 rotate_left
 · (intro W hSw; obtain ⟨t0, t1, t2, t3⟩ := hSw; go_simp <;> with_reducible rfl)
 try simp only [Act.put, List.setIfInBounds_toArray, List.set_cons_zero, List.set_cons_succ]
 refine wpAnyH_take (i := 7) (oi := ⟨some 60, Op.load 9 (Operand.tmp 59), _, _, _, none⟩) (v := ?_) rfl (by kernel_rfl) (by kernel_rfl) (by kernel_rfl) (fun _ _ _ h => h) (Or.inl ⟨by rfl, ?_⟩) hHeld ?_
 rotate_left
 · (intro W hSw; obtain ⟨t0, t1, t2, t3⟩ := hSw; go_simp <;> with_reducible rfl)
 try simp only [Act.put, List.setIfInBounds_toArray, List.set_cons_zero, List.set_cons_succ]
 refine wpAnyH_take (i := 8) (oi := ⟨some 61, Op.fieldAddr 31 (Operand.tmp 3) 6, _, _, _, none⟩) (v := ?_) rfl (by kernel_rfl) (by kernel_rfl) (by kernel_rfl) (fun _ _ _ h => h) (Or.inl ⟨by rfl, ?_⟩) hHeld ?_
 rotate_left
 · (intro W hSw; obtain ⟨t0, t1, t2, t3⟩ := hSw; go_simp <;> with_reducible rfl)
 try simp only [Act.put, List.setIfInBounds_toArray, List.set_cons_zero, List.set_cons_succ]
 refine wpAnyH_take (i := 9) (oi := ⟨some 62, Op.load 3 (Operand.tmp 61), _, _, _, none⟩) (v := ?_) rfl (by kernel_rfl) (by kernel_rfl) (by kernel_rfl) (fun _ _ _ h => h) (Or.inl ⟨by rfl, ?_⟩) hHeld ?_
 rotate_left
 · (intro W hSw; obtain ⟨t0, t1, t2, t3⟩ := hSw; go_simp <;> with_reducible rfl)
 try simp only [Act.put, List.setIfInBounds_toArray, List.set_cons_zero, List.set_cons_succ]
 refine wpAnyH_take (i := 10) (oi := ⟨some 63, Op.fieldAddr 31 (Operand.tmp 3) 7, _, _, _, none⟩) (v := ?_) rfl (by kernel_rfl) (by kernel_rfl) (by kernel_rfl) (fun _ _ _ h => h) (Or.inl ⟨by rfl, ?_⟩) hHeld ?_
 rotate_left
 · (intro W hSw; obtain ⟨t0, t1, t2, t3⟩ := hSw; go_simp <;> with_reducible rfl)
 try simp only [Act.put, List.setIfInBounds_toArray, List.set_cons_zero, List.set_cons_succ]
 refine wpAnyH_take (i := 11) (oi := ⟨some 64, Op.load 3 (Operand.tmp 63), _, _, _, none⟩) (v := ?_) rfl (by kernel_rfl) (by kernel_rfl) (by kernel_rfl) (fun _ _ _ h => h) (Or.inl ⟨by rfl, ?_⟩) hHeld ?_
 rotate_left
 · (intro W hSw; obtain ⟨t0, t1, t2, t3⟩ := hSw; go_simp <;> with_reducible rfl)
 try simp only [Act.put, List.setIfInBounds_toArray, List.set_cons_zero, List.set_cons_succ]
 refine wpAnyH_take (i := 12) (oi := ⟨some 65, Op.fieldAddr 31 (Operand.tmp 3) 5, _, _, _, none⟩) (v := ?_) rfl (by kernel_rfl) (by kernel_rfl) (by kernel_rfl) (fun _ _ _ h => h) (Or.inl ⟨by rfl, ?_⟩) hHeld ?_
 rotate_left
 · (intro W hSw; obtain ⟨t0, t1, t2, t3⟩ := hSw; go_simp <;> with_reducible rfl)
 try simp only [Act.put, List.setIfInBounds_toArray, List.set_cons_zero, List.set_cons_succ]
 refine wpAnyH_take (i := 13) (oi := ⟨some 66, Op.load 9 (Operand.tmp 65), _, _, _, none⟩) (v := ?_) rfl (by kernel_rfl) (by kernel_rfl) (by kernel_rfl) (fun _ _ _ h => h) (Or.inl ⟨by rfl, ?_⟩) hHeld ?_
 rotate_left
 · (intro W hSw; obtain ⟨t0, t1, t2, t3⟩ := hSw; go_simp <;> with_reducible rfl)
 try simp only [Act.put, List.setIfInBounds_toArray, List.set_cons_zero, List.set_cons_succ]
 refine wpAnyH_take (i := 14) (oi := ⟨some 67, Op.move (Operand.tmp 0), _, _, _, none⟩) (v := ?_) rfl (by kernel_rfl) (by kernel_rfl) (by kernel_rfl) (fun _ _ _ h => h) (Or.inl ⟨by rfl, ?_⟩) hHeld ?_
 rotate_left
 · (intro W hSw; obtain ⟨t0, t1, t2, t3⟩ := hSw; go_simp <;> with_reducible rfl)
 try simp only [Act.put, List.setIfInBounds_toArray, List.set_cons_zero, List.set_cons_succ]
 refine wpAnyH_take (i := 15) (oi := ⟨some 68, Op.nilCheck (Operand.tmp 67), _, _, _, none⟩) (v := ?_) rfl (by kernel_rfl) (by kernel_rfl) (by kernel_rfl) (fun _ _ _ h => h) (Or.inl ⟨by rfl, ?_⟩) hHeld ?_
 rotate_left
 · (intro W hSw; obtain ⟨t0, t1, t2, t3⟩ := hSw; go_simp <;> with_reducible rfl)
 try simp only [Act.put, List.setIfInBounds_toArray, List.set_cons_zero, List.set_cons_succ]
 refine wpAnyH_take (i := 16) (oi := ⟨some 69, Op.fieldAddr 74 (Operand.tmp 68) 0, _, _, _, none⟩) (v := ?_) rfl (by kernel_rfl) (by kernel_rfl) (by kernel_rfl) (fun _ _ _ h => h) (Or.inl ⟨by rfl, ?_⟩) hHeld ?_
 rotate_left
 · (intro W hSw; obtain ⟨t0, t1, t2, t3⟩ := hSw; go_simp <;> with_reducible rfl)
 try simp only [Act.put, List.setIfInBounds_toArray, List.set_cons_zero, List.set_cons_succ]
 refine wpAnyH_take (i := 17) (oi := ⟨some 70, Op.fieldAddr 28 (Operand.tmp 69) 3, _, _, _, none⟩) (v := ?_) rfl (by kernel_rfl) (by kernel_rfl) (by kernel_rfl) (fun _ _ _ h => h) (Or.inl ⟨by rfl, ?_⟩) hHeld ?_
 rotate_left
 · (intro W hSw; obtain ⟨t0, t1, t2, t3⟩ := hSw; go_simp <;> with_reducible rfl)
 try simp only [Act.put, List.setIfInBounds_toArray, List.set_cons_zero, List.set_cons_succ]
 refine laterH (p := ?_) (fun rest => ?_) ?_
 rotate_left
 · skip
   refine wpAnyH_ready (rs := [5, 18]) (by kernel_rfl) (by simp) ?_
   refine AllReadyH.cons (o := ⟨some 58, Op.load 26 (Operand.tmp 57), _, _, _, none⟩) rfl (fun K hK => ?_) (AllReadyH.cons (o := ⟨some 71, Op.load 3 (Operand.tmp 70), _, _, _, none⟩) rfl (fun K hK => ?_) AllReadyH.nil)
   · skip
     have p2 := (HC.out.below hc0).cell 2 rfl
     have p3 := (HC.out.below hc0).cell 3 rfl
     have p4 := (HC.out.below hc0).cell 4 rfl
     have p5 := (HC.out.below hc0).cell 5 rfl
     go_simp
     refine hK.out _ _ ⟨(HQX.out.below hc0).cell 1 rfl, (HQX.out.below hc0).cell 6 rfl, (HQX.out.below hc0).cell 7 rfl, (HQX.out.below hc0).cell 5 rfl⟩ (fun hzz => ?_)
     clear hzz hK K p2 p3 p4 p5
     try simp only [Act.put, List.setIfInBounds_toArray, List.set_cons_zero, List.set_cons_succ]
     refine wpAnyH_ready (rs := [18]) (by kernel_rfl) (by simp) ?_
     refine AllReadyH.cons (o := ⟨some 71, Op.load 3 (Operand.tmp 70), _, _, _, none⟩) rfl (fun K hK => ?_) AllReadyH.nil
     have p6 := (HC.out.below hc0).cell 6 rfl
     go_simp
     refine hK.out _ _ ⟨(HQX.out.below hc0).cell 1 rfl, (HQX.out.below hc0).cell 6 rfl, (HQX.out.below hc0).cell 7 rfl, (HQX.out.below hc0).cell 5 rfl⟩ (fun hzz => ?_)
     clear hzz hK K p6
     try simp only [Act.put, List.setIfInBounds_toArray, List.set_cons_zero, List.set_cons_succ]
     exact rest.out
   · skip
     have p6 := (HC.out.below hc0).cell 6 rfl
     go_simp
     refine hK.out _ _ ⟨(HQX.out.below hc0).cell 1 rfl, (HQX.out.below hc0).cell 6 rfl, (HQX.out.below hc0).cell 7 rfl, (HQX.out.below hc0).cell 5 rfl⟩ (fun hzz => ?_)
     clear hzz hK K p6
     try simp only [Act.put, List.setIfInBounds_toArray, List.set_cons_zero, List.set_cons_succ]
     refine wpAnyH_ready (rs := [5]) (by kernel_rfl) (by simp) ?_
     refine AllReadyH.cons (o := ⟨some 58, Op.load 26 (Operand.tmp 57), _, _, _, none⟩) rfl (fun K hK => ?_) AllReadyH.nil
     have p2 := (HC.out.below hc0).cell 2 rfl
     have p3 := (HC.out.below hc0).cell 3 rfl
     have p4 := (HC.out.below hc0).cell 4 rfl
     have p5 := (HC.out.below hc0).cell 5 rfl
     go_simp
     refine hK.out _ _ ⟨(HQX.out.below hc0).cell 1 rfl, (HQX.out.below hc0).cell 6 rfl, (HQX.out.below hc0).cell 7 rfl, (HQX.out.below hc0).cell 5 rfl⟩ (fun hzz => ?_)
     clear hzz hK K p2 p3 p4 p5
     try simp only [Act.put, List.setIfInBounds_toArray, List.set_cons_zero, List.set_cons_succ]
     exact rest.out
 refine wpAnyH_ready (rs := [19]) (by kernel_rfl) (by simp) ?_
 refine AllReadyH.cons (o := ⟨some 72, Op.call ⟨Callee.value (Operand.func 82), #[Operand.tmp 58, Operand.tmp 60, Operand.tmp 62, Operand.tmp 64, Operand.tmp 66, Operand.tmp 71], #[26, 9, 3, 3, 9, 3]⟩, _, _, _, none⟩) rfl (fun K hK => ?_) AllReadyH.nil
 go_simp
 refine (HOP.out c0 _ (HLS.out.below hc0)).mono ?_
 rintro e wa ⟨ua, rfl, hla, hba⟩
 have hya : Below wz.heap.size wz wa := below_tr hc0 hba
 go_wp2_with fail
 refine hK.out _ _ ⟨(HQX.out.below hya).cell 1 rfl, (HQX.out.below hya).cell 6 rfl, (HQX.out.below hya).cell 7 rfl, (HQX.out.below hya).cell 5 rfl⟩ (fun hHeld => ?_)
 clear hK K
 try simp only [Act.put, List.setIfInBounds_toArray, List.set_cons_zero, List.set_cons_succ]
 refine wpAnyH_take (i := 20) (oi := ⟨some 73, Op.extract (Operand.tmp 72) 0, _, _, _, none⟩) (v := ?_) rfl (by kernel_rfl) (by kernel_rfl) (by kernel_rfl) (fun _ _ _ h => h) (Or.inl ⟨by rfl, ?_⟩) hHeld ?_
 rotate_left
 · (intro W hSw; obtain ⟨t0, t1, t2, t3⟩ := hSw; go_simp <;> with_reducible rfl)
 try simp only [Act.put, List.setIfInBounds_toArray, List.set_cons_zero, List.set_cons_succ]
 refine wpAnyH_take (i := 21) (oi := ⟨some 74, Op.extract (Operand.tmp 72) 1, _, _, _, none⟩) (v := ?_) rfl (by kernel_rfl) (by kernel_rfl) (by kernel_rfl) (fun _ _ _ h => h) (Or.inl ⟨by rfl, ?_⟩) hHeld ?_
 rotate_left
 · (intro W hSw; obtain ⟨t0, t1, t2, t3⟩ := hSw; go_simp <;> with_reducible rfl)
 try simp only [Act.put, List.setIfInBounds_toArray, List.set_cons_zero, List.set_cons_succ]
 refine wpAnyH_take (i := 22) (oi := ⟨some 75, Op.extract (Operand.tmp 72) 2, _, _, _, none⟩) (v := ?_) rfl (by kernel_rfl) (by kernel_rfl) (by kernel_rfl) (fun _ _ _ h => h) (Or.inl ⟨by rfl, ?_⟩) hHeld ?_
 rotate_left
 · (intro W hSw; obtain ⟨t0, t1, t2, t3⟩ := hSw; go_simp <;> with_reducible rfl)
 try simp only [Act.put, List.setIfInBounds_toArray, List.set_cons_zero, List.set_cons_succ]
 refine wpAnyH_ready (rs := [23]) (by kernel_rfl) (by simp) ?_
 refine AllReadyH.cons (o := ⟨some 76, Op.call ⟨Callee.value (Operand.func 80), #[Operand.tmp 53, Operand.tmp 73, Operand.tmp 74, Operand.tmp 75], #[68, 26, 3, 33]⟩, _, _, _, none⟩) rfl (fun K hK => ?_) AllReadyH.nil
 go_simp
 refine (stake_any H U.ss _ U.nx U.la U.ro U.num U.e g mb wa (HSZ.out.below hya) hla).mono ?_
 rintro e wb ⟨rfl, hsb, hgb⟩
 have HSB := hid hsb
 have HNB := hid (show Nb2 w wb g (bo vf g) from (Nb2.of_below _ _ (below_tr hbz hya)).trans (Nb2.of_left _ hgb))
 have HQB := hid ((HQX.out.below hya).nb hgb (by omega))
 clear hsb hgb hla
 go_wp2_with fail
 refine hK.out _ _ ⟨HQB.out.cell 1 rfl, HQB.out.cell 6 rfl, HQB.out.cell 7 rfl, HQB.out.cell 5 rfl⟩ (fun hHeld => ?_)
 clear hK K
 try simp only [Act.put, List.setIfInBounds_toArray, List.set_cons_zero, List.set_cons_succ]
 refine wpAnyH_take (i := 24) (oi := ⟨some 77, Op.extract (Operand.tmp 76) 0, _, _, _, none⟩) (v := ?_) rfl (by kernel_rfl) (by kernel_rfl) (by kernel_rfl) (fun _ _ _ h => h) (Or.inl ⟨by rfl, ?_⟩) hHeld ?_
 rotate_left
 · (intro W hSw; obtain ⟨t0, t1, t2, t3⟩ := hSw; go_simp <;> with_reducible rfl)
 try simp only [Act.put, List.setIfInBounds_toArray, List.set_cons_zero, List.set_cons_succ]
 refine wpAnyH_take (i := 25) (oi := ⟨some 78, Op.extract (Operand.tmp 76) 1, _, _, _, none⟩) (v := ?_) rfl (by kernel_rfl) (by kernel_rfl) (by kernel_rfl) (fun _ _ _ h => h) (Or.inl ⟨by rfl, ?_⟩) hHeld ?_
 rotate_left
 · (intro W hSw; obtain ⟨t0, t1, t2, t3⟩ := hSw; go_simp <;> with_reducible rfl)
 try simp only [Act.put, List.setIfInBounds_toArray, List.set_cons_zero, List.set_cons_succ]
 refine wpAnyH_take (i := 26) (oi := ⟨some 4, Op.assign (Operand.tmp 77), _, _, _, none⟩) (v := ?_) rfl (by kernel_rfl) (by kernel_rfl) (by kernel_rfl) (fun _ _ _ h => h) (Or.inl ⟨by rfl, ?_⟩) hHeld ?_
 rotate_left
 · (intro W hSw; obtain ⟨t0, t1, t2, t3⟩ := hSw; go_simp <;> with_reducible rfl)
 try simp only [Act.put, List.setIfInBounds_toArray, List.set_cons_zero, List.set_cons_succ]
 refine wpAnyH_take (i := 27) (oi := ⟨some 5, Op.assign (Operand.tmp 78), _, _, _, none⟩) (v := ?_) rfl (by kernel_rfl) (by kernel_rfl) (by kernel_rfl) (fun _ _ _ h => h) (Or.inl ⟨by rfl, ?_⟩) hHeld ?_
 rotate_left
 · (intro W hSw; obtain ⟨t0, t1, t2, t3⟩ := hSw; go_simp <;> with_reducible rfl)
 try simp only [Act.put, List.setIfInBounds_toArray, List.set_cons_zero, List.set_cons_succ]
 refine wpAnyH_done (by kernel_rfl) ?_ _
 go_wp2_with fail
 go_ret2
 exact ⟨rfl, HSB.out, HNB.out⟩
end Go.Proofs.YtchlgpeiombmdaaGreat
set_option linter.unusedSimpArgs false
set_option linter.unusedVariables false
namespace Go.Proofs.YtchlgpeiombmdaaGreat
open Go.RowKit

set_option maxRecDepth 100000 in
set_option maxHeartbeats 8000000 in
theorem snum_query (H : Hb) (q : Rq) (vq vf : Value) (g mb : Nat) (w : World) (n e : Int) (hsv : SvL w g mb H) (hq : LiesQ w vq q) (hk : q.kind = 6)
    (hop : ∀ (W : World) (v : Value), LiesS W v H.ss → Calls Tryz.prog 83 #[.agg #[v, .int .i64 H.nx, .int .i64 H.la, .int .i64 H.ro], .string q.who, .int .i64 q.num, .int .i64 H.now] W fun z w' => z = .returned (.tuple #[.int .i64 n, .int .i64 e]) ∧ Below W.heap.size W w') :
    Calls Tryz.prog 42 #[.pointer (some ⟨g, 0, none⟩), vq] w fun z w' => z = .returned (.tuple #[.int .i64 n, .int .i64 e]) ∧ SvL w' g mb H ∧ Nb2 w w' g (bo vf g) := by
 have HOP := hid hop
 clear hop
 obtain ⟨va, rfl, lq⟩ := hq
 have HLQ := hid lq
 obtain ⟨qa, qc, rfl, _⟩ := lq
 obtain ⟨kind, who, fo, name, key, text, num, off, base, ch⟩ := q
 simp only at *
 obtain ⟨wz, hwz⟩ : ∃ wz, wz = w.alloc (.cells #[.int .i64 kind, .string who, .string fo, .string name, .string key, .string text, .int .i64 num, .int .i64 off, .int .i64 base, .slice qa ch.length qc] 31) := ⟨_, rfl⟩
 have hbz : Below w.heap.size w wz := by rw [hwz]; exact (Below.refl _ _).alloc (Nat.le_refl _) _
 have HQX : Hid (Cs wz w.heap.size [.int .i64 kind, .string who, .string fo, .string name, .string key, .string text, .int .i64 num, .int .i64 off, .int .i64 base, .slice qa ch.length qc]) := (by rw [hwz]; exact Cs.new w [.int .i64 kind, .string who, .string fo, .string name, .string key, .string text, .int .i64 num, .int .i64 off, .int .i64 base, .slice qa ch.length qc] _ : Cs wz w.heap.size _)
 subst hk
 obtain ⟨fa, fc, ga, gc, sa, sc, hC, hF, hG, hS⟩ := hsv.shape
 have HC := hid (hC.below hbz)
 have HLS := hid (hS.below hbz)
 have HSZ := hid (hsv.below hbz)
 have hgz := HC.out.lt
 have hql := HQX.out.lt
 clear hsv hC hF hG hS
 have x0 := HQX.out.cell 0 rfl
 have x1 := HQX.out.cell 1 rfl
 have x6 := HQX.out.cell 6 rfl
 go_enter Tryz.func42, Tryz.ntmps42
 go_upto_region 1 with fail
 rw [← hwz]
 clear hwz
 go_wp2_with fail
 clear x0
 have p2 := HC.out.cell 2 rfl
 have p3 := HC.out.cell 3 rfl
 have p4 := HC.out.cell 4 rfl
 have p5 := HC.out.cell 5 rfl
 have p6 := HC.out.cell 6 rfl
 go_region_held3 (fun W => W.cell? ⟨w.heap.size, 1, none⟩ = some (.string who) ∧ W.cell? ⟨w.heap.size, 6, none⟩ = some (.int .i64 num) ∧ W.cell? ⟨g, 2, none⟩ = some (.slice sa H.ss.length sc) ∧ W.cell? ⟨g, 3, none⟩ = some (.int .i64 H.nx) ∧ W.cell? ⟨g, 4, none⟩ = some (.int .i64 H.la) ∧ W.cell? ⟨g, 5, none⟩ = some (.int .i64 H.ro) ∧ W.cell? ⟨g, 6, none⟩ = some (.int .i64 H.now)) (go_keep) (
  (go_at_call 83; refine (HOP.out _ _ (HLS.out.below ((Below.refl _ _).drew))).mono ?_; rintro z wa ⟨rfl, hba⟩; have hya := below_tr ((Below.refl wz.heap.size wz).drew) hba; have q1 := (HQX.out.below hya).cell 1 rfl; have q6 := (HQX.out.below hya).cell 6 rfl; have c2 := (HC.out.below hya).cell 2 rfl; have c3 := (HC.out.below hya).cell 3 rfl; have c4 := (HC.out.below hya).cell 4 rfl; have c5 := (HC.out.below hya).cell 5 rfl; have c6 := (HC.out.below hya).cell 6 rfl))
 all_goals
  go_wp2_with fail
  go_ret2
  exact ⟨rfl, HSZ.out.below hya, Nb2.of_below _ _ (below_tr hbz hya)⟩
end Go.Proofs.YtchlgpeiombmdaaGreat
set_option linter.unusedSimpArgs false
set_option linter.unusedVariables false
namespace Go.Proofs.YtchlgpeiombmdaaGreat
open Go.RowKit

theorem LiesS.nb2 {w w' : World} {u : Value} {L : List Se} {g m B : Nat} (h : LiesS w u L) (hf : Fr B u) (hn : Nb2 w w' g m) (hg : g < B) (hm : m < B) : LiesS w' u L := by
 obtain ⟨a, cap, rfl, h1, h2, h3⟩ := h
 refine ⟨a, cap, rfl, h1, h2, fun i hi => ?_⟩
 obtain ⟨b, o, rfl, hb, he⟩ := h3 i hi
 have hB : B ≤ b := hf b rfl
 have c : ∀ j, w'.cell? ⟨b, j, none⟩ = w.cell? ⟨b, j, none⟩ := fun j => hn.cell hb (by omega) (by omega) j
 exact ⟨b, o, rfl, Nat.lt_of_lt_of_le hb hn.size, (c _).trans he.1, (c _).trans he.2.1, (c _).trans he.2.2.1, (c _).trans he.2.2.2.1, (c _).trans he.2.2.2.2⟩
/-- What becomes of uploads where one is finished, and its text. -/
structure Fu where
 e : Int
 ss : List Se
 nx : Int
 la : Int
 ro : Int
 tx : ByteArray
namespace Hu
def fnC (q : Rq) (tx : ByteArray) : List Pp.Ch := [⟨2, q.name, ⟨#[]⟩, tx, q.base⟩]
def fnE (H : Hb) (q : Rq) (F : Fu) : Int := if F.e = 0 then cmE H (whr H.fos H.gs q.fo) q.key (fnC q F.tx) else F.e
def fnN (H : Hb) (q : Rq) (F : Fu) : Int := if F.e = 0 then cmN H (whr H.fos H.gs q.fo) q.key (fnC q F.tx) else 0
def fnH (H : Hb) (q : Rq) (F : Fu) : Hb := if F.e = 0 then upH (cmH H (whr H.fos H.gs q.fo) q.key (fnC q F.tx)) (cmE H (whr H.fos H.gs q.fo) q.key (fnC q F.tx)) F.ss F.nx F.la F.ro else H
end Hu
set_option maxRecDepth 100000 in
set_option maxHeartbeats 8000000 in
theorem sfinish_any (H : Hb) (q : Rq) (vq vf vg vs : Value) (B g mb n : Nat) (w : World) (F : Fu) (hsv : Sv B w g mb vf vg vs H) (hm : SvM w mb n H) (hgB : g < B) (hBw : B ≤ w.heap.size) (hs : SizedF H.fos) (hq : LiesQ w vq q) (hsq : SizedQ q) (htx : F.tx.size ≤ 150000000000000) (hi : Hu.whr H.fos H.gs q.fo < H.fos.length)
    (hop : ∀ (W : World) (v : Value), LiesS W v H.ss → Calls Tryz.prog 113 #[.agg #[v, .int .i64 H.nx, .int .i64 H.la, .int .i64 H.ro], .string q.who, .int .i64 q.num, .int .i64 H.now] W fun z w' => ∃ u, z = .returned (.tuple #[.agg #[u, .int .i64 F.nx, .int .i64 F.la, .int .i64 F.ro], .string F.tx, .int .i64 F.e]) ∧ LiesS w' u F.ss ∧ Fr W.heap.size u ∧ Below W.heap.size W w') :
    Calls Tryz.prog 84 #[.pointer (some ⟨g, 0, none⟩), vq] w fun z w' => z = .returned (.tuple #[.int .i64 (Hu.fnN H q F), .int .i64 (Hu.fnE H q F)]) ∧ SvL w' g mb (Hu.fnH H q F) ∧ Nb2 w w' g (bo vf g) := by
 have HOP := hid hop
 have HSV := hid hsv
 have HM := hid hm
 have HSF := hid hs
 have HSQ := hid hsq
 have HTX := hid htx
 have HI := hid hi
 have HQQ := hid hq
 clear hop hs hm hsq htx hi
 obtain ⟨q0, hq0⟩ : ∃ q0, q0 = q := ⟨_, rfl⟩
 have HQ0 := hid hq0
 clear hq0
 obtain ⟨va, rfl, lq⟩ := hq
 have HLQ := hid lq
 obtain ⟨qa, qc, rfl, _⟩ := lq
 obtain ⟨kind, who, fo, name, key, text, num, off, base, ch⟩ := q
 simp only at *
 obtain ⟨wz, hwz⟩ : ∃ wz, wz = w.alloc (.cells #[.int .i64 kind, .string who, .string fo, .string name, .string key, .string text, .int .i64 num, .int .i64 off, .int .i64 base, .slice qa ch.length qc] 31) := ⟨_, rfl⟩
 have hbz : Below w.heap.size w wz := by rw [hwz]; exact (Below.refl _ _).alloc (Nat.le_refl _) _
 have HQX : Hid (Cs wz w.heap.size [.int .i64 kind, .string who, .string fo, .string name, .string key, .string text, .int .i64 num, .int .i64 off, .int .i64 base, .slice qa ch.length qc]) := (by rw [hwz]; exact Cs.new w [.int .i64 kind, .string who, .string fo, .string name, .string key, .string text, .int .i64 num, .int .i64 off, .int .i64 base, .slice qa ch.length qc] _ : Cs wz w.heap.size _)
 obtain ⟨fa, fc, ga, gc, sa, sc, hC, hF, hG, hS⟩ := hsv.lies.shape
 have HC := hid (hC.below hbz)
 have HLS := hid (hS.below hbz)
 have hgl : g < w.heap.size := hC.lt
 have hgz := HC.out.lt
 have hql := HQX.out.lt
 have HVF := hid (show bo vf g < w.heap.size from by
  rw [bo]
  cases hb : vf.ownBlock with
  | none => exact hgl
  | some b => obtain ⟨_, _, _, ho, _⟩ := hsv.2.1; exact ho.lt b hb)
 clear hsv hC hF hG hS
 have x1 := HQX.out.cell 1 rfl
 have x6 := HQX.out.cell 6 rfl
 have p2 := HC.out.cell 2 rfl
 have p3 := HC.out.cell 3 rfl
 have p4 := HC.out.cell 4 rfl
 have p5 := HC.out.cell 5 rfl
 have p6 := HC.out.cell 6 rfl
 have hdr : Below wz.heap.size wz wz.drew := (Below.refl _ _).drew
 have hda : Below wz.heap.size wz (wz.alloc (.cells #[.slice none 0 0, .int .i64 0, .int .i64 0, .int .i64 0] 26)).drew := ((Below.refl _ _).alloc (Nat.le_refl _) _).drew
 have hnz : ¬ w.heap.size = wz.heap.size := by omega
 have hnz2 : ¬ g = wz.heap.size := by omega
 go_enter Tryz.func84, Tryz.ntmps84
 go_upto_region 1 with fail
 rw [← hwz]
 clear hwz
 go_cut [6, 7, 8] (fun p t e W => ∃ b xa xc, p = .pointer (some ⟨b, 0, none⟩) ∧ t = .string F.tx ∧ e = .int .i64 F.e ∧ wz.heap.size ≤ b ∧ Hid (Cs W b [.slice xa F.ss.length xc, .int .i64 F.nx, .int .i64 F.la, .int .i64 F.ro]) ∧ Hid (LiesS W (.slice xa F.ss.length xc) F.ss ∧ Fr wz.heap.size (.slice xa F.ss.length xc)) ∧ Below wz.heap.size wz W)
 case first =>
  go_region_held3 (fun W => W.cell? ⟨w.heap.size, 1, none⟩ = some (.string who) ∧ W.cell? ⟨w.heap.size, 6, none⟩ = some (.int .i64 num) ∧ W.cell? ⟨g, 2, none⟩ = some (.slice sa H.ss.length sc) ∧ W.cell? ⟨g, 3, none⟩ = some (.int .i64 H.nx) ∧ W.cell? ⟨g, 4, none⟩ = some (.int .i64 H.la) ∧ W.cell? ⟨g, 5, none⟩ = some (.int .i64 H.ro) ∧ W.cell? ⟨g, 6, none⟩ = some (.int .i64 H.now)) (first | go_keep | (have hx := ((HQX.out.below hb23).nb (grown_on (grown_on (grown_on (nb_set w3 (wz.heap.size) 0 (.slice xa F.ss.length xc)) (nb_set _ (wz.heap.size) 1 (.int .i64 F.nx))) (nb_set _ (wz.heap.size) 2 (.int .i64 F.la))) (nb_set _ (wz.heap.size) 3 (.int .i64 F.ro))) (by omega)); have hy := ((HC.out.below hb23).nb (grown_on (grown_on (grown_on (nb_set w3 (wz.heap.size) 0 (.slice xa F.ss.length xc)) (nb_set _ (wz.heap.size) 1 (.int .i64 F.nx))) (nb_set _ (wz.heap.size) 2 (.int .i64 F.la))) (nb_set _ (wz.heap.size) 3 (.int .i64 F.ro))) (by omega)); exact ⟨hx.cell 1 rfl, hx.cell 6 rfl, hy.cell 2 rfl, hy.cell 3 rfl, hy.cell 4 rfl, hy.cell 5 rfl, hy.cell 6 rfl⟩)) (first
   | (go_at_call 113; refine (HOP.out _ _ (HLS.out.below hdr)).mono ?_; rintro z w3 ⟨u3, rfl, hl3, hf3, hb3⟩; have hb23 := below_tr hdr hb3; have HL3 := hid hl3; have HF3 := hid hf3; obtain ⟨xa, xc, rfl, _⟩ := hl3; clear hf3; have q1 := (HQX.out.below hb23).cell 1 rfl; have q6 := (HQX.out.below hb23).cell 6 rfl; have c2 := (HC.out.below hb23).cell 2 rfl; have c3 := (HC.out.below hb23).cell 3 rfl; have c4 := (HC.out.below hb23).cell 4 rfl; have c5 := (HC.out.below hb23).cell 5 rfl; have c6 := (HC.out.below hb23).cell 6 rfl)
   | (go_at_call 113; refine (HOP.out _ _ (HLS.out.below hda)).mono ?_; rintro z w3 ⟨u3, rfl, hl3, hf3, hb3⟩; have hb23 := below_tr hda hb3; have HL3 := hid hl3; have HF3 := hid hf3; obtain ⟨xa, xc, rfl, _⟩ := hl3; clear hf3; have q1 := (HQX.out.below hb23).cell 1 rfl; have q6 := (HQX.out.below hb23).cell 6 rfl; have c2 := (HC.out.below hb23).cell 2 rfl; have c3 := (HC.out.below hb23).cell 3 rfl; have c4 := (HC.out.below hb23).cell 4 rfl; have c5 := (HC.out.below hb23).cell 5 rfl; have c6 := (HC.out.below hb23).cell 6 rfl; have HZ := hid (((Cs.new wz [.slice none 0 0, .int .i64 0, .int .i64 0, .int .i64 0] 26).below ((Below.refl _ _).drew)).below hb3); have d0 := HZ.out.cell 0 rfl; have d1 := HZ.out.cell 1 rfl; have d2 := HZ.out.cell 2 rfl; have d3 := HZ.out.cell 3 rfl; have r0 := HZ.out.fr 0; have r1 := HZ.out.fr 1; have r2 := HZ.out.fr 2; have r3 := HZ.out.fr 3))
  all_goals
   go_wp2_with fail
   go_meet
   case rel => first
    | exact ⟨wz.heap.size, xa, xc, rfl, rfl, rfl, Nat.le_refl _, ((((HZ.out.set 0 (.slice xa F.ss.length xc)).set 1 (.int .i64 F.nx)).set 2 (.int .i64 F.la)).set 3 (.int .i64 F.ro)), ⟨HL3.out.nb2 HF3.out (Nb2.of_left 0 (grown_on (grown_on (grown_on (nb_set w3 (wz.heap.size) 0 (.slice xa F.ss.length xc)) (nb_set _ (wz.heap.size) 1 (.int .i64 F.nx))) (nb_set _ (wz.heap.size) 2 (.int .i64 F.la))) (nb_set _ (wz.heap.size) 3 (.int .i64 F.ro)))) (by simp) (by have := hda.size; omega), HF3.out.mono hda.size⟩, ((((hb23.setCell (p := ⟨wz.heap.size, 0, none⟩) (Nat.le_refl _) _).setCell (p := ⟨wz.heap.size, 1, none⟩) (Nat.le_refl _) _).setCell (p := ⟨wz.heap.size, 2, none⟩) (Nat.le_refl _) _).setCell (p := ⟨wz.heap.size, 3, none⟩) (Nat.le_refl _) _)⟩
    | exact ⟨_, xa, xc, rfl, rfl, rfl, hb23.size, Cs.new w3 [.slice xa F.ss.length xc, .int .i64 F.nx, .int .i64 F.la, .int .i64 F.ro] _, ⟨HL3.out.below ((Below.refl _ _).alloc (Nat.le_refl _) _), HF3.out.mono hdr.size⟩, hb23.alloc hb23.size _⟩
 case rest =>
  obtain ⟨b, xa, xc, rfl, rfl, rfl, hbb, HB, HU, hbx⟩ := hcut
  have HQx := hid (HQX.out.below hbx)
  have HCx := hid (HC.out.below hbx)
  have hsx := hbx.size
  have hlb := HB.out.lt
  clear x1 x6 p2 p3 p4 p5 p6 hdr hda
  have hb0x := below_tr hbz hbx
  have HQ0' : Hid (⟨kind, who, fo, name, key, text, num, off, base, ch⟩ = q0) := (HQ0.out.symm : (⟨kind, who, fo, name, key, text, num, off, base, ch⟩ : Rq) = q0)
  by_cases h0 : F.e = 0
  · have HE := hid h0
    rw [h0]
    obtain ⟨N, hN⟩ : ∃ N, N = Hu.cmN H (Hu.whr H.fos H.gs fo) key (Hu.fnC ⟨kind, who, fo, name, key, text, num, off, base, ch⟩ F.tx) := ⟨_, rfl⟩
    obtain ⟨E, hE⟩ : ∃ E, E = Hu.cmE H (Hu.whr H.fos H.gs fo) key (Hu.fnC ⟨kind, who, fo, name, key, text, num, off, base, ch⟩ F.tx) := ⟨_, rfl⟩
    obtain ⟨H2, hH2⟩ : ∃ H2, H2 = Hu.cmH H (Hu.whr H.fos H.gs fo) key (Hu.fnC ⟨kind, who, fo, name, key, text, num, off, base, ch⟩ F.tx) := ⟨_, rfl⟩
    have HPOST := hid (show Hu.fnN H ⟨kind, who, fo, name, key, text, num, off, base, ch⟩ F = N ∧ Hu.fnE H ⟨kind, who, fo, name, key, text, num, off, base, ch⟩ F = E ∧ Hu.fnH H ⟨kind, who, fo, name, key, text, num, off, base, ch⟩ F = Hu.upH H2 E F.ss F.nx F.la F.ro from by rw [hN, hE, hH2, Hu.fnN, Hu.fnE, Hu.fnH, if_pos h0, if_pos h0, if_pos h0]; exact ⟨rfl, rfl, rfl⟩)
    have HN := hid hN
    have HE2 := hid hE
    have HH2 := hid hH2
    clear h0 hN hE hH2
    obtain ⟨wl, hwl⟩ : ∃ wl, wl = wc.alloc (.cells #[.int .i64 2, .string name, .string ⟨#[]⟩, .string F.tx, .int .i64 base] 67) := ⟨_, rfl⟩
    have hbl : Below wc.heap.size wc wl := by rw [hwl]; exact (Below.refl _ _).alloc (Nat.le_refl _) _
    have HCH : Hid (Cs wl wc.heap.size [.int .i64 2, .string name, .string ⟨#[]⟩, .string F.tx, .int .i64 base]) := (by rw [hwl]; exact Cs.new wc [.int .i64 2, .string name, .string ⟨#[]⟩, .string F.tx, .int .i64 base] _ : Cs wl wc.heap.size _)
    have hb0l := below_tr hb0x hbl
    have HBl := hid (HB.out.below hbl)
    have hsl := hbl.size
    have x0 := HQx.out.cell 0 rfl
    have x1 := HQx.out.cell 1 rfl
    have x2 := HQx.out.cell 2 rfl
    have x3 := HQx.out.cell 3 rfl
    have x4 := HQx.out.cell 4 rfl
    have x5 := HQx.out.cell 5 rfl
    have x6 := HQx.out.cell 6 rfl
    have x7 := HQx.out.cell 7 rfl
    have x8 := HQx.out.cell 8 rfl
    have x9 := HQx.out.cell 9 rfl
    go_wp2_with fail
    rw [← hwl]
    clear hwl x0 x1 x2 x3 x4 x5 x6 x7 x8 x9
    refine (hcommit_any H ⟨kind, who, fo, name, key, text, num, off, base, ch⟩ (Hu.fnC ⟨kind, who, fo, name, key, text, num, off, base, ch⟩ F.tx) _ _ vf vg vs B g mb n wl (HSV.out.below hb0l) (HM.out.below hb0l) hgB HSF.out ⟨_, rfl, HLQ.out.below hb0l⟩ HSQ.out ⟨some ⟨wc.heap.size, 0, none⟩, 1, rfl, Nat.le_refl _, by show (1 : Nat) ≤ _; decide, fun i hi => ⟨wc.heap.size, 0, rfl, HCH.out.lt, by
     match i, hi with
     | 0, _ => exact ⟨HCH.out.cell 0 rfl, HCH.out.cell 1 rfl, HCH.out.cell 2 rfl, HCH.out.cell 3 rfl, HCH.out.cell 4 rfl⟩⟩⟩ (fun x hx => by
     obtain rfl := List.mem_singleton.1 hx
     exact ⟨HSQ.out.name, by show (0 : Nat) ≤ _; omega, HTX.out⟩) HI.out).mono ?_
    rintro z w5 ⟨rfl, hsv5, hn5⟩
    rw [← HN.out, ← HE2.out]
    rw [← HH2.out] at hsv5
    have hvf := HVF.out
    have HSV5 := hid hsv5
    have HB5 := hid (HBl.out.nb2 hn5 (by omega) (by omega))
    have HU5 := hid (show LiesS w5 (.slice xa F.ss.length xc) F.ss from (HU.out.1.below hbl).nb2 HU.out.2 hn5 (by omega) (by omega))
    have HN5 := hid (show Nb2 w w5 g (bo vf g) from (Nb2.of_below _ _ hb0l).trans hn5)
    clear hsv5 hn5
    have y0 := HB5.out.cell 0 rfl
    have y1 := HB5.out.cell 1 rfl
    have y2 := HB5.out.cell 2 rfl
    have y3 := HB5.out.cell 3 rfl
    go_wp2_with fail
    refine (stake_any H2 F.ss _ F.nx F.la F.ro N E g mb w5 HSV5.out HU5.out).mono ?_
    rintro z w6 ⟨rfl, hs6, hg6⟩
    have HS6 := hid hs6
    have HN6 := hid (show Nb2 w w6 g (bo vf g) from HN5.out.trans (Nb2.of_left _ hg6))
    clear hs6 hg6 y0 y1 y2 y3
    go_wp2_with fail
    go_ret2
    rw [HPOST.out.1, HPOST.out.2.1, HPOST.out.2.2]
    exact ⟨rfl, HS6.out, HN6.out⟩
  · have HPOST := hid (show Hu.fnN H ⟨kind, who, fo, name, key, text, num, off, base, ch⟩ F = 0 ∧ Hu.fnE H ⟨kind, who, fo, name, key, text, num, off, base, ch⟩ F = F.e ∧ Hu.fnH H ⟨kind, who, fo, name, key, text, num, off, base, ch⟩ F = H from by rw [Hu.fnN, Hu.fnE, Hu.fnH, if_neg h0, if_neg h0, if_neg h0]; exact ⟨rfl, rfl, rfl⟩)
    have hz2 : (F.e != 0) = true := by simpa using h0
    have hz : (F.e == 0) = false := by simpa using h0
    clear h0
    go_wp2_with fail
    go_ret2
    rw [HPOST.out.1, HPOST.out.2.1, HPOST.out.2.2]
    exact ⟨rfl, HSV.out.lies.below hb0x, Nb2.of_below _ _ hb0x⟩
end Go.Proofs.YtchlgpeiombmdaaGreat
