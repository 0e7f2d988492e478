/- What the law HubUploads answers: true, for every hub and all texts. -/
import Derived.Test.YtchlgpeiombmdaaGreatQU
import Derived.Test.YtchlgpeiombmdaaGreatQS
import Derived.Test.YtchlgpeiombmdaaGreatQQ
import Derived.Test.YtchlgpeiombmdaaGreatQF
import Derived.Test.YtchlgpeiombmdaaGreatQD
import Derived.Deep.RegionHeld3
import Derived.Test.YtchlgpeiombmdaaGreatQP
import Derived.Test.YtchlgpeiombmdaaGreatQZF
import Derived.Deep.DeepCutAuto
set_option linter.unusedSimpArgs false
set_option linter.unusedVariables false
namespace Go.Proofs.YtchlgpeiombmdaaGreat
open Go.RowKit

set_option maxRecDepth 100000 in
set_option maxHeartbeats 8000000 in
theorem hubUploads_walk (H : Hb) (p fo na t key : ByteArray) (v : Value) (w : World) (hv : LiesH w v H) (hs : SizedH H) (hp : p.size ≤ 150000000000000) (hfo : fo.size ≤ 150000000000000) (hna : na.size ≤ 150000000000000) (ht : t.size ≤ 150000000000000) (hky : key.size ≤ 150000000000000) :
    Calls Tryz.prog 7 #[v, .string p, .string fo, .string na, .string t, .string key] w fun e w' => e = .returned (.bool true) ∧ Below w.heap.size w w' := by
 have HV := hid hv
 have HS := hid hs
 obtain ⟨fa, fc, ga, gc, sa, sc, rfl⟩ := hv.shape
 obtain ⟨wz, hwz⟩ : ∃ wz, wz = w.alloc (.cells #[.slice fa H.fos.length fc, .slice ga H.gs.length gc, .slice sa H.ss.length sc, .int .i64 H.nx, .int .i64 H.la, .int .i64 H.ro, .int .i64 H.now] 28) := ⟨_, rfl⟩
 have hbz : Below w.heap.size w wz := by rw [hwz]; exact (Below.refl _ _).alloc (Nat.le_refl _) _
 have HX : Hid (Cs wz w.heap.size [.slice fa H.fos.length fc, .slice ga H.gs.length gc, .slice sa H.ss.length sc, .int .i64 H.nx, .int .i64 H.la, .int .i64 H.ro, .int .i64 H.now]) := (by rw [hwz]; exact Cs.new w [.slice fa H.fos.length fc, .slice ga H.gs.length gc, .slice sa H.ss.length sc, .int .i64 H.nx, .int .i64 H.la, .int .i64 H.ro, .int .i64 H.now] _ : Cs wz w.heap.size _)
 clear hv hs
 go_enter Tryz.func7, Tryz.ntmps7
 go_upto_region 1 with fail
 rw [← hwz]
 clear hwz
 go_wp2_with fail
 refine (hubBegun_yes _).mono ?_
 rintro e w1 ⟨rfl, hb1⟩
 have hb01 := below_tr hbz hb1
 have HX1 := hid (HX.out.below hb1)
 have hs1 := hb1.size
 have hlz := HX.out.lt
 by_cases h300 : (300 : Int) < t.size
 · go_wp2_with fail
   refine (hubBegun_yes _).mono ?_
   rintro e w2 ⟨rfl, hb2⟩
   have hb02 := below_tr hb01 hb2
   go_wp2_with fail
   go_ret
   exact ⟨rfl, hb02⟩
 · skip
   have x0 := HX1.out.cell 0 rfl
   have x1 := HX1.out.cell 1 rfl
   have x2 := HX1.out.cell 2 rfl
   have x3 := HX1.out.cell 3 rfl
   have x4 := HX1.out.cell 4 rfl
   have x5 := HX1.out.cell 5 rfl
   have x6 := HX1.out.cell 6 rfl
   by_cases h0 : Hu.hE H = 0
   · have H0 := hid h0
     have HSQ1 := hid (show SizedQ (Hu.qO p t.size) from ⟨hp, Nat.zero_le _, Nat.zero_le _, Nat.zero_le _, Nat.zero_le _, fun x hx => by cases hx⟩)
     clear h0
     go_wp2_with fail
     refine (serve_any H (Hu.qO p t.size) _ _ w1 (HV.out.below hb01) HS.out ⟨_, rfl, liesC_nil _⟩ HSQ1.out H0.out).mono ?_
     rintro e w3 ⟨u3, a3, rfl, hu3, ha3, hb3⟩
     obtain ⟨H1, hH1⟩ : ∃ H1, H1 = Hu.svH H (Hu.qO p t.size) := ⟨_, rfl⟩
     obtain ⟨A1, hA1⟩ : ∃ A1, A1 = Hu.svA H (Hu.qO p t.size) := ⟨_, rfl⟩
     have HOP := hid (show A1.err = 0 → H1 = Hu.st H p t.size Hu.nob ∧ A1 = ⟨0, H.nx, Jn.zeroP⟩ ∧ Hu.StOk H p t.size Hu.nob ∧ SizedH H1 from fun h => by
      rw [hA1] at h
      obtain ⟨a, b, c, d⟩ := Hu.st_open h
      refine ⟨hH1.trans a, hA1.trans b, ⟨by rw [← a]; exact Hu.sv_he H0.out, d, c⟩, by rw [hH1]; exact Hu.sv_sized H0.out HS.out HSQ1.out⟩)
     rw [← hH1] at hu3
     rw [← hA1] at ha3
     clear hH1 hA1 x0 x1 x2 x3 x4 x5 x6
     have HX3q := hid (HX1.out.below hb3)
     have hb03 := below_tr hb01 hb3
     have hs3 := hb3.size
     obtain ⟨fa3, fc3, ga3, gc3, sa3, sc3, rfl⟩ := hu3.shape
     obtain ⟨ta3, tc3, ca3, cc3, rfl⟩ := ha3.shape
     obtain ⟨wa, hwa⟩ : ∃ wa, wa = w3.alloc (.cells #[.slice fa3 H1.fos.length fc3, .slice ga3 H1.gs.length gc3, .slice sa3 H1.ss.length sc3, .int .i64 H1.nx, .int .i64 H1.la, .int .i64 H1.ro, .int .i64 H1.now] 28) := ⟨_, rfl⟩
     obtain ⟨w4, hwz⟩ : ∃ wz, wz = wa.alloc (.cells #[.int .i64 A1.err, .int .i64 A1.num, .bool A1.pg.reset, .slice ta3 A1.pg.tree.length tc3, .slice ca3 A1.pg.cos.length cc3, .int .i64 A1.pg.cur, .bool A1.pg.more] 39) := ⟨_, rfl⟩
     have sa1 : wa.heap.size = w3.heap.size + 1 := by rw [hwa]; simp
     have bwa : Below w3.heap.size w3 wa := by rw [hwa]; exact (Below.refl _ _).alloc (Nat.le_refl _) _
     have bwz : Below wa.heap.size wa w4 := by rw [hwz]; exact (Below.refl _ _).alloc (Nat.le_refl _) _
     have hbs3 : Below w3.heap.size w3 w4 := below_tr bwa bwz
     have HX3 : Hid (Cs w4 w3.heap.size [.slice fa3 H1.fos.length fc3, .slice ga3 H1.gs.length gc3, .slice sa3 H1.ss.length sc3, .int .i64 H1.nx, .int .i64 H1.la, .int .i64 H1.ro, .int .i64 H1.now]) := ((by rw [hwa]; exact Cs.new w3 [.slice fa3 H1.fos.length fc3, .slice ga3 H1.gs.length gc3, .slice sa3 H1.ss.length sc3, .int .i64 H1.nx, .int .i64 H1.la, .int .i64 H1.ro, .int .i64 H1.now] _ : Cs wa w3.heap.size [.slice fa3 H1.fos.length fc3, .slice ga3 H1.gs.length gc3, .slice sa3 H1.ss.length sc3, .int .i64 H1.nx, .int .i64 H1.la, .int .i64 H1.ro, .int .i64 H1.now]).below bwz : Cs w4 w3.heap.size _)
     have HA3 := hid (show Cs w4 (w3.heap.size + 1) [.int .i64 A1.err, .int .i64 A1.num, .bool A1.pg.reset, .slice ta3 A1.pg.tree.length tc3, .slice ca3 A1.pg.cos.length cc3, .int .i64 A1.pg.cur, .bool A1.pg.more] from by rw [← sa1, hwz]; exact Cs.new wa [.int .i64 A1.err, .int .i64 A1.num, .bool A1.pg.reset, .slice ta3 A1.pg.tree.length tc3, .slice ca3 A1.pg.cos.length cc3, .int .i64 A1.pg.cur, .bool A1.pg.more] _)
     have hwzz : (w3.alloc (.cells #[.slice fa3 H1.fos.length fc3, .slice ga3 H1.gs.length gc3, .slice sa3 H1.ss.length sc3, .int .i64 H1.nx, .int .i64 H1.la, .int .i64 H1.ro, .int .i64 H1.now] 28)).alloc (.cells #[.int .i64 A1.err, .int .i64 A1.num, .bool A1.pg.reset, .slice ta3 A1.pg.tree.length tc3, .slice ca3 A1.pg.cos.length cc3, .int .i64 A1.pg.cur, .bool A1.pg.more] 39) = w4 := by rw [hwz, hwa]
     have HWZ := hid hwzz
     have HU3 := hid (hu3.below hbs3)
     have HN3 := hid (ha3.below hbs3)
     have hls3 : w3.heap.size + 1 < w4.heap.size := HA3.out.lt
     clear hwa hwz bwa bwz sa1 hwzz hu3 ha3
     go_upto_region 4 with fail
     rw [HWZ.out]
     clear HWZ
     have hb04 := below_tr hb03 hbs3
     have HX4 := hid (HX3q.out.below hbs3)
     have y0 := HA3.out.cell 0 rfl
     by_cases hae : A1.err = 0
     · obtain ⟨e1, e2, hok, hsz1⟩ := HOP.out hae
       have HE1 := hid e1
       have HE2 := hid (show A1.num = H.nx from by rw [e2])
       have HOK := hid hok
       have HSZ1 := hid hsz1
       rw [hae] at y0
       clear HOP hae e1 e2 hok hsz1
       obtain ⟨hf, hhf⟩ : ∃ hf : Nat, hf = t.size / 2 := ⟨_, rfl⟩
       have hh : ((t.size : Nat) : Int) / 2 = (hf : Int) := by omega
       have hf1 : (0 : Int) ≤ (hf : Int) := by omega
       have hf2 : (hf : Int) ≤ ((t.size : Nat) : Int) := by omega
       have hf3 : hf ≤ t.size := by omega
       obtain ⟨t1, ht1⟩ : ∃ t1, t1 = t.extract 0 hf := ⟨_, rfl⟩
       obtain ⟨H2, hH2⟩ : ∃ H2, H2 = Hu.svH H1 (Hu.qP p A1.num 0 t1) := ⟨_, rfl⟩
       obtain ⟨A2, hA2⟩ : ∃ A2, A2 = Hu.svA H1 (Hu.qP p A1.num 0 t1) := ⟨_, rfl⟩
       have hts : t1.size = hf := by rw [ht1, ByteArray.size_extract]; omega
       have HSQ2 := hid (show SizedQ (Hu.qP p A1.num 0 t1) from ⟨hp, Nat.zero_le _, Nat.zero_le _, Nat.zero_le _, by show t1.size ≤ _; omega, fun x hx => by cases hx⟩)
       have HST2 := hid (show H2 = Hu.st H p t.size t1 ∧ A2 = ⟨0, (hf : Int), Jn.zeroP⟩ ∧ Hu.StOk H p t.size t1 ∧ SizedH H2 from by
        have h1 := Hu.sv_he (q := Hu.qP p A1.num 0 t1) (H := H1) (by rw [HE1.out]; exact HOK.out.he)
        have h2 := Hu.sv_sized (q := Hu.qP p A1.num 0 t1) (H := H1) (by rw [HE1.out]; exact HOK.out.he) HSZ1.out HSQ2.out
        obtain ⟨a, b⟩ := Hu.st_ap (t := t1) HOK.out (by rw [hts]; show (0 : Int) + _ ≤ _; omega)
        have e0 : Hu.nob ++ t1 = t1 := by apply Hu.ba_eq; simp [Hu.nob]
        have ez : ((Hu.nob.size : Nat) : Int) = 0 := rfl
        rw [e0, ez] at a
        rw [ez] at b
        rw [← hH2] at h1 h2
        have a' : H2 = Hu.st H p t.size t1 := by rw [hH2, HE1.out, HE2.out]; exact a
        refine ⟨a', by rw [hA2, HE1.out, HE2.out, b, hts]; simp, ⟨by rw [← a']; exact h1, HOK.out.go, HOK.out.nm⟩, h2⟩)
       have HSV := hid (show ∀ W, Below w4.heap.size w4 W → Calls Tryz.prog 9 #[.agg #[.slice fa3 H1.fos.length fc3, .slice ga3 H1.gs.length gc3, .slice sa3 H1.ss.length sc3, .int .i64 H1.nx, .int .i64 H1.la, .int .i64 H1.ro, .int .i64 H1.now], .agg #[.int .i64 5, .string p, .string ⟨#[]⟩, .string ⟨#[]⟩, .string ⟨#[]⟩, .string t1, .int .i64 A1.num, .int .i64 0, .int .i64 0, .slice none 0 0]] W fun e w' => ∃ u a, e = .returned (.tuple #[u, a, .int .i64 0]) ∧ LiesH w' u H2 ∧ LiesA w' a A2 ∧ Below W.heap.size W w' from fun W hW => by
        rw [hH2, hA2]
        exact serve_any H1 (Hu.qP p A1.num 0 t1) _ _ W (HU3.out.below hW) HSZ1.out ⟨_, rfl, liesC_nil _⟩ HSQ2.out (by rw [HE1.out]; exact HOK.out.he))
       have HT1 : Hid (t.extract 0 hf = t1) := ht1.symm
       have HHF := hid hhf
       clear hH2 hA2 ht1 hhf
       go_upto_region 7 with fail
       go_cut [17, 18, 15] (fun x a e W => ∃ bA bB fq fr gq gr sq sr tq tr cq cr, x = .pointer (some ⟨bA, 0, none⟩) ∧ a = .pointer (some ⟨bB, 0, none⟩) ∧ e = .int .i64 0 ∧ Hid (Cs W bA [.slice fq H2.fos.length fr, .slice gq H2.gs.length gr, .slice sq H2.ss.length sr, .int .i64 H2.nx, .int .i64 H2.la, .int .i64 H2.ro, .int .i64 H2.now]) ∧ Hid (Cs W bB [.int .i64 A2.err, .int .i64 A2.num, .bool A2.pg.reset, .slice tq A2.pg.tree.length tr, .slice cq A2.pg.cos.length cr, .int .i64 A2.pg.cur, .bool A2.pg.more]) ∧ Hid (LiesH W (.agg #[.slice fq H2.fos.length fr, .slice gq H2.gs.length gr, .slice sq H2.ss.length sr, .int .i64 H2.nx, .int .i64 H2.la, .int .i64 H2.ro, .int .i64 H2.now]) H2) ∧ Hid (LiesA W (.agg #[.int .i64 A2.err, .int .i64 A2.num, .bool A2.pg.reset, .slice tq A2.pg.tree.length tr, .slice cq A2.pg.cos.length cr, .int .i64 A2.pg.cur, .bool A2.pg.more]) A2) ∧ Hid (Below w4.heap.size w4 W) ∧ w4.heap.size ≤ bA ∧ w4.heap.size ≤ bB)
       case first =>
        refine wp_region_held_drew (S := fun W => W.cell? ⟨w3.heap.size, 0, none⟩ = some (.slice fa3 H1.fos.length fc3) ∧ W.cell? ⟨w3.heap.size, 1, none⟩ = some (.slice ga3 H1.gs.length gc3) ∧ W.cell? ⟨w3.heap.size, 2, none⟩ = some (.slice sa3 H1.ss.length sc3) ∧ W.cell? ⟨w3.heap.size, 3, none⟩ = some (.int .i64 H1.nx) ∧ W.cell? ⟨w3.heap.size, 4, none⟩ = some (.int .i64 H1.la) ∧ W.cell? ⟨w3.heap.size, 5, none⟩ = some (.int .i64 H1.ro) ∧ W.cell? ⟨w3.heap.size, 6, none⟩ = some (.int .i64 H1.now) ∧ W.cell? ⟨w3.heap.size + 1, 1, none⟩ = some (.int .i64 A1.num)) (by kernel_rfl) ⟨(HX3.out.below ((Below.refl w4.heap.size w4).drew)).cell 0 rfl, (HX3.out.below ((Below.refl w4.heap.size w4).drew)).cell 1 rfl, (HX3.out.below ((Below.refl w4.heap.size w4).drew)).cell 2 rfl, (HX3.out.below ((Below.refl w4.heap.size w4).drew)).cell 3 rfl, (HX3.out.below ((Below.refl w4.heap.size w4).drew)).cell 4 rfl, (HX3.out.below ((Below.refl w4.heap.size w4).drew)).cell 5 rfl, (HX3.out.below ((Below.refl w4.heap.size w4).drew)).cell 6 rfl, (HA3.out.below ((Below.refl w4.heap.size w4).drew)).cell 1 rfl⟩ (fun hHeld => ?_)
        change wpAnyH _ _ _ _ _ 18 #[false, false, false, false, false, false, false, false, false, false, false, false, false, false, false, false, false, false] _ _
        have hc0 : Below w4.heap.size w4 w4.drew := (Below.refl _ _).drew
        generalize w4.drew = k0 at hHeld hc0 ⊢
        refine wpAnyH_take (i := 0) (oi := ⟨some 61, Op.load 28 (Operand.tmp 13), _, _, _, none⟩) (v := ?_) rfl (by kernel_rfl) (by kernel_rfl) (by kernel_rfl) (fun _ _ _ h => h) (Or.inl ⟨by rfl, ?_⟩) hHeld ?_
        rotate_left
        · (intro W hSw; obtain ⟨t0, t1, t2, t3, t4, t5, t6, t7⟩ := hSw; go_simp <;> with_reducible rfl)
        try simp only [Act.put, List.setIfInBounds_toArray, List.set_cons_zero, List.set_cons_succ]
        refine wpAnyH_take (i := 1) (oi := ⟨some 62, Op.move (Operand.tmp 1), _, _, _, none⟩) (v := ?_) rfl (by kernel_rfl) (by kernel_rfl) (by kernel_rfl) (fun _ _ _ h => h) (Or.inl ⟨by rfl, ?_⟩) hHeld ?_
        rotate_left
        · (intro W hSw; obtain ⟨t0, t1, t2, t3, t4, t5, t6, t7⟩ := hSw; go_simp <;> with_reducible rfl)
        try simp only [Act.put, List.setIfInBounds_toArray, List.set_cons_zero, List.set_cons_succ]
        refine wpAnyH_take (i := 2) (oi := ⟨some 63, Op.fieldAddr 39 (Operand.tmp 14) 1, _, _, _, none⟩) (v := ?_) rfl (by kernel_rfl) (by kernel_rfl) (by kernel_rfl) (fun _ _ _ h => h) (Or.inl ⟨by rfl, ?_⟩) hHeld ?_
        rotate_left
        · (intro W hSw; obtain ⟨t0, t1, t2, t3, t4, t5, t6, t7⟩ := hSw; go_simp <;> with_reducible rfl)
        try simp only [Act.put, List.setIfInBounds_toArray, List.set_cons_zero, List.set_cons_succ]
        refine wpAnyH_take (i := 3) (oi := ⟨some 64, Op.load 3 (Operand.tmp 63), _, _, _, none⟩) (v := ?_) rfl (by kernel_rfl) (by kernel_rfl) (by kernel_rfl) (fun _ _ _ h => h) (Or.inl ⟨by rfl, ?_⟩) hHeld ?_
        rotate_left
        · (intro W hSw; obtain ⟨t0, t1, t2, t3, t4, t5, t6, t7⟩ := hSw; go_simp <;> with_reducible rfl)
        try simp only [Act.put, List.setIfInBounds_toArray, List.set_cons_zero, List.set_cons_succ]
        refine wpAnyH_take (i := 4) (oi := ⟨some 65, Op.move (Operand.tmp 4), _, _, _, none⟩) (v := ?_) rfl (by kernel_rfl) (by kernel_rfl) (by kernel_rfl) (fun _ _ _ h => h) (Or.inl ⟨by rfl, ?_⟩) hHeld ?_
        rotate_left
        · (intro W hSw; obtain ⟨t0, t1, t2, t3, t4, t5, t6, t7⟩ := hSw; go_simp <;> with_reducible rfl)
        try simp only [Act.put, List.setIfInBounds_toArray, List.set_cons_zero, List.set_cons_succ]
        refine wpAnyH_take (i := 5) (oi := ⟨some 66, Op.move (Operand.tmp 16), _, _, _, none⟩) (v := ?_) rfl (by kernel_rfl) (by kernel_rfl) (by kernel_rfl) (fun _ _ _ h => h) (Or.inl ⟨by rfl, ?_⟩) hHeld ?_
        rotate_left
        · (intro W hSw; obtain ⟨t0, t1, t2, t3, t4, t5, t6, t7⟩ := hSw; go_simp <;> with_reducible rfl)
        try simp only [Act.put, List.setIfInBounds_toArray, List.set_cons_zero, List.set_cons_succ]
        refine wpAnyH_take (i := 6) (oi := ⟨some 67, Op.slice 9 (Operand.tmp 65) none (some (Operand.tmp 66)) none, _, _, _, none⟩) (v := ?_) rfl (by kernel_rfl) (by kernel_rfl) (by kernel_rfl) (fun _ _ _ h => h) (Or.inl ⟨by rfl, ?_⟩) hHeld ?_
        rotate_left
        · (intro W hSw; obtain ⟨t0, t1, t2, t3, t4, t5, t6, t7⟩ := hSw; go_simp <;> with_reducible rfl)
        try simp only [Act.put, List.setIfInBounds_toArray, List.set_cons_zero, List.set_cons_succ]
        refine wpAnyH_take (i := 7) (oi := ⟨some 68, Op.build 31 #[(0, Operand.const (Value.int IntKind.i64 5)), (1, Operand.tmp 62), (6, Operand.tmp 64), (5, Operand.tmp 67)], _, _, _, none⟩) (v := ?_) rfl (by kernel_rfl) (by kernel_rfl) (by kernel_rfl) (fun _ _ _ h => h) (Or.inl ⟨by rfl, ?_⟩) hHeld ?_
        rotate_left
        · (intro W hSw; obtain ⟨t0, t1, t2, t3, t4, t5, t6, t7⟩ := hSw; go_simp <;> with_reducible rfl)
        try simp only [Act.put, List.setIfInBounds_toArray, List.set_cons_zero, List.set_cons_succ]
        rw [HT1.out]
        refine laterH (p := ?_) (fun rest => ?_) ?_
        rotate_left
        · skip
          refine wpAnyH_ready (rs := [8, 13, 14]) (by kernel_rfl) (by simp) ?_
          refine AllReadyH.cons (o := ⟨some 69, Op.call ⟨Callee.value (Operand.func 9), #[Operand.tmp 61, Operand.tmp 68], #[28, 31]⟩, _, _, _, none⟩) rfl (fun K hK => ?_) (AllReadyH.cons (o := ⟨some 17, Op.alloc 28, _, _, _, none⟩) rfl (fun K hK => ?_) (AllReadyH.cons (o := ⟨some 18, Op.alloc 39, _, _, _, none⟩) rfl (fun K hK => ?_) (AllReadyH.nil)))
          · skip
            go_simp
            refine (HSV.out k0 hc0).mono ?_
            rintro e k1 ⟨uq, aq, rfl, huq, haq, hbq⟩
            have hc1 : Below w4.heap.size w4 k1 := below_tr hc0 hbq
            obtain ⟨fq, fr, gq, gr, sq, sr, rfl⟩ := huq.shape
            obtain ⟨tq, tr, cq, cr, rfl⟩ := haq.shape
            go_wp2_with fail
            refine hK.out _ _ ⟨(HX3.out.below hc1).cell 0 rfl, (HX3.out.below hc1).cell 1 rfl, (HX3.out.below hc1).cell 2 rfl, (HX3.out.below hc1).cell 3 rfl, (HX3.out.below hc1).cell 4 rfl, (HX3.out.below hc1).cell 5 rfl, (HX3.out.below hc1).cell 6 rfl, (HA3.out.below hc1).cell 1 rfl⟩ (fun hHeld => ?_)
            clear hK K
            try simp only [Act.put, List.setIfInBounds_toArray, List.set_cons_zero, List.set_cons_succ]
            refine wpAnyH_take (i := 9) (oi := ⟨some 60, Op.move (Operand.tmp 69), _, _, _, none⟩) (v := ?_) rfl (by kernel_rfl) (by kernel_rfl) (by kernel_rfl) (fun _ _ _ h => h) (Or.inl ⟨by rfl, ?_⟩) hHeld ?_
            rotate_left
            · (intro W hSw; obtain ⟨t0, t1, t2, t3, t4, t5, t6, t7⟩ := hSw; go_simp <;> with_reducible rfl)
            try simp only [Act.put, List.setIfInBounds_toArray, List.set_cons_zero, List.set_cons_succ]
            refine wpAnyH_take (i := 10) (oi := ⟨some 70, Op.extract (Operand.tmp 60) 0, _, _, _, none⟩) (v := ?_) rfl (by kernel_rfl) (by kernel_rfl) (by kernel_rfl) (fun _ _ _ h => h) (Or.inl ⟨by rfl, ?_⟩) hHeld ?_
            rotate_left
            · (intro W hSw; obtain ⟨t0, t1, t2, t3, t4, t5, t6, t7⟩ := hSw; go_simp <;> with_reducible rfl)
            try simp only [Act.put, List.setIfInBounds_toArray, List.set_cons_zero, List.set_cons_succ]
            refine wpAnyH_take (i := 11) (oi := ⟨some 71, Op.extract (Operand.tmp 60) 1, _, _, _, none⟩) (v := ?_) rfl (by kernel_rfl) (by kernel_rfl) (by kernel_rfl) (fun _ _ _ h => h) (Or.inl ⟨by rfl, ?_⟩) hHeld ?_
            rotate_left
            · (intro W hSw; obtain ⟨t0, t1, t2, t3, t4, t5, t6, t7⟩ := hSw; go_simp <;> with_reducible rfl)
            try simp only [Act.put, List.setIfInBounds_toArray, List.set_cons_zero, List.set_cons_succ]
            refine wpAnyH_take (i := 12) (oi := ⟨some 72, Op.extract (Operand.tmp 60) 2, _, _, _, none⟩) (v := ?_) rfl (by kernel_rfl) (by kernel_rfl) (by kernel_rfl) (fun _ _ _ h => h) (Or.inl ⟨by rfl, ?_⟩) hHeld ?_
            rotate_left
            · (intro W hSw; obtain ⟨t0, t1, t2, t3, t4, t5, t6, t7⟩ := hSw; go_simp <;> with_reducible rfl)
            try simp only [Act.put, List.setIfInBounds_toArray, List.set_cons_zero, List.set_cons_succ]
            clear hbq
            try clear hc0
            try clear k0
            refine wpAnyH_ready (rs := [13, 14]) (by kernel_rfl) (by simp) ?_
            refine AllReadyH.cons (o := ⟨some 17, Op.alloc 28, _, _, _, none⟩) rfl (fun K hK => ?_) (AllReadyH.cons (o := ⟨some 18, Op.alloc 39, _, _, _, none⟩) rfl (fun K hK => ?_) (AllReadyH.nil))
            · skip
              go_simp
              generalize hwz : World.alloc k1 (.cells #[.slice none 0 0, .slice none 0 0, .slice none 0 0, .int .i64 0, .int .i64 0, .int .i64 0, .int .i64 0] 28) = k2
              have hz : Below k1.heap.size k1 k2 := hwz ▸ (Below.refl _ _).alloc (Nat.le_refl _) _
              have hc2 : Below w4.heap.size w4 k2 := below_tr hc1 hz
              have hBA : Cs k2 k1.heap.size [.slice none 0 0, .slice none 0 0, .slice none 0 0, .int .i64 0, .int .i64 0, .int .i64 0, .int .i64 0] := (by rw [← hwz]; exact Cs.new k1 [.slice none 0 0, .slice none 0 0, .slice none 0 0, .int .i64 0, .int .i64 0, .int .i64 0, .int .i64 0] _)
              have hlebA : w4.heap.size ≤ k1.heap.size := hc1.size
              replace huq := huq.below hz
              replace haq := haq.below hz
              clear hwz hz
              generalize k1.heap.size = bA at hBA hlebA ⊢
              refine hK.out _ _ ⟨(HX3.out.below hc2).cell 0 rfl, (HX3.out.below hc2).cell 1 rfl, (HX3.out.below hc2).cell 2 rfl, (HX3.out.below hc2).cell 3 rfl, (HX3.out.below hc2).cell 4 rfl, (HX3.out.below hc2).cell 5 rfl, (HX3.out.below hc2).cell 6 rfl, (HA3.out.below hc2).cell 1 rfl⟩ (fun hHeld => ?_)
              clear hK K
              try simp only [Act.put, List.setIfInBounds_toArray, List.set_cons_zero, List.set_cons_succ]
              try clear hc1
              try clear k1
              refine wpAnyH_ready (rs := [14]) (by kernel_rfl) (by simp) ?_
              refine AllReadyH.cons (o := ⟨some 18, Op.alloc 39, _, _, _, none⟩) rfl (fun K hK => ?_) (AllReadyH.nil)
              · skip
                go_simp
                generalize hwz : World.alloc k2 (.cells #[.int .i64 0, .int .i64 0, .bool false, .slice none 0 0, .slice none 0 0, .int .i64 0, .bool false] 39) = k3
                have hz : Below k2.heap.size k2 k3 := hwz ▸ (Below.refl _ _).alloc (Nat.le_refl _) _
                have hc3 : Below w4.heap.size w4 k3 := below_tr hc2 hz
                have hBB : Cs k3 k2.heap.size [.int .i64 0, .int .i64 0, .bool false, .slice none 0 0, .slice none 0 0, .int .i64 0, .bool false] := (by rw [← hwz]; exact Cs.new k2 [.int .i64 0, .int .i64 0, .bool false, .slice none 0 0, .slice none 0 0, .int .i64 0, .bool false] _)
                have hlebB : w4.heap.size ≤ k2.heap.size := hc2.size
                have hne : bA ≠ k2.heap.size := Nat.ne_of_lt hBA.lt
                replace hBA := hBA.below hz
                replace huq := huq.below hz
                replace haq := haq.below hz
                clear hwz hz
                generalize k2.heap.size = bB at hBB hlebB hne ⊢
                refine hK.out _ _ ⟨(HX3.out.below hc3).cell 0 rfl, (HX3.out.below hc3).cell 1 rfl, (HX3.out.below hc3).cell 2 rfl, (HX3.out.below hc3).cell 3 rfl, (HX3.out.below hc3).cell 4 rfl, (HX3.out.below hc3).cell 5 rfl, (HX3.out.below hc3).cell 6 rfl, (HA3.out.below hc3).cell 1 rfl⟩ (fun hHeld => ?_)
                clear hK K
                try simp only [Act.put, List.setIfInBounds_toArray, List.set_cons_zero, List.set_cons_succ]
                try clear hc2
                try clear k2
                have hab : bA ≠ bB := hne
                change wpAnyH _ _ _ _ _ 3 #[true, true, true, true, true, true, true, true, true, true, true, true, true, true, true, false, false, false] _ _
                clear hne
                revert hHeld
                revert hc3
                revert hlebB
                revert hlebA
                revert hab
                revert haq
                revert huq
                revert hBB
                revert hBA
                revert cr
                revert cq
                revert tr
                revert tq
                revert sr
                revert sq
                revert gr
                revert gq
                revert fr
                revert fq
                revert bB
                revert bA
                revert k3
                exact rest.out
            · skip
              go_simp
              generalize hwz : World.alloc k1 (.cells #[.int .i64 0, .int .i64 0, .bool false, .slice none 0 0, .slice none 0 0, .int .i64 0, .bool false] 39) = k2
              have hz : Below k1.heap.size k1 k2 := hwz ▸ (Below.refl _ _).alloc (Nat.le_refl _) _
              have hc2 : Below w4.heap.size w4 k2 := below_tr hc1 hz
              have hBB : Cs k2 k1.heap.size [.int .i64 0, .int .i64 0, .bool false, .slice none 0 0, .slice none 0 0, .int .i64 0, .bool false] := (by rw [← hwz]; exact Cs.new k1 [.int .i64 0, .int .i64 0, .bool false, .slice none 0 0, .slice none 0 0, .int .i64 0, .bool false] _)
              have hlebB : w4.heap.size ≤ k1.heap.size := hc1.size
              replace huq := huq.below hz
              replace haq := haq.below hz
              clear hwz hz
              generalize k1.heap.size = bB at hBB hlebB ⊢
              refine hK.out _ _ ⟨(HX3.out.below hc2).cell 0 rfl, (HX3.out.below hc2).cell 1 rfl, (HX3.out.below hc2).cell 2 rfl, (HX3.out.below hc2).cell 3 rfl, (HX3.out.below hc2).cell 4 rfl, (HX3.out.below hc2).cell 5 rfl, (HX3.out.below hc2).cell 6 rfl, (HA3.out.below hc2).cell 1 rfl⟩ (fun hHeld => ?_)
              clear hK K
              try simp only [Act.put, List.setIfInBounds_toArray, List.set_cons_zero, List.set_cons_succ]
              try clear hc1
              try clear k1
              refine wpAnyH_ready (rs := [13]) (by kernel_rfl) (by simp) ?_
              refine AllReadyH.cons (o := ⟨some 17, Op.alloc 28, _, _, _, none⟩) rfl (fun K hK => ?_) (AllReadyH.nil)
              · skip
                go_simp
                generalize hwz : World.alloc k2 (.cells #[.slice none 0 0, .slice none 0 0, .slice none 0 0, .int .i64 0, .int .i64 0, .int .i64 0, .int .i64 0] 28) = k3
                have hz : Below k2.heap.size k2 k3 := hwz ▸ (Below.refl _ _).alloc (Nat.le_refl _) _
                have hc3 : Below w4.heap.size w4 k3 := below_tr hc2 hz
                have hBA : Cs k3 k2.heap.size [.slice none 0 0, .slice none 0 0, .slice none 0 0, .int .i64 0, .int .i64 0, .int .i64 0, .int .i64 0] := (by rw [← hwz]; exact Cs.new k2 [.slice none 0 0, .slice none 0 0, .slice none 0 0, .int .i64 0, .int .i64 0, .int .i64 0, .int .i64 0] _)
                have hlebA : w4.heap.size ≤ k2.heap.size := hc2.size
                have hne : bB ≠ k2.heap.size := Nat.ne_of_lt hBB.lt
                replace hBB := hBB.below hz
                replace huq := huq.below hz
                replace haq := haq.below hz
                clear hwz hz
                generalize k2.heap.size = bA at hBA hlebA hne ⊢
                refine hK.out _ _ ⟨(HX3.out.below hc3).cell 0 rfl, (HX3.out.below hc3).cell 1 rfl, (HX3.out.below hc3).cell 2 rfl, (HX3.out.below hc3).cell 3 rfl, (HX3.out.below hc3).cell 4 rfl, (HX3.out.below hc3).cell 5 rfl, (HX3.out.below hc3).cell 6 rfl, (HA3.out.below hc3).cell 1 rfl⟩ (fun hHeld => ?_)
                clear hK K
                try simp only [Act.put, List.setIfInBounds_toArray, List.set_cons_zero, List.set_cons_succ]
                try clear hc2
                try clear k2
                have hab : bA ≠ bB := hne.symm
                change wpAnyH _ _ _ _ _ 3 #[true, true, true, true, true, true, true, true, true, true, true, true, true, true, true, false, false, false] _ _
                clear hne
                revert hHeld
                revert hc3
                revert hlebB
                revert hlebA
                revert hab
                revert haq
                revert huq
                revert hBB
                revert hBA
                revert cr
                revert cq
                revert tr
                revert tq
                revert sr
                revert sq
                revert gr
                revert gq
                revert fr
                revert fq
                revert bB
                revert bA
                revert k3
                exact rest.out
          · skip
            go_simp
            generalize hwz : World.alloc k0 (.cells #[.slice none 0 0, .slice none 0 0, .slice none 0 0, .int .i64 0, .int .i64 0, .int .i64 0, .int .i64 0] 28) = k1
            have hz : Below k0.heap.size k0 k1 := hwz ▸ (Below.refl _ _).alloc (Nat.le_refl _) _
            have hc1 : Below w4.heap.size w4 k1 := below_tr hc0 hz
            have hBA : Cs k1 k0.heap.size [.slice none 0 0, .slice none 0 0, .slice none 0 0, .int .i64 0, .int .i64 0, .int .i64 0, .int .i64 0] := (by rw [← hwz]; exact Cs.new k0 [.slice none 0 0, .slice none 0 0, .slice none 0 0, .int .i64 0, .int .i64 0, .int .i64 0, .int .i64 0] _)
            have hlebA : w4.heap.size ≤ k0.heap.size := hc0.size
            clear hwz hz
            generalize k0.heap.size = bA at hBA hlebA ⊢
            refine hK.out _ _ ⟨(HX3.out.below hc1).cell 0 rfl, (HX3.out.below hc1).cell 1 rfl, (HX3.out.below hc1).cell 2 rfl, (HX3.out.below hc1).cell 3 rfl, (HX3.out.below hc1).cell 4 rfl, (HX3.out.below hc1).cell 5 rfl, (HX3.out.below hc1).cell 6 rfl, (HA3.out.below hc1).cell 1 rfl⟩ (fun hHeld => ?_)
            clear hK K
            try simp only [Act.put, List.setIfInBounds_toArray, List.set_cons_zero, List.set_cons_succ]
            try clear hc0
            try clear k0
            refine wpAnyH_ready (rs := [8, 14]) (by kernel_rfl) (by simp) ?_
            refine AllReadyH.cons (o := ⟨some 69, Op.call ⟨Callee.value (Operand.func 9), #[Operand.tmp 61, Operand.tmp 68], #[28, 31]⟩, _, _, _, none⟩) rfl (fun K hK => ?_) (AllReadyH.cons (o := ⟨some 18, Op.alloc 39, _, _, _, none⟩) rfl (fun K hK => ?_) (AllReadyH.nil))
            · skip
              go_simp
              refine (HSV.out k1 hc1).mono ?_
              rintro e k2 ⟨uq, aq, rfl, huq, haq, hbq⟩
              have hc2 : Below w4.heap.size w4 k2 := below_tr hc1 hbq
              obtain ⟨fq, fr, gq, gr, sq, sr, rfl⟩ := huq.shape
              obtain ⟨tq, tr, cq, cr, rfl⟩ := haq.shape
              replace hBA := hBA.below hbq
              go_wp2_with fail
              refine hK.out _ _ ⟨(HX3.out.below hc2).cell 0 rfl, (HX3.out.below hc2).cell 1 rfl, (HX3.out.below hc2).cell 2 rfl, (HX3.out.below hc2).cell 3 rfl, (HX3.out.below hc2).cell 4 rfl, (HX3.out.below hc2).cell 5 rfl, (HX3.out.below hc2).cell 6 rfl, (HA3.out.below hc2).cell 1 rfl⟩ (fun hHeld => ?_)
              clear hK K
              try simp only [Act.put, List.setIfInBounds_toArray, List.set_cons_zero, List.set_cons_succ]
              refine wpAnyH_take (i := 9) (oi := ⟨some 60, Op.move (Operand.tmp 69), _, _, _, none⟩) (v := ?_) rfl (by kernel_rfl) (by kernel_rfl) (by kernel_rfl) (fun _ _ _ h => h) (Or.inl ⟨by rfl, ?_⟩) hHeld ?_
              rotate_left
              · (intro W hSw; obtain ⟨t0, t1, t2, t3, t4, t5, t6, t7⟩ := hSw; go_simp <;> with_reducible rfl)
              try simp only [Act.put, List.setIfInBounds_toArray, List.set_cons_zero, List.set_cons_succ]
              refine wpAnyH_take (i := 10) (oi := ⟨some 70, Op.extract (Operand.tmp 60) 0, _, _, _, none⟩) (v := ?_) rfl (by kernel_rfl) (by kernel_rfl) (by kernel_rfl) (fun _ _ _ h => h) (Or.inl ⟨by rfl, ?_⟩) hHeld ?_
              rotate_left
              · (intro W hSw; obtain ⟨t0, t1, t2, t3, t4, t5, t6, t7⟩ := hSw; go_simp <;> with_reducible rfl)
              try simp only [Act.put, List.setIfInBounds_toArray, List.set_cons_zero, List.set_cons_succ]
              refine wpAnyH_take (i := 11) (oi := ⟨some 71, Op.extract (Operand.tmp 60) 1, _, _, _, none⟩) (v := ?_) rfl (by kernel_rfl) (by kernel_rfl) (by kernel_rfl) (fun _ _ _ h => h) (Or.inl ⟨by rfl, ?_⟩) hHeld ?_
              rotate_left
              · (intro W hSw; obtain ⟨t0, t1, t2, t3, t4, t5, t6, t7⟩ := hSw; go_simp <;> with_reducible rfl)
              try simp only [Act.put, List.setIfInBounds_toArray, List.set_cons_zero, List.set_cons_succ]
              refine wpAnyH_take (i := 12) (oi := ⟨some 72, Op.extract (Operand.tmp 60) 2, _, _, _, none⟩) (v := ?_) rfl (by kernel_rfl) (by kernel_rfl) (by kernel_rfl) (fun _ _ _ h => h) (Or.inl ⟨by rfl, ?_⟩) hHeld ?_
              rotate_left
              · (intro W hSw; obtain ⟨t0, t1, t2, t3, t4, t5, t6, t7⟩ := hSw; go_simp <;> with_reducible rfl)
              try simp only [Act.put, List.setIfInBounds_toArray, List.set_cons_zero, List.set_cons_succ]
              clear hbq
              try clear hc1
              try clear k1
              refine wpAnyH_ready (rs := [14]) (by kernel_rfl) (by simp) ?_
              refine AllReadyH.cons (o := ⟨some 18, Op.alloc 39, _, _, _, none⟩) rfl (fun K hK => ?_) (AllReadyH.nil)
              · skip
                go_simp
                generalize hwz : World.alloc k2 (.cells #[.int .i64 0, .int .i64 0, .bool false, .slice none 0 0, .slice none 0 0, .int .i64 0, .bool false] 39) = k3
                have hz : Below k2.heap.size k2 k3 := hwz ▸ (Below.refl _ _).alloc (Nat.le_refl _) _
                have hc3 : Below w4.heap.size w4 k3 := below_tr hc2 hz
                have hBB : Cs k3 k2.heap.size [.int .i64 0, .int .i64 0, .bool false, .slice none 0 0, .slice none 0 0, .int .i64 0, .bool false] := (by rw [← hwz]; exact Cs.new k2 [.int .i64 0, .int .i64 0, .bool false, .slice none 0 0, .slice none 0 0, .int .i64 0, .bool false] _)
                have hlebB : w4.heap.size ≤ k2.heap.size := hc2.size
                have hne : bA ≠ k2.heap.size := Nat.ne_of_lt hBA.lt
                replace hBA := hBA.below hz
                replace huq := huq.below hz
                replace haq := haq.below hz
                clear hwz hz
                generalize k2.heap.size = bB at hBB hlebB hne ⊢
                refine hK.out _ _ ⟨(HX3.out.below hc3).cell 0 rfl, (HX3.out.below hc3).cell 1 rfl, (HX3.out.below hc3).cell 2 rfl, (HX3.out.below hc3).cell 3 rfl, (HX3.out.below hc3).cell 4 rfl, (HX3.out.below hc3).cell 5 rfl, (HX3.out.below hc3).cell 6 rfl, (HA3.out.below hc3).cell 1 rfl⟩ (fun hHeld => ?_)
                clear hK K
                try simp only [Act.put, List.setIfInBounds_toArray, List.set_cons_zero, List.set_cons_succ]
                try clear hc2
                try clear k2
                have hab : bA ≠ bB := hne
                change wpAnyH _ _ _ _ _ 3 #[true, true, true, true, true, true, true, true, true, true, true, true, true, true, true, false, false, false] _ _
                clear hne
                revert hHeld
                revert hc3
                revert hlebB
                revert hlebA
                revert hab
                revert haq
                revert huq
                revert hBB
                revert hBA
                revert cr
                revert cq
                revert tr
                revert tq
                revert sr
                revert sq
                revert gr
                revert gq
                revert fr
                revert fq
                revert bB
                revert bA
                revert k3
                exact rest.out
            · skip
              go_simp
              generalize hwz : World.alloc k1 (.cells #[.int .i64 0, .int .i64 0, .bool false, .slice none 0 0, .slice none 0 0, .int .i64 0, .bool false] 39) = k2
              have hz : Below k1.heap.size k1 k2 := hwz ▸ (Below.refl _ _).alloc (Nat.le_refl _) _
              have hc2 : Below w4.heap.size w4 k2 := below_tr hc1 hz
              have hBB : Cs k2 k1.heap.size [.int .i64 0, .int .i64 0, .bool false, .slice none 0 0, .slice none 0 0, .int .i64 0, .bool false] := (by rw [← hwz]; exact Cs.new k1 [.int .i64 0, .int .i64 0, .bool false, .slice none 0 0, .slice none 0 0, .int .i64 0, .bool false] _)
              have hlebB : w4.heap.size ≤ k1.heap.size := hc1.size
              have hne : bA ≠ k1.heap.size := Nat.ne_of_lt hBA.lt
              replace hBA := hBA.below hz
              clear hwz hz
              generalize k1.heap.size = bB at hBB hlebB hne ⊢
              refine hK.out _ _ ⟨(HX3.out.below hc2).cell 0 rfl, (HX3.out.below hc2).cell 1 rfl, (HX3.out.below hc2).cell 2 rfl, (HX3.out.below hc2).cell 3 rfl, (HX3.out.below hc2).cell 4 rfl, (HX3.out.below hc2).cell 5 rfl, (HX3.out.below hc2).cell 6 rfl, (HA3.out.below hc2).cell 1 rfl⟩ (fun hHeld => ?_)
              clear hK K
              try simp only [Act.put, List.setIfInBounds_toArray, List.set_cons_zero, List.set_cons_succ]
              try clear hc1
              try clear k1
              refine wpAnyH_ready (rs := [8]) (by kernel_rfl) (by simp) ?_
              refine AllReadyH.cons (o := ⟨some 69, Op.call ⟨Callee.value (Operand.func 9), #[Operand.tmp 61, Operand.tmp 68], #[28, 31]⟩, _, _, _, none⟩) rfl (fun K hK => ?_) (AllReadyH.nil)
              · skip
                go_simp
                refine (HSV.out k2 hc2).mono ?_
                rintro e k3 ⟨uq, aq, rfl, huq, haq, hbq⟩
                have hc3 : Below w4.heap.size w4 k3 := below_tr hc2 hbq
                obtain ⟨fq, fr, gq, gr, sq, sr, rfl⟩ := huq.shape
                obtain ⟨tq, tr, cq, cr, rfl⟩ := haq.shape
                replace hBA := hBA.below hbq
                replace hBB := hBB.below hbq
                go_wp2_with fail
                refine hK.out _ _ ⟨(HX3.out.below hc3).cell 0 rfl, (HX3.out.below hc3).cell 1 rfl, (HX3.out.below hc3).cell 2 rfl, (HX3.out.below hc3).cell 3 rfl, (HX3.out.below hc3).cell 4 rfl, (HX3.out.below hc3).cell 5 rfl, (HX3.out.below hc3).cell 6 rfl, (HA3.out.below hc3).cell 1 rfl⟩ (fun hHeld => ?_)
                clear hK K
                try simp only [Act.put, List.setIfInBounds_toArray, List.set_cons_zero, List.set_cons_succ]
                refine wpAnyH_take (i := 9) (oi := ⟨some 60, Op.move (Operand.tmp 69), _, _, _, none⟩) (v := ?_) rfl (by kernel_rfl) (by kernel_rfl) (by kernel_rfl) (fun _ _ _ h => h) (Or.inl ⟨by rfl, ?_⟩) hHeld ?_
                rotate_left
                · (intro W hSw; obtain ⟨t0, t1, t2, t3, t4, t5, t6, t7⟩ := hSw; go_simp <;> with_reducible rfl)
                try simp only [Act.put, List.setIfInBounds_toArray, List.set_cons_zero, List.set_cons_succ]
                refine wpAnyH_take (i := 10) (oi := ⟨some 70, Op.extract (Operand.tmp 60) 0, _, _, _, none⟩) (v := ?_) rfl (by kernel_rfl) (by kernel_rfl) (by kernel_rfl) (fun _ _ _ h => h) (Or.inl ⟨by rfl, ?_⟩) hHeld ?_
                rotate_left
                · (intro W hSw; obtain ⟨t0, t1, t2, t3, t4, t5, t6, t7⟩ := hSw; go_simp <;> with_reducible rfl)
                try simp only [Act.put, List.setIfInBounds_toArray, List.set_cons_zero, List.set_cons_succ]
                refine wpAnyH_take (i := 11) (oi := ⟨some 71, Op.extract (Operand.tmp 60) 1, _, _, _, none⟩) (v := ?_) rfl (by kernel_rfl) (by kernel_rfl) (by kernel_rfl) (fun _ _ _ h => h) (Or.inl ⟨by rfl, ?_⟩) hHeld ?_
                rotate_left
                · (intro W hSw; obtain ⟨t0, t1, t2, t3, t4, t5, t6, t7⟩ := hSw; go_simp <;> with_reducible rfl)
                try simp only [Act.put, List.setIfInBounds_toArray, List.set_cons_zero, List.set_cons_succ]
                refine wpAnyH_take (i := 12) (oi := ⟨some 72, Op.extract (Operand.tmp 60) 2, _, _, _, none⟩) (v := ?_) rfl (by kernel_rfl) (by kernel_rfl) (by kernel_rfl) (fun _ _ _ h => h) (Or.inl ⟨by rfl, ?_⟩) hHeld ?_
                rotate_left
                · (intro W hSw; obtain ⟨t0, t1, t2, t3, t4, t5, t6, t7⟩ := hSw; go_simp <;> with_reducible rfl)
                try simp only [Act.put, List.setIfInBounds_toArray, List.set_cons_zero, List.set_cons_succ]
                clear hbq
                try clear hc2
                try clear k2
                have hab : bA ≠ bB := hne
                change wpAnyH _ _ _ _ _ 3 #[true, true, true, true, true, true, true, true, true, true, true, true, true, true, true, false, false, false] _ _
                clear hne
                revert hHeld
                revert hc3
                revert hlebB
                revert hlebA
                revert hab
                revert haq
                revert huq
                revert hBB
                revert hBA
                revert cr
                revert cq
                revert tr
                revert tq
                revert sr
                revert sq
                revert gr
                revert gq
                revert fr
                revert fq
                revert bB
                revert bA
                revert k3
                exact rest.out
          · skip
            go_simp
            generalize hwz : World.alloc k0 (.cells #[.int .i64 0, .int .i64 0, .bool false, .slice none 0 0, .slice none 0 0, .int .i64 0, .bool false] 39) = k1
            have hz : Below k0.heap.size k0 k1 := hwz ▸ (Below.refl _ _).alloc (Nat.le_refl _) _
            have hc1 : Below w4.heap.size w4 k1 := below_tr hc0 hz
            have hBB : Cs k1 k0.heap.size [.int .i64 0, .int .i64 0, .bool false, .slice none 0 0, .slice none 0 0, .int .i64 0, .bool false] := (by rw [← hwz]; exact Cs.new k0 [.int .i64 0, .int .i64 0, .bool false, .slice none 0 0, .slice none 0 0, .int .i64 0, .bool false] _)
            have hlebB : w4.heap.size ≤ k0.heap.size := hc0.size
            clear hwz hz
            generalize k0.heap.size = bB at hBB hlebB ⊢
            refine hK.out _ _ ⟨(HX3.out.below hc1).cell 0 rfl, (HX3.out.below hc1).cell 1 rfl, (HX3.out.below hc1).cell 2 rfl, (HX3.out.below hc1).cell 3 rfl, (HX3.out.below hc1).cell 4 rfl, (HX3.out.below hc1).cell 5 rfl, (HX3.out.below hc1).cell 6 rfl, (HA3.out.below hc1).cell 1 rfl⟩ (fun hHeld => ?_)
            clear hK K
            try simp only [Act.put, List.setIfInBounds_toArray, List.set_cons_zero, List.set_cons_succ]
            try clear hc0
            try clear k0
            refine wpAnyH_ready (rs := [8, 13]) (by kernel_rfl) (by simp) ?_
            refine AllReadyH.cons (o := ⟨some 69, Op.call ⟨Callee.value (Operand.func 9), #[Operand.tmp 61, Operand.tmp 68], #[28, 31]⟩, _, _, _, none⟩) rfl (fun K hK => ?_) (AllReadyH.cons (o := ⟨some 17, Op.alloc 28, _, _, _, none⟩) rfl (fun K hK => ?_) (AllReadyH.nil))
            · skip
              go_simp
              refine (HSV.out k1 hc1).mono ?_
              rintro e k2 ⟨uq, aq, rfl, huq, haq, hbq⟩
              have hc2 : Below w4.heap.size w4 k2 := below_tr hc1 hbq
              obtain ⟨fq, fr, gq, gr, sq, sr, rfl⟩ := huq.shape
              obtain ⟨tq, tr, cq, cr, rfl⟩ := haq.shape
              replace hBB := hBB.below hbq
              go_wp2_with fail
              refine hK.out _ _ ⟨(HX3.out.below hc2).cell 0 rfl, (HX3.out.below hc2).cell 1 rfl, (HX3.out.below hc2).cell 2 rfl, (HX3.out.below hc2).cell 3 rfl, (HX3.out.below hc2).cell 4 rfl, (HX3.out.below hc2).cell 5 rfl, (HX3.out.below hc2).cell 6 rfl, (HA3.out.below hc2).cell 1 rfl⟩ (fun hHeld => ?_)
              clear hK K
              try simp only [Act.put, List.setIfInBounds_toArray, List.set_cons_zero, List.set_cons_succ]
              refine wpAnyH_take (i := 9) (oi := ⟨some 60, Op.move (Operand.tmp 69), _, _, _, none⟩) (v := ?_) rfl (by kernel_rfl) (by kernel_rfl) (by kernel_rfl) (fun _ _ _ h => h) (Or.inl ⟨by rfl, ?_⟩) hHeld ?_
              rotate_left
              · (intro W hSw; obtain ⟨t0, t1, t2, t3, t4, t5, t6, t7⟩ := hSw; go_simp <;> with_reducible rfl)
              try simp only [Act.put, List.setIfInBounds_toArray, List.set_cons_zero, List.set_cons_succ]
              refine wpAnyH_take (i := 10) (oi := ⟨some 70, Op.extract (Operand.tmp 60) 0, _, _, _, none⟩) (v := ?_) rfl (by kernel_rfl) (by kernel_rfl) (by kernel_rfl) (fun _ _ _ h => h) (Or.inl ⟨by rfl, ?_⟩) hHeld ?_
              rotate_left
              · (intro W hSw; obtain ⟨t0, t1, t2, t3, t4, t5, t6, t7⟩ := hSw; go_simp <;> with_reducible rfl)
              try simp only [Act.put, List.setIfInBounds_toArray, List.set_cons_zero, List.set_cons_succ]
              refine wpAnyH_take (i := 11) (oi := ⟨some 71, Op.extract (Operand.tmp 60) 1, _, _, _, none⟩) (v := ?_) rfl (by kernel_rfl) (by kernel_rfl) (by kernel_rfl) (fun _ _ _ h => h) (Or.inl ⟨by rfl, ?_⟩) hHeld ?_
              rotate_left
              · (intro W hSw; obtain ⟨t0, t1, t2, t3, t4, t5, t6, t7⟩ := hSw; go_simp <;> with_reducible rfl)
              try simp only [Act.put, List.setIfInBounds_toArray, List.set_cons_zero, List.set_cons_succ]
              refine wpAnyH_take (i := 12) (oi := ⟨some 72, Op.extract (Operand.tmp 60) 2, _, _, _, none⟩) (v := ?_) rfl (by kernel_rfl) (by kernel_rfl) (by kernel_rfl) (fun _ _ _ h => h) (Or.inl ⟨by rfl, ?_⟩) hHeld ?_
              rotate_left
              · (intro W hSw; obtain ⟨t0, t1, t2, t3, t4, t5, t6, t7⟩ := hSw; go_simp <;> with_reducible rfl)
              try simp only [Act.put, List.setIfInBounds_toArray, List.set_cons_zero, List.set_cons_succ]
              clear hbq
              try clear hc1
              try clear k1
              refine wpAnyH_ready (rs := [13]) (by kernel_rfl) (by simp) ?_
              refine AllReadyH.cons (o := ⟨some 17, Op.alloc 28, _, _, _, none⟩) rfl (fun K hK => ?_) (AllReadyH.nil)
              · skip
                go_simp
                generalize hwz : World.alloc k2 (.cells #[.slice none 0 0, .slice none 0 0, .slice none 0 0, .int .i64 0, .int .i64 0, .int .i64 0, .int .i64 0] 28) = k3
                have hz : Below k2.heap.size k2 k3 := hwz ▸ (Below.refl _ _).alloc (Nat.le_refl _) _
                have hc3 : Below w4.heap.size w4 k3 := below_tr hc2 hz
                have hBA : Cs k3 k2.heap.size [.slice none 0 0, .slice none 0 0, .slice none 0 0, .int .i64 0, .int .i64 0, .int .i64 0, .int .i64 0] := (by rw [← hwz]; exact Cs.new k2 [.slice none 0 0, .slice none 0 0, .slice none 0 0, .int .i64 0, .int .i64 0, .int .i64 0, .int .i64 0] _)
                have hlebA : w4.heap.size ≤ k2.heap.size := hc2.size
                have hne : bB ≠ k2.heap.size := Nat.ne_of_lt hBB.lt
                replace hBB := hBB.below hz
                replace huq := huq.below hz
                replace haq := haq.below hz
                clear hwz hz
                generalize k2.heap.size = bA at hBA hlebA hne ⊢
                refine hK.out _ _ ⟨(HX3.out.below hc3).cell 0 rfl, (HX3.out.below hc3).cell 1 rfl, (HX3.out.below hc3).cell 2 rfl, (HX3.out.below hc3).cell 3 rfl, (HX3.out.below hc3).cell 4 rfl, (HX3.out.below hc3).cell 5 rfl, (HX3.out.below hc3).cell 6 rfl, (HA3.out.below hc3).cell 1 rfl⟩ (fun hHeld => ?_)
                clear hK K
                try simp only [Act.put, List.setIfInBounds_toArray, List.set_cons_zero, List.set_cons_succ]
                try clear hc2
                try clear k2
                have hab : bA ≠ bB := hne.symm
                change wpAnyH _ _ _ _ _ 3 #[true, true, true, true, true, true, true, true, true, true, true, true, true, true, true, false, false, false] _ _
                clear hne
                revert hHeld
                revert hc3
                revert hlebB
                revert hlebA
                revert hab
                revert haq
                revert huq
                revert hBB
                revert hBA
                revert cr
                revert cq
                revert tr
                revert tq
                revert sr
                revert sq
                revert gr
                revert gq
                revert fr
                revert fq
                revert bB
                revert bA
                revert k3
                exact rest.out
            · skip
              go_simp
              generalize hwz : World.alloc k1 (.cells #[.slice none 0 0, .slice none 0 0, .slice none 0 0, .int .i64 0, .int .i64 0, .int .i64 0, .int .i64 0] 28) = k2
              have hz : Below k1.heap.size k1 k2 := hwz ▸ (Below.refl _ _).alloc (Nat.le_refl _) _
              have hc2 : Below w4.heap.size w4 k2 := below_tr hc1 hz
              have hBA : Cs k2 k1.heap.size [.slice none 0 0, .slice none 0 0, .slice none 0 0, .int .i64 0, .int .i64 0, .int .i64 0, .int .i64 0] := (by rw [← hwz]; exact Cs.new k1 [.slice none 0 0, .slice none 0 0, .slice none 0 0, .int .i64 0, .int .i64 0, .int .i64 0, .int .i64 0] _)
              have hlebA : w4.heap.size ≤ k1.heap.size := hc1.size
              have hne : bB ≠ k1.heap.size := Nat.ne_of_lt hBB.lt
              replace hBB := hBB.below hz
              clear hwz hz
              generalize k1.heap.size = bA at hBA hlebA hne ⊢
              refine hK.out _ _ ⟨(HX3.out.below hc2).cell 0 rfl, (HX3.out.below hc2).cell 1 rfl, (HX3.out.below hc2).cell 2 rfl, (HX3.out.below hc2).cell 3 rfl, (HX3.out.below hc2).cell 4 rfl, (HX3.out.below hc2).cell 5 rfl, (HX3.out.below hc2).cell 6 rfl, (HA3.out.below hc2).cell 1 rfl⟩ (fun hHeld => ?_)
              clear hK K
              try simp only [Act.put, List.setIfInBounds_toArray, List.set_cons_zero, List.set_cons_succ]
              try clear hc1
              try clear k1
              refine wpAnyH_ready (rs := [8]) (by kernel_rfl) (by simp) ?_
              refine AllReadyH.cons (o := ⟨some 69, Op.call ⟨Callee.value (Operand.func 9), #[Operand.tmp 61, Operand.tmp 68], #[28, 31]⟩, _, _, _, none⟩) rfl (fun K hK => ?_) (AllReadyH.nil)
              · skip
                go_simp
                refine (HSV.out k2 hc2).mono ?_
                rintro e k3 ⟨uq, aq, rfl, huq, haq, hbq⟩
                have hc3 : Below w4.heap.size w4 k3 := below_tr hc2 hbq
                obtain ⟨fq, fr, gq, gr, sq, sr, rfl⟩ := huq.shape
                obtain ⟨tq, tr, cq, cr, rfl⟩ := haq.shape
                replace hBA := hBA.below hbq
                replace hBB := hBB.below hbq
                go_wp2_with fail
                refine hK.out _ _ ⟨(HX3.out.below hc3).cell 0 rfl, (HX3.out.below hc3).cell 1 rfl, (HX3.out.below hc3).cell 2 rfl, (HX3.out.below hc3).cell 3 rfl, (HX3.out.below hc3).cell 4 rfl, (HX3.out.below hc3).cell 5 rfl, (HX3.out.below hc3).cell 6 rfl, (HA3.out.below hc3).cell 1 rfl⟩ (fun hHeld => ?_)
                clear hK K
                try simp only [Act.put, List.setIfInBounds_toArray, List.set_cons_zero, List.set_cons_succ]
                refine wpAnyH_take (i := 9) (oi := ⟨some 60, Op.move (Operand.tmp 69), _, _, _, none⟩) (v := ?_) rfl (by kernel_rfl) (by kernel_rfl) (by kernel_rfl) (fun _ _ _ h => h) (Or.inl ⟨by rfl, ?_⟩) hHeld ?_
                rotate_left
                · (intro W hSw; obtain ⟨t0, t1, t2, t3, t4, t5, t6, t7⟩ := hSw; go_simp <;> with_reducible rfl)
                try simp only [Act.put, List.setIfInBounds_toArray, List.set_cons_zero, List.set_cons_succ]
                refine wpAnyH_take (i := 10) (oi := ⟨some 70, Op.extract (Operand.tmp 60) 0, _, _, _, none⟩) (v := ?_) rfl (by kernel_rfl) (by kernel_rfl) (by kernel_rfl) (fun _ _ _ h => h) (Or.inl ⟨by rfl, ?_⟩) hHeld ?_
                rotate_left
                · (intro W hSw; obtain ⟨t0, t1, t2, t3, t4, t5, t6, t7⟩ := hSw; go_simp <;> with_reducible rfl)
                try simp only [Act.put, List.setIfInBounds_toArray, List.set_cons_zero, List.set_cons_succ]
                refine wpAnyH_take (i := 11) (oi := ⟨some 71, Op.extract (Operand.tmp 60) 1, _, _, _, none⟩) (v := ?_) rfl (by kernel_rfl) (by kernel_rfl) (by kernel_rfl) (fun _ _ _ h => h) (Or.inl ⟨by rfl, ?_⟩) hHeld ?_
                rotate_left
                · (intro W hSw; obtain ⟨t0, t1, t2, t3, t4, t5, t6, t7⟩ := hSw; go_simp <;> with_reducible rfl)
                try simp only [Act.put, List.setIfInBounds_toArray, List.set_cons_zero, List.set_cons_succ]
                refine wpAnyH_take (i := 12) (oi := ⟨some 72, Op.extract (Operand.tmp 60) 2, _, _, _, none⟩) (v := ?_) rfl (by kernel_rfl) (by kernel_rfl) (by kernel_rfl) (fun _ _ _ h => h) (Or.inl ⟨by rfl, ?_⟩) hHeld ?_
                rotate_left
                · (intro W hSw; obtain ⟨t0, t1, t2, t3, t4, t5, t6, t7⟩ := hSw; go_simp <;> with_reducible rfl)
                try simp only [Act.put, List.setIfInBounds_toArray, List.set_cons_zero, List.set_cons_succ]
                clear hbq
                try clear hc2
                try clear k2
                have hab : bA ≠ bB := hne.symm
                change wpAnyH _ _ _ _ _ 3 #[true, true, true, true, true, true, true, true, true, true, true, true, true, true, true, false, false, false] _ _
                clear hne
                revert hHeld
                revert hc3
                revert hlebB
                revert hlebA
                revert hab
                revert haq
                revert huq
                revert hBB
                revert hBA
                revert cr
                revert cq
                revert tr
                revert tq
                revert sr
                revert sq
                revert gr
                revert gq
                revert fr
                revert fq
                revert bB
                revert bA
                revert k3
                exact rest.out
        intro k3 bA bB fq fr gq gr sq sr tq tr cq cr hBA hBB huq haq hne hlebA hlebB hc3 hHeld
        refine wpAnyH_ready (rs := [15]) (by kernel_rfl) (by simp) ?_
        refine AllReadyH.cons (o := ⟨none, Op.store 28 (Operand.tmp 17) (Operand.tmp 70), _, _, _, none⟩) rfl (fun K hK => ?_) AllReadyH.nil
        have p0 := hBA.cell 0 rfl
        have f0 := hBA.fr 0
        have p1 := hBA.cell 1 rfl
        have f1 := hBA.fr 1
        have p2 := hBA.cell 2 rfl
        have f2 := hBA.fr 2
        have p3 := hBA.cell 3 rfl
        have f3 := hBA.fr 3
        have p4 := hBA.cell 4 rfl
        have f4 := hBA.fr 4
        have p5 := hBA.cell 5 rfl
        have f5 := hBA.fr 5
        have p6 := hBA.cell 6 rfl
        have f6 := hBA.fr 6
        go_simp
        clear p0 f0 p1 f1 p2 f2 p3 f3 p4 f4 p5 f5 p6 f6
        obtain ⟨k4, hm⟩ : ∃ m, m = (((((((k3.setCell ⟨bA, 0, none⟩ (.slice fq H2.fos.length fr)).setCell ⟨bA, 1, none⟩ (.slice gq H2.gs.length gr)).setCell ⟨bA, 2, none⟩ (.slice sq H2.ss.length sr)).setCell ⟨bA, 3, none⟩ (.int .i64 H2.nx)).setCell ⟨bA, 4, none⟩ (.int .i64 H2.la)).setCell ⟨bA, 5, none⟩ (.int .i64 H2.ro)).setCell ⟨bA, 6, none⟩ (.int .i64 H2.now)) := ⟨_, rfl⟩
        have hg : k3.grownBy k4 (some bA) := by rw [hm]; exact (grown_on (grown_on (grown_on (grown_on (grown_on (grown_on (nb_set k3 (bA) 0 (.slice fq H2.fos.length fr)) (nb_set _ (bA) 1 (.slice gq H2.gs.length gr))) (nb_set _ (bA) 2 (.slice sq H2.ss.length sr))) (nb_set _ (bA) 3 (.int .i64 H2.nx))) (nb_set _ (bA) 4 (.int .i64 H2.la))) (nb_set _ (bA) 5 (.int .i64 H2.ro))) (nb_set _ (bA) 6 (.int .i64 H2.now)))
        have hBB2 := hBB.nb hg (by omega)
        have huq2 := huq.nb hg (noStr_hub hBA)
        have haq2 := haq.nb hg (noStr_hub hBA)
        have hBA2 : Cs k4 bA [.slice fq H2.fos.length fr, .slice gq H2.gs.length gr, .slice sq H2.ss.length sr, .int .i64 H2.nx, .int .i64 H2.la, .int .i64 H2.ro, .int .i64 H2.now] := by rw [hm]; exact (((((((hBA.set 0 (.slice fq H2.fos.length fr)).set 1 (.slice gq H2.gs.length gr)).set 2 (.slice sq H2.ss.length sr)).set 3 (.int .i64 H2.nx)).set 4 (.int .i64 H2.la)).set 5 (.int .i64 H2.ro)).set 6 (.int .i64 H2.now))
        have hc4 : Below w4.heap.size w4 k4 := by rw [hm]; exact (((((((hc3.setCell (p := ⟨bA, 0, none⟩) (hlebA) _).setCell (p := ⟨bA, 1, none⟩) (hlebA) _).setCell (p := ⟨bA, 2, none⟩) (hlebA) _).setCell (p := ⟨bA, 3, none⟩) (hlebA) _).setCell (p := ⟨bA, 4, none⟩) (hlebA) _).setCell (p := ⟨bA, 5, none⟩) (hlebA) _).setCell (p := ⟨bA, 6, none⟩) (hlebA) _)
        rw [← hm]
        clear hm hg hBA hBB huq haq
        refine hK.out _ _ ⟨(HX3.out.below hc4).cell 0 rfl, (HX3.out.below hc4).cell 1 rfl, (HX3.out.below hc4).cell 2 rfl, (HX3.out.below hc4).cell 3 rfl, (HX3.out.below hc4).cell 4 rfl, (HX3.out.below hc4).cell 5 rfl, (HX3.out.below hc4).cell 6 rfl, (HA3.out.below hc4).cell 1 rfl⟩ (fun hHeld => ?_)
        clear hK K
        try simp only [Act.put, List.setIfInBounds_toArray, List.set_cons_zero, List.set_cons_succ]
        refine wpAnyH_ready (rs := [16]) (by kernel_rfl) (by simp) ?_
        refine AllReadyH.cons (o := ⟨none, Op.store 39 (Operand.tmp 18) (Operand.tmp 71), _, _, _, none⟩) rfl (fun K hK => ?_) AllReadyH.nil
        have p0 := hBB2.cell 0 rfl
        have f0 := hBB2.fr 0
        have p1 := hBB2.cell 1 rfl
        have f1 := hBB2.fr 1
        have p2 := hBB2.cell 2 rfl
        have f2 := hBB2.fr 2
        have p3 := hBB2.cell 3 rfl
        have f3 := hBB2.fr 3
        have p4 := hBB2.cell 4 rfl
        have f4 := hBB2.fr 4
        have p5 := hBB2.cell 5 rfl
        have f5 := hBB2.fr 5
        have p6 := hBB2.cell 6 rfl
        have f6 := hBB2.fr 6
        go_simp
        clear p0 f0 p1 f1 p2 f2 p3 f3 p4 f4 p5 f5 p6 f6
        obtain ⟨k5, hm⟩ : ∃ m, m = (((((((k4.setCell ⟨bB, 0, none⟩ (.int .i64 A2.err)).setCell ⟨bB, 1, none⟩ (.int .i64 A2.num)).setCell ⟨bB, 2, none⟩ (.bool A2.pg.reset)).setCell ⟨bB, 3, none⟩ (.slice tq A2.pg.tree.length tr)).setCell ⟨bB, 4, none⟩ (.slice cq A2.pg.cos.length cr)).setCell ⟨bB, 5, none⟩ (.int .i64 A2.pg.cur)).setCell ⟨bB, 6, none⟩ (.bool A2.pg.more)) := ⟨_, rfl⟩
        have hg : k4.grownBy k5 (some bB) := by rw [hm]; exact (grown_on (grown_on (grown_on (grown_on (grown_on (grown_on (nb_set k4 (bB) 0 (.int .i64 A2.err)) (nb_set _ (bB) 1 (.int .i64 A2.num))) (nb_set _ (bB) 2 (.bool A2.pg.reset))) (nb_set _ (bB) 3 (.slice tq A2.pg.tree.length tr))) (nb_set _ (bB) 4 (.slice cq A2.pg.cos.length cr))) (nb_set _ (bB) 5 (.int .i64 A2.pg.cur))) (nb_set _ (bB) 6 (.bool A2.pg.more)))
        have hBA3 := hBA2.nb hg (by omega)
        have huq3 := huq2.nb hg (noStr_ans hBB2)
        have haq3 := haq2.nb hg (noStr_ans hBB2)
        have hBB3 : Cs k5 bB [.int .i64 A2.err, .int .i64 A2.num, .bool A2.pg.reset, .slice tq A2.pg.tree.length tr, .slice cq A2.pg.cos.length cr, .int .i64 A2.pg.cur, .bool A2.pg.more] := by rw [hm]; exact (((((((hBB2.set 0 (.int .i64 A2.err)).set 1 (.int .i64 A2.num)).set 2 (.bool A2.pg.reset)).set 3 (.slice tq A2.pg.tree.length tr)).set 4 (.slice cq A2.pg.cos.length cr)).set 5 (.int .i64 A2.pg.cur)).set 6 (.bool A2.pg.more))
        have hc5 : Below w4.heap.size w4 k5 := by rw [hm]; exact (((((((hc4.setCell (p := ⟨bB, 0, none⟩) (hlebB) _).setCell (p := ⟨bB, 1, none⟩) (hlebB) _).setCell (p := ⟨bB, 2, none⟩) (hlebB) _).setCell (p := ⟨bB, 3, none⟩) (hlebB) _).setCell (p := ⟨bB, 4, none⟩) (hlebB) _).setCell (p := ⟨bB, 5, none⟩) (hlebB) _).setCell (p := ⟨bB, 6, none⟩) (hlebB) _)
        rw [← hm]
        clear hm hg hBA2 hBB2 huq2 haq2
        refine hK.out _ _ ⟨(HX3.out.below hc5).cell 0 rfl, (HX3.out.below hc5).cell 1 rfl, (HX3.out.below hc5).cell 2 rfl, (HX3.out.below hc5).cell 3 rfl, (HX3.out.below hc5).cell 4 rfl, (HX3.out.below hc5).cell 5 rfl, (HX3.out.below hc5).cell 6 rfl, (HA3.out.below hc5).cell 1 rfl⟩ (fun hHeld => ?_)
        clear hK K
        try simp only [Act.put, List.setIfInBounds_toArray, List.set_cons_zero, List.set_cons_succ]
        refine wpAnyH_take (i := 17) (oi := ⟨some 15, Op.assign (Operand.tmp 72), _, _, _, none⟩) (v := ?_) rfl (by kernel_rfl) (by kernel_rfl) (by kernel_rfl) (fun _ _ _ h => h) (Or.inl ⟨by rfl, ?_⟩) hHeld ?_
        rotate_left
        · (intro W hSw; obtain ⟨t0, t1, t2, t3, t4, t5, t6, t7⟩ := hSw; go_simp <;> with_reducible rfl)
        try simp only [Act.put, List.setIfInBounds_toArray, List.set_cons_zero, List.set_cons_succ]
        refine wpAnyH_done (by kernel_rfl) ?_ _
        have HRA := hid hBA3
        have HRB := hid hBB3
        have HRU := hid huq3
        have HRN := hid haq3
        have HRC := hid hc5
        have HLA := hid hlebA
        have HLB := hid hlebB
        clear hHeld hBA3 hBB3 huq3 haq3 hc5 hlebA hlebB
        go_wp2_with fail
        go_meet
        case rel => exact ⟨bA, bB, fq, fr, gq, gr, sq, sr, tq, tr, cq, cr, rfl, rfl, rfl, HRA, HRB, HRU, HRN, HRC, HLA.out, HLB.out⟩
       case rest =>
        obtain ⟨b5, d5, fa5, fc5, ga5, gc5, sa5, sc5, ta5, tc5, ca5, cc5, rfl, rfl, rfl, HX5, HA5, HU5, HN5, HB5, hl5, hl5d⟩ := hcut
        clear HSV y0
        generalize wc = w5 at *
        have hb05 := below_tr hb04 HB5.out
        have HX45 := hid (HX4.out.below HB5.out)
        have HA35 := hid (HA3.out.below HB5.out)
        have hs5 := HB5.out.size
        obtain ⟨t2, ht2⟩ : ∃ t2, t2 = t.extract hf t.size := ⟨_, rfl⟩
        obtain ⟨H3, hH3⟩ : ∃ H3, H3 = Hu.svH H2 (Hu.qP p A1.num hf t2) := ⟨_, rfl⟩
        obtain ⟨A3, hA3⟩ : ∃ A3, A3 = Hu.svA H2 (Hu.qP p A1.num hf t2) := ⟨_, rfl⟩
        have hts2 : t2.size = t.size - hf := by rw [ht2, ByteArray.size_extract]; omega
        have HSQ3 := hid (show SizedQ (Hu.qP p A1.num hf t2) from ⟨hp, Nat.zero_le _, Nat.zero_le _, Nat.zero_le _, by show t2.size ≤ _; omega, fun x hx => by cases hx⟩)
        have HST3 := hid (show H3 = Hu.st H p t.size t ∧ A3 = ⟨0, (t.size : Int), Jn.zeroP⟩ ∧ Hu.StOk H p t.size t ∧ SizedH H3 from by
         obtain ⟨g1, g2, g3, g4⟩ := HST2.out
         have h0 : Hu.hE H2 = 0 := by rw [g1]; exact g3.he
         have h1 := Hu.sv_he (q := Hu.qP p A1.num hf t2) h0
         have h2 := Hu.sv_sized (q := Hu.qP p A1.num hf t2) h0 g4 HSQ3.out
         obtain ⟨a, b⟩ := Hu.st_ap (t := t2) g3 (by rw [hts, hts2]; omega)
         have e0 : t1 ++ t2 = t := by
          rw [← HT1.out, ht2]
          apply ByteArray.ext
          simp
         rw [e0, hts] at a
         rw [hts] at b
         rw [← hH3] at h1 h2
         have a' : H3 = Hu.st H p t.size t := by rw [hH3, g1, HE2.out]; exact a
         have e5 : (hf : Int) + (t2.size : Nat) = (t.size : Int) := by rw [hts2]; omega
         refine ⟨a', by rw [hA3, g1, HE2.out, b, e5], ⟨by rw [← a']; exact h1, g3.go, g3.nm⟩, h2⟩)
        have HSV2 := hid (show ∀ W, Below w5.heap.size w5 W → Calls Tryz.prog 9 #[.agg #[.slice fa5 H2.fos.length fc5, .slice ga5 H2.gs.length gc5, .slice sa5 H2.ss.length sc5, .int .i64 H2.nx, .int .i64 H2.la, .int .i64 H2.ro, .int .i64 H2.now], .agg #[.int .i64 5, .string p, .string ⟨#[]⟩, .string ⟨#[]⟩, .string ⟨#[]⟩, .string t2, .int .i64 A1.num, .int .i64 (hf : Int), .int .i64 0, .slice none 0 0]] W fun e w' => ∃ u a, e = .returned (.tuple #[u, a, .int .i64 0]) ∧ LiesH w' u H3 ∧ LiesA w' a A3 ∧ Below W.heap.size W w' from fun W hW => by
         rw [hH3, hA3]
         exact serve_any H2 (Hu.qP p A1.num hf t2) _ _ W (HU5.out.below hW) HST2.out.2.2.2 ⟨_, rfl, liesC_nil _⟩ HSQ3.out (by rw [HST2.out.1]; exact HST2.out.2.2.1.he))
        have HT2 : Hid (t.extract hf t.size = t2) := ht2.symm
        clear hH3 hA3 ht2 hts2
        go_upto_region 8 with fail
        go_cut [19, 20, 21] (fun x a e W => ∃ bA bB fq fr gq gr sq sr tq tr cq cr, x = .pointer (some ⟨bA, 0, none⟩) ∧ a = .pointer (some ⟨bB, 0, none⟩) ∧ e = .int .i64 0 ∧ Hid (Cs W bA [.slice fq H3.fos.length fr, .slice gq H3.gs.length gr, .slice sq H3.ss.length sr, .int .i64 H3.nx, .int .i64 H3.la, .int .i64 H3.ro, .int .i64 H3.now]) ∧ Hid (Cs W bB [.int .i64 A3.err, .int .i64 A3.num, .bool A3.pg.reset, .slice tq A3.pg.tree.length tr, .slice cq A3.pg.cos.length cr, .int .i64 A3.pg.cur, .bool A3.pg.more]) ∧ Hid (LiesH W (.agg #[.slice fq H3.fos.length fr, .slice gq H3.gs.length gr, .slice sq H3.ss.length sr, .int .i64 H3.nx, .int .i64 H3.la, .int .i64 H3.ro, .int .i64 H3.now]) H3) ∧ Hid (LiesA W (.agg #[.int .i64 A3.err, .int .i64 A3.num, .bool A3.pg.reset, .slice tq A3.pg.tree.length tr, .slice cq A3.pg.cos.length cr, .int .i64 A3.pg.cur, .bool A3.pg.more]) A3) ∧ Hid (Below w5.heap.size w5 W) ∧ w5.heap.size ≤ bA ∧ w5.heap.size ≤ bB)
        case first =>
         refine wp_region_held_drew (S := fun W => W.cell? ⟨b5, 0, none⟩ = some (.slice fa5 H2.fos.length fc5) ∧ W.cell? ⟨b5, 1, none⟩ = some (.slice ga5 H2.gs.length gc5) ∧ W.cell? ⟨b5, 2, none⟩ = some (.slice sa5 H2.ss.length sc5) ∧ W.cell? ⟨b5, 3, none⟩ = some (.int .i64 H2.nx) ∧ W.cell? ⟨b5, 4, none⟩ = some (.int .i64 H2.la) ∧ W.cell? ⟨b5, 5, none⟩ = some (.int .i64 H2.ro) ∧ W.cell? ⟨b5, 6, none⟩ = some (.int .i64 H2.now) ∧ W.cell? ⟨w3.heap.size + 1, 1, none⟩ = some (.int .i64 A1.num)) (by kernel_rfl) ⟨(HX5.out.below ((Below.refl w5.heap.size w5).drew)).cell 0 rfl, (HX5.out.below ((Below.refl w5.heap.size w5).drew)).cell 1 rfl, (HX5.out.below ((Below.refl w5.heap.size w5).drew)).cell 2 rfl, (HX5.out.below ((Below.refl w5.heap.size w5).drew)).cell 3 rfl, (HX5.out.below ((Below.refl w5.heap.size w5).drew)).cell 4 rfl, (HX5.out.below ((Below.refl w5.heap.size w5).drew)).cell 5 rfl, (HX5.out.below ((Below.refl w5.heap.size w5).drew)).cell 6 rfl, (HA35.out.below ((Below.refl w5.heap.size w5).drew)).cell 1 rfl⟩ (fun hHeld => ?_)
         change wpAnyH _ _ _ _ _ 19 #[false, false, false, false, false, false, false, false, false, false, false, false, false, false, false, false, false, false, false] _ _
         have hc0 : Below w5.heap.size w5 w5.drew := (Below.refl _ _).drew
         generalize w5.drew = k0 at hHeld hc0 ⊢
         refine wpAnyH_take (i := 0) (oi := ⟨some 74, Op.load 28 (Operand.tmp 17), _, _, _, none⟩) (v := ?_) rfl (by kernel_rfl) (by kernel_rfl) (by kernel_rfl) (fun _ _ _ h => h) (Or.inl ⟨by rfl, ?_⟩) hHeld ?_
         rotate_left
         · (intro W hSw; obtain ⟨t0, t1, t2, t3, t4, t5, t6, t7⟩ := hSw; go_simp <;> with_reducible rfl)
         try simp only [Act.put, List.setIfInBounds_toArray, List.set_cons_zero, List.set_cons_succ]
         refine wpAnyH_take (i := 1) (oi := ⟨some 75, Op.move (Operand.tmp 1), _, _, _, none⟩) (v := ?_) rfl (by kernel_rfl) (by kernel_rfl) (by kernel_rfl) (fun _ _ _ h => h) (Or.inl ⟨by rfl, ?_⟩) hHeld ?_
         rotate_left
         · (intro W hSw; obtain ⟨t0, t1, t2, t3, t4, t5, t6, t7⟩ := hSw; go_simp <;> with_reducible rfl)
         try simp only [Act.put, List.setIfInBounds_toArray, List.set_cons_zero, List.set_cons_succ]
         refine wpAnyH_take (i := 2) (oi := ⟨some 76, Op.fieldAddr 39 (Operand.tmp 14) 1, _, _, _, none⟩) (v := ?_) rfl (by kernel_rfl) (by kernel_rfl) (by kernel_rfl) (fun _ _ _ h => h) (Or.inl ⟨by rfl, ?_⟩) hHeld ?_
         rotate_left
         · (intro W hSw; obtain ⟨t0, t1, t2, t3, t4, t5, t6, t7⟩ := hSw; go_simp <;> with_reducible rfl)
         try simp only [Act.put, List.setIfInBounds_toArray, List.set_cons_zero, List.set_cons_succ]
         refine wpAnyH_take (i := 3) (oi := ⟨some 77, Op.load 3 (Operand.tmp 76), _, _, _, none⟩) (v := ?_) rfl (by kernel_rfl) (by kernel_rfl) (by kernel_rfl) (fun _ _ _ h => h) (Or.inl ⟨by rfl, ?_⟩) hHeld ?_
         rotate_left
         · (intro W hSw; obtain ⟨t0, t1, t2, t3, t4, t5, t6, t7⟩ := hSw; go_simp <;> with_reducible rfl)
         try simp only [Act.put, List.setIfInBounds_toArray, List.set_cons_zero, List.set_cons_succ]
         refine wpAnyH_take (i := 4) (oi := ⟨some 78, Op.move (Operand.tmp 16), _, _, _, none⟩) (v := ?_) rfl (by kernel_rfl) (by kernel_rfl) (by kernel_rfl) (fun _ _ _ h => h) (Or.inl ⟨by rfl, ?_⟩) hHeld ?_
         rotate_left
         · (intro W hSw; obtain ⟨t0, t1, t2, t3, t4, t5, t6, t7⟩ := hSw; go_simp <;> with_reducible rfl)
         try simp only [Act.put, List.setIfInBounds_toArray, List.set_cons_zero, List.set_cons_succ]
         refine wpAnyH_take (i := 5) (oi := ⟨some 79, Op.move (Operand.tmp 4), _, _, _, none⟩) (v := ?_) rfl (by kernel_rfl) (by kernel_rfl) (by kernel_rfl) (fun _ _ _ h => h) (Or.inl ⟨by rfl, ?_⟩) hHeld ?_
         rotate_left
         · (intro W hSw; obtain ⟨t0, t1, t2, t3, t4, t5, t6, t7⟩ := hSw; go_simp <;> with_reducible rfl)
         try simp only [Act.put, List.setIfInBounds_toArray, List.set_cons_zero, List.set_cons_succ]
         refine wpAnyH_take (i := 6) (oi := ⟨some 80, Op.move (Operand.tmp 16), _, _, _, none⟩) (v := ?_) rfl (by kernel_rfl) (by kernel_rfl) (by kernel_rfl) (fun _ _ _ h => h) (Or.inl ⟨by rfl, ?_⟩) hHeld ?_
         rotate_left
         · (intro W hSw; obtain ⟨t0, t1, t2, t3, t4, t5, t6, t7⟩ := hSw; go_simp <;> with_reducible rfl)
         try simp only [Act.put, List.setIfInBounds_toArray, List.set_cons_zero, List.set_cons_succ]
         refine wpAnyH_take (i := 7) (oi := ⟨some 81, Op.slice 9 (Operand.tmp 79) (some (Operand.tmp 80)) none none, _, _, _, none⟩) (v := ?_) rfl (by kernel_rfl) (by kernel_rfl) (by kernel_rfl) (fun _ _ _ h => h) (Or.inl ⟨by rfl, ?_⟩) hHeld ?_
         rotate_left
         · (intro W hSw; obtain ⟨t0, t1, t2, t3, t4, t5, t6, t7⟩ := hSw; go_simp <;> with_reducible rfl)
         try simp only [Act.put, List.setIfInBounds_toArray, List.set_cons_zero, List.set_cons_succ]
         refine wpAnyH_take (i := 8) (oi := ⟨some 82, Op.build 31 #[(0, Operand.const (Value.int IntKind.i64 5)), (1, Operand.tmp 75), (6, Operand.tmp 77), (7, Operand.tmp 78), (5, Operand.tmp 81)], _, _, _, none⟩) (v := ?_) rfl (by kernel_rfl) (by kernel_rfl) (by kernel_rfl) (fun _ _ _ h => h) (Or.inl ⟨by rfl, ?_⟩) hHeld ?_
         rotate_left
         · (intro W hSw; obtain ⟨t0, t1, t2, t3, t4, t5, t6, t7⟩ := hSw; go_simp <;> with_reducible rfl)
         try simp only [Act.put, List.setIfInBounds_toArray, List.set_cons_zero, List.set_cons_succ]
         rw [HT2.out]
         refine laterH (p := ?_) (fun rest => ?_) ?_
         rotate_left
         · skip
           refine wpAnyH_ready (rs := [9, 14, 15]) (by kernel_rfl) (by simp) ?_
           refine AllReadyH.cons (o := ⟨some 83, Op.call ⟨Callee.value (Operand.func 9), #[Operand.tmp 74, Operand.tmp 82], #[28, 31]⟩, _, _, _, none⟩) rfl (fun K hK => ?_) (AllReadyH.cons (o := ⟨some 19, Op.alloc 28, _, _, _, none⟩) rfl (fun K hK => ?_) (AllReadyH.cons (o := ⟨some 20, Op.alloc 39, _, _, _, none⟩) rfl (fun K hK => ?_) (AllReadyH.nil)))
           · skip
             go_simp
             refine (HSV2.out k0 hc0).mono ?_
             rintro e k1 ⟨uq, aq, rfl, huq, haq, hbq⟩
             have hc1 : Below w5.heap.size w5 k1 := below_tr hc0 hbq
             obtain ⟨fq, fr, gq, gr, sq, sr, rfl⟩ := huq.shape
             obtain ⟨tq, tr, cq, cr, rfl⟩ := haq.shape
             go_wp2_with fail
             refine hK.out _ _ ⟨(HX5.out.below hc1).cell 0 rfl, (HX5.out.below hc1).cell 1 rfl, (HX5.out.below hc1).cell 2 rfl, (HX5.out.below hc1).cell 3 rfl, (HX5.out.below hc1).cell 4 rfl, (HX5.out.below hc1).cell 5 rfl, (HX5.out.below hc1).cell 6 rfl, (HA35.out.below hc1).cell 1 rfl⟩ (fun hHeld => ?_)
             clear hK K
             try simp only [Act.put, List.setIfInBounds_toArray, List.set_cons_zero, List.set_cons_succ]
             refine wpAnyH_take (i := 10) (oi := ⟨some 73, Op.move (Operand.tmp 83), _, _, _, none⟩) (v := ?_) rfl (by kernel_rfl) (by kernel_rfl) (by kernel_rfl) (fun _ _ _ h => h) (Or.inl ⟨by rfl, ?_⟩) hHeld ?_
             rotate_left
             · (intro W hSw; obtain ⟨t0, t1, t2, t3, t4, t5, t6, t7⟩ := hSw; go_simp <;> with_reducible rfl)
             try simp only [Act.put, List.setIfInBounds_toArray, List.set_cons_zero, List.set_cons_succ]
             refine wpAnyH_take (i := 11) (oi := ⟨some 84, Op.extract (Operand.tmp 73) 0, _, _, _, none⟩) (v := ?_) rfl (by kernel_rfl) (by kernel_rfl) (by kernel_rfl) (fun _ _ _ h => h) (Or.inl ⟨by rfl, ?_⟩) hHeld ?_
             rotate_left
             · (intro W hSw; obtain ⟨t0, t1, t2, t3, t4, t5, t6, t7⟩ := hSw; go_simp <;> with_reducible rfl)
             try simp only [Act.put, List.setIfInBounds_toArray, List.set_cons_zero, List.set_cons_succ]
             refine wpAnyH_take (i := 12) (oi := ⟨some 85, Op.extract (Operand.tmp 73) 1, _, _, _, none⟩) (v := ?_) rfl (by kernel_rfl) (by kernel_rfl) (by kernel_rfl) (fun _ _ _ h => h) (Or.inl ⟨by rfl, ?_⟩) hHeld ?_
             rotate_left
             · (intro W hSw; obtain ⟨t0, t1, t2, t3, t4, t5, t6, t7⟩ := hSw; go_simp <;> with_reducible rfl)
             try simp only [Act.put, List.setIfInBounds_toArray, List.set_cons_zero, List.set_cons_succ]
             refine wpAnyH_take (i := 13) (oi := ⟨some 86, Op.extract (Operand.tmp 73) 2, _, _, _, none⟩) (v := ?_) rfl (by kernel_rfl) (by kernel_rfl) (by kernel_rfl) (fun _ _ _ h => h) (Or.inl ⟨by rfl, ?_⟩) hHeld ?_
             rotate_left
             · (intro W hSw; obtain ⟨t0, t1, t2, t3, t4, t5, t6, t7⟩ := hSw; go_simp <;> with_reducible rfl)
             try simp only [Act.put, List.setIfInBounds_toArray, List.set_cons_zero, List.set_cons_succ]
             clear hbq
             try clear hc0
             try clear k0
             refine wpAnyH_ready (rs := [14, 15]) (by kernel_rfl) (by simp) ?_
             refine AllReadyH.cons (o := ⟨some 19, Op.alloc 28, _, _, _, none⟩) rfl (fun K hK => ?_) (AllReadyH.cons (o := ⟨some 20, Op.alloc 39, _, _, _, none⟩) rfl (fun K hK => ?_) (AllReadyH.nil))
             · skip
               go_simp
               generalize hwz : World.alloc k1 (.cells #[.slice none 0 0, .slice none 0 0, .slice none 0 0, .int .i64 0, .int .i64 0, .int .i64 0, .int .i64 0] 28) = k2
               have hz : Below k1.heap.size k1 k2 := hwz ▸ (Below.refl _ _).alloc (Nat.le_refl _) _
               have hc2 : Below w5.heap.size w5 k2 := below_tr hc1 hz
               have hBA : Cs k2 k1.heap.size [.slice none 0 0, .slice none 0 0, .slice none 0 0, .int .i64 0, .int .i64 0, .int .i64 0, .int .i64 0] := (by rw [← hwz]; exact Cs.new k1 [.slice none 0 0, .slice none 0 0, .slice none 0 0, .int .i64 0, .int .i64 0, .int .i64 0, .int .i64 0] _)
               have hlebA : w5.heap.size ≤ k1.heap.size := hc1.size
               replace huq := huq.below hz
               replace haq := haq.below hz
               clear hwz hz
               generalize k1.heap.size = bA at hBA hlebA ⊢
               refine hK.out _ _ ⟨(HX5.out.below hc2).cell 0 rfl, (HX5.out.below hc2).cell 1 rfl, (HX5.out.below hc2).cell 2 rfl, (HX5.out.below hc2).cell 3 rfl, (HX5.out.below hc2).cell 4 rfl, (HX5.out.below hc2).cell 5 rfl, (HX5.out.below hc2).cell 6 rfl, (HA35.out.below hc2).cell 1 rfl⟩ (fun hHeld => ?_)
               clear hK K
               try simp only [Act.put, List.setIfInBounds_toArray, List.set_cons_zero, List.set_cons_succ]
               try clear hc1
               try clear k1
               refine wpAnyH_ready (rs := [15]) (by kernel_rfl) (by simp) ?_
               refine AllReadyH.cons (o := ⟨some 20, Op.alloc 39, _, _, _, none⟩) rfl (fun K hK => ?_) (AllReadyH.nil)
               · skip
                 go_simp
                 generalize hwz : World.alloc k2 (.cells #[.int .i64 0, .int .i64 0, .bool false, .slice none 0 0, .slice none 0 0, .int .i64 0, .bool false] 39) = k3
                 have hz : Below k2.heap.size k2 k3 := hwz ▸ (Below.refl _ _).alloc (Nat.le_refl _) _
                 have hc3 : Below w5.heap.size w5 k3 := below_tr hc2 hz
                 have hBB : Cs k3 k2.heap.size [.int .i64 0, .int .i64 0, .bool false, .slice none 0 0, .slice none 0 0, .int .i64 0, .bool false] := (by rw [← hwz]; exact Cs.new k2 [.int .i64 0, .int .i64 0, .bool false, .slice none 0 0, .slice none 0 0, .int .i64 0, .bool false] _)
                 have hlebB : w5.heap.size ≤ k2.heap.size := hc2.size
                 have hne : bA ≠ k2.heap.size := Nat.ne_of_lt hBA.lt
                 replace hBA := hBA.below hz
                 replace huq := huq.below hz
                 replace haq := haq.below hz
                 clear hwz hz
                 generalize k2.heap.size = bB at hBB hlebB hne ⊢
                 refine hK.out _ _ ⟨(HX5.out.below hc3).cell 0 rfl, (HX5.out.below hc3).cell 1 rfl, (HX5.out.below hc3).cell 2 rfl, (HX5.out.below hc3).cell 3 rfl, (HX5.out.below hc3).cell 4 rfl, (HX5.out.below hc3).cell 5 rfl, (HX5.out.below hc3).cell 6 rfl, (HA35.out.below hc3).cell 1 rfl⟩ (fun hHeld => ?_)
                 clear hK K
                 try simp only [Act.put, List.setIfInBounds_toArray, List.set_cons_zero, List.set_cons_succ]
                 try clear hc2
                 try clear k2
                 have hab : bA ≠ bB := hne
                 change wpAnyH _ _ _ _ _ 3 #[true, true, true, true, true, true, true, true, true, true, true, true, true, true, true, true, false, false, false] _ _
                 clear hne
                 revert hHeld
                 revert hc3
                 revert hlebB
                 revert hlebA
                 revert hab
                 revert haq
                 revert huq
                 revert hBB
                 revert hBA
                 revert cr
                 revert cq
                 revert tr
                 revert tq
                 revert sr
                 revert sq
                 revert gr
                 revert gq
                 revert fr
                 revert fq
                 revert bB
                 revert bA
                 revert k3
                 exact rest.out
             · skip
               go_simp
               generalize hwz : World.alloc k1 (.cells #[.int .i64 0, .int .i64 0, .bool false, .slice none 0 0, .slice none 0 0, .int .i64 0, .bool false] 39) = k2
               have hz : Below k1.heap.size k1 k2 := hwz ▸ (Below.refl _ _).alloc (Nat.le_refl _) _
               have hc2 : Below w5.heap.size w5 k2 := below_tr hc1 hz
               have hBB : Cs k2 k1.heap.size [.int .i64 0, .int .i64 0, .bool false, .slice none 0 0, .slice none 0 0, .int .i64 0, .bool false] := (by rw [← hwz]; exact Cs.new k1 [.int .i64 0, .int .i64 0, .bool false, .slice none 0 0, .slice none 0 0, .int .i64 0, .bool false] _)
               have hlebB : w5.heap.size ≤ k1.heap.size := hc1.size
               replace huq := huq.below hz
               replace haq := haq.below hz
               clear hwz hz
               generalize k1.heap.size = bB at hBB hlebB ⊢
               refine hK.out _ _ ⟨(HX5.out.below hc2).cell 0 rfl, (HX5.out.below hc2).cell 1 rfl, (HX5.out.below hc2).cell 2 rfl, (HX5.out.below hc2).cell 3 rfl, (HX5.out.below hc2).cell 4 rfl, (HX5.out.below hc2).cell 5 rfl, (HX5.out.below hc2).cell 6 rfl, (HA35.out.below hc2).cell 1 rfl⟩ (fun hHeld => ?_)
               clear hK K
               try simp only [Act.put, List.setIfInBounds_toArray, List.set_cons_zero, List.set_cons_succ]
               try clear hc1
               try clear k1
               refine wpAnyH_ready (rs := [14]) (by kernel_rfl) (by simp) ?_
               refine AllReadyH.cons (o := ⟨some 19, Op.alloc 28, _, _, _, none⟩) rfl (fun K hK => ?_) (AllReadyH.nil)
               · skip
                 go_simp
                 generalize hwz : World.alloc k2 (.cells #[.slice none 0 0, .slice none 0 0, .slice none 0 0, .int .i64 0, .int .i64 0, .int .i64 0, .int .i64 0] 28) = k3
                 have hz : Below k2.heap.size k2 k3 := hwz ▸ (Below.refl _ _).alloc (Nat.le_refl _) _
                 have hc3 : Below w5.heap.size w5 k3 := below_tr hc2 hz
                 have hBA : Cs k3 k2.heap.size [.slice none 0 0, .slice none 0 0, .slice none 0 0, .int .i64 0, .int .i64 0, .int .i64 0, .int .i64 0] := (by rw [← hwz]; exact Cs.new k2 [.slice none 0 0, .slice none 0 0, .slice none 0 0, .int .i64 0, .int .i64 0, .int .i64 0, .int .i64 0] _)
                 have hlebA : w5.heap.size ≤ k2.heap.size := hc2.size
                 have hne : bB ≠ k2.heap.size := Nat.ne_of_lt hBB.lt
                 replace hBB := hBB.below hz
                 replace huq := huq.below hz
                 replace haq := haq.below hz
                 clear hwz hz
                 generalize k2.heap.size = bA at hBA hlebA hne ⊢
                 refine hK.out _ _ ⟨(HX5.out.below hc3).cell 0 rfl, (HX5.out.below hc3).cell 1 rfl, (HX5.out.below hc3).cell 2 rfl, (HX5.out.below hc3).cell 3 rfl, (HX5.out.below hc3).cell 4 rfl, (HX5.out.below hc3).cell 5 rfl, (HX5.out.below hc3).cell 6 rfl, (HA35.out.below hc3).cell 1 rfl⟩ (fun hHeld => ?_)
                 clear hK K
                 try simp only [Act.put, List.setIfInBounds_toArray, List.set_cons_zero, List.set_cons_succ]
                 try clear hc2
                 try clear k2
                 have hab : bA ≠ bB := hne.symm
                 change wpAnyH _ _ _ _ _ 3 #[true, true, true, true, true, true, true, true, true, true, true, true, true, true, true, true, false, false, false] _ _
                 clear hne
                 revert hHeld
                 revert hc3
                 revert hlebB
                 revert hlebA
                 revert hab
                 revert haq
                 revert huq
                 revert hBB
                 revert hBA
                 revert cr
                 revert cq
                 revert tr
                 revert tq
                 revert sr
                 revert sq
                 revert gr
                 revert gq
                 revert fr
                 revert fq
                 revert bB
                 revert bA
                 revert k3
                 exact rest.out
           · skip
             go_simp
             generalize hwz : World.alloc k0 (.cells #[.slice none 0 0, .slice none 0 0, .slice none 0 0, .int .i64 0, .int .i64 0, .int .i64 0, .int .i64 0] 28) = k1
             have hz : Below k0.heap.size k0 k1 := hwz ▸ (Below.refl _ _).alloc (Nat.le_refl _) _
             have hc1 : Below w5.heap.size w5 k1 := below_tr hc0 hz
             have hBA : Cs k1 k0.heap.size [.slice none 0 0, .slice none 0 0, .slice none 0 0, .int .i64 0, .int .i64 0, .int .i64 0, .int .i64 0] := (by rw [← hwz]; exact Cs.new k0 [.slice none 0 0, .slice none 0 0, .slice none 0 0, .int .i64 0, .int .i64 0, .int .i64 0, .int .i64 0] _)
             have hlebA : w5.heap.size ≤ k0.heap.size := hc0.size
             clear hwz hz
             generalize k0.heap.size = bA at hBA hlebA ⊢
             refine hK.out _ _ ⟨(HX5.out.below hc1).cell 0 rfl, (HX5.out.below hc1).cell 1 rfl, (HX5.out.below hc1).cell 2 rfl, (HX5.out.below hc1).cell 3 rfl, (HX5.out.below hc1).cell 4 rfl, (HX5.out.below hc1).cell 5 rfl, (HX5.out.below hc1).cell 6 rfl, (HA35.out.below hc1).cell 1 rfl⟩ (fun hHeld => ?_)
             clear hK K
             try simp only [Act.put, List.setIfInBounds_toArray, List.set_cons_zero, List.set_cons_succ]
             try clear hc0
             try clear k0
             refine wpAnyH_ready (rs := [9, 15]) (by kernel_rfl) (by simp) ?_
             refine AllReadyH.cons (o := ⟨some 83, Op.call ⟨Callee.value (Operand.func 9), #[Operand.tmp 74, Operand.tmp 82], #[28, 31]⟩, _, _, _, none⟩) rfl (fun K hK => ?_) (AllReadyH.cons (o := ⟨some 20, Op.alloc 39, _, _, _, none⟩) rfl (fun K hK => ?_) (AllReadyH.nil))
             · skip
               go_simp
               refine (HSV2.out k1 hc1).mono ?_
               rintro e k2 ⟨uq, aq, rfl, huq, haq, hbq⟩
               have hc2 : Below w5.heap.size w5 k2 := below_tr hc1 hbq
               obtain ⟨fq, fr, gq, gr, sq, sr, rfl⟩ := huq.shape
               obtain ⟨tq, tr, cq, cr, rfl⟩ := haq.shape
               replace hBA := hBA.below hbq
               go_wp2_with fail
               refine hK.out _ _ ⟨(HX5.out.below hc2).cell 0 rfl, (HX5.out.below hc2).cell 1 rfl, (HX5.out.below hc2).cell 2 rfl, (HX5.out.below hc2).cell 3 rfl, (HX5.out.below hc2).cell 4 rfl, (HX5.out.below hc2).cell 5 rfl, (HX5.out.below hc2).cell 6 rfl, (HA35.out.below hc2).cell 1 rfl⟩ (fun hHeld => ?_)
               clear hK K
               try simp only [Act.put, List.setIfInBounds_toArray, List.set_cons_zero, List.set_cons_succ]
               refine wpAnyH_take (i := 10) (oi := ⟨some 73, Op.move (Operand.tmp 83), _, _, _, none⟩) (v := ?_) rfl (by kernel_rfl) (by kernel_rfl) (by kernel_rfl) (fun _ _ _ h => h) (Or.inl ⟨by rfl, ?_⟩) hHeld ?_
               rotate_left
               · (intro W hSw; obtain ⟨t0, t1, t2, t3, t4, t5, t6, t7⟩ := hSw; go_simp <;> with_reducible rfl)
               try simp only [Act.put, List.setIfInBounds_toArray, List.set_cons_zero, List.set_cons_succ]
               refine wpAnyH_take (i := 11) (oi := ⟨some 84, Op.extract (Operand.tmp 73) 0, _, _, _, none⟩) (v := ?_) rfl (by kernel_rfl) (by kernel_rfl) (by kernel_rfl) (fun _ _ _ h => h) (Or.inl ⟨by rfl, ?_⟩) hHeld ?_
               rotate_left
               · (intro W hSw; obtain ⟨t0, t1, t2, t3, t4, t5, t6, t7⟩ := hSw; go_simp <;> with_reducible rfl)
               try simp only [Act.put, List.setIfInBounds_toArray, List.set_cons_zero, List.set_cons_succ]
               refine wpAnyH_take (i := 12) (oi := ⟨some 85, Op.extract (Operand.tmp 73) 1, _, _, _, none⟩) (v := ?_) rfl (by kernel_rfl) (by kernel_rfl) (by kernel_rfl) (fun _ _ _ h => h) (Or.inl ⟨by rfl, ?_⟩) hHeld ?_
               rotate_left
               · (intro W hSw; obtain ⟨t0, t1, t2, t3, t4, t5, t6, t7⟩ := hSw; go_simp <;> with_reducible rfl)
               try simp only [Act.put, List.setIfInBounds_toArray, List.set_cons_zero, List.set_cons_succ]
               refine wpAnyH_take (i := 13) (oi := ⟨some 86, Op.extract (Operand.tmp 73) 2, _, _, _, none⟩) (v := ?_) rfl (by kernel_rfl) (by kernel_rfl) (by kernel_rfl) (fun _ _ _ h => h) (Or.inl ⟨by rfl, ?_⟩) hHeld ?_
               rotate_left
               · (intro W hSw; obtain ⟨t0, t1, t2, t3, t4, t5, t6, t7⟩ := hSw; go_simp <;> with_reducible rfl)
               try simp only [Act.put, List.setIfInBounds_toArray, List.set_cons_zero, List.set_cons_succ]
               clear hbq
               try clear hc1
               try clear k1
               refine wpAnyH_ready (rs := [15]) (by kernel_rfl) (by simp) ?_
               refine AllReadyH.cons (o := ⟨some 20, Op.alloc 39, _, _, _, none⟩) rfl (fun K hK => ?_) (AllReadyH.nil)
               · skip
                 go_simp
                 generalize hwz : World.alloc k2 (.cells #[.int .i64 0, .int .i64 0, .bool false, .slice none 0 0, .slice none 0 0, .int .i64 0, .bool false] 39) = k3
                 have hz : Below k2.heap.size k2 k3 := hwz ▸ (Below.refl _ _).alloc (Nat.le_refl _) _
                 have hc3 : Below w5.heap.size w5 k3 := below_tr hc2 hz
                 have hBB : Cs k3 k2.heap.size [.int .i64 0, .int .i64 0, .bool false, .slice none 0 0, .slice none 0 0, .int .i64 0, .bool false] := (by rw [← hwz]; exact Cs.new k2 [.int .i64 0, .int .i64 0, .bool false, .slice none 0 0, .slice none 0 0, .int .i64 0, .bool false] _)
                 have hlebB : w5.heap.size ≤ k2.heap.size := hc2.size
                 have hne : bA ≠ k2.heap.size := Nat.ne_of_lt hBA.lt
                 replace hBA := hBA.below hz
                 replace huq := huq.below hz
                 replace haq := haq.below hz
                 clear hwz hz
                 generalize k2.heap.size = bB at hBB hlebB hne ⊢
                 refine hK.out _ _ ⟨(HX5.out.below hc3).cell 0 rfl, (HX5.out.below hc3).cell 1 rfl, (HX5.out.below hc3).cell 2 rfl, (HX5.out.below hc3).cell 3 rfl, (HX5.out.below hc3).cell 4 rfl, (HX5.out.below hc3).cell 5 rfl, (HX5.out.below hc3).cell 6 rfl, (HA35.out.below hc3).cell 1 rfl⟩ (fun hHeld => ?_)
                 clear hK K
                 try simp only [Act.put, List.setIfInBounds_toArray, List.set_cons_zero, List.set_cons_succ]
                 try clear hc2
                 try clear k2
                 have hab : bA ≠ bB := hne
                 change wpAnyH _ _ _ _ _ 3 #[true, true, true, true, true, true, true, true, true, true, true, true, true, true, true, true, false, false, false] _ _
                 clear hne
                 revert hHeld
                 revert hc3
                 revert hlebB
                 revert hlebA
                 revert hab
                 revert haq
                 revert huq
                 revert hBB
                 revert hBA
                 revert cr
                 revert cq
                 revert tr
                 revert tq
                 revert sr
                 revert sq
                 revert gr
                 revert gq
                 revert fr
                 revert fq
                 revert bB
                 revert bA
                 revert k3
                 exact rest.out
             · skip
               go_simp
               generalize hwz : World.alloc k1 (.cells #[.int .i64 0, .int .i64 0, .bool false, .slice none 0 0, .slice none 0 0, .int .i64 0, .bool false] 39) = k2
               have hz : Below k1.heap.size k1 k2 := hwz ▸ (Below.refl _ _).alloc (Nat.le_refl _) _
               have hc2 : Below w5.heap.size w5 k2 := below_tr hc1 hz
               have hBB : Cs k2 k1.heap.size [.int .i64 0, .int .i64 0, .bool false, .slice none 0 0, .slice none 0 0, .int .i64 0, .bool false] := (by rw [← hwz]; exact Cs.new k1 [.int .i64 0, .int .i64 0, .bool false, .slice none 0 0, .slice none 0 0, .int .i64 0, .bool false] _)
               have hlebB : w5.heap.size ≤ k1.heap.size := hc1.size
               have hne : bA ≠ k1.heap.size := Nat.ne_of_lt hBA.lt
               replace hBA := hBA.below hz
               clear hwz hz
               generalize k1.heap.size = bB at hBB hlebB hne ⊢
               refine hK.out _ _ ⟨(HX5.out.below hc2).cell 0 rfl, (HX5.out.below hc2).cell 1 rfl, (HX5.out.below hc2).cell 2 rfl, (HX5.out.below hc2).cell 3 rfl, (HX5.out.below hc2).cell 4 rfl, (HX5.out.below hc2).cell 5 rfl, (HX5.out.below hc2).cell 6 rfl, (HA35.out.below hc2).cell 1 rfl⟩ (fun hHeld => ?_)
               clear hK K
               try simp only [Act.put, List.setIfInBounds_toArray, List.set_cons_zero, List.set_cons_succ]
               try clear hc1
               try clear k1
               refine wpAnyH_ready (rs := [9]) (by kernel_rfl) (by simp) ?_
               refine AllReadyH.cons (o := ⟨some 83, Op.call ⟨Callee.value (Operand.func 9), #[Operand.tmp 74, Operand.tmp 82], #[28, 31]⟩, _, _, _, none⟩) rfl (fun K hK => ?_) (AllReadyH.nil)
               · skip
                 go_simp
                 refine (HSV2.out k2 hc2).mono ?_
                 rintro e k3 ⟨uq, aq, rfl, huq, haq, hbq⟩
                 have hc3 : Below w5.heap.size w5 k3 := below_tr hc2 hbq
                 obtain ⟨fq, fr, gq, gr, sq, sr, rfl⟩ := huq.shape
                 obtain ⟨tq, tr, cq, cr, rfl⟩ := haq.shape
                 replace hBA := hBA.below hbq
                 replace hBB := hBB.below hbq
                 go_wp2_with fail
                 refine hK.out _ _ ⟨(HX5.out.below hc3).cell 0 rfl, (HX5.out.below hc3).cell 1 rfl, (HX5.out.below hc3).cell 2 rfl, (HX5.out.below hc3).cell 3 rfl, (HX5.out.below hc3).cell 4 rfl, (HX5.out.below hc3).cell 5 rfl, (HX5.out.below hc3).cell 6 rfl, (HA35.out.below hc3).cell 1 rfl⟩ (fun hHeld => ?_)
                 clear hK K
                 try simp only [Act.put, List.setIfInBounds_toArray, List.set_cons_zero, List.set_cons_succ]
                 refine wpAnyH_take (i := 10) (oi := ⟨some 73, Op.move (Operand.tmp 83), _, _, _, none⟩) (v := ?_) rfl (by kernel_rfl) (by kernel_rfl) (by kernel_rfl) (fun _ _ _ h => h) (Or.inl ⟨by rfl, ?_⟩) hHeld ?_
                 rotate_left
                 · (intro W hSw; obtain ⟨t0, t1, t2, t3, t4, t5, t6, t7⟩ := hSw; go_simp <;> with_reducible rfl)
                 try simp only [Act.put, List.setIfInBounds_toArray, List.set_cons_zero, List.set_cons_succ]
                 refine wpAnyH_take (i := 11) (oi := ⟨some 84, Op.extract (Operand.tmp 73) 0, _, _, _, none⟩) (v := ?_) rfl (by kernel_rfl) (by kernel_rfl) (by kernel_rfl) (fun _ _ _ h => h) (Or.inl ⟨by rfl, ?_⟩) hHeld ?_
                 rotate_left
                 · (intro W hSw; obtain ⟨t0, t1, t2, t3, t4, t5, t6, t7⟩ := hSw; go_simp <;> with_reducible rfl)
                 try simp only [Act.put, List.setIfInBounds_toArray, List.set_cons_zero, List.set_cons_succ]
                 refine wpAnyH_take (i := 12) (oi := ⟨some 85, Op.extract (Operand.tmp 73) 1, _, _, _, none⟩) (v := ?_) rfl (by kernel_rfl) (by kernel_rfl) (by kernel_rfl) (fun _ _ _ h => h) (Or.inl ⟨by rfl, ?_⟩) hHeld ?_
                 rotate_left
                 · (intro W hSw; obtain ⟨t0, t1, t2, t3, t4, t5, t6, t7⟩ := hSw; go_simp <;> with_reducible rfl)
                 try simp only [Act.put, List.setIfInBounds_toArray, List.set_cons_zero, List.set_cons_succ]
                 refine wpAnyH_take (i := 13) (oi := ⟨some 86, Op.extract (Operand.tmp 73) 2, _, _, _, none⟩) (v := ?_) rfl (by kernel_rfl) (by kernel_rfl) (by kernel_rfl) (fun _ _ _ h => h) (Or.inl ⟨by rfl, ?_⟩) hHeld ?_
                 rotate_left
                 · (intro W hSw; obtain ⟨t0, t1, t2, t3, t4, t5, t6, t7⟩ := hSw; go_simp <;> with_reducible rfl)
                 try simp only [Act.put, List.setIfInBounds_toArray, List.set_cons_zero, List.set_cons_succ]
                 clear hbq
                 try clear hc2
                 try clear k2
                 have hab : bA ≠ bB := hne
                 change wpAnyH _ _ _ _ _ 3 #[true, true, true, true, true, true, true, true, true, true, true, true, true, true, true, true, false, false, false] _ _
                 clear hne
                 revert hHeld
                 revert hc3
                 revert hlebB
                 revert hlebA
                 revert hab
                 revert haq
                 revert huq
                 revert hBB
                 revert hBA
                 revert cr
                 revert cq
                 revert tr
                 revert tq
                 revert sr
                 revert sq
                 revert gr
                 revert gq
                 revert fr
                 revert fq
                 revert bB
                 revert bA
                 revert k3
                 exact rest.out
           · skip
             go_simp
             generalize hwz : World.alloc k0 (.cells #[.int .i64 0, .int .i64 0, .bool false, .slice none 0 0, .slice none 0 0, .int .i64 0, .bool false] 39) = k1
             have hz : Below k0.heap.size k0 k1 := hwz ▸ (Below.refl _ _).alloc (Nat.le_refl _) _
             have hc1 : Below w5.heap.size w5 k1 := below_tr hc0 hz
             have hBB : Cs k1 k0.heap.size [.int .i64 0, .int .i64 0, .bool false, .slice none 0 0, .slice none 0 0, .int .i64 0, .bool false] := (by rw [← hwz]; exact Cs.new k0 [.int .i64 0, .int .i64 0, .bool false, .slice none 0 0, .slice none 0 0, .int .i64 0, .bool false] _)
             have hlebB : w5.heap.size ≤ k0.heap.size := hc0.size
             clear hwz hz
             generalize k0.heap.size = bB at hBB hlebB ⊢
             refine hK.out _ _ ⟨(HX5.out.below hc1).cell 0 rfl, (HX5.out.below hc1).cell 1 rfl, (HX5.out.below hc1).cell 2 rfl, (HX5.out.below hc1).cell 3 rfl, (HX5.out.below hc1).cell 4 rfl, (HX5.out.below hc1).cell 5 rfl, (HX5.out.below hc1).cell 6 rfl, (HA35.out.below hc1).cell 1 rfl⟩ (fun hHeld => ?_)
             clear hK K
             try simp only [Act.put, List.setIfInBounds_toArray, List.set_cons_zero, List.set_cons_succ]
             try clear hc0
             try clear k0
             refine wpAnyH_ready (rs := [9, 14]) (by kernel_rfl) (by simp) ?_
             refine AllReadyH.cons (o := ⟨some 83, Op.call ⟨Callee.value (Operand.func 9), #[Operand.tmp 74, Operand.tmp 82], #[28, 31]⟩, _, _, _, none⟩) rfl (fun K hK => ?_) (AllReadyH.cons (o := ⟨some 19, Op.alloc 28, _, _, _, none⟩) rfl (fun K hK => ?_) (AllReadyH.nil))
             · skip
               go_simp
               refine (HSV2.out k1 hc1).mono ?_
               rintro e k2 ⟨uq, aq, rfl, huq, haq, hbq⟩
               have hc2 : Below w5.heap.size w5 k2 := below_tr hc1 hbq
               obtain ⟨fq, fr, gq, gr, sq, sr, rfl⟩ := huq.shape
               obtain ⟨tq, tr, cq, cr, rfl⟩ := haq.shape
               replace hBB := hBB.below hbq
               go_wp2_with fail
               refine hK.out _ _ ⟨(HX5.out.below hc2).cell 0 rfl, (HX5.out.below hc2).cell 1 rfl, (HX5.out.below hc2).cell 2 rfl, (HX5.out.below hc2).cell 3 rfl, (HX5.out.below hc2).cell 4 rfl, (HX5.out.below hc2).cell 5 rfl, (HX5.out.below hc2).cell 6 rfl, (HA35.out.below hc2).cell 1 rfl⟩ (fun hHeld => ?_)
               clear hK K
               try simp only [Act.put, List.setIfInBounds_toArray, List.set_cons_zero, List.set_cons_succ]
               refine wpAnyH_take (i := 10) (oi := ⟨some 73, Op.move (Operand.tmp 83), _, _, _, none⟩) (v := ?_) rfl (by kernel_rfl) (by kernel_rfl) (by kernel_rfl) (fun _ _ _ h => h) (Or.inl ⟨by rfl, ?_⟩) hHeld ?_
               rotate_left
               · (intro W hSw; obtain ⟨t0, t1, t2, t3, t4, t5, t6, t7⟩ := hSw; go_simp <;> with_reducible rfl)
               try simp only [Act.put, List.setIfInBounds_toArray, List.set_cons_zero, List.set_cons_succ]
               refine wpAnyH_take (i := 11) (oi := ⟨some 84, Op.extract (Operand.tmp 73) 0, _, _, _, none⟩) (v := ?_) rfl (by kernel_rfl) (by kernel_rfl) (by kernel_rfl) (fun _ _ _ h => h) (Or.inl ⟨by rfl, ?_⟩) hHeld ?_
               rotate_left
               · (intro W hSw; obtain ⟨t0, t1, t2, t3, t4, t5, t6, t7⟩ := hSw; go_simp <;> with_reducible rfl)
               try simp only [Act.put, List.setIfInBounds_toArray, List.set_cons_zero, List.set_cons_succ]
               refine wpAnyH_take (i := 12) (oi := ⟨some 85, Op.extract (Operand.tmp 73) 1, _, _, _, none⟩) (v := ?_) rfl (by kernel_rfl) (by kernel_rfl) (by kernel_rfl) (fun _ _ _ h => h) (Or.inl ⟨by rfl, ?_⟩) hHeld ?_
               rotate_left
               · (intro W hSw; obtain ⟨t0, t1, t2, t3, t4, t5, t6, t7⟩ := hSw; go_simp <;> with_reducible rfl)
               try simp only [Act.put, List.setIfInBounds_toArray, List.set_cons_zero, List.set_cons_succ]
               refine wpAnyH_take (i := 13) (oi := ⟨some 86, Op.extract (Operand.tmp 73) 2, _, _, _, none⟩) (v := ?_) rfl (by kernel_rfl) (by kernel_rfl) (by kernel_rfl) (fun _ _ _ h => h) (Or.inl ⟨by rfl, ?_⟩) hHeld ?_
               rotate_left
               · (intro W hSw; obtain ⟨t0, t1, t2, t3, t4, t5, t6, t7⟩ := hSw; go_simp <;> with_reducible rfl)
               try simp only [Act.put, List.setIfInBounds_toArray, List.set_cons_zero, List.set_cons_succ]
               clear hbq
               try clear hc1
               try clear k1
               refine wpAnyH_ready (rs := [14]) (by kernel_rfl) (by simp) ?_
               refine AllReadyH.cons (o := ⟨some 19, Op.alloc 28, _, _, _, none⟩) rfl (fun K hK => ?_) (AllReadyH.nil)
               · skip
                 go_simp
                 generalize hwz : World.alloc k2 (.cells #[.slice none 0 0, .slice none 0 0, .slice none 0 0, .int .i64 0, .int .i64 0, .int .i64 0, .int .i64 0] 28) = k3
                 have hz : Below k2.heap.size k2 k3 := hwz ▸ (Below.refl _ _).alloc (Nat.le_refl _) _
                 have hc3 : Below w5.heap.size w5 k3 := below_tr hc2 hz
                 have hBA : Cs k3 k2.heap.size [.slice none 0 0, .slice none 0 0, .slice none 0 0, .int .i64 0, .int .i64 0, .int .i64 0, .int .i64 0] := (by rw [← hwz]; exact Cs.new k2 [.slice none 0 0, .slice none 0 0, .slice none 0 0, .int .i64 0, .int .i64 0, .int .i64 0, .int .i64 0] _)
                 have hlebA : w5.heap.size ≤ k2.heap.size := hc2.size
                 have hne : bB ≠ k2.heap.size := Nat.ne_of_lt hBB.lt
                 replace hBB := hBB.below hz
                 replace huq := huq.below hz
                 replace haq := haq.below hz
                 clear hwz hz
                 generalize k2.heap.size = bA at hBA hlebA hne ⊢
                 refine hK.out _ _ ⟨(HX5.out.below hc3).cell 0 rfl, (HX5.out.below hc3).cell 1 rfl, (HX5.out.below hc3).cell 2 rfl, (HX5.out.below hc3).cell 3 rfl, (HX5.out.below hc3).cell 4 rfl, (HX5.out.below hc3).cell 5 rfl, (HX5.out.below hc3).cell 6 rfl, (HA35.out.below hc3).cell 1 rfl⟩ (fun hHeld => ?_)
                 clear hK K
                 try simp only [Act.put, List.setIfInBounds_toArray, List.set_cons_zero, List.set_cons_succ]
                 try clear hc2
                 try clear k2
                 have hab : bA ≠ bB := hne.symm
                 change wpAnyH _ _ _ _ _ 3 #[true, true, true, true, true, true, true, true, true, true, true, true, true, true, true, true, false, false, false] _ _
                 clear hne
                 revert hHeld
                 revert hc3
                 revert hlebB
                 revert hlebA
                 revert hab
                 revert haq
                 revert huq
                 revert hBB
                 revert hBA
                 revert cr
                 revert cq
                 revert tr
                 revert tq
                 revert sr
                 revert sq
                 revert gr
                 revert gq
                 revert fr
                 revert fq
                 revert bB
                 revert bA
                 revert k3
                 exact rest.out
             · skip
               go_simp
               generalize hwz : World.alloc k1 (.cells #[.slice none 0 0, .slice none 0 0, .slice none 0 0, .int .i64 0, .int .i64 0, .int .i64 0, .int .i64 0] 28) = k2
               have hz : Below k1.heap.size k1 k2 := hwz ▸ (Below.refl _ _).alloc (Nat.le_refl _) _
               have hc2 : Below w5.heap.size w5 k2 := below_tr hc1 hz
               have hBA : Cs k2 k1.heap.size [.slice none 0 0, .slice none 0 0, .slice none 0 0, .int .i64 0, .int .i64 0, .int .i64 0, .int .i64 0] := (by rw [← hwz]; exact Cs.new k1 [.slice none 0 0, .slice none 0 0, .slice none 0 0, .int .i64 0, .int .i64 0, .int .i64 0, .int .i64 0] _)
               have hlebA : w5.heap.size ≤ k1.heap.size := hc1.size
               have hne : bB ≠ k1.heap.size := Nat.ne_of_lt hBB.lt
               replace hBB := hBB.below hz
               clear hwz hz
               generalize k1.heap.size = bA at hBA hlebA hne ⊢
               refine hK.out _ _ ⟨(HX5.out.below hc2).cell 0 rfl, (HX5.out.below hc2).cell 1 rfl, (HX5.out.below hc2).cell 2 rfl, (HX5.out.below hc2).cell 3 rfl, (HX5.out.below hc2).cell 4 rfl, (HX5.out.below hc2).cell 5 rfl, (HX5.out.below hc2).cell 6 rfl, (HA35.out.below hc2).cell 1 rfl⟩ (fun hHeld => ?_)
               clear hK K
               try simp only [Act.put, List.setIfInBounds_toArray, List.set_cons_zero, List.set_cons_succ]
               try clear hc1
               try clear k1
               refine wpAnyH_ready (rs := [9]) (by kernel_rfl) (by simp) ?_
               refine AllReadyH.cons (o := ⟨some 83, Op.call ⟨Callee.value (Operand.func 9), #[Operand.tmp 74, Operand.tmp 82], #[28, 31]⟩, _, _, _, none⟩) rfl (fun K hK => ?_) (AllReadyH.nil)
               · skip
                 go_simp
                 refine (HSV2.out k2 hc2).mono ?_
                 rintro e k3 ⟨uq, aq, rfl, huq, haq, hbq⟩
                 have hc3 : Below w5.heap.size w5 k3 := below_tr hc2 hbq
                 obtain ⟨fq, fr, gq, gr, sq, sr, rfl⟩ := huq.shape
                 obtain ⟨tq, tr, cq, cr, rfl⟩ := haq.shape
                 replace hBA := hBA.below hbq
                 replace hBB := hBB.below hbq
                 go_wp2_with fail
                 refine hK.out _ _ ⟨(HX5.out.below hc3).cell 0 rfl, (HX5.out.below hc3).cell 1 rfl, (HX5.out.below hc3).cell 2 rfl, (HX5.out.below hc3).cell 3 rfl, (HX5.out.below hc3).cell 4 rfl, (HX5.out.below hc3).cell 5 rfl, (HX5.out.below hc3).cell 6 rfl, (HA35.out.below hc3).cell 1 rfl⟩ (fun hHeld => ?_)
                 clear hK K
                 try simp only [Act.put, List.setIfInBounds_toArray, List.set_cons_zero, List.set_cons_succ]
                 refine wpAnyH_take (i := 10) (oi := ⟨some 73, Op.move (Operand.tmp 83), _, _, _, none⟩) (v := ?_) rfl (by kernel_rfl) (by kernel_rfl) (by kernel_rfl) (fun _ _ _ h => h) (Or.inl ⟨by rfl, ?_⟩) hHeld ?_
                 rotate_left
                 · (intro W hSw; obtain ⟨t0, t1, t2, t3, t4, t5, t6, t7⟩ := hSw; go_simp <;> with_reducible rfl)
                 try simp only [Act.put, List.setIfInBounds_toArray, List.set_cons_zero, List.set_cons_succ]
                 refine wpAnyH_take (i := 11) (oi := ⟨some 84, Op.extract (Operand.tmp 73) 0, _, _, _, none⟩) (v := ?_) rfl (by kernel_rfl) (by kernel_rfl) (by kernel_rfl) (fun _ _ _ h => h) (Or.inl ⟨by rfl, ?_⟩) hHeld ?_
                 rotate_left
                 · (intro W hSw; obtain ⟨t0, t1, t2, t3, t4, t5, t6, t7⟩ := hSw; go_simp <;> with_reducible rfl)
                 try simp only [Act.put, List.setIfInBounds_toArray, List.set_cons_zero, List.set_cons_succ]
                 refine wpAnyH_take (i := 12) (oi := ⟨some 85, Op.extract (Operand.tmp 73) 1, _, _, _, none⟩) (v := ?_) rfl (by kernel_rfl) (by kernel_rfl) (by kernel_rfl) (fun _ _ _ h => h) (Or.inl ⟨by rfl, ?_⟩) hHeld ?_
                 rotate_left
                 · (intro W hSw; obtain ⟨t0, t1, t2, t3, t4, t5, t6, t7⟩ := hSw; go_simp <;> with_reducible rfl)
                 try simp only [Act.put, List.setIfInBounds_toArray, List.set_cons_zero, List.set_cons_succ]
                 refine wpAnyH_take (i := 13) (oi := ⟨some 86, Op.extract (Operand.tmp 73) 2, _, _, _, none⟩) (v := ?_) rfl (by kernel_rfl) (by kernel_rfl) (by kernel_rfl) (fun _ _ _ h => h) (Or.inl ⟨by rfl, ?_⟩) hHeld ?_
                 rotate_left
                 · (intro W hSw; obtain ⟨t0, t1, t2, t3, t4, t5, t6, t7⟩ := hSw; go_simp <;> with_reducible rfl)
                 try simp only [Act.put, List.setIfInBounds_toArray, List.set_cons_zero, List.set_cons_succ]
                 clear hbq
                 try clear hc2
                 try clear k2
                 have hab : bA ≠ bB := hne.symm
                 change wpAnyH _ _ _ _ _ 3 #[true, true, true, true, true, true, true, true, true, true, true, true, true, true, true, true, false, false, false] _ _
                 clear hne
                 revert hHeld
                 revert hc3
                 revert hlebB
                 revert hlebA
                 revert hab
                 revert haq
                 revert huq
                 revert hBB
                 revert hBA
                 revert cr
                 revert cq
                 revert tr
                 revert tq
                 revert sr
                 revert sq
                 revert gr
                 revert gq
                 revert fr
                 revert fq
                 revert bB
                 revert bA
                 revert k3
                 exact rest.out
         intro k3 bA bB fq fr gq gr sq sr tq tr cq cr hBA hBB huq haq hne hlebA hlebB hc3 hHeld
         refine wpAnyH_ready (rs := [16]) (by kernel_rfl) (by simp) ?_
         refine AllReadyH.cons (o := ⟨none, Op.store 28 (Operand.tmp 19) (Operand.tmp 84), _, _, _, none⟩) rfl (fun K hK => ?_) AllReadyH.nil
         have p0 := hBA.cell 0 rfl
         have f0 := hBA.fr 0
         have p1 := hBA.cell 1 rfl
         have f1 := hBA.fr 1
         have p2 := hBA.cell 2 rfl
         have f2 := hBA.fr 2
         have p3 := hBA.cell 3 rfl
         have f3 := hBA.fr 3
         have p4 := hBA.cell 4 rfl
         have f4 := hBA.fr 4
         have p5 := hBA.cell 5 rfl
         have f5 := hBA.fr 5
         have p6 := hBA.cell 6 rfl
         have f6 := hBA.fr 6
         go_simp
         clear p0 f0 p1 f1 p2 f2 p3 f3 p4 f4 p5 f5 p6 f6
         obtain ⟨k4, hm⟩ : ∃ m, m = (((((((k3.setCell ⟨bA, 0, none⟩ (.slice fq H3.fos.length fr)).setCell ⟨bA, 1, none⟩ (.slice gq H3.gs.length gr)).setCell ⟨bA, 2, none⟩ (.slice sq H3.ss.length sr)).setCell ⟨bA, 3, none⟩ (.int .i64 H3.nx)).setCell ⟨bA, 4, none⟩ (.int .i64 H3.la)).setCell ⟨bA, 5, none⟩ (.int .i64 H3.ro)).setCell ⟨bA, 6, none⟩ (.int .i64 H3.now)) := ⟨_, rfl⟩
         have hg : k3.grownBy k4 (some bA) := by rw [hm]; exact (grown_on (grown_on (grown_on (grown_on (grown_on (grown_on (nb_set k3 (bA) 0 (.slice fq H3.fos.length fr)) (nb_set _ (bA) 1 (.slice gq H3.gs.length gr))) (nb_set _ (bA) 2 (.slice sq H3.ss.length sr))) (nb_set _ (bA) 3 (.int .i64 H3.nx))) (nb_set _ (bA) 4 (.int .i64 H3.la))) (nb_set _ (bA) 5 (.int .i64 H3.ro))) (nb_set _ (bA) 6 (.int .i64 H3.now)))
         have hBB2 := hBB.nb hg (by omega)
         have huq2 := huq.nb hg (noStr_hub hBA)
         have haq2 := haq.nb hg (noStr_hub hBA)
         have hBA2 : Cs k4 bA [.slice fq H3.fos.length fr, .slice gq H3.gs.length gr, .slice sq H3.ss.length sr, .int .i64 H3.nx, .int .i64 H3.la, .int .i64 H3.ro, .int .i64 H3.now] := by rw [hm]; exact (((((((hBA.set 0 (.slice fq H3.fos.length fr)).set 1 (.slice gq H3.gs.length gr)).set 2 (.slice sq H3.ss.length sr)).set 3 (.int .i64 H3.nx)).set 4 (.int .i64 H3.la)).set 5 (.int .i64 H3.ro)).set 6 (.int .i64 H3.now))
         have hc4 : Below w5.heap.size w5 k4 := by rw [hm]; exact (((((((hc3.setCell (p := ⟨bA, 0, none⟩) (hlebA) _).setCell (p := ⟨bA, 1, none⟩) (hlebA) _).setCell (p := ⟨bA, 2, none⟩) (hlebA) _).setCell (p := ⟨bA, 3, none⟩) (hlebA) _).setCell (p := ⟨bA, 4, none⟩) (hlebA) _).setCell (p := ⟨bA, 5, none⟩) (hlebA) _).setCell (p := ⟨bA, 6, none⟩) (hlebA) _)
         rw [← hm]
         clear hm hg hBA hBB huq haq
         refine hK.out _ _ ⟨(HX5.out.below hc4).cell 0 rfl, (HX5.out.below hc4).cell 1 rfl, (HX5.out.below hc4).cell 2 rfl, (HX5.out.below hc4).cell 3 rfl, (HX5.out.below hc4).cell 4 rfl, (HX5.out.below hc4).cell 5 rfl, (HX5.out.below hc4).cell 6 rfl, (HA35.out.below hc4).cell 1 rfl⟩ (fun hHeld => ?_)
         clear hK K
         try simp only [Act.put, List.setIfInBounds_toArray, List.set_cons_zero, List.set_cons_succ]
         refine wpAnyH_ready (rs := [17]) (by kernel_rfl) (by simp) ?_
         refine AllReadyH.cons (o := ⟨none, Op.store 39 (Operand.tmp 20) (Operand.tmp 85), _, _, _, none⟩) rfl (fun K hK => ?_) AllReadyH.nil
         have p0 := hBB2.cell 0 rfl
         have f0 := hBB2.fr 0
         have p1 := hBB2.cell 1 rfl
         have f1 := hBB2.fr 1
         have p2 := hBB2.cell 2 rfl
         have f2 := hBB2.fr 2
         have p3 := hBB2.cell 3 rfl
         have f3 := hBB2.fr 3
         have p4 := hBB2.cell 4 rfl
         have f4 := hBB2.fr 4
         have p5 := hBB2.cell 5 rfl
         have f5 := hBB2.fr 5
         have p6 := hBB2.cell 6 rfl
         have f6 := hBB2.fr 6
         go_simp
         clear p0 f0 p1 f1 p2 f2 p3 f3 p4 f4 p5 f5 p6 f6
         obtain ⟨k5, hm⟩ : ∃ m, m = (((((((k4.setCell ⟨bB, 0, none⟩ (.int .i64 A3.err)).setCell ⟨bB, 1, none⟩ (.int .i64 A3.num)).setCell ⟨bB, 2, none⟩ (.bool A3.pg.reset)).setCell ⟨bB, 3, none⟩ (.slice tq A3.pg.tree.length tr)).setCell ⟨bB, 4, none⟩ (.slice cq A3.pg.cos.length cr)).setCell ⟨bB, 5, none⟩ (.int .i64 A3.pg.cur)).setCell ⟨bB, 6, none⟩ (.bool A3.pg.more)) := ⟨_, rfl⟩
         have hg : k4.grownBy k5 (some bB) := by rw [hm]; exact (grown_on (grown_on (grown_on (grown_on (grown_on (grown_on (nb_set k4 (bB) 0 (.int .i64 A3.err)) (nb_set _ (bB) 1 (.int .i64 A3.num))) (nb_set _ (bB) 2 (.bool A3.pg.reset))) (nb_set _ (bB) 3 (.slice tq A3.pg.tree.length tr))) (nb_set _ (bB) 4 (.slice cq A3.pg.cos.length cr))) (nb_set _ (bB) 5 (.int .i64 A3.pg.cur))) (nb_set _ (bB) 6 (.bool A3.pg.more)))
         have hBA3 := hBA2.nb hg (by omega)
         have huq3 := huq2.nb hg (noStr_ans hBB2)
         have haq3 := haq2.nb hg (noStr_ans hBB2)
         have hBB3 : Cs k5 bB [.int .i64 A3.err, .int .i64 A3.num, .bool A3.pg.reset, .slice tq A3.pg.tree.length tr, .slice cq A3.pg.cos.length cr, .int .i64 A3.pg.cur, .bool A3.pg.more] := by rw [hm]; exact (((((((hBB2.set 0 (.int .i64 A3.err)).set 1 (.int .i64 A3.num)).set 2 (.bool A3.pg.reset)).set 3 (.slice tq A3.pg.tree.length tr)).set 4 (.slice cq A3.pg.cos.length cr)).set 5 (.int .i64 A3.pg.cur)).set 6 (.bool A3.pg.more))
         have hc5 : Below w5.heap.size w5 k5 := by rw [hm]; exact (((((((hc4.setCell (p := ⟨bB, 0, none⟩) (hlebB) _).setCell (p := ⟨bB, 1, none⟩) (hlebB) _).setCell (p := ⟨bB, 2, none⟩) (hlebB) _).setCell (p := ⟨bB, 3, none⟩) (hlebB) _).setCell (p := ⟨bB, 4, none⟩) (hlebB) _).setCell (p := ⟨bB, 5, none⟩) (hlebB) _).setCell (p := ⟨bB, 6, none⟩) (hlebB) _)
         rw [← hm]
         clear hm hg hBA2 hBB2 huq2 haq2
         refine hK.out _ _ ⟨(HX5.out.below hc5).cell 0 rfl, (HX5.out.below hc5).cell 1 rfl, (HX5.out.below hc5).cell 2 rfl, (HX5.out.below hc5).cell 3 rfl, (HX5.out.below hc5).cell 4 rfl, (HX5.out.below hc5).cell 5 rfl, (HX5.out.below hc5).cell 6 rfl, (HA35.out.below hc5).cell 1 rfl⟩ (fun hHeld => ?_)
         clear hK K
         try simp only [Act.put, List.setIfInBounds_toArray, List.set_cons_zero, List.set_cons_succ]
         refine wpAnyH_take (i := 18) (oi := ⟨some 21, Op.assign (Operand.tmp 86), _, _, _, none⟩) (v := ?_) rfl (by kernel_rfl) (by kernel_rfl) (by kernel_rfl) (fun _ _ _ h => h) (Or.inl ⟨by rfl, ?_⟩) hHeld ?_
         rotate_left
         · (intro W hSw; obtain ⟨t0, t1, t2, t3, t4, t5, t6, t7⟩ := hSw; go_simp <;> with_reducible rfl)
         try simp only [Act.put, List.setIfInBounds_toArray, List.set_cons_zero, List.set_cons_succ]
         refine wpAnyH_done (by kernel_rfl) ?_ _
         have HRA := hid hBA3
         have HRB := hid hBB3
         have HRU := hid huq3
         have HRN := hid haq3
         have HRC := hid hc5
         have HLA := hid hlebA
         have HLB := hid hlebB
         clear hHeld hBA3 hBB3 huq3 haq3 hc5 hlebA hlebB
         go_wp2_with fail
         go_meet
         case rel => exact ⟨bA, bB, fq, fr, gq, gr, sq, sr, tq, tr, cq, cr, rfl, rfl, rfl, HRA, HRB, HRU, HRN, HRC, HLA.out, HLB.out⟩
        case rest =>
         obtain ⟨b6, d6, fa6, fc6, ga6, gc6, sa6, sc6, ta6, tc6, ca6, cc6, rfl, rfl, rfl, HX6, HA6, HU6, HN6, HB6, hl6, hl6d⟩ := hcut
         clear HSV2 hh hf1 hf2 hf3 hts
         generalize wc = w6 at *
         have hb06 := below_tr hb05 HB6.out
         have HX46 := hid (HX45.out.below HB6.out)
         have HA36 := hid (HA35.out.below HB6.out)
         have HA56 := hid (HA5.out.below HB6.out)
         have hs6 := HB6.out.size
         have y0 := HA56.out.cell 0 rfl
         have z0 := HA6.out.cell 0 rfl
         have z1 := HA6.out.cell 1 rfl
         rw [HST2.out.2.1] at y0
         rw [HST3.out.2.1] at z0 z1
         simp only at y0 z0 z1
         go_wp2_with fail
         have hl8 : H.fos.length ≤ 8 := (Hu.cf_parts (Hu.h_parts H0.out).2.1).1
         have HLF := hid (show ∀ i (h : i < H.fos.length), ∃ b o, fa = some ⟨b, o, none⟩ ∧ b < w.heap.size ∧ ShAt w b (o + i * 4) H.fos[i] from by
          obtain ⟨a, cap, e, _, _, h⟩ := HV.out.parts.1
          injection e with e1 e2 e3
          subst e1
          exact h)
         clear y0 z0 z1
         go_loopw [22] (fun x wr => ∃ k : Nat, k ≤ H.fos.length ∧ x = .int .i64 k ∧ Hid (∀ i (h : i < H.fos.length), i < k → ∀ c ∈ (H.fos[i]).jo.cos, ¬ c.ke.data.toList = key.data.toList) ∧ Hid (Cs wr w.heap.size [.slice fa H.fos.length fc, .slice ga H.gs.length gc, .slice sa H.ss.length sc, .int .i64 H.nx, .int .i64 H.la, .int .i64 H.ro, .int .i64 H.now]) ∧ Hid (Below w6.heap.size w6 wr) ∧ Below w.heap.size w wr) (fun x _ => H.fos.length - (intOf x).toNat)
         case atStart => exact ⟨0, Nat.zero_le _, rfl, (fun i h hi => absurd hi (Nat.not_lt_zero _) : ∀ i (h : i < H.fos.length), i < 0 → ∀ c ∈ (H.fos[i]).jo.cos, ¬ c.ke.data.toList = key.data.toList), HX46, Below.refl _ _, hb06⟩
         case round =>
          obtain ⟨k, hk, rfl, HNO, HXr, HBr, hbel⟩ := hrel
          have x0 := HXr.out.cell 0 rfl
          by_cases hlt : k < H.fos.length
          · obtain ⟨b, o, rfl, hbl, he⟩ := HLF.out k hlt
            have hsz := hbel.size
            have hblr : b < wr.heap.size := by omega
            obtain ⟨c0, cu, cx, c1, c2, c3, hcu, hcx⟩ := he.below hbl hbel
            have hkk : (k : Int) < H.fos.length := by omega
            have HNX := hid (show (∀ c ∈ (H.fos[k]).jo.cos, ¬ c.ke.data.toList = key.data.toList) → ∀ i (h : i < H.fos.length), i < k + 1 → ∀ c ∈ (H.fos[i]).jo.cos, ¬ c.ke.data.toList = key.data.toList from fun hh i h hi => by
             rcases Nat.lt_or_ge i k with h1 | h1
             · exact HNO.out i h h1
             · obtain rfl : i = k := by omega
               exact hh)
            clear he HNO
            obtain ⟨s, hs⟩ : ∃ s, s = H.fos[k] := ⟨_, rfl⟩
            rw [← hs] at c0 c2 hcu hcx HNX
            clear hs
            have hsu : ∃ ua uc, cu = .slice ua s.jo.base.length uc := by obtain ⟨a, c, e, _⟩ := hcu; exact ⟨a, c, e⟩
            obtain ⟨ua, uc, rfl⟩ := hsu
            have HCX := hid hcx
            have hsx : ∃ ja jc, cx = .slice ja s.jo.cos.length jc ∧ s.jo.cos.length ≤ 1000000000000000 := by obtain ⟨a, c, e, _, e2, _⟩ := hcx; exact ⟨a, c, e, e2⟩
            obtain ⟨ja, jc, rfl, hjm⟩ := hsx
            clear hcu hcx
            obtain ⟨wj, hwj⟩ : ∃ wj, wj = wr.alloc (.cells #[.slice ua s.jo.base.length uc, .int .i64 s.jo.first, .slice ja s.jo.cos.length jc] 49) := ⟨_, rfl⟩
            have hbj : Below wr.heap.size wr wj := by rw [hwj]; exact (Below.refl _ _).alloc (Nat.le_refl _) _
            have HJB : Hid (Cs wj wr.heap.size [.slice ua s.jo.base.length uc, .int .i64 s.jo.first, .slice ja s.jo.cos.length jc]) := (by rw [hwj]; exact Cs.new wr [.slice ua s.jo.base.length uc, .int .i64 s.jo.first, .slice ja s.jo.cos.length jc] _ : Cs wj wr.heap.size _)
            have HXj := hid (HXr.out.below hbj)
            have HBj : Hid (Below w6.heap.size w6 wj) := below_tr HBr.out hbj
            have hb0j := below_tr hbel hbj
            have HLO := hid (show ∀ i (h : i < s.jo.cos.length), ∃ b o, ja = some ⟨b, o, none⟩ ∧ b < wr.heap.size ∧ wj.cell? ⟨b, o + i * 3 + 1, none⟩ = some (.string (s.jo.cos[i]).ke) from fun i h => by
             obtain ⟨a', cap', e, _, _, hh⟩ := HCX.out
             injection e with e1 e2 e3
             subst e1
             obtain ⟨b, o, ha, hb, hc⟩ := hh i h
             exact ⟨b, o, ha, hb, (hbj.cell (p := ⟨b, o + i * 3 + 1, none⟩) hb).trans hc.2.1⟩)
            go_upto_region 15 with fail
            try simp only [World.setCell_alloc_new]
            rw [← hwj]
            clear hwj c0 c1 c2 c3 x0 HCX HXr HBr hbj hsz hblr
            generalize wr.heap.size = bj at HJB HLO ⊢
            clear hbel
            clear wr
            have hjb := HJB.out.lt
            go_wp2_with fail
            go_loopw [24] (fun y wr => ∃ m : Nat, m ≤ s.jo.cos.length ∧ y = .int .i64 m ∧ Hid (∀ i (h : i < s.jo.cos.length), i < m → ¬ (s.jo.cos[i]).ke.data.toList = key.data.toList) ∧ wr = wj) (fun y _ => s.jo.cos.length - (intOf y).toNat)
            case atStart => exact ⟨0, Nat.zero_le _, rfl, (fun i h hi => absurd hi (Nat.not_lt_zero _) : ∀ i (h : i < s.jo.cos.length), i < 0 → ¬ (s.jo.cos[i]).ke.data.toList = key.data.toList), rfl⟩
            case round =>
             obtain ⟨m, hm, rfl, HNM, rfl⟩ := hrel
             have j2 := HJB.out.cell 2 rfl
             by_cases hml : m < s.jo.cos.length
             · obtain ⟨b2, o2, rfl, hb2, hkc⟩ := HLO.out m hml
               have hmm : (m : Int) < s.jo.cos.length := by omega
               have HNM2 := hid (show ¬ (s.jo.cos[m]).ke.data.toList = key.data.toList → ∀ i (h : i < s.jo.cos.length), i < m + 1 → ¬ (s.jo.cos[i]).ke.data.toList = key.data.toList from fun hh i h hi => by
                rcases Nat.lt_or_ge i m with h1 | h1
                · exact HNM.out i h h1
                · obtain rfl : i = m := by omega
                  exact hh)
               clear HNM
               generalize s.jo.cos[m] = c at *
               cases hke : (c.ke.toList == key.toList) with
               | true =>
                go_wp2_with fail
                go_ret
                exact ⟨rfl, hb0j⟩
               | false =>
                have hne : ¬ c.ke.data.toList = key.data.toList := fun e => by
                 rw [Lib.toList_data, Lib.toList_data, e] at hke
                 simp at hke
                have HNM3 := hid (HNM2.out hne)
                clear HNM2 hne
                go_wp2_with fail
                go_roundw
                case rel => exact ⟨m + 1, by omega, by simp, HNM3, by first | trivial | rfl⟩
                case measure => simp [intOf]; omega
             · have hmm : ¬ (m : Int) < s.jo.cos.length := by omega
               have HALL := hid (show ∀ c ∈ s.jo.cos, ¬ c.ke.data.toList = key.data.toList from fun c hc => by
                obtain ⟨i, hi, rfl⟩ := List.getElem_of_mem hc
                exact HNM.out i hi (by omega))
               clear HNM
               go_wp2_with fail
               go_roundw
               case rel => exact ⟨k + 1, by omega, by simp, HNX.out HALL.out, HXj, HBj, hb0j⟩
               case measure => simp [intOf]; omega
          · have hkk : ¬ (k : Int) < H.fos.length := by omega
            have HALL := hid (show ∀ s ∈ H.fos, ∀ c ∈ s.jo.cos, ¬ c.ke.data.toList = key.data.toList from fun s hs c hc => by
             obtain ⟨i, hi, rfl⟩ := List.getElem_of_mem hs
             exact HNO.out i hi (by omega) c hc)
            clear HNO HLF
            generalize wr = w7 at *
            have HX7 := hid (HX6.out.below HBr.out)
            have HA37 := hid (HA36.out.below HBr.out)
            have HU7 := hid (HU6.out.below HBr.out)
            have HST := hid (show Hu.hE H3 = 0 from by rw [HST3.out.1]; exact HST3.out.2.2.1.he)
            have HSQ4 := hid (show SizedQ (Hu.qF p fo na key A1.num) from ⟨hp, hfo, hna, hky, Nat.zero_le _, fun x hx => by cases hx⟩)
            go_upto_region 20 with fail
            have m1 := HA37.out.cell 1 rfl
            clear x0
            have x0 := HX7.out.cell 0 rfl
            have x1 := HX7.out.cell 1 rfl
            have x2 := HX7.out.cell 2 rfl
            have x3 := HX7.out.cell 3 rfl
            have x4 := HX7.out.cell 4 rfl
            have x5 := HX7.out.cell 5 rfl
            have x6 := HX7.out.cell 6 rfl
            go_wp2_with fail
            refine (serve_any H3 (Hu.qF p fo na key A1.num) _ _ w7 HU7.out HST3.out.2.2.2 ⟨_, rfl, liesC_nil _⟩ HSQ4.out HST.out).mono ?_
            rintro e w8 ⟨u8, a8, rfl, hu8, ha8, hb8⟩
            obtain ⟨H4, hH4⟩ : ∃ H4, H4 = Hu.svH H3 (Hu.qF p fo na key A1.num) := ⟨_, rfl⟩
            obtain ⟨A4, hA4⟩ : ∃ A4, A4 = Hu.svA H3 (Hu.qF p fo na key A1.num) := ⟨_, rfl⟩
            have HSZ4 := hid (show SizedH H4 from by rw [hH4]; exact Hu.sv_sized HST.out HST3.out.2.2.2 HSQ4.out)
            have HER := hid (show ¬ A4.err = 0 → H4 = H3 from by rw [hH4, hA4]; exact fun h => (Hu.sv_err h).1)
            have HFN := hid (show A4.err = 0 → Hu.trE H4 fo = 0 ∧ Pp.Good (Hu.trR H4 fo) ∧ Pp.findR (Hu.trR H4 fo) na.data.toList = 0 ∧ (Pp.findX (Hu.trR H4 fo) na.data.toList).text = t ∧ (Pp.findX (Hu.trR H4 fo) na.data.toList).ver = A4.num from fun h => by
             rw [hA4, HST3.out.1, HE2.out] at h
             rw [hA4, hH4, HST3.out.1, HE2.out]
             exact Hu.st_fn HST3.out.2.2.1 (by omega) HALL.out h)
            rw [← hH4] at hu8
            rw [← hA4] at ha8
            clear hH4 hA4 x0 x1 x2 x3 x4 x5 x6 m1
            have HA38q := hid (HA37.out.below hb8)
            have hb08 := below_tr hbel hb8
            obtain ⟨fa8, fc8, ga8, gc8, sa8, sc8, rfl⟩ := hu8.shape
            obtain ⟨ta8, tc8, ca8, cc8, rfl⟩ := ha8.shape
            obtain ⟨wa, hwa⟩ : ∃ wa, wa = w8.alloc (.cells #[.slice fa8 H4.fos.length fc8, .slice ga8 H4.gs.length gc8, .slice sa8 H4.ss.length sc8, .int .i64 H4.nx, .int .i64 H4.la, .int .i64 H4.ro, .int .i64 H4.now] 28) := ⟨_, rfl⟩
            obtain ⟨w9, hwz⟩ : ∃ wz, wz = wa.alloc (.cells #[.int .i64 A4.err, .int .i64 A4.num, .bool A4.pg.reset, .slice ta8 A4.pg.tree.length tc8, .slice ca8 A4.pg.cos.length cc8, .int .i64 A4.pg.cur, .bool A4.pg.more] 39) := ⟨_, rfl⟩
            have sa1 : wa.heap.size = w8.heap.size + 1 := by rw [hwa]; simp
            have bwa : Below w8.heap.size w8 wa := by rw [hwa]; exact (Below.refl _ _).alloc (Nat.le_refl _) _
            have bwz : Below wa.heap.size wa w9 := by rw [hwz]; exact (Below.refl _ _).alloc (Nat.le_refl _) _
            have hbs8 : Below w8.heap.size w8 w9 := below_tr bwa bwz
            have HX8 : Hid (Cs w9 w8.heap.size [.slice fa8 H4.fos.length fc8, .slice ga8 H4.gs.length gc8, .slice sa8 H4.ss.length sc8, .int .i64 H4.nx, .int .i64 H4.la, .int .i64 H4.ro, .int .i64 H4.now]) := ((by rw [hwa]; exact Cs.new w8 [.slice fa8 H4.fos.length fc8, .slice ga8 H4.gs.length gc8, .slice sa8 H4.ss.length sc8, .int .i64 H4.nx, .int .i64 H4.la, .int .i64 H4.ro, .int .i64 H4.now] _ : Cs wa w8.heap.size [.slice fa8 H4.fos.length fc8, .slice ga8 H4.gs.length gc8, .slice sa8 H4.ss.length sc8, .int .i64 H4.nx, .int .i64 H4.la, .int .i64 H4.ro, .int .i64 H4.now]).below bwz : Cs w9 w8.heap.size _)
            have HA8 := hid (show Cs w9 (w8.heap.size + 1) [.int .i64 A4.err, .int .i64 A4.num, .bool A4.pg.reset, .slice ta8 A4.pg.tree.length tc8, .slice ca8 A4.pg.cos.length cc8, .int .i64 A4.pg.cur, .bool A4.pg.more] from by rw [← sa1, hwz]; exact Cs.new wa [.int .i64 A4.err, .int .i64 A4.num, .bool A4.pg.reset, .slice ta8 A4.pg.tree.length tc8, .slice ca8 A4.pg.cos.length cc8, .int .i64 A4.pg.cur, .bool A4.pg.more] _)
            have hwzz : (w8.alloc (.cells #[.slice fa8 H4.fos.length fc8, .slice ga8 H4.gs.length gc8, .slice sa8 H4.ss.length sc8, .int .i64 H4.nx, .int .i64 H4.la, .int .i64 H4.ro, .int .i64 H4.now] 28)).alloc (.cells #[.int .i64 A4.err, .int .i64 A4.num, .bool A4.pg.reset, .slice ta8 A4.pg.tree.length tc8, .slice ca8 A4.pg.cos.length cc8, .int .i64 A4.pg.cur, .bool A4.pg.more] 39) = w9 := by rw [hwz, hwa]
            have HWZ := hid hwzz
            have HU8 := hid (hu8.below hbs8)
            have HN8 := hid (ha8.below hbs8)
            have hls8 : w8.heap.size + 1 < w9.heap.size := HA8.out.lt
            clear hwa hwz bwa bwz sa1 hwzz hu8 ha8
            go_upto_region 21 with fail
            rw [HWZ.out]
            clear HWZ
            have hb09 := below_tr hb08 hbs8
            have HA39 := hid (HA38q.out.below hbs8)
            have y0 := HA8.out.cell 0 rfl
            have m1 := HA39.out.cell 1 rfl
            have x0 := HX8.out.cell 0 rfl
            have x1 := HX8.out.cell 1 rfl
            have x2 := HX8.out.cell 2 rfl
            have x3 := HX8.out.cell 3 rfl
            have x4 := HX8.out.cell 4 rfl
            have x5 := HX8.out.cell 5 rfl
            have x6 := HX8.out.cell 6 rfl
            by_cases hae : A4.err = 0
            · obtain ⟨g1, g2, g3, g4, g5⟩ := HFN.out hae
              have HG1 := hid g1
              have HG2 := hid g2
              have HG3 := hid g3
              have HG4 := hid g4
              have HG5 := hid g5
              rw [hae] at y0
              clear g1 g2 g3 g4 g5 hae HFN HER
              go_wp2_with fail
              refine (htree_any H4 _ fo w9 HU8.out HSZ4.out hfo).mono ?_
              rintro e wt ⟨tt, rfl, hlt2, hbt⟩
              rw [HG1.out]
              have HLT := hid hlt2
              have hb0t := below_tr hb09 hbt
              have HA8t := hid (HA8.out.below hbt)
              clear hlt2 x0 x1 x2 x3 x4 x5 x6 y0 m1
              go_wp2_with fail
              refine (tfind_any (Hu.trR H4 fo) _ na wt HLT.out (by have := HG2.out.len; omega) (Pp.good_sized HG2.out) (by omega)).mono ?_
              rintro e wf ⟨rfl, hbf⟩
              rw [HG3.out]
              have hb0f := below_tr hb0t hbf
              have HA8f := hid (HA8t.out.below hbf)
              have m1 := HA8f.out.cell 1 rfl
              have hlf := HA8f.out.lt
              rw [← HG5.out] at m1
              obtain ⟨X, hX⟩ : ∃ X, X = Pp.findX (Hu.trR H4 fo) na.data.toList := ⟨_, rfl⟩
              rw [← hX] at m1 ⊢
              have HXT := hid (show X.text = t from by rw [hX]; exact HG4.out)
              clear hX
              obtain ⟨xp, xf, xt, xv⟩ := X
              obtain rfl : xt = t := HXT.out
              simp only [Pp.findV] at m1 ⊢
              have hnf : ¬ w8.heap.size + 1 = wf.heap.size := by omega
              go_wp2_with fail
              go_ret
              exact ⟨rfl, hb0f.alloc hb0f.size _⟩
            · have HEQ := hid (HER.out hae)
              have hz2 : (A4.err != 0) = true := by simpa using hae
              clear hae HFN HER
              have HSQ5 := hid (show SizedQ (Hu.qQ p A1.num) from ⟨hp, Nat.zero_le _, Nat.zero_le _, Nat.zero_le _, Nat.zero_le _, fun x hx => by cases hx⟩)
              go_wp2_with fail
              refine (serve_any H4 (Hu.qQ p A1.num) _ _ w9 HU8.out HSZ4.out ⟨_, rfl, liesC_nil _⟩ HSQ5.out (by rw [HEQ.out]; exact HST.out)).mono ?_
              rintro e w10 ⟨u10q, a10q, rfl, hu10, ha10, hb10⟩
              obtain ⟨H5, hH5⟩ : ∃ H5, H5 = Hu.svH H4 (Hu.qQ p A1.num) := ⟨_, rfl⟩
              obtain ⟨A5, hA5⟩ : ∃ A5, A5 = Hu.svA H4 (Hu.qQ p A1.num) := ⟨_, rfl⟩
              have HA5E := hid (show A5 = ⟨0, (t.size : Int), Jn.zeroP⟩ from by rw [hA5, HEQ.out, HST3.out.1, HE2.out]; exact Hu.st_qu HST3.out.2.2.1)
              rw [← hH5] at hu10
              rw [← hA5] at ha10
              clear hH5 hA5 x0 x1 x2 x3 x4 x5 x6 m1 y0
              have hb010 := below_tr hb09 hb10
              obtain ⟨fa10, fc10, ga10, gc10, sa10, sc10, rfl⟩ := hu10.shape
              obtain ⟨ta10, tc10, ca10, cc10, rfl⟩ := ha10.shape
              obtain ⟨wa, hwa⟩ : ∃ wa, wa = w10.alloc (.cells #[.slice fa10 H5.fos.length fc10, .slice ga10 H5.gs.length gc10, .slice sa10 H5.ss.length sc10, .int .i64 H5.nx, .int .i64 H5.la, .int .i64 H5.ro, .int .i64 H5.now] 28) := ⟨_, rfl⟩
              obtain ⟨w11, hwz⟩ : ∃ wz, wz = wa.alloc (.cells #[.int .i64 A5.err, .int .i64 A5.num, .bool A5.pg.reset, .slice ta10 A5.pg.tree.length tc10, .slice ca10 A5.pg.cos.length cc10, .int .i64 A5.pg.cur, .bool A5.pg.more] 39) := ⟨_, rfl⟩
              have sa1 : wa.heap.size = w10.heap.size + 1 := by rw [hwa]; simp
              have bwa : Below w10.heap.size w10 wa := by rw [hwa]; exact (Below.refl _ _).alloc (Nat.le_refl _) _
              have bwz : Below wa.heap.size wa w11 := by rw [hwz]; exact (Below.refl _ _).alloc (Nat.le_refl _) _
              have hbs10 : Below w10.heap.size w10 w11 := below_tr bwa bwz
              have HX10 : Hid (Cs w11 w10.heap.size [.slice fa10 H5.fos.length fc10, .slice ga10 H5.gs.length gc10, .slice sa10 H5.ss.length sc10, .int .i64 H5.nx, .int .i64 H5.la, .int .i64 H5.ro, .int .i64 H5.now]) := ((by rw [hwa]; exact Cs.new w10 [.slice fa10 H5.fos.length fc10, .slice ga10 H5.gs.length gc10, .slice sa10 H5.ss.length sc10, .int .i64 H5.nx, .int .i64 H5.la, .int .i64 H5.ro, .int .i64 H5.now] _ : Cs wa w10.heap.size [.slice fa10 H5.fos.length fc10, .slice ga10 H5.gs.length gc10, .slice sa10 H5.ss.length sc10, .int .i64 H5.nx, .int .i64 H5.la, .int .i64 H5.ro, .int .i64 H5.now]).below bwz : Cs w11 w10.heap.size _)
              have HA10 := hid (show Cs w11 (w10.heap.size + 1) [.int .i64 A5.err, .int .i64 A5.num, .bool A5.pg.reset, .slice ta10 A5.pg.tree.length tc10, .slice ca10 A5.pg.cos.length cc10, .int .i64 A5.pg.cur, .bool A5.pg.more] from by rw [← sa1, hwz]; exact Cs.new wa [.int .i64 A5.err, .int .i64 A5.num, .bool A5.pg.reset, .slice ta10 A5.pg.tree.length tc10, .slice ca10 A5.pg.cos.length cc10, .int .i64 A5.pg.cur, .bool A5.pg.more] _)
              have hwzz : (w10.alloc (.cells #[.slice fa10 H5.fos.length fc10, .slice ga10 H5.gs.length gc10, .slice sa10 H5.ss.length sc10, .int .i64 H5.nx, .int .i64 H5.la, .int .i64 H5.ro, .int .i64 H5.now] 28)).alloc (.cells #[.int .i64 A5.err, .int .i64 A5.num, .bool A5.pg.reset, .slice ta10 A5.pg.tree.length tc10, .slice ca10 A5.pg.cos.length cc10, .int .i64 A5.pg.cur, .bool A5.pg.more] 39) = w11 := by rw [hwz, hwa]
              have HWZ := hid hwzz
              have HU10 := hid (hu10.below hbs10)
              have HN10 := hid (ha10.below hbs10)
              have hls10 : w10.heap.size + 1 < w11.heap.size := HA10.out.lt
              clear hwa hwz bwa bwz sa1 hwzz hu10 ha10
              go_upto_region 25 with fail
              rw [HWZ.out]
              clear HWZ
              have hb011 := below_tr hb010 hbs10
              have y0 := HA10.out.cell 0 rfl
              have y1 := HA10.out.cell 1 rfl
              rw [HA5E.out] at y0 y1
              simp only at y0 y1
              go_wp2_with fail
              go_ret
              exact ⟨rfl, hb011⟩
     · have hz2 : (A1.err != 0) = true := by simpa using hae
       clear hae
       go_wp2_with fail
       go_ret
       exact ⟨rfl, hb04⟩
   · obtain ⟨r, hrr⟩ : ∃ r, r = Hu.hE H := ⟨_, rfl⟩
     have H0 : Hid (¬ Hu.hE H = 0) := h0
     have hz2 : (r != 0) = true := by rw [hrr]; simpa using h0
     have HRR := hid hrr
     clear h0 hrr
     go_wp2_with fail
     refine (serve_bad H (Hu.qO p t.size) _ _ w1 (HV.out.below hb01) HS.out ⟨_, rfl, liesC_nil _⟩ H0.out).mono ?_
     rintro e w3 ⟨u3, a3, rfl, hu3, ha3, hb3⟩
     rw [← HRR.out]
     clear x0 x1 x2 x3 x4 x5 x6
     have hb03 := below_tr hb01 hb3
     obtain ⟨fa3, fc3, ga3, gc3, sa3, sc3, rfl⟩ := hu3.shape
     obtain ⟨ta3, tc3, ca3, cc3, rfl⟩ := ha3.shape
     obtain ⟨wa, hwa⟩ : ∃ wa, wa = w3.alloc (.cells #[.slice fa3 zeroH.fos.length fc3, .slice ga3 zeroH.gs.length gc3, .slice sa3 zeroH.ss.length sc3, .int .i64 zeroH.nx, .int .i64 zeroH.la, .int .i64 zeroH.ro, .int .i64 zeroH.now] 28) := ⟨_, rfl⟩
     obtain ⟨w4, hwz⟩ : ∃ wz, wz = wa.alloc (.cells #[.int .i64 zeroA.err, .int .i64 zeroA.num, .bool zeroA.pg.reset, .slice ta3 zeroA.pg.tree.length tc3, .slice ca3 zeroA.pg.cos.length cc3, .int .i64 zeroA.pg.cur, .bool zeroA.pg.more] 39) := ⟨_, rfl⟩
     have sa1 : wa.heap.size = w3.heap.size + 1 := by rw [hwa]; simp
     have bwa : Below w3.heap.size w3 wa := by rw [hwa]; exact (Below.refl _ _).alloc (Nat.le_refl _) _
     have bwz : Below wa.heap.size wa w4 := by rw [hwz]; exact (Below.refl _ _).alloc (Nat.le_refl _) _
     have hbs3 : Below w3.heap.size w3 w4 := below_tr bwa bwz
     have HX3 : Hid (Cs w4 w3.heap.size [.slice fa3 zeroH.fos.length fc3, .slice ga3 zeroH.gs.length gc3, .slice sa3 zeroH.ss.length sc3, .int .i64 zeroH.nx, .int .i64 zeroH.la, .int .i64 zeroH.ro, .int .i64 zeroH.now]) := ((by rw [hwa]; exact Cs.new w3 [.slice fa3 zeroH.fos.length fc3, .slice ga3 zeroH.gs.length gc3, .slice sa3 zeroH.ss.length sc3, .int .i64 zeroH.nx, .int .i64 zeroH.la, .int .i64 zeroH.ro, .int .i64 zeroH.now] _ : Cs wa w3.heap.size [.slice fa3 zeroH.fos.length fc3, .slice ga3 zeroH.gs.length gc3, .slice sa3 zeroH.ss.length sc3, .int .i64 zeroH.nx, .int .i64 zeroH.la, .int .i64 zeroH.ro, .int .i64 zeroH.now]).below bwz : Cs w4 w3.heap.size _)
     have HA3 := hid (show Cs w4 (w3.heap.size + 1) [.int .i64 zeroA.err, .int .i64 zeroA.num, .bool zeroA.pg.reset, .slice ta3 zeroA.pg.tree.length tc3, .slice ca3 zeroA.pg.cos.length cc3, .int .i64 zeroA.pg.cur, .bool zeroA.pg.more] from by rw [← sa1, hwz]; exact Cs.new wa [.int .i64 zeroA.err, .int .i64 zeroA.num, .bool zeroA.pg.reset, .slice ta3 zeroA.pg.tree.length tc3, .slice ca3 zeroA.pg.cos.length cc3, .int .i64 zeroA.pg.cur, .bool zeroA.pg.more] _)
     have hwzz : (w3.alloc (.cells #[.slice fa3 zeroH.fos.length fc3, .slice ga3 zeroH.gs.length gc3, .slice sa3 zeroH.ss.length sc3, .int .i64 zeroH.nx, .int .i64 zeroH.la, .int .i64 zeroH.ro, .int .i64 zeroH.now] 28)).alloc (.cells #[.int .i64 zeroA.err, .int .i64 zeroA.num, .bool zeroA.pg.reset, .slice ta3 zeroA.pg.tree.length tc3, .slice ca3 zeroA.pg.cos.length cc3, .int .i64 zeroA.pg.cur, .bool zeroA.pg.more] 39) = w4 := by rw [hwz, hwa]
     have HWZ := hid hwzz
     have HU3 := hid (hu3.below hbs3)
     have HN3 := hid (ha3.below hbs3)
     have hls3 : w3.heap.size + 1 < w4.heap.size := HA3.out.lt
     clear hwa hwz bwa bwz sa1 hwzz hu3 ha3
     go_upto_region 4 with fail
     rw [HWZ.out]
     clear HWZ
     have hb04 := below_tr hb03 hbs3
     go_wp2_with fail
     go_ret
     exact ⟨rfl, hb04⟩
end Go.Proofs.YtchlgpeiombmdaaGreat
