/- The document's TellOf of any answer. -/
import Derived.Test.YthgjdgpjkcmcdaaDoorWTE
import Derived.Deep.Cut
import Derived.Test.YthgjdgpjkcmcdaaDoorWTA
import Derived.Test.YthgjdgpjkcmcdaaDoorRows
import Derived.Deep.Slices
import Derived.Lib.SmallJoins
import Derived.Carry
import Derived.SizedLaws
import Derived.Test.YthgjdgpjkcmcdaaDoorWTD
import Derived.Test.YthgjdgpjkcmcdaaDoorWTB
import Derived.LaidLaws
set_option linter.unusedSimpArgs false
set_option linter.unusedVariables false
namespace Go.Proofs.YthgjdgpjkcmcdaaDoor
open Go.RowKit

namespace Wr
theorem putR_mn {s : Ws} (h : s.mn = true) : ∀ x : It, (putR s x).mn = true
 | .n n => by simp only [putR, numR]; split <;> exact h
 | .t x => by simp only [putR, txtR]; split <;> first | rfl | exact h
 | .big => rfl
theorem runR_mn : ∀ (l : List It) {s : Ws}, s.mn = true → (runR s l).mn = true
 | [], _, h => h
 | x :: l, _, h => runR_mn l (putR_mn h x)
theorem runR_big {l : List It} {s : Ws} (h : It.big ∈ l) : (runR s l).mn = true := by
 obtain ⟨a, b, rfl⟩ := List.append_of_mem h
 rw [runR_app, runR_cons]
 exact runR_mn b rfl
theorem big_lst {α : Type} {m : Nat} {f : α → List It} {l : List α} (h : ¬ l.length ≤ m) : It.big ∈ lst m f l := by rw [lst, if_neg h]; simp
end Wr
set_option maxHeartbeats 1000000 in
theorem rwyes_any (b : Nat) (s : Ws) (x : Bool) (w : World) (h : RW b s w) (hlen : s.l.length ≤ 1000000000) :
    Calls Tryd.prog 39 #[.pointer (some ⟨b, 0, none⟩), .bool x] w fun e w' => e = .returned (.tuple #[]) ∧ RW b (Wr.numR s (if x = true then 1 else 0)) w' ∧ w.grownBy w' (some b) := by
 cases x with
 | true =>
  have HN := hid (rwnum_any b s 1 w h ⟨by omega, by omega⟩ hlen)
  clear h
  go_enter Tryd.func39, Tryd.ntmps39
  go_wp2_with fail
  refine HN.out.mono ?_
  rintro e w1 ⟨rfl, h1, hf1⟩
  go_wp2_with fail
  go_end0
  exact ⟨rfl, h1, hf1⟩
 | false =>
  have HN := hid (rwnum_any b s 0 w h ⟨by omega, by omega⟩ hlen)
  clear h
  go_enter Tryd.func39, Tryd.ntmps39
  go_wp2_with fail
  refine HN.out.mono ?_
  rintro e w1 ⟨rfl, h1, hf1⟩
  go_wp2_with fail
  go_end0
  exact ⟨rfl, h1, hf1⟩
set_option maxHeartbeats 4000000 in
theorem tellOf_any (A : An) (v : Value) (w : World) (hq : LiesA w v A) (hz : WfA A) :
    Calls Tryd.prog 16 #[v] w fun e w' => e = .returned (.tuple #[.string (Wr.fin (Wr.run Wr.e0 (Wr.anI A))).1, .int .i64 (Wr.fin (Wr.run Wr.e0 (Wr.anI A))).2]) ∧ Below w.heap.size w w' := by
 rw [Wr.fin_alike (Wr.alike_run (Wr.anI A) (⟨rfl, rfl, fun _ => rfl⟩ : Wr.Alike Wr.e0 Wr.e0))]
 obtain ⟨vt, vc, rfl, lt, lc⟩ := hq
 obtain ⟨ta, tc, rfl, htc, htn, hT⟩ := lt
 obtain ⟨ca, cc, rfl, hcc, hcn, hC⟩ := lc
 obtain ⟨er, nu, rs, T, C, cu, mo⟩ := A
 simp only at htc htn hT hcc hcn hC ⊢
 obtain ⟨wa, hwa⟩ : ∃ wa, wa = w.alloc (.cells #[.int .i64 er, .int .i64 nu, .bool rs, .slice ta T.length tc, .slice ca C.length cc, .int .i64 cu, .bool mo] 40) := ⟨_, rfl⟩
 obtain ⟨wb, hwb⟩ : ∃ wb, wb = wa.alloc (.cells #[.string ⟨#[]⟩, .bool false, .bool false] 61) := ⟨_, rfl⟩
 obtain ⟨w0, hw0⟩ : ∃ wc, wc = wb.alloc (.cells #[.bool rs, .slice ta T.length tc, .slice ca C.length cc, .int .i64 cu, .bool mo] 38) := ⟨_, rfl⟩
 have sa : wa.heap.size = w.heap.size + 1 := by rw [hwa]; simp
 have sb : wb.heap.size = w.heap.size + 1 + 1 := by rw [hwb]; simp [sa]
 have hba : Below w.heap.size w wa := by rw [hwa]; exact below_alloc _ _
 have hbb : Below wa.heap.size wa wb := by rw [hwb]; exact below_alloc _ _
 have hbc : Below wb.heap.size wb w0 := by rw [hw0]; exact below_alloc _ _
 have hab : Below w.heap.size w w0 := (hba.trans (hbb.mono (by omega))).trans (hbc.mono (by omega))
 have m1 : Cs w0 w.heap.size [.int .i64 er, .int .i64 nu, .bool rs, .slice ta T.length tc, .slice ca C.length cc, .int .i64 cu, .bool mo] := (Cs.below (show Cs wa w.heap.size [.int .i64 er, .int .i64 nu, .bool rs, .slice ta T.length tc, .slice ca C.length cc, .int .i64 cu, .bool mo] by rw [hwa]; exact Cs.new w _ _) hbb).below hbc
 have m2 : Cs w0 (w.heap.size + 1 + 1) [.bool rs, .slice ta T.length tc, .slice ca C.length cc, .int .i64 cu, .bool mo] := by rw [← sb, hw0]; exact Cs.new wb _ _
 obtain ⟨g, hg⟩ : ∃ g, g = w.heap.size + 1 + 1 := ⟨_, rfl⟩
 rw [← hg] at m2
 have HGG := hid hg.symm
 obtain ⟨b, hb⟩ : ∃ b, b = w.heap.size + 1 := ⟨_, rfl⟩
 have h0 : RW b Wr.e0 w0 := by
  have h1 : RW b Wr.e0 wb := by unfold RW; rw [hb, ← sa, hwb]; exact heap_alloc_new wa _
  exact h1.below hbc
 have HM := hid (show ∀ W, w0.grownBy W (some b) → Cs W w.heap.size [.int .i64 er, .int .i64 nu, .bool rs, .slice ta T.length tc, .slice ca C.length cc, .int .i64 cu, .bool mo] from fun W hg => m1.nb hg (by omega))
 have HP := hid (show ∀ W, w0.grownBy W (some b) → Cs W g [.bool rs, .slice ta T.length tc, .slice ca C.length cc, .int .i64 cu, .bool mo] from fun W hgr => m2.nb hgr (by omega))
 have HLW := hid (show ∀ W, w0.grownBy W (some b) → Below w.heap.size w W from fun W hg => hab.trans (nb_low hg (by omega) hab.size))
 have H0 := hid h0
 have hf0 : w0.grownBy w0 (some b) := nb_below b (Below.refl _ _)
 obtain ⟨t0, ht0⟩ : ∃ t, t = Wr.e0 := ⟨_, rfl⟩
 rw [← ht0] at H0 ⊢
 have l0 : t0.l.length = 0 := by rw [ht0]; rfl
 have HW := hid (show (((w.alloc (.cells #[.int .i64 er, .int .i64 nu, .bool rs, .slice ta T.length tc, .slice ca C.length cc, .int .i64 cu, .bool mo] 40)).alloc (.cells #[.string ⟨#[]⟩, .bool false, .bool false] 61)).alloc (.cells #[.bool rs, .slice ta T.length tc, .slice ca C.length cc, .int .i64 cu, .bool mo] 38)) = w0 from by rw [← hwa, ← hwb, ← hw0])
 have HBB := hid hb.symm
 have hbw : w.heap.size ≤ b := by omega
 have HLT := hid hT
 have HLC := hid hC
 have HC := hid hz
 have q0 := (HP.out w0 hf0).cell 1 rfl
 have q1 := (HP.out w0 hf0).cell 2 rfl
 clear hg hwa hwb hw0 sa sb hba hbb hbc hab m1 m2 h0 ht0 hT hC hz hb
 by_cases hlt : (60 : Int) < T.length
 · have HF := hid (Ws.fin_many (Wr.runR_big (s := t0) (l := Wr.anI ⟨er, nu, ⟨rs, T, C, cu, mo⟩⟩) (by simp only [Wr.anI, Wr.pgI, List.mem_cons, List.mem_append]; exact Or.inr (Or.inr (Or.inr (Or.inl (Or.inl (Wr.big_lst (by omega)))))))))
   go_enter Tryd.func16, Tryd.ntmps16
   go_upto_region 3 with fail
   rw [HW.out, HGG.out]
   go_wp2_with fail
   go_ret2
   rw [HF.out]
   exact ⟨rfl, HLW.out w0 hf0⟩
 by_cases hlc : (10 : Int) < C.length
 · have HF := hid (Ws.fin_many (Wr.runR_big (s := t0) (l := Wr.anI ⟨er, nu, ⟨rs, T, C, cu, mo⟩⟩) (by simp only [Wr.anI, Wr.pgI, List.mem_cons, List.mem_append]; exact Or.inr (Or.inr (Or.inr (Or.inl (Or.inr (Wr.big_lst (by omega)))))))))
   go_enter Tryd.func16, Tryd.ntmps16
   go_upto_region 3 with fail
   rw [HW.out, HGG.out]
   go_wp2_with fail
   go_ret2
   rw [HF.out]
   exact ⟨rfl, HLW.out w0 hf0⟩
 have HRES := hid (show Wr.runR t0 (Wr.anI ⟨er, nu, ⟨rs, T, C, cu, mo⟩⟩) = Wr.numR (Wr.numR (Wr.runR (Wr.numR (Wr.runR (Wr.numR (Wr.numR (Wr.numR (Wr.numR t0 er) nu) (if rs = true then 1 else 0)) T.length) (T.flatMap Wr.enI)) C.length) (C.flatMap Wr.coI)) cu) (if mo = true then 1 else 0) from by
  rw [Wr.anI, Wr.pgI, Wr.lst, if_pos (show T.length ≤ 60 by omega), Wr.lst, if_pos (show C.length ≤ 10 by omega), Wr.runR_cons, Wr.runR_cons, Wr.runR_cons, Wr.runR_app, Wr.runR_app, Wr.runR_cons, Wr.runR_cons]; rfl)
 obtain ⟨RS, hRS⟩ : ∃ x, x = Wr.runR t0 (Wr.anI ⟨er, nu, ⟨rs, T, C, cu, mo⟩⟩) := ⟨_, rfl⟩
 rw [← hRS] at HRES ⊢
 clear hRS
 go_enter Tryd.func16, Tryd.ntmps16
 go_upto_region 3 with fail
 rw [HW.out, HGG.out, HBB.out]
 clear HW
 have c0 := (HM.out w0 hf0).cell 0 rfl
 go_wp2_with fail
 refine (rwnum_any b t0 er w0 H0.out HC.out.e (by omega)).mono ?_
 rintro e w1 ⟨rfl, h1, hf⟩
 have hf1 := nb_tr hf0 hf
 obtain ⟨t1, ht⟩ : ∃ tq, tq = Wr.numR t0 er := ⟨_, rfl⟩
 have L1 : t1.l.length ≤ t0.l.length + 1021 := by rw [ht]; exact Wr.putR_len (s := t0) (x := .n er) HC.out.e
 rw [← ht] at h1
 have HT1 := hid ht
 have H1 := hid h1
 clear ht h1 hf c0 q0 q1
 have c1 := (HM.out w1 hf1).cell 1 rfl
 go_wp2_with fail
 refine (rwnum_any b t1 nu w1 H1.out HC.out.n (by omega)).mono ?_
 rintro e w2 ⟨rfl, h1, hf⟩
 have hf2 := nb_tr hf1 hf
 obtain ⟨t2, ht⟩ : ∃ tq, tq = Wr.numR t1 nu := ⟨_, rfl⟩
 have L2 : t2.l.length ≤ t1.l.length + 1021 := by rw [ht]; exact Wr.putR_len (s := t1) (x := .n nu) HC.out.n
 rw [← ht] at h1
 have HT2 := hid ht
 have H2 := hid h1
 clear ht h1 hf c1
 have c0 := (HP.out w2 hf2).cell 0 rfl
 go_wp2_with fail
 refine (rwyes_any b t2 rs w2 H2.out (by omega)).mono ?_
 rintro e w3 ⟨rfl, h1, hf⟩
 have hf3 := nb_tr hf2 hf
 obtain ⟨t3, ht⟩ : ∃ tq, tq = Wr.numR t2 (if rs = true then 1 else 0) := ⟨_, rfl⟩
 have L3 : t3.l.length ≤ t2.l.length + 1021 := by rw [ht]; exact Wr.putR_len (s := t2) (x := Wr.yn rs) (Wr.yn_wf _)
 rw [← ht] at h1
 have HT3 := hid ht
 have H3 := hid h1
 clear ht h1 hf c0
 have c1 := (HP.out w3 hf3).cell 1 rfl
 go_wp2_with fail
 refine (rwnum_any b t3 T.length w3 H3.out ⟨by omega, by omega⟩ (by omega)).mono ?_
 rintro e w4 ⟨rfl, h1, hf⟩
 have hf4 := nb_tr hf3 hf
 obtain ⟨t4, ht⟩ : ∃ tq, tq = Wr.numR t3 T.length := ⟨_, rfl⟩
 have L4 : t4.l.length ≤ t3.l.length + 1021 := by rw [ht]; exact Wr.putR_len (s := t3) (x := .n T.length) ⟨by omega, by omega⟩
 rw [← ht] at h1
 have HT4 := hid ht
 have H4 := hid h1
 clear ht h1 hf c1
 have HL := hid (show ∀ k, (Wr.runR t4 ((T.take k).flatMap Wr.enI)).l.length ≤ t4.l.length + 260000 from fun k => by
  have h1 := Wr.fmR_len Wr.enI 4 t4 T k (fun x hx => (HC.out.p.t x hx).it)
  omega)
 have HS : Hid (RW b (Wr.runR t4 ((T.take 0).flatMap Wr.enI)) w4) := H4
 clear H4
 have c1 := (HP.out w4 hf4).cell 1 rfl
 go_wp2_with fail
 clear c1
 go_loopw [6] (fun i wr => ∃ k : Nat, k ≤ T.length ∧ i = .int .i64 k ∧ Hid (RW b (Wr.runR t4 ((T.take k).flatMap Wr.enI)) wr) ∧ w0.grownBy wr (some b)) (fun i _ => T.length - (intOf i).toNat)
 case atStart => exact ⟨0, Nat.zero_le _, rfl, HS, hf4⟩
 case round =>
  obtain ⟨k, hk, rfl, HV, hf⟩ := hrel
  have d := (HP.out wr hf).cell 1 rfl
  by_cases hlt' : k < T.length
  · obtain ⟨bb, o, rfl, hbb, he⟩ := HLT.out k hlt'
    have hwf := HC.out.p.t _ (List.getElem_mem hlt')
    have hl0 := HL.out k
    have HX := hid (Wr.fmR_next Wr.enI t4 T k hlt')
    have HBl := hid (show ∀ W, w0.grownBy W (some b) → EnAt W bb (o + k * 4) T[k] from fun W hg => he.below hbb (HLW.out W hg))
    generalize Wr.runR t4 ((T.take k).flatMap Wr.enI) = t10 at *
    clear he
    generalize T[k] = x at *
    have H10 := HV
    have hf10 := hf
    obtain ⟨w10, hw10⟩ : ∃ wx, wx = wr := ⟨_, rfl⟩
    rw [← hw10] at H10 hf10 d ⊢
    clear HV hf HS
    have HWR := hid hw10
    clear hw10
    obtain ⟨c0, c1, c2, c3⟩ := HBl.out w10 hf10
    go_wp2_with fail
    refine (rwtxt_any b t10 x.path w10 H10.out (by omega) hwf.p).mono ?_
    rintro e w11 ⟨rfl, h1, hf⟩
    have hf11 := nb_tr hf10 hf
    obtain ⟨t11, ht⟩ : ∃ tq, tq = Wr.txtR t10 x.path := ⟨_, rfl⟩
    have L11 : t11.l.length ≤ t10.l.length + 1021 := by rw [ht]; exact Wr.putR_len (s := t10) (x := .t x.path) trivial
    rw [← ht] at h1
    have HT11 := hid ht
    have H11 := hid h1
    clear ht h1 hf c0 c1 c2 c3 d
    obtain ⟨c0, c1, c2, c3⟩ := HBl.out w11 hf11
    have d := (HP.out w11 hf11).cell 1 rfl
    go_wp2_with fail
    refine (rwyes_any b t11 x.folder w11 H11.out (by omega)).mono ?_
    rintro e w12 ⟨rfl, h1, hf⟩
    have hf12 := nb_tr hf11 hf
    obtain ⟨t12, ht⟩ : ∃ tq, tq = Wr.numR t11 (if x.folder = true then 1 else 0) := ⟨_, rfl⟩
    have L12 : t12.l.length ≤ t11.l.length + 1021 := by rw [ht]; exact Wr.putR_len (s := t11) (x := Wr.yn x.folder) (Wr.yn_wf _)
    rw [← ht] at h1
    have HT12 := hid ht
    have H12 := hid h1
    clear ht h1 hf c0 c1 c2 c3 d
    obtain ⟨c0, c1, c2, c3⟩ := HBl.out w12 hf12
    have d := (HP.out w12 hf12).cell 1 rfl
    go_wp2_with fail
    refine (rwtxt_any b t12 x.text w12 H12.out (by omega) hwf.t).mono ?_
    rintro e w13 ⟨rfl, h1, hf⟩
    have hf13 := nb_tr hf12 hf
    obtain ⟨t13, ht⟩ : ∃ tq, tq = Wr.txtR t12 x.text := ⟨_, rfl⟩
    have L13 : t13.l.length ≤ t12.l.length + 1021 := by rw [ht]; exact Wr.putR_len (s := t12) (x := .t x.text) trivial
    rw [← ht] at h1
    have HT13 := hid ht
    have H13 := hid h1
    clear ht h1 hf c0 c1 c2 c3 d
    obtain ⟨c0, c1, c2, c3⟩ := HBl.out w13 hf13
    have d := (HP.out w13 hf13).cell 1 rfl
    go_wp2_with fail
    refine (rwnum_any b t13 x.ver w13 H13.out hwf.v (by omega)).mono ?_
    rintro e w14 ⟨rfl, h1, hf⟩
    have hf14 := nb_tr hf13 hf
    obtain ⟨t14, ht⟩ : ∃ tq, tq = Wr.numR t13 x.ver := ⟨_, rfl⟩
    have L14 : t14.l.length ≤ t13.l.length + 1021 := by rw [ht]; exact Wr.putR_len (s := t13) (x := .n x.ver) hwf.v
    rw [← ht] at h1
    have HT14 := hid ht
    have H14 := hid h1
    clear ht h1 hf c0 c1 c2 c3 d
    go_wp2_with fail
    go_roundw
    case rel => exact ⟨k + 1, by omega, by simp, hid (by rw [HX.out]; have h := H14.out; rw [HT14.out, HT13.out, HT12.out, HT11.out] at h; exact h), hf14⟩
    case measure => simp [intOf]; omega
  · obtain rfl : k = T.length := by omega
    have l5 := HL.out T.length
    have H5 := hid HV.out
    rw [List.take_length] at H5 l5
    obtain ⟨t5, ht⟩ : ∃ tq, tq = Wr.runR t4 (T.flatMap Wr.enI) := ⟨_, rfl⟩
    rw [← ht] at H5 l5
    have HT5 := hid ht
    obtain ⟨w5, hw5⟩ : ∃ wx, wx = wr := ⟨_, rfl⟩
    rw [← hw5] at H5 hf d ⊢
    have hf5 := hf
    clear ht HV hf HL HS hw5
    have c2 := (HP.out w5 hf5).cell 2 rfl
    go_wp2_with fail
    refine (rwnum_any b t5 C.length w5 H5.out ⟨by omega, by omega⟩ (by omega)).mono ?_
    rintro e w6 ⟨rfl, h1, hf⟩
    have hf6 := nb_tr hf5 hf
    obtain ⟨t6, ht⟩ : ∃ tq, tq = Wr.numR t5 C.length := ⟨_, rfl⟩
    have L6 : t6.l.length ≤ t5.l.length + 1021 := by rw [ht]; exact Wr.putR_len (s := t5) (x := .n C.length) ⟨by omega, by omega⟩
    rw [← ht] at h1
    have HT6 := hid ht
    have H6 := hid h1
    clear ht h1 hf c2 d
    have HL := hid (show ∀ k, (Wr.runR t6 ((C.take k).flatMap Wr.coI)).l.length ≤ t6.l.length + 1100000 from fun k => by
     have h1 := Wr.fmR_len Wr.coI 103 t6 C k (fun x hx => (HC.out.p.o x hx).it)
     omega)
    have HS : Hid (RW b (Wr.runR t6 ((C.take 0).flatMap Wr.coI)) w6) := H6
    clear H6
    have c2 := (HP.out w6 hf6).cell 2 rfl
    go_wp2_with fail
    clear c2
    go_loopw [7] (fun i wr => ∃ k : Nat, k ≤ C.length ∧ i = .int .i64 k ∧ Hid (RW b (Wr.runR t6 ((C.take k).flatMap Wr.coI)) wr) ∧ w0.grownBy wr (some b)) (fun i _ => C.length - (intOf i).toNat)
    case atStart => exact ⟨0, Nat.zero_le _, rfl, HS, hf6⟩
    case round =>
     obtain ⟨k, hk, rfl, HV, hf⟩ := hrel
     have d := (HP.out wr hf).cell 2 rfl
     by_cases hlt' : k < C.length
     · obtain ⟨bb, o, rfl, hbb, he⟩ := HLC.out k hlt'
       have hwf := HC.out.p.o _ (List.getElem_mem hlt')
       have hl0 := HL.out k
       have HX := hid (Wr.fmR_next Wr.coI t6 C k hlt')
       have he0 := he
       have HBl := hid (show ∀ W, w0.grownBy W (some b) → CoAt W bb (o + k * 3) C[k] from fun W hg => he.below hbb (HLW.out W hg))
       generalize Wr.runR t6 ((C.take k).flatMap Wr.coI) = t10 at *
       clear he
       generalize C[k] = x at *
       have H10 := HV
       have hf10 := hf
       obtain ⟨w10, hw10⟩ : ∃ wx, wx = wr := ⟨_, rfl⟩
       rw [← hw10] at H10 hf10 d ⊢
       clear HV hf HS
       have HWR := hid hw10
       clear hw10
       obtain ⟨u, hu0, hLu⟩ : ∃ u, (∀ W, w0.grownBy W (some b) → W.cell? ⟨bb, o + k * 3 + 2, none⟩ = some u) ∧ LiesC w u x.ch := by
        obtain ⟨_, _, u, hu, hl⟩ := he0
        exact ⟨u, fun W hg => ((HLW.out W hg).cell (p := ⟨bb, o + k * 3 + 2, none⟩) hbb).trans hu, hl⟩
       have HU := hid hu0
       have HLU := hid hLu
       obtain ⟨au, cu', rfl, _⟩ := hLu
       clear hu0 he0
       obtain ⟨c0, c1, _⟩ := HBl.out w10 hf10
       go_wp2_with fail
       refine (rwnum_any b t10 x.nu w10 H10.out hwf.n (by omega)).mono ?_
       rintro e w11 ⟨rfl, h1, hf⟩
       have hf11 := nb_tr hf10 hf
       obtain ⟨t11, ht⟩ : ∃ tq, tq = Wr.numR t10 x.nu := ⟨_, rfl⟩
       have L11 : t11.l.length ≤ t10.l.length + 1021 := by rw [ht]; exact Wr.putR_len (s := t10) (x := .n x.nu) hwf.n
       rw [← ht] at h1
       have HT11 := hid ht
       have H11 := hid h1
       clear ht h1 hf c0 c1 d
       obtain ⟨c0, c1, _⟩ := HBl.out w11 hf11
       have d := (HP.out w11 hf11).cell 2 rfl
       go_wp2_with fail
       refine (rwtxt_any b t11 x.ke w11 H11.out (by omega) hwf.k).mono ?_
       rintro e w12 ⟨rfl, h1, hf⟩
       have hf12 := nb_tr hf11 hf
       obtain ⟨t12, ht⟩ : ∃ tq, tq = Wr.txtR t11 x.ke := ⟨_, rfl⟩
       have L12 : t12.l.length ≤ t11.l.length + 1021 := by rw [ht]; exact Wr.putR_len (s := t11) (x := .t x.ke) trivial
       rw [← ht] at h1
       have HT12 := hid ht
       have H12 := hid h1
       clear ht h1 hf c0 c1 d
       have c2 := HU.out w12 hf12
       have d := (HP.out w12 hf12).cell 2 rfl
       go_wp2_with fail
       refine (rwchs_any w x.ch _ b t12 w12 HLU.out (HLW.out w12 hf12) (by omega) H12.out (by omega) hwf.c).mono ?_
       rintro e w13 ⟨rfl, h1, hf⟩
       have hf13 := nb_tr hf12 hf
       have H13 := hid h1
       clear h1 hf c2 d
       go_wp2_with fail
       go_roundw
       case rel => exact ⟨k + 1, by omega, by simp, hid (by rw [HX.out, Wr.coI, Wr.runR_app]; have h := H13.out; rw [HT12.out, HT11.out] at h; exact h), hf13⟩
       case measure => simp [intOf]; omega
     · obtain rfl : k = C.length := by omega
       have l7 := HL.out C.length
       have H7 := hid HV.out
       rw [List.take_length] at H7 l7
       obtain ⟨t7, ht⟩ : ∃ tq, tq = Wr.runR t6 (C.flatMap Wr.coI) := ⟨_, rfl⟩
       rw [← ht] at H7 l7
       have HT7 := hid ht
       obtain ⟨w7, hw7⟩ : ∃ wx, wx = wr := ⟨_, rfl⟩
       rw [← hw7] at H7 hf d ⊢
       have hf7 := hf
       clear ht HV hf HL HS hw7
       have c3 := (HP.out w7 hf7).cell 3 rfl
       go_wp2_with fail
       refine (rwnum_any b t7 cu w7 H7.out HC.out.p.u (by omega)).mono ?_
       rintro e w8 ⟨rfl, h1, hf⟩
       have hf8 := nb_tr hf7 hf
       obtain ⟨t8, ht⟩ : ∃ tq, tq = Wr.numR t7 cu := ⟨_, rfl⟩
       have L8 : t8.l.length ≤ t7.l.length + 1021 := by rw [ht]; exact Wr.putR_len (s := t7) (x := .n cu) HC.out.p.u
       rw [← ht] at h1
       have HT8 := hid ht
       have H8 := hid h1
       clear ht h1 hf c3 d
       have c4 := (HP.out w8 hf8).cell 4 rfl
       go_wp2_with fail
       refine (rwyes_any b t8 mo w8 H8.out (by omega)).mono ?_
       rintro e w9 ⟨rfl, h1, hf⟩
       have hf9 := nb_tr hf8 hf
       obtain ⟨t9, ht⟩ : ∃ tq, tq = Wr.numR t8 (if mo = true then 1 else 0) := ⟨_, rfl⟩
       have L9 : t9.l.length ≤ t8.l.length + 1021 := by rw [ht]; exact Wr.putR_len (s := t8) (x := Wr.yn mo) (Wr.yn_wf _)
       rw [← ht] at h1
       have HT9 := hid ht
       have H9 := hid h1
       clear ht h1 hf c4
       have HD := hid (rwdone_any b _ w9 H9.out)
       go_wp2_with fail
       refine HD.out.mono ?_
       rintro e w15 ⟨rfl, rfl⟩
       go_wp2_with fail
       go_ret2
       have hfin : t9 = RS := by rw [HRES.out, HT9.out, HT8.out, HT7.out, HT6.out, HT5.out, HT4.out, HT3.out, HT2.out, HT1.out]
       rw [hfin]
       exact ⟨rfl, HLW.out _ hf9⟩
end Go.Proofs.YthgjdgpjkcmcdaaDoor
namespace Go.Proofs.YthgjdgpjkcmcdaaDoor
open Go.RowKit

set_option maxHeartbeats 1000000 in
theorem wireTells_walk (A : An) (v : Value) (w : World) (hq : LiesA w v A) (hz : WfA A) (h6 : 5 < w.heap.size) (hv : VarsW w) :
    Calls Tryd.prog 5 #[v] w fun e w' => e = .returned (.bool true) ∧ Below w.heap.size w w' := by
 have HQ := hid hq
 obtain ⟨vt, vc, rfl, hL, hC⟩ := hq
 obtain ⟨ta, tc, rfl, hcv⟩ : ∃ a c, vt = .slice a A.pg.tree.length c ∧ True := by obtain ⟨a, c, h, _⟩ := hL; exact ⟨a, c, h, trivial⟩
 obtain ⟨ca, cc, rfl⟩ := liesO_shape hC
 obtain ⟨wa, hwa⟩ : ∃ wa, wa = w.alloc (.cells #[.int .i64 A.err, .int .i64 A.num, .bool A.pg.reset, .slice ta A.pg.tree.length tc, .slice ca A.pg.cos.length cc, .int .i64 A.pg.cur, .bool A.pg.more] 40) := ⟨_, rfl⟩
 have hba : Below w.heap.size w wa := by rw [hwa]; exact below_alloc _ _
 have hca : Cs wa w.heap.size [.int .i64 A.err, .int .i64 A.num, .bool A.pg.reset, .slice ta A.pg.tree.length tc, .slice ca A.pg.cos.length cc, .int .i64 A.pg.cur, .bool A.pg.more] := by rw [hwa]; exact Cs.new w _ _
 have hLq : ∀ W, Below w.heap.size w W → LiesA W (.agg #[.int .i64 A.err, .int .i64 A.num, .bool A.pg.reset, .slice ta A.pg.tree.length tc, .slice ca A.pg.cos.length cc, .int .i64 A.pg.cur, .bool A.pg.more]) A := fun W hW => ⟨_, _, rfl, hL.below hW, hC.below hW⟩
 have HV := hid (fun W (hW : Below w.heap.size w W) => hv.belowB h6 hW)
 have HLQ := hid hLq
 have HCA := hid (And.intro hba hca)
 have HZ := hid hz
 have HA := hid (tell_any A _ wa (hLq wa hba) hz (by have := hba.size; omega) (hv.belowB h6 hba).pow)
 rw [hwa] at HA
 have HWA := hid hwa
 have HF := hid (Wr.fin_none (Wr.run Wr.e0 (Wr.anI A)))
 obtain ⟨t, ht⟩ : ∃ t, t = (Wr.fin (Wr.run Wr.e0 (Wr.anI A))).1 := ⟨_, rfl⟩
 obtain ⟨e0, he0⟩ : ∃ e0, e0 = (Wr.fin (Wr.run Wr.e0 (Wr.anI A))).2 := ⟨_, rfl⟩
 rw [← ht, ← he0] at HA HF
 have HT := hid (And.intro ht he0)
 clear hwa hba hca hLq hv hz hL hC hcv ht he0 HQ
 go_enter Tryd.func5, Tryd.ntmps5
 go_wp2_with fail
 refine HA.out.mono ?_
 rintro e w1 ⟨rfl, hb1⟩
 rw [← HWA.out] at hb1
 obtain ⟨hba, hca⟩ := HCA.out
 have hB1 := hba.trans (hb1.mono hba.size)
 have hc1 := hca.below hb1
 have HB := hid (tellOf_any A _ w1 (HLQ.out w1 hB1) HZ.out)
 rw [← HT.out.1, ← HT.out.2] at HB
 have y0 := hc1.cell 0 rfl
 have y1 := hc1.cell 1 rfl
 have y2 := hc1.cell 2 rfl
 have y3 := hc1.cell 3 rfl
 have y4 := hc1.cell 4 rfl
 have y5 := hc1.cell 5 rfl
 have y6 := hc1.cell 6 rfl
 clear hba hca hb1 hc1 HA HWA HCA HT
 go_wp2_with fail
 refine HB.out.mono ?_
 rintro e w2 ⟨rfl, hb2⟩
 have hB2 := hB1.trans (hb2.mono hB1.size)
 clear y0 y1 y2 y3 y4 y5 y6 hb2 HB
 go_wp2_with fail
 refine (wireBegun_yes w2 (by have := hB2.size; omega) (HV.out w2 hB2)).mono ?_
 rintro e w3 ⟨rfl, hb3⟩
 have hB3 := hB2.trans (hb3.mono hB2.size)
 clear hb3
 go_wp2_with fail
 refine (textIsX t e0 w3 HF.out).mono ?_
 rintro e w4 ⟨rfl, rfl⟩
 go_wp2_with fail
 go_ret
 exact ⟨rfl, hB3⟩
end Go.Proofs.YthgjdgpjkcmcdaaDoor
namespace Go.Proofs.YthgjdgpjkcmcdaaDoor
open Go.ChangeShapes Go.WideShapes Go.ChangeAt Go.RowKit

namespace Bk
theorem mem {H : Type} {d : DataW H} : ∀ {l : List (DataW H)}, d ∈ l → Rows.uptoBulk d ≤ Rows.uptoBulkAll l
 | [], h => by cases h
 | x :: r, h => by
  rw [Rows.uptoBulkAll]
  rcases List.mem_cons.1 h with rfl | h
  · omega
  · have := mem h; omega
theorem len {H : Type} : ∀ {l : List (DataW H)}, (∀ d ∈ l, 1 ≤ Rows.uptoBulk d) → l.length ≤ Rows.uptoBulkAll l
 | [], _ => Nat.zero_le _
 | x :: r, h => by
  rw [Rows.uptoBulkAll, List.length_cons]
  have h1 := h x (by simp)
  have h2 := len (l := r) fun d hd => h d (by simp [hd])
  omega
end Bk

theorem Tryd.cellsE : Tryd.prog.cellsOf 76 = 4 := by kernel_rfl
theorem Tryd.cells9 : Tryd.prog.cellsOf 9 = 1 := by kernel_rfl
theorem Tryd.cells4 : Tryd.prog.cellsOf 4 = 1 := by kernel_rfl
theorem Tryd.cells3 : Tryd.prog.cellsOf 3 = 1 := by kernel_rfl
def datE {H : Type} (e : En) : DataW H := .agg [.lit (.string e.path.data.toList), .lit (.bool e.folder), .lit (.string e.text.data.toList), .lit (.int .i64 e.ver)]
theorem list4 {α : Type} {l : List α} (h : l.length = 4) : ∃ a b c d, l = [a, b, c, d] := by
 rcases l with _ | ⟨a, _ | ⟨b, _ | ⟨c, _ | ⟨d, _ | ⟨e, r⟩⟩⟩⟩⟩
 all_goals first | exact ⟨a, b, c, d, rfl⟩ | (simp at h)
theorem spot_none {W : World} {a : Addr} {v : Value} (k : W.cell? a = some v) : a.spot = none := by
 unfold World.cell? at k
 cases hq : a.spot with
 | none => rfl
 | some z => rw [hq] at k; simp at k; split at k <;> cases k
end Go.Proofs.YthgjdgpjkcmcdaaDoor
namespace Go.Proofs.YthgjdgpjkcmcdaaDoor
open Go.ChangeShapes Go.WideShapes Go.ChangeAt Go.RowKit

theorem Tryd.cellsC : Tryd.prog.cellsOf 95 = 5 := by kernel_rfl
theorem list5 {α : Type} {l : List α} (h : l.length = 5) : ∃ a b c d e, l = [a, b, c, d, e] := by
 rcases l with _ | ⟨a, _ | ⟨b, _ | ⟨c, _ | ⟨d, _ | ⟨e, _ | ⟨f, r⟩⟩⟩⟩⟩⟩
 all_goals first | exact ⟨a, b, c, d, e, rfl⟩ | (simp at h)
theorem fields5 {H : Type} {enc : TypeId × Value → H} {P : Program} {w : World} {base : Nat} {spare : Nat → Bool} {held : Bool} {t : TypeId} {f0 f1 f2 f3 f4 : Field} {fuel : Nat} {cs : List Value} {x : DataW H × List MemPlace} (ht : P.underlying t = some (.struct #[f0, f1, f2, f3, f4])) (h : DataW.trod enc P w base spare held fuel t cs = some x) :
    ∃ y0 y1 y2 y3 y4 n, x = (.agg [y0.1, y1.1, y2.1, y3.1, y4.1], y0.2 ++ (y1.2 ++ (y2.2 ++ (y3.2 ++ y4.2)))) ∧ cs.length = P.cellsOf t ∧ DataW.trod enc P w base spare held n f0.type ((cs.drop f0.offset).take (P.cellsOf f0.type)) = some y0 ∧
     DataW.trod enc P w base spare held n f1.type ((cs.drop f1.offset).take (P.cellsOf f1.type)) = some y1 ∧ DataW.trod enc P w base spare held n f2.type ((cs.drop f2.offset).take (P.cellsOf f2.type)) = some y2 ∧
     DataW.trod enc P w base spare held n f3.type ((cs.drop f3.offset).take (P.cellsOf f3.type)) = some y3 ∧ DataW.trod enc P w base spare held n f4.type ((cs.drop f4.offset).take (P.cellsOf f4.type)) = some y4 := by
 obtain ⟨xs, n, _, rfl, hl, hlen, hf⟩ := DataW.trod_struct ht h
 match xs, hlen with
 | [y0, y1, y2, y3, y4], _ => exact ⟨y0, y1, y2, y3, y4, n, by simp, hl, by simpa using hf 0 f0 rfl, by simpa using hf 1 f1 rfl, by simpa using hf 2 f2 rfl, by simpa using hf 3 f3 rfl, by simpa using hf 4 f4 rfl⟩
def datC {H : Type} (c : Pp.Ch) : DataW H := .agg [.lit (.int .i64 c.k), .lit (.string c.p.data.toList), .lit (.string c.q.data.toList), .lit (.string c.t.data.toList), .lit (.int .i64 c.b)]
theorem Tryd.bytesE : Tryd.prog.bytesOf 76 = 48 := by kernel_rfl
theorem all_mem {H : Type} {P : Program} {e : TypeId} : ∀ {l : List (DataW H)} {d : DataW H}, d ∈ l → ∀ n ∈ d.weights P e, n ∈ DataW.weightsAll P e l
 | [], _, h => by cases h
 | x :: r, d, h => by
  intro n hn
  rw [DataW.weightsAll]
  rcases List.mem_cons.1 h with rfl | h
  · exact List.mem_append_left _ hn
  · exact List.mem_append_right _ (all_mem h n hn)
theorem Tryd.bytesCh : Tryd.prog.bytesOf 95 = 64 := by kernel_rfl
theorem i64_wf {n : Int} (h : (Lit.int .i64 n).wf = true) : I64 n := by
 simp only [Lit.wf, Bool.and_eq_true, decide_eq_true_eq] at h
 exact h
theorem open_chX {H : Type} {enc : TypeId × Value → H} {W : World} {n i : Nat} {a : Addr} {x : DataW H} {pl : List MemPlace} {cs' : List Value} (ha : a.spot = none)
    (h1 : W.cells? 0 (a.add (i * Tryd.prog.cellsOf 95)) (Tryd.prog.cellsOf 95) = some cs') (h2 : DataW.trod enc Tryd.prog W 0 (fun _ => true) true n 95 cs' = some (x, pl)) :
    ∃ c : Pp.Ch, x = datC c ∧ a.spot = none ∧ ChAt W a.block (a.off + i * 5) c ∧ I64 c.k ∧ I64 c.b := by
 rw [Tryd.cellsC] at h1
 obtain ⟨_, hlen, hc⟩ := World.cells?_some h1
 obtain ⟨y0, y1, y2, y3, y4, n', hx', _, t0, t1, t2, t3, t4⟩ := fields5 Tryd.underlying95 h2
 obtain ⟨c0, c1, c2, c3, c4, rfl⟩ := list5 hlen
 have t0' : DataW.trod enc Tryd.prog W 0 (fun _ => true) true n' 3 [c0] = some y0 := by simpa [Tryd.cells3] using t0
 have t1' : DataW.trod enc Tryd.prog W 0 (fun _ => true) true n' 9 [c1] = some y1 := by simpa [Tryd.cells9] using t1
 have t2' : DataW.trod enc Tryd.prog W 0 (fun _ => true) true n' 9 [c2] = some y2 := by simpa [Tryd.cells9] using t2
 have t3' : DataW.trod enc Tryd.prog W 0 (fun _ => true) true n' 9 [c3] = some y3 := by simpa [Tryd.cells9] using t3
 have t4' : DataW.trod enc Tryd.prog W 0 (fun _ => true) true n' 3 [c4] = some y4 := by simpa [Tryd.cells3] using t4
 obtain ⟨s0, e0, g0, u0⟩ := DataW.trod_int Tryd.underlying3 t0'
 obtain ⟨s1, e1, g1, _⟩ := DataW.trod_string Tryd.underlying9 t1'
 obtain ⟨s2, e2, g2, _⟩ := DataW.trod_string Tryd.underlying9 t2'
 obtain ⟨s3, e3, g3, _⟩ := DataW.trod_string Tryd.underlying9 t3'
 obtain ⟨s4, e4, g4, u4⟩ := DataW.trod_int Tryd.underlying3 t4'
 obtain rfl : c0 = .int .i64 s0 := by simpa using e0
 obtain rfl : c1 = .string s1 := by simpa using e1
 obtain rfl : c2 = .string s2 := by simpa using e2
 obtain rfl : c3 = .string s3 := by simpa using e3
 obtain rfl : c4 = .int .i64 s4 := by simpa using e4
 subst g0; subst g1; subst g2; subst g3; subst g4
 simp only [Prod.mk.injEq] at hx'
 have k0 := hc 0 (by omega)
 have k1 := hc 1 (by omega)
 have k2 := hc 2 (by omega)
 have k3 := hc 3 (by omega)
 have k4 := hc 4 (by omega)
 obtain ⟨ab, ao, asp⟩ := a
 obtain rfl : asp = none := ha
 refine ⟨⟨s0, s1, s2, s3, s4⟩, hx'.1, rfl, ⟨?_, ?_, ?_, ?_, ?_⟩, i64_wf u0, i64_wf u4⟩
 · by_cases hi0 : i = 0
   · subst hi0; simpa [Addr.add] using k0
   · have hi4 : i * 5 ≠ 0 := by omega
     simpa [Addr.add, hi4] using k0
 · by_cases hi0 : i = 0
   · subst hi0; simpa [Addr.add] using k1
   · have hi4 : i * 5 ≠ 0 := by omega
     simpa [Addr.add, hi4, Nat.add_assoc] using k1
 · by_cases hi0 : i = 0
   · subst hi0; simpa [Addr.add] using k2
   · have hi4 : i * 5 ≠ 0 := by omega
     simpa [Addr.add, hi4, Nat.add_assoc] using k2
 · by_cases hi0 : i = 0
   · subst hi0; simpa [Addr.add] using k3
   · have hi4 : i * 5 ≠ 0 := by omega
     simpa [Addr.add, hi4, Nat.add_assoc] using k3
 · by_cases hi0 : i = 0
   · subst hi0; simpa [Addr.add] using k4
   · have hi4 : i * 5 ≠ 0 := by omega
     simpa [Addr.add, hi4, Nat.add_assoc] using k4
set_option maxRecDepth 100000 in
theorem open_changes_wX {H : Type} {enc : TypeId × Value → H} {W : World} {v : Value} {d : DataW H} {p : List MemPlace} {fuel : Nat} (hf : DataW.trod enc Tryd.prog W 0 (fun _ => true) true fuel 22 [v] = some (d, p)) (hk : ∀ n ∈ d.weights Tryd.prog 22, n ≤ reachBytes) :
    ∃ cs : List Pp.Ch, LiesC W v cs ∧ SizedC reachBytes cs ∧ ∀ c ∈ cs, WfC c := by
 haveI : Inhabited Pp.Ch := ⟨⟨0, ⟨#[]⟩, ⟨#[]⟩, ⟨#[]⟩, 0⟩⟩
 rcases Go.Deep.open_slice Tryd.underlying22 hf with ⟨hcs, hx⟩ | ⟨a, len, cap, m, n, D, Pl, hcs, hb, hl, hm, hmm, hx, hel⟩
 · obtain rfl : v = .slice none 0 0 := by simpa using hcs
   exact ⟨[], ⟨none, 0, rfl, Nat.le_refl _, by simp, fun i hi => absurd hi (by simp)⟩, (fun e he => by cases he), fun e he => by cases he⟩
 obtain rfl : v = .slice (some a) len cap := by simpa using hcs
 have hm2 : m = cap := hmm.trans (if_pos rfl)
 clear hmm
 have hd := (Prod.mk.inj hx).1
 clear hx
 subst hm2
 have hsp : 0 < len → a.spot = none := fun h => by
  obtain ⟨cs', h1, _⟩ := hel 0 (by omega)
  rw [Tryd.cellsC] at h1
  obtain ⟨_, hlen, hc⟩ := World.cells?_some h1
  obtain ⟨c0, c1, c2, c3, c4, rfl⟩ := list5 hlen
  have k0 := hc 0 (by omega)
  exact spot_none (v := c0) (by simpa [Addr.add] using k0)
 have each : ∀ i, i < len → ∃ e : Pp.Ch, D i = datC e ∧ a.spot = none ∧ ChAt W a.block (a.off + i * 5) e ∧ I64 e.k ∧ I64 e.b := fun i hi => by
  obtain ⟨cs', h1, h2⟩ := hel i (by omega)
  exact open_chX (hsp (by omega)) h1 h2
 obtain ⟨E, hE⟩ := Go.Deep.choose_lt each
 obtain ⟨sp, hd'⟩ : ∃ sp, d = .slice ((List.range len).map D) sp := ⟨_, hd⟩
 have hlen64 : (len + sp.length) * 64 ≤ reachBytes := by
  have := hk ((len + sp.length) * 64) (by
   rw [hd', DataW.weights]
   simp only [Tryd.underlying22, Tryd.bytesCh, List.length_map, List.length_range]
   exact List.mem_cons_self ..)
  exact this
 have hel2 : ∀ i, i < len → ∀ n ∈ (D i).weights Tryd.prog 95, n ≤ reachBytes := fun i hi n hn => hk n (by
  rw [hd', DataW.weights]
  simp only [Tryd.underlying22]
  refine List.mem_cons_of_mem _ (List.mem_append_left _ (all_mem (List.mem_map.2 ⟨i, List.mem_range.2 hi, rfl⟩) n hn)))
 have hrb : reachBytes = 140737488351232 := by decide
 have hsz : SizedC reachBytes ((List.range len).map E) := by
  intro e he
  obtain ⟨i, hi, rfl⟩ := List.mem_map.1 he
  have h1 := hel2 i (List.mem_range.1 hi)
  rw [(hE i (List.mem_range.1 hi)).1] at h1
  have hw : DataW.weights Tryd.prog 95 (datC (H := H) (E i)) = [(E i).p.data.toList.length, (E i).q.data.toList.length, (E i).t.data.toList.length] := by
   rw [datC, DataW.weights]
   simp only [Tryd.underlying95]
   simp [DataW.weightsEach, DataW.weights]
  rw [hw] at h1
  rw [Lib.size_eq, Lib.size_eq, Lib.size_eq]
  exact ⟨h1 _ (by simp), h1 _ (by simp), h1 _ (by simp)⟩
 refine ⟨(List.range len).map E, ⟨some a, _, by simp; rfl, by simpa using hl, ?_, fun i hi => ?_⟩, hsz, fun e he => ?_⟩
 · rw [hrb] at hlen64
   simp only [List.length_map, List.length_range]
   omega
 · have hi' : i < len := by simpa using hi
   obtain ⟨h1, h2, h3, _⟩ := hE i hi'
   have hlt : a.block < W.heap.size := by
    have k := h3.1
    rcases Nat.lt_or_ge a.block W.heap.size with h | h
    · exact h
    · unfold World.cell? at k; rw [Array.getElem?_eq_none h] at k; cases k
   refine ⟨a.block, a.off, ?_, hlt, by simpa using h3⟩
   rw [← h2]
 · obtain ⟨h1, h2, h3⟩ := hsz e he
   obtain ⟨i, hi, rfl⟩ := List.mem_map.1 he
   obtain ⟨_, _, _, k1, k2⟩ := hE i (List.mem_range.1 hi)
   rw [hrb] at h1 h2 h3
   exact ⟨k1, k2, by unfold TxB; omega, by unfold TxB; omega, by unfold TxB; omega⟩
theorem Tryd.cellsCo : Tryd.prog.cellsOf 78 = 3 := by kernel_rfl
theorem Tryd.cellsSC : Tryd.prog.cellsOf 22 = 1 := by kernel_rfl
theorem Tryd.cellsSO : Tryd.prog.cellsOf 36 = 1 := by kernel_rfl
theorem Tryd.cellsSE : Tryd.prog.cellsOf 35 = 1 := by kernel_rfl
theorem list3 {α : Type} {l : List α} (h : l.length = 3) : ∃ a b c, l = [a, b, c] := by
 rcases l with _ | ⟨a, _ | ⟨b, _ | ⟨c, _ | ⟨d, r⟩⟩⟩⟩
 all_goals first | exact ⟨a, b, c, rfl⟩ | (simp at h)
theorem fields3 {H : Type} {enc : TypeId × Value → H} {P : Program} {w : World} {base : Nat} {spare : Nat → Bool} {held : Bool} {t : TypeId} {f0 f1 f2 : Field} {fuel : Nat} {cs : List Value} {x : DataW H × List MemPlace} (ht : P.underlying t = some (.struct #[f0, f1, f2])) (h : DataW.trod enc P w base spare held fuel t cs = some x) :
    ∃ y0 y1 y2 n, x = (.agg [y0.1, y1.1, y2.1], y0.2 ++ (y1.2 ++ y2.2)) ∧ cs.length = P.cellsOf t ∧ DataW.trod enc P w base spare held n f0.type ((cs.drop f0.offset).take (P.cellsOf f0.type)) = some y0 ∧
     DataW.trod enc P w base spare held n f1.type ((cs.drop f1.offset).take (P.cellsOf f1.type)) = some y1 ∧ DataW.trod enc P w base spare held n f2.type ((cs.drop f2.offset).take (P.cellsOf f2.type)) = some y2 := by
 obtain ⟨xs, n, _, rfl, hl, hlen, hf⟩ := DataW.trod_struct ht h
 match xs, hlen with
 | [y0, y1, y2], _ => exact ⟨y0, y1, y2, n, by simp, hl, by simpa using hf 0 f0 rfl, by simpa using hf 1 f1 rfl, by simpa using hf 2 f2 rfl⟩
theorem open_entryX {H : Type} {enc : TypeId × Value → H} {W : World} {n i : Nat} {a : Addr} {x : DataW H} {pl : List MemPlace} {cs' : List Value} (ha : a.spot = none)
    (h1 : W.cells? 0 (a.add (i * Tryd.prog.cellsOf 76)) (Tryd.prog.cellsOf 76) = some cs') (h2 : DataW.trod enc Tryd.prog W 0 (fun _ => true) true n 76 cs' = some (x, pl)) :
    ∃ e : En, x = datE e ∧ a.spot = none ∧ EnAt W a.block (a.off + i * 4) e ∧ I64 e.ver := by
 rw [Tryd.cellsE] at h1
 obtain ⟨_, hlen, hc⟩ := World.cells?_some h1
 obtain ⟨y0, y1, y2, y3, n', hx', _, t0, t1, t2, t3⟩ := Go.Joins.trod_struct4 Tryd.underlying76 h2
 obtain ⟨c0, c1, c2, c3, rfl⟩ := list4 hlen
 have t0' : DataW.trod enc Tryd.prog W 0 (fun _ => true) true n' 9 [c0] = some y0 := by simpa [Tryd.cells9] using t0
 have t1' : DataW.trod enc Tryd.prog W 0 (fun _ => true) true n' 4 [c1] = some y1 := by simpa [Tryd.cells4] using t1
 have t2' : DataW.trod enc Tryd.prog W 0 (fun _ => true) true n' 9 [c2] = some y2 := by simpa [Tryd.cells9] using t2
 have t3' : DataW.trod enc Tryd.prog W 0 (fun _ => true) true n' 3 [c3] = some y3 := by simpa [Tryd.cells3] using t3
 obtain ⟨s0, e0, g0, _⟩ := DataW.trod_string Tryd.underlying9 t0'
 obtain ⟨s1, e1, g1⟩ := DataW.trod_bool Tryd.underlying4 t1'
 obtain ⟨s2, e2, g2, _⟩ := DataW.trod_string Tryd.underlying9 t2'
 obtain ⟨s3, e3, g3, u3⟩ := DataW.trod_int Tryd.underlying3 t3'
 obtain rfl : c0 = .string s0 := by simpa using e0
 obtain rfl : c1 = .bool s1 := by simpa using e1
 obtain rfl : c2 = .string s2 := by simpa using e2
 obtain rfl : c3 = .int .i64 s3 := by simpa using e3
 subst g0; subst g1; subst g2; subst g3
 simp only [Prod.mk.injEq] at hx'
 have k0 := hc 0 (by omega)
 have k1 := hc 1 (by omega)
 have k2 := hc 2 (by omega)
 have k3 := hc 3 (by omega)
 obtain ⟨ab, ao, asp⟩ := a
 obtain rfl : asp = none := ha
 refine ⟨⟨s0, s1, s2, s3⟩, hx'.1, rfl, ⟨?_, ?_, ?_, ?_⟩, i64_wf u3⟩
 · by_cases hi0 : i = 0
   · subst hi0; simpa [Addr.add] using k0
   · have hi4 : i * 4 ≠ 0 := by omega
     simpa [Addr.add, hi4] using k0
 · by_cases hi0 : i = 0
   · subst hi0; simpa [Addr.add] using k1
   · have hi4 : i * 4 ≠ 0 := by omega
     simpa [Addr.add, hi4, Nat.add_assoc] using k1
 · by_cases hi0 : i = 0
   · subst hi0; simpa [Addr.add] using k2
   · have hi4 : i * 4 ≠ 0 := by omega
     simpa [Addr.add, hi4, Nat.add_assoc] using k2
 · by_cases hi0 : i = 0
   · subst hi0; simpa [Addr.add] using k3
   · have hi4 : i * 4 ≠ 0 := by omega
     simpa [Addr.add, hi4, Nat.add_assoc] using k3
set_option maxRecDepth 100000 in
theorem open_tree_wX {H : Type} {enc : TypeId × Value → H} {W : World} {v : Value} {d : DataW H} {p : List MemPlace} {fuel : Nat} (hf : DataW.trod enc Tryd.prog W 0 (fun _ => true) true fuel 35 [v] = some (d, p)) (hk : ∀ n ∈ d.weights Tryd.prog 35, n ≤ reachBytes) :
    ∃ L : List En, Lies W v L ∧ ∀ e ∈ L, (e.path.size ≤ reachBytes ∧ e.text.size ≤ reachBytes) ∧ I64 e.ver := by
 haveI : Inhabited En := ⟨⟨⟨#[]⟩, false, ⟨#[]⟩, 0⟩⟩
 rcases Go.Deep.open_slice Tryd.underlying35 hf with ⟨hcs, hx⟩ | ⟨a, len, cap, m, n, D, Pl, hcs, hb, hl, hm, hmm, hx, hel⟩
 · obtain rfl : v = .slice none 0 0 := by simpa using hcs
   exact ⟨[], ⟨none, 0, rfl, Nat.le_refl _, by simp, fun i hi => absurd hi (by simp)⟩, fun e he => by cases he⟩
 obtain rfl : v = .slice (some a) len cap := by simpa using hcs
 have hm2 : m = cap := hmm.trans (if_pos rfl)
 clear hmm
 have hd := (Prod.mk.inj hx).1
 clear hx
 subst hm2
 have hsp : 0 < len → a.spot = none := fun h => by
  obtain ⟨cs', h1, _⟩ := hel 0 (by omega)
  rw [Tryd.cellsE] at h1
  obtain ⟨_, hlen, hc⟩ := World.cells?_some h1
  obtain ⟨c0, c1, c2, c3, rfl⟩ := list4 hlen
  have k0 := hc 0 (by omega)
  exact spot_none (v := c0) (by simpa [Addr.add] using k0)
 have each : ∀ i, i < len → ∃ e : En, D i = datE e ∧ a.spot = none ∧ EnAt W a.block (a.off + i * 4) e ∧ I64 e.ver := fun i hi => by
  obtain ⟨cs', h1, h2⟩ := hel i (by omega)
  exact open_entryX (hsp (by omega)) h1 h2
 obtain ⟨E, hE⟩ := Go.Deep.choose_lt each
 obtain ⟨sp, hd'⟩ : ∃ sp, d = .slice ((List.range len).map D) sp := ⟨_, hd⟩
 have hlen48 : (len + sp.length) * 48 ≤ reachBytes := by
  have := hk ((len + sp.length) * 48) (by
   rw [hd', DataW.weights]
   simp only [Tryd.underlying35, Tryd.bytesE, List.length_map, List.length_range]
   exact List.mem_cons_self ..)
  exact this
 have hel2 : ∀ i, i < len → ∀ n ∈ (D i).weights Tryd.prog 76, n ≤ reachBytes := fun i hi n hn => hk n (by
  rw [hd', DataW.weights]
  simp only [Tryd.underlying35]
  refine List.mem_cons_of_mem _ (List.mem_append_left _ (all_mem (List.mem_map.2 ⟨i, List.mem_range.2 hi, rfl⟩) n hn)))
 have hrb : reachBytes = 140737488351232 := by decide
 refine ⟨(List.range len).map E, ⟨some a, _, by simp; rfl, by simpa using hl, ?_, fun i hi => ?_⟩, fun e he => ?_⟩
 · rw [hrb] at hlen48
   simp only [List.length_map, List.length_range]
   omega
 · have hi' : i < len := by simpa using hi
   obtain ⟨h1, h2, h3, _⟩ := hE i hi'
   have hlt : a.block < W.heap.size := by
    have k := h3.1
    rcases Nat.lt_or_ge a.block W.heap.size with h | h
    · exact h
    · unfold World.cell? at k; rw [Array.getElem?_eq_none h] at k; cases k
   refine ⟨a.block, a.off, ?_, hlt, by simpa using h3⟩
   rw [← h2]
 · obtain ⟨i, hi, rfl⟩ := List.mem_map.1 he
   have h1 := hel2 i (List.mem_range.1 hi)
   rw [(hE i (List.mem_range.1 hi)).1] at h1
   have hw : DataW.weights Tryd.prog 76 (datE (H := H) (E i)) = [(E i).path.data.toList.length, (E i).text.data.toList.length] := by
    rw [datE, DataW.weights]
    simp only [Tryd.underlying76]
    simp [DataW.weightsEach, DataW.weights]
   rw [hw] at h1
   rw [Lib.size_eq, Lib.size_eq]
   exact ⟨⟨h1 _ (by simp), h1 _ (by simp)⟩, (hE i (List.mem_range.1 hi)).2.2.2⟩
theorem Tryd.bytesCoX : Tryd.prog.bytesOf 78 = 48 := by kernel_rfl
set_option maxRecDepth 100000 in
theorem open_co_wX {H : Type} {enc : TypeId × Value → H} {W : World} {n i : Nat} {a : Addr} {x : DataW H} {pl : List MemPlace} {cs' : List Value} (ha : a.spot = none)
    (h1 : W.cells? 0 (a.add (i * Tryd.prog.cellsOf 78)) (Tryd.prog.cellsOf 78) = some cs') (h2 : DataW.trod enc Tryd.prog W 0 (fun _ => true) true n 78 cs' = some (x, pl)) (hk : ∀ n ∈ x.weights Tryd.prog 78, n ≤ reachBytes) :
    ∃ c : Co, (c.ke.size ≤ reachBytes ∧ SizedC reachBytes c.ch) ∧ a.spot = none ∧ CoAt W a.block (a.off + i * 3) c ∧ WfO c := by
 rw [Tryd.cellsCo] at h1
 obtain ⟨_, hlen, hc⟩ := World.cells?_some h1
 obtain ⟨y0, y1, y2, n', hx', _, t0, t1, t2⟩ := fields3 Tryd.underlying78 h2
 obtain ⟨c0, c1, c2, rfl⟩ := list3 hlen
 have t0' : DataW.trod enc Tryd.prog W 0 (fun _ => true) true n' 3 [c0] = some y0 := by simpa [Tryd.cells3] using t0
 have t1' : DataW.trod enc Tryd.prog W 0 (fun _ => true) true n' 9 [c1] = some y1 := by simpa [Tryd.cells9] using t1
 have t2' : DataW.trod enc Tryd.prog W 0 (fun _ => true) true n' 22 [c2] = some y2 := by simpa [Tryd.cellsSC] using t2
 obtain ⟨s0, e0, g0, u0⟩ := DataW.trod_int Tryd.underlying3 t0'
 obtain ⟨s1, e1, g1, _⟩ := DataW.trod_string Tryd.underlying9 t1'
 obtain rfl : c0 = .int .i64 s0 := by simpa using e0
 obtain rfl : c1 = .string s1 := by simpa using e1
 subst g0; subst g1
 obtain ⟨d2, p2⟩ := y2
 simp only [Prod.mk.injEq] at hx'
 have hw : x.weights Tryd.prog 78 = s1.data.toList.length :: d2.weights Tryd.prog 22 := by
  rw [hx'.1, DataW.weights]
  simp only [Tryd.underlying78]
  simp [DataW.weightsEach, DataW.weights]
 rw [hw] at hk
 obtain ⟨l, hl, hls, hlw⟩ := open_changes_wX t2' (fun n hn => hk n (List.mem_cons_of_mem _ hn))
 have hs1 : s1.size ≤ reachBytes := by rw [Lib.size_eq]; exact hk _ (List.mem_cons_self ..)
 have k0 := hc 0 (by omega)
 have k1 := hc 1 (by omega)
 have k2 := hc 2 (by omega)
 obtain ⟨ab, ao, asp⟩ := a
 obtain rfl : asp = none := ha
 have hrb : reachBytes = 140737488351232 := by decide
 refine ⟨⟨s0, s1, l⟩, ⟨hs1, hls⟩, rfl, ⟨?_, ?_, c2, ?_, hl⟩, ⟨i64_wf u0, by rw [hrb] at hs1; unfold TxB; simp only; omega, hlw⟩⟩
 · by_cases hi0 : i = 0
   · subst hi0; simpa [Addr.add] using k0
   · have hi4 : i * 3 ≠ 0 := by omega
     simpa [Addr.add, hi4] using k0
 · by_cases hi0 : i = 0
   · subst hi0; simpa [Addr.add] using k1
   · have hi4 : i * 3 ≠ 0 := by omega
     simpa [Addr.add, hi4, Nat.add_assoc] using k1
 · by_cases hi0 : i = 0
   · subst hi0; simpa [Addr.add] using k2
   · have hi4 : i * 3 ≠ 0 := by omega
     simpa [Addr.add, hi4, Nat.add_assoc] using k2
set_option maxRecDepth 100000 in
theorem open_commits_wX {H : Type} {enc : TypeId × Value → H} {W : World} {v : Value} {d : DataW H} {p : List MemPlace} {fuel : Nat} (hf : DataW.trod enc Tryd.prog W 0 (fun _ => true) true fuel 36 [v] = some (d, p)) (hk : ∀ n ∈ d.weights Tryd.prog 36, n ≤ reachBytes) :
    ∃ l : List Co, LiesO W v l ∧ ∀ c ∈ l, (c.ke.size ≤ reachBytes ∧ SizedC reachBytes c.ch) ∧ WfO c := by
 haveI : Inhabited Co := ⟨⟨0, ⟨#[]⟩, []⟩⟩
 rcases Go.Deep.open_slice Tryd.underlying36 hf with ⟨hcs, hx⟩ | ⟨a, len, cap, m, n, D, Pl, hcs, hb, hl, hm, hmm, hx, hel⟩
 · obtain rfl : v = .slice none 0 0 := by simpa using hcs
   exact ⟨[], liesO_nil _, fun e he => by cases he⟩
 obtain rfl : v = .slice (some a) len cap := by simpa using hcs
 have hm2 : m = cap := hmm.trans (if_pos rfl)
 clear hmm
 have hd := (Prod.mk.inj hx).1
 clear hx
 subst hm2
 have hsp : 0 < len → a.spot = none := fun h => by
  obtain ⟨cs', h1, _⟩ := hel 0 (by omega)
  rw [Tryd.cellsCo] at h1
  obtain ⟨_, hlen, hc⟩ := World.cells?_some h1
  obtain ⟨c0, c1, c2, rfl⟩ := list3 hlen
  have k0 := hc 0 (by omega)
  exact spot_none (v := c0) (by simpa [Addr.add] using k0)
 obtain ⟨sp, hd'⟩ : ∃ sp, d = .slice ((List.range len).map D) sp := ⟨_, hd⟩
 have hlen48 : (len + sp.length) * 48 ≤ reachBytes := by
  have := hk ((len + sp.length) * 48) (by
   rw [hd', DataW.weights]
   simp only [Tryd.underlying36, Tryd.bytesCoX, List.length_map, List.length_range]
   exact List.mem_cons_self ..)
  exact this
 have hel2 : ∀ i, i < len → ∀ n ∈ (D i).weights Tryd.prog 78, n ≤ reachBytes := fun i hi n hn => hk n (by
  rw [hd', DataW.weights]
  simp only [Tryd.underlying36]
  refine List.mem_cons_of_mem _ (List.mem_append_left _ (all_mem (List.mem_map.2 ⟨i, List.mem_range.2 hi, rfl⟩) n hn)))
 have hrb : reachBytes = 140737488351232 := by decide
 have each : ∀ i, i < len → ∃ e : Co, (e.ke.size ≤ reachBytes ∧ SizedC reachBytes e.ch) ∧ a.spot = none ∧ CoAt W a.block (a.off + i * 3) e ∧ WfO e := fun i hi => by
  obtain ⟨cs', h1, h2⟩ := hel i (by omega)
  exact open_co_wX (hsp (by omega)) h1 h2 (hel2 i hi)
 obtain ⟨E, hE⟩ := Go.Deep.choose_lt each
 refine ⟨(List.range len).map E, ⟨some a, _, by simp; rfl, by simpa using hl, ?_, fun i hi => ?_⟩, fun e he => ?_⟩
 · rw [hrb] at hlen48
   simp only [List.length_map, List.length_range]
   omega
 · have hi' : i < len := by simpa using hi
   obtain ⟨h1, h2, h3, _⟩ := hE i hi'
   have hlt : a.block < W.heap.size := by
    have k := h3.1
    rcases Nat.lt_or_ge a.block W.heap.size with h | h
    · exact h
    · unfold World.cell? at k; rw [Array.getElem?_eq_none h] at k; cases k
   refine ⟨a.block, a.off, ?_, hlt, by simpa using h3⟩
   rw [← h2]
 · obtain ⟨i, hi, rfl⟩ := List.mem_map.1 he
   exact ⟨(hE i (List.mem_range.1 hi)).1, (hE i (List.mem_range.1 hi)).2.2.2⟩
theorem Tryd.cellsPgX : Tryd.prog.cellsOf 38 = 5 := by kernel_rfl
set_option maxRecDepth 100000 in
theorem open_page_atX {H : Type} {enc : TypeId × Value → H} {W : World} {cs : List Value} {d : DataW H} {pl : List MemPlace} {fuel : Nat} (hf' : DataW.trod enc Tryd.prog W 0 (fun _ => true) true fuel 38 cs = some (d, pl)) (hk : ∀ n ∈ d.weights Tryd.prog 38, n ≤ reachBytes) :
    ∃ (P : Pg) (vt vc : Value), cs = [.bool P.reset, vt, vc, .int .i64 P.cur, .bool P.more] ∧ Lies W vt P.tree ∧ LiesO W vc P.cos ∧ WfP P := by
 obtain ⟨y0, y1, y2, y3, y4, n', hx, hlen, t0, t1, t2, t3, t4⟩ := fields5 Tryd.underlying38 hf'
 rw [Tryd.cellsPgX] at hlen
 obtain ⟨c0, c1, c2, c3, c4, hcs⟩ := list5 hlen
 rw [hcs] at t0 t1 t2 t3 t4
 have t0' : DataW.trod enc Tryd.prog W 0 (fun _ => true) true n' 4 [c0] = some y0 := by simpa [Tryd.cells4] using t0
 have t1' : DataW.trod enc Tryd.prog W 0 (fun _ => true) true n' 35 [c1] = some y1 := by simpa [Tryd.cellsSE] using t1
 have t2' : DataW.trod enc Tryd.prog W 0 (fun _ => true) true n' 36 [c2] = some y2 := by simpa [Tryd.cellsSO] using t2
 have t3' : DataW.trod enc Tryd.prog W 0 (fun _ => true) true n' 3 [c3] = some y3 := by simpa [Tryd.cells3] using t3
 have t4' : DataW.trod enc Tryd.prog W 0 (fun _ => true) true n' 4 [c4] = some y4 := by simpa [Tryd.cells4] using t4
 obtain ⟨s0, e0, g0⟩ := DataW.trod_bool Tryd.underlying4 t0'
 obtain ⟨s3, e3, g3, u3⟩ := DataW.trod_int Tryd.underlying3 t3'
 obtain ⟨s4, e4, g4⟩ := DataW.trod_bool Tryd.underlying4 t4'
 obtain rfl : c0 = .bool s0 := by simpa using e0
 obtain rfl : c3 = .int .i64 s3 := by simpa using e3
 obtain rfl : c4 = .bool s4 := by simpa using e4
 subst g0; subst g3; subst g4
 obtain ⟨d1, p1⟩ := y1
 obtain ⟨d2, p2⟩ := y2
 simp only [Prod.mk.injEq] at hx
 have hw : d.weights Tryd.prog 38 = d1.weights Tryd.prog 35 ++ d2.weights Tryd.prog 36 := by
  rw [hx.1, DataW.weights]
  simp only [Tryd.underlying38]
  simp [DataW.weightsEach, DataW.weights]
 rw [hw] at hk
 have hrb : reachBytes = 140737488351232 := by decide
 obtain ⟨L, hL, hLs⟩ := open_tree_wX (fuel := n') t1' (fun n hn => hk n (List.mem_append_left _ hn))
 obtain ⟨l, hl, hls⟩ := open_commits_wX t2' (fun n hn => hk n (List.mem_append_right _ hn))
 refine ⟨⟨s0, L, l, s3, s4⟩, c1, c2, hcs, hL, hl, i64_wf u3, fun e he => ?_, fun c hc => (hls c hc).2⟩
 obtain ⟨⟨h1, h2⟩, h3⟩ := hLs e he
 rw [hrb] at h1 h2
 exact ⟨h3, by unfold TxB; omega, by unfold TxB; omega⟩
theorem Tryd.cellsAnX : Tryd.prog.cellsOf 40 = 7 := by kernel_rfl
theorem Tryd.cellsErX : Tryd.prog.cellsOf 25 = 1 := by kernel_rfl
theorem Tryd.undErX : Tryd.prog.underlying 25 = some (.int .i64) := by kernel_rfl
set_option maxRecDepth 100000 in
theorem open_answerX {H : Type} {enc : TypeId × Value → H} {W : World} {r : Reach} {b0 : Nat} {v : Value} {d : DataW H} {pl : List MemPlace} (hv : Value.okWide Tryd.prog W r b0 40 v) (h : DataW.Trod enc Tryd.prog W 0 (fun _ => true) true 40 v d pl) (hk : ∀ n ∈ d.weights Tryd.prog 40, n ≤ reachBytes) :
    ∃ a : An, LiesA W v a ∧ WfA a := by
 obtain ⟨cs, rfl, hsz⟩ := okWide_struct Tryd.underlying40 hv
 obtain ⟨fuel, hf⟩ := h
 have hf' : DataW.trod enc Tryd.prog W 0 (fun _ => true) true fuel 40 cs.toList = some (d, pl) := by simpa [Value.cells] using hf
 obtain ⟨y0, y1, y2, n', hx, hlen, t0, t1, t2⟩ := fields3 Tryd.underlying40 hf'
 rw [Tryd.cellsAnX] at hlen
 obtain ⟨c0, c1, rest, hcs⟩ : ∃ c0 c1 rest, cs.toList = c0 :: c1 :: rest := by
  rcases hl : cs.toList with _ | ⟨a, _ | ⟨b, r⟩⟩
  · rw [hl] at hlen; simp at hlen
  · rw [hl] at hlen; simp at hlen
  · exact ⟨a, b, r, rfl⟩
 rw [hcs] at t0 t1 t2 hlen
 have hr5 : rest.length = 5 := by simpa using hlen
 have t0' : DataW.trod enc Tryd.prog W 0 (fun _ => true) true n' 25 [c0] = some y0 := by simpa [Tryd.cellsErX] using t0
 have t1' : DataW.trod enc Tryd.prog W 0 (fun _ => true) true n' 3 [c1] = some y1 := by simpa [Tryd.cells3] using t1
 have t2' : DataW.trod enc Tryd.prog W 0 (fun _ => true) true n' 38 rest = some y2 := by simpa [Tryd.cellsPgX, List.take_of_length_le, hr5] using t2
 obtain ⟨s0, e0, g0, u0⟩ := DataW.trod_int Tryd.undErX t0'
 obtain ⟨s1, e1, g1, u1⟩ := DataW.trod_int Tryd.underlying3 t1'
 obtain rfl : c0 = .int .i64 s0 := by simpa using e0
 obtain rfl : c1 = .int .i64 s1 := by simpa using e1
 subst g0; subst g1
 obtain ⟨d2, p2⟩ := y2
 simp only [Prod.mk.injEq] at hx
 have hw : d.weights Tryd.prog 40 = d2.weights Tryd.prog 38 := by
  rw [hx.1, DataW.weights]
  simp only [Tryd.underlying40]
  simp [DataW.weightsEach, DataW.weights]
 rw [hw] at hk
 obtain ⟨P, vt, vc, hps, h1, h2, h3⟩ := open_page_atX t2' hk
 have hag : cs = #[.int .i64 s0, .int .i64 s1, .bool P.reset, vt, vc, .int .i64 P.cur, .bool P.more] := Array.ext' (by rw [hcs, hps])
 exact ⟨⟨s0, s1, P⟩, ⟨vt, vc, by rw [hag], h1, h2⟩, i64_wf u0, i64_wf u1, h3⟩
end Go.Proofs.YthgjdgpjkcmcdaaDoor
namespace Go.Proofs.YthgjdgpjkcmcdaaDoor
open Go.ChangeShapes Go.WideShapes Go.RowKit

namespace Pp
def lay (cs : List Value) (o : Obj) : Obj := match o with
 | .cells _ t frozen => .cells cs.toArray t frozen
 | o => o
def u8s (l : List Nat) : List Value := l.map fun (n : Nat) => Value.int .u8 (n : Int)
def pows : List Value := [.int .u64 1, .int .u64 10, .int .u64 100, .int .u64 1000, .int .u64 10000, .int .u64 100000, .int .u64 1000000, .int .u64 10000000, .int .u64 100000000, .int .u64 1000000000, .int .u64 10000000000, .int .u64 100000000000, .int .u64 1000000000000, .int .u64 10000000000000, .int .u64 100000000000000, .int .u64 1000000000000000, .int .u64 10000000000000000, .int .u64 100000000000000000, .int .u64 1000000000000000000, .int .u64 10000000000000000000]
def tab32 : List Value := u8s [0, 1, 28, 2, 29, 14, 24, 3, 30, 22, 20, 15, 25, 17, 4, 8, 31, 27, 13, 23, 21, 19, 16, 7, 26, 12, 18, 6, 11, 5, 10, 9]
def tab64 : List Value := u8s [0, 1, 56, 2, 57, 49, 28, 3, 61, 58, 42, 50, 38, 29, 17, 4, 62, 47, 59, 36, 45, 43, 51, 22, 53, 39, 33, 30, 24, 18, 12, 5, 63, 55, 48, 27, 60, 41, 37, 16, 46, 35, 44, 21, 52, 32, 23, 11, 54, 26, 40, 15, 34, 20, 31, 10, 25, 14, 19, 9, 13, 8, 7, 6]
def erAt (b : Nat) : List Value := [.iface 149 (.pointer (some ⟨b, 0, none⟩))]
def tabs (h : Array Obj) : Array Obj := ((((h.modify 3 (lay pows)).modify 4 (lay tab32)).modify 5 (lay tab64)).modify 1 (lay (erAt 11))).modify 2 (lay (erAt 12))
def texts : Array Obj := #[.cells #[.string ⟨#[105, 110, 118, 97, 108, 105, 100, 32, 115, 121, 110, 116, 97, 120]⟩] 151, .cells #[.string ⟨#[118, 97, 108, 117, 101, 32, 111, 117, 116, 32, 111, 102, 32, 114, 97, 110, 103, 101]⟩] 151]
theorem pow_data : (Rows.laid_internal_strconv_uint64pow10 : DataW Unit) = Lib.tabData .u64 Lib.pow10Tab := by kernel_rfl
theorem heap_of_var {W : World} {g : Nat} {s : String} {cs : Array Value} (hg : Tryd.prog.globalNamed s = some g) (h : W.var? Tryd.prog s = some cs) : g < W.heap.size := by
 unfold World.var? at h
 rw [hg] at h
 simp only [Option.bind_some] at h
 rcases Nat.lt_or_ge g W.heap.size with h1 | h1
 · exact h1
 · rw [Array.getElem?_eq_none h1] at h; cases h
abbrev laids : List (String × DataW Unit) := [("math/bits.deBruijn32tab", Rows.laid_math_bits_deBruijn32tab), ("math/bits.deBruijn64tab", Rows.laid_math_bits_deBruijn64tab), ("internal/strconv.uint64pow10", Rows.laid_internal_strconv_uint64pow10), ("strconv.ErrRange", Rows.laid_strconv_ErrRange), ("strconv.ErrSyntax", Rows.laid_strconv_ErrSyntax)]
theorem vars_of_laid {W : World} (h : laidMetH Tryd.prog laids W) : VarsW W ∧ 5 < W.heap.size := by
 have h' : laidMet Tryd.prog laids W := h
 obtain ⟨ps, hl, _⟩ := h'
 obtain ⟨_, _, _, _, _, _, _, _, _, _, hl1, _⟩ := hl
 obtain ⟨g5, _, _, _, _, _, hg5, _, hv5, _, hl2, _⟩ := hl1
 obtain ⟨g, t, cs, fuel, p, q, hg, ht, hvar, hd, hl3, _⟩ := hl2
 obtain ⟨g2, t2, cs2, f2, p2, q2, hg2, ht2, hvar2, hd2, hl4, _⟩ := hl3
 obtain ⟨g1, t1, cs1, f1, p1, q1, hg1, ht1, hvar1, hd1, _, _⟩ := hl4
 refine ⟨⟨?_, ?_, ?_⟩, ?_⟩
 · obtain rfl := Option.some.inj (Tryd.powAt.symm.trans hg)
   obtain rfl : t = 142 := Option.some.inj (ht.symm.trans (show (Tryd.prog.globals[3]?).map (·.type) = some 142 by kernel_rfl))
   rw [pow_data] at hd
   unfold PowTab Lib.TabIs
   rw [hvar, ← Lib.cells_of_tab Tryd.underlying142 (show Tryd.prog.underlying 128 = some (.int .u64) by kernel_rfl) (by kernel_rfl) (by kernel_rfl) hd]
 · obtain rfl := Option.some.inj (Tryd.synAt.symm.trans hg1)
   obtain rfl : t1 = 86 := Option.some.inj (ht1.symm.trans (show (Tryd.prog.globals[1]?).map (·.type) = some 86 by kernel_rfl))
   obtain ⟨_, u, v, hcs, _⟩ := iface_of_trod Tryd.underlying86 hd1
   exact ⟨u, v, by rw [hvar1]; congr 1; exact Array.ext' (by simpa using hcs)⟩
 · obtain rfl := Option.some.inj (Tryd.rngAt.symm.trans hg2)
   obtain rfl : t2 = 86 := Option.some.inj (ht2.symm.trans (show (Tryd.prog.globals[2]?).map (·.type) = some 86 by kernel_rfl))
   obtain ⟨_, u, v, hcs, _⟩ := iface_of_trod Tryd.underlying86 hd2
   exact ⟨u, v, by rw [hvar2]; congr 1; exact Array.ext' (by simpa using hcs)⟩
 · obtain rfl := Option.some.inj ((show Tryd.prog.globalNamed "math/bits.deBruijn64tab" = some 5 by kernel_rfl).symm.trans hg5)
   exact heap_of_var (show Tryd.prog.globalNamed "math/bits.deBruijn64tab" = some 5 by kernel_rfl) hv5
end Pp
end Go.Proofs.YthgjdgpjkcmcdaaDoor
