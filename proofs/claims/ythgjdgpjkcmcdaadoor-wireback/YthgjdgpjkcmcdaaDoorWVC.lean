/- The program's reader: changes. -/
import Derived.Test.YthgjdgpjkcmcdaaDoorWVB
import Derived.Deep.RegionHeld3
import Derived.Deep.Cut
import Derived.Deep.CutRange
import Derived.Deep.DeepCutAuto
import Derived.Test.YthgjdgpjkcmcdaaDoorWVA
import Derived.Laws.OwnMore
set_option linter.unusedSimpArgs false
set_option linter.unusedVariables false
namespace Go.Proofs.YthgjdgpjkcmcdaaDoor
open Go.RowKit

namespace Wr
def chP (g : Int → Bool) (m : Int) : Ps Pp.Ch := bindP (rdG g) fun k => bindP (txtP g m) fun p => bindP (txtP g m) fun q => bindP (txtP g m) fun t => bindP (rdG g) fun b => pureP ⟨k, p, q, t, b⟩
end Wr
/-- What a reading answers. -/
def RdPost {α : Type} (b : Nat) (res : Option (α × List UInt8)) (V : α → Value → World → Prop) (e : Ending) (w' : World) : Prop := match res with
 | none => GaveUp e
 | some (x, r) => ∃ v, e = .returned v ∧ V x v w' ∧ Rd b r w'
theorem RdPost.no {α : Type} {b : Nat} {res : Option (α × List UInt8)} {V : α → Value → World → Prop} {e : Ending} {w' : World} (h : res = none) (he : GaveUp e) : RdPost b res V e w' := by rw [h]; exact he
theorem RdPost.yes {α : Type} {b : Nat} {res : Option (α × List UInt8)} {V : α → Value → World → Prop} {e : Ending} {w' : World} {x : α} {r : List UInt8} (v : Value) (h : res = some (x, r)) (he : e = .returned v) (hV : V x v w') (hr : Rd b r w') : RdPost b res V e w' := by rw [h]; exact ⟨v, he, hV, hr⟩
/-- A box that bears the reader's address. -/
def RBox (w : World) (b g : Nat) : Prop := w.heap[g]? = some (.cells #[.pointer (some ⟨b, 0, none⟩)] 64 (0, 0)) ∧ g ≠ b
theorem RBox.nb {b g : Nat} {w w' : World} (h : RBox w b g) (hw : w.grownBy w' (some b)) : RBox w' b g := ⟨(hw.block g (heap_lt h.1) (fun e => h.2 (by injection e))).trans h.1, h.2⟩
theorem RBox.below {b g : Nat} {w w' : World} (h : RBox w b g) (hf : Below w.heap.size w w') : RBox w' b g := ⟨(hf.block g (heap_lt h.1)).trans h.1, h.2⟩
theorem RBox.cell {b g : Nat} {w : World} (h : RBox w b g) : w.cell? ⟨g, 0, none⟩ = some (.pointer (some ⟨b, 0, none⟩)) := by rw [Lib.cell_of_heap h.1]; rfl
theorem Rd.nb {b b' : Nat} {l : List UInt8} {w w' : World} (h : Rd b l w) (hw : w.grownBy w' (some b')) (hne : b ≠ b') : Rd b l w' := (hw.block b h.lt (fun e => hne (by injection e))).trans h
theorem RBox.nb' {b g c : Nat} {w w' : World} (h : RBox w b g) (hw : w.grownBy w' (some c)) (hne : g ≠ c) : RBox w' b g := ⟨(hw.block g (heap_lt h.1) (fun e => hne (by injection e))).trans h.1, h.2⟩
abbrev zch : List Value := [.int .i64 0, .string ⟨#[]⟩, .string ⟨#[]⟩, .string ⟨#[]⟩, .int .i64 0]
theorem Rd.set' {b c i : Nat} {l : List UInt8} {w : World} (h : Rd b l w) (hne : b ≠ c) (v : Value) : Rd b l (w.setCell ⟨c, i, none⟩ v) := h.nb (nb_set w c i v) hne
/-- A reader at work on a record of its own. -/
structure R3 (w : World) (b g C R : Nat) (l : List UInt8) (cs : List Value) (W : World) : Prop where
 rd : Rd b l W
 box : RBox W b g
 v : VarsW W
 cC : Cs W C cs
 cR : Cs W R zch
 fr : w.grownBy W (some b)
 bl : b < w.heap.size
 gl : g < w.heap.size
 Cl : w.heap.size ≤ C
 Rl : w.heap.size ≤ R
 ne : C ≠ R
 b6 : 5 < b
theorem R3.call {w W W' : World} {b g C R : Nat} {l r : List UInt8} {cs : List Value} (h : R3 w b g C R l cs W) (hn : W.grownBy W' (some b)) (hr : Rd b r W') : R3 w b g C R r cs W' :=
 ⟨hr, h.box.nb hn, h.v.nb h.b6 (by have := h.rd.lt; have := h.b6; omega) hn, h.cC.nb hn (by have := h.bl; have := h.Cl; omega), h.cR.nb hn (by have := h.bl; have := h.Rl; omega), nb_tr h.fr hn, h.bl, h.gl, h.Cl, h.Rl, h.ne, h.b6⟩
theorem nb_new {w W : World} {b c i : Nat} (h : w.grownBy W (some b)) (hc : w.heap.size ≤ c) (v : Value) : w.grownBy (W.setCell ⟨c, i, none⟩ v) (some b) :=
 ⟨h.os, h.tape, h.output, by simpa using h.size, fun k hk hne => (Below.heap_setCell W _ v k (fun e => by simp at e; omega)).trans (h.block k hk hne)⟩
theorem R3.set {w W : World} {b g C R : Nat} {l : List UInt8} {cs : List Value} (h : R3 w b g C R l cs W) (i : Nat) (v : Value) : R3 w b g C R l (cs.set i v) (W.setCell ⟨C, i, none⟩ v) := by
 have hb := h.bl
 have hg := h.gl
 have hC := h.Cl
 have hn := nb_set W C i v
 exact ⟨h.rd.nb hn (by omega), h.box.nb' hn (by omega), h.v.nb (by have := h.b6; omega) (by have := h.rd.lt; have := h.b6; omega) hn, h.cC.set i v, h.cR.nb hn h.ne.symm, nb_new h.fr h.Cl v, h.bl, h.gl, h.Cl, h.Rl, h.ne, h.b6⟩
theorem R3.drew {w W : World} {b g C R : Nat} {l : List UInt8} {cs : List Value} (h : R3 w b g C R l cs W) : R3 w b g C R l cs W.drew :=
 h.call (nb_below b (Below.refl _ _).drew) h.rd
theorem r3_new {w : World} {b g : Nat} {l : List UInt8} (h : Rd b l w) (hg : RBox w b g) (h6 : 5 < b) (hv : VarsW w) : R3 w b g (w.heap.size + 1) w.heap.size l zch ((w.alloc (.cells #[.int .i64 0, .string ⟨#[]⟩, .string ⟨#[]⟩, .string ⟨#[]⟩, .int .i64 0] 95)).alloc (.cells #[.int .i64 0, .string ⟨#[]⟩, .string ⟨#[]⟩, .string ⟨#[]⟩, .int .i64 0] 95)) := by
 have hbl := h.lt
 obtain ⟨wa, hwa⟩ : ∃ wa, wa = w.alloc (.cells #[.int .i64 0, .string ⟨#[]⟩, .string ⟨#[]⟩, .string ⟨#[]⟩, .int .i64 0] 95) := ⟨_, rfl⟩
 rw [← hwa]
 have sa : wa.heap.size = w.heap.size + 1 := by rw [hwa]; simp
 have hba : Below w.heap.size w wa := by rw [hwa]; exact below_alloc _ _
 have hbb := below_alloc wa (.cells #[.int .i64 0, .string ⟨#[]⟩, .string ⟨#[]⟩, .string ⟨#[]⟩, .int .i64 0] 95)
 have hab := hba.trans (hbb.mono (by omega))
 refine ⟨h.below hab, hg.below hab, hv.belowB (by omega) hab, ?_, ?_, nb_below b hab, hbl, heap_lt hg.1, by omega, Nat.le_refl _, by omega, h6⟩
 · rw [← sa]; exact Cs.new wa zch _
 · exact Cs.belowAt (show Cs wa w.heap.size zch by rw [hwa]; exact Cs.new w zch _) hbb (by omega)
set_option maxHeartbeats 4000000 in
theorem rch1_ok (b g : Nat) (l r1 r2 r3 r4 r5 : List UInt8) (k cb : Int) (p q t : ByteArray) (w : World) (h : Rd b l w) (hg : RBox w b g) (hs : l.length ≤ MaxL) (h6 : 5 < b) (hv : VarsW w)
    (h1 : Wr.rdG Wr.gN l = some (k, r1)) (h2 : Wr.txtP Wr.gN 1000 r1 = some (p, r2)) (h3 : Wr.txtP Wr.gN 1000 r2 = some (q, r3)) (h4 : Wr.txtP Wr.gN 1000 r3 = some (t, r4)) (h5 : Wr.rdG Wr.gN r4 = some (cb, r5)) :
    Calls Tryd.prog 61 #[.pointer (some ⟨g, 0, none⟩)] w fun e w' => e = .returned (.agg #[.int .i64 k, .string p, .string q, .string t, .int .i64 cb]) ∧ Rd b r5 w' ∧ w.grownBy w' (some b) := by
 have s1 := Wr.rd_len h1
 have s2 := Wr.txt_rest h2
 have s3 := Wr.txt_rest h3
 have s4 := Wr.txt_rest h4
 have hgl := heap_lt hg.1
 have H0 := hid (r3_new h hg h6 hv)
 have g0 := H0.out.box.cell
 have HK := hid (rnum_ok H0.out.rd hs h6 H0.out.v h1)
 clear hv h hg
 go_enter Tryd.func61, Tryd.ntmps61
 go_wp2_with fail
 refine HK.out.mono ?_
 rintro e w1 ⟨rfl, hr1, hn1⟩
 have H1 := hid (H0.out.call hn1 hr1)
 have c0 := H1.out.cC.cell 0 rfl
 have f0 := H1.out.cC.fr 0
 clear HK g0
 go_wp2_with fail
 obtain ⟨w2, hw2⟩ : ∃ w2, w2 = w1.setCell ⟨w.heap.size + 1, 0, none⟩ (.int .i64 k) := ⟨_, rfl⟩
 rw [← hw2]
 have HA := hid ((H1.out.set 0 (.int .i64 k)).drew)
 rw [← hw2] at HA
 have n1 : ¬ g = w.heap.size + 1 := by omega
 have n2 : ¬ w.heap.size + 1 = g := by omega
 have KS := hid (show ∀ (W : World) (i : Nat) (v : Value), W.cell? ⟨g, 0, none⟩ = some (.pointer (some ⟨b, 0, none⟩)) → (W.setCell ⟨w.heap.size + 1, i, none⟩ v).cell? ⟨g, 0, none⟩ = some (.pointer (some ⟨b, 0, none⟩)) from fun W i v hW => (World.cell?_of_block (w := W) (a := ⟨g, 0, none⟩) (Below.heap_setCell W _ v g (fun e => n1 e))).trans hW)
 have hx0 : w2.cell? ⟨g, 0, none⟩ = some (.pointer (some ⟨b, 0, none⟩)) := HA.out.box.cell
 clear hw2 c0 f0 hr1 hn1 H0 H1
 go_cut [0, 1, 2] (fun x y z W => x = .pointer (some ⟨g, 0, none⟩) ∧ y = .pointer (some ⟨w.heap.size, 0, none⟩) ∧ z = .pointer (some ⟨w.heap.size + 1, 0, none⟩) ∧ Hid (R3 w b g (w.heap.size + 1) w.heap.size r4 [.int .i64 k, .string p, .string q, .string t, .int .i64 0] W))
 case first =>
  go_region_held3 (fun W => W.cell? ⟨g, 0, none⟩ = some (.pointer (some ⟨b, 0, none⟩))) (first | go_keep | exact KS.out _ _ _ jz | exact KS.out _ _ _ (KS.out _ _ _ jz) | exact KS.out _ _ _ (KS.out _ _ _ (KS.out _ _ _ jz)) | exact KS.out _ _ _ jy | exact KS.out _ _ _ (KS.out _ _ _ jy)) (first | (go_at_call 32; refine (rtxt_ok HA.out.rd (by omega) h6 HA.out.v h2).mono ?_; rintro e wx ⟨rfl, hrx, hnx⟩; have HB := hid (HA.out.call hnx hrx); have jx := HB.out.box.cell) | (go_at_call 32; refine (rtxt_ok HB.out.rd (by omega) h6 HB.out.v h3).mono ?_; rintro e wy ⟨rfl, hry, hny⟩; have HD := hid (HB.out.call hny hry); have jy := HD.out.box.cell; have yc1 := HD.out.cC.cell 1 rfl; have yf1 := HD.out.cC.fr 1; have yc2 := HD.out.cC.cell 2 rfl; have yf2 := HD.out.cC.fr 2; have yc3 := HD.out.cC.cell 3 rfl; have yf3 := HD.out.cC.fr 3) | (go_at_call 32; refine (rtxt_ok HD.out.rd (by omega) h6 HD.out.v h4).mono ?_; rintro e wz ⟨rfl, hrz, hnz⟩; have HE := hid (HD.out.call hnz hrz); have jz := HE.out.box.cell; have zc1 := HE.out.cC.cell 1 rfl; have zf1 := HE.out.cC.fr 1; have zc2 := HE.out.cC.cell 2 rfl; have zf2 := HE.out.cC.fr 2; have zc3 := HE.out.cC.cell 3 rfl; have zf3 := HE.out.cC.fr 3) | (go_at_call 32; refine (rtxt_ok (HD.out.set 1 (.string p)).rd (by omega) h6 (HD.out.set 1 (.string p)).v h4).mono ?_; rintro e wz ⟨rfl, hrz, hnz⟩; have HE := hid ((HD.out.set 1 (.string p)).call hnz hrz); have jz := HE.out.box.cell; have zc1 := HE.out.cC.cell 1 rfl; have zf1 := HE.out.cC.fr 1; have zc2 := HE.out.cC.cell 2 rfl; have zf2 := HE.out.cC.fr 2; have zc3 := HE.out.cC.cell 3 rfl; have zf3 := HE.out.cC.fr 3) | (go_at_call 32; refine (rtxt_ok ((HD.out.set 1 (.string p)).set 2 (.string q)).rd (by omega) h6 ((HD.out.set 1 (.string p)).set 2 (.string q)).v h4).mono ?_; rintro e wz ⟨rfl, hrz, hnz⟩; have HE := hid (((HD.out.set 1 (.string p)).set 2 (.string q)).call hnz hrz); have jz := HE.out.box.cell; have zc1 := HE.out.cC.cell 1 rfl; have zf1 := HE.out.cC.fr 1; have zc2 := HE.out.cC.cell 2 rfl; have zf2 := HE.out.cC.fr 2; have zc3 := HE.out.cC.cell 3 rfl; have zf3 := HE.out.cC.fr 3))
  go_wp2_with fail
  go_meet
  case rel => exact ⟨rfl, rfl, rfl, ((HE.out.set 1 (.string p)).set 2 (.string q)).set 3 (.string t)⟩
 case rest =>
  obtain ⟨rfl, rfl, rfl, HF⟩ := hcut
  have u0 := HF.out.box.cell
  have HN := hid (rnum_ok HF.out.rd (by omega) h6 HF.out.v h5)
  clear HA hx0 KS
  go_wp2_with fail
  refine HN.out.mono ?_
  rintro e w5 ⟨rfl, hr5, hn5⟩
  have H5 := hid (HF.out.call hn5 hr5)
  have y0 := H5.out.cC.cell 0 rfl
  have y1 := H5.out.cC.cell 1 rfl
  have y2 := H5.out.cC.cell 2 rfl
  have y3 := H5.out.cC.cell 3 rfl
  have y4 := H5.out.cC.cell 4 rfl
  have z4 := H5.out.cC.fr 4
  have v0 := H5.out.cR.cell 0 rfl
  have v1 := H5.out.cR.cell 1 rfl
  have v2 := H5.out.cR.cell 2 rfl
  have v3 := H5.out.cR.cell 3 rfl
  have v4 := H5.out.cR.cell 4 rfl
  have x0 := H5.out.cR.fr 0
  have x1 := H5.out.cR.fr 1
  have x2 := H5.out.cR.fr 2
  have x3 := H5.out.cR.fr 3
  have x4 := H5.out.cR.fr 4
  have n3 : ¬ w.heap.size = w.heap.size + 1 := by omega
  have n4 : ¬ w.heap.size + 1 = w.heap.size := by omega
  clear HN u0
  go_wp2_with fail
  have hb := H5.out.bl
  have nR : b ≠ w.heap.size := by omega
  have nC : b ≠ w.heap.size + 1 := by omega
  have l1 : w.heap.size ≤ w.heap.size + 1 := by omega
  have l0 := Nat.le_refl w.heap.size
  refine bodyPost_ret (v := .agg #[.int .i64 k, .string p, .string q, .string t, .int .i64 cb]) (by simp [results, Tryd.results61, go_sem, n3, n4, v0, v1, v2, v3, v4]) rfl ⟨rfl, ?_, ?_⟩
  · exact (((((H5.out.rd.set' nC _).set' nR _).set' nR _).set' nR _).set' nR _).set' nR _
  · exact nb_new (nb_new (nb_new (nb_new (nb_new (nb_new H5.out.fr l1 _) l0 _) l0 _) l0 _) l0 _) l0 _
set_option maxHeartbeats 4000000 in
theorem rch1_no1 (b g : Nat) (l r1 r2 r3 r4 r5 : List UInt8) (k cb : Int) (p q t : ByteArray) (w : World) (h : Rd b l w) (hg : RBox w b g) (hs : l.length ≤ MaxL) (h6 : 5 < b) (hv : VarsW w)
    (h1 : Wr.rdG Wr.gN l = none)     :
    Calls Tryd.prog 61 #[.pointer (some ⟨g, 0, none⟩)] w fun e w' => GaveUp e ∧ w.grownBy w' (some b) := by
 have hgl := heap_lt hg.1
 have H0 := hid (r3_new h hg h6 hv)
 have g0 := H0.out.box.cell
 have HK := hid (rnum_no H0.out.rd hs h6 H0.out.v h1)
 clear hv h hg
 go_enter Tryd.func61, Tryd.ntmps61
 go_wp2_with fail
 refine HK.out.mono ?_
 rintro e w1 ⟨rfl, hn1⟩
 exact bodyPost_panic rfl ⟨rfl, nb_tr H0.out.fr hn1⟩
set_option maxHeartbeats 4000000 in
theorem rch1_no2 (b g : Nat) (l r1 r2 r3 r4 r5 : List UInt8) (k cb : Int) (p q t : ByteArray) (w : World) (h : Rd b l w) (hg : RBox w b g) (hs : l.length ≤ MaxL) (h6 : 5 < b) (hv : VarsW w)
    (h1 : Wr.rdG Wr.gN l = some (k, r1)) (h2 : Wr.txtP Wr.gN 1000 r1 = none)    :
    Calls Tryd.prog 61 #[.pointer (some ⟨g, 0, none⟩)] w fun e w' => GaveUp e ∧ w.grownBy w' (some b) := by
 have s1 := Wr.rd_len h1
 have hgl := heap_lt hg.1
 have H0 := hid (r3_new h hg h6 hv)
 have g0 := H0.out.box.cell
 have HK := hid (rnum_ok H0.out.rd hs h6 H0.out.v h1)
 clear hv h hg
 go_enter Tryd.func61, Tryd.ntmps61
 go_wp2_with fail
 refine HK.out.mono ?_
 rintro e w1 ⟨rfl, hr1, hn1⟩
 have H1 := hid (H0.out.call hn1 hr1)
 have c0 := H1.out.cC.cell 0 rfl
 have f0 := H1.out.cC.fr 0
 clear HK g0
 go_wp2_with fail
 obtain ⟨w2, hw2⟩ : ∃ w2, w2 = w1.setCell ⟨w.heap.size + 1, 0, none⟩ (.int .i64 k) := ⟨_, rfl⟩
 rw [← hw2]
 have HA := hid ((H1.out.set 0 (.int .i64 k)).drew)
 rw [← hw2] at HA
 have n1 : ¬ g = w.heap.size + 1 := by omega
 have n2 : ¬ w.heap.size + 1 = g := by omega
 have KS := hid (show ∀ (W : World) (i : Nat) (v : Value), W.cell? ⟨g, 0, none⟩ = some (.pointer (some ⟨b, 0, none⟩)) → (W.setCell ⟨w.heap.size + 1, i, none⟩ v).cell? ⟨g, 0, none⟩ = some (.pointer (some ⟨b, 0, none⟩)) from fun W i v hW => (World.cell?_of_block (w := W) (a := ⟨g, 0, none⟩) (Below.heap_setCell W _ v g (fun e => n1 e))).trans hW)
 have hx0 : w2.cell? ⟨g, 0, none⟩ = some (.pointer (some ⟨b, 0, none⟩)) := HA.out.box.cell
 clear hw2 c0 f0 hr1 hn1 H0 H1
 have hx1 : w2.drew.cell? ⟨g, 0, none⟩ = some (.pointer (some ⟨b, 0, none⟩)) := hx0
 refine wp_region_held_drew (S := fun W => W.cell? ⟨g, 0, none⟩ = some (.pointer (some ⟨b, 0, none⟩))) (by kernel_rfl) hx1 (fun hS => ?_)
 refine wpAnyH_take (i := 0) (oi := ⟨some 6, Op.load 64 (Operand.tmp 0), 64, "read.go:73", #[], none⟩) (v := .pointer (some ⟨b, 0, none⟩)) rfl (by kernel_rfl) (by kernel_rfl) (by kernel_rfl) (fun _ _ _ h => h) (Or.inl ⟨by rfl, fun W hW => by (try dsimp only at hW); go_simp⟩) hS ?_
 try simp only [Act.put, List.setIfInBounds_toArray, List.set_cons_zero, List.set_cons_succ]
 refine wpAnyH_take (i := 2) (oi := ⟨some 8, Op.load 64 (Operand.tmp 0), 64, "read.go:73", #[], none⟩) (v := .pointer (some ⟨b, 0, none⟩)) rfl (by kernel_rfl) (by kernel_rfl) (by kernel_rfl) (fun _ _ _ h => h) (Or.inl ⟨by rfl, fun W hW => by (try dsimp only at hW); go_simp⟩) hS ?_
 try simp only [Act.put, List.setIfInBounds_toArray, List.set_cons_zero, List.set_cons_succ]
 refine wpAnyH_take (i := 4) (oi := ⟨some 10, Op.load 64 (Operand.tmp 0), 64, "read.go:73", #[], none⟩) (v := .pointer (some ⟨b, 0, none⟩)) rfl (by kernel_rfl) (by kernel_rfl) (by kernel_rfl) (fun _ _ _ h => h) (Or.inl ⟨by rfl, fun W hW => by (try dsimp only at hW); go_simp⟩) hS ?_
 try simp only [Act.put, List.setIfInBounds_toArray, List.set_cons_zero, List.set_cons_succ]
 refine wpAnyH_ready (rs := [1]) (by kernel_rfl) (by simp) ?_
 refine AllReadyH.cons (o := ⟨some 7, Op.call { callee := Callee.value (Operand.func 32), args := #[Operand.tmp 6], argTypes := #[64] }, 9, "read.go:73", #[⟨0, Ground.data⟩], none⟩) rfl (fun K hK => ?_) AllReadyH.nil
 go_simp
 refine (rtxt_no HA.out.rd (by omega) h6 HA.out.v h2).mono ?_
 rintro e wv ⟨rfl, hnv⟩
 exact bodyPost_panic rfl ⟨rfl, nb_tr HA.out.fr hnv⟩
set_option maxHeartbeats 4000000 in
theorem rch1_no3 (b g : Nat) (l r1 r2 r3 r4 r5 : List UInt8) (k cb : Int) (p q t : ByteArray) (w : World) (h : Rd b l w) (hg : RBox w b g) (hs : l.length ≤ MaxL) (h6 : 5 < b) (hv : VarsW w)
    (h1 : Wr.rdG Wr.gN l = some (k, r1)) (h2 : Wr.txtP Wr.gN 1000 r1 = some (p, r2)) (h3 : Wr.txtP Wr.gN 1000 r2 = none)   :
    Calls Tryd.prog 61 #[.pointer (some ⟨g, 0, none⟩)] w fun e w' => GaveUp e ∧ w.grownBy w' (some b) := by
 have s1 := Wr.rd_len h1
 have s2 := Wr.txt_rest h2
 have hgl := heap_lt hg.1
 have H0 := hid (r3_new h hg h6 hv)
 have g0 := H0.out.box.cell
 have HK := hid (rnum_ok H0.out.rd hs h6 H0.out.v h1)
 clear hv h hg
 go_enter Tryd.func61, Tryd.ntmps61
 go_wp2_with fail
 refine HK.out.mono ?_
 rintro e w1 ⟨rfl, hr1, hn1⟩
 have H1 := hid (H0.out.call hn1 hr1)
 have c0 := H1.out.cC.cell 0 rfl
 have f0 := H1.out.cC.fr 0
 clear HK g0
 go_wp2_with fail
 obtain ⟨w2, hw2⟩ : ∃ w2, w2 = w1.setCell ⟨w.heap.size + 1, 0, none⟩ (.int .i64 k) := ⟨_, rfl⟩
 rw [← hw2]
 have HA := hid ((H1.out.set 0 (.int .i64 k)).drew)
 rw [← hw2] at HA
 have n1 : ¬ g = w.heap.size + 1 := by omega
 have n2 : ¬ w.heap.size + 1 = g := by omega
 have KS := hid (show ∀ (W : World) (i : Nat) (v : Value), W.cell? ⟨g, 0, none⟩ = some (.pointer (some ⟨b, 0, none⟩)) → (W.setCell ⟨w.heap.size + 1, i, none⟩ v).cell? ⟨g, 0, none⟩ = some (.pointer (some ⟨b, 0, none⟩)) from fun W i v hW => (World.cell?_of_block (w := W) (a := ⟨g, 0, none⟩) (Below.heap_setCell W _ v g (fun e => n1 e))).trans hW)
 have hx0 : w2.cell? ⟨g, 0, none⟩ = some (.pointer (some ⟨b, 0, none⟩)) := HA.out.box.cell
 clear hw2 c0 f0 hr1 hn1 H0 H1
 have hx1 : w2.drew.cell? ⟨g, 0, none⟩ = some (.pointer (some ⟨b, 0, none⟩)) := hx0
 refine wp_region_held_drew (S := fun W => W.cell? ⟨g, 0, none⟩ = some (.pointer (some ⟨b, 0, none⟩))) (by kernel_rfl) hx1 (fun hS => ?_)
 refine wpAnyH_take (i := 0) (oi := ⟨some 6, Op.load 64 (Operand.tmp 0), 64, "read.go:73", #[], none⟩) (v := .pointer (some ⟨b, 0, none⟩)) rfl (by kernel_rfl) (by kernel_rfl) (by kernel_rfl) (fun _ _ _ h => h) (Or.inl ⟨by rfl, fun W hW => by (try dsimp only at hW); go_simp⟩) hS ?_
 try simp only [Act.put, List.setIfInBounds_toArray, List.set_cons_zero, List.set_cons_succ]
 refine wpAnyH_take (i := 2) (oi := ⟨some 8, Op.load 64 (Operand.tmp 0), 64, "read.go:73", #[], none⟩) (v := .pointer (some ⟨b, 0, none⟩)) rfl (by kernel_rfl) (by kernel_rfl) (by kernel_rfl) (fun _ _ _ h => h) (Or.inl ⟨by rfl, fun W hW => by (try dsimp only at hW); go_simp⟩) hS ?_
 try simp only [Act.put, List.setIfInBounds_toArray, List.set_cons_zero, List.set_cons_succ]
 refine wpAnyH_take (i := 4) (oi := ⟨some 10, Op.load 64 (Operand.tmp 0), 64, "read.go:73", #[], none⟩) (v := .pointer (some ⟨b, 0, none⟩)) rfl (by kernel_rfl) (by kernel_rfl) (by kernel_rfl) (fun _ _ _ h => h) (Or.inl ⟨by rfl, fun W hW => by (try dsimp only at hW); go_simp⟩) hS ?_
 try simp only [Act.put, List.setIfInBounds_toArray, List.set_cons_zero, List.set_cons_succ]
 refine wpAnyH_ready (rs := [1]) (by kernel_rfl) (by simp) ?_
 refine AllReadyH.cons (o := ⟨some 7, Op.call { callee := Callee.value (Operand.func 32), args := #[Operand.tmp 6], argTypes := #[64] }, 9, "read.go:73", #[⟨0, Ground.data⟩], none⟩) rfl (fun K hK => ?_) AllReadyH.nil
 go_simp
 refine (rtxt_ok HA.out.rd (by omega) h6 HA.out.v h2).mono ?_
 rintro e wx0 ⟨rfl, hrx0, hnx0⟩
 have HB := hid (HA.out.call hnx0 hrx0)
 go_wp2_with fail
 refine hK.out _ _ HB.out.box.cell (fun hS0 => ?_)
 clear hK K
 try simp only [Act.put, List.setIfInBounds_toArray, List.set_cons_zero, List.set_cons_succ]
 refine wpAnyH_take (i := 6) (oi := ⟨some 12, Op.fieldAddr 95 (Operand.tmp 2) 1, 0, "read.go:73", #[⟨0, Ground.phase⟩, ⟨1, Ground.phase⟩, ⟨2, Ground.textOnly Departure.lateStores⟩, ⟨3, Ground.textOnly Departure.lateStoresUnsure⟩, ⟨4, Ground.textOnly Departure.lateStores⟩, ⟨5, Ground.textOnly Departure.lateStoresUnsure⟩], none⟩) (v := .pointer (some ⟨w.heap.size + 1, 1, none⟩)) rfl (by kernel_rfl) (by kernel_rfl) (by kernel_rfl) (fun _ _ _ h => h) (Or.inl ⟨by rfl, fun W hW => by (try dsimp only at hW); go_simp⟩) hS0 ?_
 try simp only [Act.put, List.setIfInBounds_toArray, List.set_cons_zero, List.set_cons_succ]
 refine wpAnyH_ready (rs := [3]) (by kernel_rfl) (by simp) ?_
 refine AllReadyH.cons (o := ⟨some 9, Op.call { callee := Callee.value (Operand.func 32), args := #[Operand.tmp 8], argTypes := #[64] }, 9, "read.go:73", #[⟨2, Ground.data⟩, ⟨1, Ground.chain⟩], none⟩) rfl (fun K hK => ?_) AllReadyH.nil
 go_simp
 refine (rtxt_no HB.out.rd (by omega) h6 HB.out.v h3).mono ?_
 rintro e wv ⟨rfl, hnv⟩
 exact bodyPost_panic rfl ⟨rfl, nb_tr HB.out.fr hnv⟩
set_option maxHeartbeats 4000000 in
theorem rch1_no4 (b g : Nat) (l r1 r2 r3 r4 r5 : List UInt8) (k cb : Int) (p q t : ByteArray) (w : World) (h : Rd b l w) (hg : RBox w b g) (hs : l.length ≤ MaxL) (h6 : 5 < b) (hv : VarsW w)
    (h1 : Wr.rdG Wr.gN l = some (k, r1)) (h2 : Wr.txtP Wr.gN 1000 r1 = some (p, r2)) (h3 : Wr.txtP Wr.gN 1000 r2 = some (q, r3)) (h4 : Wr.txtP Wr.gN 1000 r3 = none)  :
    Calls Tryd.prog 61 #[.pointer (some ⟨g, 0, none⟩)] w fun e w' => GaveUp e ∧ w.grownBy w' (some b) := by
 have s1 := Wr.rd_len h1
 have s2 := Wr.txt_rest h2
 have s3 := Wr.txt_rest h3
 have hgl := heap_lt hg.1
 have H0 := hid (r3_new h hg h6 hv)
 have g0 := H0.out.box.cell
 have HK := hid (rnum_ok H0.out.rd hs h6 H0.out.v h1)
 clear hv h hg
 go_enter Tryd.func61, Tryd.ntmps61
 go_wp2_with fail
 refine HK.out.mono ?_
 rintro e w1 ⟨rfl, hr1, hn1⟩
 have H1 := hid (H0.out.call hn1 hr1)
 have c0 := H1.out.cC.cell 0 rfl
 have f0 := H1.out.cC.fr 0
 clear HK g0
 go_wp2_with fail
 obtain ⟨w2, hw2⟩ : ∃ w2, w2 = w1.setCell ⟨w.heap.size + 1, 0, none⟩ (.int .i64 k) := ⟨_, rfl⟩
 rw [← hw2]
 have HA := hid ((H1.out.set 0 (.int .i64 k)).drew)
 rw [← hw2] at HA
 have n1 : ¬ g = w.heap.size + 1 := by omega
 have n2 : ¬ w.heap.size + 1 = g := by omega
 have KS := hid (show ∀ (W : World) (i : Nat) (v : Value), W.cell? ⟨g, 0, none⟩ = some (.pointer (some ⟨b, 0, none⟩)) → (W.setCell ⟨w.heap.size + 1, i, none⟩ v).cell? ⟨g, 0, none⟩ = some (.pointer (some ⟨b, 0, none⟩)) from fun W i v hW => (World.cell?_of_block (w := W) (a := ⟨g, 0, none⟩) (Below.heap_setCell W _ v g (fun e => n1 e))).trans hW)
 have hx0 : w2.cell? ⟨g, 0, none⟩ = some (.pointer (some ⟨b, 0, none⟩)) := HA.out.box.cell
 clear hw2 c0 f0 hr1 hn1 H0 H1
 have hx1 : w2.drew.cell? ⟨g, 0, none⟩ = some (.pointer (some ⟨b, 0, none⟩)) := hx0
 refine wp_region_held_drew (S := fun W => W.cell? ⟨g, 0, none⟩ = some (.pointer (some ⟨b, 0, none⟩))) (by kernel_rfl) hx1 (fun hS => ?_)
 refine wpAnyH_take (i := 0) (oi := ⟨some 6, Op.load 64 (Operand.tmp 0), 64, "read.go:73", #[], none⟩) (v := .pointer (some ⟨b, 0, none⟩)) rfl (by kernel_rfl) (by kernel_rfl) (by kernel_rfl) (fun _ _ _ h => h) (Or.inl ⟨by rfl, fun W hW => by (try dsimp only at hW); go_simp⟩) hS ?_
 try simp only [Act.put, List.setIfInBounds_toArray, List.set_cons_zero, List.set_cons_succ]
 refine wpAnyH_take (i := 2) (oi := ⟨some 8, Op.load 64 (Operand.tmp 0), 64, "read.go:73", #[], none⟩) (v := .pointer (some ⟨b, 0, none⟩)) rfl (by kernel_rfl) (by kernel_rfl) (by kernel_rfl) (fun _ _ _ h => h) (Or.inl ⟨by rfl, fun W hW => by (try dsimp only at hW); go_simp⟩) hS ?_
 try simp only [Act.put, List.setIfInBounds_toArray, List.set_cons_zero, List.set_cons_succ]
 refine wpAnyH_take (i := 4) (oi := ⟨some 10, Op.load 64 (Operand.tmp 0), 64, "read.go:73", #[], none⟩) (v := .pointer (some ⟨b, 0, none⟩)) rfl (by kernel_rfl) (by kernel_rfl) (by kernel_rfl) (fun _ _ _ h => h) (Or.inl ⟨by rfl, fun W hW => by (try dsimp only at hW); go_simp⟩) hS ?_
 try simp only [Act.put, List.setIfInBounds_toArray, List.set_cons_zero, List.set_cons_succ]
 refine wpAnyH_ready (rs := [1]) (by kernel_rfl) (by simp) ?_
 refine AllReadyH.cons (o := ⟨some 7, Op.call { callee := Callee.value (Operand.func 32), args := #[Operand.tmp 6], argTypes := #[64] }, 9, "read.go:73", #[⟨0, Ground.data⟩], none⟩) rfl (fun K hK => ?_) AllReadyH.nil
 go_simp
 refine (rtxt_ok HA.out.rd (by omega) h6 HA.out.v h2).mono ?_
 rintro e wx0 ⟨rfl, hrx0, hnx0⟩
 have HB := hid (HA.out.call hnx0 hrx0)
 go_wp2_with fail
 refine hK.out _ _ HB.out.box.cell (fun hS0 => ?_)
 clear hK K
 try simp only [Act.put, List.setIfInBounds_toArray, List.set_cons_zero, List.set_cons_succ]
 refine wpAnyH_take (i := 6) (oi := ⟨some 12, Op.fieldAddr 95 (Operand.tmp 2) 1, 0, "read.go:73", #[⟨0, Ground.phase⟩, ⟨1, Ground.phase⟩, ⟨2, Ground.textOnly Departure.lateStores⟩, ⟨3, Ground.textOnly Departure.lateStoresUnsure⟩, ⟨4, Ground.textOnly Departure.lateStores⟩, ⟨5, Ground.textOnly Departure.lateStoresUnsure⟩], none⟩) (v := .pointer (some ⟨w.heap.size + 1, 1, none⟩)) rfl (by kernel_rfl) (by kernel_rfl) (by kernel_rfl) (fun _ _ _ h => h) (Or.inl ⟨by rfl, fun W hW => by (try dsimp only at hW); go_simp⟩) hS0 ?_
 try simp only [Act.put, List.setIfInBounds_toArray, List.set_cons_zero, List.set_cons_succ]
 refine wpAnyH_ready (rs := [3]) (by kernel_rfl) (by simp) ?_
 refine AllReadyH.cons (o := ⟨some 9, Op.call { callee := Callee.value (Operand.func 32), args := #[Operand.tmp 8], argTypes := #[64] }, 9, "read.go:73", #[⟨2, Ground.data⟩, ⟨1, Ground.chain⟩], none⟩) rfl (fun K hK => ?_) AllReadyH.nil
 go_simp
 refine (rtxt_ok HB.out.rd (by omega) h6 HB.out.v h3).mono ?_
 rintro e wx1 ⟨rfl, hrx1, hnx1⟩
 have HD := hid (HB.out.call hnx1 hrx1)
 go_wp2_with fail
 refine hK.out _ _ HD.out.box.cell (fun hS1 => ?_)
 clear hK K
 try simp only [Act.put, List.setIfInBounds_toArray, List.set_cons_zero, List.set_cons_succ]
 refine wpAnyH_ready (rs := [5]) (by kernel_rfl) (by simp) ?_
 refine AllReadyH.cons (o := ⟨some 11, Op.call { callee := Callee.value (Operand.func 32), args := #[Operand.tmp 10], argTypes := #[64] }, 9, "read.go:73", #[⟨4, Ground.data⟩, ⟨3, Ground.chain⟩], none⟩) rfl (fun K hK => ?_) AllReadyH.nil
 go_simp
 refine (rtxt_no HD.out.rd (by omega) h6 HD.out.v h4).mono ?_
 rintro e wv ⟨rfl, hnv⟩
 exact bodyPost_panic rfl ⟨rfl, nb_tr HD.out.fr hnv⟩
set_option maxHeartbeats 4000000 in
theorem rch1_no5 (b g : Nat) (l r1 r2 r3 r4 r5 : List UInt8) (k cb : Int) (p q t : ByteArray) (w : World) (h : Rd b l w) (hg : RBox w b g) (hs : l.length ≤ MaxL) (h6 : 5 < b) (hv : VarsW w)
    (h1 : Wr.rdG Wr.gN l = some (k, r1)) (h2 : Wr.txtP Wr.gN 1000 r1 = some (p, r2)) (h3 : Wr.txtP Wr.gN 1000 r2 = some (q, r3)) (h4 : Wr.txtP Wr.gN 1000 r3 = some (t, r4)) (h5 : Wr.rdG Wr.gN r4 = none) :
    Calls Tryd.prog 61 #[.pointer (some ⟨g, 0, none⟩)] w fun e w' => GaveUp e ∧ w.grownBy w' (some b) := by
 have s1 := Wr.rd_len h1
 have s2 := Wr.txt_rest h2
 have s3 := Wr.txt_rest h3
 have s4 := Wr.txt_rest h4
 have hgl := heap_lt hg.1
 have H0 := hid (r3_new h hg h6 hv)
 have g0 := H0.out.box.cell
 have HK := hid (rnum_ok H0.out.rd hs h6 H0.out.v h1)
 clear hv h hg
 go_enter Tryd.func61, Tryd.ntmps61
 go_wp2_with fail
 refine HK.out.mono ?_
 rintro e w1 ⟨rfl, hr1, hn1⟩
 have H1 := hid (H0.out.call hn1 hr1)
 have c0 := H1.out.cC.cell 0 rfl
 have f0 := H1.out.cC.fr 0
 clear HK g0
 go_wp2_with fail
 obtain ⟨w2, hw2⟩ : ∃ w2, w2 = w1.setCell ⟨w.heap.size + 1, 0, none⟩ (.int .i64 k) := ⟨_, rfl⟩
 rw [← hw2]
 have HA := hid ((H1.out.set 0 (.int .i64 k)).drew)
 rw [← hw2] at HA
 have n1 : ¬ g = w.heap.size + 1 := by omega
 have n2 : ¬ w.heap.size + 1 = g := by omega
 have KS := hid (show ∀ (W : World) (i : Nat) (v : Value), W.cell? ⟨g, 0, none⟩ = some (.pointer (some ⟨b, 0, none⟩)) → (W.setCell ⟨w.heap.size + 1, i, none⟩ v).cell? ⟨g, 0, none⟩ = some (.pointer (some ⟨b, 0, none⟩)) from fun W i v hW => (World.cell?_of_block (w := W) (a := ⟨g, 0, none⟩) (Below.heap_setCell W _ v g (fun e => n1 e))).trans hW)
 have hx0 : w2.cell? ⟨g, 0, none⟩ = some (.pointer (some ⟨b, 0, none⟩)) := HA.out.box.cell
 clear hw2 c0 f0 hr1 hn1 H0 H1
 go_cut [0, 1, 2] (fun x y z W => x = .pointer (some ⟨g, 0, none⟩) ∧ y = .pointer (some ⟨w.heap.size, 0, none⟩) ∧ z = .pointer (some ⟨w.heap.size + 1, 0, none⟩) ∧ Hid (R3 w b g (w.heap.size + 1) w.heap.size r4 [.int .i64 k, .string p, .string q, .string t, .int .i64 0] W))
 case first =>
  go_region_held3 (fun W => W.cell? ⟨g, 0, none⟩ = some (.pointer (some ⟨b, 0, none⟩))) (first | go_keep | exact KS.out _ _ _ jz | exact KS.out _ _ _ (KS.out _ _ _ jz) | exact KS.out _ _ _ (KS.out _ _ _ (KS.out _ _ _ jz)) | exact KS.out _ _ _ jy | exact KS.out _ _ _ (KS.out _ _ _ jy)) (first | (go_at_call 32; refine (rtxt_ok HA.out.rd (by omega) h6 HA.out.v h2).mono ?_; rintro e wx ⟨rfl, hrx, hnx⟩; have HB := hid (HA.out.call hnx hrx); have jx := HB.out.box.cell) | (go_at_call 32; refine (rtxt_ok HB.out.rd (by omega) h6 HB.out.v h3).mono ?_; rintro e wy ⟨rfl, hry, hny⟩; have HD := hid (HB.out.call hny hry); have jy := HD.out.box.cell; have yc1 := HD.out.cC.cell 1 rfl; have yf1 := HD.out.cC.fr 1; have yc2 := HD.out.cC.cell 2 rfl; have yf2 := HD.out.cC.fr 2; have yc3 := HD.out.cC.cell 3 rfl; have yf3 := HD.out.cC.fr 3) | (go_at_call 32; refine (rtxt_ok HD.out.rd (by omega) h6 HD.out.v h4).mono ?_; rintro e wz ⟨rfl, hrz, hnz⟩; have HE := hid (HD.out.call hnz hrz); have jz := HE.out.box.cell; have zc1 := HE.out.cC.cell 1 rfl; have zf1 := HE.out.cC.fr 1; have zc2 := HE.out.cC.cell 2 rfl; have zf2 := HE.out.cC.fr 2; have zc3 := HE.out.cC.cell 3 rfl; have zf3 := HE.out.cC.fr 3) | (go_at_call 32; refine (rtxt_ok (HD.out.set 1 (.string p)).rd (by omega) h6 (HD.out.set 1 (.string p)).v h4).mono ?_; rintro e wz ⟨rfl, hrz, hnz⟩; have HE := hid ((HD.out.set 1 (.string p)).call hnz hrz); have jz := HE.out.box.cell; have zc1 := HE.out.cC.cell 1 rfl; have zf1 := HE.out.cC.fr 1; have zc2 := HE.out.cC.cell 2 rfl; have zf2 := HE.out.cC.fr 2; have zc3 := HE.out.cC.cell 3 rfl; have zf3 := HE.out.cC.fr 3) | (go_at_call 32; refine (rtxt_ok ((HD.out.set 1 (.string p)).set 2 (.string q)).rd (by omega) h6 ((HD.out.set 1 (.string p)).set 2 (.string q)).v h4).mono ?_; rintro e wz ⟨rfl, hrz, hnz⟩; have HE := hid (((HD.out.set 1 (.string p)).set 2 (.string q)).call hnz hrz); have jz := HE.out.box.cell; have zc1 := HE.out.cC.cell 1 rfl; have zf1 := HE.out.cC.fr 1; have zc2 := HE.out.cC.cell 2 rfl; have zf2 := HE.out.cC.fr 2; have zc3 := HE.out.cC.cell 3 rfl; have zf3 := HE.out.cC.fr 3))
  go_wp2_with fail
  go_meet
  case rel => exact ⟨rfl, rfl, rfl, ((HE.out.set 1 (.string p)).set 2 (.string q)).set 3 (.string t)⟩
 case rest =>
  obtain ⟨rfl, rfl, rfl, HF⟩ := hcut
  have u0 := HF.out.box.cell
  have HN := hid (rnum_no HF.out.rd (by omega) h6 HF.out.v h5)
  clear HA hx0 KS
  go_wp2_with fail
  refine HN.out.mono ?_
  rintro e w5 ⟨rfl, hn5⟩
  exact bodyPost_panic rfl ⟨rfl, nb_tr HF.out.fr hn5⟩
end Go.Proofs.YthgjdgpjkcmcdaaDoor
namespace Go.Proofs.YthgjdgpjkcmcdaaDoor
open Go.RowKit

namespace Wr
/-- So many more are read behind those that are there. -/
def repA {α : Type} (p : Ps α) (n : Nat) (xs : List α) (l : List UInt8) : Option (List α × List UInt8) := match repP p n l with
 | none => none
 | some (ys, r) => some (xs ++ ys, r)
theorem repA_nil {α : Type} (p : Ps α) (n : Nat) (l : List UInt8) : repP p n l = repA p n [] l := by
 unfold repA; split <;> simp_all
theorem repA_zero {α : Type} (p : Ps α) (xs : List α) (l : List UInt8) : repA p 0 xs l = some (xs, l) := by simp [repA, repP, pureP]
theorem repA_no {α : Type} {p : Ps α} {n : Nat} {xs : List α} {l : List UInt8} (h : p l = none) : repA p (n + 1) xs l = none := by simp [repA, repP, bindP, h]
theorem repA_yes {α : Type} {p : Ps α} {n : Nat} {xs : List α} {l r : List UInt8} {x : α} (h : p l = some (x, r)) : repA p (n + 1) xs l = repA p n (xs ++ [x]) r := by
 unfold repA
 rw [show repP p (n + 1) l = bindP p (fun x => bindP (repP p n) fun xs => pureP (x :: xs)) l from rfl, bind_some h]
 cases h2 : repP p n r with
 | none => rw [bind_none h2]
 | some z => obtain ⟨ys, r'⟩ := z; rw [bind_some h2]; simp [pureP]
theorem lst_none {α : Type} {g : Int → Bool} {m : Int} {p : Ps α} {l : List UInt8} (h : cntP g m l = none) : lstP g m p l = none := bind_none h
theorem lst_some {α : Type} {g : Int → Bool} {m : Int} {p : Ps α} {l r : List UInt8} {n : Int} (h : cntP g m l = some (n, r)) : lstP g m p l = repA p n.toNat [] r := by
 rw [← repA_nil]; exact bind_some h
/-- What is read is not longer than what there was. -/
def Shr {α : Type} (p : Ps α) : Prop := ∀ l x r, p l = some (x, r) → r.length ≤ l.length
theorem shr_rd (g : Int → Bool) : Shr (rdG g) := fun _ _ _ h => rd_len h
theorem shr_txt (g : Int → Bool) (m : Int) : Shr (txtP g m) := fun _ _ _ h => txt_rest h
theorem shr_cnt (g : Int → Bool) (m : Int) : Shr (cntP g m) := fun _ _ _ h => cnt_len h
theorem shr_pure {α : Type} (x : α) : Shr (pureP x) := fun l y r h => by
 simp only [pureP, Option.some.injEq, Prod.mk.injEq] at h; rw [h.2]; exact Nat.le_refl _
theorem shr_bind {α β : Type} {p : Ps α} {f : α → Ps β} (hp : Shr p) (hf : ∀ x, Shr (f x)) : Shr (bindP p f) := fun l y r h => by
 unfold bindP at h
 split at h
 · cases h
 · rename_i x r' hx
   exact Nat.le_trans (hf _ _ _ _ h) (hp _ _ _ hx)
theorem shr_rep {α : Type} {p : Ps α} (hp : Shr p) : ∀ n, Shr (repP p n)
 | 0 => shr_pure _
 | n + 1 => shr_bind hp fun _ => shr_bind (shr_rep hp n) fun _ => shr_pure _
theorem shr_lst {α : Type} {p : Ps α} (g : Int → Bool) (m : Int) (hp : Shr p) : Shr (lstP g m p) := shr_bind (shr_cnt g m) fun _ => shr_rep hp _
theorem shr_yes (g : Int → Bool) : Shr (yesP g) := shr_bind (shr_cnt g 1) fun _ => shr_pure _
theorem shr_ch (g : Int → Bool) (m : Int) : Shr (chP g m) := shr_bind (shr_rd g) fun _ => shr_bind (shr_txt g m) fun _ => shr_bind (shr_txt g m) fun _ => shr_bind (shr_txt g m) fun _ => shr_bind (shr_rd g) fun _ => shr_pure _
end Wr

/-- The cells of an element. -/
def ElV (n : Nat) {α : Type} (V : α → List Value → World → Prop) (z : α × List Value) (W : World) : Prop := V z.1 z.2 W ∧ z.2.length = n ∧ ∀ u ∈ z.2, u.oneCell' = true
/-- A row of one's own that was read. -/
def RowV (B : Nat) (T : TypeId) (n : Nat) {α : Type} (V : α → List Value → World → Prop) (xs : List α) (v : Value) (W : World) : Prop :=
 ∃ Z : List (α × List Value), Z.map (·.1) = xs ∧ W.ownsRow B T n v Z.length (Z.map (·.2)).flatten ∧ ∀ z ∈ Z, ElV n V z W
theorem rowV_nil (B : Nat) (T : TypeId) (n : Nat) {α : Type} (V : α → List Value → World → Prop) (W : World) : RowV B T n V [] (.slice none 0 0) W := ⟨[], rfl, World.ownsRow_nil _ _ _ _, by simp⟩
/-- One change that is read. -/
theorem rch1_any (b g : Nat) (l : List UInt8) (w : World) (h : Rd b l w) (hg : RBox w b g) (hs : l.length ≤ MaxL) (h6 : 5 < b) (hv : VarsW w) :
    Calls Tryd.prog 61 #[.pointer (some ⟨g, 0, none⟩)] w fun e w' => RdPost b (Wr.chP Wr.gN 1000 l) (fun c v _ => v = .agg #[.int .i64 c.k, .string c.p, .string c.q, .string c.t, .int .i64 c.b]) e w' ∧ w.grownBy w' (some b) := by
 unfold Wr.chP
 cases h1 : Wr.rdG Wr.gN l with
 | none => exact (rch1_no1 b g l [] [] [] [] [] 0 0 ⟨#[]⟩ ⟨#[]⟩ ⟨#[]⟩ w h hg hs h6 hv h1).mono fun e w' hh => ⟨RdPost.no (Wr.bind_none h1) hh.1, hh.2⟩
 | some z1 =>
 obtain ⟨k, r1⟩ := z1
 rw [Wr.bind_some h1]
 cases h2 : Wr.txtP Wr.gN 1000 r1 with
 | none => exact (rch1_no2 b g l r1 [] [] [] [] k 0 ⟨#[]⟩ ⟨#[]⟩ ⟨#[]⟩ w h hg hs h6 hv h1 h2).mono fun e w' hh => ⟨RdPost.no (Wr.bind_none h2) hh.1, hh.2⟩
 | some z2 =>
 obtain ⟨p, r2⟩ := z2
 rw [Wr.bind_some h2]
 cases h3 : Wr.txtP Wr.gN 1000 r2 with
 | none => exact (rch1_no3 b g l r1 r2 [] [] [] k 0 p ⟨#[]⟩ ⟨#[]⟩ w h hg hs h6 hv h1 h2 h3).mono fun e w' hh => ⟨RdPost.no (Wr.bind_none h3) hh.1, hh.2⟩
 | some z3 =>
 obtain ⟨q, r3⟩ := z3
 rw [Wr.bind_some h3]
 cases h4 : Wr.txtP Wr.gN 1000 r3 with
 | none => exact (rch1_no4 b g l r1 r2 r3 [] [] k 0 p q ⟨#[]⟩ w h hg hs h6 hv h1 h2 h3 h4).mono fun e w' hh => ⟨RdPost.no (Wr.bind_none h4) hh.1, hh.2⟩
 | some z4 =>
 obtain ⟨t, r4⟩ := z4
 rw [Wr.bind_some h4]
 cases h5 : Wr.rdG Wr.gN r4 with
 | none => exact (rch1_no5 b g l r1 r2 r3 r4 [] k 0 p q t w h hg hs h6 hv h1 h2 h3 h4 h5).mono fun e w' hh => ⟨RdPost.no (Wr.bind_none h5) hh.1, hh.2⟩
 | some z5 =>
 obtain ⟨cb, r5⟩ := z5
 exact (rch1_ok b g l r1 r2 r3 r4 r5 k cb p q t w h hg hs h6 hv h1 h2 h3 h4 h5).mono fun e w' hh => ⟨RdPost.yes (x := ⟨k, p, q, t, cb⟩) _ (Wr.bind_some h5) hh.1 rfl hh.2.1, hh.2.2⟩
theorem ownsRow_nbX {w w' : World} {base : Nat} {e : TypeId} {size : Nat} {v : Value} {n : Nat} {xs : List Value} {g : Nat} (h : w.ownsRow base e size v n xs) (hw : w.grownBy w' (some g)) (hg : g < base) : w'.ownsRow base e size v n xs :=
 h.kept (row := some g) hw (by
  cases hv : v.ownBlock with
  | none => exact Or.inl rfl
  | some q => exact Or.inr (fun he => by injection he with he; have := (h.lt q hv).1; omega))
theorem nb_then {w W W' : World} {b : Nat} (h : w.grownBy W (some b)) (k : Below w.heap.size W W') : w.grownBy W' (some b) := ⟨k.os.trans h.os, k.tape.trans h.tape, k.output.trans h.output, Nat.le_trans h.size k.size, fun x hx hn => (k.block x hx).trans (h.block x hx hn)⟩
theorem Rd.belowB {b B : Nat} {l : List UInt8} {w w' : World} (h : Rd b l w) (hb : Below B w w') (hB : b < B) : Rd b l w' := (hb.block b hB).trans h
theorem RBox.belowB {b g B : Nat} {w w' : World} (h : RBox w b g) (hb : Below B w w') (hB : g < B) : RBox w' b g := ⟨(hb.block g hB).trans h.1, h.2⟩
/-- A row that was read stays, while other blocks are written. -/
theorem RowV.snoc {B : Nat} {T : TypeId} {n : Nat} {α : Type} {V : α → List Value → World → Prop} {Z : List (α × List Value)} {x : α} {r : List Value} {v : Value} {W : World} (ho : W.ownsRow B T n v (Z.length + 1) ((Z.map (·.2)).flatten ++ r)) (h : ∀ z ∈ Z, ElV n V z W) (hx : ElV n V (x, r) W) : RowV B T n V (Z.map (·.1) ++ [x]) v W := by
 refine ⟨Z ++ [(x, r)], by simp, by simpa using ho, fun z hz => ?_⟩
 rcases List.mem_append.1 hz with h1 | h1
 · exact h z h1
 · rw [List.mem_singleton] at h1; rw [h1]; exact hx
theorem ownsRow_lowX {w : World} {B B' : Nat} {e : TypeId} {size : Nat} {v : Value} {n : Nat} {xs : List Value} (h : w.ownsRow B e size v n xs) (hB : B' ≤ B) : w.ownsRow B' e size v n xs := by
 obtain ⟨h1, h2⟩ := h
 refine ⟨h1, ?_⟩
 rcases h2 with h2 | ⟨g, cap, cur, hv, hg, r⟩
 · exact .inl h2
 · exact .inr ⟨g, cap, cur, hv, Nat.le_trans hB hg, r⟩
end Go.Proofs.YthgjdgpjkcmcdaaDoor
namespace Go.Proofs.YthgjdgpjkcmcdaaDoor
open Go.RowKit

/-- What may be appended: nil, or so many records that lie at an address. -/
def SrcC (w : World) (sx : Value) (m size : Nat) (news : List Value) : Prop := (sx = .slice none 0 0 ∧ m = 0 ∧ news = []) ∨ ∃ ad c, sx = .slice (some ad) m c ∧ news.length = m * size ∧ (∀ j u, news[j]? = some u → w.cell? (ad.add j) = some u)
theorem SrcC.own {w : World} {B : Nat} {e : TypeId} {size : Nat} {v : Value} {n : Nat} {xs : List Value} (h : w.ownsRow B e size v n xs) : SrcC w v n size xs := by
 have h' := h
 obtain ⟨hl, h2⟩ := h
 rcases h2 with ⟨rfl, rfl⟩ | ⟨g, cap, cur, rfl, hg, hh, hn, hm, hz, htake⟩
 · exact Or.inl ⟨rfl, rfl, List.length_eq_zero_iff.1 (by rw [hl]; simp)⟩
 · refine Or.inr ⟨⟨g, 0, none⟩, cap, rfl, hl, fun j u hj => ?_⟩
   have hadd : (⟨g, 0, none⟩ : Addr).add j = ⟨g, j, none⟩ := by unfold Addr.add; split <;> simp_all
   have hlt : j < n * size := by
    have := (List.getElem?_eq_some_iff.1 hj).1
    omega
   rw [hadd, h'.cellAt j hlt]
   exact hj
namespace Pp
def cells (e : En) : List Value := [.string e.path, .bool e.folder, .string e.text, .int .i64 e.ver]
end Pp

namespace Pp
end Pp
end Go.Proofs.YthgjdgpjkcmcdaaDoor
namespace Go.Proofs.YthgjdgpjkcmcdaaDoor
open Go.RowKit

namespace Pp
def chC (c : Ch) : List Value := [.int .i64 c.k, .string c.p, .string c.q, .string c.t, .int .i64 c.b]
end Pp
theorem liesR_ch {w : World} {v : Value} {L : List Pp.Ch} : LiesC w v L ↔ LiesR 5 w v (L.map Pp.chC) := by
 constructor
 · rintro ⟨a, cap, hv, h1, h2, h3⟩
   refine ⟨a, cap, by simpa using hv, by simpa using h1, by simpa using h2, ?_, fun i hi => ?_⟩
   · intro r hr
     obtain ⟨e, _, rfl⟩ := List.mem_map.1 hr
     refine ⟨rfl, fun u hu => ?_⟩
     simp only [Pp.chC, List.mem_cons, List.not_mem_nil, or_false] at hu
     rcases hu with rfl | rfl | rfl | rfl | rfl <;> rfl
   · obtain ⟨b, o, ha, hb, he⟩ := h3 i (by simpa using hi)
     refine ⟨b, o, ha, hb, fun c u hu => ?_⟩
     rw [List.getElem_map] at hu
     obtain ⟨e0, e1, e2, e3, e4⟩ := he
     match c, hu with
     | 0, hu => simp [Pp.chC] at hu; subst hu; exact e0
     | 1, hu => simp [Pp.chC] at hu; subst hu; exact e1
     | 2, hu => simp [Pp.chC] at hu; subst hu; exact e2
     | 3, hu => simp [Pp.chC] at hu; subst hu; exact e3
     | 4, hu => simp [Pp.chC] at hu; subst hu; exact e4
     | c + 5, hu => simp [Pp.chC] at hu
 · rintro ⟨a, cap, hv, h1, h2, _, h3⟩
   refine ⟨a, cap, by simpa using hv, by simpa using h1, by simpa using h2, fun i hi => ?_⟩
   obtain ⟨b, o, ha, hb, he⟩ := h3 i (by simpa using hi)
   rw [List.getElem_map] at he
   exact ⟨b, o, ha, hb, he 0 _ rfl, he 1 _ rfl, he 2 _ rfl, he 3 _ rfl, he 4 _ rfl⟩
theorem Own.nb {B : Nat} {w w' : World} {v : Value} {g : Nat} (h : Own B w v) (hw : w.grownBy w' (some g)) (hn : ∀ b, v.ownBlock = some b → b ≠ g) : Own B w' v := fun b hb => by
 obtain ⟨h1, cur, T, hh⟩ := h b hb
 exact ⟨h1, cur, T, (hw.block b (heap_lt hh) (fun e => hn b hb (by injection e))).trans hh⟩
theorem Own.setCell {B : Nat} {w : World} {v : Value} (h : Own B w v) (b o : Nat) (u : Value) : Own B (w.setCell ⟨b, o, none⟩ u) v := fun g hg => by
 obtain ⟨h1, cur, T, hh⟩ := h g hg
 by_cases hb : b = g
 · subst hb
   refine ⟨h1, cur.setIfInBounds o u, T, ?_⟩
   unfold World.setCell
   simp only [Array.getElem?_modify, hh, if_true, Option.map_some]
   rfl
 · exact ⟨h1, cur, T, ((nb_set w b o u).block g (heap_lt hh) (fun e => hb (by injection e with e; exact e.symm))).trans hh⟩
end Go.Proofs.YthgjdgpjkcmcdaaDoor
namespace Go.Proofs.YthgjdgpjkcmcdaaDoor
open Go.RowKit

theorem Tryd.infoW5 : (Tryd.prog.info? 95).map (fun i => (i.zero, i.size, i.bytes)) = some (some (.agg #[.int .i64 0, .string ⟨#[]⟩, .string ⟨#[]⟩, .string ⟨#[]⟩, .int .i64 0]), 5, 64) := by kernel_rfl
def VCh (x : Pp.Ch) (r : List Value) (_ : World) : Prop := r = [.int .i64 x.k, .string x.p, .string x.q, .string x.t, .int .i64 x.b]
theorem rlc_enters : ∀ args w, (callFunc 61 args).run Tryd.prog w = .ok (.enter 61 args) w := enters_of Tryd.func61 (by kernel_rfl) rfl
/-- A list that is being read. -/
structure Rrlc (w : World) (b g : Nat) (x : Value) (xs : List (Pp.Ch)) (r : List UInt8) (W : World) : Prop where
 row : RowV w.heap.size 95 5 VCh xs x W
 rd : Rd b r W
 box : RBox W b g
 v : VarsW W
 fr : w.grownBy W (some b)
 rl : r.length ≤ MaxL
theorem rlc_new (W : World) (x : Pp.Ch) : ∀ j u, ([.int .i64 x.k, .string x.p, .string x.q, .string x.t, .int .i64 x.b] : List Value)[j]? = some u → (W.alloc (.cells #[.int .i64 x.k, .string x.p, .string x.q, .string x.t, .int .i64 x.b] 95)).cell? ((⟨W.heap.size, 0, none⟩ : Addr).add j) = some u := by
 intro j u hu
 have h := Cs.new W ([.int .i64 x.k, .string x.p, .string x.q, .string x.t, .int .i64 x.b]) 95
 have h2 := h.cell j hu
 rw [Addr.add_lit, Nat.zero_add]
 exact h2
set_option maxHeartbeats 2000000 in
theorem rlc_any (b g : Nat) (l : List UInt8) (w : World) (h : Rd b l w) (hg : RBox w b g) (hs : l.length ≤ MaxL) (h6 : 5 < b) (hv : VarsW w) :
    Calls Tryd.prog 60 #[.pointer (some ⟨b, 0, none⟩), .int .i64 20, .func (.func 61) #[] #[.pointer (some ⟨g, 0, none⟩)]] w fun e w' => RdPost b (Wr.lstP Wr.gN 20 (Wr.chP Wr.gN 1000) l) (RowV w.heap.size 95 5 VCh) e w' ∧ w.grownBy w' (some b) := by
 have eg := rlc_enters
 cases hc : Wr.cntP Wr.gN 20 l with
 | none =>
  have HK := hid (rcnt_no h hs h6 hv hc)
  have HN := hid (Wr.lst_none (p := Wr.chP Wr.gN 1000) hc)
  clear h hv hc hg
  go_enter Tryd.func60, Tryd.ntmps60
  go_wp2_with fail
  refine HK.out.mono ?_
  rintro e w1 ⟨rfl, hb1⟩
  exact bodyPost_panic rfl ⟨RdPost.no HN.out rfl, hb1⟩
 | some z =>
 obtain ⟨n, r1⟩ := z
 obtain ⟨_, n0, n1⟩ := Wr.cnt_some hc
 obtain ⟨N, rfl⟩ : ∃ k : Nat, n = k := ⟨n.toNat, by omega⟩
 have HK := hid (rcnt_ok h hs h6 hv hc)
 have HN := hid (Wr.lst_some (p := Wr.chP Wr.gN 1000) hc)
 rw [show ((N : Int).toNat) = N from rfl] at HN
 have hl1 := Wr.cnt_len hc
 obtain ⟨i0, hi0, hz0, hz1, hz2⟩ := info_parts Tryd.infoW5
 have hbl := h.lt
 have hgb := heap_lt hg.1
 have HS := hid (Wr.shr_ch _ _ : Wr.Shr (Wr.chP Wr.gN 1000))
 have HG := hid hg
 have HV0 := hid hv
 clear h hv hc hg
 go_enter Tryd.func60, Tryd.ntmps60
 go_wp2_with fail
 refine HK.out.mono ?_
 rintro e w1 ⟨rfl, hr1, hb1⟩
 have HR := hid (show Rrlc w b g (.slice none 0 0) [] r1 w1 from ⟨rowV_nil _ _ _ _ _, hr1, HG.out.nb hb1, HV0.out.nb h6 (by omega) hb1, hb1, by omega⟩)
 clear HK hr1 hb1 HG HV0
 go_wp2_with fail
 go_loopw [7, 11] (fun x i wr => ∃ (k : Nat) (xs : List (Pp.Ch)) (r : List UInt8), k ≤ N ∧ i = .int .i64 k ∧ Hid (Rrlc w b g x xs r wr) ∧ Hid (Wr.lstP Wr.gN 20 (Wr.chP Wr.gN 1000) l = Wr.repA (Wr.chP Wr.gN 1000) (N - k) xs r) ∧ xs.length = k) (fun _ i _ => N - (intOf i).toNat)
 case atStart => exact ⟨0, [], r1, Nat.zero_le _, rfl, HR, HN, rfl⟩
 case round =>
  obtain ⟨k, xs, r, hk, rfl, HL, HE, hxk⟩ := hrel
  by_cases hlt : k < N
  · have HO := hid (rch1_any b g r wr HL.out.rd HL.out.box HL.out.rl h6 HL.out.v)
    obtain ⟨m, hm⟩ : ∃ m, N - k = m + 1 := ⟨N - k - 1, by omega⟩
    cases hp : (Wr.chP Wr.gN 1000) r with
    | none =>
     have HF := hid (Wr.repA_no (n := m) (xs := xs) hp)
     rw [hm] at HE
     rw [hp] at HO
     clear hp HN HR hm
     go_wp2_with fail
     refine HO.out.mono ?_
     rintro e w2 ⟨he, hb2⟩
     cases he
     exact (show bodyPost Tryd.prog Tryd.f60 (fun e w' => RdPost b (Wr.lstP Wr.gN 20 (Wr.chP Wr.gN 1000) l) (RowV w.heap.size 95 5 VCh) e w' ∧ w.grownBy w' (some b)) (.panic _) _ w2 from bodyPost_panic rfl ⟨RdPost.no (HE.out.trans HF.out) rfl, nb_tr HL.out.fr hb2⟩)
    | some z =>
     obtain ⟨x, r'⟩ := z
     have HF := hid (Wr.repA_yes (n := m) (xs := xs) hp)
     rw [hm] at HE
     have hl2 := HS.out _ _ _ hp
     rw [hp] at HO
     have hrl := HL.out.rl
     clear hp HN HR
     obtain ⟨Z, hZ1, hZ2, hZ3⟩ := HL.out.row
     have hZl : Z.length = k := by rw [← hxk, ← hZ1, List.length_map]
     go_wp2_with fail
     refine HO.out.mono ?_
     rintro e w2 ⟨⟨v2, rfl, rfl, hr2⟩, hb2⟩
     have hfr2 := nb_tr HL.out.fr hb2
     have hO2 := ownsRow_nbX hZ2 hb2 hbl
     have hsz2 := hfr2.size
     have HB2 := hid (HL.out.box.nb hb2)
     have HV2 := hid (HL.out.v.nb h6 (by have := HL.out.rd.lt; omega) hb2)
     have HR2 := hid hr2
     have hgl := HL.out.box
     have hsr := HL.out.fr.size
     clear hr2 HO
     go_wp2_with (at_builtin; refine wpList_append_own _ rfl _ _ 22 rfl w.heap.size 95 i0 (.agg #[.int .i64 0, .string ⟨#[]⟩, .string ⟨#[]⟩, .string ⟨#[]⟩, .int .i64 0]) 5 64 Tryd.underlying22 hi0 hz0 hz1 hz2 rfl (by decide) _ _ _ rfl (hO2.alloc _) ⟨w2.heap.size, 0, none⟩ 1 1 ([.int .i64 x.k, .string x.p, .string x.q, .string x.t, .int .i64 x.b]) rfl rfl (rlc_new w2 x) (by simp [Value.oneCell']) (by unfold maxLen; omega) (by omega) (by simp; omega) ?_)
     intro v5 w5 ho5 hgr5 hnn5
     have hB5 : Below w.heap.size w2 w5 := ((Below.refl _ w2).alloc hsz2 _).grown hgr5 (by simp; omega) (fun q hq => (hO2.lt q hq).1)
     have HL5 := hid (show Rrlc w b g v5 (xs ++ [x]) r' w5 from ⟨by rw [← hZ1]; exact RowV.snoc (r := [.int .i64 x.k, .string x.p, .string x.q, .string x.t, .int .i64 x.b]) (by rw [hZl]; exact ho5) (fun z hz => ⟨(hZ3 z hz).1, (hZ3 z hz).2⟩) ⟨rfl, rfl, by simp [Value.oneCell']⟩, HR2.out.belowB hB5 hbl, HB2.out.belowB hB5 hgb, HV2.out.belowB (by omega) hB5, nb_then hfr2 hB5, by omega⟩)
     clear ho5 hgr5 hnn5 hO2 hZ1 hZ2 hZ3 hB5
     go_wp2_with fail
     go_roundw
     case rel => exact ⟨k + 1, xs ++ [x], r', by omega, by simp, HL5, hid (by rw [HE.out, HF.out, show N - (k + 1) = m from by omega]), by simp [hxk]⟩
     case measure => simp [intOf]; omega
  · obtain rfl : k = N := by omega
    rw [Nat.sub_self, Wr.repA_zero] at HE
    clear HN HR
    go_wp2_with fail
    go_ret
    exact ⟨RdPost.yes _ HE.out rfl HL.out.row HL.out.rd, HL.out.fr⟩
theorem RowV.low {B B' : Nat} {T : TypeId} {n : Nat} {α : Type} {V : α → List Value → World → Prop} {xs : List α} {v : Value} {W : World} (h : RowV B T n V xs v W) (hB : B' ≤ B) : RowV B' T n V xs v W := by
 obtain ⟨Z, h1, h2, h3⟩ := h
 exact ⟨Z, h1, ownsRow_lowX h2 hB, h3⟩
theorem RdPost.map {α : Type} {b : Nat} {res : Option (α × List UInt8)} {V V' : α → Value → World → Prop} {e : Ending} {w' : World} (h : RdPost b res V e w') (hV : ∀ x v, V x v w' → V' x v w') : RdPost b res V' e w' := by
 cases res with
 | none => exact h
 | some z => obtain ⟨v, h1, h2, h3⟩ := h; exact ⟨v, h1, hV _ _ h2, h3⟩
set_option maxHeartbeats 1000000 in
theorem rchs_any (b : Nat) (l : List UInt8) (w : World) (h : Rd b l w) (hs : l.length ≤ MaxL) (h6 : 5 < b) (hv : VarsW w) :
    Calls Tryd.prog 33 #[.pointer (some ⟨b, 0, none⟩)] w fun e w' => RdPost b (Wr.lstP Wr.gN 20 (Wr.chP Wr.gN 1000) l) (RowV w.heap.size 95 5 VCh) e w' ∧ w.grownBy w' (some b) := by
 have hmf : ∀ (fn : Fn) (first cap : Array Value) (w : World), (Instr.makeFunc fn first cap).run Tryd.prog w = .ok (.func fn first cap) w := fun _ _ _ _ => rfl
 have hlt := h.lt
 obtain ⟨wz, hwz⟩ : ∃ wz, wz = w.alloc (.cells #[.pointer (some ⟨b, 0, none⟩)] 64) := ⟨_, rfl⟩
 have hbz : Below w.heap.size w wz := by rw [hwz]; exact below_alloc _ _
 have hgz : RBox wz b w.heap.size := ⟨by rw [hwz]; exact heap_alloc_new w _, by omega⟩
 have hsz := hbz.size
 have HK := hid (rlc_any b w.heap.size l wz (h.below hbz) hgz hs h6 (hv.belowB (by omega) hbz))
 have HF := hid (nb_below b hbz)
 rw [hwz] at HK
 have HWZ := hid hwz
 clear hwz hgz hv h
 go_enter Tryd.func33, Tryd.ntmps33
 go_wp2_with fail
 refine HK.out.mono ?_
 rintro e w2 ⟨hp, hf2⟩
 rw [← HWZ.out] at hf2 hp
 have hp2 := hp.map (V' := RowV w.heap.size 95 5 VCh) (fun x v hx => hx.low hsz)
 cases hr : Wr.lstP Wr.gN 20 (Wr.chP Wr.gN 1000) l with
 | none =>
  rw [hr] at hp2
  cases hp2
  exact bodyPost_panic rfl ⟨RdPost.no hr rfl, nb_tr HF.out hf2⟩
 | some z =>
  obtain ⟨cs, r⟩ := z
  rw [hr] at hp2
  obtain ⟨v, rfl, hV, hrd⟩ := hp2
  have HV := hid hV
  have HR := hid hrd
  clear hV hrd hp
  go_wp2_with fail
  go_ret
  exact ⟨RdPost.yes v hr rfl HV.out HR.out, nb_tr HF.out hf2⟩
end Go.Proofs.YthgjdgpjkcmcdaaDoor
