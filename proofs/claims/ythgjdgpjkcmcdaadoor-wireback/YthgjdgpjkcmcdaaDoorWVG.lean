/- What the reference's SameAnswer answers, of the same answers. -/
import Derived.Test.YthgjdgpjkcmcdaaDoorWVA
import Derived.Test.YthgjdgpjkcmcdaaDoorWVF
import Derived.Deep.Cut
import Derived.Test.YthgjdgpjkcmcdaaDoorWVE
import Derived.Test.YthgjdgpjkcmcdaaDoorWVD
import Derived.Deep.CutBlock
import Derived.Deep.CutRange
import Derived.Test.YthgjdgpjkcmcdaaDoorRows
import Derived.Deep.Slices
import Derived.Lib.SmallJoins
import Derived.Carry
import Derived.SizedLaws
set_option linter.unusedSimpArgs false
set_option linter.unusedVariables false
namespace Go.Proofs.YthgjdgpjkcmcdaaDoor
open Go.RowKit

set_option maxRecDepth 100000 in
set_option maxHeartbeats 4000000 in
theorem sameAnswer_yes (A : An) (v u : Value) (w : World) (hv : LiesA w v A) (hu : LiesA w u A) :
    Calls Tryd.prog 19 #[v, u] w fun e w' => e = .returned (.bool true) ∧ Below w.heap.size w w' := by
 obtain ⟨vt, vc, rfl, lt, lc⟩ := hv
 obtain ⟨ut, uc, rfl, mt, mc⟩ := hu
 have HVT := hid lt
 have HVC := hid lc
 have HUT := hid mt
 have HUC := hid mc
 obtain ⟨a1, b1, rfl, _⟩ := lt
 obtain ⟨a2, b2, rfl, _⟩ := lc
 obtain ⟨a3, b3, rfl, _⟩ := mt
 obtain ⟨a4, b4, rfl, _⟩ := mc
 obtain ⟨wa, hwa⟩ : ∃ wa, wa = w.alloc (.cells #[.int .i64 A.err, .int .i64 A.num, .bool A.pg.reset, .slice a1 A.pg.tree.length b1, .slice a2 A.pg.cos.length b2, .int .i64 A.pg.cur, .bool A.pg.more] 40) := ⟨_, rfl⟩
 obtain ⟨wz, hwz⟩ : ∃ wz, wz = wa.alloc (.cells #[.int .i64 A.err, .int .i64 A.num, .bool A.pg.reset, .slice a3 A.pg.tree.length b3, .slice a4 A.pg.cos.length b4, .int .i64 A.pg.cur, .bool A.pg.more] 40) := ⟨_, rfl⟩
 have sa1 : wa.heap.size = w.heap.size + 1 := by rw [hwa]; simp
 have bwa : Below w.heap.size w wa := by rw [hwa]; exact (Below.refl _ _).alloc (Nat.le_refl _) _
 have bwz : Below wa.heap.size wa wz := by rw [hwz]; exact (Below.refl _ _).alloc (Nat.le_refl _) _
 have hbz : Below w.heap.size w wz := below_tr bwa bwz
 have HBX : Hid (Cs wz w.heap.size [.int .i64 A.err, .int .i64 A.num, .bool A.pg.reset, .slice a1 A.pg.tree.length b1, .slice a2 A.pg.cos.length b2, .int .i64 A.pg.cur, .bool A.pg.more]) := ((by rw [hwa]; exact Cs.new w [.int .i64 A.err, .int .i64 A.num, .bool A.pg.reset, .slice a1 A.pg.tree.length b1, .slice a2 A.pg.cos.length b2, .int .i64 A.pg.cur, .bool A.pg.more] _ : Cs wa w.heap.size [.int .i64 A.err, .int .i64 A.num, .bool A.pg.reset, .slice a1 A.pg.tree.length b1, .slice a2 A.pg.cos.length b2, .int .i64 A.pg.cur, .bool A.pg.more]).below bwz : Cs wz w.heap.size _)
 have HBY : Hid (Cs wz (w.heap.size + 1) [.int .i64 A.err, .int .i64 A.num, .bool A.pg.reset, .slice a3 A.pg.tree.length b3, .slice a4 A.pg.cos.length b4, .int .i64 A.pg.cur, .bool A.pg.more]) := (by rw [← sa1, hwz]; exact Cs.new wa [.int .i64 A.err, .int .i64 A.num, .bool A.pg.reset, .slice a3 A.pg.tree.length b3, .slice a4 A.pg.cos.length b4, .int .i64 A.pg.cur, .bool A.pg.more] _ : Cs wz (w.heap.size + 1) _)
 have hwzz : (w.alloc (.cells #[.int .i64 A.err, .int .i64 A.num, .bool A.pg.reset, .slice a1 A.pg.tree.length b1, .slice a2 A.pg.cos.length b2, .int .i64 A.pg.cur, .bool A.pg.more] 40)).alloc (.cells #[.int .i64 A.err, .int .i64 A.num, .bool A.pg.reset, .slice a3 A.pg.tree.length b3, .slice a4 A.pg.cos.length b4, .int .i64 A.pg.cur, .bool A.pg.more] 40) = wz := by rw [hwz, hwa]
 have HWZ := hid hwzz
 clear hwa hwz bwa bwz sa1 hwzz
 have x0 := HBX.out.cell 0 rfl
 have x1 := HBX.out.cell 1 rfl
 have x2 := HBX.out.cell 2 rfl
 have x3 := HBX.out.cell 3 rfl
 have x4 := HBX.out.cell 4 rfl
 have x5 := HBX.out.cell 5 rfl
 have x6 := HBX.out.cell 6 rfl
 have y0 := HBY.out.cell 0 rfl
 have y1 := HBY.out.cell 1 rfl
 have y2 := HBY.out.cell 2 rfl
 have y3 := HBY.out.cell 3 rfl
 have y4 := HBY.out.cell 4 rfl
 have y5 := HBY.out.cell 5 rfl
 have y6 := HBY.out.cell 6 rfl
 go_enter Tryd.func19, Tryd.ntmps19
 go_upto_region 1 with fail
 rw [HWZ.out]
 clear HWZ
 go_wp2_with fail
 refine (samePg_yes A.pg _ _ _ ⟨_, _, rfl, HVT.out.below hbz, HVC.out.below hbz⟩ ⟨_, _, rfl, HUT.out.below hbz, HUC.out.below hbz⟩).mono ?_
 rintro e w1 ⟨rfl, hb1⟩
 have hb01 := below_tr hbz hb1
 go_wp2_with fail
 go_ret
 exact ⟨rfl, hb01⟩
def zeroAn : An := ⟨0, 0, ⟨false, [], [], 0, false⟩⟩
/-- What was read of a text, as a value that lies there. -/
theorem wha_lies {l : List UInt8} {B : Nat} {e : Ending} {W : World} (h : WhPost (Wr.whole (Wr.anP Wr.gN 1000 l)) (.agg zan.toArray) (AnV B) e W) :
    ∃ a c a2 c2, e = .returned (.tuple #[.agg #[.int .i64 ((Wr.whole (Wr.anP Wr.gN 1000 l)).getD zeroAn).err, .int .i64 ((Wr.whole (Wr.anP Wr.gN 1000 l)).getD zeroAn).num, .bool ((Wr.whole (Wr.anP Wr.gN 1000 l)).getD zeroAn).pg.reset, .slice a ((Wr.whole (Wr.anP Wr.gN 1000 l)).getD zeroAn).pg.tree.length c, .slice a2 ((Wr.whole (Wr.anP Wr.gN 1000 l)).getD zeroAn).pg.cos.length c2, .int .i64 ((Wr.whole (Wr.anP Wr.gN 1000 l)).getD zeroAn).pg.cur, .bool ((Wr.whole (Wr.anP Wr.gN 1000 l)).getD zeroAn).pg.more], .int .i64 (if (Wr.whole (Wr.anP Wr.gN 1000 l)).isSome then 0 else 1)]) ∧ Lies W (.slice a ((Wr.whole (Wr.anP Wr.gN 1000 l)).getD zeroAn).pg.tree.length c) ((Wr.whole (Wr.anP Wr.gN 1000 l)).getD zeroAn).pg.tree ∧ LiesO W (.slice a2 ((Wr.whole (Wr.anP Wr.gN 1000 l)).getD zeroAn).pg.cos.length c2) ((Wr.whole (Wr.anP Wr.gN 1000 l)).getD zeroAn).pg.cos := by
 cases hr : (Wr.whole (Wr.anP Wr.gN 1000 l)) with
 | none =>
  rw [hr] at h
  exact ⟨none, 0, none, 0, h, ⟨none, 0, rfl, Nat.le_refl _, by simp [zeroAn], fun i hi => absurd hi (by simp [zeroAn])⟩, liesO_nil W⟩
 | some q =>
  rw [hr] at h
  obtain ⟨v, rfl, hq⟩ := h
  have hok := (Wr.ok_an q).1 (Wr.whole_an.1 hr).1
  obtain ⟨vt, vc, rfl, hT, hO⟩ := hq.lies (by have := hok.p.t.1; omega) (by have := hok.p.o.1; omega) (fun c hc => by have := (hok.p.o.2 c hc).c.1; omega)
  have hT' := hT
  obtain ⟨a, c, rfl, _⟩ := hT'
  obtain ⟨a2, c2, rfl⟩ := liesO_shape hO
  exact ⟨a, c, a2, c2, rfl, hT, hO⟩
theorem near_i64 {n : Int} (h : Wr.gN n = true) : I64 n := by rw [Wr.gN, Wr.near_iff] at h; exact ⟨by omega, by omega⟩
theorem ok_txb {x : ByteArray} (h : Wr.gN x.size = true ∧ (x.size : Int) ≤ 1000) : TxB x := by unfold TxB; omega
theorem Wr.OkC.wf {c : Pp.Ch} (h : Wr.OkC Wr.gN 1000 c) : WfC c := ⟨near_i64 h.k, near_i64 h.b, ok_txb h.p, ok_txb h.q, ok_txb h.t⟩
theorem Wr.OkQ.wf {q : Rq} (h : Wr.OkQ Wr.gN 1000 q) : WfQ q := ⟨near_i64 h.kind, near_i64 h.num, near_i64 h.off, near_i64 h.base, ok_txb h.who, ok_txb h.fo, ok_txb h.name, ok_txb h.key, ok_txb h.text, fun c hc => (h.ch.2 c hc).wf⟩
theorem Wr.OkA.wf {a : An} (h : Wr.OkA Wr.gN 1000 a) : WfA a := ⟨near_i64 h.e, near_i64 h.n, near_i64 h.p.u, fun x hx => ⟨near_i64 (h.p.t.2 x hx).v, ok_txb (h.p.t.2 x hx).p, ok_txb (h.p.t.2 x hx).t⟩, fun c hc => ⟨near_i64 (h.p.o.2 c hc).n, ok_txb (h.p.o.2 c hc).k, fun x hx => ((h.p.o.2 c hc).c.2 x hx).wf⟩⟩
theorem bytes_len (l : List UInt8) : (⟨l.toArray⟩ : ByteArray).size = l.length := by rw [Lib.size_eq]
/-- What Ask answers, in short. -/
theorem ask_short (q : Rq) (v : Value) (w : World) (hq : LiesQ w v q) (hz : WfQ q) (h3 : 3 < w.heap.size) (ht : PowTab w) :
    Calls Tryd.prog 8 #[v] w fun e w' => (∃ (t : ByteArray) (E : Int), e = .returned (.tuple #[.string t, .int .i64 E]) ∧ ((E = 0 ∧ Wr.ok (Wr.rqI q) = true ∧ t = ⟨(Wr.bytes (Wr.rqI q)).toArray⟩) ∨ (¬ E = 0 ∧ Wr.ok (Wr.rqI q) = false))) ∧ Below w.heap.size w w' := by
 refine (ask_any q v w hq hz h3 ht).mono ?_
 rintro e w' ⟨rfl, hb⟩
 refine ⟨⟨_, _, rfl, ?_⟩, hb⟩
 cases hk : Wr.ok (Wr.rqI q) with
 | true => rw [Wr.fin_ok hk]; exact Or.inl ⟨rfl, rfl, rfl⟩
 | false => exact Or.inr ⟨(Wr.fin_bad hk).1, rfl⟩
theorem tell_short (q : An) (v : Value) (w : World) (hq : LiesA w v q) (hz : WfA q) (h3 : 3 < w.heap.size) (ht : PowTab w) :
    Calls Tryd.prog 15 #[v] w fun e w' => (∃ (t : ByteArray) (E : Int), e = .returned (.tuple #[.string t, .int .i64 E]) ∧ ((E = 0 ∧ Wr.ok (Wr.anI q) = true ∧ t = ⟨(Wr.bytes (Wr.anI q)).toArray⟩) ∨ (¬ E = 0 ∧ Wr.ok (Wr.anI q) = false))) ∧ Below w.heap.size w w' := by
 refine (tell_any q v w hq hz h3 ht).mono ?_
 rintro e w' ⟨rfl, hb⟩
 refine ⟨⟨_, _, rfl, ?_⟩, hb⟩
 cases hk : Wr.ok (Wr.anI q) with
 | true => rw [Wr.fin_ok hk]; exact Or.inl ⟨rfl, rfl, rfl⟩
 | false => exact Or.inr ⟨(Wr.fin_bad hk).1, rfl⟩
theorem Wr.it_len (x : It) (h : x.ok = true) : x.bytes.length ≤ 1021 := by
 cases x with
 | n i =>
  have h1 := Wr.itoa_len (near_i64 h)
  simp only [It.bytes, List.length_append, List.length_cons, List.length_nil]; omega
 | t x =>
  have hx : x.size ≤ 1000 := of_decide_eq_true h
  have h1 := Wr.itoa_len (n := x.size) ⟨by omega, by omega⟩
  have h2 : x.data.toList.length = x.size := (Lib.size_eq x).symm
  simp only [It.bytes, List.length_append, List.length_cons, List.length_nil, h2]; omega
 | big => simp [It.bytes]
theorem Wr.ok_len : ∀ (l : List It), ok l = true → (bytes l).length ≤ 1021 * l.length
 | [], _ => by simp [bytes]
 | x :: l, h => by
  simp only [ok, List.all_cons, Bool.and_eq_true] at h
  have h1 := it_len x h.1
  have h2 := ok_len l h.2
  rw [bytes_cons, List.length_append, List.length_cons]; omega
theorem Wr.rq_len {q : Rq} (h : Wr.ok (Wr.rqI q) = true) : (Wr.bytes (Wr.rqI q)).length ≤ MaxL := by
 have h1 := Wr.ok_len _ h
 have h2 := Wr.lst_len Wr.chI 20 5 q.ch (fun x hx => by simp [Wr.chI])
 have h3 : (Wr.rqI q).length ≤ 110 := by simp only [Wr.rqI, List.length_append, List.length_cons, List.length_nil]; omega
 unfold MaxL; omega
theorem Wr.an_len {q : An} (h : Wr.ok (Wr.anI q) = true) : (Wr.bytes (Wr.anI q)).length ≤ MaxL := by
 have h1 := Wr.ok_len _ h
 have h2 := Wr.lst_len Wr.enI 60 4 q.pg.tree (fun x hx => by simp [Wr.enI])
 have h3 := Wr.lst_len Wr.coI 10 103 q.pg.cos (fun x hx => by
  have := Wr.lst_len Wr.chI 20 5 x.ch (fun x hx => by simp [Wr.chI])
  simp only [Wr.coI, List.length_append, List.length_cons, List.length_nil]; omega)
 have h4 : (Wr.anI q).length ≤ 2000 := by simp only [Wr.anI, Wr.pgI, List.length_append, List.length_cons, List.length_nil]; omega
 unfold MaxL; omega
theorem bytes_of {s : ByteArray} {l : List UInt8} (h : s.data.toList = l) : (⟨l.toArray⟩ : ByteArray) = s := by rw [← h]
set_option maxHeartbeats 4000000 in
theorem wireBack_walk (q : Rq) (A : An) (s : ByteArray) (vq va : Value) (w : World) (hq : LiesQ w vq q) (hzq : WfQ q) (ha : LiesA w va A) (hza : WfA A) (hs : s.size ≤ MaxL) (h6 : 5 < w.heap.size) (hv : VarsW w) :
    Calls Tryd.prog 7 #[vq, va, .string s] w fun e w' => e = .returned (.bool true) ∧ Below w.heap.size w w' := by
 obtain ⟨vc, rfl, hL⟩ := hq
 obtain ⟨vt, vo, rfl, hT, hO⟩ := ha
 have HLQ := hid hL
 have HLT := hid hT
 have HLO := hid hO
 obtain ⟨av, cv, rfl, _⟩ := hL
 obtain ⟨at_, ct_, rfl, _⟩ := hT
 obtain ⟨ao_, co_, rfl⟩ := liesO_shape hO
 obtain ⟨wa, hwa⟩ : ∃ wa, wa = w.alloc (.cells #[.int .i64 q.kind, .string q.who, .string q.fo, .string q.name, .string q.key, .string q.text, .int .i64 q.num, .int .i64 q.off, .int .i64 q.base, .slice av q.ch.length cv] 24) := ⟨_, rfl⟩
 obtain ⟨w0, hw0⟩ : ∃ w0, w0 = wa.alloc (.cells #[.int .i64 A.err, .int .i64 A.num, .bool A.pg.reset, .slice at_ A.pg.tree.length ct_, .slice ao_ A.pg.cos.length co_, .int .i64 A.pg.cur, .bool A.pg.more] 40) := ⟨_, rfl⟩
 have sa : wa.heap.size = w.heap.size + 1 := by rw [hwa]; simp
 have hba : Below w.heap.size w wa := by rw [hwa]; exact below_alloc _ _
 have hb0 : Below wa.heap.size wa w0 := by rw [hw0]; exact below_alloc _ _
 have hab : Below w.heap.size w w0 := below_tr hba hb0
 have HCQ := hid (Cs.below (show Cs wa w.heap.size [.int .i64 q.kind, .string q.who, .string q.fo, .string q.name, .string q.key, .string q.text, .int .i64 q.num, .int .i64 q.off, .int .i64 q.base, .slice av q.ch.length cv] by rw [hwa]; exact Cs.new w _ _) hb0)
 have HCA := hid (show Cs w0 (w.heap.size + 1) [.int .i64 A.err, .int .i64 A.num, .bool A.pg.reset, .slice at_ A.pg.tree.length ct_, .slice ao_ A.pg.cos.length co_, .int .i64 A.pg.cur, .bool A.pg.more] by rw [← sa, hw0]; exact Cs.new wa _ _)
 have HV := hid (fun W (hW : Below w.heap.size w W) => hv.belowB h6 hW)
 have HAB := hid hab
 have HW := hid (show (w.alloc (.cells #[.int .i64 q.kind, .string q.who, .string q.fo, .string q.name, .string q.key, .string q.text, .int .i64 q.num, .int .i64 q.off, .int .i64 q.base, .slice av q.ch.length cv] 24)).alloc (.cells #[.int .i64 A.err, .int .i64 A.num, .bool A.pg.reset, .slice at_ A.pg.tree.length ct_, .slice ao_ A.pg.cos.length co_, .int .i64 A.pg.cur, .bool A.pg.more] 40) = w0 from by rw [← hwa, ← hw0])
 have HZ := hid (And.intro hzq hza)
 have HS := hid hs
 have s0 := hab.size
 clear hwa hw0 sa hba hb0 hab hzq hza hs hv hO
 go_enter Tryd.func7, Tryd.ntmps7
 go_upto_region 1 with fail
 rw [HW.out]
 clear HW
 go_wp2_with fail
 refine (wireBegun_yes w0 (by omega) (HV.out w0 HAB.out)).mono ?_
 rintro e w1 ⟨rfl, hb1⟩
 have HB1 := hid hb1
 clear hb1
 have c1 := HCQ.out.below HB1.out
 have x0 := c1.cell 0 rfl
 have x1 := c1.cell 1 rfl
 have x2 := c1.cell 2 rfl
 have x3 := c1.cell 3 rfl
 have x4 := c1.cell 4 rfl
 have x5 := c1.cell 5 rfl
 have x6 := c1.cell 6 rfl
 have x7 := c1.cell 7 rfl
 have x8 := c1.cell 8 rfl
 have x9 := c1.cell 9 rfl
 go_wp2_with fail
 refine (ask_short q _ w1 ⟨_, rfl, HLQ.out.below (below_tr HAB.out HB1.out)⟩ HZ.out.1 (by have := HB1.out.size; omega) (HV.out w1 (below_tr HAB.out HB1.out)).pow).mono ?_
 rintro e w2 ⟨⟨t, E, rfl, hE⟩, hb2⟩
 have HB2 := hid (below_tr HB1.out hb2)
 have HE := hid hE
 clear hE hb2 c1 x0 x1 x2 x3 x4 x5 x6 x7 x8 x9
 go_upto_if 30 with fail
 go_cut [6] from 31 to 43 (fun v W => v = .bool false ∧ Hid (Below w0.heap.size w0 W))
 case first =>
  rcases HE.out with ⟨rfl, hok, ht⟩ | ⟨hE, _⟩
  · have HOK := hid hok
    have HR := hid (show Wr.whole (Wr.rqP Wr.gN 1000 t.data.toList) = some q from Wr.whole_rq.2 ⟨hok, by rw [ht]⟩)
    have HA := hid (asked_any t w2 (by rw [ht, bytes_len]; exact Wr.rq_len hok) (by have := HB2.out.size; omega) (HV.out w2 (below_tr HAB.out HB2.out)))
    rw [HR.out] at HA
    clear hok ht HE
    go_wp2_with fail
    refine HA.out.mono ?_
    rintro e w3 ⟨⟨v3, rfl, hrq⟩, hb3⟩
    have hlq := liesQ_of hrq (by have := ((Wr.ok_rq q).1 HOK.out).ch.1; omega)
    clear hrq HA
    obtain ⟨vc3, rfl, hL3⟩ := hlq
    have HL3 := hid hL3
    obtain ⟨a3, c3, rfl, _⟩ := hL3
    obtain ⟨wz, hwz⟩ : ∃ wz, wz = w3.alloc (.cells #[.int .i64 q.kind, .string q.who, .string q.fo, .string q.name, .string q.key, .string q.text, .int .i64 q.num, .int .i64 q.off, .int .i64 q.base, .slice a3 q.ch.length c3] 24) := ⟨_, rfl⟩
    have hbz : Below w3.heap.size w3 wz := by rw [hwz]; exact below_alloc _ _
    have hzc : Cs wz w3.heap.size [.int .i64 q.kind, .string q.who, .string q.fo, .string q.name, .string q.key, .string q.text, .int .i64 q.num, .int .i64 q.off, .int .i64 q.base, .slice a3 q.ch.length c3] := by rw [hwz]; exact Cs.new w3 _ _
    have HBz := hid (below_tr HB2.out (below_tr hb3 hbz))
    have HLz := hid (HL3.out.below hbz)
    go_upto_region 6 with fail
    rw [← hwz]
    clear hwz hb3 hbz HL3
    have c1 := HCQ.out.below HBz.out
    have x0 := c1.cell 0 rfl
    have x1 := c1.cell 1 rfl
    have x2 := c1.cell 2 rfl
    have x3 := c1.cell 3 rfl
    have x4 := c1.cell 4 rfl
    have x5 := c1.cell 5 rfl
    have x6 := c1.cell 6 rfl
    have x7 := c1.cell 7 rfl
    have x8 := c1.cell 8 rfl
    have x9 := c1.cell 9 rfl
    have y0 := hzc.cell 0 rfl
    have y1 := hzc.cell 1 rfl
    have y2 := hzc.cell 2 rfl
    have y3 := hzc.cell 3 rfl
    have y4 := hzc.cell 4 rfl
    have y5 := hzc.cell 5 rfl
    have y6 := hzc.cell 6 rfl
    have y7 := hzc.cell 7 rfl
    have y8 := hzc.cell 8 rfl
    have y9 := hzc.cell 9 rfl
    go_wp2_with fail
    refine (sameRequest_yes q _ _ wz ⟨_, rfl, HLz.out⟩ ⟨_, rfl, HLQ.out.below (below_tr HAB.out HBz.out)⟩).mono ?_
    rintro e w4 ⟨rfl, hb4⟩
    have HB4 := hid (below_tr HBz.out hb4)
    clear hb4 c1 hzc x0 x1 x2 x3 x4 x5 x6 x7 x8 x9 y0 y1 y2 y3 y4 y5 y6 y7 y8 y9
    go_wp2_with fail
    go_meet
    case rel => exact ⟨rfl, HB4⟩
  · have hE2 : (E == 0) = false := by simpa using hE
    clear HE
    go_wp2_with fail
    go_meet
    case rel => exact ⟨rfl, HB2⟩
 case rest =>
 obtain ⟨rfl, HB5⟩ := hcut
 have c1 := HCA.out.below HB5.out
 have x0 := c1.cell 0 rfl
 have x1 := c1.cell 1 rfl
 have x2 := c1.cell 2 rfl
 have x3 := c1.cell 3 rfl
 have x4 := c1.cell 4 rfl
 have x5 := c1.cell 5 rfl
 have x6 := c1.cell 6 rfl
 clear HB1 HB2 HE
 go_wp2_with fail
 refine (tell_short A _ wc ⟨_, _, rfl, HLT.out.below (below_tr HAB.out HB5.out), HLO.out.below (below_tr HAB.out HB5.out)⟩ HZ.out.2 (by have := HB5.out.size; omega) (HV.out wc (below_tr HAB.out HB5.out)).pow).mono ?_
 rintro e w2 ⟨⟨t, E, rfl, hE⟩, hb2⟩
 have HB2 := hid (below_tr HB5.out hb2)
 have HE := hid hE
 clear hE hb2 c1 x0 x1 x2 x3 x4 x5 x6
 go_upto_if 50 with fail
 go_cut [6] from 51 to 63 (fun v W => v = .bool false ∧ Hid (Below w0.heap.size w0 W))
 case first =>
  rcases HE.out with ⟨rfl, hok, ht⟩ | ⟨hE, _⟩
  · have HOK := hid hok
    have HR := hid (show Wr.whole (Wr.anP Wr.gN 1000 t.data.toList) = some A from Wr.whole_an.2 ⟨hok, by rw [ht]⟩)
    have HA := hid (told_any t w2 (by rw [ht, bytes_len]; exact Wr.an_len hok) (by have := HB2.out.size; omega) (HV.out w2 (below_tr HAB.out HB2.out)))
    rw [HR.out] at HA
    clear hok ht HE
    go_wp2_with fail
    refine HA.out.mono ?_
    rintro e w3 ⟨⟨v3, rfl, hrq⟩, hb3⟩
    have hla := hrq.lies (by have := ((Wr.ok_an A).1 HOK.out).p.t.1; omega) (by have := ((Wr.ok_an A).1 HOK.out).p.o.1; omega) (fun c hc => by have := (((Wr.ok_an A).1 HOK.out).p.o.2 c hc).c.1; omega)
    clear hrq HA
    obtain ⟨vt3, vo3, rfl, hT3, hO3⟩ := hla
    have HT3 := hid hT3
    have HO3 := hid hO3
    obtain ⟨a3, c3, rfl, _⟩ := hT3
    obtain ⟨a4, c4, rfl⟩ := liesO_shape hO3
    clear hO3
    obtain ⟨wz, hwz⟩ : ∃ wz, wz = w3.alloc (.cells #[.int .i64 A.err, .int .i64 A.num, .bool A.pg.reset, .slice a3 A.pg.tree.length c3, .slice a4 A.pg.cos.length c4, .int .i64 A.pg.cur, .bool A.pg.more] 40) := ⟨_, rfl⟩
    have hbz : Below w3.heap.size w3 wz := by rw [hwz]; exact below_alloc _ _
    have hzc : Cs wz w3.heap.size [.int .i64 A.err, .int .i64 A.num, .bool A.pg.reset, .slice a3 A.pg.tree.length c3, .slice a4 A.pg.cos.length c4, .int .i64 A.pg.cur, .bool A.pg.more] := by rw [hwz]; exact Cs.new w3 _ _
    have HBz := hid (below_tr HB2.out (below_tr hb3 hbz))
    have HLz := hid (And.intro (HT3.out.below hbz) (HO3.out.below hbz))
    go_upto_region 11 with fail
    rw [← hwz]
    clear hwz hb3 hbz HT3 HO3
    have c1 := HCA.out.below HBz.out
    have x0 := c1.cell 0 rfl
    have x1 := c1.cell 1 rfl
    have x2 := c1.cell 2 rfl
    have x3 := c1.cell 3 rfl
    have x4 := c1.cell 4 rfl
    have x5 := c1.cell 5 rfl
    have x6 := c1.cell 6 rfl
    have y0 := hzc.cell 0 rfl
    have y1 := hzc.cell 1 rfl
    have y2 := hzc.cell 2 rfl
    have y3 := hzc.cell 3 rfl
    have y4 := hzc.cell 4 rfl
    have y5 := hzc.cell 5 rfl
    have y6 := hzc.cell 6 rfl
    go_wp2_with fail
    refine (sameAnswer_yes A _ _ wz ⟨_, _, rfl, HLz.out.1, HLz.out.2⟩ ⟨_, _, rfl, HLT.out.below (below_tr HAB.out HBz.out), HLO.out.below (below_tr HAB.out HBz.out)⟩).mono ?_
    rintro e w4 ⟨rfl, hb4⟩
    have HB4 := hid (below_tr HBz.out hb4)
    clear hb4 c1 hzc x0 x1 x2 x3 x4 x5 x6 y0 y1 y2 y3 y4 y5 y6
    go_wp2_with fail
    go_meet
    case rel => exact ⟨rfl, HB4⟩
  · have hE2 : (E == 0) = false := by simpa using hE
    clear HE
    go_wp2_with fail
    go_meet
    case rel => exact ⟨rfl, HB2⟩
 case rest =>
 obtain ⟨rfl, HB6⟩ := hcut
 clear HB5 HB2 HE
 obtain ⟨w5, hw5⟩ : ∃ W : World, W = wc := ⟨_, rfl⟩
 go_wp2_with fail
 refine (asked_any s _ HS.out (by have := HB6.out.size; omega) (HV.out _ (below_tr HAB.out HB6.out))).mono ?_
 rintro e w7 ⟨hp, hb7⟩
 have HB7 := hid (below_tr HB6.out hb7)
 obtain ⟨a, c, rfl, hL⟩ := whq_lies hp
 obtain ⟨E, hE⟩ : ∃ E : Int, E = if (Wr.whole (Wr.rqP Wr.gN 1000 s.data.toList)).isSome then 0 else 1 := ⟨_, rfl⟩
 obtain ⟨x, hx⟩ : ∃ x : Rq, x = (Wr.whole (Wr.rqP Wr.gN 1000 s.data.toList)).getD zeroQ := ⟨_, rfl⟩
 have HE := hid (show (E = 0 ∧ Wr.ok (Wr.rqI x) = true ∧ s.data.toList = Wr.bytes (Wr.rqI x)) ∨ ¬ E = 0 from by
  cases hr : Wr.whole (Wr.rqP Wr.gN 1000 s.data.toList) with
  | none => rw [hr] at hE; exact Or.inr (by rw [hE]; decide)
  | some z => rw [hr] at hE hx; obtain ⟨h1, h2⟩ := Wr.whole_rq.1 hr; exact Or.inl ⟨hE, by rw [hx]; exact h1, by rw [hx]; exact h2⟩)
 rw [← hE, ← hx]
 rw [← hx] at hL
 obtain ⟨wz, hwz⟩ : ∃ wz, wz = w7.alloc (.cells #[.int .i64 x.kind, .string x.who, .string x.fo, .string x.name, .string x.key, .string x.text, .int .i64 x.num, .int .i64 x.off, .int .i64 x.base, .slice a x.ch.length c] 24) := ⟨_, rfl⟩
 have hbz : Below w7.heap.size w7 wz := by rw [hwz]; exact below_alloc _ _
 have hzc : Cs wz w7.heap.size [.int .i64 x.kind, .string x.who, .string x.fo, .string x.name, .string x.key, .string x.text, .int .i64 x.num, .int .i64 x.off, .int .i64 x.base, .slice a x.ch.length c] := by rw [hwz]; exact Cs.new w7 _ _
 have HBz := hid (below_tr HB7.out hbz)
 have HLz := hid (hL.below hbz)
 clear hp hE hx hL hb7
 go_upto_if 70 with fail
 rw [← hwz]
 clear hwz hbz
 go_cut [6] from 71 to 82 (fun v W => v = .bool false ∧ Hid (Below w0.heap.size w0 W))
 case first =>
  rcases HE.out with ⟨rfl, hok, hbs⟩ | hE
  · have HK := hid (ask_short x _ wz ⟨_, rfl, HLz.out⟩ ((Wr.ok_rq x).1 hok).wf (by have := HBz.out.size; omega) (HV.out wz (below_tr HAB.out HBz.out)).pow)
    have HOK := hid hok
    have HBS := hid (bytes_of hbs)
    have y0 := hzc.cell 0 rfl
    have y1 := hzc.cell 1 rfl
    have y2 := hzc.cell 2 rfl
    have y3 := hzc.cell 3 rfl
    have y4 := hzc.cell 4 rfl
    have y5 := hzc.cell 5 rfl
    have y6 := hzc.cell 6 rfl
    have y7 := hzc.cell 7 rfl
    have y8 := hzc.cell 8 rfl
    have y9 := hzc.cell 9 rfl
    clear hok hbs HE
    go_wp2_with fail
    refine HK.out.mono ?_
    rintro e w8 ⟨⟨t, E2, rfl, hE2⟩, hb8⟩
    have HB8 := hid (below_tr HBz.out hb8)
    rcases hE2 with ⟨rfl, _, ht⟩ | ⟨_, h9⟩
    · rw [HBS.out] at ht
      have hts : (t.toList == s.toList) = true := by rw [ht]; simp
      have htn : (t.toList != s.toList) = false := by rw [bne, hts]; rfl
      clear ht hb8 HK y0 y1 y2 y3 y4 y5 y6 y7 y8 y9 hzc
      go_wp2_with fail
      go_meet
      case rel => exact ⟨rfl, HB8⟩
    · rw [HOK.out] at h9; cases h9
  · have hE2 : (E == 0) = false := by simpa using hE
    clear HE
    go_wp2_with fail
    go_meet
    case rel => exact ⟨rfl, HBz⟩
 case rest =>
 obtain ⟨rfl, HB9⟩ := hcut
 clear HB6 HB7 HE HBz HLz hzc
 go_wp2_with fail
 refine (told_any s _ HS.out (by have := HB9.out.size; omega) (HV.out _ (below_tr HAB.out HB9.out))).mono ?_
 rintro e w10 ⟨hp, hb10⟩
 have HB10 := hid (below_tr HB9.out hb10)
 obtain ⟨a, c, a2, c2, rfl, hL, hM⟩ := wha_lies hp
 obtain ⟨E, hE⟩ : ∃ E : Int, E = if (Wr.whole (Wr.anP Wr.gN 1000 s.data.toList)).isSome then 0 else 1 := ⟨_, rfl⟩
 obtain ⟨x, hx⟩ : ∃ x : An, x = (Wr.whole (Wr.anP Wr.gN 1000 s.data.toList)).getD zeroAn := ⟨_, rfl⟩
 have HE := hid (show (E = 0 ∧ Wr.ok (Wr.anI x) = true ∧ s.data.toList = Wr.bytes (Wr.anI x)) ∨ ¬ E = 0 from by
  cases hr : Wr.whole (Wr.anP Wr.gN 1000 s.data.toList) with
  | none => rw [hr] at hE; exact Or.inr (by rw [hE]; decide)
  | some z => rw [hr] at hE hx; obtain ⟨h1, h2⟩ := Wr.whole_an.1 hr; exact Or.inl ⟨hE, by rw [hx]; exact h1, by rw [hx]; exact h2⟩)
 rw [← hE, ← hx]
 rw [← hx] at hL hM
 obtain ⟨wz, hwz⟩ : ∃ wz, wz = w10.alloc (.cells #[.int .i64 x.err, .int .i64 x.num, .bool x.pg.reset, .slice a x.pg.tree.length c, .slice a2 x.pg.cos.length c2, .int .i64 x.pg.cur, .bool x.pg.more] 40) := ⟨_, rfl⟩
 have hbz : Below w10.heap.size w10 wz := by rw [hwz]; exact below_alloc _ _
 have hzc : Cs wz w10.heap.size [.int .i64 x.err, .int .i64 x.num, .bool x.pg.reset, .slice a x.pg.tree.length c, .slice a2 x.pg.cos.length c2, .int .i64 x.pg.cur, .bool x.pg.more] := by rw [hwz]; exact Cs.new w10 _ _
 have HBz := hid (below_tr HB10.out hbz)
 have HLz := hid (And.intro (hL.below hbz) (hM.below hbz))
 clear hp hE hx hL hM hb10
 go_upto_region 19 with fail
 rw [← hwz]
 clear hwz hbz
 rcases HE.out with ⟨rfl, hok, hbs⟩ | hE
 · have HK := hid (tell_short x _ wz ⟨_, _, rfl, HLz.out.1, HLz.out.2⟩ ((Wr.ok_an x).1 hok).wf (by have := HBz.out.size; omega) (HV.out wz (below_tr HAB.out HBz.out)).pow)
   have HOK := hid hok
   have HBS := hid (bytes_of hbs)
   have y0 := hzc.cell 0 rfl
   have y1 := hzc.cell 1 rfl
   have y2 := hzc.cell 2 rfl
   have y3 := hzc.cell 3 rfl
   have y4 := hzc.cell 4 rfl
   have y5 := hzc.cell 5 rfl
   have y6 := hzc.cell 6 rfl
   clear hok hbs HE
   go_wp2_with fail
   refine HK.out.mono ?_
   rintro e w8 ⟨⟨t, E2, rfl, hE2⟩, hb8⟩
   have HB8 := hid (below_tr HBz.out hb8)
   rcases hE2 with ⟨rfl, _, ht⟩ | ⟨_, h9⟩
   · rw [HBS.out] at ht
     have hts : (t.toList == s.toList) = true := by rw [ht]; simp
     clear ht hb8 HK y0 y1 y2 y3 y4 y5 y6 hzc
     go_wp2_with fail
     go_ret
     exact ⟨rfl, below_tr HAB.out HB8.out⟩
   · rw [HOK.out] at h9; cases h9
 · have hE2 : (E == 0) = false := by simpa using hE
   have hE3 : (E != 0) = true := by simpa using hE
   clear HE
   go_wp2_with fail
   go_ret
   exact ⟨rfl, below_tr HAB.out HBz.out⟩
end Go.Proofs.YthgjdgpjkcmcdaaDoor
namespace Go.Proofs.YthgjdgpjkcmcdaaDoor
open Go.ChangeShapes Go.WideShapes Go.ChangeAt Go.RowKit

namespace Bk
theorem mem {H : Type} {d : DataW H} : ∀ {l : List (DataW H)}, d ∈ l → Rows.uptoBulk d ≤ Rows.uptoBulkAll l
 | [], h => by cases h
 | x :: r, h => by
  rw [Rows.uptoBulkAll]
  rcases List.mem_cons.1 h with rfl | h
  · omega
  · have := mem h; omega
theorem len {H : Type} : ∀ {l : List (DataW H)}, (∀ d ∈ l, 1 ≤ Rows.uptoBulk d) → l.length ≤ Rows.uptoBulkAll l
 | [], _ => Nat.zero_le _
 | x :: r, h => by
  rw [Rows.uptoBulkAll, List.length_cons]
  have h1 := h x (by simp)
  have h2 := len (l := r) fun d hd => h d (by simp [hd])
  omega
end Bk

theorem Tryd.cellsE : Tryd.prog.cellsOf 76 = 4 := by kernel_rfl
theorem Tryd.cells9 : Tryd.prog.cellsOf 9 = 1 := by kernel_rfl
theorem Tryd.cells4 : Tryd.prog.cellsOf 4 = 1 := by kernel_rfl
theorem Tryd.cells3 : Tryd.prog.cellsOf 3 = 1 := by kernel_rfl
def datE {H : Type} (e : En) : DataW H := .agg [.lit (.string e.path.data.toList), .lit (.bool e.folder), .lit (.string e.text.data.toList), .lit (.int .i64 e.ver)]
theorem list4 {α : Type} {l : List α} (h : l.length = 4) : ∃ a b c d, l = [a, b, c, d] := by
 rcases l with _ | ⟨a, _ | ⟨b, _ | ⟨c, _ | ⟨d, _ | ⟨e, r⟩⟩⟩⟩⟩
 all_goals first | exact ⟨a, b, c, d, rfl⟩ | (simp at h)
theorem spot_none {W : World} {a : Addr} {v : Value} (k : W.cell? a = some v) : a.spot = none := by
 unfold World.cell? at k
 cases hq : a.spot with
 | none => rfl
 | some z => rw [hq] at k; simp at k; split at k <;> cases k
end Go.Proofs.YthgjdgpjkcmcdaaDoor
namespace Go.Proofs.YthgjdgpjkcmcdaaDoor
open Go.ChangeShapes Go.WideShapes Go.ChangeAt Go.RowKit

theorem Tryd.cellsC : Tryd.prog.cellsOf 95 = 5 := by kernel_rfl
theorem list5 {α : Type} {l : List α} (h : l.length = 5) : ∃ a b c d e, l = [a, b, c, d, e] := by
 rcases l with _ | ⟨a, _ | ⟨b, _ | ⟨c, _ | ⟨d, _ | ⟨e, _ | ⟨f, r⟩⟩⟩⟩⟩⟩
 all_goals first | exact ⟨a, b, c, d, e, rfl⟩ | (simp at h)
theorem fields5 {H : Type} {enc : TypeId × Value → H} {P : Program} {w : World} {base : Nat} {spare : Nat → Bool} {held : Bool} {t : TypeId} {f0 f1 f2 f3 f4 : Field} {fuel : Nat} {cs : List Value} {x : DataW H × List MemPlace} (ht : P.underlying t = some (.struct #[f0, f1, f2, f3, f4])) (h : DataW.trod enc P w base spare held fuel t cs = some x) :
    ∃ y0 y1 y2 y3 y4 n, x = (.agg [y0.1, y1.1, y2.1, y3.1, y4.1], y0.2 ++ (y1.2 ++ (y2.2 ++ (y3.2 ++ y4.2)))) ∧ cs.length = P.cellsOf t ∧ DataW.trod enc P w base spare held n f0.type ((cs.drop f0.offset).take (P.cellsOf f0.type)) = some y0 ∧
     DataW.trod enc P w base spare held n f1.type ((cs.drop f1.offset).take (P.cellsOf f1.type)) = some y1 ∧ DataW.trod enc P w base spare held n f2.type ((cs.drop f2.offset).take (P.cellsOf f2.type)) = some y2 ∧
     DataW.trod enc P w base spare held n f3.type ((cs.drop f3.offset).take (P.cellsOf f3.type)) = some y3 ∧ DataW.trod enc P w base spare held n f4.type ((cs.drop f4.offset).take (P.cellsOf f4.type)) = some y4 := by
 obtain ⟨xs, n, _, rfl, hl, hlen, hf⟩ := DataW.trod_struct ht h
 match xs, hlen with
 | [y0, y1, y2, y3, y4], _ => exact ⟨y0, y1, y2, y3, y4, n, by simp, hl, by simpa using hf 0 f0 rfl, by simpa using hf 1 f1 rfl, by simpa using hf 2 f2 rfl, by simpa using hf 3 f3 rfl, by simpa using hf 4 f4 rfl⟩
def datC {H : Type} (c : Pp.Ch) : DataW H := .agg [.lit (.int .i64 c.k), .lit (.string c.p.data.toList), .lit (.string c.q.data.toList), .lit (.string c.t.data.toList), .lit (.int .i64 c.b)]
theorem Tryd.bytesE : Tryd.prog.bytesOf 76 = 48 := by kernel_rfl
theorem all_mem {H : Type} {P : Program} {e : TypeId} : ∀ {l : List (DataW H)} {d : DataW H}, d ∈ l → ∀ n ∈ d.weights P e, n ∈ DataW.weightsAll P e l
 | [], _, h => by cases h
 | x :: r, d, h => by
  intro n hn
  rw [DataW.weightsAll]
  rcases List.mem_cons.1 h with rfl | h
  · exact List.mem_append_left _ hn
  · exact List.mem_append_right _ (all_mem h n hn)
theorem Tryd.bytesCh : Tryd.prog.bytesOf 95 = 64 := by kernel_rfl
theorem i64_wf {n : Int} (h : (Lit.int .i64 n).wf = true) : I64 n := by
 simp only [Lit.wf, Bool.and_eq_true, decide_eq_true_eq] at h
 exact h
theorem open_chX {H : Type} {enc : TypeId × Value → H} {W : World} {n i : Nat} {a : Addr} {x : DataW H} {pl : List MemPlace} {cs' : List Value} (ha : a.spot = none)
    (h1 : W.cells? 0 (a.add (i * Tryd.prog.cellsOf 95)) (Tryd.prog.cellsOf 95) = some cs') (h2 : DataW.trod enc Tryd.prog W 0 (fun _ => true) true n 95 cs' = some (x, pl)) :
    ∃ c : Pp.Ch, x = datC c ∧ a.spot = none ∧ ChAt W a.block (a.off + i * 5) c ∧ I64 c.k ∧ I64 c.b := by
 rw [Tryd.cellsC] at h1
 obtain ⟨_, hlen, hc⟩ := World.cells?_some h1
 obtain ⟨y0, y1, y2, y3, y4, n', hx', _, t0, t1, t2, t3, t4⟩ := fields5 Tryd.underlying95 h2
 obtain ⟨c0, c1, c2, c3, c4, rfl⟩ := list5 hlen
 have t0' : DataW.trod enc Tryd.prog W 0 (fun _ => true) true n' 3 [c0] = some y0 := by simpa [Tryd.cells3] using t0
 have t1' : DataW.trod enc Tryd.prog W 0 (fun _ => true) true n' 9 [c1] = some y1 := by simpa [Tryd.cells9] using t1
 have t2' : DataW.trod enc Tryd.prog W 0 (fun _ => true) true n' 9 [c2] = some y2 := by simpa [Tryd.cells9] using t2
 have t3' : DataW.trod enc Tryd.prog W 0 (fun _ => true) true n' 9 [c3] = some y3 := by simpa [Tryd.cells9] using t3
 have t4' : DataW.trod enc Tryd.prog W 0 (fun _ => true) true n' 3 [c4] = some y4 := by simpa [Tryd.cells3] using t4
 obtain ⟨s0, e0, g0, u0⟩ := DataW.trod_int Tryd.underlying3 t0'
 obtain ⟨s1, e1, g1, _⟩ := DataW.trod_string Tryd.underlying9 t1'
 obtain ⟨s2, e2, g2, _⟩ := DataW.trod_string Tryd.underlying9 t2'
 obtain ⟨s3, e3, g3, _⟩ := DataW.trod_string Tryd.underlying9 t3'
 obtain ⟨s4, e4, g4, u4⟩ := DataW.trod_int Tryd.underlying3 t4'
 obtain rfl : c0 = .int .i64 s0 := by simpa using e0
 obtain rfl : c1 = .string s1 := by simpa using e1
 obtain rfl : c2 = .string s2 := by simpa using e2
 obtain rfl : c3 = .string s3 := by simpa using e3
 obtain rfl : c4 = .int .i64 s4 := by simpa using e4
 subst g0; subst g1; subst g2; subst g3; subst g4
 simp only [Prod.mk.injEq] at hx'
 have k0 := hc 0 (by omega)
 have k1 := hc 1 (by omega)
 have k2 := hc 2 (by omega)
 have k3 := hc 3 (by omega)
 have k4 := hc 4 (by omega)
 obtain ⟨ab, ao, asp⟩ := a
 obtain rfl : asp = none := ha
 refine ⟨⟨s0, s1, s2, s3, s4⟩, hx'.1, rfl, ⟨?_, ?_, ?_, ?_, ?_⟩, i64_wf u0, i64_wf u4⟩
 · by_cases hi0 : i = 0
   · subst hi0; simpa [Addr.add] using k0
   · have hi4 : i * 5 ≠ 0 := by omega
     simpa [Addr.add, hi4] using k0
 · by_cases hi0 : i = 0
   · subst hi0; simpa [Addr.add] using k1
   · have hi4 : i * 5 ≠ 0 := by omega
     simpa [Addr.add, hi4, Nat.add_assoc] using k1
 · by_cases hi0 : i = 0
   · subst hi0; simpa [Addr.add] using k2
   · have hi4 : i * 5 ≠ 0 := by omega
     simpa [Addr.add, hi4, Nat.add_assoc] using k2
 · by_cases hi0 : i = 0
   · subst hi0; simpa [Addr.add] using k3
   · have hi4 : i * 5 ≠ 0 := by omega
     simpa [Addr.add, hi4, Nat.add_assoc] using k3
 · by_cases hi0 : i = 0
   · subst hi0; simpa [Addr.add] using k4
   · have hi4 : i * 5 ≠ 0 := by omega
     simpa [Addr.add, hi4, Nat.add_assoc] using k4
set_option maxRecDepth 100000 in
theorem open_changes_wX {H : Type} {enc : TypeId × Value → H} {W : World} {v : Value} {d : DataW H} {p : List MemPlace} {fuel : Nat} (hf : DataW.trod enc Tryd.prog W 0 (fun _ => true) true fuel 22 [v] = some (d, p)) (hk : ∀ n ∈ d.weights Tryd.prog 22, n ≤ reachBytes) :
    ∃ cs : List Pp.Ch, LiesC W v cs ∧ SizedC reachBytes cs ∧ ∀ c ∈ cs, WfC c := by
 haveI : Inhabited Pp.Ch := ⟨⟨0, ⟨#[]⟩, ⟨#[]⟩, ⟨#[]⟩, 0⟩⟩
 rcases Go.Deep.open_slice Tryd.underlying22 hf with ⟨hcs, hx⟩ | ⟨a, len, cap, m, n, D, Pl, hcs, hb, hl, hm, hmm, hx, hel⟩
 · obtain rfl : v = .slice none 0 0 := by simpa using hcs
   exact ⟨[], ⟨none, 0, rfl, Nat.le_refl _, by simp, fun i hi => absurd hi (by simp)⟩, (fun e he => by cases he), fun e he => by cases he⟩
 obtain rfl : v = .slice (some a) len cap := by simpa using hcs
 have hm2 : m = cap := hmm.trans (if_pos rfl)
 clear hmm
 have hd := (Prod.mk.inj hx).1
 clear hx
 subst hm2
 have hsp : 0 < len → a.spot = none := fun h => by
  obtain ⟨cs', h1, _⟩ := hel 0 (by omega)
  rw [Tryd.cellsC] at h1
  obtain ⟨_, hlen, hc⟩ := World.cells?_some h1
  obtain ⟨c0, c1, c2, c3, c4, rfl⟩ := list5 hlen
  have k0 := hc 0 (by omega)
  exact spot_none (v := c0) (by simpa [Addr.add] using k0)
 have each : ∀ i, i < len → ∃ e : Pp.Ch, D i = datC e ∧ a.spot = none ∧ ChAt W a.block (a.off + i * 5) e ∧ I64 e.k ∧ I64 e.b := fun i hi => by
  obtain ⟨cs', h1, h2⟩ := hel i (by omega)
  exact open_chX (hsp (by omega)) h1 h2
 obtain ⟨E, hE⟩ := Go.Deep.choose_lt each
 obtain ⟨sp, hd'⟩ : ∃ sp, d = .slice ((List.range len).map D) sp := ⟨_, hd⟩
 have hlen64 : (len + sp.length) * 64 ≤ reachBytes := by
  have := hk ((len + sp.length) * 64) (by
   rw [hd', DataW.weights]
   simp only [Tryd.underlying22, Tryd.bytesCh, List.length_map, List.length_range]
   exact List.mem_cons_self ..)
  exact this
 have hel2 : ∀ i, i < len → ∀ n ∈ (D i).weights Tryd.prog 95, n ≤ reachBytes := fun i hi n hn => hk n (by
  rw [hd', DataW.weights]
  simp only [Tryd.underlying22]
  refine List.mem_cons_of_mem _ (List.mem_append_left _ (all_mem (List.mem_map.2 ⟨i, List.mem_range.2 hi, rfl⟩) n hn)))
 have hrb : reachBytes = 140737488351232 := by decide
 have hsz : SizedC reachBytes ((List.range len).map E) := by
  intro e he
  obtain ⟨i, hi, rfl⟩ := List.mem_map.1 he
  have h1 := hel2 i (List.mem_range.1 hi)
  rw [(hE i (List.mem_range.1 hi)).1] at h1
  have hw : DataW.weights Tryd.prog 95 (datC (H := H) (E i)) = [(E i).p.data.toList.length, (E i).q.data.toList.length, (E i).t.data.toList.length] := by
   rw [datC, DataW.weights]
   simp only [Tryd.underlying95]
   simp [DataW.weightsEach, DataW.weights]
  rw [hw] at h1
  rw [Lib.size_eq, Lib.size_eq, Lib.size_eq]
  exact ⟨h1 _ (by simp), h1 _ (by simp), h1 _ (by simp)⟩
 refine ⟨(List.range len).map E, ⟨some a, _, by simp; rfl, by simpa using hl, ?_, fun i hi => ?_⟩, hsz, fun e he => ?_⟩
 · rw [hrb] at hlen64
   simp only [List.length_map, List.length_range]
   omega
 · have hi' : i < len := by simpa using hi
   obtain ⟨h1, h2, h3, _⟩ := hE i hi'
   have hlt : a.block < W.heap.size := by
    have k := h3.1
    rcases Nat.lt_or_ge a.block W.heap.size with h | h
    · exact h
    · unfold World.cell? at k; rw [Array.getElem?_eq_none h] at k; cases k
   refine ⟨a.block, a.off, ?_, hlt, by simpa using h3⟩
   rw [← h2]
 · obtain ⟨h1, h2, h3⟩ := hsz e he
   obtain ⟨i, hi, rfl⟩ := List.mem_map.1 he
   obtain ⟨_, _, _, k1, k2⟩ := hE i (List.mem_range.1 hi)
   rw [hrb] at h1 h2 h3
   exact ⟨k1, k2, by unfold TxB; omega, by unfold TxB; omega, by unfold TxB; omega⟩
theorem listX10 {α : Type} {l : List α} (h : l.length = 10) : ∃ x0 x1 x2 x3 x4 x5 x6 x7 x8 x9, l = [x0, x1, x2, x3, x4, x5, x6, x7, x8, x9] := by
 rcases l with _ | ⟨x0, _ | ⟨x1, _ | ⟨x2, _ | ⟨x3, _ | ⟨x4, _ | ⟨x5, _ | ⟨x6, _ | ⟨x7, _ | ⟨x8, _ | ⟨x9, _ | ⟨d, r⟩⟩⟩⟩⟩⟩⟩⟩⟩⟩⟩
 all_goals first | exact ⟨x0, x1, x2, x3, x4, x5, x6, x7, x8, x9, rfl⟩ | (simp at h)
theorem fieldsX10 {H : Type} {enc : TypeId × Value → H} {P : Program} {w : World} {base : Nat} {spare : Nat → Bool} {held : Bool} {t : TypeId} {f0 f1 f2 f3 f4 f5 f6 f7 f8 f9 : Field} {fuel : Nat} {cs : List Value} {x : DataW H × List MemPlace} (ht : P.underlying t = some (.struct #[f0, f1, f2, f3, f4, f5, f6, f7, f8, f9])) (h : DataW.trod enc P w base spare held fuel t cs = some x) :
    ∃ y0 y1 y2 y3 y4 y5 y6 y7 y8 y9 n pl, x = (.agg [y0.1, y1.1, y2.1, y3.1, y4.1, y5.1, y6.1, y7.1, y8.1, y9.1], pl) ∧ cs.length = P.cellsOf t ∧ DataW.trod enc P w base spare held n f0.type ((cs.drop f0.offset).take (P.cellsOf f0.type)) = some y0 ∧ DataW.trod enc P w base spare held n f1.type ((cs.drop f1.offset).take (P.cellsOf f1.type)) = some y1 ∧ DataW.trod enc P w base spare held n f2.type ((cs.drop f2.offset).take (P.cellsOf f2.type)) = some y2 ∧ DataW.trod enc P w base spare held n f3.type ((cs.drop f3.offset).take (P.cellsOf f3.type)) = some y3 ∧ DataW.trod enc P w base spare held n f4.type ((cs.drop f4.offset).take (P.cellsOf f4.type)) = some y4 ∧ DataW.trod enc P w base spare held n f5.type ((cs.drop f5.offset).take (P.cellsOf f5.type)) = some y5 ∧ DataW.trod enc P w base spare held n f6.type ((cs.drop f6.offset).take (P.cellsOf f6.type)) = some y6 ∧ DataW.trod enc P w base spare held n f7.type ((cs.drop f7.offset).take (P.cellsOf f7.type)) = some y7 ∧ DataW.trod enc P w base spare held n f8.type ((cs.drop f8.offset).take (P.cellsOf f8.type)) = some y8 ∧ DataW.trod enc P w base spare held n f9.type ((cs.drop f9.offset).take (P.cellsOf f9.type)) = some y9 := by
 obtain ⟨xs, n, _, rfl, hl, hlen, hf⟩ := DataW.trod_struct ht h
 match xs, hlen with
 | [y0, y1, y2, y3, y4, y5, y6, y7, y8, y9], _ => exact ⟨y0, y1, y2, y3, y4, y5, y6, y7, y8, y9, n, _, rfl, hl, by simpa using hf 0 f0 rfl, by simpa using hf 1 f1 rfl, by simpa using hf 2 f2 rfl, by simpa using hf 3 f3 rfl, by simpa using hf 4 f4 rfl, by simpa using hf 5 f5 rfl, by simpa using hf 6 f6 rfl, by simpa using hf 7 f7 rfl, by simpa using hf 8 f8 rfl, by simpa using hf 9 f9 rfl⟩
theorem Tryd.cellsSCX : Tryd.prog.cellsOf 22 = 1 := by kernel_rfl
theorem Tryd.cellsRqX : Tryd.prog.cellsOf 24 = 10 := by kernel_rfl
set_option maxRecDepth 100000 in
theorem open_requestX {H : Type} {enc : TypeId × Value → H} {W : World} {r : Reach} {b0 : Nat} {v : Value} {d : DataW H} {pl : List MemPlace} (hv : Value.okWide Tryd.prog W r b0 24 v) (h : DataW.Trod enc Tryd.prog W 0 (fun _ => true) true 24 v d pl) (hk : ∀ n ∈ d.weights Tryd.prog 24, n ≤ reachBytes) :
    ∃ q : Rq, LiesQ W v q ∧ WfQ q := by
 obtain ⟨cs, rfl, hsz⟩ := okWide_struct Tryd.underlying24 hv
 obtain ⟨fuel, hf⟩ := h
 have hf' : DataW.trod enc Tryd.prog W 0 (fun _ => true) true fuel 24 cs.toList = some (d, pl) := by simpa [Value.cells] using hf
 obtain ⟨y0, y1, y2, y3, y4, y5, y6, y7, y8, y9, n', pl', hx, hlen, t0, t1, t2, t3, t4, t5, t6, t7, t8, t9⟩ := fieldsX10 Tryd.underlying24 hf'
 rw [Tryd.cellsRqX] at hlen
 obtain ⟨c0, c1, c2, c3, c4, c5, c6, c7, c8, c9, hcs⟩ := listX10 hlen
 rw [hcs] at t0 t1 t2 t3 t4 t5 t6 t7 t8 t9
 have q0 : DataW.trod enc Tryd.prog W 0 (fun _ => true) true n' 3 [c0] = some y0 := by simpa [Tryd.cells3] using t0
 have q1 : DataW.trod enc Tryd.prog W 0 (fun _ => true) true n' 9 [c1] = some y1 := by simpa [Tryd.cells9] using t1
 have q2 : DataW.trod enc Tryd.prog W 0 (fun _ => true) true n' 9 [c2] = some y2 := by simpa [Tryd.cells9] using t2
 have q3 : DataW.trod enc Tryd.prog W 0 (fun _ => true) true n' 9 [c3] = some y3 := by simpa [Tryd.cells9] using t3
 have q4 : DataW.trod enc Tryd.prog W 0 (fun _ => true) true n' 9 [c4] = some y4 := by simpa [Tryd.cells9] using t4
 have q5 : DataW.trod enc Tryd.prog W 0 (fun _ => true) true n' 9 [c5] = some y5 := by simpa [Tryd.cells9] using t5
 have q6 : DataW.trod enc Tryd.prog W 0 (fun _ => true) true n' 3 [c6] = some y6 := by simpa [Tryd.cells3] using t6
 have q7 : DataW.trod enc Tryd.prog W 0 (fun _ => true) true n' 3 [c7] = some y7 := by simpa [Tryd.cells3] using t7
 have q8 : DataW.trod enc Tryd.prog W 0 (fun _ => true) true n' 3 [c8] = some y8 := by simpa [Tryd.cells3] using t8
 have q9 : DataW.trod enc Tryd.prog W 0 (fun _ => true) true n' 22 [c9] = some y9 := by simpa [Tryd.cellsSCX] using t9
 obtain ⟨s0, e0, g0, u0⟩ := DataW.trod_int Tryd.underlying3 q0
 obtain rfl : c0 = .int .i64 s0 := by simpa using e0
 subst g0
 obtain ⟨s1, e1, g1, _⟩ := DataW.trod_string Tryd.underlying9 q1
 obtain rfl : c1 = .string s1 := by simpa using e1
 subst g1
 obtain ⟨s2, e2, g2, _⟩ := DataW.trod_string Tryd.underlying9 q2
 obtain rfl : c2 = .string s2 := by simpa using e2
 subst g2
 obtain ⟨s3, e3, g3, _⟩ := DataW.trod_string Tryd.underlying9 q3
 obtain rfl : c3 = .string s3 := by simpa using e3
 subst g3
 obtain ⟨s4, e4, g4, _⟩ := DataW.trod_string Tryd.underlying9 q4
 obtain rfl : c4 = .string s4 := by simpa using e4
 subst g4
 obtain ⟨s5, e5, g5, _⟩ := DataW.trod_string Tryd.underlying9 q5
 obtain rfl : c5 = .string s5 := by simpa using e5
 subst g5
 obtain ⟨s6, e6, g6, u6⟩ := DataW.trod_int Tryd.underlying3 q6
 obtain rfl : c6 = .int .i64 s6 := by simpa using e6
 subst g6
 obtain ⟨s7, e7, g7, u7⟩ := DataW.trod_int Tryd.underlying3 q7
 obtain rfl : c7 = .int .i64 s7 := by simpa using e7
 subst g7
 obtain ⟨s8, e8, g8, u8⟩ := DataW.trod_int Tryd.underlying3 q8
 obtain rfl : c8 = .int .i64 s8 := by simpa using e8
 subst g8
 obtain ⟨d9, p9⟩ := y9
 simp only [Prod.mk.injEq] at hx
 have hw : d.weights Tryd.prog 24 = s1.data.toList.length :: s2.data.toList.length :: s3.data.toList.length :: s4.data.toList.length :: s5.data.toList.length :: d9.weights Tryd.prog 22 := by
  rw [hx.1, DataW.weights]
  simp only [Tryd.underlying24]
  simp [DataW.weightsEach, DataW.weights]
 rw [hw] at hk
 obtain ⟨l, hl, hls, hlw⟩ := open_changes_wX q9 (fun n hn => hk n (by simp [hn]))
 have z1 : s1.size ≤ reachBytes := by rw [Lib.size_eq]; exact hk _ (by simp)
 have z2 : s2.size ≤ reachBytes := by rw [Lib.size_eq]; exact hk _ (by simp)
 have z3 : s3.size ≤ reachBytes := by rw [Lib.size_eq]; exact hk _ (by simp)
 have z4 : s4.size ≤ reachBytes := by rw [Lib.size_eq]; exact hk _ (by simp)
 have z5 : s5.size ≤ reachBytes := by rw [Lib.size_eq]; exact hk _ (by simp)
 have hag : cs = #[.int .i64 s0, .string s1, .string s2, .string s3, .string s4, .string s5, .int .i64 s6, .int .i64 s7, .int .i64 s8, c9] := Array.ext' (by simpa using hcs)
 have hrb : reachBytes = 140737488351232 := by decide
 rw [hrb] at z1 z2 z3 z4 z5
 exact ⟨⟨s0, s1, s2, s3, s4, s5, s6, s7, s8, l⟩, ⟨c9, by rw [hag], hl⟩, i64_wf u0, i64_wf u6, i64_wf u7, i64_wf u8, by unfold TxB; simp only; omega, by unfold TxB; simp only; omega, by unfold TxB; simp only; omega, by unfold TxB; simp only; omega, by unfold TxB; simp only; omega, hlw⟩
theorem Tryd.cellsCo : Tryd.prog.cellsOf 78 = 3 := by kernel_rfl
theorem Tryd.cellsSC : Tryd.prog.cellsOf 22 = 1 := by kernel_rfl
theorem Tryd.cellsSO : Tryd.prog.cellsOf 36 = 1 := by kernel_rfl
theorem Tryd.cellsSE : Tryd.prog.cellsOf 35 = 1 := by kernel_rfl
theorem list3 {α : Type} {l : List α} (h : l.length = 3) : ∃ a b c, l = [a, b, c] := by
 rcases l with _ | ⟨a, _ | ⟨b, _ | ⟨c, _ | ⟨d, r⟩⟩⟩⟩
 all_goals first | exact ⟨a, b, c, rfl⟩ | (simp at h)
theorem fields3 {H : Type} {enc : TypeId × Value → H} {P : Program} {w : World} {base : Nat} {spare : Nat → Bool} {held : Bool} {t : TypeId} {f0 f1 f2 : Field} {fuel : Nat} {cs : List Value} {x : DataW H × List MemPlace} (ht : P.underlying t = some (.struct #[f0, f1, f2])) (h : DataW.trod enc P w base spare held fuel t cs = some x) :
    ∃ y0 y1 y2 n, x = (.agg [y0.1, y1.1, y2.1], y0.2 ++ (y1.2 ++ y2.2)) ∧ cs.length = P.cellsOf t ∧ DataW.trod enc P w base spare held n f0.type ((cs.drop f0.offset).take (P.cellsOf f0.type)) = some y0 ∧
     DataW.trod enc P w base spare held n f1.type ((cs.drop f1.offset).take (P.cellsOf f1.type)) = some y1 ∧ DataW.trod enc P w base spare held n f2.type ((cs.drop f2.offset).take (P.cellsOf f2.type)) = some y2 := by
 obtain ⟨xs, n, _, rfl, hl, hlen, hf⟩ := DataW.trod_struct ht h
 match xs, hlen with
 | [y0, y1, y2], _ => exact ⟨y0, y1, y2, n, by simp, hl, by simpa using hf 0 f0 rfl, by simpa using hf 1 f1 rfl, by simpa using hf 2 f2 rfl⟩
theorem open_entryX {H : Type} {enc : TypeId × Value → H} {W : World} {n i : Nat} {a : Addr} {x : DataW H} {pl : List MemPlace} {cs' : List Value} (ha : a.spot = none)
    (h1 : W.cells? 0 (a.add (i * Tryd.prog.cellsOf 76)) (Tryd.prog.cellsOf 76) = some cs') (h2 : DataW.trod enc Tryd.prog W 0 (fun _ => true) true n 76 cs' = some (x, pl)) :
    ∃ e : En, x = datE e ∧ a.spot = none ∧ EnAt W a.block (a.off + i * 4) e ∧ I64 e.ver := by
 rw [Tryd.cellsE] at h1
 obtain ⟨_, hlen, hc⟩ := World.cells?_some h1
 obtain ⟨y0, y1, y2, y3, n', hx', _, t0, t1, t2, t3⟩ := Go.Joins.trod_struct4 Tryd.underlying76 h2
 obtain ⟨c0, c1, c2, c3, rfl⟩ := list4 hlen
 have t0' : DataW.trod enc Tryd.prog W 0 (fun _ => true) true n' 9 [c0] = some y0 := by simpa [Tryd.cells9] using t0
 have t1' : DataW.trod enc Tryd.prog W 0 (fun _ => true) true n' 4 [c1] = some y1 := by simpa [Tryd.cells4] using t1
 have t2' : DataW.trod enc Tryd.prog W 0 (fun _ => true) true n' 9 [c2] = some y2 := by simpa [Tryd.cells9] using t2
 have t3' : DataW.trod enc Tryd.prog W 0 (fun _ => true) true n' 3 [c3] = some y3 := by simpa [Tryd.cells3] using t3
 obtain ⟨s0, e0, g0, _⟩ := DataW.trod_string Tryd.underlying9 t0'
 obtain ⟨s1, e1, g1⟩ := DataW.trod_bool Tryd.underlying4 t1'
 obtain ⟨s2, e2, g2, _⟩ := DataW.trod_string Tryd.underlying9 t2'
 obtain ⟨s3, e3, g3, u3⟩ := DataW.trod_int Tryd.underlying3 t3'
 obtain rfl : c0 = .string s0 := by simpa using e0
 obtain rfl : c1 = .bool s1 := by simpa using e1
 obtain rfl : c2 = .string s2 := by simpa using e2
 obtain rfl : c3 = .int .i64 s3 := by simpa using e3
 subst g0; subst g1; subst g2; subst g3
 simp only [Prod.mk.injEq] at hx'
 have k0 := hc 0 (by omega)
 have k1 := hc 1 (by omega)
 have k2 := hc 2 (by omega)
 have k3 := hc 3 (by omega)
 obtain ⟨ab, ao, asp⟩ := a
 obtain rfl : asp = none := ha
 refine ⟨⟨s0, s1, s2, s3⟩, hx'.1, rfl, ⟨?_, ?_, ?_, ?_⟩, i64_wf u3⟩
 · by_cases hi0 : i = 0
   · subst hi0; simpa [Addr.add] using k0
   · have hi4 : i * 4 ≠ 0 := by omega
     simpa [Addr.add, hi4] using k0
 · by_cases hi0 : i = 0
   · subst hi0; simpa [Addr.add] using k1
   · have hi4 : i * 4 ≠ 0 := by omega
     simpa [Addr.add, hi4, Nat.add_assoc] using k1
 · by_cases hi0 : i = 0
   · subst hi0; simpa [Addr.add] using k2
   · have hi4 : i * 4 ≠ 0 := by omega
     simpa [Addr.add, hi4, Nat.add_assoc] using k2
 · by_cases hi0 : i = 0
   · subst hi0; simpa [Addr.add] using k3
   · have hi4 : i * 4 ≠ 0 := by omega
     simpa [Addr.add, hi4, Nat.add_assoc] using k3
set_option maxRecDepth 100000 in
theorem open_tree_wX {H : Type} {enc : TypeId × Value → H} {W : World} {v : Value} {d : DataW H} {p : List MemPlace} {fuel : Nat} (hf : DataW.trod enc Tryd.prog W 0 (fun _ => true) true fuel 35 [v] = some (d, p)) (hk : ∀ n ∈ d.weights Tryd.prog 35, n ≤ reachBytes) :
    ∃ L : List En, Lies W v L ∧ ∀ e ∈ L, (e.path.size ≤ reachBytes ∧ e.text.size ≤ reachBytes) ∧ I64 e.ver := by
 haveI : Inhabited En := ⟨⟨⟨#[]⟩, false, ⟨#[]⟩, 0⟩⟩
 rcases Go.Deep.open_slice Tryd.underlying35 hf with ⟨hcs, hx⟩ | ⟨a, len, cap, m, n, D, Pl, hcs, hb, hl, hm, hmm, hx, hel⟩
 · obtain rfl : v = .slice none 0 0 := by simpa using hcs
   exact ⟨[], ⟨none, 0, rfl, Nat.le_refl _, by simp, fun i hi => absurd hi (by simp)⟩, fun e he => by cases he⟩
 obtain rfl : v = .slice (some a) len cap := by simpa using hcs
 have hm2 : m = cap := hmm.trans (if_pos rfl)
 clear hmm
 have hd := (Prod.mk.inj hx).1
 clear hx
 subst hm2
 have hsp : 0 < len → a.spot = none := fun h => by
  obtain ⟨cs', h1, _⟩ := hel 0 (by omega)
  rw [Tryd.cellsE] at h1
  obtain ⟨_, hlen, hc⟩ := World.cells?_some h1
  obtain ⟨c0, c1, c2, c3, rfl⟩ := list4 hlen
  have k0 := hc 0 (by omega)
  exact spot_none (v := c0) (by simpa [Addr.add] using k0)
 have each : ∀ i, i < len → ∃ e : En, D i = datE e ∧ a.spot = none ∧ EnAt W a.block (a.off + i * 4) e ∧ I64 e.ver := fun i hi => by
  obtain ⟨cs', h1, h2⟩ := hel i (by omega)
  exact open_entryX (hsp (by omega)) h1 h2
 obtain ⟨E, hE⟩ := Go.Deep.choose_lt each
 obtain ⟨sp, hd'⟩ : ∃ sp, d = .slice ((List.range len).map D) sp := ⟨_, hd⟩
 have hlen48 : (len + sp.length) * 48 ≤ reachBytes := by
  have := hk ((len + sp.length) * 48) (by
   rw [hd', DataW.weights]
   simp only [Tryd.underlying35, Tryd.bytesE, List.length_map, List.length_range]
   exact List.mem_cons_self ..)
  exact this
 have hel2 : ∀ i, i < len → ∀ n ∈ (D i).weights Tryd.prog 76, n ≤ reachBytes := fun i hi n hn => hk n (by
  rw [hd', DataW.weights]
  simp only [Tryd.underlying35]
  refine List.mem_cons_of_mem _ (List.mem_append_left _ (all_mem (List.mem_map.2 ⟨i, List.mem_range.2 hi, rfl⟩) n hn)))
 have hrb : reachBytes = 140737488351232 := by decide
 refine ⟨(List.range len).map E, ⟨some a, _, by simp; rfl, by simpa using hl, ?_, fun i hi => ?_⟩, fun e he => ?_⟩
 · rw [hrb] at hlen48
   simp only [List.length_map, List.length_range]
   omega
 · have hi' : i < len := by simpa using hi
   obtain ⟨h1, h2, h3, _⟩ := hE i hi'
   have hlt : a.block < W.heap.size := by
    have k := h3.1
    rcases Nat.lt_or_ge a.block W.heap.size with h | h
    · exact h
    · unfold World.cell? at k; rw [Array.getElem?_eq_none h] at k; cases k
   refine ⟨a.block, a.off, ?_, hlt, by simpa using h3⟩
   rw [← h2]
 · obtain ⟨i, hi, rfl⟩ := List.mem_map.1 he
   have h1 := hel2 i (List.mem_range.1 hi)
   rw [(hE i (List.mem_range.1 hi)).1] at h1
   have hw : DataW.weights Tryd.prog 76 (datE (H := H) (E i)) = [(E i).path.data.toList.length, (E i).text.data.toList.length] := by
    rw [datE, DataW.weights]
    simp only [Tryd.underlying76]
    simp [DataW.weightsEach, DataW.weights]
   rw [hw] at h1
   rw [Lib.size_eq, Lib.size_eq]
   exact ⟨⟨h1 _ (by simp), h1 _ (by simp)⟩, (hE i (List.mem_range.1 hi)).2.2.2⟩
theorem Tryd.bytesCoX : Tryd.prog.bytesOf 78 = 48 := by kernel_rfl
set_option maxRecDepth 100000 in
theorem open_co_wX {H : Type} {enc : TypeId × Value → H} {W : World} {n i : Nat} {a : Addr} {x : DataW H} {pl : List MemPlace} {cs' : List Value} (ha : a.spot = none)
    (h1 : W.cells? 0 (a.add (i * Tryd.prog.cellsOf 78)) (Tryd.prog.cellsOf 78) = some cs') (h2 : DataW.trod enc Tryd.prog W 0 (fun _ => true) true n 78 cs' = some (x, pl)) (hk : ∀ n ∈ x.weights Tryd.prog 78, n ≤ reachBytes) :
    ∃ c : Co, (c.ke.size ≤ reachBytes ∧ SizedC reachBytes c.ch) ∧ a.spot = none ∧ CoAt W a.block (a.off + i * 3) c ∧ WfO c := by
 rw [Tryd.cellsCo] at h1
 obtain ⟨_, hlen, hc⟩ := World.cells?_some h1
 obtain ⟨y0, y1, y2, n', hx', _, t0, t1, t2⟩ := fields3 Tryd.underlying78 h2
 obtain ⟨c0, c1, c2, rfl⟩ := list3 hlen
 have t0' : DataW.trod enc Tryd.prog W 0 (fun _ => true) true n' 3 [c0] = some y0 := by simpa [Tryd.cells3] using t0
 have t1' : DataW.trod enc Tryd.prog W 0 (fun _ => true) true n' 9 [c1] = some y1 := by simpa [Tryd.cells9] using t1
 have t2' : DataW.trod enc Tryd.prog W 0 (fun _ => true) true n' 22 [c2] = some y2 := by simpa [Tryd.cellsSC] using t2
 obtain ⟨s0, e0, g0, u0⟩ := DataW.trod_int Tryd.underlying3 t0'
 obtain ⟨s1, e1, g1, _⟩ := DataW.trod_string Tryd.underlying9 t1'
 obtain rfl : c0 = .int .i64 s0 := by simpa using e0
 obtain rfl : c1 = .string s1 := by simpa using e1
 subst g0; subst g1
 obtain ⟨d2, p2⟩ := y2
 simp only [Prod.mk.injEq] at hx'
 have hw : x.weights Tryd.prog 78 = s1.data.toList.length :: d2.weights Tryd.prog 22 := by
  rw [hx'.1, DataW.weights]
  simp only [Tryd.underlying78]
  simp [DataW.weightsEach, DataW.weights]
 rw [hw] at hk
 obtain ⟨l, hl, hls, hlw⟩ := open_changes_wX t2' (fun n hn => hk n (List.mem_cons_of_mem _ hn))
 have hs1 : s1.size ≤ reachBytes := by rw [Lib.size_eq]; exact hk _ (List.mem_cons_self ..)
 have k0 := hc 0 (by omega)
 have k1 := hc 1 (by omega)
 have k2 := hc 2 (by omega)
 obtain ⟨ab, ao, asp⟩ := a
 obtain rfl : asp = none := ha
 have hrb : reachBytes = 140737488351232 := by decide
 refine ⟨⟨s0, s1, l⟩, ⟨hs1, hls⟩, rfl, ⟨?_, ?_, c2, ?_, hl⟩, ⟨i64_wf u0, by rw [hrb] at hs1; unfold TxB; simp only; omega, hlw⟩⟩
 · by_cases hi0 : i = 0
   · subst hi0; simpa [Addr.add] using k0
   · have hi4 : i * 3 ≠ 0 := by omega
     simpa [Addr.add, hi4] using k0
 · by_cases hi0 : i = 0
   · subst hi0; simpa [Addr.add] using k1
   · have hi4 : i * 3 ≠ 0 := by omega
     simpa [Addr.add, hi4, Nat.add_assoc] using k1
 · by_cases hi0 : i = 0
   · subst hi0; simpa [Addr.add] using k2
   · have hi4 : i * 3 ≠ 0 := by omega
     simpa [Addr.add, hi4, Nat.add_assoc] using k2
set_option maxRecDepth 100000 in
theorem open_commits_wX {H : Type} {enc : TypeId × Value → H} {W : World} {v : Value} {d : DataW H} {p : List MemPlace} {fuel : Nat} (hf : DataW.trod enc Tryd.prog W 0 (fun _ => true) true fuel 36 [v] = some (d, p)) (hk : ∀ n ∈ d.weights Tryd.prog 36, n ≤ reachBytes) :
    ∃ l : List Co, LiesO W v l ∧ ∀ c ∈ l, (c.ke.size ≤ reachBytes ∧ SizedC reachBytes c.ch) ∧ WfO c := by
 haveI : Inhabited Co := ⟨⟨0, ⟨#[]⟩, []⟩⟩
 rcases Go.Deep.open_slice Tryd.underlying36 hf with ⟨hcs, hx⟩ | ⟨a, len, cap, m, n, D, Pl, hcs, hb, hl, hm, hmm, hx, hel⟩
 · obtain rfl : v = .slice none 0 0 := by simpa using hcs
   exact ⟨[], liesO_nil _, fun e he => by cases he⟩
 obtain rfl : v = .slice (some a) len cap := by simpa using hcs
 have hm2 : m = cap := hmm.trans (if_pos rfl)
 clear hmm
 have hd := (Prod.mk.inj hx).1
 clear hx
 subst hm2
 have hsp : 0 < len → a.spot = none := fun h => by
  obtain ⟨cs', h1, _⟩ := hel 0 (by omega)
  rw [Tryd.cellsCo] at h1
  obtain ⟨_, hlen, hc⟩ := World.cells?_some h1
  obtain ⟨c0, c1, c2, rfl⟩ := list3 hlen
  have k0 := hc 0 (by omega)
  exact spot_none (v := c0) (by simpa [Addr.add] using k0)
 obtain ⟨sp, hd'⟩ : ∃ sp, d = .slice ((List.range len).map D) sp := ⟨_, hd⟩
 have hlen48 : (len + sp.length) * 48 ≤ reachBytes := by
  have := hk ((len + sp.length) * 48) (by
   rw [hd', DataW.weights]
   simp only [Tryd.underlying36, Tryd.bytesCoX, List.length_map, List.length_range]
   exact List.mem_cons_self ..)
  exact this
 have hel2 : ∀ i, i < len → ∀ n ∈ (D i).weights Tryd.prog 78, n ≤ reachBytes := fun i hi n hn => hk n (by
  rw [hd', DataW.weights]
  simp only [Tryd.underlying36]
  refine List.mem_cons_of_mem _ (List.mem_append_left _ (all_mem (List.mem_map.2 ⟨i, List.mem_range.2 hi, rfl⟩) n hn)))
 have hrb : reachBytes = 140737488351232 := by decide
 have each : ∀ i, i < len → ∃ e : Co, (e.ke.size ≤ reachBytes ∧ SizedC reachBytes e.ch) ∧ a.spot = none ∧ CoAt W a.block (a.off + i * 3) e ∧ WfO e := fun i hi => by
  obtain ⟨cs', h1, h2⟩ := hel i (by omega)
  exact open_co_wX (hsp (by omega)) h1 h2 (hel2 i hi)
 obtain ⟨E, hE⟩ := Go.Deep.choose_lt each
 refine ⟨(List.range len).map E, ⟨some a, _, by simp; rfl, by simpa using hl, ?_, fun i hi => ?_⟩, fun e he => ?_⟩
 · rw [hrb] at hlen48
   simp only [List.length_map, List.length_range]
   omega
 · have hi' : i < len := by simpa using hi
   obtain ⟨h1, h2, h3, _⟩ := hE i hi'
   have hlt : a.block < W.heap.size := by
    have k := h3.1
    rcases Nat.lt_or_ge a.block W.heap.size with h | h
    · exact h
    · unfold World.cell? at k; rw [Array.getElem?_eq_none h] at k; cases k
   refine ⟨a.block, a.off, ?_, hlt, by simpa using h3⟩
   rw [← h2]
 · obtain ⟨i, hi, rfl⟩ := List.mem_map.1 he
   exact ⟨(hE i (List.mem_range.1 hi)).1, (hE i (List.mem_range.1 hi)).2.2.2⟩
theorem Tryd.cellsPgX : Tryd.prog.cellsOf 38 = 5 := by kernel_rfl
set_option maxRecDepth 100000 in
theorem open_page_atX {H : Type} {enc : TypeId × Value → H} {W : World} {cs : List Value} {d : DataW H} {pl : List MemPlace} {fuel : Nat} (hf' : DataW.trod enc Tryd.prog W 0 (fun _ => true) true fuel 38 cs = some (d, pl)) (hk : ∀ n ∈ d.weights Tryd.prog 38, n ≤ reachBytes) :
    ∃ (P : Pg) (vt vc : Value), cs = [.bool P.reset, vt, vc, .int .i64 P.cur, .bool P.more] ∧ Lies W vt P.tree ∧ LiesO W vc P.cos ∧ WfP P := by
 obtain ⟨y0, y1, y2, y3, y4, n', hx, hlen, t0, t1, t2, t3, t4⟩ := fields5 Tryd.underlying38 hf'
 rw [Tryd.cellsPgX] at hlen
 obtain ⟨c0, c1, c2, c3, c4, hcs⟩ := list5 hlen
 rw [hcs] at t0 t1 t2 t3 t4
 have t0' : DataW.trod enc Tryd.prog W 0 (fun _ => true) true n' 4 [c0] = some y0 := by simpa [Tryd.cells4] using t0
 have t1' : DataW.trod enc Tryd.prog W 0 (fun _ => true) true n' 35 [c1] = some y1 := by simpa [Tryd.cellsSE] using t1
 have t2' : DataW.trod enc Tryd.prog W 0 (fun _ => true) true n' 36 [c2] = some y2 := by simpa [Tryd.cellsSO] using t2
 have t3' : DataW.trod enc Tryd.prog W 0 (fun _ => true) true n' 3 [c3] = some y3 := by simpa [Tryd.cells3] using t3
 have t4' : DataW.trod enc Tryd.prog W 0 (fun _ => true) true n' 4 [c4] = some y4 := by simpa [Tryd.cells4] using t4
 obtain ⟨s0, e0, g0⟩ := DataW.trod_bool Tryd.underlying4 t0'
 obtain ⟨s3, e3, g3, u3⟩ := DataW.trod_int Tryd.underlying3 t3'
 obtain ⟨s4, e4, g4⟩ := DataW.trod_bool Tryd.underlying4 t4'
 obtain rfl : c0 = .bool s0 := by simpa using e0
 obtain rfl : c3 = .int .i64 s3 := by simpa using e3
 obtain rfl : c4 = .bool s4 := by simpa using e4
 subst g0; subst g3; subst g4
 obtain ⟨d1, p1⟩ := y1
 obtain ⟨d2, p2⟩ := y2
 simp only [Prod.mk.injEq] at hx
 have hw : d.weights Tryd.prog 38 = d1.weights Tryd.prog 35 ++ d2.weights Tryd.prog 36 := by
  rw [hx.1, DataW.weights]
  simp only [Tryd.underlying38]
  simp [DataW.weightsEach, DataW.weights]
 rw [hw] at hk
 have hrb : reachBytes = 140737488351232 := by decide
 obtain ⟨L, hL, hLs⟩ := open_tree_wX (fuel := n') t1' (fun n hn => hk n (List.mem_append_left _ hn))
 obtain ⟨l, hl, hls⟩ := open_commits_wX t2' (fun n hn => hk n (List.mem_append_right _ hn))
 refine ⟨⟨s0, L, l, s3, s4⟩, c1, c2, hcs, hL, hl, i64_wf u3, fun e he => ?_, fun c hc => (hls c hc).2⟩
 obtain ⟨⟨h1, h2⟩, h3⟩ := hLs e he
 rw [hrb] at h1 h2
 exact ⟨h3, by unfold TxB; omega, by unfold TxB; omega⟩
theorem Tryd.cellsAnX : Tryd.prog.cellsOf 40 = 7 := by kernel_rfl
theorem Tryd.cellsErX : Tryd.prog.cellsOf 25 = 1 := by kernel_rfl
theorem Tryd.undErX : Tryd.prog.underlying 25 = some (.int .i64) := by kernel_rfl
set_option maxRecDepth 100000 in
theorem open_answerX {H : Type} {enc : TypeId × Value → H} {W : World} {r : Reach} {b0 : Nat} {v : Value} {d : DataW H} {pl : List MemPlace} (hv : Value.okWide Tryd.prog W r b0 40 v) (h : DataW.Trod enc Tryd.prog W 0 (fun _ => true) true 40 v d pl) (hk : ∀ n ∈ d.weights Tryd.prog 40, n ≤ reachBytes) :
    ∃ a : An, LiesA W v a ∧ WfA a := by
 obtain ⟨cs, rfl, hsz⟩ := okWide_struct Tryd.underlying40 hv
 obtain ⟨fuel, hf⟩ := h
 have hf' : DataW.trod enc Tryd.prog W 0 (fun _ => true) true fuel 40 cs.toList = some (d, pl) := by simpa [Value.cells] using hf
 obtain ⟨y0, y1, y2, n', hx, hlen, t0, t1, t2⟩ := fields3 Tryd.underlying40 hf'
 rw [Tryd.cellsAnX] at hlen
 obtain ⟨c0, c1, rest, hcs⟩ : ∃ c0 c1 rest, cs.toList = c0 :: c1 :: rest := by
  rcases hl : cs.toList with _ | ⟨a, _ | ⟨b, r⟩⟩
  · rw [hl] at hlen; simp at hlen
  · rw [hl] at hlen; simp at hlen
  · exact ⟨a, b, r, rfl⟩
 rw [hcs] at t0 t1 t2 hlen
 have hr5 : rest.length = 5 := by simpa using hlen
 have t0' : DataW.trod enc Tryd.prog W 0 (fun _ => true) true n' 25 [c0] = some y0 := by simpa [Tryd.cellsErX] using t0
 have t1' : DataW.trod enc Tryd.prog W 0 (fun _ => true) true n' 3 [c1] = some y1 := by simpa [Tryd.cells3] using t1
 have t2' : DataW.trod enc Tryd.prog W 0 (fun _ => true) true n' 38 rest = some y2 := by simpa [Tryd.cellsPgX, List.take_of_length_le, hr5] using t2
 obtain ⟨s0, e0, g0, u0⟩ := DataW.trod_int Tryd.undErX t0'
 obtain ⟨s1, e1, g1, u1⟩ := DataW.trod_int Tryd.underlying3 t1'
 obtain rfl : c0 = .int .i64 s0 := by simpa using e0
 obtain rfl : c1 = .int .i64 s1 := by simpa using e1
 subst g0; subst g1
 obtain ⟨d2, p2⟩ := y2
 simp only [Prod.mk.injEq] at hx
 have hw : d.weights Tryd.prog 40 = d2.weights Tryd.prog 38 := by
  rw [hx.1, DataW.weights]
  simp only [Tryd.underlying40]
  simp [DataW.weightsEach, DataW.weights]
 rw [hw] at hk
 obtain ⟨P, vt, vc, hps, h1, h2, h3⟩ := open_page_atX t2' hk
 have hag : cs = #[.int .i64 s0, .int .i64 s1, .bool P.reset, vt, vc, .int .i64 P.cur, .bool P.more] := Array.ext' (by rw [hcs, hps])
 exact ⟨⟨s0, s1, P⟩, ⟨vt, vc, by rw [hag], h1, h2⟩, i64_wf u0, i64_wf u1, h3⟩
end Go.Proofs.YthgjdgpjkcmcdaaDoor
