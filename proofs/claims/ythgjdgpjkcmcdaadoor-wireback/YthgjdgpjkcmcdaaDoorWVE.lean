/- The document's AskedOf: just what the program's Asked answers. -/
import Derived.Test.YthgjdgpjkcmcdaaDoorWVD
import Derived.Test.YthgjdgpjkcmcdaaDoorWVA
import Derived.Deep.Cut
set_option linter.unusedSimpArgs false
set_option linter.unusedVariables false
namespace Go.Proofs.YthgjdgpjkcmcdaaDoor
open Go.RowKit

namespace Wr
end Wr
theorem RowV.liesC {B : Nat} {T : TypeId} {cs : List Pp.Ch} {v : Value} {W : World} (h : RowV B T 5 VCh cs v W) (hn : cs.length ≤ 1000000000000000) : LiesC W v cs := by
 obtain ⟨Z, h1, h2, h3⟩ := h
 rw [liesR_ch]
 have e : Z.map (·.2) = cs.map Pp.chC := by
  rw [← h1, List.map_map]
  exact List.map_congr_left (fun z hz => (h3 z hz).1)
 have hl : Z.length = (cs.map Pp.chC).length := by rw [← e]; simp
 rw [e, hl] at h2
 exact liesR_own h2 (by simpa using hn) (fun r hr => by
  rw [← e] at hr
  obtain ⟨z, hz, rfl⟩ := List.mem_map.1 hr
  exact (h3 z hz).2)
end Go.Proofs.YthgjdgpjkcmcdaaDoor
namespace Go.Proofs.YthgjdgpjkcmcdaaDoor
open Go.RowKit

set_option maxHeartbeats 1000000 in
theorem sameChg_yes (L : List Pp.Ch) (v u : Value) (w : World) (hv : LiesC w v L) (hu : LiesC w u L) :
    Calls Tryd.prog 37 #[v, u] w fun e w' => e = .returned (.bool true) ∧ Below w.heap.size w w' := by
 obtain ⟨a, cap, rfl, hcap, hcap2, hL⟩ := hv
 have HL : Hid (∀ i (h : i < L.length), ∃ b o, a = some ⟨b, o, none⟩ ∧ b < w.heap.size ∧ ChAt w b (o + i * 5) L[i]) := hL
 obtain ⟨a', cap', rfl, hcap', _, hL'⟩ := hu
 have HL' : Hid (∀ i (h : i < L.length), ∃ b o, a' = some ⟨b, o, none⟩ ∧ b < w.heap.size ∧ ChAt w b (o + i * 5) L[i]) := hL'
 clear hL hL'
 go_enter Tryd.func37, Tryd.ntmps37
 go_wp2_with fail
 go_loopw [5] (fun i wr => ∃ k : Nat, k ≤ L.length ∧ i = .int .i64 k ∧ Below w.heap.size w wr) (fun i _ => L.length - (intOf i).toNat)
 case atStart => exact ⟨0, Nat.zero_le _, rfl, Below.refl _ _⟩
 case round =>
  obtain ⟨k, hk, rfl, hbel⟩ := hrel
  by_cases hlt : k < L.length
  · obtain ⟨b, o, rfl, hb, he⟩ := HL.out k hlt
    obtain ⟨b', o', rfl, hb', he'⟩ := HL'.out k hlt
    obtain ⟨c0, c1, c2, c3, c4⟩ := he.below hb hbel
    obtain ⟨d0, d1, d2, d3, d4⟩ := he'.below hb' hbel
    go_wp2_with fail
    go_region
    go_wp2_with fail
    go_roundw
    case rel => exact ⟨k + 1, by omega, by simp, hbel.drew⟩
    case measure => simp [intOf]; omega
  · go_wp2_with fail
    go_ret
    exact ⟨rfl, hbel⟩
set_option maxRecDepth 100000 in
set_option maxHeartbeats 4000000 in
theorem sameRequest_yes (q : Rq) (v u : Value) (w : World) (hv : LiesQ w v q) (hu : LiesQ w u q) :
    Calls Tryd.prog 14 #[v, u] w fun e w' => e = .returned (.bool true) ∧ Below w.heap.size w w' := by
 obtain ⟨va, rfl, la⟩ := hv
 obtain ⟨ua, rfl, lb⟩ := hu
 have HA := hid la
 have HB := hid lb
 obtain ⟨aa, ca, rfl, _⟩ := la
 obtain ⟨ba, da, rfl, _⟩ := lb
 obtain ⟨wz, hwz⟩ : ∃ wz, wz = (w.alloc (.cells #[.int .i64 q.kind, .string q.who, .string q.fo, .string q.name, .string q.key, .string q.text, .int .i64 q.num, .int .i64 q.off, .int .i64 q.base, .slice aa q.ch.length ca] 24)).alloc (.cells #[.int .i64 q.kind, .string q.who, .string q.fo, .string q.name, .string q.key, .string q.text, .int .i64 q.num, .int .i64 q.off, .int .i64 q.base, .slice ba q.ch.length da] 24) := ⟨_, rfl⟩
 have hbz : Below w.heap.size w wz := by rw [hwz]; exact ((Below.refl _ _).alloc (Nat.le_refl _) _).alloc (by simp) _
 go_enter Tryd.func14, Tryd.ntmps14
 go_wp2_with fail
 rw [← hwz]
 clear hwz
 refine (sameChg_yes q.ch _ _ _ (HA.out.below hbz) (HB.out.below hbz)).mono ?_
 rintro e w1 ⟨rfl, hb1⟩
 have hb01 := below_tr hbz hb1
 go_wp2_with fail
 go_ret
 exact ⟨rfl, hb01⟩
theorem liesQ_of {B : Nat} {q : Rq} {v : Value} {W : World} (h : RqV B q v W) (hn : q.ch.length ≤ 1000000000000000) : LiesQ W v q := by
 obtain ⟨vc, rfl, hr⟩ := h
 exact ⟨vc, rfl, hr.liesC hn⟩
/-- What was read of a text, as a value that lies there. -/
theorem whq_lies {l : List UInt8} {B : Nat} {e : Ending} {W : World} (h : WhPost (Wr.whole (Wr.rqP Wr.gN 1000 l)) (.agg zrq.toArray) (RqV B) e W) :
    ∃ a c, e = .returned (.tuple #[.agg #[.int .i64 ((Wr.whole (Wr.rqP Wr.gN 1000 l)).getD zeroQ).kind, .string ((Wr.whole (Wr.rqP Wr.gN 1000 l)).getD zeroQ).who, .string ((Wr.whole (Wr.rqP Wr.gN 1000 l)).getD zeroQ).fo, .string ((Wr.whole (Wr.rqP Wr.gN 1000 l)).getD zeroQ).name, .string ((Wr.whole (Wr.rqP Wr.gN 1000 l)).getD zeroQ).key, .string ((Wr.whole (Wr.rqP Wr.gN 1000 l)).getD zeroQ).text, .int .i64 ((Wr.whole (Wr.rqP Wr.gN 1000 l)).getD zeroQ).num, .int .i64 ((Wr.whole (Wr.rqP Wr.gN 1000 l)).getD zeroQ).off, .int .i64 ((Wr.whole (Wr.rqP Wr.gN 1000 l)).getD zeroQ).base, .slice a ((Wr.whole (Wr.rqP Wr.gN 1000 l)).getD zeroQ).ch.length c], .int .i64 (if (Wr.whole (Wr.rqP Wr.gN 1000 l)).isSome then 0 else 1)]) ∧ LiesC W (.slice a ((Wr.whole (Wr.rqP Wr.gN 1000 l)).getD zeroQ).ch.length c) ((Wr.whole (Wr.rqP Wr.gN 1000 l)).getD zeroQ).ch := by
 cases hr : Wr.whole (Wr.rqP Wr.gN 1000 l) with
 | none =>
  rw [hr] at h
  exact ⟨none, 0, h, liesC_nil W⟩
 | some q =>
  rw [hr] at h
  obtain ⟨v, rfl, hq⟩ := h
  have hok := (Wr.ok_rq q).1 (Wr.whole_rq.1 hr).1
  obtain ⟨vc, rfl, hL⟩ := liesQ_of hq (by have := hok.ch.1; omega)
  have hL' := hL
  obtain ⟨a, c, rfl, _⟩ := hL'
  exact ⟨a, c, rfl, hL⟩
namespace Wr
def yn (b : Bool) : It := .n (if b = true then 1 else 0)
theorem yn_wf (b : Bool) : (yn b).wf := by cases b <;> exact (show I64 _ from ⟨by decide, by decide⟩)
def enI (e : En) : List It := [.t e.path, yn e.folder, .t e.text, .n e.ver]
def coI (c : Co) : List It := [.n c.nu, .t c.ke] ++ lst 20 chI c.ch
def pgI (p : Pg) : List It := yn p.reset :: (lst 60 enI p.tree ++ lst 10 coI p.cos ++ [.n p.cur, yn p.more])
def anI (a : An) : List It := .n a.err :: .n a.num :: pgI a.pg
end Wr
structure WfE (e : En) : Prop where
 v : I64 e.ver
 p : TxB e.path
 t : TxB e.text
structure WfO (c : Co) : Prop where
 n : I64 c.nu
 k : TxB c.ke
 c : ∀ x ∈ c.ch, WfC x
structure WfP (p : Pg) : Prop where
 u : I64 p.cur
 t : ∀ x ∈ p.tree, WfE x
 o : ∀ x ∈ p.cos, WfO x
structure WfA (a : An) : Prop where
 e : I64 a.err
 n : I64 a.num
 p : WfP a.pg
theorem WfE.it {e : En} (h : WfE e) : (Wr.enI e).length ≤ 4 ∧ ∀ y ∈ Wr.enI e, y.wf := by
 refine ⟨by simp [Wr.enI], fun y hy => ?_⟩
 simp only [Wr.enI, List.mem_cons, List.not_mem_nil, or_false] at hy
 rcases hy with rfl | rfl | rfl | rfl
 · trivial
 · exact Wr.yn_wf _
 · trivial
 · exact h.v
theorem WfO.it {c : Co} (h : WfO c) : (Wr.coI c).length ≤ 103 ∧ ∀ y ∈ Wr.coI c, y.wf := by
 have h1 := Wr.lst_len Wr.chI 20 5 c.ch (fun x hx => (h.c x hx).it.1)
 refine ⟨by simp only [Wr.coI, List.length_append, List.length_cons, List.length_nil]; omega, fun y hy => ?_⟩
 simp only [Wr.coI, List.mem_append, List.mem_cons, List.not_mem_nil, or_false] at hy
 rcases hy with (rfl | rfl) | hy
 · exact h.n
 · trivial
 · exact Wr.lst_wf _ 20 c.ch (by omega) (fun x hx => (h.c x hx).it.2) y hy
end Go.Proofs.YthgjdgpjkcmcdaaDoor
namespace Go.Proofs.YthgjdgpjkcmcdaaDoor
open Go.RowKit

/-- A writer at work beside a record. -/
structure Wk (B b m : Nat) (cs : List Value) (T : TypeId) (s : Ws) (w : World) : Prop where
 wt : Wt B b s w
 mem : w.heap[m]? = some (.cells cs.toArray T (0, 0))
 tab : PowTab w
 ne : m ≠ b
 ty : T ≠ 5
 b3 : 3 < B
theorem Wk.step {B b m : Nat} {cs : List Value} {T : TypeId} {s s' : Ws} {w w' : World} (h : Wk B b m cs T s w) (hw : Wt B b s' w') (hf : Fr B b w w') : Wk B b m cs T s' w' :=
 ⟨hw, hf.row h.mem h.ne h.ty, h.tab.fr h.b3 hf, h.ne, h.ty, h.b3⟩
theorem Wk.cell {B b m : Nat} {cs : List Value} {T : TypeId} {s : Ws} {w : World} (h : Wk B b m cs T s w) (i : Nat) {v : Value} (hi : cs[i]? = some v) : w.cell? ⟨m, i, none⟩ = some v := by
 rw [Lib.cell_of_heap h.mem]; simpa using hi
theorem Wk.new {B b : Nat} (cs : List Value) (T : TypeId) {s : Ws} {w : World} (h : Wt B b s w) (ht : PowTab w) (h3 : 3 < B) (hT : T ≠ 5) : Wk B b w.heap.size cs T s (w.alloc (.cells cs.toArray T)) := by
 have hBw : B ≤ w.heap.size := Nat.le_of_lt (Nat.lt_of_le_of_lt h.B h.lt)
 exact ⟨h.below (below_alloc _ _), heap_alloc_new w _, ht.fr h3 (fr_below (b := b) (below_alloc _ _) hBw), fun e => by have := h.lt; omega, hT, h3⟩
theorem fr_new {B b : Nat} {s : Ws} {w : World} (h : Wt B b s w) (o : Obj) : Fr B b w (w.alloc o) := fr_below (b := b) (below_alloc _ _) (Nat.le_of_lt (Nat.lt_of_le_of_lt h.B h.lt))
set_option maxHeartbeats 1000000 in
theorem wen1_any (x : En) (B b g : Nat) (t0 : Ws) (w : World) (h : Wt B b t0 w) (hg : WBox w b g) (hlen : t0.l.length + 6000 ≤ 1000000000) (h3 : 3 < B) (ht : PowTab w) (hc : WfE x) :
    Calls Tryd.prog 64 #[.agg #[.string x.path, .bool x.folder, .string x.text, .int .i64 x.ver], .pointer (some ⟨g, 0, none⟩)] w fun e w' => e = .returned (.tuple #[]) ∧ Wt B b (Wr.run t0 (Wr.enI x)) w' ∧ Fr B b w w' := by
 obtain ⟨p, f, t, v⟩ := x
 obtain ⟨w0, hw0⟩ : ∃ w0, w0 = w.alloc (.cells #[.string p, .bool f, .string t, .int .i64 v] 76) := ⟨_, rfl⟩
 have H0 := hid (Wk.new [.string p, .bool f, .string t, .int .i64 v] 76 h ht h3 (by decide))
 have HF0 := fr_new h (.cells #[.string p, .bool f, .string t, .int .i64 v] 76)
 have G0 := hid (hg.fr HF0)
 have hw0' : w.alloc (.cells (List.toArray [.string p, .bool f, .string t, .int .i64 v]) 76) = w0 := hw0.symm
 rw [hw0'] at H0
 rw [← hw0] at HF0 G0
 have HC := hid hc
 have HW := hid hw0
 clear ht h hg hc hw0 hw0'
 go_enter Tryd.func64, Tryd.ntmps64
 go_upto_region 1 with fail
 rw [← HW.out]
 clear HW
 have a0 := G0.out.cell
 have c0 := H0.out.cell 0 rfl
 go_wp2_with fail
 refine (wtext_any B b t0 p w0 H0.out.wt (by omega) H0.out.b3 H0.out.tab HC.out.p).mono ?_
 rintro e w1 ⟨rfl, h1, hf1⟩
 obtain ⟨t1, ht1⟩ : ∃ tq, tq = Wr.txt t0 p := ⟨_, rfl⟩
 have L1 : t1.l.length ≤ t0.l.length + 1021 := by rw [ht1]; exact Wr.put_len (s := t0) (x := .t p) trivial
 rw [← ht1] at h1
 have HT1 := hid ht1
 have H1 := hid (H0.out.step h1 hf1)
 have G1 := hid (G0.out.fr hf1)
 have HF1 := HF0.trans hf1
 clear ht1 h1 hf1 c0 a0 H0 G0 HF0
 have a0 := G1.out.cell
 have c1 := H1.out.cell 1 rfl
 go_wp2_with fail
 refine (wyes_any B b t1 f w1 H1.out.wt (by omega) H1.out.b3 H1.out.tab).mono ?_
 rintro e w2 ⟨rfl, h1, hf1⟩
 obtain ⟨t2, ht1⟩ : ∃ tq, tq = Wr.num t1 (if f = true then 1 else 0) := ⟨_, rfl⟩
 have L2 : t2.l.length ≤ t1.l.length + 1021 := by rw [ht1]; exact Wr.put_len (s := t1) (x := Wr.yn f) (Wr.yn_wf _)
 rw [← ht1] at h1
 have HT2 := hid ht1
 have H2 := hid (H1.out.step h1 hf1)
 have G2 := hid (G1.out.fr hf1)
 have HF2 := HF1.trans hf1
 clear ht1 h1 hf1 c1 a0 H1 G1 HF1
 have a0 := G2.out.cell
 have c2 := H2.out.cell 2 rfl
 go_wp2_with fail
 refine (wtext_any B b t2 t w2 H2.out.wt (by omega) H2.out.b3 H2.out.tab HC.out.t).mono ?_
 rintro e w3 ⟨rfl, h1, hf1⟩
 obtain ⟨t3, ht1⟩ : ∃ tq, tq = Wr.txt t2 t := ⟨_, rfl⟩
 have L3 : t3.l.length ≤ t2.l.length + 1021 := by rw [ht1]; exact Wr.put_len (s := t2) (x := .t t) trivial
 rw [← ht1] at h1
 have HT3 := hid ht1
 have H3 := hid (H2.out.step h1 hf1)
 have G3 := hid (G2.out.fr hf1)
 have HF3 := HF2.trans hf1
 clear ht1 h1 hf1 c2 a0 H2 G2 HF2
 have a0 := G3.out.cell
 have c3 := H3.out.cell 3 rfl
 go_wp2_with fail
 refine (wnum_any B b t3 v w3 H3.out.wt HC.out.v (by omega) H3.out.b3 H3.out.tab).mono ?_
 rintro e w4 ⟨rfl, h1, hf1⟩
 obtain ⟨t4, ht1⟩ : ∃ tq, tq = Wr.num t3 v := ⟨_, rfl⟩
 have L4 : t4.l.length ≤ t3.l.length + 1021 := by rw [ht1]; exact Wr.put_len (s := t3) (x := .n v) HC.out.v
 rw [← ht1] at h1
 have HT4 := hid ht1
 have H4 := hid (H3.out.step h1 hf1)
 have G4 := hid (G3.out.fr hf1)
 have HF4 := HF3.trans hf1
 clear ht1 h1 hf1 c3 a0 H3 G3 HF3
 go_wp2_with fail
 go_end0
 exact ⟨rfl, by have h := H4.out.wt; rw [HT4.out, HT3.out, HT2.out, HT1.out] at h; exact h, HF4⟩
set_option maxHeartbeats 1000000 in
theorem wco1_any (W0 : World) (x : Co) (u : Value) (b g : Nat) (t0 : Ws) (w : World) (hL : LiesC W0 u x.ch) (hW : Below W0.heap.size W0 w) (h : Wt W0.heap.size b t0 w) (hg : WBox w b g) (hlen : t0.l.length + 400000 ≤ 1000000000) (h3 : 3 < W0.heap.size) (ht : PowTab w) (hc : WfO x) :
    Calls Tryd.prog 66 #[.agg #[.int .i64 x.nu, .string x.ke, u], .pointer (some ⟨g, 0, none⟩)] w fun e w' => e = .returned (.tuple #[]) ∧ Wt W0.heap.size b (Wr.run t0 (Wr.coI x)) w' ∧ Fr W0.heap.size b w w' := by
 obtain ⟨n, k, cs⟩ := x
 simp only at hL ⊢
 obtain ⟨av, cv, rfl, hcv⟩ : ∃ av cv, u = .slice av cs.length cv ∧ True := by obtain ⟨a, c, h, _⟩ := hL; exact ⟨a, c, h, trivial⟩
 obtain ⟨B, hB⟩ : ∃ B, B = W0.heap.size := ⟨_, rfl⟩
 have HCH := hid (fun (s : Ws) (W : World) (hw : Below W0.heap.size W0 W) (h : Wt B b s W) (hl : s.l.length + 200000 ≤ 1000000000) (ht : PowTab W) => by
  have := wchanges_any W0 cs _ b s W hL hw (by rw [← hB]; exact h) hl h3 ht hc.c
  rw [← hB] at this; exact this)
 rw [← hB] at h h3 ⊢
 obtain ⟨w0, hw0⟩ : ∃ w0, w0 = w.alloc (.cells #[.int .i64 n, .string k, .slice av cs.length cv] 78) := ⟨_, rfl⟩
 have H0 := hid (Wk.new [.int .i64 n, .string k, .slice av cs.length cv] 78 h ht h3 (by decide))
 have HF0 := fr_new h (.cells #[.int .i64 n, .string k, .slice av cs.length cv] 78)
 have G0 := hid (hg.fr HF0)
 have hw0' : w.alloc (.cells (List.toArray [.int .i64 n, .string k, .slice av cs.length cv]) 78) = w0 := hw0.symm
 rw [hw0'] at H0
 rw [← hw0] at HF0 G0
 have HC := hid hc
 have HW := hid hw0
 have HBW := hid (And.intro hB hW)
 clear ht h hg hc hw0 hw0' hL hcv hB hW
 go_enter Tryd.func66, Tryd.ntmps66
 go_upto_region 1 with fail
 rw [← HW.out]
 clear HW
 have a0 := G0.out.cell
 have c0 := H0.out.cell 0 rfl
 go_wp2_with fail
 refine (wnum_any B b t0 n w0 H0.out.wt HC.out.n (by omega) H0.out.b3 H0.out.tab).mono ?_
 rintro e w1 ⟨rfl, h1, hf1⟩
 obtain ⟨t1, ht1⟩ : ∃ tq, tq = Wr.num t0 n := ⟨_, rfl⟩
 have L1 : t1.l.length ≤ t0.l.length + 1021 := by rw [ht1]; exact Wr.put_len (s := t0) (x := .n n) HC.out.n
 rw [← ht1] at h1
 have HT1 := hid ht1
 have H1 := hid (H0.out.step h1 hf1)
 have G1 := hid (G0.out.fr hf1)
 have HF1 := HF0.trans hf1
 clear ht1 h1 hf1 c0 a0 H0 G0 HF0
 have a0 := G1.out.cell
 have c1 := H1.out.cell 1 rfl
 go_wp2_with fail
 refine (wtext_any B b t1 k w1 H1.out.wt (by omega) H1.out.b3 H1.out.tab HC.out.k).mono ?_
 rintro e w2 ⟨rfl, h1, hf1⟩
 obtain ⟨t2, ht1⟩ : ∃ tq, tq = Wr.txt t1 k := ⟨_, rfl⟩
 have L2 : t2.l.length ≤ t1.l.length + 1021 := by rw [ht1]; exact Wr.put_len (s := t1) (x := .t k) trivial
 rw [← ht1] at h1
 have HT2 := hid ht1
 have H2 := hid (H1.out.step h1 hf1)
 have G2 := hid (G1.out.fr hf1)
 have HF2 := HF1.trans hf1
 clear ht1 h1 hf1 c1 a0 H1 G1 HF1
 have a0 := G2.out.cell
 have c2 := H2.out.cell 2 rfl
 go_wp2_with fail
 refine (HCH.out t2 w2 (HBW.out.2.trans (by rw [← HBW.out.1]; exact HF2.1)) H2.out.wt (by omega) H2.out.tab).mono ?_
 rintro e w3 ⟨rfl, h1, hf1⟩
 clear a0 c2 HCH
 go_wp2_with fail
 go_end0
 exact ⟨rfl, by rw [Wr.coI, Wr.run_app]; rw [HT2.out, HT1.out] at h1; exact h1, HF2.trans hf1⟩
theorem wen1_enters : ∀ args w, (callFunc 64 args).run Tryd.prog w = .ok (.enter 64 args) w := enters_of Tryd.func64 (by kernel_rfl) rfl
theorem wco1_enters : ∀ args w, (callFunc 66 args).run Tryd.prog w = .ok (.enter 66 args) w := enters_of Tryd.func66 (by kernel_rfl) rfl
set_option maxHeartbeats 1000000 in
theorem wle_any (W0 : World) (cs : List En) (v : Value) (b g : Nat) (s : Ws) (w : World) (hL : Lies W0 v cs) (hW : Below W0.heap.size W0 w) (h : Wt W0.heap.size b s w) (hg : WBox w b g) (hlen : s.l.length + 300000 ≤ 1000000000) (h3 : 3 < W0.heap.size) (ht : PowTab w) (hc : ∀ c ∈ cs, WfE c) :
    Calls Tryd.prog 63 #[.pointer (some ⟨b, 0, none⟩), v, .int .i64 60, .func (.func 64) #[] #[.pointer (some ⟨g, 0, none⟩)]] w fun e w' => e = .returned (.tuple #[]) ∧ Wt W0.heap.size b (Wr.run s (Wr.lst 60 Wr.enI cs)) w' ∧ Fr W0.heap.size b w w' := by
 obtain ⟨a, cap, rfl, hcap, hcap2, hLL⟩ := hL
 have hC := wcount_any W0.heap.size b s cs.length 60 w h ⟨by omega, by omega⟩ (by omega) h3 ht
 by_cases hn : (cs.length : Int) ≤ 60
 · rw [if_pos hn, decide_eq_true hn] at hC
   have l1 := Wr.num_len (s := s) (n := cs.length) ⟨by omega, by omega⟩
   have HL := hid (show ∀ k, (Wr.run (Wr.num s cs.length) ((cs.take k).flatMap Wr.enI)).l.length + 6000 ≤ 1000000000 from fun k => by
    have := Wr.fm_len Wr.enI 4 (Wr.num s cs.length) cs k (fun x hx => (hc x hx).it)
    omega)
   have HE := hid (show Wr.run (Wr.num s cs.length) ((cs.take cs.length).flatMap Wr.enI) = Wr.run s (Wr.lst 60 Wr.enI cs) from by rw [List.take_length, Wr.lst, if_pos (by omega)]; rfl)
   have HC := hid hC
   have HD := hid hc
   have HM := hid hLL
   have HG := hid hg
   have HT := hid ht
   have HW := hid hW
   have eg := wen1_enters
   clear hC hc hLL hg ht hW
   go_enter Tryd.func63, Tryd.ntmps63
   go_wp2_with fail
   refine HC.out.mono ?_
   rintro e w1 ⟨rfl, h1, hf1⟩
   have HW1 := hid (show Wt W0.heap.size b (Wr.run (Wr.num s cs.length) ((cs.take 0).flatMap Wr.enI)) w1 from h1)
   have hB1 : W0.heap.size ≤ w1.heap.size := Nat.le_of_lt (Nat.lt_of_le_of_lt h1.B h1.lt)
   clear h1
   go_wp2_with fail
   go_loopw [18] (fun i wr => ∃ k : Nat, k ≤ cs.length ∧ i = .int .i64 k ∧ Hid (Wt W0.heap.size b (Wr.run (Wr.num s cs.length) ((cs.take k).flatMap Wr.enI)) wr) ∧ Fr W0.heap.size b w wr) (fun i _ => cs.length - (intOf i).toNat)
   case atStart => exact ⟨0, Nat.zero_le _, rfl, HW1, hf1⟩
   case round =>
    obtain ⟨k, hk, rfl, HV, hf⟩ := hrel
    by_cases hlt : k < cs.length
    · obtain ⟨bb, o, rfl, hbb, he⟩ := HM.out k hlt
      obtain ⟨c0, c1, c2, c3⟩ := he.below hbb (HW.out.trans hf.1)
      have hlr := HV.out.lt
      have hBr : W0.heap.size ≤ wr.heap.size := Nat.le_of_lt (Nat.lt_of_le_of_lt HV.out.B hlr)
      obtain ⟨wz, hwz⟩ : ∃ wz, wz = wr.alloc (.cells #[.string cs[k].path, .bool cs[k].folder, .string cs[k].text, .int .i64 cs[k].ver] 76) := ⟨_, rfl⟩
      have hbz : Below wr.heap.size wr wz := by rw [hwz]; exact below_alloc _ _
      have hfz : Fr W0.heap.size b wr wz := fr_below hbz hBr
      have HK := hid (wen1_any cs[k] W0.heap.size b g _ wz (HV.out.below hbz) (HG.out.fr (hf.trans hfz)) (HL.out k) h3 (HT.out.fr h3 (hf.trans hfz)) (HD.out _ (List.getElem_mem hlt)))
      rw [hwz] at HK
      have HWZ := hid hwz
      clear hwz he
      go_wp2_with fail
      refine HK.out.mono ?_
      rintro e w2 ⟨rfl, h2, hf2⟩
      rw [← HWZ.out] at hf2
      rw [← Wr.fm_next _ _ _ _ hlt] at h2
      have H2 := hid h2
      clear h2 HK c0 c1 c2 c3
      go_wp2_with fail
      go_roundw
      case rel => exact ⟨k + 1, by omega, by simp, H2, hf.trans (hfz.trans hf2)⟩
      case measure => simp [intOf]; omega
    · obtain rfl : k = cs.length := by omega
      go_wp2_with fail
      go_end0
      exact ⟨rfl, by rw [← HE.out]; exact HV.out, hf⟩
 · rw [if_neg hn, decide_eq_false hn] at hC
   go_enter Tryd.func63, Tryd.ntmps63
   go_wp2_with fail
   refine hC.mono ?_
   rintro e w1 ⟨rfl, h1, hf1⟩
   go_wp2_with fail
   refine bodyPost_ret (results_none rfl _ _ _) rfl ?_
   exact ⟨rfl, by rw [Wr.lst, if_neg (by omega)]; exact h1, hf1⟩
set_option maxHeartbeats 1000000 in
theorem wlo_any (W0 : World) (cs : List Co) (v : Value) (b g : Nat) (s : Ws) (w : World) (hL : LiesO W0 v cs) (hW : Below W0.heap.size W0 w) (h : Wt W0.heap.size b s w) (hg : WBox w b g) (hlen : s.l.length + 2000000 ≤ 1000000000) (h3 : 3 < W0.heap.size) (ht : PowTab w) (hc : ∀ c ∈ cs, WfO c) :
    Calls Tryd.prog 65 #[.pointer (some ⟨b, 0, none⟩), v, .int .i64 10, .func (.func 66) #[] #[.pointer (some ⟨g, 0, none⟩)]] w fun e w' => e = .returned (.tuple #[]) ∧ Wt W0.heap.size b (Wr.run s (Wr.lst 10 Wr.coI cs)) w' ∧ Fr W0.heap.size b w w' := by
 obtain ⟨a, cap, rfl, hcap, hcap2, hLL⟩ := hL
 have hC := wcount_any W0.heap.size b s cs.length 10 w h ⟨by omega, by omega⟩ (by omega) h3 ht
 by_cases hn : (cs.length : Int) ≤ 10
 · rw [if_pos hn, decide_eq_true hn] at hC
   have l1 := Wr.num_len (s := s) (n := cs.length) ⟨by omega, by omega⟩
   have HL := hid (show ∀ k, (Wr.run (Wr.num s cs.length) ((cs.take k).flatMap Wr.coI)).l.length + 400000 ≤ 1000000000 from fun k => by
    have := Wr.fm_len Wr.coI 103 (Wr.num s cs.length) cs k (fun x hx => (hc x hx).it)
    omega)
   have HE := hid (show Wr.run (Wr.num s cs.length) ((cs.take cs.length).flatMap Wr.coI) = Wr.run s (Wr.lst 10 Wr.coI cs) from by rw [List.take_length, Wr.lst, if_pos (by omega)]; rfl)
   have HC := hid hC
   have HD := hid hc
   have HM := hid hLL
   have HG := hid hg
   have HT := hid ht
   have HW := hid hW
   have eg := wco1_enters
   clear hC hc hLL hg ht hW
   go_enter Tryd.func65, Tryd.ntmps65
   go_wp2_with fail
   refine HC.out.mono ?_
   rintro e w1 ⟨rfl, h1, hf1⟩
   have HW1 := hid (show Wt W0.heap.size b (Wr.run (Wr.num s cs.length) ((cs.take 0).flatMap Wr.coI)) w1 from h1)
   have hB1 : W0.heap.size ≤ w1.heap.size := Nat.le_of_lt (Nat.lt_of_le_of_lt h1.B h1.lt)
   clear h1
   go_wp2_with fail
   go_loopw [18] (fun i wr => ∃ k : Nat, k ≤ cs.length ∧ i = .int .i64 k ∧ Hid (Wt W0.heap.size b (Wr.run (Wr.num s cs.length) ((cs.take k).flatMap Wr.coI)) wr) ∧ Fr W0.heap.size b w wr) (fun i _ => cs.length - (intOf i).toNat)
   case atStart => exact ⟨0, Nat.zero_le _, rfl, HW1, hf1⟩
   case round =>
    obtain ⟨k, hk, rfl, HV, hf⟩ := hrel
    by_cases hlt : k < cs.length
    · obtain ⟨bb, o, rfl, hbb, he⟩ := HM.out k hlt
      obtain ⟨c0, c1, u, c2, hu⟩ := he
      have hLu := hu
      obtain ⟨au, cu, rfl, _⟩ := hu
      have c0 := (((HW.out.trans hf.1).cell (p := ⟨bb, o + k * 3, none⟩) hbb).trans c0)
      have c1 := (((HW.out.trans hf.1).cell (p := ⟨bb, o + k * 3 + 1, none⟩) hbb).trans c1)
      have c2 := (((HW.out.trans hf.1).cell (p := ⟨bb, o + k * 3 + 2, none⟩) hbb).trans c2)
      have hlr := HV.out.lt
      have hBr : W0.heap.size ≤ wr.heap.size := Nat.le_of_lt (Nat.lt_of_le_of_lt HV.out.B hlr)
      obtain ⟨wz, hwz⟩ : ∃ wz, wz = wr.alloc (.cells #[.int .i64 cs[k].nu, .string cs[k].ke, .slice au cs[k].ch.length cu] 78) := ⟨_, rfl⟩
      have hbz : Below wr.heap.size wr wz := by rw [hwz]; exact below_alloc _ _
      have hfz : Fr W0.heap.size b wr wz := fr_below hbz hBr
      have HK := hid (wco1_any W0 cs[k] _ b g _ wz hLu (HW.out.trans (hf.trans hfz).1) (HV.out.below hbz) (HG.out.fr (hf.trans hfz)) (HL.out k) h3 (HT.out.fr h3 (hf.trans hfz)) (HD.out _ (List.getElem_mem hlt)))
      rw [hwz] at HK
      have HWZ := hid hwz
      clear hwz hLu
      go_wp2_with fail
      refine HK.out.mono ?_
      rintro e w2 ⟨rfl, h2, hf2⟩
      rw [← HWZ.out] at hf2
      rw [← Wr.fm_next _ _ _ _ hlt] at h2
      have H2 := hid h2
      clear h2 HK c0 c1 c2
      go_wp2_with fail
      go_roundw
      case rel => exact ⟨k + 1, by omega, by simp, H2, hf.trans (hfz.trans hf2)⟩
      case measure => simp [intOf]; omega
    · obtain rfl : k = cs.length := by omega
      go_wp2_with fail
      go_end0
      exact ⟨rfl, by rw [← HE.out]; exact HV.out, hf⟩
 · rw [if_neg hn, decide_eq_false hn] at hC
   go_enter Tryd.func65, Tryd.ntmps65
   go_wp2_with fail
   refine hC.mono ?_
   rintro e w1 ⟨rfl, h1, hf1⟩
   go_wp2_with fail
   refine bodyPost_ret (results_none rfl _ _ _) rfl ?_
   exact ⟨rfl, by rw [Wr.lst, if_neg (by omega)]; exact h1, hf1⟩
set_option maxHeartbeats 2000000 in
theorem wpage_any (W0 : World) (P : Pg) (v : Value) (b : Nat) (t0 : Ws) (w : World) (hL : LiesPg W0 v P) (hW : Below W0.heap.size W0 w) (h : Wt W0.heap.size b t0 w) (hlen : t0.l.length + 5000000 ≤ 1000000000) (h3 : 3 < W0.heap.size) (ht : PowTab w) (hc : WfP P) :
    Calls Tryd.prog 38 #[.pointer (some ⟨b, 0, none⟩), v] w fun e w' => e = .returned (.tuple #[]) ∧ Wt W0.heap.size b (Wr.run t0 (Wr.pgI P)) w' ∧ Fr W0.heap.size b w w' := by
 have hmf : ∀ (fn : Fn) (first cap : Array Value) (w : World), (Instr.makeFunc fn first cap).run Tryd.prog w = .ok (.func fn first cap) w := fun _ _ _ _ => rfl
 obtain ⟨vt, vc, rfl, lt, lc⟩ := hL
 obtain ⟨ta, tc, rfl, _⟩ : ∃ a c, vt = .slice a P.tree.length c ∧ True := by obtain ⟨a, c, h, _⟩ := lt; exact ⟨a, c, h, trivial⟩
 obtain ⟨ca, cc, rfl⟩ := liesO_shape lc
 obtain ⟨rs, T, C, cu, mo⟩ := P
 simp only at lt lc ⊢
 obtain ⟨B, hB⟩ : ∃ B, B = W0.heap.size := ⟨_, rfl⟩
 have HCT := hid (fun (g : Nat) (s : Ws) (W : World) (hw : Below W0.heap.size W0 W) (h : Wt B b s W) (hg : WBox W b g) (hl : s.l.length + 300000 ≤ 1000000000) (ht : PowTab W) => by
  have := wle_any W0 T _ b g s W lt hw (by rw [← hB]; exact h) hg hl h3 ht hc.t
  rw [← hB] at this; exact this)
 have HCC := hid (fun (g : Nat) (s : Ws) (W : World) (hw : Below W0.heap.size W0 W) (h : Wt B b s W) (hg : WBox W b g) (hl : s.l.length + 2000000 ≤ 1000000000) (ht : PowTab W) => by
  have := wlo_any W0 C _ b g s W lc hw (by rw [← hB]; exact h) hg hl h3 ht hc.o
  rw [← hB] at this; exact this)
 rw [← hB] at h h3 ⊢
 obtain ⟨wz, hwz⟩ : ∃ wz, wz = w.alloc (.cells #[.pointer (some ⟨b, 0, none⟩)] 47) := ⟨_, rfl⟩
 have hfz : Fr B b w wz := by rw [hwz]; exact fr_new h _
 have hgz : WBox wz b w.heap.size := ⟨by rw [hwz]; exact heap_alloc_new w _, by have := h.lt; omega⟩
 have hz : Wt B b t0 wz := by rw [hwz]; exact h.below (below_alloc _ _)
 obtain ⟨tl, htl⟩ : ∃ n, n = T.length := ⟨_, rfl⟩
 obtain ⟨cl, hcl⟩ : ∃ n, n = C.length := ⟨_, rfl⟩
 rw [← htl] at HCT ⊢
 rw [← hcl] at HCC ⊢
 obtain ⟨w0, hw0⟩ : ∃ w0, w0 = wz.alloc (.cells #[.bool rs, .slice ta tl tc, .slice ca cl cc, .int .i64 cu, .bool mo] 38) := ⟨_, rfl⟩
 have H0 := hid (Wk.new [.bool rs, .slice ta tl tc, .slice ca cl cc, .int .i64 cu, .bool mo] 38 hz (ht.fr h3 hfz) h3 (by decide))
 have HF0 := hfz.trans (fr_new hz (.cells #[.bool rs, .slice ta tl tc, .slice ca cl cc, .int .i64 cu, .bool mo] 38))
 have G0 := hid (hgz.fr (fr_new hz (.cells #[.bool rs, .slice ta tl tc, .slice ca cl cc, .int .i64 cu, .bool mo] 38)))
 have hw0' : wz.alloc (.cells (List.toArray [.bool rs, .slice ta tl tc, .slice ca cl cc, .int .i64 cu, .bool mo]) 38) = w0 := hw0.symm
 rw [hw0'] at H0
 rw [← hw0] at HF0 G0
 rw [show wz.heap.size = w.heap.size + 1 from by rw [hwz]; simp] at H0
 have HC := hid hc
 have HW := hid (show (w.alloc (.cells #[.pointer (some ⟨b, 0, none⟩)] 47)).alloc (.cells #[.bool rs, .slice ta tl tc, .slice ca cl cc, .int .i64 cu, .bool mo] 38) = w0 from by rw [← hwz, ← hw0])
 have HBW := hid (And.intro hB hW)
 clear ht h hc hw0 hw0' lt lc hB hW hwz hfz hgz hz htl hcl
 go_enter Tryd.func38, Tryd.ntmps38
 go_upto_region 1 with fail
 rw [HW.out]
 clear HW
 have a0 := G0.out.cell
 have c0 := H0.out.cell 0 rfl
 go_wp2_with fail
 refine (wyes_any B b t0 rs w0 H0.out.wt (by omega) H0.out.b3 H0.out.tab).mono ?_
 rintro e w1 ⟨rfl, h1, hf1⟩
 obtain ⟨t1, ht1⟩ : ∃ tq, tq = Wr.num t0 (if rs = true then 1 else 0) := ⟨_, rfl⟩
 have L1 : t1.l.length ≤ t0.l.length + 1021 := by rw [ht1]; exact Wr.put_len (s := t0) (x := Wr.yn rs) (Wr.yn_wf _)
 rw [← ht1] at h1
 have HT1 := hid ht1
 have H1 := hid (H0.out.step h1 hf1)
 have G1 := hid (G0.out.fr hf1)
 have HF1 := HF0.trans hf1
 clear ht1 h1 hf1 c0 a0 H0 G0 HF0
 have a0 := G1.out.cell
 have c1 := H1.out.cell 1 rfl
 go_wp2_with fail
 refine (HCT.out w.heap.size t1 w1 (HBW.out.2.trans (by rw [← HBW.out.1]; exact HF1.1)) H1.out.wt G1.out (by omega) H1.out.tab).mono ?_
 rintro e w2 ⟨rfl, h1, hf1⟩
 obtain ⟨t2, ht1⟩ : ∃ tq, tq = Wr.run t1 (Wr.lst 60 Wr.enI T) := ⟨_, rfl⟩
 have L2 : t2.l.length ≤ t1.l.length + 1021 * 241 := by
  rw [ht1]
  have h8 := Wr.run_len (Wr.lst 60 Wr.enI T) t1 (Wr.lst_wf _ 60 T (by omega) (fun x hx => (HC.out.t x hx).it.2))
  have h9 := Wr.lst_len Wr.enI 60 4 T (fun x hx => by simp [Wr.enI])
  omega
 rw [← ht1] at h1
 have HT2 := hid ht1
 have H2 := hid (H1.out.step h1 hf1)
 have G2 := hid (G1.out.fr hf1)
 have HF2 := HF1.trans hf1
 clear ht1 h1 hf1 c1 a0 H1 G1 HF1 HCT
 have a0 := G2.out.cell
 have c2 := H2.out.cell 2 rfl
 go_wp2_with fail
 refine (HCC.out w.heap.size t2 w2 (HBW.out.2.trans (by rw [← HBW.out.1]; exact HF2.1)) H2.out.wt G2.out (by omega) H2.out.tab).mono ?_
 rintro e w3 ⟨rfl, h1, hf1⟩
 obtain ⟨t3, ht1⟩ : ∃ tq, tq = Wr.run t2 (Wr.lst 10 Wr.coI C) := ⟨_, rfl⟩
 have L3 : t3.l.length ≤ t2.l.length + 1021 * 1031 := by
  rw [ht1]
  have h8 := Wr.run_len (Wr.lst 10 Wr.coI C) t2 (Wr.lst_wf _ 10 C (by omega) (fun x hx => (HC.out.o x hx).it.2))
  have h9 := Wr.lst_len Wr.coI 10 103 C (fun x hx => (HC.out.o x hx).it.1)
  omega
 rw [← ht1] at h1
 have HT3 := hid ht1
 have H3 := hid (H2.out.step h1 hf1)
 have G3 := hid (G2.out.fr hf1)
 have HF3 := HF2.trans hf1
 clear ht1 h1 hf1 c2 a0 H2 G2 HF2 HCC
 have a0 := G3.out.cell
 have c3 := H3.out.cell 3 rfl
 go_wp2_with fail
 refine (wnum_any B b t3 cu w3 H3.out.wt HC.out.u (by omega) H3.out.b3 H3.out.tab).mono ?_
 rintro e w4 ⟨rfl, h1, hf1⟩
 obtain ⟨t4, ht1⟩ : ∃ tq, tq = Wr.num t3 cu := ⟨_, rfl⟩
 have L4 : t4.l.length ≤ t3.l.length + 1021 := by rw [ht1]; exact Wr.put_len (s := t3) (x := .n cu) HC.out.u
 rw [← ht1] at h1
 have HT4 := hid ht1
 have H4 := hid (H3.out.step h1 hf1)
 have G4 := hid (G3.out.fr hf1)
 have HF4 := HF3.trans hf1
 clear ht1 h1 hf1 c3 a0 H3 G3 HF3
 have a0 := G4.out.cell
 have c4 := H4.out.cell 4 rfl
 go_wp2_with fail
 refine (wyes_any B b t4 mo w4 H4.out.wt (by omega) H4.out.b3 H4.out.tab).mono ?_
 rintro e w5 ⟨rfl, h1, hf1⟩
 obtain ⟨t5, ht1⟩ : ∃ tq, tq = Wr.num t4 (if mo = true then 1 else 0) := ⟨_, rfl⟩
 have L5 : t5.l.length ≤ t4.l.length + 1021 := by rw [ht1]; exact Wr.put_len (s := t4) (x := Wr.yn mo) (Wr.yn_wf _)
 rw [← ht1] at h1
 have HT5 := hid ht1
 have H5 := hid (H4.out.step h1 hf1)
 have G5 := hid (G4.out.fr hf1)
 have HF5 := HF4.trans hf1
 clear ht1 h1 hf1 c4 a0 H4 G4 HF4
 go_wp2_with fail
 go_end0
 refine ⟨rfl, ?_, HF5⟩
 have h := H5.out.wt
 rw [HT5.out, HT4.out, HT3.out, HT2.out, HT1.out] at h
 rw [Wr.pgI, Wr.run_cons, Wr.run_app, Wr.run_app]
 exact h
set_option maxHeartbeats 2000000 in
theorem tell_any (A : An) (v : Value) (w : World) (hq : LiesA w v A) (hz : WfA A) (h3 : 3 < w.heap.size) (ht : PowTab w) :
    Calls Tryd.prog 15 #[v] w fun e w' => e = .returned (.tuple #[.string (Wr.fin (Wr.run Wr.e0 (Wr.anI A))).1, .int .i64 (Wr.fin (Wr.run Wr.e0 (Wr.anI A))).2]) ∧ Below w.heap.size w w' := by
 obtain ⟨vt, vc, rfl, lt, lc⟩ := hq
 have hPG : LiesPg w (.agg #[.bool A.pg.reset, vt, vc, .int .i64 A.pg.cur, .bool A.pg.more]) A.pg := ⟨vt, vc, rfl, lt, lc⟩
 obtain ⟨ta, tc, rfl, _⟩ : ∃ a c, vt = .slice a A.pg.tree.length c ∧ True := by obtain ⟨a, c, h, _⟩ := lt; exact ⟨a, c, h, trivial⟩
 obtain ⟨ca, cc, rfl⟩ := liesO_shape lc
 have HP := hid (fun (b : Nat) (s : Ws) (W : World) (hw : Below w.heap.size w W) (h : Wt w.heap.size b s W) (hl : s.l.length + 5000000 ≤ 1000000000) (ht : PowTab W) => wpage_any w A.pg _ b s W hPG hw h hl h3 ht hz.p)
 clear hPG
 obtain ⟨er, nu, rs, T, C, cu, mo⟩ := A
 simp only at lt lc HP ⊢
 have HANI := hid (show ∀ s : Ws, Wr.run s (Wr.anI ⟨er, nu, ⟨rs, T, C, cu, mo⟩⟩) = Wr.run (Wr.num (Wr.num s er) nu) (Wr.pgI ⟨rs, T, C, cu, mo⟩) from fun s => rfl)
 rw [HANI.out]
 obtain ⟨PI, hPI⟩ : ∃ x, x = Wr.pgI ⟨rs, T, C, cu, mo⟩ := ⟨_, rfl⟩
 rw [← hPI] at HP ⊢
 obtain ⟨tl, htl⟩ : ∃ n, n = T.length := ⟨_, rfl⟩
 obtain ⟨cl, hcl⟩ : ∃ n, n = C.length := ⟨_, rfl⟩
 rw [← htl, ← hcl] at HP ⊢
 obtain ⟨B, hB⟩ : ∃ B, B = w.heap.size := ⟨_, rfl⟩
 obtain ⟨wz, hwz⟩ : ∃ wz, wz = w.alloc (.cells #[.int .i64 er, .int .i64 nu, .bool rs, .slice ta tl tc, .slice ca cl cc, .int .i64 cu, .bool mo] 40) := ⟨_, rfl⟩
 have sz : wz.heap.size = w.heap.size + 1 := by rw [hwz]; simp
 have hbz : Below w.heap.size w wz := by rw [hwz]; exact below_alloc _ _
 obtain ⟨w0, hw0⟩ : ∃ w0, w0 = wz.alloc (.cells #[.pointer none, .slice none 0 0, .bool false, .bool false] 53) := ⟨_, rfl⟩
 have hb0 : Below wz.heap.size wz w0 := by rw [hw0]; exact below_alloc _ _
 have hbw : Below w.heap.size w w0 := hbz.trans (hb0.mono (by omega))
 obtain ⟨b, hb⟩ : ∃ b, b = w.heap.size + 1 := ⟨_, rfl⟩
 have hwr : w0.heap[b]? = some (.cells #[.pointer none, .slice none 0 0, .bool false, .bool false] 53 (0, 0)) := by rw [hb, ← sz, hw0]; exact heap_alloc_new wz _
 have hmm : w0.heap[w.heap.size]? = some (.cells (List.toArray [.int .i64 er, .int .i64 nu, .bool rs, .slice ta tl tc, .slice ca cl cc, .int .i64 cu, .bool mo]) 40 (0, 0)) := by rw [hb0.block _ (by omega), hwz]; exact heap_alloc_new w _
 have H0 := hid (Wk.mk (B := B) (b := b) (wt_new w0 B b (by omega) hwr) hmm (ht.belowB h3 hbw) (by omega) (by decide) (by omega))
 have HF0 : Fr B b w0 w0 := Fr.refl _ _ _
 have HB := hid (And.intro hB hbw)
 have HC := hid hz
 have HW := hid (show (w.alloc (.cells #[.int .i64 er, .int .i64 nu, .bool rs, .slice ta tl tc, .slice ca cl cc, .int .i64 cu, .bool mo] 40)).alloc (.cells #[.pointer none, .slice none 0 0, .bool false, .bool false] 53) = w0 from by rw [← hwz, ← hw0])
 have hb2 : w.heap.size + 1 = b := hb.symm
 have HB2 := hid hb2
 clear ht lt lc hz hwz hw0 hwr hmm sz hbz hb0 hbw hB hPI htl hcl hb hb2
 obtain ⟨t0, ht0⟩ : ∃ tq, tq = Wr.e0 := ⟨_, rfl⟩
 rw [← ht0] at H0 ⊢
 have l0 : t0.l.length = 0 := by rw [ht0]; rfl
 clear ht0
 go_enter Tryd.func15, Tryd.ntmps15
 go_upto_region 2 with fail
 rw [HW.out, HB2.out]
 clear HW
 have c0 := H0.out.cell 0 rfl
 go_wp2_with fail
 refine (wnum_any B b t0 er w0 H0.out.wt HC.out.e (by omega) H0.out.b3 H0.out.tab).mono ?_
 rintro e w1 ⟨rfl, h1, hf1⟩
 obtain ⟨t1, ht1⟩ : ∃ tq, tq = Wr.num t0 er := ⟨_, rfl⟩
 have L1 : t1.l.length ≤ t0.l.length + 1021 := by rw [ht1]; exact Wr.put_len (s := t0) (x := .n er) HC.out.e
 rw [← ht1] at h1
 have HT1 := hid ht1
 have H1 := hid (H0.out.step h1 hf1)
 have HF1 := HF0.trans hf1
 clear ht1 h1 hf1 c0 H0 HF0
 have c1 := H1.out.cell 1 rfl
 go_wp2_with fail
 refine (wnum_any B b t1 nu w1 H1.out.wt HC.out.n (by omega) H1.out.b3 H1.out.tab).mono ?_
 rintro e w2 ⟨rfl, h1, hf1⟩
 obtain ⟨t2, ht1⟩ : ∃ tq, tq = Wr.num t1 nu := ⟨_, rfl⟩
 have L2 : t2.l.length ≤ t1.l.length + 1021 := by rw [ht1]; exact Wr.put_len (s := t1) (x := .n nu) HC.out.n
 rw [← ht1] at h1
 have HT2 := hid ht1
 have H2 := hid (H1.out.step h1 hf1)
 have HF2 := HF1.trans hf1
 clear ht1 h1 hf1 c1 H1 HF1
 have c2 := H2.out.cell 2 rfl
 have c3 := H2.out.cell 3 rfl
 have c4 := H2.out.cell 4 rfl
 have c5 := H2.out.cell 5 rfl
 have c6 := H2.out.cell 6 rfl
 have HN := hid (show t2.l ≠ [] from by rw [HT2.out]; exact Wr.num_ne)
 go_wp2_with fail
 refine (HP.out b t2 w2 (HB.out.2.trans (by rw [← HB.out.1]; exact HF2.1)) (by rw [← HB.out.1]; exact H2.out.wt) (by omega) H2.out.tab).mono ?_
 rintro e w3 ⟨rfl, h3', hf3⟩
 rw [← HB.out.1] at h3' hf3
 have HQ := hid (written_any B b _ w3 h3' (Wr.run_ne HN.out))
 clear c2 c3 c4 c5 c6 h3' HP
 go_wp2_with fail
 refine HQ.out.mono ?_
 rintro e w4 ⟨rfl, hb4⟩
 go_wp2_with fail
 go_ret2
 rw [HT2.out, HT1.out]
 refine ⟨rfl, ?_⟩
 rw [HB.out.1] at HF2 hf3 hb4
 exact HB.out.2.trans (HF2.1.trans (hf3.1.trans hb4))
namespace Wr
def enP (g : Int → Bool) (m : Int) : Ps En := bindP (txtP g m) fun p => bindP (yesP g) fun f => bindP (txtP g m) fun t => bindP (rdG g) fun v => pureP ⟨p, f, t, v⟩
def coP (g : Int → Bool) (m : Int) : Ps Co := bindP (rdG g) fun n => bindP (txtP g m) fun k => bindP (lstP g 20 (chP g m)) fun cs => pureP ⟨n, k, cs⟩
def pgP (g : Int → Bool) (m : Int) : Ps Pg := bindP (yesP g) fun r => bindP (lstP g 60 (enP g m)) fun t => bindP (lstP g 10 (coP g m)) fun c => bindP (rdG g) fun u => bindP (yesP g) fun o => pureP ⟨r, t, c, u, o⟩
def anP (g : Int → Bool) (m : Int) : Ps An := bindP (rdG g) fun e => bindP (rdG g) fun n => bindP (pgP g m) fun p => pureP ⟨e, n, p⟩
theorem shr_en (g : Int → Bool) (m : Int) : Shr (enP g m) := shr_bind (shr_txt g m) fun _ => shr_bind (shr_yes g) fun _ => shr_bind (shr_txt g m) fun _ => shr_bind (shr_rd g) fun _ => shr_pure _
theorem shr_co (g : Int → Bool) (m : Int) : Shr (coP g m) := shr_bind (shr_rd g) fun _ => shr_bind (shr_txt g m) fun _ => shr_bind (shr_lst _ _ (shr_ch _ _)) fun _ => shr_pure _
theorem shr_pg (g : Int → Bool) (m : Int) : Shr (pgP g m) := shr_bind (shr_yes g) fun _ => shr_bind (shr_lst _ _ (shr_en _ _)) fun _ => shr_bind (shr_lst _ _ (shr_co _ _)) fun _ => shr_bind (shr_rd g) fun _ => shr_bind (shr_yes g) fun _ => shr_pure _
end Wr
set_option maxHeartbeats 1000000 in
theorem ryes_any {b : Nat} {l : List UInt8} {w : World} (h : Rd b l w) (hs : l.length ≤ MaxL) (h6 : 5 < b) (hv : VarsW w) :
    Calls Tryd.prog 68 #[.pointer (some ⟨b, 0, none⟩)] w fun e w' => RdPost b (Wr.yesP Wr.gN l) (fun x v _ => v = .bool x) e w' ∧ w.grownBy w' (some b) := by
 cases hc : Wr.cntP Wr.gN 1 l with
 | none =>
  have HK := hid (rcnt_no h hs h6 hv hc)
  have HN := hid (show Wr.yesP Wr.gN l = none from Wr.bind_none hc)
  clear h hv hc
  go_enter Tryd.func68, Tryd.ntmps68
  go_wp2_with fail
  refine HK.out.mono ?_
  rintro e w1 ⟨rfl, hb1⟩
  exact bodyPost_panic rfl ⟨RdPost.no HN.out rfl, hb1⟩
 | some z =>
  obtain ⟨n, r⟩ := z
  have HK := hid (rcnt_ok h hs h6 hv hc)
  have HN := hid (show Wr.yesP Wr.gN l = some (decide (n = 1), r) from Wr.bind_some hc)
  clear h hv hc
  go_enter Tryd.func68, Tryd.ntmps68
  go_wp2_with fail
  refine HK.out.mono ?_
  rintro e w1 ⟨rfl, hr1, hb1⟩
  have HR := hid hr1
  clear hr1
  go_wp2_with fail
  go_ret
  exact ⟨RdPost.yes _ HN.out rfl (by by_cases h1 : n = 1 <;> simp [h1]) HR.out, hb1⟩
/-- A reader at work on a record of its own, beside a box with its address. -/
structure R5 (w : World) (b g C R : Nat) (l : List UInt8) (cs zs : List Value) (W : World) : Prop where
 r4 : R4 w b C R l cs zs W
 box : RBox W b g
 gC : g ≠ C
theorem R5.call {w W W' : World} {b g C R : Nat} {l r : List UInt8} {cs zs : List Value} (h : R5 w b g C R l cs zs W) (hn : W.grownBy W' (some b)) (hr : Rd b r W') : R5 w b g C R r cs zs W' := ⟨h.r4.call hn hr, h.box.nb hn, h.gC⟩
theorem R5.set {w W : World} {b g C R : Nat} {l : List UInt8} {cs zs : List Value} (h : R5 w b g C R l cs zs W) (i : Nat) (v : Value) : R5 w b g C R l (cs.set i v) zs (W.setCell ⟨C, i, none⟩ v) := ⟨h.r4.set i v, h.box.nb' (nb_set W C i v) h.gC, h.gC⟩
theorem r5_new {w : World} {b g : Nat} {l : List UInt8} (cs zs : List Value) (T U : TypeId) (h : Rd b l w) (hg : RBox w b g) (h6 : 5 < b) (hv : VarsW w) : R5 w b g (w.heap.size + 1) w.heap.size l cs zs ((w.alloc (.cells zs.toArray T)).alloc (.cells cs.toArray U)) := by
 have hgl := heap_lt hg.1
 have hb : Below w.heap.size w ((w.alloc (.cells zs.toArray T)).alloc (.cells cs.toArray U)) := (below_alloc w _).trans ((below_alloc _ _).mono (by simp))
 exact ⟨r4_new cs zs T U h h6 hv, hg.below hb, by omega⟩
abbrev zen : List Value := [.string ⟨#[]⟩, .bool false, .string ⟨#[]⟩, .int .i64 0]
set_option maxHeartbeats 4000000 in
set_option maxRecDepth 8000 in
theorem ren1_any (b g : Nat) (l : List UInt8) (w : World) (h : Rd b l w) (hg : RBox w b g) (hs : l.length ≤ MaxL) (h6 : 5 < b) (hv : VarsW w) :
    Calls Tryd.prog 70 #[.pointer (some ⟨g, 0, none⟩)] w fun e w' => RdPost b (Wr.enP Wr.gN 1000 l) (fun x v _ => v = .agg #[.string x.path, .bool x.folder, .string x.text, .int .i64 x.ver]) e w' ∧ w.grownBy w' (some b) := by
 have HE0 := hid (show Wr.enP Wr.gN 1000 l = Wr.enP Wr.gN 1000 l from rfl)
 conv at HE0 => arg 1; rhs; unfold Wr.enP
 generalize hP : Wr.enP Wr.gN 1000 l = res at *
 clear hP
 have hbl := h.lt
 have hgl := heap_lt hg.1
 have H0 := hid (r5_new zen zen 76 76 h hg h6 hv)
 obtain ⟨w0, hw0⟩ : ∃ w0, w0 = (w.alloc (.cells zen.toArray 76)).alloc (.cells zen.toArray 76) := ⟨_, rfl⟩
 rw [← hw0] at H0
 have HW0 := hid (show (w.alloc (.cells zen.toArray 76)).alloc (.cells zen.toArray 76) = w0 from hw0.symm)
 have hg1 : ¬ g = w.heap.size := by omega
 have hg2 : ¬ g = w.heap.size + 1 := by omega
 have hg3 : ¬ w.heap.size + 1 = g := by omega
 clear hw0 hg
 have PN := hid (show ∀ (a : Act) (W : World), a.defers = [] → w.grownBy W (some b) → res = none → bodyPost Tryd.prog Tryd.f70 (fun e w' => RdPost b res (fun x v _ => v = .agg #[.string x.path, .bool x.folder, .string x.text, .int .i64 x.ver]) e w' ∧ w.grownBy w' (some b)) (.panic [{ v := .iface 25 (.int .i64 1), recovered := false }]) a W from fun a W hd hw hr => bodyPost_panic hd ⟨RdPost.no hr rfl, hw⟩)
 clear hv h
 go_enter Tryd.func70, Tryd.ntmps70
 go_upto_region 2 with fail
 rw [HW0.out]
 clear HW0
 have ga := H0.out.box.cell
 go_wp2_with fail
 refine (rtxt_any H0.out.r4.rd (by omega) h6 H0.out.r4.v).mono ?_
 rintro e w1 ⟨hp, hn1⟩
 cases hq : Wr.txtP Wr.gN 1000 l with
 | none =>
  rw [hq] at hp
  cases hp
  exact PN.out _ _ rfl (nb_tr H0.out.r4.fr hn1) (HE0.out.trans (Wr.bind_none hq))
 | some z =>
 obtain ⟨p, r1⟩ := z
 rw [hq] at hp
 obtain ⟨_, rfl, rfl, hr1⟩ := hp
 have HE1 := hid (HE0.out.trans (Wr.bind_some hq))
 have s1 := Wr.shr_txt _ _ _ _ _ hq
 have H1 := hid (H0.out.call hn1 hr1)
 clear ga
 clear hq HE0
 have c0 := H1.out.r4.cC.cell 0 rfl
 have f0 := H1.out.r4.cC.fr 0
 have gw := H1.out.box.cell
 obtain ⟨u1, hu1⟩ : ∃ W, W = w1.setCell ⟨w.heap.size + 1, 0, none⟩ (.string p) := ⟨_, rfl⟩
 have HU1 := hid (H1.out.set 0 (.string p))
 rw [← hu1] at HU1
 go_upto_region 3 with fail
 rw [← hu1]
 have HX1 := hid hu1
 clear hu1 c0 f0 gw
 have ga := HU1.out.box.cell
 go_wp2_with fail
 refine (ryes_any HU1.out.r4.rd (by omega) h6 HU1.out.r4.v).mono ?_
 rintro e w2 ⟨hp, hn2⟩
 cases hq : Wr.yesP Wr.gN r1 with
 | none =>
  rw [hq] at hp
  cases hp
  exact PN.out _ _ rfl (nb_tr HU1.out.r4.fr hn2) (HE1.out.trans (Wr.bind_none hq))
 | some z =>
 obtain ⟨f, r2⟩ := z
 rw [hq] at hp
 obtain ⟨_, rfl, rfl, hr2⟩ := hp
 have HE2 := hid (HE1.out.trans (Wr.bind_some hq))
 have s2 := Wr.shr_yes _ _ _ _ hq
 have H2 := hid (HU1.out.call hn2 hr2)
 clear ga
 clear hq HE1
 have c1 := H2.out.r4.cC.cell 1 rfl
 have f1 := H2.out.r4.cC.fr 1
 have gw := H2.out.box.cell
 obtain ⟨u2, hu2⟩ : ∃ W, W = w2.setCell ⟨w.heap.size + 1, 1, none⟩ (.bool f) := ⟨_, rfl⟩
 have HU2 := hid (H2.out.set 1 (.bool f))
 rw [← hu2] at HU2
 go_upto_region 4 with fail
 rw [← hu2]
 have HX2 := hid hu2
 clear hu2 c1 f1 gw
 have ga := HU2.out.box.cell
 go_wp2_with fail
 refine (rtxt_any HU2.out.r4.rd (by omega) h6 HU2.out.r4.v).mono ?_
 rintro e w3 ⟨hp, hn3⟩
 cases hq : Wr.txtP Wr.gN 1000 r2 with
 | none =>
  rw [hq] at hp
  cases hp
  exact PN.out _ _ rfl (nb_tr HU2.out.r4.fr hn3) (HE2.out.trans (Wr.bind_none hq))
 | some z =>
 obtain ⟨t, r3⟩ := z
 rw [hq] at hp
 obtain ⟨_, rfl, rfl, hr3⟩ := hp
 have HE3 := hid (HE2.out.trans (Wr.bind_some hq))
 have s3 := Wr.shr_txt _ _ _ _ _ hq
 have H3 := hid (HU2.out.call hn3 hr3)
 clear ga
 clear hq HE2
 have c2 := H3.out.r4.cC.cell 2 rfl
 have f2 := H3.out.r4.cC.fr 2
 have gw := H3.out.box.cell
 obtain ⟨u3, hu3⟩ : ∃ W, W = w3.setCell ⟨w.heap.size + 1, 2, none⟩ (.string t) := ⟨_, rfl⟩
 have HU3 := hid (H3.out.set 2 (.string t))
 rw [← hu3] at HU3
 go_upto_region 5 with fail
 rw [← hu3]
 have HX3 := hid hu3
 clear hu3 c2 f2 gw
 have ga := HU3.out.box.cell
 go_wp2_with fail
 refine (rnum_any HU3.out.r4.rd (by omega) h6 HU3.out.r4.v).mono ?_
 rintro e w4 ⟨hp, hn4⟩
 cases hq : Wr.rdG Wr.gN r3 with
 | none =>
  rw [hq] at hp
  cases hp
  exact PN.out _ _ rfl (nb_tr HU3.out.r4.fr hn4) (HE3.out.trans (Wr.bind_none hq))
 | some z =>
 obtain ⟨vr, r4⟩ := z
 rw [hq] at hp
 obtain ⟨_, rfl, rfl, hr4⟩ := hp
 have HE4 := hid (HE3.out.trans (Wr.bind_some hq))
 have s4 := Wr.shr_rd _ _ _ _ hq
 have H4 := hid (HU3.out.call hn4 hr4)
 clear ga
 clear hq HE3
 have c3 := H4.out.r4.cC.cell 3 rfl
 have f3 := H4.out.r4.cC.fr 3
 have y0 := H4.out.r4.cC.cell 0 rfl
 have y1 := H4.out.r4.cC.cell 1 rfl
 have y2 := H4.out.r4.cC.cell 2 rfl
 have v0 := H4.out.r4.cR.cell 0 rfl
 have x0 := H4.out.r4.cR.fr 0
 have v1 := H4.out.r4.cR.cell 1 rfl
 have x1 := H4.out.r4.cR.fr 1
 have v2 := H4.out.r4.cR.cell 2 rfl
 have x2 := H4.out.r4.cR.fr 2
 have v3 := H4.out.r4.cR.cell 3 rfl
 have x3 := H4.out.r4.cR.fr 3
 have n3 : ¬ w.heap.size = w.heap.size + 1 := by omega
 have n4 : ¬ w.heap.size + 1 = w.heap.size := by omega
 go_wp2_with fail
 have nR : b ≠ w.heap.size := by omega
 have nC : b ≠ w.heap.size + 1 := by omega
 have l1 : w.heap.size ≤ w.heap.size + 1 := by omega
 have l0 : w.heap.size ≤ w.heap.size := by omega
 refine bodyPost_ret (v := .agg #[.string p, .bool f, .string t, .int .i64 vr]) (by simp [results, Tryd.results70, go_sem, n3, n4, v0, v1, v2, v3]) rfl ⟨RdPost.yes _ HE4.out rfl ?_ ?_, ?_⟩
 · rfl
 · exact (H4.out.r4.rd.set' nC _ |>.set' nR _ |>.set' nR _ |>.set' nR _ |>.set' nR _)
 · exact (nb_new (nb_new (nb_new (nb_new (nb_new H4.out.r4.fr l1 _) l0 _) l0 _) l0 _) l0 _)
end Go.Proofs.YthgjdgpjkcmcdaaDoor
namespace Go.Proofs.YthgjdgpjkcmcdaaDoor
open Go.RowKit

namespace Wr
structure OkE (g : Int → Bool) (m : Int) (e : En) : Prop where
 p : g e.path.size = true ∧ (e.path.size : Int) ≤ m
 t : g e.text.size = true ∧ (e.text.size : Int) ≤ m
 v : g e.ver = true
structure OkO (g : Int → Bool) (m : Int) (c : Co) : Prop where
 n : g c.nu = true
 k : g c.ke.size = true ∧ (c.ke.size : Int) ≤ m
 c : c.ch.length ≤ 20 ∧ ∀ x ∈ c.ch, OkC g m x
structure OkP (g : Int → Bool) (m : Int) (p : Pg) : Prop where
 t : p.tree.length ≤ 60 ∧ ∀ x ∈ p.tree, OkE g m x
 o : p.cos.length ≤ 10 ∧ ∀ x ∈ p.cos, OkO g m x
 u : g p.cur = true
structure OkA (g : Int → Bool) (m : Int) (a : An) : Prop where
 e : g a.err = true
 n : g a.num = true
 p : OkP g m a.pg
theorem rds_yes {g : Int → Bool} (hg : ∀ n, g n = true → wide n) (h0 : g 0 = true) (h1 : g 1 = true) : Rds (yesP g) (fun b => [yn b]) (fun _ => True) := fun l b r => by
 unfold yesP
 rw [bind_iff]
 constructor
 · rintro ⟨n, r', hc, hp⟩
   rw [pure_iff] at hp
   obtain ⟨rfl, rfl⟩ := hp
   obtain ⟨⟨_, hn0, hn1⟩, rfl⟩ := (rds_cnt hg 1 l n r').1 hc
   have : n = 0 ∨ n = 1 := by omega
   rcases this with rfl | rfl <;> exact ⟨trivial, rfl⟩
 · rintro ⟨_, rfl⟩
   cases b with
   | true => exact ⟨1, r, (rds_cnt hg 1 _ _ _).2 ⟨⟨h1, by decide, by decide⟩, rfl⟩, rfl⟩
   | false => exact ⟨0, r, (rds_cnt hg 1 _ _ _).2 ⟨⟨h0, by decide, by decide⟩, rfl⟩, rfl⟩
theorem rds_en {g : Int → Bool} (hg : ∀ n, g n = true → wide n) (hm : ∀ n : Nat, n ≤ 60 → g n = true) (m : Int) : Rds (enP g m) enI (OkE g m) := fun l c r => by
 have hy := fun l x r => rds_yes hg (hm 0 (by omega)) (hm 1 (by omega)) l x r
 unfold enP
 simp only [bind_iff, pure_iff]
 constructor
 · rintro ⟨p, r1, h1, f, r2, h2, t, r3, h3, v, r4, h4, rfl, rfl⟩
   obtain ⟨a1, rfl⟩ := (rds_txt hg m _ _ _).1 h1
   obtain ⟨_, rfl⟩ := (hy _ _ _).1 h2
   obtain ⟨a3, rfl⟩ := (rds_txt hg m _ _ _).1 h3
   obtain ⟨a4, rfl⟩ := (rds_rd hg _ _ _).1 h4
   exact ⟨⟨a1, a3, a4⟩, by simp [enI, bytes]⟩
 · rintro ⟨⟨a1, a3, a4⟩, rfl⟩
   exact ⟨_, _, (rds_txt hg m _ c.path (bytes [yn c.folder, .t c.text, .n c.ver] ++ r)).2 ⟨a1, by simp [enI, bytes]⟩, _, _, (hy _ c.folder (bytes [.t c.text, .n c.ver] ++ r)).2 ⟨trivial, by simp [bytes]⟩, _, _, (rds_txt hg m _ c.text (bytes [.n c.ver] ++ r)).2 ⟨a3, by simp [bytes]⟩, _, _, (rds_rd hg _ c.ver r).2 ⟨a4, by simp [bytes]⟩, rfl, rfl⟩
theorem rds_co {g : Int → Bool} (hg : ∀ n, g n = true → wide n) (hm : ∀ n : Nat, n ≤ 60 → g n = true) (m : Int) : Rds (coP g m) coI (OkO g m) := fun l c r => by
 have hl := fun l x r => rds_lst hg 20 (fun n hn => hm n (by omega)) (rds_ch hg m) l x r
 unfold coP
 simp only [bind_iff, pure_iff]
 constructor
 · rintro ⟨n, r1, h1, k, r2, h2, cs, r3, h3, rfl, rfl⟩
   obtain ⟨a1, rfl⟩ := (rds_rd hg _ _ _).1 h1
   obtain ⟨a2, rfl⟩ := (rds_txt hg m _ _ _).1 h2
   obtain ⟨a3, rfl⟩ := (hl _ _ _).1 h3
   exact ⟨⟨a1, a2, a3⟩, by simp [coI, bytes]⟩
 · rintro ⟨⟨a1, a2, a3⟩, rfl⟩
   exact ⟨_, _, (rds_rd hg _ c.nu (bytes [.t c.ke] ++ (bytes (lst 20 chI c.ch) ++ r))).2 ⟨a1, by simp [coI, bytes]⟩, _, _, (rds_txt hg m _ c.ke (bytes (lst 20 chI c.ch) ++ r)).2 ⟨a2, by simp [bytes]⟩, _, _, (hl _ c.ch r).2 ⟨a3, rfl⟩, rfl, rfl⟩
theorem rds_pg {g : Int → Bool} (hg : ∀ n, g n = true → wide n) (hm : ∀ n : Nat, n ≤ 60 → g n = true) (m : Int) : Rds (pgP g m) pgI (OkP g m) := fun l p r => by
 have hy := fun l x r => rds_yes hg (hm 0 (by omega)) (hm 1 (by omega)) l x r
 have ht := fun l x r => rds_lst hg 60 (fun n hn => hm n (by omega)) (rds_en hg hm m) l x r
 have ho := fun l x r => rds_lst hg 10 (fun n hn => hm n (by omega)) (rds_co hg hm m) l x r
 unfold pgP
 simp only [bind_iff, pure_iff]
 constructor
 · rintro ⟨x, r1, h1, t, r2, h2, o, r3, h3, u, r4, h4, y, r5, h5, rfl, rfl⟩
   obtain ⟨_, rfl⟩ := (hy _ _ _).1 h1
   obtain ⟨a2, rfl⟩ := (ht _ _ _).1 h2
   obtain ⟨a3, rfl⟩ := (ho _ _ _).1 h3
   obtain ⟨a4, rfl⟩ := (rds_rd hg _ _ _).1 h4
   obtain ⟨_, rfl⟩ := (hy _ _ _).1 h5
   exact ⟨⟨a2, a3, a4⟩, by simp [pgI, bytes]⟩
 · rintro ⟨⟨a2, a3, a4⟩, rfl⟩
   obtain ⟨x, t, o, u, y⟩ := p
   exact ⟨_, _, (hy _ x (bytes (lst 60 enI t) ++ (bytes (lst 10 coI o) ++ (bytes [.n u, yn y] ++ r)))).2 ⟨trivial, by simp [pgI, bytes]⟩,
    _, _, (ht _ t (bytes (lst 10 coI o) ++ (bytes [.n u, yn y] ++ r))).2 ⟨a2, rfl⟩,
    _, _, (ho _ o (bytes [.n u, yn y] ++ r)).2 ⟨a3, rfl⟩,
    _, _, (rds_rd hg _ u (bytes [yn y] ++ r)).2 ⟨a4, by simp [bytes]⟩,
    _, _, (hy _ y r).2 ⟨trivial, by simp [bytes]⟩, rfl, rfl⟩
theorem rds_an {g : Int → Bool} (hg : ∀ n, g n = true → wide n) (hm : ∀ n : Nat, n ≤ 60 → g n = true) (m : Int) : Rds (anP g m) anI (OkA g m) := fun l a r => by
 have hp := fun l x r => rds_pg hg hm m l x r
 unfold anP
 simp only [bind_iff, pure_iff]
 constructor
 · rintro ⟨e, r1, h1, n, r2, h2, p, r3, h3, rfl, rfl⟩
   obtain ⟨a1, rfl⟩ := (rds_rd hg _ _ _).1 h1
   obtain ⟨a2, rfl⟩ := (rds_rd hg _ _ _).1 h2
   obtain ⟨a3, rfl⟩ := (hp _ _ _).1 h3
   exact ⟨⟨a1, a2, a3⟩, by simp [anI, bytes]⟩
 · rintro ⟨⟨a1, a2, a3⟩, rfl⟩
   obtain ⟨e, n, p⟩ := a
   exact ⟨_, _, (rds_rd hg _ e (bytes [.n n] ++ (bytes (pgI p) ++ r))).2 ⟨a1, by simp [anI, bytes]⟩, _, _, (rds_rd hg _ n (bytes (pgI p) ++ r)).2 ⟨a2, by simp [bytes]⟩, _, _, (hp _ p r).2 ⟨a3, rfl⟩, rfl, rfl⟩
theorem ok_sz (x : ByteArray) : x.size ≤ 1000 ↔ gN x.size = true ∧ (x.size : Int) ≤ 1000 := by rw [gN, near_iff]; omega
theorem ok_yn (b : Bool) : (yn b).ok = true := by cases b <;> decide
theorem ok_en (e : En) : ok (enI e) = true ↔ OkE gN 1000 e := by
 have hs := ok_sz
 have hy := ok_yn e.folder
 simp only [ok, enI, List.all_cons, List.all_nil, hy, Bool.true_and]
 simp only [It.ok, Bool.and_eq_true, decide_eq_true_eq, Bool.and_true, hs]
 constructor
 · rintro ⟨h1, h2, h3⟩; exact ⟨h1, h2, h3⟩
 · rintro ⟨h1, h2, h3⟩; exact ⟨h1, h2, h3⟩
theorem ok_co (c : Co) : ok (coI c) = true ↔ OkO gN 1000 c := by
 have hs := ok_sz
 rw [coI, ok_app, Bool.and_eq_true, ok_lst 20 (by omega)]
 simp only [ok_ch]
 simp only [ok, List.all_cons, List.all_nil, It.ok, Bool.and_eq_true, decide_eq_true_eq, Bool.and_true, hs]
 constructor
 · rintro ⟨⟨h1, h2⟩, h3⟩; exact ⟨h1, h2, h3⟩
 · rintro ⟨h1, h2, h3⟩; exact ⟨⟨h1, h2⟩, h3⟩
theorem ok_cons (x : It) (l : List It) : ok (x :: l) = (x.ok && ok l) := rfl
theorem ok_an (a : An) : ok (anI a) = true ↔ OkA gN 1000 a := by
 rw [anI, pgI, ok_cons, ok_cons, ok_cons, ok_app, ok_app, ok_cons, ok_cons, ok_yn, ok_yn]
 simp only [Bool.and_eq_true, ok_lst 60 (by omega : 60 ≤ 1000), ok_lst 10 (by omega : 10 ≤ 1000), ok_en, ok_co, It.ok, true_and, and_true]
 constructor
 · rintro ⟨h1, h2, ⟨h3, h4⟩, h5⟩; exact ⟨h1, h2, ⟨h3, h4, (by rw [gN]; simpa [ok, It.ok] using h5)⟩⟩
 · rintro ⟨h1, h2, h3, h4, h5⟩; exact ⟨h1, h2, ⟨h3, h4⟩, (by rw [gN] at h5; simpa [ok, It.ok] using h5)⟩
theorem whole_an {l : List UInt8} {a : An} : whole (anP gN 1000 l) = some a ↔ ok (anI a) = true ∧ l = bytes (anI a) := by
 rw [ok_an]
 exact whole_iff (rds_an gN_wide gN_small 1000)
end Wr
end Go.Proofs.YthgjdgpjkcmcdaaDoor
namespace Go.Proofs.YthgjdgpjkcmcdaaDoor
open Go.RowKit

theorem Tryd.infoW4 : (Tryd.prog.info? 76).map (fun i => (i.zero, i.size, i.bytes)) = some (some (.agg #[.string ⟨#[]⟩, .bool false, .string ⟨#[]⟩, .int .i64 0]), 4, 48) := by kernel_rfl
def VEn (x : En) (r : List Value) (_ : World) : Prop := r = [.string x.path, .bool x.folder, .string x.text, .int .i64 x.ver]
theorem rle_enters : ∀ args w, (callFunc 70 args).run Tryd.prog w = .ok (.enter 70 args) w := enters_of Tryd.func70 (by kernel_rfl) rfl
/-- A list that is being read. -/
structure Rrle (w : World) (b g : Nat) (x : Value) (xs : List (En)) (r : List UInt8) (W : World) : Prop where
 row : RowV w.heap.size 76 4 VEn xs x W
 rd : Rd b r W
 box : RBox W b g
 v : VarsW W
 fr : w.grownBy W (some b)
 rl : r.length ≤ MaxL
theorem rle_new (W : World) (x : En) : ∀ j u, ([.string x.path, .bool x.folder, .string x.text, .int .i64 x.ver] : List Value)[j]? = some u → (W.alloc (.cells #[.string x.path, .bool x.folder, .string x.text, .int .i64 x.ver] 76)).cell? ((⟨W.heap.size, 0, none⟩ : Addr).add j) = some u := by
 intro j u hu
 have h := Cs.new W ([.string x.path, .bool x.folder, .string x.text, .int .i64 x.ver]) 76
 have h2 := h.cell j hu
 rw [Addr.add_lit, Nat.zero_add]
 exact h2
set_option maxHeartbeats 2000000 in
theorem rle_any (b g : Nat) (l : List UInt8) (w : World) (h : Rd b l w) (hg : RBox w b g) (hs : l.length ≤ MaxL) (h6 : 5 < b) (hv : VarsW w) :
    Calls Tryd.prog 69 #[.pointer (some ⟨b, 0, none⟩), .int .i64 60, .func (.func 70) #[] #[.pointer (some ⟨g, 0, none⟩)]] w fun e w' => RdPost b (Wr.lstP Wr.gN 60 (Wr.enP Wr.gN 1000) l) (RowV w.heap.size 76 4 VEn) e w' ∧ w.grownBy w' (some b) := by
 have eg := rle_enters
 cases hc : Wr.cntP Wr.gN 60 l with
 | none =>
  have HK := hid (rcnt_no h hs h6 hv hc)
  have HN := hid (Wr.lst_none (p := Wr.enP Wr.gN 1000) hc)
  clear h hv hc hg
  go_enter Tryd.func69, Tryd.ntmps69
  go_wp2_with fail
  refine HK.out.mono ?_
  rintro e w1 ⟨rfl, hb1⟩
  exact bodyPost_panic rfl ⟨RdPost.no HN.out rfl, hb1⟩
 | some z =>
 obtain ⟨n, r1⟩ := z
 obtain ⟨_, n0, n1⟩ := Wr.cnt_some hc
 obtain ⟨N, rfl⟩ : ∃ k : Nat, n = k := ⟨n.toNat, by omega⟩
 have HK := hid (rcnt_ok h hs h6 hv hc)
 have HN := hid (Wr.lst_some (p := Wr.enP Wr.gN 1000) hc)
 rw [show ((N : Int).toNat) = N from rfl] at HN
 have hl1 := Wr.cnt_len hc
 obtain ⟨i0, hi0, hz0, hz1, hz2⟩ := info_parts Tryd.infoW4
 have hbl := h.lt
 have hgb := heap_lt hg.1
 have HS := hid (Wr.shr_en _ _ : Wr.Shr (Wr.enP Wr.gN 1000))
 have HG := hid hg
 have HV0 := hid hv
 clear h hv hc hg
 go_enter Tryd.func69, Tryd.ntmps69
 go_wp2_with fail
 refine HK.out.mono ?_
 rintro e w1 ⟨rfl, hr1, hb1⟩
 have HR := hid (show Rrle w b g (.slice none 0 0) [] r1 w1 from ⟨rowV_nil _ _ _ _ _, hr1, HG.out.nb hb1, HV0.out.nb h6 (by omega) hb1, hb1, by omega⟩)
 clear HK hr1 hb1 HG HV0
 go_wp2_with fail
 go_loopw [7, 11] (fun x i wr => ∃ (k : Nat) (xs : List (En)) (r : List UInt8), k ≤ N ∧ i = .int .i64 k ∧ Hid (Rrle w b g x xs r wr) ∧ Hid (Wr.lstP Wr.gN 60 (Wr.enP Wr.gN 1000) l = Wr.repA (Wr.enP Wr.gN 1000) (N - k) xs r) ∧ xs.length = k) (fun _ i _ => N - (intOf i).toNat)
 case atStart => exact ⟨0, [], r1, Nat.zero_le _, rfl, HR, HN, rfl⟩
 case round =>
  obtain ⟨k, xs, r, hk, rfl, HL, HE, hxk⟩ := hrel
  by_cases hlt : k < N
  · have HO := hid (ren1_any b g r wr HL.out.rd HL.out.box HL.out.rl h6 HL.out.v)
    obtain ⟨m, hm⟩ : ∃ m, N - k = m + 1 := ⟨N - k - 1, by omega⟩
    cases hp : (Wr.enP Wr.gN 1000) r with
    | none =>
     have HF := hid (Wr.repA_no (n := m) (xs := xs) hp)
     rw [hm] at HE
     rw [hp] at HO
     clear hp HN HR hm
     go_wp2_with fail
     refine HO.out.mono ?_
     rintro e w2 ⟨he, hb2⟩
     cases he
     exact (show bodyPost Tryd.prog Tryd.f69 (fun e w' => RdPost b (Wr.lstP Wr.gN 60 (Wr.enP Wr.gN 1000) l) (RowV w.heap.size 76 4 VEn) e w' ∧ w.grownBy w' (some b)) (.panic _) _ w2 from bodyPost_panic rfl ⟨RdPost.no (HE.out.trans HF.out) rfl, nb_tr HL.out.fr hb2⟩)
    | some z =>
     obtain ⟨x, r'⟩ := z
     have HF := hid (Wr.repA_yes (n := m) (xs := xs) hp)
     rw [hm] at HE
     have hl2 := HS.out _ _ _ hp
     rw [hp] at HO
     have hrl := HL.out.rl
     clear hp HN HR
     obtain ⟨Z, hZ1, hZ2, hZ3⟩ := HL.out.row
     have hZl : Z.length = k := by rw [← hxk, ← hZ1, List.length_map]
     go_wp2_with fail
     refine HO.out.mono ?_
     rintro e w2 ⟨⟨v2, rfl, rfl, hr2⟩, hb2⟩
     have hfr2 := nb_tr HL.out.fr hb2
     have hO2 := ownsRow_nbX hZ2 hb2 hbl
     have hsz2 := hfr2.size
     have HB2 := hid (HL.out.box.nb hb2)
     have HV2 := hid (HL.out.v.nb h6 (by have := HL.out.rd.lt; omega) hb2)
     have HR2 := hid hr2
     have hgl := HL.out.box
     have hsr := HL.out.fr.size
     clear hr2 HO
     go_wp2_with (at_builtin; refine wpList_append_own _ rfl _ _ 35 rfl w.heap.size 76 i0 (.agg #[.string ⟨#[]⟩, .bool false, .string ⟨#[]⟩, .int .i64 0]) 4 48 Tryd.underlying35 hi0 hz0 hz1 hz2 rfl (by decide) _ _ _ rfl (hO2.alloc _) ⟨w2.heap.size, 0, none⟩ 1 1 ([.string x.path, .bool x.folder, .string x.text, .int .i64 x.ver]) rfl rfl (rle_new w2 x) (by simp [Value.oneCell']) (by unfold maxLen; omega) (by omega) (by simp; omega) ?_)
     intro v5 w5 ho5 hgr5 hnn5
     have hB5 : Below w.heap.size w2 w5 := ((Below.refl _ w2).alloc hsz2 _).grown hgr5 (by simp; omega) (fun q hq => (hO2.lt q hq).1)
     have HL5 := hid (show Rrle w b g v5 (xs ++ [x]) r' w5 from ⟨by rw [← hZ1]; exact RowV.snoc (r := [.string x.path, .bool x.folder, .string x.text, .int .i64 x.ver]) (by rw [hZl]; exact ho5) (fun z hz => ⟨(hZ3 z hz).1, (hZ3 z hz).2⟩) ⟨rfl, rfl, by simp [Value.oneCell']⟩, HR2.out.belowB hB5 hbl, HB2.out.belowB hB5 hgb, HV2.out.belowB (by omega) hB5, nb_then hfr2 hB5, by omega⟩)
     clear ho5 hgr5 hnn5 hO2 hZ1 hZ2 hZ3 hB5
     go_wp2_with fail
     go_roundw
     case rel => exact ⟨k + 1, xs ++ [x], r', by omega, by simp, HL5, hid (by rw [HE.out, HF.out, show N - (k + 1) = m from by omega]), by simp [hxk]⟩
     case measure => simp [intOf]; omega
  · obtain rfl : k = N := by omega
    rw [Nat.sub_self, Wr.repA_zero] at HE
    clear HN HR
    go_wp2_with fail
    go_ret
    exact ⟨RdPost.yes _ HE.out rfl HL.out.row HL.out.rd, HL.out.fr⟩
end Go.Proofs.YthgjdgpjkcmcdaaDoor
