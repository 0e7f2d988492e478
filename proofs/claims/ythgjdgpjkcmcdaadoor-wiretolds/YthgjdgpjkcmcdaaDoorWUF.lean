/- The document's Writer: changes; AskOf of any request. -/
import Derived.Test.YthgjdgpjkcmcdaaDoorWUE
import Derived.Test.YthgjdgpjkcmcdaaDoorWUD
import Derived.Deep.QuietTactic
import Derived.BigQuiet
import Derived.Deep.Cut
set_option linter.unusedSimpArgs false
set_option linter.unusedVariables false
namespace Go.Proofs.YthgjdgpjkcmcdaaDoor
open Go.RowKit

namespace Wr
theorem fmR_next {α : Type} (f : α → List It) (s : Ws) (xs : List α) (k : Nat) (h : k < xs.length) : runR s ((xs.take (k + 1)).flatMap f) = runR (runR s ((xs.take k).flatMap f)) (f xs[k]) := by
 rw [List.take_succ_eq_append_getElem h, List.flatMap_append, runR_app]; simp
theorem fmR_len {α : Type} (f : α → List It) (m : Nat) (s : Ws) (xs : List α) (k : Nat) (h : ∀ x ∈ xs, (f x).length ≤ m ∧ ∀ y ∈ f x, y.wf) : (runR s ((xs.take k).flatMap f)).l.length ≤ s.l.length + 1021 * (m * xs.length) := by
 have h1 := runR_len ((xs.take k).flatMap f) s (fun y hy => by
  obtain ⟨x, hx, hy⟩ := List.mem_flatMap.1 hy
  exact (h x (List.mem_of_mem_take hx)).2 y hy)
 have h2 := fm_count f m (xs.take k) (fun x hx => (h x (List.mem_of_mem_take hx)).1)
 have h3 : (xs.take k).length ≤ xs.length := by rw [List.length_take]; omega
 have h4 : m * (xs.take k).length ≤ m * xs.length := Nat.mul_le_mul_left m h3
 omega
end Wr
set_option maxHeartbeats 2000000 in
theorem rwchs_any (W0 : World) (cs : List Pp.Ch) (v : Value) (b : Nat) (s : Ws) (w : World) (hL : LiesC W0 v cs) (hW : Below W0.heap.size W0 w) (hB : W0.heap.size ≤ b) (h : RW b s w) (hlen : s.l.length + 200000 ≤ 1000000000) (hc : ∀ c ∈ cs, WfC c) :
    Calls Tryd.prog 27 #[.pointer (some ⟨b, 0, none⟩), v] w fun e w' => e = .returned (.tuple #[]) ∧ RW b (Wr.runR s (Wr.lst 20 Wr.chI cs)) w' ∧ w.grownBy w' (some b) := by
 obtain ⟨a, cap, rfl, hcap, hcap2, hLL⟩ := hL
 have hBw := hW.size
 by_cases hn : (cs.length : Int) ≤ 20
 · have HN := hid (rwnum_any b s cs.length w h ⟨by omega, by omega⟩ (by omega))
   have l1 := Wr.numR_len (s := s) (n := cs.length) ⟨by omega, by omega⟩
   have HL := hid (show ∀ k, (Wr.runR (Wr.numR s cs.length) ((cs.take k).flatMap Wr.chI)).l.length + 6000 ≤ 1000000000 from fun k => by
    have := Wr.fmR_len Wr.chI 5 (Wr.numR s cs.length) cs k (fun x hx => (hc x hx).it)
    omega)
   have HE := hid (show Wr.runR (Wr.numR s cs.length) ((cs.take cs.length).flatMap Wr.chI) = Wr.runR s (Wr.lst 20 Wr.chI cs) from by rw [List.take_length, Wr.lst, if_pos (by omega)]; rfl)
   have HC := hid hc
   have HM := hid hLL
   have HW := hid hW
   have hn2 : ¬ (20 : Int) < cs.length := by omega
   clear h hc hLL hW hn
   go_enter Tryd.func27, Tryd.ntmps27
   go_wp2_with fail
   refine HN.out.mono ?_
   rintro e w1 ⟨rfl, h1, hb1⟩
   have H1 := hid (show RW b (Wr.runR (Wr.numR s cs.length) ((cs.take 0).flatMap Wr.chI)) w1 from h1)
   clear h1 HN
   go_wp2_with fail
   go_loopw [4] (fun i wr => ∃ k : Nat, k ≤ cs.length ∧ i = .int .i64 k ∧ Hid (RW b (Wr.runR (Wr.numR s cs.length) ((cs.take k).flatMap Wr.chI)) wr) ∧ w.grownBy wr (some b)) (fun i _ => cs.length - (intOf i).toNat)
   case atStart => exact ⟨0, Nat.zero_le _, rfl, H1, hb1⟩
   case round =>
    obtain ⟨k, hk, rfl, HV, hf⟩ := hrel
    by_cases hlt : k < cs.length
    · obtain ⟨bb, o, rfl, hbb, he⟩ := HM.out k hlt
      have hwf := HC.out _ (List.getElem_mem hlt)
      have hl0 := HL.out k
      have HX := hid (Wr.fmR_next Wr.chI (Wr.numR s cs.length) cs k hlt)
      have HBl := hid (show ∀ W, w.grownBy W (some b) → ChAt W bb (o + k * 5) cs[k] from fun W hg => he.below hbb (HW.out.trans (nb_low hg hB hBw)))
      generalize Wr.runR (Wr.numR s cs.length) ((cs.take k).flatMap Wr.chI) = t at *
      generalize cs[k] = c at *
      have t1 := Wr.numR_len (s := t) (n := c.k) hwf.k
      have t2 := Wr.putR_len (s := Wr.numR t c.k) (x := .t c.p) trivial
      have t3 := Wr.putR_len (s := Wr.txtR (Wr.numR t c.k) c.p) (x := .t c.q) trivial
      have t4 := Wr.putR_len (s := Wr.txtR (Wr.txtR (Wr.numR t c.k) c.p) c.q) (x := .t c.t) trivial
      simp only [Wr.putR] at t2 t3 t4
      clear he
      obtain ⟨c0, c1, c2, c3, c4⟩ := HBl.out wr hf
      go_wp2_with fail
      refine (rwnum_any b t c.k wr HV.out hwf.k (by omega)).mono ?_
      rintro e w2 ⟨rfl, h2, hb2⟩
      have hf2 := nb_tr hf hb2
      have H2 := hid h2
      clear h2 hb2 c0 c1 c2 c3 c4
      obtain ⟨c0, c1, c2, c3, c4⟩ := HBl.out w2 hf2
      go_wp2_with fail
      refine (rwtxt_any b _ c.p w2 H2.out (by omega) hwf.p).mono ?_
      rintro e w3 ⟨rfl, h3, hb3⟩
      have hf3 := nb_tr hf2 hb3
      have H3 := hid h3
      clear h3 hb3 c0 c1 c2 c3 c4
      obtain ⟨c0, c1, c2, c3, c4⟩ := HBl.out w3 hf3
      go_wp2_with fail
      refine (rwtxt_any b _ c.q w3 H3.out (by omega) hwf.q).mono ?_
      rintro e w4 ⟨rfl, h4, hb4⟩
      have hf4 := nb_tr hf3 hb4
      have H4 := hid h4
      clear h4 hb4 c0 c1 c2 c3 c4
      obtain ⟨c0, c1, c2, c3, c4⟩ := HBl.out w4 hf4
      go_wp2_with fail
      refine (rwtxt_any b _ c.t w4 H4.out (by omega) hwf.t).mono ?_
      rintro e w5 ⟨rfl, h5, hb5⟩
      have hf5 := nb_tr hf4 hb5
      have H5 := hid h5
      clear h5 hb5 c0 c1 c2 c3 c4
      obtain ⟨c0, c1, c2, c3, c4⟩ := HBl.out w5 hf5
      go_wp2_with fail
      refine (rwnum_any b _ c.b w5 H5.out hwf.b (by omega)).mono ?_
      rintro e w6 ⟨rfl, h6, hb6⟩
      have hf6 := nb_tr hf5 hb6
      have H6 := hid h6
      clear h6 hb6 c0 c1 c2 c3 c4
      go_wp2_with fail
      go_roundw
      case rel => exact ⟨k + 1, by omega, by simp, hid (by rw [HX.out]; exact H6.out), hf6⟩
      case measure => simp [intOf]; omega
    · obtain rfl : k = cs.length := by omega
      go_wp2_with fail
      go_end0
      exact ⟨rfl, by rw [← HE.out]; exact HV.out, hf⟩
 · have c1 := h.cs.cell 1 rfl
   have f1 := h.cs.fr 1
   have HB := hid h
   have hn2 : (20 : Int) < cs.length := by omega
   have HE := hid (show Wr.runR s (Wr.lst 20 Wr.chI cs) = Wr.much s from by rw [Wr.lst, if_neg (by omega)]; rfl)
   go_enter Tryd.func27, Tryd.ntmps27
   go_wp2_with fail
   refine bodyPost_ret (results_none rfl _ _ _) rfl ⟨rfl, ?_, nb_set _ b 1 _⟩
   rw [HE.out]; exact HB.out.great
theorem rwdone_any (b : Nat) (s : Ws) (w : World) (h : RW b s w) :
    Calls Tryd.prog 28 #[.pointer (some ⟨b, 0, none⟩)] w fun e w' => e = .returned (.tuple #[.string (Wr.fin s).1, .int .i64 (Wr.fin s).2]) ∧ w' = w := by
 have c0 := h.cs.cell 0 rfl
 have c1 := h.cs.cell 1 rfl
 have c2 := h.cs.cell 2 rfl
 clear h
 obtain ⟨l, m, f⟩ := s
 cases m with
 | true =>
  rw [Ws.fin_many rfl]
  go_enter Tryd.func28, Tryd.ntmps28
  go_wp2_with fail
  go_ret2
  exact ⟨rfl, rfl⟩
 | false =>
  cases f with
  | true =>
   rw [Ws.fin_far rfl rfl]
   go_enter Tryd.func28, Tryd.ntmps28
   go_wp2_with fail
   go_ret2
   exact ⟨rfl, rfl⟩
  | false =>
   rw [Ws.fin_ok rfl rfl]
   go_enter Tryd.func28, Tryd.ntmps28
   go_wp2_with fail
   go_ret2
   exact ⟨rfl, rfl⟩
end Go.Proofs.YthgjdgpjkcmcdaaDoor
namespace Go.Proofs.YthgjdgpjkcmcdaaDoor
open Go.RowKit

namespace Wr
theorem whole_iff {α : Type} {p : Ps α} {enc : α → List It} {OK : α → Prop} (hp : Rds p enc OK) {l : List UInt8} {x : α} : whole (p l) = some x ↔ OK x ∧ l = bytes (enc x) := by
 have h1 := hp l x []
 rw [List.append_nil] at h1
 rw [← h1]
 cases h : p l with
 | none => simp [whole]
 | some z =>
  obtain ⟨y, r⟩ := z
  cases r with
  | nil => simp [whole]
  | cons a r => simp [whole]
theorem whole_rq {l : List UInt8} {q : Rq} : whole (rqP gN 1000 l) = some q ↔ ok (rqI q) = true ∧ l = bytes (rqI q) := by
 rw [ok_rq]
 exact whole_iff (rds_rq gN_wide (fun n h => gN_small n (by omega)) 1000)
def q0 : Rq := ⟨2, ⟨#[97]⟩, ⟨#[102]⟩, ⟨#[]⟩, ⟨#[]⟩, ⟨#[]⟩, 0, 0, 0, []⟩
def t0 : List UInt8 := [50, 59, 49, 59, 97, 49, 59, 102, 48, 59, 48, 59, 48, 59, 48, 59, 48, 59, 48, 59, 48, 59]
theorem itoa_small (u : Nat) (h : u < 10) : Lib.itoa u = [UInt8.ofNat (48 + u)] := by rw [Lib.itoa_nonneg, Lib.decDigits, dif_pos h]
theorem i0 : Lib.itoa 0 = [48] := itoa_small 0 (by omega)
theorem i1 : Lib.itoa 1 = [49] := itoa_small 1 (by omega)
theorem i2 : Lib.itoa 2 = [50] := itoa_small 2 (by omega)
theorem bytes_q0 : bytes (rqI q0) = t0 := by
 have s0 : (⟨#[]⟩ : ByteArray).size = 0 := rfl
 have s1 : (⟨#[97]⟩ : ByteArray).size = 1 := rfl
 have s2 : (⟨#[102]⟩ : ByteArray).size = 1 := rfl
 simp [rqI, q0, lst, bytes, It.bytes, i0, i1, i2, s0, s1, s2, t0]
theorem ok_q0 : ok (rqI q0) = true := by decide
theorem fin_q0 : fin (run e0 (rqI q0)) = (⟨t0.toArray⟩, 0) := by rw [fin_ok ok_q0, bytes_q0]
theorem whole_q0 : whole (rqP gN 1000 t0) = some q0 := whole_rq.2 ⟨ok_q0, bytes_q0.symm⟩
end Wr
theorem lies_q0 (w : World) : LiesQ w (.agg #[.int .i64 2, .string ⟨#[97]⟩, .string ⟨#[102]⟩, .string ⟨#[]⟩, .string ⟨#[]⟩, .string ⟨#[]⟩, .int .i64 0, .int .i64 0, .int .i64 0, .slice none 0 0]) Wr.q0 :=
 ⟨.slice none 0 0, rfl, none, 0, rfl, Nat.le_refl _, by simp [Wr.q0], fun i hi => absurd hi (by simp [Wr.q0])⟩
theorem wf_q0 : WfQ Wr.q0 := by
 refine ⟨?_, ?_, ?_, ?_, ?_, ?_, ?_, ?_, ?_, ?_⟩
 · exact ⟨by decide, by decide⟩
 · exact ⟨by decide, by decide⟩
 · exact ⟨by decide, by decide⟩
 · exact ⟨by decide, by decide⟩
 · show (1 : Int) ≤ _; decide
 · show (1 : Int) ≤ _; decide
 · show (0 : Int) ≤ _; decide
 · show (0 : Int) ≤ _; decide
 · show (0 : Int) ≤ _; decide
 · intro c hc; exact absurd hc (by simp [Wr.q0])
set_option maxHeartbeats 1000000 in
theorem wireBegun_yes (w : World) (h6 : 5 < w.heap.size) (hv : VarsW w) :
    Calls Tryd.prog 10 #[] w fun e w' => e = .returned (.bool true) ∧ Below w.heap.size w w' := by
 have HA := hid (ask_any Wr.q0 _ w (lies_q0 w) wf_q0 (by omega) hv.pow)
 rw [Wr.fin_q0] at HA
 have HB := hid (fun (W : World) (hW : Below w.heap.size w W) => asked_any ⟨Wr.t0.toArray⟩ W (by decide) (by have := hW.size; omega) (hv.belowB h6 hW))
 rw [show (⟨Wr.t0.toArray⟩ : ByteArray).data.toList = Wr.t0 from rfl, Wr.whole_q0] at HB
 clear hv
 go_enter Tryd.func10, Tryd.ntmps10
 go_wp2_with fail
 refine HA.out.mono ?_
 rintro e w1 ⟨rfl, hb1⟩
 clear HA
 go_wp2_with fail
 refine (HB.out w1 hb1).mono ?_
 rintro e w2 ⟨⟨v, rfl, vc, rfl, hrow⟩, hb2⟩
 obtain ⟨av, lv, cv, rfl⟩ := hrow.shape
 clear hrow HB
 have hB2 := hb1.trans (hb2.mono hb1.size)
 clear hb1 hb2
 have e1 : (Wr.q0.fo.toList == (⟨#[102]⟩ : ByteArray).toList) = true := by simp [Wr.q0]
 have e2 : ((⟨Wr.t0.toArray⟩ : ByteArray).toList == (⟨#[50, 59, 49, 59, 97, 49, 59, 102, 48, 59, 48, 59, 48, 59, 48, 59, 48, 59, 48, 59, 48, 59]⟩ : ByteArray).toList) = true := by simp [Wr.t0]
 have e3 : ((⟨Wr.t0.toArray⟩ : ByteArray).toList == [50, 59, 49, 59, 97, 49, 59, 102, 48, 59, 48, 59, 48, 59, 48, 59, 48, 59, 48, 59, 48, 59]) = true := by simp [Wr.t0]
 have e4 : Wr.q0.fo.toList = [102] := by simp [Wr.q0]
 have e5 : (Wr.q0.fo.toList == [102]) = true := by simp [Wr.q0]
 clear e1 e2
 generalize Wr.q0.fo = fo at *
 generalize (⟨Wr.t0.toArray⟩ : ByteArray) = tt at *
 go_wp2_with fail
 go_ret
 exact ⟨rfl, hB2.alloc hB2.size _⟩
end Go.Proofs.YthgjdgpjkcmcdaaDoor
namespace Go.Proofs.YthgjdgpjkcmcdaaDoor
open Go.RowKit

namespace Wr
theorem OkC.weak {c : Pp.Ch} (h : OkC gN 1000 c) : OkC gR MR c := by
 have hx : ∀ x : ByteArray, (gN x.size = true ∧ (x.size : Int) ≤ 1000) → gR x.size = true ∧ (x.size : Int) ≤ MR := fun x hx => ⟨gNR _ hx.1, by unfold MR; omega⟩
 exact ⟨gNR _ h.k, gNR _ h.b, hx _ h.p, hx _ h.q, hx _ h.t⟩
theorem OkQ.weak {q : Rq} (h : OkQ gN 1000 q) : OkQ gR MR q := by
 have hx : ∀ x : ByteArray, (gN x.size = true ∧ (x.size : Int) ≤ 1000) → gR x.size = true ∧ (x.size : Int) ≤ MR := fun x hx => ⟨gNR _ hx.1, by unfold MR; omega⟩
 exact ⟨gNR _ h.kind, hx _ h.who, hx _ h.fo, hx _ h.name, hx _ h.key, hx _ h.text, gNR _ h.num, gNR _ h.off, gNR _ h.base, h.ch.1, fun c hc => (h.ch.2 c hc).weak⟩
end Wr
theorem RowV.liesC {B : Nat} {T : TypeId} {cs : List Pp.Ch} {v : Value} {W : World} (h : RowV B T 5 VCh cs v W) (hn : cs.length ≤ 1000000000000000) : LiesC W v cs := by
 obtain ⟨Z, h1, h2, h3⟩ := h
 rw [liesR_ch]
 have e : Z.map (·.2) = cs.map Pp.chC := by
  rw [← h1, List.map_map]
  exact List.map_congr_left (fun z hz => (h3 z hz).1)
 have hl : Z.length = (cs.map Pp.chC).length := by rw [← e]; simp
 rw [e, hl] at h2
 exact liesR_own h2 (by simpa using hn) (fun r hr => by
  rw [← e] at hr
  obtain ⟨z, hz, rfl⟩ := List.mem_map.1 hr
  exact (h3 z hz).2)
end Go.Proofs.YthgjdgpjkcmcdaaDoor
namespace Go.Proofs.YthgjdgpjkcmcdaaDoor
open Go.RowKit

set_option maxHeartbeats 1000000 in
theorem scyesV (b i : Nat) (s : ByteArray) (bad : Bool) (w : World) (h : Sc b s i bad w) (hi : i ≤ s.size) (hs : s.size ≤ 140737488351232) :
    Calls Tryd.prog 43 #[.pointer (some ⟨b, 0, none⟩)] w fun e w' => ScV b s bad w (Wr.yesP Wr.gR (s.data.toList.drop i)) (fun x v _ => v = .bool x) (fun _ => True) e w' := by
 have HK := hid (scnumV b i s bad w h hi hs)
 obtain ⟨RES, hRES⟩ : ∃ x, x = Wr.yesP Wr.gR (s.data.toList.drop i) := ⟨_, rfl⟩
 rw [← hRES]
 have hC : ∀ n r, Wr.rdG Wr.gR (s.data.toList.drop i) = some (n, r) → RES = if 0 ≤ n ∧ n ≤ 1 then some (decide (n = 1), r) else none := fun n r h => by
  rw [hRES, Wr.yesP]
  unfold Wr.bindP
  rw [show Wr.cntP Wr.gR 1 (s.data.toList.drop i) = if 0 ≤ n ∧ n ≤ 1 then some (n, r) else none from by rw [Wr.cntP, Wr.bind_some h]]
  by_cases h1 : 0 ≤ n ∧ n ≤ 1
  · rw [if_pos h1, if_pos h1]; rfl
  · rw [if_neg h1, if_neg h1]
 have hN : Wr.rdG Wr.gR (s.data.toList.drop i) = none → RES = none := fun h => by
  rw [hRES, Wr.yesP]
  exact Wr.bind_none (by rw [Wr.cntP]; exact Wr.bind_none h)
 have HCN := hid (And.intro hC hN)
 clear h hs hRES hC hN
 go_enter Tryd.func43, Tryd.ntmps43
 go_wp2_with fail
 refine HK.out.mono ?_
 rintro e w1 ⟨n, _, j, bad', rfl, rfl, hP, h1, hj, hg, hT, hF⟩
 have HH := hid h1
 have c2 := h1.cs.cell 2 rfl
 have f2 := h1.cs.fr 2
 have HT := hid hT
 have HF := hid hF
 have hx : (n == 1) = decide (n = 1) := by by_cases h : n = 1 <;> simp [h]
 obtain ⟨x, hxx⟩ : ∃ x, x = (n == 1) := ⟨_, rfl⟩
 have HX := hid (hxx.trans hx)
 have hxx' := hxx.symm
 clear h1 hT hF HK hx hxx
 have BAD := hid (show (bad = false → RES = none) → ∀ W, Sc b s j true W → w.grownBy W (some b) → ScV b s bad w RES (fun x v _ => v = .bool x) (fun _ => True) (.returned (.bool x)) W from fun hr W hS hgr => ⟨x, _, j, true, rfl, rfl, trivial, hS, hj, hgr, fun _ => rfl, fun hf => ⟨fun _ => rfl, fun y r hy => by rw [hr hf] at hy; cases hy⟩⟩)
 have HBA := hid (show Sc b s j true (w1.setCell ⟨b, 2, none⟩ (.bool true)) ∧ w.grownBy (w1.setCell ⟨b, 2, none⟩ (.bool true)) (some b) from ⟨HH.out.bad, nb_tr hg (nb_set _ b 2 _)⟩)
 cases hb : bad' with
 | true =>
  rw [hb] at c2
  have hr := hid (show bad = false → RES = none from fun hf => by
   cases hr : Wr.rdG Wr.gR (s.data.toList.drop i) with
   | none => exact HCN.out.2 hr
   | some z => obtain ⟨y, r⟩ := z; have := ((HF.out hf).2 y r hr).1; rw [hb] at this; cases this)
  clear hb
  go_wp2_with fail
  refine bodyPost_ret (results_tmp rfl _ _ _) rfl ?_
  exact BAD.out hr.out _ HBA.out.1 HBA.out.2
 | false =>
  have hbf : bad = false := by
   cases h : bad with
   | false => rfl
   | true => have := HT.out h; rw [hb] at this; cases this
  obtain ⟨y, r, hr⟩ : ∃ y r, Wr.rdG Wr.gR (s.data.toList.drop i) = some (y, r) := by
   cases hr : Wr.rdG Wr.gR (s.data.toList.drop i) with
   | none => have := (HF.out hbf).1 hr; rw [hb] at this; cases this
   | some z => exact ⟨_, _, rfl⟩
  obtain ⟨_, h2, h3⟩ := (HF.out hbf).2 y r hr
  subst h2
  have HC := hid (HCN.out.1 _ r hr)
  rw [hb] at c2 HH
  have HD := hid h3
  clear hb hr h3
  by_cases n0 : n < 0
  · have hr := hid (show bad = false → RES = none from fun _ => by rw [HC.out, if_neg (by omega)])
    go_wp2_with fail
    refine bodyPost_ret (results_tmp rfl _ _ _) rfl ?_
    exact BAD.out hr.out _ HBA.out.1 HBA.out.2
  · by_cases n1 : 1 < n
    · have hr := hid (show bad = false → RES = none from fun _ => by rw [HC.out, if_neg (by omega)])
      go_wp2_with fail
      refine bodyPost_ret (results_tmp rfl _ _ _) rfl ?_
      exact BAD.out hr.out _ HBA.out.1 HBA.out.2
    · have hr := hid (show RES = some (decide (n = 1), r) from by rw [HC.out, if_pos (by omega)])
      have hor : (decide (n < 0) || decide (1 < n)) = false := by rw [decide_eq_false n0, decide_eq_false n1]; rfl
      go_wp2_with fail
      refine bodyPost_ret (results_tmp rfl _ _ _) rfl ?_
      refine ⟨x, _, j, false, rfl, rfl, trivial, ?_, hj, nb_tr hg (nb_set _ b 2 _), (fun h => by rw [hbf] at h; cases h), fun _ => ⟨(fun h => by rw [hr.out] at h; cases h), fun y' r' hy => ?_⟩⟩
      · have h9 := HH.out
        unfold Sc World.setCell at *
        simp only [Array.getElem?_modify, h9, if_true, Option.map_some]
        rfl
      · rw [hr.out] at hy
        simp only [Option.some.injEq, Prod.mk.injEq] at hy
        exact ⟨rfl, by rw [HX.out]; exact hy.1, by rw [HD.out, hy.2]⟩
namespace Wr
def yn (b : Bool) : It := .n (if b = true then 1 else 0)
theorem yn_wf (b : Bool) : (yn b).wf := by cases b <;> exact (show I64 _ from ⟨by decide, by decide⟩)
def enI (e : En) : List It := [.t e.path, yn e.folder, .t e.text, .n e.ver]
def coI (c : Co) : List It := [.n c.nu, .t c.ke] ++ lst 20 chI c.ch
def pgI (p : Pg) : List It := yn p.reset :: (lst 60 enI p.tree ++ lst 10 coI p.cos ++ [.n p.cur, yn p.more])
def anI (a : An) : List It := .n a.err :: .n a.num :: pgI a.pg
end Wr
structure WfE (e : En) : Prop where
 v : I64 e.ver
 p : TxB e.path
 t : TxB e.text
structure WfO (c : Co) : Prop where
 n : I64 c.nu
 k : TxB c.ke
 c : ∀ x ∈ c.ch, WfC x
structure WfP (p : Pg) : Prop where
 u : I64 p.cur
 t : ∀ x ∈ p.tree, WfE x
 o : ∀ x ∈ p.cos, WfO x
structure WfA (a : An) : Prop where
 e : I64 a.err
 n : I64 a.num
 p : WfP a.pg
theorem WfE.it {e : En} (h : WfE e) : (Wr.enI e).length ≤ 4 ∧ ∀ y ∈ Wr.enI e, y.wf := by
 refine ⟨by simp [Wr.enI], fun y hy => ?_⟩
 simp only [Wr.enI, List.mem_cons, List.not_mem_nil, or_false] at hy
 rcases hy with rfl | rfl | rfl | rfl
 · trivial
 · exact Wr.yn_wf _
 · trivial
 · exact h.v
theorem WfO.it {c : Co} (h : WfO c) : (Wr.coI c).length ≤ 103 ∧ ∀ y ∈ Wr.coI c, y.wf := by
 have h1 := Wr.lst_len Wr.chI 20 5 c.ch (fun x hx => (h.c x hx).it.1)
 refine ⟨by simp only [Wr.coI, List.length_append, List.length_cons, List.length_nil]; omega, fun y hy => ?_⟩
 simp only [Wr.coI, List.mem_append, List.mem_cons, List.not_mem_nil, or_false] at hy
 rcases hy with (rfl | rfl) | hy
 · exact h.n
 · trivial
 · exact Wr.lst_wf _ 20 c.ch (by omega) (fun x hx => (h.c x hx).it.2) y hy
end Go.Proofs.YthgjdgpjkcmcdaaDoor
namespace Go.Proofs.YthgjdgpjkcmcdaaDoor
open Go.RowKit

namespace Wr
def enP (g : Int → Bool) (m : Int) : Ps En := bindP (txtP g m) fun p => bindP (yesP g) fun f => bindP (txtP g m) fun t => bindP (rdG g) fun v => pureP ⟨p, f, t, v⟩
def coP (g : Int → Bool) (m : Int) : Ps Co := bindP (rdG g) fun n => bindP (txtP g m) fun k => bindP (lstP g 20 (chP g m)) fun cs => pureP ⟨n, k, cs⟩
def pgP (g : Int → Bool) (m : Int) : Ps Pg := bindP (yesP g) fun r => bindP (lstP g 60 (enP g m)) fun t => bindP (lstP g 10 (coP g m)) fun c => bindP (rdG g) fun u => bindP (yesP g) fun o => pureP ⟨r, t, c, u, o⟩
def anP (g : Int → Bool) (m : Int) : Ps An := bindP (rdG g) fun e => bindP (rdG g) fun n => bindP (pgP g m) fun p => pureP ⟨e, n, p⟩
theorem shr_en (g : Int → Bool) (m : Int) : Shr (enP g m) := shr_bind (shr_txt g m) fun _ => shr_bind (shr_yes g) fun _ => shr_bind (shr_txt g m) fun _ => shr_bind (shr_rd g) fun _ => shr_pure _
theorem shr_co (g : Int → Bool) (m : Int) : Shr (coP g m) := shr_bind (shr_rd g) fun _ => shr_bind (shr_txt g m) fun _ => shr_bind (shr_lst _ _ (shr_ch _ _)) fun _ => shr_pure _
theorem shr_pg (g : Int → Bool) (m : Int) : Shr (pgP g m) := shr_bind (shr_yes g) fun _ => shr_bind (shr_lst _ _ (shr_en _ _)) fun _ => shr_bind (shr_lst _ _ (shr_co _ _)) fun _ => shr_bind (shr_rd g) fun _ => shr_bind (shr_yes g) fun _ => shr_pure _
end Wr
set_option maxHeartbeats 1000000 in
theorem ryes_any {b : Nat} {l : List UInt8} {w : World} (h : Rd b l w) (hs : l.length ≤ MaxL) (h6 : 5 < b) (hv : VarsW w) :
    Calls Tryd.prog 68 #[.pointer (some ⟨b, 0, none⟩)] w fun e w' => RdPost b (Wr.yesP Wr.gN l) (fun x v _ => v = .bool x) e w' ∧ w.grownBy w' (some b) := by
 cases hc : Wr.cntP Wr.gN 1 l with
 | none =>
  have HK := hid (rcnt_no h hs h6 hv hc)
  have HN := hid (show Wr.yesP Wr.gN l = none from Wr.bind_none hc)
  clear h hv hc
  go_enter Tryd.func68, Tryd.ntmps68
  go_wp2_with fail
  refine HK.out.mono ?_
  rintro e w1 ⟨rfl, hb1⟩
  exact bodyPost_panic rfl ⟨RdPost.no HN.out rfl, hb1⟩
 | some z =>
  obtain ⟨n, r⟩ := z
  have HK := hid (rcnt_ok h hs h6 hv hc)
  have HN := hid (show Wr.yesP Wr.gN l = some (decide (n = 1), r) from Wr.bind_some hc)
  clear h hv hc
  go_enter Tryd.func68, Tryd.ntmps68
  go_wp2_with fail
  refine HK.out.mono ?_
  rintro e w1 ⟨rfl, hr1, hb1⟩
  have HR := hid hr1
  clear hr1
  go_wp2_with fail
  go_ret
  exact ⟨RdPost.yes _ HN.out rfl (by by_cases h1 : n = 1 <;> simp [h1]) HR.out, hb1⟩
/-- A reader at work on a record of its own, beside a box with its address. -/
structure R5 (w : World) (b g C R : Nat) (l : List UInt8) (cs zs : List Value) (W : World) : Prop where
 r4 : R4 w b C R l cs zs W
 box : RBox W b g
 gC : g ≠ C
theorem R5.call {w W W' : World} {b g C R : Nat} {l r : List UInt8} {cs zs : List Value} (h : R5 w b g C R l cs zs W) (hn : W.grownBy W' (some b)) (hr : Rd b r W') : R5 w b g C R r cs zs W' := ⟨h.r4.call hn hr, h.box.nb hn, h.gC⟩
theorem R5.set {w W : World} {b g C R : Nat} {l : List UInt8} {cs zs : List Value} (h : R5 w b g C R l cs zs W) (i : Nat) (v : Value) : R5 w b g C R l (cs.set i v) zs (W.setCell ⟨C, i, none⟩ v) := ⟨h.r4.set i v, h.box.nb' (nb_set W C i v) h.gC, h.gC⟩
theorem r5_new {w : World} {b g : Nat} {l : List UInt8} (cs zs : List Value) (T U : TypeId) (h : Rd b l w) (hg : RBox w b g) (h6 : 5 < b) (hv : VarsW w) : R5 w b g (w.heap.size + 1) w.heap.size l cs zs ((w.alloc (.cells zs.toArray T)).alloc (.cells cs.toArray U)) := by
 have hgl := heap_lt hg.1
 have hb : Below w.heap.size w ((w.alloc (.cells zs.toArray T)).alloc (.cells cs.toArray U)) := (below_alloc w _).trans ((below_alloc _ _).mono (by simp))
 exact ⟨r4_new cs zs T U h h6 hv, hg.below hb, by omega⟩
abbrev zen : List Value := [.string ⟨#[]⟩, .bool false, .string ⟨#[]⟩, .int .i64 0]
set_option maxHeartbeats 4000000 in
set_option maxRecDepth 8000 in
theorem ren1_any (b g : Nat) (l : List UInt8) (w : World) (h : Rd b l w) (hg : RBox w b g) (hs : l.length ≤ MaxL) (h6 : 5 < b) (hv : VarsW w) :
    Calls Tryd.prog 70 #[.pointer (some ⟨g, 0, none⟩)] w fun e w' => RdPost b (Wr.enP Wr.gN 1000 l) (fun x v _ => v = .agg #[.string x.path, .bool x.folder, .string x.text, .int .i64 x.ver]) e w' ∧ w.grownBy w' (some b) := by
 have HE0 := hid (show Wr.enP Wr.gN 1000 l = Wr.enP Wr.gN 1000 l from rfl)
 conv at HE0 => arg 1; rhs; unfold Wr.enP
 generalize hP : Wr.enP Wr.gN 1000 l = res at *
 clear hP
 have hbl := h.lt
 have hgl := heap_lt hg.1
 have H0 := hid (r5_new zen zen 76 76 h hg h6 hv)
 obtain ⟨w0, hw0⟩ : ∃ w0, w0 = (w.alloc (.cells zen.toArray 76)).alloc (.cells zen.toArray 76) := ⟨_, rfl⟩
 rw [← hw0] at H0
 have HW0 := hid (show (w.alloc (.cells zen.toArray 76)).alloc (.cells zen.toArray 76) = w0 from hw0.symm)
 have hg1 : ¬ g = w.heap.size := by omega
 have hg2 : ¬ g = w.heap.size + 1 := by omega
 have hg3 : ¬ w.heap.size + 1 = g := by omega
 clear hw0 hg
 have PN := hid (show ∀ (a : Act) (W : World), a.defers = [] → w.grownBy W (some b) → res = none → bodyPost Tryd.prog Tryd.f70 (fun e w' => RdPost b res (fun x v _ => v = .agg #[.string x.path, .bool x.folder, .string x.text, .int .i64 x.ver]) e w' ∧ w.grownBy w' (some b)) (.panic [{ v := .iface 25 (.int .i64 1), recovered := false }]) a W from fun a W hd hw hr => bodyPost_panic hd ⟨RdPost.no hr rfl, hw⟩)
 clear hv h
 go_enter Tryd.func70, Tryd.ntmps70
 go_upto_region 2 with fail
 rw [HW0.out]
 clear HW0
 have ga := H0.out.box.cell
 go_wp2_with fail
 refine (rtxt_any H0.out.r4.rd (by omega) h6 H0.out.r4.v).mono ?_
 rintro e w1 ⟨hp, hn1⟩
 cases hq : Wr.txtP Wr.gN 1000 l with
 | none =>
  rw [hq] at hp
  cases hp
  exact PN.out _ _ rfl (nb_tr H0.out.r4.fr hn1) (HE0.out.trans (Wr.bind_none hq))
 | some z =>
 obtain ⟨p, r1⟩ := z
 rw [hq] at hp
 obtain ⟨_, rfl, rfl, hr1⟩ := hp
 have HE1 := hid (HE0.out.trans (Wr.bind_some hq))
 have s1 := Wr.shr_txt _ _ _ _ _ hq
 have H1 := hid (H0.out.call hn1 hr1)
 clear ga
 clear hq HE0
 have c0 := H1.out.r4.cC.cell 0 rfl
 have f0 := H1.out.r4.cC.fr 0
 have gw := H1.out.box.cell
 obtain ⟨u1, hu1⟩ : ∃ W, W = w1.setCell ⟨w.heap.size + 1, 0, none⟩ (.string p) := ⟨_, rfl⟩
 have HU1 := hid (H1.out.set 0 (.string p))
 rw [← hu1] at HU1
 go_upto_region 3 with fail
 rw [← hu1]
 have HX1 := hid hu1
 clear hu1 c0 f0 gw
 have ga := HU1.out.box.cell
 go_wp2_with fail
 refine (ryes_any HU1.out.r4.rd (by omega) h6 HU1.out.r4.v).mono ?_
 rintro e w2 ⟨hp, hn2⟩
 cases hq : Wr.yesP Wr.gN r1 with
 | none =>
  rw [hq] at hp
  cases hp
  exact PN.out _ _ rfl (nb_tr HU1.out.r4.fr hn2) (HE1.out.trans (Wr.bind_none hq))
 | some z =>
 obtain ⟨f, r2⟩ := z
 rw [hq] at hp
 obtain ⟨_, rfl, rfl, hr2⟩ := hp
 have HE2 := hid (HE1.out.trans (Wr.bind_some hq))
 have s2 := Wr.shr_yes _ _ _ _ hq
 have H2 := hid (HU1.out.call hn2 hr2)
 clear ga
 clear hq HE1
 have c1 := H2.out.r4.cC.cell 1 rfl
 have f1 := H2.out.r4.cC.fr 1
 have gw := H2.out.box.cell
 obtain ⟨u2, hu2⟩ : ∃ W, W = w2.setCell ⟨w.heap.size + 1, 1, none⟩ (.bool f) := ⟨_, rfl⟩
 have HU2 := hid (H2.out.set 1 (.bool f))
 rw [← hu2] at HU2
 go_upto_region 4 with fail
 rw [← hu2]
 have HX2 := hid hu2
 clear hu2 c1 f1 gw
 have ga := HU2.out.box.cell
 go_wp2_with fail
 refine (rtxt_any HU2.out.r4.rd (by omega) h6 HU2.out.r4.v).mono ?_
 rintro e w3 ⟨hp, hn3⟩
 cases hq : Wr.txtP Wr.gN 1000 r2 with
 | none =>
  rw [hq] at hp
  cases hp
  exact PN.out _ _ rfl (nb_tr HU2.out.r4.fr hn3) (HE2.out.trans (Wr.bind_none hq))
 | some z =>
 obtain ⟨t, r3⟩ := z
 rw [hq] at hp
 obtain ⟨_, rfl, rfl, hr3⟩ := hp
 have HE3 := hid (HE2.out.trans (Wr.bind_some hq))
 have s3 := Wr.shr_txt _ _ _ _ _ hq
 have H3 := hid (HU2.out.call hn3 hr3)
 clear ga
 clear hq HE2
 have c2 := H3.out.r4.cC.cell 2 rfl
 have f2 := H3.out.r4.cC.fr 2
 have gw := H3.out.box.cell
 obtain ⟨u3, hu3⟩ : ∃ W, W = w3.setCell ⟨w.heap.size + 1, 2, none⟩ (.string t) := ⟨_, rfl⟩
 have HU3 := hid (H3.out.set 2 (.string t))
 rw [← hu3] at HU3
 go_upto_region 5 with fail
 rw [← hu3]
 have HX3 := hid hu3
 clear hu3 c2 f2 gw
 have ga := HU3.out.box.cell
 go_wp2_with fail
 refine (rnum_any HU3.out.r4.rd (by omega) h6 HU3.out.r4.v).mono ?_
 rintro e w4 ⟨hp, hn4⟩
 cases hq : Wr.rdG Wr.gN r3 with
 | none =>
  rw [hq] at hp
  cases hp
  exact PN.out _ _ rfl (nb_tr HU3.out.r4.fr hn4) (HE3.out.trans (Wr.bind_none hq))
 | some z =>
 obtain ⟨vr, r4⟩ := z
 rw [hq] at hp
 obtain ⟨_, rfl, rfl, hr4⟩ := hp
 have HE4 := hid (HE3.out.trans (Wr.bind_some hq))
 have s4 := Wr.shr_rd _ _ _ _ hq
 have H4 := hid (HU3.out.call hn4 hr4)
 clear ga
 clear hq HE3
 have c3 := H4.out.r4.cC.cell 3 rfl
 have f3 := H4.out.r4.cC.fr 3
 have y0 := H4.out.r4.cC.cell 0 rfl
 have y1 := H4.out.r4.cC.cell 1 rfl
 have y2 := H4.out.r4.cC.cell 2 rfl
 have v0 := H4.out.r4.cR.cell 0 rfl
 have x0 := H4.out.r4.cR.fr 0
 have v1 := H4.out.r4.cR.cell 1 rfl
 have x1 := H4.out.r4.cR.fr 1
 have v2 := H4.out.r4.cR.cell 2 rfl
 have x2 := H4.out.r4.cR.fr 2
 have v3 := H4.out.r4.cR.cell 3 rfl
 have x3 := H4.out.r4.cR.fr 3
 have n3 : ¬ w.heap.size = w.heap.size + 1 := by omega
 have n4 : ¬ w.heap.size + 1 = w.heap.size := by omega
 go_wp2_with fail
 have nR : b ≠ w.heap.size := by omega
 have nC : b ≠ w.heap.size + 1 := by omega
 have l1 : w.heap.size ≤ w.heap.size + 1 := by omega
 have l0 : w.heap.size ≤ w.heap.size := by omega
 refine bodyPost_ret (v := .agg #[.string p, .bool f, .string t, .int .i64 vr]) (by simp [results, Tryd.results70, go_sem, n3, n4, v0, v1, v2, v3]) rfl ⟨RdPost.yes _ HE4.out rfl ?_ ?_, ?_⟩
 · rfl
 · exact (H4.out.r4.rd.set' nC _ |>.set' nR _ |>.set' nR _ |>.set' nR _ |>.set' nR _)
 · exact (nb_new (nb_new (nb_new (nb_new (nb_new H4.out.r4.fr l1 _) l0 _) l0 _) l0 _) l0 _)
end Go.Proofs.YthgjdgpjkcmcdaaDoor
namespace Go.Proofs.YthgjdgpjkcmcdaaDoor
open Go.RowKit

namespace Wr
structure OkE (g : Int → Bool) (m : Int) (e : En) : Prop where
 p : g e.path.size = true ∧ (e.path.size : Int) ≤ m
 t : g e.text.size = true ∧ (e.text.size : Int) ≤ m
 v : g e.ver = true
structure OkO (g : Int → Bool) (m : Int) (c : Co) : Prop where
 n : g c.nu = true
 k : g c.ke.size = true ∧ (c.ke.size : Int) ≤ m
 c : c.ch.length ≤ 20 ∧ ∀ x ∈ c.ch, OkC g m x
structure OkP (g : Int → Bool) (m : Int) (p : Pg) : Prop where
 t : p.tree.length ≤ 60 ∧ ∀ x ∈ p.tree, OkE g m x
 o : p.cos.length ≤ 10 ∧ ∀ x ∈ p.cos, OkO g m x
 u : g p.cur = true
structure OkA (g : Int → Bool) (m : Int) (a : An) : Prop where
 e : g a.err = true
 n : g a.num = true
 p : OkP g m a.pg
theorem rds_yes {g : Int → Bool} (hg : ∀ n, g n = true → wide n) (h0 : g 0 = true) (h1 : g 1 = true) : Rds (yesP g) (fun b => [yn b]) (fun _ => True) := fun l b r => by
 unfold yesP
 rw [bind_iff]
 constructor
 · rintro ⟨n, r', hc, hp⟩
   rw [pure_iff] at hp
   obtain ⟨rfl, rfl⟩ := hp
   obtain ⟨⟨_, hn0, hn1⟩, rfl⟩ := (rds_cnt hg 1 l n r').1 hc
   have : n = 0 ∨ n = 1 := by omega
   rcases this with rfl | rfl <;> exact ⟨trivial, rfl⟩
 · rintro ⟨_, rfl⟩
   cases b with
   | true => exact ⟨1, r, (rds_cnt hg 1 _ _ _).2 ⟨⟨h1, by decide, by decide⟩, rfl⟩, rfl⟩
   | false => exact ⟨0, r, (rds_cnt hg 1 _ _ _).2 ⟨⟨h0, by decide, by decide⟩, rfl⟩, rfl⟩
theorem rds_en {g : Int → Bool} (hg : ∀ n, g n = true → wide n) (hm : ∀ n : Nat, n ≤ 60 → g n = true) (m : Int) : Rds (enP g m) enI (OkE g m) := fun l c r => by
 have hy := fun l x r => rds_yes hg (hm 0 (by omega)) (hm 1 (by omega)) l x r
 unfold enP
 simp only [bind_iff, pure_iff]
 constructor
 · rintro ⟨p, r1, h1, f, r2, h2, t, r3, h3, v, r4, h4, rfl, rfl⟩
   obtain ⟨a1, rfl⟩ := (rds_txt hg m _ _ _).1 h1
   obtain ⟨_, rfl⟩ := (hy _ _ _).1 h2
   obtain ⟨a3, rfl⟩ := (rds_txt hg m _ _ _).1 h3
   obtain ⟨a4, rfl⟩ := (rds_rd hg _ _ _).1 h4
   exact ⟨⟨a1, a3, a4⟩, by simp [enI, bytes]⟩
 · rintro ⟨⟨a1, a3, a4⟩, rfl⟩
   exact ⟨_, _, (rds_txt hg m _ c.path (bytes [yn c.folder, .t c.text, .n c.ver] ++ r)).2 ⟨a1, by simp [enI, bytes]⟩, _, _, (hy _ c.folder (bytes [.t c.text, .n c.ver] ++ r)).2 ⟨trivial, by simp [bytes]⟩, _, _, (rds_txt hg m _ c.text (bytes [.n c.ver] ++ r)).2 ⟨a3, by simp [bytes]⟩, _, _, (rds_rd hg _ c.ver r).2 ⟨a4, by simp [bytes]⟩, rfl, rfl⟩
theorem rds_co {g : Int → Bool} (hg : ∀ n, g n = true → wide n) (hm : ∀ n : Nat, n ≤ 60 → g n = true) (m : Int) : Rds (coP g m) coI (OkO g m) := fun l c r => by
 have hl := fun l x r => rds_lst hg 20 (fun n hn => hm n (by omega)) (rds_ch hg m) l x r
 unfold coP
 simp only [bind_iff, pure_iff]
 constructor
 · rintro ⟨n, r1, h1, k, r2, h2, cs, r3, h3, rfl, rfl⟩
   obtain ⟨a1, rfl⟩ := (rds_rd hg _ _ _).1 h1
   obtain ⟨a2, rfl⟩ := (rds_txt hg m _ _ _).1 h2
   obtain ⟨a3, rfl⟩ := (hl _ _ _).1 h3
   exact ⟨⟨a1, a2, a3⟩, by simp [coI, bytes]⟩
 · rintro ⟨⟨a1, a2, a3⟩, rfl⟩
   exact ⟨_, _, (rds_rd hg _ c.nu (bytes [.t c.ke] ++ (bytes (lst 20 chI c.ch) ++ r))).2 ⟨a1, by simp [coI, bytes]⟩, _, _, (rds_txt hg m _ c.ke (bytes (lst 20 chI c.ch) ++ r)).2 ⟨a2, by simp [bytes]⟩, _, _, (hl _ c.ch r).2 ⟨a3, rfl⟩, rfl, rfl⟩
theorem rds_pg {g : Int → Bool} (hg : ∀ n, g n = true → wide n) (hm : ∀ n : Nat, n ≤ 60 → g n = true) (m : Int) : Rds (pgP g m) pgI (OkP g m) := fun l p r => by
 have hy := fun l x r => rds_yes hg (hm 0 (by omega)) (hm 1 (by omega)) l x r
 have ht := fun l x r => rds_lst hg 60 (fun n hn => hm n (by omega)) (rds_en hg hm m) l x r
 have ho := fun l x r => rds_lst hg 10 (fun n hn => hm n (by omega)) (rds_co hg hm m) l x r
 unfold pgP
 simp only [bind_iff, pure_iff]
 constructor
 · rintro ⟨x, r1, h1, t, r2, h2, o, r3, h3, u, r4, h4, y, r5, h5, rfl, rfl⟩
   obtain ⟨_, rfl⟩ := (hy _ _ _).1 h1
   obtain ⟨a2, rfl⟩ := (ht _ _ _).1 h2
   obtain ⟨a3, rfl⟩ := (ho _ _ _).1 h3
   obtain ⟨a4, rfl⟩ := (rds_rd hg _ _ _).1 h4
   obtain ⟨_, rfl⟩ := (hy _ _ _).1 h5
   exact ⟨⟨a2, a3, a4⟩, by simp [pgI, bytes]⟩
 · rintro ⟨⟨a2, a3, a4⟩, rfl⟩
   obtain ⟨x, t, o, u, y⟩ := p
   exact ⟨_, _, (hy _ x (bytes (lst 60 enI t) ++ (bytes (lst 10 coI o) ++ (bytes [.n u, yn y] ++ r)))).2 ⟨trivial, by simp [pgI, bytes]⟩,
    _, _, (ht _ t (bytes (lst 10 coI o) ++ (bytes [.n u, yn y] ++ r))).2 ⟨a2, rfl⟩,
    _, _, (ho _ o (bytes [.n u, yn y] ++ r)).2 ⟨a3, rfl⟩,
    _, _, (rds_rd hg _ u (bytes [yn y] ++ r)).2 ⟨a4, by simp [bytes]⟩,
    _, _, (hy _ y r).2 ⟨trivial, by simp [bytes]⟩, rfl, rfl⟩
theorem rds_an {g : Int → Bool} (hg : ∀ n, g n = true → wide n) (hm : ∀ n : Nat, n ≤ 60 → g n = true) (m : Int) : Rds (anP g m) anI (OkA g m) := fun l a r => by
 have hp := fun l x r => rds_pg hg hm m l x r
 unfold anP
 simp only [bind_iff, pure_iff]
 constructor
 · rintro ⟨e, r1, h1, n, r2, h2, p, r3, h3, rfl, rfl⟩
   obtain ⟨a1, rfl⟩ := (rds_rd hg _ _ _).1 h1
   obtain ⟨a2, rfl⟩ := (rds_rd hg _ _ _).1 h2
   obtain ⟨a3, rfl⟩ := (hp _ _ _).1 h3
   exact ⟨⟨a1, a2, a3⟩, by simp [anI, bytes]⟩
 · rintro ⟨⟨a1, a2, a3⟩, rfl⟩
   obtain ⟨e, n, p⟩ := a
   exact ⟨_, _, (rds_rd hg _ e (bytes [.n n] ++ (bytes (pgI p) ++ r))).2 ⟨a1, by simp [anI, bytes]⟩, _, _, (rds_rd hg _ n (bytes (pgI p) ++ r)).2 ⟨a2, by simp [bytes]⟩, _, _, (hp _ p r).2 ⟨a3, rfl⟩, rfl, rfl⟩
theorem ok_sz (x : ByteArray) : x.size ≤ 1000 ↔ gN x.size = true ∧ (x.size : Int) ≤ 1000 := by rw [gN, near_iff]; omega
theorem ok_yn (b : Bool) : (yn b).ok = true := by cases b <;> decide
theorem ok_en (e : En) : ok (enI e) = true ↔ OkE gN 1000 e := by
 have hs := ok_sz
 have hy := ok_yn e.folder
 simp only [ok, enI, List.all_cons, List.all_nil, hy, Bool.true_and]
 simp only [It.ok, Bool.and_eq_true, decide_eq_true_eq, Bool.and_true, hs]
 constructor
 · rintro ⟨h1, h2, h3⟩; exact ⟨h1, h2, h3⟩
 · rintro ⟨h1, h2, h3⟩; exact ⟨h1, h2, h3⟩
theorem ok_co (c : Co) : ok (coI c) = true ↔ OkO gN 1000 c := by
 have hs := ok_sz
 rw [coI, ok_app, Bool.and_eq_true, ok_lst 20 (by omega)]
 simp only [ok_ch]
 simp only [ok, List.all_cons, List.all_nil, It.ok, Bool.and_eq_true, decide_eq_true_eq, Bool.and_true, hs]
 constructor
 · rintro ⟨⟨h1, h2⟩, h3⟩; exact ⟨h1, h2, h3⟩
 · rintro ⟨h1, h2, h3⟩; exact ⟨⟨h1, h2⟩, h3⟩
theorem ok_cons (x : It) (l : List It) : ok (x :: l) = (x.ok && ok l) := rfl
theorem ok_an (a : An) : ok (anI a) = true ↔ OkA gN 1000 a := by
 rw [anI, pgI, ok_cons, ok_cons, ok_cons, ok_app, ok_app, ok_cons, ok_cons, ok_yn, ok_yn]
 simp only [Bool.and_eq_true, ok_lst 60 (by omega : 60 ≤ 1000), ok_lst 10 (by omega : 10 ≤ 1000), ok_en, ok_co, It.ok, true_and, and_true]
 constructor
 · rintro ⟨h1, h2, ⟨h3, h4⟩, h5⟩; exact ⟨h1, h2, ⟨h3, h4, (by rw [gN]; simpa [ok, It.ok] using h5)⟩⟩
 · rintro ⟨h1, h2, h3, h4, h5⟩; exact ⟨h1, h2, ⟨h3, h4⟩, (by rw [gN] at h5; simpa [ok, It.ok] using h5)⟩
theorem whole_an {l : List UInt8} {a : An} : whole (anP gN 1000 l) = some a ↔ ok (anI a) = true ∧ l = bytes (anI a) := by
 rw [ok_an]
 exact whole_iff (rds_an gN_wide gN_small 1000)
theorem OkE.weak {e : En} (h : OkE gN 1000 e) : OkE gR MR e := by
 have hx : ∀ x : ByteArray, (gN x.size = true ∧ (x.size : Int) ≤ 1000) → gR x.size = true ∧ (x.size : Int) ≤ MR := fun x hx => ⟨gNR _ hx.1, by unfold MR; omega⟩
 exact ⟨hx _ h.p, hx _ h.t, gNR _ h.v⟩
theorem OkO.weak {c : Co} (h : OkO gN 1000 c) : OkO gR MR c :=
 ⟨gNR _ h.n, ⟨gNR _ h.k.1, by have := h.k.2; unfold MR; omega⟩, h.c.1, fun x hx => (h.c.2 x hx).weak⟩
theorem OkA.weak {a : An} (h : OkA gN 1000 a) : OkA gR MR a :=
 ⟨gNR _ h.e, gNR _ h.n, ⟨h.p.t.1, fun x hx => (h.p.t.2 x hx).weak⟩, ⟨h.p.o.1, fun x hx => (h.p.o.2 x hx).weak⟩, gNR _ h.p.u⟩
theorem rds_anR : Rds (anP gR MR) anI (OkA gR MR) := rds_an gR_wide gR_small MR
theorem toldR_some {l : List UInt8} {a : An} (h : anP gR MR l = some (a, [])) (he : (fin (run e0 (anI a))).2 = 0) : whole (anP gN 1000 l) = some a := by
 rw [whole_an]
 refine ⟨?_, by simpa using ((rds_anR l a []).1 h).2⟩
 cases hk : ok (anI a) with
 | true => rfl
 | false => exact absurd he (fin_bad hk).1
theorem toldR_iff {l : List UInt8} {a : An} (h : whole (anP gN 1000 l) = some a) : anP gR MR l = some (a, []) ∧ (fin (run e0 (anI a))).2 = 0 := by
 obtain ⟨h1, h2⟩ := whole_an.1 h
 exact ⟨(rds_anR l a []).2 ⟨((ok_an a).1 h1).weak, by simpa using h2⟩, by rw [fin_ok h1]⟩
end Wr
end Go.Proofs.YthgjdgpjkcmcdaaDoor
namespace Go.Proofs.YthgjdgpjkcmcdaaDoor
open Go.RowKit

theorem Tryd.infoW4 : (Tryd.prog.info? 76).map (fun i => (i.zero, i.size, i.bytes)) = some (some (.agg #[.string ⟨#[]⟩, .bool false, .string ⟨#[]⟩, .int .i64 0]), 4, 48) := by kernel_rfl
def VEn (x : En) (r : List Value) (_ : World) : Prop := r = [.string x.path, .bool x.folder, .string x.text, .int .i64 x.ver]
theorem rle_enters : ∀ args w, (callFunc 70 args).run Tryd.prog w = .ok (.enter 70 args) w := enters_of Tryd.func70 (by kernel_rfl) rfl
/-- A list that is being read. -/
structure Rrle (w : World) (b g : Nat) (x : Value) (xs : List (En)) (r : List UInt8) (W : World) : Prop where
 row : RowV w.heap.size 76 4 VEn xs x W
 rd : Rd b r W
 box : RBox W b g
 v : VarsW W
 fr : w.grownBy W (some b)
 rl : r.length ≤ MaxL
theorem rle_new (W : World) (x : En) : ∀ j u, ([.string x.path, .bool x.folder, .string x.text, .int .i64 x.ver] : List Value)[j]? = some u → (W.alloc (.cells #[.string x.path, .bool x.folder, .string x.text, .int .i64 x.ver] 76)).cell? ((⟨W.heap.size, 0, none⟩ : Addr).add j) = some u := by
 intro j u hu
 have h := Cs.new W ([.string x.path, .bool x.folder, .string x.text, .int .i64 x.ver]) 76
 have h2 := h.cell j hu
 rw [Addr.add_lit, Nat.zero_add]
 exact h2
set_option maxHeartbeats 2000000 in
theorem rle_any (b g : Nat) (l : List UInt8) (w : World) (h : Rd b l w) (hg : RBox w b g) (hs : l.length ≤ MaxL) (h6 : 5 < b) (hv : VarsW w) :
    Calls Tryd.prog 69 #[.pointer (some ⟨b, 0, none⟩), .int .i64 60, .func (.func 70) #[] #[.pointer (some ⟨g, 0, none⟩)]] w fun e w' => RdPost b (Wr.lstP Wr.gN 60 (Wr.enP Wr.gN 1000) l) (RowV w.heap.size 76 4 VEn) e w' ∧ w.grownBy w' (some b) := by
 have eg := rle_enters
 cases hc : Wr.cntP Wr.gN 60 l with
 | none =>
  have HK := hid (rcnt_no h hs h6 hv hc)
  have HN := hid (Wr.lst_none (p := Wr.enP Wr.gN 1000) hc)
  clear h hv hc hg
  go_enter Tryd.func69, Tryd.ntmps69
  go_wp2_with fail
  refine HK.out.mono ?_
  rintro e w1 ⟨rfl, hb1⟩
  exact bodyPost_panic rfl ⟨RdPost.no HN.out rfl, hb1⟩
 | some z =>
 obtain ⟨n, r1⟩ := z
 obtain ⟨_, n0, n1⟩ := Wr.cnt_some hc
 obtain ⟨N, rfl⟩ : ∃ k : Nat, n = k := ⟨n.toNat, by omega⟩
 have HK := hid (rcnt_ok h hs h6 hv hc)
 have HN := hid (Wr.lst_some (p := Wr.enP Wr.gN 1000) hc)
 rw [show ((N : Int).toNat) = N from rfl] at HN
 have hl1 := Wr.cnt_len hc
 obtain ⟨i0, hi0, hz0, hz1, hz2⟩ := info_parts Tryd.infoW4
 have hbl := h.lt
 have hgb := heap_lt hg.1
 have HS := hid (Wr.shr_en _ _ : Wr.Shr (Wr.enP Wr.gN 1000))
 have HG := hid hg
 have HV0 := hid hv
 clear h hv hc hg
 go_enter Tryd.func69, Tryd.ntmps69
 go_wp2_with fail
 refine HK.out.mono ?_
 rintro e w1 ⟨rfl, hr1, hb1⟩
 have HR := hid (show Rrle w b g (.slice none 0 0) [] r1 w1 from ⟨rowV_nil _ _ _ _ _, hr1, HG.out.nb hb1, HV0.out.nb h6 (by omega) hb1, hb1, by omega⟩)
 clear HK hr1 hb1 HG HV0
 go_wp2_with fail
 go_loopw [7, 11] (fun x i wr => ∃ (k : Nat) (xs : List (En)) (r : List UInt8), k ≤ N ∧ i = .int .i64 k ∧ Hid (Rrle w b g x xs r wr) ∧ Hid (Wr.lstP Wr.gN 60 (Wr.enP Wr.gN 1000) l = Wr.repA (Wr.enP Wr.gN 1000) (N - k) xs r) ∧ xs.length = k) (fun _ i _ => N - (intOf i).toNat)
 case atStart => exact ⟨0, [], r1, Nat.zero_le _, rfl, HR, HN, rfl⟩
 case round =>
  obtain ⟨k, xs, r, hk, rfl, HL, HE, hxk⟩ := hrel
  by_cases hlt : k < N
  · have HO := hid (ren1_any b g r wr HL.out.rd HL.out.box HL.out.rl h6 HL.out.v)
    obtain ⟨m, hm⟩ : ∃ m, N - k = m + 1 := ⟨N - k - 1, by omega⟩
    cases hp : (Wr.enP Wr.gN 1000) r with
    | none =>
     have HF := hid (Wr.repA_no (n := m) (xs := xs) hp)
     rw [hm] at HE
     rw [hp] at HO
     clear hp HN HR hm
     go_wp2_with fail
     refine HO.out.mono ?_
     rintro e w2 ⟨he, hb2⟩
     cases he
     exact (show bodyPost Tryd.prog Tryd.f69 (fun e w' => RdPost b (Wr.lstP Wr.gN 60 (Wr.enP Wr.gN 1000) l) (RowV w.heap.size 76 4 VEn) e w' ∧ w.grownBy w' (some b)) (.panic _) _ w2 from bodyPost_panic rfl ⟨RdPost.no (HE.out.trans HF.out) rfl, nb_tr HL.out.fr hb2⟩)
    | some z =>
     obtain ⟨x, r'⟩ := z
     have HF := hid (Wr.repA_yes (n := m) (xs := xs) hp)
     rw [hm] at HE
     have hl2 := HS.out _ _ _ hp
     rw [hp] at HO
     have hrl := HL.out.rl
     clear hp HN HR
     obtain ⟨Z, hZ1, hZ2, hZ3⟩ := HL.out.row
     have hZl : Z.length = k := by rw [← hxk, ← hZ1, List.length_map]
     go_wp2_with fail
     refine HO.out.mono ?_
     rintro e w2 ⟨⟨v2, rfl, rfl, hr2⟩, hb2⟩
     have hfr2 := nb_tr HL.out.fr hb2
     have hO2 := ownsRow_nbX hZ2 hb2 hbl
     have hsz2 := hfr2.size
     have HB2 := hid (HL.out.box.nb hb2)
     have HV2 := hid (HL.out.v.nb h6 (by have := HL.out.rd.lt; omega) hb2)
     have HR2 := hid hr2
     have hgl := HL.out.box
     have hsr := HL.out.fr.size
     clear hr2 HO
     go_wp2_with (at_builtin; refine wpList_append_own _ rfl _ _ 35 rfl w.heap.size 76 i0 (.agg #[.string ⟨#[]⟩, .bool false, .string ⟨#[]⟩, .int .i64 0]) 4 48 Tryd.underlying35 hi0 hz0 hz1 hz2 rfl (by decide) _ _ _ rfl (hO2.alloc _) ⟨w2.heap.size, 0, none⟩ 1 1 ([.string x.path, .bool x.folder, .string x.text, .int .i64 x.ver]) rfl rfl (rle_new w2 x) (by simp [Value.oneCell']) (by unfold maxLen; omega) (by omega) (by simp; omega) ?_)
     intro v5 w5 ho5 hgr5 hnn5
     have hB5 : Below w.heap.size w2 w5 := ((Below.refl _ w2).alloc hsz2 _).grown hgr5 (by simp; omega) (fun q hq => (hO2.lt q hq).1)
     have HL5 := hid (show Rrle w b g v5 (xs ++ [x]) r' w5 from ⟨by rw [← hZ1]; exact RowV.snoc (r := [.string x.path, .bool x.folder, .string x.text, .int .i64 x.ver]) (by rw [hZl]; exact ho5) (fun z hz => ⟨(hZ3 z hz).1, (hZ3 z hz).2⟩) ⟨rfl, rfl, by simp [Value.oneCell']⟩, HR2.out.belowB hB5 hbl, HB2.out.belowB hB5 hgb, HV2.out.belowB (by omega) hB5, nb_then hfr2 hB5, by omega⟩)
     clear ho5 hgr5 hnn5 hO2 hZ1 hZ2 hZ3 hB5
     go_wp2_with fail
     go_roundw
     case rel => exact ⟨k + 1, xs ++ [x], r', by omega, by simp, HL5, hid (by rw [HE.out, HF.out, show N - (k + 1) = m from by omega]), by simp [hxk]⟩
     case measure => simp [intOf]; omega
  · obtain rfl : k = N := by omega
    rw [Nat.sub_self, Wr.repA_zero] at HE
    clear HN HR
    go_wp2_with fail
    go_ret
    exact ⟨RdPost.yes _ HE.out rfl HL.out.row HL.out.rd, HL.out.fr⟩
abbrev zco : List Value := [.int .i64 0, .string ⟨#[]⟩, .slice none 0 0]
/-- A commit that was read: its changes lie in a row of their own. -/
def VCo (B : Nat) (x : Co) (r : List Value) (W : World) : Prop := ∃ vc, r = [.int .i64 x.nu, .string x.ke, vc] ∧ RowV B 95 5 VCh x.ch vc W
theorem VCo.nb {B g : Nat} {x : Co} {r : List Value} {W W' : World} (h : VCo B x r W) (hw : W.grownBy W' (some g)) (hg : g < B) : VCo B x r W' := by
 obtain ⟨vc, h1, h2⟩ := h
 exact ⟨vc, h1, h2.nb hw hg (fun _ _ h => h)⟩
theorem rowV_below {B : Nat} {T : TypeId} {n : Nat} {α : Type} {V : α → List Value → World → Prop} {xs : List α} {v : Value} {W W' : World} (h : RowV B T n V xs v W) (hw : Below W.heap.size W W') (hV : ∀ x r, V x r W → V x r W') : RowV B T n V xs v W' := by
 obtain ⟨Z, h1, h2, h3⟩ := h
 refine ⟨Z, h1, h2.kept (row := none) ⟨hw.os, hw.tape, hw.output, hw.size, fun k hk _ => hw.block k hk⟩ (by cases hv : v.ownBlock with
  | none => exact Or.inl rfl
  | some q => exact Or.inr (by simp)), fun z hz => ⟨hV _ _ (h3 z hz).1, (h3 z hz).2⟩⟩
theorem VCo.below {B : Nat} {x : Co} {r : List Value} {W W' : World} (h : VCo B x r W) (hw : Below W.heap.size W W') : VCo B x r W' := by
 obtain ⟨vc, h1, h2⟩ := h
 exact ⟨vc, h1, rowV_below h2 hw (fun _ _ h => h)⟩
theorem VCo.low {B B' : Nat} {x : Co} {r : List Value} {W : World} (h : VCo B x r W) (hB : B' ≤ B) : VCo B' x r W := by
 obtain ⟨vc, h1, h2⟩ := h
 exact ⟨vc, h1, h2.low hB⟩
/-- Two rows of two types never share a block. -/
theorem ownsRow_apart {w w' : World} {B B' : Nat} {T T' : TypeId} {n n' : Nat} {v v' : Value} {k k' : Nat} {xs xs' : List Value} (h : w.ownsRow B T n v k xs) (h' : w.ownsRow B' T' n' v' k' xs') (hT : T ≠ T') (hg : w.grownBy w' v'.ownBlock) : w'.ownsRow B T n v k xs := by
 refine h.kept (row := v'.ownBlock) hg ?_
 obtain ⟨_, h1⟩ := h
 obtain ⟨_, h2⟩ := h'
 rcases h1 with ⟨rfl, _⟩ | ⟨g, cap, cur, rfl, _, hh, _⟩
 · exact Or.inl rfl
 · refine Or.inr (fun e => ?_)
   rcases h2 with ⟨rfl, _⟩ | ⟨g', cap', cur', rfl, _, hh', _⟩
   · simp [Value.ownBlock] at e
   · simp only [Value.ownBlock, Option.some.injEq] at e
     subst e
     rw [hh] at hh'
     simp only [Option.some.injEq, Obj.cells.injEq] at hh'
     exact hT hh'.2.1
theorem VCo.apart {B B' : Nat} {x : Co} {r : List Value} {W W' : World} {T : TypeId} {n k : Nat} {v : Value} {xs : List Value} (h : VCo B x r W) (h' : W.ownsRow B' T n v k xs) (hT : 95 ≠ T) (hg : W.grownBy W' v.ownBlock) : VCo B x r W' := by
 obtain ⟨vc, h1, Z, h2, h3, h4⟩ := h
 exact ⟨vc, h1, Z, h2, ownsRow_apart h3 h' hT hg, h4⟩
/-- A row of commits that was read. -/
def RowO (B : Nat) (cs : List Co) (v : Value) (W : World) : Prop := RowV B 78 3 (VCo B) cs v W
theorem RowO.nb {B g : Nat} {cs : List Co} {v : Value} {W W' : World} (h : RowO B cs v W) (hw : W.grownBy W' (some g)) (hg : g < B) : RowO B cs v W' := RowV.nb h hw hg (fun _ _ h => h.nb hw hg)
theorem RowO.below {B : Nat} {cs : List Co} {v : Value} {W W' : World} (h : RowO B cs v W) (hw : Below W.heap.size W W') : RowO B cs v W' := rowV_below h hw (fun _ _ h => h.below hw)
theorem RowO.low {B B' : Nat} {cs : List Co} {v : Value} {W : World} (h : RowO B cs v W) (hB : B' ≤ B) : RowO B' cs v W := by
 obtain ⟨Z, h1, h2, h3⟩ := RowV.low h hB
 exact ⟨Z, h1, h2, fun z hz => ⟨(h3 z hz).1.low hB, (h3 z hz).2⟩⟩
theorem RowO.setC {B g : Nat} {cs : List Co} {v : Value} {W : World} (h : RowO B cs v W) (hg : g < B) (i : Nat) (u : Value) : RowO B cs v (W.setCell ⟨g, i, none⟩ u) := h.nb (nb_set W g i u) hg
theorem RowO.shape {B : Nat} {cs : List Co} {v : Value} {W : World} (h : RowO B cs v W) : ∃ a l c, v = .slice a l c := RowV.shape h
theorem RowV.setE {B : Nat} {T : TypeId} {n : Nat} {xs : List En} {v : Value} {W : World} (h : RowV B T n VEn xs v W) {g : Nat} (hg : g < B) (i : Nat) (u : Value) : RowV B T n VEn xs v (W.setCell ⟨g, i, none⟩ u) := h.nb (nb_set W g i u) hg (fun _ _ h => h)
set_option maxHeartbeats 4000000 in
set_option maxRecDepth 8000 in
theorem rco1_any (b g : Nat) (l : List UInt8) (w : World) (h : Rd b l w) (hg : RBox w b g) (hs : l.length ≤ MaxL) (h6 : 5 < b) (hv : VarsW w) :
    Calls Tryd.prog 72 #[.pointer (some ⟨g, 0, none⟩)] w fun e w' => RdPost b (Wr.coP Wr.gN 1000 l) (fun x v W => ∃ vc, v = .agg #[.int .i64 x.nu, .string x.ke, vc] ∧ RowV w.heap.size 95 5 VCh x.ch vc W) e w' ∧ w.grownBy w' (some b) := by
 have HE0 := hid (show Wr.coP Wr.gN 1000 l = Wr.coP Wr.gN 1000 l from rfl)
 conv at HE0 => arg 1; rhs; unfold Wr.coP
 generalize hP : Wr.coP Wr.gN 1000 l = res at *
 clear hP
 have hbl := h.lt
 have hgl := heap_lt hg.1
 have H0 := hid (r5_new zco zco 78 78 h hg h6 hv)
 obtain ⟨w0, hw0⟩ : ∃ w0, w0 = (w.alloc (.cells zco.toArray 78)).alloc (.cells zco.toArray 78) := ⟨_, rfl⟩
 rw [← hw0] at H0
 have HW0 := hid (show (w.alloc (.cells zco.toArray 78)).alloc (.cells zco.toArray 78) = w0 from hw0.symm)
 have hg1 : ¬ g = w.heap.size := by omega
 have hg2 : ¬ g = w.heap.size + 1 := by omega
 have hg3 : ¬ w.heap.size + 1 = g := by omega
 clear hw0 hg
 have PN := hid (show ∀ (a : Act) (W : World), a.defers = [] → w.grownBy W (some b) → res = none → bodyPost Tryd.prog Tryd.f72 (fun e w' => RdPost b res (fun x v W => ∃ vc, v = .agg #[.int .i64 x.nu, .string x.ke, vc] ∧ RowV w.heap.size 95 5 VCh x.ch vc W) e w' ∧ w.grownBy w' (some b)) (.panic [{ v := .iface 25 (.int .i64 1), recovered := false }]) a W from fun a W hd hw hr => bodyPost_panic hd ⟨RdPost.no hr rfl, hw⟩)
 clear hv h
 go_enter Tryd.func72, Tryd.ntmps72
 go_upto_region 2 with fail
 rw [HW0.out]
 clear HW0
 have ga := H0.out.box.cell
 go_wp2_with fail
 refine (rnum_any H0.out.r4.rd (by omega) h6 H0.out.r4.v).mono ?_
 rintro e w1 ⟨hp, hn1⟩
 cases hq : Wr.rdG Wr.gN l with
 | none =>
  rw [hq] at hp
  cases hp
  exact PN.out _ _ rfl (nb_tr H0.out.r4.fr hn1) (HE0.out.trans (Wr.bind_none hq))
 | some z =>
 obtain ⟨nn, r1⟩ := z
 rw [hq] at hp
 obtain ⟨_, rfl, rfl, hr1⟩ := hp
 have HE1 := hid (HE0.out.trans (Wr.bind_some hq))
 have s1 := Wr.shr_rd _ _ _ _ hq
 have H1 := hid (H0.out.call hn1 hr1)
 clear ga
 clear hq HE0
 have c0 := H1.out.r4.cC.cell 0 rfl
 have f0 := H1.out.r4.cC.fr 0
 have gw := H1.out.box.cell
 obtain ⟨u1, hu1⟩ : ∃ W, W = w1.setCell ⟨w.heap.size + 1, 0, none⟩ (.int .i64 nn) := ⟨_, rfl⟩
 have HU1 := hid (H1.out.set 0 (.int .i64 nn))
 rw [← hu1] at HU1
 go_upto_region 3 with fail
 rw [← hu1]
 have HX1 := hid hu1
 clear hu1 c0 f0 gw
 have ga := HU1.out.box.cell
 go_wp2_with fail
 refine (rtxt_any HU1.out.r4.rd (by omega) h6 HU1.out.r4.v).mono ?_
 rintro e w2 ⟨hp, hn2⟩
 cases hq : Wr.txtP Wr.gN 1000 r1 with
 | none =>
  rw [hq] at hp
  cases hp
  exact PN.out _ _ rfl (nb_tr HU1.out.r4.fr hn2) (HE1.out.trans (Wr.bind_none hq))
 | some z =>
 obtain ⟨k, r2⟩ := z
 rw [hq] at hp
 obtain ⟨_, rfl, rfl, hr2⟩ := hp
 have HE2 := hid (HE1.out.trans (Wr.bind_some hq))
 have s2 := Wr.shr_txt _ _ _ _ _ hq
 have H2 := hid (HU1.out.call hn2 hr2)
 clear ga
 clear hq HE1
 have c1 := H2.out.r4.cC.cell 1 rfl
 have f1 := H2.out.r4.cC.fr 1
 have gw := H2.out.box.cell
 obtain ⟨u2, hu2⟩ : ∃ W, W = w2.setCell ⟨w.heap.size + 1, 1, none⟩ (.string k) := ⟨_, rfl⟩
 have HU2 := hid (H2.out.set 1 (.string k))
 rw [← hu2] at HU2
 go_upto_region 4 with fail
 rw [← hu2]
 have HX2 := hid hu2
 clear hu2 c1 f1 gw
 have ga := HU2.out.box.cell
 go_wp2_with fail
 refine (rchs_any b r2 _ HU2.out.r4.rd (by omega) h6 HU2.out.r4.v).mono ?_
 rintro e w3 ⟨hp, hn3⟩
 cases hq : Wr.lstP Wr.gN 20 (Wr.chP Wr.gN 1000) r2 with
 | none =>
  rw [hq] at hp
  cases hp
  exact PN.out _ _ rfl (nb_tr HU2.out.r4.fr hn3) (HE2.out.trans (Wr.bind_none hq))
 | some z =>
 obtain ⟨cs, r3⟩ := z
 rw [hq] at hp
 obtain ⟨vcs, rfl, hrow, hr3⟩ := hp
 have HE3 := hid (HE2.out.trans (Wr.bind_some hq))
 have s3 := Wr.shr_lst _ _ (Wr.shr_ch _ _) _ _ _ hq
 have H3 := hid (HU2.out.call hn3 hr3)
 obtain ⟨acs, lcs, ccs, rfl⟩ := hrow.shape
 have HBcs := hid (show w.heap.size < u2.heap.size ∧ w.heap.size + 1 < u2.heap.size from ⟨HU2.out.r4.cR.lt, HU2.out.r4.cC.lt⟩)
 have HRcs := hid hrow
 clear hrow
 clear ga
 clear hq HE2
 have c2 := H3.out.r4.cC.cell 2 rfl
 have f2 := H3.out.r4.cC.fr 2
 have y0 := H3.out.r4.cC.cell 0 rfl
 have y1 := H3.out.r4.cC.cell 1 rfl
 have v0 := H3.out.r4.cR.cell 0 rfl
 have x0 := H3.out.r4.cR.fr 0
 have v1 := H3.out.r4.cR.cell 1 rfl
 have x1 := H3.out.r4.cR.fr 1
 have v2 := H3.out.r4.cR.cell 2 rfl
 have x2 := H3.out.r4.cR.fr 2
 have n3 : ¬ w.heap.size = w.heap.size + 1 := by omega
 have n4 : ¬ w.heap.size + 1 = w.heap.size := by omega
 go_wp2_with fail
 have nR : b ≠ w.heap.size := by omega
 have nC : b ≠ w.heap.size + 1 := by omega
 have l1 : w.heap.size ≤ w.heap.size + 1 := by omega
 have l0 : w.heap.size ≤ w.heap.size := by omega
 refine bodyPost_ret (v := .agg #[.int .i64 nn, .string k, .slice acs lcs ccs]) (by simp [results, Tryd.results72, go_sem, n3, n4, v0, v1, v2]) rfl ⟨RdPost.yes _ HE3.out rfl ?_ ?_, ?_⟩
 · refine ⟨_, rfl, ?_⟩
   exact (HRcs.out.setC HBcs.out.2 _ _ |>.setC HBcs.out.1 _ _ |>.setC HBcs.out.1 _ _ |>.setC HBcs.out.1 _ _).low (by have := HU2.out.r4.fr.size; omega)
 · exact (H3.out.r4.rd.set' nC _ |>.set' nR _ |>.set' nR _ |>.set' nR _)
 · exact (nb_new (nb_new (nb_new (nb_new H3.out.r4.fr l1 _) l0 _) l0 _) l0 _)
theorem Tryd.infoW3 : (Tryd.prog.info? 78).map (fun i => (i.zero, i.size, i.bytes)) = some (some (.agg #[.int .i64 0, .string ⟨#[]⟩, .slice none 0 0]), 3, 48) := by kernel_rfl
theorem rlo_enters : ∀ args w, (callFunc 72 args).run Tryd.prog w = .ok (.enter 72 args) w := enters_of Tryd.func72 (by kernel_rfl) rfl
/-- A list that is being read. -/
structure Rrlo (w : World) (b g : Nat) (x : Value) (xs : List (Co)) (r : List UInt8) (W : World) : Prop where
 row : RowV w.heap.size 78 3 (VCo w.heap.size) xs x W
 rd : Rd b r W
 box : RBox W b g
 v : VarsW W
 fr : w.grownBy W (some b)
 rl : r.length ≤ MaxL
theorem rlo_new (W : World) (n : Int) (k : ByteArray) (v : Value) : ∀ j u, ([.int .i64 n, .string k, v] : List Value)[j]? = some u → (W.alloc (.cells #[.int .i64 n, .string k, v] 78)).cell? ((⟨W.heap.size, 0, none⟩ : Addr).add j) = some u := by
 intro j u hu
 have h := Cs.new W ([.int .i64 n, .string k, v]) 78
 have h2 := h.cell j hu
 rw [Addr.add_lit, Nat.zero_add]
 exact h2
set_option maxHeartbeats 2000000 in
theorem rlo_any (b g : Nat) (l : List UInt8) (w : World) (h : Rd b l w) (hg : RBox w b g) (hs : l.length ≤ MaxL) (h6 : 5 < b) (hv : VarsW w) :
    Calls Tryd.prog 71 #[.pointer (some ⟨b, 0, none⟩), .int .i64 10, .func (.func 72) #[] #[.pointer (some ⟨g, 0, none⟩)]] w fun e w' => RdPost b (Wr.lstP Wr.gN 10 (Wr.coP Wr.gN 1000) l) (RowV w.heap.size 78 3 (VCo w.heap.size)) e w' ∧ w.grownBy w' (some b) := by
 have eg := rlo_enters
 cases hc : Wr.cntP Wr.gN 10 l with
 | none =>
  have HK := hid (rcnt_no h hs h6 hv hc)
  have HN := hid (Wr.lst_none (p := Wr.coP Wr.gN 1000) hc)
  clear h hv hc hg
  go_enter Tryd.func71, Tryd.ntmps71
  go_wp2_with fail
  refine HK.out.mono ?_
  rintro e w1 ⟨rfl, hb1⟩
  exact bodyPost_panic rfl ⟨RdPost.no HN.out rfl, hb1⟩
 | some z =>
 obtain ⟨n, r1⟩ := z
 obtain ⟨_, n0, n1⟩ := Wr.cnt_some hc
 obtain ⟨N, rfl⟩ : ∃ k : Nat, n = k := ⟨n.toNat, by omega⟩
 have HK := hid (rcnt_ok h hs h6 hv hc)
 have HN := hid (Wr.lst_some (p := Wr.coP Wr.gN 1000) hc)
 rw [show ((N : Int).toNat) = N from rfl] at HN
 have hl1 := Wr.cnt_len hc
 obtain ⟨i0, hi0, hz0, hz1, hz2⟩ := info_parts Tryd.infoW3
 have hbl := h.lt
 have hgb := heap_lt hg.1
 have HS := hid (Wr.shr_co _ _ : Wr.Shr (Wr.coP Wr.gN 1000))
 have HG := hid hg
 have HV0 := hid hv
 clear h hv hc hg
 go_enter Tryd.func71, Tryd.ntmps71
 go_wp2_with fail
 refine HK.out.mono ?_
 rintro e w1 ⟨rfl, hr1, hb1⟩
 have HR := hid (show Rrlo w b g (.slice none 0 0) [] r1 w1 from ⟨rowV_nil _ _ _ _ _, hr1, HG.out.nb hb1, HV0.out.nb h6 (by omega) hb1, hb1, by omega⟩)
 clear HK hr1 hb1 HG HV0
 go_wp2_with fail
 go_loopw [7, 11] (fun x i wr => ∃ (k : Nat) (xs : List (Co)) (r : List UInt8), k ≤ N ∧ i = .int .i64 k ∧ Hid (Rrlo w b g x xs r wr) ∧ Hid (Wr.lstP Wr.gN 10 (Wr.coP Wr.gN 1000) l = Wr.repA (Wr.coP Wr.gN 1000) (N - k) xs r) ∧ xs.length = k) (fun _ i _ => N - (intOf i).toNat)
 case atStart => exact ⟨0, [], r1, Nat.zero_le _, rfl, HR, HN, rfl⟩
 case round =>
  obtain ⟨k, xs, r, hk, rfl, HL, HE, hxk⟩ := hrel
  by_cases hlt : k < N
  · have HO := hid (rco1_any b g r wr HL.out.rd HL.out.box HL.out.rl h6 HL.out.v)
    obtain ⟨m, hm⟩ : ∃ m, N - k = m + 1 := ⟨N - k - 1, by omega⟩
    cases hp : (Wr.coP Wr.gN 1000) r with
    | none =>
     have HF := hid (Wr.repA_no (n := m) (xs := xs) hp)
     rw [hm] at HE
     rw [hp] at HO
     clear hp HN HR hm
     go_wp2_with fail
     refine HO.out.mono ?_
     rintro e w2 ⟨he, hb2⟩
     cases he
     exact (show bodyPost Tryd.prog Tryd.f71 (fun e w' => RdPost b (Wr.lstP Wr.gN 10 (Wr.coP Wr.gN 1000) l) (RowV w.heap.size 78 3 (VCo w.heap.size)) e w' ∧ w.grownBy w' (some b)) (.panic _) _ w2 from bodyPost_panic rfl ⟨RdPost.no (HE.out.trans HF.out) rfl, nb_tr HL.out.fr hb2⟩)
    | some z =>
     obtain ⟨x, r'⟩ := z
     have HF := hid (Wr.repA_yes (n := m) (xs := xs) hp)
     rw [hm] at HE
     have hl2 := HS.out _ _ _ hp
     rw [hp] at HO
     have hrl := HL.out.rl
     clear hp HN HR
     obtain ⟨Z, hZ1, hZ2, hZ3⟩ := HL.out.row
     have hZl : Z.length = k := by rw [← hxk, ← hZ1, List.length_map]
     go_wp2_with fail
     refine HO.out.mono ?_
     rintro e w2 ⟨⟨v2, rfl, ⟨vc, rfl, hvc⟩, hr2⟩, hb2⟩
     obtain ⟨av, lv, cv, rfl⟩ := hvc.shape
     have HVC := hid (show VCo w.heap.size x [.int .i64 x.nu, .string x.ke, .slice av lv cv] w2 from ⟨_, rfl, hvc.low HL.out.fr.size⟩)
     clear hvc
     have hfr2 := nb_tr HL.out.fr hb2
     have hO2 := ownsRow_nbX hZ2 hb2 hbl
     have hsz2 := hfr2.size
     have HB2 := hid (HL.out.box.nb hb2)
     have HV2 := hid (HL.out.v.nb h6 (by have := HL.out.rd.lt; omega) hb2)
     have HR2 := hid hr2
     have hgl := HL.out.box
     have hsr := HL.out.fr.size
     clear hr2 HO
     go_wp2_with (at_builtin; refine wpList_append_own _ rfl _ _ 36 rfl w.heap.size 78 i0 (.agg #[.int .i64 0, .string ⟨#[]⟩, .slice none 0 0]) 3 48 Tryd.underlying36 hi0 hz0 hz1 hz2 rfl (by decide) _ _ _ rfl (hO2.alloc _) ⟨w2.heap.size, 0, none⟩ 1 1 ([.int .i64 x.nu, .string x.ke, .slice av lv cv]) rfl rfl (rlo_new w2 x.nu x.ke _) (by simp [Value.oneCell']) (by unfold maxLen; omega) (by omega) (by simp; omega) ?_)
     intro v5 w5 ho5 hgr5 hnn5
     have hB5 : Below w.heap.size w2 w5 := ((Below.refl _ w2).alloc hsz2 _).grown hgr5 (by simp; omega) (fun q hq => (hO2.lt q hq).1)
     have HL5 := hid (show Rrlo w b g v5 (xs ++ [x]) r' w5 from ⟨by rw [← hZ1]; exact RowV.snoc (r := [.int .i64 x.nu, .string x.ke, .slice av lv cv]) (by rw [hZl]; exact ho5) (fun z hz => ⟨(((hZ3 z hz).1.nb hb2 hbl).below (below_alloc w2 _)).apart (hO2.alloc _) (by decide) hgr5, (hZ3 z hz).2⟩) ⟨(HVC.out.below (below_alloc w2 _)).apart (hO2.alloc _) (by decide) hgr5, rfl, by simp [Value.oneCell']⟩, HR2.out.belowB hB5 hbl, HB2.out.belowB hB5 hgb, HV2.out.belowB (by omega) hB5, nb_then hfr2 hB5, by omega⟩)
     clear ho5 hgr5 hnn5 hO2 hZ1 hZ2 hZ3 hB5
     go_wp2_with fail
     go_roundw
     case rel => exact ⟨k + 1, xs ++ [x], r', by omega, by simp, HL5, hid (by rw [HE.out, HF.out, show N - (k + 1) = m from by omega]), by simp [hxk]⟩
     case measure => simp [intOf]; omega
  · obtain rfl : k = N := by omega
    rw [Nat.sub_self, Wr.repA_zero] at HE
    clear HN HR
    go_wp2_with fail
    go_ret
    exact ⟨RdPost.yes _ HE.out rfl HL.out.row HL.out.rd, HL.out.fr⟩
end Go.Proofs.YthgjdgpjkcmcdaaDoor
