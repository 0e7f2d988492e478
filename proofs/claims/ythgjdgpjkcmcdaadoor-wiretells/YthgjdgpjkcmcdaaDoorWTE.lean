/- The document's Writer: numbers, texts. -/
import Derived.Test.YthgjdgpjkcmcdaaDoorWTD
import Derived.Test.YthgjdgpjkcmcdaaDoorWTB
import Derived.Deep.Cut
set_option linter.unusedSimpArgs false
set_option linter.unusedVariables false
namespace Go.Proofs.YthgjdgpjkcmcdaaDoor
open Go.RowKit

namespace Wr
def numR (s : Ws) (n : Int) : Ws := if near n = true then ⟨s.l ++ (Lib.itoa n ++ [59]), s.mn, s.fr⟩ else ⟨s.l, s.mn, true⟩
def txtR (s : Ws) (x : ByteArray) : Ws := if 1000 < x.size then much s else ⟨(numR s x.size).l ++ x.data.toList, s.mn, s.fr⟩
def putR (s : Ws) : It → Ws
 | .n n => numR s n
 | .t x => txtR s x
 | .big => much s
def runR (s : Ws) (l : List It) : Ws := l.foldl putR s
theorem runR_app (s : Ws) (a b : List It) : runR s (a ++ b) = runR (runR s a) b := by simp [runR]
theorem runR_cons (s : Ws) (x : It) (a : List It) : runR s (x :: a) = runR (putR s x) a := rfl
theorem near_len {x : ByteArray} (h : ¬ 1000 < x.size) : near x.size = true := by rw [near_iff]; omega
/-- The two writers: the same, but what is written once a number was too far. -/
def Alike (s r : Ws) : Prop := s.mn = r.mn ∧ s.fr = r.fr ∧ (s.fr = false → s.l = r.l)
theorem alike_put {s r : Ws} (h : Alike s r) : ∀ x : It, Alike (put s x) (putR r x)
 | .n n => by
  obtain ⟨h1, h2, h3⟩ := h
  cases hn : near n with
  | true => simp only [put, putR, num, numR, hn, if_true, Alike]; exact ⟨h1, by simp [h2], fun hf => by rw [h3 (by simpa using hf)]⟩
  | false => simp only [put, putR, num, numR, hn, Alike]; exact ⟨by simpa using h1, by simp, by simp⟩
 | .t x => by
  obtain ⟨h1, h2, h3⟩ := h
  by_cases hx : 1000 < x.size
  · simp only [put, putR, txt, txtR, if_pos hx, much, Alike]; exact ⟨trivial, h2, h3⟩
  · have hn := near_len hx
    simp only [put, putR, txt, txtR, if_neg hx, num, numR, hn, if_true, Alike]; exact ⟨h1, by simp [h2], fun hf => by rw [h3 (by simpa using hf)]⟩
 | .big => by
  obtain ⟨h1, h2, h3⟩ := h
  simp only [put, putR, much, Alike]; exact ⟨trivial, h2, h3⟩
theorem alike_run : ∀ (l : List It) {s r : Ws}, Alike s r → Alike (run s l) (runR r l)
 | [], _, _, h => h
 | x :: l, _, _, h => alike_run l (alike_put h x)
theorem fin_alike {s r : Ws} (h : Alike s r) : fin s = fin r := by
 obtain ⟨h1, h2, h3⟩ := h
 unfold fin
 rw [h1, h2]
 split
 · rfl
 · split
   · rfl
   · rename_i hf; rw [h3 (by rw [h2]; simpa using hf)]
theorem numR_len {s : Ws} {n : Int} (h : I64 n) : (numR s n).l.length ≤ s.l.length + 21 := by
 unfold numR
 have := itoa_len h
 split
 · simp; omega
 · simp
theorem putR_len {s : Ws} {x : It} (h : x.wf) : (putR s x).l.length ≤ s.l.length + 1021 := by
 cases x with
 | n n => have := numR_len (s := s) (n := n) h; simp only [putR]; omega
 | t x =>
  simp only [putR, txtR]
  split
  · simp [much]
  · rename_i hx
    have := numR_len (s := s) (n := x.size) ⟨by omega, by omega⟩
    have hz : x.data.toList.length = x.size := (Lib.size_eq x).symm
    simp only [List.length_append, hz]; omega
 | big => simp [putR, much]
theorem runR_len : ∀ (l : List It) (s : Ws), (∀ x ∈ l, x.wf) → (runR s l).l.length ≤ s.l.length + 1021 * l.length
 | [], s, _ => by simp [runR]
 | x :: l, s, h => by
  have h1 := runR_len l (putR s x) (fun y hy => h y (List.mem_cons_of_mem _ hy))
  have h2 := putR_len (s := s) (h x (by simp))
  rw [runR_cons, List.length_cons]; omega
end Wr
/-- The document's writer in a block of its own. -/
def RW (b : Nat) (s : Ws) (w : World) : Prop := w.heap[b]? = some (.cells #[.string ⟨s.l.toArray⟩, .bool s.mn, .bool s.fr] 61 (0, 0))
theorem RW.cs {b : Nat} {s : Ws} {w : World} (h : RW b s w) : Cs w b [.string ⟨s.l.toArray⟩, .bool s.mn, .bool s.fr] := ⟨_, h⟩
theorem RW.lt {b : Nat} {s : Ws} {w : World} (h : RW b s w) : b < w.heap.size := heap_lt h
theorem RW.below {b : Nat} {s : Ws} {w w' : World} (h : RW b s w) (hb : Below w.heap.size w w') : RW b s w' := (hb.block b h.lt).trans h
theorem RW.set {b : Nat} {s : Ws} {w : World} (h : RW b s w) (i : Nat) (u : Value) (cs : List Value) (hc : [.string ⟨s.l.toArray⟩, .bool s.mn, .bool s.fr].set i u = cs) : (w.setCell ⟨b, i, none⟩ u).heap[b]? = some (.cells cs.toArray 61 (0, 0)) := by
 unfold World.setCell
 unfold RW at h
 simp only [Array.getElem?_modify, h, if_true, Option.map_some]
 rw [← hc]; simp
theorem RW.put {b : Nat} {s : Ws} {w : World} (h : RW b s w) (l : List UInt8) : RW b ⟨l, s.mn, s.fr⟩ (w.setCell ⟨b, 0, none⟩ (.string ⟨l.toArray⟩)) := h.set 0 _ _ rfl
theorem RW.great {b : Nat} {s : Ws} {w : World} (h : RW b s w) : RW b (Wr.much s) (w.setCell ⟨b, 1, none⟩ (.bool true)) := h.set 1 _ _ rfl
theorem RW.far {b : Nat} {s : Ws} {w : World} (h : RW b s w) : RW b ⟨s.l, s.mn, true⟩ (w.setCell ⟨b, 2, none⟩ (.bool true)) := h.set 2 _ _ rfl
set_option maxHeartbeats 1000000 in
theorem rwnum_any (b : Nat) (s : Ws) (n : Int) (w : World) (h : RW b s w) (hn : I64 n) (hlen : s.l.length ≤ 1000000000) :
    Calls Tryd.prog 25 #[.pointer (some ⟨b, 0, none⟩), .int .i64 n] w fun e w' => e = .returned (.tuple #[]) ∧ RW b (Wr.numR s n) w' ∧ w.grownBy w' (some b) := by
 have c0 := h.cs.cell 0 rfl
 have f0 := h.cs.fr 0
 have c2 := h.cs.cell 2 rfl
 have f2 := h.cs.fr 2
 have HB := hid h
 have hbl := h.lt
 cases hq : Wr.near n with
 | false =>
  have HN := hid (show Wr.numR s n = ⟨s.l, s.mn, true⟩ from by rw [Wr.numR, hq]; rfl)
  by_cases h1 : n < -1099511627776
  · go_enter Tryd.func25, Tryd.ntmps25
    go_wp2_with fail
    refine bodyPost_ret (results_none rfl _ _ _) rfl ⟨rfl, ?_, nb_set _ b 2 _⟩
    rw [HN.out]; exact HB.out.far
  · have h2 : 1099511627776 < n := by
     rcases Int.lt_or_le 1099511627776 n with h2 | h2
     · exact h2
     · rw [Wr.near_iff.2 ⟨by omega, h2⟩] at hq; cases hq
    go_enter Tryd.func25, Tryd.ntmps25
    go_wp2_with fail
    refine bodyPost_ret (results_none rfl _ _ _) rfl ⟨rfl, ?_, nb_set _ b 2 _⟩
    rw [HN.out]; exact HB.out.far
 | true =>
  have HN := hid (show Wr.numR s n = ⟨s.l ++ (Lib.itoa n ++ [59]), s.mn, s.fr⟩ from by rw [Wr.numR, hq]; rfl)
  obtain ⟨h1, h2⟩ := Wr.near_iff.1 hq
  have n1 : ¬ n < -1099511627776 := by omega
  have n2 : ¬ 1099511627776 < n := by omega
  have HD := hid (fun W => decX n W (by omega))
  have hil := Wr.itoa_len hn
  have z1 : (⟨(Lib.itoa n).toArray⟩ : ByteArray).size = (Lib.itoa n).length := by rw [Lib.size_eq]
  have z2 : (⟨s.l.toArray⟩ : ByteArray).size = s.l.length := by rw [Lib.size_eq]
  have hA : Op.stringOp BinOp.add ⟨(Lib.itoa n).toArray⟩ ⟨#[59]⟩ = pure (.string (⟨(Lib.itoa n).toArray⟩ ++ ⟨#[59]⟩)) := by
   unfold Op.stringOp
   exact if_neg (by rw [z1]; show ¬ (((Lib.itoa n).length + 1 : Nat) : Int) > 9223372036854775807; omega)
  have HQ := hid (show (⟨(Lib.itoa n).toArray⟩ : ByteArray) ++ ⟨#[59]⟩ = (⟨(Lib.itoa n ++ [59]).toArray⟩ : ByteArray) from Pp.bytes_eq (by rw [Joins.data_append]))
  rw [HQ.out] at hA
  have z3 : (⟨(Lib.itoa n ++ [59]).toArray⟩ : ByteArray).size = (Lib.itoa n).length + 1 := by rw [Lib.size_eq]; simp
  have hA2 : Op.stringOp BinOp.add ⟨s.l.toArray⟩ ⟨(Lib.itoa n ++ [59]).toArray⟩ = pure (.string (⟨s.l.toArray⟩ ++ ⟨(Lib.itoa n ++ [59]).toArray⟩)) := by
   unfold Op.stringOp
   exact if_neg (by rw [z2, z3]; show ¬ ((s.l.length + ((Lib.itoa n).length + 1) : Nat) : Int) > 9223372036854775807; omega)
  have HQ2 := hid (show (⟨s.l.toArray⟩ : ByteArray) ++ ⟨(Lib.itoa n ++ [59]).toArray⟩ = (⟨(s.l ++ (Lib.itoa n ++ [59])).toArray⟩ : ByteArray) from Pp.bytes_eq (by rw [Joins.data_append]))
  rw [HQ2.out] at hA2
  generalize s.l ++ (Lib.itoa n ++ [59]) = l2 at *
  generalize (Lib.itoa n ++ [59]) = l1 at *
  generalize hi : Lib.itoa n = l0 at *
  clear hq h z1 z2 z3 hil hi
  have HW0 := hid (show ∀ W : World, Below w.heap.size w W → W.cell? ⟨b, 0, none⟩ = some (.string ⟨s.l.toArray⟩) ∧ W.frozen? ⟨b, 0, none⟩ = false from fun W hW => ⟨(HB.out.cs.belowAt hW hbl).cell 0 rfl, (HB.out.cs.belowAt hW hbl).fr 0⟩)
  have hdr : ∀ W : World, Below W.heap.size W W.drew := fun W => (Below.refl _ _).drew
  have d0 : w.drew.cell? ⟨b, 0, none⟩ = some (.string ⟨s.l.toArray⟩) := c0
  have d1 : w.drew.frozen? ⟨b, 0, none⟩ = false := f0
  go_enter Tryd.func25, Tryd.ntmps25
  go_wp2_with fail
  go_region_with (go_at_call 54; refine (HD.out _).mono ?_; rintro e w1 ⟨rfl, hb1'⟩; have hb1 := (hdr w).trans hb1'; obtain ⟨k0, k1⟩ := HW0.out w1 hb1)
  all_goals (go_wp2_with fail; go_end0; exact ⟨rfl, by rw [HN.out]; exact (HB.out.below hb1).put _, nb_tr (nb_below b hb1) (nb_set _ b 0 _)⟩)
set_option maxHeartbeats 1000000 in
theorem rwtxt_any (b : Nat) (s : Ws) (x : ByteArray) (w : World) (h : RW b s w) (hlen : s.l.length ≤ 1000000000) (hx : (x.size : Int) ≤ 9223372036854775807) :
    Calls Tryd.prog 26 #[.pointer (some ⟨b, 0, none⟩), .string x] w fun e w' => e = .returned (.tuple #[]) ∧ RW b (Wr.txtR s x) w' ∧ w.grownBy w' (some b) := by
 have c1 := h.cs.cell 1 rfl
 have f1 := h.cs.fr 1
 by_cases hx0 : 1000 < x.size
 · have HN := hid (show Wr.txtR s x = Wr.much s from by rw [Wr.txtR, if_pos hx0])
   have HB := hid h
   have h1 : (1000 : Int) < x.size := by omega
   go_enter Tryd.func26, Tryd.ntmps26
   go_wp2_with fail
   refine bodyPost_ret (results_none rfl _ _ _) rfl ⟨rfl, ?_, nb_set _ b 1 _⟩
   rw [HN.out]; exact HB.out.great
 · have hnr := Wr.near_len hx0
   have HN := hid (show Wr.txtR s x = ⟨(Wr.numR s x.size).l ++ x.data.toList, (Wr.numR s x.size).mn, (Wr.numR s x.size).fr⟩ from by rw [Wr.txtR, if_neg hx0, Wr.numR, hnr]; rfl)
   have HK := hid (rwnum_any b s x.size w h ⟨by omega, by omega⟩ hlen)
   have hl := Wr.numR_len (s := s) (n := x.size) ⟨by omega, by omega⟩
   have h1 : ¬ (1000 : Int) < x.size := by omega
   generalize Wr.numR s x.size = s1 at *
   have z1 : (⟨s1.l.toArray⟩ : ByteArray).size = s1.l.length := by rw [Lib.size_eq]
   have z2 : s1.l.length + x.size ≤ 1000001021 := by omega
   have HQ := hid (show (⟨s1.l.toArray⟩ : ByteArray) ++ x = (⟨(s1.l ++ x.data.toList).toArray⟩ : ByteArray) from Pp.bytes_eq (by rw [Joins.data_append]))
   have hA : Op.stringOp BinOp.add ⟨s1.l.toArray⟩ x = pure (.string (⟨s1.l.toArray⟩ ++ x)) := by
    unfold Op.stringOp
    exact if_neg (by rw [z1]; show ¬ ((s1.l.length + x.size : Nat) : Int) > 9223372036854775807; omega)
   rw [HQ.out] at hA
   clear h hnr z1
   go_enter Tryd.func26, Tryd.ntmps26
   go_wp2_with fail
   refine HK.out.mono ?_
   rintro e w1 ⟨rfl, hw1, hb1⟩
   have d0 := hw1.cs.cell 0 rfl
   have d1 := hw1.cs.fr 0
   have HW1 := hid hw1
   clear hw1
   go_wp2_with fail
   go_end0
   exact ⟨rfl, by rw [HN.out]; exact HW1.out.put _, nb_tr hb1 (nb_set _ b 0 _)⟩
end Go.Proofs.YthgjdgpjkcmcdaaDoor
namespace Go.Proofs.YthgjdgpjkcmcdaaDoor
open Go.RowKit

namespace Wr
theorem fmR_next {α : Type} (f : α → List It) (s : Ws) (xs : List α) (k : Nat) (h : k < xs.length) : runR s ((xs.take (k + 1)).flatMap f) = runR (runR s ((xs.take k).flatMap f)) (f xs[k]) := by
 rw [List.take_succ_eq_append_getElem h, List.flatMap_append, runR_app]; simp
theorem fmR_len {α : Type} (f : α → List It) (m : Nat) (s : Ws) (xs : List α) (k : Nat) (h : ∀ x ∈ xs, (f x).length ≤ m ∧ ∀ y ∈ f x, y.wf) : (runR s ((xs.take k).flatMap f)).l.length ≤ s.l.length + 1021 * (m * xs.length) := by
 have h1 := runR_len ((xs.take k).flatMap f) s (fun y hy => by
  obtain ⟨x, hx, hy⟩ := List.mem_flatMap.1 hy
  exact (h x (List.mem_of_mem_take hx)).2 y hy)
 have h2 := fm_count f m (xs.take k) (fun x hx => (h x (List.mem_of_mem_take hx)).1)
 have h3 : (xs.take k).length ≤ xs.length := by rw [List.length_take]; omega
 have h4 : m * (xs.take k).length ≤ m * xs.length := Nat.mul_le_mul_left m h3
 omega
end Wr
set_option maxHeartbeats 2000000 in
theorem rwchs_any (W0 : World) (cs : List Pp.Ch) (v : Value) (b : Nat) (s : Ws) (w : World) (hL : LiesC W0 v cs) (hW : Below W0.heap.size W0 w) (hB : W0.heap.size ≤ b) (h : RW b s w) (hlen : s.l.length + 200000 ≤ 1000000000) (hc : ∀ c ∈ cs, WfC c) :
    Calls Tryd.prog 27 #[.pointer (some ⟨b, 0, none⟩), v] w fun e w' => e = .returned (.tuple #[]) ∧ RW b (Wr.runR s (Wr.lst 20 Wr.chI cs)) w' ∧ w.grownBy w' (some b) := by
 obtain ⟨a, cap, rfl, hcap, hcap2, hLL⟩ := hL
 have hBw := hW.size
 by_cases hn : (cs.length : Int) ≤ 20
 · have HN := hid (rwnum_any b s cs.length w h ⟨by omega, by omega⟩ (by omega))
   have l1 := Wr.numR_len (s := s) (n := cs.length) ⟨by omega, by omega⟩
   have HL := hid (show ∀ k, (Wr.runR (Wr.numR s cs.length) ((cs.take k).flatMap Wr.chI)).l.length + 6000 ≤ 1000000000 from fun k => by
    have := Wr.fmR_len Wr.chI 5 (Wr.numR s cs.length) cs k (fun x hx => (hc x hx).it)
    omega)
   have HE := hid (show Wr.runR (Wr.numR s cs.length) ((cs.take cs.length).flatMap Wr.chI) = Wr.runR s (Wr.lst 20 Wr.chI cs) from by rw [List.take_length, Wr.lst, if_pos (by omega)]; rfl)
   have HC := hid hc
   have HM := hid hLL
   have HW := hid hW
   have hn2 : ¬ (20 : Int) < cs.length := by omega
   clear h hc hLL hW hn
   go_enter Tryd.func27, Tryd.ntmps27
   go_wp2_with fail
   refine HN.out.mono ?_
   rintro e w1 ⟨rfl, h1, hb1⟩
   have H1 := hid (show RW b (Wr.runR (Wr.numR s cs.length) ((cs.take 0).flatMap Wr.chI)) w1 from h1)
   clear h1 HN
   go_wp2_with fail
   go_loopw [4] (fun i wr => ∃ k : Nat, k ≤ cs.length ∧ i = .int .i64 k ∧ Hid (RW b (Wr.runR (Wr.numR s cs.length) ((cs.take k).flatMap Wr.chI)) wr) ∧ w.grownBy wr (some b)) (fun i _ => cs.length - (intOf i).toNat)
   case atStart => exact ⟨0, Nat.zero_le _, rfl, H1, hb1⟩
   case round =>
    obtain ⟨k, hk, rfl, HV, hf⟩ := hrel
    by_cases hlt : k < cs.length
    · obtain ⟨bb, o, rfl, hbb, he⟩ := HM.out k hlt
      have hwf := HC.out _ (List.getElem_mem hlt)
      have hl0 := HL.out k
      have HX := hid (Wr.fmR_next Wr.chI (Wr.numR s cs.length) cs k hlt)
      have HBl := hid (show ∀ W, w.grownBy W (some b) → ChAt W bb (o + k * 5) cs[k] from fun W hg => he.below hbb (HW.out.trans (nb_low hg hB hBw)))
      generalize Wr.runR (Wr.numR s cs.length) ((cs.take k).flatMap Wr.chI) = t at *
      generalize cs[k] = c at *
      have t1 := Wr.numR_len (s := t) (n := c.k) hwf.k
      have t2 := Wr.putR_len (s := Wr.numR t c.k) (x := .t c.p) trivial
      have t3 := Wr.putR_len (s := Wr.txtR (Wr.numR t c.k) c.p) (x := .t c.q) trivial
      have t4 := Wr.putR_len (s := Wr.txtR (Wr.txtR (Wr.numR t c.k) c.p) c.q) (x := .t c.t) trivial
      simp only [Wr.putR] at t2 t3 t4
      clear he
      obtain ⟨c0, c1, c2, c3, c4⟩ := HBl.out wr hf
      go_wp2_with fail
      refine (rwnum_any b t c.k wr HV.out hwf.k (by omega)).mono ?_
      rintro e w2 ⟨rfl, h2, hb2⟩
      have hf2 := nb_tr hf hb2
      have H2 := hid h2
      clear h2 hb2 c0 c1 c2 c3 c4
      obtain ⟨c0, c1, c2, c3, c4⟩ := HBl.out w2 hf2
      go_wp2_with fail
      refine (rwtxt_any b _ c.p w2 H2.out (by omega) hwf.p).mono ?_
      rintro e w3 ⟨rfl, h3, hb3⟩
      have hf3 := nb_tr hf2 hb3
      have H3 := hid h3
      clear h3 hb3 c0 c1 c2 c3 c4
      obtain ⟨c0, c1, c2, c3, c4⟩ := HBl.out w3 hf3
      go_wp2_with fail
      refine (rwtxt_any b _ c.q w3 H3.out (by omega) hwf.q).mono ?_
      rintro e w4 ⟨rfl, h4, hb4⟩
      have hf4 := nb_tr hf3 hb4
      have H4 := hid h4
      clear h4 hb4 c0 c1 c2 c3 c4
      obtain ⟨c0, c1, c2, c3, c4⟩ := HBl.out w4 hf4
      go_wp2_with fail
      refine (rwtxt_any b _ c.t w4 H4.out (by omega) hwf.t).mono ?_
      rintro e w5 ⟨rfl, h5, hb5⟩
      have hf5 := nb_tr hf4 hb5
      have H5 := hid h5
      clear h5 hb5 c0 c1 c2 c3 c4
      obtain ⟨c0, c1, c2, c3, c4⟩ := HBl.out w5 hf5
      go_wp2_with fail
      refine (rwnum_any b _ c.b w5 H5.out hwf.b (by omega)).mono ?_
      rintro e w6 ⟨rfl, h6, hb6⟩
      have hf6 := nb_tr hf5 hb6
      have H6 := hid h6
      clear h6 hb6 c0 c1 c2 c3 c4
      go_wp2_with fail
      go_roundw
      case rel => exact ⟨k + 1, by omega, by simp, hid (by rw [HX.out]; exact H6.out), hf6⟩
      case measure => simp [intOf]; omega
    · obtain rfl : k = cs.length := by omega
      go_wp2_with fail
      go_end0
      exact ⟨rfl, by rw [← HE.out]; exact HV.out, hf⟩
 · have c1 := h.cs.cell 1 rfl
   have f1 := h.cs.fr 1
   have HB := hid h
   have hn2 : (20 : Int) < cs.length := by omega
   have HE := hid (show Wr.runR s (Wr.lst 20 Wr.chI cs) = Wr.much s from by rw [Wr.lst, if_neg (by omega)]; rfl)
   go_enter Tryd.func27, Tryd.ntmps27
   go_wp2_with fail
   refine bodyPost_ret (results_none rfl _ _ _) rfl ⟨rfl, ?_, nb_set _ b 1 _⟩
   rw [HE.out]; exact HB.out.great
theorem rwdone_any (b : Nat) (s : Ws) (w : World) (h : RW b s w) :
    Calls Tryd.prog 28 #[.pointer (some ⟨b, 0, none⟩)] w fun e w' => e = .returned (.tuple #[.string (Wr.fin s).1, .int .i64 (Wr.fin s).2]) ∧ w' = w := by
 have c0 := h.cs.cell 0 rfl
 have c1 := h.cs.cell 1 rfl
 have c2 := h.cs.cell 2 rfl
 clear h
 obtain ⟨l, m, f⟩ := s
 cases m with
 | true =>
  rw [Ws.fin_many rfl]
  go_enter Tryd.func28, Tryd.ntmps28
  go_wp2_with fail
  go_ret2
  exact ⟨rfl, rfl⟩
 | false =>
  cases f with
  | true =>
   rw [Ws.fin_far rfl rfl]
   go_enter Tryd.func28, Tryd.ntmps28
   go_wp2_with fail
   go_ret2
   exact ⟨rfl, rfl⟩
  | false =>
   rw [Ws.fin_ok rfl rfl]
   go_enter Tryd.func28, Tryd.ntmps28
   go_wp2_with fail
   go_ret2
   exact ⟨rfl, rfl⟩
end Go.Proofs.YthgjdgpjkcmcdaaDoor
namespace Go.Proofs.YthgjdgpjkcmcdaaDoor
open Go.RowKit

theorem textIsX (s : ByteArray) (e : Int) (w : World) (h : e ≠ 0 → s = ⟨#[]⟩) :
    Calls Tryd.prog 11 #[.string s, .int .i64 e, .int .i64 e, .string s] w fun e w' => e = .returned (.bool true) ∧ w' = w := by
 by_cases hz : e = 0
 · subst hz
   go_enter Tryd.func11, Tryd.ntmps11
   go_wp2
   go_ret
   exact ⟨rfl, rfl⟩
 · obtain rfl := h hz
   have hz2 : (e == 0) = false := by simpa using hz
   clear hz h
   go_enter Tryd.func11, Tryd.ntmps11
   go_wp2
   go_ret
   exact ⟨rfl, rfl⟩
theorem Wr.fin_none (s : Ws) : (Wr.fin s).2 ≠ 0 → (Wr.fin s).1 = ⟨#[]⟩ := by
 unfold Wr.fin
 split
 · exact fun _ => rfl
 · split
   · exact fun _ => rfl
   · exact fun h => absurd rfl h
namespace Wr
def yn (b : Bool) : It := .n (if b = true then 1 else 0)
theorem yn_wf (b : Bool) : (yn b).wf := by cases b <;> exact (show I64 _ from ⟨by decide, by decide⟩)
def enI (e : En) : List It := [.t e.path, yn e.folder, .t e.text, .n e.ver]
def coI (c : Co) : List It := [.n c.nu, .t c.ke] ++ lst 20 chI c.ch
def pgI (p : Pg) : List It := yn p.reset :: (lst 60 enI p.tree ++ lst 10 coI p.cos ++ [.n p.cur, yn p.more])
def anI (a : An) : List It := .n a.err :: .n a.num :: pgI a.pg
end Wr
structure WfE (e : En) : Prop where
 v : I64 e.ver
 p : TxB e.path
 t : TxB e.text
structure WfO (c : Co) : Prop where
 n : I64 c.nu
 k : TxB c.ke
 c : ∀ x ∈ c.ch, WfC x
structure WfP (p : Pg) : Prop where
 u : I64 p.cur
 t : ∀ x ∈ p.tree, WfE x
 o : ∀ x ∈ p.cos, WfO x
structure WfA (a : An) : Prop where
 e : I64 a.err
 n : I64 a.num
 p : WfP a.pg
theorem WfE.it {e : En} (h : WfE e) : (Wr.enI e).length ≤ 4 ∧ ∀ y ∈ Wr.enI e, y.wf := by
 refine ⟨by simp [Wr.enI], fun y hy => ?_⟩
 simp only [Wr.enI, List.mem_cons, List.not_mem_nil, or_false] at hy
 rcases hy with rfl | rfl | rfl | rfl
 · trivial
 · exact Wr.yn_wf _
 · trivial
 · exact h.v
theorem WfO.it {c : Co} (h : WfO c) : (Wr.coI c).length ≤ 103 ∧ ∀ y ∈ Wr.coI c, y.wf := by
 have h1 := Wr.lst_len Wr.chI 20 5 c.ch (fun x hx => (h.c x hx).it.1)
 refine ⟨by simp only [Wr.coI, List.length_append, List.length_cons, List.length_nil]; omega, fun y hy => ?_⟩
 simp only [Wr.coI, List.mem_append, List.mem_cons, List.not_mem_nil, or_false] at hy
 rcases hy with (rfl | rfl) | hy
 · exact h.n
 · trivial
 · exact Wr.lst_wf _ 20 c.ch (by omega) (fun x hx => (h.c x hx).it.2) y hy
end Go.Proofs.YthgjdgpjkcmcdaaDoor
namespace Go.Proofs.YthgjdgpjkcmcdaaDoor
open Go.RowKit

/-- A writer at work beside a record. -/
structure Wk (B b m : Nat) (cs : List Value) (T : TypeId) (s : Ws) (w : World) : Prop where
 wt : Wt B b s w
 mem : w.heap[m]? = some (.cells cs.toArray T (0, 0))
 tab : PowTab w
 ne : m ≠ b
 ty : T ≠ 5
 b3 : 3 < B
theorem Wk.step {B b m : Nat} {cs : List Value} {T : TypeId} {s s' : Ws} {w w' : World} (h : Wk B b m cs T s w) (hw : Wt B b s' w') (hf : Fr B b w w') : Wk B b m cs T s' w' :=
 ⟨hw, hf.row h.mem h.ne h.ty, h.tab.fr h.b3 hf, h.ne, h.ty, h.b3⟩
theorem Wk.cell {B b m : Nat} {cs : List Value} {T : TypeId} {s : Ws} {w : World} (h : Wk B b m cs T s w) (i : Nat) {v : Value} (hi : cs[i]? = some v) : w.cell? ⟨m, i, none⟩ = some v := by
 rw [Lib.cell_of_heap h.mem]; simpa using hi
theorem Wk.new {B b : Nat} (cs : List Value) (T : TypeId) {s : Ws} {w : World} (h : Wt B b s w) (ht : PowTab w) (h3 : 3 < B) (hT : T ≠ 5) : Wk B b w.heap.size cs T s (w.alloc (.cells cs.toArray T)) := by
 have hBw : B ≤ w.heap.size := Nat.le_of_lt (Nat.lt_of_le_of_lt h.B h.lt)
 exact ⟨h.below (below_alloc _ _), heap_alloc_new w _, ht.fr h3 (fr_below (b := b) (below_alloc _ _) hBw), fun e => by have := h.lt; omega, hT, h3⟩
theorem fr_new {B b : Nat} {s : Ws} {w : World} (h : Wt B b s w) (o : Obj) : Fr B b w (w.alloc o) := fr_below (b := b) (below_alloc _ _) (Nat.le_of_lt (Nat.lt_of_le_of_lt h.B h.lt))
set_option maxHeartbeats 1000000 in
theorem wen1_any (x : En) (B b g : Nat) (t0 : Ws) (w : World) (h : Wt B b t0 w) (hg : WBox w b g) (hlen : t0.l.length + 6000 ≤ 1000000000) (h3 : 3 < B) (ht : PowTab w) (hc : WfE x) :
    Calls Tryd.prog 64 #[.agg #[.string x.path, .bool x.folder, .string x.text, .int .i64 x.ver], .pointer (some ⟨g, 0, none⟩)] w fun e w' => e = .returned (.tuple #[]) ∧ Wt B b (Wr.run t0 (Wr.enI x)) w' ∧ Fr B b w w' := by
 obtain ⟨p, f, t, v⟩ := x
 obtain ⟨w0, hw0⟩ : ∃ w0, w0 = w.alloc (.cells #[.string p, .bool f, .string t, .int .i64 v] 76) := ⟨_, rfl⟩
 have H0 := hid (Wk.new [.string p, .bool f, .string t, .int .i64 v] 76 h ht h3 (by decide))
 have HF0 := fr_new h (.cells #[.string p, .bool f, .string t, .int .i64 v] 76)
 have G0 := hid (hg.fr HF0)
 have hw0' : w.alloc (.cells (List.toArray [.string p, .bool f, .string t, .int .i64 v]) 76) = w0 := hw0.symm
 rw [hw0'] at H0
 rw [← hw0] at HF0 G0
 have HC := hid hc
 have HW := hid hw0
 clear ht h hg hc hw0 hw0'
 go_enter Tryd.func64, Tryd.ntmps64
 go_upto_region 1 with fail
 rw [← HW.out]
 clear HW
 have a0 := G0.out.cell
 have c0 := H0.out.cell 0 rfl
 go_wp2_with fail
 refine (wtext_any B b t0 p w0 H0.out.wt (by omega) H0.out.b3 H0.out.tab HC.out.p).mono ?_
 rintro e w1 ⟨rfl, h1, hf1⟩
 obtain ⟨t1, ht1⟩ : ∃ tq, tq = Wr.txt t0 p := ⟨_, rfl⟩
 have L1 : t1.l.length ≤ t0.l.length + 1021 := by rw [ht1]; exact Wr.put_len (s := t0) (x := .t p) trivial
 rw [← ht1] at h1
 have HT1 := hid ht1
 have H1 := hid (H0.out.step h1 hf1)
 have G1 := hid (G0.out.fr hf1)
 have HF1 := HF0.trans hf1
 clear ht1 h1 hf1 c0 a0 H0 G0 HF0
 have a0 := G1.out.cell
 have c1 := H1.out.cell 1 rfl
 go_wp2_with fail
 refine (wyes_any B b t1 f w1 H1.out.wt (by omega) H1.out.b3 H1.out.tab).mono ?_
 rintro e w2 ⟨rfl, h1, hf1⟩
 obtain ⟨t2, ht1⟩ : ∃ tq, tq = Wr.num t1 (if f = true then 1 else 0) := ⟨_, rfl⟩
 have L2 : t2.l.length ≤ t1.l.length + 1021 := by rw [ht1]; exact Wr.put_len (s := t1) (x := Wr.yn f) (Wr.yn_wf _)
 rw [← ht1] at h1
 have HT2 := hid ht1
 have H2 := hid (H1.out.step h1 hf1)
 have G2 := hid (G1.out.fr hf1)
 have HF2 := HF1.trans hf1
 clear ht1 h1 hf1 c1 a0 H1 G1 HF1
 have a0 := G2.out.cell
 have c2 := H2.out.cell 2 rfl
 go_wp2_with fail
 refine (wtext_any B b t2 t w2 H2.out.wt (by omega) H2.out.b3 H2.out.tab HC.out.t).mono ?_
 rintro e w3 ⟨rfl, h1, hf1⟩
 obtain ⟨t3, ht1⟩ : ∃ tq, tq = Wr.txt t2 t := ⟨_, rfl⟩
 have L3 : t3.l.length ≤ t2.l.length + 1021 := by rw [ht1]; exact Wr.put_len (s := t2) (x := .t t) trivial
 rw [← ht1] at h1
 have HT3 := hid ht1
 have H3 := hid (H2.out.step h1 hf1)
 have G3 := hid (G2.out.fr hf1)
 have HF3 := HF2.trans hf1
 clear ht1 h1 hf1 c2 a0 H2 G2 HF2
 have a0 := G3.out.cell
 have c3 := H3.out.cell 3 rfl
 go_wp2_with fail
 refine (wnum_any B b t3 v w3 H3.out.wt HC.out.v (by omega) H3.out.b3 H3.out.tab).mono ?_
 rintro e w4 ⟨rfl, h1, hf1⟩
 obtain ⟨t4, ht1⟩ : ∃ tq, tq = Wr.num t3 v := ⟨_, rfl⟩
 have L4 : t4.l.length ≤ t3.l.length + 1021 := by rw [ht1]; exact Wr.put_len (s := t3) (x := .n v) HC.out.v
 rw [← ht1] at h1
 have HT4 := hid ht1
 have H4 := hid (H3.out.step h1 hf1)
 have G4 := hid (G3.out.fr hf1)
 have HF4 := HF3.trans hf1
 clear ht1 h1 hf1 c3 a0 H3 G3 HF3
 go_wp2_with fail
 go_end0
 exact ⟨rfl, by have h := H4.out.wt; rw [HT4.out, HT3.out, HT2.out, HT1.out] at h; exact h, HF4⟩
set_option maxHeartbeats 1000000 in
theorem wco1_any (W0 : World) (x : Co) (u : Value) (b g : Nat) (t0 : Ws) (w : World) (hL : LiesC W0 u x.ch) (hW : Below W0.heap.size W0 w) (h : Wt W0.heap.size b t0 w) (hg : WBox w b g) (hlen : t0.l.length + 400000 ≤ 1000000000) (h3 : 3 < W0.heap.size) (ht : PowTab w) (hc : WfO x) :
    Calls Tryd.prog 66 #[.agg #[.int .i64 x.nu, .string x.ke, u], .pointer (some ⟨g, 0, none⟩)] w fun e w' => e = .returned (.tuple #[]) ∧ Wt W0.heap.size b (Wr.run t0 (Wr.coI x)) w' ∧ Fr W0.heap.size b w w' := by
 obtain ⟨n, k, cs⟩ := x
 simp only at hL ⊢
 obtain ⟨av, cv, rfl, hcv⟩ : ∃ av cv, u = .slice av cs.length cv ∧ True := by obtain ⟨a, c, h, _⟩ := hL; exact ⟨a, c, h, trivial⟩
 obtain ⟨B, hB⟩ : ∃ B, B = W0.heap.size := ⟨_, rfl⟩
 have HCH := hid (fun (s : Ws) (W : World) (hw : Below W0.heap.size W0 W) (h : Wt B b s W) (hl : s.l.length + 200000 ≤ 1000000000) (ht : PowTab W) => by
  have := wchanges_any W0 cs _ b s W hL hw (by rw [← hB]; exact h) hl h3 ht hc.c
  rw [← hB] at this; exact this)
 rw [← hB] at h h3 ⊢
 obtain ⟨w0, hw0⟩ : ∃ w0, w0 = w.alloc (.cells #[.int .i64 n, .string k, .slice av cs.length cv] 78) := ⟨_, rfl⟩
 have H0 := hid (Wk.new [.int .i64 n, .string k, .slice av cs.length cv] 78 h ht h3 (by decide))
 have HF0 := fr_new h (.cells #[.int .i64 n, .string k, .slice av cs.length cv] 78)
 have G0 := hid (hg.fr HF0)
 have hw0' : w.alloc (.cells (List.toArray [.int .i64 n, .string k, .slice av cs.length cv]) 78) = w0 := hw0.symm
 rw [hw0'] at H0
 rw [← hw0] at HF0 G0
 have HC := hid hc
 have HW := hid hw0
 have HBW := hid (And.intro hB hW)
 clear ht h hg hc hw0 hw0' hL hcv hB hW
 go_enter Tryd.func66, Tryd.ntmps66
 go_upto_region 1 with fail
 rw [← HW.out]
 clear HW
 have a0 := G0.out.cell
 have c0 := H0.out.cell 0 rfl
 go_wp2_with fail
 refine (wnum_any B b t0 n w0 H0.out.wt HC.out.n (by omega) H0.out.b3 H0.out.tab).mono ?_
 rintro e w1 ⟨rfl, h1, hf1⟩
 obtain ⟨t1, ht1⟩ : ∃ tq, tq = Wr.num t0 n := ⟨_, rfl⟩
 have L1 : t1.l.length ≤ t0.l.length + 1021 := by rw [ht1]; exact Wr.put_len (s := t0) (x := .n n) HC.out.n
 rw [← ht1] at h1
 have HT1 := hid ht1
 have H1 := hid (H0.out.step h1 hf1)
 have G1 := hid (G0.out.fr hf1)
 have HF1 := HF0.trans hf1
 clear ht1 h1 hf1 c0 a0 H0 G0 HF0
 have a0 := G1.out.cell
 have c1 := H1.out.cell 1 rfl
 go_wp2_with fail
 refine (wtext_any B b t1 k w1 H1.out.wt (by omega) H1.out.b3 H1.out.tab HC.out.k).mono ?_
 rintro e w2 ⟨rfl, h1, hf1⟩
 obtain ⟨t2, ht1⟩ : ∃ tq, tq = Wr.txt t1 k := ⟨_, rfl⟩
 have L2 : t2.l.length ≤ t1.l.length + 1021 := by rw [ht1]; exact Wr.put_len (s := t1) (x := .t k) trivial
 rw [← ht1] at h1
 have HT2 := hid ht1
 have H2 := hid (H1.out.step h1 hf1)
 have G2 := hid (G1.out.fr hf1)
 have HF2 := HF1.trans hf1
 clear ht1 h1 hf1 c1 a0 H1 G1 HF1
 have a0 := G2.out.cell
 have c2 := H2.out.cell 2 rfl
 go_wp2_with fail
 refine (HCH.out t2 w2 (HBW.out.2.trans (by rw [← HBW.out.1]; exact HF2.1)) H2.out.wt (by omega) H2.out.tab).mono ?_
 rintro e w3 ⟨rfl, h1, hf1⟩
 clear a0 c2 HCH
 go_wp2_with fail
 go_end0
 exact ⟨rfl, by rw [Wr.coI, Wr.run_app]; rw [HT2.out, HT1.out] at h1; exact h1, HF2.trans hf1⟩
theorem wen1_enters : ∀ args w, (callFunc 64 args).run Tryd.prog w = .ok (.enter 64 args) w := enters_of Tryd.func64 (by kernel_rfl) rfl
theorem wco1_enters : ∀ args w, (callFunc 66 args).run Tryd.prog w = .ok (.enter 66 args) w := enters_of Tryd.func66 (by kernel_rfl) rfl
set_option maxHeartbeats 1000000 in
theorem wle_any (W0 : World) (cs : List En) (v : Value) (b g : Nat) (s : Ws) (w : World) (hL : Lies W0 v cs) (hW : Below W0.heap.size W0 w) (h : Wt W0.heap.size b s w) (hg : WBox w b g) (hlen : s.l.length + 300000 ≤ 1000000000) (h3 : 3 < W0.heap.size) (ht : PowTab w) (hc : ∀ c ∈ cs, WfE c) :
    Calls Tryd.prog 63 #[.pointer (some ⟨b, 0, none⟩), v, .int .i64 60, .func (.func 64) #[] #[.pointer (some ⟨g, 0, none⟩)]] w fun e w' => e = .returned (.tuple #[]) ∧ Wt W0.heap.size b (Wr.run s (Wr.lst 60 Wr.enI cs)) w' ∧ Fr W0.heap.size b w w' := by
 obtain ⟨a, cap, rfl, hcap, hcap2, hLL⟩ := hL
 have hC := wcount_any W0.heap.size b s cs.length 60 w h ⟨by omega, by omega⟩ (by omega) h3 ht
 by_cases hn : (cs.length : Int) ≤ 60
 · rw [if_pos hn, decide_eq_true hn] at hC
   have l1 := Wr.num_len (s := s) (n := cs.length) ⟨by omega, by omega⟩
   have HL := hid (show ∀ k, (Wr.run (Wr.num s cs.length) ((cs.take k).flatMap Wr.enI)).l.length + 6000 ≤ 1000000000 from fun k => by
    have := Wr.fm_len Wr.enI 4 (Wr.num s cs.length) cs k (fun x hx => (hc x hx).it)
    omega)
   have HE := hid (show Wr.run (Wr.num s cs.length) ((cs.take cs.length).flatMap Wr.enI) = Wr.run s (Wr.lst 60 Wr.enI cs) from by rw [List.take_length, Wr.lst, if_pos (by omega)]; rfl)
   have HC := hid hC
   have HD := hid hc
   have HM := hid hLL
   have HG := hid hg
   have HT := hid ht
   have HW := hid hW
   have eg := wen1_enters
   clear hC hc hLL hg ht hW
   go_enter Tryd.func63, Tryd.ntmps63
   go_wp2_with fail
   refine HC.out.mono ?_
   rintro e w1 ⟨rfl, h1, hf1⟩
   have HW1 := hid (show Wt W0.heap.size b (Wr.run (Wr.num s cs.length) ((cs.take 0).flatMap Wr.enI)) w1 from h1)
   have hB1 : W0.heap.size ≤ w1.heap.size := Nat.le_of_lt (Nat.lt_of_le_of_lt h1.B h1.lt)
   clear h1
   go_wp2_with fail
   go_loopw [18] (fun i wr => ∃ k : Nat, k ≤ cs.length ∧ i = .int .i64 k ∧ Hid (Wt W0.heap.size b (Wr.run (Wr.num s cs.length) ((cs.take k).flatMap Wr.enI)) wr) ∧ Fr W0.heap.size b w wr) (fun i _ => cs.length - (intOf i).toNat)
   case atStart => exact ⟨0, Nat.zero_le _, rfl, HW1, hf1⟩
   case round =>
    obtain ⟨k, hk, rfl, HV, hf⟩ := hrel
    by_cases hlt : k < cs.length
    · obtain ⟨bb, o, rfl, hbb, he⟩ := HM.out k hlt
      obtain ⟨c0, c1, c2, c3⟩ := he.below hbb (HW.out.trans hf.1)
      have hlr := HV.out.lt
      have hBr : W0.heap.size ≤ wr.heap.size := Nat.le_of_lt (Nat.lt_of_le_of_lt HV.out.B hlr)
      obtain ⟨wz, hwz⟩ : ∃ wz, wz = wr.alloc (.cells #[.string cs[k].path, .bool cs[k].folder, .string cs[k].text, .int .i64 cs[k].ver] 76) := ⟨_, rfl⟩
      have hbz : Below wr.heap.size wr wz := by rw [hwz]; exact below_alloc _ _
      have hfz : Fr W0.heap.size b wr wz := fr_below hbz hBr
      have HK := hid (wen1_any cs[k] W0.heap.size b g _ wz (HV.out.below hbz) (HG.out.fr (hf.trans hfz)) (HL.out k) h3 (HT.out.fr h3 (hf.trans hfz)) (HD.out _ (List.getElem_mem hlt)))
      rw [hwz] at HK
      have HWZ := hid hwz
      clear hwz he
      go_wp2_with fail
      refine HK.out.mono ?_
      rintro e w2 ⟨rfl, h2, hf2⟩
      rw [← HWZ.out] at hf2
      rw [← Wr.fm_next _ _ _ _ hlt] at h2
      have H2 := hid h2
      clear h2 HK c0 c1 c2 c3
      go_wp2_with fail
      go_roundw
      case rel => exact ⟨k + 1, by omega, by simp, H2, hf.trans (hfz.trans hf2)⟩
      case measure => simp [intOf]; omega
    · obtain rfl : k = cs.length := by omega
      go_wp2_with fail
      go_end0
      exact ⟨rfl, by rw [← HE.out]; exact HV.out, hf⟩
 · rw [if_neg hn, decide_eq_false hn] at hC
   go_enter Tryd.func63, Tryd.ntmps63
   go_wp2_with fail
   refine hC.mono ?_
   rintro e w1 ⟨rfl, h1, hf1⟩
   go_wp2_with fail
   refine bodyPost_ret (results_none rfl _ _ _) rfl ?_
   exact ⟨rfl, by rw [Wr.lst, if_neg (by omega)]; exact h1, hf1⟩
set_option maxHeartbeats 1000000 in
theorem wlo_any (W0 : World) (cs : List Co) (v : Value) (b g : Nat) (s : Ws) (w : World) (hL : LiesO W0 v cs) (hW : Below W0.heap.size W0 w) (h : Wt W0.heap.size b s w) (hg : WBox w b g) (hlen : s.l.length + 2000000 ≤ 1000000000) (h3 : 3 < W0.heap.size) (ht : PowTab w) (hc : ∀ c ∈ cs, WfO c) :
    Calls Tryd.prog 65 #[.pointer (some ⟨b, 0, none⟩), v, .int .i64 10, .func (.func 66) #[] #[.pointer (some ⟨g, 0, none⟩)]] w fun e w' => e = .returned (.tuple #[]) ∧ Wt W0.heap.size b (Wr.run s (Wr.lst 10 Wr.coI cs)) w' ∧ Fr W0.heap.size b w w' := by
 obtain ⟨a, cap, rfl, hcap, hcap2, hLL⟩ := hL
 have hC := wcount_any W0.heap.size b s cs.length 10 w h ⟨by omega, by omega⟩ (by omega) h3 ht
 by_cases hn : (cs.length : Int) ≤ 10
 · rw [if_pos hn, decide_eq_true hn] at hC
   have l1 := Wr.num_len (s := s) (n := cs.length) ⟨by omega, by omega⟩
   have HL := hid (show ∀ k, (Wr.run (Wr.num s cs.length) ((cs.take k).flatMap Wr.coI)).l.length + 400000 ≤ 1000000000 from fun k => by
    have := Wr.fm_len Wr.coI 103 (Wr.num s cs.length) cs k (fun x hx => (hc x hx).it)
    omega)
   have HE := hid (show Wr.run (Wr.num s cs.length) ((cs.take cs.length).flatMap Wr.coI) = Wr.run s (Wr.lst 10 Wr.coI cs) from by rw [List.take_length, Wr.lst, if_pos (by omega)]; rfl)
   have HC := hid hC
   have HD := hid hc
   have HM := hid hLL
   have HG := hid hg
   have HT := hid ht
   have HW := hid hW
   have eg := wco1_enters
   clear hC hc hLL hg ht hW
   go_enter Tryd.func65, Tryd.ntmps65
   go_wp2_with fail
   refine HC.out.mono ?_
   rintro e w1 ⟨rfl, h1, hf1⟩
   have HW1 := hid (show Wt W0.heap.size b (Wr.run (Wr.num s cs.length) ((cs.take 0).flatMap Wr.coI)) w1 from h1)
   have hB1 : W0.heap.size ≤ w1.heap.size := Nat.le_of_lt (Nat.lt_of_le_of_lt h1.B h1.lt)
   clear h1
   go_wp2_with fail
   go_loopw [18] (fun i wr => ∃ k : Nat, k ≤ cs.length ∧ i = .int .i64 k ∧ Hid (Wt W0.heap.size b (Wr.run (Wr.num s cs.length) ((cs.take k).flatMap Wr.coI)) wr) ∧ Fr W0.heap.size b w wr) (fun i _ => cs.length - (intOf i).toNat)
   case atStart => exact ⟨0, Nat.zero_le _, rfl, HW1, hf1⟩
   case round =>
    obtain ⟨k, hk, rfl, HV, hf⟩ := hrel
    by_cases hlt : k < cs.length
    · obtain ⟨bb, o, rfl, hbb, he⟩ := HM.out k hlt
      obtain ⟨c0, c1, u, c2, hu⟩ := he
      have hLu := hu
      obtain ⟨au, cu, rfl, _⟩ := hu
      have c0 := (((HW.out.trans hf.1).cell (p := ⟨bb, o + k * 3, none⟩) hbb).trans c0)
      have c1 := (((HW.out.trans hf.1).cell (p := ⟨bb, o + k * 3 + 1, none⟩) hbb).trans c1)
      have c2 := (((HW.out.trans hf.1).cell (p := ⟨bb, o + k * 3 + 2, none⟩) hbb).trans c2)
      have hlr := HV.out.lt
      have hBr : W0.heap.size ≤ wr.heap.size := Nat.le_of_lt (Nat.lt_of_le_of_lt HV.out.B hlr)
      obtain ⟨wz, hwz⟩ : ∃ wz, wz = wr.alloc (.cells #[.int .i64 cs[k].nu, .string cs[k].ke, .slice au cs[k].ch.length cu] 78) := ⟨_, rfl⟩
      have hbz : Below wr.heap.size wr wz := by rw [hwz]; exact below_alloc _ _
      have hfz : Fr W0.heap.size b wr wz := fr_below hbz hBr
      have HK := hid (wco1_any W0 cs[k] _ b g _ wz hLu (HW.out.trans (hf.trans hfz).1) (HV.out.below hbz) (HG.out.fr (hf.trans hfz)) (HL.out k) h3 (HT.out.fr h3 (hf.trans hfz)) (HD.out _ (List.getElem_mem hlt)))
      rw [hwz] at HK
      have HWZ := hid hwz
      clear hwz hLu
      go_wp2_with fail
      refine HK.out.mono ?_
      rintro e w2 ⟨rfl, h2, hf2⟩
      rw [← HWZ.out] at hf2
      rw [← Wr.fm_next _ _ _ _ hlt] at h2
      have H2 := hid h2
      clear h2 HK c0 c1 c2
      go_wp2_with fail
      go_roundw
      case rel => exact ⟨k + 1, by omega, by simp, H2, hf.trans (hfz.trans hf2)⟩
      case measure => simp [intOf]; omega
    · obtain rfl : k = cs.length := by omega
      go_wp2_with fail
      go_end0
      exact ⟨rfl, by rw [← HE.out]; exact HV.out, hf⟩
 · rw [if_neg hn, decide_eq_false hn] at hC
   go_enter Tryd.func65, Tryd.ntmps65
   go_wp2_with fail
   refine hC.mono ?_
   rintro e w1 ⟨rfl, h1, hf1⟩
   go_wp2_with fail
   refine bodyPost_ret (results_none rfl _ _ _) rfl ?_
   exact ⟨rfl, by rw [Wr.lst, if_neg (by omega)]; exact h1, hf1⟩
set_option maxHeartbeats 2000000 in
theorem wpage_any (W0 : World) (P : Pg) (v : Value) (b : Nat) (t0 : Ws) (w : World) (hL : LiesPg W0 v P) (hW : Below W0.heap.size W0 w) (h : Wt W0.heap.size b t0 w) (hlen : t0.l.length + 5000000 ≤ 1000000000) (h3 : 3 < W0.heap.size) (ht : PowTab w) (hc : WfP P) :
    Calls Tryd.prog 38 #[.pointer (some ⟨b, 0, none⟩), v] w fun e w' => e = .returned (.tuple #[]) ∧ Wt W0.heap.size b (Wr.run t0 (Wr.pgI P)) w' ∧ Fr W0.heap.size b w w' := by
 have hmf : ∀ (fn : Fn) (first cap : Array Value) (w : World), (Instr.makeFunc fn first cap).run Tryd.prog w = .ok (.func fn first cap) w := fun _ _ _ _ => rfl
 obtain ⟨vt, vc, rfl, lt, lc⟩ := hL
 obtain ⟨ta, tc, rfl, _⟩ : ∃ a c, vt = .slice a P.tree.length c ∧ True := by obtain ⟨a, c, h, _⟩ := lt; exact ⟨a, c, h, trivial⟩
 obtain ⟨ca, cc, rfl⟩ := liesO_shape lc
 obtain ⟨rs, T, C, cu, mo⟩ := P
 simp only at lt lc ⊢
 obtain ⟨B, hB⟩ : ∃ B, B = W0.heap.size := ⟨_, rfl⟩
 have HCT := hid (fun (g : Nat) (s : Ws) (W : World) (hw : Below W0.heap.size W0 W) (h : Wt B b s W) (hg : WBox W b g) (hl : s.l.length + 300000 ≤ 1000000000) (ht : PowTab W) => by
  have := wle_any W0 T _ b g s W lt hw (by rw [← hB]; exact h) hg hl h3 ht hc.t
  rw [← hB] at this; exact this)
 have HCC := hid (fun (g : Nat) (s : Ws) (W : World) (hw : Below W0.heap.size W0 W) (h : Wt B b s W) (hg : WBox W b g) (hl : s.l.length + 2000000 ≤ 1000000000) (ht : PowTab W) => by
  have := wlo_any W0 C _ b g s W lc hw (by rw [← hB]; exact h) hg hl h3 ht hc.o
  rw [← hB] at this; exact this)
 rw [← hB] at h h3 ⊢
 obtain ⟨wz, hwz⟩ : ∃ wz, wz = w.alloc (.cells #[.pointer (some ⟨b, 0, none⟩)] 47) := ⟨_, rfl⟩
 have hfz : Fr B b w wz := by rw [hwz]; exact fr_new h _
 have hgz : WBox wz b w.heap.size := ⟨by rw [hwz]; exact heap_alloc_new w _, by have := h.lt; omega⟩
 have hz : Wt B b t0 wz := by rw [hwz]; exact h.below (below_alloc _ _)
 obtain ⟨tl, htl⟩ : ∃ n, n = T.length := ⟨_, rfl⟩
 obtain ⟨cl, hcl⟩ : ∃ n, n = C.length := ⟨_, rfl⟩
 rw [← htl] at HCT ⊢
 rw [← hcl] at HCC ⊢
 obtain ⟨w0, hw0⟩ : ∃ w0, w0 = wz.alloc (.cells #[.bool rs, .slice ta tl tc, .slice ca cl cc, .int .i64 cu, .bool mo] 38) := ⟨_, rfl⟩
 have H0 := hid (Wk.new [.bool rs, .slice ta tl tc, .slice ca cl cc, .int .i64 cu, .bool mo] 38 hz (ht.fr h3 hfz) h3 (by decide))
 have HF0 := hfz.trans (fr_new hz (.cells #[.bool rs, .slice ta tl tc, .slice ca cl cc, .int .i64 cu, .bool mo] 38))
 have G0 := hid (hgz.fr (fr_new hz (.cells #[.bool rs, .slice ta tl tc, .slice ca cl cc, .int .i64 cu, .bool mo] 38)))
 have hw0' : wz.alloc (.cells (List.toArray [.bool rs, .slice ta tl tc, .slice ca cl cc, .int .i64 cu, .bool mo]) 38) = w0 := hw0.symm
 rw [hw0'] at H0
 rw [← hw0] at HF0 G0
 rw [show wz.heap.size = w.heap.size + 1 from by rw [hwz]; simp] at H0
 have HC := hid hc
 have HW := hid (show (w.alloc (.cells #[.pointer (some ⟨b, 0, none⟩)] 47)).alloc (.cells #[.bool rs, .slice ta tl tc, .slice ca cl cc, .int .i64 cu, .bool mo] 38) = w0 from by rw [← hwz, ← hw0])
 have HBW := hid (And.intro hB hW)
 clear ht h hc hw0 hw0' lt lc hB hW hwz hfz hgz hz htl hcl
 go_enter Tryd.func38, Tryd.ntmps38
 go_upto_region 1 with fail
 rw [HW.out]
 clear HW
 have a0 := G0.out.cell
 have c0 := H0.out.cell 0 rfl
 go_wp2_with fail
 refine (wyes_any B b t0 rs w0 H0.out.wt (by omega) H0.out.b3 H0.out.tab).mono ?_
 rintro e w1 ⟨rfl, h1, hf1⟩
 obtain ⟨t1, ht1⟩ : ∃ tq, tq = Wr.num t0 (if rs = true then 1 else 0) := ⟨_, rfl⟩
 have L1 : t1.l.length ≤ t0.l.length + 1021 := by rw [ht1]; exact Wr.put_len (s := t0) (x := Wr.yn rs) (Wr.yn_wf _)
 rw [← ht1] at h1
 have HT1 := hid ht1
 have H1 := hid (H0.out.step h1 hf1)
 have G1 := hid (G0.out.fr hf1)
 have HF1 := HF0.trans hf1
 clear ht1 h1 hf1 c0 a0 H0 G0 HF0
 have a0 := G1.out.cell
 have c1 := H1.out.cell 1 rfl
 go_wp2_with fail
 refine (HCT.out w.heap.size t1 w1 (HBW.out.2.trans (by rw [← HBW.out.1]; exact HF1.1)) H1.out.wt G1.out (by omega) H1.out.tab).mono ?_
 rintro e w2 ⟨rfl, h1, hf1⟩
 obtain ⟨t2, ht1⟩ : ∃ tq, tq = Wr.run t1 (Wr.lst 60 Wr.enI T) := ⟨_, rfl⟩
 have L2 : t2.l.length ≤ t1.l.length + 1021 * 241 := by
  rw [ht1]
  have h8 := Wr.run_len (Wr.lst 60 Wr.enI T) t1 (Wr.lst_wf _ 60 T (by omega) (fun x hx => (HC.out.t x hx).it.2))
  have h9 := Wr.lst_len Wr.enI 60 4 T (fun x hx => by simp [Wr.enI])
  omega
 rw [← ht1] at h1
 have HT2 := hid ht1
 have H2 := hid (H1.out.step h1 hf1)
 have G2 := hid (G1.out.fr hf1)
 have HF2 := HF1.trans hf1
 clear ht1 h1 hf1 c1 a0 H1 G1 HF1 HCT
 have a0 := G2.out.cell
 have c2 := H2.out.cell 2 rfl
 go_wp2_with fail
 refine (HCC.out w.heap.size t2 w2 (HBW.out.2.trans (by rw [← HBW.out.1]; exact HF2.1)) H2.out.wt G2.out (by omega) H2.out.tab).mono ?_
 rintro e w3 ⟨rfl, h1, hf1⟩
 obtain ⟨t3, ht1⟩ : ∃ tq, tq = Wr.run t2 (Wr.lst 10 Wr.coI C) := ⟨_, rfl⟩
 have L3 : t3.l.length ≤ t2.l.length + 1021 * 1031 := by
  rw [ht1]
  have h8 := Wr.run_len (Wr.lst 10 Wr.coI C) t2 (Wr.lst_wf _ 10 C (by omega) (fun x hx => (HC.out.o x hx).it.2))
  have h9 := Wr.lst_len Wr.coI 10 103 C (fun x hx => (HC.out.o x hx).it.1)
  omega
 rw [← ht1] at h1
 have HT3 := hid ht1
 have H3 := hid (H2.out.step h1 hf1)
 have G3 := hid (G2.out.fr hf1)
 have HF3 := HF2.trans hf1
 clear ht1 h1 hf1 c2 a0 H2 G2 HF2 HCC
 have a0 := G3.out.cell
 have c3 := H3.out.cell 3 rfl
 go_wp2_with fail
 refine (wnum_any B b t3 cu w3 H3.out.wt HC.out.u (by omega) H3.out.b3 H3.out.tab).mono ?_
 rintro e w4 ⟨rfl, h1, hf1⟩
 obtain ⟨t4, ht1⟩ : ∃ tq, tq = Wr.num t3 cu := ⟨_, rfl⟩
 have L4 : t4.l.length ≤ t3.l.length + 1021 := by rw [ht1]; exact Wr.put_len (s := t3) (x := .n cu) HC.out.u
 rw [← ht1] at h1
 have HT4 := hid ht1
 have H4 := hid (H3.out.step h1 hf1)
 have G4 := hid (G3.out.fr hf1)
 have HF4 := HF3.trans hf1
 clear ht1 h1 hf1 c3 a0 H3 G3 HF3
 have a0 := G4.out.cell
 have c4 := H4.out.cell 4 rfl
 go_wp2_with fail
 refine (wyes_any B b t4 mo w4 H4.out.wt (by omega) H4.out.b3 H4.out.tab).mono ?_
 rintro e w5 ⟨rfl, h1, hf1⟩
 obtain ⟨t5, ht1⟩ : ∃ tq, tq = Wr.num t4 (if mo = true then 1 else 0) := ⟨_, rfl⟩
 have L5 : t5.l.length ≤ t4.l.length + 1021 := by rw [ht1]; exact Wr.put_len (s := t4) (x := Wr.yn mo) (Wr.yn_wf _)
 rw [← ht1] at h1
 have HT5 := hid ht1
 have H5 := hid (H4.out.step h1 hf1)
 have G5 := hid (G4.out.fr hf1)
 have HF5 := HF4.trans hf1
 clear ht1 h1 hf1 c4 a0 H4 G4 HF4
 go_wp2_with fail
 go_end0
 refine ⟨rfl, ?_, HF5⟩
 have h := H5.out.wt
 rw [HT5.out, HT4.out, HT3.out, HT2.out, HT1.out] at h
 rw [Wr.pgI, Wr.run_cons, Wr.run_app, Wr.run_app]
 exact h
set_option maxHeartbeats 2000000 in
theorem tell_any (A : An) (v : Value) (w : World) (hq : LiesA w v A) (hz : WfA A) (h3 : 3 < w.heap.size) (ht : PowTab w) :
    Calls Tryd.prog 15 #[v] w fun e w' => e = .returned (.tuple #[.string (Wr.fin (Wr.run Wr.e0 (Wr.anI A))).1, .int .i64 (Wr.fin (Wr.run Wr.e0 (Wr.anI A))).2]) ∧ Below w.heap.size w w' := by
 obtain ⟨vt, vc, rfl, lt, lc⟩ := hq
 have hPG : LiesPg w (.agg #[.bool A.pg.reset, vt, vc, .int .i64 A.pg.cur, .bool A.pg.more]) A.pg := ⟨vt, vc, rfl, lt, lc⟩
 obtain ⟨ta, tc, rfl, _⟩ : ∃ a c, vt = .slice a A.pg.tree.length c ∧ True := by obtain ⟨a, c, h, _⟩ := lt; exact ⟨a, c, h, trivial⟩
 obtain ⟨ca, cc, rfl⟩ := liesO_shape lc
 have HP := hid (fun (b : Nat) (s : Ws) (W : World) (hw : Below w.heap.size w W) (h : Wt w.heap.size b s W) (hl : s.l.length + 5000000 ≤ 1000000000) (ht : PowTab W) => wpage_any w A.pg _ b s W hPG hw h hl h3 ht hz.p)
 clear hPG
 obtain ⟨er, nu, rs, T, C, cu, mo⟩ := A
 simp only at lt lc HP ⊢
 have HANI := hid (show ∀ s : Ws, Wr.run s (Wr.anI ⟨er, nu, ⟨rs, T, C, cu, mo⟩⟩) = Wr.run (Wr.num (Wr.num s er) nu) (Wr.pgI ⟨rs, T, C, cu, mo⟩) from fun s => rfl)
 rw [HANI.out]
 obtain ⟨PI, hPI⟩ : ∃ x, x = Wr.pgI ⟨rs, T, C, cu, mo⟩ := ⟨_, rfl⟩
 rw [← hPI] at HP ⊢
 obtain ⟨tl, htl⟩ : ∃ n, n = T.length := ⟨_, rfl⟩
 obtain ⟨cl, hcl⟩ : ∃ n, n = C.length := ⟨_, rfl⟩
 rw [← htl, ← hcl] at HP ⊢
 obtain ⟨B, hB⟩ : ∃ B, B = w.heap.size := ⟨_, rfl⟩
 obtain ⟨wz, hwz⟩ : ∃ wz, wz = w.alloc (.cells #[.int .i64 er, .int .i64 nu, .bool rs, .slice ta tl tc, .slice ca cl cc, .int .i64 cu, .bool mo] 40) := ⟨_, rfl⟩
 have sz : wz.heap.size = w.heap.size + 1 := by rw [hwz]; simp
 have hbz : Below w.heap.size w wz := by rw [hwz]; exact below_alloc _ _
 obtain ⟨w0, hw0⟩ : ∃ w0, w0 = wz.alloc (.cells #[.pointer none, .slice none 0 0, .bool false, .bool false] 53) := ⟨_, rfl⟩
 have hb0 : Below wz.heap.size wz w0 := by rw [hw0]; exact below_alloc _ _
 have hbw : Below w.heap.size w w0 := hbz.trans (hb0.mono (by omega))
 obtain ⟨b, hb⟩ : ∃ b, b = w.heap.size + 1 := ⟨_, rfl⟩
 have hwr : w0.heap[b]? = some (.cells #[.pointer none, .slice none 0 0, .bool false, .bool false] 53 (0, 0)) := by rw [hb, ← sz, hw0]; exact heap_alloc_new wz _
 have hmm : w0.heap[w.heap.size]? = some (.cells (List.toArray [.int .i64 er, .int .i64 nu, .bool rs, .slice ta tl tc, .slice ca cl cc, .int .i64 cu, .bool mo]) 40 (0, 0)) := by rw [hb0.block _ (by omega), hwz]; exact heap_alloc_new w _
 have H0 := hid (Wk.mk (B := B) (b := b) (wt_new w0 B b (by omega) hwr) hmm (ht.belowB h3 hbw) (by omega) (by decide) (by omega))
 have HF0 : Fr B b w0 w0 := Fr.refl _ _ _
 have HB := hid (And.intro hB hbw)
 have HC := hid hz
 have HW := hid (show (w.alloc (.cells #[.int .i64 er, .int .i64 nu, .bool rs, .slice ta tl tc, .slice ca cl cc, .int .i64 cu, .bool mo] 40)).alloc (.cells #[.pointer none, .slice none 0 0, .bool false, .bool false] 53) = w0 from by rw [← hwz, ← hw0])
 have hb2 : w.heap.size + 1 = b := hb.symm
 have HB2 := hid hb2
 clear ht lt lc hz hwz hw0 hwr hmm sz hbz hb0 hbw hB hPI htl hcl hb hb2
 obtain ⟨t0, ht0⟩ : ∃ tq, tq = Wr.e0 := ⟨_, rfl⟩
 rw [← ht0] at H0 ⊢
 have l0 : t0.l.length = 0 := by rw [ht0]; rfl
 clear ht0
 go_enter Tryd.func15, Tryd.ntmps15
 go_upto_region 2 with fail
 rw [HW.out, HB2.out]
 clear HW
 have c0 := H0.out.cell 0 rfl
 go_wp2_with fail
 refine (wnum_any B b t0 er w0 H0.out.wt HC.out.e (by omega) H0.out.b3 H0.out.tab).mono ?_
 rintro e w1 ⟨rfl, h1, hf1⟩
 obtain ⟨t1, ht1⟩ : ∃ tq, tq = Wr.num t0 er := ⟨_, rfl⟩
 have L1 : t1.l.length ≤ t0.l.length + 1021 := by rw [ht1]; exact Wr.put_len (s := t0) (x := .n er) HC.out.e
 rw [← ht1] at h1
 have HT1 := hid ht1
 have H1 := hid (H0.out.step h1 hf1)
 have HF1 := HF0.trans hf1
 clear ht1 h1 hf1 c0 H0 HF0
 have c1 := H1.out.cell 1 rfl
 go_wp2_with fail
 refine (wnum_any B b t1 nu w1 H1.out.wt HC.out.n (by omega) H1.out.b3 H1.out.tab).mono ?_
 rintro e w2 ⟨rfl, h1, hf1⟩
 obtain ⟨t2, ht1⟩ : ∃ tq, tq = Wr.num t1 nu := ⟨_, rfl⟩
 have L2 : t2.l.length ≤ t1.l.length + 1021 := by rw [ht1]; exact Wr.put_len (s := t1) (x := .n nu) HC.out.n
 rw [← ht1] at h1
 have HT2 := hid ht1
 have H2 := hid (H1.out.step h1 hf1)
 have HF2 := HF1.trans hf1
 clear ht1 h1 hf1 c1 H1 HF1
 have c2 := H2.out.cell 2 rfl
 have c3 := H2.out.cell 3 rfl
 have c4 := H2.out.cell 4 rfl
 have c5 := H2.out.cell 5 rfl
 have c6 := H2.out.cell 6 rfl
 have HN := hid (show t2.l ≠ [] from by rw [HT2.out]; exact Wr.num_ne)
 go_wp2_with fail
 refine (HP.out b t2 w2 (HB.out.2.trans (by rw [← HB.out.1]; exact HF2.1)) (by rw [← HB.out.1]; exact H2.out.wt) (by omega) H2.out.tab).mono ?_
 rintro e w3 ⟨rfl, h3', hf3⟩
 rw [← HB.out.1] at h3' hf3
 have HQ := hid (written_any B b _ w3 h3' (Wr.run_ne HN.out))
 clear c2 c3 c4 c5 c6 h3' HP
 go_wp2_with fail
 refine HQ.out.mono ?_
 rintro e w4 ⟨rfl, hb4⟩
 go_wp2_with fail
 go_ret2
 rw [HT2.out, HT1.out]
 refine ⟨rfl, ?_⟩
 rw [HB.out.1] at HF2 hf3 hb4
 exact HB.out.2.trans (HF2.1.trans (hf3.1.trans hb4))
end Go.Proofs.YthgjdgpjkcmcdaaDoor
