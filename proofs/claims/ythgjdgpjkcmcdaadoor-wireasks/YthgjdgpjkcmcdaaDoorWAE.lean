/- The document's Writer: numbers, texts. -/
import Derived.Test.YthgjdgpjkcmcdaaDoorWAD
import Derived.Test.YthgjdgpjkcmcdaaDoorWAB
import Derived.Test.YthgjdgpjkcmcdaaDoorWAA
import Derived.Test.YthgjdgpjkcmcdaaDoorRows
import Derived.Deep.Slices
import Derived.Lib.SmallJoins
import Derived.Carry
import Derived.SizedLaws
import Derived.LaidLaws
set_option linter.unusedSimpArgs false
set_option linter.unusedVariables false
namespace Go.Proofs.YthgjdgpjkcmcdaaDoor
open Go.RowKit

namespace Wr
def numR (s : Ws) (n : Int) : Ws := if near n = true then ⟨s.l ++ (Lib.itoa n ++ [59]), s.mn, s.fr⟩ else ⟨s.l, s.mn, true⟩
def txtR (s : Ws) (x : ByteArray) : Ws := if 1000 < x.size then much s else ⟨(numR s x.size).l ++ x.data.toList, s.mn, s.fr⟩
def putR (s : Ws) : It → Ws
 | .n n => numR s n
 | .t x => txtR s x
 | .big => much s
def runR (s : Ws) (l : List It) : Ws := l.foldl putR s
theorem runR_app (s : Ws) (a b : List It) : runR s (a ++ b) = runR (runR s a) b := by simp [runR]
theorem runR_cons (s : Ws) (x : It) (a : List It) : runR s (x :: a) = runR (putR s x) a := rfl
theorem near_len {x : ByteArray} (h : ¬ 1000 < x.size) : near x.size = true := by rw [near_iff]; omega
/-- The two writers: the same, but what is written once a number was too far. -/
def Alike (s r : Ws) : Prop := s.mn = r.mn ∧ s.fr = r.fr ∧ (s.fr = false → s.l = r.l)
theorem alike_put {s r : Ws} (h : Alike s r) : ∀ x : It, Alike (put s x) (putR r x)
 | .n n => by
  obtain ⟨h1, h2, h3⟩ := h
  cases hn : near n with
  | true => simp only [put, putR, num, numR, hn, if_true, Alike]; exact ⟨h1, by simp [h2], fun hf => by rw [h3 (by simpa using hf)]⟩
  | false => simp only [put, putR, num, numR, hn, Alike]; exact ⟨by simpa using h1, by simp, by simp⟩
 | .t x => by
  obtain ⟨h1, h2, h3⟩ := h
  by_cases hx : 1000 < x.size
  · simp only [put, putR, txt, txtR, if_pos hx, much, Alike]; exact ⟨trivial, h2, h3⟩
  · have hn := near_len hx
    simp only [put, putR, txt, txtR, if_neg hx, num, numR, hn, if_true, Alike]; exact ⟨h1, by simp [h2], fun hf => by rw [h3 (by simpa using hf)]⟩
 | .big => by
  obtain ⟨h1, h2, h3⟩ := h
  simp only [put, putR, much, Alike]; exact ⟨trivial, h2, h3⟩
theorem alike_run : ∀ (l : List It) {s r : Ws}, Alike s r → Alike (run s l) (runR r l)
 | [], _, _, h => h
 | x :: l, _, _, h => alike_run l (alike_put h x)
theorem fin_alike {s r : Ws} (h : Alike s r) : fin s = fin r := by
 obtain ⟨h1, h2, h3⟩ := h
 unfold fin
 rw [h1, h2]
 split
 · rfl
 · split
   · rfl
   · rename_i hf; rw [h3 (by rw [h2]; simpa using hf)]
theorem numR_len {s : Ws} {n : Int} (h : I64 n) : (numR s n).l.length ≤ s.l.length + 21 := by
 unfold numR
 have := itoa_len h
 split
 · simp; omega
 · simp
theorem putR_len {s : Ws} {x : It} (h : x.wf) : (putR s x).l.length ≤ s.l.length + 1021 := by
 cases x with
 | n n => have := numR_len (s := s) (n := n) h; simp only [putR]; omega
 | t x =>
  simp only [putR, txtR]
  split
  · simp [much]
  · rename_i hx
    have := numR_len (s := s) (n := x.size) ⟨by omega, by omega⟩
    have hz : x.data.toList.length = x.size := (Lib.size_eq x).symm
    simp only [List.length_append, hz]; omega
 | big => simp [putR, much]
theorem runR_len : ∀ (l : List It) (s : Ws), (∀ x ∈ l, x.wf) → (runR s l).l.length ≤ s.l.length + 1021 * l.length
 | [], s, _ => by simp [runR]
 | x :: l, s, h => by
  have h1 := runR_len l (putR s x) (fun y hy => h y (List.mem_cons_of_mem _ hy))
  have h2 := putR_len (s := s) (h x (by simp))
  rw [runR_cons, List.length_cons]; omega
end Wr
/-- The document's writer in a block of its own. -/
def RW (b : Nat) (s : Ws) (w : World) : Prop := w.heap[b]? = some (.cells #[.string ⟨s.l.toArray⟩, .bool s.mn, .bool s.fr] 61 (0, 0))
theorem RW.cs {b : Nat} {s : Ws} {w : World} (h : RW b s w) : Cs w b [.string ⟨s.l.toArray⟩, .bool s.mn, .bool s.fr] := ⟨_, h⟩
theorem RW.lt {b : Nat} {s : Ws} {w : World} (h : RW b s w) : b < w.heap.size := heap_lt h
theorem RW.below {b : Nat} {s : Ws} {w w' : World} (h : RW b s w) (hb : Below w.heap.size w w') : RW b s w' := (hb.block b h.lt).trans h
theorem RW.set {b : Nat} {s : Ws} {w : World} (h : RW b s w) (i : Nat) (u : Value) (cs : List Value) (hc : [.string ⟨s.l.toArray⟩, .bool s.mn, .bool s.fr].set i u = cs) : (w.setCell ⟨b, i, none⟩ u).heap[b]? = some (.cells cs.toArray 61 (0, 0)) := by
 unfold World.setCell
 unfold RW at h
 simp only [Array.getElem?_modify, h, if_true, Option.map_some]
 rw [← hc]; simp
theorem RW.put {b : Nat} {s : Ws} {w : World} (h : RW b s w) (l : List UInt8) : RW b ⟨l, s.mn, s.fr⟩ (w.setCell ⟨b, 0, none⟩ (.string ⟨l.toArray⟩)) := h.set 0 _ _ rfl
theorem RW.great {b : Nat} {s : Ws} {w : World} (h : RW b s w) : RW b (Wr.much s) (w.setCell ⟨b, 1, none⟩ (.bool true)) := h.set 1 _ _ rfl
theorem RW.far {b : Nat} {s : Ws} {w : World} (h : RW b s w) : RW b ⟨s.l, s.mn, true⟩ (w.setCell ⟨b, 2, none⟩ (.bool true)) := h.set 2 _ _ rfl
set_option maxHeartbeats 1000000 in
theorem rwnum_any (b : Nat) (s : Ws) (n : Int) (w : World) (h : RW b s w) (hn : I64 n) (hlen : s.l.length ≤ 1000000000) :
    Calls Tryd.prog 25 #[.pointer (some ⟨b, 0, none⟩), .int .i64 n] w fun e w' => e = .returned (.tuple #[]) ∧ RW b (Wr.numR s n) w' ∧ w.grownBy w' (some b) := by
 have c0 := h.cs.cell 0 rfl
 have f0 := h.cs.fr 0
 have c2 := h.cs.cell 2 rfl
 have f2 := h.cs.fr 2
 have HB := hid h
 have hbl := h.lt
 cases hq : Wr.near n with
 | false =>
  have HN := hid (show Wr.numR s n = ⟨s.l, s.mn, true⟩ from by rw [Wr.numR, hq]; rfl)
  by_cases h1 : n < -1099511627776
  · go_enter Tryd.func25, Tryd.ntmps25
    go_wp2_with fail
    refine bodyPost_ret (results_none rfl _ _ _) rfl ⟨rfl, ?_, nb_set _ b 2 _⟩
    rw [HN.out]; exact HB.out.far
  · have h2 : 1099511627776 < n := by
     rcases Int.lt_or_le 1099511627776 n with h2 | h2
     · exact h2
     · rw [Wr.near_iff.2 ⟨by omega, h2⟩] at hq; cases hq
    go_enter Tryd.func25, Tryd.ntmps25
    go_wp2_with fail
    refine bodyPost_ret (results_none rfl _ _ _) rfl ⟨rfl, ?_, nb_set _ b 2 _⟩
    rw [HN.out]; exact HB.out.far
 | true =>
  have HN := hid (show Wr.numR s n = ⟨s.l ++ (Lib.itoa n ++ [59]), s.mn, s.fr⟩ from by rw [Wr.numR, hq]; rfl)
  obtain ⟨h1, h2⟩ := Wr.near_iff.1 hq
  have n1 : ¬ n < -1099511627776 := by omega
  have n2 : ¬ 1099511627776 < n := by omega
  have HD := hid (fun W => decX n W (by omega))
  have hil := Wr.itoa_len hn
  have z1 : (⟨(Lib.itoa n).toArray⟩ : ByteArray).size = (Lib.itoa n).length := by rw [Lib.size_eq]
  have z2 : (⟨s.l.toArray⟩ : ByteArray).size = s.l.length := by rw [Lib.size_eq]
  have hA : Op.stringOp BinOp.add ⟨(Lib.itoa n).toArray⟩ ⟨#[59]⟩ = pure (.string (⟨(Lib.itoa n).toArray⟩ ++ ⟨#[59]⟩)) := by
   unfold Op.stringOp
   exact if_neg (by rw [z1]; show ¬ (((Lib.itoa n).length + 1 : Nat) : Int) > 9223372036854775807; omega)
  have HQ := hid (show (⟨(Lib.itoa n).toArray⟩ : ByteArray) ++ ⟨#[59]⟩ = (⟨(Lib.itoa n ++ [59]).toArray⟩ : ByteArray) from Pp.bytes_eq (by rw [Joins.data_append]))
  rw [HQ.out] at hA
  have z3 : (⟨(Lib.itoa n ++ [59]).toArray⟩ : ByteArray).size = (Lib.itoa n).length + 1 := by rw [Lib.size_eq]; simp
  have hA2 : Op.stringOp BinOp.add ⟨s.l.toArray⟩ ⟨(Lib.itoa n ++ [59]).toArray⟩ = pure (.string (⟨s.l.toArray⟩ ++ ⟨(Lib.itoa n ++ [59]).toArray⟩)) := by
   unfold Op.stringOp
   exact if_neg (by rw [z2, z3]; show ¬ ((s.l.length + ((Lib.itoa n).length + 1) : Nat) : Int) > 9223372036854775807; omega)
  have HQ2 := hid (show (⟨s.l.toArray⟩ : ByteArray) ++ ⟨(Lib.itoa n ++ [59]).toArray⟩ = (⟨(s.l ++ (Lib.itoa n ++ [59])).toArray⟩ : ByteArray) from Pp.bytes_eq (by rw [Joins.data_append]))
  rw [HQ2.out] at hA2
  generalize s.l ++ (Lib.itoa n ++ [59]) = l2 at *
  generalize (Lib.itoa n ++ [59]) = l1 at *
  generalize hi : Lib.itoa n = l0 at *
  clear hq h z1 z2 z3 hil hi
  have HW0 := hid (show ∀ W : World, Below w.heap.size w W → W.cell? ⟨b, 0, none⟩ = some (.string ⟨s.l.toArray⟩) ∧ W.frozen? ⟨b, 0, none⟩ = false from fun W hW => ⟨(HB.out.cs.belowAt hW hbl).cell 0 rfl, (HB.out.cs.belowAt hW hbl).fr 0⟩)
  have hdr : ∀ W : World, Below W.heap.size W W.drew := fun W => (Below.refl _ _).drew
  have d0 : w.drew.cell? ⟨b, 0, none⟩ = some (.string ⟨s.l.toArray⟩) := c0
  have d1 : w.drew.frozen? ⟨b, 0, none⟩ = false := f0
  go_enter Tryd.func25, Tryd.ntmps25
  go_wp2_with fail
  go_region_with (go_at_call 54; refine (HD.out _).mono ?_; rintro e w1 ⟨rfl, hb1'⟩; have hb1 := (hdr w).trans hb1'; obtain ⟨k0, k1⟩ := HW0.out w1 hb1)
  all_goals (go_wp2_with fail; go_end0; exact ⟨rfl, by rw [HN.out]; exact (HB.out.below hb1).put _, nb_tr (nb_below b hb1) (nb_set _ b 0 _)⟩)
set_option maxHeartbeats 1000000 in
theorem rwtxt_any (b : Nat) (s : Ws) (x : ByteArray) (w : World) (h : RW b s w) (hlen : s.l.length ≤ 1000000000) (hx : (x.size : Int) ≤ 9223372036854775807) :
    Calls Tryd.prog 26 #[.pointer (some ⟨b, 0, none⟩), .string x] w fun e w' => e = .returned (.tuple #[]) ∧ RW b (Wr.txtR s x) w' ∧ w.grownBy w' (some b) := by
 have c1 := h.cs.cell 1 rfl
 have f1 := h.cs.fr 1
 by_cases hx0 : 1000 < x.size
 · have HN := hid (show Wr.txtR s x = Wr.much s from by rw [Wr.txtR, if_pos hx0])
   have HB := hid h
   have h1 : (1000 : Int) < x.size := by omega
   go_enter Tryd.func26, Tryd.ntmps26
   go_wp2_with fail
   refine bodyPost_ret (results_none rfl _ _ _) rfl ⟨rfl, ?_, nb_set _ b 1 _⟩
   rw [HN.out]; exact HB.out.great
 · have hnr := Wr.near_len hx0
   have HN := hid (show Wr.txtR s x = ⟨(Wr.numR s x.size).l ++ x.data.toList, (Wr.numR s x.size).mn, (Wr.numR s x.size).fr⟩ from by rw [Wr.txtR, if_neg hx0, Wr.numR, hnr]; rfl)
   have HK := hid (rwnum_any b s x.size w h ⟨by omega, by omega⟩ hlen)
   have hl := Wr.numR_len (s := s) (n := x.size) ⟨by omega, by omega⟩
   have h1 : ¬ (1000 : Int) < x.size := by omega
   generalize Wr.numR s x.size = s1 at *
   have z1 : (⟨s1.l.toArray⟩ : ByteArray).size = s1.l.length := by rw [Lib.size_eq]
   have z2 : s1.l.length + x.size ≤ 1000001021 := by omega
   have HQ := hid (show (⟨s1.l.toArray⟩ : ByteArray) ++ x = (⟨(s1.l ++ x.data.toList).toArray⟩ : ByteArray) from Pp.bytes_eq (by rw [Joins.data_append]))
   have hA : Op.stringOp BinOp.add ⟨s1.l.toArray⟩ x = pure (.string (⟨s1.l.toArray⟩ ++ x)) := by
    unfold Op.stringOp
    exact if_neg (by rw [z1]; show ¬ ((s1.l.length + x.size : Nat) : Int) > 9223372036854775807; omega)
   rw [HQ.out] at hA
   clear h hnr z1
   go_enter Tryd.func26, Tryd.ntmps26
   go_wp2_with fail
   refine HK.out.mono ?_
   rintro e w1 ⟨rfl, hw1, hb1⟩
   have d0 := hw1.cs.cell 0 rfl
   have d1 := hw1.cs.fr 0
   have HW1 := hid hw1
   clear hw1
   go_wp2_with fail
   go_end0
   exact ⟨rfl, by rw [HN.out]; exact HW1.out.put _, nb_tr hb1 (nb_set _ b 0 _)⟩
end Go.Proofs.YthgjdgpjkcmcdaaDoor
namespace Go.Proofs.YthgjdgpjkcmcdaaDoor
open Go.RowKit

namespace Wr
theorem fmR_next {α : Type} (f : α → List It) (s : Ws) (xs : List α) (k : Nat) (h : k < xs.length) : runR s ((xs.take (k + 1)).flatMap f) = runR (runR s ((xs.take k).flatMap f)) (f xs[k]) := by
 rw [List.take_succ_eq_append_getElem h, List.flatMap_append, runR_app]; simp
theorem fmR_len {α : Type} (f : α → List It) (m : Nat) (s : Ws) (xs : List α) (k : Nat) (h : ∀ x ∈ xs, (f x).length ≤ m ∧ ∀ y ∈ f x, y.wf) : (runR s ((xs.take k).flatMap f)).l.length ≤ s.l.length + 1021 * (m * xs.length) := by
 have h1 := runR_len ((xs.take k).flatMap f) s (fun y hy => by
  obtain ⟨x, hx, hy⟩ := List.mem_flatMap.1 hy
  exact (h x (List.mem_of_mem_take hx)).2 y hy)
 have h2 := fm_count f m (xs.take k) (fun x hx => (h x (List.mem_of_mem_take hx)).1)
 have h3 : (xs.take k).length ≤ xs.length := by rw [List.length_take]; omega
 have h4 : m * (xs.take k).length ≤ m * xs.length := Nat.mul_le_mul_left m h3
 omega
end Wr
set_option maxHeartbeats 2000000 in
theorem rwchs_any (W0 : World) (cs : List Pp.Ch) (v : Value) (b : Nat) (s : Ws) (w : World) (hL : LiesC W0 v cs) (hW : Below W0.heap.size W0 w) (hB : W0.heap.size ≤ b) (h : RW b s w) (hlen : s.l.length + 200000 ≤ 1000000000) (hc : ∀ c ∈ cs, WfC c) :
    Calls Tryd.prog 27 #[.pointer (some ⟨b, 0, none⟩), v] w fun e w' => e = .returned (.tuple #[]) ∧ RW b (Wr.runR s (Wr.lst 20 Wr.chI cs)) w' ∧ w.grownBy w' (some b) := by
 obtain ⟨a, cap, rfl, hcap, hcap2, hLL⟩ := hL
 have hBw := hW.size
 by_cases hn : (cs.length : Int) ≤ 20
 · have HN := hid (rwnum_any b s cs.length w h ⟨by omega, by omega⟩ (by omega))
   have l1 := Wr.numR_len (s := s) (n := cs.length) ⟨by omega, by omega⟩
   have HL := hid (show ∀ k, (Wr.runR (Wr.numR s cs.length) ((cs.take k).flatMap Wr.chI)).l.length + 6000 ≤ 1000000000 from fun k => by
    have := Wr.fmR_len Wr.chI 5 (Wr.numR s cs.length) cs k (fun x hx => (hc x hx).it)
    omega)
   have HE := hid (show Wr.runR (Wr.numR s cs.length) ((cs.take cs.length).flatMap Wr.chI) = Wr.runR s (Wr.lst 20 Wr.chI cs) from by rw [List.take_length, Wr.lst, if_pos (by omega)]; rfl)
   have HC := hid hc
   have HM := hid hLL
   have HW := hid hW
   have hn2 : ¬ (20 : Int) < cs.length := by omega
   clear h hc hLL hW hn
   go_enter Tryd.func27, Tryd.ntmps27
   go_wp2_with fail
   refine HN.out.mono ?_
   rintro e w1 ⟨rfl, h1, hb1⟩
   have H1 := hid (show RW b (Wr.runR (Wr.numR s cs.length) ((cs.take 0).flatMap Wr.chI)) w1 from h1)
   clear h1 HN
   go_wp2_with fail
   go_loopw [4] (fun i wr => ∃ k : Nat, k ≤ cs.length ∧ i = .int .i64 k ∧ Hid (RW b (Wr.runR (Wr.numR s cs.length) ((cs.take k).flatMap Wr.chI)) wr) ∧ w.grownBy wr (some b)) (fun i _ => cs.length - (intOf i).toNat)
   case atStart => exact ⟨0, Nat.zero_le _, rfl, H1, hb1⟩
   case round =>
    obtain ⟨k, hk, rfl, HV, hf⟩ := hrel
    by_cases hlt : k < cs.length
    · obtain ⟨bb, o, rfl, hbb, he⟩ := HM.out k hlt
      have hwf := HC.out _ (List.getElem_mem hlt)
      have hl0 := HL.out k
      have HX := hid (Wr.fmR_next Wr.chI (Wr.numR s cs.length) cs k hlt)
      have HBl := hid (show ∀ W, w.grownBy W (some b) → ChAt W bb (o + k * 5) cs[k] from fun W hg => he.below hbb (HW.out.trans (nb_low hg hB hBw)))
      generalize Wr.runR (Wr.numR s cs.length) ((cs.take k).flatMap Wr.chI) = t at *
      generalize cs[k] = c at *
      have t1 := Wr.numR_len (s := t) (n := c.k) hwf.k
      have t2 := Wr.putR_len (s := Wr.numR t c.k) (x := .t c.p) trivial
      have t3 := Wr.putR_len (s := Wr.txtR (Wr.numR t c.k) c.p) (x := .t c.q) trivial
      have t4 := Wr.putR_len (s := Wr.txtR (Wr.txtR (Wr.numR t c.k) c.p) c.q) (x := .t c.t) trivial
      simp only [Wr.putR] at t2 t3 t4
      clear he
      obtain ⟨c0, c1, c2, c3, c4⟩ := HBl.out wr hf
      go_wp2_with fail
      refine (rwnum_any b t c.k wr HV.out hwf.k (by omega)).mono ?_
      rintro e w2 ⟨rfl, h2, hb2⟩
      have hf2 := nb_tr hf hb2
      have H2 := hid h2
      clear h2 hb2 c0 c1 c2 c3 c4
      obtain ⟨c0, c1, c2, c3, c4⟩ := HBl.out w2 hf2
      go_wp2_with fail
      refine (rwtxt_any b _ c.p w2 H2.out (by omega) hwf.p).mono ?_
      rintro e w3 ⟨rfl, h3, hb3⟩
      have hf3 := nb_tr hf2 hb3
      have H3 := hid h3
      clear h3 hb3 c0 c1 c2 c3 c4
      obtain ⟨c0, c1, c2, c3, c4⟩ := HBl.out w3 hf3
      go_wp2_with fail
      refine (rwtxt_any b _ c.q w3 H3.out (by omega) hwf.q).mono ?_
      rintro e w4 ⟨rfl, h4, hb4⟩
      have hf4 := nb_tr hf3 hb4
      have H4 := hid h4
      clear h4 hb4 c0 c1 c2 c3 c4
      obtain ⟨c0, c1, c2, c3, c4⟩ := HBl.out w4 hf4
      go_wp2_with fail
      refine (rwtxt_any b _ c.t w4 H4.out (by omega) hwf.t).mono ?_
      rintro e w5 ⟨rfl, h5, hb5⟩
      have hf5 := nb_tr hf4 hb5
      have H5 := hid h5
      clear h5 hb5 c0 c1 c2 c3 c4
      obtain ⟨c0, c1, c2, c3, c4⟩ := HBl.out w5 hf5
      go_wp2_with fail
      refine (rwnum_any b _ c.b w5 H5.out hwf.b (by omega)).mono ?_
      rintro e w6 ⟨rfl, h6, hb6⟩
      have hf6 := nb_tr hf5 hb6
      have H6 := hid h6
      clear h6 hb6 c0 c1 c2 c3 c4
      go_wp2_with fail
      go_roundw
      case rel => exact ⟨k + 1, by omega, by simp, hid (by rw [HX.out]; exact H6.out), hf6⟩
      case measure => simp [intOf]; omega
    · obtain rfl : k = cs.length := by omega
      go_wp2_with fail
      go_end0
      exact ⟨rfl, by rw [← HE.out]; exact HV.out, hf⟩
 · have c1 := h.cs.cell 1 rfl
   have f1 := h.cs.fr 1
   have HB := hid h
   have hn2 : (20 : Int) < cs.length := by omega
   have HE := hid (show Wr.runR s (Wr.lst 20 Wr.chI cs) = Wr.much s from by rw [Wr.lst, if_neg (by omega)]; rfl)
   go_enter Tryd.func27, Tryd.ntmps27
   go_wp2_with fail
   refine bodyPost_ret (results_none rfl _ _ _) rfl ⟨rfl, ?_, nb_set _ b 1 _⟩
   rw [HE.out]; exact HB.out.great
theorem rwdone_any (b : Nat) (s : Ws) (w : World) (h : RW b s w) :
    Calls Tryd.prog 28 #[.pointer (some ⟨b, 0, none⟩)] w fun e w' => e = .returned (.tuple #[.string (Wr.fin s).1, .int .i64 (Wr.fin s).2]) ∧ w' = w := by
 have c0 := h.cs.cell 0 rfl
 have c1 := h.cs.cell 1 rfl
 have c2 := h.cs.cell 2 rfl
 clear h
 obtain ⟨l, m, f⟩ := s
 cases m with
 | true =>
  rw [Ws.fin_many rfl]
  go_enter Tryd.func28, Tryd.ntmps28
  go_wp2_with fail
  go_ret2
  exact ⟨rfl, rfl⟩
 | false =>
  cases f with
  | true =>
   rw [Ws.fin_far rfl rfl]
   go_enter Tryd.func28, Tryd.ntmps28
   go_wp2_with fail
   go_ret2
   exact ⟨rfl, rfl⟩
  | false =>
   rw [Ws.fin_ok rfl rfl]
   go_enter Tryd.func28, Tryd.ntmps28
   go_wp2_with fail
   go_ret2
   exact ⟨rfl, rfl⟩
set_option maxHeartbeats 2000000 in
theorem askOf_any (q : Rq) (v : Value) (w : World) (hq : LiesQ w v q) (hz : WfQ q) :
    Calls Tryd.prog 9 #[v] w fun e w' => e = .returned (.tuple #[.string (Wr.fin (Wr.run Wr.e0 (Wr.rqI q))).1, .int .i64 (Wr.fin (Wr.run Wr.e0 (Wr.rqI q))).2]) ∧ Below w.heap.size w w' := by
 rw [Wr.fin_alike (Wr.alike_run (Wr.rqI q) (⟨rfl, rfl, fun _ => rfl⟩ : Wr.Alike Wr.e0 Wr.e0))]
 obtain ⟨va, rfl, hL⟩ := hq
 obtain ⟨kind, who, fo, name, key, text, num, off, base, ch⟩ := q
 obtain ⟨zk, zn, zo, zb, z1, z2, z3, z4, z5, zc⟩ := hz
 simp only at hL zk zn zo zb z1 z2 z3 z4 z5 zc ⊢
 obtain ⟨av, cv, rfl, hcv⟩ : ∃ av cv, va = .slice av ch.length cv ∧ True := by obtain ⟨a, c, h, _⟩ := hL; exact ⟨a, c, h, trivial⟩
 obtain ⟨wa, hwa⟩ : ∃ wa, wa = w.alloc (.cells #[.int .i64 kind, .string who, .string fo, .string name, .string key, .string text, .int .i64 num, .int .i64 off, .int .i64 base, .slice av ch.length cv] 24) := ⟨_, rfl⟩
 obtain ⟨wb, hwb⟩ : ∃ wb, wb = wa.alloc (.cells #[.string ⟨#[]⟩, .bool false, .bool false] 61) := ⟨_, rfl⟩
 have sa : wa.heap.size = w.heap.size + 1 := by rw [hwa]; simp
 have hba : Below w.heap.size w wa := by rw [hwa]; exact below_alloc _ _
 have hbb : Below wa.heap.size wa wb := by rw [hwb]; exact below_alloc _ _
 have hab : Below w.heap.size w wb := hba.trans (hbb.mono (by omega))
 have hm0 : Cs wb w.heap.size [.int .i64 kind, .string who, .string fo, .string name, .string key, .string text, .int .i64 num, .int .i64 off, .int .i64 base, .slice av ch.length cv] := Cs.below (show Cs wa w.heap.size [.int .i64 kind, .string who, .string fo, .string name, .string key, .string text, .int .i64 num, .int .i64 off, .int .i64 base, .slice av ch.length cv] by rw [hwa]; exact Cs.new w [.int .i64 kind, .string who, .string fo, .string name, .string key, .string text, .int .i64 num, .int .i64 off, .int .i64 base, .slice av ch.length cv] _) hbb
 have h0 : RW (w.heap.size + 1) Wr.e0 wb := by
  unfold RW; rw [← sa, hwb]; exact heap_alloc_new wa _
 have HM := hid (show ∀ W, wb.grownBy W (some (w.heap.size + 1)) → Cs W w.heap.size [.int .i64 kind, .string who, .string fo, .string name, .string key, .string text, .int .i64 num, .int .i64 off, .int .i64 base, .slice av ch.length cv] from fun W hg => hm0.nb hg (by omega))
 have HLW := hid (show ∀ W, wb.grownBy W (some (w.heap.size + 1)) → Below w.heap.size w W from fun W hg => hab.trans (nb_low hg (by omega) hab.size))
 have l0 : Wr.e0.l.length = 0 := rfl
 have HL := hid hL
 have HC := hid zc
 have HK := hid (rwnum_any (w.heap.size + 1) Wr.e0 kind wb h0 zk (by omega))
 rw [hwb, hwa] at HK
 have HWB := hid (show wb = (w.alloc (.cells #[.int .i64 kind, .string who, .string fo, .string name, .string key, .string text, .int .i64 num, .int .i64 off, .int .i64 base, .slice av ch.length cv] 24)).alloc (.cells #[.string ⟨#[]⟩, .bool false, .bool false] 61) from by rw [hwb, hwa])
 clear hwb hwa sa hbb hba hm0 h0 hab hL hcv zc
 go_enter Tryd.func9, Tryd.ntmps9
 go_wp2_with fail
 refine HK.out.mono ?_
 rintro e w1 ⟨rfl, h1, hf1⟩
 rw [← HWB.out] at hf1
 obtain ⟨t1, ht1⟩ : ∃ t, t = Wr.numR Wr.e0 kind := ⟨_, rfl⟩
 have L1 := Wr.numR_len (s := Wr.e0) zk
 rw [← ht1] at h1 L1
 have HT1 := hid ht1
 have H1 := hid h1
 clear ht1 h1 HK HWB
 have c1 := (HM.out w1 hf1).cell 1 rfl
 go_wp2_with fail
 refine (rwtxt_any (w.heap.size + 1) t1 who w1 H1.out (by omega) z1).mono ?_
 rintro e w2 ⟨rfl, h1, hf⟩
 have hf2 := nb_tr hf1 hf
 obtain ⟨t2, ht⟩ : ∃ t, t = Wr.txtR t1 who := ⟨_, rfl⟩
 have L2 := Wr.putR_len (s := t1) (x := .t who) trivial
 simp only [Wr.putR] at L2
 rw [← ht] at h1 L2
 have HT2 := hid ht
 have H2 := hid h1
 clear ht h1 hf c1
 have c2 := (HM.out w2 hf2).cell 2 rfl
 go_wp2_with fail
 refine (rwtxt_any (w.heap.size + 1) t2 fo w2 H2.out (by omega) z2).mono ?_
 rintro e w3 ⟨rfl, h1, hf⟩
 have hf3 := nb_tr hf2 hf
 obtain ⟨t3, ht⟩ : ∃ t, t = Wr.txtR t2 fo := ⟨_, rfl⟩
 have L3 := Wr.putR_len (s := t2) (x := .t fo) trivial
 simp only [Wr.putR] at L3
 rw [← ht] at h1 L3
 have HT3 := hid ht
 have H3 := hid h1
 clear ht h1 hf c2
 have c3 := (HM.out w3 hf3).cell 3 rfl
 go_wp2_with fail
 refine (rwtxt_any (w.heap.size + 1) t3 name w3 H3.out (by omega) z3).mono ?_
 rintro e w4 ⟨rfl, h1, hf⟩
 have hf4 := nb_tr hf3 hf
 obtain ⟨t4, ht⟩ : ∃ t, t = Wr.txtR t3 name := ⟨_, rfl⟩
 have L4 := Wr.putR_len (s := t3) (x := .t name) trivial
 simp only [Wr.putR] at L4
 rw [← ht] at h1 L4
 have HT4 := hid ht
 have H4 := hid h1
 clear ht h1 hf c3
 have c4 := (HM.out w4 hf4).cell 4 rfl
 go_wp2_with fail
 refine (rwtxt_any (w.heap.size + 1) t4 key w4 H4.out (by omega) z4).mono ?_
 rintro e w5 ⟨rfl, h1, hf⟩
 have hf5 := nb_tr hf4 hf
 obtain ⟨t5, ht⟩ : ∃ t, t = Wr.txtR t4 key := ⟨_, rfl⟩
 have L5 := Wr.putR_len (s := t4) (x := .t key) trivial
 simp only [Wr.putR] at L5
 rw [← ht] at h1 L5
 have HT5 := hid ht
 have H5 := hid h1
 clear ht h1 hf c4
 have c5 := (HM.out w5 hf5).cell 5 rfl
 go_wp2_with fail
 refine (rwtxt_any (w.heap.size + 1) t5 text w5 H5.out (by omega) z5).mono ?_
 rintro e w6 ⟨rfl, h1, hf⟩
 have hf6 := nb_tr hf5 hf
 obtain ⟨t6, ht⟩ : ∃ t, t = Wr.txtR t5 text := ⟨_, rfl⟩
 have L6 := Wr.putR_len (s := t5) (x := .t text) trivial
 simp only [Wr.putR] at L6
 rw [← ht] at h1 L6
 have HT6 := hid ht
 have H6 := hid h1
 clear ht h1 hf c5
 have c6 := (HM.out w6 hf6).cell 6 rfl
 go_wp2_with fail
 refine (rwnum_any (w.heap.size + 1) t6 num w6 H6.out zn (by omega)).mono ?_
 rintro e w7 ⟨rfl, h1, hf⟩
 have hf7 := nb_tr hf6 hf
 obtain ⟨t7, ht⟩ : ∃ t, t = Wr.numR t6 num := ⟨_, rfl⟩
 have L7 := Wr.numR_len (s := t6) zn
 rw [← ht] at h1 L7
 have HT7 := hid ht
 have H7 := hid h1
 clear ht h1 hf c6
 have c7 := (HM.out w7 hf7).cell 7 rfl
 go_wp2_with fail
 refine (rwnum_any (w.heap.size + 1) t7 off w7 H7.out zo (by omega)).mono ?_
 rintro e w8 ⟨rfl, h1, hf⟩
 have hf8 := nb_tr hf7 hf
 obtain ⟨t8, ht⟩ : ∃ t, t = Wr.numR t7 off := ⟨_, rfl⟩
 have L8 := Wr.numR_len (s := t7) zo
 rw [← ht] at h1 L8
 have HT8 := hid ht
 have H8 := hid h1
 clear ht h1 hf c7
 have c8 := (HM.out w8 hf8).cell 8 rfl
 go_wp2_with fail
 refine (rwnum_any (w.heap.size + 1) t8 base w8 H8.out zb (by omega)).mono ?_
 rintro e w9 ⟨rfl, h1, hf⟩
 have hf9 := nb_tr hf8 hf
 obtain ⟨t9, ht⟩ : ∃ t, t = Wr.numR t8 base := ⟨_, rfl⟩
 have L9 := Wr.numR_len (s := t8) zb
 rw [← ht] at h1 L9
 have HT9 := hid ht
 have H9 := hid h1
 clear ht h1 hf c8
 have c9 := (HM.out w9 hf9).cell 9 rfl
 go_wp2_with fail
 refine (rwchs_any w ch _ (w.heap.size + 1) t9 w9 HL.out (HLW.out w9 hf9) (by omega) H9.out (by omega) HC.out).mono ?_
 rintro e w10 ⟨rfl, h1, hf⟩
 have hf10 := nb_tr hf9 hf
 have HD := hid (rwdone_any (w.heap.size + 1) _ w10 h1)
 clear h1 hf c9
 go_wp2_with fail
 refine HD.out.mono ?_
 rintro e w11 ⟨rfl, rfl⟩
 go_wp2_with fail
 go_ret2
 refine ⟨?_, HLW.out _ hf10⟩
 rw [show Wr.runR Wr.e0 (Wr.rqI ⟨kind, who, fo, name, key, text, num, off, base, ch⟩) = Wr.runR t9 (Wr.lst 20 Wr.chI ch) from by
  rw [Wr.rqI, Wr.runR_app, HT9.out, HT8.out, HT7.out, HT6.out, HT5.out, HT4.out, HT3.out, HT2.out, HT1.out]; rfl]
 rfl
end Go.Proofs.YthgjdgpjkcmcdaaDoor
namespace Go.Proofs.YthgjdgpjkcmcdaaDoor
open Go.RowKit

theorem textIsX (s : ByteArray) (e : Int) (w : World) (h : e ≠ 0 → s = ⟨#[]⟩) :
    Calls Tryd.prog 11 #[.string s, .int .i64 e, .int .i64 e, .string s] w fun e w' => e = .returned (.bool true) ∧ w' = w := by
 by_cases hz : e = 0
 · subst hz
   go_enter Tryd.func11, Tryd.ntmps11
   go_wp2
   go_ret
   exact ⟨rfl, rfl⟩
 · obtain rfl := h hz
   have hz2 : (e == 0) = false := by simpa using hz
   clear hz h
   go_enter Tryd.func11, Tryd.ntmps11
   go_wp2
   go_ret
   exact ⟨rfl, rfl⟩
theorem Wr.fin_none (s : Ws) : (Wr.fin s).2 ≠ 0 → (Wr.fin s).1 = ⟨#[]⟩ := by
 unfold Wr.fin
 split
 · exact fun _ => rfl
 · split
   · exact fun _ => rfl
   · exact fun h => absurd rfl h
set_option maxHeartbeats 1000000 in
theorem wireAsks_walk (q : Rq) (v : Value) (w : World) (hq : LiesQ w v q) (hz : WfQ q) (h6 : 5 < w.heap.size) (hv : VarsW w) :
    Calls Tryd.prog 3 #[v] w fun e w' => e = .returned (.bool true) ∧ Below w.heap.size w w' := by
 have HQ := hid hq
 obtain ⟨va, rfl, hL⟩ := hq
 obtain ⟨av, cv, rfl, hcv⟩ : ∃ av cv, va = .slice av q.ch.length cv ∧ True := by obtain ⟨a, c, h, _⟩ := hL; exact ⟨a, c, h, trivial⟩
 obtain ⟨wa, hwa⟩ : ∃ wa, wa = w.alloc (.cells #[.int .i64 q.kind, .string q.who, .string q.fo, .string q.name, .string q.key, .string q.text, .int .i64 q.num, .int .i64 q.off, .int .i64 q.base, .slice av q.ch.length cv] 24) := ⟨_, rfl⟩
 have hba : Below w.heap.size w wa := by rw [hwa]; exact below_alloc _ _
 have hca : Cs wa w.heap.size [.int .i64 q.kind, .string q.who, .string q.fo, .string q.name, .string q.key, .string q.text, .int .i64 q.num, .int .i64 q.off, .int .i64 q.base, .slice av q.ch.length cv] := by rw [hwa]; exact Cs.new w _ _
 have hLq : ∀ W, Below w.heap.size w W → LiesQ W (.agg #[.int .i64 q.kind, .string q.who, .string q.fo, .string q.name, .string q.key, .string q.text, .int .i64 q.num, .int .i64 q.off, .int .i64 q.base, .slice av q.ch.length cv]) q := fun W hW => ⟨_, rfl, hL.below hW⟩
 have HV := hid (fun W (hW : Below w.heap.size w W) => hv.belowB h6 hW)
 have HLQ := hid hLq
 have HCA := hid (And.intro hba hca)
 have HZ := hid hz
 have HA := hid (ask_any q _ wa (hLq wa hba) hz (by have := hba.size; omega) (hv.belowB h6 hba).pow)
 rw [hwa] at HA
 have HWA := hid hwa
 have HF := hid (Wr.fin_none (Wr.run Wr.e0 (Wr.rqI q)))
 obtain ⟨t, ht⟩ : ∃ t, t = (Wr.fin (Wr.run Wr.e0 (Wr.rqI q))).1 := ⟨_, rfl⟩
 obtain ⟨e0, he0⟩ : ∃ e0, e0 = (Wr.fin (Wr.run Wr.e0 (Wr.rqI q))).2 := ⟨_, rfl⟩
 rw [← ht, ← he0] at HA HF
 have HT := hid (And.intro ht he0)
 clear hwa hba hca hLq hv hz hL hcv ht he0 HQ
 go_enter Tryd.func3, Tryd.ntmps3
 go_wp2_with fail
 refine HA.out.mono ?_
 rintro e w1 ⟨rfl, hb1⟩
 rw [← HWA.out] at hb1
 obtain ⟨hba, hca⟩ := HCA.out
 have hB1 := hba.trans (hb1.mono hba.size)
 have hc1 := hca.below hb1
 have HB := hid (askOf_any q _ w1 (HLQ.out w1 hB1) HZ.out)
 rw [← HT.out.1, ← HT.out.2] at HB
 have y0 := hc1.cell 0 rfl
 have y1 := hc1.cell 1 rfl
 have y2 := hc1.cell 2 rfl
 have y3 := hc1.cell 3 rfl
 have y4 := hc1.cell 4 rfl
 have y5 := hc1.cell 5 rfl
 have y6 := hc1.cell 6 rfl
 have y7 := hc1.cell 7 rfl
 have y8 := hc1.cell 8 rfl
 have y9 := hc1.cell 9 rfl
 clear hba hca hb1 hc1 HA HWA HCA HT
 go_wp2_with fail
 refine HB.out.mono ?_
 rintro e w2 ⟨rfl, hb2⟩
 have hB2 := hB1.trans (hb2.mono hB1.size)
 clear y0 y1 y2 y3 y4 y5 y6 y7 y8 y9 hb2 HB
 go_wp2_with fail
 refine (wireBegun_yes w2 (by have := hB2.size; omega) (HV.out w2 hB2)).mono ?_
 rintro e w3 ⟨rfl, hb3⟩
 have hB3 := hB2.trans (hb3.mono hB2.size)
 clear hb3
 go_wp2_with fail
 refine (textIsX t e0 w3 HF.out).mono ?_
 rintro e w4 ⟨rfl, rfl⟩
 go_wp2_with fail
 go_ret
 exact ⟨rfl, hB3⟩
end Go.Proofs.YthgjdgpjkcmcdaaDoor
namespace Go.Proofs.YthgjdgpjkcmcdaaDoor
open Go.ChangeShapes Go.WideShapes Go.ChangeAt Go.RowKit

namespace Bk
theorem len {H : Type} : ∀ {l : List (DataW H)}, (∀ d ∈ l, 1 ≤ Rows.uptoBulk d) → l.length ≤ Rows.uptoBulkAll l
 | [], _ => Nat.zero_le _
 | x :: r, h => by
  rw [Rows.uptoBulkAll, List.length_cons]
  have h1 := h x (by simp)
  have h2 := len (l := r) fun d hd => h d (by simp [hd])
  omega
end Bk

theorem Tryd.cells9 : Tryd.prog.cellsOf 9 = 1 := by kernel_rfl
theorem Tryd.cells3 : Tryd.prog.cellsOf 3 = 1 := by kernel_rfl
theorem spot_none {W : World} {a : Addr} {v : Value} (k : W.cell? a = some v) : a.spot = none := by
 unfold World.cell? at k
 cases hq : a.spot with
 | none => rfl
 | some z => rw [hq] at k; simp at k; split at k <;> cases k
end Go.Proofs.YthgjdgpjkcmcdaaDoor
namespace Go.Proofs.YthgjdgpjkcmcdaaDoor
open Go.ChangeShapes Go.WideShapes Go.ChangeAt Go.RowKit

theorem Tryd.cellsC : Tryd.prog.cellsOf 95 = 5 := by kernel_rfl
theorem list5 {α : Type} {l : List α} (h : l.length = 5) : ∃ a b c d e, l = [a, b, c, d, e] := by
 rcases l with _ | ⟨a, _ | ⟨b, _ | ⟨c, _ | ⟨d, _ | ⟨e, _ | ⟨f, r⟩⟩⟩⟩⟩⟩
 all_goals first | exact ⟨a, b, c, d, e, rfl⟩ | (simp at h)
theorem fields5 {H : Type} {enc : TypeId × Value → H} {P : Program} {w : World} {base : Nat} {spare : Nat → Bool} {held : Bool} {t : TypeId} {f0 f1 f2 f3 f4 : Field} {fuel : Nat} {cs : List Value} {x : DataW H × List MemPlace} (ht : P.underlying t = some (.struct #[f0, f1, f2, f3, f4])) (h : DataW.trod enc P w base spare held fuel t cs = some x) :
    ∃ y0 y1 y2 y3 y4 n, x = (.agg [y0.1, y1.1, y2.1, y3.1, y4.1], y0.2 ++ (y1.2 ++ (y2.2 ++ (y3.2 ++ y4.2)))) ∧ cs.length = P.cellsOf t ∧ DataW.trod enc P w base spare held n f0.type ((cs.drop f0.offset).take (P.cellsOf f0.type)) = some y0 ∧
     DataW.trod enc P w base spare held n f1.type ((cs.drop f1.offset).take (P.cellsOf f1.type)) = some y1 ∧ DataW.trod enc P w base spare held n f2.type ((cs.drop f2.offset).take (P.cellsOf f2.type)) = some y2 ∧
     DataW.trod enc P w base spare held n f3.type ((cs.drop f3.offset).take (P.cellsOf f3.type)) = some y3 ∧ DataW.trod enc P w base spare held n f4.type ((cs.drop f4.offset).take (P.cellsOf f4.type)) = some y4 := by
 obtain ⟨xs, n, _, rfl, hl, hlen, hf⟩ := DataW.trod_struct ht h
 match xs, hlen with
 | [y0, y1, y2, y3, y4], _ => exact ⟨y0, y1, y2, y3, y4, n, by simp, hl, by simpa using hf 0 f0 rfl, by simpa using hf 1 f1 rfl, by simpa using hf 2 f2 rfl, by simpa using hf 3 f3 rfl, by simpa using hf 4 f4 rfl⟩
def datC {H : Type} (c : Pp.Ch) : DataW H := .agg [.lit (.int .i64 c.k), .lit (.string c.p.data.toList), .lit (.string c.q.data.toList), .lit (.string c.t.data.toList), .lit (.int .i64 c.b)]
theorem all_mem {H : Type} {P : Program} {e : TypeId} : ∀ {l : List (DataW H)} {d : DataW H}, d ∈ l → ∀ n ∈ d.weights P e, n ∈ DataW.weightsAll P e l
 | [], _, h => by cases h
 | x :: r, d, h => by
  intro n hn
  rw [DataW.weightsAll]
  rcases List.mem_cons.1 h with rfl | h
  · exact List.mem_append_left _ hn
  · exact List.mem_append_right _ (all_mem h n hn)
theorem Tryd.bytesCh : Tryd.prog.bytesOf 95 = 64 := by kernel_rfl
theorem i64_wf {n : Int} (h : (Lit.int .i64 n).wf = true) : I64 n := by
 simp only [Lit.wf, Bool.and_eq_true, decide_eq_true_eq] at h
 exact h
theorem open_chX {H : Type} {enc : TypeId × Value → H} {W : World} {n i : Nat} {a : Addr} {x : DataW H} {pl : List MemPlace} {cs' : List Value} (ha : a.spot = none)
    (h1 : W.cells? 0 (a.add (i * Tryd.prog.cellsOf 95)) (Tryd.prog.cellsOf 95) = some cs') (h2 : DataW.trod enc Tryd.prog W 0 (fun _ => true) true n 95 cs' = some (x, pl)) :
    ∃ c : Pp.Ch, x = datC c ∧ a.spot = none ∧ ChAt W a.block (a.off + i * 5) c ∧ I64 c.k ∧ I64 c.b := by
 rw [Tryd.cellsC] at h1
 obtain ⟨_, hlen, hc⟩ := World.cells?_some h1
 obtain ⟨y0, y1, y2, y3, y4, n', hx', _, t0, t1, t2, t3, t4⟩ := fields5 Tryd.underlying95 h2
 obtain ⟨c0, c1, c2, c3, c4, rfl⟩ := list5 hlen
 have t0' : DataW.trod enc Tryd.prog W 0 (fun _ => true) true n' 3 [c0] = some y0 := by simpa [Tryd.cells3] using t0
 have t1' : DataW.trod enc Tryd.prog W 0 (fun _ => true) true n' 9 [c1] = some y1 := by simpa [Tryd.cells9] using t1
 have t2' : DataW.trod enc Tryd.prog W 0 (fun _ => true) true n' 9 [c2] = some y2 := by simpa [Tryd.cells9] using t2
 have t3' : DataW.trod enc Tryd.prog W 0 (fun _ => true) true n' 9 [c3] = some y3 := by simpa [Tryd.cells9] using t3
 have t4' : DataW.trod enc Tryd.prog W 0 (fun _ => true) true n' 3 [c4] = some y4 := by simpa [Tryd.cells3] using t4
 obtain ⟨s0, e0, g0, u0⟩ := DataW.trod_int Tryd.underlying3 t0'
 obtain ⟨s1, e1, g1, _⟩ := DataW.trod_string Tryd.underlying9 t1'
 obtain ⟨s2, e2, g2, _⟩ := DataW.trod_string Tryd.underlying9 t2'
 obtain ⟨s3, e3, g3, _⟩ := DataW.trod_string Tryd.underlying9 t3'
 obtain ⟨s4, e4, g4, u4⟩ := DataW.trod_int Tryd.underlying3 t4'
 obtain rfl : c0 = .int .i64 s0 := by simpa using e0
 obtain rfl : c1 = .string s1 := by simpa using e1
 obtain rfl : c2 = .string s2 := by simpa using e2
 obtain rfl : c3 = .string s3 := by simpa using e3
 obtain rfl : c4 = .int .i64 s4 := by simpa using e4
 subst g0; subst g1; subst g2; subst g3; subst g4
 simp only [Prod.mk.injEq] at hx'
 have k0 := hc 0 (by omega)
 have k1 := hc 1 (by omega)
 have k2 := hc 2 (by omega)
 have k3 := hc 3 (by omega)
 have k4 := hc 4 (by omega)
 obtain ⟨ab, ao, asp⟩ := a
 obtain rfl : asp = none := ha
 refine ⟨⟨s0, s1, s2, s3, s4⟩, hx'.1, rfl, ⟨?_, ?_, ?_, ?_, ?_⟩, i64_wf u0, i64_wf u4⟩
 · by_cases hi0 : i = 0
   · subst hi0; simpa [Addr.add] using k0
   · have hi4 : i * 5 ≠ 0 := by omega
     simpa [Addr.add, hi4] using k0
 · by_cases hi0 : i = 0
   · subst hi0; simpa [Addr.add] using k1
   · have hi4 : i * 5 ≠ 0 := by omega
     simpa [Addr.add, hi4, Nat.add_assoc] using k1
 · by_cases hi0 : i = 0
   · subst hi0; simpa [Addr.add] using k2
   · have hi4 : i * 5 ≠ 0 := by omega
     simpa [Addr.add, hi4, Nat.add_assoc] using k2
 · by_cases hi0 : i = 0
   · subst hi0; simpa [Addr.add] using k3
   · have hi4 : i * 5 ≠ 0 := by omega
     simpa [Addr.add, hi4, Nat.add_assoc] using k3
 · by_cases hi0 : i = 0
   · subst hi0; simpa [Addr.add] using k4
   · have hi4 : i * 5 ≠ 0 := by omega
     simpa [Addr.add, hi4, Nat.add_assoc] using k4
set_option maxRecDepth 100000 in
theorem open_changes_wX {H : Type} {enc : TypeId × Value → H} {W : World} {v : Value} {d : DataW H} {p : List MemPlace} {fuel : Nat} (hf : DataW.trod enc Tryd.prog W 0 (fun _ => true) true fuel 22 [v] = some (d, p)) (hk : ∀ n ∈ d.weights Tryd.prog 22, n ≤ reachBytes) :
    ∃ cs : List Pp.Ch, LiesC W v cs ∧ SizedC reachBytes cs ∧ ∀ c ∈ cs, WfC c := by
 haveI : Inhabited Pp.Ch := ⟨⟨0, ⟨#[]⟩, ⟨#[]⟩, ⟨#[]⟩, 0⟩⟩
 rcases Go.Deep.open_slice Tryd.underlying22 hf with ⟨hcs, hx⟩ | ⟨a, len, cap, m, n, D, Pl, hcs, hb, hl, hm, hmm, hx, hel⟩
 · obtain rfl : v = .slice none 0 0 := by simpa using hcs
   exact ⟨[], ⟨none, 0, rfl, Nat.le_refl _, by simp, fun i hi => absurd hi (by simp)⟩, (fun e he => by cases he), fun e he => by cases he⟩
 obtain rfl : v = .slice (some a) len cap := by simpa using hcs
 have hm2 : m = cap := hmm.trans (if_pos rfl)
 clear hmm
 have hd := (Prod.mk.inj hx).1
 clear hx
 subst hm2
 have hsp : 0 < len → a.spot = none := fun h => by
  obtain ⟨cs', h1, _⟩ := hel 0 (by omega)
  rw [Tryd.cellsC] at h1
  obtain ⟨_, hlen, hc⟩ := World.cells?_some h1
  obtain ⟨c0, c1, c2, c3, c4, rfl⟩ := list5 hlen
  have k0 := hc 0 (by omega)
  exact spot_none (v := c0) (by simpa [Addr.add] using k0)
 have each : ∀ i, i < len → ∃ e : Pp.Ch, D i = datC e ∧ a.spot = none ∧ ChAt W a.block (a.off + i * 5) e ∧ I64 e.k ∧ I64 e.b := fun i hi => by
  obtain ⟨cs', h1, h2⟩ := hel i (by omega)
  exact open_chX (hsp (by omega)) h1 h2
 obtain ⟨E, hE⟩ := Go.Deep.choose_lt each
 obtain ⟨sp, hd'⟩ : ∃ sp, d = .slice ((List.range len).map D) sp := ⟨_, hd⟩
 have hlen64 : (len + sp.length) * 64 ≤ reachBytes := by
  have := hk ((len + sp.length) * 64) (by
   rw [hd', DataW.weights]
   simp only [Tryd.underlying22, Tryd.bytesCh, List.length_map, List.length_range]
   exact List.mem_cons_self ..)
  exact this
 have hel2 : ∀ i, i < len → ∀ n ∈ (D i).weights Tryd.prog 95, n ≤ reachBytes := fun i hi n hn => hk n (by
  rw [hd', DataW.weights]
  simp only [Tryd.underlying22]
  refine List.mem_cons_of_mem _ (List.mem_append_left _ (all_mem (List.mem_map.2 ⟨i, List.mem_range.2 hi, rfl⟩) n hn)))
 have hrb : reachBytes = 140737488351232 := by decide
 have hsz : SizedC reachBytes ((List.range len).map E) := by
  intro e he
  obtain ⟨i, hi, rfl⟩ := List.mem_map.1 he
  have h1 := hel2 i (List.mem_range.1 hi)
  rw [(hE i (List.mem_range.1 hi)).1] at h1
  have hw : DataW.weights Tryd.prog 95 (datC (H := H) (E i)) = [(E i).p.data.toList.length, (E i).q.data.toList.length, (E i).t.data.toList.length] := by
   rw [datC, DataW.weights]
   simp only [Tryd.underlying95]
   simp [DataW.weightsEach, DataW.weights]
  rw [hw] at h1
  rw [Lib.size_eq, Lib.size_eq, Lib.size_eq]
  exact ⟨h1 _ (by simp), h1 _ (by simp), h1 _ (by simp)⟩
 refine ⟨(List.range len).map E, ⟨some a, _, by simp; rfl, by simpa using hl, ?_, fun i hi => ?_⟩, hsz, fun e he => ?_⟩
 · rw [hrb] at hlen64
   simp only [List.length_map, List.length_range]
   omega
 · have hi' : i < len := by simpa using hi
   obtain ⟨h1, h2, h3, _⟩ := hE i hi'
   have hlt : a.block < W.heap.size := by
    have k := h3.1
    rcases Nat.lt_or_ge a.block W.heap.size with h | h
    · exact h
    · unfold World.cell? at k; rw [Array.getElem?_eq_none h] at k; cases k
   refine ⟨a.block, a.off, ?_, hlt, by simpa using h3⟩
   rw [← h2]
 · obtain ⟨h1, h2, h3⟩ := hsz e he
   obtain ⟨i, hi, rfl⟩ := List.mem_map.1 he
   obtain ⟨_, _, _, k1, k2⟩ := hE i (List.mem_range.1 hi)
   rw [hrb] at h1 h2 h3
   exact ⟨k1, k2, by unfold TxB; omega, by unfold TxB; omega, by unfold TxB; omega⟩
theorem listX10 {α : Type} {l : List α} (h : l.length = 10) : ∃ x0 x1 x2 x3 x4 x5 x6 x7 x8 x9, l = [x0, x1, x2, x3, x4, x5, x6, x7, x8, x9] := by
 rcases l with _ | ⟨x0, _ | ⟨x1, _ | ⟨x2, _ | ⟨x3, _ | ⟨x4, _ | ⟨x5, _ | ⟨x6, _ | ⟨x7, _ | ⟨x8, _ | ⟨x9, _ | ⟨d, r⟩⟩⟩⟩⟩⟩⟩⟩⟩⟩⟩
 all_goals first | exact ⟨x0, x1, x2, x3, x4, x5, x6, x7, x8, x9, rfl⟩ | (simp at h)
theorem fieldsX10 {H : Type} {enc : TypeId × Value → H} {P : Program} {w : World} {base : Nat} {spare : Nat → Bool} {held : Bool} {t : TypeId} {f0 f1 f2 f3 f4 f5 f6 f7 f8 f9 : Field} {fuel : Nat} {cs : List Value} {x : DataW H × List MemPlace} (ht : P.underlying t = some (.struct #[f0, f1, f2, f3, f4, f5, f6, f7, f8, f9])) (h : DataW.trod enc P w base spare held fuel t cs = some x) :
    ∃ y0 y1 y2 y3 y4 y5 y6 y7 y8 y9 n pl, x = (.agg [y0.1, y1.1, y2.1, y3.1, y4.1, y5.1, y6.1, y7.1, y8.1, y9.1], pl) ∧ cs.length = P.cellsOf t ∧ DataW.trod enc P w base spare held n f0.type ((cs.drop f0.offset).take (P.cellsOf f0.type)) = some y0 ∧ DataW.trod enc P w base spare held n f1.type ((cs.drop f1.offset).take (P.cellsOf f1.type)) = some y1 ∧ DataW.trod enc P w base spare held n f2.type ((cs.drop f2.offset).take (P.cellsOf f2.type)) = some y2 ∧ DataW.trod enc P w base spare held n f3.type ((cs.drop f3.offset).take (P.cellsOf f3.type)) = some y3 ∧ DataW.trod enc P w base spare held n f4.type ((cs.drop f4.offset).take (P.cellsOf f4.type)) = some y4 ∧ DataW.trod enc P w base spare held n f5.type ((cs.drop f5.offset).take (P.cellsOf f5.type)) = some y5 ∧ DataW.trod enc P w base spare held n f6.type ((cs.drop f6.offset).take (P.cellsOf f6.type)) = some y6 ∧ DataW.trod enc P w base spare held n f7.type ((cs.drop f7.offset).take (P.cellsOf f7.type)) = some y7 ∧ DataW.trod enc P w base spare held n f8.type ((cs.drop f8.offset).take (P.cellsOf f8.type)) = some y8 ∧ DataW.trod enc P w base spare held n f9.type ((cs.drop f9.offset).take (P.cellsOf f9.type)) = some y9 := by
 obtain ⟨xs, n, _, rfl, hl, hlen, hf⟩ := DataW.trod_struct ht h
 match xs, hlen with
 | [y0, y1, y2, y3, y4, y5, y6, y7, y8, y9], _ => exact ⟨y0, y1, y2, y3, y4, y5, y6, y7, y8, y9, n, _, rfl, hl, by simpa using hf 0 f0 rfl, by simpa using hf 1 f1 rfl, by simpa using hf 2 f2 rfl, by simpa using hf 3 f3 rfl, by simpa using hf 4 f4 rfl, by simpa using hf 5 f5 rfl, by simpa using hf 6 f6 rfl, by simpa using hf 7 f7 rfl, by simpa using hf 8 f8 rfl, by simpa using hf 9 f9 rfl⟩
theorem Tryd.cellsSCX : Tryd.prog.cellsOf 22 = 1 := by kernel_rfl
theorem Tryd.cellsRqX : Tryd.prog.cellsOf 24 = 10 := by kernel_rfl
set_option maxRecDepth 100000 in
theorem open_requestX {H : Type} {enc : TypeId × Value → H} {W : World} {r : Reach} {b0 : Nat} {v : Value} {d : DataW H} {pl : List MemPlace} (hv : Value.okWide Tryd.prog W r b0 24 v) (h : DataW.Trod enc Tryd.prog W 0 (fun _ => true) true 24 v d pl) (hk : ∀ n ∈ d.weights Tryd.prog 24, n ≤ reachBytes) :
    ∃ q : Rq, LiesQ W v q ∧ WfQ q := by
 obtain ⟨cs, rfl, hsz⟩ := okWide_struct Tryd.underlying24 hv
 obtain ⟨fuel, hf⟩ := h
 have hf' : DataW.trod enc Tryd.prog W 0 (fun _ => true) true fuel 24 cs.toList = some (d, pl) := by simpa [Value.cells] using hf
 obtain ⟨y0, y1, y2, y3, y4, y5, y6, y7, y8, y9, n', pl', hx, hlen, t0, t1, t2, t3, t4, t5, t6, t7, t8, t9⟩ := fieldsX10 Tryd.underlying24 hf'
 rw [Tryd.cellsRqX] at hlen
 obtain ⟨c0, c1, c2, c3, c4, c5, c6, c7, c8, c9, hcs⟩ := listX10 hlen
 rw [hcs] at t0 t1 t2 t3 t4 t5 t6 t7 t8 t9
 have q0 : DataW.trod enc Tryd.prog W 0 (fun _ => true) true n' 3 [c0] = some y0 := by simpa [Tryd.cells3] using t0
 have q1 : DataW.trod enc Tryd.prog W 0 (fun _ => true) true n' 9 [c1] = some y1 := by simpa [Tryd.cells9] using t1
 have q2 : DataW.trod enc Tryd.prog W 0 (fun _ => true) true n' 9 [c2] = some y2 := by simpa [Tryd.cells9] using t2
 have q3 : DataW.trod enc Tryd.prog W 0 (fun _ => true) true n' 9 [c3] = some y3 := by simpa [Tryd.cells9] using t3
 have q4 : DataW.trod enc Tryd.prog W 0 (fun _ => true) true n' 9 [c4] = some y4 := by simpa [Tryd.cells9] using t4
 have q5 : DataW.trod enc Tryd.prog W 0 (fun _ => true) true n' 9 [c5] = some y5 := by simpa [Tryd.cells9] using t5
 have q6 : DataW.trod enc Tryd.prog W 0 (fun _ => true) true n' 3 [c6] = some y6 := by simpa [Tryd.cells3] using t6
 have q7 : DataW.trod enc Tryd.prog W 0 (fun _ => true) true n' 3 [c7] = some y7 := by simpa [Tryd.cells3] using t7
 have q8 : DataW.trod enc Tryd.prog W 0 (fun _ => true) true n' 3 [c8] = some y8 := by simpa [Tryd.cells3] using t8
 have q9 : DataW.trod enc Tryd.prog W 0 (fun _ => true) true n' 22 [c9] = some y9 := by simpa [Tryd.cellsSCX] using t9
 obtain ⟨s0, e0, g0, u0⟩ := DataW.trod_int Tryd.underlying3 q0
 obtain rfl : c0 = .int .i64 s0 := by simpa using e0
 subst g0
 obtain ⟨s1, e1, g1, _⟩ := DataW.trod_string Tryd.underlying9 q1
 obtain rfl : c1 = .string s1 := by simpa using e1
 subst g1
 obtain ⟨s2, e2, g2, _⟩ := DataW.trod_string Tryd.underlying9 q2
 obtain rfl : c2 = .string s2 := by simpa using e2
 subst g2
 obtain ⟨s3, e3, g3, _⟩ := DataW.trod_string Tryd.underlying9 q3
 obtain rfl : c3 = .string s3 := by simpa using e3
 subst g3
 obtain ⟨s4, e4, g4, _⟩ := DataW.trod_string Tryd.underlying9 q4
 obtain rfl : c4 = .string s4 := by simpa using e4
 subst g4
 obtain ⟨s5, e5, g5, _⟩ := DataW.trod_string Tryd.underlying9 q5
 obtain rfl : c5 = .string s5 := by simpa using e5
 subst g5
 obtain ⟨s6, e6, g6, u6⟩ := DataW.trod_int Tryd.underlying3 q6
 obtain rfl : c6 = .int .i64 s6 := by simpa using e6
 subst g6
 obtain ⟨s7, e7, g7, u7⟩ := DataW.trod_int Tryd.underlying3 q7
 obtain rfl : c7 = .int .i64 s7 := by simpa using e7
 subst g7
 obtain ⟨s8, e8, g8, u8⟩ := DataW.trod_int Tryd.underlying3 q8
 obtain rfl : c8 = .int .i64 s8 := by simpa using e8
 subst g8
 obtain ⟨d9, p9⟩ := y9
 simp only [Prod.mk.injEq] at hx
 have hw : d.weights Tryd.prog 24 = s1.data.toList.length :: s2.data.toList.length :: s3.data.toList.length :: s4.data.toList.length :: s5.data.toList.length :: d9.weights Tryd.prog 22 := by
  rw [hx.1, DataW.weights]
  simp only [Tryd.underlying24]
  simp [DataW.weightsEach, DataW.weights]
 rw [hw] at hk
 obtain ⟨l, hl, hls, hlw⟩ := open_changes_wX q9 (fun n hn => hk n (by simp [hn]))
 have z1 : s1.size ≤ reachBytes := by rw [Lib.size_eq]; exact hk _ (by simp)
 have z2 : s2.size ≤ reachBytes := by rw [Lib.size_eq]; exact hk _ (by simp)
 have z3 : s3.size ≤ reachBytes := by rw [Lib.size_eq]; exact hk _ (by simp)
 have z4 : s4.size ≤ reachBytes := by rw [Lib.size_eq]; exact hk _ (by simp)
 have z5 : s5.size ≤ reachBytes := by rw [Lib.size_eq]; exact hk _ (by simp)
 have hag : cs = #[.int .i64 s0, .string s1, .string s2, .string s3, .string s4, .string s5, .int .i64 s6, .int .i64 s7, .int .i64 s8, c9] := Array.ext' (by simpa using hcs)
 have hrb : reachBytes = 140737488351232 := by decide
 rw [hrb] at z1 z2 z3 z4 z5
 exact ⟨⟨s0, s1, s2, s3, s4, s5, s6, s7, s8, l⟩, ⟨c9, by rw [hag], hl⟩, i64_wf u0, i64_wf u6, i64_wf u7, i64_wf u8, by unfold TxB; simp only; omega, by unfold TxB; simp only; omega, by unfold TxB; simp only; omega, by unfold TxB; simp only; omega, by unfold TxB; simp only; omega, hlw⟩
end Go.Proofs.YthgjdgpjkcmcdaaDoor
namespace Go.Proofs.YthgjdgpjkcmcdaaDoor
open Go.ChangeShapes Go.WideShapes Go.RowKit

namespace Pp
def lay (cs : List Value) (o : Obj) : Obj := match o with
 | .cells _ t frozen => .cells cs.toArray t frozen
 | o => o
def u8s (l : List Nat) : List Value := l.map fun (n : Nat) => Value.int .u8 (n : Int)
def pows : List Value := [.int .u64 1, .int .u64 10, .int .u64 100, .int .u64 1000, .int .u64 10000, .int .u64 100000, .int .u64 1000000, .int .u64 10000000, .int .u64 100000000, .int .u64 1000000000, .int .u64 10000000000, .int .u64 100000000000, .int .u64 1000000000000, .int .u64 10000000000000, .int .u64 100000000000000, .int .u64 1000000000000000, .int .u64 10000000000000000, .int .u64 100000000000000000, .int .u64 1000000000000000000, .int .u64 10000000000000000000]
def tab32 : List Value := u8s [0, 1, 28, 2, 29, 14, 24, 3, 30, 22, 20, 15, 25, 17, 4, 8, 31, 27, 13, 23, 21, 19, 16, 7, 26, 12, 18, 6, 11, 5, 10, 9]
def tab64 : List Value := u8s [0, 1, 56, 2, 57, 49, 28, 3, 61, 58, 42, 50, 38, 29, 17, 4, 62, 47, 59, 36, 45, 43, 51, 22, 53, 39, 33, 30, 24, 18, 12, 5, 63, 55, 48, 27, 60, 41, 37, 16, 46, 35, 44, 21, 52, 32, 23, 11, 54, 26, 40, 15, 34, 20, 31, 10, 25, 14, 19, 9, 13, 8, 7, 6]
def erAt (b : Nat) : List Value := [.iface 149 (.pointer (some ⟨b, 0, none⟩))]
def tabs (h : Array Obj) : Array Obj := ((((h.modify 3 (lay pows)).modify 4 (lay tab32)).modify 5 (lay tab64)).modify 1 (lay (erAt 11))).modify 2 (lay (erAt 12))
def texts : Array Obj := #[.cells #[.string ⟨#[105, 110, 118, 97, 108, 105, 100, 32, 115, 121, 110, 116, 97, 120]⟩] 151, .cells #[.string ⟨#[118, 97, 108, 117, 101, 32, 111, 117, 116, 32, 111, 102, 32, 114, 97, 110, 103, 101]⟩] 151]
theorem pow_data : (Rows.laid_internal_strconv_uint64pow10 : DataW Unit) = Lib.tabData .u64 Lib.pow10Tab := by kernel_rfl
theorem heap_of_var {W : World} {g : Nat} {s : String} {cs : Array Value} (hg : Tryd.prog.globalNamed s = some g) (h : W.var? Tryd.prog s = some cs) : g < W.heap.size := by
 unfold World.var? at h
 rw [hg] at h
 simp only [Option.bind_some] at h
 rcases Nat.lt_or_ge g W.heap.size with h1 | h1
 · exact h1
 · rw [Array.getElem?_eq_none h1] at h; cases h
abbrev laids : List (String × DataW Unit) := [("math/bits.deBruijn32tab", Rows.laid_math_bits_deBruijn32tab), ("math/bits.deBruijn64tab", Rows.laid_math_bits_deBruijn64tab), ("internal/strconv.uint64pow10", Rows.laid_internal_strconv_uint64pow10), ("strconv.ErrRange", Rows.laid_strconv_ErrRange), ("strconv.ErrSyntax", Rows.laid_strconv_ErrSyntax)]
theorem vars_of_laid {W : World} (h : laidMetH Tryd.prog laids W) : VarsW W ∧ 5 < W.heap.size := by
 have h' : laidMet Tryd.prog laids W := h
 obtain ⟨ps, hl, _⟩ := h'
 obtain ⟨_, _, _, _, _, _, _, _, _, _, hl1, _⟩ := hl
 obtain ⟨g5, _, _, _, _, _, hg5, _, hv5, _, hl2, _⟩ := hl1
 obtain ⟨g, t, cs, fuel, p, q, hg, ht, hvar, hd, hl3, _⟩ := hl2
 obtain ⟨g2, t2, cs2, f2, p2, q2, hg2, ht2, hvar2, hd2, hl4, _⟩ := hl3
 obtain ⟨g1, t1, cs1, f1, p1, q1, hg1, ht1, hvar1, hd1, _, _⟩ := hl4
 refine ⟨⟨?_, ?_, ?_⟩, ?_⟩
 · obtain rfl := Option.some.inj (Tryd.powAt.symm.trans hg)
   obtain rfl : t = 142 := Option.some.inj (ht.symm.trans (show (Tryd.prog.globals[3]?).map (·.type) = some 142 by kernel_rfl))
   rw [pow_data] at hd
   unfold PowTab Lib.TabIs
   rw [hvar, ← Lib.cells_of_tab Tryd.underlying142 (show Tryd.prog.underlying 128 = some (.int .u64) by kernel_rfl) (by kernel_rfl) (by kernel_rfl) hd]
 · obtain rfl := Option.some.inj (Tryd.synAt.symm.trans hg1)
   obtain rfl : t1 = 86 := Option.some.inj (ht1.symm.trans (show (Tryd.prog.globals[1]?).map (·.type) = some 86 by kernel_rfl))
   obtain ⟨_, u, v, hcs, _⟩ := iface_of_trod Tryd.underlying86 hd1
   exact ⟨u, v, by rw [hvar1]; congr 1; exact Array.ext' (by simpa using hcs)⟩
 · obtain rfl := Option.some.inj (Tryd.rngAt.symm.trans hg2)
   obtain rfl : t2 = 86 := Option.some.inj (ht2.symm.trans (show (Tryd.prog.globals[2]?).map (·.type) = some 86 by kernel_rfl))
   obtain ⟨_, u, v, hcs, _⟩ := iface_of_trod Tryd.underlying86 hd2
   exact ⟨u, v, by rw [hvar2]; congr 1; exact Array.ext' (by simpa using hcs)⟩
 · obtain rfl := Option.some.inj ((show Tryd.prog.globalNamed "math/bits.deBruijn64tab" = some 5 by kernel_rfl).symm.trans hg5)
   exact heap_of_var (show Tryd.prog.globalNamed "math/bits.deBruijn64tab" = some 5 by kernel_rfl) hv5
end Pp
end Go.Proofs.YthgjdgpjkcmcdaaDoor
