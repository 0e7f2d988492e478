/- The program's reader: a request. -/
import Derived.Test.YthgjdgpjkcmcdaaDoorWVC
import Derived.Test.YthgjdgpjkcmcdaaDoorWVB
import Derived.Test.YthgjdgpjkcmcdaaDoorWVA
import Derived.Test.YthgjdgpjkcmcdaaDoorShelf
import Derived.WalkKit
import Derived.WalkSpells
import Derived.WalkLawsBesides
import Derived.Handy
import Derived.Deep.QuietTactic
import Derived.BigQuiet
import Derived.RegionTactic
import Derived.Lib.SmallJoins
import Derived.Defers
import Derived.Recover
import Derived.Laws.Pointers
set_option linter.unusedSimpArgs false
set_option linter.unusedVariables false
namespace Go.Proofs.YthgjdgpjkcmcdaaDoor
open Go.RowKit

theorem rnum_any {b : Nat} {l : List UInt8} {w : World} (h : Rd b l w) (hs : l.length ≤ MaxL) (h6 : 5 < b) (hv : VarsW w) :
    Calls Tryd.prog 31 #[.pointer (some ⟨b, 0, none⟩)] w fun e w' => RdPost b (Wr.rdG Wr.gN l) (fun n v _ => v = .int .i64 n) e w' ∧ w.grownBy w' (some b) := by
 cases hr : Wr.rdG Wr.gN l with
 | none => exact (rnum_no h hs h6 hv hr).mono fun e w' hh => ⟨hh.1, hh.2⟩
 | some z => exact (rnum_ok h hs h6 hv hr).mono fun e w' hh => ⟨⟨_, hh.1, rfl, hh.2.1⟩, hh.2.2⟩
theorem rtxt_any {b : Nat} {l : List UInt8} {w : World} (h : Rd b l w) (hs : l.length ≤ MaxL) (h6 : 5 < b) (hv : VarsW w) :
    Calls Tryd.prog 32 #[.pointer (some ⟨b, 0, none⟩)] w fun e w' => RdPost b (Wr.txtP Wr.gN 1000 l) (fun x v _ => v = .string x) e w' ∧ w.grownBy w' (some b) := by
 cases hr : Wr.txtP Wr.gN 1000 l with
 | none => exact (rtxt_no h hs h6 hv hr).mono fun e w' hh => ⟨hh.1, hh.2⟩
 | some z => exact (rtxt_ok h hs h6 hv hr).mono fun e w' hh => ⟨⟨_, hh.1, rfl, hh.2.1⟩, hh.2.2⟩
/-- A reader at work on a record of its own. -/
structure R4 (w : World) (b C R : Nat) (l : List UInt8) (cs zs : List Value) (W : World) : Prop where
 rd : Rd b l W
 v : VarsW W
 cC : Cs W C cs
 cR : Cs W R zs
 fr : w.grownBy W (some b)
 bl : b < w.heap.size
 Cl : w.heap.size ≤ C
 Rl : w.heap.size ≤ R
 ne : C ≠ R
 b6 : 5 < b
theorem R4.call {w W W' : World} {b C R : Nat} {l r : List UInt8} {cs zs : List Value} (h : R4 w b C R l cs zs W) (hn : W.grownBy W' (some b)) (hr : Rd b r W') : R4 w b C R r cs zs W' :=
 ⟨hr, h.v.nb h.b6 (by have := h.rd.lt; have := h.b6; omega) hn, h.cC.nb hn (by have := h.bl; have := h.Cl; omega), h.cR.nb hn (by have := h.bl; have := h.Rl; omega), nb_tr h.fr hn, h.bl, h.Cl, h.Rl, h.ne, h.b6⟩
theorem R4.set {w W : World} {b C R : Nat} {l : List UInt8} {cs zs : List Value} (h : R4 w b C R l cs zs W) (i : Nat) (v : Value) : R4 w b C R l (cs.set i v) zs (W.setCell ⟨C, i, none⟩ v) := by
 have hb := h.bl
 have hC := h.Cl
 have hn := nb_set W C i v
 exact ⟨h.rd.nb hn (by omega), h.v.nb (by have := h.b6; omega) (by have := h.rd.lt; have := h.b6; omega) hn, h.cC.set i v, h.cR.nb hn h.ne.symm, nb_new h.fr h.Cl v, h.bl, h.Cl, h.Rl, h.ne, h.b6⟩
theorem R4.drew {w W : World} {b C R : Nat} {l : List UInt8} {cs zs : List Value} (h : R4 w b C R l cs zs W) : R4 w b C R l cs zs W.drew :=
 h.call (nb_below b (Below.refl _ _).drew) h.rd
theorem r4_new {w : World} {b : Nat} {l : List UInt8} (cs zs : List Value) (T U : TypeId) (h : Rd b l w) (h6 : 5 < b) (hv : VarsW w) : R4 w b (w.heap.size + 1) w.heap.size l cs zs ((w.alloc (.cells zs.toArray T)).alloc (.cells cs.toArray U)) := by
 have hbl := h.lt
 obtain ⟨wa, hwa⟩ : ∃ wa, wa = w.alloc (.cells zs.toArray T) := ⟨_, rfl⟩
 rw [← hwa]
 have sa : wa.heap.size = w.heap.size + 1 := by rw [hwa]; simp
 have hba : Below w.heap.size w wa := by rw [hwa]; exact below_alloc _ _
 have hbb := below_alloc wa (.cells cs.toArray U)
 have hab := hba.trans (hbb.mono (by omega))
 refine ⟨h.below hab, hv.belowB (by omega) hab, ?_, ?_, nb_below b hab, hbl, by omega, Nat.le_refl _, by omega, h6⟩
 · rw [← sa]; exact Cs.new wa cs _
 · exact Cs.belowAt (show Cs wa w.heap.size zs by rw [hwa]; exact Cs.new w zs _) hbb (by omega)
theorem RowV.shape {B : Nat} {T : TypeId} {n : Nat} {α : Type} {V : α → List Value → World → Prop} {xs : List α} {v : Value} {W : World} (h : RowV B T n V xs v W) : ∃ a l c, v = .slice a l c := by
 obtain ⟨Z, _, ⟨_, h2⟩, _⟩ := h
 rcases h2 with ⟨rfl, _⟩ | ⟨g, cap, cur, rfl, _⟩
 · exact ⟨_, _, _, rfl⟩
 · exact ⟨_, _, _, rfl⟩
theorem RowV.nb {B : Nat} {T : TypeId} {n : Nat} {α : Type} {V : α → List Value → World → Prop} {xs : List α} {v : Value} {W W' : World} {g : Nat} (h : RowV B T n V xs v W) (hw : W.grownBy W' (some g)) (hg : g < B) (hV : ∀ x r, V x r W → V x r W') : RowV B T n V xs v W' := by
 obtain ⟨Z, h1, h2, h3⟩ := h
 exact ⟨Z, h1, ownsRow_nbX h2 hw hg, fun z hz => ⟨hV _ _ (h3 z hz).1, (h3 z hz).2⟩⟩
theorem RowV.setC {B : Nat} {T : TypeId} {n : Nat} {xs : List Pp.Ch} {v : Value} {W : World} (h : RowV B T n VCh xs v W) {g : Nat} (hg : g < B) (i : Nat) (u : Value) : RowV B T n VCh xs v (W.setCell ⟨g, i, none⟩ u) := h.nb (nb_set W g i u) hg (fun _ _ h => h)
namespace Wr
def rqP (g : Int → Bool) (m : Int) : Ps Rq := bindP (rdG g) fun k => bindP (txtP g m) fun a => bindP (txtP g m) fun b => bindP (txtP g m) fun c => bindP (txtP g m) fun d => bindP (txtP g m) fun e => bindP (rdG g) fun x => bindP (rdG g) fun y => bindP (rdG g) fun z => bindP (lstP g 20 (chP g m)) fun cs => pureP ⟨k, a, b, c, d, e, x, y, z, cs⟩
end Wr
abbrev zrq : List Value := [.int .i64 0, .string ⟨#[]⟩, .string ⟨#[]⟩, .string ⟨#[]⟩, .string ⟨#[]⟩, .string ⟨#[]⟩, .int .i64 0, .int .i64 0, .int .i64 0, .slice none 0 0]
/-- A request that was read. -/
def RqV (B : Nat) (q : Rq) (v : Value) (W : World) : Prop := ∃ vc, v = .agg #[.int .i64 q.kind, .string q.who, .string q.fo, .string q.name, .string q.key, .string q.text, .int .i64 q.num, .int .i64 q.off, .int .i64 q.base, vc] ∧ RowV B 95 5 VCh q.ch vc W
set_option maxHeartbeats 4000000 in
theorem rrq_any (b : Nat) (l : List UInt8) (w : World) (h : Rd b l w) (hs : l.length ≤ MaxL) (h6 : 5 < b) (hv : VarsW w) :
    Calls Tryd.prog 30 #[.pointer (some ⟨b, 0, none⟩)] w fun e w' => RdPost b (Wr.rqP Wr.gN 1000 l) (RqV w.heap.size) e w' ∧ w.grownBy w' (some b) := by
 have HE0 := hid (show Wr.rqP Wr.gN 1000 l = Wr.rqP Wr.gN 1000 l from rfl)
 conv at HE0 => arg 1; rhs; unfold Wr.rqP
 generalize hP : Wr.rqP Wr.gN 1000 l = res at *
 clear hP
 have H0 := hid (r4_new zrq zrq 24 24 h h6 hv)
 have hbl := h.lt
 have PN := hid (show ∀ (a : Act) (W : World), a.defers = [] → w.grownBy W (some b) → res = none → bodyPost Tryd.prog Tryd.f30 (fun e w' => RdPost b res (RqV w.heap.size) e w' ∧ w.grownBy w' (some b)) (.panic [{ v := .iface 25 (.int .i64 1), recovered := false }]) a W from fun a W hd hw hr => bodyPost_panic hd ⟨RdPost.no hr rfl, hw⟩)
 clear hv h
 go_enter Tryd.func30, Tryd.ntmps30
 go_wp2_with fail
 refine (rnum_any H0.out.rd (by omega) h6 H0.out.v).mono ?_
 rintro e w1 ⟨hp, hn1⟩
 cases hq : Wr.rdG Wr.gN l with
 | none =>
  rw [hq] at hp
  cases hp
  exact PN.out _ _ rfl (nb_tr H0.out.fr hn1) (HE0.out.trans (Wr.bind_none hq))
 | some z =>
 obtain ⟨k, r1⟩ := z
 rw [hq] at hp
 obtain ⟨_, rfl, rfl, hr1⟩ := hp
 have HE1 := hid (HE0.out.trans (Wr.bind_some hq))
 have s1 := Wr.rd_len hq
 have H1 := hid (H0.out.call hn1 hr1)
 clear hq HE0
 have c0 := H1.out.cC.cell 0 rfl
 have f0 := H1.out.cC.fr 0
 go_wp2_with fail
 clear c0 f0
 refine (rtxt_any (H1.out.set 0 (.int .i64 k)).rd (by omega) h6 (H1.out.set 0 (.int .i64 k)).v).mono ?_
 rintro e w2 ⟨hp, hn2⟩
 cases hq : Wr.txtP Wr.gN 1000 r1 with
 | none =>
  rw [hq] at hp
  cases hp
  exact PN.out _ _ rfl (nb_tr (H1.out.set 0 (.int .i64 k)).fr hn2) (HE1.out.trans (Wr.bind_none hq))
 | some z =>
 obtain ⟨ta, r2⟩ := z
 rw [hq] at hp
 obtain ⟨_, rfl, rfl, hr2⟩ := hp
 have HE2 := hid (HE1.out.trans (Wr.bind_some hq))
 have s2 := Wr.txt_rest hq
 have H2 := hid ((H1.out.set 0 (.int .i64 k)).call hn2 hr2)
 clear hq HE1
 go_wp2_with fail
 refine (rtxt_any H2.out.rd (by omega) h6 H2.out.v).mono ?_
 rintro e w3 ⟨hp, hn3⟩
 cases hq : Wr.txtP Wr.gN 1000 r2 with
 | none =>
  rw [hq] at hp
  cases hp
  exact PN.out _ _ rfl (nb_tr H2.out.fr hn3) (HE2.out.trans (Wr.bind_none hq))
 | some z =>
 obtain ⟨tb, r3⟩ := z
 rw [hq] at hp
 obtain ⟨_, rfl, rfl, hr3⟩ := hp
 have HE3 := hid (HE2.out.trans (Wr.bind_some hq))
 have s3 := Wr.txt_rest hq
 have H3 := hid (H2.out.call hn3 hr3)
 clear hq HE2
 go_wp2_with fail
 refine (rtxt_any H3.out.rd (by omega) h6 H3.out.v).mono ?_
 rintro e w4 ⟨hp, hn4⟩
 cases hq : Wr.txtP Wr.gN 1000 r3 with
 | none =>
  rw [hq] at hp
  cases hp
  exact PN.out _ _ rfl (nb_tr H3.out.fr hn4) (HE3.out.trans (Wr.bind_none hq))
 | some z =>
 obtain ⟨tc, r4⟩ := z
 rw [hq] at hp
 obtain ⟨_, rfl, rfl, hr4⟩ := hp
 have HE4 := hid (HE3.out.trans (Wr.bind_some hq))
 have s4 := Wr.txt_rest hq
 have H4 := hid (H3.out.call hn4 hr4)
 clear hq HE3
 go_wp2_with fail
 refine (rtxt_any H4.out.rd (by omega) h6 H4.out.v).mono ?_
 rintro e w5 ⟨hp, hn5⟩
 cases hq : Wr.txtP Wr.gN 1000 r4 with
 | none =>
  rw [hq] at hp
  cases hp
  exact PN.out _ _ rfl (nb_tr H4.out.fr hn5) (HE4.out.trans (Wr.bind_none hq))
 | some z =>
 obtain ⟨td, r5⟩ := z
 rw [hq] at hp
 obtain ⟨_, rfl, rfl, hr5⟩ := hp
 have HE5 := hid (HE4.out.trans (Wr.bind_some hq))
 have s5 := Wr.txt_rest hq
 have H5 := hid (H4.out.call hn5 hr5)
 clear hq HE4
 go_wp2_with fail
 refine (rtxt_any H5.out.rd (by omega) h6 H5.out.v).mono ?_
 rintro e w6 ⟨hp, hn6⟩
 cases hq : Wr.txtP Wr.gN 1000 r5 with
 | none =>
  rw [hq] at hp
  cases hp
  exact PN.out _ _ rfl (nb_tr H5.out.fr hn6) (HE5.out.trans (Wr.bind_none hq))
 | some z =>
 obtain ⟨te, r6⟩ := z
 rw [hq] at hp
 obtain ⟨_, rfl, rfl, hr6⟩ := hp
 have HE6 := hid (HE5.out.trans (Wr.bind_some hq))
 have s6 := Wr.txt_rest hq
 have H6 := hid (H5.out.call hn6 hr6)
 clear hq HE5
 have c1 := H6.out.cC.cell 1 rfl
 have f1 := H6.out.cC.fr 1
 have c2 := H6.out.cC.cell 2 rfl
 have f2 := H6.out.cC.fr 2
 have c3 := H6.out.cC.cell 3 rfl
 have f3 := H6.out.cC.fr 3
 have c4 := H6.out.cC.cell 4 rfl
 have f4 := H6.out.cC.fr 4
 have c5 := H6.out.cC.cell 5 rfl
 have f5 := H6.out.cC.fr 5
 go_wp2_with fail
 clear c1 f1 c2 f2 c3 f3 c4 f4 c5 f5
 refine (rnum_any (((((H6.out.set 1 (.string ta)).set 2 (.string tb)).set 3 (.string tc)).set 4 (.string td)).set 5 (.string te)).rd (by omega) h6 (((((H6.out.set 1 (.string ta)).set 2 (.string tb)).set 3 (.string tc)).set 4 (.string td)).set 5 (.string te)).v).mono ?_
 rintro e w7 ⟨hp, hn7⟩
 cases hq : Wr.rdG Wr.gN r6 with
 | none =>
  rw [hq] at hp
  cases hp
  exact PN.out _ _ rfl (nb_tr (((((H6.out.set 1 (.string ta)).set 2 (.string tb)).set 3 (.string tc)).set 4 (.string td)).set 5 (.string te)).fr hn7) (HE6.out.trans (Wr.bind_none hq))
 | some z =>
 obtain ⟨x, r7⟩ := z
 rw [hq] at hp
 obtain ⟨_, rfl, rfl, hr7⟩ := hp
 have HE7 := hid (HE6.out.trans (Wr.bind_some hq))
 have s7 := Wr.rd_len hq
 have H7 := hid ((((((H6.out.set 1 (.string ta)).set 2 (.string tb)).set 3 (.string tc)).set 4 (.string td)).set 5 (.string te)).call hn7 hr7)
 clear hq HE6
 go_wp2_with fail
 refine (rnum_any H7.out.rd (by omega) h6 H7.out.v).mono ?_
 rintro e w8 ⟨hp, hn8⟩
 cases hq : Wr.rdG Wr.gN r7 with
 | none =>
  rw [hq] at hp
  cases hp
  exact PN.out _ _ rfl (nb_tr H7.out.fr hn8) (HE7.out.trans (Wr.bind_none hq))
 | some z =>
 obtain ⟨y, r8⟩ := z
 rw [hq] at hp
 obtain ⟨_, rfl, rfl, hr8⟩ := hp
 have HE8 := hid (HE7.out.trans (Wr.bind_some hq))
 have s8 := Wr.rd_len hq
 have H8 := hid (H7.out.call hn8 hr8)
 clear hq HE7
 go_wp2_with fail
 refine (rnum_any H8.out.rd (by omega) h6 H8.out.v).mono ?_
 rintro e w9 ⟨hp, hn9⟩
 cases hq : Wr.rdG Wr.gN r8 with
 | none =>
  rw [hq] at hp
  cases hp
  exact PN.out _ _ rfl (nb_tr H8.out.fr hn9) (HE8.out.trans (Wr.bind_none hq))
 | some z =>
 obtain ⟨z', r9⟩ := z
 rw [hq] at hp
 obtain ⟨_, rfl, rfl, hr9⟩ := hp
 have HE9 := hid (HE8.out.trans (Wr.bind_some hq))
 have s9 := Wr.rd_len hq
 have H9 := hid (H8.out.call hn9 hr9)
 clear hq HE8
 have c6 := H9.out.cC.cell 6 rfl
 have f6 := H9.out.cC.fr 6
 have c7 := H9.out.cC.cell 7 rfl
 have f7 := H9.out.cC.fr 7
 have c8 := H9.out.cC.cell 8 rfl
 have f8 := H9.out.cC.fr 8
 go_wp2_with fail
 clear c6 f6 c7 f7 c8 f8
 refine (rchs_any b r9 _ (((H9.out.set 6 (.int .i64 x)).set 7 (.int .i64 y)).set 8 (.int .i64 z')).rd (by omega) h6 (((H9.out.set 6 (.int .i64 x)).set 7 (.int .i64 y)).set 8 (.int .i64 z')).v).mono ?_
 rintro e w10 ⟨hp, hn10⟩
 cases hq : Wr.lstP Wr.gN 20 (Wr.chP Wr.gN 1000) r9 with
 | none =>
  rw [hq] at hp
  cases hp
  exact PN.out _ _ rfl (nb_tr (((H9.out.set 6 (.int .i64 x)).set 7 (.int .i64 y)).set 8 (.int .i64 z')).fr hn10) (HE9.out.trans (Wr.bind_none hq))
 | some z =>
 obtain ⟨cs, r10⟩ := z
 rw [hq] at hp
 obtain ⟨vc, rfl, hrow, hr10⟩ := hp
 have HE10 := hid (HE9.out.trans (Wr.bind_some hq))
 have s10 := Wr.shr_lst _ _ (Wr.shr_ch _ _) _ _ _ hq
 have H10 := hid ((((H9.out.set 6 (.int .i64 x)).set 7 (.int .i64 y)).set 8 (.int .i64 z')).call hn10 hr10)
 clear hq HE9
 have hbc := hrow
 obtain ⟨av, lv, cv, rfl⟩ := hbc.shape
 have HRW := hid hrow
 have hs9 := (((H9.out.set 6 (.int .i64 x)).set 7 (.int .i64 y)).set 8 (.int .i64 z')).fr.size
 have hCR := H10.out.ne
 have hC9 := ((((H9.out.set 6 (.int .i64 x)).set 7 (.int .i64 y)).set 8 (.int .i64 z')).cC).lt
 have hR9 := ((((H9.out.set 6 (.int .i64 x)).set 7 (.int .i64 y)).set 8 (.int .i64 z')).cR).lt
 clear hrow hbc
 have y0 := H10.out.cC.cell 0 rfl
 have y1 := H10.out.cC.cell 1 rfl
 have y2 := H10.out.cC.cell 2 rfl
 have y3 := H10.out.cC.cell 3 rfl
 have y4 := H10.out.cC.cell 4 rfl
 have y5 := H10.out.cC.cell 5 rfl
 have y6 := H10.out.cC.cell 6 rfl
 have y7 := H10.out.cC.cell 7 rfl
 have y8 := H10.out.cC.cell 8 rfl
 have y9 := H10.out.cC.cell 9 rfl
 have z9 := H10.out.cC.fr 9
 have v0 := H10.out.cR.cell 0 rfl
 have x0 := H10.out.cR.fr 0
 have v1 := H10.out.cR.cell 1 rfl
 have x1 := H10.out.cR.fr 1
 have v2 := H10.out.cR.cell 2 rfl
 have x2 := H10.out.cR.fr 2
 have v3 := H10.out.cR.cell 3 rfl
 have x3 := H10.out.cR.fr 3
 have v4 := H10.out.cR.cell 4 rfl
 have x4 := H10.out.cR.fr 4
 have v5 := H10.out.cR.cell 5 rfl
 have x5 := H10.out.cR.fr 5
 have v6 := H10.out.cR.cell 6 rfl
 have x6 := H10.out.cR.fr 6
 have v7 := H10.out.cR.cell 7 rfl
 have x7 := H10.out.cR.fr 7
 have v8 := H10.out.cR.cell 8 rfl
 have x8 := H10.out.cR.fr 8
 have v9 := H10.out.cR.cell 9 rfl
 have x9 := H10.out.cR.fr 9
 have n3 : ¬ w.heap.size = w.heap.size + 1 := by omega
 have n4 : ¬ w.heap.size + 1 = w.heap.size := by omega
 go_wp2_with fail
 have nR : b ≠ w.heap.size := by omega
 have nC : b ≠ w.heap.size + 1 := by omega
 have l1 : w.heap.size ≤ w.heap.size + 1 := by omega
 have l0 := Nat.le_refl w.heap.size
 refine bodyPost_ret (v := .agg #[.int .i64 k, .string ta, .string tb, .string tc, .string td, .string te, .int .i64 x, .int .i64 y, .int .i64 z', .slice av lv cv]) (by simp [results, Tryd.results30, go_sem, n3, n4, v0, v1, v2, v3, v4, v5, v6, v7, v8, v9]) rfl ⟨RdPost.yes (x := ⟨k, ta, tb, tc, td, te, x, y, z', cs⟩) _ HE10.out rfl ⟨_, rfl, ?_⟩ ?_, ?_⟩
 · exact (HRW.out.setC hC9 _ _ |>.setC hR9 _ _ |>.setC hR9 _ _ |>.setC hR9 _ _ |>.setC hR9 _ _ |>.setC hR9 _ _ |>.setC hR9 _ _ |>.setC hR9 _ _ |>.setC hR9 _ _ |>.setC hR9 _ _ |>.setC hR9 _ _).low hs9
 · exact (H10.out.rd.set' nC _ |>.set' nR _ |>.set' nR _ |>.set' nR _ |>.set' nR _ |>.set' nR _ |>.set' nR _ |>.set' nR _ |>.set' nR _ |>.set' nR _ |>.set' nR _)
 · exact nb_new (nb_new (nb_new (nb_new (nb_new (nb_new (nb_new (nb_new (nb_new (nb_new (nb_new H10.out.fr l1 _) l0 _) l0 _) l0 _) l0 _) l0 _) l0 _) l0 _) l0 _) l0 _) l0 _
end Go.Proofs.YthgjdgpjkcmcdaaDoor
namespace Go.Proofs.YthgjdgpjkcmcdaaDoor
open Go.RowKit

namespace Wr
def e0 : Ws := ⟨[], false, false⟩
theorem put_ne {s : Ws} {x : It} (h : s.l ≠ []) : (put s x).l ≠ [] := by
 cases x with
 | n i => simp [put, num]
 | t x =>
  show (txt s x).l ≠ []
  unfold txt
  split
  · exact h
  · simp [num]
 | big => exact h
theorem run_ne : ∀ {l : List It} {s : Ws}, s.l ≠ [] → (run s l).l ≠ []
 | [], _, h => h
 | x :: l, s, h => run_ne (l := l) (put_ne h)
theorem num_ne {s : Ws} {n : Int} : (num s n).l ≠ [] := by simp [num]
theorem lst_len {α : Type} (f : α → List It) (m j : Nat) (xs : List α) (h : ∀ x ∈ xs, (f x).length ≤ j) : (lst m f xs).length ≤ 1 + j * m := by
 unfold lst
 split
 · rename_i hl
   have h1 := fm_count f j xs h
   have h2 : j * xs.length ≤ j * m := Nat.mul_le_mul_left _ hl
   rw [List.length_cons]; omega
 · simp
theorem lst_wf {α : Type} (f : α → List It) (m : Nat) (xs : List α) (hm : m ≤ 1000000) (h : ∀ x ∈ xs, ∀ y ∈ f x, y.wf) : ∀ y ∈ lst m f xs, y.wf := by
 intro y hy
 unfold lst at hy
 split at hy
 · rename_i hl
   rw [List.mem_cons] at hy
   rcases hy with rfl | hy
   · exact (show I64 _ from ⟨by omega, by omega⟩)
   · obtain ⟨x, hx, hy⟩ := List.mem_flatMap.1 hy
     exact h x hx y hy
 · simp at hy; subst hy; trivial
end Wr
theorem wt_new (W : World) (B b : Nat) (hB : B ≤ b) (h : W.heap[b]? = some (.cells #[.pointer none, .slice none 0 0, .bool false, .bool false] 53 (0, 0))) : Wt B b Wr.e0 W :=
 Or.inl ⟨hB, .slice none 0 0, h, ⟨by simp [Wr.e0, Lib.byteCells], Or.inl ⟨rfl, rfl⟩⟩, by simp [Value.ownBlock]⟩
structure WfQ (q : Rq) : Prop where
 kind : I64 q.kind
 num : I64 q.num
 off : I64 q.off
 base : I64 q.base
 who : TxB q.who
 fo : TxB q.fo
 name : TxB q.name
 key : TxB q.key
 text : TxB q.text
 ch : ∀ c ∈ q.ch, WfC c
set_option maxHeartbeats 1000000 in
theorem ask_any (q : Rq) (v : Value) (w : World) (hq : LiesQ w v q) (hz : WfQ q) (h3 : 3 < w.heap.size) (ht : PowTab w) :
    Calls Tryd.prog 8 #[v] w fun e w' => e = .returned (.tuple #[.string (Wr.fin (Wr.run Wr.e0 (Wr.rqI q))).1, .int .i64 (Wr.fin (Wr.run Wr.e0 (Wr.rqI q))).2]) ∧ Below w.heap.size w w' := by
 obtain ⟨va, rfl, hL⟩ := hq
 obtain ⟨kind, who, fo, name, key, text, num, off, base, ch⟩ := q
 obtain ⟨zk, zn, zo, zb, z1, z2, z3, z4, z5, zc⟩ := hz
 simp only at hL zk zn zo zb z1 z2 z3 z4 z5 zc ⊢
 obtain ⟨av, cv, rfl, hcv⟩ : ∃ av cv, va = .slice av ch.length cv ∧ True := by obtain ⟨a, c, h, _⟩ := hL; exact ⟨a, c, h, trivial⟩
 obtain ⟨wa, hwa⟩ : ∃ wa, wa = w.alloc (.cells #[.int .i64 kind, .string who, .string fo, .string name, .string key, .string text, .int .i64 num, .int .i64 off, .int .i64 base, .slice av ch.length cv] 24) := ⟨_, rfl⟩
 obtain ⟨wb, hwb⟩ : ∃ wb, wb = wa.alloc (.cells #[.pointer none, .slice none 0 0, .bool false, .bool false] 53) := ⟨_, rfl⟩
 have sa : wa.heap.size = w.heap.size + 1 := by rw [hwa]; simp
 have hba : Below w.heap.size w wa := by rw [hwa]; exact below_alloc _ _
 have hbb : Below wa.heap.size wa wb := by rw [hwb]; exact below_alloc _ _
 have hab : Below w.heap.size w wb := hba.trans (hbb.mono (by omega))
 have hm0 : wb.heap[w.heap.size]? = some (.cells #[.int .i64 kind, .string who, .string fo, .string name, .string key, .string text, .int .i64 num, .int .i64 off, .int .i64 base, .slice av ch.length cv] 24 (0, 0)) := by
  rw [hbb.block _ (by omega), hwa]; exact heap_alloc_new w _
 have hwr : wb.heap[w.heap.size + 1]? = some (.cells #[.pointer none, .slice none 0 0, .bool false, .bool false] 53 (0, 0)) := by
  rw [← sa, hwb]; exact heap_alloc_new wa _
 have hmb : w.heap.size ≠ w.heap.size + 1 := by omega
 have h0 := wt_new wb w.heap.size (w.heap.size + 1) (by omega) hwr
 have ht0 := ht.belowB h3 hab
 have HN1 := hid (wnum_any w.heap.size (w.heap.size + 1) Wr.e0 kind wb h0 zk (by simp [Wr.e0]) h3 ht0)
 have l1 := Wr.num_len (s := Wr.e0) zk
 have l0 : Wr.e0.l.length = 0 := rfl
 rw [hwb, hwa] at HN1
 have HWB : Hid (wb = (w.alloc (.cells #[.int .i64 kind, .string who, .string fo, .string name, .string key, .string text, .int .i64 num, .int .i64 off, .int .i64 base, .slice av ch.length cv] 24)).alloc (.cells #[.pointer none, .slice none 0 0, .bool false, .bool false] 53)) := (by rw [hwb, hwa] : wb = _)
 have HM0 := hid hm0
 have HT0 := hid ht0
 have HL := hid hL
 have HZ := hid (And.intro (And.intro zn (And.intro zo zb)) (And.intro z1 (And.intro z2 (And.intro z3 (And.intro z4 z5)))))
 have HC := hid zc
 have c0 := (show Cs (w.alloc (.cells #[.int .i64 kind, .string who, .string fo, .string name, .string key, .string text, .int .i64 num, .int .i64 off, .int .i64 base, .slice av ch.length cv] 24)) w.heap.size _ from ⟨_, heap_alloc_new w _⟩)
 clear hwb hwa sa hbb hba hm0 hwr h0 ht0 ht hL hcv zk zn zo zb z1 z2 z3 z4 z5 zc c0
 go_enter Tryd.func8, Tryd.ntmps8
 go_wp2_with fail
 refine HN1.out.mono ?_
 rintro e w1 ⟨rfl, h1, hf1⟩
 rw [← HWB.out] at hf1
 have hm1 := hf1.row HM0.out hmb (by decide)
 have ht1 := HT0.out.fr h3 hf1
 have hB1 : w.heap.size ≤ w1.heap.size := Nat.le_of_lt (Nat.lt_of_le_of_lt h1.B h1.lt)
 obtain ⟨w2, hw2⟩ : ∃ w2, w2 = w1.alloc (.cells #[.string who, .string fo, .string name, .string key, .string text] 9) := ⟨_, rfl⟩
 have hb2 : Below w1.heap.size w1 w2 := by rw [hw2]; exact below_alloc _ _
 have hf2 : Fr w.heap.size (w.heap.size + 1) w1 w2 := fr_below hb2 hB1
 have hx2 : w2.heap[w1.heap.size]? = some (.cells (([who, fo, name, key, text] : List ByteArray).map Value.string).toArray 9 (0, 0)) := by rw [hw2]; exact heap_alloc_new w1 _
 have hxb : w1.heap.size ≠ w.heap.size + 1 := fun e => by have := h1.lt; omega
 have c1 : w1.cell? ⟨w.heap.size, 1, none⟩ = some (.string who) := by rw [Lib.cell_of_heap hm1]; rfl
 have c2 : w1.cell? ⟨w.heap.size, 2, none⟩ = some (.string fo) := by rw [Lib.cell_of_heap hm1]; rfl
 have c3 : w1.cell? ⟨w.heap.size, 3, none⟩ = some (.string name) := by rw [Lib.cell_of_heap hm1]; rfl
 have c4 : w1.cell? ⟨w.heap.size, 4, none⟩ = some (.string key) := by rw [Lib.cell_of_heap hm1]; rfl
 have c5 : w1.cell? ⟨w.heap.size, 5, none⟩ = some (.string text) := by rw [Lib.cell_of_heap hm1]; rfl
 have HX := hid (wtexts_any [who, fo, name, key, text] w.heap.size (w.heap.size + 1) w1.heap.size (Wr.num Wr.e0 kind) w2 (h1.below hb2) hx2 hxb (by simp only [List.length_cons, List.length_nil]; omega) h3 (ht1.fr h3 hf2) (by
  intro x hx
  obtain ⟨_, z1, z2, z3, z4, z5⟩ := HZ.out
  simp only [List.mem_cons, List.not_mem_nil, or_false] at hx
  rcases hx with rfl | rfl | rfl | rfl | rfl
  · exact z1
  · exact z2
  · exact z3
  · exact z4
  · exact z5))
 have hm2 := hf2.row hm1 hmb (by decide)
 have ht2 := ht1.fr h3 hf2
 rw [hw2] at HX
 have HW2 := hid hw2
 have HM2 := hid hm2
 have HT2 := hid ht2
 have n1 : Hid ((Wr.num Wr.e0 kind).l ≠ []) := Wr.num_ne
 clear hw2 hm2 ht2 hm1 ht1 HM0 HT0 HN1 hx2 h1
 go_wp2_with fail
 refine HX.out.mono ?_
 rintro e w3 ⟨rfl, h5, hf3⟩
 rw [← HW2.out] at hf3
 have l2 := Wr.run_len (([who, fo, name, key, text] : List ByteArray).map Wr.It.t) (Wr.num Wr.e0 kind) (by
  intro y hy
  obtain ⟨x, _, rfl⟩ := List.mem_map.1 hy
  trivial)
 rw [List.length_map] at l2
 simp only [List.length_cons, List.length_nil] at l2
 obtain ⟨s2, hs2⟩ : ∃ s2, s2 = Wr.run (Wr.num Wr.e0 kind) (([who, fo, name, key, text] : List ByteArray).map Wr.It.t) := ⟨_, rfl⟩
 rw [← hs2] at h5 l2
 have HS2 := hid hs2
 clear hs2
 have hm3 := hf3.row HM2.out hmb (by decide)
 have ht3 := HT2.out.fr h3 hf3
 have hB3 : w.heap.size ≤ w3.heap.size := Nat.le_of_lt (Nat.lt_of_le_of_lt h5.B h5.lt)
 obtain ⟨w4, hw4⟩ : ∃ w4, w4 = w3.alloc (.cells #[.int .i64 num, .int .i64 off, .int .i64 base] 3) := ⟨_, rfl⟩
 have hb4 : Below w3.heap.size w3 w4 := by rw [hw4]; exact below_alloc _ _
 have hf4 : Fr w.heap.size (w.heap.size + 1) w3 w4 := fr_below hb4 hB3
 have hx4 : w4.heap[w3.heap.size]? = some (.cells (([num, off, base] : List Int).map (Value.int .i64)).toArray 3 (0, 0)) := by rw [hw4]; exact heap_alloc_new w3 _
 have hxb4 : w3.heap.size ≠ w.heap.size + 1 := fun e => by have := h5.lt; omega
 have d1 : w3.cell? ⟨w.heap.size, 6, none⟩ = some (.int .i64 num) := by rw [Lib.cell_of_heap hm3]; rfl
 have d2 : w3.cell? ⟨w.heap.size, 7, none⟩ = some (.int .i64 off) := by rw [Lib.cell_of_heap hm3]; rfl
 have d3 : w3.cell? ⟨w.heap.size, 8, none⟩ = some (.int .i64 base) := by rw [Lib.cell_of_heap hm3]; rfl
 have HY := hid (wnumbers_any [num, off, base] w.heap.size (w.heap.size + 1) w3.heap.size s2 w4 (h5.below hb4) hx4 hxb4 (by simp only [List.length_cons, List.length_nil]; omega) h3 (ht3.fr h3 hf4) (by
  intro x hx
  obtain ⟨⟨zn, zo, zb⟩, _⟩ := HZ.out
  simp only [List.mem_cons, List.not_mem_nil, or_false] at hx
  rcases hx with rfl | rfl | rfl
  · exact zn
  · exact zo
  · exact zb))
 have hm4 := hf4.row hm3 hmb (by decide)
 have ht4 := ht3.fr h3 hf4
 rw [hw4] at HY
 have HW4 := hid hw4
 have HM4 := hid hm4
 have HT4 := hid ht4
 clear hw4 hm4 ht4 hm3 ht3 HM2 HT2 HX hx4 h5 c1 c2 c3 c4 c5
 go_wp2_with fail
 refine HY.out.mono ?_
 rintro e w5 ⟨rfl, h7, hf5⟩
 rw [← HW4.out] at hf5
 have l3 := Wr.run_len (([num, off, base] : List Int).map Wr.It.n) s2 (by
  intro y hy
  obtain ⟨⟨zn, zo, zb⟩, _⟩ := HZ.out
  simp only [List.map_cons, List.map_nil, List.mem_cons, List.not_mem_nil, or_false] at hy
  rcases hy with rfl | rfl | rfl
  · exact zn
  · exact zo
  · exact zb)
 rw [List.length_map] at l3
 simp only [List.length_cons, List.length_nil] at l3
 obtain ⟨s3, hs3⟩ : ∃ s3, s3 = Wr.run s2 (([num, off, base] : List Int).map Wr.It.n) := ⟨_, rfl⟩
 rw [← hs3] at h7 l3
 have HE := hid (show Wr.run s3 (Wr.lst 20 Wr.chI ch) = Wr.run Wr.e0 (Wr.rqI ⟨kind, who, fo, name, key, text, num, off, base, ch⟩) from by
  rw [hs3, HS2.out, Wr.rqI, Wr.run_app]; rfl)
 have HNE : Hid ((Wr.run s3 (Wr.lst 20 Wr.chI ch)).l ≠ []) := Wr.run_ne (by rw [hs3]; exact Wr.run_ne (by rw [HS2.out]; exact Wr.run_ne n1.out))
 clear hs3
 have hm5 := hf5.row HM4.out hmb (by decide)
 have ht5 := HT4.out.fr h3 hf5
 have g1 : w5.cell? ⟨w.heap.size, 9, none⟩ = some (.slice av ch.length cv) := by rw [Lib.cell_of_heap hm5]; rfl
 have hfw : Fr w.heap.size (w.heap.size + 1) wb w5 := hf1.trans (hf2.trans (hf3.trans (hf4.trans hf5)))
 have HP := hid (wchanges_any w ch _ (w.heap.size + 1) s3 w5 HL.out (hab.trans hfw.1) h7 (by omega) h3 ht5 HC.out)
 clear hm5 ht5 HM4 HT4 HY d1 d2 d3 h7
 go_wp2_with fail
 refine HP.out.mono ?_
 rintro e w6 ⟨rfl, h8, hf6⟩
 have HQ := hid (written_any w.heap.size (w.heap.size + 1) _ w6 h8 HNE.out)
 clear h8 g1 HP
 go_wp2_with fail
 refine HQ.out.mono ?_
 rintro e w7 ⟨rfl, hb7⟩
 go_wp2_with fail
 go_ret2
 rw [HE.out]
 exact ⟨rfl, hab.trans (hfw.1.trans (hf6.1.trans hb7))⟩
end Go.Proofs.YthgjdgpjkcmcdaaDoor
namespace Go.Proofs.YthgjdgpjkcmcdaaDoor
open Go.RowKit

namespace Wr
theorem bind_iff {α β : Type} {p : Ps α} {f : α → Ps β} {l r : List UInt8} {y : β} : bindP p f l = some (y, r) ↔ ∃ x r', p l = some (x, r') ∧ f x r' = some (y, r) := by
 unfold bindP
 cases h : p l with
 | none => simp
 | some z =>
  obtain ⟨x, r'⟩ := z
  constructor
  · exact fun h => ⟨x, r', rfl, h⟩
  · rintro ⟨a, b, h1, h2⟩
    simp only [Option.some.injEq, Prod.mk.injEq] at h1
    obtain ⟨rfl, rfl⟩ := h1
    exact h2
theorem pure_iff {α : Type} {x y : α} {l r : List UInt8} : pureP x l = some (y, r) ↔ x = y ∧ l = r := by simp [pureP]
/-- Just what is written so is read. -/
def Rds {α : Type} (p : Ps α) (enc : α → List It) (OK : α → Prop) : Prop := ∀ l x r, p l = some (x, r) ↔ OK x ∧ l = bytes (enc x) ++ r
theorem rds_rd {g : Int → Bool} (hg : ∀ n, g n = true → wide n) : Rds (rdG g) (fun n => [.n n]) (fun n => g n = true) := fun l x r => by
 rw [rdG_iff hg]; simp [bytes, It.bytes]
theorem rds_cnt {g : Int → Bool} (hg : ∀ n, g n = true → wide n) (m : Int) : Rds (cntP g m) (fun n => [.n n]) (fun n => g n = true ∧ 0 ≤ n ∧ n ≤ m) := fun l x r => by
 unfold cntP
 rw [bind_iff]
 constructor
 · rintro ⟨n, r', h1, h2⟩
   split at h2
   · rename_i hc
     simp only [Option.some.injEq, Prod.mk.injEq] at h2
     obtain ⟨rfl, rfl⟩ := h2
     have := (rds_rd hg l n r').1 h1
     exact ⟨⟨this.1, hc⟩, this.2⟩
   · cases h2
 · rintro ⟨⟨h1, h2⟩, h3⟩
   exact ⟨x, r, (rds_rd hg l x r).2 ⟨h1, h3⟩, by rw [if_pos h2]⟩
theorem rds_txt {g : Int → Bool} (hg : ∀ n, g n = true → wide n) (m : Int) : Rds (txtP g m) (fun x => [.t x]) (fun x => g x.size = true ∧ (x.size : Int) ≤ m) := fun l x r => by
 unfold txtP
 rw [bind_iff]
 constructor
 · rintro ⟨n, r', h1, h2⟩
   obtain ⟨⟨hn1, hn2, hn3⟩, rfl⟩ := (rds_cnt hg m l n r').1 h1
   split at h2
   · rename_i hc
     simp only [Option.some.injEq, Prod.mk.injEq] at h2
     obtain ⟨rfl, rfl⟩ := h2
     obtain ⟨k, rfl⟩ : ∃ k : Nat, n = k := ⟨n.toNat, by omega⟩
     have hk : k ≤ r'.length := by omega
     have hz : (⟨(r'.take k).toArray⟩ : ByteArray).size = k := by rw [Lib.size_eq]; simp; omega
     simp only [Int.toNat_natCast]
     refine ⟨by rw [hz]; exact ⟨hn1, hn3⟩, ?_⟩
     simp only [bytes, List.flatMap_cons, List.flatMap_nil, It.bytes, hz, List.append_nil]
     simp
   · cases h2
 · rintro ⟨⟨h1, h2⟩, rfl⟩
   have hz : x.size = x.data.toList.length := Lib.size_eq x
   refine ⟨x.size, x.data.toList ++ r, (rds_cnt hg m _ _ _).2 ⟨⟨h1, by omega, h2⟩, by simp [bytes, It.bytes]⟩, ?_⟩
   rw [if_pos (by rw [List.length_append, ← hz]; omega)]
   simp only [Int.toNat_natCast]
   rw [hz, List.take_left, List.drop_left]
theorem rds_rep {α : Type} {p : Ps α} {enc : α → List It} {OK : α → Prop} (hp : Rds p enc OK) : ∀ n, Rds (repP p n) (fun xs => xs.flatMap enc) (fun xs => xs.length = n ∧ ∀ x ∈ xs, OK x)
 | 0 => fun l xs r => by
  rw [show repP p 0 = pureP [] from rfl, pure_iff]
  constructor
  · rintro ⟨rfl, rfl⟩; simp [bytes]
  · rintro ⟨⟨h1, _⟩, rfl⟩
    obtain rfl := List.length_eq_zero_iff.1 h1
    simp [bytes]
 | n + 1 => fun l xs r => by
  rw [show repP p (n + 1) = bindP p (fun x => bindP (repP p n) fun xs => pureP (x :: xs)) from rfl, bind_iff]
  simp only [bind_iff, pure_iff]
  constructor
  · rintro ⟨x, r', h1, ys, r2, h2, rfl, rfl⟩
    obtain ⟨a1, rfl⟩ := (hp l x r').1 h1
    obtain ⟨⟨b1, b2⟩, rfl⟩ := (rds_rep hp n r' ys r2).1 h2
    refine ⟨⟨by simp [b1], fun y hy => ?_⟩, ?_⟩
    · rcases List.mem_cons.1 hy with rfl | hy
      · exact a1
      · exact b2 y hy
    · rw [List.flatMap_cons, bytes_app, List.append_assoc]
  · rintro ⟨⟨h1, h2⟩, rfl⟩
    match xs, h1 with
    | x :: ys, h1 =>
     refine ⟨x, bytes (ys.flatMap enc) ++ r, (hp _ _ _).2 ⟨h2 x (by simp), by rw [List.flatMap_cons, bytes_app, List.append_assoc]⟩, ys, r, (rds_rep hp n _ _ _).2 ⟨⟨by simpa using h1, fun y hy => h2 y (by simp [hy])⟩, rfl⟩, rfl, rfl⟩
theorem rds_lst {α : Type} {p : Ps α} {enc : α → List It} {OK : α → Prop} {g : Int → Bool} (hg : ∀ n, g n = true → wide n) (m : Nat) (hm : ∀ n : Nat, n ≤ m → g n = true) (hp : Rds p enc OK) : Rds (lstP g m p) (fun xs => lst m enc xs) (fun xs => xs.length ≤ m ∧ ∀ x ∈ xs, OK x) := fun l xs r => by
 unfold lstP
 rw [bind_iff]
 constructor
 · rintro ⟨n, r', h1, h2⟩
   obtain ⟨⟨hn1, hn2, hn3⟩, rfl⟩ := (rds_cnt hg m l n r').1 h1
   obtain ⟨⟨b1, b2⟩, rfl⟩ := (rds_rep hp _ r' xs r).1 h2
   have hx : (xs.length : Int) = n := by omega
   refine ⟨⟨by omega, b2⟩, ?_⟩
   dsimp only
   rw [lst, if_pos (by omega), bytes_cons, ← hx]
   simp [bytes]
 · rintro ⟨⟨h1, h2⟩, rfl⟩
   refine ⟨xs.length, bytes (xs.flatMap enc) ++ r, (rds_cnt hg m _ _ _).2 ⟨⟨hm _ h1, by omega, by omega⟩, ?_⟩, (rds_rep hp _ _ _ _).2 ⟨⟨by simp, h2⟩, rfl⟩⟩
   dsimp only
   rw [lst, if_pos h1, bytes_cons]
   simp [bytes]
/-- What may be in a change. -/
structure OkC (g : Int → Bool) (m : Int) (c : Pp.Ch) : Prop where
 k : g c.k = true
 b : g c.b = true
 p : g c.p.size = true ∧ (c.p.size : Int) ≤ m
 q : g c.q.size = true ∧ (c.q.size : Int) ≤ m
 t : g c.t.size = true ∧ (c.t.size : Int) ≤ m
theorem rds_ch {g : Int → Bool} (hg : ∀ n, g n = true → wide n) (m : Int) : Rds (chP g m) chI (OkC g m) := fun l c r => by
 unfold chP
 simp only [bind_iff, pure_iff]
 constructor
 · rintro ⟨k, r1, h1, p, r2, h2, q, r3, h3, t, r4, h4, b, r5, h5, rfl, rfl⟩
   obtain ⟨a1, rfl⟩ := (rds_rd hg _ _ _).1 h1
   obtain ⟨a2, rfl⟩ := (rds_txt hg m _ _ _).1 h2
   obtain ⟨a3, rfl⟩ := (rds_txt hg m _ _ _).1 h3
   obtain ⟨a4, rfl⟩ := (rds_txt hg m _ _ _).1 h4
   obtain ⟨a5, rfl⟩ := (rds_rd hg _ _ _).1 h5
   exact ⟨⟨a1, a5, a2, a3, a4⟩, by simp [chI, bytes]⟩
 · rintro ⟨⟨a1, a5, a2, a3, a4⟩, rfl⟩
   exact ⟨_, _, (rds_rd hg _ c.k (bytes [.t c.p, .t c.q, .t c.t, .n c.b] ++ r)).2 ⟨a1, by simp [chI, bytes]⟩, _, _, (rds_txt hg m _ c.p (bytes [.t c.q, .t c.t, .n c.b] ++ r)).2 ⟨a2, by simp [bytes]⟩, _, _, (rds_txt hg m _ c.q (bytes [.t c.t, .n c.b] ++ r)).2 ⟨a3, by simp [bytes]⟩, _, _, (rds_txt hg m _ c.t (bytes [.n c.b] ++ r)).2 ⟨a4, by simp [bytes]⟩, _, _, (rds_rd hg _ c.b r).2 ⟨a5, by simp [bytes]⟩, rfl, rfl⟩
structure OkQ (g : Int → Bool) (m : Int) (q : Rq) : Prop where
 kind : g q.kind = true
 who : g q.who.size = true ∧ (q.who.size : Int) ≤ m
 fo : g q.fo.size = true ∧ (q.fo.size : Int) ≤ m
 name : g q.name.size = true ∧ (q.name.size : Int) ≤ m
 key : g q.key.size = true ∧ (q.key.size : Int) ≤ m
 text : g q.text.size = true ∧ (q.text.size : Int) ≤ m
 num : g q.num = true
 off : g q.off = true
 base : g q.base = true
 ch : q.ch.length ≤ 20 ∧ ∀ c ∈ q.ch, OkC g m c
theorem rds_rq {g : Int → Bool} (hg : ∀ n, g n = true → wide n) (hm : ∀ n : Nat, n ≤ 20 → g n = true) (m : Int) : Rds (rqP g m) rqI (OkQ g m) := fun l q r => by
 have hl := fun l x r => rds_lst hg 20 hm (rds_ch hg m) l x r
 unfold rqP
 simp only [bind_iff, pure_iff]
 constructor
 · rintro ⟨k, r1, h1, a, r2, h2, b, r3, h3, c, r4, h4, d, r5, h5, e, r6, h6, x, r7, h7, y, r8, h8, z, r9, h9, cs, r10, h10, rfl, rfl⟩
   obtain ⟨a1, rfl⟩ := (rds_rd hg _ _ _).1 h1
   obtain ⟨a2, rfl⟩ := (rds_txt hg m _ _ _).1 h2
   obtain ⟨a3, rfl⟩ := (rds_txt hg m _ _ _).1 h3
   obtain ⟨a4, rfl⟩ := (rds_txt hg m _ _ _).1 h4
   obtain ⟨a5, rfl⟩ := (rds_txt hg m _ _ _).1 h5
   obtain ⟨a6, rfl⟩ := (rds_txt hg m _ _ _).1 h6
   obtain ⟨a7, rfl⟩ := (rds_rd hg _ _ _).1 h7
   obtain ⟨a8, rfl⟩ := (rds_rd hg _ _ _).1 h8
   obtain ⟨a9, rfl⟩ := (rds_rd hg _ _ _).1 h9
   obtain ⟨a10, rfl⟩ := (hl _ _ _).1 h10
   exact ⟨⟨a1, a2, a3, a4, a5, a6, a7, a8, a9, a10⟩, by simp [rqI, bytes]⟩
 · rintro ⟨⟨a1, a2, a3, a4, a5, a6, a7, a8, a9, a10⟩, rfl⟩
   obtain ⟨k, a, b, c, d, e, x, y, z, cs⟩ := q
   have E := rfl (a := bytes (lst 20 chI cs) ++ r)
   exact ⟨_, _, (rds_rd hg _ k (bytes [.t a, .t b, .t c, .t d, .t e, .n x, .n y, .n z] ++ (bytes (lst 20 chI cs) ++ r))).2 ⟨a1, by simp [rqI, bytes]⟩,
    _, _, (rds_txt hg m _ a (bytes [.t b, .t c, .t d, .t e, .n x, .n y, .n z] ++ (bytes (lst 20 chI cs) ++ r))).2 ⟨a2, by simp [bytes]⟩,
    _, _, (rds_txt hg m _ b (bytes [.t c, .t d, .t e, .n x, .n y, .n z] ++ (bytes (lst 20 chI cs) ++ r))).2 ⟨a3, by simp [bytes]⟩,
    _, _, (rds_txt hg m _ c (bytes [.t d, .t e, .n x, .n y, .n z] ++ (bytes (lst 20 chI cs) ++ r))).2 ⟨a4, by simp [bytes]⟩,
    _, _, (rds_txt hg m _ d (bytes [.t e, .n x, .n y, .n z] ++ (bytes (lst 20 chI cs) ++ r))).2 ⟨a5, by simp [bytes]⟩,
    _, _, (rds_txt hg m _ e (bytes [.n x, .n y, .n z] ++ (bytes (lst 20 chI cs) ++ r))).2 ⟨a6, by simp [bytes]⟩,
    _, _, (rds_rd hg _ x (bytes [.n y, .n z] ++ (bytes (lst 20 chI cs) ++ r))).2 ⟨a7, by simp [bytes]⟩,
    _, _, (rds_rd hg _ y (bytes [.n z] ++ (bytes (lst 20 chI cs) ++ r))).2 ⟨a8, by simp [bytes]⟩,
    _, _, (rds_rd hg _ z (bytes (lst 20 chI cs) ++ r)).2 ⟨a9, by simp [bytes]⟩,
    _, _, (hl _ cs r).2 ⟨a10, rfl⟩, rfl, rfl⟩
/-! What is written, if it may be. -/
theorem run_ok : ∀ (l : List It) (s : Ws), ok l = true → run s l = ⟨s.l ++ bytes l, s.mn, s.fr⟩
 | [], s, _ => by simp [run, bytes]
 | x :: l, s, h => by
  simp only [ok, List.all_cons, Bool.and_eq_true] at h
  have hx : put s x = ⟨s.l ++ x.bytes, s.mn, s.fr⟩ := by
   cases x with
   | n i => simp only [It.ok] at h; simp [put, num, It.bytes, h.1]
   | t x =>
    simp only [It.ok, decide_eq_true_eq] at h
    have hn : near (x.size : Int) = true := by rw [near_iff]; omega
    simp only [put, txt]
    rw [if_neg (by omega)]
    simp [num, It.bytes, hn]
   | big => simp [It.ok] at h
  rw [run_cons, hx, run_ok l _ h.2, bytes_cons]; simp
theorem put_bad (s : Ws) (x : It) : (s.mn = true ∨ s.fr = true ∨ x.ok = false) → ((put s x).mn = true ∨ (put s x).fr = true) := by
 intro h
 cases x with
 | n i => simp only [put, num, It.ok] at h ⊢; rcases h with h | h | h <;> simp [h]
 | t x =>
  simp only [put, txt, It.ok] at h ⊢
  split
  · simp [much]
  · rename_i hx
    simp only [num]
    rcases h with h | h | h
    · simp [h]
    · simp [h]
    · simp at h; omega
 | big => simp [put, much]
theorem run_bad : ∀ (l : List It) (s : Ws), (s.mn = true ∨ s.fr = true ∨ ok l = false) → ((run s l).mn = true ∨ (run s l).fr = true)
 | [], s, h => by simpa [ok, run] using h
 | x :: l, s, h => by
  rw [run_cons]
  refine run_bad l _ ?_
  by_cases hx : s.mn = true ∨ s.fr = true ∨ x.ok = false
  · rcases put_bad s x hx with h | h <;> simp [h]
  · simp only [not_or, Bool.not_eq_false, Bool.not_eq_true] at hx
    simp only [ok, List.all_cons, hx.1, hx.2.1, hx.2.2, Bool.true_and] at h
    exact Or.inr (Or.inr (by simpa [ok] using h))
theorem fin_ok {l : List It} (h : ok l = true) : fin (run e0 l) = (⟨(bytes l).toArray⟩, 0) := by
 rw [run_ok l _ h]; simp [fin, e0]
theorem fin_bad {l : List It} (h : ok l = false) : (fin (run e0 l)).2 ≠ 0 ∧ (fin (run e0 l)).1 = ⟨#[]⟩ := by
 rcases run_bad l e0 (Or.inr (Or.inr h)) with h | h
 · unfold fin; rw [if_pos h]; exact ⟨by decide, rfl⟩
 · unfold fin; split
   · exact ⟨by decide, rfl⟩
   · exact ⟨by decide, rfl⟩
theorem ok_app (a b : List It) : ok (a ++ b) = (ok a && ok b) := by simp [ok]
theorem ok_lst {α : Type} (m : Nat) (hm : m ≤ 1000) (enc : α → List It) (xs : List α) : ok (lst m enc xs) = true ↔ xs.length ≤ m ∧ ∀ x ∈ xs, ok (enc x) = true := by
 unfold lst
 split
 · rename_i h
   have hn : near (xs.length : Int) = true := by rw [near_iff]; omega
   simp only [ok, List.all_cons, It.ok, hn, Bool.true_and, h, true_and, List.all_flatMap, List.all_eq_true]
 · rename_i h; simp [ok, It.ok, h]
theorem ok_ch (c : Pp.Ch) : ok (chI c) = true ↔ OkC gN 1000 c := by
 have hs : ∀ x : ByteArray, x.size ≤ 1000 ↔ gN x.size = true ∧ (x.size : Int) ≤ 1000 := fun x => by
  rw [gN, near_iff]; omega
 simp only [ok, chI, List.all_cons, List.all_nil, It.ok, Bool.and_eq_true, decide_eq_true_eq, Bool.and_true, hs]
 constructor
 · rintro ⟨h1, h2, h3, h4, h5⟩; exact ⟨h1, h5, h2, h3, h4⟩
 · rintro ⟨h1, h5, h2, h3, h4⟩; exact ⟨h1, h2, h3, h4, h5⟩
theorem ok_rq (q : Rq) : ok (rqI q) = true ↔ OkQ gN 1000 q := by
 have hs : ∀ x : ByteArray, x.size ≤ 1000 ↔ gN x.size = true ∧ (x.size : Int) ≤ 1000 := fun x => by
  rw [gN, near_iff]; omega
 rw [rqI, ok_app, Bool.and_eq_true, ok_lst 20 (by omega)]
 simp only [ok_ch]
 simp only [ok, List.all_cons, List.all_nil, It.ok, Bool.and_eq_true, decide_eq_true_eq, Bool.and_true, hs]
 constructor
 · rintro ⟨⟨h1, h2, h3, h4, h5, h6, h7, h8, h9⟩, h10⟩; exact ⟨h1, h2, h3, h4, h5, h6, h7, h8, h9, h10⟩
 · rintro ⟨h1, h2, h3, h4, h5, h6, h7, h8, h9, h10⟩; exact ⟨⟨h1, h2, h3, h4, h5, h6, h7, h8, h9⟩, h10⟩
theorem gN_small : ∀ n : Nat, n ≤ 60 → gN n = true := fun n h => by rw [gN, near_iff]; omega
end Wr
end Go.Proofs.YthgjdgpjkcmcdaaDoor
namespace Go.Proofs.YthgjdgpjkcmcdaaDoor
open Go.RowKit

/-- What a reading of the document's scanner answers: something, right or wrong. -/
def ScV {α : Type} (b : Nat) (s : ByteArray) (bad : Bool) (w : World) (res : Option (α × List UInt8)) (V : α → Value → World → Prop) (P : α → Prop) (e : Ending) (w' : World) : Prop :=
 ∃ x v j bad', e = .returned v ∧ V x v w' ∧ P x ∧ Sc b s j bad' w' ∧ j ≤ s.size ∧ w.grownBy w' (some b) ∧ (bad = true → bad' = true) ∧
  (bad = false → (res = none → bad' = true) ∧ ∀ y r, res = some (y, r) → bad' = false ∧ x = y ∧ s.data.toList.drop j = r)
/-- One behind another. -/
theorem ScV.step {α β : Type} {b j : Nat} {s : ByteArray} {bad : Bool} {w w' : World} {p : Wr.Ps α} {f : α → Wr.Ps β} {V : α → Value → World → Prop} {P : α → Prop} {e : Ending} {RES : Option (β × List UInt8)} (h : ScV b s bad w (p (s.data.toList.drop j)) V P e w')
    (hT : bad = true → RES = none) (hF : bad = false → RES = Wr.bindP p f (s.data.toList.drop j)) :
    ∃ x v j' bad', e = .returned v ∧ V x v w' ∧ P x ∧ Sc b s j' bad' w' ∧ j' ≤ s.size ∧ w.grownBy w' (some b) ∧ (bad' = true → RES = none) ∧ (bad' = false → RES = f x (s.data.toList.drop j')) := by
 obtain ⟨x, v, j', bad', he, hV, hP, hS, hj, hg, h1, h2⟩ := h
 refine ⟨x, v, j', bad', he, hV, hP, hS, hj, hg, ?_, ?_⟩
 · intro hb
   cases bad with
   | true => exact hT rfl
   | false =>
    rw [hF rfl]
    cases hr : p (s.data.toList.drop j) with
    | none => exact Wr.bind_none hr
    | some z => obtain ⟨y, r⟩ := z; have := ((h2 rfl).2 y r hr).1; rw [hb] at this; cases this
 · intro hb
   cases bad with
   | true => rw [h1 rfl] at hb; cases hb
   | false =>
    rw [hF rfl]
    cases hr : p (s.data.toList.drop j) with
    | none => rw [(h2 rfl).1 hr] at hb; cases hb
    | some z => obtain ⟨y, r⟩ := z; obtain ⟨_, rfl, h3⟩ := (h2 rfl).2 y r hr; rw [Wr.bind_some hr, h3]
/-- The document's scanner at work on a record of its own. -/
structure S5 (w : World) (b C : Nat) (s : ByteArray) (j : Nat) (bd : Bool) (cs : List Value) (W : World) : Prop where
 sc : Sc b s j bd W
 jl : j ≤ s.size
 cC : Cs W C cs
 fr : w.grownBy W (some b)
 bl : b < w.heap.size
 Cl : w.heap.size ≤ C
theorem S5.call {w W W' : World} {b C j j' : Nat} {s : ByteArray} {bd bd' : Bool} {cs : List Value} (h : S5 w b C s j bd cs W) (hn : W.grownBy W' (some b)) (hr : Sc b s j' bd' W') (hj : j' ≤ s.size) : S5 w b C s j' bd' cs W' :=
 ⟨hr, hj, h.cC.nb hn (by have := h.bl; have := h.Cl; omega), nb_tr h.fr hn, h.bl, h.Cl⟩
theorem Sc.nb {b g i : Nat} {s : ByteArray} {bad : Bool} {w w' : World} (h : Sc b s i bad w) (hw : w.grownBy w' (some g)) (hne : b ≠ g) : Sc b s i bad w' := (hw.block b h.lt (fun e => hne (by injection e))).trans h
theorem S5.set {w W : World} {b C j : Nat} {s : ByteArray} {bd : Bool} {cs : List Value} (h : S5 w b C s j bd cs W) (i : Nat) (v : Value) : S5 w b C s j bd (cs.set i v) (W.setCell ⟨C, i, none⟩ v) := by
 have hb := h.bl
 have hC := h.Cl
 exact ⟨h.sc.nb (nb_set W C i v) (by omega), h.jl, h.cC.set i v, nb_new h.fr h.Cl v, h.bl, h.Cl⟩
namespace Wr
end Wr
/-- The document's writer in a block of its own. -/
def RW (b : Nat) (s : Ws) (w : World) : Prop := w.heap[b]? = some (.cells #[.string ⟨s.l.toArray⟩, .bool s.mn, .bool s.fr] 61 (0, 0))
theorem RW.cs {b : Nat} {s : Ws} {w : World} (h : RW b s w) : Cs w b [.string ⟨s.l.toArray⟩, .bool s.mn, .bool s.fr] := ⟨_, h⟩
theorem RW.lt {b : Nat} {s : Ws} {w : World} (h : RW b s w) : b < w.heap.size := heap_lt h
theorem RW.below {b : Nat} {s : Ws} {w w' : World} (h : RW b s w) (hb : Below w.heap.size w w') : RW b s w' := (hb.block b h.lt).trans h
theorem RW.set {b : Nat} {s : Ws} {w : World} (h : RW b s w) (i : Nat) (u : Value) (cs : List Value) (hc : [.string ⟨s.l.toArray⟩, .bool s.mn, .bool s.fr].set i u = cs) : (w.setCell ⟨b, i, none⟩ u).heap[b]? = some (.cells cs.toArray 61 (0, 0)) := by
 unfold World.setCell
 unfold RW at h
 simp only [Array.getElem?_modify, h, if_true, Option.map_some]
 rw [← hc]; simp
theorem RW.put {b : Nat} {s : Ws} {w : World} (h : RW b s w) (l : List UInt8) : RW b ⟨l, s.mn, s.fr⟩ (w.setCell ⟨b, 0, none⟩ (.string ⟨l.toArray⟩)) := h.set 0 _ _ rfl
theorem RW.far {b : Nat} {s : Ws} {w : World} (h : RW b s w) : RW b ⟨s.l, s.mn, true⟩ (w.setCell ⟨b, 2, none⟩ (.bool true)) := h.set 2 _ _ rfl
end Go.Proofs.YthgjdgpjkcmcdaaDoor
namespace Go.Proofs.YthgjdgpjkcmcdaaDoor
open Go.RowKit

namespace Wr
/-- All of it was read. -/
def whole {α : Type} : Option (α × List UInt8) → Option α
 | some (x, []) => some x
 | _ => none
end Wr
/-- What a reading of a whole text answers. -/
def WhPost {α : Type} (res : Option α) (z : Value) (V : α → Value → World → Prop) (e : Ending) (w' : World) : Prop := match res with
 | none => e = .returned (.tuple #[z, .int .i64 1])
 | some x => ∃ v, e = .returned (.tuple #[v, .int .i64 0]) ∧ V x v w'
theorem RqV.set {B : Nat} {q : Rq} {v : Value} {W : World} (h : RqV B q v W) {g : Nat} (hg : g < B) (i : Nat) (u : Value) : RqV B q v (W.setCell ⟨g, i, none⟩ u) := by
 obtain ⟨vc, h1, h2⟩ := h
 exact ⟨vc, h1, h2.setC hg i u⟩
theorem RqV.low {B B' : Nat} {q : Rq} {v : Value} {W : World} (h : RqV B q v W) (hB : B' ≤ B) : RqV B' q v W := by
 obtain ⟨vc, h1, h2⟩ := h
 exact ⟨vc, h1, h2.low hB⟩
theorem RowV.belowC {B : Nat} {T : TypeId} {n : Nat} {xs : List Pp.Ch} {v : Value} {W W' : World} (h : RowV B T n VCh xs v W) (hw : Below W.heap.size W W') : RowV B T n VCh xs v W' := by
 obtain ⟨Z, h1, h2, h3⟩ := h
 refine ⟨Z, h1, h2.kept (row := none) ⟨hw.os, hw.tape, hw.output, hw.size, fun k hk _ => hw.block k hk⟩ (by cases hv : v.ownBlock with
  | none => exact Or.inl rfl
  | some q => exact Or.inr (by simp)), h3⟩
theorem RqV.below {B : Nat} {q : Rq} {v : Value} {W W' : World} (h : RqV B q v W) (hw : Below W.heap.size W W') : RqV B q v W' := by
 obtain ⟨vc, h1, h2⟩ := h
 exact ⟨vc, h1, h2.belowC hw⟩
theorem nb_low {W W' : World} {b B : Nat} (h : W.grownBy W' (some b)) (hb : B ≤ b) (hB : B ≤ W.heap.size) : Below B W W' := ⟨h.os, h.tape, h.output, h.size, fun k hk => h.block k (by omega) (fun e => by injection e; omega)⟩
theorem Tryd.errnoYes (t : TypeId) (W : World) : (Instr.typeAssert (.iface 25 (.int .i64 1)) t 25 true).run Tryd.prog W = .ok (.tuple #[.int .i64 1, .bool true]) W := by kernel_rfl
theorem Tryd.errnoNo (t : TypeId) (W : World) : (Instr.typeAssert .nilIface t 25 true).run Tryd.prog W = .ok (.tuple #[.int .i64 0, .bool false]) W := by kernel_rfl
set_option maxRecDepth 4000 in
theorem catch_gave (p : Addr) (w : World) (hc : w.cell? p = some (.int .i64 0)) (hz : w.frozen? p = false) :
    CallsD Tryd.prog 55 #[.pointer (some p)] (.panicking [{ v := .iface 25 (.int .i64 1), recovered := false }]) w fun e u' w' =>
     e = .returned (.tuple #[]) ∧ u' = .panicking [{ v := .iface 25 (.int .i64 1), recovered := true }] ∧ w' = w.setCell p (.int .i64 1) := by
 refine callsD_of_wpS Tryd.func55 rfl fun c₀ cs hu => ?_
 have h1 := Tryd.errnoYes
 apply wpS_seq
 apply wpS_region
 simp [wpOpsS, go_sem, recoverD, hu, h1, Tryd.ntmps55, Exit.thenS, Array.replicate]
 apply wpS_seq
 apply wpS_region
 simp [wpOpsS, go_sem, Exit.thenS]
 refine wpS_cond (t := true) (by simp [Act.eval, Array.replicate]) ?_
 simp only [if_true]
 apply wpS_region
 simp [wpOpsS, go_sem, hc, hz, bodyPostS, results, Tryd.results55]
set_option maxRecDepth 4000 in
theorem catch_none (p : Addr) (w : World) :
    CallsD Tryd.prog 55 #[.pointer (some p)] .returning w fun e u' w' => e = .returned (.tuple #[]) ∧ u' = .returning ∧ w' = w := by
 refine callsD_of_wpS Tryd.func55 rfl fun c₀ cs hu => ?_
 have h1 := Tryd.errnoNo
 apply wpS_seq
 apply wpS_region
 simp [wpOpsS, go_sem, recoverD, hu, h1, Tryd.ntmps55, Exit.thenS, Array.replicate]
 apply wpS_seq
 apply wpS_region
 simp [wpOpsS, go_sem, Exit.thenS]
 refine wpS_cond (t := false) (by simp [Act.eval, Array.replicate]) ?_
 simp only [Bool.false_eq_true, if_false]
 refine wpS_of_wp (wp_skip ?_)
 cases c₀
 simp_all [bodyPostS, results, Tryd.results55]
theorem readq_gave (tm : Array Value) (c e : Nat) (R : Ending → World → Prop) (W : World) (h4 : tm.getD 4 undef = .pointer (some ⟨c, 0, none⟩)) (h5 : tm.getD 5 undef = .pointer (some ⟨e, 0, none⟩)) (hne : c ≠ e) (hcR : Cs W c zrq) (hE : Cs W e [.int .i64 0]) (hR : R (.returned (.tuple #[.agg zrq.toArray, .int .i64 1])) (W.setCell ⟨e, 0, none⟩ (.int .i64 1))) :
    Leaves Tryd.prog Tryd.f29 tm R [{ target := Target.fn (Fn.func 55) #[.pointer (some ⟨e, 0, none⟩)], args := #[] }] (.panicking [{ v := .iface 25 (.int .i64 1), recovered := false }]) W := by
 refine leaves_cons (f := 55) (args := #[.pointer (some ⟨e, 0, none⟩)]) (by simp) (by simp [go_sem]) ?_
 refine (catch_gave ⟨e, 0, none⟩ _ (hE.cell 0 rfl) (hE.fr 0)).mono ?_
 rintro e1 u' w'' ⟨rfl, rfl, rfl⟩
 have hcR2 := hcR.other (o := 0) hne (.int .i64 1)
 have hE2 := (hE.set 0 (.int .i64 1)).cell 0 rfl
 have y0 := hcR2.cell 0 rfl
 have y1 := hcR2.cell 1 rfl
 have y2 := hcR2.cell 2 rfl
 have y3 := hcR2.cell 3 rfl
 have y4 := hcR2.cell 4 rfl
 have y5 := hcR2.cell 5 rfl
 have y6 := hcR2.cell 6 rfl
 have y7 := hcR2.cell 7 rfl
 have y8 := hcR2.cell 8 rfl
 have y9 := hcR2.cell 9 rfl
 refine ⟨_, ?_, hR⟩
 have h4' : tm[4]?.getD undef = .pointer (some ⟨c, 0, none⟩) := by rw [← h4]; simp
 have h5' : tm[5]?.getD undef = .pointer (some ⟨e, 0, none⟩) := by rw [← h5]; simp
 simp [results, Tryd.results29, go_sem, h4', h5', hE2, y0, y1, y2, y3, y4, y5, y6, y7, y8, y9]
theorem readq_well (tm : Array Value) (e : Nat) (R : Ending → World → Prop) (W : World) (hR : ∃ v, (results Tryd.f29 tm).run Tryd.prog W = .ok v W ∧ R (.returned v) W) :
    Leaves Tryd.prog Tryd.f29 tm R [{ target := Target.fn (Fn.func 55) #[.pointer (some ⟨e, 0, none⟩)], args := #[] }] .returning W := by
 refine leaves_cons (f := 55) (args := #[.pointer (some ⟨e, 0, none⟩)]) (by simp) (by simp [go_sem]) ?_
 refine (catch_none ⟨e, 0, none⟩ _).mono ?_
 rintro e1 u' w'' ⟨rfl, rfl, rfl⟩
 exact hR
theorem rrq_enters : ∀ args w, (callFunc 30 args).run Tryd.prog w = .ok (.enter 30 args) w := enters_of Tryd.func30 (by kernel_rfl) rfl
set_option maxHeartbeats 2000000 in
theorem readq_any (s : ByteArray) (w : World) (hs : s.size ≤ MaxL) (h6 : 5 < w.heap.size) (hv : VarsW w) :
    Calls Tryd.prog 29 #[.string s, .func (.func 30) #[] #[]] w fun e w' => WhPost (Wr.whole (Wr.rqP Wr.gN 1000 s.data.toList)) (.agg zrq.toArray) (RqV w.heap.size) e w' ∧ Below w.heap.size w w' := by
 have hmf : ∀ (fn : Fn) (first cap : Array Value) (w : World), (Instr.makeFunc fn first cap).run Tryd.prog w = .ok (.func fn first cap) w := fun _ _ _ _ => rfl
 have eg := rrq_enters
 obtain ⟨l, rfl⟩ : ∃ l : List UInt8, s = ⟨l.toArray⟩ := ⟨s.data.toList, by simp⟩
 have hsl : l.length ≤ MaxL := by rw [Lib.size_eq] at hs; simpa using hs
 rw [show (⟨l.toArray⟩ : ByteArray).data.toList = l from by simp]
 obtain ⟨w0, hw0⟩ : ∃ w0, w0 = w.alloc (.cells zrq.toArray 24) := ⟨_, rfl⟩
 obtain ⟨w5, hw5⟩ : ∃ w5, w5 = w0.alloc (.cells #[.int .i64 0] 25) := ⟨_, rfl⟩
 obtain ⟨wa, hwa⟩ : ∃ wa, wa = w5.alloc (.cells #[.string ⟨l.toArray⟩] 99) := ⟨_, rfl⟩
 have s0 : w0.heap.size = w.heap.size + 1 := by rw [hw0]; simp
 have s5 : w5.heap.size = w.heap.size + 1 + 1 := by rw [hw5]; simp [s0]
 have sa : wa.heap.size = w.heap.size + 1 + 1 + 1 := by rw [hwa]; simp [s5]
 have b0 : Below w.heap.size w w0 := by rw [hw0]; exact below_alloc _ _
 have b5 : Below w0.heap.size w0 w5 := by rw [hw5]; exact below_alloc _ _
 have ba : Below w5.heap.size w5 wa := by rw [hwa]; exact below_alloc _ _
 have hba : Below w.heap.size w wa := (b0.trans (b5.mono (by omega))).trans (ba.mono (by omega))
 have cR0 : Cs wa w.heap.size zrq := by
  have h1 : Cs w0 w.heap.size zrq := by rw [hw0]; exact Cs.new w zrq _
  exact (h1.below b5).below ba
 have cE0 : Cs wa (w.heap.size + 1) [.int .i64 0] := by
  have h1 : Cs w5 w0.heap.size [.int .i64 0] := by rw [hw5]; exact Cs.new w0 [.int .i64 0] _
  rw [s0] at h1
  exact h1.below ba
 have rda : Rd (w.heap.size + 1 + 1) l wa := by rw [← s5, hwa]; exact heap_alloc_new w5 _
 have HK := hid (rrq_any (w.heap.size + 1 + 1) l wa rda hsl (by omega) (hv.belowB (by omega) hba))
 rw [hwa, hw5, hw0] at HK
 have HWA := hid (show wa = ((w.alloc (.cells zrq.toArray 24)).alloc (.cells #[.int .i64 0] 25)).alloc (.cells #[.string ⟨l.toArray⟩] 99) from by rw [hwa, hw5, hw0])
 have HC := hid (And.intro cR0 (And.intro cE0 hba))
 have HSA := hid sa
 clear hs hwa hw5 hw0 b0 b5 ba s0 s5 cR0 cE0 hba rda sa
 go_enter_defers Tryd.func29, Tryd.ntmps29
 go_wp2_with fail
 refine HK.out.mono ?_
 rintro e w1 ⟨hp, hn1⟩
 rw [← HWA.out] at hp hn1
 obtain ⟨cR0, cE0, hba⟩ := HC.out
 have hcR := cR0.nb hn1 (by omega)
 have hcE := cE0.nb hn1 (by omega)
 have hb1 : Below w.heap.size w w1 := hba.trans (nb_low hn1 (by omega) hba.size)
 have hs1 := hn1.size
 rw [HSA.out] at hs1
 cases hq : Wr.rqP Wr.gN 1000 l with
 | none =>
  rw [hq] at hp
  cases hp
  exact readq_gave _ _ _ _ _ rfl rfl (by omega) hcR hcE ⟨by rw [hq]; rfl, hb1.setCell (p := ⟨w.heap.size + 1, 0, none⟩) (by simp) _⟩
 | some z =>
 obtain ⟨q, r⟩ := z
 rw [hq] at hp
 obtain ⟨v1, rfl, hV, hr1⟩ := hp
 have hbr := hr1.cell
 have HV := hid hV
 have HRD := hid hr1
 have HCS := hid (And.intro hcR (And.intro hcE hb1))
 obtain ⟨vc, rfl, hrow⟩ := HV.out
 obtain ⟨av, lv, cv, rfl⟩ := hrow.shape
 clear hrow
 have q2 : w.heap.size + 1 + 1 < w1.heap.size := by omega
 have q1 : w.heap.size + 1 < w1.heap.size := by omega
 have q0 : w.heap.size < w1.heap.size := by omega
 have m2 : ¬ w.heap.size + 1 + 1 = w1.heap.size := by omega
 have m1 : ¬ w.heap.size + 1 = w1.heap.size := by omega
 have m0 : ¬ w.heap.size = w1.heap.size := by omega
 have HS1 := hid hs1
 clear hV hr1 cR0 cE0 hba HK hn1 hs1
 cases r with
 | cons x r =>
  have hne : ((⟨(x :: r).toArray⟩ : ByteArray).toList == (⟨#[]⟩ : ByteArray).toList) = false := by
   rw [beq_eq_false_iff_ne]; intro h; rw [Lib.toList_data, Lib.toList_data] at h; simp at h
  have hnn : ((⟨(x :: r).toArray⟩ : ByteArray).toList != (⟨#[]⟩ : ByteArray).toList) = true := by rw [bne, hne]; rfl
  clear hcR hcE hb1
  go_wp2_with fail
  refine (gu_any _).mono ?_
  rintro e w3 ⟨rfl, rfl⟩
  obtain ⟨hcR, hcE, hb1⟩ := HCS.out
  have hal := below_alloc w1 (.cells #[.int .i64 q.kind, .string q.who, .string q.fo, .string q.name, .string q.key, .string q.text, .int .i64 q.num, .int .i64 q.off, .int .i64 q.base, .slice av lv cv] 24)
  exact readq_gave _ _ _ _ _ rfl rfl (by omega) (hcR.below hal) (hcE.below hal) ⟨by rw [hq]; rfl, (hb1.trans (hal.mono (Nat.le_of_lt q0))).setCell (p := ⟨w.heap.size + 1, 0, none⟩) (by simp) _⟩
 | nil =>
  have hne : ((⟨[].toArray⟩ : ByteArray).toList == (⟨#[]⟩ : ByteArray).toList) = true := by
   rw [Lib.toList_data]; rfl
  have hnn : ((⟨[].toArray⟩ : ByteArray).toList != (⟨#[]⟩ : ByteArray).toList) = false := by rw [bne, hne]; rfl
  have y0 := hcR.cell 0 rfl
  have x0 := hcR.fr 0
  have y1 := hcR.cell 1 rfl
  have x1 := hcR.fr 1
  have y2 := hcR.cell 2 rfl
  have x2 := hcR.fr 2
  have y3 := hcR.cell 3 rfl
  have x3 := hcR.fr 3
  have y4 := hcR.cell 4 rfl
  have x4 := hcR.fr 4
  have y5 := hcR.cell 5 rfl
  have x5 := hcR.fr 5
  have y6 := hcR.cell 6 rfl
  have x6 := hcR.fr 6
  have y7 := hcR.cell 7 rfl
  have x7 := hcR.fr 7
  have y8 := hcR.cell 8 rfl
  have x8 := hcR.fr 8
  have y9 := hcR.cell 9 rfl
  have x9 := hcR.fr 9
  have e0 := hcE.cell 0 rfl
  have g0 := hcE.fr 0
  clear hcR hcE hb1
  go_wp2_with fail
  obtain ⟨_, _, hb1⟩ := HCS.out
  have k1 : ¬ w.heap.size + 1 = w.heap.size := by omega
  have k2 : ¬ w.heap.size = w.heap.size + 1 := by omega
  have hB0 : w.heap.size < wa.heap.size := by rw [HSA.out]; omega
  have hB1 : w.heap.size + 1 < wa.heap.size := by rw [HSA.out]; omega
  have e1 : w.heap.size ≤ w.heap.size + 1 := Nat.le_succ _
  have e9 := Nat.le_refl w.heap.size
  refine readq_well _ _ _ _ ⟨.tuple #[.agg #[.int .i64 q.kind, .string q.who, .string q.fo, .string q.name, .string q.key, .string q.text, .int .i64 q.num, .int .i64 q.off, .int .i64 q.base, .slice av lv cv], .int .i64 0], ?_, ?_, ?_⟩
  · simp [results, Tryd.results29, go_sem, k1, k2, m0, m1, q0, q1, y0, y1, y2, y3, y4, y5, y6, y7, y8, y9, e0]
  · rw [hq]
    exact ⟨_, rfl, (HV.out |>.set hB0 0 _ |>.set hB0 1 _ |>.set hB0 2 _ |>.set hB0 3 _ |>.set hB0 4 _ |>.set hB0 5 _ |>.set hB0 6 _ |>.set hB0 7 _ |>.set hB0 8 _ |>.set hB0 9 _ |>.set hB1 0 (.int .i64 0)).low (by rw [HSA.out]; omega) |>.below (below_alloc _ _)⟩
  · exact (((hb1 |>.setCell (p := ⟨w.heap.size, 0, none⟩) e9 _ |>.setCell (p := ⟨w.heap.size, 1, none⟩) e9 _ |>.setCell (p := ⟨w.heap.size, 2, none⟩) e9 _ |>.setCell (p := ⟨w.heap.size, 3, none⟩) e9 _ |>.setCell (p := ⟨w.heap.size, 4, none⟩) e9 _ |>.setCell (p := ⟨w.heap.size, 5, none⟩) e9 _ |>.setCell (p := ⟨w.heap.size, 6, none⟩) e9 _ |>.setCell (p := ⟨w.heap.size, 7, none⟩) e9 _ |>.setCell (p := ⟨w.heap.size, 8, none⟩) e9 _ |>.setCell (p := ⟨w.heap.size, 9, none⟩) e9 _).setCell (p := ⟨w.heap.size + 1, 0, none⟩) e1 _).alloc (by simp; omega) _)
set_option maxHeartbeats 2000000 in
theorem asked_any (s : ByteArray) (w : World) (hs : s.size ≤ MaxL) (h6 : 5 < w.heap.size) (hv : VarsW w) :
    Calls Tryd.prog 12 #[.string s] w fun e w' => WhPost (Wr.whole (Wr.rqP Wr.gN 1000 s.data.toList)) (.agg zrq.toArray) (RqV w.heap.size) e w' ∧ Below w.heap.size w w' := by
 obtain ⟨w0, hw0⟩ : ∃ w0, w0 = w.alloc (.cells zrq.toArray 24) := ⟨_, rfl⟩
 have s0 : w0.heap.size = w.heap.size + 1 := by rw [hw0]; simp
 have b0 : Below w.heap.size w w0 := by rw [hw0]; exact below_alloc _ _
 have c0 : Cs w0 w.heap.size zrq := by rw [hw0]; exact Cs.new w zrq _
 have HK := hid (readq_any s w0 hs (by omega) (hv.belowB h6 b0))
 rw [hw0] at HK
 have HW0 := hid hw0
 have HB := hid (And.intro b0 c0)
 clear hw0 hv b0 c0
 generalize hR : Wr.whole (Wr.rqP Wr.gN 1000 s.data.toList) = res at *
 go_enter Tryd.func12, Tryd.ntmps12
 go_wp2_with fail
 refine HK.out.mono ?_
 rintro e w1 ⟨hp, hb1⟩
 rw [← HW0.out] at hp hb1
 obtain ⟨b0, c0⟩ := HB.out
 have hcR := c0.below hb1
 have hB1 : Below w.heap.size w w1 := b0.trans (hb1.mono (by omega))
 have hs1 := hb1.size
 have y0 := hcR.cell 0 rfl
 have x0 := hcR.fr 0
 have y1 := hcR.cell 1 rfl
 have x1 := hcR.fr 1
 have y2 := hcR.cell 2 rfl
 have x2 := hcR.fr 2
 have y3 := hcR.cell 3 rfl
 have x3 := hcR.fr 3
 have y4 := hcR.cell 4 rfl
 have x4 := hcR.fr 4
 have y5 := hcR.cell 5 rfl
 have x5 := hcR.fr 5
 have y6 := hcR.cell 6 rfl
 have x6 := hcR.fr 6
 have y7 := hcR.cell 7 rfl
 have x7 := hcR.fr 7
 have y8 := hcR.cell 8 rfl
 have x8 := hcR.fr 8
 have y9 := hcR.cell 9 rfl
 have x9 := hcR.fr 9
 have e9 := Nat.le_refl w.heap.size
 have HB1 := hid hB1
 clear hB1 hb1 c0 b0 HK
 cases res with
 | none =>
  cases hp
  go_wp2_with fail
  refine bodyPost_ret (v := .tuple #[.agg zrq.toArray, .int .i64 1]) (by simp [results, Tryd.results12, go_sem, y0, y1, y2, y3, y4, y5, y6, y7, y8, y9]) rfl ⟨rfl, ?_⟩
  exact (HB1.out |>.setCell (p := ⟨w.heap.size, 0, none⟩) e9 _ |>.setCell (p := ⟨w.heap.size, 1, none⟩) e9 _ |>.setCell (p := ⟨w.heap.size, 2, none⟩) e9 _ |>.setCell (p := ⟨w.heap.size, 3, none⟩) e9 _ |>.setCell (p := ⟨w.heap.size, 4, none⟩) e9 _ |>.setCell (p := ⟨w.heap.size, 5, none⟩) e9 _ |>.setCell (p := ⟨w.heap.size, 6, none⟩) e9 _ |>.setCell (p := ⟨w.heap.size, 7, none⟩) e9 _ |>.setCell (p := ⟨w.heap.size, 8, none⟩) e9 _ |>.setCell (p := ⟨w.heap.size, 9, none⟩) e9 _)
 | some q =>
  obtain ⟨v1, rfl, hV⟩ := hp
  have HV := hid hV
  obtain ⟨vc, rfl, hrow⟩ := HV.out
  obtain ⟨av, lv, cv, rfl⟩ := hrow.shape
  clear hrow
  clear hV
  go_wp2_with fail
  refine bodyPost_ret (v := .tuple #[.agg #[.int .i64 q.kind, .string q.who, .string q.fo, .string q.name, .string q.key, .string q.text, .int .i64 q.num, .int .i64 q.off, .int .i64 q.base, .slice av lv cv], .int .i64 0]) (by simp [results, Tryd.results12, go_sem, y0, y1, y2, y3, y4, y5, y6, y7, y8, y9]) rfl ⟨⟨_, rfl, ?_⟩, ?_⟩
  · exact (HV.out |>.set (by rw [s0]; omega) 0 _ |>.set (by rw [s0]; omega) 1 _ |>.set (by rw [s0]; omega) 2 _ |>.set (by rw [s0]; omega) 3 _ |>.set (by rw [s0]; omega) 4 _ |>.set (by rw [s0]; omega) 5 _ |>.set (by rw [s0]; omega) 6 _ |>.set (by rw [s0]; omega) 7 _ |>.set (by rw [s0]; omega) 8 _ |>.set (by rw [s0]; omega) 9 _).low (by rw [s0]; omega)
  · exact (HB1.out |>.setCell (p := ⟨w.heap.size, 0, none⟩) e9 _ |>.setCell (p := ⟨w.heap.size, 1, none⟩) e9 _ |>.setCell (p := ⟨w.heap.size, 2, none⟩) e9 _ |>.setCell (p := ⟨w.heap.size, 3, none⟩) e9 _ |>.setCell (p := ⟨w.heap.size, 4, none⟩) e9 _ |>.setCell (p := ⟨w.heap.size, 5, none⟩) e9 _ |>.setCell (p := ⟨w.heap.size, 6, none⟩) e9 _ |>.setCell (p := ⟨w.heap.size, 7, none⟩) e9 _ |>.setCell (p := ⟨w.heap.size, 8, none⟩) e9 _ |>.setCell (p := ⟨w.heap.size, 9, none⟩) e9 _)
end Go.Proofs.YthgjdgpjkcmcdaaDoor
namespace Go.Proofs.YthgjdgpjkcmcdaaDoor
open Go.RowKit

namespace Wr
theorem whole_iff {α : Type} {p : Ps α} {enc : α → List It} {OK : α → Prop} (hp : Rds p enc OK) {l : List UInt8} {x : α} : whole (p l) = some x ↔ OK x ∧ l = bytes (enc x) := by
 have h1 := hp l x []
 rw [List.append_nil] at h1
 rw [← h1]
 cases h : p l with
 | none => simp [whole]
 | some z =>
  obtain ⟨y, r⟩ := z
  cases r with
  | nil => simp [whole]
  | cons a r => simp [whole]
theorem whole_rq {l : List UInt8} {q : Rq} : whole (rqP gN 1000 l) = some q ↔ ok (rqI q) = true ∧ l = bytes (rqI q) := by
 rw [ok_rq]
 exact whole_iff (rds_rq gN_wide (fun n h => gN_small n (by omega)) 1000)
def q0 : Rq := ⟨2, ⟨#[97]⟩, ⟨#[102]⟩, ⟨#[]⟩, ⟨#[]⟩, ⟨#[]⟩, 0, 0, 0, []⟩
def t0 : List UInt8 := [50, 59, 49, 59, 97, 49, 59, 102, 48, 59, 48, 59, 48, 59, 48, 59, 48, 59, 48, 59, 48, 59]
theorem itoa_small (u : Nat) (h : u < 10) : Lib.itoa u = [UInt8.ofNat (48 + u)] := by rw [Lib.itoa_nonneg, Lib.decDigits, dif_pos h]
theorem i0 : Lib.itoa 0 = [48] := itoa_small 0 (by omega)
theorem i1 : Lib.itoa 1 = [49] := itoa_small 1 (by omega)
theorem i2 : Lib.itoa 2 = [50] := itoa_small 2 (by omega)
theorem bytes_q0 : bytes (rqI q0) = t0 := by
 have s0 : (⟨#[]⟩ : ByteArray).size = 0 := rfl
 have s1 : (⟨#[97]⟩ : ByteArray).size = 1 := rfl
 have s2 : (⟨#[102]⟩ : ByteArray).size = 1 := rfl
 simp [rqI, q0, lst, bytes, It.bytes, i0, i1, i2, s0, s1, s2, t0]
theorem ok_q0 : ok (rqI q0) = true := by decide
theorem fin_q0 : fin (run e0 (rqI q0)) = (⟨t0.toArray⟩, 0) := by rw [fin_ok ok_q0, bytes_q0]
theorem whole_q0 : whole (rqP gN 1000 t0) = some q0 := whole_rq.2 ⟨ok_q0, bytes_q0.symm⟩
end Wr
theorem lies_q0 (w : World) : LiesQ w (.agg #[.int .i64 2, .string ⟨#[97]⟩, .string ⟨#[102]⟩, .string ⟨#[]⟩, .string ⟨#[]⟩, .string ⟨#[]⟩, .int .i64 0, .int .i64 0, .int .i64 0, .slice none 0 0]) Wr.q0 :=
 ⟨.slice none 0 0, rfl, none, 0, rfl, Nat.le_refl _, by simp [Wr.q0], fun i hi => absurd hi (by simp [Wr.q0])⟩
theorem wf_q0 : WfQ Wr.q0 := by
 refine ⟨?_, ?_, ?_, ?_, ?_, ?_, ?_, ?_, ?_, ?_⟩
 · exact ⟨by decide, by decide⟩
 · exact ⟨by decide, by decide⟩
 · exact ⟨by decide, by decide⟩
 · exact ⟨by decide, by decide⟩
 · show (1 : Int) ≤ _; decide
 · show (1 : Int) ≤ _; decide
 · show (0 : Int) ≤ _; decide
 · show (0 : Int) ≤ _; decide
 · show (0 : Int) ≤ _; decide
 · intro c hc; exact absurd hc (by simp [Wr.q0])
set_option maxHeartbeats 1000000 in
theorem wireBegun_yes (w : World) (h6 : 5 < w.heap.size) (hv : VarsW w) :
    Calls Tryd.prog 10 #[] w fun e w' => e = .returned (.bool true) ∧ Below w.heap.size w w' := by
 have HA := hid (ask_any Wr.q0 _ w (lies_q0 w) wf_q0 (by omega) hv.pow)
 rw [Wr.fin_q0] at HA
 have HB := hid (fun (W : World) (hW : Below w.heap.size w W) => asked_any ⟨Wr.t0.toArray⟩ W (by decide) (by have := hW.size; omega) (hv.belowB h6 hW))
 rw [show (⟨Wr.t0.toArray⟩ : ByteArray).data.toList = Wr.t0 from rfl, Wr.whole_q0] at HB
 clear hv
 go_enter Tryd.func10, Tryd.ntmps10
 go_wp2_with fail
 refine HA.out.mono ?_
 rintro e w1 ⟨rfl, hb1⟩
 clear HA
 go_wp2_with fail
 refine (HB.out w1 hb1).mono ?_
 rintro e w2 ⟨⟨v, rfl, vc, rfl, hrow⟩, hb2⟩
 obtain ⟨av, lv, cv, rfl⟩ := hrow.shape
 clear hrow HB
 have hB2 := hb1.trans (hb2.mono hb1.size)
 clear hb1 hb2
 have e1 : (Wr.q0.fo.toList == (⟨#[102]⟩ : ByteArray).toList) = true := by simp [Wr.q0]
 have e2 : ((⟨Wr.t0.toArray⟩ : ByteArray).toList == (⟨#[50, 59, 49, 59, 97, 49, 59, 102, 48, 59, 48, 59, 48, 59, 48, 59, 48, 59, 48, 59, 48, 59]⟩ : ByteArray).toList) = true := by simp [Wr.t0]
 have e3 : ((⟨Wr.t0.toArray⟩ : ByteArray).toList == [50, 59, 49, 59, 97, 49, 59, 102, 48, 59, 48, 59, 48, 59, 48, 59, 48, 59, 48, 59, 48, 59]) = true := by simp [Wr.t0]
 have e4 : Wr.q0.fo.toList = [102] := by simp [Wr.q0]
 have e5 : (Wr.q0.fo.toList == [102]) = true := by simp [Wr.q0]
 clear e1 e2
 generalize Wr.q0.fo = fo at *
 generalize (⟨Wr.t0.toArray⟩ : ByteArray) = tt at *
 go_wp2_with fail
 go_ret
 exact ⟨rfl, hB2.alloc hB2.size _⟩
end Go.Proofs.YthgjdgpjkcmcdaaDoor
