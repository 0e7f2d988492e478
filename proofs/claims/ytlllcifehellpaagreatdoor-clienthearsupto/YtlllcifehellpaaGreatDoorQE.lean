/- What the reference's stateAt and alike answer. What the reference's closures put and aside do: put. What the reference's closure aside does. -/
import Derived.Test.YtlllcifehellpaaGreatDoorPP
import Derived.Test.YtlllcifehellpaaGreatDoorQA
import Derived.Test.YtlllcifehellpaaGreatDoorPQ
import Derived.Test.YtlllcifehellpaaGreatDoorQD
import Derived.Test.YtlllcifehellpaaGreatDoorPU
set_option linter.unusedSimpArgs false
set_option linter.unusedVariables false
namespace Go.Proofs.YtlllcifehellpaaGreatDoor
open Go.RowKit Go.Maps

namespace Mg
theorem st_ways (L : List En) (p : List UInt8) : (Pp.idx L p = -1 ∧ st L p = ⟨0, ⟨#[]⟩, 0⟩) ∨ (∃ k, ∃ h : k < L.length, Pp.idx L p = (k : Int) ∧ L[k].folder = true ∧ st L p = ⟨1, ⟨#[]⟩, L[k].ver⟩) ∨ ∃ k, ∃ h : k < L.length, Pp.idx L p = (k : Int) ∧ L[k].folder = false ∧ st L p = ⟨2, L[k].text, L[k].ver⟩ := by
  rcases Pp.idx_cases L p with ⟨h1, h2⟩ | ⟨k, h, h1, h2⟩
  · exact Or.inl ⟨h1, st_none h2⟩
  · have h3 : st L p = spo L[k] := st_some h2
    cases hf : L[k].folder with
    | true => exact Or.inr (Or.inl ⟨k, h, h1, hf, by rw [h3, spo, Sp.wh, Sp.tx, if_pos hf, if_pos hf]⟩)
    | false => exact Or.inr (Or.inr ⟨k, h, h1, hf, by rw [h3, spo, Sp.wh, Sp.tx, if_neg (by rw [hf]; decide), if_neg (by rw [hf]; decide)]⟩)
end Mg

set_option maxRecDepth 100000 in
set_option maxHeartbeats 2000000 in
theorem stateAt_any (L : List En) (v : Value) (p : ByteArray) (w : World) (hv : Lies w v L) :
    Calls Tryz.prog 37 #[v, .string p] w fun e w' => e = .returned (.tuple #[.int .i64 (Mg.st L p.data.toList).w, .string (Mg.st L p.data.toList).t]) ∧ Below w.heap.size w w' := by
  have HV := hid hv
  obtain ⟨a, cap, rfl, hcap, hcap2, hL⟩ := hv
  have HL := hid hL
  clear hL
  go_enter Tryz.func37, Tryz.ntmps37
  go_wp2_with fail
  refine (entryAt_any L _ p _ HV.out).mono ?_
  rintro e w1 ⟨rfl, hb1⟩
  rcases Mg.st_ways L p.data.toList with ⟨z1, z2⟩ | ⟨k, hk, z1, z2, z3⟩ | ⟨k, hk, z1, z2, z3⟩
  · rw [z1]
    have HZ := hid z2
    clear z1 z2
    go_wp2_with fail
    refine bodyPost_ret (v := .tuple #[.int .i64 0, .string ⟨#[]⟩]) (by simp [results, Tryz.results37, go_sem]) rfl ⟨by rw [HZ.out], hb1⟩
  · rw [z1]
    obtain ⟨b, o, rfl, hb, he⟩ := HL.out k hk
    obtain ⟨c0, c1, c2, c3⟩ := he.below hb hb1
    rw [z2] at c1
    have hk2 : (k : Int) < L.length := by omega
    have hk3 : ¬ (k : Int) < 0 := by omega
    have HZ := hid z3
    clear z1 z2 z3 he
    go_wp2_with fail
    refine bodyPost_ret (v := .tuple #[.int .i64 1, .string ⟨#[]⟩]) (by simp [results, Tryz.results37, go_sem]) rfl ⟨by rw [HZ.out], hb1⟩
  · rw [z1]
    obtain ⟨b, o, rfl, hb, he⟩ := HL.out k hk
    obtain ⟨c0, c1, c2, c3⟩ := he.below hb hb1
    rw [z2] at c1
    have hk2 : (k : Int) < L.length := by omega
    have hk3 : ¬ (k : Int) < 0 := by omega
    have HZ := hid z3
    clear z1 z2 z3 he
    go_wp2_with fail
    first | go_region | skip
    all_goals
      try go_wp2_with fail
      refine bodyPost_ret (v := .tuple #[.int .i64 2, .string L[k].text]) (by simp [results, Tryz.results37, go_sem]) rfl ⟨by rw [HZ.out], (by first | exact hb1.drew | exact hb1)⟩

set_option maxRecDepth 100000 in
set_option maxHeartbeats 2000000 in
theorem alike_any (A B : List En) (va vb : Value) (p : ByteArray) (w : World) (hA : Lies w va A) (hB : Lies w vb B) :
    Calls Tryz.prog 38 #[va, vb, .string p] w fun e w' => e = .returned (.bool (Mg.lk (Mg.st A p.data.toList) (Mg.st B p.data.toList))) ∧ Below w.heap.size w w' := by
  have HA := hid hA
  have HB := hid hB
  obtain ⟨a, cap, rfl, _⟩ := hA
  obtain ⟨b, cap', rfl, _⟩ := hB
  have HE : Hid (Mg.lk (Mg.st A p.data.toList) (Mg.st B p.data.toList) = (((Mg.st A p.data.toList).w == (Mg.st B p.data.toList).w) && ((Mg.st A p.data.toList).t.toList == (Mg.st B p.data.toList).t.toList))) := (rfl : Mg.lk (Mg.st A p.data.toList) (Mg.st B p.data.toList) = (((Mg.st A p.data.toList).w == (Mg.st B p.data.toList).w) && ((Mg.st A p.data.toList).t.toList == (Mg.st B p.data.toList).t.toList)))
  go_enter Tryz.func38, Tryz.ntmps38
  go_wp2_with fail
  refine (stateAt_any A _ p _ HA.out).mono ?_
  rintro e w1 ⟨rfl, hb1⟩
  go_wp2_with fail
  refine (stateAt_any B _ p _ (HB.out.below hb1)).mono ?_
  rintro e w2 ⟨rfl, hb2⟩
  have hb02 := below_tr hb1 hb2
  cases hw : ((Mg.st A p.data.toList).w == (Mg.st B p.data.toList).w) with
  | true =>
    rw [hw] at HE
    go_wp2_with fail
    go_ret
    exact ⟨by rw [HE.out, Bool.true_and]; rfl, hb02⟩
  | false =>
    rw [hw] at HE
    go_wp2_with fail
    go_ret
    exact ⟨by rw [HE.out, Bool.false_and]; rfl, hb02⟩
end Go.Proofs.YtlllcifehellpaaGreatDoor
set_option linter.unusedSimpArgs false
set_option linter.unusedVariables false
namespace Go.Proofs.YtlllcifehellpaaGreatDoor
open Go.RowKit Go.Maps

theorem below_grown {w w' : World} (h : Below w.heap.size w w') : w.grownBy w' none := ⟨h.os, h.tape, h.output, h.size, fun k hk _ => h.block k hk⟩
theorem Mg.putR_put1 {x : En} {L : List En} (h : Sp.Rise L) : Pp.putR x L = Sp.put1 x L := Pp.putR_eq h

set_option maxRecDepth 100000 in
set_option maxHeartbeats 2000000 in
theorem mput_pos {w : World} {bo : Nat} {vo : Value} {N : List En} (hb : Cs w bo [vo]) (hv : Lies w vo N) (hr : Sp.Rise N) (hn : N.length ≤ 1000000) (p t : ByteArray) {k : Int} (hk : 0 < k) :
    Calls Tryz.prog 32 #[.string p, .int .i64 k, .string t, .pointer (some ⟨bo, 0, none⟩)] w fun e w' => e = .returned (.tuple #[]) ∧ ∃ u w1, w' = w1.setCell ⟨bo, 0, none⟩ u ∧ Below w.heap.size w w1 ∧ w1.ownsRow w.heap.size 64 4 u (Sp.put1 ⟨p, k == 1, t, 1⟩ N).length (Pp.flat (Sp.put1 ⟨p, k == 1, t, 1⟩ N)) := by
  have HR := hid hr
  have HV := hid hv
  have HBX := hid hb
  have c0 := hb.cell 0 rfl
  have f0 := hb.fr 0
  have hlt := hb.lt
  obtain ⟨a, cap, rfl⟩ : ∃ a cap, vo = .slice a N.length cap := by obtain ⟨a, cap, h, _⟩ := hv; exact ⟨a, cap, h⟩
  clear hb hv hr
  go_enter Tryz.func32, Tryz.ntmps32
  go_wp2_with fail
  refine (putEntry_any N _ ⟨p, k == 1, t, 1⟩ w HV.out hn).mono ?_
  rintro e w1 ⟨u, rfl, hrow, hb1⟩
  rw [Mg.putR_put1 HR.out] at hrow
  obtain ⟨ua, ucap, rfl⟩ := ownsRow_shape hrow
  have HRW := hid hrow
  have HB1 := hid (HBX.out.below hb1)
  have g0 := HB1.out.fr 0
  have y0 := HB1.out.cell 0 rfl
  clear hrow c0 f0
  go_wp2_with fail
  go_end0
  exact ⟨rfl, _, w1, rfl, hb1, HRW.out⟩

set_option maxRecDepth 100000 in
set_option maxHeartbeats 2000000 in
theorem mput_no {w : World} {bo : Nat} (p t : ByteArray) {k : Int} (hk : ¬ 0 < k) :
    Calls Tryz.prog 32 #[.string p, .int .i64 k, .string t, .pointer (some ⟨bo, 0, none⟩)] w fun e w' => e = .returned (.tuple #[]) ∧ w' = w := by
  go_enter Tryz.func32, Tryz.ntmps32
  go_wp2_with fail
  go_end0
  exact ⟨rfl, rfl⟩
end Go.Proofs.YtlllcifehellpaaGreatDoor
set_option linter.unusedSimpArgs false
set_option linter.unusedVariables false
namespace Go.Proofs.YtlllcifehellpaaGreatDoor
open Go.RowKit Go.Maps

/-- The reference's joining: boxes of mine, theirs, out, put and copies. -/
structure RJ (w0 w : World) (bm bt bo bp bc : Nat) (vm vt vo vc : Value) (M T N : List En) (C : Mg.CC) : Prop where
  bel : Below w0.heap.size w0 w
  lm : Lies w0 vm M
  lt : Lies w0 vt T
  mine : w.heap[bm]? = some (.cells #[vm] 22)
  theirs : w.heap[bt]? = some (.cells #[vt] 22)
  out : w.heap[bo]? = some (.cells #[vo] 22)
  lo : w.ownsRow w0.heap.size 64 4 vo N.length (Pp.flat N)
  put : ∃ F, F ≠ 64 ∧ F ≠ 60 ∧ F ≠ 9 ∧ w.heap[bp]? = some (.cells #[.func (.func 32) #[] #[.pointer (some ⟨bo, 0, none⟩)]] F)
  copies : w.heap[bc]? = some (.cells #[vc] 32)
  row : w.ownsRow w0.heap.size 60 2 vc C.length (Mg.flatP C)
  low : w0.heap.size ≤ bo ∧ w0.heap.size ≤ bc
  ne : bo ≠ bm ∧ bo ≠ bt ∧ bo ≠ bp ∧ bo ≠ bc ∧ bc ≠ bm ∧ bc ≠ bt ∧ bc ≠ bp
theorem rj_types : (22 : TypeId) ≠ 64 ∧ (22 : TypeId) ≠ 60 ∧ (32 : TypeId) ≠ 64 ∧ (32 : TypeId) ≠ 60 ∧ (64 : TypeId) ≠ 60 := by decide
theorem own_ne_box {w : World} {B b n size : Nat} {e F : TypeId} {v : Value} {xs : List Value} {cs : Array Value} {fz : Nat × Nat} (h : w.ownsRow B e size v n xs) (hb : w.heap[b]? = some (.cells cs F fz)) (hF : F ≠ e) : v.ownBlock ≠ some b := by
  obtain ⟨_, h2⟩ := h
  rcases h2 with ⟨rfl, _⟩ | ⟨g, cap, cur, rfl, _, hg, _⟩
  · simp [Value.ownBlock]
  · intro e1
    simp [Value.ownBlock] at e1
    subst e1
    rw [hg] at hb
    injection hb with hb
    injection hb with _ h3
    exact hF h3.symm
theorem RJ.below {w0 w w' : World} {bm bt bo bp bc : Nat} {vm vt vo vc : Value} {M T N : List En} {C : Mg.CC} (h : RJ w0 w bm bt bo bp bc vm vt vo vc M T N C) (hw : Below w.heap.size w w') : RJ w0 w' bm bt bo bp bc vm vt vo vc M T N C := by
  obtain ⟨F, f1, f2, f9, f3⟩ := h.put
  exact ⟨h.bel.trans (hw.mono h.bel.size), h.lm, h.lt, (hw.block bm (heap_lt h.mine)).trans h.mine, (hw.block bt (heap_lt h.theirs)).trans h.theirs, (hw.block bo (heap_lt h.out)).trans h.out, h.lo.kept9 hw, ⟨F, f1, f2, f9, (hw.block bp (heap_lt f3)).trans f3⟩, (hw.block bc (heap_lt h.copies)).trans h.copies, h.row.kept9 hw, h.low, h.ne⟩
/-- Behind a put. -/
theorem RJ.out' {w0 w : World} {bm bt bo bp bc : Nat} {vm vt vo vc u : Value} {M T N N' : List En} {C : Mg.CC} (h : RJ w0 w bm bt bo bp bc vm vt vo vc M T N C) (ho : w.ownsRow w0.heap.size 64 4 u N'.length (Pp.flat N')) : RJ w0 (w.setCell ⟨bo, 0, none⟩ u) bm bt bo bp bc vm vt u vc M T N' C := by
  obtain ⟨F, f1, f2, f9, f3⟩ := h.put
  have hs := nb_set w bo 0 u
  have hb : ∀ {b : Nat} {o : Obj}, w.heap[b]? = some o → bo ≠ b → (w.setCell ⟨bo, 0, none⟩ u).heap[b]? = some o := fun hh hne => (hs.block _ (heap_lt hh) (fun e => hne (by injection e with e; exact e.symm))).trans hh
  refine ⟨h.bel.setCell (p := ⟨bo, 0, none⟩) h.low.1 u, h.lm, h.lt, hb h.mine h.ne.1, hb h.theirs h.ne.2.1, ?_, ho.kept (row := some bo) hs (Or.inr (own_ne_box ho h.out rj_types.1)), ⟨F, f1, f2, f9, hb f3 h.ne.2.2.1⟩, hb h.copies h.ne.2.2.2.1, h.row.kept (row := some bo) hs (Or.inr (own_ne_box h.row h.out rj_types.2.1)), h.low, h.ne⟩
  unfold World.setCell
  simp only [Array.getElem?_modify, h.out, if_true, Option.map_some]
  rfl
/-- Behind one more copy. -/
theorem RJ.app {w0 w w' : World} {bm bt bo bp bc : Nat} {vm vt vo vc v' : Value} {M T N : List En} {C C' : Mg.CC} (h : RJ w0 w bm bt bo bp bc vm vt vo vc M T N C) (hw : w.grownBy w' vc.ownBlock) (ho : w'.ownsRow w0.heap.size 60 2 v' C'.length (Mg.flatP C')) : RJ w0 (w'.setCell ⟨bc, 0, none⟩ v') bm bt bo bp bc vm vt vo v' M T N C' := by
  obtain ⟨F, f1, f2, f9, f3⟩ := h.put
  have hb1 : ∀ {b : Nat} {cs : Array Value} {E : TypeId}, w.heap[b]? = some (.cells cs E) → E ≠ 60 → w'.heap[b]? = some (.cells cs E) := fun hh hE => (hw.block _ (heap_lt hh) (fun e => own_ne_box h.row hh hE e.symm)).trans hh
  have hs := nb_set w' bc 0 v'
  have hb : ∀ {b : Nat} {o : Obj}, w'.heap[b]? = some o → bc ≠ b → (w'.setCell ⟨bc, 0, none⟩ v').heap[b]? = some o := fun hh hne => (hs.block _ (heap_lt hh) (fun e => hne (by injection e with e; exact e.symm))).trans hh
  have k1 := hb1 h.mine rj_types.2.1
  have k2 := hb1 h.theirs rj_types.2.1
  have k3 := hb1 h.out rj_types.2.1
  have k4 := hb1 f3 f2
  have k5 := hb1 h.copies rj_types.2.2.2.1
  have hlo := h.lo.kept hw (row_ne_row h.row h.lo rj_types.2.2.2.2.symm).symm
  have hbel : Below w0.heap.size w0 w' := h.bel.grown hw h.bel.size (fun g hg => (h.row.lt g hg).1)
  refine ⟨hbel.setCell (p := ⟨bc, 0, none⟩) h.low.2 v', h.lm, h.lt, hb k1 h.ne.2.2.2.2.1, hb k2 h.ne.2.2.2.2.2.1, hb k3 (fun e => h.ne.2.2.2.1 e.symm), hlo.kept (row := some bc) hs (Or.inr (own_ne_box hlo k5 rj_types.2.2.1)), ⟨F, f1, f2, f9, hb k4 h.ne.2.2.2.2.2.2⟩, ?_, ho.kept (row := some bc) hs (Or.inr (own_ne_box ho k5 rj_types.2.2.2.1)), h.low, h.ne⟩
  unfold World.setCell
  simp only [Array.getElem?_modify, k5, if_true, Option.map_some]
  rfl

/-- All blocks but two boxes and rows of copies are as they were. -/
structure FrR (w w' : World) (bo bc : Nat) : Prop where
  size : w.heap.size ≤ w'.heap.size
  block : ∀ b cs F fz, w.heap[b]? = some (.cells cs F fz) → b ≠ bo → b ≠ bc → F ≠ 60 → w'.heap[b]? = some (.cells cs F fz)
theorem FrR.refl (w : World) (bo bc : Nat) : FrR w w bo bc := ⟨Nat.le_refl _, fun b cs F fz h _ _ _ => h⟩
theorem FrR.trans {w w1 w2 : World} {bo bc : Nat} (h : FrR w w1 bo bc) (h1 : FrR w1 w2 bo bc) : FrR w w2 bo bc := ⟨Nat.le_trans h.size h1.size, fun b cs F fz hb x y z => h1.block b cs F fz (h.block b cs F fz hb x y z) x y z⟩
theorem FrR.of_below {w w' : World} {bo bc : Nat} (h : Below w.heap.size w w') : FrR w w' bo bc := ⟨h.size, fun b cs F fz hb _ _ _ => (h.block b (heap_lt hb)).trans hb⟩
theorem FrR.set1 (w : World) (bo bc : Nat) (u : Value) : FrR w (w.setCell ⟨bo, 0, none⟩ u) bo bc := ⟨(nb_set w bo 0 u).size, fun b cs F fz hb x _ _ => ((nb_set w bo 0 u).block b (heap_lt hb) (fun e => x (by injection e))).trans hb⟩
theorem FrR.set2 (w : World) (bo bc : Nat) (u : Value) : FrR w (w.setCell ⟨bc, 0, none⟩ u) bo bc := ⟨(nb_set w bc 0 u).size, fun b cs F fz hb _ y _ => ((nb_set w bc 0 u).block b (heap_lt hb) (fun e => y (by injection e))).trans hb⟩
theorem FrR.grown {w w' : World} {B n bo bc : Nat} {v : Value} {xs : List Value} (h : w.ownsRow B 60 2 v n xs) (hw : w.grownBy w' v.ownBlock) : FrR w w' bo bc := ⟨hw.size, fun b cs F fz hb _ _ z => (hw.block b (heap_lt hb) (fun e => own_ne_box h hb z e.symm)).trans hb⟩
theorem own_frR {w w' : World} {B n size bo bc : Nat} {e : TypeId} {v : Value} {xs : List Value} (h : w.ownsRow B e size v n xs) (hF : FrR w w' bo bc) (he : e ≠ 60) (h1 : v.ownBlock ≠ some bo) (h2 : v.ownBlock ≠ some bc) : w'.ownsRow B e size v n xs := by
  obtain ⟨hl, hc⟩ := h
  rcases hc with hc | ⟨g, cap, cur, rfl, hg, hh, hr⟩
  · exact ⟨hl, Or.inl hc⟩
  · exact ⟨hl, Or.inr ⟨g, cap, cur, rfl, hg, hF.block g _ _ _ hh (fun e => h1 (by rw [e]; rfl)) (fun e => h2 (by rw [e]; rfl)) he, hr⟩⟩
theorem rj_types9 : (9 : TypeId) ≠ 60 ∧ (22 : TypeId) ≠ 9 ∧ (32 : TypeId) ≠ 9 ∧ (64 : TypeId) ≠ 9 := by decide
/-- A row of texts, beside a joining. -/
theorem RJ.texts {w0 w w' : World} {bm bt bo bp bc B n : Nat} {vm vt vo vc v : Value} {M T N : List En} {C : Mg.CC} {xs : List Value} (h : RJ w0 w bm bt bo bp bc vm vt vo vc M T N C) (ho : w.ownsRow B 9 1 v n xs) (hF : FrR w w' bo bc) : w'.ownsRow B 9 1 v n xs :=
  own_frR ho hF rj_types9.1 (own_ne_box ho h.out rj_types9.2.1) (own_ne_box ho h.copies rj_types9.2.2.1)
/-- A row of entries, beside a joining. -/
theorem RJ.ents {w0 w w' : World} {bm bt bo bp bc B n : Nat} {vm vt vo vc v : Value} {M T N : List En} {C : Mg.CC} {xs : List Value} (h : RJ w0 w bm bt bo bp bc vm vt vo vc M T N C) (ho : w.ownsRow B 64 4 v n xs) (hF : FrR w w' bo bc) : w'.ownsRow B 64 4 v n xs :=
  own_frR ho hF rj_types.2.2.2.2 (own_ne_box ho h.out rj_types.1) (own_ne_box ho h.copies rj_types.2.2.1)
/-- Behind a row of texts that grew. -/
theorem RJ.row9 {w0 w w' : World} {bm bt bo bp bc n : Nat} {vm vt vo vc v : Value} {M T N : List En} {C : Mg.CC} {xs : List Value} (h : RJ w0 w bm bt bo bp bc vm vt vo vc M T N C) (ho : w.ownsRow w0.heap.size 9 1 v n xs) (hw : w.grownBy w' v.ownBlock) : RJ w0 w' bm bt bo bp bc vm vt vo vc M T N C := by
  obtain ⟨F, f1, f2, f9, f3⟩ := h.put
  have hb : ∀ {b : Nat} {cs : Array Value} {E : TypeId}, w.heap[b]? = some (.cells cs E) → E ≠ 9 → w'.heap[b]? = some (.cells cs E) := fun hh hE => (hw.block _ (heap_lt hh) (fun e => own_ne_box ho hh hE e.symm)).trans hh
  exact ⟨h.bel.grown hw h.bel.size (fun g hg => (ho.lt g hg).1), h.lm, h.lt, hb h.mine rj_types9.2.1, hb h.theirs rj_types9.2.1, hb h.out rj_types9.2.1, h.lo.kept hw (row_ne_row ho h.lo rj_types9.2.2.2.symm).symm, ⟨F, f1, f2, f9, hb f3 f9⟩, hb h.copies rj_types9.2.2.1, h.row.kept hw (row_ne_row ho h.row rj_types9.1).symm, h.low, h.ne⟩
/-- The closure put. -/
theorem mput_rj {w0 w : World} {bm bt bo bp bc : Nat} {vm vt vo vc : Value} {M T N N' : List En} {C : Mg.CC} (h : RJ w0 w bm bt bo bp bc vm vt vo vc M T N C) (hr : Sp.Rise N) (hn : N.length ≤ 1000000) (p t : ByteArray) {k : Int} (h1 : 0 < k → N' = Sp.put1 ⟨p, k == 1, t, 1⟩ N) (h2 : ¬ 0 < k → N' = N) :
    Calls Tryz.prog 32 #[.string p, .int .i64 k, .string t, .pointer (some ⟨bo, 0, none⟩)] w fun e w' => e = .returned (.tuple #[]) ∧ ∃ vo', RJ w0 w' bm bt bo bp bc vm vt vo' vc M T N' C ∧ FrR w w' bo bc := by
  by_cases hk : 0 < k
  · refine (mput_pos (⟨_, h.out⟩ : Cs w bo [vo]) (lies_own h.lo (by omega)) hr hn p t hk).mono ?_
    rintro e w' ⟨rfl, u, w1, rfl, hb1, hrow⟩
    rw [h1 hk]
    exact ⟨rfl, u, (h.below hb1).out' (own_down hrow h.bel.size), (FrR.of_below hb1).trans (FrR.set1 w1 bo bc u)⟩
  · refine (mput_no p t hk).mono ?_
    rintro e w' ⟨rfl, rfl⟩
    rw [h2 hk]
    exact ⟨rfl, vo, h, FrR.refl _ _ _⟩

theorem idx_free (L : List En) (p : List UInt8) : decide (Pp.idx L p < 0) = ((Mg.st L p).w == 0) := by
  rcases Mg.st_ways L p with ⟨h1, h2⟩ | ⟨k, _, h1, _, h2⟩ | ⟨k, _, h1, _, h2⟩
  · rw [h1, h2]; rfl
  · rw [h1, h2]
    have : ¬ ((k : Int) < 0) := by omega
    simp [this]
  · rw [h1, h2]
    have : ¬ ((k : Int) < 0) := by omega
    simp [this]

set_option maxRecDepth 100000 in
set_option maxHeartbeats 4000000 in
theorem maside_any {w0 w : World} {bm bt bo bp bc : Nat} {vm vt vo vc : Value} {M T N : List En} {C : Mg.CC} (h : RJ w0 w bm bt bo bp bc vm vt vo vc M T N C) (hr : Sp.Rise N) (hn : N.length ≤ 1000000) (hC : C.length ≤ 100000) (p t : ByteArray) (hp : Pp.chk p.data.toList = 0) :
    Calls Tryz.prog 34 #[.string p, .string t, .pointer (some ⟨bm, 0, none⟩), .pointer (some ⟨bt, 0, none⟩), .pointer (some ⟨bo, 0, none⟩), .pointer (some ⟨bp, 0, none⟩), .pointer (some ⟨bc, 0, none⟩)] w fun e w' =>
      (Mg.asd M T N p.data.toList = none → e = .returned (.bool false) ∧ Below w.heap.size w w') ∧
      (∀ q, Mg.asd M T N p.data.toList = some q → e = .returned (.bool true) ∧ ∃ vo' vc', RJ w0 w' bm bt bo bp bc vm vt vo' vc' M T (Sp.put1 (Mg.file q ⟨2, t, 1⟩) N) (C ++ [(p, ⟨q.toArray⟩)]) ∧ FrR w w' bo bc) := by
  obtain ⟨i0, hi0, hz0, hz1, hz2⟩ := info_parts Tryz.infoCp
  have HJ := hid h
  have HR := hid hr
  have hps := Pp.chk_len hp
  rw [Array.length_toList] at hps
  have hps' : p.size ≤ 80 := hps
  have HP := hid hp
  clear h hr hps hp
  go_enter Tryz.func34, Tryz.ntmps34
  go_wp2_with fail
  go_loopw [10] (fun x wr => ∃ k : Nat, 1 ≤ k ∧ k ≤ 100 ∧ x = .int .i64 k ∧ Hid (Mg.asd M T N p.data.toList = Mg.asdF M T N p.data.toList (100 - k) k) ∧ Below w.heap.size w wr) (fun x _ => 100 - (intOf x).toNat)
  case atStart => exact ⟨1, Nat.le_refl _, by decide, rfl, (rfl : Mg.asd M T N p.data.toList = Mg.asdF M T N p.data.toList (100 - 1) 1), Below.refl _ _⟩
  case round =>
    obtain ⟨k, hk1, hk2, rfl, HA, hbel⟩ := hrel
    by_cases hk : k ≤ 99
    · have hki : (k : Int) < 100 := by omega
      have e1 : 100 - k = (99 - k) + 1 := by omega
      rw [e1] at HA
      have HB : Hid (¬ Pp.asideE p.data.toList k = 0 → Mg.asd M T N p.data.toList = none) := (fun hh => by rw [HA.out, Mg.asdF_bad hh] : ¬ Pp.asideE p.data.toList k = 0 → Mg.asd M T N p.data.toList = none)
      have HH : Hid (Pp.asideE p.data.toList k = 0 → Mg.free M T N (Pp.asideT p.data.toList k) = true → Mg.asd M T N p.data.toList = some (Pp.asideT p.data.toList k)) := (fun h1 h2 => by rw [HA.out, Mg.asdF_hit h1 h2] : Pp.asideE p.data.toList k = 0 → Mg.free M T N (Pp.asideT p.data.toList k) = true → Mg.asd M T N p.data.toList = some (Pp.asideT p.data.toList k))
      have HMI : Hid (Pp.asideE p.data.toList k = 0 → Mg.free M T N (Pp.asideT p.data.toList k) = false → Mg.asd M T N p.data.toList = Mg.asdF M T N p.data.toList (100 - (k + 1)) (k + 1)) := (fun h1 h2 => by rw [HA.out, Mg.asdF_miss h1 h2]; congr 1; omega : Pp.asideE p.data.toList k = 0 → Mg.free M T N (Pp.asideT p.data.toList k) = false → Mg.asd M T N p.data.toList = Mg.asdF M T N p.data.toList (100 - (k + 1)) (k + 1))
      clear HA e1
      go_wp2_with fail
      refine (asideOf_any p k _ (by omega) (by omega) (by omega) HP.out).mono ?_
      rintro e w1 ⟨rfl, hb1⟩
      have hb01 := below_tr hbel hb1
      by_cases hE : Pp.asideE p.data.toList k = 0
      · have HE := hid hE
        rw [hE, Pp.ifc_yes rfl]
        generalize hqq : Pp.asideT p.data.toList k = q at *
        clear hE
        have d0 := (show Cs w1 bm [vm] from ⟨_, (HJ.out.below hb01).mine⟩).cell 0 rfl
        have d1 := (show Cs w1 bt [vt] from ⟨_, (HJ.out.below hb01).theirs⟩).cell 0 rfl
        have d2 := (show Cs w1 bo [vo] from ⟨_, (HJ.out.below hb01).out⟩).cell 0 rfl
        have hf : Mg.free M T N q = (((Mg.st M q).w == 0) && ((Mg.st T q).w == 0) && ((Mg.st N q).w == 0)) := rfl
        clear d1 d2
        go_wp2_with fail
        refine (entryAt_any M _ ⟨q.toArray⟩ _ (HJ.out.lm.below (HJ.out.below hb01).bel)).mono ?_
        rintro e w2 ⟨rfl, hb02x⟩
        have hb02 := below_tr hb01 hb02x
        rw [show (⟨q.toArray⟩ : ByteArray).data.toList = q from by simp]
        have i1 := idx_free M q
        cases ha : ((Mg.st M q).w == 0) with
        | false =>
          have hm : Mg.free M T N q = false := by rw [hf]; simp [ha]
          have ji1 : ¬ Pp.idx M q < 0 := by rw [ha] at i1; simpa using i1
          clear i1
          have HM2 := hid (HMI.out HE.out hm)
          clear HB HH HMI
          go_wp2_with fail
          go_roundw
          case rel => exact ⟨k + 1, by omega, by omega, rfl, HM2, hb02⟩
          case measure =>
            simp [intOf]
            omega
        | true =>
          have ji1 : Pp.idx M q < 0 := by rw [ha] at i1; simpa using i1
          clear i1
          have d1 := (show Cs w2 bt [vt] from ⟨_, (HJ.out.below hb02).theirs⟩).cell 0 rfl
          go_wp2_with fail
          refine (entryAt_any T _ ⟨q.toArray⟩ _ (HJ.out.lt.below (HJ.out.below hb02).bel)).mono ?_
          rintro e w3 ⟨rfl, hb03x⟩
          have hb03 := below_tr hb02 hb03x
          rw [show (⟨q.toArray⟩ : ByteArray).data.toList = q from by simp]
          have i2 := idx_free T q
          cases hb : ((Mg.st T q).w == 0) with
          | false =>
            have hm : Mg.free M T N q = false := by rw [hf]; simp [ha, hb]
            have ji2 : ¬ Pp.idx T q < 0 := by rw [hb] at i2; simpa using i2
            clear i2
            have HM2 := hid (HMI.out HE.out hm)
            clear HB HH HMI
            go_wp2_with fail
            go_roundw
            case rel => exact ⟨k + 1, by omega, by omega, rfl, HM2, hb03⟩
            case measure =>
              simp [intOf]
              omega
          | true =>
            have ji2 : Pp.idx T q < 0 := by rw [hb] at i2; simpa using i2
            clear i2
            have d2 := (show Cs w3 bo [vo] from ⟨_, (HJ.out.below hb03).out⟩).cell 0 rfl
            go_wp2_with fail
            refine (entryAt_any N _ ⟨q.toArray⟩ _ (lies_own (HJ.out.below hb03).lo (by omega))).mono ?_
            rintro e w4 ⟨rfl, hb04x⟩
            have hb04 := below_tr hb03 hb04x
            rw [show (⟨q.toArray⟩ : ByteArray).data.toList = q from by simp]
            have i3 := idx_free N q
            cases hc : ((Mg.st N q).w == 0) with
            | false =>
              have hm : Mg.free M T N q = false := by rw [hf]; simp [ha, hb, hc]
              have ji3 : ¬ Pp.idx N q < 0 := by rw [hc] at i3; simpa using i3
              clear i3
              have HM2 := hid (HMI.out HE.out hm)
              clear HB HH HMI
              go_wp2_with fail
              go_roundw
              case rel => exact ⟨k + 1, by omega, by omega, rfl, HM2, hb04⟩
              case measure =>
                simp [intOf]
                omega
            | true =>
              have ji3 : Pp.idx N q < 0 := by rw [hc] at i3; simpa using i3
              clear i3
              have HFR := hid (HH.out HE.out (by rw [hf, ha, hb, hc]; rfl))
              clear HB HH HMI hf ha hb hc
              obtain ⟨F, _, _, _, f3⟩ := (HJ.out.below hb04).put
              have dp := (show Cs w4 bp [_] from ⟨_, f3⟩).cell 0 rfl
              go_wp2_with fail
              have hs4 : w0.heap.size ≤ w4.heap.size := (HJ.out.below hb04).bel.size
              refine (mput_pos (⟨_, (HJ.out.below hb04).out⟩ : Cs w4 bo [vo]) (lies_own (HJ.out.below hb04).lo (by omega)) HR.out (by omega) ⟨q.toArray⟩ t (by decide : (0 : Int) < 2)).mono ?_
              rintro e w9 ⟨rfl, u, w5, rfl, hb5, hrow5⟩
              have HJ5 : Hid (RJ w0 (w5.setCell ⟨bo, 0, none⟩ u) bm bt bo bp bc vm vt u vc M T (Sp.put1 (Mg.file q ⟨2, t, 1⟩) N) C) := (((HJ.out.below hb04).below hb5).out' (own_down hrow5 hs4) : RJ w0 (w5.setCell ⟨bo, 0, none⟩ u) bm bt bo bp bc vm vt u vc M T (Sp.put1 (Mg.file q ⟨2, t, 1⟩) N) C)
              have HF5 : Hid (FrR w (w5.setCell ⟨bo, 0, none⟩ u) bo bc) := (((FrR.of_below hb04).trans (FrR.of_below hb5)).trans (FrR.set1 w5 bo bc u) : FrR w (w5.setCell ⟨bo, 0, none⟩ u) bo bc)
              generalize w5.setCell ⟨bo, 0, none⟩ u = w6 at *
              clear dp f3 hrow5 hb5
              have hbx : Cs w6 bc [vc] := ⟨_, HJ5.out.copies⟩
              have c3 := hbx.cell 0 rfl
              have f3 := hbx.fr 0
              have hjl3 := hbx.lt
              have HROW := hid HJ5.out.row
              obtain ⟨va, vcap, rfl⟩ := ownsRow_shape HROW.out
              have hs6 := HJ5.out.bel.size
              clear hbx
              go_wp2_with (at_builtin; refine wpList_append_own _ rfl _ _ 32 rfl w0.heap.size 60 i0 (.agg #[.string ⟨#[]⟩, .string ⟨#[]⟩]) 2 32 Tryz.underlying32 hi0 hz0 hz1 hz2 rfl (by decide) _ _ _ rfl (HROW.out.alloc _) ⟨w6.heap.size, 0, none⟩ 1 1 [.string p, .string ⟨q.toArray⟩] rfl rfl ?qc1 ?qc2 ?qc3 ?qc4 ?qc5 ?_)
              case qc1 => intro i u hi; match i, hi with | 0, hi => simp at hi; subst hi; simp [Addr.add] | 1, hi => simp at hi; subst hi; simp [Addr.add] | i + 2, hi => simp at hi
              case qc2 => intro u hu; simp at hu; rcases hu with rfl | rfl <;> rfl
              case qc3 => unfold maxLen; omega
              case qc4 => omega
              case qc5 => simp; omega
              intro v7 w7 ho7 hgr7 hnn7
              have hal : Below w6.heap.size w6 (w6.alloc (.cells #[.string p, .string ⟨q.toArray⟩] 60)) := (Below.refl _ _).alloc (Nat.le_refl _) _
              have hJ7 := HJ5.out.below hal
              have hbx7h := (hgr7.block bc (heap_lt hJ7.copies) (fun e => own_ne_box hJ7.row hJ7.copies rj_types.2.2.2.1 e.symm)).trans hJ7.copies
              have hbx7 : Cs w7 bc [.slice va C.length vcap] := ⟨_, hbx7h⟩
              have d3 := hbx7.cell 0 rfl
              have e3 := hbx7.fr 0
              have ho8 : w7.ownsRow w0.heap.size 60 2 v7 (C ++ [((p, ⟨q.toArray⟩) : ByteArray × ByteArray)]).length (Mg.flatP (C ++ [((p, ⟨q.toArray⟩) : ByteArray × ByteArray)])) := by
                rw [← Mg.flatP_snoc, List.length_append]; exact ho7
              have HJ8 := hid (hJ7.app hgr7 ho8)
              have HF8 := hid (((HF5.out.trans (FrR.of_below hal)).trans (FrR.grown hJ7.row hgr7)).trans (FrR.set2 w7 bo bc v7))
              obtain ⟨v7a, v7c, rfl⟩ := ownsRow_shape ho7
              clear ho7 ho8 hgr7 hJ7 hbx7 hbx7h HJ5 HROW
              go_wp2_with fail
              go_ret
              refine ⟨?_, ?_⟩
              · intro hn
                rw [HFR.out] at hn
                cases hn
              · intro q' hq'
                rw [HFR.out] at hq'
                injection hq' with hq'
                rw [← hq']
                exact ⟨rfl, _, _, HJ8.out, HF8.out⟩
      · have HN := hid (HB.out hE)
        have hE' : (Pp.asideE p.data.toList k != 0) = true := by simpa using hE
        clear HB HH HMI
        go_wp2_with fail
        go_ret
        refine ⟨fun _ => ⟨rfl, hb01⟩, fun q hq => ?_⟩
        rw [HN.out] at hq
        cases hq
    · have hke : k = 100 := by omega
      subst hke
      have HN : Hid (Mg.asd M T N p.data.toList = none) := (HA.out : Mg.asd M T N p.data.toList = none)
      go_wp2_with fail
      go_ret
      refine ⟨fun _ => ⟨rfl, hbel⟩, fun q hq => ?_⟩
      rw [HN.out] at hq
      cases hq
end Go.Proofs.YtlllcifehellpaaGreatDoor
