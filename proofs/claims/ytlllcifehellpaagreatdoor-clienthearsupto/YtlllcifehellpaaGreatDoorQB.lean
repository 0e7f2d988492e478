/- What goAside does: the first path that is free. What makeFolder does. -/
import Derived.Test.YtlllcifehellpaaGreatDoorM2
import Derived.Test.YtlllcifehellpaaGreatDoorQF
set_option linter.unusedSimpArgs false
set_option linter.unusedVariables false
namespace Go.Proofs.YtlllcifehellpaaGreatDoor
open Go.RowKit Go.Maps Go.WideMaps

theorem ownsRow_shape {w : World} {base : Nat} {e : TypeId} {size : Nat} {v : Value} {n : Nat} {xs : List Value} (h : w.ownsRow base e size v n xs) : ∃ a cap, v = .slice a n cap := by
  obtain ⟨_, h2⟩ := h
  rcases h2 with ⟨rfl, hz⟩ | ⟨g, cap, cur, rfl, _⟩
  · exact ⟨none, 0, by rw [hz]⟩
  · exact ⟨_, cap, rfl⟩
namespace Mg
/-- The first path aside that is free, from a number on. -/
def asdF (M T N : List En) (p : List UInt8) : Nat → Nat → Option (List UInt8)
  | 0, _ => none
  | f + 1, n => if ¬ Pp.asideE p n = 0 then none else if free M T N (Pp.asideT p n) = true then some (Pp.asideT p n) else asdF M T N p f (n + 1)
def asd (M T N : List En) (p : List UInt8) : Option (List UInt8) := asdF M T N p 99 1
theorem asdF_bad {M T N : List En} {p : List UInt8} {f n : Nat} (h : ¬ Pp.asideE p n = 0) : asdF M T N p (f + 1) n = none := by rw [asdF, if_pos h]
theorem asdF_hit {M T N : List En} {p : List UInt8} {f n : Nat} (h : Pp.asideE p n = 0) (h1 : free M T N (Pp.asideT p n) = true) : asdF M T N p (f + 1) n = some (Pp.asideT p n) := by rw [asdF, if_neg (fun x => x h), if_pos h1]
theorem asdF_miss {M T N : List En} {p : List UInt8} {f n : Nat} (h : Pp.asideE p n = 0) (h1 : free M T N (Pp.asideT p n) = false) : asdF M T N p (f + 1) n = asdF M T N p f (n + 1) := by rw [asdF, if_neg (fun x => x h), if_neg (by simp [h1])]
/-- A file at a path. -/
def file (q : List UInt8) (s : Spo) : En := ⟨⟨q.toArray⟩, false, s.t, s.v⟩
def flatP (C : List (ByteArray × ByteArray)) : List Value := C.flatMap (fun c => [.string c.1, .string c.2])
theorem flatP_snoc (C : List (ByteArray × ByteArray)) (c : ByteArray × ByteArray) : flatP C ++ [.string c.1, .string c.2] = flatP (C ++ [c]) := by simp [flatP]
end Mg
/-- A joining that may be written: its box, its maps, and its copies. -/
structure JoinM (B c : Nat) (w : World) (j bm bt bn : Nat) (vc : Value) (M T N : List En) (C : List (ByteArray × ByteArray)) : Prop where
  box : w.heap[j]? = some (.cells #[.map (some bm), .map (some bt), .map (some bn), vc] 99)
  mine : ∃ n, n ≤ 1000000 ∧ w.ownsMap Tryz.prog 9 Sp.rd bm n (Sp.D M)
  theirs : ∃ n, n ≤ 1000000 ∧ w.ownsMap Tryz.prog 9 Sp.rd bt n (Sp.D T)
  now : ∃ n, n ≤ c ∧ w.ownsMap Tryz.prog 9 Sp.rd bn n (Sp.D N)
  row : w.ownsRow B 60 2 vc C.length (Mg.flatP C)
  ne1 : bm ≠ bn
  ne2 : bt ≠ bn
  lej : B ≤ j
  len : B ≤ bn
theorem JoinM.join {B c : Nat} {w : World} {j bm bt bn : Nat} {vc : Value} {M T N : List En} {C : List (ByteArray × ByteArray)} (h : JoinM B c w j bm bt bn vc M T N C) (hc : c ≤ 1000000) : Join w j bm bt bn vc M T N := by
  obtain ⟨n, hn, hm⟩ := h.now
  exact ⟨⟨_, h.box⟩, h.mine, h.theirs, ⟨n, by omega, hm⟩⟩
theorem JoinM.below {B c : Nat} {w w' : World} {j bm bt bn : Nat} {vc : Value} {M T N : List En} {C : List (ByteArray × ByteArray)} (h : JoinM B c w j bm bt bn vc M T N C) (hw : Below w.heap.size w w') : JoinM B c w' j bm bt bn vc M T N C := by
  obtain ⟨h1, ⟨n1, l1, m1⟩, ⟨n2, l2, m2⟩, ⟨n3, l3, m3⟩, h5, h6, h7, h8, h9⟩ := h
  exact ⟨(hw.block j (heap_lt h1)).trans h1, ⟨n1, l1, omap_below m1 hw m1.lt⟩, ⟨n2, l2, omap_below m2 hw m2.lt⟩, ⟨n3, l3, omap_below m3 hw m3.lt⟩, h5.kept9 hw, h6, h7, h8, h9⟩
theorem own_ne_map {w : World} {B : Nat} {e : TypeId} {size : Nat} {v : Value} {n : Nat} {xs : List Value} {b : Nat} {k : Nat} {D : DataW Unit} (h : w.ownsRow B e size v n xs) (hm : w.ownsMap Tryz.prog 9 Sp.rd b k D) : v.ownBlock ≠ some b := by
  obtain ⟨es, clock, hb, _⟩ := hm
  obtain ⟨_, h2⟩ := h
  rcases h2 with ⟨rfl, _⟩ | ⟨g, cap, cur, rfl, _, hg, _⟩
  · simp [Value.ownBlock]
  · intro e
    simp [Value.ownBlock] at e
    subst e
    rw [hb] at hg
    cases hg
theorem box_ne_map {w : World} {j b k : Nat} {vs : Array Value} {T : TypeId} {fz : Nat × Nat} {D : DataW Unit} (h : w.heap[j]? = some (.cells vs T fz)) (hm : w.ownsMap Tryz.prog 9 Sp.rd b k D) : j ≠ b := by
  obtain ⟨es, clock, hb, _⟩ := hm
  rintro rfl
  rw [hb] at h
  cases h
theorem joining_copy : (99 : TypeId) ≠ 60 := by decide
theorem box_ne_row {w : World} {j B n : Nat} {vs : Array Value} {fz : Nat × Nat} {v : Value} {xs : List Value} (h : w.heap[j]? = some (.cells vs 99 fz)) (ho : w.ownsRow B 60 2 v n xs) : v.ownBlock ≠ some j := by
  obtain ⟨_, h2⟩ := ho
  rcases h2 with ⟨rfl, _⟩ | ⟨g, cap, cur, rfl, _, hg, _⟩
  · simp [Value.ownBlock]
  · intro e
    simp [Value.ownBlock] at e
    subst e
    rw [hg] at h
    injection h with h
    injection h with _ h
    exact joining_copy h.symm
/-- Behind a spot that was laid into what is there now. -/
theorem JoinM.upd {B c : Nat} {w w' : World} {j bm bt bn : Nat} {vc : Value} {M T N N' : List En} {C : List (ByteArray × ByteArray)} (h : JoinM B c w j bm bt bn vc M T N C) (hw : w.grownBy w' (some bn)) (hn : ∃ n, n ≤ c + 1 ∧ w'.ownsMap Tryz.prog 9 Sp.rd bn n (Sp.D N')) : JoinM B (c + 1) w' j bm bt bn vc M T N' C := by
  obtain ⟨h1, ⟨n1, l1, m1⟩, ⟨n2, l2, m2⟩, ⟨n3, l3, m3⟩, h5, h6, h7, h8, h9⟩ := h
  have hj := box_ne_map h1 m3
  refine ⟨(hw.block j (heap_lt h1) (fun e => hj (by injection e))).trans h1, ⟨n1, l1, m1.kept hw (fun e => h6 (by injection e))⟩, ⟨n2, l2, m2.kept hw (fun e => h7 (by injection e))⟩, hn, h5.kept (row := some bn) hw (Or.inr (own_ne_map h5 m3)), h6, h7, h8, h9⟩
/-- Behind one more copy. -/
theorem JoinM.app {B c : Nat} {w w' : World} {j bm bt bn : Nat} {vc v' : Value} {M T N : List En} {C C' : List (ByteArray × ByteArray)} (h : JoinM B c w j bm bt bn vc M T N C) (hw : w.grownBy w' vc.ownBlock) (ho : w'.ownsRow B 60 2 v' C'.length (Mg.flatP C')) : JoinM B c (w'.setCell ⟨j, 3, none⟩ v') j bm bt bn v' M T N C' := by
  obtain ⟨h1, ⟨n1, l1, m1⟩, ⟨n2, l2, m2⟩, ⟨n3, l3, m3⟩, h5, h6, h7, h8, h9⟩ := h
  have k1 : w'.heap[j]? = some (.cells #[.map (some bm), .map (some bt), .map (some bn), vc] 99) := (hw.block j (heap_lt h1) (fun e => box_ne_row h1 h5 e.symm)).trans h1
  have p1 := m1.kept hw (fun e => own_ne_map h5 m1 e.symm)
  have p2 := m2.kept hw (fun e => own_ne_map h5 m2 e.symm)
  have p3 := m3.kept hw (fun e => own_ne_map h5 m3 e.symm)
  have hs := nb_set w' j 3 v'
  refine ⟨?_, ⟨n1, l1, p1.kept hs (fun e => box_ne_map k1 p1 (by injection e with e; exact e.symm))⟩, ⟨n2, l2, p2.kept hs (fun e => box_ne_map k1 p2 (by injection e with e; exact e.symm))⟩, ⟨n3, l3, p3.kept hs (fun e => box_ne_map k1 p3 (by injection e with e; exact e.symm))⟩, ho.kept (row := some j) hs (Or.inr (box_ne_row k1 ho)), h6, h7, h8, h9⟩
  unfold World.setCell
  simp only [Array.getElem?_modify, k1, if_true, Option.map_some]
  rfl
/-- All but what is there now, joinings and copies lies as it did. -/
def Fr (bn : Nat) (w w' : World) : Prop := ∀ k o, w.heap[k]? = some o → k ≠ bn → (∀ cs fz, o ≠ .cells cs 99 fz) → (∀ cs fz, o ≠ .cells cs 60 fz) → w'.heap[k]? = some o
theorem Fr.of_below {bn : Nat} {w w' : World} (h : Below w.heap.size w w') : Fr bn w w' := fun k o hk _ _ _ => (h.block k (heap_lt hk)).trans hk
theorem Fr.trans {bn : Nat} {a b c : World} (h1 : Fr bn a b) (h2 : Fr bn b c) : Fr bn a c := fun k o hk hn hj hc => h2 k o (h1 k o hk hn hj hc) hn hj hc
theorem Fr.upd {bn : Nat} {w w' : World} (h : w.grownBy w' (some bn)) : Fr bn w w' := fun k o hk hn _ _ => (h.block k (heap_lt hk) (fun e => hn (by injection e))).trans hk
theorem Fr.app {bn B n : Nat} {w w' : World} {v : Value} {xs : List Value} (ho : w.ownsRow B 60 2 v n xs) (h : w.grownBy w' v.ownBlock) : Fr bn w w' := fun k o hk _ _ hc => (h.block k (heap_lt hk) (fun e => by
  obtain ⟨_, h2⟩ := ho
  rcases h2 with ⟨rfl, _⟩ | ⟨g, cap, cur, rfl, _, hg, _⟩
  · simp [Value.ownBlock] at e
  · simp [Value.ownBlock] at e
    subst e
    rw [hg] at hk
    injection hk with hk
    exact hc _ _ hk.symm)).trans hk
theorem Fr.set {bn j i : Nat} {w : World} {cs : Array Value} {fz : Nat × Nat} (hj : w.heap[j]? = some (.cells cs 99 fz)) (u : Value) : Fr bn w (w.setCell ⟨j, i, none⟩ u) := fun k o hk _ hn _ => ((nb_set w j i u).block k (heap_lt hk) (fun e => by
  injection e with e
  subst e
  rw [hj] at hk
  injection hk with hk
  exact hn _ _ hk.symm)).trans hk
theorem Tryz.infoCp : (Tryz.prog.info? 60).map (fun i => (i.zero, i.size, i.bytes)) = some (some (.agg #[.string ⟨#[]⟩, .string ⟨#[]⟩]), 2, 32) := by kernel_rfl

set_option maxRecDepth 100000 in
set_option maxHeartbeats 4000000 in
theorem goAside_any {B c : Nat} {w : World} {j bm bt bn : Nat} {vc : Value} {M T N : List En} {C : List (ByteArray × ByteArray)} (h : JoinM B c w j bm bt bn vc M T N C) (hM : Sp.Apart M) (hT : Sp.Apart T) (hN : Sp.Rise N) (hc : c ≤ 100000) (hC : C.length ≤ 100000) (p : ByteArray) (hp : p.size ≤ 1000) (s : Spo) (hs : s.w = 2) :
    Calls Tryz.prog 76 #[.pointer (some ⟨j, 0, none⟩), .string p, s.val] w fun e w' =>
      (Mg.asd M T N p.data.toList = none → e = .returned (.int .i64 2) ∧ Below w.heap.size w w') ∧
      (∀ q, Mg.asd M T N p.data.toList = some q → e = .returned (.int .i64 0) ∧ Below B w w' ∧ Fr bn w w' ∧ ∃ vc', JoinM B (c + 1) w' j bm bt bn vc' M T (Sp.put1 (Mg.file q s) N) (C ++ [(p, ⟨q.toArray⟩)])) := by
  obtain ⟨i0, hi0, hz0, hz1, hz2⟩ := info_parts Tryz.infoCp
  have HJ := hid h
  have HM := hid hM
  have HT := hid hT
  have HN := hid hN
  have hjl := heap_lt h.box
  have HJB : Hid (B ≤ w.heap.size) := (by have := h.lej; omega : B ≤ w.heap.size)
  obtain ⟨sw, st, sv⟩ := s
  simp only at hs
  subst hs
  simp only [Spo.val]
  clear h hM hT hN
  obtain ⟨wz, hwz⟩ : ∃ wz, wz = w.alloc (.cells #[.int .i64 2, .string st, .int .i64 sv] 114) := ⟨_, rfl⟩
  have hbz : Below w.heap.size w wz := by rw [hwz]; exact (Below.refl _ _).alloc (Nat.le_refl _) _
  have HX : Hid (Cs wz w.heap.size [.int .i64 2, .string st, .int .i64 sv]) := (by rw [hwz]; exact Cs.new _ [.int .i64 2, .string st, .int .i64 sv] _ : Cs wz w.heap.size [.int .i64 2, .string st, .int .i64 sv])
  go_enter Tryz.func76, Tryz.ntmps76
  go_wp2_with fail
  rw [← hwz]
  clear hwz
  go_loopw [7] (fun i wr => ∃ k : Nat, 1 ≤ k ∧ k ≤ 100 ∧ i = .int .i64 k ∧ Hid (Mg.asd M T N p.data.toList = Mg.asdF M T N p.data.toList (100 - k) k) ∧ Below wz.heap.size wz wr) (fun i _ => 100 - (intOf i).toNat)
  case atStart => exact ⟨1, Nat.le_refl _, by decide, rfl, (rfl : Mg.asd M T N p.data.toList = Mg.asdF M T N p.data.toList (100 - 1) 1), Below.refl _ _⟩
  case round =>
    obtain ⟨k, hk1, hk2, rfl, HA, hbo⟩ := hrel
    have hbel := below_tr hbz hbo
    by_cases hk : k ≤ 99
    · have hki : (k : Int) ≤ 99 := by omega
      have e1 : 100 - k = (99 - k) + 1 := by omega
      rw [e1] at HA
      have HB : Hid (¬ Pp.asideE p.data.toList k = 0 → Mg.asd M T N p.data.toList = none) := (fun hh => by rw [HA.out, Mg.asdF_bad hh] : ¬ Pp.asideE p.data.toList k = 0 → Mg.asd M T N p.data.toList = none)
      have HH : Hid (Pp.asideE p.data.toList k = 0 → Mg.free M T N (Pp.asideT p.data.toList k) = true → Mg.asd M T N p.data.toList = some (Pp.asideT p.data.toList k)) := (fun h1 h2 => by rw [HA.out, Mg.asdF_hit h1 h2] : Pp.asideE p.data.toList k = 0 → Mg.free M T N (Pp.asideT p.data.toList k) = true → Mg.asd M T N p.data.toList = some (Pp.asideT p.data.toList k))
      have HMI : Hid (Pp.asideE p.data.toList k = 0 → Mg.free M T N (Pp.asideT p.data.toList k) = false → Mg.asd M T N p.data.toList = Mg.asdF M T N p.data.toList (100 - (k + 1)) (k + 1)) := (fun h1 h2 => by rw [HA.out, Mg.asdF_miss h1 h2]; congr 1; omega : Pp.asideE p.data.toList k = 0 → Mg.free M T N (Pp.asideT p.data.toList k) = false → Mg.asd M T N p.data.toList = Mg.asdF M T N p.data.toList (100 - (k + 1)) (k + 1))
      clear HA e1
      go_wp2_with fail
      refine (aside_any p k _ (by omega)).mono ?_
      rintro e w1 ⟨rfl, hb1⟩
      rw [Int.toNat_natCast]
      have hb01 := below_tr hbel hb1
      by_cases hE : Pp.asideE p.data.toList k = 0
      · have HE := hid hE
        have hok := Pp.aside_ok hE
        have hlen := Pp.chk_len hok.2.2.2.2
        rw [Int.toNat_natCast] at hlen
        have HQ : Hid ((⟨(Pp.asideT p.data.toList k).toArray⟩ : ByteArray).size ≤ maxLen) := (by
          show (Pp.asideT p.data.toList k).toArray.size ≤ _
          rw [List.size_toArray]; unfold maxLen; omega : (⟨(Pp.asideT p.data.toList k).toArray⟩ : ByteArray).size ≤ maxLen)
        rw [hE, Pp.ifc_yes rfl]
        generalize hqq : Pp.asideT p.data.toList k = q at *
        clear hE hok hlen
        go_wp2_with fail
        refine (isFree_any ((HJ.out.below hb01).join (by omega)) HM.out HT.out (Sp.apart_rise HN.out) ⟨q.toArray⟩ HQ.out).mono ?_
        rintro e w2 ⟨rfl, hb2⟩
        have hb02 := below_tr hb01 hb2
        have HJ2 := hid (HJ.out.below hb02)
        have HX2 := hid ((HX.out.below hbo).below (below_tr hb1 hb2))
        cases hfr : Mg.free M T N q with
        | true =>
          have HR := hid (HH.out HE.out hfr)
          have hbx : Cs w2 j [.map (some bm), .map (some bt), .map (some bn), vc] := ⟨_, HJ2.out.box⟩
          have c2 := hbx.cell 2 rfl
          have c3 := hbx.cell 3 rfl
          have f3 := hbx.fr 3
          have x0 := HX2.out.cell 0 rfl
          have x1 := HX2.out.cell 1 rfl
          have x2 := HX2.out.cell 2 rfl
          obtain ⟨n3, l3, m3⟩ := HJ2.out.now
          clear HB HH HMI hfr hbx
          have hdr : Below w2.heap.size w2 w2.drew := (Below.refl _ _).drew
          obtain ⟨w3, hrun3, hown3, hgr3⟩ := (omap_below m3 hdr m3.lt).update (string_keyed Tryz.underlying9) Tryz.underlying96 (by unfold maxLen; omega) (keyOf_string_mk Tryz.underlying9 HQ.out) (Sp.rd_mk 2 st sv)
          have HO3 := hid hown3
          clear hown3
          go_wp2_with fail
          go_region
          have HJ3 : Hid (JoinM B (c + 1) w3 j bm bt bn vc M T (Sp.put1 (Mg.file q ⟨2, st, sv⟩) N) C) := ((HJ2.out.below hdr).upd hgr3 ⟨n3 + 1, by omega, by
            rw [← Sp.D_put HN.out]
            exact HO3.out⟩ : JoinM B (c + 1) w3 j bm bt bn vc M T (Sp.put1 (Mg.file q ⟨2, st, sv⟩) N) C)
          have hlt2 := (HJ2.out.len)
          have hsz3 := hgr3.size
          have hb03 : Below B w w3 := (((hb02.trans (hdr.mono hb02.size)).mono HJB.out)).grown hgr3 (by have := hb02.size; have := HJB.out; simp; omega) (fun k hk => by injection hk with hk; omega)
          clear x0 x1 x2 c2 c3 f3 hrun3 HO3 HJ2 m3
          have hbx : Cs w3 j [.map (some bm), .map (some bt), .map (some bn), vc] := ⟨_, HJ3.out.box⟩
          have c3 := hbx.cell 3 rfl
          have f3 := hbx.fr 3
          have hjl3 := hbx.lt
          have HROW := hid HJ3.out.row
          obtain ⟨va, vcap, rfl⟩ := ownsRow_shape HROW.out
          clear hbx
          go_wp2_with (at_builtin; refine wpList_append_own _ rfl _ _ 32 rfl B 60 i0 (.agg #[.string ⟨#[]⟩, .string ⟨#[]⟩]) 2 32 Tryz.underlying32 hi0 hz0 hz1 hz2 rfl (by decide) _ _ _ rfl (HROW.out.alloc _) ⟨w3.heap.size, 0, none⟩ 1 1 [.string p, .string ⟨q.toArray⟩] rfl rfl ?qc1 ?qc2 ?qc3 ?qc4 ?qc5 ?_)
          case qc1 => intro i u hi; match i, hi with | 0, hi => simp at hi; subst hi; simp [Addr.add] | 1, hi => simp at hi; subst hi; simp [Addr.add] | i + 2, hi => simp at hi
          case qc2 => intro u hu; simp at hu; rcases hu with rfl | rfl <;> rfl
          case qc3 => unfold maxLen; omega
          case qc4 => omega
          case qc5 => have := HJ3.out.lej; simp; omega
          intro v4 w4 ho4 hgr4 hnn4
          have hal : Below w3.heap.size w3 (w3.alloc (.cells #[.string p, .string ⟨q.toArray⟩] 60)) := (Below.refl _ _).alloc (Nat.le_refl _) _
          have hJ4 := HJ3.out.below hal
          have hbx4h := (hgr4.block j (heap_lt hJ4.box) (fun e => box_ne_row hJ4.box hJ4.row e.symm)).trans hJ4.box
          have hbx4 : Cs w4 j [.map (some bm), .map (some bt), .map (some bn), .slice va C.length vcap] := ⟨_, hbx4h⟩
          have d3 := hbx4.cell 3 rfl
          have e3 := hbx4.fr 3
          have ho5 : w4.ownsRow B 60 2 v4 (C ++ [((p, ⟨q.toArray⟩) : ByteArray × ByteArray)]).length (Mg.flatP (C ++ [((p, ⟨q.toArray⟩) : ByteArray × ByteArray)])) := by
            rw [← Mg.flatP_snoc, List.length_append]; exact ho4
          have HJ5 := hid (hJ4.app hgr4 ho5)
          have HFR : Hid (Fr bn w (w4.setCell ⟨j, 3, none⟩ v4)) := ((((Fr.of_below (below_tr hb02 hdr)).trans (Fr.upd hgr3)).trans (Fr.of_below hal)).trans ((Fr.app hJ4.row hgr4).trans (Fr.set (hbx4h) v4)) : Fr bn w (w4.setCell ⟨j, 3, none⟩ v4))
          have hszB : B ≤ w3.heap.size := Nat.le_trans HJB.out hb03.size
          have hb05 : Below B w (w4.setCell ⟨j, 3, none⟩ v4) := (((hb03.trans (hal.mono hszB)).grown hgr4 (Nat.le_trans HJB.out (Nat.le_trans hb03.size hal.size)) (fun k hk => (hJ4.row.lt k hk).1)).setCell (p := ⟨j, 3, none⟩) hJ4.lej _)
          obtain ⟨v4a, v4c, rfl⟩ := ownsRow_shape ho4
          clear ho4 ho5 hgr4 hJ4 hbx4 hbx4h HJ3 HROW
          go_wp2_with fail
          go_ret
          refine ⟨?_, ?_⟩
          · intro hn
            rw [HR.out] at hn
            cases hn
          · intro q' hq'
            rw [HR.out] at hq'
            injection hq' with hq'
            rw [← hq']
            exact ⟨rfl, hb05, HFR.out, _, HJ5.out⟩
        | false =>
          have HR := hid (HMI.out HE.out hfr)
          have hbo2 := below_tr hbo (below_tr hb1 hb2)
          clear HB HH HMI hfr
          go_wp2_with fail
          go_roundw
          case rel => exact ⟨k + 1, by omega, by omega, by simp, HR, hbo2⟩
          case measure => simp [intOf]; omega
      · have HR := hid (HB.out hE)
        have hz : (Pp.asideE p.data.toList k == 0) = false := by simpa using hE
        clear HB HH HMI
        go_wp2_with fail
        go_ret
        exact ⟨(fun _ => ⟨rfl, hb01⟩), (fun q hq => by rw [HR.out] at hq; cases hq)⟩
    · obtain rfl : k = 100 := by omega
      have HR : Hid (Mg.asd M T N p.data.toList = none) := (by rw [HA.out]; rfl : Mg.asd M T N p.data.toList = none)
      go_wp2_with fail
      go_ret
      exact ⟨(fun _ => ⟨rfl, hbel⟩), (fun q hq => by rw [HR.out] at hq; cases hq)⟩
end Go.Proofs.YtlllcifehellpaaGreatDoor
set_option linter.unusedSimpArgs false
set_option linter.unusedVariables false
namespace Go.Proofs.YtlllcifehellpaaGreatDoor
open Go.RowKit Go.Maps Go.WideMaps

namespace Mg
def fold (p : ByteArray) : En := ⟨p, true, ⟨#[]⟩, 0⟩
/-- A folder is made at a path; a file that is there goes aside. -/
def mkf (M T N : List En) (C : List (ByteArray × ByteArray)) (p : ByteArray) : Option (List En × List (ByteArray × ByteArray)) :=
  if (st N p.data.toList).w = 2 then match asd M T N p.data.toList with
    | none => none
    | some q => some (Sp.put1 (fold p) (Sp.put1 (file q (st N p.data.toList)) N), C ++ [(p, ⟨q.toArray⟩)])
  else some (Sp.put1 (fold p) N, C)
theorem mkf_no {M T N : List En} {C : List (ByteArray × ByteArray)} {p : ByteArray} (h : (st N p.data.toList).w = 2) (h1 : asd M T N p.data.toList = none) : mkf M T N C p = none := by rw [mkf, if_pos h, h1]
theorem mkf_some {M T N : List En} {C : List (ByteArray × ByteArray)} {p : ByteArray} {q : List UInt8} (h : (st N p.data.toList).w = 2) (h1 : asd M T N p.data.toList = some q) : mkf M T N C p = some (Sp.put1 (fold p) (Sp.put1 (file q (st N p.data.toList)) N), C ++ [(p, ⟨q.toArray⟩)]) := by rw [mkf, if_pos h, h1]
theorem mkf_else {M T N : List En} {C : List (ByteArray × ByteArray)} {p : ByteArray} (h : ¬ (st N p.data.toList).w = 2) : mkf M T N C p = some (Sp.put1 (fold p) N, C) := by rw [mkf, if_neg h]
end Mg

set_option maxRecDepth 100000 in
set_option maxHeartbeats 4000000 in
theorem makeFolder_any {B c : Nat} {w : World} {j bm bt bn : Nat} {vc : Value} {M T N : List En} {C : List (ByteArray × ByteArray)} (h : JoinM B c w j bm bt bn vc M T N C) (hM : Sp.Apart M) (hT : Sp.Apart T) (hN : Sp.Rise N) (hc : c ≤ 90000) (hC : C.length ≤ 90000) (p : ByteArray) (hp : p.size ≤ 1000) :
    Calls Tryz.prog 100 #[.pointer (some ⟨j, 0, none⟩), .string p] w fun e w' =>
      (Mg.mkf M T N C p = none → e = .returned (.int .i64 2) ∧ Below B w w') ∧
      (∀ N' C', Mg.mkf M T N C p = some (N', C') → e = .returned (.int .i64 0) ∧ Below B w w' ∧ Fr bn w w' ∧ ∃ vc', JoinM B (c + 2) w' j bm bt bn vc' M T N' C') := by
  have HJ := hid h
  have HM := hid hM
  have HT := hid hT
  have HN := hid hN
  have hjl := heap_lt h.box
  have HJB : Hid (B ≤ w.heap.size) := (by have := h.lej; omega : B ≤ w.heap.size)
  have HP : Hid (p.size ≤ maxLen) := (by unfold maxLen; omega : p.size ≤ maxLen)
  obtain ⟨n3, l3, m3⟩ := h.now
  have k3 := spotSt m3 (Sp.apart_rise hN) p HP.out
  have hbx : Cs w j [.map (some bm), .map (some bt), .map (some bn), vc] := ⟨_, h.box⟩
  have c2 := hbx.cell 2 rfl
  have HK1 : Hid ((Mg.st N p.data.toList).w = 2 → Mg.asd M T N p.data.toList = none → Mg.mkf M T N C p = none) := Mg.mkf_no
  have HK2 : Hid (∀ q, (Mg.st N p.data.toList).w = 2 → Mg.asd M T N p.data.toList = some q → Mg.mkf M T N C p = some (Sp.put1 (Mg.fold p) (Sp.put1 (Mg.file q (Mg.st N p.data.toList)) N), C ++ [(p, ⟨q.toArray⟩)])) := (fun q h1 h2 => Mg.mkf_some h1 h2 : ∀ q, (Mg.st N p.data.toList).w = 2 → Mg.asd M T N p.data.toList = some q → Mg.mkf M T N C p = some (Sp.put1 (Mg.fold p) (Sp.put1 (Mg.file q (Mg.st N p.data.toList)) N), C ++ [(p, ⟨q.toArray⟩)]))
  have HK3 : Hid (¬ (Mg.st N p.data.toList).w = 2 → Mg.mkf M T N C p = some (Sp.put1 (Mg.fold p) N, C)) := Mg.mkf_else
  generalize Mg.st N p.data.toList = x at *
  obtain ⟨xw, xt, xv⟩ := x
  simp only at k3 HK1 HK2 HK3
  clear h hM hT hN hbx m3
  obtain ⟨wz, hwz⟩ : ∃ wz, wz = w.alloc (.cells #[.int .i64 xw, .string xt, .int .i64 xv] 114) := ⟨_, rfl⟩
  have hbz : Below w.heap.size w wz := by rw [hwz]; exact (Below.refl _ _).alloc (Nat.le_refl _) _
  have HJZ := hid (HJ.out.below hbz)
  by_cases h2 : xw = 2
  · subst h2
    go_enter Tryz.func100, Tryz.ntmps100
    go_wp2_with fail
    rw [← hwz]
    clear hwz k3 c2
    refine (goAside_any HJZ.out HM.out HT.out HN.out (by omega) (by omega) p hp ⟨2, xt, xv⟩ rfl).mono ?_
    intro e w1 he
    cases ha : Mg.asd M T N p.data.toList with
    | none =>
      obtain ⟨rfl, hb1⟩ := he.1 ha
      have HR := hid (HK1.out trivial ha)
      have hb01 : Below B w w1 := (below_tr hbz hb1).mono HJB.out
      clear he ha
      go_wp2_with fail
      go_ret
      refine ⟨fun _ => ⟨rfl, hb01⟩, ?_⟩
      intro N' C' hh
      rw [HR.out] at hh
      cases hh
    | some q =>
      obtain ⟨rfl, hb1, hf1, vc', hJ1⟩ := he.2 q ha
      have HR := hid (HK2.out q trivial ha)
      have hb01 : Below B w w1 := (hbz.mono HJB.out).trans hb1
      have HJ1 := hid hJ1
      have HN1 := hid (Sp.put1_rise (e := Mg.file q ⟨2, xt, xv⟩) HN.out)
      clear he ha
      have hbx : Cs w1 j [.map (some bm), .map (some bt), .map (some bn), vc'] := ⟨_, hJ1.box⟩
      have c2 := hbx.cell 2 rfl
      obtain ⟨n4, l4, m4⟩ := hJ1.now
      obtain ⟨w3, hrun3, hown3, hgr3⟩ := m4.update (string_keyed Tryz.underlying9) Tryz.underlying96 (by unfold maxLen; omega) (keyOf_string_mk Tryz.underlying9 HP.out) (Sp.rd_mk 1 ⟨#[]⟩ 0)
      have HO3 := hid hown3
      have HJ3 : Hid (JoinM B (c + 2) w3 j bm bt bn vc' M T (Sp.put1 (Mg.fold p) (Sp.put1 (Mg.file q ⟨2, xt, xv⟩) N)) (C ++ [(p, ⟨q.toArray⟩)])) := (HJ1.out.upd hgr3 ⟨n4 + 1, by omega, by
        rw [← Sp.D_put HN1.out]
        exact HO3.out⟩ : JoinM B (c + 2) w3 j bm bt bn vc' M T (Sp.put1 (Mg.fold p) (Sp.put1 (Mg.file q ⟨2, xt, xv⟩) N)) (C ++ [(p, ⟨q.toArray⟩)]))
      have hlen := HJ1.out.len
      have HFR : Hid (Fr bn w w3) := (((Fr.of_below hbz).trans hf1).trans (Fr.upd hgr3) : Fr bn w w3)
      have hszB : B ≤ w1.heap.size := Nat.le_trans HJB.out hb01.size
      have hb03 : Below B w w3 := hb01.grown hgr3 hszB (fun k hk => by injection hk with hk; omega)
      clear hown3 hJ1 hbx m4
      go_wp2_with fail
      go_ret
      refine ⟨?_, ?_⟩
      · intro hh
        rw [HR.out] at hh
        cases hh
      · intro N' C' hh
        rw [HR.out] at hh
        injection hh with hh
        injection hh with e1 e2
        rw [← e1, ← e2]
        exact ⟨rfl, hb03, HFR.out, _, HJ3.out⟩
  · have HR := hid (HK3.out h2)
    have h2' : (xw == 2) = false := by simpa using h2
    have HJZ2 := HJZ.out
    have hbx : Cs wz j [.map (some bm), .map (some bt), .map (some bn), vc] := ⟨_, HJZ2.box⟩
    have d2 := hbx.cell 2 rfl
    obtain ⟨n4, l4, m4⟩ := HJZ2.now
    obtain ⟨w3, hrun3, hown3, hgr3⟩ := m4.update (string_keyed Tryz.underlying9) Tryz.underlying96 (by unfold maxLen; omega) (keyOf_string_mk Tryz.underlying9 HP.out) (Sp.rd_mk 1 ⟨#[]⟩ 0)
    have HO3 := hid hown3
    have HJ3 : Hid (JoinM B (c + 1) w3 j bm bt bn vc M T (Sp.put1 (Mg.fold p) N) C) := (HJZ.out.upd hgr3 ⟨n4 + 1, by omega, by
      rw [← Sp.D_put HN.out]
      exact HO3.out⟩ : JoinM B (c + 1) w3 j bm bt bn vc M T (Sp.put1 (Mg.fold p) N) C)
    have hlen := HJZ.out.len
    have HFR : Hid (Fr bn w w3) := ((Fr.of_below hbz).trans (Fr.upd hgr3) : Fr bn w w3)
    have hb03 : Below B w w3 := (hbz.mono HJB.out).grown hgr3 (Nat.le_trans HJB.out hbz.size) (fun k hk => by injection hk with hk; omega)
    clear hown3 hbx m4 HJZ2 HK1 HK2 HK3
    rw [hwz] at hrun3 d2
    go_enter Tryz.func100, Tryz.ntmps100
    go_wp2_with fail
    go_ret
    refine ⟨?_, ?_⟩
    · intro hh
      rw [HR.out] at hh
      cases hh
    · intro N' C' hh
      rw [HR.out] at hh
      injection hh with hh
      injection hh with e1 e2
      rw [← e1, ← e2]
      obtain ⟨nx, lx, mx⟩ := HJ3.out.now
      exact ⟨rfl, hb03, HFR.out, _, ⟨HJ3.out.box, HJ3.out.mine, HJ3.out.theirs, ⟨nx, by omega, mx⟩, HJ3.out.row, HJ3.out.ne1, HJ3.out.ne2, HJ3.out.lej, HJ3.out.len⟩⟩
end Go.Proofs.YtlllcifehellpaaGreatDoor
