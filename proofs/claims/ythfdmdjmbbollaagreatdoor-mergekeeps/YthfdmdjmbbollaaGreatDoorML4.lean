/- The law MergeKeeps: each text that a side changed is there, at its path or aside. -/
import Derived.Test.YthfdmdjmbbollaaGreatDoorML3
import Derived.Test.YthfdmdjmbbollaaGreatDoorMU
import Derived.Test.YthfdmdjmbbollaaGreatDoorT11
import Derived.Test.YthfdmdjmbbollaaGreatDoorMKw
set_option linter.unusedSimpArgs false
set_option linter.unusedVariables false
namespace Go.Proofs.YthfdmdjmbbollaaGreatDoor
open Go.RowKit Go.Maps

theorem Mg.m_empty {B M T : List En} (h : ¬ Mg.mE B M T = 0) : Mg.mT B M T = [] ∧ Mg.mC B M T = [] := by
  by_cases h1 : Pp.treeE B = 0
  · by_cases h2 : Pp.treeE M = 0
    · by_cases h3 : Pp.treeE T = 0
      · cases hm : Mg.mrg B M T with
        | none => exact (Mg.m_none h1 h2 h3 hm).2
        | some x => exact absurd (Mg.m_some (X := x.1) (C := x.2) h1 h2 h3 hm).1 h
      · exact (Mg.m_no3 h1 h2 h3).2
    · exact (Mg.m_no2 h1 h2).2
  · exact (Mg.m_no1 h1).2
namespace Mg
/-- Is a text at a path? -/
def fileAt (L : List En) (p : List UInt8) (t : ByteArray) : Prop := ∃ x ∈ L, x.path.data.toList = p ∧ x.folder = false ∧ x.text = t
/-- What the law asks of one entry. -/
def Kept1 (B X : List En) (C : CC) (e : En) : Prop := e.folder = false → ¬ fileAt B e.path.data.toList e.text → fileAt X e.path.data.toList e.text ∨ ∃ c ∈ C, c.1.data.toList = e.path.data.toList ∧ fileAt X c.2.data.toList e.text
theorem fileAt_st {L : List En} (h : Sp.Rise L) {p : List UInt8} {t : ByteArray} {s : Spo} (hs : s.w = 2) (ht : s.t = t) (hl : lk (st L p) s = true) : ∃ x ∈ L, x.path.data.toList = p ∧ x.folder = false ∧ Sp.tx x = t := by
  have h1 := lk_iff.1 hl
  obtain ⟨x, hx, hp, hxs⟩ := st_get h (p := p) (by omega)
  rw [hxs] at h1
  have h2 : Sp.wh x = s.w := h1.1
  have h3 : Sp.tx x = s.t := h1.2
  refine ⟨x, hx, hp, ?_, h3.trans ht⟩
  cases hf : x.folder with
  | false => rfl
  | true => rw [Sp.wh, if_pos hf] at h2; omega
theorem outs_fileAt {M T N : List En} (h : Sp.Rise N) {p : List UInt8} {t : ByteArray} {s : Spo} (hs : s.w = 2) (ht : s.t = t) (hl : lk (st N p) s = true) : fileAt (outs M T N) p t := by
  obtain ⟨x, hx, hp, hf, htx⟩ := fileAt_st h hs ht hl
  refine ⟨out1 M T N x, List.mem_map.2 ⟨x, hx, rfl⟩, hp, ?_, htx⟩
  show (Sp.wh x == 1) = false
  rw [wh_fold, hf]
theorem kept_side {B M T S X : List En} {C : CC} (gB : Pp.Good B) (gM : Pp.Good M) (gT : Pp.Good T) (gS : Pp.Good S) (hS : ∀ p, (st S p).w = 2 → ¬ lk (st S p) (st B p) = true → lk (fS B M T p) (st S p) = true ∨ fG B M T p = st S p) (h : mrg B M T = some (X, C)) : ∀ e ∈ S, Kept1 B X C e := by
  obtain ⟨N, rfl, hN, hk⟩ := kp_mrg gB gM gT h
  intro e he hf hb
  have hst := st_mem gS.rise he
  have hw : Sp.wh e = 2 := by rw [Sp.wh, if_neg (by rw [hf]; decide)]
  have htx : Sp.tx e = e.text := good_text gS he
  have hs : (spo e).w = 2 := hw
  have hnb : ¬ lk (spo e) (st B e.path.data.toList) = true := by
    intro hl
    obtain ⟨x, hx, hp, hxf, hxt⟩ := fileAt_st gB.rise hs htx (lk_symm hl)
    exact hb ⟨x, hx, hp, hxf, by rw [← hxt]; exact (good_text gB hx).symm⟩
  have h0 := hS e.path.data.toList (by rw [hst]; exact hs) (by rw [hst]; exact hnb)
  rw [hst] at h0
  rcases hk e.path.data.toList (spo e) hs h0 with k | ⟨c, hc, c1, c2, _⟩
  · exact Or.inl (outs_fileAt hN hs htx k)
  · exact Or.inr ⟨c, hc, c1, outs_fileAt hN hs htx c2⟩
theorem kept_mine {B M T X : List En} {C : CC} (gB : Pp.Good B) (gM : Pp.Good M) (gT : Pp.Good T) (h : mrg B M T = some (X, C)) : ∀ e ∈ M, Kept1 B X C e :=
  kept_side gB gM gT gM (fun p h1 h2 => mine_kept h1 h2) h
theorem kept_theirs {B M T X : List En} {C : CC} (gB : Pp.Good B) (gM : Pp.Good M) (gT : Pp.Good T) (h : mrg B M T = some (X, C)) : ∀ e ∈ T, Kept1 B X C e :=
  kept_side gB gM gT gT (fun p h1 h2 => theirs_kept h1 h2) h
theorem lookB_iff {L : List En} (h : Sp.Rise L) {p : List UInt8} {t : ByteArray} : lookB L p t = true ↔ fileAt L p t := by
  rw [lookB]
  constructor
  · intro hl
    cases ha : L.find? (Pp.atB p) with
    | none => rw [ha] at hl; cases hl
    | some x =>
      rw [ha] at hl
      obtain ⟨h1, h2⟩ := (Sp.at_iff (Sp.apart_rise h)).1 (show Sp.at_ L p = some x from ha)
      simp only [Bool.and_eq_true, Bool.not_eq_true', beq_iff_eq] at hl
      exact ⟨x, h1, h2, hl.1, ba_ext (by have := hl.2; rw [Lib.toList_data, Lib.toList_data] at this; exact this)⟩
  · rintro ⟨x, hx, hp, hf, ht⟩
    have : L.find? (Pp.atB p) = some x := (Sp.at_iff (Sp.apart_rise h)).2 ⟨hx, hp⟩
    rw [this, ← ht]
    simp [hf]
theorem ask_of {B X : List En} {C : CC} {e : En} (hB : Sp.Rise B) (hX : Sp.Rise X) (h : Kept1 B X C e) : Ask B X C e := by
  cases hf : e.folder with
  | true => exact Or.inl hf
  | false =>
    by_cases hb : fileAt B e.path.data.toList e.text
    · exact Or.inr (Or.inl ((lookB_iff hB).2 hb))
    · rcases h hf hb with h | ⟨c, hc, h1, h2⟩
      · exact Or.inr (Or.inr (Or.inl ((lookB_iff hX).2 h)))
      · exact Or.inr (Or.inr (Or.inr ⟨c, hc, h1, (lookB_iff hX).2 h2⟩))
end Mg

set_option maxRecDepth 100000 in
set_option maxHeartbeats 4000000 in
theorem mergeKeeps_walk (B M T : List En) (vb vm vt : Value) (w : World) (hB : Lies w vb B) (hM : Lies w vm M) (hT : Lies w vt T) (sB : Sized B) (sM : Sized M) (sT : Sized T) :
    Calls Tryz.prog 5 #[vb, vm, vt] w fun e w' => e = .returned (.bool true) ∧ Below w.heap.size w w' := by
  have HB := hid hB
  have HM := hid hM
  have HT := hid hT
  have HSB := hid sB
  have HSM := hid sM
  have HST := hid sT
  obtain ⟨ab, cb, rfl⟩ := lies_shape hB
  obtain ⟨am, cm, rfl⟩ := lies_shape hM
  obtain ⟨at1, ct, rfl⟩ := lies_shape hT
  clear hB hM hT sB sM sT
  go_enter Tryz.func5, Tryz.ntmps5
  go_wp2_with fail
  refine (mergeBegun_yes _).mono ?_
  rintro e w0 ⟨rfl, hb0⟩
  go_wp2_with fail
  refine (begun_yes _).mono ?_
  rintro e w1 ⟨rfl, hb01⟩
  have hb1 := below_tr hb0 hb01
  go_wp2_with fail
  refine (merge_any B M T _ _ _ _ (HB.out.below hb1) (HM.out.below hb1) (HT.out.below hb1) HSB.out HSM.out HST.out).mono ?_
  rintro e w2 ⟨v2, c2, rfl, hl2, hk2, hb2⟩
  have hb02 := below_tr hb1 hb2
  have H2 := hid hl2
  have K2 := hid hk2
  obtain ⟨a2, p2, rfl⟩ := lies_shape hl2
  obtain ⟨b2, q2, rfl⟩ := liesK_shape hk2
  clear hl2 hk2
  by_cases e1 : Mg.mE B M T = 0
  · obtain ⟨g1, g2, g3, X, C, hX⟩ := Mg.m_ok e1
    have gB := (Pp.good_iff B).1 g1
    have gM := (Pp.good_iff M).1 g2
    have gT := (Pp.good_iff T).1 g3
    have gX := Mg.mrg_good gB gM gT hX
    obtain ⟨_, n2, n3⟩ := Mg.m_some g1 g2 g3 hX
    have HSX := hid (good_sized gX)
    have HEX := hid ((Pp.good_iff X).2 gX)
    have HKM : Hid (∀ e ∈ M, Mg.Ask B X C e) := (fun e he => Mg.ask_of gB.rise gX.rise (Mg.kept_mine gB gM gT hX e he) : ∀ e ∈ M, Mg.Ask B X C e)
    have HKT : Hid (∀ e ∈ T, Mg.Ask B X C e) := (fun e he => Mg.ask_of gB.rise gX.rise (Mg.kept_theirs gB gM gT hX e he) : ∀ e ∈ T, Mg.Ask B X C e)
    rw [e1]
    rw [n2] at H2 ⊢
    rw [n3] at K2 ⊢
    clear e1 n2 n3 hX g1 g2 g3 gX gB gM gT
    go_wp2_with fail
    refine (tcheck_all X _ _ H2.out HSX.out).mono ?_
    rintro e w3 ⟨rfl, hb3⟩
    rw [HEX.out]
    have hb03 := below_tr hb02 hb3
    go_wp2_with fail
    refine (kept_any B M X C _ _ _ _ _ (HB.out.below hb03) (HM.out.below hb03) (H2.out.below hb3) (K2.out.below hb3) HKM.out).mono ?_
    rintro e w4 ⟨rfl, hb4⟩
    have hb04 := below_tr hb03 hb4
    have hb24 := below_tr hb3 hb4
    go_wp2_with fail
    refine (kept_any B T X C _ _ _ _ _ (HB.out.below hb04) (HT.out.below hb04) (H2.out.below hb24) (K2.out.below hb24) HKT.out).mono ?_
    rintro e w5 ⟨rfl, hb5⟩
    have hb05 := below_tr hb04 hb5
    go_wp2_with fail
    go_ret
    exact ⟨rfl, hb05⟩
  · have hE' : (Mg.mE B M T != 0) = true := by simpa using e1
    obtain ⟨n2, n3⟩ := Mg.m_empty e1
    rw [n2, n3]
    simp only [List.length_nil]
    generalize Mg.mE B M T = E1 at *
    clear n2 n3
    go_wp2_with fail
    go_ret
    exact ⟨rfl, hb02⟩
end Go.Proofs.YthfdmdjmbbollaaGreatDoor
