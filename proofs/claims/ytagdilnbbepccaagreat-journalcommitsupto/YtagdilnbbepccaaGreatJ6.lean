/- What slices.Clip at commits answers, and what (*keeper).forget does. -/
import Derived.Test.YtagdilnbbepccaaGreatJ5b
import Derived.Deep.DeepCutAuto
import Derived.Deep.RegionWith
set_option linter.unusedSimpArgs false
set_option linter.unusedVariables false
namespace Go.Proofs.YtagdilnbbepccaaGreat
open Go.RowKit

theorem CoAt.ne {W : World} {b o g : Nat} {c : Co} (h : CoAt W b o c) (hn : NoStr W g) : b ≠ g := fun hb => hn (o + 1) c.ke (hb ▸ h.2.1)
theorem LiesO.nb {W W' : World} {v : Value} {L : List Co} {g : Nat} (h : LiesO W v L) (hw : W.grownBy W' (some g)) (hn : NoStr W g) : LiesO W' v L := by
  obtain ⟨a, cap, hv, h1, h2, h3⟩ := h
  refine ⟨a, cap, hv, h1, h2, fun i hi => ?_⟩
  obtain ⟨b, o, ha, hb, he⟩ := h3 i hi
  have c := cell_nb hw hb (he.ne hn)
  obtain ⟨e0, e1, u, e2, hu⟩ := he
  exact ⟨b, o, ha, Nat.lt_of_lt_of_le hb hw.size, (c _).trans e0, (c _).trans e1, u, (c _).trans e2, hu.nb hw hn⟩

theorem liesO_tail {w : World} {g o n cap : Nat} {c : Co} {cs : List Co} (h : LiesO w (.slice (some ⟨g, o, none⟩) n cap) (c :: cs)) : LiesO w (.slice (some ⟨g, o + 3, none⟩) cs.length (cap - 1)) cs := by
  obtain ⟨a, cap', hv, h1, h2, h3⟩ := h
  injection hv with e1 e2 e3
  subst e1; subst e3
  simp only [List.length_cons] at h1 h2
  refine ⟨_, _, rfl, by omega, by omega, fun i hi => ?_⟩
  obtain ⟨b, o', hb, hl, he⟩ := h3 (i + 1) (by simpa using hi)
  injection hb with hb
  injection hb with e4 e5
  subst e4; subst e5
  refine ⟨g, o + 3, rfl, hl, ?_⟩
  rw [show o + 3 + i * 3 = o + (i + 1) * 3 by omega]
  simpa using he

set_option maxHeartbeats 400000 in
theorem clip_any (a : Option Addr) (n cap : Nat) (w : World) (hn : n ≤ cap) :
    Calls Tryz.prog 51 #[.slice a n cap] w fun e w' => e = .returned (.slice a n n) ∧ w' = w := by
  have h1 : (n : Int) ≤ cap := by omega
  go_enter Tryz.func51, Tryz.ntmps51
  go_wp2_with fail
  go_ret
  exact ⟨rfl, rfl⟩

set_option maxRecDepth 100000 in
set_option maxHeartbeats 4000000 in
theorem forget_any (base : List En) (fi : Int) (c : Co) (cs : List Co) (b : Nat) (vb va vt vm : Value) (B : Nat) (w : World) (hk : Cs w b [vb, .int .i64 fi, va, vt, vm]) (hno : ∀ s, Value.string s ∉ [vb, .int .i64 fi, va, vt, vm]) (hvb : Lies w vb base) (hva : LiesO w va (c :: cs)) (h1 : 1 ≤ cs.length) (hs : Sized base) (hcs : SizedC 150000000000000 c.ch) (hfi : 1 ≤ fi) (hfi2 : fi ≤ 1000000) (h0 : Pp.allE base c.ch fi = 0) (hB : B ≤ b) :
    Calls Tryz.prog 52 #[.pointer (some ⟨b, 0, none⟩)] w fun e w' => e = .returned (.tuple #[]) ∧ Below B w w' ∧ ∃ vb' va', Cs w' b [vb', .int .i64 (fi + 1), va', vt, vm] ∧ Lies w' vb' (Pp.allR base c.ch fi) ∧ LiesO w' va' cs := by
  have HK := hid hk
  have HVB := hid hvb
  have HVA := hid hva
  have HS := hid hs
  have HCS := hid hcs
  have H0 := hid h0
  have hbl := hk.lt
  have k0 := hk.cell 0 rfl
  have k1 := hk.cell 1 rfl
  have k2 := hk.cell 2 rfl
  have f0 := hk.fr 0
  have HNO := hid hno
  obtain ⟨ba, bcap, rfl, _⟩ := hvb
  obtain ⟨aa, acap, rfl, hacap, hacap2, hat⟩ := hva
  obtain ⟨g, o, rfl, hg, c0, c1, u, c2, hu⟩ := hat 0 (by simp)
  have HU := hid hu
  obtain ⟨ua, ucap, rfl, _⟩ := hu
  simp only [Nat.zero_mul, Nat.add_zero, List.getElem_cons_zero, List.length_cons] at c0 c1 c2 hacap hacap2 k2 ⊢
  have hlen : (0 : Int) < ((cs.length + 1 : Nat) : Int) := by omega
  clear hk hs hcs h0 hat hno
  go_enter Tryz.func52, Tryz.ntmps52
  go_upto_region 0 with fail
  go_cut [0] (fun x wx => x = .pointer (some ⟨b, 0, none⟩) ∧ ∃ vb', Hid (Cs wx b [vb', .int .i64 fi, .slice (some ⟨g, o, none⟩) (cs.length + 1) acap, vt, vm]) ∧ Hid (Lies wx vb' (Pp.allR base c.ch fi)) ∧ Hid (LiesO wx (.slice (some ⟨g, o, none⟩) (cs.length + 1) acap) (c :: cs)) ∧ Below B w wx)
  case first =>
    go_region_with (go_at_call 40; refine (tall_any base _ c.ch _ fi _ (HVB.out.below (Below.refl _ _).drew) HS.out (HU.out.below (Below.refl _ _).drew) HCS.out).mono ?_; rintro e wa ⟨r, rfl, hli, hba⟩; rw [H0.out]; have hwa : Below w.heap.size w wa := ((Below.refl _ _).drew).trans hba; have d0 := (hwa.cell (p := ⟨b, 0, none⟩) hbl).trans k0; have e0 := (hwa.frozen (p := ⟨b, 0, none⟩) hbl).trans f0; have HLI := hid hli; obtain ⟨ra, rcap, rfl, _⟩ := hli)
    all_goals
      have HKA := HK.out.below hwa
      have HN := HKA.noStr HNO.out
      go_wp2_with fail
      go_meet
      case rel => exact ⟨rfl, _, HKA.set 0 _, HLI.out.nb (nb_set _ _ _ _) HN, (HVA.out.below hwa).nb (nb_set _ _ _ _) HN, (hwa.mono (by omega)).setCell (p := ⟨b, 0, none⟩) hB _⟩
  case rest =>
    obtain ⟨rfl, vb', HC, HL, HO, hbx⟩ := hcut
    have hl := HC.out.lt
    have HL2 := hid HL.out
    obtain ⟨xa, xcap, rfl, _⟩ := HL.out
    have m0 := HC.out.cell 0 rfl
    have m1 := HC.out.cell 1 rfl
    have m2 := HC.out.cell 2 rfl
    have n1 := HC.out.fr 1
    have n2 := HC.out.fr 2
    have hw1 : IntKind.i64.wrap (fi + 1) = fi + 1 := by rw [IntKind.wrap_i64]; omega
    have hcap1 : ¬ acap = 1 := by omega
    have hcap3 : (1 : Int) ≤ acap := by omega
    have hcap4 : (1 : Int) ≤ ((cs.length + 1 : Nat) : Int) := by omega
    have HN0 : Hid (∀ s, Value.string s ∉ [.slice xa (Pp.allR base c.ch fi).length xcap, .int .i64 fi, .slice (some ⟨g, o, none⟩) (cs.length + 1) acap, vt, vm]) := (fun s hs => by
      simp only [List.mem_cons, List.not_mem_nil, or_false] at hs
      rcases hs with h | h | h | h | h
      · cases h
      · cases h
      · cases h
      · exact HNO.out s (by simp [h])
      · exact HNO.out s (by simp [h]) : ∀ s, Value.string s ∉ [.slice xa (Pp.allR base c.ch fi).length xcap, .int .i64 fi, .slice (some ⟨g, o, none⟩) (cs.length + 1) acap, vt, vm])
    have HC1 : Hid (Cs (wc.setCell ⟨b, 1, none⟩ (.int .i64 (fi + 1))) b [.slice xa (Pp.allR base c.ch fi).length xcap, .int .i64 (fi + 1), .slice (some ⟨g, o, none⟩) (cs.length + 1) acap, vt, vm]) := HC.out.set 1 _
    have HN1 : Hid (∀ s, Value.string s ∉ [.slice xa (Pp.allR base c.ch fi).length xcap, .int .i64 (fi + 1), .slice (some ⟨g, o, none⟩) (cs.length + 1) acap, vt, vm]) := (fun s hs => HN0.out s (by
      simp only [List.mem_cons, List.not_mem_nil, or_false] at hs ⊢
      rcases hs with h | h | h | h | h
      · exact Or.inl h
      · cases h
      · exact Or.inr (Or.inr (Or.inl h))
      · exact Or.inr (Or.inr (Or.inr (Or.inl h)))
      · exact Or.inr (Or.inr (Or.inr (Or.inr h)))) : ∀ s, Value.string s ∉ [.slice xa (Pp.allR base c.ch fi).length xcap, .int .i64 (fi + 1), .slice (some ⟨g, o, none⟩) (cs.length + 1) acap, vt, vm])
    have HT := hid (liesO_tail HO.out)
    clear m0
    go_wp2_with fail
    go_end0
    refine ⟨rfl, (hbx.setCell (p := ⟨b, 1, none⟩) hB _).setCell (p := ⟨b, 2, none⟩) hB _, _, _, HC1.out.set 2 _, (HL2.out.nb (nb_set _ _ _ _) (HC.out.noStr HN0.out)).nb (nb_set _ _ _ _) (HC1.out.noStr HN1.out), (HT.out.nb (nb_set _ _ _ _) (HC.out.noStr HN0.out)).nb (nb_set _ _ _ _) (HC1.out.noStr HN1.out)⟩
end Go.Proofs.YtagdilnbbepccaaGreat
