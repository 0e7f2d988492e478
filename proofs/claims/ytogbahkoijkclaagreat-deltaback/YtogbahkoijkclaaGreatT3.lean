/- What tree.checkFolder, checkParents, rises and Check answer, for every tree. -/
import Derived.Test.YtogbahkoijkclaaGreatT2
set_option linter.unusedSimpArgs false
set_option linter.unusedVariables false
namespace Go.Proofs.YtogbahkoijkclaaGreat
open Go.RowKit

set_option maxHeartbeats 800000 in
theorem checkFolder_any (L : List En) (v : Value) (q : ByteArray) (w : World) (hv : Lies w v L) (hs : ∀ e ∈ L, e.path.size ≤ 1000000000000000) :
    Calls Tryz.prog 27 #[v, .string q] w fun e w' => e = .returned (.int .i64 (Pp.foldE L q.data.toList)) ∧ Below w.heap.size w w' := by
  have HV : Hid (Lies w v L) := hv
  have HS : Hid (∀ e ∈ L, e.path.size ≤ 1000000000000000) := hs
  clear hv hs
  cases hc : q.toList.isEmpty with
  | true =>
    have HE : Hid (0 = Pp.foldE L q.data.toList) := (by rw [Pp.foldE, if_pos ((Pp.empty_iff q).1 hc)] : 0 = Pp.foldE L q.data.toList)
    go_enter Tryz.func27, Tryz.ntmps27
    go_wp2
    go_ret
    exact ⟨Pp.ret_int HE.out, Below.refl _ _⟩
  | false =>
    have hne := Pp.not_empty hc
    cases hf : L.find? (Pp.atB q.data.toList) with
    | none =>
      have HF : Hid (L.find? (Pp.atB q.data.toList) = none) := hf
      have HE : Hid (5 = Pp.foldE L q.data.toList) := (by rw [Pp.foldE, if_neg hne, hf] : 5 = Pp.foldE L q.data.toList)
      clear hf hne
      go_enter Tryz.func27, Tryz.ntmps27
      go_wp2_with fail
      refine (at_any q _).mono ?_
      rintro e w1 ⟨rfl, ht, hb1⟩
      have HT : Hid (Tells w1 53 #[.pointer (some ⟨w.heap.size, 0, none⟩)] (Pp.atB q.data.toList)) := ht
      clear ht
      go_wp2_with fail
      refine (first_any L v _ _ _ _ (HV.out.below hb1) HT.out HS.out).mono ?_
      rintro e w2 ⟨rfl, hb2⟩
      rw [HF.out, fnd]
      go_wp2_with fail
      go_ret
      exact ⟨Pp.ret_int HE.out, (below_trans hb1 hb2).alloc (Nat.le_trans hb1.size hb2.size) _⟩
    | some x =>
      have HF : Hid (L.find? (Pp.atB q.data.toList) = some x) := hf
      have hE : Pp.foldE L q.data.toList = if x.folder = true then 0 else 4 := by rw [Pp.foldE, if_neg hne, hf]
      clear hf hne
      cases hx : x.folder with
      | true =>
        have HE : Hid (0 = Pp.foldE L q.data.toList) := (by rw [hE, hx]; rfl : 0 = Pp.foldE L q.data.toList)
        clear hE
        go_enter Tryz.func27, Tryz.ntmps27
        go_wp2_with fail
        refine (at_any q _).mono ?_
        rintro e w1 ⟨rfl, ht, hb1⟩
        have HT : Hid (Tells w1 53 #[.pointer (some ⟨w.heap.size, 0, none⟩)] (Pp.atB q.data.toList)) := ht
        clear ht
        go_wp2_with fail
        refine (first_any L v _ _ _ _ (HV.out.below hb1) HT.out HS.out).mono ?_
        rintro e w2 ⟨rfl, hb2⟩
        rw [HF.out, fnd]
        go_wp2_with fail
        go_ret
        exact ⟨Pp.ret_int HE.out, (below_trans hb1 hb2).alloc (Nat.le_trans hb1.size hb2.size) _⟩
      | false =>
        have HE : Hid (4 = Pp.foldE L q.data.toList) := (by rw [hE, hx]; rfl : 4 = Pp.foldE L q.data.toList)
        clear hE
        go_enter Tryz.func27, Tryz.ntmps27
        go_wp2_with fail
        refine (at_any q _).mono ?_
        rintro e w1 ⟨rfl, ht, hb1⟩
        have HT : Hid (Tells w1 53 #[.pointer (some ⟨w.heap.size, 0, none⟩)] (Pp.atB q.data.toList)) := ht
        clear ht
        go_wp2_with fail
        refine (first_any L v _ _ _ _ (HV.out.below hb1) HT.out HS.out).mono ?_
        rintro e w2 ⟨rfl, hb2⟩
        rw [HF.out, fnd]
        go_wp2_with fail
        go_ret
        exact ⟨Pp.ret_int HE.out, (below_trans hb1 hb2).alloc (Nat.le_trans hb1.size hb2.size) _⟩

namespace Pp
/-- Behind k entries: none had no parent; told is 4 just where one's parent is no folder. -/
def parsTo (L : List En) (k : Nat) (told : Int) : Prop := (L.take k).any (fun e => parF L e == 5) = false ∧ told = if (L.take k).any (fun e => parF L e == 4) = true then 4 else 0
theorem parsTo_zero (L : List En) : parsTo L 0 0 := ⟨by simp, by simp⟩
theorem parsTo_step {L : List En} {k : Nat} {t : Int} (hlt : k < L.length) (h : parsTo L k t) (h5 : parF L L[k] ≠ 5) : parsTo L (k + 1) (if parF L L[k] = 4 then 4 else t) := by
  refine ⟨?_, ?_⟩
  · rw [List.take_succ_eq_append_getElem hlt, List.any_append, h.1]; simpa using h5
  · rw [List.take_succ_eq_append_getElem hlt, List.any_append, h.2]
    by_cases e : parF L L[k] = 4
    · simp [e]
    · simp [e]
theorem parsTo_hit {L : List En} {k : Nat} (hlt : k < L.length) (h5 : parF L L[k] = 5) : 5 = parsE L L := by
  rw [parsE, if_pos]
  rw [List.any_eq_true]
  exact ⟨L[k], List.getElem_mem hlt, by simpa using h5⟩
theorem parsTo_end {L : List En} {k : Nat} {t : Int} (hk : L.length ≤ k) (h : parsTo L k t) : t = parsE L L := by
  obtain ⟨h1, h2⟩ := h
  rw [List.take_of_length_le hk] at h1 h2
  rw [parsE, if_neg (by rw [h1]; decide), h2]
theorem told_range {L : List En} {k : Nat} {t : Int} (h : parsTo L k t) : t = 0 ∨ t = 4 := by
  rw [h.2]; split <;> simp
end Pp

set_option maxHeartbeats 1000000 in
theorem checkParents_any (L : List En) (v : Value) (w : World) (hv : Lies w v L) (hn : L.length ≤ 60) (hs : ∀ e ∈ L, e.path.size ≤ 1000000000000000) (hc : ∀ e ∈ L, Pp.chk e.path.data.toList = 0) :
    Calls Tryz.prog 17 #[v] w fun e w' => e = .returned (.int .i64 (Pp.parsE L L)) ∧ Below w.heap.size w w' := by
  have HV : Hid (Lies w v L) := hv
  have HS : Hid (∀ e ∈ L, e.path.size ≤ 1000000000000000) := hs
  have HC : Hid (∀ e ∈ L, Pp.chk e.path.data.toList = 0) := hc
  obtain ⟨a, cap, rfl, hcap, hcap2, hL⟩ := hv
  have HL : Hid (∀ i (h : i < L.length), ∃ b o, a = some ⟨b, o, none⟩ ∧ b < w.heap.size ∧ EnAt w b (o + i * 4) L[i]) := hL
  clear hL hs hc
  go_enter Tryz.func17, Tryz.ntmps17
  go_wp2_with fail
  go_loopw [3, 10] (fun t i wr => ∃ (k : Nat) (told : Int), k ≤ L.length ∧ i = .int .i64 k ∧ t = .int .i64 told ∧ Hid (Pp.parsTo L k told) ∧ Below w.heap.size w wr) (fun _ i _ => L.length - (intOf i).toNat)
  case atStart => exact ⟨0, 0, Nat.zero_le _, rfl, rfl, Pp.parsTo_zero L, Below.refl _ _⟩
  case round =>
    obtain ⟨k, told, hk, rfl, rfl, HP, hbel⟩ := hrel
    by_cases hlt : k < L.length
    · obtain ⟨b, o, rfl, hb, he⟩ := HL.out k hlt
      obtain ⟨c0, c1, c2, c3⟩ := he.below hb hbel
      have hsz := HS.out L[k] (List.getElem_mem hlt)
      have HZ : Hid (Pp.chk (L[k]).path.data.toList = 0) := HC.out L[k] (List.getElem_mem hlt)
      have b1 := Pp.len_par (L[k]).path.data.toList
      rw [← Lib.size_eq] at b1
      go_wp2_with fail
      refine (parent_any (L[k]).path _ hsz).mono ?_
      rintro e w1 ⟨rfl, hb1⟩
      rw [HZ.out, Pp.ifc_yes rfl]
      obtain ⟨d0, d1, d2, d3, hb1w, hlt1⟩ := box4 hb1
      have hbel1 := below_trans hbel hb1w
      clear hb1 c0 c1 c2 c3 d0 d1 d2 d3
      go_wp2_with fail
      refine (checkFolder_any L _ ⟨(Pp.par (L[k]).path.data.toList).toArray⟩ _ (HV.out.below hbel1) HS.out).mono ?_
      rintro e w2 ⟨rfl, hb2⟩
      have hbel2 := below_trans hbel1 hb2
      clear hbel1 hb2 hb1w
      rw [show Pp.foldE L _ = Pp.parF L L[k] from rfl]
      by_cases h5 : Pp.parF L L[k] = 5
      · have H5 : Hid (Pp.parF L L[k] = 5) := h5
        clear h5
        rw [H5.out]
        go_wp2_with fail
        go_ret
        exact ⟨Pp.ret_int (Pp.parsTo_hit hlt H5.out), hbel2⟩
      · have H5 : Hid (Pp.parF L L[k] ≠ 5) := h5
        by_cases h4 : Pp.parF L L[k] = 4
        · have H4 : Hid (Pp.parF L L[k] = 4) := h4
          have HN : Hid (Pp.parsTo L (k + 1) 4) := (by have := Pp.parsTo_step hlt HP.out h5; rwa [if_pos h4] at this : Pp.parsTo L (k + 1) 4)
          clear h4 h5
          rw [H4.out]
          go_wp2_with fail
          go_roundw
          case rel => exact ⟨k + 1, 4, by omega, by simp, rfl, HN.out, hbel2⟩
          case measure => simp [intOf]; omega
        · have HN : Hid (Pp.parsTo L (k + 1) told) := (by have := Pp.parsTo_step hlt HP.out h5; rwa [if_neg h4] at this : Pp.parsTo L (k + 1) told)
          have H0 : Hid (Pp.parF L L[k] = 0) := (by rcases Pp.foldE_range L (Pp.par (L[k]).path.data.toList) with h | h | h; exact h; exact absurd h h4; exact absurd h h5 : Pp.parF L L[k] = 0)
          clear h4 h5
          rw [H0.out]
          go_wp2_with fail
          go_roundw
          case rel => exact ⟨k + 1, told, by omega, by simp, rfl, HN.out, hbel2⟩
          case measure => simp [intOf]; omega
    · go_wp2_with fail
      go_ret
      exact ⟨Pp.ret_int (Pp.parsTo_end (by omega) HP.out), hbel⟩
end Go.Proofs.YtogbahkoijkclaaGreat
