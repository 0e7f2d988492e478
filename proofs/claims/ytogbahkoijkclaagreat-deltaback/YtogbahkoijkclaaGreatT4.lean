/- What tree.rises and Check answer, for every tree. -/
import Derived.Test.YtogbahkoijkclaaGreatT3
set_option linter.unusedSimpArgs false
set_option linter.unusedVariables false
namespace Go.Proofs.YtogbahkoijkclaaGreat
open Go.RowKit

namespace Pp
theorem rises_iff : ∀ (L : List En), risesB L = true ↔ ∀ i (h : i + 1 < L.length), lt L[i] L[i + 1] = true
  | [] => by simp [risesB]
  | [_] => by simp [risesB]
  | a :: b :: r => by
    rw [risesB, Bool.and_eq_true, rises_iff (b :: r)]
    constructor
    · rintro ⟨h1, h2⟩ i hi
      cases i with
      | zero => exact h1
      | succ i => exact h2 i (by simpa using hi)
    · intro h
      exact ⟨h 0 (by simp), fun i hi => h (i + 1) (by simpa using hi)⟩
theorem rises_no {L : List En} {m : Nat} (h : m + 1 < L.length) (hl : lt L[m] L[m + 1] = false) : false = risesB L := by
  cases e : risesB L with
  | false => rfl
  | true => have := (rises_iff L).1 e m h; rw [hl] at this; cases this
theorem rises_yes {L : List En} (h : ∀ i (h : i + 1 < L.length), lt L[i] L[i + 1] = true) : true = risesB L := ((rises_iff L).2 h).symm
end Pp

set_option maxHeartbeats 800000 in
theorem rises_any (L : List En) (v : Value) (w : World) (hv : Lies w v L) (hn : L.length ≤ 1000000000) :
    Calls Tryz.prog 16 #[v] w fun e w' => e = .returned (.bool (Pp.risesB L)) ∧ Below w.heap.size w w' := by
  obtain ⟨a, cap, rfl, hcap, hcap2, hL⟩ := hv
  have HL : Hid (∀ i (h : i < L.length), ∃ b o, a = some ⟨b, o, none⟩ ∧ b < w.heap.size ∧ EnAt w b (o + i * 4) L[i]) := hL
  clear hL
  go_enter Tryz.func16, Tryz.ntmps16
  go_wp2_with fail
  go_loopw [3] (fun i wr => ∃ m : Nat, m ≤ L.length ∧ i = .int .i64 ((m : Int) + 1) ∧ Hid (∀ i (h : i + 1 < L.length), i < m → Pp.lt L[i] L[i + 1] = true) ∧ Below w.heap.size w wr) (fun i _ => L.length + 2 - (intOf i).toNat)
  case atStart => exact ⟨0, Nat.zero_le _, rfl, (fun i _ h => absurd h (Nat.not_lt_zero _) : ∀ i (h : i + 1 < L.length), i < 0 → Pp.lt L[i] L[i + 1] = true), Below.refl _ _⟩
  case round =>
    obtain ⟨m, hm, rfl, HP, hbel⟩ := hrel
    by_cases hlt : m + 1 < L.length
    · obtain ⟨b, o, rfl, hb, he⟩ := HL.out m (by omega)
      obtain ⟨c0, c1, c2, c3⟩ := he.below hb hbel
      obtain ⟨b', o', hbo, hb', he'⟩ := HL.out (m + 1) hlt
      obtain ⟨rfl, rfl⟩ : b = b' ∧ o = o' := by simpa using hbo
      obtain ⟨d0, d1, d2, d3⟩ := he'.below hb hbel
      have hlt2 : (m : Int) + 1 < L.length := by omega
      clear c1 c2 c3 d1 d2 d3 hbo
      cases hl : Pp.lt L[m] L[m + 1] with
      | true =>
        have hl2 : Op.bytesLess (L[m]).path.toList (L[m + 1]).path.toList = true := hl
        go_wp2_with fail
        go_region
        go_wp2
        go_roundw
        case rel => exact ⟨m + 1, by omega, by simp, (fun i h1 h2 => by
          by_cases e : i = m
          · subst e; exact hl
          · exact HP.out i h1 (by omega) : ∀ i (h : i + 1 < L.length), i < m + 1 → Pp.lt L[i] L[i + 1] = true), hbel.drew⟩
        case measure => simp [intOf]; omega
      | false =>
        have hl2 : Op.bytesLess (L[m]).path.toList (L[m + 1]).path.toList = false := hl
        go_wp2_with fail
        go_region
        go_wp2
        go_ret
        exact ⟨Pp.ret_bool (Pp.rises_no hlt hl), hbel.drew⟩
    · go_wp2_with fail
      go_ret
      exact ⟨Pp.ret_bool (Pp.rises_yes fun i h => HP.out i h (by omega)), hbel⟩

def Sized (L : List En) : Prop := ∀ e ∈ L, e.path.size ≤ 1000000000000000 ∧ e.text.size ≤ 1000000000000000

set_option maxHeartbeats 1000000 in
theorem tcheck_any (L : List En) (v : Value) (w : World) (hv : Lies w v L) (hn : L.length ≤ 1000000000) (hs : Sized L) :
    Calls Tryz.prog 9 #[v] w fun e w' => e = .returned (.int .i64 (Pp.treeE L)) ∧ Below w.heap.size w w' := by
  have HV : Hid (Lies w v L) := hv
  have HS : Hid (Sized L) := hs
  obtain ⟨a, cap, rfl, hcap, hcap2, hL⟩ := hv
  have HL : Hid (∀ i (h : i < L.length), ∃ b o, a = some ⟨b, o, none⟩ ∧ b < w.heap.size ∧ EnAt w b (o + i * 4) L[i]) := hL
  clear hL hs
  by_cases h60 : 60 < (L.length : Int)
  · have HE : Hid (2 = Pp.treeE L) := (by rw [Pp.treeE, if_pos (by omega)] : 2 = Pp.treeE L)
    go_enter Tryz.func9, Tryz.ntmps9
    go_wp2_with fail
    go_ret
    exact ⟨Pp.ret_int HE.out, Below.refl _ _⟩
  have HT : Hid (Pp.treeE L = if Pp.entsE L = 0 then (if Pp.risesB L = true then Pp.parsE L L else 4) else Pp.entsE L) := (by rw [Pp.treeE, if_neg (by omega)] : Pp.treeE L = if Pp.entsE L = 0 then (if Pp.risesB L = true then Pp.parsE L L else 4) else Pp.entsE L)
  go_enter Tryz.func9, Tryz.ntmps9
  go_wp2_with fail
  go_loopw [11] (fun i wr => ∃ k : Nat, k ≤ L.length ∧ i = .int .i64 k ∧ Hid (Pp.entsE L = Pp.entsE (L.drop k)) ∧ Below w.heap.size w wr) (fun i _ => L.length - (intOf i).toNat)
  case atStart => exact ⟨0, Nat.zero_le _, rfl, (rfl : Pp.entsE L = Pp.entsE (L.drop 0)), Below.refl _ _⟩
  case round =>
    obtain ⟨k, hk, rfl, HQ, hbel⟩ := hrel
    by_cases hlt : k < L.length
    · obtain ⟨b, o, rfl, hb, he⟩ := HL.out k hlt
      obtain ⟨c0, c1, c2, c3⟩ := he.below hb hbel
      have HD : Hid (L.drop k = L[k] :: L.drop (k + 1)) := List.drop_eq_getElem_cons hlt
      have hsz := HS.out L[k] (List.getElem_mem hlt)
      by_cases hz : Pp.entE L[k] = 0
      · have HZ : Hid (Pp.entE L[k] = 0) := hz
        clear hz
        go_wp2_with fail
        refine (checkEntry_any (L[k]).path (L[k]).folder (L[k]).text (L[k]).ver _ hsz.1 hsz.2).mono ?_
        rintro e w1 ⟨rfl, hb1⟩
        rw [show Pp.entE _ = 0 from HZ.out]
        obtain ⟨d0, d1, d2, d3, hb1w, hlt1⟩ := box4 hb1
        have hbel1 := below_trans hbel hb1w
        clear hb1 c0 c1 c2 c3 d0 d1 d2 d3
        go_wp2_with fail
        go_roundw
        case rel => exact ⟨k + 1, by omega, by simp, (by rw [HQ.out, HD.out, Pp.entsE, if_pos HZ.out] : Pp.entsE L = Pp.entsE (L.drop (k + 1))), hbel1⟩
        case measure => simp [intOf]; omega
      · have HZ : Hid (¬ Pp.entE L[k] = 0) := hz
        have hz2 : (Pp.entE L[k] == 0) = false := by simpa using hz
        have HE : Hid (Pp.entE L[k] = Pp.treeE L) := (by
          have e1 : Pp.entsE L = Pp.entE L[k] := by rw [HQ.out, HD.out, Pp.entsE, if_neg hz]
          rw [HT.out, if_neg (by rw [e1]; exact hz), e1] : Pp.entE L[k] = Pp.treeE L)
        go_wp2_with fail
        refine (checkEntry_any (L[k]).path (L[k]).folder (L[k]).text (L[k]).ver _ hsz.1 hsz.2).mono ?_
        rintro e w1 ⟨rfl, hb1⟩
        rw [show Pp.entE _ = Pp.entE L[k] from rfl]
        obtain ⟨d0, d1, d2, d3, hb1w, hlt1⟩ := box4 hb1
        have hbel1 := below_trans hbel hb1w
        clear hb1 c0 c1 c2 c3 d0 d1 d2 d3
        go_wp2_with fail
        go_ret
        exact ⟨Pp.ret_int HE.out, hbel1⟩
    · have h0 : Pp.entsE L = 0 := by rw [HQ.out, List.drop_of_length_le (by omega)]; rfl
      have hT2 : Pp.treeE L = if Pp.risesB L = true then Pp.parsE L L else 4 := by rw [HT.out, if_pos h0]
      have HC : Hid (∀ e ∈ L, Pp.chk e.path.data.toList = 0) := (fun e he => Pp.entE_path (Pp.entsE_all h0 e he) : ∀ e ∈ L, Pp.chk e.path.data.toList = 0)
      clear h0
      cases hr : Pp.risesB L with
      | true =>
        have HR : Hid (Pp.risesB L = true) := hr
        have HE : Hid (Pp.parsE L L = Pp.treeE L) := (by rw [hT2, if_pos hr] : Pp.parsE L L = Pp.treeE L)
        clear hr hT2
        go_wp2_with fail
        refine (rises_any L _ _ (HV.out.below hbel) hn).mono ?_
        rintro e w1 ⟨rfl, hb1⟩
        rw [HR.out]
        have hbel1 := below_trans hbel hb1
        clear hbel hb1
        go_wp2_with fail
        refine (checkParents_any L _ _ (HV.out.below hbel1) (by omega) (fun e he => (HS.out e he).1) HC.out).mono ?_
        rintro e w2 ⟨rfl, hb2⟩
        go_wp2_with fail
        go_ret
        exact ⟨Pp.ret_int HE.out, below_trans hbel1 hb2⟩
      | false =>
        have HR : Hid (Pp.risesB L = false) := hr
        have HE : Hid (4 = Pp.treeE L) := (by rw [hT2, if_neg (by rw [hr]; decide)] : 4 = Pp.treeE L)
        clear hr hT2
        go_wp2_with fail
        refine (rises_any L _ _ (HV.out.below hbel) hn).mono ?_
        rintro e w1 ⟨rfl, hb1⟩
        rw [HR.out]
        go_wp2_with fail
        go_ret
        exact ⟨Pp.ret_int HE.out, below_trans hbel hb1⟩
end Go.Proofs.YtogbahkoijkclaaGreat
