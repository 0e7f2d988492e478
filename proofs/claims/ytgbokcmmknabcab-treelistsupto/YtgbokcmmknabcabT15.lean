/- What tree.Size answers, for every tree. -/
import Derived.Test.YtgbokcmmknabcabT4
set_option linter.unusedSimpArgs false
set_option linter.unusedVariables false
namespace Go.Proofs.Ytgbokcmmknabcab
open Go.RowKit

namespace Pp
/-- How great all texts are together. -/
def sumT : List En → Nat
  | [] => 0
  | e :: r => e.text.size + sumT r
theorem sumT_take {L : List En} {k : Nat} (h : k < L.length) : sumT (L.take (k + 1)) = sumT (L.take k) + (L[k]).text.size := by
  have app : ∀ a b : List En, sumT (a ++ b) = sumT a + sumT b := by
    intro a b
    induction a with
    | nil => simp [sumT]
    | cons x r ih => simp only [List.cons_append, sumT, ih]; omega
  rw [List.take_succ_eq_append_getElem h, app]
  simp [sumT]
theorem sumT_le {L : List En} (h : ∀ e ∈ L, e.text.size ≤ 300) : ∀ k, sumT (L.take k) ≤ k * 300 := by
  intro k
  induction k with
  | zero => simp [sumT]
  | succ k ih =>
    by_cases hk : k < L.length
    · rw [sumT_take hk]
      have := h L[k] (List.getElem_mem hk)
      omega
    · have e1 : L.take (k + 1) = L := List.take_of_length_le (by omega)
      have e2 : L.take k = L := List.take_of_length_le (by omega)
      rw [e2] at ih
      rw [e1]
      exact Nat.le_trans ih (Nat.mul_le_mul_right _ (Nat.le_succ _))
theorem ent_text {e : En} (h : entE e = 0) : e.text.size ≤ 300 := by
  have hc := entE_path h
  rw [entE, if_pos hc] at h
  split at h
  · cases h
  · split at h
    · cases h
    · omega
theorem tree_ents {L : List En} (h : treeE L = 0) : ¬ 60 < L.length ∧ entsE L = 0 := by
  unfold treeE at h
  split at h
  · cases h
  · rename_i h60
    refine ⟨h60, ?_⟩
    by_cases he : entsE L = 0
    · exact he
    · rw [if_neg he] at h; exact h
theorem tree_texts {L : List En} (h : treeE L = 0) : ∀ e ∈ L, e.text.size ≤ 300 := fun e he => ent_text (entsE_all (tree_ents h).2 e he)
end Pp

set_option maxHeartbeats 1000000 in
theorem tsize_any (L : List En) (v : Value) (w : World) (hv : Lies w v L) (hn : L.length ≤ 1000000000) (hs : Sized L) :
    Calls Try.prog 14 #[v] w fun e w' => e = .returned (.tuple #[.int .i64 (if Pp.treeE L = 0 then (Pp.sumT L : Int) else 0), .int .i64 (Pp.treeE L)]) ∧ Below w.heap.size w w' := by
  have HV : Hid (Lies w v L) := hv
  have HS : Hid (Sized L) := hs
  obtain ⟨a, cap, rfl, hcap, hcap2, hL⟩ := hv
  have HL : Hid (∀ i (h : i < L.length), ∃ b o, a = some ⟨b, o, none⟩ ∧ b < w.heap.size ∧ EnAt w b (o + i * 4) L[i]) := hL
  clear hL hs
  by_cases ht : Pp.treeE L = 0
  · have HT : Hid (Pp.treeE L = 0) := ht
    have HX : Hid (∀ k, Pp.sumT (L.take k) ≤ k * 300) := Pp.sumT_le (Pp.tree_texts ht)
    have h60 : L.length ≤ 60 := Nat.le_of_not_lt (Pp.tree_ents ht).1
    rw [if_pos ht, ht]
    clear ht
    go_enter Try.func14, Try.ntmps14
    go_wp2_with fail
    refine (tcheck_any L _ _ HV.out hn HS.out).mono ?_
    rintro e w1 ⟨rfl, hb1⟩
    rw [HT.out]
    go_wp2_with fail
    go_loopw [5, 15] (fun t i wr => ∃ k : Nat, k ≤ L.length ∧ i = .int .i64 k ∧ t = .int .i64 (Pp.sumT (L.take k) : Int) ∧ Below w.heap.size w wr) (fun _ i _ => L.length - (intOf i).toNat)
    case atStart => exact ⟨0, Nat.zero_le _, rfl, by simp [Pp.sumT], hb1⟩
    case round =>
      clear hb1
      obtain ⟨k, hk, rfl, rfl, hbel⟩ := hrel
      have hsum := HX.out k
      by_cases hlt : k < L.length
      · obtain ⟨b, o, rfl, hb, he⟩ := HL.out k hlt
        obtain ⟨c0, c1, c2, c3⟩ := he.below hb hbel
        have hsum2 := HX.out (k + 1)
        have HST : Hid (Pp.sumT (L.take (k + 1)) = Pp.sumT (L.take k) + (L[k]).text.size) := Pp.sumT_take hlt
        rw [HST.out] at hsum2
        go_wp2_with fail
        go_roundw
        case rel => exact ⟨k + 1, by omega, by simp, by rw [HST.out]; first | (simp; done) | (go_num), hbel.alloc hbel.size _⟩
        case measure => simp [intOf]; omega
      · have HST : Hid (Pp.sumT (L.take k) = Pp.sumT L) := (by rw [List.take_of_length_le (by omega)] : Pp.sumT (L.take k) = Pp.sumT L)
        go_wp2_with fail
        go_ret2
        exact ⟨by rw [HST.out]; rfl, hbel⟩
  · have ht2 : (Pp.treeE L == 0) = false := by simpa using ht
    rw [if_neg ht]
    go_enter Try.func14, Try.ntmps14
    go_wp2_with fail
    refine (tcheck_any L _ _ HV.out hn HS.out).mono ?_
    rintro e w1 ⟨rfl, hb1⟩
    go_wp2_with fail
    go_ret2
    exact ⟨rfl, hb1⟩
end Go.Proofs.Ytgbokcmmknabcab
