/- What the document's own IsIn answers, for every two texts. -/
import Derived.Test.YtogbahkoijkclaaW10
set_option linter.unusedSimpArgs false
set_option linter.unusedVariables false
namespace Go.Proofs.Ytogbahkoijkclaa
open Go.RowKit

namespace Pp
theorem pre_short {A B : List (List UInt8)} (h : A.length < B.length) : false = B.isPrefixOf A := by
  symm
  cases e : B.isPrefixOf A with
  | false => rfl
  | true => have := (List.isPrefixOf_iff_prefix.1 e).length_le; omega
theorem pre_no {A B : List (List UInt8)} {k : Nat} (hA : k < A.length) (hB : k < B.length) (h : ¬ A[k] = B[k]) : false = B.isPrefixOf A := by
  symm
  cases e : B.isPrefixOf A with
  | false => rfl
  | true =>
    obtain ⟨t, ht⟩ := List.isPrefixOf_iff_prefix.1 e
    subst ht
    exact absurd (by simp [List.getElem_append_left hB]) h
theorem pre_yes {A B : List (List UInt8)} (h : A.take B.length = B) : true = B.isPrefixOf A := by
  symm
  rw [List.isPrefixOf_iff_prefix]
  have := List.take_prefix B.length A
  rwa [h] at this
end Pp

set_option maxHeartbeats 800000 in
theorem isIn_any (s t : ByteArray) (w : World) (hs : s.size ≤ 1000000000) (ht : t.size ≤ 1000000000) :
    Calls Try.prog 32 #[.string s, .string t] w fun e w' => e = .returned (.bool (Pp.isInB s.data.toList t.data.toList)) ∧ Below w.heap.size w w' := by
  have hn1 : (Pp.nm s.data.toList).length ≤ s.size + 1 := by have := Pp.nm_len_le s.data.toList; rwa [← Lib.size_eq] at this
  have hn2 : (Pp.nm t.data.toList).length ≤ t.size + 1 := by have := Pp.nm_len_le t.data.toList; rwa [← Lib.size_eq] at this
  obtain ⟨A, hA⟩ : ∃ L, L = Pp.nm s.data.toList := ⟨_, rfl⟩
  obtain ⟨B, hB⟩ : ∃ L, L = Pp.nm t.data.toList := ⟨_, rfl⟩
  have HA : Hid (A = Pp.nm s.data.toList) := hA
  have HB : Hid (B = Pp.nm t.data.toList) := hB
  have HI : Hid (Pp.isInB s.data.toList t.data.toList = B.isPrefixOf A) := (by rw [Pp.isInB, hA, hB] : Pp.isInB s.data.toList t.data.toList = B.isPrefixOf A)
  rw [← hA] at hn1
  rw [← hB] at hn2
  clear hA hB
  go_enter Try.func32, Try.ntmps32
  go_wp2_with fail
  refine (rNames_at s _ hs).mono ?_
  rintro e w1 ⟨g1, c1, rfl, hc1, hc1', hg1, hg1', hcell1, hb1⟩
  rw [← HA.out] at hc1 hcell1 ⊢
  go_wp2_with fail
  refine (rNames_at t _ ht).mono ?_
  rintro e w2 ⟨g2, c2, rfl, hc2, hc2', hg2, hg2', hcell2, hb2⟩
  rw [← HB.out] at hc2 hcell2 ⊢
  have HC1 : Hid (∀ i (h : i < A.length), w2.cell? ⟨g1, i, none⟩ = some (.string ⟨(A[i]).toArray⟩)) := (fun i h => (hb2.cell (p := ⟨g1, i, none⟩) hg1').trans (hcell1 i h) : ∀ i (h : i < A.length), w2.cell? ⟨g1, i, none⟩ = some (.string ⟨(A[i]).toArray⟩))
  have HC2 : Hid (∀ i (h : i < B.length), w2.cell? ⟨g2, i, none⟩ = some (.string ⟨(B[i]).toArray⟩)) := hcell2
  have hb : Below w.heap.size w w2 := below_trans hb1 hb2
  clear hcell1 hcell2 hb1 hb2
  by_cases hlen : A.length < B.length
  · have hl2 : (A.length : Int) < B.length := by omega
    go_wp2
    go_ret
    exact ⟨Pp.ret_bool (by rw [HI.out]; exact Pp.pre_short hlen), hb⟩
  · have hl2 : (B.length : Int) ≤ A.length := by omega
    go_wp2_with fail
    go_loopw [7] (fun i wr => ∃ k : Nat, k ≤ B.length ∧ i = .int .i64 k ∧ Hid (A.take k = B.take k) ∧ Below w2.heap.size w2 wr) (fun i _ => B.length - (intOf i).toNat)
    case atStart => exact ⟨0, Nat.zero_le _, rfl, rfl, Below.refl _ _⟩
    case round =>
      obtain ⟨k, hk, rfl, HE, hbel⟩ := hrel
      by_cases hlt : k < B.length
      · have hltA : k < A.length := by omega
        have hce1 : wr.cell? ⟨g1, k, none⟩ = some (.string ⟨(A[k]).toArray⟩) := (hbel.cell (p := ⟨g1, k, none⟩) (show g1 < w2.heap.size by omega)).trans (HC1.out k hltA)
        have hce2 : wr.cell? ⟨g2, k, none⟩ = some (.string ⟨(B[k]).toArray⟩) := (hbel.cell (p := ⟨g2, k, none⟩) hg2').trans (HC2.out k hlt)
        cases heq : (A[k] == B[k]) with
        | true =>
          have HQ : Hid (A[k] = B[k]) := (by simpa using heq : A[k] = B[k])
          go_wp2_with fail
          go_region
          go_wp2
          go_roundw
          case rel => exact ⟨k + 1, by omega, by simp, (by rw [List.take_succ_eq_append_getElem hltA, List.take_succ_eq_append_getElem hlt, HE.out, HQ.out] : A.take (k + 1) = B.take (k + 1)), hbel.drew⟩
          case measure => simp [intOf]; omega
        | false =>
          have HQ : Hid (¬ A[k] = B[k]) := (by simpa using heq : ¬ A[k] = B[k])
          go_wp2_with fail
          go_region
          go_wp2
          go_ret
          exact ⟨Pp.ret_bool (by rw [HI.out]; exact Pp.pre_no hltA hlt HQ.out), (below_trans hb hbel).drew⟩
      · go_wp2_with fail
        go_ret
        exact ⟨Pp.ret_bool (by rw [HI.out]; obtain rfl : k = B.length := (by omega); exact Pp.pre_yes (by have := HE.out; rwa [List.take_length] at this)), below_trans hb hbel⟩

end Go.Proofs.Ytogbahkoijkclaa
