/- What the document's own PathOf, ParentOf and LastOf answer. -/
import Derived.Test.YtogbahkoijkclaaW9
import Derived.Test.YtogbahkoijkclaaPure3
set_option linter.unusedSimpArgs false
set_option linter.unusedVariables false
namespace Go.Proofs.Ytogbahkoijkclaa
open Go.RowKit


set_option maxHeartbeats 400000 in
theorem pathOf_any (L : List (List UInt8)) (g o cap : Nat) (w : World) (hL : (Pp.join L).length ≤ 1000000000) (hn : L.length ≤ 1000000000) (hcell : ∀ i (h : i < L.length), w.cell? ⟨g, o + i, none⟩ = some (.string ⟨(L[i]).toArray⟩)) :
    Calls Try.prog 34 #[.slice (some ⟨g, o, none⟩) L.length cap] w fun e w' => e = .returned (.string ⟨(Pp.join L).toArray⟩) ∧ w' = w := by
  have HC : Hid (∀ i (h : i < L.length), w.cell? ⟨g, o + i, none⟩ = some (.string ⟨(L[i]).toArray⟩)) := hcell
  clear hcell
  go_enter Try.func34, Try.ntmps34
  go_wp2_with fail
  go_loop [3, 4] (fun s i => ∃ k : Nat, k ≤ L.length ∧ i = .int .i64 k ∧ s = .string ⟨(Pp.join (L.take k)).toArray⟩) (fun _ i => L.length - (intOf i).toNat)
  case atStart => exact ⟨0, Nat.zero_le _, rfl, rfl⟩
  case round =>
    obtain ⟨k, hk, rfl, rfl⟩ := hrel
    by_cases hlt : k < L.length
    · have hce := HC.out k hlt
      have b1 := Pp.join_take_le L k
      have b2 := Pp.join_take_le L (k + 1)
      have b3 := Pp.mem_join_len L k hlt
      by_cases hk0 : 0 < k
      · have HJ : Hid ((⟨(Pp.join (L.take k)).toArray⟩ : ByteArray) ++ ⟨#[47]⟩ ++ ⟨(L[k]).toArray⟩ = ⟨(Pp.join (L.take (k + 1))).toArray⟩) := Pp.join_step L k hlt hk0
        have hk1 : 0 < (k : Int) := by omega
        go_wp2
        go_round
        case rel => exact ⟨k + 1, by omega, by go_num, by rw [← HJ.out]⟩
        case measure => simp [intOf]; omega
      · obtain rfl : k = 0 := by omega
        have HJ : Hid ((⟨#[]⟩ : ByteArray) ++ ⟨(L[0]).toArray⟩ = ⟨(Pp.join (L.take 1)).toArray⟩) := Pp.join_first L hlt
        have hce0 : w.cell? ⟨g, o, none⟩ = some (.string ⟨(L[0]).toArray⟩) := hce
        have b4 : (Pp.join []).length = 0 := rfl
        clear hce
        go_wp2
        go_round
        case rel => exact ⟨0 + 1, by omega, by go_num, by rw [← HJ.out]; rfl⟩
        case measure => simp [intOf]; omega
    · go_wp2
      go_ret
      exact ⟨by rw [List.take_of_length_le (by omega)]; rfl, rfl⟩

set_option maxHeartbeats 400000 in
theorem parentOf_any (s : ByteArray) (w : World) (hs : s.size ≤ 1000000000) :
    Calls Try.prog 22 #[.string s] w fun e w' => e = .returned (.string ⟨(Pp.par s.data.toList).toArray⟩) ∧ Below w.heap.size w w' := by
  have hn : (Pp.nm s.data.toList).length ≤ s.size + 1 := by have := Pp.nm_len_le s.data.toList; rwa [← Lib.size_eq] at this
  have hp := Pp.len_par s.data.toList
  rw [← Lib.size_eq] at hp
  have h1 : 1 ≤ (Pp.nm s.data.toList).length := Nat.pos_of_ne_zero (fun e => Pp.nm_ne _ (List.length_eq_zero_iff.1 e))
  have HP : Hid (Pp.join (Pp.nm s.data.toList).dropLast = Pp.par s.data.toList) := rfl
  have HD : Hid (∀ i (h : i < (Pp.nm s.data.toList).dropLast.length) (h2 : i < (Pp.nm s.data.toList).length), (Pp.nm s.data.toList).dropLast[i] = (Pp.nm s.data.toList)[i]) := (fun i h h2 => List.getElem_dropLast h : ∀ i (h : i < (Pp.nm s.data.toList).dropLast.length) (h2 : i < (Pp.nm s.data.toList).length), (Pp.nm s.data.toList).dropLast[i] = (Pp.nm s.data.toList)[i])
  have HL : Hid ((Pp.nm s.data.toList).dropLast.length = (Pp.nm s.data.toList).length - 1) := List.length_dropLast
  go_enter Try.func22, Try.ntmps22
  go_wp2_with fail
  refine (rNames_at s _ hs).mono ?_
  rintro e w1 ⟨g, cap, rfl, hc1, hc2, hg1, hg2, hcell, hb⟩
  have HC : Hid (∀ i (h : i < (Pp.nm s.data.toList).length), w1.cell? ⟨g, i, none⟩ = some (.string ⟨((Pp.nm s.data.toList)[i]).toArray⟩)) := hcell
  clear hcell
  go_wp2_with fail
  rw [← HL.out]
  refine (pathOf_any (Pp.nm s.data.toList).dropLast g 0 cap _ (by rw [HP.out]; omega) (by rw [HL.out]; omega) (fun i h => ?_)).mono ?_
  · have h2 : i < (Pp.nm s.data.toList).length := by rw [HL.out] at h; omega
    rw [Nat.zero_add, HD.out i h h2]
    exact HC.out i h2
  rintro e w2 ⟨rfl, rfl⟩
  rw [HP.out, HL.out]
  go_wp2
  go_ret
  exact ⟨rfl, hb⟩
end Go.Proofs.Ytogbahkoijkclaa
