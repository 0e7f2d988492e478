/- What path.checkAll and checked answer, for every text. -/
import Derived.Test.YtogbahkoijkclaaGreatW2
import Derived.Test.YtogbahkoijkclaaGreatPure2
set_option linter.unusedSimpArgs false
set_option linter.unusedVariables false
namespace Go.Proofs.YtogbahkoijkclaaGreat
open Go.RowKit

set_option maxHeartbeats 400000 in
theorem checkAll_any (ls : List ByteArray) (b cap : Nat) (w : World) (hb : b < w.heap.size) (hn : ls.length ≤ 1000) (hs : ∀ i (h : i < ls.length), (ls[i]).size ≤ 1000000000000000)
    (hc : ∀ i (h : i < ls.length), w.cell? ⟨b, i, none⟩ = some (.string ls[i])) :
    Calls Tryz.prog 36 #[.slice (some ⟨b, 0, none⟩) ls.length cap] w fun e w' => e = .returned (.int .i64 (Pp.chks (ls.map fun s => s.data.toList))) ∧ Below w.heap.size w w' := by
  have HS : Hid (∀ i (h : i < ls.length), (ls[i]).size ≤ 1000000000000000) := hs
  have HC : Hid (∀ i (h : i < ls.length), w.cell? ⟨b, i, none⟩ = some (.string ls[i])) := hc
  clear hs hc
  go_enter Tryz.func36, Tryz.ntmps36
  go_wp2_with fail
  go_loopw [8] (fun i wr => ∃ k : Nat, k ≤ ls.length ∧ i = .int .i64 k ∧ Pp.chks (ls.map fun s => s.data.toList) = Pp.chks ((ls.drop k).map fun s => s.data.toList) ∧ Below w.heap.size w wr) (fun i _ => ls.length - (intOf i).toNat)
  case atStart => exact ⟨0, Nat.zero_le _, rfl, rfl, Below.refl _ _⟩
  case round =>
    obtain ⟨k, hk, rfl, heq, hbel⟩ := hrel
    have HE : Hid (Pp.chks (ls.map fun s => s.data.toList) = Pp.chks ((ls.drop k).map fun s => s.data.toList)) := heq
    clear heq
    by_cases hlt : k < ls.length
    · have hcell : wr.cell? ⟨b, k, none⟩ = some (.string ls[k]) := (hbel.cell (p := ⟨b, k, none⟩) hb).trans (HC.out k hlt)
      have HD : Hid (ls.drop k = ls[k] :: ls.drop (k + 1)) := List.drop_eq_getElem_cons hlt
      cases hz : (Pp.chk (ls[k]).data.toList == 0) with
      | true =>
        have HZ : Hid (Pp.chk (ls[k]).data.toList = 0) := (by simpa using hz : Pp.chk (ls[k]).data.toList = 0)
        clear hz
        go_wp2_with fail
        refine (check_any _ _ (HS.out k hlt)).mono ?_
        rintro e w1 ⟨rfl, hb1⟩
        rw [HZ.out]
        go_wp2_with fail
        go_roundw
        case rel => exact ⟨k + 1, by omega, by simp, by rw [HE.out, HD.out, List.map_cons, Pp.chks, if_pos HZ.out], hbel.trans (hb1.mono hbel.size)⟩
        case measure => simp [intOf]; omega
      | false =>
        have HZ : Hid (¬ Pp.chk (ls[k]).data.toList = 0) := (by simpa using hz : ¬ Pp.chk (ls[k]).data.toList = 0)
        go_wp2_with fail
        refine (check_any _ _ (HS.out k hlt)).mono ?_
        rintro e w1 ⟨rfl, hb1⟩
        go_wp2_with fail
        go_ret
        exact ⟨Pp.ret_int (by rw [HE.out, HD.out, List.map_cons, Pp.chks, if_neg HZ.out]), hbel.trans (hb1.mono hbel.size)⟩
    · go_wp2_with fail
      go_ret
      exact ⟨Pp.ret_int (by rw [HE.out, List.drop_of_length_le (by omega)]; rfl), hbel⟩

theorem below_trans {a b c : World} (h1 : Below a.heap.size a b) (h2 : Below b.heap.size b c) : Below a.heap.size a c := h1.trans (h2.mono h1.size)
end Go.Proofs.YtogbahkoijkclaaGreat
