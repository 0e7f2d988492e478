/- What the document's own TooGreat and CheckPath answer, for every text. -/
import Derived.Test.YtogbahkoijkclaaW8
set_option linter.unusedSimpArgs false
set_option linter.unusedVariables false
namespace Go.Proofs.Ytogbahkoijkclaa
open Go.RowKit

theorem Pp.nm_mem_len : ∀ (l : List UInt8) (x : List UInt8), x ∈ Pp.nm l → x.length ≤ l.length
  | [], x, h => by simp [Pp.nm] at h; simp [h]
  | c :: r, x, h => by
    rw [Pp.nm] at h
    split at h
    · rcases List.mem_cons.1 h with h | h
      · simp [h]
      · have := Pp.nm_mem_len r x h; simp; omega
    · cases e : Pp.nm r with
      | nil => exact absurd e (Pp.nm_ne r)
      | cons y t =>
        rw [e] at h
        rcases List.mem_cons.1 h with h | h
        · have := Pp.nm_mem_len r y (by rw [e]; simp); rw [h]; simp; omega
        · have := Pp.nm_mem_len r x (by rw [e]; simp [h]); simp; omega

theorem rNames_at (s : ByteArray) (w : World) (hs : s.size ≤ 1000000000) :
    Calls Try.prog 35 #[.string s] w fun e w' => ∃ g cap, e = .returned (.slice (some ⟨g, 0, none⟩) (Pp.nm s.data.toList).length cap) ∧ (Pp.nm s.data.toList).length ≤ cap ∧ cap ≤ maxLen ∧ w.heap.size ≤ g ∧ g < w'.heap.size ∧
      (∀ i (h : i < (Pp.nm s.data.toList).length), w'.cell? ⟨g, i, none⟩ = some (.string ⟨((Pp.nm s.data.toList)[i]).toArray⟩)) ∧ Below w.heap.size w w' := by
  refine (rNames_any s w hs).mono ?_
  rintro e w' ⟨v, rfl, hown, hb⟩
  obtain ⟨hl, h2⟩ := hown
  rcases h2 with ⟨_, h0⟩ | ⟨g, cap, cur, rfl, hg, hh, hn, hm, hz, htake⟩
  · exact absurd (List.length_eq_zero_iff.1 h0) (Pp.nm_ne _)
  · have hlt : g < w'.heap.size := by
      rcases Nat.lt_or_ge g w'.heap.size with h | h
      · exact h
      · rw [Array.getElem?_eq_none h] at hh; cases hh
    refine ⟨g, cap, rfl, hn, hm, hg, hlt, fun i h => ?_, hb⟩
    have ho : w'.ownsRow w.heap.size 9 1 (.slice (some ⟨g, 0, none⟩) (Pp.nm s.data.toList).length cap) (Pp.nm s.data.toList).length (Pp.vs (Pp.nm s.data.toList)) := ⟨hl, .inr ⟨g, cap, cur, rfl, hg, hh, hn, hm, hz, htake⟩⟩
    rw [ho.cellAt i (by omega)]
    simp [Pp.vs, h]

set_option maxHeartbeats 400000 in
theorem rTooGreat_any (s : ByteArray) (w : World) (hs : s.size ≤ 1000000000) :
    Calls Try.prog 36 #[.string s] w fun e w' => e = .returned (.bool (Pp.big s.data.toList)) ∧ Below w.heap.size w w' := by
  have hn : (Pp.nm s.data.toList).length ≤ s.size + 1 := by have := Pp.nm_len_le s.data.toList; rwa [← Lib.size_eq] at this
  have hb1 : (6 : Int) < (Pp.nm s.data.toList).length → true = Pp.big s.data.toList := fun h => by
    symm; simp only [Pp.big, Bool.or_eq_true, decide_eq_true_eq]; omega
  have hb2 : (80 : Int) < s.size → true = Pp.big s.data.toList := fun h => by
    symm; simp only [Pp.big, Bool.or_eq_true, decide_eq_true_eq, ← Lib.size_eq]; omega
  have hb3 : ((Pp.nm s.data.toList).length : Int) ≤ 6 → (s.size : Int) ≤ 80 → false = Pp.big s.data.toList := fun h1 h2 => by
    symm; simp only [Pp.big, Bool.or_eq_false_iff, decide_eq_false_iff_not, ← Lib.size_eq]; omega
  by_cases c1 : (6 : Int) < (Pp.nm s.data.toList).length
  · have H : Hid (true = Pp.big s.data.toList) := hb1 c1
    clear hb1 hb2 hb3
    go_enter Try.func36, Try.ntmps36
    go_wp2_with fail
    refine (rNames_at s _ hs).mono ?_
    rintro e w1 ⟨g, cap, rfl, _, _, _, _, _, hb⟩
    go_wp2
    go_ret
    exact ⟨Pp.ret_bool H.out, hb⟩
  by_cases c2 : (80 : Int) < s.size
  · have H : Hid (true = Pp.big s.data.toList) := hb2 c2
    clear hb1 hb2 hb3
    go_enter Try.func36, Try.ntmps36
    go_wp2_with fail
    refine (rNames_at s _ hs).mono ?_
    rintro e w1 ⟨g, cap, rfl, _, _, _, _, _, hb⟩
    go_wp2
    go_ret
    exact ⟨Pp.ret_bool H.out, hb⟩
  · have H : Hid (false = Pp.big s.data.toList) := hb3 (by omega) (by omega)
    clear hb1 hb2 hb3
    go_enter Try.func36, Try.ntmps36
    go_wp2_with fail
    refine (rNames_at s _ hs).mono ?_
    rintro e w1 ⟨g, cap, rfl, _, _, _, _, _, hb⟩
    go_wp2
    go_ret
    exact ⟨Pp.ret_bool (by rw [← H.out]; simp; omega), hb⟩

set_option maxHeartbeats 600000 in
theorem rCheck_any (s : ByteArray) (w : World) (hs : s.size ≤ 1000000000) :
    Calls Try.prog 19 #[.string s] w fun e w' => e = .returned (.int .i64 (Pp.chk s.data.toList)) ∧ Below w.heap.size w w' := by
  have hn : (Pp.nm s.data.toList).length ≤ s.size + 1 := by have := Pp.nm_len_le s.data.toList; rwa [← Lib.size_eq] at this
  obtain ⟨L, hL⟩ : ∃ L, L = Pp.nm s.data.toList := ⟨_, rfl⟩
  have HL : Hid (L = Pp.nm s.data.toList) := hL
  rw [← hL] at hn
  have hsz : ∀ i (h : i < L.length), (L[i]).length ≤ s.size := by
    intro i h
    have := Pp.nm_mem_len s.data.toList L[i] (by rw [← hL]; exact List.getElem_mem h)
    rwa [← Lib.size_eq] at this
  clear hL
  go_enter Try.func19, Try.ntmps19
  go_wp2_with fail
  refine (rNames_at s _ hs).mono ?_
  rintro e w1 ⟨g, cap, rfl, hc1, hc2, hg1, hg2, hcell, hb⟩
  rw [← HL.out] at hc1 hcell ⊢
  have HC : Hid (∀ i (h : i < L.length), w1.cell? ⟨g, i, none⟩ = some (.string ⟨(L[i]).toArray⟩)) := hcell
  clear hcell
  go_wp2_with fail
  go_loopw [4] (fun i wr => ∃ k : Nat, k ≤ L.length ∧ i = .int .i64 k ∧ Hid ((L.take k).all Pp.nameB = true) ∧ wr = w1) (fun i _ => L.length - (intOf i).toNat)
  case atStart => exact ⟨0, Nat.zero_le _, rfl, rfl, rfl⟩
  case round =>
    obtain ⟨k, hk, rfl, HA, rfl⟩ := hrel
    by_cases hlt : k < L.length
    · have hce := HC.out k hlt
      cases hnm : Pp.nameB L[k] with
      | true =>
        have HN : Hid (Pp.nameB L[k] = true) := hnm
        clear hnm
        go_wp2_with fail
        refine (rIsName_any _ _ (by rw [Pp.sz]; have := hsz k hlt; omega)).mono ?_
        rintro e w2 ⟨rfl, rfl⟩
        simp only [HN.out]
        go_wp2_with fail
        go_roundw
        case rel => exact ⟨k + 1, by omega, by simp, (by rw [List.take_succ_eq_append_getElem hlt]; exact Pp.all_add HA.out HN.out : (L.take (k + 1)).all Pp.nameB = true), trivial⟩
        case measure => simp [intOf]; omega
      | false =>
        have HN : Hid (Pp.nameB L[k] = false) := hnm
        clear hnm
        go_wp2_with fail
        refine (rIsName_any _ _ (by rw [Pp.sz]; have := hsz k hlt; omega)).mono ?_
        rintro e w2 ⟨rfl, rfl⟩
        simp only [HN.out]
        go_wp2_with fail
        go_ret
        exact ⟨Pp.ret_int (Pp.chk_one s (dn := L.take k) (r := L.drop (k + 1)) (n := L[k]) (by rw [← HL.out, ← List.drop_eq_getElem_cons hlt, List.take_append_drop]) HN.out), hb⟩
    · have HB : Hid (L.all Pp.nameB = true) := (by have := HA.out; rwa [List.take_of_length_le (by omega)] at this : L.all Pp.nameB = true)
      cases hbig : Pp.big s.data.toList with
      | true =>
        have HG : Hid (Pp.big s.data.toList = true) := hbig
        clear hbig
        go_wp2_with fail
        refine (rTooGreat_any s _ hs).mono ?_
        rintro e w2 ⟨rfl, hb2⟩
        simp only [HG.out]
        go_wp2
        go_ret
        exact ⟨Pp.ret_int (by rw [Pp.chk, ← HL.out, if_pos HB.out, if_pos HG.out]), hb.trans (hb2.mono hb.size)⟩
      | false =>
        have HG : Hid (Pp.big s.data.toList = false) := hbig
        clear hbig
        go_wp2_with fail
        refine (rTooGreat_any s _ hs).mono ?_
        rintro e w2 ⟨rfl, hb2⟩
        simp only [HG.out]
        go_wp2
        go_ret
        exact ⟨Pp.ret_int (by rw [Pp.chk, ← HL.out, if_pos HB.out, if_neg (by rw [HG.out]; decide)]), hb.trans (hb2.mono hb.size)⟩

end Go.Proofs.Ytogbahkoijkclaa
