/- What the reference's PutText answers, where a text is behind all that are there. What tree.List answers, for every tree and every path. What the reference's ListOf answers, for every tree that passes Check and every path. What the law TreeLists answers: true, for every tree and every path. -/
import Derived.Test.YtgbokcmmknabcabTLs1
import Derived.Test.YtgbokcmmknabcabTRst
import Derived.BigQuiet
import Derived.Deep.QuietTactic
import Derived.Deep.RegionLawGrows
import Derived.Test.YtgbokcmmknabcabT20
import Derived.Test.YtgbokcmmknabcabT28
import Derived.Test.YtgbokcmmknabcabT16
import Derived.Test.YtgbokcmmknabcabW4n
import Derived.Test.YtgbokcmmknabcabT11
import Derived.Test.YtgbokcmmknabcabW10n
import Derived.Test.YtgbokcmmknabcabTPure6
import Derived.Test.YtgbokcmmknabcabT15
import Derived.Test.YtgbokcmmknabcabT13
set_option linter.unusedSimpArgs false
set_option linter.unusedVariables false
namespace Go.Proofs.Ytgbokcmmknabcab
open Go.RowKit

set_option maxRecDepth 100000 in
set_option maxHeartbeats 2000000 in
theorem putText_end (N : List (List UInt8)) (v : Value) (s : ByteArray) (w : World) (hv : LiesT w v N) (hn : N.length ≤ 1000) (hN : ∀ x ∈ N, Op.bytesLess x s.data.toList = true) :
    Calls Try.prog 37 #[v, .string s] w fun e w' => ∃ u, e = .returned u ∧ LiesT w' u (N ++ [s.data.toList]) ∧ Below w.heap.size w w' := by
  obtain ⟨i1, hj0, hy0, hy1, hy2⟩ := info_parts Try.infoS
  have HV := hid hv
  have HNE : Hid (∀ x ∈ N, (x == s.data.toList) = false) := (fun x hx => Pp.less_ne (hN x hx) : ∀ x ∈ N, (x == s.data.toList) = false)
  have HN := hid hN
  obtain ⟨a, cap, rfl, h1, h2, h3, h4, h5⟩ := hv
  have HL : Hid (∀ i (h : i < N.length), ∃ b o, a = some ⟨b, o, none⟩ ∧ b < w.heap.size ∧ w.cell? ⟨b, o + i, none⟩ = some (.string ⟨(N[i]).toArray⟩)) := h5
  clear h5 hN
  go_enter Try.func37, Try.ntmps37
  go_wp2_with fail
  refine (hasText_no N _ s _ HV.out HNE.out).mono ?_
  rintro e w1 ⟨rfl, hb1⟩
  go_wp2_with fail
  go_loopw [5] (fun i wr => ∃ k : Nat, k ≤ N.length ∧ i = .int .i64 k ∧ Below w.heap.size w wr) (fun i _ => N.length - (intOf i).toNat)
  case atStart => exact ⟨0, Nat.zero_le _, rfl, hb1⟩
  case round =>
    obtain ⟨k, hk, rfl, hbel⟩ := hrel
    clear hb1
    by_cases hlt : k < N.length
    · obtain ⟨b, o, rfl, hb, he⟩ := HL.out k hlt
      have c0 := (hbel.cell (p := ⟨b, o + k, none⟩) hb).trans he
      have hp2 : Op.bytesLess (⟨(N[k]).toArray⟩ : ByteArray).toList s.toList = true := by rw [Pp.bytes_of, Lib.toList_data]; exact HN.out _ (List.getElem_mem hlt)
      clear he
      generalize (⟨(N[k]).toArray⟩ : ByteArray) = x at *
      go_wp2_with fail
      go_roundw
      case rel => exact ⟨k + 1, by omega, by simp, hbel⟩
      case measure => simp [intOf]; omega
    · obtain rfl : k = N.length := by omega
      have hd : decide ((N.length : Int) < (N.length : Int)) = false := by simp
      have hbN : Below w.heap.size w (wr.alloc (.cells #[.string s] 9)).drew := (hbel.alloc hbel.size _).drew
      have HNONE : Hid (a = none → N.length = 0 ∧ N.length = 0) := (fun h => by have := h4 h; omega : a = none → N.length = 0 ∧ N.length = 0)
      have HOLD : Hid (∀ W, Below w.heap.size w W → ∀ b, a = some b → ∀ j u, (Pp.vs N)[j]? = some u → W.cell? (b.add j) = some u) := (fun W hW b hab j u hj => by
        have hjl : j < N.length := by
          rcases Nat.lt_or_ge j N.length with h | h
          · exact h
          · rw [List.getElem?_eq_none (by rw [Pp.vs_len]; exact h)] at hj; cases hj
        obtain ⟨b', o', hab', hb', hc'⟩ := HL.out j hjl
        rw [hab'] at hab
        cases hab
        have hu : u = .string ⟨(N[j]).toArray⟩ := by
          have : (Pp.vs N)[j]? = some (.string ⟨(N[j]).toArray⟩) := by simp [Pp.vs, hjl]
          rw [this] at hj; cases hj; rfl
        rw [hu]
        by_cases hj0 : j = 0
        · subst hj0; simpa [Addr.add] using (hW.cell (p := ⟨b', o' + 0, none⟩) hb').trans hc'
        · simpa [Addr.add, hj0] using (hW.cell (p := ⟨b', o' + j, none⟩) hb').trans hc' : ∀ W, Below w.heap.size w W → ∀ b, a = some b → ∀ j u, (Pp.vs N)[j]? = some u → W.cell? (b.add j) = some u)
      have hco : ((N.length : Nat) : Int) ≤ cap := by omega
      have hcases : a = none ∨ ∃ A, a = some A := by cases a with
        | none => exact Or.inl rfl
        | some A => exact Or.inr ⟨A, rfl⟩
      rcases hcases with rfl | ⟨A, rfl⟩
      · have hc0 := h4 rfl
        subst hc0
        have hN0 : N = [] := List.length_eq_zero_iff.1 (by omega)
        subst hN0
        go_wp2_with fail
        refine wp_region_held_drew (S := fun _ => True) (by kernel_rfl) trivial (fun hHeld => ?_)
        refine wpAnyH_take (i := 0) (oi := ⟨some 24, Op.move (Operand.tmp 0), 34, _, _, none⟩) (v := ?_) rfl (by kernel_rfl) (by kernel_rfl) (by kernel_rfl) (fun _ _ _ h => h) (Or.inl ⟨by rfl, ?_⟩) hHeld ?_
        rotate_left
        · (intro W hSw; go_simp <;> with_reducible rfl)
        try simp only [Act.put, List.setIfInBounds_toArray, List.set_cons_zero, List.set_cons_succ]
        refine wpAnyH_take (i := 1) (oi := ⟨some 25, Op.move (Operand.tmp 5), 3, _, _, none⟩) (v := ?_) rfl (by kernel_rfl) (by kernel_rfl) (by kernel_rfl) (fun _ _ _ h => h) (Or.inl ⟨by rfl, ?_⟩) hHeld ?_
        rotate_left
        · (intro W hSw; go_simp <;> with_reducible rfl)
        try simp only [Act.put, List.setIfInBounds_toArray, List.set_cons_zero, List.set_cons_succ]
        refine wpAnyH_take (i := 2) (oi := ⟨some 26, Op.move (Operand.tmp 5), 3, _, _, none⟩) (v := ?_) rfl (by kernel_rfl) (by kernel_rfl) (by kernel_rfl) (fun _ _ _ h => h) (Or.inl ⟨by rfl, ?_⟩) hHeld ?_
        rotate_left
        · (intro W hSw; go_simp <;> with_reducible rfl)
        try simp only [Act.put, List.setIfInBounds_toArray, List.set_cons_zero, List.set_cons_succ]
        refine wpAnyH_take (i := 3) (oi := ⟨some 27, Op.slice 34 (Operand.tmp 24) none (some (Operand.tmp 25)) (some (Operand.tmp 26)), 34, _, _, none⟩) (v := ?_) rfl (by kernel_rfl) (by kernel_rfl) (by kernel_rfl) (fun _ _ _ h => h) (Or.inl ⟨by rfl, ?_⟩) hHeld ?_
        rotate_left
        · (intro W hSw; go_simp <;> with_reducible rfl)
        try simp only [Act.put, List.setIfInBounds_toArray, List.set_cons_zero, List.set_cons_succ]
        refine wpAnyH_take (i := 4) (oi := ⟨some 28, Op.move (Operand.tmp 1), 9, _, _, none⟩) (v := ?_) rfl (by kernel_rfl) (by kernel_rfl) (by kernel_rfl) (fun _ _ _ h => h) (Or.inl ⟨by rfl, ?_⟩) hHeld ?_
        rotate_left
        · (intro W hSw; go_simp <;> with_reducible rfl)
        try simp only [Act.put, List.setIfInBounds_toArray, List.set_cons_zero, List.set_cons_succ]
        refine wpAnyH_take (i := 6) (oi := ⟨some 30, Op.move (Operand.tmp 0), 34, _, _, none⟩) (v := ?_) rfl (by kernel_rfl) (by kernel_rfl) (by kernel_rfl) (fun _ _ _ h => h) (Or.inl ⟨by rfl, ?_⟩) hHeld ?_
        rotate_left
        · (intro W hSw; go_simp <;> with_reducible rfl)
        try simp only [Act.put, List.setIfInBounds_toArray, List.set_cons_zero, List.set_cons_succ]
        refine wpAnyH_take (i := 7) (oi := ⟨some 31, Op.move (Operand.tmp 5), 3, _, _, none⟩) (v := ?_) rfl (by kernel_rfl) (by kernel_rfl) (by kernel_rfl) (fun _ _ _ h => h) (Or.inl ⟨by rfl, ?_⟩) hHeld ?_
        rotate_left
        · (intro W hSw; go_simp <;> with_reducible rfl)
        try simp only [Act.put, List.setIfInBounds_toArray, List.set_cons_zero, List.set_cons_succ]
        refine wpAnyH_take (i := 8) (oi := ⟨some 32, Op.slice 34 (Operand.tmp 30) (some (Operand.tmp 31)) none none, 34, _, _, none⟩) (v := ?_) rfl (by kernel_rfl) (by kernel_rfl) (by kernel_rfl) (fun _ _ _ h => h) (Or.inl ⟨by rfl, ?_⟩) hHeld ?_
        rotate_left
        · (intro W hSw; go_simp <;> with_reducible rfl)
        try simp only [Act.put, List.setIfInBounds_toArray, List.set_cons_zero, List.set_cons_succ]
        refine wpAnyH_ready (rs := [5]) (by kernel_rfl) (by simp) ?_
        refine AllReadyH.cons (o := ⟨some 29, Op.buildSlice 34 1 #[(0, Operand.tmp 28)], 34, _, _, none⟩) rfl (fun K hK => ?_) AllReadyH.nil
        go_simp
        refine hK.out _ _ trivial (fun hHeld => ?_)
        clear hK K
        try simp only [Act.put, List.setIfInBounds_toArray, List.set_cons_zero, List.set_cons_succ]
        refine wpAnyH_ready (rs := [9]) (by kernel_rfl) (by simp) ?_
        refine AllReadyH.cons (o := ⟨some 33, Op.call ⟨Callee.builtin Builtin.append, #[Operand.tmp 29, Operand.tmp 32], #[34, 34]⟩, 34, _, _, none⟩) rfl (fun K hK => ?_) AllReadyH.nil
        go_simp
        refine hK.out _ _ trivial (fun hHeld => ?_)
        clear hK K
        try simp only [Act.put, List.setIfInBounds_toArray, List.set_cons_zero, List.set_cons_succ]
        refine wpAnyH_ready (rs := [10]) (by kernel_rfl) (by simp) ?_
        refine AllReadyH.cons (o := ⟨some 34, Op.call ⟨Callee.builtin Builtin.append, #[Operand.tmp 27, Operand.tmp 33], #[34, 34]⟩, 34, _, _, none⟩) rfl (fun K hK => ?_) AllReadyH.nil
        refine step_append_grows rfl (.tmp 27) (.tmp 33) 34 rfl 9 i1 (.string ⟨#[]⟩) 1 16 Try.underlying34 hj0 hy0 hy1 hy2 rfl (by decide) _ _ _ (Pp.vs []) rfl (fun _ => ⟨rfl, rfl⟩) (by simp [Pp.vs]) (HOLD.out _ hbN) ⟨wr.heap.size, 0, none⟩ 1 1 [.string s] rfl rfl (by intro j u hj; match j, hj with | 0, hj => simp at hj; subst hj; simp [Addr.add] | j + 1, hj => simp at hj) (by intro u hu; simp at hu; subst hu; rfl) (by first | omega | (simp; omega)) (by unfold maxLen; omega) (by omega) ?_
        intro v5 w5 ho5 hgr5
        have hb5 : Below w.heap.size w w5 := hbN.grown hgr5 hbN.size (fun k hk => by cases hk)
        have e1 : Pp.vs [] ++ [.string s] = Pp.vs ([] ++ [s.data.toList]) := by rw [← Pp.vs_snoc, Pp.bytes_self]
        rw [e1] at ho5
        have HO : Hid (LiesT w5 v5 ([] ++ [s.data.toList])) := liesT_own (by rw [List.length_append]; exact ho5) (by rw [List.length_append]; first | (simp; done) | (simp; omega))
        clear ho5 hgr5 e1
        refine hK.out _ _ trivial (fun hHeld => ?_)
        clear hK K
        try simp only [Act.put, List.setIfInBounds_toArray, List.set_cons_zero, List.set_cons_succ]
        refine wpAnyH_take (i := 11) (oi := ⟨some 4, Op.assign (Operand.tmp 34), 34, _, _, none⟩) (v := ?_) rfl (by kernel_rfl) (by kernel_rfl) (by kernel_rfl) (fun _ _ _ h => h) (Or.inl ⟨by rfl, ?_⟩) hHeld ?_
        rotate_left
        · (intro W hSw; go_simp <;> with_reducible rfl)
        try simp only [Act.put, List.setIfInBounds_toArray, List.set_cons_zero, List.set_cons_succ]
        refine wpAnyH_done (by kernel_rfl) ?_ _
        go_wp2
        go_ret
        exact ⟨_, rfl, HO.out, hb5⟩
      · by_cases hcc : cap = N.length
        all_goals
          go_wp2_with fail
          refine wp_region_held_drew (S := fun _ => True) (by kernel_rfl) trivial (fun hHeld => ?_)
          refine wpAnyH_take (i := 0) (oi := ⟨some 24, Op.move (Operand.tmp 0), 34, _, _, none⟩) (v := ?_) rfl (by kernel_rfl) (by kernel_rfl) (by kernel_rfl) (fun _ _ _ h => h) (Or.inl ⟨by rfl, ?_⟩) hHeld ?_
          rotate_left
          · (intro W hSw; go_simp <;> with_reducible rfl)
          try simp only [Act.put, List.setIfInBounds_toArray, List.set_cons_zero, List.set_cons_succ]
          refine wpAnyH_take (i := 1) (oi := ⟨some 25, Op.move (Operand.tmp 5), 3, _, _, none⟩) (v := ?_) rfl (by kernel_rfl) (by kernel_rfl) (by kernel_rfl) (fun _ _ _ h => h) (Or.inl ⟨by rfl, ?_⟩) hHeld ?_
          rotate_left
          · (intro W hSw; go_simp <;> with_reducible rfl)
          try simp only [Act.put, List.setIfInBounds_toArray, List.set_cons_zero, List.set_cons_succ]
          refine wpAnyH_take (i := 2) (oi := ⟨some 26, Op.move (Operand.tmp 5), 3, _, _, none⟩) (v := ?_) rfl (by kernel_rfl) (by kernel_rfl) (by kernel_rfl) (fun _ _ _ h => h) (Or.inl ⟨by rfl, ?_⟩) hHeld ?_
          rotate_left
          · (intro W hSw; go_simp <;> with_reducible rfl)
          try simp only [Act.put, List.setIfInBounds_toArray, List.set_cons_zero, List.set_cons_succ]
          refine wpAnyH_take (i := 3) (oi := ⟨some 27, Op.slice 34 (Operand.tmp 24) none (some (Operand.tmp 25)) (some (Operand.tmp 26)), 34, _, _, none⟩) (v := ?_) rfl (by kernel_rfl) (by kernel_rfl) (by kernel_rfl) (fun _ _ _ h => h) (Or.inl ⟨by rfl, ?_⟩) hHeld ?_
          rotate_left
          · (intro W hSw; go_simp <;> with_reducible rfl)
          try simp only [Act.put, List.setIfInBounds_toArray, List.set_cons_zero, List.set_cons_succ]
          refine wpAnyH_take (i := 4) (oi := ⟨some 28, Op.move (Operand.tmp 1), 9, _, _, none⟩) (v := ?_) rfl (by kernel_rfl) (by kernel_rfl) (by kernel_rfl) (fun _ _ _ h => h) (Or.inl ⟨by rfl, ?_⟩) hHeld ?_
          rotate_left
          · (intro W hSw; go_simp <;> with_reducible rfl)
          try simp only [Act.put, List.setIfInBounds_toArray, List.set_cons_zero, List.set_cons_succ]
          refine wpAnyH_take (i := 6) (oi := ⟨some 30, Op.move (Operand.tmp 0), 34, _, _, none⟩) (v := ?_) rfl (by kernel_rfl) (by kernel_rfl) (by kernel_rfl) (fun _ _ _ h => h) (Or.inl ⟨by rfl, ?_⟩) hHeld ?_
          rotate_left
          · (intro W hSw; go_simp <;> with_reducible rfl)
          try simp only [Act.put, List.setIfInBounds_toArray, List.set_cons_zero, List.set_cons_succ]
          refine wpAnyH_take (i := 7) (oi := ⟨some 31, Op.move (Operand.tmp 5), 3, _, _, none⟩) (v := ?_) rfl (by kernel_rfl) (by kernel_rfl) (by kernel_rfl) (fun _ _ _ h => h) (Or.inl ⟨by rfl, ?_⟩) hHeld ?_
          rotate_left
          · (intro W hSw; go_simp <;> with_reducible rfl)
          try simp only [Act.put, List.setIfInBounds_toArray, List.set_cons_zero, List.set_cons_succ]
          refine wpAnyH_take (i := 8) (oi := ⟨some 32, Op.slice 34 (Operand.tmp 30) (some (Operand.tmp 31)) none none, 34, _, _, none⟩) (v := ?_) rfl (by kernel_rfl) (by kernel_rfl) (by kernel_rfl) (fun _ _ _ h => h) (Or.inl ⟨by rfl, ?_⟩) hHeld ?_
          rotate_left
          · (intro W hSw; go_simp <;> with_reducible rfl)
          try simp only [Act.put, List.setIfInBounds_toArray, List.set_cons_zero, List.set_cons_succ]
          refine wpAnyH_ready (rs := [5]) (by kernel_rfl) (by simp) ?_
          refine AllReadyH.cons (o := ⟨some 29, Op.buildSlice 34 1 #[(0, Operand.tmp 28)], 34, _, _, none⟩) rfl (fun K hK => ?_) AllReadyH.nil
          go_simp
          refine hK.out _ _ trivial (fun hHeld => ?_)
          clear hK K
          try simp only [Act.put, List.setIfInBounds_toArray, List.set_cons_zero, List.set_cons_succ]
          refine wpAnyH_ready (rs := [9]) (by kernel_rfl) (by simp) ?_
          refine AllReadyH.cons (o := ⟨some 33, Op.call ⟨Callee.builtin Builtin.append, #[Operand.tmp 29, Operand.tmp 32], #[34, 34]⟩, 34, _, _, none⟩) rfl (fun K hK => ?_) AllReadyH.nil
          go_simp
          refine hK.out _ _ trivial (fun hHeld => ?_)
          clear hK K
          try simp only [Act.put, List.setIfInBounds_toArray, List.set_cons_zero, List.set_cons_succ]
          refine wpAnyH_ready (rs := [10]) (by kernel_rfl) (by simp) ?_
          refine AllReadyH.cons (o := ⟨some 34, Op.call ⟨Callee.builtin Builtin.append, #[Operand.tmp 27, Operand.tmp 33], #[34, 34]⟩, 34, _, _, none⟩) rfl (fun K hK => ?_) AllReadyH.nil
          refine step_append_grows rfl (.tmp 27) (.tmp 33) 34 rfl 9 i1 (.string ⟨#[]⟩) 1 16 Try.underlying34 hj0 hy0 hy1 hy2 rfl (by decide) _ _ _ (Pp.vs N) rfl HNONE.out (by simp [Pp.vs]) (HOLD.out _ hbN) ⟨wr.heap.size, 0, none⟩ 1 1 [.string s] rfl rfl (by intro j u hj; match j, hj with | 0, hj => simp at hj; subst hj; simp [Addr.add] | j + 1, hj => simp at hj) (by intro u hu; simp at hu; subst hu; rfl) (by first | omega | (simp; omega)) (by unfold maxLen; omega) (by omega) ?_
          intro v5 w5 ho5 hgr5
          have hb5 : Below w.heap.size w w5 := hbN.grown hgr5 hbN.size (fun k hk => by cases hk)
          have e1 : Pp.vs N ++ [.string s] = Pp.vs (N ++ [s.data.toList]) := by rw [← Pp.vs_snoc, Pp.bytes_self]
          rw [e1] at ho5
          have HO : Hid (LiesT w5 v5 (N ++ [s.data.toList])) := liesT_own (by rw [List.length_append]; exact ho5) (by rw [List.length_append]; first | (simp; done) | (simp; omega))
          clear ho5 hgr5 e1
          refine hK.out _ _ trivial (fun hHeld => ?_)
          clear hK K
          try simp only [Act.put, List.setIfInBounds_toArray, List.set_cons_zero, List.set_cons_succ]
          refine wpAnyH_take (i := 11) (oi := ⟨some 4, Op.assign (Operand.tmp 34), 34, _, _, none⟩) (v := ?_) rfl (by kernel_rfl) (by kernel_rfl) (by kernel_rfl) (fun _ _ _ h => h) (Or.inl ⟨by rfl, ?_⟩) hHeld ?_
          rotate_left
          · (intro W hSw; go_simp <;> with_reducible rfl)
          try simp only [Act.put, List.setIfInBounds_toArray, List.set_cons_zero, List.set_cons_succ]
          refine wpAnyH_done (by kernel_rfl) ?_ _
          go_wp2
          go_ret
          exact ⟨_, rfl, HO.out, hb5⟩
end Go.Proofs.Ytgbokcmmknabcab
namespace Go.Proofs.Ytgbokcmmknabcab
open Go.RowKit

namespace Pp
/-- What is wrong with a path of a folder; the empty one is the root. -/
def rotE (p : List UInt8) : Int := if p = [] then 0 else chk p
def lisE (L : List En) (p : List UInt8) : Int := if ¬ treeE L = 0 then treeE L else if ¬ rotE p = 0 then rotE p else foldE L p
def lisR (L : List En) (p : List UInt8) : List (List UInt8) := if lisE L p = 0 then namesIn p L else []
theorem lis_tree {L : List En} (h : ¬ treeE L = 0) (p : List UInt8) : lisE L p = treeE L := if_pos h
theorem lis_rot {L : List En} (h : treeE L = 0) {p : List UInt8} (h2 : ¬ rotE p = 0) : lisE L p = rotE p := by rw [lisE, if_neg (fun x => x h), if_pos h2]
theorem lis_fold {L : List En} (h : treeE L = 0) {p : List UInt8} (h2 : rotE p = 0) : lisE L p = foldE L p := by rw [lisE, if_neg (fun x => x h), if_neg (fun x => x h2)]
theorem lisR_no {L : List En} {p : List UInt8} {e : Int} (h : lisE L p = e) (he : ¬ e = 0) : lisR L p = [] := by rw [lisR, h, if_neg he]
theorem filter_ji {L : List En} (hL : Good L) (p : List UInt8) : L.filter (jiB p) = L.filter (inP p) := List.filter_congr fun e he => ji_in (entE_path (hL.ents e he))
theorem names_of (p : List UInt8) (L : List En) : namesIn p L = (L.filter (inP p)).map (fun e => lst e.path.data.toList) := rfl
end Pp

set_option maxRecDepth 100000 in
set_option maxHeartbeats 2000000 in
theorem tlist_any (L : List En) (v : Value) (p : ByteArray) (w : World) (hv : Lies w v L) (hs : Sized L) (hp : p.size ≤ 1000000000) :
    Calls Try.prog 13 #[v, .string p] w fun e w' => ∃ u, e = .returned (.tuple #[u, .int .i64 (Pp.lisE L p.data.toList)]) ∧ LiesT w' u (Pp.lisR L p.data.toList) ∧ Below w.heap.size w w' := by
  obtain ⟨i1, hj0, hy0, hy1, hy2⟩ := info_parts Try.infoS
  have HV := hid hv
  have HS := hid hs
  have HS1 : Hid (∀ e ∈ L, e.path.size ≤ 1000000000000000) := (fun e he => (hs e he).1 : ∀ e ∈ L, e.path.size ≤ 1000000000000000)
  clear hv hs
  by_cases htr : Pp.treeE L = 0
  · have HT := hid htr
    by_cases hrt : Pp.rotE p.data.toList = 0
    · have HLE := hid (Pp.lis_fold htr hrt)
      have HG := hid ((Pp.good_iff L).1 htr)
      have hlen := ((Pp.good_iff L).1 htr).len
      by_cases hfo : Pp.foldE L p.data.toList = 0
      · have HF := hid hfo
        have HLR : Hid (Pp.lisR L p.data.toList = Pp.namesIn p.data.toList L) := (by rw [Pp.lisR, HLE.out, hfo]; rfl : Pp.lisR L p.data.toList = Pp.namesIn p.data.toList L)
        clear htr hfo
        have hrE : p.toList.isEmpty = true ∨ (p.toList.isEmpty = false ∧ Hid (Pp.chk p.data.toList = 0)) := by
          cases hpe : p.toList.isEmpty with
          | true => exact Or.inl rfl
          | false => exact Or.inr ⟨rfl, by rw [Pp.rotE, if_neg (Pp.not_empty hpe)] at hrt; exact hrt⟩
        clear hrt
        rcases hrE with hpe | ⟨hpe, HPC⟩
        · go_enter Try.func13, Try.ntmps13
          go_wp2_with fail
          refine (tcheck_all L v _ HV.out HS.out).mono ?_
          rintro e w1 ⟨rfl, hb1⟩
          rw [HT.out]
          go_wp2_with fail
          refine (checkFolder_any L v p _ (HV.out.below hb1) HS1.out).mono ?_
          rintro e w2 ⟨rfl, hb2⟩
          rw [HF.out]
          have hb02 := below_trans hb1 hb2
          clear hb1 hb2
          go_wp2_with fail
          refine (justIn_any p _).mono ?_
          rintro e w3 ⟨rfl, ht3, hb3⟩
          have HT3 := hid ht3
          have hb03 := below_trans hb02 hb3
          clear ht3 hb3 hb02
          go_wp2_with fail
          refine (every_any L v _ _ (Pp.jiB p.data.toList) _ (HV.out.below hb03) HT3.out (by omega) HS.out).mono ?_
          rintro e w4 ⟨u4, rfl, ho4, hn4, hb4⟩
          rw [Pp.filter_ji HG.out] at ho4
          have hb04 := below_trans hb03 hb4
          have hGl : (L.filter (Pp.inP p.data.toList)).length ≤ 60 := Nat.le_trans (List.length_filter_le _ _) hlen
          have HGE : Hid (∀ e ∈ L.filter (Pp.inP p.data.toList), Pp.chk e.path.data.toList = 0 ∧ e.path.size ≤ 80) := (fun e he => by
            have h1 := Pp.entE_path (HG.out.ents e (List.mem_filter.1 he).1)
            exact ⟨h1, by rw [Lib.size_eq]; exact Pp.chk_len h1⟩ : ∀ e ∈ L.filter (Pp.inP p.data.toList), Pp.chk e.path.data.toList = 0 ∧ e.path.size ≤ 80)
          have HNM : Hid (Pp.lisR L p.data.toList = (L.filter (Pp.inP p.data.toList)).map (fun e => Pp.lst e.path.data.toList)) := HLR.out
          generalize L.filter (Pp.inP p.data.toList) = G at *
          have hli := lies_own ho4 (by omega)
          obtain ⟨a4, cap4, rfl, hc4, hc4', hL4⟩ := hli
          have HL4 : Hid (∀ i (h : i < G.length), ∃ b o, a4 = some ⟨b, o, none⟩ ∧ b < w4.heap.size ∧ EnAt w4 b (o + i * 4) G[i]) := hL4
          clear hL4 ho4 hn4 hb4 hb03 HLR
          go_wp2_with fail
          go_loopw [9, 37] (fun o i wr => ∃ k : Nat, k ≤ G.length ∧ i = .int .i64 k ∧ wr.ownsRow w4.heap.size 9 1 o ((G.take k).map (fun e => Pp.lst e.path.data.toList)).length (Pp.vs ((G.take k).map (fun e => Pp.lst e.path.data.toList))) ∧ Below w4.heap.size w4 wr) (fun _ i _ => G.length - (intOf i).toNat)
          case atStart => exact ⟨0, Nat.zero_le _, rfl, World.ownsRow_nil _ _ _ _, Below.refl _ _⟩
          case round =>
            obtain ⟨k, hk, rfl, hown, hbel⟩ := hrel
            by_cases hlt : k < G.length
            · obtain ⟨b, o, rfl, hb, he⟩ := HL4.out k hlt
              obtain ⟨c0, c1, c2, c3⟩ := he.below hb hbel
              have hge := HGE.out _ (List.getElem_mem hlt)
              have hXl : ((G.take k).map (fun e => Pp.lst e.path.data.toList)).length ≤ 60 := by rw [List.length_map, List.length_take]; omega
              have HST : Hid ((G.take (k + 1)).map (fun e => Pp.lst e.path.data.toList) = (G.take k).map (fun e => Pp.lst e.path.data.toList) ++ [Pp.lst (G[k]).path.data.toList]) := (by rw [List.take_succ_eq_append_getElem hlt, List.map_append]; rfl : (G.take (k + 1)).map (fun e => Pp.lst e.path.data.toList) = (G.take k).map (fun e => Pp.lst e.path.data.toList) ++ [Pp.lst (G[k]).path.data.toList])
              generalize (G.take k).map (fun e => Pp.lst e.path.data.toList) = X at *
              have HZ := hid hge.1
              have hsz : (G[k]).path.size ≤ 1000000000000000 := by have := hge.2; omega
              clear hge he
              go_wp2_with fail
              refine (name_any (G[k]).path _ hsz).mono ?_
              rintro e w6 ⟨rfl, hb6⟩
              rw [HZ.out, Pp.ifc_yes rfl]
              first
                | (obtain ⟨f0, f1, f2, f3, hb6', hlt6⟩ := box4 hb6)
                | (have hb6' := hb6)
              have hown6 := Pp.own_below hown hb6'
              have hbel6 : Below w4.heap.size w4 w6 := hbel.trans (hb6'.mono hbel.size)
              clear hown hbel hb6 hb6' c0 c1 c2 c3
              generalize Pp.lst (G[k]).path.data.toList = y at *
              go_wp2_with (at_builtin; refine wpList_append_own _ rfl _ _ 34 rfl w4.heap.size 9 i1 (.string ⟨#[]⟩) 1 16 Try.underlying34 hj0 hy0 hy1 hy2 rfl (by decide) _ _ _ rfl (hown6.alloc _) ⟨w6.heap.size, 0, none⟩ 1 1 [.string ⟨y.toArray⟩] rfl rfl (by intro j u hj; match j, hj with | 0, hj => simp at hj; subst hj; simp [Addr.add] | j + 1, hj => simp at hj) (by intro u hu; simp at hu; subst hu; rfl) (by unfold maxLen; omega) (by omega) (by have := hbel6.size; simp at this ⊢; omega) ?_)
              intro v2 w2 ho2 hgr2 hnn2
              have hbel2 : Below w4.heap.size w4 w2 := (hbel6.alloc hbel6.size _).grown hgr2 (by have := hbel6.size; simp at this ⊢; omega) (fun g hg => by have := (hown6.lt g hg).1; simp; omega)
              rw [Pp.vs_snoc] at ho2
              have hown2 : w2.ownsRow w4.heap.size 9 1 v2 (X ++ [y]).length (Pp.vs (X ++ [y])) := by rw [List.length_append]; exact ho2
              have HO := hid hown2
              clear ho2 hgr2 hnn2 hown2 hown6 hbel6
              go_wp2_with fail
              go_roundw
              case rel => exact ⟨k + 1, by omega, by simp, by rw [HST.out]; exact HO.out, hbel2⟩
              case measure => simp [intOf]; omega
            · have eG : G.take k = G := List.take_of_length_le (by omega)
              rw [eG] at hown
              have HLI : Hid (LiesT wr _ (G.map (fun e => Pp.lst e.path.data.toList))) := liesT_own hown (by rw [List.length_map]; omega)
              have hbN := hb04.trans (hbel.mono hb04.size)
              clear hown eG hbel
              go_wp2_with fail
              go_ret2
              exact ⟨_, by rw [HLE.out, HF.out]; rfl, by rw [HNM.out]; exact HLI.out, hbN⟩
        · go_enter Try.func13, Try.ntmps13
          go_wp2_with fail
          refine (tcheck_all L v _ HV.out HS.out).mono ?_
          rintro e w1 ⟨rfl, hb1⟩
          rw [HT.out]
          go_wp2_with fail
          refine (check_any p _ (by omega)).mono ?_
          rintro e w2 ⟨rfl, hb2⟩
          rw [HPC.out]
          have hb02 := below_trans hb1 hb2
          clear hb1 hb2
          go_wp2_with fail
          refine (checkFolder_any L v p _ (HV.out.below hb02) HS1.out).mono ?_
          rintro e w2 ⟨rfl, hb2⟩
          rw [HF.out]
          have hb02 := below_trans hb02 hb2
          clear hb2
          go_wp2_with fail
          refine (justIn_any p _).mono ?_
          rintro e w3 ⟨rfl, ht3, hb3⟩
          have HT3 := hid ht3
          have hb03 := below_trans hb02 hb3
          clear ht3 hb3 hb02
          go_wp2_with fail
          refine (every_any L v _ _ (Pp.jiB p.data.toList) _ (HV.out.below hb03) HT3.out (by omega) HS.out).mono ?_
          rintro e w4 ⟨u4, rfl, ho4, hn4, hb4⟩
          rw [Pp.filter_ji HG.out] at ho4
          have hb04 := below_trans hb03 hb4
          have hGl : (L.filter (Pp.inP p.data.toList)).length ≤ 60 := Nat.le_trans (List.length_filter_le _ _) hlen
          have HGE : Hid (∀ e ∈ L.filter (Pp.inP p.data.toList), Pp.chk e.path.data.toList = 0 ∧ e.path.size ≤ 80) := (fun e he => by
            have h1 := Pp.entE_path (HG.out.ents e (List.mem_filter.1 he).1)
            exact ⟨h1, by rw [Lib.size_eq]; exact Pp.chk_len h1⟩ : ∀ e ∈ L.filter (Pp.inP p.data.toList), Pp.chk e.path.data.toList = 0 ∧ e.path.size ≤ 80)
          have HNM : Hid (Pp.lisR L p.data.toList = (L.filter (Pp.inP p.data.toList)).map (fun e => Pp.lst e.path.data.toList)) := HLR.out
          generalize L.filter (Pp.inP p.data.toList) = G at *
          have hli := lies_own ho4 (by omega)
          obtain ⟨a4, cap4, rfl, hc4, hc4', hL4⟩ := hli
          have HL4 : Hid (∀ i (h : i < G.length), ∃ b o, a4 = some ⟨b, o, none⟩ ∧ b < w4.heap.size ∧ EnAt w4 b (o + i * 4) G[i]) := hL4
          clear hL4 ho4 hn4 hb4 hb03 HLR
          go_wp2_with fail
          go_loopw [9, 37] (fun o i wr => ∃ k : Nat, k ≤ G.length ∧ i = .int .i64 k ∧ wr.ownsRow w4.heap.size 9 1 o ((G.take k).map (fun e => Pp.lst e.path.data.toList)).length (Pp.vs ((G.take k).map (fun e => Pp.lst e.path.data.toList))) ∧ Below w4.heap.size w4 wr) (fun _ i _ => G.length - (intOf i).toNat)
          case atStart => exact ⟨0, Nat.zero_le _, rfl, World.ownsRow_nil _ _ _ _, Below.refl _ _⟩
          case round =>
            obtain ⟨k, hk, rfl, hown, hbel⟩ := hrel
            by_cases hlt : k < G.length
            · obtain ⟨b, o, rfl, hb, he⟩ := HL4.out k hlt
              obtain ⟨c0, c1, c2, c3⟩ := he.below hb hbel
              have hge := HGE.out _ (List.getElem_mem hlt)
              have hXl : ((G.take k).map (fun e => Pp.lst e.path.data.toList)).length ≤ 60 := by rw [List.length_map, List.length_take]; omega
              have HST : Hid ((G.take (k + 1)).map (fun e => Pp.lst e.path.data.toList) = (G.take k).map (fun e => Pp.lst e.path.data.toList) ++ [Pp.lst (G[k]).path.data.toList]) := (by rw [List.take_succ_eq_append_getElem hlt, List.map_append]; rfl : (G.take (k + 1)).map (fun e => Pp.lst e.path.data.toList) = (G.take k).map (fun e => Pp.lst e.path.data.toList) ++ [Pp.lst (G[k]).path.data.toList])
              generalize (G.take k).map (fun e => Pp.lst e.path.data.toList) = X at *
              have HZ := hid hge.1
              have hsz : (G[k]).path.size ≤ 1000000000000000 := by have := hge.2; omega
              clear hge he
              go_wp2_with fail
              refine (name_any (G[k]).path _ hsz).mono ?_
              rintro e w6 ⟨rfl, hb6⟩
              rw [HZ.out, Pp.ifc_yes rfl]
              first
                | (obtain ⟨f0, f1, f2, f3, hb6', hlt6⟩ := box4 hb6)
                | (have hb6' := hb6)
              have hown6 := Pp.own_below hown hb6'
              have hbel6 : Below w4.heap.size w4 w6 := hbel.trans (hb6'.mono hbel.size)
              clear hown hbel hb6 hb6' c0 c1 c2 c3
              generalize Pp.lst (G[k]).path.data.toList = y at *
              go_wp2_with (at_builtin; refine wpList_append_own _ rfl _ _ 34 rfl w4.heap.size 9 i1 (.string ⟨#[]⟩) 1 16 Try.underlying34 hj0 hy0 hy1 hy2 rfl (by decide) _ _ _ rfl (hown6.alloc _) ⟨w6.heap.size, 0, none⟩ 1 1 [.string ⟨y.toArray⟩] rfl rfl (by intro j u hj; match j, hj with | 0, hj => simp at hj; subst hj; simp [Addr.add] | j + 1, hj => simp at hj) (by intro u hu; simp at hu; subst hu; rfl) (by unfold maxLen; omega) (by omega) (by have := hbel6.size; simp at this ⊢; omega) ?_)
              intro v2 w2 ho2 hgr2 hnn2
              have hbel2 : Below w4.heap.size w4 w2 := (hbel6.alloc hbel6.size _).grown hgr2 (by have := hbel6.size; simp at this ⊢; omega) (fun g hg => by have := (hown6.lt g hg).1; simp; omega)
              rw [Pp.vs_snoc] at ho2
              have hown2 : w2.ownsRow w4.heap.size 9 1 v2 (X ++ [y]).length (Pp.vs (X ++ [y])) := by rw [List.length_append]; exact ho2
              have HO := hid hown2
              clear ho2 hgr2 hnn2 hown2 hown6 hbel6
              go_wp2_with fail
              go_roundw
              case rel => exact ⟨k + 1, by omega, by simp, by rw [HST.out]; exact HO.out, hbel2⟩
              case measure => simp [intOf]; omega
            · have eG : G.take k = G := List.take_of_length_le (by omega)
              rw [eG] at hown
              have HLI : Hid (LiesT wr _ (G.map (fun e => Pp.lst e.path.data.toList))) := liesT_own hown (by rw [List.length_map]; omega)
              have hbN := hb04.trans (hbel.mono hb04.size)
              clear hown eG hbel
              go_wp2_with fail
              go_ret2
              exact ⟨_, by rw [HLE.out, HF.out]; rfl, by rw [HNM.out]; exact HLI.out, hbN⟩
      · have HLR := hid (Pp.lisR_no HLE.out hfo)
        have hz : (Pp.foldE L p.data.toList == 0) = false := by simpa using hfo
        have hrE : p.toList.isEmpty = true ∨ (p.toList.isEmpty = false ∧ Hid (Pp.chk p.data.toList = 0)) := by
          cases hpe : p.toList.isEmpty with
          | true => exact Or.inl rfl
          | false => exact Or.inr ⟨rfl, by rw [Pp.rotE, if_neg (Pp.not_empty hpe)] at hrt; exact hrt⟩
        clear hrt htr
        rcases hrE with hpe | ⟨hpe, HPC⟩
        · go_enter Try.func13, Try.ntmps13
          go_wp2_with fail
          refine (tcheck_all L v _ HV.out HS.out).mono ?_
          rintro e w1 ⟨rfl, hb1⟩
          rw [HT.out]
          go_wp2_with fail
          refine (checkFolder_any L v p _ (HV.out.below hb1) HS1.out).mono ?_
          rintro e w2 ⟨rfl, hb2⟩
          have hb02 := below_trans hb1 hb2
          clear hb1 hb2
          go_wp2
          go_ret2
          exact ⟨_, by rw [HLE.out]; rfl, by rw [HLR.out]; exact liesT_nil _, hb02⟩
        · go_enter Try.func13, Try.ntmps13
          go_wp2_with fail
          refine (tcheck_all L v _ HV.out HS.out).mono ?_
          rintro e w1 ⟨rfl, hb1⟩
          rw [HT.out]
          go_wp2_with fail
          refine (check_any p _ (by omega)).mono ?_
          rintro e w2 ⟨rfl, hb2⟩
          rw [HPC.out]
          have hb02 := below_trans hb1 hb2
          clear hb1 hb2
          go_wp2_with fail
          refine (checkFolder_any L v p _ (HV.out.below hb02) HS1.out).mono ?_
          rintro e w3 ⟨rfl, hb3⟩
          have hb03 := below_trans hb02 hb3
          clear hb3 hb02
          go_wp2
          go_ret2
          exact ⟨_, by rw [HLE.out]; rfl, by rw [HLR.out]; exact liesT_nil _, hb03⟩
    · have HLE := hid (Pp.lis_rot htr hrt)
      have HLR := hid (Pp.lisR_no HLE.out hrt)
      have hpe : p.toList.isEmpty = false := by
        cases hpe : p.toList.isEmpty with
        | true => rw [Pp.rotE, if_pos ((Pp.empty_iff p).1 hpe)] at hrt; exact absurd rfl hrt
        | false => rfl
      have HRC : Hid (Pp.rotE p.data.toList = Pp.chk p.data.toList) := (if_neg (Pp.not_empty hpe) : Pp.rotE p.data.toList = Pp.chk p.data.toList)
      have hz : (Pp.chk p.data.toList == 0) = false := by rw [HRC.out] at hrt; simpa using hrt
      clear hrt htr
      go_enter Try.func13, Try.ntmps13
      go_wp2_with fail
      refine (tcheck_all L v _ HV.out HS.out).mono ?_
      rintro e w1 ⟨rfl, hb1⟩
      rw [HT.out]
      go_wp2_with fail
      refine (check_any p _ (by omega)).mono ?_
      rintro e w2 ⟨rfl, hb2⟩
      have hb02 := below_trans hb1 hb2
      clear hb1 hb2
      go_wp2
      go_ret2
      exact ⟨_, by rw [HLE.out, HRC.out]; rfl, by rw [HLR.out]; exact liesT_nil _, hb02⟩
  · have HLE := hid (Pp.lis_tree htr p.data.toList)
    have HLR := hid (Pp.lisR_no HLE.out htr)
    have hz : (Pp.treeE L == 0) = false := by simpa using htr
    go_enter Try.func13, Try.ntmps13
    go_wp2_with fail
    refine (tcheck_all L v _ HV.out HS.out).mono ?_
    rintro e w1 ⟨rfl, hb1⟩
    go_wp2
    go_ret2
    exact ⟨_, by rw [HLE.out]; rfl, by rw [HLR.out]; exact liesT_nil _, hb1⟩
end Go.Proofs.Ytgbokcmmknabcab
namespace Go.Proofs.Ytgbokcmmknabcab
open Go.RowKit

set_option maxRecDepth 100000 in
set_option maxHeartbeats 2000000 in
theorem listOf_any (L : List En) (v : Value) (p : ByteArray) (w : World) (hv : Lies w v L) (hL : Pp.Good L) :
    Calls Try.prog 16 #[v, .string p] w fun e w' => ∃ u, e = .returned u ∧ LiesT w' u (Pp.namesIn p.data.toList L) ∧ Below w.heap.size w w' := by
  have hlen := hL.len
  have HG := hid hL
  have HES : Hid (∀ e ∈ L, e.path.size ≤ 80) := (fun e he => by rw [Lib.size_eq]; exact Pp.chk_len (Pp.entE_path (hL.ents e he)) : ∀ e ∈ L, e.path.size ≤ 80)
  obtain ⟨a, cap, rfl, hcap, hcap2, hLL⟩ := hv
  have HL : Hid (∀ i (h : i < L.length), ∃ b o, a = some ⟨b, o, none⟩ ∧ b < w.heap.size ∧ EnAt w b (o + i * 4) L[i]) := hLL
  clear hLL hL
  go_enter Try.func16, Try.ntmps16
  go_wp2_with fail
  go_loopw [5, 6] (fun o i wr => ∃ k : Nat, k ≤ L.length ∧ i = .int .i64 k ∧ Hid (LiesT wr o (Pp.namesIn p.data.toList (L.take k))) ∧ Below w.heap.size w wr) (fun _ i _ => L.length - (intOf i).toNat)
  case atStart => exact ⟨0, Nat.zero_le _, rfl, liesT_nil _, Below.refl _ _⟩
  case round =>
    obtain ⟨k, hk, rfl, HU, hbel⟩ := hrel
    by_cases hlt : k < L.length
    · obtain ⟨b, o, rfl, hb, he⟩ := HL.out k hlt
      obtain ⟨c0, c1, c2, c3⟩ := he.below hb hbel
      have hsz := HES.out _ (List.getElem_mem hlt)
      have HST := hid (Pp.names_take (p := p.data.toList) hlt)
      have hXl : (Pp.namesIn p.data.toList (L.take k)).length ≤ 60 := by
        rw [Pp.namesIn, List.length_map]
        exact Nat.le_trans (List.length_filter_le _ _) (by rw [List.length_take]; omega)
      go_wp2_with fail
      refine (parentOf_any (L[k]).path _ (by omega)).mono ?_
      rintro e w1 ⟨rfl, hb1⟩
      have hbel1 := hbel.trans (hb1.mono hbel.size)
      have HU1 := hid (HU.out.below hb1)
      clear c0 c1 c2 c3 hbel hb1 HU
      obtain ⟨c0, c1, c2, c3⟩ := he.below hb hbel1
      cases hin : Pp.inP p.data.toList L[k] with
      | true =>
        have hp2 : ((⟨(Pp.par (L[k]).path.data.toList).toArray⟩ : ByteArray).toList == p.toList) = true := by rw [Pp.bytes_of, Lib.toList_data]; exact hin
        have HLS := hid (Pp.names_less HG.out hlt hin)
        have HS2 : Hid (Pp.namesIn p.data.toList (L.take (k + 1)) = Pp.namesIn p.data.toList (L.take k) ++ [Pp.lst (L[k]).path.data.toList]) := (by rw [HST.out, if_pos hin] : Pp.namesIn p.data.toList (L.take (k + 1)) = Pp.namesIn p.data.toList (L.take k) ++ [Pp.lst (L[k]).path.data.toList])
        clear hin HST
        generalize (⟨(Pp.par (L[k]).path.data.toList).toArray⟩ : ByteArray) = x at *
        go_wp2_with fail
        refine (lastOf_any (L[k]).path _ (by omega)).mono ?_
        rintro e w2 ⟨rfl, hb2⟩
        have hbel2 := hbel1.trans (hb2.mono hbel1.size)
        have HU2 := hid (HU1.out.below hb2)
        clear c0 c1 c2 c3 hbel1 hb2 HU1 hp2
        go_wp2_with fail
        refine (putText_end (Pp.namesIn p.data.toList (L.take k)) _ ⟨(Pp.lst (L[k]).path.data.toList).toArray⟩ _ HU2.out (by omega) HLS.out).mono ?_
        rintro e w3 ⟨u3, rfl, hli, hb3⟩
        have HU3 : Hid (LiesT w3 u3 (Pp.namesIn p.data.toList (L.take (k + 1)))) := (by rw [HS2.out]; exact hli : LiesT w3 u3 (Pp.namesIn p.data.toList (L.take (k + 1))))
        have hbel3 := hbel2.trans (hb3.mono hbel2.size)
        clear hli hb3 hbel2 HU2
        go_wp2_with fail
        go_roundw
        case rel => exact ⟨k + 1, by omega, by simp, HU3, hbel3⟩
        case measure => simp [intOf]; omega
      | false =>
        have hp2 : ((⟨(Pp.par (L[k]).path.data.toList).toArray⟩ : ByteArray).toList == p.toList) = false := by rw [Pp.bytes_of, Lib.toList_data]; exact hin
        have HS2 : Hid (Pp.namesIn p.data.toList (L.take (k + 1)) = Pp.namesIn p.data.toList (L.take k)) := (by rw [HST.out, if_neg (by rw [hin]; decide)] : Pp.namesIn p.data.toList (L.take (k + 1)) = Pp.namesIn p.data.toList (L.take k))
        clear hin HST
        generalize (⟨(Pp.par (L[k]).path.data.toList).toArray⟩ : ByteArray) = x at *
        go_wp2_with fail
        go_roundw
        case rel => exact ⟨k + 1, by omega, by simp, (by rw [HS2.out]; exact HU1.out : LiesT _ _ (Pp.namesIn p.data.toList (L.take (k + 1)))), hbel1⟩
        case measure => simp [intOf]; omega
    · have eL : L.take k = L := List.take_of_length_le (by omega)
      rw [eL] at HU
      go_wp2_with fail
      go_ret
      exact ⟨_, rfl, HU.out, hbel⟩
end Go.Proofs.Ytgbokcmmknabcab
namespace Go.Proofs.Ytgbokcmmknabcab
open Go.RowKit

set_option maxHeartbeats 1000000 in
theorem tsize_all (L : List En) (v : Value) (w : World) (hv : Lies w v L) (hs : Sized L) :
    Calls Try.prog 14 #[v] w fun e w' => e = .returned (.tuple #[.int .i64 (if Pp.treeE L = 0 then (Pp.sumT L : Int) else 0), .int .i64 (Pp.treeE L)]) ∧ Below w.heap.size w w' := by
  by_cases h60 : L.length ≤ 1000000000
  · exact tsize_any L v w hv h60 hs
  · have HV := hid hv
    have HS := hid hs
    have htr : ¬ Pp.treeE L = 0 := by rw [Pp.treeE, if_pos (by omega)]; decide
    have hz : (Pp.treeE L == 0) = false := by simpa using htr
    rw [if_neg htr]
    clear hv hs
    go_enter Try.func14, Try.ntmps14
    go_wp2_with fail
    refine (tcheck_all L _ _ HV.out HS.out).mono ?_
    rintro e w1 ⟨rfl, hb1⟩
    go_wp2
    go_ret2
    exact ⟨rfl, hb1⟩

set_option maxRecDepth 100000 in
set_option maxHeartbeats 4000000 in
theorem treeLists_walk (L : List En) (v : Value) (p : ByteArray) (w : World) (hv : Lies w v L) (hs : ∀ e ∈ L, e.path.size ≤ 1000000000 ∧ e.text.size ≤ 1000000000) (hp : p.size ≤ 1000000000) :
    Calls Try.prog 5 #[v, .string p] w fun e w' => e = .returned (.bool true) ∧ Below w.heap.size w w' := by
  have HV := hid hv
  have HS : Hid (Sized L) := (fun e he => ⟨by have := (hs e he).1; omega, by have := (hs e he).2; omega⟩ : Sized L)
  have HP : Hid (∀ e ∈ L, e.path.size ≤ 1000000000) := (fun e he => (hs e he).1 : ∀ e ∈ L, e.path.size ≤ 1000000000)
  obtain ⟨a, cap, rfl, hcap, hcap2, hLL⟩ := hv
  have HL : Hid (∀ i (h : i < L.length), ∃ b o, a = some ⟨b, o, none⟩ ∧ b < w.heap.size ∧ EnAt w b (o + i * 4) L[i]) := hLL
  clear hLL hs
  by_cases htr : Pp.treeE L = 0
  · have HT := hid htr
    have HG := hid ((Pp.good_iff L).1 htr)
    have hlen := ((Pp.good_iff L).1 htr).len
    have HXX : Hid (∀ k, Pp.sumT (L.take k) ≤ k * 300) := Pp.sumT_le (Pp.tree_texts htr)
    have HSZ : Hid ((if Pp.treeE L = 0 then (Pp.sumT L : Int) else 0) = Pp.sumT L ∧ Pp.treeE L = 0) := (⟨if_pos htr, htr⟩ : (if Pp.treeE L = 0 then (Pp.sumT L : Int) else 0) = Pp.sumT L ∧ Pp.treeE L = 0)
    by_cases hrt : Pp.rotE p.data.toList = 0
    · have hLE := Pp.lis_fold htr hrt
      cases hpe : p.toList.isEmpty with
      | true =>
        have hpn := (Pp.empty_iff p).1 hpe
        have hfo : Pp.foldE L p.data.toList = 0 := by rw [hpn]; exact Pp.fold_nil L
        have HF := hid hfo
        have HLE : Hid (Pp.lisE L p.data.toList = 0) := (hLE.trans hfo : Pp.lisE L p.data.toList = 0)
        have HLR : Hid (Pp.lisR L p.data.toList = Pp.namesIn p.data.toList L) := (by rw [Pp.lisR, if_pos HLE.out] : Pp.lisR L p.data.toList = Pp.namesIn p.data.toList L)
        clear htr hrt hLE hpn hfo
        go_enter Try.func5, Try.ntmps5
        go_wp2_with fail
        refine (tlist_any L _ p _ HV.out HS.out hp).mono ?_
        rintro e w1 ⟨u, rfl, hli, hb1⟩
        rw [HLE.out]
        rw [HLR.out] at hli
        have HU1 := hid hli
        clear hli
        go_wp2_with fail
        refine (tsize_all L _ _ (HV.out.below hb1) HS.out).mono ?_
        rintro e w2 ⟨rfl, hb2⟩
        rw [HSZ.out.1, HSZ.out.2]
        have hb02 := below_trans hb1 hb2
        have HU2 := hid (HU1.out.below hb2)
        clear hb1 hb2 HU1
        go_wp2_with fail
        refine (rCheckTree_any L _ _ (HV.out.below hb02) HP.out).mono ?_
        rintro e w3 ⟨rfl, hb3⟩
        rw [HT.out]
        have hb03 := below_trans hb02 hb3
        have HU3 := hid (HU2.out.below hb3)
        clear hb02 hb3 HU2
        go_wp2_with fail
        refine (isFolder_any L _ p _ (HV.out.below hb03)).mono ?_
        rintro e w4 ⟨rfl, hb4⟩
        rw [HF.out]
        have hb04 := below_trans hb03 hb4
        have HU4 := hid (HU3.out.below hb4)
        clear hb03 hb4 HU3
        go_wp2_with fail
        refine (listOf_any L _ p _ (HV.out.below hb04) HG.out).mono ?_
        rintro e w5 ⟨u5, rfl, hl5, hb5⟩
        have HW5 := hid hl5
        clear hl5
        have hb05 := below_trans hb04 hb5
        have HU5 := hid (HU4.out.below hb5)
        clear hb04 hb5 HU4
        go_wp2_with fail
        go_loopw [12, 13] (fun s i wr => ∃ k : Nat, k ≤ L.length ∧ i = .int .i64 k ∧ s = .int .i64 (Pp.sumT (L.take k) : Int) ∧ Below w5.heap.size w5 wr) (fun _ i _ => L.length - (intOf i).toNat)
        case atStart => exact ⟨0, Nat.zero_le _, rfl, by simp [Pp.sumT], Below.refl _ _⟩
        case round =>
          obtain ⟨k, hk, rfl, rfl, hbel⟩ := hrel
          have hbw := hb05.trans (hbel.mono hb05.size)
          have hsum := HXX.out k
          by_cases hlt : k < L.length
          · obtain ⟨b, o, rfl, hb, he⟩ := HL.out k hlt
            obtain ⟨c0, c1, c2, c3⟩ := he.below hb hbw
            have hsum2 := HXX.out (k + 1)
            have HST : Hid (Pp.sumT (L.take (k + 1)) = Pp.sumT (L.take k) + (L[k]).text.size) := Pp.sumT_take hlt
            rw [HST.out] at hsum2
            clear hbw
            go_wp2_with fail
            go_roundw
            case rel => exact ⟨k + 1, by omega, by simp, by rw [HST.out]; first | (simp; done) | (go_num), hbel⟩
            case measure => simp [intOf]; omega
          · have HST : Hid (Pp.sumT (L.take k) = Pp.sumT L) := (by rw [List.take_of_length_le (by omega)] : Pp.sumT (L.take k) = Pp.sumT L)
            rw [HST.out]
            have HUr := hid (HU5.out.below hbel)
            have HWr := hid (HW5.out.below hbel)
            clear hbel hsum
            generalize Pp.sumT L = sz at *
            go_wp2_with fail
            refine (begun_yes _).mono ?_
            rintro e w20 ⟨rfl, hb20⟩
            have hb020 := hbw.trans (hb20.mono hbw.size)
            go_wp2_with fail
            refine (sameTexts_yes (Pp.namesIn p.data.toList L) _ _ _ (HUr.out.below hb20) (HWr.out.below hb20)).mono ?_
            rintro e w21 ⟨rfl, hb21⟩
            go_wp2
            go_ret
            exact ⟨rfl, below_trans hb020 hb21⟩
      | false =>
        have HPC : Hid (Pp.chk p.data.toList = 0) := (by rw [Pp.rotE, if_neg (Pp.not_empty hpe)] at hrt; exact hrt : Pp.chk p.data.toList = 0)
        by_cases hfo : Pp.foldE L p.data.toList = 0
        · have HF := hid hfo
          have HLE : Hid (Pp.lisE L p.data.toList = 0) := (hLE.trans hfo : Pp.lisE L p.data.toList = 0)
          have HLR : Hid (Pp.lisR L p.data.toList = Pp.namesIn p.data.toList L) := (by rw [Pp.lisR, if_pos HLE.out] : Pp.lisR L p.data.toList = Pp.namesIn p.data.toList L)
          clear htr hrt hLE hfo
          go_enter Try.func5, Try.ntmps5
          go_wp2_with fail
          refine (tlist_any L _ p _ HV.out HS.out hp).mono ?_
          rintro e w1 ⟨u, rfl, hli, hb1⟩
          rw [HLE.out]
          rw [HLR.out] at hli
          have HU1 := hid hli
          clear hli
          go_wp2_with fail
          refine (tsize_all L _ _ (HV.out.below hb1) HS.out).mono ?_
          rintro e w2 ⟨rfl, hb2⟩
          rw [HSZ.out.1, HSZ.out.2]
          have hb02 := below_trans hb1 hb2
          have HU2 := hid (HU1.out.below hb2)
          clear hb1 hb2 HU1
          go_wp2_with fail
          refine (rCheckTree_any L _ _ (HV.out.below hb02) HP.out).mono ?_
          rintro e w3 ⟨rfl, hb3⟩
          rw [HT.out]
          have hb03 := below_trans hb02 hb3
          have HU3 := hid (HU2.out.below hb3)
          clear hb02 hb3 HU2
          go_wp2_with fail
          refine (rCheck_any p _ hp).mono ?_
          rintro e w4 ⟨rfl, hb4⟩
          rw [HPC.out]
          have hb04 := below_trans hb03 hb4
          have HU4 := hid (HU3.out.below hb4)
          clear hb03 hb4 HU3
          go_wp2_with fail
          refine (isFolder_any L _ p _ (HV.out.below hb04)).mono ?_
          rintro e w5 ⟨rfl, hb5⟩
          rw [HF.out]
          have hb05 := below_trans hb04 hb5
          have HU5 := hid (HU4.out.below hb5)
          clear hb04 hb5 HU4
          go_wp2_with fail
          refine (listOf_any L _ p _ (HV.out.below hb05) HG.out).mono ?_
          rintro e w6 ⟨u6, rfl, hl6, hb6⟩
          have HW6 := hid hl6
          clear hl6
          have hb06 := below_trans hb05 hb6
          have HU6 := hid (HU5.out.below hb6)
          clear hb05 hb6 HU5
          go_wp2_with fail
          go_loopw [12, 13] (fun s i wr => ∃ k : Nat, k ≤ L.length ∧ i = .int .i64 k ∧ s = .int .i64 (Pp.sumT (L.take k) : Int) ∧ Below w6.heap.size w6 wr) (fun _ i _ => L.length - (intOf i).toNat)
          case atStart => exact ⟨0, Nat.zero_le _, rfl, by simp [Pp.sumT], Below.refl _ _⟩
          case round =>
            obtain ⟨k, hk, rfl, rfl, hbel⟩ := hrel
            have hbw := hb06.trans (hbel.mono hb06.size)
            have hsum := HXX.out k
            by_cases hlt : k < L.length
            · obtain ⟨b, o, rfl, hb, he⟩ := HL.out k hlt
              obtain ⟨c0, c1, c2, c3⟩ := he.below hb hbw
              have hsum2 := HXX.out (k + 1)
              have HST : Hid (Pp.sumT (L.take (k + 1)) = Pp.sumT (L.take k) + (L[k]).text.size) := Pp.sumT_take hlt
              rw [HST.out] at hsum2
              clear hbw
              go_wp2_with fail
              go_roundw
              case rel => exact ⟨k + 1, by omega, by simp, by rw [HST.out]; first | (simp; done) | (go_num), hbel⟩
              case measure => simp [intOf]; omega
            · have HST : Hid (Pp.sumT (L.take k) = Pp.sumT L) := (by rw [List.take_of_length_le (by omega)] : Pp.sumT (L.take k) = Pp.sumT L)
              rw [HST.out]
              have HUr := hid (HU6.out.below hbel)
              have HWr := hid (HW6.out.below hbel)
              clear hbel hsum
              generalize Pp.sumT L = sz at *
              go_wp2_with fail
              refine (begun_yes _).mono ?_
              rintro e w20 ⟨rfl, hb20⟩
              have hb020 := hbw.trans (hb20.mono hbw.size)
              go_wp2_with fail
              refine (sameTexts_yes (Pp.namesIn p.data.toList L) _ _ _ (HUr.out.below hb20) (HWr.out.below hb20)).mono ?_
              rintro e w21 ⟨rfl, hb21⟩
              go_wp2
              go_ret
              exact ⟨rfl, below_trans hb020 hb21⟩
        · have HLE := hid hLE
          have HLR := hid (Pp.lisR_no hLE hfo)
          have hzf : (Pp.foldE L p.data.toList == 0) = false := by simpa using hfo
          clear htr hrt hLE
          go_enter Try.func5, Try.ntmps5
          go_wp2_with fail
          refine (tlist_any L _ p _ HV.out HS.out hp).mono ?_
          rintro e w1 ⟨u, rfl, hli, hb1⟩
          rw [HLE.out]
          rw [HLR.out] at hli
          have HU1 := hid hli
          clear hli
          go_wp2_with fail
          refine (tsize_all L _ _ (HV.out.below hb1) HS.out).mono ?_
          rintro e w2 ⟨rfl, hb2⟩
          rw [HSZ.out.1, HSZ.out.2]
          have hb02 := below_trans hb1 hb2
          have HU2 := hid (HU1.out.below hb2)
          clear hb1 hb2 HU1
          go_wp2_with fail
          refine (rCheckTree_any L _ _ (HV.out.below hb02) HP.out).mono ?_
          rintro e w3 ⟨rfl, hb3⟩
          rw [HT.out]
          have hb03 := below_trans hb02 hb3
          have HU3 := hid (HU2.out.below hb3)
          clear hb02 hb3 HU2
          go_wp2_with fail
          refine (rCheck_any p _ hp).mono ?_
          rintro e w4 ⟨rfl, hb4⟩
          rw [HPC.out]
          have hb04 := below_trans hb03 hb4
          have HU4 := hid (HU3.out.below hb4)
          clear hb03 hb4 HU3
          go_wp2_with fail
          refine (isFolder_any L _ p _ (HV.out.below hb04)).mono ?_
          rintro e w5 ⟨rfl, hb5⟩
          have hb05 := below_trans hb04 hb5
          have HU5 := hid (HU4.out.below hb5)
          clear hb04 hb5 HU4
          go_wp2_with fail
          go_loopw [12, 13] (fun s i wr => ∃ k : Nat, k ≤ L.length ∧ i = .int .i64 k ∧ s = .int .i64 (Pp.sumT (L.take k) : Int) ∧ Below w5.heap.size w5 wr) (fun _ i _ => L.length - (intOf i).toNat)
          case atStart => exact ⟨0, Nat.zero_le _, rfl, by simp [Pp.sumT], Below.refl _ _⟩
          case round =>
            obtain ⟨k, hk, rfl, rfl, hbel⟩ := hrel
            have hbw := hb05.trans (hbel.mono hb05.size)
            have hsum := HXX.out k
            by_cases hlt : k < L.length
            · obtain ⟨b, o, rfl, hb, he⟩ := HL.out k hlt
              obtain ⟨c0, c1, c2, c3⟩ := he.below hb hbw
              have hsum2 := HXX.out (k + 1)
              have HST : Hid (Pp.sumT (L.take (k + 1)) = Pp.sumT (L.take k) + (L[k]).text.size) := Pp.sumT_take hlt
              rw [HST.out] at hsum2
              clear hbw
              go_wp2_with fail
              go_roundw
              case rel => exact ⟨k + 1, by omega, by simp, by rw [HST.out]; first | (simp; done) | (go_num), hbel⟩
              case measure => simp [intOf]; omega
            · have HST : Hid (Pp.sumT (L.take k) = Pp.sumT L) := (by rw [List.take_of_length_le (by omega)] : Pp.sumT (L.take k) = Pp.sumT L)
              rw [HST.out]
              have HUr := hid (HU5.out.below hbel)
              skip
              clear hbel hsum
              generalize Pp.sumT L = sz at *
              go_wp2_with fail
              refine (begun_yes _).mono ?_
              rintro e w20 ⟨rfl, hb20⟩
              have hb020 := hbw.trans (hb20.mono hbw.size)
              go_wp2_with fail
              refine (sameTexts_yes ([]) _ _ _ (HUr.out.below hb20) (liesT_nil _)).mono ?_
              rintro e w21 ⟨rfl, hb21⟩
              go_wp2
              go_ret
              exact ⟨rfl, below_trans hb020 hb21⟩
    · have hLE := Pp.lis_rot htr hrt
      have hpe : p.toList.isEmpty = false := by
        cases hpe : p.toList.isEmpty with
        | true => rw [Pp.rotE, if_pos ((Pp.empty_iff p).1 hpe)] at hrt; exact absurd rfl hrt
        | false => rfl
      have HRC : Hid (Pp.rotE p.data.toList = Pp.chk p.data.toList) := (if_neg (Pp.not_empty hpe) : Pp.rotE p.data.toList = Pp.chk p.data.toList)
      have HLE := hid hLE
      have HLR := hid (Pp.lisR_no hLE hrt)
      have hzr : (Pp.rotE p.data.toList == 0) = false := by simpa using hrt
      clear htr hLE
      go_enter Try.func5, Try.ntmps5
      go_wp2_with fail
      refine (tlist_any L _ p _ HV.out HS.out hp).mono ?_
      rintro e w1 ⟨u, rfl, hli, hb1⟩
      rw [HLE.out]
      rw [HLR.out] at hli
      have HU1 := hid hli
      clear hli
      go_wp2_with fail
      refine (tsize_all L _ _ (HV.out.below hb1) HS.out).mono ?_
      rintro e w2 ⟨rfl, hb2⟩
      rw [HSZ.out.1, HSZ.out.2]
      have hb02 := below_trans hb1 hb2
      have HU2 := hid (HU1.out.below hb2)
      clear hb1 hb2 HU1
      go_wp2_with fail
      refine (rCheckTree_any L _ _ (HV.out.below hb02) HP.out).mono ?_
      rintro e w3 ⟨rfl, hb3⟩
      rw [HT.out]
      have hb03 := below_trans hb02 hb3
      have HU3 := hid (HU2.out.below hb3)
      clear hb02 hb3 HU2
      go_wp2_with fail
      refine (rCheck_any p _ hp).mono ?_
      rintro e w4 ⟨rfl, hb4⟩
      rw [← HRC.out]
      have hb04 := below_trans hb03 hb4
      have HU4 := hid (HU3.out.below hb4)
      clear hb03 hb4 HU3
      go_wp2_with fail
      go_loopw [12, 13] (fun s i wr => ∃ k : Nat, k ≤ L.length ∧ i = .int .i64 k ∧ s = .int .i64 (Pp.sumT (L.take k) : Int) ∧ Below w4.heap.size w4 wr) (fun _ i _ => L.length - (intOf i).toNat)
      case atStart => exact ⟨0, Nat.zero_le _, rfl, by simp [Pp.sumT], Below.refl _ _⟩
      case round =>
        obtain ⟨k, hk, rfl, rfl, hbel⟩ := hrel
        have hbw := hb04.trans (hbel.mono hb04.size)
        have hsum := HXX.out k
        by_cases hlt : k < L.length
        · obtain ⟨b, o, rfl, hb, he⟩ := HL.out k hlt
          obtain ⟨c0, c1, c2, c3⟩ := he.below hb hbw
          have hsum2 := HXX.out (k + 1)
          have HST : Hid (Pp.sumT (L.take (k + 1)) = Pp.sumT (L.take k) + (L[k]).text.size) := Pp.sumT_take hlt
          rw [HST.out] at hsum2
          clear hbw
          go_wp2_with fail
          go_roundw
          case rel => exact ⟨k + 1, by omega, by simp, by rw [HST.out]; first | (simp; done) | (go_num), hbel⟩
          case measure => simp [intOf]; omega
        · have HST : Hid (Pp.sumT (L.take k) = Pp.sumT L) := (by rw [List.take_of_length_le (by omega)] : Pp.sumT (L.take k) = Pp.sumT L)
          rw [HST.out]
          have HUr := hid (HU4.out.below hbel)
          skip
          clear hbel hsum
          generalize Pp.sumT L = sz at *
          go_wp2_with fail
          refine (begun_yes _).mono ?_
          rintro e w20 ⟨rfl, hb20⟩
          have hb020 := hbw.trans (hb20.mono hbw.size)
          go_wp2_with fail
          refine (sameTexts_yes ([]) _ _ _ (HUr.out.below hb20) (liesT_nil _)).mono ?_
          rintro e w21 ⟨rfl, hb21⟩
          go_wp2
          go_ret
          exact ⟨rfl, below_trans hb020 hb21⟩
  · have hLE := Pp.lis_tree htr p.data.toList
    have HLE := hid hLE
    have HLR := hid (Pp.lisR_no hLE htr)
    have hzt : (Pp.treeE L == 0) = false := by simpa using htr
    have HSZ : Hid ((if Pp.treeE L = 0 then (Pp.sumT L : Int) else 0) = 0) := (if_neg htr : (if Pp.treeE L = 0 then (Pp.sumT L : Int) else 0) = 0)
    clear hLE
    cases hpe : p.toList.isEmpty
    all_goals
      go_enter Try.func5, Try.ntmps5
      go_wp2_with fail
      refine (tlist_any L _ p _ HV.out HS.out hp).mono ?_
      rintro e w1 ⟨u, rfl, hli, hb1⟩
      rw [HLE.out]
      rw [HLR.out] at hli
      have HU1 := hid hli
      clear hli
      go_wp2_with fail
      refine (tsize_all L _ _ (HV.out.below hb1) HS.out).mono ?_
      rintro e w2 ⟨rfl, hb2⟩
      rw [HSZ.out]
      have hb02 := below_trans hb1 hb2
      have HU2 := hid (HU1.out.below hb2)
      clear hb1 hb2 HU1
      go_wp2_with fail
      refine (rCheckTree_any L _ _ (HV.out.below hb02) HP.out).mono ?_
      rintro e w3 ⟨rfl, hb3⟩
      have hb03 := below_trans hb02 hb3
      have HU3 := hid (HU2.out.below hb3)
      clear hb02 hb3 HU2
      go_wp2_with fail
      go_loopw [12, 13] (fun s i wr => i = .int .i64 0 ∧ s = .int .i64 0 ∧ Below w3.heap.size w3 wr) (fun _ _ _ => 0)
      case atStart => exact ⟨rfl, rfl, Below.refl _ _⟩
      case round =>
        obtain ⟨rfl, rfl, hbel⟩ := hrel
        have hbw := hb03.trans (hbel.mono hb03.size)
        have HUr := hid (HU3.out.below hbel)
        clear hbel
        by_cases hlt : 0 < L.length
        all_goals
          go_wp2_with fail
          refine (begun_yes _).mono ?_
          rintro e w20 ⟨rfl, hb20⟩
          have hb020 := hbw.trans (hb20.mono hbw.size)
          go_wp2_with fail
          refine (sameTexts_yes [] _ _ _ (HUr.out.below hb20) (liesT_nil _)).mono ?_
          rintro e w21 ⟨rfl, hb21⟩
          go_wp2
          go_ret
          exact ⟨rfl, below_trans hb020 hb21⟩
end Go.Proofs.Ytgbokcmmknabcab
