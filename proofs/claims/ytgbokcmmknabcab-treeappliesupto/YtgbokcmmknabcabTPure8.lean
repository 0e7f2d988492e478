/- What the reference's ChangeOf puts together of a move, entry by entry. -/
import Derived.Test.YtgbokcmmknabcabT25
set_option linter.unusedSimpArgs false
set_option linter.unusedVariables false
namespace Go.Proofs.Ytgbokcmmknabcab.Pp

theorem filter_step {f : En → Bool} {L : List En} {m : Nat} (hm : m < L.length) : (L.take (m + 1)).filter f = if f L[m] = true then (L.take m).filter f ++ [L[m]] else (L.take m).filter f := by
  rw [List.take_succ_eq_append_getElem hm, List.filter_append, List.filter_cons]
  split <;> simp
theorem insAll_snoc (ms : List En) (x : En) (K : List En) : insAll (ms ++ [x]) K = ins x (insAll ms K) := by rw [insAll, List.foldl_append]; rfl
/-- What was moved of the first entries. -/
def mvTo (L : List En) (c : Ch) (n : Int) (m : Nat) : List En := insAll (((L.take m).filter (wi c.p.data.toList)).map (mvd c n)) (keptL L c)
theorem mvTo_zero (L : List En) (c : Ch) (n : Int) : mvTo L c n 0 = keptL L c := rfl
theorem mvTo_all (L : List En) (c : Ch) (n : Int) : mvTo L c n L.length = insAll (mvL L c n) (keptL L c) := by rw [mvTo, List.take_length]; rfl
theorem mvTo_out {L : List En} {c : Ch} {n : Int} {m : Nat} (hm : m < L.length) (hw : wi c.p.data.toList L[m] = false) : mvTo L c n (m + 1) = mvTo L c n m := by
  rw [mvTo, filter_step hm, if_neg (by rw [hw]; decide)]; rfl
theorem mvTo_in {L : List En} (hL : Good L) {c : Ch} {n : Int} {m : Nat} (hd : (keptL L c ++ mvL L c n).Pairwise dif) (hm : m < L.length) (hw : wi c.p.data.toList L[m] = true) : putR (mvd c n L[m]) (mvTo L c n m) = mvTo L c n (m + 1) := by
  have e1 : goL L c = (L.take m).filter (wi c.p.data.toList) ++ L[m] :: (L.drop (m + 1)).filter (wi c.p.data.toList) := by
    have : L = L.take m ++ L[m] :: L.drop (m + 1) := by rw [List.getElem_cons_drop]; exact (List.take_append_drop m L).symm
    rw [goL]
    conv => lhs; rw [this]
    rw [List.filter_append, List.filter_cons, if_pos hw]
  have e2 : mvL L c n = ((L.take m).filter (wi c.p.data.toList)).map (mvd c n) ++ mvd c n L[m] :: ((L.drop (m + 1)).filter (wi c.p.data.toList)).map (mvd c n) := by
    rw [mvL, e1, List.map_append, List.map_cons]
  rw [e2, ← List.append_assoc] at hd
  have hd2 := List.pairwise_append.1 hd
  have hs : (mvTo L c n m).Pairwise (fun x y => lt x y = true) := insAll_sorted _ (List.Pairwise.filter _ hL.rise) hd2.1
  have ho : outE (mvd c n L[m]) (mvTo L c n m) = mvTo L c n m := by
    rw [outE, List.filter_eq_self]
    intro y hy
    have hy2 : y ∈ keptL L c ++ ((L.take m).filter (wi c.p.data.toList)).map (mvd c n) := (insAll_perm _ _).mem_iff.1 hy
    have hne := hd2.2.2 y hy2 (mvd c n L[m]) (by simp)
    rw [at_no hne]; rfl
  rw [putR_eq hs, ho, mvTo, mvTo, filter_step hm, if_pos hw, List.map_append, List.map_cons, List.map_nil, insAll_snoc]
theorem mvTo_len (L : List En) (c : Ch) (n : Int) (m : Nat) : (mvTo L c n m).length ≤ L.length := by
  have h1 : (mvTo L c n m).length = (keptL L c).length + ((L.take m).filter (wi c.p.data.toList)).length := by
    rw [mvTo, (insAll_perm _ _).length_eq, List.length_append, List.length_map]
  have h2 : ((L.take m).filter (wi c.p.data.toList)).length ≤ (L.filter (wi c.p.data.toList)).length := ((List.take_sublist m L).filter _).length_le
  have h3 : (keptL L c).length + (L.filter (wi c.p.data.toList)).length = L.length := by
    rw [keptL]
    have : ∀ (M : List En), (M.filter (fun e => !wi c.p.data.toList e)).length + (M.filter (wi c.p.data.toList)).length = M.length := by
      intro M
      induction M with
      | nil => rfl
      | cons x r ih =>
        rw [List.filter_cons, List.filter_cons]
        cases hx : wi c.p.data.toList x <;> simp <;> omega
    exact this L
  omega
theorem big_hit {L : List En} {c : Ch} {m : Nat} (hm : m < L.length) (hw : wi c.p.data.toList L[m] = true) (hb : big (mvP c L[m]) = true) : (goL L c).any (fun e => big (mvP c e)) = true :=
  List.any_eq_true.2 ⟨L[m], List.mem_filter.2 ⟨List.getElem_mem hm, hw⟩, hb⟩
theorem big_none {L : List En} {c : Ch} (h : ∀ j (h : j < L.length), wi c.p.data.toList L[j] = true → big (mvP c L[j]) = false) : (goL L c).any (fun e => big (mvP c e)) = false :=
  List.any_eq_false.2 fun e he => by
    obtain ⟨h1, h2⟩ := List.mem_filter.1 he
    obtain ⟨j, hj, rfl⟩ := List.getElem_of_mem h1
    rw [h j hj h2]; decide
end Go.Proofs.Ytgbokcmmknabcab.Pp
