/- Plain mathematics of paths, fifth part: there and back; apart. -/
import Derived.Test.YthfdmdjmbbollaaGreatDoorPure4
set_option linter.unusedSimpArgs false
set_option linter.unusedVariables false
namespace Go.Proofs.YthfdmdjmbbollaaGreatDoor.Pp

theorem chk_len {l : List UInt8} (h : chk l = 0) : l.length ≤ 80 := by
  have hb := chk_not_big h
  simp only [big, Bool.or_eq_false_iff, decide_eq_false_iff_not] at hb
  omega
theorem nil_no : nameB [] = false := by decide
theorem par_ne {l : List UInt8} (h : chk l = 0) (e : l = par l ++ 47 :: lst l) : par l ≠ [] := by
  intro e2
  have h1 := chk_names h
  rw [e, e2, nm_app] at h1
  simp [nm, nil_no] at h1
theorem jn_parts {l : List UInt8} (h : chk l = 0) : jn (par l) (lst l) = l := by
  rcases last_split4 l with ⟨_, e1, e2⟩ | ⟨e, _⟩
  · rw [e1, e2, jn, if_pos rfl]
  · rw [jn, if_neg (par_ne h e)]; exact e.symm
theorem chk_par {l : List UInt8} (h : chk l = 0) : jnP (par l) = 0 := by
  rcases last_split4 l with ⟨_, e1, _⟩ | ⟨e, h47⟩
  · rw [e1, jnP, if_pos rfl]
  · rw [jnP, if_neg (par_ne h e)]
    have h2 : (nm (par l)).all nameB = true := by
      rcases (names_parts (chk_names h)).2 with h2 | h2
      · exact absurd h2 (par_ne h e)
      · exact h2
    rw [chk_big h2, if_neg]
    have hb := chk_not_big h
    intro hbp
    simp only [big, Bool.or_eq_true, decide_eq_true_eq, Bool.or_eq_false_iff, decide_eq_false_iff_not] at hb hbp
    have e3 : (nm l).length = (nm (par l)).length + 1 := by
      conv => lhs; rw [e, nm_app, nm_none _ h47]
      simp
    have := len_par l
    omega
theorem jnE_parts {l : List UInt8} (h : chk l = 0) : jnE (par l) (lst l) = 0 := by
  rw [jnE, if_pos (chk_par h), if_pos (names_parts (chk_names h)).1, jn_parts h]; exact h

theorem mv_ok {p f t : List UInt8} (h : mvE p f t = 0) : chk p = 0 ∧ chk f = 0 ∧ chk t = 0 ∧ isInB p f = true ∧ chk (mvT p f t) = 0 := by
  unfold mvE at h
  split at h
  · rename_i hz
    split at h
    · rename_i hi
      obtain ⟨h1, hz⟩ := chks_zero hz
      obtain ⟨h2, hz⟩ := chks_zero hz
      obtain ⟨h3, _⟩ := chks_zero hz
      exact ⟨h1, h2, h3, hi, h⟩
    · simp at h
  · rename_i hz; exact absurd h hz
theorem mv_in {p f : List UInt8} (t : List UInt8) (hi : isInB p f = true) : isInB (mvT p f t) t = true := by
  rw [isIn_of]
  rcases (isIn_of p f).1 hi with e | ⟨r, e⟩
  · left; rw [e]; simp [mvT]
  · right; exact ⟨r, by rw [e]; simp [mvT]⟩
theorem mv_again {p f : List UInt8} (t : List UInt8) (hi : isInB p f = true) : mvT (mvT p f t) t f = p := by
  rcases (isIn_of p f).1 hi with e | ⟨r, e⟩
  · rw [e]; simp [mvT]
  · rw [e]; simp [mvT]
theorem chks_three {a b c : List UInt8} (h1 : chk a = 0) (h2 : chk b = 0) (h3 : chk c = 0) : chks [a, b, c] = 0 := by simp [chks, h1, h2, h3]
theorem chks_two {a b : List UInt8} (h1 : chk a = 0) (h2 : chk b = 0) : chks [a, b] = 0 := by simp [chks, h1, h2]
theorem mvE_back {p f t : List UInt8} (h : mvE p f t = 0) : mvE (mvT p f t) t f = 0 := by
  obtain ⟨h1, h2, h3, hi, h5⟩ := mv_ok h
  rw [mvE, if_pos (chks_three h5 h3 h2), if_pos (mv_in t hi), mv_again t hi]
  exact h1

theorem aside_ok {l : List UInt8} {n : Int} (h : asideE l n = 0) : chk l = 0 ∧ 1 ≤ n ∧ n ≤ 99 ∧ asideS l n.toNat ≠ [] ∧ chk (asideT l n.toNat) = 0 := by
  unfold asideE at h
  split at h
  · rename_i hz
    split at h
    · simp at h
    · rename_i hn
      split at h
      · simp at h
      · rename_i hs
        exact ⟨hz, by omega, by omega, hs, h⟩
  · rename_i hz; exact absurd h hz
theorem aside_par {l : List UInt8} {n : Int} (h : asideE l n = 0) : par (asideT l n.toNat) = par l := by
  obtain ⟨hz, _, _, hs, _⟩ := aside_ok h
  have h47 := no_slash (aside_name n.toNat (names_parts (chk_names hz)).1 hs)
  rw [asideT_eq]
  unfold jn
  split
  · rename_i e; rw [e]; exact par_none h47
  · exact par_cut _ h47

theorem dec_no40 (n : Nat) : (40 : UInt8) ∉ Lib.decDigits n := by
  have : ∀ (m u : Nat), u < m → (40 : UInt8) ∉ Lib.decDigits u := by
    intro m
    induction m with
    | zero => intro u h; exact absurd h (Nat.not_lt_zero _)
    | succ m ih =>
      intro u h hm
      have hd : ∀ k, (40 : UInt8) ≠ UInt8.ofNat (48 + k % 10) := by
        intro k e
        have := congrArg UInt8.toNat e
        rw [UInt8.toNat_ofNat'] at this
        have h40 : (40 : UInt8).toNat = 40 := rfl
        omega
      rw [Lib.decDigits] at hm
      split at hm
      · rename_i h1
        rw [List.mem_singleton, show 48 + u = 48 + u % 10 by omega] at hm
        exact hd u hm
      · rcases List.mem_append.1 hm with hm | hm
        · exact ih (u / 10) (by omega) hm
        · rw [List.mem_singleton] at hm; exact hd u hm
  exact this (n + 1) n (Nat.lt_succ_self n)
theorem dec_inj {a b : Nat} (ha : a < 100) (hb : b < 100) (h : Lib.decDigits a = Lib.decDigits b) : a = b := by
  have : ∀ x y : Fin 100, Lib.decDigits x.1 = Lib.decDigits y.1 → x.1 = y.1 := by decide +kernel
  exact this ⟨a, ha⟩ ⟨b, hb⟩ h
theorem split_last {a b c d : List UInt8} (x : UInt8) (hb : x ∉ b) (hd : x ∉ d) (h : a ++ x :: b = c ++ x :: d) : b = d := by
  have h2 := congrArg List.reverse h
  simp only [List.reverse_append, List.reverse_cons, List.append_assoc, List.singleton_append] at h2
  have hb' : x ∉ b.reverse := by simpa using hb
  have hd' : x ∉ d.reverse := by simpa using hd
  have e1 := idx_of b.reverse a.reverse x hb'
  have e2 := idx_of d.reverse c.reverse x hd'
  rw [h2, e2] at e1
  have hl : d.reverse.length = b.reverse.length := by omega
  have := List.append_inj_left h2 hl.symm
  exact List.reverse_inj.1 this
theorem aside_apart {l : List UInt8} {n m : Int} (hn : asideE l n = 0) (hm : asideE l m = 0) (h : asideT l n.toNat = asideT l m.toNat) : n = m := by
  obtain ⟨hz, n1, n2, hs, _⟩ := aside_ok hn
  obtain ⟨_, m1, m2, hs2, _⟩ := aside_ok hm
  have e : asideS l n.toNat ++ mark n.toNat ++ ending (lst l) = asideS l m.toNat ++ mark m.toNat ++ ending (lst l) := by
    rw [asideT_eq, asideT_eq] at h
    unfold jn at h
    split at h
    · exact h
    · have := List.append_cancel_left h
      exact (List.cons.inj this).2
  have e2 := List.append_cancel_right e
  unfold mark at e2
  rw [show asideS l n.toNat ++ 32 :: 40 :: (Lib.decDigits n.toNat ++ [41]) = (asideS l n.toNat ++ [32]) ++ 40 :: (Lib.decDigits n.toNat ++ [41]) by simp, show asideS l m.toNat ++ 32 :: 40 :: (Lib.decDigits m.toNat ++ [41]) = (asideS l m.toNat ++ [32]) ++ 40 :: (Lib.decDigits m.toNat ++ [41]) by simp] at e2
  have h40 : ∀ k : Nat, (40 : UInt8) ∉ Lib.decDigits k ++ [41] := by
    intro k hk
    rcases List.mem_append.1 hk with hk | hk
    · exact dec_no40 k hk
    · rw [List.mem_singleton] at hk; revert hk; decide
  have e3 := split_last 40 (h40 _) (h40 _) e2
  have e4 := dec_inj (by omega) (by omega) (List.append_cancel_right e3)
  omega

end Go.Proofs.YthfdmdjmbbollaaGreatDoor.Pp
