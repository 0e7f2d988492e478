/- Plain mathematics of paths, fourth part: what goes aside is a path. -/
import Derived.Test.YthfdmdjmbbollaaGreatDoorMA
set_option linter.unusedSimpArgs false
set_option linter.unusedVariables false
namespace Go.Proofs.YthfdmdjmbbollaaGreatDoor.Pp

theorem last_split4 (l : List UInt8) : (47 ∉ l ∧ par l = [] ∧ lst l = l) ∨ (l = par l ++ 47 :: lst l ∧ 47 ∉ lst l) := by
  by_cases h : 47 ∈ l.reverse
  · right
    obtain ⟨a, b, ha, hab⟩ := split_at _ _ h
    have e : l = b.reverse ++ 47 :: a.reverse := by
      have := congrArg List.reverse hab
      simpa using this
    have h2 : 47 ∉ a.reverse := by simpa using ha
    have e1 : par l = b.reverse := by rw [e, par_cut _ h2]
    have e2 : lst l = a.reverse := by rw [e, lst_cut _ h2]
    rw [e1, e2]
    exact ⟨e, h2⟩
  · left
    have h2 : 47 ∉ l := by simpa using h
    exact ⟨h2, par_none h2, lst_none h2⟩
theorem names_parts {l : List UInt8} (h : (nm l).all nameB = true) : nameB (lst l) = true ∧ (par l = [] ∨ (nm (par l)).all nameB = true) := by
  rcases last_split4 l with ⟨h1, e1, e2⟩ | ⟨e, h1⟩
  · rw [nm_none l h1] at h
    rw [e2]
    exact ⟨by simpa using h, Or.inl e1⟩
  · rw [e, nm_app, nm_none _ h1, List.all_append] at h
    simp only [Bool.and_eq_true, List.all_cons, List.all_nil, Bool.and_true] at h
    exact ⟨h.2, Or.inr h.1⟩
theorem jn_names {p n : List UInt8} (hn : nameB n = true) (hp : p = [] ∨ (nm p).all nameB = true) : (nm (jn p n)).all nameB = true := by
  unfold jn
  split
  · rw [nm_none n (no_slash hn)]; simp [hn]
  · rename_i e
    rcases hp with h | h
    · exact absurd h e
    · rw [nm_app, nm_none n (no_slash hn)]
      exact all_app h (by simp [hn])

theorem name_iff (l : List UInt8) : nameB l = true ↔ (∀ c ∈ l, okB c = true) ∧ 1 ≤ l.length ∧ l.length ≤ 20 ∧ l.head? ≠ some 32 ∧ l.getLast? ≠ some 32 ∧ l ≠ [46] ∧ l ≠ [46, 46] := by
  simp only [nameB, Bool.and_eq_true, decide_eq_true_eq, bne_iff_ne, List.all_eq_true]
  constructor
  · rintro ⟨⟨⟨⟨⟨⟨a, b⟩, c⟩, d⟩, e⟩, f⟩, g⟩; exact ⟨a, b, c, d, e, f, g⟩
  · rintro ⟨a, b, c, d, e, f, g⟩; exact ⟨⟨⟨⟨⟨⟨a, b⟩, c⟩, d⟩, e⟩, f⟩, g⟩
theorem dig_ok (u : Nat) : okB (UInt8.ofNat (48 + u % 10)) = true := by
  rw [okB_iff, UInt8.toNat_ofNat']; omega
theorem dec_ok : ∀ (n u : Nat), u < n → ∀ c ∈ Lib.decDigits u, okB c = true
  | 0, u, h => absurd h (Nat.not_lt_zero _)
  | n + 1, u, h => by
    intro c hc
    rw [Lib.decDigits] at hc
    split at hc
    · rename_i h1
      rw [List.mem_singleton] at hc
      rw [hc, show 48 + u = 48 + u % 10 by omega]
      exact dig_ok u
    · rcases List.mem_append.1 hc with hc | hc
      · exact dec_ok n (u / 10) (by omega) c hc
      · rw [List.mem_singleton] at hc
        rw [hc]; exact dig_ok u
theorem mark_ok (n : Nat) : ∀ c ∈ mark n, okB c = true := by
  intro c hc
  simp only [mark, List.mem_cons, List.mem_append, List.mem_singleton] at hc
  rcases hc with rfl | rfl | hc | rfl | hc
  · decide
  · decide
  · exact dec_ok (n + 1) n (Nat.lt_succ_self n) c hc
  · decide
  · cases hc
theorem stem_ending (l : List UInt8) : stem l ++ ending l = l := List.take_append_drop _ _
theorem trim_sub (l : List UInt8) (c : UInt8) : ∃ r, l = Lib.trimRightB l c ++ r := by
  refine ⟨(l.reverse.takeWhile (· == c)).reverse, ?_⟩
  unfold Lib.trimRightB
  have := congrArg List.reverse (List.takeWhile_append_dropWhile (p := (· == c)) (l := l.reverse))
  rw [List.reverse_append, List.reverse_reverse] at this
  exact this.symm
theorem short_sub (l : List UInt8) (room : Int) : ∃ r, l = short l room ++ r := by
  unfold short
  split
  · exact ⟨[], by simp⟩
  · obtain ⟨r, hr⟩ := trim_sub (l.take room.toNat) 32
    refine ⟨r ++ l.drop room.toNat, ?_⟩
    rw [← List.append_assoc, ← hr, List.take_append_drop]
theorem short_len {l : List UInt8} {room : Int} (h : short l room ≠ []) : ((short l room).length : Int) ≤ room := by
  unfold short at h ⊢
  split
  · assumption
  · rename_i h1
    rw [if_neg h1] at h
    have h2 := len_trim (l.take room.toNat) 32
    rw [List.length_take] at h2
    have h3 : (Lib.trimRightB (l.take room.toNat) 32).length ≠ 0 := fun e => h (List.length_eq_zero_iff.1 e)
    omega
theorem aside_name {m : List UInt8} (n : Nat) (hm : nameB m = true) (h : short (stem m) (20 - (mark n).length - (ending m).length) ≠ []) :
    nameB (short (stem m) (20 - (mark n).length - (ending m).length) ++ mark n ++ ending m) = true := by
  have hl := short_len h
  obtain ⟨r, hr⟩ := short_sub (stem m) (20 - (mark n).length - (ending m).length)
  have hse := stem_ending m
  generalize short (stem m) (20 - (mark n).length - (ending m).length) = S at *
  have hall : m = S ++ (r ++ ending m) := by rw [← List.append_assoc, ← hr, hse]
  rw [name_iff] at hm ⊢
  obtain ⟨h1, h2, h3, h4, h5, h6, h7⟩ := hm
  have hmk : 4 ≤ (mark n).length ∨ True := Or.inr trivial
  refine ⟨fun c hc => ?_, ?_, ?_, ?_, ?_, ?_, ?_⟩
  · rcases List.mem_append.1 hc with hc | hc
    · rcases List.mem_append.1 hc with hc | hc
      · exact h1 c (by rw [hall]; exact List.mem_append_left _ hc)
      · exact mark_ok n c hc
    · exact h1 c (by rw [← hse]; exact List.mem_append_right _ hc)
  · simp [mark]; omega
  · simp only [List.length_append]; omega
  · cases S with
    | nil => exact absurd rfl h
    | cons a t =>
      rw [hall] at h4
      simpa using h4
  · cases he : ending m with
    | nil => simp [mark, List.getLast?_append, List.getLast?_cons]
    | cons a t =>
      rw [he] at hse
      rw [← hse] at h5
      rw [List.getLast?_append] at h5 ⊢
      cases hq : (a :: t).getLast? with
      | none => simp at hq
      | some x => rw [hq] at h5; simpa using h5
  · intro e
    have : (40 : UInt8) ∈ S ++ mark n ++ ending m := by simp [mark]
    rw [e] at this
    simp at this
  · intro e
    have : (40 : UInt8) ∈ S ++ mark n ++ ending m := by simp [mark]
    rw [e] at this
    simp at this
theorem asideT_chk {l : List UInt8} (n : Nat) (h : chk l = 0) (hS : asideS l n ≠ []) : chk (asideT l n) = if big (asideT l n) = true then 2 else 0 := by
  apply chk_big
  obtain ⟨h1, h2⟩ := names_parts (chk_names h)
  rw [asideT_eq]
  exact jn_names (aside_name n h1 hS) h2

end Go.Proofs.YthfdmdjmbbollaaGreatDoor.Pp
