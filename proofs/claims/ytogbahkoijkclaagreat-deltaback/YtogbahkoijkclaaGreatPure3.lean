/- Plain mathematics of paths, third part: within, moved, joined. -/
import Derived.Test.YtogbahkoijkclaaGreatPure2
import Derived.Lib.SmallJoins
set_option linter.unusedSimpArgs false
set_option linter.unusedVariables false
namespace Go.Proofs.YtogbahkoijkclaaGreat.Pp

theorem join_snoc (d : List (List UInt8)) (x : List UInt8) (h : d ≠ []) : join (d ++ [x]) = join d ++ 47 :: x := by
  induction d with
  | nil => exact absurd rfl h
  | cons a r ih =>
    cases r with
    | nil => simp [join]
    | cons b t =>
      have := ih (by simp)
      simp only [List.cons_append, join] at this ⊢
      rw [this]; simp
theorem join_app (d e : List (List UInt8)) (hd : d ≠ []) (he : e ≠ []) : join (d ++ e) = join d ++ 47 :: join e := by
  induction d with
  | nil => exact absurd rfl hd
  | cons a r ih =>
    cases r with
    | nil =>
      cases e with
      | nil => exact absurd rfl he
      | cons b t => simp [join]
    | cons b t =>
      have := ih (by simp)
      simp only [List.cons_append, join] at this ⊢
      rw [this]; simp
theorem join_take_le (L : List (List UInt8)) (k : Nat) : (join (L.take k)).length ≤ (join L).length := by
  by_cases h1 : L.take k = []
  · rw [h1]; simp [join]
  by_cases h2 : L.drop k = []
  · have : L.take k = L := by
      have := List.take_append_drop k L
      rw [h2, List.append_nil] at this
      exact this
    rw [this]; exact Nat.le_refl _
  · conv => rhs; rw [← List.take_append_drop k L, join_app _ _ h1 h2]
    rw [List.length_append]; omega
theorem join_step (L : List (List UInt8)) (k : Nat) (h : k < L.length) (h0 : 0 < k) : (⟨(join (L.take k)).toArray⟩ : ByteArray) ++ ⟨#[47]⟩ ++ ⟨(L[k]).toArray⟩ = ⟨(join (L.take (k + 1))).toArray⟩ := by
  apply bytes_eq
  rw [Joins.data_append, Joins.data_append, List.take_succ_eq_append_getElem h, join_snoc _ _ (by intro e; have := List.length_take_of_le (show k ≤ L.length by omega); rw [e] at this; simp at this; omega)]
  simp
theorem join_first (L : List (List UInt8)) (h : 0 < L.length) : (⟨#[]⟩ : ByteArray) ++ ⟨(L[0]).toArray⟩ = ⟨(join (L.take 1)).toArray⟩ := by
  apply bytes_eq
  rw [Joins.data_append]
  cases L with
  | nil => simp at h
  | cons a r => simp [join]
theorem mem_join_len (L : List (List UInt8)) (k : Nat) (h : k < L.length) : (L[k]).length ≤ (join L).length := by
  have h1 := join_take_le L (k + 1)
  rw [List.take_succ_eq_append_getElem h] at h1
  by_cases e : L.take k = []
  · rw [e] at h1; simpa [join] using h1
  · rw [join_snoc _ _ e] at h1; simp at h1; omega
theorem toList_mk (l : List UInt8) : (⟨l.toArray⟩ : ByteArray).toList = l := by rw [ByteArray.toList_eq]

theorem nm_inj {a b : List UInt8} (h : nm a = nm b) : a = b := by rw [← join_nm a, ← join_nm b, h]
theorem no_slash {n : List UInt8} (h : nameB n = true) : 47 ∉ n := by
  intro hm
  simp only [nameB, Bool.and_eq_true, List.all_eq_true] at h
  have := h.1.1.1.1.1.1 47 hm
  revert this; decide
theorem chk_names {l : List UInt8} (h : chk l = 0) : (nm l).all nameB = true := by
  unfold chk at h
  split at h
  · assumption
  · simp at h
theorem chk_big {l : List UInt8} (h : (nm l).all nameB = true) : chk l = if big l = true then 2 else 0 := by
  rw [chk, if_pos h]
theorem chk_not_big {l : List UInt8} (h : chk l = 0) : big l = false := by
  rw [chk_big (chk_names h)] at h
  cases e : big l with
  | false => rfl
  | true => rw [e] at h; simp at h
theorem all_app {a b : List (List UInt8)} (h : a.all nameB = true) (h1 : b.all nameB = true) : (a ++ b).all nameB = true := by
  rw [List.all_append, h, h1]; rfl

def isInB (p q : List UInt8) : Bool := (nm q).isPrefixOf (nm p)
theorem isIn_of (p q : List UInt8) : isInB p q = true ↔ p = q ∨ ∃ r, p = q ++ 47 :: r := by
  unfold isInB
  rw [List.isPrefixOf_iff_prefix]
  constructor
  · rintro ⟨t, ht⟩
    by_cases e : t = []
    · left
      rw [e, List.append_nil] at ht
      exact (nm_inj ht).symm
    · right
      refine ⟨join t, ?_⟩
      rw [← join_nm p, ← ht, join_app _ _ (nm_ne q) e, join_nm]
  · rintro (h | ⟨r, h⟩)
    · rw [h]; exact List.prefix_refl _
    · rw [h, nm_app]; exact List.prefix_append _ _
theorem isIn_eq (p q : List UInt8) : (p == q || Lib.hasPrefix p (q ++ [47])) = isInB p q := by
  rw [Bool.eq_iff_iff, isIn_of, Bool.or_eq_true, beq_iff_eq, Lib.hasPrefix, List.isPrefixOf_iff_prefix]
  constructor
  · rintro (h | ⟨t, h⟩)
    · exact Or.inl h
    · exact Or.inr ⟨t, by rw [← h]; simp⟩
  · rintro (h | ⟨t, h⟩)
    · exact Or.inl h
    · exact Or.inr ⟨t, by rw [h]; simp⟩

def mvT (p f t : List UInt8) : List UInt8 := t ++ p.drop f.length
theorem mv_names {p f : List UInt8} (t : List UInt8) (h : isInB p f = true) : nm (mvT p f t) = nm t ++ (nm p).drop (nm f).length := by
  rcases (isIn_of p f).1 h with e | ⟨r, e⟩
  · subst e; simp [mvT]
  · have : p.drop f.length = 47 :: r := by rw [e]; simp
    rw [mvT, this, nm_app, e, nm_app]; simp
theorem mv_join {p f : List UInt8} (t : List UInt8) (h : isInB p f = true) : join (nm t ++ (nm p).drop (nm f).length) = mvT p f t := by
  rw [← mv_names t h, join_nm]
def mvE (p f t : List UInt8) : Int := if chks [p, f, t] = 0 then (if isInB p f = true then chk (mvT p f t) else 5) else chks [p, f, t]
theorem chks_zero {a : List UInt8} {r : List (List UInt8)} (h : chks (a :: r) = 0) : chk a = 0 ∧ chks r = 0 := by
  unfold chks at h
  split at h
  · rename_i e; exact ⟨e, h⟩
  · rename_i e; exact absurd h e
theorem mv_chk {p f t : List UInt8} (h : chks [p, f, t] = 0) (hi : isInB p f = true) : chk (mvT p f t) = if big (mvT p f t) = true then 2 else 0 := by
  obtain ⟨h1, h⟩ := chks_zero h
  obtain ⟨h2, h⟩ := chks_zero h
  obtain ⟨h3, _⟩ := chks_zero h
  apply chk_big
  rw [mv_names t hi]
  refine all_app (chk_names h3) ?_
  have := chk_names h1
  rw [List.all_eq_true] at this ⊢
  exact fun x hx => this x (List.mem_of_mem_drop hx)

def jnP (p : List UInt8) : Int := if p = [] then 0 else chk p
def jnE (p n : List UInt8) : Int := if jnP p = 0 then (if nameB n = true then chk (jn p n) else 1) else jnP p
theorem jn_chk {p n : List UInt8} (h : jnP p = 0) (hn : nameB n = true) : chk (jn p n) = if big (jn p n) = true then 2 else 0 := by
  apply chk_big
  unfold jn
  unfold jnP at h
  split
  · rw [nm_none n (no_slash hn)]; simp [hn]
  · rename_i e
    rw [if_neg e] at h
    rw [nm_app, nm_none n (no_slash hn)]
    exact all_app (chk_names h) (by simp [hn])

end Go.Proofs.YtogbahkoijkclaaGreat.Pp
