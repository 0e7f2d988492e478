/- Plain mathematics of paths, second part: parent and last name, the last place of a byte, what goes aside. -/
import Derived.Test.YtogbahkoijkclaaGreatPure
import Derived.Lib.LastIndexByte
import Derived.Lib.TrimByte
import Derived.Lib.ItoaNum
set_option linter.unusedSimpArgs false
set_option linter.unusedVariables false
namespace Go.Proofs.YtogbahkoijkclaaGreat.Pp

theorem nm_app (a b : List UInt8) : nm (a ++ 47 :: b) = nm a ++ nm b := by
  induction a with
  | nil => simp [nm]
  | cons c r ih =>
    rw [List.cons_append, nm, nm, ih]
    split
    · simp
    · cases e : nm r with
      | nil => exact absurd e (nm_ne r)
      | cons x t => simp

def par (l : List UInt8) : List UInt8 := join (nm l).dropLast
def lst (l : List UInt8) : List UInt8 := (nm l).getLastD []

theorem par_none {l : List UInt8} (h : 47 ∉ l) : par l = [] := by simp [par, nm_none l h, join]
theorem lst_none {l : List UInt8} (h : 47 ∉ l) : lst l = l := by simp [lst, nm_none l h]
theorem par_cut (a : List UInt8) {b : List UInt8} (h : 47 ∉ b) : par (a ++ 47 :: b) = a := by
  rw [par, nm_app, nm_none b h, List.dropLast_concat, join_nm]
theorem lst_cut (a : List UInt8) {b : List UInt8} (h : 47 ∉ b) : lst (a ++ 47 :: b) = b := by
  rw [lst, nm_app, nm_none b h]; simp

theorem data_bang (s : ByteArray) (k : Nat) (h : k < s.data.toList.length) : s.data[k]! = s.data.toList[k] := by
  have h' : k < s.data.size := by simpa using h
  rw [getElem!_pos s.data k h', Array.getElem_toList]
theorem last_cases (s : ByteArray) (c : UInt8) : (Lib.lastIndexByte s (c.toNat : Int) = -1 ∧ c ∉ s.data.toList) ∨
    ∃ a b, Lib.lastIndexByte s (c.toNat : Int) = (a.length : Int) ∧ c ∉ b ∧ s.data.toList = a ++ c :: b := by
  have hne : ∀ j (hj : j < s.data.toList.length), ((s.data[j]!).toNat : Int) ≠ c.toNat → s.data.toList[j] ≠ c := by
    intro j hj h e
    rw [data_bang s j hj, e] at h
    exact h rfl
  rcases Lib.lastIndexByte_spec s c.toNat with ⟨e, hn⟩ | ⟨i, hi, e, hc, hn⟩
  · left
    refine ⟨e, fun hm => ?_⟩
    obtain ⟨j, hj, ej⟩ := List.getElem_of_mem hm
    exact hne j hj (hn j (by rw [Lib.size_eq]; exact hj)) ej
  · right
    rw [Lib.size_eq] at hi
    have ec : s.data.toList[i] = c := by
      rw [data_bang s i hi] at hc
      exact UInt8.toNat_inj.1 (Int.ofNat.inj hc)
    refine ⟨s.data.toList.take i, s.data.toList.drop (i + 1), by rw [e, List.length_take]; omega, fun hm => ?_, ?_⟩
    · obtain ⟨j, hj, ej⟩ := List.getElem_of_mem hm
      rw [List.length_drop] at hj
      rw [List.getElem_drop] at ej
      exact hne (i + 1 + j) (by omega) (hn (i + 1 + j) (by omega) (by rw [Lib.size_eq]; omega)) ej
    · conv => lhs; rw [← List.take_append_drop i s.data.toList, List.drop_eq_getElem_cons hi, ec]

/-- The stem and the ending of a name: it begins at the last dot that is not the first byte. -/
def dot (l : List UInt8) : Nat → Nat
  | 0 => l.length
  | k + 1 => if 1 ≤ k ∧ l[k]? = some 46 then k else dot l k
def stem (l : List UInt8) : List UInt8 := l.take (dot l l.length)
def ending (l : List UInt8) : List UInt8 := l.drop (dot l l.length)

theorem dot_none (l : List UInt8) : ∀ k, (∀ j, 1 ≤ j → j < k → l[j]? ≠ some 46) → dot l k = l.length
  | 0, _ => rfl
  | k + 1, h => by
    rw [dot, if_neg (fun e => h k e.1 (Nat.lt_succ_self k) e.2)]
    exact dot_none l k fun j h1 h2 => h j h1 (by omega)
theorem dot_hit (l : List UInt8) (i : Nat) (h1 : 1 ≤ i) (h : l[i]? = some 46) : ∀ k, i < k → (∀ j, i < j → j < k → l[j]? ≠ some 46) → dot l k = i
  | 0, hk, _ => absurd hk (Nat.not_lt_zero _)
  | k + 1, hk, hn => by
    rw [dot]
    by_cases e : i = k
    · subst e; rw [if_pos ⟨h1, h⟩]
    · rw [if_neg (fun e2 => hn k (by omega) (Nat.lt_succ_self k) e2.2)]
      exact dot_hit l i h1 h k (by omega) fun j h3 h4 => hn j h3 (by omega)
theorem parts_none {l : List UInt8} (h : 46 ∉ l) : stem l = l ∧ ending l = [] := by
  have : dot l l.length = l.length := dot_none l _ fun j _ _ e => h (List.mem_of_getElem? e)
  simp [stem, ending, this]
theorem parts_first {b : List UInt8} (h : 46 ∉ b) : stem (46 :: b) = 46 :: b ∧ ending (46 :: b) = [] := by
  have : dot (46 :: b) (46 :: b).length = (46 :: b).length := dot_none _ _ fun j h1 _ e => by
    obtain ⟨j, rfl⟩ : ∃ i, j = i + 1 := ⟨j - 1, by omega⟩
    rw [List.getElem?_cons_succ] at e
    exact h (List.mem_of_getElem? e)
  rw [stem, ending, this]; simp
theorem parts_cut {a b : List UInt8} (ha : 1 ≤ a.length) (h : 46 ∉ b) : stem (a ++ 46 :: b) = a ∧ ending (a ++ 46 :: b) = 46 :: b := by
  have : dot (a ++ 46 :: b) (a ++ 46 :: b).length = a.length := dot_hit _ a.length ha (by simp) _ (by simp) fun j h1 _ e => by
    rw [List.getElem?_append_right (by omega)] at e
    obtain ⟨k, hk⟩ : ∃ i, j - a.length = i + 1 := ⟨j - a.length - 1, by omega⟩
    rw [hk, List.getElem?_cons_succ] at e
    exact h (List.mem_of_getElem? e)
  rw [stem, ending, this]; simp

/-- What is left of a stem. -/
def short (l : List UInt8) (room : Int) : List UInt8 := if (l.length : Int) ≤ room then l else Lib.trimRightB (l.take room.toNat) 32
def jn (p n : List UInt8) : List UInt8 := if p = [] then n else p ++ 47 :: n
def mark (n : Nat) : List UInt8 := 32 :: 40 :: (Lib.decDigits n ++ [41])
def asideT (l : List UInt8) (n : Nat) : List UInt8 := jn (par l) (short (stem (lst l)) (20 - (mark n).length - (ending (lst l)).length) ++ mark n ++ ending (lst l))
def chks : List (List UInt8) → Int
  | [] => 0
  | a :: r => if chk a = 0 then chks r else chk a
theorem chk_range (l : List UInt8) : 0 ≤ chk l ∧ chk l ≤ 2 := by
  unfold chk; split
  · split <;> decide
  · decide

def ifc (e : Int) (x : List UInt8) : List UInt8 := if e = 0 then x else []
theorem ifc_yes {e : Int} (h : e = 0) (x : List UInt8) : ifc e x = x := if_pos h
theorem ifc_no {e : Int} (h : ¬ e = 0) (x : List UInt8) : ifc e x = [] := if_neg h
def asideS (l : List UInt8) (n : Nat) : List UInt8 := short (stem (lst l)) (20 - (mark n).length - (ending (lst l)).length)
def asideE (l : List UInt8) (n : Int) : Int := if chk l = 0 then (if n < 1 ∨ 99 < n then 3 else if asideS l n.toNat = [] then 2 else chk (asideT l n.toNat)) else chk l
theorem dec_len (i : Nat) (h : i < 100) : (Lib.decDigits i).length ≤ 2 := by
  have : ∀ k : Fin 100, (Lib.decDigits k.1).length ≤ 2 := by decide +kernel
  exact this ⟨i, h⟩
theorem mark_len (i : Nat) : (mark i).length = (Lib.decDigits i).length + 3 := by simp [mark]
theorem aside_room (l : List UInt8) (i : Nat) : short (stem (lst l)) (20 - (2 + ((Lib.decDigits i).length : Int) + 1) - (ending (lst l)).length) = asideS l i := by
  have e : (20 - (2 + ((Lib.decDigits i).length : Int) + 1) - (ending (lst l)).length) = 20 - ((mark i).length : Int) - (ending (lst l)).length := by rw [mark_len]; omega
  rw [e, asideS]
theorem asideE_in (l : List UInt8) (i : Nat) (h : chk l = 0) (h1 : 1 ≤ (i : Int)) (h2 : (i : Int) ≤ 99) : asideE l i = if asideS l i = [] then 2 else chk (asideT l i) := by
  rw [asideE, if_pos h, if_neg (by omega), Int.toNat_natCast]
theorem asideT_eq (l : List UInt8) (i : Nat) : asideT l i = jn (par l) (asideS l i ++ mark i ++ ending (lst l)) := rfl
theorem len_par (l : List UInt8) : (par l).length ≤ l.length := by
  by_cases h : 47 ∈ l.reverse
  · obtain ⟨a, b, ha, hab⟩ := split_at _ _ h
    have e : l = b.reverse ++ 47 :: a.reverse := by
      have := congrArg List.reverse hab
      simpa using this
    rw [e, par_cut _ (by simpa using ha)]
    simp
  · rw [par_none (by simpa using h)]; simp
theorem len_lst (l : List UInt8) : (lst l).length ≤ l.length := by
  by_cases h : 47 ∈ l.reverse
  · obtain ⟨a, b, ha, hab⟩ := split_at _ _ h
    have e : l = b.reverse ++ 47 :: a.reverse := by
      have := congrArg List.reverse hab
      simpa using this
    rw [e, lst_cut _ (by simpa using ha)]
    simp; omega
  · rw [lst_none (by simpa using h)]; exact Nat.le_refl _
theorem len_stem (l : List UInt8) : (stem l).length ≤ l.length := by simp [stem]; omega
theorem len_ending (l : List UInt8) : (ending l).length ≤ l.length := by simp [ending]
theorem len_trim (l : List UInt8) (c : UInt8) : (Lib.trimRightB l c).length ≤ l.length := by
  unfold Lib.trimRightB
  have := (List.dropWhile_sublist (l := l.reverse) (p := (· == c))).length_le
  simpa using this
theorem len_short (l : List UInt8) (r : Int) : (short l r).length ≤ l.length := by
  unfold short; split
  · exact Nat.le_refl _
  · refine Nat.le_trans (len_trim _ _) ?_
    simp; omega
theorem len_asideS (l : List UInt8) (i : Nat) : (asideS l i).length ≤ (stem (lst l)).length := len_short _ _
theorem len_jn (p n : List UInt8) : (jn p n).length ≤ p.length + n.length + 1 := by
  unfold jn; split
  · omega
  · simp; omega

end Go.Proofs.YtogbahkoijkclaaGreat.Pp
