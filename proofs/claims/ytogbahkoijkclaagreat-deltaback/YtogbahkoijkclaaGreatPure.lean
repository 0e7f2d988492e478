/- Plain mathematics of paths: names between slashes, what is a name, what Check answers, parent and last name, what goes aside; lists of bytes alone, no program. -/
import Derived.WalkKit
import Derived.Lib.IndexMore
import Derived.Lib.LastIndexLaws
import Derived.Lib.CutLaws
set_option linter.unusedSimpArgs false
set_option linter.unusedVariables false
namespace Go.Proofs.YtogbahkoijkclaaGreat.Pp

def okB (c : UInt8) : Bool := (97 ≤ c && c ≤ 122) || (65 ≤ c && c ≤ 90) || (48 ≤ c && c ≤ 57) || c == 45 || c == 95 || c == 46 || c == 40 || c == 41 || c == 32

def nameB (l : List UInt8) : Bool := l.all okB && decide (1 ≤ l.length) && decide (l.length ≤ 20) && (l.head? != some 32) && (l.getLast? != some 32) && l != [46] && l != [46, 46]

def nm : List UInt8 → List (List UInt8)
  | [] => [[]]
  | c :: r => if c = 47 then [] :: nm r else match nm r with
    | [] => [[c]]
    | h :: t => (c :: h) :: t

def big (l : List UInt8) : Bool := decide (6 < (nm l).length) || decide (80 < l.length)
def chk (l : List UInt8) : Int := if (nm l).all nameB = true then (if big l = true then 2 else 0) else 1

def join : List (List UInt8) → List UInt8
  | [] => []
  | [a] => a
  | a :: b :: r => a ++ 47 :: join (b :: r)

theorem nm_ne (l : List UInt8) : nm l ≠ [] := by
  cases l with
  | nil => simp [nm]
  | cons c r => rw [nm]; split; · simp
                split <;> simp
theorem nm_none : ∀ (a : List UInt8), 47 ∉ a → nm a = [a]
  | [], _ => rfl
  | c :: r, h => by
    have h1 : c ≠ 47 := fun e => h (by simp [e])
    have h2 : 47 ∉ r := fun e => h (by simp [e])
    rw [nm, if_neg h1, nm_none r h2]
theorem nm_cut : ∀ (a b : List UInt8), 47 ∉ a → nm (a ++ 47 :: b) = a :: nm b
  | [], b, _ => by simp [nm]
  | c :: r, b, h => by
    have h1 : c ≠ 47 := fun e => h (by simp [e])
    have h2 : 47 ∉ r := fun e => h (by simp [e])
    rw [List.cons_append, nm, if_neg h1, nm_cut r b h2]
theorem join_nm : ∀ (l : List UInt8), join (nm l) = l
  | [] => rfl
  | c :: r => by
    have ih := join_nm r
    have hn := nm_ne r
    rw [nm]
    split
    · rename_i h
      subst h
      cases e : nm r with
      | nil => exact absurd e hn
      | cons x t => rw [e] at ih; simp [join, ih]
    · cases e : nm r with
      | nil => exact absurd e hn
      | cons x t =>
        rw [e] at ih
        cases t with
        | nil => simp [join] at ih ⊢; exact ih
        | cons y u => simp [join] at ih ⊢; exact ih
theorem nm_len_le : ∀ (l : List UInt8), (nm l).length ≤ l.length + 1
  | [] => by simp [nm]
  | c :: r => by
    have ih := nm_len_le r
    rw [nm]
    split
    · simp; omega
    · cases e : nm r with
      | nil => simp
      | cons x t => rw [e] at ih; simp at ih ⊢; omega

/-- Where a byte stands first. -/
theorem idx_one (l : List UInt8) (c : UInt8) : (Lib.indexByte l c = -1 ∧ c ∉ l) ∨ ∃ i : Nat, Lib.indexByte l c = i ∧ i < l.length ∧ c ∉ l.take i ∧ l = l.take i ++ c :: l.drop (i + 1) := by
  induction l with
  | nil => left; simp [Lib.indexByte]
  | cons b r ih =>
    by_cases h : b = c
    · right
      subst h
      exact ⟨0, by simp [Lib.indexByte], by simp, by simp, by simp⟩
    · rcases ih with ⟨e, hn⟩ | ⟨i, e, hi, hn, hl⟩
      · left
        refine ⟨?_, by simp [hn, Ne.symm h]⟩
        simp [Lib.indexByte, e, h]
      · right
        refine ⟨i + 1, ?_, by simp; omega, by simp [hn, Ne.symm h], by simp [← hl]⟩
        have h3 : ¬ ((i : Int) = -1) := by omega
        simp [Lib.indexByte, e, h3, h]
theorem idx_of (a b : List UInt8) (c : UInt8) (h : c ∉ a) : Lib.indexByte (a ++ c :: b) c = a.length := by
  induction a with
  | nil => simp [Lib.indexByte]
  | cons x r ih =>
    have h1 : ¬ x = c := fun e => h (by simp [e])
    have h2 : c ∉ r := fun e => h (by simp [e])
    have h3 : ¬ ((r.length : Int) = -1) := by omega
    simp [Lib.indexByte, h1, ih h2, h3]
theorem idx_none (l : List UInt8) (c : UInt8) (h : c ∉ l) : Lib.indexByte l c = -1 := by
  rcases idx_one l c with ⟨e, _⟩ | ⟨i, _, hi, _, hl⟩
  · exact e
  · exact absurd (by rw [hl]; simp) h
theorem split_at (l : List UInt8) (c : UInt8) (h : c ∈ l) : ∃ a b, c ∉ a ∧ l = a ++ c :: b := by
  rcases idx_one l c with ⟨_, hn⟩ | ⟨i, e, hi, hn, hl⟩
  · exact absurd h hn
  · exact ⟨_, _, hn, hl⟩
theorem bytes_eq {s : ByteArray} {l : List UInt8} (h : s.data.toList = l) : s = ⟨l.toArray⟩ := by
  cases s; subst h; simp

theorem okB_iff (c : UInt8) : okB c = true ↔ (97 ≤ c.toNat ∧ c.toNat ≤ 122) ∨ (65 ≤ c.toNat ∧ c.toNat ≤ 90) ∨ (48 ≤ c.toNat ∧ c.toNat ≤ 57) ∨ c.toNat = 45 ∨ c.toNat = 95 ∨ c.toNat = 46 ∨ c.toNat = 40 ∨ c.toNat = 41 ∨ c.toNat = 32 := by
  simp [okB, UInt8.le_iff_toNat_le, ← UInt8.toNat_inj, or_assoc]
theorem idx_iff (c : UInt8) : decide (0 ≤ Lib.indexByte [45, 95, 46, 40, 41, 32] c) = true ↔ c.toNat = 45 ∨ c.toNat = 95 ∨ c.toNat = 46 ∨ c.toNat = 40 ∨ c.toNat = 41 ∨ c.toNat = 32 := by
  simp only [Lib.indexByte, beq_iff_eq, ← UInt8.toNat_inj, decide_eq_true_eq]
  simp
  omega
theorem okB_l (c : UInt8) (h : (97 ≤ c.toNat ∧ c.toNat ≤ 122) ∨ (65 ≤ c.toNat ∧ c.toNat ≤ 90) ∨ (48 ≤ c.toNat ∧ c.toNat ≤ 57)) : true = okB c :=
  ((okB_iff c).2 (by omega)).symm
theorem okB_o (c : UInt8) (h1 : ¬ (97 ≤ c.toNat ∧ c.toNat ≤ 122)) (h2 : ¬ (65 ≤ c.toNat ∧ c.toNat ≤ 90)) (h3 : ¬ (48 ≤ c.toNat ∧ c.toNat ≤ 57)) : decide (0 ≤ Lib.indexByte [45, 95, 46, 40, 41, 32] c) = okB c := by
  rw [Bool.eq_iff_iff, idx_iff, okB_iff]
  omega
theorem sz (l : List UInt8) : (⟨l.toArray⟩ : ByteArray).size = l.length := by rw [Lib.size_eq]
theorem ret_bool {a b : Bool} (h : a = b) : Ending.returned (.bool a) = .returned (.bool b) := by rw [h]
theorem ret_int {k : IntKind} {a b : Int} (h : a = b) : Ending.returned (.int k a) = .returned (.int k b) := by rw [h]

theorem nameB_no (s : ByteArray) (h : s.size < 1 ∨ 20 < s.size ∨ s.toList = [46] ∨ s.toList = [46, 46]) : false = nameB s.data.toList := by
  rw [ByteArray.toList_eq] at h
  have hz : s.size = s.data.toList.length := Lib.size_eq s
  rw [hz] at h
  generalize s.data.toList = l at h
  have : ¬ (nameB l = true) := by
    simp only [nameB, Bool.and_eq_true, decide_eq_true_eq, bne_iff_ne]
    rintro ⟨⟨⟨⟨⟨⟨_, h1⟩, h2⟩, _⟩, _⟩, h3⟩, h4⟩
    rcases h with h | h | h | h
    · omega
    · omega
    · exact h3 h
    · exact h4 h
  simpa using this
theorem nameB_head (s : ByteArray) (h0 : 0 < s.size) (h : (s[0].toNat : Int) = 32) : false = nameB s.data.toList := by
  have hl : 0 < s.data.toList.length := by simpa using h0
  have e : s.data.toList.head? = some s[0] := by rw [List.head?_eq_getElem?, List.getElem?_eq_getElem hl, byte_at' s 0 h0 hl]
  have e2 : s[0] = 32 := UInt8.toNat_inj.1 (by simpa using Int.ofNat.inj h)
  have : ¬ (nameB s.data.toList = true) := by
    simp only [nameB, Bool.and_eq_true, decide_eq_true_eq, bne_iff_ne, e, e2]
    rintro ⟨⟨⟨⟨⟨⟨_, _⟩, _⟩, h3⟩, _⟩, _⟩, _⟩
    exact h3 rfl
  simpa using this
theorem nameB_last (s : ByteArray) (h0 : s.size - 1 < s.size) (h : (s[s.size - 1].toNat : Int) = 32) : false = nameB s.data.toList := by
  have hl : s.size - 1 < s.data.toList.length := by simpa using h0
  have e : s.data.toList.getLast? = some s[s.size - 1] := by rw [List.getLast?_eq_getElem?, ← Lib.size_eq, List.getElem?_eq_getElem hl, byte_at' s _ h0 hl]
  have e2 : s[s.size - 1] = 32 := UInt8.toNat_inj.1 (by simpa using Int.ofNat.inj h)
  have : ¬ (nameB s.data.toList = true) := by
    simp only [nameB, Bool.and_eq_true, decide_eq_true_eq, bne_iff_ne, e, e2]
    rintro ⟨⟨⟨⟨⟨⟨_, _⟩, _⟩, _⟩, h3⟩, _⟩, _⟩
    exact h3 rfl
  simpa using this
theorem nameB_bad (s : ByteArray) (k : Nat) (hk : k < s.size) (h : okB s[k] = false) : false = nameB s.data.toList := by
  have hl : k < s.data.toList.length := by simpa using hk
  have hm : s[k] ∈ s.data.toList := by rw [← byte_at' s k hk hl]; exact List.getElem_mem hl
  have : ¬ (nameB s.data.toList = true) := by
    simp only [nameB, Bool.and_eq_true, decide_eq_true_eq, bne_iff_ne, List.all_eq_true]
    rintro ⟨⟨⟨⟨⟨⟨h3, _⟩, _⟩, _⟩, _⟩, _⟩, _⟩
    rw [h3 _ hm] at h
    cases h
  simpa using this
theorem nameB_yes (s : ByteArray) (h1 : 1 ≤ s.size) (h2 : s.size ≤ 20) (h3 : s.toList ≠ [46]) (h4 : s.toList ≠ [46, 46]) (h0 : 0 < s.size) (h5 : (s[0].toNat : Int) ≠ 32)
    (h6 : s.size - 1 < s.size) (h7 : (s[s.size - 1].toNat : Int) ≠ 32) (h8 : s.data.toList.all okB = true) : true = nameB s.data.toList := by
  rw [ByteArray.toList_eq] at h3 h4
  have hl : 0 < s.data.toList.length := by simpa using h0
  have e : s.data.toList.head? = some s[0] := by rw [List.head?_eq_getElem?, List.getElem?_eq_getElem hl, byte_at' s 0 h0 hl]
  have hl2 : s.size - 1 < s.data.toList.length := by simpa using h6
  have e' : s.data.toList.getLast? = some s[s.size - 1] := by rw [List.getLast?_eq_getElem?, ← Lib.size_eq, List.getElem?_eq_getElem hl2, byte_at' s _ h6 hl2]
  symm
  simp only [nameB, Bool.and_eq_true, decide_eq_true_eq, bne_iff_ne, e, e', ← Lib.size_eq]
  refine ⟨⟨⟨⟨⟨⟨h8, h1⟩, h2⟩, ?_⟩, ?_⟩, h3⟩, h4⟩
  · intro e3; rw [Option.some.injEq] at e3; exact h5 (by rw [e3]; rfl)
  · intro e3; rw [Option.some.injEq] at e3; exact h7 (by rw [e3]; rfl)
theorem take_snoc (s : ByteArray) (k : Nat) (h : k < s.size) : s.data.toList.take (k + 1) = s.data.toList.take k ++ [s[k]] := by
  rw [List.take_succ_eq_append_getElem (by simpa using h)]; rfl
theorem all_snoc (s : ByteArray) (k : Nat) (h : k < s.size) (h1 : (s.data.toList.take k).all okB = true) (h2 : okB s[k] = true) : (s.data.toList.take (k + 1)).all okB = true := by
  rw [take_snoc s k h, List.all_append, h1]; simp [h2]

theorem chk_two (s : ByteArray) {dn : List (List UInt8)} (hn : nm s.data.toList = dn) (ha : dn.all nameB = true) (hb : (6 : Int) < dn.length ∨ (80 : Int) < s.size) : 2 = chk s.data.toList := by
  have : big s.data.toList = true := by
    simp only [big, hn, Bool.or_eq_true, decide_eq_true_eq, ← Lib.size_eq]; omega
  simp [chk, hn, ha, this]
theorem chk_zero (s : ByteArray) {dn : List (List UInt8)} (hn : nm s.data.toList = dn) (ha : dn.all nameB = true) (h1 : (dn.length : Int) ≤ 6) (h2 : (s.size : Int) ≤ 80) : 0 = chk s.data.toList := by
  have : big s.data.toList = false := by
    simp only [big, hn, Bool.or_eq_false_iff, decide_eq_false_iff_not, ← Lib.size_eq]; omega
  simp [chk, hn, ha, this]
theorem chk_one (s : ByteArray) {dn r : List (List UInt8)} {n : List UInt8} (hn : nm s.data.toList = dn ++ n :: r) (h : nameB n = false) : 1 = chk s.data.toList := by
  simp [chk, hn, h]
theorem all_add {dn : List (List UInt8)} {n : List UInt8} (h : dn.all nameB = true) (h1 : nameB n = true) : (dn ++ [n]).all nameB = true := by
  rw [List.all_append, h]; simp [h1]
theorem len_add (s t : ByteArray) {dn : List (List UInt8)} (h : nm s.data.toList = dn ++ nm t.data.toList) : dn.length + 1 ≤ s.size + 1 := by
  have h1 := nm_len_le s.data.toList
  have h2 : (nm t.data.toList).length ≠ 0 := fun e => nm_ne _ (List.length_eq_zero_iff.1 e)
  rw [h, List.length_append, ← Lib.size_eq] at h1
  omega

end Go.Proofs.YtogbahkoijkclaaGreat.Pp
