/- What stays of a tree while deletes are worked out one by one, as plain mathematics. -/
import Derived.Test.YtogbahkoijkclaaD11
import Derived.Test.YtogbahkoijkclaaTPure4
set_option linter.unusedSimpArgs false
set_option linter.unusedVariables false
namespace Go.Proofs.Ytogbahkoijkclaa
open Go.RowKit Go.Maps Go.WideMaps

namespace Sp
/-- Is an entry at or within one that goes? -/
def inB (D : List En) (e : En) : Bool := D.any (fun d => Pp.wi d.path.data.toList e)
def stay (A B : List En) (k : Nat) : List En := A.filter (fun e => !inB ((A.take k).filter (goes B)) e)
theorem isIn_cases {p q : List UInt8} (h : Pp.isInB p q = true) : p = q ∨ (q.length < p.length ∧ (q ≠ [] → Pp.par p ≠ [] ∧ Pp.isInB (Pp.par p) q = true)) := by
  rcases (Pp.isIn_of p q).1 h with h | ⟨r, h⟩
  · exact Or.inl h
  · refine Or.inr ⟨by rw [h]; simp, fun hq => ?_⟩
    obtain ⟨a, b, hb, e, hi, hp⟩ := Pp.par_down (p := q) (r := r)
    rw [h, hp]
    refine ⟨?_, hi⟩
    rcases (Pp.isIn_of a q).1 hi with h2 | ⟨r2, h2⟩
    · rw [h2]; exact hq
    · rw [h2]; simp
theorem wAt_fold {L : List En} {p : List UInt8} (hp : p ≠ []) (h : Pp.foldE L p = 0) : wAt L p = 1 := by
  obtain ⟨x, hx, hxp, hxf, hf⟩ := Pp.fold_zero h hp
  rw [wAt, show at_ L p = some x from hf]
  show wh x = 1
  simp [wh, hxf]
theorem wAt_one {L : List En} {p : List UInt8} (h : wAt L p = 1) : ∃ x, x ∈ L ∧ x.path.data.toList = p ∧ x.folder = true := by
  rw [wAt] at h
  cases hx : at_ L p with
  | none => rw [hx] at h; cases h
  | some x =>
    rw [hx] at h
    refine ⟨x, (at_mem hx).1, (at_mem hx).2, ?_⟩
    rcases wh_cases x with ⟨h1, _⟩ | ⟨_, h2⟩
    · exact h1
    · simp only at h; omega
/-- Above a folder are folders. -/
theorem up {L : List En} (hL : Pp.Good L) {q : List UInt8} (hq : q ≠ []) : ∀ (n : Nat) (p : List UInt8), p.length ≤ n → wAt L p = 1 → Pp.isInB p q = true → wAt L q = 1 := by
  intro n
  induction n with
  | zero =>
    intro p hl h1 h2
    rcases isIn_cases h2 with e | ⟨h3, _⟩
    · rw [← e]; exact h1
    · omega
  | succ n ih =>
    intro p hl h1 h2
    rcases isIn_cases h2 with e | ⟨h3, h4⟩
    · rw [← e]; exact h1
    · obtain ⟨h5, h6⟩ := h4 hq
      obtain ⟨x, hx, hxp, _⟩ := wAt_one h1
      have h7 := hL.pars x hx
      rw [hxp] at h7
      have h8 := par_lt h5
      exact ih _ (by omega) (wAt_fold h5 h7) h6
theorem path_ne {L : List En} (hL : Pp.Good L) {e : En} (he : e ∈ L) : e.path.data.toList ≠ [] := by
  intro h
  have := Pp.entE_path (hL.ents e he)
  rw [h] at this
  exact absurd this (by decide)
theorem hasP_no {M : List En} {p : List UInt8} : hasP M p = false ↔ Pp.par p ≠ [] ∧ wAt M (Pp.par p) ≠ 1 := by
  rw [hasP]; simp
theorem hasP_yes {M : List En} {p : List UInt8} : hasP M p = true ↔ Pp.par p = [] ∨ wAt M (Pp.par p) = 1 := by
  rw [hasP]; simp
/-- What has no folder to be in is below one that goes. -/
theorem above {A B : List En} (hA : Pp.Good A) : ∀ (n : Nat) (p : List UInt8), p.length ≤ n → wAt A p = 1 → wAt B p ≠ 1 → ∃ d ∈ A, goes B d = true ∧ Pp.isInB p d.path.data.toList = true := by
  intro n
  induction n with
  | zero =>
    intro p hl h1 _
    obtain ⟨x, hx, hxp, _⟩ := wAt_one h1
    exact absurd (List.length_eq_zero_iff.1 (by omega : p.length = 0)) (hxp ▸ path_ne hA hx)
  | succ n ih =>
    intro p hl h1 h2
    obtain ⟨x, hx, hxp, hxf⟩ := wAt_one h1
    cases hh : hasP B p with
    | true =>
      refine ⟨x, hx, ?_, by rw [hxp]; exact Pp.isIn_refl p⟩
      have : wh x = 1 := by simp [wh, hxf]
      rw [goes, hxp, hh, this, Bool.and_true]
      simpa using fun e => h2 e.symm
    | false =>
      obtain ⟨h3, h4⟩ := hasP_no.1 hh
      have h5 := hA.pars x hx
      rw [hxp] at h5
      have h6 := par_lt h3
      obtain ⟨d, hd, hg, hi⟩ := ih _ (by omega) (wAt_fold h3 h5) h4
      exact ⟨d, hd, hg, Pp.par_in hi h3⟩
/-- Below one that goes there is no folder to be in. -/
theorem below {A B : List En} (hA : Pp.Good A) (hB : Pp.Good B) {e d : En} (he : e ∈ A) (hd : d ∈ A) (hg : goes B d = true) (hi : Pp.isInB e.path.data.toList d.path.data.toList = true) (hne : e.path.data.toList ≠ d.path.data.toList) : hasP B e.path.data.toList = false := by
  cases hh : hasP B e.path.data.toList with
  | false => rfl
  | true =>
    exfalso
    have hq := path_ne hA hd
    rcases isIn_cases hi with h | ⟨_, h⟩
    · exact hne h
    · obtain ⟨h1, h2⟩ := h hq
      have h3 : wAt B d.path.data.toList = 1 := by
        rcases hasP_yes.1 hh with h4 | h4
        · exact absurd h4 h1
        · exact up hB hq _ _ (Nat.le_refl _) h4 h2
      have h5 : wAt A d.path.data.toList = 1 := up hA hq _ _ (Nat.le_refl _) (wAt_fold h1 (hA.pars e he)) h2
      rw [wAt_self (apart_rise hA.rise) hd] at h5
      rw [goes, h3, h5] at hg
      simp at hg
theorem mem_take {A : List En} {k : Nat} (hk : k < A.length) (hr : A.Pairwise (fun x y => Pp.lt x y = true)) {d : En} (hd : d ∈ A) (hl : Pp.lt d A[k] = true) : d ∈ A.take k := by
  obtain ⟨i, hi, rfl⟩ := List.getElem_of_mem hd
  rw [List.pairwise_iff_getElem] at hr
  have : i < k := by
    rcases Nat.lt_trichotomy i k with h | h | h
    · exact h
    · subst h; rw [Pp.lt_irrefl] at hl; cases hl
    · have h2 := Pp.lt_trans _ _ _ hl (hr k i hk hi h)
      rw [Pp.lt_irrefl] at h2; cases h2
  rw [List.mem_take_iff_getElem]
  exact ⟨i, by omega, rfl⟩
theorem lt_in {e d : En} (hi : Pp.isInB e.path.data.toList d.path.data.toList = true) (hne : e.path.data.toList ≠ d.path.data.toList) : Pp.lt d e = true := by
  rcases (Pp.isIn_of _ _).1 hi with h | ⟨r, h⟩
  · exact absurd h hne
  · rw [Pp.lt, Lib.toList_data, Lib.toList_data, bytesLess_eq, decide_eq_true_eq, h]
    generalize d.path.data.toList = q
    induction q with
    | nil => exact List.nil_lt_cons _ _
    | cons a r ih => rw [List.cons_append, List.cons_lt_cons_iff]; exact Or.inr ⟨rfl, ih⟩
theorem take_ne {A : List En} {k : Nat} (hk : k < A.length) (hr : A.Pairwise (fun x y => Pp.lt x y = true)) {d : En} (hd : d ∈ A.take k) : A[k].path.data.toList ≠ d.path.data.toList := by
  obtain ⟨i, hi, rfl⟩ := List.mem_take_iff_getElem.1 hd
  have := apart_rise hr
  rw [Apart, List.pairwise_iff_getElem] at this
  exact fun e => this i k (by omega) hk (by omega) e.symm
theorem inB_iff {D : List En} {e : En} : inB D e = true ↔ ∃ d ∈ D, Pp.isInB e.path.data.toList d.path.data.toList = true := by
  rw [inB, List.any_eq_true]; rfl
/-- Has the next one gone already? Just when there is no folder to be in. -/
theorem gone {A B : List En} (hA : Pp.Good A) (hB : Pp.Good B) {k : Nat} (hk : k < A.length) : inB ((A.take k).filter (goes B)) A[k] = !hasP B A[k].path.data.toList := by
  cases hh : hasP B A[k].path.data.toList with
  | true =>
    rw [Bool.not_true, ← Bool.not_eq_true]
    intro h
    obtain ⟨d, hd, hi⟩ := inB_iff.1 h
    obtain ⟨hd1, hd2⟩ := List.mem_filter.1 hd
    have := below hA hB (List.getElem_mem hk) (List.mem_of_mem_take hd1) hd2 hi (take_ne hk hA.rise hd1)
    rw [hh] at this; cases this
  | false =>
    rw [Bool.not_false]
    obtain ⟨h1, h2⟩ := hasP_no.1 hh
    obtain ⟨d, hd, hg, hi⟩ := above (B := B) hA _ _ (Nat.le_refl _) (wAt_fold h1 (hA.pars _ (List.getElem_mem hk))) h2
    have hi2 := Pp.par_in hi h1
    have hne : A[k].path.data.toList ≠ d.path.data.toList := fun e => by
      obtain ⟨s, hs⟩ := Pp.isIn_pre hi
      have h3 := par_lt h1
      have h4 := congrArg List.length hs
      have h5 := congrArg List.length e
      rw [List.length_append] at h4
      omega
    exact inB_iff.2 ⟨d, List.mem_filter.2 ⟨mem_take hk hA.rise hd (lt_in hi2 hne), hg⟩, hi2⟩
theorem stay_zero (A B : List En) : stay A B 0 = A := by
  rw [stay, List.filter_eq_self]
  intro e _; rfl
theorem stay_mem {A B : List En} (hA : Pp.Good A) (hB : Pp.Good B) {k : Nat} (hk : k < A.length) : A[k] ∈ stay A B k ↔ hasP B A[k].path.data.toList = true := by
  rw [stay, List.mem_filter, gone hA hB hk]
  simp
theorem stay_hit {A B : List En} {k : Nat} (hk : k < A.length) (hg : goes B A[k] = true) : stay A B (k + 1) = (stay A B k).filter (fun e => !Pp.wi A[k].path.data.toList e) := by
  rw [stay, stay, Pp.filter_hitE hk hg, List.filter_filter]
  congr 1
  funext e
  rw [inB, inB, List.any_append]
  cases (List.filter (goes B) (List.take k A)).any (fun d => Pp.wi d.path.data.toList e) <;> simp
theorem stay_miss {A B : List En} {k : Nat} (hk : k < A.length) (hg : goes B A[k] = false) : stay A B (k + 1) = stay A B k := by
  rw [stay, stay, Pp.filter_missE hk hg]
theorem dels_hit {A B : List En} {k : Nat} (hk : k < A.length) (hg : goes B A[k] = true) : dels (A.take (k + 1)) B = dels (A.take k) B ++ [delC A[k]] := by
  rw [dels, Pp.filter_hitE hk hg, List.map_append]; rfl
theorem dels_miss {A B : List En} {k : Nat} (hk : k < A.length) (hg : goes B A[k] = false) : dels (A.take (k + 1)) B = dels (A.take k) B := by
  rw [dels, Pp.filter_missE hk hg]; rfl
/-- What stays is a tree. -/
theorem stay_good {A B : List En} (hA : Pp.Good A) (k : Nat) : Pp.Good (stay A B k) := by
  have hr : (stay A B k).Pairwise (fun x y => Pp.lt x y = true) := hA.rise.filter _
  refine ⟨Nat.le_trans (List.length_filter_le _ _) hA.len, fun e he => hA.ents e (List.mem_filter.1 he).1, hr, fun e he => ?_⟩
  obtain ⟨h1, h2⟩ := List.mem_filter.1 he
  by_cases hp : Pp.par e.path.data.toList = []
  · rw [hp]; exact Pp.fold_nil _
  · obtain ⟨x, hx, hxp, hxf, _⟩ := Pp.fold_zero (hA.pars e h1) hp
    refine Pp.fold_mem hr (List.mem_filter.2 ⟨hx, ?_⟩) hxp hxf
    cases hh : inB ((A.take k).filter (goes B)) x with
    | false => rfl
    | true =>
      obtain ⟨d, hd, hi⟩ := inB_iff.1 hh
      rw [hxp] at hi
      have := inB_iff.2 ⟨d, hd, Pp.par_in hi hp⟩
      rw [this] at h2; cases h2
/-- What there is at a path of the other tree, behind the deletes: what there was, if it is of the same kind. -/
theorem stay_at {A B : List En} (hA : Pp.Good A) (hB : Pp.Good B) {b : En} (hb : b ∈ B) :
    (∀ x, at_ (stay A B A.length) b.path.data.toList = some x → at_ A b.path.data.toList = some x ∧ x.folder = b.folder) ∧
    (at_ (stay A B A.length) b.path.data.toList = none → wh b ≠ wAt A b.path.data.toList) := by
  have hbp : hasP B b.path.data.toList = true := by
    rw [hasP_yes]
    by_cases hp : Pp.par b.path.data.toList = []
    · exact Or.inl hp
    · exact Or.inr (wAt_fold hp (hB.pars b hb))
  have aA := apart_rise hA.rise
  have aB := apart_rise hB.rise
  constructor
  · intro x hx
    obtain ⟨h1, h2⟩ := at_mem hx
    obtain ⟨h3, h4⟩ := List.mem_filter.1 h1
    refine ⟨by rw [← h2]; exact at_self aA h3, ?_⟩
    by_cases hf : x.folder = b.folder
    · exact hf
    · exfalso
      have hg : goes B x = true := by
        rw [goes, h2, hbp, wAt_self aB hb, Bool.and_true]
        simpa using fun e => hf (wh_eq.1 e)
      have : inB ((A.take A.length).filter (goes B)) x = true := inB_iff.2 ⟨x, List.mem_filter.2 ⟨by rw [List.take_length]; exact h3, hg⟩, Pp.isIn_refl _⟩
      rw [this] at h4; cases h4
  · intro hn hw
    obtain ⟨x, hx, hxm, hxp, hxf⟩ := wAt_some hw
    have hst : x ∈ stay A B A.length := by
      refine List.mem_filter.2 ⟨hxm, ?_⟩
      cases hh : inB ((A.take A.length).filter (goes B)) x with
      | false => rfl
      | true =>
        obtain ⟨d, hd, hi⟩ := inB_iff.1 hh
        obtain ⟨hd1, hd2⟩ := List.mem_filter.1 hd
        rw [List.take_length] at hd1
        by_cases he : x.path.data.toList = d.path.data.toList
        · have : x = d := hA.uniq hxm hd1 he
          subst this
          rw [goes, hxp, wAt_self aB hb, wh_eq.2 hxf] at hd2
          simp at hd2
        · have := below hA hB hxm hd1 hd2 hi he
          rw [hxp, hbp] at this; cases this
    have := at_self (apart_rise (stay_good (B := B) hA A.length).rise) hst
    rw [hxp, hn] at this; cases this
/-- Is nothing to be made of it? -/
theorem newB_some {A : List En} {b x : En} (h : at_ A b.path.data.toList = some x) (hf : x.folder = b.folder) : newB A b = !(b.folder || (x.text.toList == b.text.toList)) := by
  have h1 : wAt A b.path.data.toList = wh b := by rw [wAt, h]; exact wh_eq.2 hf
  have h2 : tAt A b.path.data.toList = tx x := by rw [tAt, h]
  rw [newB, h1, h2]
  unfold tx
  rw [hf]
  cases b.folder with
  | true => simp
  | false =>
    simp
    rw [Bool.eq_iff_iff, beq_iff_eq, beq_iff_eq]
    exact eq_comm
theorem newB_none {A : List En} {b : En} (h : wh b ≠ wAt A b.path.data.toList) : newB A b = true := by
  have : (wh b == wAt A b.path.data.toList) = false := by simpa using h
  rw [newB, this]; rfl
theorem mkC_good {b : En} (h : Pp.entE b = 0) : mkC b = ⟨if b.folder = true then 1 else 2, b.path, ⟨#[]⟩, b.text, -1⟩ := by
  rw [mkC]
  by_cases hf : b.folder = true
  · rw [if_pos hf, if_pos hf]
    have h1 := entE_text h hf
    have h2 : b.text = ⟨#[]⟩ := by
      cases hb : b.text with
      | mk d => rw [hb] at h1; cases d; simp_all
    rw [h2]
  · rw [if_neg hf, if_neg hf]
end Sp
end Go.Proofs.Ytogbahkoijkclaa
