/- When two trees are alike, as plain mathematics: just when nothing is to be done. What stays of a tree while deletes are worked out one by one, as plain mathematics. What the reference's ChangeOf answers, of a delete of something that is there, whatever its version. -/
import Derived.Test.YtflekhcmipmelaaGreatDoorPG
import Derived.Test.YtflekhcmipmelaaGreatDoorMA
import Derived.Test.YtflekhcmipmelaaGreatDoorME
import Derived.Test.YtflekhcmipmelaaGreatDoorPQ
import Derived.Test.YtflekhcmipmelaaGreatDoorPP
import Derived.Deep.RegionHeld3
import Derived.Deep.RegionLaw
import Derived.Deep.DeepCutAuto
import Derived.WalkKit
set_option linter.unusedSimpArgs false
set_option linter.unusedVariables false
namespace Go.Proofs.YtflekhcmipmelaaGreatDoor
open Go.RowKit Go.Maps Go.WideMaps

namespace Sp
def likeE (x y : En) : Bool := (x.path.toList == y.path.toList) && ((x.folder == y.folder) && (x.text.toList == y.text.toList))
def likeP (A B : List En) : Prop := A.length = B.length ∧ ∀ j (h : j < A.length) (h2 : j < B.length), likeE A[j] B[j] = true
theorem likeE_iff {x y : En} : likeE x y = true ↔ x.path.data.toList = y.path.data.toList ∧ x.folder = y.folder ∧ x.text.data.toList = y.text.data.toList := by
  rw [likeE, Lib.toList_data, Lib.toList_data, Lib.toList_data, Lib.toList_data]
  simp
theorem rise_eq {A B : List (List UInt8)} (hA : A.Pairwise (fun x y => x < y)) (hB : B.Pairwise (fun x y => x < y)) (h : ∀ x, x ∈ A ↔ x ∈ B) : A = B := by
  induction A generalizing B with
  | nil =>
    cases B with
    | nil => rfl
    | cons b r => exact absurd ((h b).2 (by simp)) (by simp)
  | cons a A ih =>
    cases B with
    | nil => exact absurd ((h a).1 (by simp)) (by simp)
    | cons b B =>
      rw [List.pairwise_cons] at hA hB
      have hab : a = b := by
        rcases List.mem_cons.1 ((h a).1 (by simp)) with e | h1
        · exact e
        · rcases List.mem_cons.1 ((h b).2 (by simp)) with e | h2
          · exact e.symm
          · exact absurd (List.lt_trans (hA.1 b h2) (hB.1 a h1)) (List.lt_irrefl _)
      subst hab
      congr 1
      refine ih hA.2 hB.2 fun x => ⟨fun hx => ?_, fun hx => ?_⟩
      · rcases List.mem_cons.1 ((h x).1 (by simp [hx])) with e | h1
        · subst e; exact absurd (hA.1 _ hx) (List.lt_irrefl _)
        · exact h1
      · rcases List.mem_cons.1 ((h x).2 (by simp [hx])) with e | h1
        · subst e; exact absurd (hB.1 _ hx) (List.lt_irrefl _)
        · exact h1
theorem rise_map {L : List En} (h : L.Pairwise (fun x y => Pp.lt x y = true)) : (L.map (fun e => e.path.data.toList)).Pairwise (fun x y => x < y) := by
  rw [List.pairwise_map]
  refine List.Pairwise.imp ?_ h
  intro x y hxy
  rwa [Pp.lt, Lib.toList_data, Lib.toList_data, bytesLess_eq, decide_eq_true_eq] at hxy
theorem wh_cases (e : En) : (e.folder = true ∧ wh e = 1) ∨ (e.folder = false ∧ wh e = 2) := by
  unfold wh
  cases e.folder <;> simp
theorem wh_eq {x y : En} : wh x = wh y ↔ x.folder = y.folder := by
  rcases wh_cases x with ⟨h1, h2⟩ | ⟨h1, h2⟩ <;> rcases wh_cases y with ⟨h3, h4⟩ | ⟨h3, h4⟩ <;> simp [h1, h2, h3, h4]
theorem at_mem {L : List En} {p : List UInt8} {x : En} (h : at_ L p = some x) : x ∈ L ∧ x.path.data.toList = p := ⟨List.mem_of_find?_eq_some h, atB_iff.1 (List.find?_some h)⟩
theorem wAt_some {L : List En} {p : List UInt8} {e : En} (h : wh e = wAt L p) : ∃ x, at_ L p = some x ∧ x ∈ L ∧ x.path.data.toList = p ∧ x.folder = e.folder := by
  rw [wAt] at h
  cases hx : at_ L p with
  | none =>
    rw [hx] at h
    simp only at h
    rcases wh_cases e with ⟨_, h2⟩ | ⟨_, h2⟩ <;> omega
  | some x =>
    rw [hx] at h
    exact ⟨x, rfl, (at_mem hx).1, (at_mem hx).2, (wh_eq.1 h).symm⟩
theorem par_lt {p : List UInt8} (h : Pp.par p ≠ []) : (Pp.par p).length < p.length := by
  by_cases hs : 47 ∈ p
  · obtain ⟨a, b, hb, rfl⟩ := Pp.last_split hs
    rw [Pp.par_cut a hb]
    simp
  · exact absurd (Pp.par_none hs) h
theorem entE_text {e : En} (h : Pp.entE e = 0) (hf : e.folder = true) : e.text.data.toList = [] := by
  rw [Pp.entE, if_pos (Pp.entE_path h)] at h
  by_cases ht : e.text.data.toList = []
  · exact ht
  · rw [if_pos ⟨hf, ht⟩] at h; cases h
/-- What is not gone is there. -/
theorem stays {A B : List En} (hA : Pp.Good A) (hd : dels A B = []) : ∀ (n : Nat) (e : En), e ∈ A → e.path.data.toList.length ≤ n → wh e = wAt B e.path.data.toList := by
  have hno : ∀ e ∈ A, goes B e = false := by
    rw [dels, List.map_eq_nil_iff, List.filter_eq_nil_iff] at hd
    intro e he
    simpa using hd e he
  intro n
  induction n with
  | zero =>
    intro e he hl
    have h1 : e.path.data.toList = [] := List.length_eq_zero_iff.1 (by omega)
    have h2 := hno e he
    have h3 : hasP B e.path.data.toList = true := by
      rw [hasP, h1, Pp.par_none (by simp)]; rfl
    rw [goes, h3, Bool.and_true] at h2
    simpa using h2
  | succ n ih =>
    intro e he hl
    have h2 := hno e he
    have h3 : hasP B e.path.data.toList = true := by
      by_cases hp : Pp.par e.path.data.toList = []
      · rw [hasP, hp]; rfl
      · obtain ⟨x, hx, hxp, hxf, _⟩ := Pp.fold_zero (hA.pars e he) hp
        have h4 := ih x hx (by rw [hxp]; have := par_lt hp; omega)
        rw [hxp] at h4
        rw [hasP, ← h4]
        simp [wh, hxf]
    rw [goes, h3, Bool.and_true] at h2
    simpa using h2
theorem none_like {A B : List En} (hA : Pp.Good A) (hB : Pp.Good B) : dels A B ++ mks A B = [] ↔ likeP A B := by
  constructor
  · intro h
    obtain ⟨hd, hm⟩ := List.append_eq_nil_iff.1 h
    have h1 : ∀ e ∈ A, wh e = wAt B e.path.data.toList := fun e he => stays hA hd _ e he (Nat.le_refl _)
    have h2 : ∀ e ∈ B, newB A e = false := by
      rw [mks, List.map_eq_nil_iff, List.filter_eq_nil_iff] at hm
      intro e he
      simpa using hm e he
    have h3 : ∀ e ∈ B, wh e = wAt A e.path.data.toList ∧ (tx e).toList = (tAt A e.path.data.toList).toList := fun e he => by
      have := h2 e he
      rw [newB] at this
      simpa using this
    have hpe : A.map (fun e => e.path.data.toList) = B.map (fun e => e.path.data.toList) := by
      refine rise_eq (rise_map hA.rise) (rise_map hB.rise) fun x => ⟨fun hx => ?_, fun hx => ?_⟩
      · obtain ⟨e, he, rfl⟩ := List.mem_map.1 hx
        obtain ⟨y, _, hy, hyp, _⟩ := wAt_some (h1 e he)
        exact List.mem_map.2 ⟨y, hy, hyp⟩
      · obtain ⟨e, he, rfl⟩ := List.mem_map.1 hx
        obtain ⟨y, _, hy, hyp, _⟩ := wAt_some (h3 e he).1
        exact List.mem_map.2 ⟨y, hy, hyp⟩
    refine ⟨by simpa using congrArg List.length hpe, fun j hj hj2 => likeE_iff.2 ?_⟩
    have hp : A[j].path.data.toList = B[j].path.data.toList := by
      have := congrArg (fun l => l[j]?) hpe
      simpa [hj, hj2] using this
    obtain ⟨h4, h5⟩ := h3 B[j] (List.getElem_mem hj2)
    obtain ⟨x, hx, hxm, hxp, hxf⟩ := wAt_some h4
    have hxe : x = A[j] := hA.uniq hxm (List.getElem_mem hj) (hxp.trans hp.symm)
    rw [tAt, hx] at h5
    subst hxe
    refine ⟨hp, hxf, ?_⟩
    replace h5 : (tx B[j]).toList = (tx A[j]).toList := h5
    unfold tx at h5
    rw [hxf] at h5
    cases hf : B[j].folder with
    | true =>
      rw [entE_text (hA.ents _ (List.getElem_mem hj)) (hxf.trans hf), entE_text (hB.ents _ (List.getElem_mem hj2)) hf]
    | false =>
      rw [hf] at h5
      simp only [Bool.false_eq_true, if_false] at h5
      rw [Lib.toList_data, Lib.toList_data] at h5
      exact h5.symm
  · intro ⟨hl, h⟩
    have aA := apart_rise hA.rise
    have aB := apart_rise hB.rise
    rw [List.append_eq_nil_iff]
    constructor
    · rw [dels, List.map_eq_nil_iff, List.filter_eq_nil_iff]
      intro e he
      obtain ⟨j, hj, rfl⟩ := List.getElem_of_mem he
      obtain ⟨h1, h2, h3⟩ := likeE_iff.1 (h j hj (by omega))
      rw [goes, h1, wAt_self aB (List.getElem_mem _), wh_eq.2 h2]
      simp
    · rw [mks, List.map_eq_nil_iff, List.filter_eq_nil_iff]
      intro e he
      obtain ⟨j, hj, rfl⟩ := List.getElem_of_mem he
      obtain ⟨h1, h2, h3⟩ := likeE_iff.1 (h j (by omega) hj)
      have h4 : (tx B[j]).toList = (tx (A[j]'(by omega))).toList := by
        unfold tx
        rw [h2]
        split
        · rfl
        · rw [Lib.toList_data, Lib.toList_data]; exact h3.symm
      rw [newB, ← h1, wAt_self aA (List.getElem_mem _), tAt_self aA (List.getElem_mem _), wh_eq.2 h2, h4]
      simp
end Sp
end Go.Proofs.YtflekhcmipmelaaGreatDoor
set_option linter.unusedSimpArgs false
set_option linter.unusedVariables false
namespace Go.Proofs.YtflekhcmipmelaaGreatDoor
open Go.RowKit Go.Maps Go.WideMaps

namespace Sp
/-- Is an entry at or within one that goes? -/
def inB (D : List En) (e : En) : Bool := D.any (fun d => Pp.wi d.path.data.toList e)
def stay (A B : List En) (k : Nat) : List En := A.filter (fun e => !inB ((A.take k).filter (goes B)) e)
theorem isIn_cases {p q : List UInt8} (h : Pp.isInB p q = true) : p = q ∨ (q.length < p.length ∧ (q ≠ [] → Pp.par p ≠ [] ∧ Pp.isInB (Pp.par p) q = true)) := by
  rcases (Pp.isIn_of p q).1 h with h | ⟨r, h⟩
  · exact Or.inl h
  · refine Or.inr ⟨by rw [h]; simp, fun hq => ?_⟩
    obtain ⟨a, b, hb, e, hi, hp⟩ := Pp.par_down (p := q) (r := r)
    rw [h, hp]
    refine ⟨?_, hi⟩
    rcases (Pp.isIn_of a q).1 hi with h2 | ⟨r2, h2⟩
    · rw [h2]; exact hq
    · rw [h2]; simp
theorem wAt_fold {L : List En} {p : List UInt8} (hp : p ≠ []) (h : Pp.foldE L p = 0) : wAt L p = 1 := by
  obtain ⟨x, hx, hxp, hxf, hf⟩ := Pp.fold_zero h hp
  rw [wAt, show at_ L p = some x from hf]
  show wh x = 1
  simp [wh, hxf]
theorem wAt_one {L : List En} {p : List UInt8} (h : wAt L p = 1) : ∃ x, x ∈ L ∧ x.path.data.toList = p ∧ x.folder = true := by
  rw [wAt] at h
  cases hx : at_ L p with
  | none => rw [hx] at h; cases h
  | some x =>
    rw [hx] at h
    refine ⟨x, (at_mem hx).1, (at_mem hx).2, ?_⟩
    rcases wh_cases x with ⟨h1, _⟩ | ⟨_, h2⟩
    · exact h1
    · simp only at h; omega
/-- Above a folder are folders. -/
theorem up {L : List En} (hL : Pp.Good L) {q : List UInt8} (hq : q ≠ []) : ∀ (n : Nat) (p : List UInt8), p.length ≤ n → wAt L p = 1 → Pp.isInB p q = true → wAt L q = 1 := by
  intro n
  induction n with
  | zero =>
    intro p hl h1 h2
    rcases isIn_cases h2 with e | ⟨h3, _⟩
    · rw [← e]; exact h1
    · omega
  | succ n ih =>
    intro p hl h1 h2
    rcases isIn_cases h2 with e | ⟨h3, h4⟩
    · rw [← e]; exact h1
    · obtain ⟨h5, h6⟩ := h4 hq
      obtain ⟨x, hx, hxp, _⟩ := wAt_one h1
      have h7 := hL.pars x hx
      rw [hxp] at h7
      have h8 := par_lt h5
      exact ih _ (by omega) (wAt_fold h5 h7) h6
theorem path_ne {L : List En} (hL : Pp.Good L) {e : En} (he : e ∈ L) : e.path.data.toList ≠ [] := by
  intro h
  have := Pp.entE_path (hL.ents e he)
  rw [h] at this
  exact absurd this (by decide)
theorem hasP_no {M : List En} {p : List UInt8} : hasP M p = false ↔ Pp.par p ≠ [] ∧ wAt M (Pp.par p) ≠ 1 := by
  rw [hasP]; simp
theorem hasP_yes {M : List En} {p : List UInt8} : hasP M p = true ↔ Pp.par p = [] ∨ wAt M (Pp.par p) = 1 := by
  rw [hasP]; simp
/-- What has no folder to be in is below one that goes. -/
theorem above {A B : List En} (hA : Pp.Good A) : ∀ (n : Nat) (p : List UInt8), p.length ≤ n → wAt A p = 1 → wAt B p ≠ 1 → ∃ d ∈ A, goes B d = true ∧ Pp.isInB p d.path.data.toList = true := by
  intro n
  induction n with
  | zero =>
    intro p hl h1 _
    obtain ⟨x, hx, hxp, _⟩ := wAt_one h1
    exact absurd (List.length_eq_zero_iff.1 (by omega : p.length = 0)) (hxp ▸ path_ne hA hx)
  | succ n ih =>
    intro p hl h1 h2
    obtain ⟨x, hx, hxp, hxf⟩ := wAt_one h1
    cases hh : hasP B p with
    | true =>
      refine ⟨x, hx, ?_, by rw [hxp]; exact Pp.isIn_refl p⟩
      have : wh x = 1 := by simp [wh, hxf]
      rw [goes, hxp, hh, this, Bool.and_true]
      simpa using fun e => h2 e.symm
    | false =>
      obtain ⟨h3, h4⟩ := hasP_no.1 hh
      have h5 := hA.pars x hx
      rw [hxp] at h5
      have h6 := par_lt h3
      obtain ⟨d, hd, hg, hi⟩ := ih _ (by omega) (wAt_fold h3 h5) h4
      exact ⟨d, hd, hg, Pp.par_in hi h3⟩
/-- Below one that goes there is no folder to be in. -/
theorem below {A B : List En} (hA : Pp.Good A) (hB : Pp.Good B) {e d : En} (he : e ∈ A) (hd : d ∈ A) (hg : goes B d = true) (hi : Pp.isInB e.path.data.toList d.path.data.toList = true) (hne : e.path.data.toList ≠ d.path.data.toList) : hasP B e.path.data.toList = false := by
  cases hh : hasP B e.path.data.toList with
  | false => rfl
  | true =>
    exfalso
    have hq := path_ne hA hd
    rcases isIn_cases hi with h | ⟨_, h⟩
    · exact hne h
    · obtain ⟨h1, h2⟩ := h hq
      have h3 : wAt B d.path.data.toList = 1 := by
        rcases hasP_yes.1 hh with h4 | h4
        · exact absurd h4 h1
        · exact up hB hq _ _ (Nat.le_refl _) h4 h2
      have h5 : wAt A d.path.data.toList = 1 := up hA hq _ _ (Nat.le_refl _) (wAt_fold h1 (hA.pars e he)) h2
      rw [wAt_self (apart_rise hA.rise) hd] at h5
      rw [goes, h3, h5] at hg
      simp at hg
theorem mem_take {A : List En} {k : Nat} (hk : k < A.length) (hr : A.Pairwise (fun x y => Pp.lt x y = true)) {d : En} (hd : d ∈ A) (hl : Pp.lt d A[k] = true) : d ∈ A.take k := by
  obtain ⟨i, hi, rfl⟩ := List.getElem_of_mem hd
  rw [List.pairwise_iff_getElem] at hr
  have : i < k := by
    rcases Nat.lt_trichotomy i k with h | h | h
    · exact h
    · subst h; rw [Pp.lt_irrefl] at hl; cases hl
    · have h2 := Pp.lt_trans _ _ _ hl (hr k i hk hi h)
      rw [Pp.lt_irrefl] at h2; cases h2
  rw [List.mem_take_iff_getElem]
  exact ⟨i, by omega, rfl⟩
theorem lt_in {e d : En} (hi : Pp.isInB e.path.data.toList d.path.data.toList = true) (hne : e.path.data.toList ≠ d.path.data.toList) : Pp.lt d e = true := by
  rcases (Pp.isIn_of _ _).1 hi with h | ⟨r, h⟩
  · exact absurd h hne
  · rw [Pp.lt, Lib.toList_data, Lib.toList_data, bytesLess_eq, decide_eq_true_eq, h]
    generalize d.path.data.toList = q
    induction q with
    | nil => exact List.nil_lt_cons _ _
    | cons a r ih => rw [List.cons_append, List.cons_lt_cons_iff]; exact Or.inr ⟨rfl, ih⟩
theorem take_ne {A : List En} {k : Nat} (hk : k < A.length) (hr : A.Pairwise (fun x y => Pp.lt x y = true)) {d : En} (hd : d ∈ A.take k) : A[k].path.data.toList ≠ d.path.data.toList := by
  obtain ⟨i, hi, rfl⟩ := List.mem_take_iff_getElem.1 hd
  have := apart_rise hr
  rw [Apart, List.pairwise_iff_getElem] at this
  exact fun e => this i k (by omega) hk (by omega) e.symm
theorem inB_iff {D : List En} {e : En} : inB D e = true ↔ ∃ d ∈ D, Pp.isInB e.path.data.toList d.path.data.toList = true := by
  rw [inB, List.any_eq_true]; rfl
/-- Has the next one gone already? Just when there is no folder to be in. -/
theorem gone {A B : List En} (hA : Pp.Good A) (hB : Pp.Good B) {k : Nat} (hk : k < A.length) : inB ((A.take k).filter (goes B)) A[k] = !hasP B A[k].path.data.toList := by
  cases hh : hasP B A[k].path.data.toList with
  | true =>
    rw [Bool.not_true, ← Bool.not_eq_true]
    intro h
    obtain ⟨d, hd, hi⟩ := inB_iff.1 h
    obtain ⟨hd1, hd2⟩ := List.mem_filter.1 hd
    have := below hA hB (List.getElem_mem hk) (List.mem_of_mem_take hd1) hd2 hi (take_ne hk hA.rise hd1)
    rw [hh] at this; cases this
  | false =>
    rw [Bool.not_false]
    obtain ⟨h1, h2⟩ := hasP_no.1 hh
    obtain ⟨d, hd, hg, hi⟩ := above (B := B) hA _ _ (Nat.le_refl _) (wAt_fold h1 (hA.pars _ (List.getElem_mem hk))) h2
    have hi2 := Pp.par_in hi h1
    have hne : A[k].path.data.toList ≠ d.path.data.toList := fun e => by
      obtain ⟨s, hs⟩ := Pp.isIn_pre hi
      have h3 := par_lt h1
      have h4 := congrArg List.length hs
      have h5 := congrArg List.length e
      rw [List.length_append] at h4
      omega
    exact inB_iff.2 ⟨d, List.mem_filter.2 ⟨mem_take hk hA.rise hd (lt_in hi2 hne), hg⟩, hi2⟩
theorem stay_zero (A B : List En) : stay A B 0 = A := by
  rw [stay, List.filter_eq_self]
  intro e _; rfl
theorem stay_mem {A B : List En} (hA : Pp.Good A) (hB : Pp.Good B) {k : Nat} (hk : k < A.length) : A[k] ∈ stay A B k ↔ hasP B A[k].path.data.toList = true := by
  rw [stay, List.mem_filter, gone hA hB hk]
  simp
theorem stay_hit {A B : List En} {k : Nat} (hk : k < A.length) (hg : goes B A[k] = true) : stay A B (k + 1) = (stay A B k).filter (fun e => !Pp.wi A[k].path.data.toList e) := by
  rw [stay, stay, Pp.filter_hitE hk hg, List.filter_filter]
  congr 1
  funext e
  rw [inB, inB, List.any_append]
  cases (List.filter (goes B) (List.take k A)).any (fun d => Pp.wi d.path.data.toList e) <;> simp
theorem stay_miss {A B : List En} {k : Nat} (hk : k < A.length) (hg : goes B A[k] = false) : stay A B (k + 1) = stay A B k := by
  rw [stay, stay, Pp.filter_missE hk hg]
theorem dels_hit {A B : List En} {k : Nat} (hk : k < A.length) (hg : goes B A[k] = true) : dels (A.take (k + 1)) B = dels (A.take k) B ++ [delC A[k]] := by
  rw [dels, Pp.filter_hitE hk hg, List.map_append]; rfl
theorem dels_miss {A B : List En} {k : Nat} (hk : k < A.length) (hg : goes B A[k] = false) : dels (A.take (k + 1)) B = dels (A.take k) B := by
  rw [dels, Pp.filter_missE hk hg]; rfl
theorem goes_eq {M : List En} {e : En} (h : hasP M e.path.data.toList = true) : goes M e = (wh e != wAt M e.path.data.toList) := by rw [goes, h, Bool.and_true]
theorem mks_hit {A B : List En} {k : Nat} (hk : k < B.length) (h : newB A B[k] = true) : mks A (B.take (k + 1)) = mks A (B.take k) ++ [mkC B[k]] := by
  rw [mks, Pp.filter_hitE hk h, List.map_append]; rfl
theorem mks_miss {A B : List En} {k : Nat} (hk : k < B.length) (h : newB A B[k] = false) : mks A (B.take (k + 1)) = mks A (B.take k) := by
  rw [mks, Pp.filter_missE hk h]; rfl
/-- What stays is a tree. -/
theorem stay_good {A B : List En} (hA : Pp.Good A) (k : Nat) : Pp.Good (stay A B k) := by
  have hr : (stay A B k).Pairwise (fun x y => Pp.lt x y = true) := hA.rise.filter _
  refine ⟨Nat.le_trans (List.length_filter_le _ _) hA.len, fun e he => hA.ents e (List.mem_filter.1 he).1, hr, fun e he => ?_⟩
  obtain ⟨h1, h2⟩ := List.mem_filter.1 he
  by_cases hp : Pp.par e.path.data.toList = []
  · rw [hp]; exact Pp.fold_nil _
  · obtain ⟨x, hx, hxp, hxf, _⟩ := Pp.fold_zero (hA.pars e h1) hp
    refine Pp.fold_mem hr (List.mem_filter.2 ⟨hx, ?_⟩) hxp hxf
    cases hh : inB ((A.take k).filter (goes B)) x with
    | false => rfl
    | true =>
      obtain ⟨d, hd, hi⟩ := inB_iff.1 hh
      rw [hxp] at hi
      have := inB_iff.2 ⟨d, hd, Pp.par_in hi hp⟩
      rw [this] at h2; cases h2
/-- What there is at a path of the other tree, behind the deletes: what there was, if it is of the same kind. -/
theorem stay_at {A B : List En} (hA : Pp.Good A) (hB : Pp.Good B) {b : En} (hb : b ∈ B) :
    (∀ x, at_ (stay A B A.length) b.path.data.toList = some x → at_ A b.path.data.toList = some x ∧ x.folder = b.folder) ∧
    (at_ (stay A B A.length) b.path.data.toList = none → wh b ≠ wAt A b.path.data.toList) := by
  have hbp : hasP B b.path.data.toList = true := by
    rw [hasP_yes]
    by_cases hp : Pp.par b.path.data.toList = []
    · exact Or.inl hp
    · exact Or.inr (wAt_fold hp (hB.pars b hb))
  have aA := apart_rise hA.rise
  have aB := apart_rise hB.rise
  constructor
  · intro x hx
    obtain ⟨h1, h2⟩ := at_mem hx
    obtain ⟨h3, h4⟩ := List.mem_filter.1 h1
    refine ⟨by rw [← h2]; exact at_self aA h3, ?_⟩
    by_cases hf : x.folder = b.folder
    · exact hf
    · exfalso
      have hg : goes B x = true := by
        rw [goes, h2, hbp, wAt_self aB hb, Bool.and_true]
        simpa using fun e => hf (wh_eq.1 e)
      have : inB ((A.take A.length).filter (goes B)) x = true := inB_iff.2 ⟨x, List.mem_filter.2 ⟨by rw [List.take_length]; exact h3, hg⟩, Pp.isIn_refl _⟩
      rw [this] at h4; cases h4
  · intro hn hw
    obtain ⟨x, hx, hxm, hxp, hxf⟩ := wAt_some hw
    have hst : x ∈ stay A B A.length := by
      refine List.mem_filter.2 ⟨hxm, ?_⟩
      cases hh : inB ((A.take A.length).filter (goes B)) x with
      | false => rfl
      | true =>
        obtain ⟨d, hd, hi⟩ := inB_iff.1 hh
        obtain ⟨hd1, hd2⟩ := List.mem_filter.1 hd
        rw [List.take_length] at hd1
        by_cases he : x.path.data.toList = d.path.data.toList
        · have : x = d := hA.uniq hxm hd1 he
          subst this
          rw [goes, hxp, wAt_self aB hb, wh_eq.2 hxf] at hd2
          simp at hd2
        · have := below hA hB hxm hd1 hd2 hi he
          rw [hxp, hbp] at this; cases this
    have := at_self (apart_rise (stay_good (B := B) hA A.length).rise) hst
    rw [hxp, hn] at this; cases this
/-- Is nothing to be made of it? -/
theorem newB_some {A : List En} {b x : En} (h : at_ A b.path.data.toList = some x) (hf : x.folder = b.folder) : newB A b = !(b.folder || (x.text.toList == b.text.toList)) := by
  have h1 : wAt A b.path.data.toList = wh b := by rw [wAt, h]; exact wh_eq.2 hf
  have h2 : tAt A b.path.data.toList = tx x := by rw [tAt, h]
  rw [newB, h1, h2]
  unfold tx
  rw [hf]
  cases b.folder with
  | true => simp
  | false =>
    simp
    rw [Bool.eq_iff_iff, beq_iff_eq, beq_iff_eq]
    exact eq_comm
theorem newB_none {A : List En} {b : En} (h : wh b ≠ wAt A b.path.data.toList) : newB A b = true := by
  have : (wh b == wAt A b.path.data.toList) = false := by simpa using h
  rw [newB, this]; rfl
theorem mkC_good {b : En} (h : Pp.entE b = 0) : mkC b = ⟨if b.folder = true then 1 else 2, b.path, ⟨#[]⟩, b.text, -1⟩ := by
  rw [mkC]
  by_cases hf : b.folder = true
  · rw [if_pos hf, if_pos hf]
    have h1 := entE_text h hf
    have h2 : b.text = ⟨#[]⟩ := by
      cases hb : b.text with
      | mk d => rw [hb] at h1; cases d; simp_all
    rw [h2]
  · rw [if_neg hf, if_neg hf]
end Sp
end Go.Proofs.YtflekhcmipmelaaGreatDoor
set_option linter.unusedSimpArgs false
set_option linter.unusedVariables false
namespace Go.Proofs.YtflekhcmipmelaaGreatDoor
open Go.RowKit

theorem Pp.chg_del {p : ByteArray} (h : Pp.chk p.data.toList = 0) : Pp.chgE ⟨4, p, ⟨#[]⟩, ⟨#[]⟩, -1⟩ = 0 := by
  rw [Pp.chgE, if_neg (show ¬ ((4 : Int) < 1 ∨ 4 < (4 : Int)) by decide), if_neg (fun x => x h), if_neg (fun x => absurd (show (4 : Int) = 3 from x.1) (by decide)), if_neg (by simp), if_neg (show ¬ 300 < (⟨#[]⟩ : ByteArray).size by decide), if_neg (show ¬ ((-1 : Int) < -1 ∨ 1000000 < (-1 : Int)) by decide)]
theorem Pp.idx_some {L : List En} {q : List UInt8} {x : En} (h : L.find? (Pp.atB q) = some x) : ∃ k, ∃ h : k < L.length, Pp.idx L q = (k : Int) ∧ L[k] = x := by
  rcases Pp.idx_cases L q with ⟨_, h2⟩ | ⟨k, hk, h1, h2⟩
  · rw [h] at h2; cases h2
  · rw [h] at h2; exact ⟨k, hk, h1, (Option.some.inj h2).symm⟩

set_option maxRecDepth 100000 in
set_option maxHeartbeats 4000000 in
theorem changeOf_gone (L : List En) (v : Value) (p : ByteArray) (w : World) (hv : Lies w v L) (hp : p.size ≤ 1000000000) (hL : Pp.Good L) {x : En} (hx : x ∈ L) (hxp : x.path.data.toList = p.data.toList) :
    Calls Tryz.prog 34 #[v, .agg #[.int .i64 4, .string p, .string ⟨#[]⟩, .string ⟨#[]⟩, .int .i64 (-1)], .int .i64 1] w fun e w' => ∃ u, e = .returned (.tuple #[u, .int .i64 0]) ∧ w'.ownsRow w.heap.size 46 4 u (L.filter (fun e => !Pp.wi p.data.toList e)).length (Pp.flat (L.filter (fun e => !Pp.wi p.data.toList e))) ∧ Below w.heap.size w w' := by
  obtain ⟨i0, hi0, hz0, hz1, hz2⟩ := info_parts Tryz.infoE
  have HV := hid hv
  have HS : Hid (∀ e ∈ L, e.path.size ≤ 1000000000) := (fun e he => by
    have := Pp.chk_len (Pp.entE_path (hL.ents e he))
    rw [Lib.size_eq]; omega : ∀ e ∈ L, e.path.size ≤ 1000000000)
  have HC : Hid (Pp.chgE ⟨4, p, ⟨#[]⟩, ⟨#[]⟩, -1⟩ = 0) := (Pp.chg_del (hxp ▸ Pp.entE_path (hL.ents x hx)) : Pp.chgE ⟨4, p, ⟨#[]⟩, ⟨#[]⟩, -1⟩ = 0)
  have H0 : Hid (Pp.foldE L (Pp.par p.data.toList) = 0) := (by rw [← hxp]; exact hL.pars x hx : Pp.foldE L (Pp.par p.data.toList) = 0)
  obtain ⟨j, hj, hi, _⟩ := Pp.idx_some (Pp.sorted_find hL.rise hx)
  rw [hxp] at hi
  have HI := hid hi
  have hlen : L.length ≤ 60 := hL.len
  have hjj : (j : Int) < L.length := by omega
  obtain ⟨a, cap, rfl, hcap, hcap2, hLL⟩ := hv
  have HL : Hid (∀ i (h : i < L.length), ∃ b o, a = some ⟨b, o, none⟩ ∧ b < w.heap.size ∧ EnAt w b (o + i * 4) L[i]) := hLL
  clear hLL hL hi hx hxp
  go_enter Tryz.func34, Tryz.ntmps34
  go_wp2_with fail
  refine (changeForm_any _ p _ _ _ _ hp (by decide) (by decide)).mono ?_
  rintro e w1 ⟨rfl, hb1⟩
  rw [HC.out]
  obtain ⟨c0, c1, c2, c3, c4, hbw, hlt⟩ := bx5 hb1
  go_wp2_with fail
  refine (parentOf_any p _ hp).mono ?_
  rintro e w2 ⟨rfl, hb2⟩
  have hb02 := hb1.trans (hb2.mono hb1.size)
  clear c0 c1 c2 c3 c4 hbw hlt hb1 hb2
  obtain ⟨c0, c1, c2, c3, c4, hbw, hlt⟩ := bx5 hb02
  go_wp2_with fail
  refine (isFolder_any L _ ⟨(Pp.par p.data.toList).toArray⟩ _ (HV.out.below hbw)).mono ?_
  rintro e w3 ⟨rfl, hb3⟩
  rw [show Pp.foldE L _ = 0 from H0.out]
  have hb03 := hb02.trans (hb3.mono hb02.size)
  clear c0 c1 c2 c3 c4 hbw hlt hb02 hb3
  obtain ⟨c0, c1, c2, c3, c4, hbw, hlt⟩ := bx5 hb03
  go_wp2_with fail
  refine (entryAt_any L _ p _ (HV.out.below hbw)).mono ?_
  rintro e w4 ⟨rfl, hb4⟩
  rw [HI.out]
  have hb04 := hb03.trans (hb4.mono hb03.size)
  clear c0 c1 c2 c3 c4 hbw hlt hb03 hb4
  obtain ⟨c0, c1, c2, c3, c4, hbw, hlt⟩ := bx5 hb04
  have HB := hid hb04
  have hpos : 0 < (L.length : Int) := by omega
  go_wp2_with fail
  clear c0 c1 c2 c3 c4 hbw hlt
  go_loopw [11] (fun i wr => i = .int .i64 0 ∧ wr = w4) (fun i _ => 0)
  case atStart => exact ⟨rfl, rfl⟩
  case round =>
    obtain ⟨rfl, rfl⟩ := hrel
    obtain ⟨c0, c1, c2, c3, c4, hbw, hlt⟩ := bx5 HB.out
    go_wp2_with fail
    have HBR := hid HB.out
    have HBW := hid hbw
    have hltr := hlt
    have hbr0 := hbw.size
    clear c0 c1 c2 c3 c4 hlt hbw HB
    obtain ⟨wf, hwf⟩ : ∃ wf, wf = wr := ⟨_, rfl⟩
    rw [← hwf]
    rw [← hwf] at HBR HBW hltr hbr0
    clear hwf
    go_loopw [12, 13] (fun o i wr => ∃ x : Nat, x ≤ L.length ∧ i = .int .i64 x ∧ wr.ownsRow wf.heap.size 46 4 o ((L.take x).filter (fun e => !Pp.wi p.data.toList e)).length (Pp.flat ((L.take x).filter (fun e => !Pp.wi p.data.toList e))) ∧ Below wf.heap.size wf wr) (fun _ i _ => L.length - (intOf i).toNat)
    case atStart => exact ⟨0, Nat.zero_le _, rfl, World.ownsRow_nil _ _ _ _, Below.refl _ _⟩
    case round =>
      obtain ⟨x, hx, rfl, hown, hbel⟩ := hrel
      have hbx := HBR.out.trans (hbel.mono HBR.out.size)
      obtain ⟨c0, c1, c2, c3, c4, hbw, hlt⟩ := bx5 hbx
      by_cases hlx : x < L.length
      · obtain ⟨b1, o1, hab, hb1, he⟩ := HL.out x hlx
        subst hab
        obtain ⟨d0, d1, d2, d3⟩ := he.below hb1 hbw
        have hbr : b1 < wr.heap.size := Nat.lt_of_lt_of_le hb1 hbw.size
        have hfl : ((L.take x).filter (fun e => !Pp.wi p.data.toList e)).length ≤ 60 := Nat.le_trans (List.length_filter_le _ _) (by rw [List.length_take]; omega)
        go_wp2_with fail
        go_region_held3 (fun W => W.cell? ⟨b1, o1 + x * 4, none⟩ = some (.string L[x].path) ∧ W.cell? ⟨w.heap.size, 1, none⟩ = some (.string p)) (go_keep) (first
          | (go_at_call 57; refine (isIn_any L[x].path p _ (HS.out _ (List.getElem_mem hlx)) hp).mono ?_; rintro e wa ⟨rfl, hba⟩; have k1 : wa.cell? ⟨b1, o1 + x * 4, none⟩ = some (.string L[x].path) := (hba.cell (p := ⟨b1, o1 + x * 4, none⟩) hbr).trans d0; have k2 : wa.cell? ⟨w.heap.size, 1, none⟩ = some (.string p) := (hba.cell (p := ⟨w.heap.size, 1, none⟩) hlt).trans c1))
        have hownA := hown.drew.kept9 hba
        have hbelA : Below wf.heap.size wf wa := hbel.drew.trans (hba.mono hbel.drew.size)
        have hbwA : Below w.heap.size w wa := hbw.drew.trans (hba.mono hbw.drew.size)
        clear c0 c1 c2 c3 c4 hbx hown hbel hbw d0 d1 d2 d3 hlt hbr
        cases hin : Pp.wi p.data.toList L[x] with
        | true =>
          have hin2 : Pp.isInB (L[x]).path.data.toList p.data.toList = true := hin
          have HST : Hid ((L.take (x + 1)).filter (fun e => !Pp.wi p.data.toList e) = (L.take x).filter (fun e => !Pp.wi p.data.toList e)) := (Pp.filter_miss hlx (by simp [hin]) : (L.take (x + 1)).filter (fun e => !Pp.wi p.data.toList e) = (L.take x).filter (fun e => !Pp.wi p.data.toList e))
          have HO := hid hownA
          clear hin hownA k1 k2 hba
          rw [hin2]
          clear hin2
          go_wp2_with fail
          go_roundw
          case rel => exact ⟨x + 1, by omega, by simp, by rw [HST.out]; exact HO.out, hbelA⟩
          case measure => simp [intOf]; omega
        | false =>
          have hin2 : Pp.isInB (L[x]).path.data.toList p.data.toList = false := hin
          have HST : Hid ((L.take (x + 1)).filter (fun e => !Pp.wi p.data.toList e) = (L.take x).filter (fun e => !Pp.wi p.data.toList e) ++ [L[x]]) := (Pp.filter_hit hlx (by simp [hin]) : (L.take (x + 1)).filter (fun e => !Pp.wi p.data.toList e) = (L.take x).filter (fun e => !Pp.wi p.data.toList e) ++ [L[x]])
          obtain ⟨d0, d1, d2, d3⟩ := he.below hb1 hbwA
          generalize (L.take x).filter (fun e => !Pp.wi p.data.toList e) = X at *
          clear hin k1 k2 hba
          rw [hin2]
          clear hin2
          go_wp2_with (at_builtin; refine wpList_append_own _ rfl _ _ 22 rfl wf.heap.size 46 i0 (.agg #[.string ⟨#[]⟩, .bool false, .string ⟨#[]⟩, .int .i64 0]) 4 48 Tryz.underlying22 hi0 hz0 hz1 hz2 rfl (by decide) _ _ _ rfl (hownA.alloc _) ⟨wa.heap.size, 0, none⟩ 1 1 (Pp.cells L[x]) rfl rfl (Pp.new_cells wa L[x] _) (Pp.cells_one _) (by unfold maxLen; omega) (by omega) (by have := hbelA.size; simp at this ⊢; omega) ?_)
          intro v2 w2 ho2 hgr2 hnn2
          have hbel2 : Below wf.heap.size wf w2 := (hbelA.alloc hbelA.size _).grown hgr2 (by have := hbelA.size; simp at this ⊢; omega) (fun g hg => by have := (hownA.lt g hg).1; simp; omega)
          rw [Pp.flat_snoc] at ho2
          have hown2 : w2.ownsRow wf.heap.size 46 4 v2 (X ++ [L[x]]).length (Pp.flat (X ++ [L[x]])) := by rw [List.length_append]; exact ho2
          have HO := hid hown2
          clear ho2 hgr2 hnn2 hown2 hownA hbelA hbwA d0 d1 d2 d3 he
          go_wp2_with fail
          go_roundw
          case rel => exact ⟨x + 1, by omega, by simp, by rw [HST.out]; exact HO.out, hbel2⟩
          case measure => simp [intOf]; omega
      · have eL : L.take x = L := List.take_of_length_le (by omega)
        rw [eL] at hown
        have HO := hid hown
        clear eL hown
        go_wp2_with fail
        go_loopw [12, 14] (fun o i wr => i = .int .i64 0 ∧ wr.ownsRow wf.heap.size 46 4 o (L.filter (fun e => !Pp.wi p.data.toList e)).length (Pp.flat (L.filter (fun e => !Pp.wi p.data.toList e))) ∧ Below wf.heap.size wf wr) (fun _ _ _ => 0)
        case atStart => exact ⟨rfl, HO.out, hbel⟩
        case round =>
          obtain ⟨rfl, hown, hbel⟩ := hrel
          have hbx := HBR.out.trans (hbel.mono HBR.out.size)
          clear c0 c1 c2 c3 c4 hbw hlt
          obtain ⟨c0, c1, c2, c3, c4, hbw, hlt⟩ := bx5 hbx
          have hK : (L.filter (fun e => !Pp.wi p.data.toList e)).length ≤ L.length := List.length_filter_le _ _
          obtain ⟨M, hM⟩ : ∃ M, M = L.filter (fun e => !Pp.wi p.data.toList e) := ⟨_, rfl⟩
          rw [← hM] at hown hK
          have HM := hid hM
          clear hM
          have HLI := hid (lies_row hown (by omega))
          have HOW := hid (ownsRow_low hown hbr0)
          have h60 : ¬ 60 < (M.length : Int) := by omega
          obtain ⟨a6, cap6, rfl, hc6, hc6', _⟩ := HLI.out
          clear hown hK hbel hbx
          go_wp2_with fail
          go_ret2
          exact ⟨_, rfl, by rw [← HM.out]; exact HOW.out, hbw⟩
end Go.Proofs.YtflekhcmipmelaaGreatDoor
