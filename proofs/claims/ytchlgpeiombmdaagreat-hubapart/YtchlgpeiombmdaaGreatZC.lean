/- What the document's own NamesOf lays, for every text: the names between slashes, in memory of the call's own. What the document's own TooGreat and CheckPath answer, for every text. What the reference's EntryAt answers, for every tree. What the document's own IsIn answers, for every two texts. What the reference's ChangeOf answers, where a change has an error of form or of place. What the reference's PutEntry answers: the tree with an entry in its place. What is left to tell of a change that is right by its form and its place; what regions, rows of names and moves want. What the reference's CheckTree answers, for every tree. What the reference's AllOf answers, for every tree that passes Check and every list of changes. What the reference's OpenJournal answers, for every journal. Which folders are told of, counted; where a folder is for the reference: FolderAt. What the reference's CheckHub answers: the very errno that Check does. What a right that is given leaves of a hub passes Check (mathematics). What a folder that is made leaves of a hub passes Check (mathematics). -/
import Derived.Test.YtchlgpeiombmdaaGreatW7
import Derived.Test.YtchlgpeiombmdaaGreatMC
import Derived.Test.YtchlgpeiombmdaaGreatMD
import Derived.Test.YtchlgpeiombmdaaGreatMA
import Derived.Test.YtchlgpeiombmdaaGreatHH
import Derived.Test.YtchlgpeiombmdaaGreatHG
import Derived.Test.YtchlgpeiombmdaaGreatHJ
import Derived.Deep.RegionHeld3
import Derived.Deep.RegionLaw
import Derived.Deep.DeepCutAuto
import Derived.WalkKit
import Derived.Test.YtchlgpeiombmdaaGreatHF
import Derived.Test.YtchlgpeiombmdaaGreatHL
import Derived.Test.YtchlgpeiombmdaaGreatHM
import Derived.Test.YtchlgpeiombmdaaGreatHK
import Derived.BigQuiet
import Derived.Test.YtchlgpeiombmdaaGreatKF
import Derived.Test.YtchlgpeiombmdaaGreatHV
import Derived.Test.YtchlgpeiombmdaaGreatGB
import Derived.Test.YtchlgpeiombmdaaGreatGF
import Derived.Test.YtchlgpeiombmdaaGreatUA
import Derived.Test.YtchlgpeiombmdaaGreatZB
import Derived.Test.YtchlgpeiombmdaaGreatKL
import Derived.Test.YtchlgpeiombmdaaGreatKD
set_option linter.unusedSimpArgs false
set_option linter.unusedVariables false
namespace Go.Proofs.YtchlgpeiombmdaaGreat
open Go.RowKit

namespace Pp
def vs (l : List (List UInt8)) : List Value := l.map fun x => .string ⟨x.toArray⟩
theorem vs_len (l : List (List UInt8)) : (vs l).length = l.length := by simp [vs]
theorem vs_snoc (l : List (List UInt8)) (x : List UInt8) : vs l ++ [.string ⟨x.toArray⟩] = vs (l ++ [x]) := by simp [vs]
theorem piece (s : ByteArray) (f k : Nat) : s.extract f k = ⟨((s.data.toList.drop f).take (k - f)).toArray⟩ := bytes_eq (Lib.extract_data s f k)
theorem piece_end (s : ByteArray) (f : Nat) : s.extract f s.size = ⟨(s.data.toList.drop f).toArray⟩ := bytes_eq (by rw [Lib.extract_data]; exact List.take_of_length_le (by rw [List.length_drop, ← Lib.size_eq]; exact Nat.le_refl _))
theorem drop_split (s : ByteArray) (f k : Nat) (hf : f ≤ k) (hk : k < s.size) : s.data.toList.drop f = (s.data.toList.drop f).take (k - f) ++ s[k] :: s.data.toList.drop (k + 1) := by
 have hl : k < s.data.toList.length := by simpa using hk
 conv => lhs; rw [← List.take_append_drop (k - f) (s.data.toList.drop f)]
 rw [List.drop_drop, show f + (k - f) = k by omega, List.drop_eq_getElem_cons hl, byte_at' s k hk hl]
theorem seg_snoc (s : ByteArray) (f k : Nat) (hf : f ≤ k) (hk : k < s.size) : (s.data.toList.drop f).take (k + 1 - f) = (s.data.toList.drop f).take (k - f) ++ [s[k]] := by
 have hl : k < s.data.toList.length := by simpa using hk
 have h2 : k - f < (s.data.toList.drop f).length := by rw [List.length_drop]; omega
 rw [show k + 1 - f = (k - f) + 1 by omega, List.take_succ_eq_append_getElem h2, List.getElem_drop]
 congr 2
 rw [← byte_at' s k hk hl]
 congr 1
 omega
/-- After k bytes: the names that are whole, and where the next one begins. -/
def cutTo (s : ByteArray) (dn : List (List UInt8)) (f k : Nat) : Prop := nm s.data.toList = dn ++ nm (s.data.toList.drop f) ∧ 47 ∉ (s.data.toList.drop f).take (k - f) ∧ dn.length ≤ k ∧ f ≤ k
theorem cut_zero (s : ByteArray) : cutTo s [] 0 0 := ⟨by simp, by simp, by simp, Nat.le_refl _⟩
theorem cut_slash (s : ByteArray) {dn : List (List UInt8)} {f k : Nat} (hk : k < s.size) (h : cutTo s dn f k) (hc : (s[k].toNat : Int) = 47) : cutTo s (dn ++ [(s.data.toList.drop f).take (k - f)]) (k + 1) (k + 1) := by
 have e : s[k] = 47 := UInt8.toNat_inj.1 (by simpa using Int.ofNat.inj hc)
 refine ⟨?_, by simp, by have := h.2.2.1; simp; omega, Nat.le_refl _⟩
 have e2 := drop_split s f k h.2.2.2 hk
 rw [e] at e2
 have e3 : nm (s.data.toList.drop f) = (s.data.toList.drop f).take (k - f) :: nm (s.data.toList.drop (k + 1)) := by
  conv => lhs; rw [e2]
  exact nm_cut _ _ h.2.1
 rw [h.1, e3]
 simp
theorem cut_other (s : ByteArray) {dn : List (List UInt8)} {f k : Nat} (hk : k < s.size) (h : cutTo s dn f k) (hc : (s[k].toNat : Int) ≠ 47) : cutTo s dn f (k + 1) := by
 refine ⟨h.1, ?_, by have := h.2.2.1; omega, by have := h.2.2.2; omega⟩
 rw [seg_snoc s f k h.2.2.2 hk]
 intro hm
 rcases List.mem_append.1 hm with hm | hm
 · exact h.2.1 hm
 · rw [List.mem_singleton] at hm
   exact hc (by rw [← hm]; rfl)
theorem cut_end (s : ByteArray) {dn : List (List UInt8)} {f : Nat} (h : cutTo s dn f s.size) : nm s.data.toList = dn ++ [s.data.toList.drop f] := by
 rw [h.1, nm_none]
 have := h.2.1
 rwa [List.take_of_length_le (by rw [List.length_drop, ← Lib.size_eq]; exact Nat.le_refl _)] at this
end Pp

theorem Tryz.infoS : (Tryz.prog.info? 9).map (fun i => (i.zero, i.size, i.bytes)) = some (some (.string ⟨#[]⟩), 1, 16) := by kernel_rfl
end Go.Proofs.YtchlgpeiombmdaaGreat
set_option linter.unusedSimpArgs false
set_option linter.unusedVariables false
namespace Go.Proofs.YtchlgpeiombmdaaGreat
open Go.RowKit

theorem Pp.nm_mem_len : ∀ (l : List UInt8) (x : List UInt8), x ∈ Pp.nm l → x.length ≤ l.length
 | [], x, h => by simp [Pp.nm] at h; simp [h]
 | c :: r, x, h => by
  rw [Pp.nm] at h
  split at h
  · rcases List.mem_cons.1 h with h | h
    · simp [h]
    · have := Pp.nm_mem_len r x h; simp; omega
  · cases e : Pp.nm r with
    | nil => exact absurd e (Pp.nm_ne r)
    | cons y t =>
     rw [e] at h
     rcases List.mem_cons.1 h with h | h
     · have := Pp.nm_mem_len r y (by rw [e]; simp); rw [h]; simp; omega
     · have := Pp.nm_mem_len r x (by rw [e]; simp [h]); simp; omega
end Go.Proofs.YtchlgpeiombmdaaGreat
set_option linter.unusedSimpArgs false
set_option linter.unusedVariables false
namespace Go.Proofs.YtchlgpeiombmdaaGreat
open Go.RowKit

namespace Pp
/-- The place of the first entry at a path; -1: there is none. -/
def idx (L : List En) (q : List UInt8) : Int := match L.findIdx? (atB q) with
 | some i => (i : Int)
 | none => -1
theorem idx_hit {L : List En} {q : List UInt8} {k : Nat} (hlt : k < L.length) (h : ∀ j (h : j < L.length), j < k → atB q L[j] = false) (hp : atB q L[k] = true) : (k : Int) = idx L q := by
 have : L.findIdx? (atB q) = some k := List.findIdx?_eq_some_iff_getElem.2 ⟨hlt, hp, fun j hj => by rw [h j (by omega) hj]; simp⟩
 rw [idx, this]
theorem idx_miss {L : List En} {q : List UInt8} (h : ∀ j (h : j < L.length), atB q L[j] = false) : -1 = idx L q := by
 have : L.findIdx? (atB q) = none := List.findIdx?_eq_none_iff.2 fun x hx => by
  obtain ⟨j, hj, rfl⟩ := List.getElem_of_mem hx
  exact h j hj
 rw [idx, this]
theorem idx_cases (L : List En) (q : List UInt8) : (idx L q = -1 ∧ L.find? (atB q) = none) ∨ ∃ k, ∃ h : k < L.length, idx L q = (k : Int) ∧ L.find? (atB q) = some L[k] := by
 cases hf : L.findIdx? (atB q) with
 | none =>
  refine Or.inl ⟨by rw [idx, hf], ?_⟩
  rw [List.find?_eq_none]
  intro x hx
  have := List.findIdx?_eq_none_iff.1 hf x hx
  simp [this]
 | some k =>
  obtain ⟨hlt, hp, hmin⟩ := List.findIdx?_eq_some_iff_getElem.1 hf
  refine Or.inr ⟨k, hlt, by rw [idx, hf], find_hit hlt (fun j h hj => ?_) hp⟩
  have := hmin j hj
  simpa using this
end Pp

end Go.Proofs.YtchlgpeiombmdaaGreat
set_option linter.unusedSimpArgs false
set_option linter.unusedVariables false
namespace Go.Proofs.YtchlgpeiombmdaaGreat
open Go.RowKit

namespace Pp
theorem pre_short {A B : List (List UInt8)} (h : A.length < B.length) : false = B.isPrefixOf A := by
 symm
 cases e : B.isPrefixOf A with
 | false => rfl
 | true => have := (List.isPrefixOf_iff_prefix.1 e).length_le; omega
theorem pre_no {A B : List (List UInt8)} {k : Nat} (hA : k < A.length) (hB : k < B.length) (h : ¬ A[k] = B[k]) : false = B.isPrefixOf A := by
 symm
 cases e : B.isPrefixOf A with
 | false => rfl
 | true =>
  obtain ⟨t, ht⟩ := List.isPrefixOf_iff_prefix.1 e
  subst ht
  exact absurd (by simp [List.getElem_append_left hB]) h
theorem pre_yes {A B : List (List UInt8)} (h : A.take B.length = B) : true = B.isPrefixOf A := by
 symm
 rw [List.isPrefixOf_iff_prefix]
 have := List.take_prefix B.length A
 rwa [h] at this
end Pp

end Go.Proofs.YtchlgpeiombmdaaGreat
set_option linter.unusedSimpArgs false
set_option linter.unusedVariables false
namespace Go.Proofs.YtchlgpeiombmdaaGreat
open Go.RowKit

namespace Pp
theorem plc_err {L : List En} {k : Int} {p q t : ByteArray} {b : Int} (hk : 1 ≤ k ∧ k ≤ 4) (h : ¬ plcE L ⟨k, p, q, t, b⟩ = 0) :
    (¬ foldE L (par (goal ⟨k, p, q, t, b⟩)) = 0 ∧ plcE L ⟨k, p, q, t, b⟩ = foldE L (par (goal ⟨k, p, q, t, b⟩))) ∨
    (foldE L (par (goal ⟨k, p, q, t, b⟩)) = 0 ∧ (
     (k = 1 ∧ (∃ j, ∃ h : j < L.length, idx L p.data.toList = (j : Int)) ∧ 6 = plcE L ⟨k, p, q, t, b⟩) ∨
     (k = 2 ∧ (∃ j, ∃ h : j < L.length, idx L p.data.toList = (j : Int) ∧ (L[j]).folder = true) ∧ 4 = plcE L ⟨k, p, q, t, b⟩) ∨
     ((k = 3 ∨ k = 4) ∧ idx L p.data.toList = -1 ∧ 5 = plcE L ⟨k, p, q, t, b⟩) ∨
     (k = 3 ∧ (∃ j, ∃ h : j < L.length, idx L p.data.toList = (j : Int)) ∧ isInB q.data.toList p.data.toList = true ∧ 3 = plcE L ⟨k, p, q, t, b⟩) ∨
     (k = 3 ∧ (∃ j, ∃ h : j < L.length, idx L p.data.toList = (j : Int)) ∧ isInB q.data.toList p.data.toList = false ∧ (∃ j, ∃ h : j < L.length, idx L q.data.toList = (j : Int)) ∧ 6 = plcE L ⟨k, p, q, t, b⟩))) := by
 by_cases hf : foldE L (par (goal ⟨k, p, q, t, b⟩)) = 0
 · refine Or.inr ⟨hf, ?_⟩
   have hE : plcE L ⟨k, p, q, t, b⟩ = match L.find? (atB p.data.toList) with
    | none => if k = 3 ∨ k = 4 then 5 else 0
    | some x => if k = 1 then 6 else if k = 2 then (if x.folder = true then 4 else 0)
     else if k = 3 then (if isInB q.data.toList p.data.toList = true then 3 else if (L.find? (atB q.data.toList)).isSome = true then 6 else 0) else 0 := by
    rw [plcE, if_neg (fun x => x hf)]; rfl
   rcases idx_cases L p.data.toList with ⟨hi, hn⟩ | ⟨j, hj, hi, hn⟩
   · rw [hn] at hE
     have h34 : k = 3 ∨ k = 4 := by
      by_cases h34 : k = 3 ∨ k = 4
      · exact h34
      · rw [hE] at h; simp [h34] at h
     exact Or.inr (Or.inr (Or.inl ⟨h34, hi, by rw [hE]; simp only [if_pos h34]⟩))
   · rw [hn] at hE
     have h4 : k = 1 ∨ k = 2 ∨ k = 3 ∨ k = 4 := by omega
     rcases h4 with rfl | rfl | rfl | rfl
     · exact Or.inl ⟨rfl, ⟨j, hj, hi⟩, by rw [hE]; rfl⟩
     · cases hx : (L[j]).folder with
       | true => exact Or.inr (Or.inl ⟨rfl, ⟨j, hj, hi, hx⟩, by rw [hE]; simp [hx]⟩)
       | false => rw [hE] at h; simp [hx] at h
     · cases hx : isInB q.data.toList p.data.toList with
       | true => exact Or.inr (Or.inr (Or.inr (Or.inl ⟨rfl, ⟨j, hj, hi⟩, rfl, by rw [hE]; simp [hx]⟩)))
       | false =>
        rcases idx_cases L q.data.toList with ⟨hi2, hn2⟩ | ⟨j2, hj2, hi2, hn2⟩
        · rw [hE] at h; simp [hx, hn2] at h
        · exact Or.inr (Or.inr (Or.inr (Or.inr ⟨rfl, ⟨j, hj, hi⟩, rfl, ⟨j2, hj2, hi2⟩, by rw [hE]; simp [hx, hn2]⟩)))
     · rw [hE] at h; simp at h
 · exact Or.inl ⟨hf, by rw [plcE, if_pos hf]⟩
theorem plc_ok {L : List En} {k : Int} {p q t : ByteArray} {b : Int} (hk : 1 ≤ k ∧ k ≤ 4) (h : plcE L ⟨k, p, q, t, b⟩ = 0) :
    foldE L (par (goal ⟨k, p, q, t, b⟩)) = 0 ∧ (
     (k = 1 ∧ idx L p.data.toList = -1) ∨ (k = 2 ∧ idx L p.data.toList = -1) ∨
     (k = 2 ∧ ∃ j, ∃ h : j < L.length, idx L p.data.toList = (j : Int) ∧ (L[j]).folder = false) ∨
     (k = 3 ∧ (∃ j, ∃ h : j < L.length, idx L p.data.toList = (j : Int)) ∧ isInB q.data.toList p.data.toList = false ∧ idx L q.data.toList = -1 ∧ L.find? (atB q.data.toList) = none) ∨
     (k = 4 ∧ ∃ j, ∃ h : j < L.length, idx L p.data.toList = (j : Int))) := by
 have hf := plc_fold h
 refine ⟨hf, ?_⟩
 have hE : plcE L ⟨k, p, q, t, b⟩ = match L.find? (atB p.data.toList) with
  | none => if k = 3 ∨ k = 4 then 5 else 0
  | some x => if k = 1 then 6 else if k = 2 then (if x.folder = true then 4 else 0)
   else if k = 3 then (if isInB q.data.toList p.data.toList = true then 3 else if (L.find? (atB q.data.toList)).isSome = true then 6 else 0) else 0 := by
  rw [plcE, if_neg (fun x => x hf)]; rfl
 rw [hE] at h
 have h4 : k = 1 ∨ k = 2 ∨ k = 3 ∨ k = 4 := by omega
 rcases idx_cases L p.data.toList with ⟨hi, hn⟩ | ⟨j, hj, hi, hn⟩
 · rw [hn] at h
   rcases h4 with rfl | rfl | rfl | rfl
   · exact Or.inl ⟨rfl, hi⟩
   · exact Or.inr (Or.inl ⟨rfl, hi⟩)
   · simp at h
   · simp at h
 · rw [hn] at h
   rcases h4 with rfl | rfl | rfl | rfl
   · simp at h
   · cases hx : (L[j]).folder with
     | true => simp [hx] at h
     | false => exact Or.inr (Or.inr (Or.inl ⟨rfl, j, hj, hi, hx⟩))
   · cases hx : isInB q.data.toList p.data.toList with
     | true => simp [hx] at h
     | false =>
      rcases idx_cases L q.data.toList with ⟨hi2, hn2⟩ | ⟨j2, hj2, hi2, hn2⟩
      · exact Or.inr (Or.inr (Or.inr (Or.inl ⟨rfl, ⟨j, hj, hi⟩, rfl, hi2, hn2⟩)))
      · simp [hx, hn2] at h
   · exact Or.inr (Or.inr (Or.inr (Or.inr ⟨rfl, j, hj, hi⟩)))
end Pp

end Go.Proofs.YtchlgpeiombmdaaGreat
set_option linter.unusedSimpArgs false
set_option linter.unusedVariables false
namespace Go.Proofs.YtchlgpeiombmdaaGreat
open Go.RowKit

namespace Pp
def stp (x : En) (s : List En × Bool) (y : En) : List En × Bool :=
 (if y.path.data.toList = x.path.data.toList then (if s.2 = false ∧ lt y x = false then s.1 ++ [x] else s.1) else (if s.2 = false ∧ lt y x = false then s.1 ++ [x] else s.1) ++ [y], s.2 || !(lt y x))
def putS (x : En) (L : List En) : List En × Bool := L.foldl (stp x) ([], false)
def putR (x : En) (L : List En) : List En := if (putS x L).2 = true then (putS x L).1 else (putS x L).1 ++ [x]
theorem putS_snoc (x : En) (A : List En) (y : En) : putS x (A ++ [y]) = stp x (putS x A) y := by rw [putS, List.foldl_append]; rfl
theorem ins_pre {x : En} : ∀ {A : List En}, (∀ y ∈ A, lt y x = true) → ∀ B, ins x (A ++ B) = A ++ ins x B
 | [], _, _ => rfl
 | y :: r, h, B => by
  rw [List.cons_append, ins, if_pos (h y (by simp)), ins_pre (fun z hz => h z (by simp [hz]))]; rfl
theorem ins_snoc {x y : En} (h : lt y x = false) : ∀ K, ins x (K ++ [y]) = ins x K ++ [y]
 | [] => by simp [ins, h]
 | z :: r => by
  rw [List.cons_append, ins, ins]
  split
  · rw [ins_snoc h r]; rfl
  · rfl
theorem at_yes {x y : En} (h : y.path.data.toList = x.path.data.toList) : atB x.path.data.toList y = true := by rw [atB, h]; exact beq_self_eq_true _
theorem at_no {x y : En} (h : ¬ y.path.data.toList = x.path.data.toList) : atB x.path.data.toList y = false := by rw [atB]; exact beq_eq_false_iff_ne.2 h
theorem out_one {x y : En} (h : y.path.data.toList = x.path.data.toList) : outE x [y] = [] := by rw [outE, List.filter_cons, at_yes h]; rfl
theorem out_other {x y : En} (h : ¬ y.path.data.toList = x.path.data.toList) : outE x [y] = [y] := by rw [outE, List.filter_cons, at_no h]; rfl
theorem out_all {x : En} {A : List En} (h : ∀ y ∈ A, lt y x = true) : outE x A = A := by
 rw [outE, List.filter_eq_self]
 intro y hy
 rw [at_no (lt_dif (h y hy))]; rfl
theorem out_app (x : En) (A B : List En) : outE x (A ++ B) = outE x A ++ outE x B := by rw [outE, List.filter_append]; rfl
theorem lt_path {x x' y : En} (h : x.path.data.toList = x'.path.data.toList) : lt y x = lt y x' := by
 rw [lt_cfE, lt_cfE]; unfold cfE; rw [h]
theorem putS_take {x : En} {L : List En} (hL : L.Pairwise (fun x y => lt x y = true)) : ∀ k, k ≤ L.length → putS x (L.take k) = if (L.take k).all (fun y => lt y x) = true then (L.take k, false) else (ins x (outE x (L.take k)), true) := by
 intro k
 induction k with
 | zero => intro _; simp [putS]
 | succ k ih =>
  intro hk
  have hlt : k < L.length := by omega
  have ih := ih (by omega)
  have hpre : ∀ z ∈ L.take k, lt z L[k] = true := fun z hz => by
   obtain ⟨i, hi, rfl⟩ := List.getElem_of_mem hz
   rw [List.length_take] at hi
   rw [List.getElem_take]
   exact List.pairwise_iff_getElem.1 hL i k (by omega) hlt (by omega)
  rw [List.take_succ_eq_append_getElem hlt, putS_snoc, ih]
  generalize L[k] = y at *
  generalize L.take k = A at *
  cases hall : A.all (fun y => lt y x) with
  | true =>
   have hA : ∀ z ∈ A, lt z x = true := fun z hz => List.all_eq_true.1 hall z hz
   cases hy : lt y x with
   | true =>
    have hd := lt_dif hy
    have e1 : (A ++ [y]).all (fun y => lt y x) = true := by rw [List.all_append, hall]; simp [hy]
    rw [if_pos rfl, if_pos e1, stp]
    simp only [hy, if_neg (show ¬ y.path.data.toList = x.path.data.toList from hd)]
    simp
   | false =>
    have e1 : (A ++ [y]).all (fun y => lt y x) = false := by rw [List.all_append, hall]; simp [hy]
    rw [if_pos rfl, if_neg (by rw [e1]; decide), stp, out_app, out_all hA, ins_pre hA]
    by_cases hp : y.path.data.toList = x.path.data.toList
    · have e2 := out_one hp
      rw [e2]; simp only [hp, hy, ins, if_true, if_false, and_self, Bool.false_eq_true, Bool.not_false, Bool.or_true, List.append_assoc, List.cons_append, List.nil_append]
    · have e2 := out_other hp
      rw [e2]; simp only [hp, hy, ins, if_true, if_false, and_self, Bool.false_eq_true, Bool.not_false, Bool.or_true, List.append_assoc, List.cons_append, List.nil_append]
  | false =>
   obtain ⟨z, hz, hzx⟩ : ∃ z ∈ A, lt z x = false := by
    have := List.all_eq_false.1 hall
    simpa using this
   have hzy := hpre z hz
   have hy : lt y x = false := by
    cases hh : lt y x with
    | false => rfl
    | true => rw [lt_trans z y x hzy hh] at hzx; cases hzx
   have hp : ¬ y.path.data.toList = x.path.data.toList := fun e => by
    rw [lt_path e, hzx] at hzy; cases hzy
   have e1 : (A ++ [y]).all (fun y => lt y x) = false := by rw [List.all_append, hall]; rfl
   have e2 := out_other hp
   rw [if_neg (by decide), if_neg (by rw [e1]; decide), stp, out_app, e2, ins_snoc hy]
   simp only [hp, if_false, Bool.true_eq_false, false_and, Bool.true_or]
theorem putR_eq {x : En} {L : List En} (hL : L.Pairwise (fun x y => lt x y = true)) : putR x L = ins x (outE x L) := by
 have h := putS_take (x := x) hL L.length (Nat.le_refl _)
 rw [List.take_length] at h
 rw [putR, h]
 cases hall : L.all (fun y => lt y x) with
 | true =>
  have hA : ∀ z ∈ L, lt z x = true := fun z hz => List.all_eq_true.1 hall z hz
  have e := ins_pre hA []
  rw [List.append_nil] at e
  rw [out_all hA, e]; simp [ins]
 | false => simp
end Pp

end Go.Proofs.YtchlgpeiombmdaaGreat
set_option linter.unusedSimpArgs false
set_option linter.unusedVariables false
namespace Go.Proofs.YtchlgpeiombmdaaGreat
open Go.RowKit

/-- May these operations be passed over, one after the other, where operation g (it writes dg) has said no? -/
def passOk (md : Region.Mode) (ops : Array Oper) (g dg : Nat) : Array Bool → List (Nat × Nat) → Bool
 | _, [] => true
 | listed, (i, d) :: r => ((ops[i]?).map (fun o => (o.dst, o.guard)) == some (some d, some (g, true))) && d != dg && Region.free md ops listed i && (Region.ready md ops listed).contains i && passOk md ops g dg (listed.setIfInBounds i true) r
def passAll : Array Bool → List (Nat × Nat) → Array Bool
 | listed, [] => listed
 | listed, (i, _) :: r => passAll (listed.setIfInBounds i true) r
def putAll : Act → List (Nat × Nat) → Act
 | a, [] => a
 | a, (_, d) :: r => putAll (a.put (some d) undef) r
theorem wpAnyH_pass {P : Program} {md : Region.Mode} {ops : Array Oper} {Q : Exit → Act → World → Prop} {S : World → Prop} {g dg : Nat} (hs : Region.noSelect ops = true) (hdg : (ops[g]?).bind (·.dst) = some dg)
    (hQ : ∀ c a (d : Nat) v w, Q (.panic c) (Act.put a (some d) v) w → Q (.panic c) a w) {w : World} (hS : S w) {fuel : Nat} :
    ∀ (l : List (Nat × Nat)) (listed : Array Bool) (a : Act), passOk md ops g dg listed l = true → a.tmps[dg]? = some (.bool false) → wpAnyH P md ops Q S fuel (passAll listed l) (putAll a l) w → wpAnyH P md ops Q S (fuel + l.length) listed a w
 | [], _, _, _, _, h => h
 | (i, d) :: r, listed, a, hok, ht, h => by
  rw [passOk] at hok
  simp only [Bool.and_eq_true, beq_iff_eq, bne_iff_ne] at hok
  obtain ⟨⟨⟨⟨h1, h2⟩, h3⟩, h4⟩, h5⟩ := hok
  cases ho : ops[i]? with
  | none => rw [ho] at h1; cases h1
  | some o =>
   rw [ho] at h1
   simp only [Option.map_some, Option.some.injEq, Prod.mk.injEq] at h1
   have hw : Region.wanted o (yielded ops a.tmps) = false := by
    have hy : yielded ops a.tmps g = some false := by
     unfold yielded
     rw [hdg]
     simp only [Option.bind_some, ht]
    unfold Region.wanted
    rw [h1.2]
    simp [hy]
   have ht2 : (a.put (some d) undef).tmps[dg]? = some (.bool false) := by
    unfold Act.put
    simp only
    rw [Array.getElem?_setIfInBounds_ne (by exact h2)]
    exact ht
   have ih := wpAnyH_pass hs hdg hQ hS r (listed.setIfInBounds i true) (a.put (some d) undef) h5 ht2 h
   refine wpAnyH_take (i := i) (oi := o) (v := undef) ho hs h3 h4 (fun c a w hh => hQ c a d undef w (by rw [h1.1] at hh; exact hh)) (Or.inr ⟨hw, rfl⟩) hS ?_
   rw [h1.1]
   exact ih
/-- What is to be shown later, once for several ways that come to it. -/
structure Later (p : Prop) : Prop where
 out : p
theorem later {p q : Prop} (h : Later p → q) (hp : p) : q := h ⟨hp⟩
end Go.Proofs.YtchlgpeiombmdaaGreat
namespace Go.Proofs.YtchlgpeiombmdaaGreat
open Go.RowKit

namespace Pp
theorem own_at {w : World} {base : Nat} {v : Value} {L : List (List UInt8)} (h : w.ownsRow base 9 1 v L.length (vs L)) (h0 : L ≠ []) :
    ∃ g cap, v = .slice (some ⟨g, 0, none⟩) L.length cap ∧ base ≤ g ∧ g < w.heap.size ∧ ∀ i (h : i < L.length), w.cell? ⟨g, i, none⟩ = some (.string ⟨(L[i]).toArray⟩) := by
 have hcopy := h
 obtain ⟨hl, h2⟩ := h
 rcases h2 with ⟨_, hz⟩ | ⟨g, cap, cur, rfl, hg, hh, hn, hm, hz, htake⟩
 · exact absurd (List.length_eq_zero_iff.1 hz) h0
 · have hlt : g < w.heap.size := by
    rcases Nat.lt_or_ge g w.heap.size with h | h
    · exact h
    · rw [Array.getElem?_eq_none h] at hh; cases hh
   refine ⟨g, cap, rfl, hg, hlt, fun i h => ?_⟩
   rw [hcopy.cellAt i (by omega)]
   simp [vs, h]
theorem vs_app (a b : List (List UInt8)) : vs a ++ vs b = vs (a ++ b) := by simp [vs]
theorem vs_cells {w : World} {g : Nat} {L : List (List UInt8)} (h : ∀ i (h : i < L.length), w.cell? ⟨g, i, none⟩ = some (.string ⟨(L[i]).toArray⟩)) (o : Nat) : ∀ j u, (vs (L.drop o))[j]? = some u → w.cell? ((⟨g, o, none⟩ : Addr).add j) = some u := by
 intro j u hu
 simp only [vs, List.getElem?_map, List.getElem?_drop, Option.map_eq_some_iff] at hu
 obtain ⟨x, hx, rfl⟩ := hu
 obtain ⟨hlt, rfl⟩ := List.getElem?_eq_some_iff.1 hx
 have e := h (o + j) hlt
 by_cases hj : j = 0
 · subst hj; simpa [Addr.add] using e
 · simpa [Addr.add, hj] using e
theorem vs_one (L : List (List UInt8)) : ∀ u ∈ vs L, u.oneCell' = true := by
 intro u hu
 simp only [vs, List.mem_map] at hu
 obtain ⟨x, _, rfl⟩ := hu
 rfl
end Pp

end Go.Proofs.YtchlgpeiombmdaaGreat
namespace Go.Proofs.YtchlgpeiombmdaaGreat.Pp

theorem filter_step {f : En → Bool} {L : List En} {m : Nat} (hm : m < L.length) : (L.take (m + 1)).filter f = if f L[m] = true then (L.take m).filter f ++ [L[m]] else (L.take m).filter f := by
 rw [List.take_succ_eq_append_getElem hm, List.filter_append, List.filter_cons]
 split <;> simp
theorem insAll_snoc (ms : List En) (x : En) (K : List En) : insAll (ms ++ [x]) K = ins x (insAll ms K) := by rw [insAll, List.foldl_append]; rfl
/-- What was moved of the first entries. -/
def mvTo (L : List En) (c : Ch) (n : Int) (m : Nat) : List En := insAll (((L.take m).filter (wi c.p.data.toList)).map (mvd c n)) (keptL L c)
theorem mvTo_zero (L : List En) (c : Ch) (n : Int) : mvTo L c n 0 = keptL L c := rfl
theorem mvTo_all (L : List En) (c : Ch) (n : Int) : mvTo L c n L.length = insAll (mvL L c n) (keptL L c) := by rw [mvTo, List.take_length]; rfl
theorem mvTo_out {L : List En} {c : Ch} {n : Int} {m : Nat} (hm : m < L.length) (hw : wi c.p.data.toList L[m] = false) : mvTo L c n (m + 1) = mvTo L c n m := by
 rw [mvTo, filter_step hm, if_neg (by rw [hw]; decide)]; rfl
theorem mvTo_in {L : List En} (hL : Good L) {c : Ch} {n : Int} {m : Nat} (hd : (keptL L c ++ mvL L c n).Pairwise dif) (hm : m < L.length) (hw : wi c.p.data.toList L[m] = true) : putR (mvd c n L[m]) (mvTo L c n m) = mvTo L c n (m + 1) := by
 have e1 : goL L c = (L.take m).filter (wi c.p.data.toList) ++ L[m] :: (L.drop (m + 1)).filter (wi c.p.data.toList) := by
  have : L = L.take m ++ L[m] :: L.drop (m + 1) := by rw [List.getElem_cons_drop]; exact (List.take_append_drop m L).symm
  rw [goL]
  conv => lhs; rw [this]
  rw [List.filter_append, List.filter_cons, if_pos hw]
 have e2 : mvL L c n = ((L.take m).filter (wi c.p.data.toList)).map (mvd c n) ++ mvd c n L[m] :: ((L.drop (m + 1)).filter (wi c.p.data.toList)).map (mvd c n) := by
  rw [mvL, e1, List.map_append, List.map_cons]
 rw [e2, ← List.append_assoc] at hd
 have hd2 := List.pairwise_append.1 hd
 have hs : (mvTo L c n m).Pairwise (fun x y => lt x y = true) := insAll_sorted _ (List.Pairwise.filter _ hL.rise) hd2.1
 have ho : outE (mvd c n L[m]) (mvTo L c n m) = mvTo L c n m := by
  rw [outE, List.filter_eq_self]
  intro y hy
  have hy2 : y ∈ keptL L c ++ ((L.take m).filter (wi c.p.data.toList)).map (mvd c n) := (insAll_perm _ _).mem_iff.1 hy
  have hne := hd2.2.2 y hy2 (mvd c n L[m]) (by simp)
  rw [at_no hne]; rfl
 rw [putR_eq hs, ho, mvTo, mvTo, filter_step hm, if_pos hw, List.map_append, List.map_cons, List.map_nil, insAll_snoc]
theorem mvTo_len (L : List En) (c : Ch) (n : Int) (m : Nat) : (mvTo L c n m).length ≤ L.length := by
 have h1 : (mvTo L c n m).length = (keptL L c).length + ((L.take m).filter (wi c.p.data.toList)).length := by
  rw [mvTo, (insAll_perm _ _).length_eq, List.length_append, List.length_map]
 have h2 : ((L.take m).filter (wi c.p.data.toList)).length ≤ (L.filter (wi c.p.data.toList)).length := ((List.take_sublist m L).filter _).length_le
 have h3 : (keptL L c).length + (L.filter (wi c.p.data.toList)).length = L.length := by
  rw [keptL]
  have : ∀ (M : List En), (M.filter (fun e => !wi c.p.data.toList e)).length + (M.filter (wi c.p.data.toList)).length = M.length := by
   intro M
   induction M with
   | nil => rfl
   | cons x r ih =>
    rw [List.filter_cons, List.filter_cons]
    cases hx : wi c.p.data.toList x <;> simp <;> omega
  exact this L
 omega
theorem big_hit {L : List En} {c : Ch} {m : Nat} (hm : m < L.length) (hw : wi c.p.data.toList L[m] = true) (hb : big (mvP c L[m]) = true) : (goL L c).any (fun e => big (mvP c e)) = true :=
 List.any_eq_true.2 ⟨L[m], List.mem_filter.2 ⟨List.getElem_mem hm, hw⟩, hb⟩
theorem big_none {L : List En} {c : Ch} (h : ∀ j (h : j < L.length), wi c.p.data.toList L[j] = true → big (mvP c L[j]) = false) : (goL L c).any (fun e => big (mvP c e)) = false :=
 List.any_eq_false.2 fun e he => by
  obtain ⟨h1, h2⟩ := List.mem_filter.1 he
  obtain ⟨j, hj, rfl⟩ := List.getElem_of_mem h1
  rw [h j hj h2]; decide
end Go.Proofs.YtchlgpeiombmdaaGreat.Pp
namespace Go.Proofs.YtchlgpeiombmdaaGreat
open Go.RowKit

namespace Pp
/-- What is left to tell, where a change is right by its form and its place. -/
def rstE (L : List En) (c : Ch) (n : Int) : Int := if stl L c = true then 8 else chdE L c n
theorem ins_len (x : En) (K : List En) : (ins x K).length = K.length + 1 := by rw [(ins_perm x K).length_eq]; rfl
theorem stl_no {L : List En} {k : Int} {p q t : ByteArray} {b : Int} (hb : -1 ≤ b) (h : ∀ j (h : j < L.length), 0 ≤ b → stW p.data.toList b L[j] = false) : stl L ⟨k, p, q, t, b⟩ = false := by
 rw [stl]
 by_cases h1 : b = -1
 · simp [h1]
 · rw [List.any_eq_false.2, Bool.and_false]
   intro x hx
   obtain ⟨j, hj, rfl⟩ := List.getElem_of_mem hx
   rw [h j hj (by omega)]; decide
theorem stl_yes {L : List En} {k : Int} {p q t : ByteArray} {b : Int} {j : Nat} (hb : 0 ≤ b) (hj : j < L.length) (h1 : isInB (L[j]).path.data.toList p.data.toList = true) (h2 : b < (L[j]).ver) : stl L ⟨k, p, q, t, b⟩ = true := by
 rw [stl]
 have e : (b == -1) = false := by simpa using (by omega : ¬ b = -1)
 have : L.any (stW p.data.toList b) = true := List.any_eq_true.2 ⟨L[j], List.getElem_mem hj, by rw [stW, wi, h1]; simp [h2]⟩
 simp only [e, this]; rfl
theorem stW_in {p : List UInt8} {b : Int} {e : En} (h : isInB e.path.data.toList p = false) : stW p b e = false := by rw [stW, wi, h, Bool.and_false]
theorem stW_ver {p : List UInt8} {b : Int} {e : En} (h : ¬ b < e.ver) : stW p b e = false := by rw [stW]; simp [h]
theorem no_text {t : ByteArray} (h : t.data.toList = []) : t = ⟨#[]⟩ := by
 cases t with
 | mk d => cases d with
  | mk l => simp at h; subst h; rfl
end Pp

end Go.Proofs.YtchlgpeiombmdaaGreat
set_option linter.unusedSimpArgs false
set_option linter.unusedVariables false
namespace Go.Proofs.YtchlgpeiombmdaaGreat
open Go.RowKit

namespace Pp
theorem ent_cases (e : En) :
    (¬ chk e.path.data.toList = 0 ∧ entE e = chk e.path.data.toList) ∨
    (chk e.path.data.toList = 0 ∧ e.folder = true ∧ e.text.toList.isEmpty = false ∧ entE e = 1) ∨
    (chk e.path.data.toList = 0 ∧ e.folder = false ∧ 300 < (e.text.size : Int) ∧ entE e = 2) ∨
    (chk e.path.data.toList = 0 ∧ e.folder = true ∧ e.text.toList.isEmpty = true ∧ (e.text.size : Int) ≤ 300 ∧ entE e = verE e.ver) ∨
    (chk e.path.data.toList = 0 ∧ e.folder = false ∧ (e.text.size : Int) ≤ 300 ∧ entE e = verE e.ver) := by
 by_cases hz : chk e.path.data.toList = 0
 · refine Or.inr ?_
   have hE : entE e = if e.folder = true ∧ ¬ e.text.data.toList = [] then 1 else if 300 < e.text.size then 2 else verE e.ver := by rw [entE, if_pos hz]
   cases hx : e.folder with
   | true =>
    cases hc : e.text.toList.isEmpty with
    | false => exact Or.inl ⟨hz, rfl, rfl, by rw [hE, if_pos ⟨hx, not_empty hc⟩]⟩
    | true =>
     have ht0 : e.text.size = 0 := by rw [Lib.size_eq, (empty_iff e.text).1 hc]; rfl
     exact Or.inr (Or.inr (Or.inl ⟨hz, rfl, rfl, by omega, by rw [hE, if_neg (fun h => h.2 ((empty_iff e.text).1 hc)), if_neg (by omega)]⟩))
   | false =>
    by_cases hl : 300 < e.text.size
    · exact Or.inr (Or.inl ⟨hz, rfl, by omega, by rw [hE, hx, if_neg (fun h => by cases h.1), if_pos hl]⟩)
    · exact Or.inr (Or.inr (Or.inr ⟨hz, rfl, by omega, by rw [hE, hx, if_neg (fun h => by cases h.1), if_neg hl]⟩))
 · exact Or.inl ⟨hz, by rw [entE, if_neg hz]⟩
theorem pars4 {L : List En} {k : Nat} (hlt : k < L.length) (h : ∀ j (h : j < L.length), parF L L[j] ≠ 5) (hk : parF L L[k] ≠ 0) : 4 = parsE L L := by
 have h4 : parF L L[k] = 4 := by
  rcases foldE_range L (par (L[k]).path.data.toList) with h0 | h0 | h0
  · exact absurd h0 hk
  · exact h0
  · exact absurd h0 (h k hlt)
 have n5 : ¬ L.any (fun e => parF L e == 5) = true := by
  intro h5
  obtain ⟨x, hx, h6⟩ := List.any_eq_true.1 h5
  obtain ⟨j, hj, rfl⟩ := List.getElem_of_mem hx
  exact h j hj (by simpa using h6)
 have y4 : L.any (fun e => parF L e == 4) = true := List.any_eq_true.2 ⟨L[k], List.getElem_mem hlt, by simp [h4]⟩
 rw [parsE, if_neg n5, if_pos y4]
theorem pars0 {L : List En} (h : ∀ j (h : j < L.length), parF L L[j] = 0) : 0 = parsE L L := by
 have n : ∀ c : Int, c ≠ 0 → ¬ L.any (fun e => parF L e == c) = true := by
  intro c hc h5
  obtain ⟨x, hx, h6⟩ := List.any_eq_true.1 h5
  obtain ⟨j, hj, rfl⟩ := List.getElem_of_mem hx
  rw [h j hj] at h6
  exact hc (by simpa using h6 : (0 : Int) = c).symm
 rw [parsE, if_neg (n 5 (by decide)), if_neg (n 4 (by decide))]
theorem lt_flip {x y : En} (h : lt x y = true) : lt y x = false ∧ (y.path.toList == x.path.toList) = false := by
 constructor
 · cases h2 : lt y x with
   | false => rfl
   | true =>
    have := lt_trans _ _ _ h h2
    rw [lt_irrefl] at this
    cases this
 · rw [beq_eq_false_iff_ne]
   intro e
   have e2 : lt x y = lt x x := by rw [lt, lt, e]
   rw [e2, lt_irrefl] at h
   cases h
theorem lt_no {x y : En} (h : lt x y = false) : lt y x = true ∨ (lt y x = false ∧ (y.path.toList == x.path.toList) = true) := by
 cases h2 : lt y x with
 | true => exact Or.inl rfl
 | false =>
  refine Or.inr ⟨rfl, ?_⟩
  rw [Lib.toList_data, Lib.toList_data, lt_same h2 h]
  simp
theorem ver_zero {n : Int} : verE n = 0 ↔ 1 ≤ n ∧ n ≤ 1000000 := by
 unfold verE
 split <;> omega
end Pp

end Go.Proofs.YtchlgpeiombmdaaGreat
set_option linter.unusedSimpArgs false
set_option linter.unusedVariables false
namespace Go.Proofs.YtchlgpeiombmdaaGreat
open Go.RowKit

namespace Pp
theorem run_ver {n : Int} (h : ¬ verE n = 0) (L : List En) {cs : List Ch} (hc : 0 < cs.length) : runF n L cs = (0, 3, []) := by
 cases cs with
 | nil => simp at hc
 | cons c r =>
  have h3 : verE n = 3 := by
   unfold verE at h ⊢
   split
   · rfl
   · rename_i h1; rw [if_neg h1] at h; exact absurd rfl h
  rw [runF, if_neg (by rw [app_ver h]; exact h), app_ver h, h3]
end Pp

end Go.Proofs.YtchlgpeiombmdaaGreat
set_option linter.unusedSimpArgs false
set_option linter.unusedVariables false
namespace Go.Proofs.YtchlgpeiombmdaaGreat
open Go.RowKit

/-- A row of trees. -/
def LiesT (w : World) (v : Value) (n : Nat) (f : Nat → List En) : Prop := ∃ a cap, v = .slice a n cap ∧ n ≤ cap ∧ n ≤ 1000000 ∧ ∀ i, i < n → ∃ b o u, a = some ⟨b, o, none⟩ ∧ b < w.heap.size ∧ w.cell? ⟨b, o + i, none⟩ = some u ∧ Lies w u (f i)
theorem LiesT.below {w w' : World} {v : Value} {n : Nat} {f : Nat → List En} (h : LiesT w v n f) (hw : Below w.heap.size w w') : LiesT w' v n f := by
 obtain ⟨a, cap, hv, h1, h2, h5⟩ := h
 refine ⟨a, cap, hv, h1, h2, fun i hi => ?_⟩
 obtain ⟨b, o, u, ha, hb, he, hl⟩ := h5 i hi
 exact ⟨b, o, u, ha, Nat.lt_of_lt_of_le hb hw.size, (hw.cell (p := ⟨b, o + i, none⟩) hb).trans he, hl.below hw⟩
theorem liesT_own {w : World} {base : Nat} {v : Value} {T : TypeId} {us : List Value} {f : Nat → List En} (h : w.ownsRow base T 1 v us.length us) (hf : ∀ i u, us[i]? = some u → Lies w u (f i)) (hN : us.length ≤ 1000000) : LiesT w v us.length f := by
 have h' := h
 obtain ⟨hl, h2⟩ := h
 rcases h2 with ⟨rfl, hz⟩ | ⟨g, cap, cur, rfl, hg, hh, hn2, hm, hz, htake⟩
 · exact ⟨none, 0, by rw [hz], by omega, hN, fun i h => absurd h (by omega)⟩
 · have hlt := heap_lt hh
   refine ⟨some ⟨g, 0, none⟩, cap, rfl, hn2, hN, fun i h => ⟨g, 0, us[i], rfl, hlt, ?_, hf i _ (List.getElem?_eq_getElem h)⟩⟩
   rw [Nat.zero_add, h'.cellAt i (by omega)]
   exact List.getElem?_eq_getElem h
theorem Tryz.infoES : (Tryz.prog.info? 34).map (fun i => (i.zero, i.size, i.bytes)) = some (some (.slice none 0 0), 1, 24) := by kernel_rfl
theorem keyB_of1 {l : List UInt8} (h : Pp.keyE l = 1) : Pp.keyB l = false := by
 cases hb : Pp.keyB l with
 | false => rfl
 | true => rw [Pp.keyE_yes hb] at h; exact absurd h (by decide)
theorem keyB_of0 {l : List UInt8} (h : Pp.keyE l = 0) : Pp.keyB l = true := by
 cases hb : Pp.keyB l with
 | true => rfl
 | false => rw [Pp.keyE_no hb] at h; exact absurd h (by decide)
theorem ownsRow_below {w w' : World} {base : Nat} {e : TypeId} {size : Nat} {v : Value} {n : Nat} {xs : List Value} (h : w.ownsRow base e size v n xs) (hw : Below w.heap.size w w') : w'.ownsRow base e size v n xs :=
 h.kept (row := none) ⟨hw.os, hw.tape, hw.output, hw.size, fun k hk _ => hw.block k hk⟩ (by cases h : v.ownBlock with
  | none => exact Or.inl rfl
  | some g => exact Or.inr (by simp))
def TrsAt (wr : World) (J : Jo) (us : List Value) (k : Nat) : Prop := us.length = k + 1 ∧ ∀ i u, us[i]? = some u → Lies wr u (Jn.trAt J i)
theorem TrsAt.below {w w' : World} {J : Jo} {us : List Value} {k : Nat} (h : TrsAt w J us k) (hw : Below w.heap.size w w') : TrsAt w' J us k := ⟨h.1, fun i u hu => (h.2 i u hu).below hw⟩
theorem TrsAt.row {w w' : World} {J : Jo} {us : List Value} {k : Nat} {v : Value} (h : TrsAt w J us k) (hg : w.grownBy w' v.ownBlock) (hn : NoStrV w v) : TrsAt w' J us k := ⟨h.1, fun i u hu => (h.2 i u hu).row hg hn⟩
theorem Cs.row {w w' : World} {b : Nat} {vs : List Value} {v : Value} (h : Cs w b vs) (hg : w.grownBy w' v.ownBlock) (hne : ∀ g, v.ownBlock = some g → b ≠ g) : Cs w' b vs := by
 cases hv : v.ownBlock with
 | none =>
  rw [hv] at hg
  exact h.below ⟨hg.os, hg.tape, hg.output, hg.size, fun k hk => hg.block k hk (by simp)⟩
 | some g =>
  rw [hv] at hg
  exact h.nb hg (hne g hv)
theorem TrsAt.snoc {w : World} {J : Jo} {us : List Value} {k : Nat} {x : Value} (h : TrsAt w J us k) (hx : Lies w x (Jn.trAt J (k + 1))) : TrsAt w J (us ++ [x]) (k + 1) := by
 refine ⟨by simp [h.1], fun i u hu => ?_⟩
 by_cases hi : i < us.length
 · rw [List.getElem?_append_left hi] at hu
   exact h.2 i u hu
 · rw [List.getElem?_append_right (by omega)] at hu
   have h1 := h.1
   have hi2 : i = k + 1 := by
    rcases Nat.lt_or_ge (i - us.length) 1 with h3 | h3
    · omega
    · rw [List.getElem?_eq_none (by simpa using h3)] at hu; cases hu
   subst hi2
   rw [h1, Nat.sub_self] at hu
   injection hu with hu
   exact hu ▸ hx
end Go.Proofs.YtchlgpeiombmdaaGreat
set_option linter.unusedSimpArgs false
set_option linter.unusedVariables false
namespace Go.Proofs.YtchlgpeiombmdaaGreat
open Go.RowKit

namespace Hu
theorem isB_iff (L : List Sh) (x : ByteArray) : isB L x = true ↔ ∃ s ∈ L, s.na.data.toList = x.data.toList := by
 rw [isB, List.any_eq_true]
 constructor
 · rintro ⟨s, hs, h⟩
   exact ⟨s, hs, Pp.cmp_zero _ _ (of_decide_eq_true h)⟩
 · rintro ⟨s, hs, h⟩
   refine ⟨s, hs, decide_eq_true ?_⟩
   rw [cm, h]; exact Pp.cmp_self _
theorem ris_ne {L : List Sh} (hr : risB L = true) : L.Pairwise (fun a b => a.na.data.toList ≠ b.na.data.toList) := by
 rw [List.pairwise_iff_getElem]
 intro i j hi hj hij he
 obtain ⟨d, rfl⟩ : ∃ d, j = i + d + 1 := ⟨j - i - 1, by omega⟩
 have h := ris_lt hr d i hj
 rw [he, Pp.cmp_self] at h
 omega
theorem cnt_none {L : List Sh} {x : List UInt8} (h : ∀ s ∈ L, s.na.data.toList ≠ x) : L.filter (fun s => s.na.data.toList == x) = [] := by
 rw [List.filter_eq_nil_iff]
 intro s hs he
 exact h s hs (by simpa using he)
theorem cnt_one : ∀ {L : List Sh} {x : List UInt8}, L.Pairwise (fun a b => a.na.data.toList ≠ b.na.data.toList) → (∃ s ∈ L, s.na.data.toList = x) → (L.filter (fun s => s.na.data.toList == x)).length = 1
 | [], x, _, h => by obtain ⟨s, hs, _⟩ := h; cases hs
 | s :: r, x, hp, h => by
  rw [List.pairwise_cons] at hp
  by_cases e : s.na.data.toList = x
  · rw [List.filter_cons_of_pos (by simpa using e), cnt_none (fun t ht he => hp.1 t ht (by rw [e, he]))]
    rfl
  · rw [List.filter_cons_of_neg (by simpa using e)]
    refine cnt_one hp.2 ?_
    obtain ⟨t, ht, hx⟩ := h
    rcases List.mem_cons.1 ht with rfl | ht
    · exact absurd hx e
    · exact ⟨t, ht, hx⟩
theorem cnt_or {α : Type} (p q : α → Bool) : ∀ (L : List α), (∀ s ∈ L, q s = true → p s = false) → (L.filter (fun s => p s || q s)).length = (L.filter p).length + (L.filter q).length
 | [], _ => rfl
 | s :: r, h => by
  have ih := cnt_or p q r (fun t ht => h t (List.mem_cons_of_mem _ ht))
  cases hq : q s with
  | true =>
   have hp := h s (List.mem_cons_self ..) hq
   rw [List.filter_cons_of_pos (by simp [hq]), List.filter_cons_of_neg (by simp [hp]), List.filter_cons_of_pos hq, List.length_cons, List.length_cons, ih]
   omega
  | false =>
   cases hp : p s with
   | true => rw [List.filter_cons_of_pos (by simp [hp]), List.filter_cons_of_pos hp, List.filter_cons_of_neg (by simp [hq]), List.length_cons, List.length_cons, ih]; omega
   | false => rw [List.filter_cons_of_neg (by simp [hp, hq]), List.filter_cons_of_neg (by simp [hp]), List.filter_cons_of_neg (by simp [hq]), ih]
theorem inG_snoc (G : List Gr) (g : Gr) (x : ByteArray) : inG (G ++ [g]) x = (inG G x || (x.data.toList == g.fo.data.toList)) := by
 rw [inG_any, inG_any, List.any_append]
 simp only [List.any_cons, List.any_nil, Bool.or_false]
 congr 1
 exact Bool.eq_iff_iff.2 ⟨fun h => by rw [beq_iff_eq] at h ⊢; exact h.symm, fun h => by rw [beq_iff_eq] at h ⊢; exact h.symm⟩
theorem size_told {L : List Sh} (hr : risB L = true) : ∀ G : List Gr, (∀ g ∈ G, isB L g.fo = true) → Maps.size (Jn.D (told L G)) = (L.filter (fun s => inG G s.na)).length := by
 intro G
 refine Jn.snoc_ind (P := fun G => (∀ g ∈ G, isB L g.fo = true) → Maps.size (Jn.D (told L G)) = (L.filter (fun s => inG G s.na)).length) ?_ ?_ G
 · intro _
   have : L.filter (fun s => inG [] s.na) = [] := List.filter_eq_nil_iff.2 (fun s _ h => by rw [inG_any] at h; cases h)
   rw [this]; rfl
 · intro G g ih ha
   have ih := ih (fun x hx => ha x (List.mem_append_left _ hx))
   have e : told L (G ++ [g]) = told L G ++ [⟨plc L g.fo, g.fo, []⟩] := by unfold told; simp
   rw [e, Jn.D_snoc, Maps.size_put (Jn.D_tidy _), Jn.D_has]
   have ef : (fun s : Sh => inG (G ++ [g]) s.na) = (fun s : Sh => inG G s.na || (s.na.data.toList == g.fo.data.toList)) := funext fun s => inG_snoc G g s.na
   rw [ef, inG_eq]
   have same : ∀ s : Sh, s.na.data.toList = g.fo.data.toList → inG G s.na = inG G g.fo := fun s hs => by rw [inG_any, inG_any, hs]
   cases hb : inG G g.fo with
   | true =>
    rw [if_pos rfl, ih]
    have : (fun s : Sh => inG G s.na || (s.na.data.toList == g.fo.data.toList)) = (fun s : Sh => inG G s.na) := funext fun s => by
     by_cases hs : s.na.data.toList = g.fo.data.toList
     · rw [same s hs, hb]; rfl
     · rw [show (s.na.data.toList == g.fo.data.toList) = false from by simpa using hs, Bool.or_false]
    rw [this]
   | false =>
    rw [if_neg (by simp), ih, cnt_or (fun s : Sh => inG G s.na) (fun s : Sh => s.na.data.toList == g.fo.data.toList) L (fun s _ hs => by rw [same s (by simpa using hs)]; exact hb), cnt_one (ris_ne hr) ((isB_iff L g.fo).1 (ha g (by simp)))]
theorem tel_told {L : List Sh} {G : List Gr} (hr : risB L = true) (ha : ∀ g ∈ G, isB L g.fo = true) (h : ∀ s ∈ L, inG G s.na = true) : telE L G = 0 := by
 rw [telE, if_pos (List.all_eq_true.2 ha), size_told hr G ha, List.filter_eq_self.2 h, if_neg (Nat.lt_irrefl _)]
theorem tel_not {L : List Sh} {G : List Gr} (hr : risB L = true) (ha : ∀ g ∈ G, isB L g.fo = true) {s : Sh} (hs : s ∈ L) (h : inG G s.na = false) : telE L G = 5 := by
 have hlt : (L.filter (fun s => inG G s.na)).length < L.length := by
  rcases Nat.lt_or_ge (L.filter (fun s => inG G s.na)).length L.length with h1 | h1
  · exact h1
  · have e : L.filter (fun s => inG G s.na) = L := (List.filter_sublist).eq_of_length_le h1
    have := List.filter_eq_self.1 e s hs
    rw [h] at this; cases this
 rw [telE, if_pos (List.all_eq_true.2 ha), size_told hr G ha, if_pos hlt]
/-- Where a folder is; -1: there is none. -/
def fat (L : List Sh) (x : ByteArray) : Int := match L.findIdx? (fun s => s.na.toList == x.toList) with
 | some i => i
 | none => -1
theorem fat_hit {L : List Sh} {x : ByteArray} {k : Nat} (hk : k < L.length) (h : ∀ m (h : m < L.length), m < k → (L[m].na.toList == x.toList) = false) (h0 : (L[k].na.toList == x.toList) = true) : fat L x = k := by
 have : L.findIdx? (fun s => s.na.toList == x.toList) = some k := List.findIdx?_eq_some_iff_getElem.2 ⟨hk, h0, fun m hm => by rw [h m (by omega) hm]; decide⟩
 rw [fat, this]
theorem fat_none {L : List Sh} {x : ByteArray} (h : ∀ m (h : m < L.length), (L[m].na.toList == x.toList) = false) : fat L x = -1 := by
 have : L.findIdx? (fun s => s.na.toList == x.toList) = none := List.findIdx?_eq_none_iff.2 fun s hs => by
  obtain ⟨m, hm, rfl⟩ := List.getElem_of_mem hs
  exact h m hm
 rw [fat, this]
theorem fat_neg (L : List Sh) (x : ByteArray) : fat L x < 0 ↔ isB L x = false := by
 rw [fat]
 cases h : L.findIdx? (fun s => s.na.toList == x.toList) with
 | some i =>
  obtain ⟨hi, h0, _⟩ := List.findIdx?_eq_some_iff_getElem.1 h
  have : isB L x = true := (isB_iff L x).2 ⟨L[i], List.getElem_mem hi, by rw [Lib.toList_data, Lib.toList_data] at h0; simpa using h0⟩
  rw [this]; simp
 | none =>
  have : isB L x = false := by
   cases hb : isB L x with
   | false => rfl
   | true =>
    obtain ⟨s, hs, he⟩ := (isB_iff L x).1 hb
    have := List.findIdx?_eq_none_iff.1 h s hs
    rw [Lib.toList_data, Lib.toList_data, he] at this
    simp at this
  rw [this]; simp
/-- Where the map has a folder is where the reference finds it. -/
theorem fat_whr {H : Hb} (h : hE H = 0) {x : ByteArray} (hx : inG H.gs x = true) : fat H.fos x = whr H.fos H.gs x := by
 obtain ⟨hp, he⟩ := whr_at h hx
 refine fat_hit hp (fun m hm hlt => ?_) (by rw [Lib.toList_data, Lib.toList_data, he]; simp)
 obtain ⟨_, h1, _⟩ := h_parts h
 have hne := List.pairwise_iff_getElem.1 (ris_ne (cf_parts h1).2.2) m _ hm hp hlt
 rw [he] at hne
 rw [Lib.toList_data, Lib.toList_data]
 simpa using hne
/-- Of a hub that is right: a folder is there just if it is told of. -/
theorem told_is {H : Hb} (h : hE H = 0) (x : ByteArray) : inG H.gs x = isB H.fos x := by
 obtain ⟨_, h1, _, h3, _⟩ := h_parts h
 cases hb : isB H.fos x with
 | false =>
  cases hi : inG H.gs x with
  | false => rfl
  | true => rw [tel_is h3 hi] at hb; cases hb
 | true =>
  have ha : ∀ g ∈ H.gs, isB H.fos g.fo = true := fun g hg => tel_is h3 (by rw [inG_any, List.any_eq_true]; exact ⟨g, hg, by simp⟩)
  obtain ⟨s, hs, he⟩ := (isB_iff _ _).1 hb
  cases hi : inG H.gs s.na with
  | false => rw [tel_not (cf_parts h1).2.2 ha hs hi] at h3; cases h3
  | true => rw [inG_any] at hi ⊢; rw [← he]; exact hi
end Hu

end Go.Proofs.YtchlgpeiombmdaaGreat
set_option linter.unusedSimpArgs false
set_option linter.unusedVariables false
namespace Go.Proofs.YtchlgpeiombmdaaGreat
open Go.RowKit

namespace Hu
theorem nms_no {x : ByteArray} (h : Pp.nameB x.data.toList = false) : Pp.nmsE [x] = 1 := by rw [Pp.nmsE]; simp [h]
theorem nms_yes {x : ByteArray} (h : Pp.nameB x.data.toList = true) : Pp.nmsE [x] = 0 := by rw [Pp.nmsE]; simp [h]
theorem lt_flip {s t : Sh} (h : lt s t = true) : Op.bytesLess t.na.toList s.na.toList = false ∧ (t.na.toList == s.na.toList) = false := by
 rw [lt_cm] at h
 have h := of_decide_eq_true h
 rw [Pp.less_cmp, Lib.toList_data, Lib.toList_data, Pp.cmp_anti s.na.data.toList t.na.data.toList]
 refine ⟨decide_eq_false (by omega), ?_⟩
 rw [beq_eq_false_iff_ne]
 intro e
 rw [e, Pp.cmp_self] at h
 omega
theorem not_lt {s t : Sh} (h : lt s t = false) : Op.bytesLess t.na.toList s.na.toList = true ∨ (Op.bytesLess t.na.toList s.na.toList = false ∧ (t.na.toList == s.na.toList) = true) := by
 rw [lt_cm] at h
 have h := of_decide_eq_false h
 rw [Pp.less_cmp, Lib.toList_data, Lib.toList_data, Pp.cmp_anti s.na.data.toList t.na.data.toList]
 by_cases e : Lib.compareBytes s.na.data.toList t.na.data.toList = 0
 · right
   refine ⟨decide_eq_false (by omega), ?_⟩
   rw [beq_iff_eq]
   exact (Pp.cmp_zero _ _ e).symm
 · left; exact decide_eq_true (by omega)
theorem who_len (G : List Gr) (x : ByteArray) : (Pp.whoR G x).length = 0 ↔ inG G x = false := by
 have e : inG G x = G.any (Pp.inF x) := by
  rw [inG_any]
  congr 1
  funext g
  rw [Pp.inF, Lib.toList_data, Lib.toList_data]
 rw [e]
 constructor
 · intro h
   cases hb : G.any (Pp.inF x) with
   | false => rfl
   | true => have := Pp.who_some hb; omega
 · exact Pp.who_none
end Hu

end Go.Proofs.YtchlgpeiombmdaaGreat
set_option linter.unusedSimpArgs false
set_option linter.unusedVariables false
namespace Go.Proofs.YtchlgpeiombmdaaGreat
open Go.RowKit
namespace Hu
theorem inG_iff (G : List Gr) (x : ByteArray) : inG G x = true ↔ ∃ g ∈ G, g.fo.data.toList = x.data.toList := by
 rw [inG, has_told]; simp
theorem gi_parts {G : List Gr} {f b m : ByteArray} {r : Int} (h : Pp.gchE G = 0) (h0 : Pp.giE G f b m r = 0) : Pp.nmsE [f, b, m] = 0 ∧ 0 ≤ r ∧ r ≤ 3 ∧ (Pp.pgN ⟨f, m, r⟩ G).any (Pp.ownF f) = true ∧ (Pp.pgN ⟨f, m, r⟩ G).length ≤ 60 := by
 rw [Pp.giE, if_pos h] at h0
 rcases Pp.gv_cases G f b m r with ⟨_, e⟩ | ⟨_, _, e⟩ | ⟨_, _, _, e⟩ | ⟨_, _, _, n, e⟩ | ⟨_, _, _, _, _, e⟩ | ⟨_, _, _, _, _, _, e⟩ | ⟨a, c, d, _, f', g, _⟩
 · rw [h0] at e; cases e
 · rw [h0] at e; cases e
 · rw [h0] at e; cases e
 · rw [h0] at e; exact absurd e.symm n
 · rw [h0] at e; cases e
 · rw [h0] at e; cases e
 · exact ⟨a, c, d, f', g⟩
theorem gi_tel {H : Hb} {f m : ByteArray} {r : Int} (h : hE H = 0) (hin : inG H.gs f = true) (ha : (Pp.pgN ⟨f, m, r⟩ H.gs).any (Pp.ownF f) = true) : telE H.fos (Pp.pgN ⟨f, m, r⟩ H.gs) = 0 := by
 obtain ⟨_, h1, h2, h3, _⟩ := h_parts h
 have hr := (cf_parts h1).2.2
 refine tel_told hr ?_ ?_
 · intro g hg
   rcases Pp.pg_mem hg with ⟨rfl, _⟩ | ⟨hg, _⟩
   · exact tel_is h3 hin
   · exact tel_is h3 ((inG_iff _ _).2 ⟨g, hg, rfl⟩)
 · intro s hs
   have hs' : inG H.gs s.na = true := by
    rw [told_is h]; exact (isB_iff _ _).2 ⟨s, hs, rfl⟩
   obtain ⟨g, hg, e⟩ := (inG_iff _ _).1 hs'
   by_cases hf : g.fo.data.toList = f.data.toList
   · obtain ⟨k, hk, hk2⟩ := List.any_eq_true.1 ha
     refine (inG_iff _ _).2 ⟨k, hk, ?_⟩
     have : k.fo.toList = f.toList := by simp [Pp.ownF] at hk2; exact hk2.1
     rw [← e, hf, ← Lib.toList_data, ← Lib.toList_data, this]
   · refine (inG_iff _ _).2 ⟨g, Pp.pg_in hg (Pp.oth_ofW ?_), e⟩
     cases ho : Pp.ofW (⟨f, m, r⟩ : Gr).fo (⟨f, m, r⟩ : Gr).wh g with
     | false => rfl
     | true =>
      have := (Pp.ofW_iff.1 ho).1
      exact absurd (by rw [← Lib.toList_data, ← Lib.toList_data]; exact this) hf
theorem nm_3 {f b m : ByteArray} (h : Pp.nmsE [f, b, m] = 0) : Pp.nameB f.data.toList = true ∧ Pp.nameB b.data.toList = true ∧ Pp.nameB m.data.toList = true := by
 unfold Pp.nmsE at h
 split at h
 · rename_i h1; simpa [and_assoc] using h1
 · cases h
/-- A hub that passes Check passes it behind any request that gives a right. -/
theorem gi_he {H : Hb} {f b m : ByteArray} {r : Int} (h : hE H = 0) (hin : inG H.gs f = true) : hE (gsH H (Pp.giE H.gs f b m r) (Pp.giL H.gs f b m r)) = 0 := by
 rw [gsH]
 split
 · rename_i h0
   obtain ⟨a0, a1, a2, a3, a4⟩ := h_parts h
   obtain ⟨n, r0, r3, ho, hl⟩ := gi_parts a2 h0
   obtain ⟨nf, nb, nm⟩ := nm_3 n
   rw [Pp.giL_yes h0]
   exact h_make a0 a1 (Pp.gch_pg a2 nf nm r0 r3 ho hl) (gi_tel h hin ho) a4
 · exact h
theorem gi_sized {H : Hb} {f b m : ByteArray} {r : Int} (hs : SizedH H) (hf : f.size ≤ 150000000000000) (hm : m.size ≤ 150000000000000) : SizedH (gsH H (Pp.giE H.gs f b m r) (Pp.giL H.gs f b m r)) := by
 rw [gsH]
 split
 · rename_i h0
   rw [Pp.giL_yes h0]
   refine ⟨hs.fos, ?_, hs.ss⟩
   intro g hg
   rcases Pp.pg_mem hg with ⟨rfl, _⟩ | ⟨hg, _⟩
   · exact ⟨hf, hm⟩
   · exact hs.gs g hg
 · exact hs
end Hu
end Go.Proofs.YtchlgpeiombmdaaGreat
set_option linter.unusedSimpArgs false
set_option linter.unusedVariables false
namespace Go.Proofs.YtchlgpeiombmdaaGreat
open Go.RowKit
namespace Hu
def ltP (a b : Sh) : Prop := Lib.compareBytes a.na.data.toList b.na.data.toList < 0
theorem ris_pw {L : List Sh} (h : risB L = true) : L.Pairwise ltP := by
 rw [List.pairwise_iff_getElem]
 intro i j hi hj hij
 obtain ⟨d, rfl⟩ : ∃ d, j = i + d + 1 := ⟨j - i - 1, by omega⟩
 exact ris_lt h d i hj
theorem pw_ris {L : List Sh} (h : L.Pairwise ltP) : risB L = true := by
 rw [ris_iff]
 intro i hi
 rw [lt_cm]
 exact decide_eq_true (List.pairwise_iff_getElem.1 h i (i + 1) (by omega) hi (by omega))
theorem plc_cons (a : Sh) (r : List Sh) (x : ByteArray) : plc (a :: r) x = if 0 ≤ cm a x then 0 else plc r x + 1 := by
 unfold plc
 rw [List.findIdx_cons]
 by_cases h : 0 ≤ cm a x
 · simp [h]
 · simp [h]
theorem ins_pw {x : ByteArray} {s : Sh} (hs : s.na.data.toList = x.data.toList) : ∀ {L : List Sh}, L.Pairwise ltP → isB L x = false → (L.take (plc L x) ++ s :: L.drop (plc L x)).Pairwise ltP
 | [], _, _ => by simp
 | a :: r, hp, hn => by
  obtain ⟨h1, h2⟩ := List.pairwise_cons.1 hp
  have hn1 : ¬ cm a x = 0 := fun e => by rw [isB, List.any_cons, decide_eq_true e] at hn; cases hn
  have hn2 : isB r x = false := by
   rw [isB, List.any_cons, Bool.or_eq_false_iff] at hn; exact hn.2
  rw [plc_cons]
  by_cases h : 0 ≤ cm a x
  · rw [if_pos h]
    have ha : ltP s a := by
     show Lib.compareBytes s.na.data.toList a.na.data.toList < 0
     rw [hs, Pp.cmp_anti a.na.data.toList x.data.toList]
     have : cm a x = Lib.compareBytes a.na.data.toList x.data.toList := rfl
     omega
    show (s :: a :: r).Pairwise ltP
    refine List.pairwise_cons.2 ⟨?_, hp⟩
    intro b hb
    rcases List.mem_cons.1 hb with rfl | hb
    · exact ha
    · exact Pp.cmp_trans _ _ _ ha (h1 b hb)
  · rw [if_neg h]
    show (a :: (r.take (plc r x) ++ s :: r.drop (plc r x))).Pairwise ltP
    refine List.pairwise_cons.2 ⟨?_, ins_pw hs h2 hn2⟩
    intro b hb
    rcases List.mem_append.1 hb with hb | hb
    · exact h1 b (List.mem_of_mem_take hb)
    · rcases List.mem_cons.1 hb with rfl | hb
      · show Lib.compareBytes a.na.data.toList b.na.data.toList < 0
        rw [hs]
        have : cm a x = Lib.compareBytes a.na.data.toList x.data.toList := rfl
        omega
      · exact h1 b (List.mem_of_mem_drop hb)
theorem ins_mem {L : List Sh} {s t : Sh} {p : Nat} : t ∈ L.take p ++ s :: L.drop p ↔ t = s ∨ t ∈ L := by
 have : t ∈ L ↔ t ∈ L.take p ++ L.drop p := by rw [List.take_append_drop]
 rw [this]; simp only [List.mem_append, List.mem_cons]
 constructor
 · rintro (h | h | h)
   · exact Or.inr (Or.inl h)
   · exact Or.inl h
   · exact Or.inr (Or.inr h)
 · rintro (h | h | h)
   · exact Or.inr (Or.inl h)
   · exact Or.inl h
   · exact Or.inr (Or.inr h)
theorem nm_2 {f m : ByteArray} (h : Pp.nmsE [f, m] = 0) : Pp.nameB f.data.toList = true ∧ Pp.nameB m.data.toList = true := by
 unfold Pp.nmsE at h
 split at h
 · rename_i h1; simpa using h1
 · cases h
theorem ma_parts {G : List Gr} {f m : ByteArray} (h : Pp.gchE G = 0) (h0 : Pp.maE G f m = 0) : Pp.nmsE [f, m] = 0 ∧ G.any (Pp.inF f) = false ∧ G.length < 60 := by
 rw [Pp.maE, if_pos h] at h0
 rcases Pp.mk_cases G f m with ⟨_, e⟩ | ⟨_, _, e⟩ | ⟨_, _, _, e⟩ | ⟨a, b, c, _⟩
 · rw [h0] at e; cases e
 · rw [h0] at e; cases e
 · rw [h0] at e; cases e
 · exact ⟨a, b, c⟩
/-- A hub that passes Check passes it behind any request that makes a folder. -/
theorem mk_he {H : Hb} {f m : ByteArray} (h : hE H = 0) : hE (mkH H f m) = 0 := by
 by_cases hk : mkE H f m = 0
 · obtain ⟨a0, a1, a2, a3, a4⟩ := h_parts h
   obtain ⟨c1, c2, c3⟩ := cf_parts a1
   have hma : Pp.maE H.gs f m = 0 := by
    by_cases e : Pp.maE H.gs f m = 0
    · exact e
    · rw [(mk_bad e).1] at hk; exact absurd hk e
   have h8 : ¬ 8 ≤ H.fos.length := fun e => by rw [(mk_many hma e).1] at hk; cases hk
   obtain ⟨n, hany, h60⟩ := ma_parts a2 hma
   obtain ⟨nf, nm⟩ := nm_2 n
   have hout : ∀ g ∈ H.gs, ¬ g.fo.data.toList = f.data.toList := fun g hg e => by
    have := List.any_eq_false.1 hany g hg
    apply this
    simp only [Pp.inF, Lib.toList_data, e, beq_self_eq_true]
   have hin : inG H.gs f = false := by
    cases e : inG H.gs f with
    | false => rfl
    | true => obtain ⟨g, hg, e⟩ := (inG_iff _ _).1 e; exact absurd e (hout g hg)
   have hisb : isB H.fos f = false := by rw [← told_is h]; exact hin
   have hself : (⟨f, m, 3⟩ : Gr) ∈ Pp.pgN ⟨f, m, 3⟩ H.gs := Pp.pg_self (show ¬ (3 : Int) = 0 by decide)
   have hr := pw_ris (ins_pw (x := f) (s := ⟨f, ⟨[], 1, []⟩⟩) rfl (ris_pw c3) hisb)
   rw [(mk_ok hma h8).2, Pp.maL_yes hma]
   refine h_make a0 (cf_make ?_ (shs_iff.2 ?_) hr) (Pp.gch_pg (G := H.gs) (f := f) (m := m) (r := 3) a2 nf nm (by decide) (by decide) ?_ (by rw [Pp.pg_new hany]; omega)) (tel_told (G := Pp.pgN ⟨f, m, 3⟩ H.gs) hr ?_ ?_) a4
   · show (H.fos.take _ ++ _ :: H.fos.drop _).length ≤ 8
     have hl : (H.fos.take (plc H.fos f)).length + (H.fos.drop (plc H.fos f)).length = H.fos.length := by rw [← List.length_append, List.take_append_drop]
     rw [List.length_append, List.length_cons]; omega
   · intro s hs
     rcases ins_mem.1 hs with rfl | hs
     · show (if ¬ Pp.nmsE [f] = 0 then _ else Jn.chkE ⟨[], 1, []⟩) = 0
       have : Pp.nmsE [f] = 0 := by rw [Pp.nmsE, if_pos (by simp [nf])]
       rw [if_neg (fun x => x this)]; decide
     · exact shs_iff.1 c2 s hs
   · exact List.any_eq_true.2 ⟨_, hself, by simp [Pp.ownF]⟩
   · intro g hg
     rcases Pp.pg_mem hg with ⟨rfl, _⟩ | ⟨hg, _⟩
     · exact (isB_iff _ _).2 ⟨_, ins_mem.2 (Or.inl rfl), rfl⟩
     · obtain ⟨s, hs, e⟩ := (isB_iff _ _).1 (tel_is a3 ((inG_iff _ _).2 ⟨g, hg, rfl⟩))
       exact (isB_iff _ _).2 ⟨s, ins_mem.2 (Or.inr hs), e⟩
   · intro s hs
     rcases ins_mem.1 hs with rfl | hs
     · exact (inG_iff _ _).2 ⟨_, hself, rfl⟩
     · have hs' : inG H.gs s.na = true := by
        rw [told_is h]; exact (isB_iff _ _).2 ⟨s, hs, rfl⟩
       obtain ⟨g, hg, e⟩ := (inG_iff _ _).1 hs'
       refine (inG_iff _ _).2 ⟨g, Pp.pg_in hg (Pp.oth_ofW ?_), e⟩
       cases ho : Pp.ofW (⟨f, m, 3⟩ : Gr).fo (⟨f, m, 3⟩ : Gr).wh g with
       | false => rfl
       | true =>
        have := (Pp.ofW_iff.1 ho).1
        exact absurd (by rw [← Lib.toList_data, ← Lib.toList_data]; exact this) (hout g hg)
 · have e : mkH H f m = H := by rw [mkH, if_neg hk]
   rw [e]; exact h
theorem mk_sized {H : Hb} {f m : ByteArray} (hs : SizedH H) (hf : f.size ≤ 150000000000000) (hm : m.size ≤ 150000000000000) : SizedH (mkH H f m) := by
 by_cases hk : mkE H f m = 0
 · have hma : Pp.maE H.gs f m = 0 := by
    by_cases e : Pp.maE H.gs f m = 0
    · exact e
    · rw [(mk_bad e).1] at hk; exact absurd hk e
   have h8 : ¬ 8 ≤ H.fos.length := fun e => by rw [(mk_many hma e).1] at hk; cases hk
   rw [(mk_ok hma h8).2, Pp.maL_yes hma]
   refine ⟨?_, ?_, hs.ss⟩
   · intro s h
     rcases ins_mem.1 h with rfl | h
     · exact ⟨hf, by intro e he; simp at he, by intro c hc; simp at hc⟩
     · exact hs.fos s h
   · intro g hg
     rcases Pp.pg_mem (x := ⟨f, m, 3⟩) (G := H.gs) hg with ⟨rfl, _⟩ | ⟨hg, _⟩
     · exact ⟨hf, hm⟩
     · exact hs.gs g hg
 · have e : mkH H f m = H := by rw [mkH, if_neg hk]
   rw [e]; exact hs
end Hu
end Go.Proofs.YtchlgpeiombmdaaGreat
