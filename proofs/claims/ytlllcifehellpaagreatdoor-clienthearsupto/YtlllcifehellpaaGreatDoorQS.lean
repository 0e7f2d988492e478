/- What the reference's SameEntries answers, of the same trees. When two trees are alike, as plain mathematics: just when nothing is to be done. -/
import Derived.Test.YtlllcifehellpaaGreatDoorMD
import Derived.Test.YtlllcifehellpaaGreatDoorPG
set_option linter.unusedSimpArgs false
set_option linter.unusedVariables false
namespace Go.Proofs.YtlllcifehellpaaGreatDoor
open Go.RowKit

set_option maxHeartbeats 1000000 in
theorem same_yes (L : List En) (v u : Value) (w : World) (hv : Lies w v L) (hu : Lies w u L) :
    Calls Tryz.prog 44 #[v, u] w fun e w' => e = .returned (.bool true) ∧ Below w.heap.size w w' := by
  obtain ⟨a, cap, rfl, hcap, hcap2, hL⟩ := hv
  have HL : Hid (∀ i (h : i < L.length), ∃ b o, a = some ⟨b, o, none⟩ ∧ b < w.heap.size ∧ EnAt w b (o + i * 4) L[i]) := hL
  obtain ⟨a', cap', rfl, hcap', _, hL'⟩ := hu
  have HL' : Hid (∀ i (h : i < L.length), ∃ b o, a' = some ⟨b, o, none⟩ ∧ b < w.heap.size ∧ EnAt w b (o + i * 4) L[i]) := hL'
  clear hL hL'
  go_enter Tryz.func44, Tryz.ntmps44
  go_wp2_with fail
  go_loopw [5] (fun i wr => ∃ k : Nat, k ≤ L.length ∧ i = .int .i64 k ∧ Below w.heap.size w wr) (fun i _ => L.length - (intOf i).toNat)
  case atStart => exact ⟨0, Nat.zero_le _, rfl, Below.refl _ _⟩
  case round =>
    obtain ⟨k, hk, rfl, hbel⟩ := hrel
    by_cases hlt : k < L.length
    · obtain ⟨b, o, rfl, hb, he⟩ := HL.out k hlt
      obtain ⟨b', o', rfl, hb', he'⟩ := HL'.out k hlt
      obtain ⟨c0, c1, c2, c3⟩ := he.below hb hbel
      obtain ⟨d0, d1, d2, d3⟩ := he'.below hb' hbel
      go_wp2_with fail
      go_region
      go_wp2_with fail
      go_roundw
      case rel => exact ⟨k + 1, by omega, by simp, hbel.drew⟩
      case measure => simp [intOf]; omega
    · go_wp2_with fail
      go_ret
      exact ⟨rfl, hbel⟩

--@if tetherpost/tetherpostlaw.treeIs
end Go.Proofs.YtlllcifehellpaaGreatDoor
set_option linter.unusedSimpArgs false
set_option linter.unusedVariables false
namespace Go.Proofs.YtlllcifehellpaaGreatDoor
open Go.RowKit Go.Maps Go.WideMaps

namespace Sp
def likeE (x y : En) : Bool := (x.path.toList == y.path.toList) && ((x.folder == y.folder) && (x.text.toList == y.text.toList))
def likeP (A B : List En) : Prop := A.length = B.length ∧ ∀ j (h : j < A.length) (h2 : j < B.length), likeE A[j] B[j] = true
theorem likeE_iff {x y : En} : likeE x y = true ↔ x.path.data.toList = y.path.data.toList ∧ x.folder = y.folder ∧ x.text.data.toList = y.text.data.toList := by
  rw [likeE, Lib.toList_data, Lib.toList_data, Lib.toList_data, Lib.toList_data]
  simp
theorem rise_eq {A B : List (List UInt8)} (hA : A.Pairwise (fun x y => x < y)) (hB : B.Pairwise (fun x y => x < y)) (h : ∀ x, x ∈ A ↔ x ∈ B) : A = B := by
  induction A generalizing B with
  | nil =>
    cases B with
    | nil => rfl
    | cons b r => exact absurd ((h b).2 (by simp)) (by simp)
  | cons a A ih =>
    cases B with
    | nil => exact absurd ((h a).1 (by simp)) (by simp)
    | cons b B =>
      rw [List.pairwise_cons] at hA hB
      have hab : a = b := by
        rcases List.mem_cons.1 ((h a).1 (by simp)) with e | h1
        · exact e
        · rcases List.mem_cons.1 ((h b).2 (by simp)) with e | h2
          · exact e.symm
          · exact absurd (List.lt_trans (hA.1 b h2) (hB.1 a h1)) (List.lt_irrefl _)
      subst hab
      congr 1
      refine ih hA.2 hB.2 fun x => ⟨fun hx => ?_, fun hx => ?_⟩
      · rcases List.mem_cons.1 ((h x).1 (by simp [hx])) with e | h1
        · subst e; exact absurd (hA.1 _ hx) (List.lt_irrefl _)
        · exact h1
      · rcases List.mem_cons.1 ((h x).2 (by simp [hx])) with e | h1
        · subst e; exact absurd (hB.1 _ hx) (List.lt_irrefl _)
        · exact h1
theorem rise_map {L : List En} (h : L.Pairwise (fun x y => Pp.lt x y = true)) : (L.map (fun e => e.path.data.toList)).Pairwise (fun x y => x < y) := by
  rw [List.pairwise_map]
  refine List.Pairwise.imp ?_ h
  intro x y hxy
  rwa [Pp.lt, Lib.toList_data, Lib.toList_data, bytesLess_eq, decide_eq_true_eq] at hxy
theorem wh_cases (e : En) : (e.folder = true ∧ wh e = 1) ∨ (e.folder = false ∧ wh e = 2) := by
  unfold wh
  cases e.folder <;> simp
theorem wh_eq {x y : En} : wh x = wh y ↔ x.folder = y.folder := by
  rcases wh_cases x with ⟨h1, h2⟩ | ⟨h1, h2⟩ <;> rcases wh_cases y with ⟨h3, h4⟩ | ⟨h3, h4⟩ <;> simp [h1, h2, h3, h4]
theorem at_mem {L : List En} {p : List UInt8} {x : En} (h : at_ L p = some x) : x ∈ L ∧ x.path.data.toList = p := ⟨List.mem_of_find?_eq_some h, atB_iff.1 (List.find?_some h)⟩
theorem wAt_some {L : List En} {p : List UInt8} {e : En} (h : wh e = wAt L p) : ∃ x, at_ L p = some x ∧ x ∈ L ∧ x.path.data.toList = p ∧ x.folder = e.folder := by
  rw [wAt] at h
  cases hx : at_ L p with
  | none =>
    rw [hx] at h
    simp only at h
    rcases wh_cases e with ⟨_, h2⟩ | ⟨_, h2⟩ <;> omega
  | some x =>
    rw [hx] at h
    exact ⟨x, rfl, (at_mem hx).1, (at_mem hx).2, (wh_eq.1 h).symm⟩
theorem par_lt {p : List UInt8} (h : Pp.par p ≠ []) : (Pp.par p).length < p.length := by
  by_cases hs : 47 ∈ p
  · obtain ⟨a, b, hb, rfl⟩ := Pp.last_split hs
    rw [Pp.par_cut a hb]
    simp
  · exact absurd (Pp.par_none hs) h
theorem entE_text {e : En} (h : Pp.entE e = 0) (hf : e.folder = true) : e.text.data.toList = [] := by
  rw [Pp.entE, if_pos (Pp.entE_path h)] at h
  by_cases ht : e.text.data.toList = []
  · exact ht
  · rw [if_pos ⟨hf, ht⟩] at h; cases h
/-- What is not gone is there. -/
theorem stays {A B : List En} (hA : Pp.Good A) (hd : dels A B = []) : ∀ (n : Nat) (e : En), e ∈ A → e.path.data.toList.length ≤ n → wh e = wAt B e.path.data.toList := by
  have hno : ∀ e ∈ A, goes B e = false := by
    rw [dels, List.map_eq_nil_iff, List.filter_eq_nil_iff] at hd
    intro e he
    simpa using hd e he
  intro n
  induction n with
  | zero =>
    intro e he hl
    have h1 : e.path.data.toList = [] := List.length_eq_zero_iff.1 (by omega)
    have h2 := hno e he
    have h3 : hasP B e.path.data.toList = true := by
      rw [hasP, h1, Pp.par_none (by simp)]; rfl
    rw [goes, h3, Bool.and_true] at h2
    simpa using h2
  | succ n ih =>
    intro e he hl
    have h2 := hno e he
    have h3 : hasP B e.path.data.toList = true := by
      by_cases hp : Pp.par e.path.data.toList = []
      · rw [hasP, hp]; rfl
      · obtain ⟨x, hx, hxp, hxf, _⟩ := Pp.fold_zero (hA.pars e he) hp
        have h4 := ih x hx (by rw [hxp]; have := par_lt hp; omega)
        rw [hxp] at h4
        rw [hasP, ← h4]
        simp [wh, hxf]
    rw [goes, h3, Bool.and_true] at h2
    simpa using h2
theorem none_like {A B : List En} (hA : Pp.Good A) (hB : Pp.Good B) : dels A B ++ mks A B = [] ↔ likeP A B := by
  constructor
  · intro h
    obtain ⟨hd, hm⟩ := List.append_eq_nil_iff.1 h
    have h1 : ∀ e ∈ A, wh e = wAt B e.path.data.toList := fun e he => stays hA hd _ e he (Nat.le_refl _)
    have h2 : ∀ e ∈ B, newB A e = false := by
      rw [mks, List.map_eq_nil_iff, List.filter_eq_nil_iff] at hm
      intro e he
      simpa using hm e he
    have h3 : ∀ e ∈ B, wh e = wAt A e.path.data.toList ∧ (tx e).toList = (tAt A e.path.data.toList).toList := fun e he => by
      have := h2 e he
      rw [newB] at this
      simpa using this
    have hpe : A.map (fun e => e.path.data.toList) = B.map (fun e => e.path.data.toList) := by
      refine rise_eq (rise_map hA.rise) (rise_map hB.rise) fun x => ⟨fun hx => ?_, fun hx => ?_⟩
      · obtain ⟨e, he, rfl⟩ := List.mem_map.1 hx
        obtain ⟨y, _, hy, hyp, _⟩ := wAt_some (h1 e he)
        exact List.mem_map.2 ⟨y, hy, hyp⟩
      · obtain ⟨e, he, rfl⟩ := List.mem_map.1 hx
        obtain ⟨y, _, hy, hyp, _⟩ := wAt_some (h3 e he).1
        exact List.mem_map.2 ⟨y, hy, hyp⟩
    refine ⟨by simpa using congrArg List.length hpe, fun j hj hj2 => likeE_iff.2 ?_⟩
    have hp : A[j].path.data.toList = B[j].path.data.toList := by
      have := congrArg (fun l => l[j]?) hpe
      simpa [hj, hj2] using this
    obtain ⟨h4, h5⟩ := h3 B[j] (List.getElem_mem hj2)
    obtain ⟨x, hx, hxm, hxp, hxf⟩ := wAt_some h4
    have hxe : x = A[j] := hA.uniq hxm (List.getElem_mem hj) (hxp.trans hp.symm)
    rw [tAt, hx] at h5
    subst hxe
    refine ⟨hp, hxf, ?_⟩
    replace h5 : (tx B[j]).toList = (tx A[j]).toList := h5
    unfold tx at h5
    rw [hxf] at h5
    cases hf : B[j].folder with
    | true =>
      rw [entE_text (hA.ents _ (List.getElem_mem hj)) (hxf.trans hf), entE_text (hB.ents _ (List.getElem_mem hj2)) hf]
    | false =>
      rw [hf] at h5
      simp only [Bool.false_eq_true, if_false] at h5
      rw [Lib.toList_data, Lib.toList_data] at h5
      exact h5.symm
  · intro ⟨hl, h⟩
    have aA := apart_rise hA.rise
    have aB := apart_rise hB.rise
    rw [List.append_eq_nil_iff]
    constructor
    · rw [dels, List.map_eq_nil_iff, List.filter_eq_nil_iff]
      intro e he
      obtain ⟨j, hj, rfl⟩ := List.getElem_of_mem he
      obtain ⟨h1, h2, h3⟩ := likeE_iff.1 (h j hj (by omega))
      rw [goes, h1, wAt_self aB (List.getElem_mem _), wh_eq.2 h2]
      simp
    · rw [mks, List.map_eq_nil_iff, List.filter_eq_nil_iff]
      intro e he
      obtain ⟨j, hj, rfl⟩ := List.getElem_of_mem he
      obtain ⟨h1, h2, h3⟩ := likeE_iff.1 (h j (by omega) hj)
      have h4 : (tx B[j]).toList = (tx (A[j]'(by omega))).toList := by
        unfold tx
        rw [h2]
        split
        · rfl
        · rw [Lib.toList_data, Lib.toList_data]; exact h3.symm
      rw [newB, ← h1, wAt_self aA (List.getElem_mem _), tAt_self aA (List.getElem_mem _), wh_eq.2 h2, h4]
      simp
end Sp
end Go.Proofs.YtlllcifehellpaaGreatDoor
