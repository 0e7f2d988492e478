/- The map of what is at the paths of a tree, as plain mathematics. -/
import Derived.Test.YtogbahkoijkclaaGreatD2
import Derived.Test.YtogbahkoijkclaaGreatTPure3
import Derived.Sort.Walk0
set_option linter.unusedSimpArgs false
set_option linter.unusedVariables false
namespace Go.Proofs.YtogbahkoijkclaaGreat
open Go.RowKit Go.Maps Go.WideMaps Go.Proofs

theorem snoc_ind {α : Type} {P : List α → Prop} (h0 : P []) (h1 : ∀ L e, P L → P (L ++ [e])) (L : List α) : P L := by
  have h : ∀ R : List α, P R.reverse := fun R => by
    induction R with
    | nil => exact h0
    | cons a r ih => rw [List.reverse_cons]; exact h1 _ _ ih
  have h2 := h L.reverse
  rwa [List.reverse_reverse] at h2

namespace Sp
def wh (e : En) : Int := if e.folder = true then 1 else 2
def tx (e : En) : ByteArray := if e.folder = true then ⟨#[]⟩ else e.text
def put (m : DataW Unit) (e : En) : DataW Unit := m.put (key e.path) (dat (wh e) (tx e) e.ver)
/-- The map of a tree. -/
def D (L : List En) : DataW Unit := L.foldl put (.map [])
theorem D_snoc (L : List En) (e : En) : D (L ++ [e]) = put (D L) e := by simp [D]
theorem key_inj {p q : ByteArray} (h : key p = key q) : p.data.toList = q.data.toList := by simpa [key] using h
theorem D_map (L : List En) : IsMap (D L) := by
  have : ∀ (L : List En) (m : DataW Unit), IsMap m → IsMap (L.foldl put m) := by
    intro L
    induction L with
    | nil => intro m h; exact h
    | cons e r ih => intro m h; exact ih _ (h.put _ _)
  exact this L _ isMap_empty
/-- No two paths are the same. -/
def Apart (L : List En) : Prop := L.Pairwise (fun x y => x.path.data.toList ≠ y.path.data.toList)
theorem Apart.snoc {L : List En} {e : En} (h : Apart (L ++ [e])) : Apart L ∧ ∀ x ∈ L, x.path.data.toList ≠ e.path.data.toList := by
  rw [Apart, List.pairwise_append] at h
  exact ⟨h.1, fun x hx => h.2.2 x hx e (by simp)⟩
def at_ (L : List En) (p : List UInt8) : Option En := L.find? (Pp.atB p)
theorem atB_iff {p : List UInt8} {e : En} : Pp.atB p e = true ↔ e.path.data.toList = p := by simp [Pp.atB]
theorem D_at {L : List En} (h : Apart L) (p : ByteArray) (z : DataW Unit) : (D L).atKey (key p) z = match at_ L p.data.toList with | some e => dat (wh e) (tx e) e.ver | none => z := by
  revert h
  refine snoc_ind (P := fun L => Apart L → (D L).atKey (key p) z = match at_ L p.data.toList with | some e => dat (wh e) (tx e) e.ver | none => z) (fun _ => rfl) ?_ L
  · intro L e ih h
    obtain ⟨h1, h2⟩ := h.snoc
    rw [D_snoc, put]
    by_cases hk : key p = key e.path
    · have hp := key_inj hk
      rw [hk, atKey_put_same (D_map L) (by simp [key, WideAt.IsKeyLit])]
      have hnone : L.find? (Pp.atB p.data.toList) = none := by
        rw [List.find?_eq_none]
        intro x hx hh
        exact h2 x hx ((atB_iff.1 hh).trans hp)
      have hyes : Pp.atB p.data.toList e = true := atB_iff.2 hp.symm
      rw [at_, List.find?_append, hnone]
      simp [hyes]
    · rw [atKey_put_other hk, ih h1]
      have hno : Pp.atB p.data.toList e = false := by
        cases hh : Pp.atB p.data.toList e with
        | false => rfl
        | true =>
          have := atB_iff.1 hh
          exact absurd (by rw [key, key, this]) hk
      rw [at_, at_, List.find?_append]
      simp [hno]
theorem keys_put {m : DataW Unit} (hm : IsMap m) {e : En} (hne : ∀ x ∈ strKeys m, x ≠ e.path.data.toList) (hs : ∃ es, m = .map es ∧ ∀ q ∈ es, ∃ b, q.1 = .string b) : (strKeys (put m e)).Perm (e.path.data.toList :: strKeys m) := by
  obtain ⟨es, rfl, hes⟩ := hs
  have hf : (es.filter fun q => !q.1.sameKey (key e.path)) = es := by
    rw [List.filter_eq_self]
    intro q hq
    obtain ⟨b, hb⟩ := hes q hq
    have h1 : b ∈ strKeys (DataW.map es) := List.mem_map.2 ⟨q, hq, by rw [hb]; rfl⟩
    have h2 := hne b h1
    rw [hb]
    simp [Lit.sameKey, key, h2]
  show (List.map _ (DataW.insert (key e.path, _) (es.filter fun q => !q.1.sameKey (key e.path)))).Perm _
  rw [hf]
  exact ((WideShapes.insert_perm _ es).map _).trans (by simp [strKeys, key, strOf])
theorem D_strs (L : List En) : ∃ es, D L = .map es ∧ ∀ q ∈ es, ∃ b, q.1 = .string b := by
  refine snoc_ind (P := fun L => ∃ es, D L = .map es ∧ ∀ q ∈ es, ∃ b, q.1 = .string b) ⟨[], rfl, fun q hq => by cases hq⟩ ?_ L
  · intro L e ih
    obtain ⟨es, h1, h2⟩ := ih
    rw [D_snoc, h1]
    refine ⟨_, rfl, fun q hq => ?_⟩
    rcases List.mem_cons.1 ((WideShapes.insert_perm _ _).mem_iff.1 hq) with h | h
    · exact ⟨_, by rw [h]; rfl⟩
    · exact h2 q (List.mem_filter.1 h).1
theorem D_keys {L : List En} (h : Apart L) : (strKeys (D L)).Perm (L.map (fun e => e.path.data.toList)) := by
  revert h
  refine snoc_ind (P := fun L => Apart L → (strKeys (D L)).Perm (L.map (fun e => e.path.data.toList))) (fun _ => List.Perm.refl _) ?_ L
  · intro L e ih h
    obtain ⟨h1, h2⟩ := h.snoc
    have ih1 := ih h1
    rw [D_snoc, List.map_append]
    refine (keys_put (D_map L) (fun x hx => ?_) (D_strs L)).trans ?_
    · obtain ⟨y, hy, rfl⟩ := List.mem_map.1 (ih1.mem_iff.1 hx)
      exact h2 y hy
    · exact (ih1.cons _).trans (List.perm_append_comm (l₁ := [e.path.data.toList]))
theorem D_size {L : List En} (h : Apart L) : Maps.size (D L) = L.length := by
  obtain ⟨es, h1, _⟩ := D_strs L
  have := (D_keys h).length_eq
  rw [h1] at this ⊢
  simpa [strKeys, Maps.size] using this
theorem apart_rise {L : List En} (h : L.Pairwise (fun x y => Pp.lt x y = true)) : Apart L := by
  refine List.Pairwise.imp ?_ h
  intro x y hxy e
  rw [Pp.lt, Lib.toList_data, Lib.toList_data, e, bytesLess_eq] at hxy
  exact List.lt_irrefl _ (of_decide_eq_true hxy)
/-- Keys, sorted: the paths as they rise. -/
theorem D_sorted {L : List En} (h : L.Pairwise (fun x y => Pp.lt x y = true)) {ss : List (List UInt8)} (hs : ss.Perm (strKeys (D L))) : ss.mergeSort (fun x y => decide (x ≤ y)) = L.map (fun e => e.path.data.toList) := by
  have hp : (ss.mergeSort (fun x y => decide (x ≤ y))).Perm (L.map (fun e => e.path.data.toList)) := (List.mergeSort_perm _ _).trans (hs.trans (D_keys (apart_rise h)))
  have h1 : (ss.mergeSort (fun x y => decide (x ≤ y))).Pairwise (fun x y => x ≤ y) := by
    have := List.pairwise_mergeSort (le := fun (x y : List UInt8) => decide (x ≤ y)) (fun a b c h1 h2 => by simpa using List.le_trans (by simpa using h1) (by simpa using h2)) (fun a b => by simpa using List.le_total a b) ss
    exact this.imp (fun h => by simpa using h)
  have h2 : (L.map (fun e => e.path.data.toList)).Pairwise (fun x y => x ≤ y) := by
    rw [List.pairwise_map]
    refine List.Pairwise.imp ?_ h
    intro x y hxy
    rw [Pp.lt, Lib.toList_data, Lib.toList_data, bytesLess_eq, decide_eq_true_eq] at hxy
    exact List.le_of_lt hxy
  exact hp.eq_of_pairwise (fun a b _ _ h1 h2 => List.le_antisymm h1 h2) h1 h2
end Sp
end Go.Proofs.YtogbahkoijkclaaGreat
