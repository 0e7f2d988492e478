/- What is told of a session that was opened: to others, and later. -/
import Derived.Test.YtbkhdpgnbehnoaaU20
set_option linter.unusedSimpArgs false
set_option linter.unusedVariables false
namespace Go.Proofs.Ytbkhdpgnbehnoaa.Pp

theorem go_of {G : List Se} {x l r now : Int} {ns : List ByteArray} (hu : uchE G x l r = 0) (h1 : 0 ≤ now) (h2 : now ≤ 1099511627776) : goE G x l r now ns = nmsE ns := by
  rw [goE, if_pos hu, inR_mk h1 h2, if_pos rfl]
theorem fi_other {G : List Se} {x l r : Int} {p : ByteArray} {size now : Int} (h0 : goE G x l r now [p] = 0) (h1 : 0 ≤ size) (h2 : size ≤ 300) (h3 : x < 1099511627776) (h4 : (swL now G).length < 20) (h5 : takS (swL now G) p + size ≤ r) (o : ByteArray) :
    fiE (swL now G ++ [newS x p size (now + l)]) (x + 1) l r o x now = 1 ∨ (fiE (swL now G ++ [newS x p size (now + l)]) (x + 1) l r o x now = 0 ∧ (o.toList == p.toList) = true) ∨ (fiE (swL now G ++ [newS x p size (now + l)]) (x + 1) l r o x now = 5 ∧ (o.toList == p.toList) = false) := by
  have hu := uch_open h0 h1 h2 h3 h4 h5
  obtain ⟨hu0, ⟨hn1, hn2⟩, _⟩ := go_zero h0
  have hl := (bnd_zero (uch_zero hu0).1).2.1.1
  have hnu := nu_less h0
  have hg := go_of (ns := [o]) hu hn1 hn2
  cases hn : nameB o.data.toList with
  | false =>
    left
    have e : nmsE [o] = 1 := by rw [nmsE1 hn]; rfl
    rw [fiE, if_neg (by rw [hg, e]; decide), hg, e]
  | true =>
    right
    have e : nmsE [o] = 0 := by rw [nmsE1 hn]; rfl
    rw [e] at hg
    have hsw : swL now (swL now G ++ [newS x p size (now + l)]) = swL now G ++ [newS x p size (now + l)] := sw_open (by omega)
    rw [fiE, if_pos hg, hsw]
    cases ho : (o.toList == p.toList) with
    | true =>
      left
      refine ⟨?_, rfl⟩
      rcases idS_cases (swL now G ++ [newS x p size (now + l)]) (mine x o) with ⟨_, hall⟩ | ⟨k, hk, hi, _⟩
      · have := hall (newS x p size (now + l)) (by simp)
        have hop : o.toList = p.toList := by simpa using ho
        simp [mine, newS, hop] at this
      · rw [hi, if_neg (by omega)]
    | false =>
      right
      refine ⟨?_, rfl⟩
      rw [idS_none fun s hs => ?_]
      · rfl
      · rcases List.mem_append.1 hs with hs | hs
        · have := hnu s hs
          have : (s.nu == x) = false := beq_eq_false_iff_ne.2 (by omega)
          rw [mine, this]; rfl
        · have : s = newS x p size (now + l) := by simpa using hs
          subst this
          have hop : (p.toList == o.toList) = false := by
            rw [beq_eq_false_iff_ne] at ho ⊢
            exact fun e => ho e.symm
          rw [mine]
          show ((x == x) && (p.toList == o.toList)) = false
          rw [hop, Bool.and_false]
theorem late_gone {G : List Se} {x l r : Int} {p : ByteArray} {size now : Int} (h0 : goE G x l r now [p] = 0) (f : Se → Bool) (hf : ∀ s, f s = true → s.nu = x) : idS (swL (now + l + 1) (swL now G ++ [newS x p size (now + l)])) f = -1 := by
  have hnu := nu_less h0
  refine idS_none fun s hs => ?_
  obtain ⟨h1, h2⟩ := List.mem_filter.1 hs
  cases hh : f s with
  | false => rfl
  | true =>
    have e := hf s hh
    rcases List.mem_append.1 h1 with h1 | h1
    · have := hnu s h1; omega
    · have : s = newS x p size (now + l) := by simpa using h1
      subst this
      have : ovr (now + l + 1) (newS x p size (now + l)) = true := by rw [ovr, decide_eq_true_eq]; show now + l < now + l + 1; omega
      rw [this] at h2; cases h2
theorem late_all {G : List Se} {x l r : Int} {p : ByteArray} {size now : Int} (h0 : goE G x l r now [p] = 0) (h1 : 0 ≤ size) (h2 : size ≤ 300) (h3 : x < 1099511627776) (h4 : (swL now G).length < 20) (h5 : takS (swL now G) p + size ≤ r) (hl : now + l + 1 ≤ 1099511627776) :
    bgE (swL now G ++ [newS x p size (now + l)]) (x + 1) l r (now + l + 1) = 0 ∧ fiE (swL now G ++ [newS x p size (now + l)]) (x + 1) l r p x (now + l + 1) = 5 ∧ uchE (swL (now + l + 1) (swL now G ++ [newS x p size (now + l)])) (x + 1) l r = 0 ∧ idS (swL (now + l + 1) (swL now G ++ [newS x p size (now + l)])) (mine2 p x) = -1 := by
  have hu := uch_open h0 h1 h2 h3 h4 h5
  obtain ⟨hu0, ⟨hn1, hn2⟩, hnm⟩ := go_zero h0
  have hl1 := (bnd_zero (uch_zero hu0).1).2.1.1
  have hg := go_of (ns := [p]) hu (now := now + l + 1) (by omega) hl
  rw [hnm] at hg
  refine ⟨?_, ?_, uch_sw hu _, late_gone h0 _ fun s hs => ?_⟩
  · rw [bgE, if_pos hu, inR_mk (by omega) hl]; rfl
  · rw [fiE, if_pos hg, late_gone h0 _ fun s hs => by
      rw [mine, Bool.and_eq_true] at hs
      simpa using hs.1]; rfl
  · rw [mine2, Bool.and_eq_true] at hs
    simpa using hs.2
theorem sized_open {G : List Se} {x now t : Int} {p : ByteArray} {size : Int} (hs : SizedS G) (hp : p.size ≤ 150000000000000) : SizedS (swL now G ++ [newS x p size t]) := fun g hg => by
  rcases List.mem_append.1 hg with hg | hg
  · exact hs g (List.mem_filter.1 hg).1
  · have : g = newS x p size t := by simpa using hg
    subst this
    exact ⟨hp, by show (0 : Nat) ≤ _; omega⟩
end Go.Proofs.Ytbkhdpgnbehnoaa.Pp
