/- What opening a session leaves, and what time leaves of it. -/
import Derived.Test.YtbkhdpgnbehnoaaU19
set_option linter.unusedSimpArgs false
set_option linter.unusedVariables false
namespace Go.Proofs.Ytbkhdpgnbehnoaa.Pp

theorem risS_pair : ∀ (L : List Se), risS L = true ↔ L.Pairwise (fun a b => a.nu < b.nu)
  | [] => by simp [risS]
  | [_] => by simp [risS]
  | a :: b :: r => by
    rw [risS, Bool.and_eq_true, risS_pair (b :: r), decide_eq_true_eq]
    constructor
    · rintro ⟨h1, h2⟩
      refine List.pairwise_cons.2 ⟨fun x hx => ?_, h2⟩
      rcases List.mem_cons.1 hx with rfl | hx
      · exact h1
      · exact Int.lt_trans h1 ((List.pairwise_cons.1 h2).1 x hx)
    · intro h
      exact ⟨(List.pairwise_cons.1 h).1 b (by simp), (List.pairwise_cons.1 h).2⟩
theorem takS_filter {f : Se → Bool} : ∀ {L : List Se} (p : ByteArray), (∀ s ∈ L, 0 ≤ s.si) → takS (L.filter f) p ≤ takS L p
  | [], p, _ => by simp [takS]
  | a :: r, p, h => by
    have ih := takS_filter (f := f) (L := r) p fun s hs => h s (by simp [hs])
    have h0 := h a (by simp)
    rw [List.filter_cons, takS]
    split
    · rw [takS]; omega
    · split <;> omega
theorem ro_mem {L : List Se} {room : Int} : roE L room = 0 ↔ ∀ s ∈ L, takS L s.wh ≤ room := by
  rw [roE]
  constructor
  · intro h
    split at h
    · rename_i h1; exact fun s hs => of_decide_eq_true (List.all_eq_true.1 h1 s hs)
    · cases h
  · intro h
    rw [if_pos (List.all_eq_true.2 fun s hs => decide_eq_true (h s hs))]
theorem bnd_less {n m : Nat} {x l r : Int} (h : bndE n x l r = 0) (hm : m ≤ 20) : bndE m x l r = 0 := by
  rcases bnd_cases n x l r with ⟨h1, hE⟩ | ⟨h1, h2, hE⟩ | ⟨h1, h2, h3, hE⟩ | ⟨h1, h2, h3, h4, hE⟩ | ⟨h1, h2, h3, h4, hE⟩
  · rw [h] at hE; cases hE
  · rw [h] at hE; cases hE
  · rw [h] at hE; cases hE
  · rw [h] at hE; cases hE
  · rw [bndE, h1, h2, h3]; simp; omega
/-- What is left of uploads that pass Check passes it. -/
theorem uch_sw {G : List Se} {x l r : Int} (h : uchE G x l r = 0) (t : Int) : uchE (swL t G) x l r = 0 := by
  obtain ⟨h1, h2, h3, h4⟩ := uch_zero h
  have hl := swL_len t G
  have hb := bnd_less h1 (m := (swL t G).length) (by have := (bnd_zero h1).1; omega)
  have hs : sesE x (swL t G) = 0 := ses_mem.2 fun g hg => ses_mem.1 h2 g (List.mem_filter.1 hg).1
  have hr : risS (swL t G) = true := (risS_pair _).2 (List.Pairwise.filter _ ((risS_pair _).1 h3))
  rw [uch_ro hb hs hr, ro_mem]
  intro s hs'
  have h5 := ro_mem.1 h4 s (List.mem_filter.1 hs').1
  have h6 := takS_filter (f := fun s => !ovr t s) (L := G) s.wh fun s hs => (ses_si h2 s hs).1
  have : takS (swL t G) s.wh = takS (G.filter fun s => !ovr t s) s.wh := rfl
  omega
theorem inR_mk {a b c : Int} (h1 : a ≤ b) (h2 : b ≤ c) : inR a b c = true := by simp [inR, h1, h2]
/-- What Open leaves passes Check. -/
theorem uch_open {G : List Se} {x l r : Int} {p : ByteArray} {size now : Int} (h0 : goE G x l r now [p] = 0) (h1 : 0 ≤ size) (h2 : size ≤ 300) (h3 : x < 1099511627776) (h4 : (swL now G).length < 20) (h5 : takS (swL now G) p + size ≤ r) : uchE (swL now G ++ [newS x p size (now + l)]) (x + 1) l r = 0 := by
  obtain ⟨hu, ⟨hn1, hn2⟩, hnm⟩ := go_zero h0
  obtain ⟨g1, g2, g3, g4⟩ := uch_zero (uch_sw hu now)
  obtain ⟨_, ⟨hl1, hl2⟩, ⟨hr1, hr2⟩, hx1, hx2⟩ := bnd_zero g1
  have hpn : nameB p.data.toList = true := by
    cases hh : nameB p.data.toList with
    | true => rfl
    | false => rw [nmsE1 hh] at hnm; cases hnm
  have hb : bndE (swL now G ++ [newS x p size (now + l)]).length (x + 1) l r = 0 := by
    rw [bndE, inR_mk hl1 hl2, inR_mk hr1 hr2, inR_mk (by omega) (by omega)]
    simp; omega
  have hs : sesE (x + 1) (swL now G ++ [newS x p size (now + l)]) = 0 := ses_mem.2 fun g hg => by
    rcases List.mem_append.1 hg with hg | hg
    · obtain ⟨k1, k2, k3, k4, k5⟩ := se_zero (ses_mem.1 g2 g hg)
      obtain ⟨k6, k7⟩ := inR_yes k1
      rw [seE, inR_mk k6 (by omega), k2, k3, k4, if_pos (by decide), if_pos rfl, if_neg (by omega)]
    · have : g = newS x p size (now + l) := by simpa using hg
      subst this
      have e1 : inR 1 (newS x p size (now + l)).nu (x + 1 - 1) = true := inR_mk hx1 (by show x ≤ x + 1 - 1; omega)
      have e2 : inR 0 (newS x p size (now + l)).si 300 = true := inR_mk h1 h2
      have e3 : inR 0 (newS x p size (now + l)).ti 2199023255552 = true := inR_mk (by show 0 ≤ now + l; omega) (by show now + l ≤ 2199023255552; omega)
      have e4 : nameB (newS x p size (now + l)).wh.data.toList = true := hpn
      rw [seE, e1, e2, e3, e4, if_pos (by decide), if_pos rfl, if_neg]
      show ¬ size < ((0 : Nat) : Int)
      omega
  have hr : risS (swL now G ++ [newS x p size (now + l)]) = true := by
    rw [risS_pair, List.pairwise_append]
    refine ⟨(risS_pair _).1 g3, by simp, fun a ha b hb => ?_⟩
    have : b = newS x p size (now + l) := by simpa using hb
    subst this
    have := (inR_yes (se_zero (ses_mem.1 g2 a ha)).1).2
    show a.nu < x
    omega
  rw [uch_ro hb hs hr, ro_mem]
  intro s hs'
  rw [takS_snoc]
  cases hq : ((newS x p size (now + l)).wh.toList == s.wh.toList) with
  | true =>
    have e : takS (swL now G) s.wh = takS (swL now G) p := by
      have hq2 : p.toList = s.wh.toList := by simpa [newS] using hq
      have key : ∀ L : List Se, takS L s.wh = takS L p := by
        intro L
        induction L with
        | nil => rfl
        | cons a t ih => rw [takS, takS, ih, hq2]
      exact key _
    rw [if_pos rfl, e]
    show takS (swL now G) p + size ≤ r
    exact h5
  | false =>
    rw [if_neg (by decide)]
    rcases List.mem_append.1 hs' with hs' | hs'
    · have := ro_mem.1 g4 s hs'; omega
    · have : s = newS x p size (now + l) := by simpa using hs'
      subst this
      simp at hq
theorem nu_less {G : List Se} {x l r now : Int} {p : ByteArray} (h0 : goE G x l r now [p] = 0) : ∀ s ∈ swL now G, s.nu < x := fun s hs => by
  have h2 := (uch_zero (uch_sw (go_zero h0).1 now)).2.1
  have := (inR_yes (se_zero (ses_mem.1 h2 s hs)).1).2
  omega
theorem idS_none {L : List Se} {f : Se → Bool} (h : ∀ s ∈ L, f s = false) : idS L f = -1 := by
  rcases idS_cases L f with ⟨h1, _⟩ | ⟨k, hk, _, h2, _⟩
  · exact h1
  · rw [h _ (List.getElem_mem hk)] at h2; cases h2
theorem sw_open {G : List Se} {x now l : Int} {p : ByteArray} {size : Int} (hl : 0 ≤ l) : swL now (swL now G ++ [newS x p size (now + l)]) = swL now G ++ [newS x p size (now + l)] := by
  rw [swL, List.filter_append]
  have h1 : (swL now G).filter (fun s => !ovr now s) = swL now G := by
    rw [List.filter_eq_self]; intro s hs; exact (List.mem_filter.1 hs).2
  have h2 : ovr now (newS x p size (now + l)) = false := by
    rw [ovr, decide_eq_false]; show ¬ now + l < now; omega
  rw [h1]; simp [h2]
end Go.Proofs.Ytbkhdpgnbehnoaa.Pp
