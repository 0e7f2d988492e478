/- What Give leaves: grants that pass Check, the right that was given, and all other rights as they were. -/
import Derived.Test.YtgjiicnhedekjaaG20
set_option linter.unusedSimpArgs false
set_option linter.unusedVariables false
namespace Go.Proofs.Ytgjiicnhedekjaa.Pp

theorem beq_tl {a b : ByteArray} (h : (a.toList == b.toList) = true) : a.data.toList = b.data.toList := by
  rw [Lib.toList_data, Lib.toList_data] at h; simpa using h
theorem tl_eq {a b : ByteArray} (h : (a.toList == b.toList) = true) : a.toList = b.toList := by simpa using h
theorem ofW_iff {f m : ByteArray} {e : Gr} : ofW f m e = true ↔ e.fo.toList = f.toList ∧ e.wh.toList = m.toList := by simp [ofW]
theorem ofW_oth {x e : Gr} (h : ofW x.fo x.wh e = true) : othG x e = false := by
  obtain ⟨h1, h2⟩ := ofW_iff.1 h
  have i1 : cS e.fo x.fo = 0 := by
    rcases tri e.fo x.fo with ⟨t1, t2, t3, t4⟩ | ⟨t1, t2, t3, t4⟩ | ⟨t1, t2, t3, t4⟩
    · rw [h1] at t3; simp at t3
    · exact cS_eq t1 t3
    · rw [h1] at t3; simp at t3
  have i2 : cS e.wh x.wh = 0 := by
    rcases tri e.wh x.wh with ⟨t1, t2, t3, t4⟩ | ⟨t1, t2, t3, t4⟩ | ⟨t1, t2, t3, t4⟩
    · rw [h2] at t3; simp at t3
    · exact cS_eq t1 t3
    · rw [h2] at t3; simp at t3
  rw [othG, cG, if_pos i1, i2]; rfl
theorem oth_ofW {x e : Gr} (h : ofW x.fo x.wh e = false) : othG x e = true := by
  cases h1 : (e.fo.toList == x.fo.toList) with
  | false => exact oth_fo h1
  | true =>
    have h2 : (e.wh.toList == x.wh.toList) = false := by rw [ofW, h1] at h; simpa using h
    rcases tri e.fo x.fo with ⟨t1, t2, t3, t4⟩ | ⟨t1, t2, t3, t4⟩ | ⟨t1, t2, t3, t4⟩
    · rw [h1] at t3; cases t3
    · exact oth_wh t1 t3 h2
    · rw [h1] at t3; cases t3
theorem pg_mem {x y : Gr} {G : List Gr} (h : y ∈ pgN x G) : (y = x ∧ ¬ x.ri = 0) ∨ (y ∈ G ∧ othG x y = true) := by
  by_cases h0 : x.ri = 0
  · rw [pgN_no h0] at h; exact Or.inr (List.mem_filter.1 h)
  · rw [pgN_yes h0] at h
    rcases List.mem_cons.1 ((insG_perm x _).mem_iff.1 h) with h | h
    · exact Or.inl ⟨h, h0⟩
    · exact Or.inr (List.mem_filter.1 h)
theorem pg_in {x y : Gr} {G : List Gr} (h : y ∈ G) (ho : othG x y = true) : y ∈ pgN x G := by
  have h1 : y ∈ outG x G := List.mem_filter.2 ⟨h, ho⟩
  by_cases h0 : x.ri = 0
  · rw [pgN_no h0]; exact h1
  · rw [pgN_yes h0]; exact (insG_perm x _).mem_iff.2 (List.mem_cons_of_mem _ h1)
theorem pg_self {x : Gr} {G : List Gr} (h0 : ¬ x.ri = 0) : x ∈ pgN x G := by
  rw [pgN_yes h0]; exact (insG_perm x _).mem_iff.2 (List.mem_cons_self ..)
theorem find_of {p : Gr → Bool} {L : List Gr} {x : Gr} (hx : x ∈ L) (hp : p x = true) (hu : ∀ y ∈ L, p y = true → y = x) : L.find? p = some x := by
  cases h : L.find? p with
  | none => exact absurd hp (by simpa using List.find?_eq_none.1 h x hx)
  | some y => rw [hu y (List.mem_of_find?_eq_some h) (List.find?_some h)]
theorem rgt_given (x : Gr) (G : List Gr) : rgt (pgN x G) x.fo x.wh = x.ri := by
  have key : ∀ y ∈ pgN x G, ofW x.fo x.wh y = true → y = x := fun y hy hp => by
    rcases pg_mem hy with ⟨h, _⟩ | ⟨_, h⟩
    · exact h
    · rw [ofW_oth hp] at h; cases h
  by_cases h0 : x.ri = 0
  · have : (pgN x G).find? (ofW x.fo x.wh) = none := by
      rw [List.find?_eq_none]
      intro y hy hp
      rcases pg_mem hy with ⟨_, h⟩ | ⟨_, h⟩
      · exact h h0
      · rw [ofW_oth hp] at h; cases h
    rw [rgt, this, h0]
  · rw [rgt, find_of (pg_self h0) (by simp [ofW]) key]
theorem find_ins {p : Gr → Bool} {x : Gr} (hp : p x = false) : ∀ L : List Gr, (insG x L).find? p = L.find? p
  | [] => by simp [insG, hp]
  | y :: r => by
    rw [insG]; split
    · rw [List.find?_cons, List.find?_cons, find_ins hp r]
    · rw [List.find?_cons, hp]
theorem find_out {p q : Gr → Bool} (hpq : ∀ y, p y = true → q y = true) : ∀ L : List Gr, (L.filter q).find? p = L.find? p
  | [] => rfl
  | y :: r => by
    rw [List.filter_cons]
    cases hp : p y with
    | true => rw [if_pos (hpq y hp), List.find?_cons, List.find?_cons, hp]
    | false =>
      split
      · rw [List.find?_cons, List.find?_cons, hp, find_out hpq r]
      · rw [List.find?_cons, hp, find_out hpq r]
theorem rgt_other {x : Gr} {f m : ByteArray} (h : ¬ (f.toList = x.fo.toList ∧ m.toList = x.wh.toList)) (G : List Gr) : rgt (pgN x G) f m = rgt G f m := by
  have hx : ofW f m x = false := by
    cases hh : ofW f m x with
    | false => rfl
    | true => obtain ⟨h1, h2⟩ := ofW_iff.1 hh; exact absurd ⟨h1.symm, h2.symm⟩ h
  have hq : ∀ y, ofW f m y = true → othG x y = true := fun y hy => by
    cases hh : ofW x.fo x.wh y with
    | false => exact oth_ofW hh
    | true =>
      obtain ⟨h1, h2⟩ := ofW_iff.1 hy
      obtain ⟨h3, h4⟩ := ofW_iff.1 hh
      exact absurd ⟨h1.symm.trans h3, h2.symm.trans h4⟩ h
  have e : (pgN x G).find? (ofW f m) = G.find? (ofW f m) := by
    by_cases h0 : x.ri = 0
    · rw [pgN_no h0, outG, find_out hq]
    · rw [pgN_yes h0, find_ins hx, outG, find_out hq]
  rw [rgt, rgt, e]
theorem grs_mem {G : List Gr} : grsE G = 0 ↔ ∀ g ∈ G, grE g = 0 := by
  induction G with
  | nil => simp [grsE]
  | cons g r ih =>
    rw [grsE]
    by_cases h : grE g = 0
    · rw [if_pos h, ih]; simp [h]
    · rw [if_neg h]; simp [h]
theorem owns_mem {G : List Gr} : ownsE G = 0 ↔ ∀ g ∈ G, G.any (ownF g.fo) = true := by
  rw [ownsE]
  constructor
  · intro h
    split at h
    · rename_i h1; exact fun g hg => List.all_eq_true.1 h1 g hg
    · cases h
  · intro h
    rw [if_pos (List.all_eq_true.2 h)]
/-- What Give leaves passes Check. -/
theorem gch_pg {G : List Gr} {f m : ByteArray} {r : Int} (h0 : gchE G = 0) (hf : nameB f.data.toList = true) (hm : nameB m.data.toList = true) (h1 : 0 ≤ r) (h3 : r ≤ 3) (ha : (pgN ⟨f, m, r⟩ G).any (ownF f) = true) (hl : (pgN ⟨f, m, r⟩ G).length ≤ 60) : gchE (pgN ⟨f, m, r⟩ G) = 0 := by
  obtain ⟨_, hg, hris, hown⟩ := gch0 h0
  have hG := (risG_pair G).1 hris
  have hris2 : risG (pgN ⟨f, m, r⟩ G) = true := by
    rw [risG_pair]
    have hF : (outG ⟨f, m, r⟩ G).Pairwise (fun x y => ltG x y = true) := List.Pairwise.filter _ hG
    by_cases hr : r = 0
    · rw [pgN_no hr]; exact hF
    · rw [pgN_yes hr]; exact insG_sorted _ hF fun y hy => (List.mem_filter.1 hy).2
  have hg2 : grsE (pgN ⟨f, m, r⟩ G) = 0 := by
    rw [grs_mem]
    intro g hgm
    rcases pg_mem hgm with ⟨rfl, hr⟩ | ⟨hgm, _⟩
    · have hr' : ¬ r = 0 := hr
      have : nm2 ⟨f, m, r⟩ = true := by simp [nm2, hf, hm]
      rw [grE, if_pos this, if_neg]
      show ¬ (r < 1 ∨ 3 < r)
      omega
    · exact grs_mem.1 hg g hgm
  rw [gch_own (by omega) hg2 hris2, owns_mem]
  intro g hgm
  cases hfo : (g.fo.toList == f.toList) with
  | true =>
    have e := tl_eq hfo
    rw [List.any_eq_true] at ha ⊢
    obtain ⟨y, hy, hy2⟩ := ha
    refine ⟨y, hy, ?_⟩
    rw [ownF] at hy2 ⊢; rw [e]; exact hy2
  | false =>
    rcases pg_mem hgm with ⟨rfl, _⟩ | ⟨hgm, _⟩
    · simp at hfo
    · have := owns_mem.1 hown g hgm
      rw [List.any_eq_true] at this ⊢
      obtain ⟨y, hy, hy2⟩ := this
      refine ⟨y, pg_in hy (oth_fo ?_), hy2⟩
      have h4 : y.fo.toList = g.fo.toList := by rw [ownF] at hy2; simp at hy2; exact hy2.1
      show (y.fo.toList == f.toList) = false
      rw [h4]; exact hfo
end Go.Proofs.Ytgjiicnhedekjaa.Pp
