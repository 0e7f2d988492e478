/- What passes Check goes on passing it: of Apply of a change, as plain mathematics. -/
import Derived.Test.YtogbahkoijkclaaGreatTPure3
set_option linter.unusedSimpArgs false
set_option linter.unusedVariables false
namespace Go.Proofs.YtogbahkoijkclaaGreat.Pp

theorem fold_mem {R : List En} (hr : R.Pairwise (fun x y => lt x y = true)) {x : En} (hx : x ∈ R) {p : List UInt8} (hp : x.path.data.toList = p) (hf : x.folder = true) : foldE R p = 0 := by
  subst hp
  rw [foldE]
  split
  · rfl
  · rw [sorted_find hr hx]; simp [hf]
theorem fold_nil (L : List En) : foldE L [] = 0 := by rw [foldE, if_pos rfl]
theorem par_in {l p : List UInt8} (h : isInB (par l) p = true) (hn : par l ≠ []) : isInB l p = true := by
  by_cases hs : 47 ∈ l
  · obtain ⟨a, b, hb, e⟩ := last_split hs
    rw [e, par_cut a hb] at h
    rw [isIn_of, e]
    rcases (isIn_of a p).1 h with h | ⟨r, h⟩
    · exact Or.inr ⟨b, by rw [h]⟩
    · exact Or.inr ⟨r ++ 47 :: b, by rw [h]; simp⟩
  · exact absurd (par_none hs) hn
/-- The parent of what is truly within is within. -/
theorem par_down {p r : List UInt8} : ∃ a b, 47 ∉ b ∧ p ++ 47 :: r = a ++ 47 :: b ∧ isInB a p = true ∧ par (p ++ 47 :: r) = a := by
  obtain ⟨a, b, hb, e2⟩ := last_split (l := p ++ 47 :: r) (by simp)
  refine ⟨a, b, hb, e2, ?_, by rw [e2]; exact par_cut a hb⟩
  rw [isIn_of]
  by_cases hr : 47 ∈ r
  · obtain ⟨r1, r2, hr2, er⟩ := last_split hr
    have : par (a ++ 47 :: b) = par ((p ++ 47 :: r1) ++ 47 :: r2) := by rw [← e2, er]; simp
    rw [par_cut a hb, par_cut _ hr2] at this
    exact Or.inr ⟨r1, this⟩
  · have : par (a ++ 47 :: b) = par (p ++ 47 :: r) := by rw [← e2]
    rw [par_cut a hb, par_cut _ hr] at this
    exact Or.inl this

theorem chg_kind {c : Ch} (h : chgE c = 0) : 1 ≤ c.k ∧ c.k ≤ 4 := by
  by_cases h1 : c.k < 1 ∨ 4 < c.k
  · rw [chgE, if_pos h1] at h; cases h
  · omega
theorem chg_path {c : Ch} (h : chgE c = 0) : chk c.p.data.toList = 0 := by
  have hk := chg_kind h
  by_cases h2 : chk c.p.data.toList = 0
  · exact h2
  · rw [chgE, if_neg (by omega), if_pos h2] at h; exact h
theorem chg_to {c : Ch} (h : chgE c = 0) (h3 : c.k = 3) : chk c.q.data.toList = 0 := by
  have hk := chg_kind h
  have hp := chg_path h
  by_cases h2 : chk c.q.data.toList = 0
  · exact h2
  · rw [chgE, if_neg (by omega), if_neg (fun x => x hp), if_pos ⟨h3, h2⟩] at h; exact h
theorem chg_rest {c : Ch} (h : chgE c = 0) : (c.k = 3 ∨ c.q.data.toList = []) ∧ (c.k = 2 ∨ c.t.data.toList = []) ∧ c.t.size ≤ 300 ∧ -1 ≤ c.b ∧ c.b ≤ 1000000 := by
  have hk := chg_kind h
  have hp := chg_path h
  have ht := fun h3 => chg_to h h3
  rw [chgE, if_neg (by omega), if_neg (fun x => x hp), if_neg (fun x => x.2 (ht x.1))] at h
  split at h
  · cases h
  · rename_i h1
    split at h
    · cases h
    · rename_i h2
      split at h
      · cases h
      · rename_i h3
        refine ⟨?_, ?_, by omega, by omega, by omega⟩
        · by_cases hh : c.k = 3
          · exact Or.inl hh
          · exact Or.inr (Classical.byContradiction fun hq => h1 (Or.inl ⟨hh, hq⟩))
        · by_cases hh : c.k = 2
          · exact Or.inl hh
          · exact Or.inr (Classical.byContradiction fun hq => h1 (Or.inr ⟨hh, hq⟩))
theorem plc_fold {L : List En} {c : Ch} (h : plcE L c = 0) : foldE L (par (goal c)) = 0 := by
  by_cases h1 : foldE L (par (goal c)) = 0
  · exact h1
  · rw [plcE, if_pos h1] at h; exact h
theorem plc_rest {L : List En} {c : Ch} (h : plcE L c = 0) (hk : 1 ≤ c.k ∧ c.k ≤ 4) :
    (c.k = 1 ∧ L.find? (atB c.p.data.toList) = none) ∨ (c.k = 2 ∧ ∀ x, L.find? (atB c.p.data.toList) = some x → x.folder = false) ∨
    (c.k = 3 ∧ (∃ x, L.find? (atB c.p.data.toList) = some x) ∧ isInB c.q.data.toList c.p.data.toList = false ∧ L.find? (atB c.q.data.toList) = none) ∨
    (c.k = 4 ∧ ∃ x, L.find? (atB c.p.data.toList) = some x) := by
  have hf := plc_fold h
  rw [plcE, if_neg (fun x => x hf)] at h
  have h4 : c.k = 1 ∨ c.k = 2 ∨ c.k = 3 ∨ c.k = 4 := by omega
  cases hx : L.find? (atB c.p.data.toList) with
  | none =>
    rw [hx] at h
    rcases h4 with e | e | e | e
    · exact Or.inl ⟨e, rfl⟩
    · exact Or.inr (Or.inl ⟨e, fun x hx => by cases hx⟩)
    · simp [e] at h
    · simp [e] at h
  | some x =>
    rw [hx] at h
    rcases h4 with e | e | e | e
    · simp [e] at h
    · refine Or.inr (Or.inl ⟨e, fun y hy => ?_⟩)
      cases hy
      cases hb : x.folder with
      | false => rfl
      | true => simp [e, hb] at h
    · refine Or.inr (Or.inr (Or.inl ⟨e, ⟨x, rfl⟩, ?_, ?_⟩))
      · cases hb : isInB c.q.data.toList c.p.data.toList with
        | false => rfl
        | true => simp [e, hb] at h
      · cases hb : L.find? (atB c.q.data.toList) with
        | none => rfl
        | some y => simp only [e, hb] at h; simp at h; split at h <;> cases h
    · exact Or.inr (Or.inr (Or.inr ⟨e, x, rfl⟩))

theorem mem_outE {x y : En} {L : List En} : y ∈ outE x L ↔ y ∈ L ∧ y.path.data.toList ≠ x.path.data.toList := by
  rw [outE, List.mem_filter]; simp [atB]
theorem new_good {L : List En} (hL : Good L) {c : Ch} {n : Int} (hc : chgE c = 0) (hp : plcE L c = 0) (hv : verE n = 0) (hk : c.k = 1 ∨ c.k = 2) (hr : ¬ 60 < (outE (newE c n) L).length + 1) : Good (ins (newE c n) (outE (newE c n) L)) := by
  have hsort : (ins (newE c n) (outE (newE c n) L)).Pairwise (fun x y => lt x y = true) := ins_sorted _ (List.Pairwise.filter _ hL.rise) fun y hy => (mem_outE.1 hy).2
  have hmem : ∀ y, y ∈ ins (newE c n) (outE (newE c n) L) ↔ y = newE c n ∨ y ∈ outE (newE c n) L := fun y => by rw [(ins_perm _ _).mem_iff, List.mem_cons]
  have hrest := chg_rest hc
  refine ⟨?_, fun y hy => ?_, hsort, fun y hy => ?_⟩
  · rw [(ins_perm _ _).length_eq, List.length_cons]; omega
  · rcases (hmem y).1 hy with rfl | hy
    · have h1 : chk (newE c n).path.data.toList = 0 := chg_path hc
      have h2 : (newE c n).text.size = c.t.size := rfl
      rw [entE, if_pos h1, if_neg, if_neg]
      · exact hv
      · rw [h2]; have := hrest.2.2.1; omega
      · rintro ⟨ha, hb⟩
        have hk1 : c.k = 1 := by simpa [newE] using ha
        rcases hrest.2.1 with h | h
        · omega
        · exact hb h
    · exact hL.ents y (mem_outE.1 hy).1
  · by_cases hP : par y.path.data.toList = []
    · rw [hP]; exact fold_nil _
    have hF : foldE L (par y.path.data.toList) = 0 := by
      rcases (hmem y).1 hy with rfl | hy
      · have := plc_fold hp
        rw [goal, if_neg (by omega)] at this
        exact this
      · exact hL.pars y (mem_outE.1 hy).1
    obtain ⟨z, hz, hzp, hzf, hzs⟩ := fold_zero hF hP
    refine fold_mem hsort (x := z) ((hmem z).2 (Or.inr (mem_outE.2 ⟨hz, fun e => ?_⟩))) hzp hzf
    have e' : z.path.data.toList = c.p.data.toList := e
    have hfind := sorted_find hL.rise hz
    rw [e'] at hfind
    rcases plc_rest hp (chg_kind hc) with h | h | h | h
    · rw [h.2] at hfind; cases hfind
    · have := h.2 z hfind; rw [hzf] at this; cases this
    · omega
    · omega
theorem mem_keptL {L : List En} {c : Ch} {y : En} : y ∈ keptL L c ↔ y ∈ L ∧ isInB y.path.data.toList c.p.data.toList = false := by
  rw [keptL, List.mem_filter]; simp [wi]
theorem mem_goL {L : List En} {c : Ch} {y : En} : y ∈ goL L c ↔ y ∈ L ∧ isInB y.path.data.toList c.p.data.toList = true := by
  rw [goL, List.mem_filter]; simp [wi]
theorem kept_par {L : List En} (hL : Good L) {c : Ch} {y : En} (hy : y ∈ keptL L c) (hP : par y.path.data.toList ≠ []) : ∃ z ∈ keptL L c, z.path.data.toList = par y.path.data.toList ∧ z.folder = true := by
  obtain ⟨hy1, hy2⟩ := mem_keptL.1 hy
  obtain ⟨z, hz, hzp, hzf, _⟩ := fold_zero (hL.pars y hy1) hP
  refine ⟨z, mem_keptL.2 ⟨hz, ?_⟩, hzp, hzf⟩
  cases hb : isInB z.path.data.toList c.p.data.toList with
  | false => rfl
  | true => rw [hzp] at hb; rw [par_in hb hP] at hy2; cases hy2
theorem kept_good {L : List En} (hL : Good L) (c : Ch) : Good (keptL L c) := by
  have hsort : (keptL L c).Pairwise (fun x y => lt x y = true) := List.Pairwise.filter _ hL.rise
  refine ⟨Nat.le_trans (List.length_filter_le _ _) hL.len, fun y hy => hL.ents y (mem_keptL.1 hy).1, hsort, fun y hy => ?_⟩
  by_cases hP : par y.path.data.toList = []
  · rw [hP]; exact fold_nil _
  · obtain ⟨z, hz, hzp, hzf⟩ := kept_par hL hy hP
    exact fold_mem hsort hz hzp hzf
theorem path_mvd (c : Ch) (n : Int) (e : En) : (mvd c n e).path.data.toList = mvP c e := rfl
theorem nothing_in {L : List En} (hL : Good L) {q : List UInt8} (hq : q ≠ []) (hf : L.find? (atB q) = none) {e : En} (he : e ∈ L) : isInB e.path.data.toList q = false := by
  cases hb : isInB e.path.data.toList q with
  | false => rfl
  | true =>
    obtain ⟨x, hx, hxp⟩ := anc' hL.pars hq he hb
    have := List.find?_eq_none.1 hf x hx
    simp [atB, hxp] at this
theorem mv_dif {L : List En} (hL : Good L) {c : Ch} (n : Int) (hq : c.q.data.toList ≠ []) (hf : L.find? (atB c.q.data.toList) = none) : (keptL L c ++ mvL L c n).Pairwise dif := by
  have hd : L.Pairwise dif := hL.rise.imp fun h => lt_dif h
  rw [List.pairwise_append]
  refine ⟨List.Pairwise.filter _ hd, ?_, fun a ha b hb e => ?_⟩
  · rw [mvL, List.pairwise_map]
    have h1 : (goL L c).Pairwise dif := List.Pairwise.filter _ hd
    refine (List.Pairwise.and_mem.1 h1).imp fun {a b} h e => ?_
    exact h.2.2 (mvT_inj (mem_goL.1 h.1).2 (mem_goL.1 h.2.1).2 e)
  · obtain ⟨x, hx, rfl⟩ := List.mem_map.1 hb
    have h1 := mvT_in (t := c.q.data.toList) (mem_goL.1 hx).2
    have h2 := nothing_in hL hq hf (mem_keptL.1 ha).1
    rw [e, path_mvd] at h2
    rw [mvP, h1] at h2; cases h2
theorem mv_chk0 {L : List En} (hL : Good L) {c : Ch} (hc : chgE c = 0) (h3 : c.k = 3) {e : En} (he : e ∈ goL L c) : chk (mvP c e) = if big (mvP c e) = true then 2 else 0 := by
  obtain ⟨h1, h2⟩ := mem_goL.1 he
  refine mv_chk ?_ h2
  have ha := entE_path (hL.ents e h1)
  have hb := chg_path hc
  have hd := chg_to hc h3
  simp [chks, ha, hb, hd]
theorem mv_good {L : List En} (hL : Good L) {c : Ch} {n : Int} (hc : chgE c = 0) (hp : plcE L c = 0) (hv : verE n = 0) (h3 : c.k = 3) (hb : (goL L c).any (fun e => big (mvP c e)) = false) : Good (insAll (mvL L c n) (keptL L c)) := by
  obtain ⟨_, ⟨x0, hx0⟩, hqp, hqf⟩ : c.k = 3 ∧ (∃ x, L.find? (atB c.p.data.toList) = some x) ∧ isInB c.q.data.toList c.p.data.toList = false ∧ L.find? (atB c.q.data.toList) = none := by
    rcases plc_rest hp (chg_kind hc) with h | h | h | h
    · omega
    · omega
    · exact h
    · omega
  have hq0 := chk_path_ne (chg_to hc h3)
  have hsort : (insAll (mvL L c n) (keptL L c)).Pairwise (fun x y => lt x y = true) := insAll_sorted _ (List.Pairwise.filter _ hL.rise) (mv_dif hL n hq0 hqf)
  have hmem : ∀ y, y ∈ insAll (mvL L c n) (keptL L c) ↔ y ∈ keptL L c ∨ ∃ e ∈ goL L c, mvd c n e = y := fun y => by
    rw [(insAll_perm _ _).mem_iff, List.mem_append, mvL, List.mem_map]
  refine ⟨?_, fun y hy => ?_, hsort, fun y hy => ?_⟩
  · rw [(insAll_perm _ _).length_eq, List.length_append, mvL, List.length_map]
    have h1 : (keptL L c).length + (goL L c).length = L.length := by
      rw [keptL, goL]
      have := (List.filter_append_perm (fun e => !wi c.p.data.toList e) L).length_eq
      rw [List.length_append] at this
      have e1 : (List.filter (fun x => !(fun e => !wi c.p.data.toList e) x) L) = List.filter (wi c.p.data.toList) L := by congr 1; funext x; simp
      rw [e1] at this
      exact this
    have := hL.len
    omega
  · rcases (hmem y).1 hy with hy | ⟨e, he, rfl⟩
    · exact hL.ents y (mem_keptL.1 hy).1
    · have h0 := hL.ents e (mem_goL.1 he).1
      have h1 : chk (mvd c n e).path.data.toList = 0 := by
        rw [path_mvd, mv_chk0 hL hc h3 he, if_neg]
        have := List.any_eq_false.1 hb e he
        exact this
      have h2 := entE_path h0
      rw [entE, if_pos h2] at h0
      rw [entE, if_pos h1]
      have h5 : (mvd c n e).folder = e.folder := rfl
      have h6 : (mvd c n e).text = e.text := rfl
      rw [h5, h6]
      split at h0
      · cases h0
      · rename_i ha
        rw [if_neg ha]
        split at h0
        · cases h0
        · rename_i hb2
          rw [if_neg hb2]
          by_cases hpp : e.path.data.toList = c.p.data.toList
          · have : (mvd c n e).ver = n := by simp [mvd, hpp]
            rw [this]; exact hv
          · have : (mvd c n e).ver = e.ver := by simp [mvd, hpp]
            rw [this]; exact h0
  · by_cases hP : par y.path.data.toList = []
    · rw [hP]; exact fold_nil _
    rcases (hmem y).1 hy with hy | ⟨e, he, rfl⟩
    · obtain ⟨z, hz, hzp, hzf⟩ := kept_par hL hy hP
      exact fold_mem hsort ((hmem z).2 (Or.inl hz)) hzp hzf
    · rw [path_mvd] at hP ⊢
      obtain ⟨he1, he2⟩ := mem_goL.1 he
      rcases (isIn_of _ _).1 he2 with e0 | ⟨r, e0⟩
      · have hpq : mvP c e = c.q.data.toList := by rw [mvP, mvT, e0]; simp
        rw [hpq] at hP ⊢
        have hfo := plc_fold hp
        rw [goal, if_pos h3] at hfo
        obtain ⟨z, hz, hzp, hzf, _⟩ := fold_zero hfo hP
        refine fold_mem hsort ((hmem z).2 (Or.inl (mem_keptL.2 ⟨hz, ?_⟩))) hzp hzf
        cases hbb : isInB z.path.data.toList c.p.data.toList with
        | false => rfl
        | true => rw [hzp] at hbb; rw [par_in hbb hP] at hqp; cases hqp
      · obtain ⟨a, b, hb47, e2, hap, hpar⟩ := par_down (p := c.p.data.toList) (r := r)
        have ha0 : a ≠ [] := by
          intro ea
          rw [ea] at hap
          rcases (isIn_of _ _).1 hap with h | ⟨s, h⟩
          · exact chk_path_ne (chg_path hc) h.symm
          · have h := congrArg List.length h
            simp at h
        have hfo := hL.pars e he1
        rw [e0, hpar] at hfo
        obtain ⟨z, hz, hzp, hzf, _⟩ := fold_zero hfo ha0
        have hzg : z ∈ goL L c := mem_goL.2 ⟨hz, by rw [hzp]; exact hap⟩
        refine fold_mem hsort (x := mvd c n z) ((hmem _).2 (Or.inr ⟨z, hzg, rfl⟩)) ?_ hzf
        rw [path_mvd, mvP, hzp, mvP, e0, e2]
        obtain ⟨s, hs⟩ := isIn_pre hap
        have : mvT (a ++ 47 :: b) c.p.data.toList c.q.data.toList = mvT a c.p.data.toList c.q.data.toList ++ 47 :: b := by
          rw [mvT, mvT, hs]; simp
        rw [this, par_cut _ hb47]
theorem app_good {L : List En} (hL : Good L) {c : Ch} {n : Int} (h : appE L c n = 0) : Good (chdR L c n) := by
  have hv : verE n = 0 := by
    by_cases h1 : verE n = 0
    · exact h1
    · rw [appE, if_pos h1] at h; exact h
  rw [appE, if_neg (fun x => x hv)] at h
  have hc : chgE c = 0 := by
    by_cases h1 : chgE c = 0
    · exact h1
    · rw [if_pos h1] at h; exact h
  rw [if_neg (fun x => x hc)] at h
  have hp : plcE L c = 0 := by
    by_cases h1 : plcE L c = 0
    · exact h1
    · rw [if_pos h1] at h; exact h
  rw [if_neg (fun x => x hp)] at h
  split at h
  · cases h
  · rw [chdE] at h
    rw [chdR]
    by_cases hk : c.k = 1 ∨ c.k = 2
    · rw [if_pos hk] at h ⊢
      refine new_good hL hc hp hv hk fun h6 => ?_
      rw [if_pos h6] at h; cases h
    · rw [if_neg hk] at h ⊢
      by_cases h3 : c.k = 3
      · rw [if_pos h3] at h ⊢
        refine mv_good hL hc hp hv h3 ?_
        cases hb : (goL L c).any (fun e => big (mvP c e)) with
        | false => rfl
        | true => rw [if_pos hb] at h; cases h
      · rw [if_neg h3]
        exact kept_good hL c
end Go.Proofs.YtogbahkoijkclaaGreat.Pp
