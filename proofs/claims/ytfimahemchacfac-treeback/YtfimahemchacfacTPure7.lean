/- What the law TreeBack says, as plain mathematics. -/
import Derived.Test.YtfimahemchacfacTPure6
set_option linter.unusedSimpArgs false
set_option linter.unusedVariables false
namespace Go.Proofs.Ytfimahemchacfac.Pp

/-- What is moved there and back: as it was, but for one version. -/
def bk (p : List UInt8) (e : En) : En := ⟨e.path, e.folder, e.text, if e.path.data.toList = p then 9 else e.ver⟩
theorem mvT_back {p f t : List UInt8} (h : isInB p f = true) : mvT (mvT p f t) t f = p := by
  obtain ⟨s, rfl⟩ := isIn_pre h
  simp [mvT]
theorem mvT_at {p f t : List UInt8} (h : isInB p f = true) : mvT p f t = t ↔ p = f := by
  obtain ⟨s, rfl⟩ := isIn_pre h
  simp [mvT]
theorem lt_paths {x x' y y' : En} (h : x.path.data.toList = x'.path.data.toList) (h' : y.path.data.toList = y'.path.data.toList) : lt x y = lt x' y' := by
  rw [lt_cfE, lt_cfE]; unfold cfE; rw [h, h']
theorem app_of {L : List En} {c : Ch} {n : Int} (h1 : verE n = 0) (h2 : chgE c = 0) (h3 : plcE L c = 0) (h4 : stl L c = false) (h5 : chdE L c n = 0) : appE L c n = 0 := by rw [app_chd h1 h2 h3 h4, h5]
theorem chg_mv {p q : ByteArray} (hp : chk p.data.toList = 0) (hq : chk q.data.toList = 0) : chgE ⟨3, p, q, ⟨#[]⟩, -1⟩ = 0 := by
  simp [chgE, hp, hq]; decide
theorem find_none {L : List En} {p : List UInt8} (h : ∀ y ∈ L, y.path.data.toList ≠ p) : L.find? (atB p) = none := List.find?_eq_none.2 fun y hy => by
  have := h y hy
  rw [atB]; simpa using this

theorem back_mv {L : List En} (hL : Good L) {p q : ByteArray} (h : appE L ⟨3, p, q, ⟨#[]⟩, -1⟩ 9 = 0) :
    appE (chdR L ⟨3, p, q, ⟨#[]⟩, -1⟩ 9) ⟨3, q, p, ⟨#[]⟩, -1⟩ 9 = 0 ∧ chdR (chdR L ⟨3, p, q, ⟨#[]⟩, -1⟩ 9) ⟨3, q, p, ⟨#[]⟩, -1⟩ 9 = L.map (bk p.data.toList) := by
  obtain ⟨hv, hc, hpl, _, hcd⟩ := app_parts h
  have hG := app_good hL h
  have hcp : chk p.data.toList = 0 := chg_path hc
  have hcq : chk q.data.toList = 0 := chg_to hc rfl
  have hp0 := chk_path_ne hcp
  have hq0 := chk_path_ne hcq
  have hfold := plc_fold hpl
  obtain ⟨x0, hx0, hqp, hqf⟩ : ∃ x, L.find? (atB p.data.toList) = some x ∧ isInB q.data.toList p.data.toList = false ∧ L.find? (atB q.data.toList) = none := by
    rcases plc_rest hpl (chg_kind hc) with h | h | h | h
    · exact absurd h.1 (by simp)
    · exact absurd h.1 (by simp)
    · exact ⟨_, h.2.1.choose_spec, h.2.2.1, h.2.2.2⟩
    · exact absurd h.1 (by simp)
  have hx0m := List.mem_of_find?_eq_some hx0
  have hx0p : x0.path.data.toList = p.data.toList := by have := List.find?_some hx0; simpa [atB] using this
  have hnq : ∀ e ∈ L, isInB e.path.data.toList q.data.toList = false := fun e he => nothing_in hL hq0 hqf he
  have hpq : isInB p.data.toList q.data.toList = false := by rw [← hx0p]; exact hnq x0 hx0m
  have hbig : (goL L ⟨3, p, q, ⟨#[]⟩, -1⟩).any (fun e => big (mvP ⟨3, p, q, ⟨#[]⟩, -1⟩ e)) = false := by
    cases hb : (goL L ⟨3, p, q, ⟨#[]⟩, -1⟩).any (fun e => big (mvP ⟨3, p, q, ⟨#[]⟩, -1⟩ e)) with
    | false => rfl
    | true => rw [chdE, if_neg (by simp), if_pos rfl, if_pos hb] at hcd; cases hcd
  have hRdef : chdR L ⟨3, p, q, ⟨#[]⟩, -1⟩ 9 = insAll (mvL L ⟨3, p, q, ⟨#[]⟩, -1⟩ 9) (keptL L ⟨3, p, q, ⟨#[]⟩, -1⟩) := rfl
  have hperm : (chdR L ⟨3, p, q, ⟨#[]⟩, -1⟩ 9).Perm (keptL L ⟨3, p, q, ⟨#[]⟩, -1⟩ ++ mvL L ⟨3, p, q, ⟨#[]⟩, -1⟩ 9) := by rw [hRdef]; exact insAll_perm _ _
  generalize chdR L ⟨3, p, q, ⟨#[]⟩, -1⟩ 9 = R at *
  have hkin : ∀ y ∈ keptL L ⟨3, p, q, ⟨#[]⟩, -1⟩, isInB y.path.data.toList q.data.toList = false := fun y hy => hnq y (mem_keptL.1 hy).1
  have hmin : ∀ y ∈ mvL L ⟨3, p, q, ⟨#[]⟩, -1⟩ 9, isInB y.path.data.toList q.data.toList = true := fun y hy => by
    obtain ⟨e, he, rfl⟩ := List.mem_map.1 hy
    exact mvT_in (mem_goL.1 he).2
  have hkf : (keptL L ⟨3, p, q, ⟨#[]⟩, -1⟩).filter (fun e => !wi q.data.toList e) = keptL L ⟨3, p, q, ⟨#[]⟩, -1⟩ := List.filter_eq_self.2 fun y hy => by
    rw [wi, hkin y hy]; rfl
  have hmf : (mvL L ⟨3, p, q, ⟨#[]⟩, -1⟩ 9).filter (fun e => !wi q.data.toList e) = [] := List.filter_eq_nil_iff.2 fun y hy => by
    rw [wi, hmin y hy]; decide
  have hkg : (keptL L ⟨3, p, q, ⟨#[]⟩, -1⟩).filter (wi q.data.toList) = [] := List.filter_eq_nil_iff.2 fun y hy => by
    rw [wi, hkin y hy]; decide
  have hmg : (mvL L ⟨3, p, q, ⟨#[]⟩, -1⟩ 9).filter (wi q.data.toList) = mvL L ⟨3, p, q, ⟨#[]⟩, -1⟩ 9 := List.filter_eq_self.2 fun y hy => by
    rw [wi, hmin y hy]
  have hk2 : (keptL R ⟨3, q, p, ⟨#[]⟩, -1⟩).Perm (keptL L ⟨3, p, q, ⟨#[]⟩, -1⟩) := by
    have := hperm.filter (fun e => !wi q.data.toList e)
    rw [List.filter_append, hkf, hmf, List.append_nil] at this
    exact this
  have hg2 : (goL R ⟨3, q, p, ⟨#[]⟩, -1⟩).Perm (mvL L ⟨3, p, q, ⟨#[]⟩, -1⟩ 9) := by
    have := hperm.filter (wi q.data.toList)
    rw [List.filter_append, hkg, hmg, List.nil_append] at this
    exact this
  have hmemR : ∀ y, y ∈ R ↔ y ∈ keptL L ⟨3, p, q, ⟨#[]⟩, -1⟩ ∨ y ∈ mvL L ⟨3, p, q, ⟨#[]⟩, -1⟩ 9 := fun y => by rw [hperm.mem_iff, List.mem_append]
  have hRp : ∀ y ∈ R, y.path.data.toList ≠ p.data.toList := fun y hy e => by
    rcases (hmemR y).1 hy with h | h
    · have := (mem_keptL.1 h).2
      have e2 : isInB y.path.data.toList p.data.toList = true := by rw [e]; exact isIn_refl _
      rw [e2] at this; cases this
    · have := hmin y h
      rw [e, hpq] at this; cases this
  have hxR : mvd ⟨3, p, q, ⟨#[]⟩, -1⟩ 9 x0 ∈ R := (hmemR _).2 (Or.inr (List.mem_map.2 ⟨x0, mem_goL.2 ⟨hx0m, by rw [hx0p]; exact isIn_refl _⟩, rfl⟩))
  have hxRp : (mvd ⟨3, p, q, ⟨#[]⟩, -1⟩ 9 x0).path.data.toList = q.data.toList := by
    rw [path_mvd, mvP]
    exact (mvT_at (by rw [hx0p]; exact isIn_refl _)).2 hx0p
  have hfindq : R.find? (atB q.data.toList) = some (mvd ⟨3, p, q, ⟨#[]⟩, -1⟩ 9 x0) := by rw [← hxRp]; exact sorted_find hG.rise hxR
  have hfoldp : foldE R (par p.data.toList) = 0 := by
    by_cases hP : par p.data.toList = []
    · rw [hP]; exact fold_nil _
    have hpar := hL.pars x0 hx0m
    rw [hx0p] at hpar
    obtain ⟨z, hz, hzp, hzf, _⟩ := fold_zero hpar hP
    refine fold_mem hG.rise ((hmemR z).2 (Or.inl (mem_keptL.2 ⟨hz, ?_⟩))) hzp hzf
    cases hb : isInB z.path.data.toList p.data.toList with
    | false => rfl
    | true =>
      rw [hzp] at hb
      obtain ⟨s, hs⟩ := isIn_pre hb
      have h1 := congrArg List.length hs
      have h47 : 47 ∈ p.data.toList := Classical.byContradiction fun hn => hP (par_none hn)
      obtain ⟨a, b, hb47, e⟩ := last_split h47
      have h2 : par p.data.toList = a := by rw [e]; exact par_cut a hb47
      have h3 := congrArg List.length e
      rw [h2] at h1
      simp only [List.length_append, List.length_cons] at h1 h3
      omega
  have hplc2 : plcE R ⟨3, q, p, ⟨#[]⟩, -1⟩ = 0 := by
    have hgo : goal ⟨3, q, p, ⟨#[]⟩, -1⟩ = p.data.toList := rfl
    rw [plcE, if_neg (fun h => h (by rw [hgo]; exact hfoldp))]
    simp only [hfindq, hpq, find_none hRp]
    simp
  have hback : ∀ e ∈ goL L ⟨3, p, q, ⟨#[]⟩, -1⟩, mvd ⟨3, q, p, ⟨#[]⟩, -1⟩ 9 (mvd ⟨3, p, q, ⟨#[]⟩, -1⟩ 9 e) = bk p.data.toList e := fun e he => by
    have hin := (mem_goL.1 he).2
    have h1 : mvP ⟨3, q, p, ⟨#[]⟩, -1⟩ (mvd ⟨3, p, q, ⟨#[]⟩, -1⟩ 9 e) = e.path.data.toList := by
      rw [mvP, path_mvd, mvP]; exact mvT_back hin
    have h2 : ((mvd ⟨3, p, q, ⟨#[]⟩, -1⟩ 9 e).path.data.toList = q.data.toList) ↔ (e.path.data.toList = p.data.toList) := by
      rw [path_mvd, mvP]; exact mvT_at hin
    rw [mvd, h1, bk]
    have h3 : (⟨e.path.data.toList.toArray⟩ : ByteArray) = e.path := (bytes_eq rfl).symm
    rw [h3]
    by_cases hh : e.path.data.toList = p.data.toList
    · simp only [if_pos (h2.2 hh), if_pos hh]; rfl
    · simp only [if_neg (fun x => hh (h2.1 x)), if_neg hh]
      simp only [mvd, if_neg hh]
  have hcd2 : chdE R ⟨3, q, p, ⟨#[]⟩, -1⟩ 9 = 0 := by
    have hb2 : (goL R ⟨3, q, p, ⟨#[]⟩, -1⟩).any (fun e => big (mvP ⟨3, q, p, ⟨#[]⟩, -1⟩ e)) = false := List.any_eq_false.2 fun y hy => by
      obtain ⟨e, he, rfl⟩ := List.mem_map.1 (hg2.mem_iff.1 hy)
      have h1 : mvP ⟨3, q, p, ⟨#[]⟩, -1⟩ (mvd ⟨3, p, q, ⟨#[]⟩, -1⟩ 9 e) = e.path.data.toList := by
        rw [mvP, path_mvd, mvP]; exact mvT_back (mem_goL.1 he).2
      rw [h1, chk_not_big (entE_path (hL.ents e (mem_goL.1 he).1))]
      decide
    rw [chdE, if_neg (by simp), if_pos rfl, if_neg (by rw [hb2]; decide)]
  have happ2 : appE R ⟨3, q, p, ⟨#[]⟩, -1⟩ 9 = 0 := app_of hv (chg_mv hcq hcp) hplc2 (by rw [stl]; rfl) hcd2
  refine ⟨happ2, ?_⟩
  have hG2 := app_good hG happ2
  have hR2 : (chdR R ⟨3, q, p, ⟨#[]⟩, -1⟩ 9).Perm (keptL R ⟨3, q, p, ⟨#[]⟩, -1⟩ ++ mvL R ⟨3, q, p, ⟨#[]⟩, -1⟩ 9) := insAll_perm _ _
  have hkm : (keptL L ⟨3, p, q, ⟨#[]⟩, -1⟩).map (bk p.data.toList) = keptL L ⟨3, p, q, ⟨#[]⟩, -1⟩ := by
    have : ∀ y ∈ keptL L ⟨3, p, q, ⟨#[]⟩, -1⟩, bk p.data.toList y = y := fun y hy => by
      have hne : ¬ y.path.data.toList = p.data.toList := fun e => by
        have := (mem_keptL.1 hy).2
        have e2 : isInB y.path.data.toList p.data.toList = true := by rw [e]; exact isIn_refl _
        rw [e2] at this; cases this
      rw [bk, if_neg hne]
    rw [List.map_congr_left this, List.map_id']
  have hmm : (mvL L ⟨3, p, q, ⟨#[]⟩, -1⟩ 9).map (mvd ⟨3, q, p, ⟨#[]⟩, -1⟩ 9) = (goL L ⟨3, p, q, ⟨#[]⟩, -1⟩).map (bk p.data.toList) := by
    rw [mvL, List.map_map]
    exact List.map_congr_left hback
  have hp2 : (chdR R ⟨3, q, p, ⟨#[]⟩, -1⟩ 9).Perm (L.map (bk p.data.toList)) := by
    refine hR2.trans ?_
    have e1 : (mvL R ⟨3, q, p, ⟨#[]⟩, -1⟩ 9).Perm ((goL L ⟨3, p, q, ⟨#[]⟩, -1⟩).map (bk p.data.toList)) := by
      have := hg2.map (mvd ⟨3, q, p, ⟨#[]⟩, -1⟩ 9)
      rw [hmm] at this
      exact this
    refine (hk2.append e1).trans ?_
    have e2 : (keptL L ⟨3, p, q, ⟨#[]⟩, -1⟩ ++ goL L ⟨3, p, q, ⟨#[]⟩, -1⟩).Perm L := by
      have := List.filter_append_perm (fun e => !wi p.data.toList e) L
      have e1 : (List.filter (fun x => !(fun e => !wi p.data.toList e) x) L) = List.filter (wi p.data.toList) L := by congr 1; funext x; simp
      rw [e1] at this
      exact this
    have e3 := e2.map (bk p.data.toList)
    rw [List.map_append, hkm] at e3
    exact e3
  refine sorted_eq hp2 hG2.rise ?_
  rw [List.pairwise_map]
  exact hL.rise.imp fun {x y} hxy => (lt_paths (x := bk p.data.toList x) (x' := x) (y := bk p.data.toList y) (y' := y) rfl rfl).trans hxy
theorem ent_ver {e : En} (h : entE e = 0) : 1 ≤ e.ver := by
  rw [entE, if_pos (entE_path h)] at h
  split at h
  · cases h
  · split at h
    · cases h
    · rw [verE] at h
      split at h
      · cases h
      · omega
theorem back_wr {L : List En} (hL : Good L) {p t : ByteArray} (h : appE L ⟨2, p, ⟨#[]⟩, t, 0⟩ 9 = 0) :
    appE (chdR L ⟨2, p, ⟨#[]⟩, t, 0⟩ 9) ⟨4, p, ⟨#[]⟩, ⟨#[]⟩, 9⟩ 10 = 0 ∧ chdR (chdR L ⟨2, p, ⟨#[]⟩, t, 0⟩ 9) ⟨4, p, ⟨#[]⟩, ⟨#[]⟩, 9⟩ 10 = L := by
  obtain ⟨hv, hc, hpl, hst, hcd⟩ := app_parts h
  have hG := app_good hL h
  have hcp : chk p.data.toList = 0 := chg_path hc
  have hnone : ∀ e ∈ L, isInB e.path.data.toList p.data.toList = false := fun e he => by
    have h1 : L.any (stW p.data.toList 0) = false := hst
    have h2 := List.any_eq_false.1 h1 e he
    cases hb : isInB e.path.data.toList p.data.toList with
    | false => rfl
    | true =>
      have hver := ent_ver (hL.ents e he)
      have h3 : stW p.data.toList 0 e = true := by rw [stW, wi, hb]; simp; omega
      exact absurd h3 h2
  have hout : outE (newE ⟨2, p, ⟨#[]⟩, t, 0⟩ 9) L = L := by
    rw [outE, List.filter_eq_self]
    intro y hy
    have hne : ¬ y.path.data.toList = p.data.toList := fun e => by
      have := hnone y hy
      rw [e, isIn_refl] at this; cases this
    have : atB (newE ⟨2, p, ⟨#[]⟩, t, 0⟩ 9).path.data.toList y = false := by rw [atB]; exact beq_eq_false_iff_ne.2 hne
    rw [this]; rfl
  have hR : chdR L ⟨2, p, ⟨#[]⟩, t, 0⟩ 9 = ins (newE ⟨2, p, ⟨#[]⟩, t, 0⟩ 9) L := by
    rw [chdR, if_pos (Or.inr rfl), hout]
  have hperm : (chdR L ⟨2, p, ⟨#[]⟩, t, 0⟩ 9).Perm (newE ⟨2, p, ⟨#[]⟩, t, 0⟩ 9 :: L) := by rw [hR]; exact ins_perm _ _
  generalize chdR L ⟨2, p, ⟨#[]⟩, t, 0⟩ 9 = R at *
  have hxR : newE ⟨2, p, ⟨#[]⟩, t, 0⟩ 9 ∈ R := hperm.mem_iff.2 (by simp)
  have hxp : (newE ⟨2, p, ⟨#[]⟩, t, 0⟩ 9).path.data.toList = p.data.toList := rfl
  have hwx : wi p.data.toList (newE ⟨2, p, ⟨#[]⟩, t, 0⟩ 9) = true := by rw [wi, hxp]; exact isIn_refl _
  have hfind : R.find? (atB p.data.toList) = some (newE ⟨2, p, ⟨#[]⟩, t, 0⟩ 9) := by rw [← hxp]; exact sorted_find hG.rise hxR
  have hfold : foldE R (par p.data.toList) = 0 := hG.pars _ hxR
  have hch2 : chgE ⟨4, p, ⟨#[]⟩, ⟨#[]⟩, 9⟩ = 0 := by simp [chgE, hcp]; decide
  have hplc2 : plcE R ⟨4, p, ⟨#[]⟩, ⟨#[]⟩, 9⟩ = 0 := by
    have hgo : goal ⟨4, p, ⟨#[]⟩, ⟨#[]⟩, 9⟩ = p.data.toList := rfl
    rw [plcE, if_neg (fun h => h (by rw [hgo]; exact hfold))]
    simp only [hfind]
    simp
  have hst2 : stl R ⟨4, p, ⟨#[]⟩, ⟨#[]⟩, 9⟩ = false := by
    rw [stl, List.any_eq_false.2]
    · simp
    · intro e he
      rcases List.mem_cons.1 (hperm.mem_iff.1 he) with rfl | he
      · rw [stW]; simp [newE]
      · rw [stW, wi, hnone e he]; simp
  have happ2 : appE R ⟨4, p, ⟨#[]⟩, ⟨#[]⟩, 9⟩ 10 = 0 := app_of (by decide) hch2 hplc2 hst2 (by rw [chdE, if_neg (by simp), if_neg (by simp)])
  refine ⟨happ2, ?_⟩
  have hk : chdR R ⟨4, p, ⟨#[]⟩, ⟨#[]⟩, 9⟩ 10 = keptL R ⟨4, p, ⟨#[]⟩, ⟨#[]⟩, 9⟩ := by rw [chdR, if_neg (by simp), if_neg (by simp)]
  rw [hk]
  refine sorted_eq ?_ (List.Pairwise.filter _ hG.rise) hL.rise
  have h1 := hperm.filter (fun e => !wi p.data.toList e)
  have h2 : (newE ⟨2, p, ⟨#[]⟩, t, 0⟩ 9 :: L).filter (fun e => !wi p.data.toList e) = L := by
    rw [List.filter_cons, hwx]
    simp only [Bool.not_true, Bool.false_eq_true, if_false]
    exact List.filter_eq_self.2 fun y hy => by rw [wi, hnone y hy]; rfl
  rw [h2] at h1
  exact h1
end Go.Proofs.Ytfimahemchacfac.Pp
