/- Who works out what parts a tree from another one has that one, as plain mathematics. When delta.Same says yes. What the law TreeGoes says, as plain mathematics. -/
import Derived.Test.YtflekhcmipmelaaGreatDoorPT
import Derived.Test.YtflekhcmipmelaaGreatDoorMA
import Derived.Test.YtflekhcmipmelaaGreatDoorD12a
import Derived.Test.YtflekhcmipmelaaGreatDoorPL
set_option linter.unusedSimpArgs false
set_option linter.unusedVariables false
namespace Go.Proofs.YtflekhcmipmelaaGreatDoor
open Go.RowKit

namespace Sp
theorem len_le {α : Type} [DecidableEq α] : ∀ {l M : List α}, l.Nodup → (∀ x ∈ l, x ∈ M) → l.length ≤ M.length
  | [], M, _, _ => Nat.zero_le _
  | a :: r, M, hn, hs => by
    rw [List.nodup_cons] at hn
    have ha := hs a (by simp)
    have h1 : r.length ≤ (M.erase a).length := len_le hn.2 fun x hx => (List.mem_erase_of_ne (by rintro rfl; exact hn.1 hx)).2 (hs x (by simp [hx]))
    have h2 := List.length_erase_of_mem ha
    have h3 : 0 < M.length := List.length_pos_of_mem ha
    rw [List.length_cons]
    omega
theorem del_chg {e : En} (h : Pp.chk e.path.data.toList = 0) : Pp.chgE (delC e) = 0 := by
  rw [delC, Pp.chgE, if_neg (show ¬ ((4 : Int) < 1 ∨ 4 < (4 : Int)) by decide), if_neg (fun x => x h), if_neg (fun x => absurd (show (4 : Int) = 3 from x.1) (by decide)), if_neg (by simp), if_neg (show ¬ 300 < (⟨#[]⟩ : ByteArray).size by decide), if_neg (show ¬ ((-1 : Int) < -1 ∨ 1000000 < (-1 : Int)) by decide)]
theorem stl_any {L : List En} {c : Pp.Ch} (h : c.b = -1) : Pp.stl L c = false := by rw [Pp.stl, h]; rfl
theorem del_app {L : List En} (hL : Pp.Good L) {e : En} (he : e ∈ L) {n : Int} (hv : Pp.verE n = 0) : Pp.appE L (delC e) n = 0 ∧ Pp.chdR L (delC e) n = L.filter (fun x => !Pp.wi e.path.data.toList x) := by
  have h1 := del_chg (Pp.entE_path (hL.ents e he))
  have h2 : Pp.plcE L (delC e) = 0 := by
    have hg : Pp.goal (delC e) = e.path.data.toList := rfl
    rw [Pp.plcE, hg, if_neg (fun x => x (hL.pars e he))]
    show (match L.find? (Pp.atB e.path.data.toList) with | none => _ | some x => _) = _
    rw [Pp.sorted_find hL.rise he]
    rfl
  refine ⟨?_, rfl⟩
  rw [Pp.appE, if_neg (fun x => x hv), if_neg (fun x => x h1), if_neg (fun x => x h2), if_neg (by rw [stl_any rfl]; decide)]
  rfl
theorem runs_dels {A B : List En} (hA : Pp.Good A) (hB : Pp.Good B) {n : Int} (hv : Pp.verE n = 0) : ∀ k, k ≤ A.length → Pp.Runs n A (dels (A.take k) B) (stay A B k) := by
  intro k
  induction k with
  | zero => intro _; rw [stay_zero]; exact Pp.runs_nil n A
  | succ k ih =>
    intro hk
    have hlt : k < A.length := by omega
    cases hg : goes B A[k] with
    | false => rw [dels_miss hlt hg, stay_miss hlt hg]; exact ih (by omega)
    | true =>
      have hm : A[k] ∈ stay A B k := (stay_mem hA hB hlt).2 (by
        rw [goes] at hg
        exact (Bool.and_eq_true_iff.1 hg).2)
      obtain ⟨h1, h2⟩ := del_app (stay_good (B := B) hA k) hm hv
      rw [dels_hit hlt hg, stay_hit hlt hg, ← h2]
      exact Pp.runs_snoc h1 (ih (by omega))
/-- What stays is at a path of the other tree, and of its kind. -/
theorem stay_in {A B : List En} (hA : Pp.Good A) (hB : Pp.Good B) {t : En} (ht : t ∈ stay A B A.length) : ∃ b ∈ B, b.path.data.toList = t.path.data.toList ∧ b.folder = t.folder := by
  obtain ⟨h1, h2⟩ := List.mem_filter.1 ht
  rw [List.take_length] at h2
  have hno : inB (A.filter (goes B)) t = false := by simpa using h2
  have hg : goes B t = false := by
    cases hg : goes B t with
    | false => rfl
    | true =>
      have := inB_iff.2 ⟨t, List.mem_filter.2 ⟨h1, hg⟩, Pp.isIn_refl _⟩
      rw [hno] at this; cases this
  obtain ⟨i, hi, rfl⟩ := List.getElem_of_mem h1
  have hp : hasP B A[i].path.data.toList = true := by
    cases hp : hasP B A[i].path.data.toList with
    | true => rfl
    | false =>
      have h3 := gone hA hB hi
      rw [hp, Bool.not_false] at h3
      obtain ⟨d, hd, hdi⟩ := inB_iff.1 h3
      obtain ⟨hd1, hd2⟩ := List.mem_filter.1 hd
      have := inB_iff.2 ⟨d, List.mem_filter.2 ⟨List.mem_of_mem_take hd1, hd2⟩, hdi⟩
      rw [hno] at this; cases this
  rw [goes_eq hp] at hg
  have hw : wh A[i] = wAt B A[i].path.data.toList := by simpa using hg
  obtain ⟨x, _, hx, hxp, hxf⟩ := wAt_some hw
  exact ⟨x, hx, hxp, hxf⟩
/-- How it stands behind the first makes. -/
structure Mid (A B : List En) (n : Int) (m : Nat) (T : List En) : Prop where
  runs : Pp.Runs n A (dels A B ++ mks A (B.take m)) T
  good : Pp.Good T
  kin : ∀ t ∈ T, ∃ b ∈ B, b.path.data.toList = t.path.data.toList ∧ b.folder = t.folder
  done : ∀ j (h : j < B.length), j < m → ∃ t ∈ T, likeE t B[j] = true
  rest : ∀ j (h : j < B.length), m ≤ j → ∀ x : En, x.path.data.toList = B[j].path.data.toList → (x ∈ T ↔ x ∈ stay A B A.length)
theorem mid_zero {A B : List En} (hA : Pp.Good A) (hB : Pp.Good B) {n : Int} (hv : Pp.verE n = 0) : Mid A B n 0 (stay A B A.length) := by
  refine ⟨?_, stay_good hA _, fun t ht => stay_in hA hB ht, fun j _ h => absurd h (Nat.not_lt_zero _), fun _ _ _ _ _ => Iff.rfl⟩
  have h := runs_dels hA hB hv A.length (Nat.le_refl _)
  rw [List.take_length] at h
  have e : mks A (B.take 0) = [] := rfl
  rw [e, List.append_nil]
  exact h
theorem mk_chg {b : En} (h : Pp.entE b = 0) : Pp.chgE (mkC b) = 0 := by
  have hc := Pp.entE_path h
  have h300 : b.text.size ≤ 300 := by
    rw [Pp.entE, if_pos hc] at h
    split at h
    · cases h
    · split at h
      · cases h
      · omega
  rw [mkC]
  by_cases hf : b.folder = true
  · rw [if_pos hf, Pp.chgE, if_neg (show ¬ ((1 : Int) < 1 ∨ 4 < (1 : Int)) by decide), if_neg (fun x => x hc), if_neg (fun x => absurd (show (1 : Int) = 3 from x.1) (by decide)), if_neg (by simp), if_neg (show ¬ 300 < (⟨#[]⟩ : ByteArray).size by decide), if_neg (show ¬ ((-1 : Int) < -1 ∨ 1000000 < (-1 : Int)) by decide)]
  · rw [if_neg hf, Pp.chgE, if_neg (show ¬ ((2 : Int) < 1 ∨ 4 < (2 : Int)) by decide), if_neg (fun x => x hc), if_neg (fun x => absurd (show (2 : Int) = 3 from x.1) (by decide)), if_neg (by simp), if_neg (show ¬ 300 < b.text.size by omega), if_neg (show ¬ ((-1 : Int) < -1 ∨ 1000000 < (-1 : Int)) by decide)]
theorem mkC_p (b : En) : (mkC b).p = b.path := by rw [mkC]; split <;> rfl
theorem mkC_b (b : En) : (mkC b).b = -1 := by rw [mkC]; split <;> rfl
theorem mkC_k (b : En) : (b.folder = true ∧ (mkC b).k = 1) ∨ (b.folder = false ∧ (mkC b).k = 2) := by
  rw [mkC]
  cases b.folder <;> simp
theorem new_like {b : En} (h : Pp.entE b = 0) (n : Int) : likeE (Pp.newE (mkC b) n) b = true ∧ (Pp.newE (mkC b) n).path.data.toList = b.path.data.toList ∧ (Pp.newE (mkC b) n).folder = b.folder := by
  have h1 : (Pp.newE (mkC b) n).folder = b.folder := by
    rcases mkC_k b with ⟨e1, e2⟩ | ⟨e1, e2⟩
    · show decide ((mkC b).k = 1) = _; rw [e1, e2]; rfl
    · show decide ((mkC b).k = 1) = _; rw [e1, e2]; rfl
  have h2 : (Pp.newE (mkC b) n).path = b.path := mkC_p b
  have h3 : (Pp.newE (mkC b) n).text = b.text := by
    show (mkC b).t = _
    rw [mkC_good h]
  exact ⟨likeE_iff.2 ⟨by rw [h2], h1, by rw [h3]⟩, by rw [h2], h1⟩
theorem mid_next {A B : List En} (hA : Pp.Good A) (hB : Pp.Good B) {n : Int} (hv : Pp.verE n = 0) {m : Nat} (hm : m < B.length) {T : List En} (h : Mid A B n m T) : ∃ T', Mid A B n (m + 1) T' := by
  have hb : B[m] ∈ B := List.getElem_mem hm
  obtain ⟨s1, s2⟩ := stay_at hA hB hb
  have aS := apart_rise (stay_good (B := B) hA A.length).rise
  have aB := apart_rise hB.rise
  have apj : ∀ j (hj : j < B.length), j ≠ m → B[j].path.data.toList ≠ B[m].path.data.toList := fun j hj hne e => by
    have := aB
    rw [Apart, List.pairwise_iff_getElem] at this
    rcases Nat.lt_or_gt_of_ne hne with h1 | h1
    · exact this j m hj hm h1 e
    · exact this m j hm hj h1 e.symm
  cases hn : newB A B[m] with
  | false =>
    refine ⟨T, by rw [mks_miss hm hn]; exact h.runs, h.good, h.kin, fun j hj hjm => ?_, fun j hj hjm => h.rest j hj (by omega)⟩
    by_cases e : j = m
    · subst e
      cases hs : at_ (stay A B A.length) B[j].path.data.toList with
      | none => rw [newB_none (s2 hs)] at hn; cases hn
      | some x =>
        obtain ⟨h1, h2⟩ := s1 x hs
        obtain ⟨h3, h4⟩ := at_mem hs
        rw [newB_some h1 h2] at hn
        refine ⟨x, (h.rest j hj (Nat.le_refl _) x h4).2 h3, likeE_iff.2 ⟨h4, h2, ?_⟩⟩
        cases hf : B[j].folder with
        | true => rw [entE_text (hA.ents x (at_mem h1).1) (h2.trans hf), entE_text (hB.ents _ hb) hf]
        | false =>
          rw [hf] at hn
          have : x.text.toList = B[j].text.toList := by simpa using hn
          rwa [Lib.toList_data, Lib.toList_data] at this
    · exact h.done j hj (by omega)
  | true =>
    obtain ⟨l1, l2, l3⟩ := new_like (hB.ents _ hb) n
    -- what is there
    have hat : ∀ x, x ∈ T → x.path.data.toList = B[m].path.data.toList → x.folder = B[m].folder ∧ B[m].folder = false := fun x hx hxp => by
      have h1 := (h.rest m hm (Nat.le_refl _) x hxp).1 hx
      have h2 := at_self aS h1
      rw [hxp] at h2
      obtain ⟨h3, h4⟩ := s1 x h2
      rw [newB_some h3 h4] at hn
      refine ⟨h4, ?_⟩
      cases hf : B[m].folder with
      | false => rfl
      | true => rw [hf] at hn; simp at hn
    have hchg := mk_chg (hB.ents _ hb)
    have hgoal : Pp.goal (mkC B[m]) = B[m].path.data.toList := by
      rw [Pp.goal, if_neg (by rcases mkC_k B[m] with ⟨_, e⟩ | ⟨_, e⟩ <;> rw [e] <;> decide), mkC_p]
    have hfold : Pp.foldE T (Pp.par B[m].path.data.toList) = 0 := by
      by_cases hp : Pp.par B[m].path.data.toList = []
      · rw [hp]; exact Pp.fold_nil _
      · obtain ⟨x, hx, hxp, hxf, _⟩ := Pp.fold_zero (hB.pars _ hb) hp
        have hin : Pp.isInB B[m].path.data.toList x.path.data.toList = true := by
          rw [hxp]; exact Pp.par_in (Pp.isIn_refl _) hp
        have hne : B[m].path.data.toList ≠ x.path.data.toList := fun e => by
          have h1 := par_lt hp
          rw [← hxp, ← e] at h1
          omega
        have hxt := mem_take hm hB.rise hx (lt_in hin hne)
        obtain ⟨j, hj, rfl⟩ := List.mem_take_iff_getElem.1 hxt
        obtain ⟨t, ht, hl⟩ := h.done j (by omega) (by omega)
        obtain ⟨k1, k2, _⟩ := likeE_iff.1 hl
        exact Pp.fold_mem h.good.rise ht (k1.trans hxp) (k2.trans hxf)
    have hplc : Pp.plcE T (mkC B[m]) = 0 := by
      rw [Pp.plcE, hgoal, if_neg (fun x => x hfold), mkC_p]
      cases hf : T.find? (Pp.atB B[m].path.data.toList) with
      | none =>
        simp only
        rw [if_neg (by rcases mkC_k B[m] with ⟨_, e⟩ | ⟨_, e⟩ <;> rw [e] <;> decide)]
      | some x =>
        obtain ⟨k1, k2⟩ := at_mem (L := T) hf
        obtain ⟨k3, k4⟩ := hat x k1 k2
        rcases mkC_k B[m] with ⟨e, _⟩ | ⟨_, e⟩
        · rw [k4] at e; cases e
        · simp only
          rw [e, if_neg (by decide), if_pos rfl, if_neg (by rw [k3, k4]; decide)]
    have hk12 : (mkC B[m]).k = 1 ∨ (mkC B[m]).k = 2 := by rcases mkC_k B[m] with ⟨_, e⟩ | ⟨_, e⟩ <;> simp [e]
    have hroom : ¬ 60 < (Pp.outE (Pp.newE (mkC B[m]) n) T).length + 1 := by
      have hle : (B[m].path.data.toList :: (Pp.outE (Pp.newE (mkC B[m]) n) T).map (fun e => e.path.data.toList)).length ≤ (B.map (fun e => e.path.data.toList)).length := by
        refine len_le ?_ ?_
        · rw [List.nodup_cons]
          refine ⟨fun hmem => ?_, ?_⟩
          · obtain ⟨y, hy, hyp⟩ := List.mem_map.1 hmem
            exact (Pp.mem_outE.1 hy).2 (hyp.trans l2.symm)
          · have := (apart_rise h.good.rise).filter (fun e => !Pp.atB (Pp.newE (mkC B[m]) n).path.data.toList e)
            exact List.pairwise_map.2 this
        · intro x hx
          rcases List.mem_cons.1 hx with e | hx
          · rw [e]; exact List.mem_map.2 ⟨_, hb, rfl⟩
          · obtain ⟨y, hy, rfl⟩ := List.mem_map.1 hx
            obtain ⟨b, hb2, hbp, _⟩ := h.kin y (Pp.mem_outE.1 hy).1
            exact List.mem_map.2 ⟨b, hb2, hbp⟩
      rw [List.length_cons, List.length_map, List.length_map] at hle
      have := hB.len
      omega
    have happ : Pp.appE T (mkC B[m]) n = 0 := by
      rw [Pp.appE, if_neg (fun x => x hv), if_neg (fun x => x hchg), if_neg (fun x => x hplc), if_neg (by rw [stl_any (mkC_b _)]; decide), Pp.chdE, if_pos hk12, if_neg hroom]
    have hR : Pp.chdR T (mkC B[m]) n = Pp.ins (Pp.newE (mkC B[m]) n) (Pp.outE (Pp.newE (mkC B[m]) n) T) := by rw [Pp.chdR, if_pos hk12]
    have hmem : ∀ y, y ∈ Pp.chdR T (mkC B[m]) n ↔ y = Pp.newE (mkC B[m]) n ∨ (y ∈ T ∧ y.path.data.toList ≠ B[m].path.data.toList) := fun y => by
      rw [hR, (Pp.ins_perm _ _).mem_iff, List.mem_cons, Pp.mem_outE, l2]
    refine ⟨Pp.chdR T (mkC B[m]) n, ?_, Pp.app_good h.good happ, fun t ht => ?_, fun j hj hjm => ?_, fun j hj hjm x hxp => ?_⟩
    · rw [mks_hit hm hn, ← List.append_assoc]
      exact Pp.runs_snoc happ h.runs
    · rcases (hmem t).1 ht with e | ⟨e, _⟩
      · subst e; exact ⟨_, hb, l2.symm, l3.symm⟩
      · exact h.kin t e
    · by_cases e : j = m
      · subst e; exact ⟨_, (hmem _).2 (Or.inl rfl), l1⟩
      · obtain ⟨t, ht, hl⟩ := h.done j hj (by omega)
        exact ⟨t, (hmem t).2 (Or.inr ⟨ht, by rw [(likeE_iff.1 hl).1]; exact apj j hj e⟩), hl⟩
    · have hne : x.path.data.toList ≠ B[m].path.data.toList := by rw [hxp]; exact apj j hj (by omega)
      rw [← h.rest j hj (by omega) x hxp, hmem]
      constructor
      · rintro (e | e)
        · exact absurd (by rw [e]; exact l2) hne
        · exact e.1
      · exact fun e => Or.inr ⟨e, hne⟩
theorem mid_all {A B : List En} (hA : Pp.Good A) (hB : Pp.Good B) {n : Int} (hv : Pp.verE n = 0) : ∀ m, m ≤ B.length → ∃ T, Mid A B n m T := by
  intro m
  induction m with
  | zero => intro _; exact ⟨_, mid_zero hA hB hv⟩
  | succ m ih =>
    intro hm
    obtain ⟨T, hT⟩ := ih (by omega)
    exact mid_next hA hB hv (by omega) hT
/-- All changes made: a tree like the other one. -/
theorem back {A B : List En} (hA : Pp.Good A) (hB : Pp.Good B) {n : Int} (hv : Pp.verE n = 0) : ∃ T, Pp.Runs n A (dels A B ++ mks A B) T ∧ Pp.Good T ∧ likeP T B := by
  obtain ⟨T, h⟩ := mid_all hA hB hv B.length (Nat.le_refl _)
  have hr := h.runs
  rw [List.take_length] at hr
  have hpe : T.map (fun e => e.path.data.toList) = B.map (fun e => e.path.data.toList) := by
    refine rise_eq (rise_map h.good.rise) (rise_map hB.rise) fun x => ⟨fun hx => ?_, fun hx => ?_⟩
    · obtain ⟨e, he, rfl⟩ := List.mem_map.1 hx
      obtain ⟨b, hb, hbp, _⟩ := h.kin e he
      exact List.mem_map.2 ⟨b, hb, hbp⟩
    · obtain ⟨e, he, rfl⟩ := List.mem_map.1 hx
      obtain ⟨j, hj, rfl⟩ := List.getElem_of_mem he
      obtain ⟨t, ht, hl⟩ := h.done j hj hj
      exact List.mem_map.2 ⟨t, ht, (likeE_iff.1 hl).1⟩
  refine ⟨T, hr, h.good, by simpa using congrArg List.length hpe, fun j hj hj2 => ?_⟩
  have hp : T[j].path.data.toList = B[j].path.data.toList := by
    have := congrArg (fun l => l[j]?) hpe
    simpa [hj, hj2] using this
  obtain ⟨t, ht, hl⟩ := h.done j hj2 hj2
  have : t = T[j] := h.good.uniq ht (List.getElem_mem hj) ((likeE_iff.1 hl).1.trans hp.symm)
  rw [← this]
  exact hl
end Sp
end Go.Proofs.YtflekhcmipmelaaGreatDoor
set_option linter.unusedSimpArgs false
set_option linter.unusedVariables false
namespace Go.Proofs.YtflekhcmipmelaaGreatDoor
open Go.RowKit

theorem Sp.sameB_no {A B : List En} (h : ¬ Sp.dfE A B = 0) : Sp.sameB A B = false := by
  have : (Sp.dfE A B == 0) = false := by simpa using h
  rw [Sp.sameB, this]; rfl
theorem Sp.sameB_iff {A B : List En} (h : Sp.dfE A B = 0) : Sp.sameB A B = true ↔ Sp.likeP A B := by
  have hab : Pp.treeE A = 0 ∧ Pp.treeE B = 0 := by
    by_cases ha : Pp.treeE A = 0
    · rw [Sp.dfE, if_pos ha] at h; exact ⟨ha, h⟩
    · rw [Sp.dfE, if_neg ha] at h; exact absurd h ha
  rw [← Sp.none_like ((Pp.good_iff A).1 hab.1) ((Pp.good_iff B).1 hab.2), Sp.sameB, Sp.dfL, if_pos h, h]
  simp
end Go.Proofs.YtflekhcmipmelaaGreatDoor
set_option linter.unusedSimpArgs false
set_option linter.unusedVariables false
namespace Go.Proofs.YtflekhcmipmelaaGreatDoor.Pp

theorem app_parts {L : List En} {c : Ch} {n : Int} (h : appE L c n = 0) : verE n = 0 ∧ chgE c = 0 ∧ plcE L c = 0 ∧ stl L c = false ∧ chdE L c n = 0 := by
  have hv : verE n = 0 := by
    by_cases h1 : verE n = 0
    · exact h1
    · rw [app_ver h1] at h; exact h
  have hc : chgE c = 0 := by
    by_cases h1 : chgE c = 0
    · exact h1
    · rw [app_chg hv h1] at h; exact h
  have hp : plcE L c = 0 := by
    by_cases h1 : plcE L c = 0
    · exact h1
    · rw [app_plc hv hc h1] at h; exact h
  cases hs : stl L c with
  | true => rw [app_stl hv hc hp hs] at h; cases h
  | false => exact ⟨hv, hc, hp, rfl, by rw [app_chd hv hc hp hs] at h; exact h⟩
/-- All else is there as it was, but what the change is about. -/
theorem else_kept {L : List En} {c : Ch} {n : Int} (hk : 1 ≤ c.k ∧ c.k ≤ 4) {x : En} (hx : x ∈ L) (h1 : isInB x.path.data.toList c.p.data.toList = false) : x ∈ chdR L c n := by
  rw [chdR]
  split
  · rw [(ins_perm _ _).mem_iff, List.mem_cons]
    refine Or.inr (mem_outE.2 ⟨hx, fun e => ?_⟩)
    have e' : x.path.data.toList = c.p.data.toList := e
    rw [e', isIn_refl] at h1; cases h1
  · split
    · rw [(insAll_perm _ _).mem_iff, List.mem_append]
      exact Or.inl (mem_keptL.2 ⟨hx, h1⟩)
    · exact mem_keptL.2 ⟨hx, h1⟩
theorem good_sized {R : List En} (hR : Good R) : Sized R := fun e he => by
  have h1 := chk_len (entE_path (hR.ents e he))
  have h2 := hR.ents e he
  refine ⟨by rw [Lib.size_eq]; omega, ?_⟩
  rw [entE, if_pos (entE_path h2)] at h2
  split at h2
  · cases h2
  · split at h2
    · cases h2
    · omega
theorem written {L : List En} {c : Ch} {n : Int} (h2 : c.k = 2) : newE c n ∈ chdR L c n := by
  rw [chdR, if_pos (Or.inr h2), (ins_perm _ _).mem_iff]; simp
end Go.Proofs.YtflekhcmipmelaaGreatDoor.Pp
