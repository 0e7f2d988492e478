/- What a client asks for, made on what it knows, comes to what it shows: as plain mathematics. -/
import Derived.Test.YtflekhcmipmelaaGreatDoorC17
import Derived.Test.YtflekhcmipmelaaGreatDoorPU
import Derived.Test.YtflekhcmipmelaaGreatDoorMA
set_option linter.unusedSimpArgs false
set_option linter.unusedVariables false
namespace Go.Proofs.YtflekhcmipmelaaGreatDoor
open Go.RowKit

namespace Cy
/-- A change that makes or writes. -/
def mkK (c : Pp.Ch) : Prop := c.k = 1 ∨ c.k = 2
/-- What is made ahead does not lie within what is changed later. -/
def Apt (c d : Pp.Ch) : Prop := mkK c → Pp.isInB c.p.data.toList d.p.data.toList = false
theorem chg_setB {b : Int} {c : Pp.Ch} (hb : -1 ≤ b ∧ b ≤ 1000000) (hc : c.b = -1) : Pp.chgE (setB b c) = Pp.chgE c := by
  have h1 : ¬ ((setB b c).b < -1 ∨ 1000000 < (setB b c).b) := by show ¬ (b < -1 ∨ 1000000 < b); omega
  have h2 : ¬ (c.b < -1 ∨ 1000000 < c.b) := by rw [hc]; omega
  unfold Pp.chgE
  rw [if_neg h1, if_neg h2]
  rfl
theorem stl_setB {b : Int} {c : Pp.Ch} {T : List En} (h : ∀ e ∈ T, Pp.wi c.p.data.toList e = true → e.ver ≤ b) : Pp.stl T (setB b c) = false := by
  unfold Pp.stl
  have : T.any (Pp.stW (setB b c).p.data.toList (setB b c).b) = false := by
    rw [List.any_eq_false]
    intro e he
    show ¬ (decide (b < e.ver) && Pp.wi c.p.data.toList e) = true
    intro hx
    rw [Bool.and_eq_true, decide_eq_true_eq] at hx
    have := h e he hx.2
    omega
  rw [this, Bool.and_false]
theorem app_setB {b n : Int} {c : Pp.Ch} {T : List En} (hb : -1 ≤ b ∧ b ≤ 1000000) (hc : c.b = -1) (h : ∀ e ∈ T, Pp.wi c.p.data.toList e = true → e.ver ≤ b) : Pp.appE T (setB b c) n = Pp.appE T c n := by
  unfold Pp.appE
  rw [chg_setB hb hc, stl_setB h, Sp.stl_any hc]
  rfl
theorem chd_mem {n : Int} {c : Pp.Ch} {T : List En} (hk : mkK c ∨ c.k = 4) {e : En} (he : e ∈ Pp.chdR T c n) : e ∈ T ∨ (mkK c ∧ e.path.data.toList = c.p.data.toList) := by
  rcases hk with h | h
  · rw [Pp.chdR, if_pos (show c.k = 1 ∨ c.k = 2 from h), (Pp.ins_perm _ _).mem_iff, List.mem_cons, Pp.mem_outE] at he
    rcases he with rfl | ⟨h1, _⟩
    · exact Or.inr ⟨h, rfl⟩
    · exact Or.inl h1
  · rw [Pp.chdR, if_neg (by rw [h]; decide), if_neg (by rw [h]; decide)] at he
    exact Or.inl (List.mem_filter.1 he).1
/-- By the base that is told it goes as by none. -/
theorem run_setB {b n : Int} (hb : -1 ≤ b ∧ b ≤ 1000000) : ∀ (l : List Pp.Ch) (T : List En) (M : List Pp.Ch), (∀ e ∈ T, e.ver ≤ b ∨ ∃ c ∈ M, mkK c ∧ e.path.data.toList = c.p.data.toList) → (∀ c ∈ M, ∀ d ∈ l, Apt c d) → l.Pairwise Apt → (∀ c ∈ l, c.b = -1 ∧ (mkK c ∨ c.k = 4)) → Pp.runF n T (l.map (setB b)) = Pp.runF n T l
  | [], T, M, _, _, _, _ => rfl
  | c :: r, T, M, hT, hM, hP, hK => by
    obtain ⟨hcb, hck⟩ := hK c (by simp)
    have hst : ∀ e ∈ T, Pp.wi c.p.data.toList e = true → e.ver ≤ b := fun e he hw => by
      rcases hT e he with h | ⟨d, hd, hdk, hdp⟩
      · exact h
      · have := hM d hd c (by simp) hdk
        rw [← hdp] at this
        rw [Pp.wi, this] at hw; cases hw
    rw [List.pairwise_cons] at hP
    show Pp.runF n T (setB b c :: r.map (setB b)) = _
    rw [Pp.runF, Pp.runF, app_setB hb hcb hst]
    have hR : Pp.chdR T (setB b c) n = Pp.chdR T c n := rfl
    rw [hR, run_setB hb r (Pp.chdR T c n) (c :: M) (fun e he => by
      rcases chd_mem hck he with h | ⟨h1, h2⟩
      · rcases hT e h with h | ⟨d, hd, h3⟩
        · exact Or.inl h
        · exact Or.inr ⟨d, by simp [hd], h3⟩
      · exact Or.inr ⟨c, by simp, h1, h2⟩) (fun d hd x hx => by
      rcases List.mem_cons.1 hd with rfl | hd
      · exact hP.1 x hx
      · exact hM d hd x (by simp [hx])) hP.2 (fun x hx => hK x (by simp [hx]))]
theorem df_apt {A B : List En} (hB : Pp.Good B) : (Sp.dels A B ++ Sp.mks A B).Pairwise Apt := by
  rw [List.pairwise_append]
  refine ⟨?_, ?_, ?_⟩
  · rw [Sp.dels, List.pairwise_map]
    exact List.Pairwise.imp (R := fun _ _ => True) (fun _ hk => absurd hk (by rintro (h | h) <;> exact absurd (show (4 : Int) = _ from h) (by decide))) (List.pairwise_of_forall (fun _ _ => trivial))
  · rw [Sp.mks, List.pairwise_map]
    refine List.Pairwise.imp (fun {x y} hxy _ => ?_) (hB.rise.filter (Sp.newB A))
    rw [Sp.mkC_p, Sp.mkC_p]
    cases hi : Pp.isInB x.path.data.toList y.path.data.toList with
    | false => rfl
    | true =>
      have hne : x.path.data.toList ≠ y.path.data.toList := Pp.lt_dif hxy
      have := Sp.lt_in hi hne
      rw [Pp.lt, Lib.toList_data, Lib.toList_data, bytesLess_eq, decide_eq_true_eq] at this hxy
      exact absurd (List.lt_trans this hxy) (List.lt_irrefl _)
  · intro c hc d _ hk
    rw [Sp.dels] at hc
    obtain ⟨e, _, rfl⟩ := List.mem_map.1 hc
    exact absurd hk (by rintro (h | h) <;> exact absurd (show (4 : Int) = _ from h) (by decide))
theorem df_kind {A B : List En} : ∀ c ∈ Sp.dels A B ++ Sp.mks A B, c.b = -1 ∧ (mkK c ∨ c.k = 4) := by
  intro c hc
  rcases List.mem_append.1 hc with h | h
  · obtain ⟨e, _, rfl⟩ := List.mem_map.1 h
    exact ⟨rfl, Or.inr rfl⟩
  · obtain ⟨e, _, rfl⟩ := List.mem_map.1 h
    refine ⟨Sp.mkC_b e, Or.inl ?_⟩
    rcases Sp.mkC_k e with ⟨_, h⟩ | ⟨_, h⟩
    · exact Or.inl h
    · exact Or.inr h
theorem run_take {n : Int} : ∀ (l : List Pp.Ch) (T : List En) (k : Nat), (Pp.runF n T l).2.1 = 0 → (Pp.runF n T (l.take k)).2.1 = 0 ∧ (Pp.runF n T (l.take k)).1 = (l.take k).length
  | [], T, k, _ => by rw [List.take_nil]; exact ⟨rfl, rfl⟩
  | c :: r, T, 0, _ => ⟨rfl, rfl⟩
  | c :: r, T, k + 1, h => by
    rw [List.take_succ_cons, Pp.runF]
    rw [Pp.runF] at h
    by_cases h0 : Pp.appE T c n = 0
    · rw [if_pos h0] at h
      rw [if_pos h0]
      have := run_take r (Pp.chdR T c n) k h
      exact ⟨this.1, by rw [List.length_cons]; exact congrArg (· + 1) this.2⟩
    · rw [if_neg h0] at h; exact absurd h h0
theorem run_good {n : Int} : ∀ (l : List Pp.Ch) (T : List En), Pp.Good T → (Pp.runF n T l).2.1 = 0 → Pp.Good (Pp.runF n T l).2.2
  | [], T, hT, _ => hT
  | c :: r, T, hT, h => by
    rw [Pp.runF] at h ⊢
    by_cases h0 : Pp.appE T c n = 0
    · rw [if_pos h0] at h ⊢
      exact run_good r _ (Pp.app_good hT h0) h
    · rw [if_neg h0] at h; exact absurd h h0
/-- What is asked for, made on what is known. -/
theorem says {c : Cn} (h0 : chE c = 0) (hc : c.cur < 1000000) (hv : ∀ e ∈ c.base, e.ver ≤ c.cur) :
    Pp.allE c.base (akL c) (c.cur + 1) = 0 ∧ Pp.allN c.base (akL c) (c.cur + 1) = (akL c).length ∧ Pp.Good (Pp.allR c.base (akL c) (c.cur + 1)) ∧ (Sp.sameB (Pp.allR c.base (akL c) (c.cur + 1)) c.mine = true ∨ (akL c).length = 20) := by
  obtain ⟨hB, hM⟩ := ch_good h0
  have hk := ch_keys h0
  have hver : Pp.verE (c.cur + 1) = 0 := by rw [Pp.verE, if_neg (by omega)]
  obtain ⟨T, hr, hTg, hTl⟩ := Sp.back hB hM hver
  have htb := (ch_parts h0).2.1
  have hdf := df_is h0
  have h20 : ¬ 20 < (akL c).length := by have := ak_len c; omega
  have hrun : Pp.runF (c.cur + 1) c.base (akL c) = Pp.runF (c.cur + 1) c.base ((Sp.dfL c.base c.mine).take 20) := by
    rw [akL]
    refine run_setB (by omega) _ _ [] (fun e he => Or.inl (hv e he)) (fun c hc => by cases hc) ?_ ?_
    · rw [hdf]; exact (df_apt hM).sublist (List.take_sublist _ _)
    · intro x hx
      rw [hdf] at hx
      exact df_kind x (List.mem_of_mem_take hx)
  have hr1 : (Pp.runF (c.cur + 1) c.base (Sp.dfL c.base c.mine)).2 = (0, T) := by rw [hdf]; exact hr
  have ht := run_take (n := c.cur + 1) (Sp.dfL c.base c.mine) c.base 20 (by rw [hr1])
  have hlen : (akL c).length = ((Sp.dfL c.base c.mine).take 20).length := by rw [akL, List.length_map]
  have hall := Pp.all_run (L := c.base) htb h20 (n := c.cur + 1) (k := (Pp.runF (c.cur + 1) c.base (akL c)).1) (e := (Pp.runF (c.cur + 1) c.base (akL c)).2.1) (R := (Pp.runF (c.cur + 1) c.base (akL c)).2.2) rfl
  obtain ⟨a1, a2, a3⟩ := hall
  rw [a1, a2, a3, hrun]
  refine ⟨ht.1, by rw [ht.2, hlen], run_good _ _ hB ht.1, ?_⟩
  by_cases hl : (Sp.dfL c.base c.mine).length ≤ 20
  · left
    rw [List.take_of_length_le hl, hr1]
    refine (Sp.sameB_iff ?_).2 hTl
    rw [Sp.dfE, if_pos ((Pp.good_iff _).2 hTg)]
    exact (ch_parts h0).2.2.1
  · right
    rw [hlen, List.length_take]; omega
theorem says_max {c : Cn} (h0 : chE c = 0) (hc : c.cur = 1000000) (hn : ¬ (Sp.dfL c.base c.mine).length = 0) : Pp.allE c.base (akL c) (c.cur + 1) = 3 := by
  have htb := (ch_parts h0).2.1
  have h20 : ¬ 20 < (akL c).length := by have := ak_len c; omega
  have hl : (akL c).length = min 20 (Sp.dfL c.base c.mine).length := by rw [akL, List.length_map, List.length_take]
  have hv : Pp.verE (c.cur + 1) = 3 := by rw [Pp.verE, if_pos (by omega)]
  cases hak : akL c with
  | nil => rw [hak] at hl; simp at hl; omega
  | cons x r =>
    rw [hak] at h20
    have hap : Pp.appE c.base x (c.cur + 1) = 3 := by rw [Pp.appE, hv, if_pos (by decide)]
    rw [Pp.allE, if_neg (fun y => y htb), if_neg h20, Pp.runF, if_neg (by rw [hap]; decide), hap]
theorem ak_sized {c : Cn} (h0 : chE c = 0) : SizedC 150000000000000 (akL c) := by
  obtain ⟨hB, hM⟩ := ch_good h0
  have key : ∀ {L : List En}, Pp.Good L → ∀ e ∈ L, e.path.size ≤ 1000 ∧ e.text.size ≤ 1000 := fun {L} hL e he => by
    have h1 := Pp.chk_len (Pp.entE_path (hL.ents e he))
    have h2 := Pp.good_sized hL e he
    have h3 := hL.ents e he
    refine ⟨by rw [Lib.size_eq]; omega, ?_⟩
    rw [Pp.entE, if_pos (Pp.entE_path h3)] at h3
    split at h3
    · cases h3
    · split at h3
      · cases h3
      · omega
  intro x hx
  rw [akL, df_is h0] at hx
  obtain ⟨y, hy, rfl⟩ := List.mem_map.1 hx
  show y.p.size ≤ _ ∧ y.q.size ≤ _ ∧ y.t.size ≤ _
  rcases List.mem_append.1 (List.mem_of_mem_take hy) with h | h
  · obtain ⟨e, he, rfl⟩ := List.mem_map.1 h
    have := key hB e (List.mem_filter.1 he).1
    exact ⟨by show e.path.size ≤ _; omega, Nat.zero_le _, Nat.zero_le _⟩
  · obtain ⟨e, he, rfl⟩ := List.mem_map.1 h
    have := key hM e (List.mem_filter.1 he).1
    unfold Sp.mkC
    split
    · exact ⟨by show e.path.size ≤ _; omega, Nat.zero_le _, Nat.zero_le _⟩
    · exact ⟨by show e.path.size ≤ _; omega, Nat.zero_le _, by show e.text.size ≤ _; omega⟩
end Cy
end Go.Proofs.YtflekhcmipmelaaGreatDoor
