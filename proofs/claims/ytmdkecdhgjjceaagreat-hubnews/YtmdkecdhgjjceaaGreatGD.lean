/- What grant.checkAll and Right answer, and the reference's RightOf, for every list of grants. Grants in order: what is put, and sorted, is what is put into its place. What the reference's PutGrant puts together, grant by grant, as plain mathematics. What the reference's PutGrant answers: the grants with one in its place. -/
import Derived.Test.YtmdkecdhgjjceaaGreatGC
set_option linter.unusedSimpArgs false
set_option linter.unusedVariables false
namespace Go.Proofs.YtmdkecdhgjjceaaGreat
open Go.RowKit

namespace Pp
/-- Check of grants, then of names beside them. -/
def calE (G : List Gr) (ns : List ByteArray) : Int := if gchE G = 0 then nmsE ns else gchE G
theorem nms_cases (ns : List ByteArray) : nmsE ns = 0 ∨ nmsE ns = 1 := by
  rw [nmsE]; split
  · exact Or.inl rfl
  · exact Or.inr rfl
end Pp

set_option maxHeartbeats 1000000 in
theorem gcheckAll_any (G : List Gr) (v : Value) (ns : List ByteArray) (g cap : Nat) (w : World) (hv : LiesG w v G) (hs : SizedG G) (hg : g < w.heap.size) (hns : ∀ i (h : i < ns.length), (ns[i]).size ≤ 1000000000000000) (hl : ns.length ≤ 1000) (hc : ∀ i (h : i < ns.length), w.cell? ⟨g, 0 + i, none⟩ = some (.string ns[i])) :
    Calls Tryz.prog 54 #[v, .slice (some ⟨g, 0, none⟩) ns.length cap] w fun e w' => e = .returned (.int .i64 (Pp.calE G ns)) ∧ Below w.heap.size w w' := by
  have HV := ghid hv
  have HS := ghid hs
  have HN := ghid hns
  have HC := ghid hc
  clear hv hs hns hc
  by_cases h0 : Pp.gchE G = 0
  · have H0 := ghid h0
    have HE : Hid (Pp.nmsE ns = Pp.calE G ns) := ((if_pos h0).symm : Pp.nmsE ns = Pp.calE G ns)
    clear h0
    go_enter Tryz.func54, Tryz.ntmps54
    go_wp2_with fail
    refine (gcheck_any G _ _ HV.out HS.out).mono ?_
    rintro e w1 ⟨rfl, hb1⟩
    rw [H0.out]
    go_wp2_with fail
    refine (names_any ns g 0 cap _ (Nat.lt_of_lt_of_le hg hb1.size) HN.out hl (fun i h => (hb1.cell (p := ⟨g, 0 + i, none⟩) hg).trans (HC.out i h))).mono ?_
    rintro e w2 ⟨rfl, hb2⟩
    generalize Pp.nmsE ns = y at *
    go_wp2
    go_ret
    exact ⟨Pp.ret_int HE.out, below_trans hb1 hb2⟩
  · have HE : Hid (Pp.gchE G = Pp.calE G ns) := ((if_neg h0).symm : Pp.gchE G = Pp.calE G ns)
    have hz : (Pp.gchE G == 0) = false := by simpa using h0
    go_enter Tryz.func54, Tryz.ntmps54
    go_wp2_with fail
    refine (gcheck_any G _ _ HV.out HS.out).mono ?_
    rintro e w1 ⟨rfl, hb1⟩
    generalize Pp.gchE G = y at *
    go_wp2
    go_ret
    exact ⟨Pp.ret_int HE.out, hb1⟩

namespace Pp
def rigR (G : List Gr) (f h : ByteArray) : Int := if calE G [f, h] = 0 then rgt G f h else 0
end Pp

set_option maxRecDepth 100000 in
set_option maxHeartbeats 1000000 in
theorem right2_any (G : List Gr) (v : Value) (f h : ByteArray) (w : World) (hv : LiesG w v G) (hs : SizedG G) (hf : f.size ≤ 150000000000000) (hh : h.size ≤ 150000000000000) :
    Calls Tryz.prog 24 #[v, .string f, .string h] w fun e w' => e = .returned (.tuple #[.int .i64 (Pp.rigR G f h), .int .i64 (Pp.calE G [f, h])]) ∧ Below w.heap.size w w' := by
  have HV := ghid hv
  have HS := ghid hs
  clear hv hs
  have hsz : ∀ i (hi : i < [f, h].length), ([f, h][i]).size ≤ 1000000000000000 := fun i hi => by match i, hi with | 0, _ => exact Nat.le_trans hf (by decide) | 1, _ => exact Nat.le_trans hh (by decide)
  by_cases h0 : Pp.calE G [f, h] = 0
  · have HE : Hid (Pp.rgt G f h = Pp.rigR G f h) := ((if_pos h0).symm : Pp.rgt G f h = Pp.rigR G f h)
    have H0 := ghid h0
    rw [h0]
    clear h0
    go_enter Tryz.func24, Tryz.ntmps24
    go_wp2_with fail
    refine (gcheckAll_any G _ [f, h] w.heap.size 2 _ (HV.out.below ((Below.refl _ _).alloc (Nat.le_refl _) _)) HS.out (by simp) hsz (by simp) (fun i hi => by match i, hi with | 0, _ => simp | 1, _ => simp)).mono ?_
    rintro e w1 ⟨rfl, hb1⟩
    rw [H0.out]
    have hb01 : Below w.heap.size w w1 := ((Below.refl _ _).alloc (Nat.le_refl _) _).trans (hb1.mono (by simp))
    clear hb1
    go_wp2_with fail
    refine (right_any G _ f h _ (HV.out.below hb01)).mono ?_
    rintro e w2 ⟨rfl, hb2⟩
    rw [HE.out]
    have hb02 := below_trans hb01 hb2
    go_wp2
    go_ret2
    exact ⟨rfl, hb02⟩
  · have HE : Hid (0 = Pp.rigR G f h) := ((if_neg h0).symm : 0 = Pp.rigR G f h)
    have hz : (Pp.calE G [f, h] == 0) = false := by simpa using h0
    go_enter Tryz.func24, Tryz.ntmps24
    go_wp2_with fail
    refine (gcheckAll_any G _ [f, h] w.heap.size 2 _ (HV.out.below ((Below.refl _ _).alloc (Nat.le_refl _) _)) HS.out (by simp) hsz (by simp) (fun i hi => by match i, hi with | 0, _ => simp | 1, _ => simp)).mono ?_
    rintro e w1 ⟨rfl, hb1⟩
    have hb01 : Below w.heap.size w w1 := ((Below.refl _ _).alloc (Nat.le_refl _) _).trans (hb1.mono (by simp))
    go_wp2
    go_ret2
    exact ⟨by rw [← HE.out]; rfl, hb01⟩

set_option maxHeartbeats 1000000 in
theorem rightOf_any (G : List Gr) (v : Value) (f h : ByteArray) (w : World) (hv : LiesG w v G) :
    Calls Tryz.prog 39 #[v, .string f, .string h] w fun e w' => e = .returned (.int .i64 (Pp.rgt G f h)) ∧ Below w.heap.size w w' := by
  obtain ⟨a, cap, rfl, hcap, hcap2, hLL⟩ := hv
  have HL : Hid (∀ i (h : i < G.length), ∃ b o, a = some ⟨b, o, none⟩ ∧ b < w.heap.size ∧ GrAt w b (o + i * 3) G[i]) := hLL
  clear hLL
  obtain ⟨r, hr⟩ : ∃ r, r = Pp.rgt G f h := ⟨_, rfl⟩
  rw [← hr]
  have HR := ghid hr
  clear hr
  go_enter Tryz.func39, Tryz.ntmps39
  go_wp2_with fail
  go_loopw [7] (fun i wr => ∃ k : Nat, k ≤ G.length ∧ i = .int .i64 k ∧ Hid (∀ j (h' : j < G.length), j < k → Pp.ofW f h G[j] = false) ∧ Below w.heap.size w wr) (fun i _ => G.length - (intOf i).toNat)
  case atStart => exact ⟨0, Nat.zero_le _, rfl, (fun j _ h => absurd h (Nat.not_lt_zero _) : ∀ j (h' : j < G.length), j < 0 → Pp.ofW f h G[j] = false), Below.refl _ _⟩
  case round =>
    obtain ⟨k, hk, rfl, HP, hbel⟩ := hrel
    by_cases hlt : k < G.length
    · obtain ⟨b, o, rfl, hb, he⟩ := HL.out k hlt
      obtain ⟨c0, c1, c2⟩ := he.below hb hbel
      have HT : Hid (Pp.ofW f h G[k] = true → (G[k]).ri = r) := (fun hp => by
        have : G.find? (Pp.ofW f h) = some G[k] := by
          rw [List.find?_eq_some_iff_getElem]
          exact ⟨hp, k, hlt, rfl, fun j hj => by simpa using HP.out j (by omega) hj⟩
        rw [HR.out, Pp.rgt, this] : Pp.ofW f h G[k] = true → (G[k]).ri = r)
      have HF : Hid (Pp.ofW f h G[k] = false → ∀ j (h' : j < G.length), j < k + 1 → Pp.ofW f h G[j] = false) := (fun hp j h1 h2 => by
        by_cases e : j = k
        · subst e; exact hp
        · exact HP.out j h1 (by omega) : Pp.ofW f h G[k] = false → ∀ j (h' : j < G.length), j < k + 1 → Pp.ofW f h G[j] = false)
      generalize G[k] = x at *
      cases h1 : (x.fo.toList == f.toList) with
      | true =>
        cases h2 : (x.wh.toList == h.toList) with
        | true =>
          have HE := ghid (HT.out (by rw [Pp.ofW, h1, h2]; rfl))
          go_wp2_with fail
          go_ret
          exact ⟨Pp.ret_int HE.out, hbel⟩
        | false =>
          have HP2 := ghid (HF.out (by rw [Pp.ofW, h1, h2]; rfl))
          go_wp2_with fail
          go_roundw
          case rel => exact ⟨k + 1, by omega, by simp, HP2, hbel⟩
          case measure => simp [intOf]; omega
      | false =>
        have HP2 := ghid (HF.out (by rw [Pp.ofW, h1]; rfl))
        go_wp2_with fail
        go_roundw
        case rel => exact ⟨k + 1, by omega, by simp, HP2, hbel⟩
        case measure => simp [intOf]; omega
    · have HE : Hid (0 = r) := (by
        have : G.find? (Pp.ofW f h) = none := by
          rw [List.find?_eq_none]
          intro x hx
          obtain ⟨j, hj, rfl⟩ := List.getElem_of_mem hx
          simpa using HP.out j hj (by omega)
        rw [HR.out, Pp.rgt, this] : 0 = r)
      go_wp2_with fail
      go_ret
      exact ⟨Pp.ret_int HE.out, hbel⟩
end Go.Proofs.YtmdkecdhgjjceaaGreat
set_option linter.unusedSimpArgs false
set_option linter.unusedVariables false
namespace Go.Proofs.YtmdkecdhgjjceaaGreat.Pp

theorem gsorted_eq : ∀ {a b : List Gr}, a.Perm b → a.Pairwise (fun x y => ltG x y = true) → b.Pairwise (fun x y => ltG x y = true) → a = b
  | [], b, h, _, _ => by rw [List.nil_perm] at h; exact h.symm
  | x :: r, b, h, h1, h2 => by
    cases b with
    | nil => exact absurd h.length_eq (by simp)
    | cons y s =>
      have e : x = y := by
        have hx : x ∈ y :: s := h.subset (List.mem_cons_self ..)
        have hy : y ∈ x :: r := h.symm.subset (List.mem_cons_self ..)
        rcases List.mem_cons.1 hx with e | hx
        · exact e
        · rcases List.mem_cons.1 hy with e | hy
          · exact e.symm
          · have l1 := (List.pairwise_cons.1 h1).1 y hy
            have l2 := (List.pairwise_cons.1 h2).1 x hx
            have := ltG_trans x y x l1 l2
            rw [ltG_irr] at this; cases this
      subst e
      rw [gsorted_eq (List.perm_cons x |>.1 h) (List.pairwise_cons.1 h1).2 (List.pairwise_cons.1 h2).2]
theorem risG_pair : ∀ (L : List Gr), risG L = true ↔ L.Pairwise (fun x y => ltG x y = true)
  | [] => by simp [risG]
  | [_] => by simp [risG]
  | a :: b :: r => by
    rw [risG, Bool.and_eq_true, risG_pair (b :: r), ltG_c]
    constructor
    · rintro ⟨h1, h2⟩
      refine List.pairwise_cons.2 ⟨fun x hx => ?_, h2⟩
      rcases List.mem_cons.1 hx with rfl | hx
      · exact h1
      · exact ltG_trans _ _ _ h1 ((List.pairwise_cons.1 h2).1 x hx)
    · intro h
      exact ⟨(List.pairwise_cons.1 h).1 b (by simp), (List.pairwise_cons.1 h).2⟩
/-- Two grants are of one and the same in one folder just where neither comes ahead of the other. -/
theorem oth_iff (x e : Gr) : othG x e = true ↔ ltG e x = true ∨ ltG x e = true := by
  have h1 : decide (cG e x < 0) = ltG e x := ltG_c e x
  have h2 : decide (cG x e < 0) = ltG x e := ltG_c x e
  have key : cG e x = 0 ↔ cG x e = 0 := by
    have c0 : ∀ a b : ByteArray, cS a b = 0 ↔ cS b a = 0 := by
      intro a b
      rcases tri a b with ⟨t1, t2, t3, t4⟩ | ⟨t1, t2, t3, t4⟩ | ⟨t1, t2, t3, t4⟩
      · simp [cS, t1, t2, t4]
      · simp [cS, t1, t2, t3, t4]
      · simp [cS, t1, t2, t3]
    rw [cG, cG]
    by_cases hf : cS e.fo x.fo = 0
    · have hf' := (c0 _ _).1 hf
      rw [if_pos hf, if_pos hf']; exact c0 _ _
    · have hf' : ¬ cS x.fo e.fo = 0 := fun h => hf ((c0 _ _).1 h)
      rw [if_neg hf, if_neg hf']; exact c0 _ _
  have pos : ∀ a b : Gr, 0 < cG a b → cG b a < 0 := by
    intro a b h
    have p0 : ∀ u v : ByteArray, 0 < cS u v → cS v u < 0 := by
      intro u v hh
      rcases tri u v with ⟨t1, t2, t3, t4⟩ | ⟨t1, t2, t3, t4⟩ | ⟨t1, t2, t3, t4⟩
      · simp [cS, t1] at hh
      · simp [cS, t1, t3] at hh
      · simp [cS, t2]
    have z0 : ∀ u v : ByteArray, cS u v = 0 → cS v u = 0 := by
      intro u v hh
      rcases tri u v with ⟨t1, t2, t3, t4⟩ | ⟨t1, t2, t3, t4⟩ | ⟨t1, t2, t3, t4⟩
      · simp [cS, t1] at hh
      · simp [cS, t2, t4]
      · simp [cS, t1, t3] at hh
    rw [cG] at h ⊢
    by_cases hf : cS a.fo b.fo = 0
    · rw [if_pos hf] at h
      rw [if_pos (z0 _ _ hf)]; exact p0 _ _ h
    · rw [if_neg hf] at h
      have := p0 _ _ h
      rw [if_neg (by omega)]; exact this
  rw [othG, ← h1, ← h2, decide_eq_true_eq, decide_eq_true_eq]
  constructor
  · intro h
    have h0 : ¬ cG e x = 0 := by simpa using h
    by_cases hl : cG e x < 0
    · exact Or.inl hl
    · exact Or.inr (pos e x (by omega))
  · intro h
    have h0 : ¬ cG e x = 0 := by
      rcases h with h | h
      · omega
      · intro e0; have := key.1 e0; omega
    simpa using h0
def insG (x : Gr) : List Gr → List Gr
  | [] => [x]
  | y :: r => if ltG y x = true then y :: insG x r else x :: y :: r
theorem insG_perm (x : Gr) : ∀ L : List Gr, (insG x L).Perm (x :: L)
  | [] => List.Perm.refl _
  | y :: r => by
    rw [insG]; split
    · exact ((insG_perm x r).cons y).trans (List.Perm.swap x y r)
    · exact List.Perm.refl _
theorem insG_sorted (x : Gr) : ∀ {L : List Gr}, L.Pairwise (fun x y => ltG x y = true) → (∀ y ∈ L, othG x y = true) → (insG x L).Pairwise (fun x y => ltG x y = true)
  | [], _, _ => by simp [insG]
  | y :: r, h, hne => by
    rw [insG]; split
    · rename_i hy
      rw [List.pairwise_cons]
      refine ⟨fun z hz => ?_, insG_sorted x (List.pairwise_cons.1 h).2 fun z hz => hne z (List.mem_cons_of_mem _ hz)⟩
      rcases List.mem_cons.1 ((insG_perm x r).subset hz) with rfl | hz
      · exact hy
      · exact (List.pairwise_cons.1 h).1 z hz
    · rename_i hy
      have hxy : ltG x y = true := by
        rcases (oth_iff x y).1 (hne y (List.mem_cons_self ..)) with h1 | h1
        · exact absurd h1 hy
        · exact h1
      rw [List.pairwise_cons]
      refine ⟨fun z hz => ?_, h⟩
      rcases List.mem_cons.1 hz with rfl | hz
      · exact hxy
      · exact ltG_trans _ _ _ hxy ((List.pairwise_cons.1 h).1 z hz)
/-- What put makes of grants that rise: the grant in its place. -/
theorem put_ins {G M : List Gr} {x : Gr} (hG : G.Pairwise (fun x y => ltG x y = true)) (hp : M.Perm (outG x G ++ [x])) (hM : M.Pairwise (fun a b => ltG b a = false)) : M = insG x (outG x G) := by
  have hF : (outG x G).Pairwise (fun x y => ltG x y = true) := List.Pairwise.filter _ hG
  have ho : ∀ y ∈ outG x G, othG x y = true := fun y hy => (List.mem_filter.1 hy).2
  have hdist : (outG x G ++ [x]).Pairwise (fun a b => ltG a b = true ∨ ltG b a = true) := by
    rw [List.pairwise_append]
    refine ⟨hF.imp fun h => Or.inl h, by simp, fun a ha b hb => ?_⟩
    have : b = x := by simpa using hb
    subst this
    exact (oth_iff b a).1 (ho a ha)
  have hnd : M.Pairwise (fun a b => ltG a b = true ∨ ltG b a = true) := hp.symm.pairwise hdist (fun h => h.symm)
  refine gsorted_eq (hp.trans ?_) ((hM.and hnd).imp fun {a b} h => ?_) (insG_sorted x hF ho)
  · exact (List.perm_append_comm).trans (insG_perm x _).symm
  · rcases h.2 with h1 | h1
    · exact h1
    · rw [h.1] at h1; cases h1
end Go.Proofs.YtmdkecdhgjjceaaGreat.Pp
set_option linter.unusedSimpArgs false
set_option linter.unusedVariables false
namespace Go.Proofs.YtmdkecdhgjjceaaGreat.Pp

/-- One round: the grant goes ahead of the first one that is not ahead of it; what the same one had is left out. -/
def gstp (x : Gr) (s : List Gr × Bool) (y : Gr) : List Gr × Bool :=
  (if othG x y = true then (if s.2 = false ∧ ltG y x = false then s.1 ++ [x] else s.1) ++ [y] else (if s.2 = false ∧ ltG y x = false then s.1 ++ [x] else s.1), s.2 || !(ltG y x))
def gputS (x : Gr) (b : Bool) (L : List Gr) : List Gr × Bool := L.foldl (gstp x) ([], b)
def gputR (x : Gr) (b : Bool) (L : List Gr) : List Gr := if (gputS x b L).2 = true then (gputS x b L).1 else (gputS x b L).1 ++ [x]
theorem gputS_snoc (x : Gr) (b : Bool) (A : List Gr) (y : Gr) : gputS x b (A ++ [y]) = gstp x (gputS x b A) y := by rw [gputS, List.foldl_append]; rfl
theorem ginsG_pre {x : Gr} : ∀ {A : List Gr}, (∀ y ∈ A, ltG y x = true) → ∀ B, insG x (A ++ B) = A ++ insG x B
  | [], _, _ => rfl
  | y :: r, h, B => by
    rw [List.cons_append, insG, if_pos (h y (by simp)), ginsG_pre (fun z hz => h z (by simp [hz]))]; rfl
theorem gins_snoc {x y : Gr} (h : ltG y x = false) : ∀ K, insG x (K ++ [y]) = insG x K ++ [y]
  | [] => by simp [insG, h]
  | z :: r => by
    rw [List.cons_append, insG, insG]
    split
    · rw [gins_snoc h r]; rfl
    · rfl
theorem gout_all {x : Gr} {A : List Gr} (h : ∀ y ∈ A, ltG y x = true) : outG x A = A := by
  rw [outG, List.filter_eq_self]
  intro y hy
  exact (oth_iff x y).2 (Or.inl (h y hy))
theorem gout_app (x : Gr) (A B : List Gr) : outG x (A ++ B) = outG x A ++ outG x B := by rw [outG, List.filter_append]; rfl
/-- Where the grant itself is to be put. -/
theorem gputS_take {x : Gr} {L : List Gr} (hL : L.Pairwise (fun x y => ltG x y = true)) : ∀ k, k ≤ L.length → gputS x false (L.take k) = if (L.take k).all (fun y => ltG y x) = true then (L.take k, false) else (insG x (outG x (L.take k)), true) := by
  intro k
  induction k with
  | zero => intro _; simp [gputS]
  | succ k ih =>
    intro hk
    have hlt : k < L.length := by omega
    have ih := ih (by omega)
    have hpre : ∀ z ∈ L.take k, ltG z L[k] = true := fun z hz => by
      obtain ⟨i, hi, rfl⟩ := List.getElem_of_mem hz
      rw [List.length_take] at hi
      rw [List.getElem_take]
      exact List.pairwise_iff_getElem.1 hL i k (by omega) hlt (by omega)
    rw [List.take_succ_eq_append_getElem hlt, gputS_snoc, ih]
    generalize L[k] = y at *
    generalize L.take k = A at *
    cases hall : A.all (fun y => ltG y x) with
    | true =>
      have hA : ∀ z ∈ A, ltG z x = true := fun z hz => List.all_eq_true.1 hall z hz
      cases hy : ltG y x with
      | true =>
        have ho : othG x y = true := (oth_iff x y).2 (Or.inl hy)
        have e1 : (A ++ [y]).all (fun y => ltG y x) = true := by rw [List.all_append, hall]; simp [hy]
        rw [if_pos rfl, if_pos e1, gstp]
        simp [hy, ho]
      | false =>
        have e1 : (A ++ [y]).all (fun y => ltG y x) = false := by rw [List.all_append, hall]; simp [hy]
        rw [if_pos rfl, if_neg (by rw [e1]; decide), gstp, gout_app, gout_all hA, ginsG_pre hA]
        cases ho : othG x y with
        | true =>
          have e2 : outG x [y] = [y] := by simp [outG, ho]
          rw [e2]; simp [insG, hy]
        | false =>
          have e2 : outG x [y] = [] := by simp [outG, ho]
          rw [e2]; simp [insG, hy]
    | false =>
      obtain ⟨z, hz, hzx⟩ : ∃ z ∈ A, ltG z x = false := by
        have := List.all_eq_false.1 hall
        simpa using this
      have hzy := hpre z hz
      have hy : ltG y x = false := by
        cases hh : ltG y x with
        | false => rfl
        | true => rw [ltG_trans z y x hzy hh] at hzx; cases hzx
      have hxy : ltG x y = true := by
        cases hh : ltG x y with
        | true => rfl
        | false => have := ltG_ntrans z x y hzx hh; rw [this] at hzy; cases hzy
      have ho : othG x y = true := (oth_iff x y).2 (Or.inr hxy)
      have e1 : (A ++ [y]).all (fun y => ltG y x) = false := by rw [List.all_append, hall]; rfl
      have e2 : outG x [y] = [y] := by simp [outG, ho]
      rw [if_neg (by decide), if_neg (by rw [e1]; decide), gstp, gout_app, e2, gins_snoc hy]
      simp [ho]
theorem gputR_eq {x : Gr} {L : List Gr} (hL : L.Pairwise (fun x y => ltG x y = true)) : gputR x false L = insG x (outG x L) := by
  have h := gputS_take (x := x) hL L.length (Nat.le_refl _)
  rw [List.take_length] at h
  rw [gputR, h]
  cases hall : L.all (fun y => ltG y x) with
  | true =>
    have hA : ∀ z ∈ L, ltG z x = true := fun z hz => List.all_eq_true.1 hall z hz
    have e := ginsG_pre hA []
    rw [List.append_nil] at e
    rw [gout_all hA, e]; simp [insG]
  | false => simp
/-- Where a right is taken. -/
theorem gputS_none (x : Gr) (L : List Gr) : gputS x true L = (outG x L, true) := by
  have : ∀ (L A : List Gr), L.foldl (gstp x) (A, true) = (A ++ outG x L, true) := by
    intro L
    induction L with
    | nil => intro A; simp [outG]
    | cons y r ih =>
      intro A
      rw [List.foldl_cons]
      have e : gstp x (A, true) y = (A ++ outG x [y], true) := by
        rw [gstp]
        cases ho : othG x y <;> simp [outG, ho]
      rw [e, ih, show outG x (y :: r) = outG x [y] ++ outG x r from by rw [← gout_app]; rfl, List.append_assoc]
  rw [gputS, this, List.nil_append]
theorem gputR_none (x : Gr) (L : List Gr) : gputR x true L = outG x L := by rw [gputR, gputS_none, if_pos rfl]
end Go.Proofs.YtmdkecdhgjjceaaGreat.Pp
set_option linter.unusedSimpArgs false
set_option linter.unusedVariables false
namespace Go.Proofs.YtmdkecdhgjjceaaGreat
open Go.RowKit

namespace Pp
theorem gstp_ny {x : Gr} {X : List Gr} {pb : Bool} {y : Gr} (h : pb = true ∨ ltG y x = true) (h2 : othG x y = true) : gstp x (X, pb) y = (X ++ [y], pb) := by
  rw [gstp]
  rcases h with h | h
  · subst h; simp [h2]
  · simp [h2, h]
theorem gstp_nn {x : Gr} {X : List Gr} {y : Gr} (h2 : othG x y = false) : gstp x (X, true) y = (X, true) := by
  rw [gstp]; simp [h2]
theorem gstp_yn {x : Gr} {X : List Gr} {y : Gr} (h : ltG y x = false) (h2 : othG x y = false) : gstp x (X, false) y = (X ++ [x], true) := by
  rw [gstp]; simp [h2, h]
theorem gstp_yy {x : Gr} {X : List Gr} {y : Gr} (h : ltG y x = false) (h2 : othG x y = true) : gstp x (X, false) y = (X ++ [x] ++ [y], true) := by
  rw [gstp]; simp [h2, h]
theorem cS_eq {a b : ByteArray} (h1 : Op.bytesLess a.toList b.toList = false) (h2 : (a.toList == b.toList) = true) : cS a b = 0 := by rw [cS, h1, h2]; simp
theorem cS_ne {a b : ByteArray} (h2 : (a.toList == b.toList) = false) : ¬ cS a b = 0 := by rw [cS, h2]; split <;> simp
theorem oth_fo {x y : Gr} (h : (y.fo.toList == x.fo.toList) = false) : othG x y = true := by
  have h1 := cS_ne h
  rw [othG, cG, if_neg h1]; simpa using h1
theorem oth_wh {x y : Gr} (h1 : Op.bytesLess y.fo.toList x.fo.toList = false) (h2 : (y.fo.toList == x.fo.toList) = true) (h : (y.wh.toList == x.wh.toList) = false) : othG x y = true := by
  have h3 := cS_ne h
  rw [othG, cG, if_pos (cS_eq h1 h2)]; simpa using h3
theorem oth_no {x y : Gr} (h1 : Op.bytesLess y.fo.toList x.fo.toList = false) (h2 : (y.fo.toList == x.fo.toList) = true) (h3 : Op.bytesLess y.wh.toList x.wh.toList = false) (h : (y.wh.toList == x.wh.toList) = true) : othG x y = false := by
  rw [othG, cG, if_pos (cS_eq h1 h2), cS_eq h3 h]; rfl
theorem gputS_len (x : Gr) (b : Bool) (L : List Gr) : ∀ k, k ≤ L.length → (gputS x b (L.take k)).1.length ≤ 2 * k := by
  intro k
  induction k with
  | zero => intro _; simp [gputS]
  | succ k ih =>
    intro hk
    have := ih (by omega)
    rw [List.take_succ_eq_append_getElem (by omega), gputS_snoc, gstp]
    split <;> split <;> simp only [List.length_append, List.length_cons, List.length_nil] <;> omega
end Pp
theorem grown_cell {w w' : World} {row : Option Nat} {p : Addr} {v : Value} (hg : w.grownBy w' row) (hp : p.block < w.heap.size) (hr : row ≠ some p.block) (h : w.cell? p = some v) : w'.cell? p = some v :=
  (World.cell?_of_block (w := w) (hg.block p.block hp (fun e => hr e.symm))).trans h

set_option maxRecDepth 100000 in
set_option maxHeartbeats 4000000 in
theorem putGrant_any (G : List Gr) (v : Value) (f m : ByteArray) (r : Int) (w : World) (hv : LiesG w v G) (hn : G.length ≤ 1000) :
    Calls Tryz.prog 69 #[v, .string f, .string m, .int .i64 r] w fun e w' => ∃ u, e = .returned u ∧ w'.ownsRow w.heap.size 83 3 u (Pp.gputR ⟨f, m, r⟩ (r == 0) G).length (Pp.flatG (Pp.gputR ⟨f, m, r⟩ (r == 0) G)) ∧ Below w.heap.size w w' := by
  obtain ⟨i0, hi0, hz0, hz1, hz2⟩ := info_parts Tryz.infoG
  obtain ⟨a, cap, rfl, hcap, hcap2, hLL⟩ := hv
  have HL : Hid (∀ i (h : i < G.length), ∃ b o, a = some ⟨b, o, none⟩ ∧ b < w.heap.size ∧ GrAt w b (o + i * 3) G[i]) := hLL
  clear hLL
  obtain ⟨b0, hb0⟩ : ∃ b0, b0 = (r == 0) := ⟨_, rfl⟩
  have HX : Hid (∀ k, ∀ h' : k < G.length, Pp.gputS ⟨f, m, r⟩ b0 (G.take (k + 1)) = Pp.gstp ⟨f, m, r⟩ (Pp.gputS ⟨f, m, r⟩ b0 (G.take k)) G[k]) := (fun k h' => by rw [List.take_succ_eq_append_getElem h', Pp.gputS_snoc] : ∀ k, ∀ h' : k < G.length, Pp.gputS ⟨f, m, r⟩ b0 (G.take (k + 1)) = Pp.gstp ⟨f, m, r⟩ (Pp.gputS ⟨f, m, r⟩ b0 (G.take k)) G[k])
  have HLEN : Hid (∀ k, k ≤ G.length → (Pp.gputS ⟨f, m, r⟩ b0 (G.take k)).1.length ≤ 2 * k) := (Pp.gputS_len _ _ _ : ∀ k, k ≤ G.length → (Pp.gputS ⟨f, m, r⟩ b0 (G.take k)).1.length ≤ 2 * k)
  rw [← hb0]
  go_enter Tryz.func69, Tryz.ntmps69
  go_wp2_with fail
  go_loopw [9, 10, 11] (fun o pt i wr => ∃ k : Nat, k ≤ G.length ∧ i = .int .i64 k ∧ pt = .bool (Pp.gputS ⟨f, m, r⟩ b0 (G.take k)).2 ∧ wr.ownsRow w.heap.size 83 3 o (Pp.gputS ⟨f, m, r⟩ b0 (G.take k)).1.length (Pp.flatG (Pp.gputS ⟨f, m, r⟩ b0 (G.take k)).1) ∧ Below w.heap.size w wr) (fun _ _ i _ => G.length - (intOf i).toNat)
  case atStart => exact ⟨0, Nat.zero_le _, rfl, by rw [List.take_zero, hb0]; rfl, World.ownsRow_nil _ _ _ _, Below.refl _ _⟩
  case round =>
    clear hb0
    obtain ⟨k, hk, rfl, rfl, hown, hbel⟩ := hrel
    have hle := HLEN.out k hk
    by_cases hlt : k < G.length
    · obtain ⟨b, o, rfl, hb, he⟩ := HL.out k hlt
      obtain ⟨c0, c1, c2⟩ := he.below hb hbel
      have hstp := HX.out k hlt
      clear he
      generalize Pp.gputS ⟨f, m, r⟩ b0 (G.take k) = S at *
      obtain ⟨X, pb⟩ := S
      simp only at hle hown
      generalize G[k] = y at *
      have hbsz := hbel.size
      obtain ⟨wz, hwz⟩ : ∃ wz, wz = wr.alloc (.cells #[.string y.fo, .string y.wh, .int .i64 y.ri] 83) := ⟨_, rfl⟩
      have hownz := hwz ▸ hown.alloc (.cells #[.string y.fo, .string y.wh, .int .i64 y.ri] 83)
      have hbelz : Below w.heap.size w wz := hwz ▸ hbel.alloc hbel.size _
      have q0 : wz.cell? ⟨wr.heap.size, 0, none⟩ = some (.string y.fo) := by rw [hwz]; simp
      have q1 : wz.cell? ⟨wr.heap.size, 1, none⟩ = some (.string y.wh) := by rw [hwz]; simp
      have q2 : wz.cell? ⟨wr.heap.size, 2, none⟩ = some (.int .i64 y.ri) := by rw [hwz]; simp
      have hszz : wz.heap.size = wr.heap.size + 1 := by rw [hwz]; simp
      have hz : ∀ (o : Obj) (c : Nat), (wz.alloc o).cell? ⟨wr.heap.size, c, none⟩ = wz.cell? ⟨wr.heap.size, c, none⟩ := fun o c => ((Below.refl wz.heap.size wz).alloc (Nat.le_refl _) o).cell (p := ⟨wr.heap.size, c, none⟩) (by show wr.heap.size < wz.heap.size; omega)
      have HZ := ghid hz
      have HBZ := ghid hbelz
      have HOZ := ghid hownz
      have HOW := ghid hown
      have HB := ghid hbel
      clear hbelz hownz hown hbel hz
      cases pb with
      | true =>
        rcases Pp.tri y.fo f with ⟨t1, t2, t3, t4⟩ | ⟨t1, t2, t3, t4⟩ | ⟨t1, t2, t3, t4⟩
        · have HST : Hid (Pp.gputS ⟨f, m, r⟩ b0 (G.take (k + 1)) = (X ++ [y], true)) := (by rw [hstp]; exact Pp.gstp_ny (Or.inl rfl) (Pp.oth_fo t3) : Pp.gputS ⟨f, m, r⟩ b0 (G.take (k + 1)) = (X ++ [y], true))
          clear hstp
          go_wp2_with (at_builtin; rw [← hwz]; refine wpList_append_own _ rfl _ _ 23 rfl w.heap.size 83 i0 (.agg #[.string ⟨#[]⟩, .string ⟨#[]⟩, .int .i64 0]) 3 40 Tryz.underlying23 hi0 hz0 hz1 hz2 rfl (by decide) _ _ _ rfl (HOZ.out.alloc _) ⟨wr.heap.size + 1, 0, none⟩ 1 1 (Pp.cellsG y) rfl rfl (by rw [← hszz]; exact new_cellsG wz y _) (Pp.cellsG_one _) (by unfold maxLen; omega) (by omega) (by simp; omega) ?_)
          intro v2 w2 ho2 hgr2 hnn2
          rw [← hwz] at hgr2
          rw [Pp.flatG_snoc] at ho2
          have hown2 : w2.ownsRow w.heap.size 83 3 v2 (X ++ [y]).length (Pp.flatG (X ++ [y])) := by rw [List.length_append]; exact ho2
          have hbel2 : Below w.heap.size w w2 := (HBZ.out.alloc HBZ.out.size _).grown hgr2 (by simp; omega) (fun g hg => (HOW.out.lt g hg).1)
          have HO2 := ghid hown2
          have HB2 := ghid hbel2
          clear ho2 hgr2 hnn2 hown2 hbel2 hwz q0 q1 q2
          go_wp2_with fail
          go_roundw
          case rel => exact ⟨k + 1, by omega, by simp, by rw [HST.out], by rw [HST.out]; exact HO2.out, HB2.out⟩
          case measure => simp [intOf]; omega
        · rcases Pp.tri y.wh m with ⟨s1, s2, s3, s4⟩ | ⟨s1, s2, s3, s4⟩ | ⟨s1, s2, s3, s4⟩
          · have HST : Hid (Pp.gputS ⟨f, m, r⟩ b0 (G.take (k + 1)) = (X ++ [y], true)) := (by rw [hstp]; exact Pp.gstp_ny (Or.inl rfl) (Pp.oth_wh t1 t3 s3) : Pp.gputS ⟨f, m, r⟩ b0 (G.take (k + 1)) = (X ++ [y], true))
            clear hstp
            go_wp2_with (at_builtin; rw [← hwz]; refine wpList_append_own _ rfl _ _ 23 rfl w.heap.size 83 i0 (.agg #[.string ⟨#[]⟩, .string ⟨#[]⟩, .int .i64 0]) 3 40 Tryz.underlying23 hi0 hz0 hz1 hz2 rfl (by decide) _ _ _ rfl (HOZ.out.alloc _) ⟨wr.heap.size + 1, 0, none⟩ 1 1 (Pp.cellsG y) rfl rfl (by rw [← hszz]; exact new_cellsG wz y _) (Pp.cellsG_one _) (by unfold maxLen; omega) (by omega) (by simp; omega) ?_)
            intro v2 w2 ho2 hgr2 hnn2
            rw [← hwz] at hgr2
            rw [Pp.flatG_snoc] at ho2
            have hown2 : w2.ownsRow w.heap.size 83 3 v2 (X ++ [y]).length (Pp.flatG (X ++ [y])) := by rw [List.length_append]; exact ho2
            have hbel2 : Below w.heap.size w w2 := (HBZ.out.alloc HBZ.out.size _).grown hgr2 (by simp; omega) (fun g hg => (HOW.out.lt g hg).1)
            have HO2 := ghid hown2
            have HB2 := ghid hbel2
            clear ho2 hgr2 hnn2 hown2 hbel2 hwz q0 q1 q2
            go_wp2_with fail
            go_roundw
            case rel => exact ⟨k + 1, by omega, by simp, by rw [HST.out], by rw [HST.out]; exact HO2.out, HB2.out⟩
            case measure => simp [intOf]; omega
          · have HST : Hid (Pp.gputS ⟨f, m, r⟩ b0 (G.take (k + 1)) = (X, true)) := (by rw [hstp]; exact Pp.gstp_nn (Pp.oth_no t1 t3 s1 s3) : Pp.gputS ⟨f, m, r⟩ b0 (G.take (k + 1)) = (X, true))
            clear hstp
            go_wp2_with fail
            go_roundw
            case rel => exact ⟨k + 1, by omega, by simp, by rw [HST.out], by rw [HST.out]; first | exact HOZ.out | (rw [← hwz]; exact HOZ.out), by first | exact HBZ.out | (rw [← hwz]; exact HBZ.out)⟩
            case measure => simp [intOf]; omega
          · have HST : Hid (Pp.gputS ⟨f, m, r⟩ b0 (G.take (k + 1)) = (X ++ [y], true)) := (by rw [hstp]; exact Pp.gstp_ny (Or.inl rfl) (Pp.oth_wh t1 t3 s3) : Pp.gputS ⟨f, m, r⟩ b0 (G.take (k + 1)) = (X ++ [y], true))
            clear hstp
            go_wp2_with (at_builtin; rw [← hwz]; refine wpList_append_own _ rfl _ _ 23 rfl w.heap.size 83 i0 (.agg #[.string ⟨#[]⟩, .string ⟨#[]⟩, .int .i64 0]) 3 40 Tryz.underlying23 hi0 hz0 hz1 hz2 rfl (by decide) _ _ _ rfl (HOZ.out.alloc _) ⟨wr.heap.size + 1, 0, none⟩ 1 1 (Pp.cellsG y) rfl rfl (by rw [← hszz]; exact new_cellsG wz y _) (Pp.cellsG_one _) (by unfold maxLen; omega) (by omega) (by simp; omega) ?_)
            intro v2 w2 ho2 hgr2 hnn2
            rw [← hwz] at hgr2
            rw [Pp.flatG_snoc] at ho2
            have hown2 : w2.ownsRow w.heap.size 83 3 v2 (X ++ [y]).length (Pp.flatG (X ++ [y])) := by rw [List.length_append]; exact ho2
            have hbel2 : Below w.heap.size w w2 := (HBZ.out.alloc HBZ.out.size _).grown hgr2 (by simp; omega) (fun g hg => (HOW.out.lt g hg).1)
            have HO2 := ghid hown2
            have HB2 := ghid hbel2
            clear ho2 hgr2 hnn2 hown2 hbel2 hwz q0 q1 q2
            go_wp2_with fail
            go_roundw
            case rel => exact ⟨k + 1, by omega, by simp, by rw [HST.out], by rw [HST.out]; exact HO2.out, HB2.out⟩
            case measure => simp [intOf]; omega
        · have HST : Hid (Pp.gputS ⟨f, m, r⟩ b0 (G.take (k + 1)) = (X ++ [y], true)) := (by rw [hstp]; exact Pp.gstp_ny (Or.inl rfl) (Pp.oth_fo t3) : Pp.gputS ⟨f, m, r⟩ b0 (G.take (k + 1)) = (X ++ [y], true))
          clear hstp
          go_wp2_with (at_builtin; rw [← hwz]; refine wpList_append_own _ rfl _ _ 23 rfl w.heap.size 83 i0 (.agg #[.string ⟨#[]⟩, .string ⟨#[]⟩, .int .i64 0]) 3 40 Tryz.underlying23 hi0 hz0 hz1 hz2 rfl (by decide) _ _ _ rfl (HOZ.out.alloc _) ⟨wr.heap.size + 1, 0, none⟩ 1 1 (Pp.cellsG y) rfl rfl (by rw [← hszz]; exact new_cellsG wz y _) (Pp.cellsG_one _) (by unfold maxLen; omega) (by omega) (by simp; omega) ?_)
          intro v2 w2 ho2 hgr2 hnn2
          rw [← hwz] at hgr2
          rw [Pp.flatG_snoc] at ho2
          have hown2 : w2.ownsRow w.heap.size 83 3 v2 (X ++ [y]).length (Pp.flatG (X ++ [y])) := by rw [List.length_append]; exact ho2
          have hbel2 : Below w.heap.size w w2 := (HBZ.out.alloc HBZ.out.size _).grown hgr2 (by simp; omega) (fun g hg => (HOW.out.lt g hg).1)
          have HO2 := ghid hown2
          have HB2 := ghid hbel2
          clear ho2 hgr2 hnn2 hown2 hbel2 hwz q0 q1 q2
          go_wp2_with fail
          go_roundw
          case rel => exact ⟨k + 1, by omega, by simp, by rw [HST.out], by rw [HST.out]; exact HO2.out, HB2.out⟩
          case measure => simp [intOf]; omega
      | false =>
        rcases Pp.tri y.fo f with ⟨t1, t2, t3, t4⟩ | ⟨t1, t2, t3, t4⟩ | ⟨t1, t2, t3, t4⟩
        · have HST : Hid (Pp.gputS ⟨f, m, r⟩ b0 (G.take (k + 1)) = (X ++ [y], false)) := (by rw [hstp]; exact Pp.gstp_ny (Or.inr (by rw [Pp.ltG]; simp [Pp.ls, t1] : Pp.ltG y ⟨f, m, r⟩ = true)) (Pp.oth_fo t3) : Pp.gputS ⟨f, m, r⟩ b0 (G.take (k + 1)) = (X ++ [y], false))
          clear hstp
          go_wp2_with (at_builtin; rw [← hwz]; refine wpList_append_own _ rfl _ _ 23 rfl w.heap.size 83 i0 (.agg #[.string ⟨#[]⟩, .string ⟨#[]⟩, .int .i64 0]) 3 40 Tryz.underlying23 hi0 hz0 hz1 hz2 rfl (by decide) _ _ _ rfl (HOZ.out.alloc _) ⟨wr.heap.size + 1, 0, none⟩ 1 1 (Pp.cellsG y) rfl rfl (by rw [← hszz]; exact new_cellsG wz y _) (Pp.cellsG_one _) (by unfold maxLen; omega) (by omega) (by simp; omega) ?_)
          intro v2 w2 ho2 hgr2 hnn2
          rw [← hwz] at hgr2
          rw [Pp.flatG_snoc] at ho2
          have hown2 : w2.ownsRow w.heap.size 83 3 v2 (X ++ [y]).length (Pp.flatG (X ++ [y])) := by rw [List.length_append]; exact ho2
          have hbel2 : Below w.heap.size w w2 := (HBZ.out.alloc HBZ.out.size _).grown hgr2 (by simp; omega) (fun g hg => (HOW.out.lt g hg).1)
          have HO2 := ghid hown2
          have HB2 := ghid hbel2
          clear ho2 hgr2 hnn2 hown2 hbel2 hwz q0 q1 q2
          go_wp2_with fail
          go_roundw
          case rel => exact ⟨k + 1, by omega, by simp, by rw [HST.out], by rw [HST.out]; exact HO2.out, HB2.out⟩
          case measure => simp [intOf]; omega
        · rcases Pp.tri y.wh m with ⟨s1, s2, s3, s4⟩ | ⟨s1, s2, s3, s4⟩ | ⟨s1, s2, s3, s4⟩
          · have HST : Hid (Pp.gputS ⟨f, m, r⟩ b0 (G.take (k + 1)) = (X ++ [y], false)) := (by rw [hstp]; exact Pp.gstp_ny (Or.inr (by rw [Pp.ltG]; simp [Pp.ls, t1, t2, s1] : Pp.ltG y ⟨f, m, r⟩ = true)) (Pp.oth_wh t1 t3 s3) : Pp.gputS ⟨f, m, r⟩ b0 (G.take (k + 1)) = (X ++ [y], false))
            clear hstp
            go_wp2_with (at_builtin; rw [← hwz]; refine wpList_append_own _ rfl _ _ 23 rfl w.heap.size 83 i0 (.agg #[.string ⟨#[]⟩, .string ⟨#[]⟩, .int .i64 0]) 3 40 Tryz.underlying23 hi0 hz0 hz1 hz2 rfl (by decide) _ _ _ rfl (HOZ.out.alloc _) ⟨wr.heap.size + 1, 0, none⟩ 1 1 (Pp.cellsG y) rfl rfl (by rw [← hszz]; exact new_cellsG wz y _) (Pp.cellsG_one _) (by unfold maxLen; omega) (by omega) (by simp; omega) ?_)
            intro v2 w2 ho2 hgr2 hnn2
            rw [← hwz] at hgr2
            rw [Pp.flatG_snoc] at ho2
            have hown2 : w2.ownsRow w.heap.size 83 3 v2 (X ++ [y]).length (Pp.flatG (X ++ [y])) := by rw [List.length_append]; exact ho2
            have hbel2 : Below w.heap.size w w2 := (HBZ.out.alloc HBZ.out.size _).grown hgr2 (by simp; omega) (fun g hg => (HOW.out.lt g hg).1)
            have HO2 := ghid hown2
            have HB2 := ghid hbel2
            clear ho2 hgr2 hnn2 hown2 hbel2 hwz q0 q1 q2
            go_wp2_with fail
            go_roundw
            case rel => exact ⟨k + 1, by omega, by simp, by rw [HST.out], by rw [HST.out]; exact HO2.out, HB2.out⟩
            case measure => simp [intOf]; omega
          · have HST : Hid (Pp.gputS ⟨f, m, r⟩ b0 (G.take (k + 1)) = (X ++ [Gr.mk f m r], true)) := (by rw [hstp]; exact Pp.gstp_yn ((by rw [Pp.ltG]; simp [Pp.ls, t1, t2, s1] : Pp.ltG y ⟨f, m, r⟩ = false)) (Pp.oth_no t1 t3 s1 s3) : Pp.gputS ⟨f, m, r⟩ b0 (G.take (k + 1)) = (X ++ [Gr.mk f m r], true))
            clear hstp
            go_wp2_with (at_builtin; rw [← hwz]; refine wpList_append_own _ rfl _ _ 23 rfl w.heap.size 83 i0 (.agg #[.string ⟨#[]⟩, .string ⟨#[]⟩, .int .i64 0]) 3 40 Tryz.underlying23 hi0 hz0 hz1 hz2 rfl (by decide) _ _ _ rfl (HOZ.out.alloc _) ⟨wr.heap.size + 1, 0, none⟩ 1 1 (Pp.cellsG (Gr.mk f m r)) rfl rfl (by rw [← hszz]; exact new_cellsG wz ⟨f, m, r⟩ _) (Pp.cellsG_one _) (by unfold maxLen; omega) (by omega) (by simp; omega) ?_)
            intro v2 w2 ho2 hgr2 hnn2
            rw [← hwz] at hgr2
            rw [Pp.flatG_snoc] at ho2
            have hown2 : w2.ownsRow w.heap.size 83 3 v2 (X ++ [Gr.mk f m r]).length (Pp.flatG (X ++ [Gr.mk f m r])) := by rw [List.length_append]; exact ho2
            have hbel2 : Below w.heap.size w w2 := (HBZ.out.alloc HBZ.out.size _).grown hgr2 (by simp; omega) (fun g hg => (HOW.out.lt g hg).1)
            have p0 : w2.cell? ⟨wr.heap.size, 0, none⟩ = some (.string y.fo) := grown_cell hgr2 (by simp; omega) (fun e => Nat.lt_irrefl _ (HOW.out.lt _ e).2) ((HZ.out _ _).trans q0)
            have p1 : w2.cell? ⟨wr.heap.size, 1, none⟩ = some (.string y.wh) := grown_cell hgr2 (by simp; omega) (fun e => Nat.lt_irrefl _ (HOW.out.lt _ e).2) ((HZ.out _ _).trans q1)
            have p2 : w2.cell? ⟨wr.heap.size, 2, none⟩ = some (.int .i64 y.ri) := grown_cell hgr2 (by simp; omega) (fun e => Nat.lt_irrefl _ (HOW.out.lt _ e).2) ((HZ.out _ _).trans q2)
            have HO2 := ghid hown2
            have HB2 := ghid hbel2
            have hsz2 := hbel2.size
            clear ho2 hgr2 hnn2 hown2 hbel2 hwz q0 q1 q2
            go_wp2_with fail
            go_roundw
            case rel => exact ⟨k + 1, by omega, by simp, by rw [HST.out], by rw [HST.out]; exact HO2.out, HB2.out⟩
            case measure => simp [intOf]; omega
          · have HST : Hid (Pp.gputS ⟨f, m, r⟩ b0 (G.take (k + 1)) = (X ++ [Gr.mk f m r] ++ [y], true)) := (by rw [hstp]; exact Pp.gstp_yy ((by rw [Pp.ltG]; simp [Pp.ls, t1, t2, s1] : Pp.ltG y ⟨f, m, r⟩ = false)) (Pp.oth_wh t1 t3 s3) : Pp.gputS ⟨f, m, r⟩ b0 (G.take (k + 1)) = (X ++ [Gr.mk f m r] ++ [y], true))
            clear hstp
            go_wp2_with (at_builtin; rw [← hwz]; refine wpList_append_own _ rfl _ _ 23 rfl w.heap.size 83 i0 (.agg #[.string ⟨#[]⟩, .string ⟨#[]⟩, .int .i64 0]) 3 40 Tryz.underlying23 hi0 hz0 hz1 hz2 rfl (by decide) _ _ _ rfl (HOZ.out.alloc _) ⟨wr.heap.size + 1, 0, none⟩ 1 1 (Pp.cellsG (Gr.mk f m r)) rfl rfl (by rw [← hszz]; exact new_cellsG wz ⟨f, m, r⟩ _) (Pp.cellsG_one _) (by unfold maxLen; omega) (by omega) (by simp; omega) ?_)
            intro v2 w2 ho2 hgr2 hnn2
            rw [← hwz] at hgr2
            rw [Pp.flatG_snoc] at ho2
            have hown2 : w2.ownsRow w.heap.size 83 3 v2 (X ++ [Gr.mk f m r]).length (Pp.flatG (X ++ [Gr.mk f m r])) := by rw [List.length_append]; exact ho2
            have hbel2 : Below w.heap.size w w2 := (HBZ.out.alloc HBZ.out.size _).grown hgr2 (by simp; omega) (fun g hg => (HOW.out.lt g hg).1)
            have p0 : w2.cell? ⟨wr.heap.size, 0, none⟩ = some (.string y.fo) := grown_cell hgr2 (by simp; omega) (fun e => Nat.lt_irrefl _ (HOW.out.lt _ e).2) ((HZ.out _ _).trans q0)
            have p1 : w2.cell? ⟨wr.heap.size, 1, none⟩ = some (.string y.wh) := grown_cell hgr2 (by simp; omega) (fun e => Nat.lt_irrefl _ (HOW.out.lt _ e).2) ((HZ.out _ _).trans q1)
            have p2 : w2.cell? ⟨wr.heap.size, 2, none⟩ = some (.int .i64 y.ri) := grown_cell hgr2 (by simp; omega) (fun e => Nat.lt_irrefl _ (HOW.out.lt _ e).2) ((HZ.out _ _).trans q2)
            have HO2 := ghid hown2
            have HB2 := ghid hbel2
            have hsz2 := hbel2.size
            clear ho2 hgr2 hnn2 hown2 hbel2 hwz q0 q1 q2
            have hlx : (X ++ [Gr.mk f m r]).length = X.length + 1 := by simp
            go_wp2_with (at_builtin; refine wpList_append_own _ rfl _ _ 23 rfl w.heap.size 83 i0 (.agg #[.string ⟨#[]⟩, .string ⟨#[]⟩, .int .i64 0]) 3 40 Tryz.underlying23 hi0 hz0 hz1 hz2 rfl (by decide) _ _ _ rfl (HO2.out.alloc _) ⟨w2.heap.size, 0, none⟩ 1 1 (Pp.cellsG y) rfl rfl (new_cellsG w2 y _) (Pp.cellsG_one _) (by unfold maxLen; omega) (by omega) (by simp; omega) ?_)
            intro v3 w3 ho3 hgr3 hnn3
            rw [Pp.flatG_snoc] at ho3
            have hown3 : w3.ownsRow w.heap.size 83 3 v3 (X ++ [Gr.mk f m r] ++ [y]).length (Pp.flatG (X ++ [Gr.mk f m r] ++ [y])) := by rw [List.length_append, hlx]; exact ho3
            have hbel3 : Below w.heap.size w w3 := (HB2.out.alloc HB2.out.size _).grown hgr3 (by simp; omega) (fun g hg => (HO2.out.lt g hg).1)
            have HO3 := ghid hown3
            have HB3 := ghid hbel3
            clear ho3 hgr3 hnn3 hown3 hbel3 p0 p1 p2
            go_wp2_with fail
            go_roundw
            case rel => exact ⟨k + 1, by omega, by simp, by rw [HST.out], by rw [HST.out]; exact HO3.out, HB3.out⟩
            case measure => simp [intOf]; omega
        · have HST : Hid (Pp.gputS ⟨f, m, r⟩ b0 (G.take (k + 1)) = (X ++ [Gr.mk f m r] ++ [y], true)) := (by rw [hstp]; exact Pp.gstp_yy ((by rw [Pp.ltG]; simp [Pp.ls, t1, t2] : Pp.ltG y ⟨f, m, r⟩ = false)) (Pp.oth_fo t3) : Pp.gputS ⟨f, m, r⟩ b0 (G.take (k + 1)) = (X ++ [Gr.mk f m r] ++ [y], true))
          clear hstp
          go_wp2_with (at_builtin; rw [← hwz]; refine wpList_append_own _ rfl _ _ 23 rfl w.heap.size 83 i0 (.agg #[.string ⟨#[]⟩, .string ⟨#[]⟩, .int .i64 0]) 3 40 Tryz.underlying23 hi0 hz0 hz1 hz2 rfl (by decide) _ _ _ rfl (HOZ.out.alloc _) ⟨wr.heap.size + 1, 0, none⟩ 1 1 (Pp.cellsG (Gr.mk f m r)) rfl rfl (by rw [← hszz]; exact new_cellsG wz ⟨f, m, r⟩ _) (Pp.cellsG_one _) (by unfold maxLen; omega) (by omega) (by simp; omega) ?_)
          intro v2 w2 ho2 hgr2 hnn2
          rw [← hwz] at hgr2
          rw [Pp.flatG_snoc] at ho2
          have hown2 : w2.ownsRow w.heap.size 83 3 v2 (X ++ [Gr.mk f m r]).length (Pp.flatG (X ++ [Gr.mk f m r])) := by rw [List.length_append]; exact ho2
          have hbel2 : Below w.heap.size w w2 := (HBZ.out.alloc HBZ.out.size _).grown hgr2 (by simp; omega) (fun g hg => (HOW.out.lt g hg).1)
          have p0 : w2.cell? ⟨wr.heap.size, 0, none⟩ = some (.string y.fo) := grown_cell hgr2 (by simp; omega) (fun e => Nat.lt_irrefl _ (HOW.out.lt _ e).2) ((HZ.out _ _).trans q0)
          have p1 : w2.cell? ⟨wr.heap.size, 1, none⟩ = some (.string y.wh) := grown_cell hgr2 (by simp; omega) (fun e => Nat.lt_irrefl _ (HOW.out.lt _ e).2) ((HZ.out _ _).trans q1)
          have p2 : w2.cell? ⟨wr.heap.size, 2, none⟩ = some (.int .i64 y.ri) := grown_cell hgr2 (by simp; omega) (fun e => Nat.lt_irrefl _ (HOW.out.lt _ e).2) ((HZ.out _ _).trans q2)
          have HO2 := ghid hown2
          have HB2 := ghid hbel2
          have hsz2 := hbel2.size
          clear ho2 hgr2 hnn2 hown2 hbel2 hwz q0 q1 q2
          have hlx : (X ++ [Gr.mk f m r]).length = X.length + 1 := by simp
          go_wp2_with (at_builtin; refine wpList_append_own _ rfl _ _ 23 rfl w.heap.size 83 i0 (.agg #[.string ⟨#[]⟩, .string ⟨#[]⟩, .int .i64 0]) 3 40 Tryz.underlying23 hi0 hz0 hz1 hz2 rfl (by decide) _ _ _ rfl (HO2.out.alloc _) ⟨w2.heap.size, 0, none⟩ 1 1 (Pp.cellsG y) rfl rfl (new_cellsG w2 y _) (Pp.cellsG_one _) (by unfold maxLen; omega) (by omega) (by simp; omega) ?_)
          intro v3 w3 ho3 hgr3 hnn3
          rw [Pp.flatG_snoc] at ho3
          have hown3 : w3.ownsRow w.heap.size 83 3 v3 (X ++ [Gr.mk f m r] ++ [y]).length (Pp.flatG (X ++ [Gr.mk f m r] ++ [y])) := by rw [List.length_append, hlx]; exact ho3
          have hbel3 : Below w.heap.size w w3 := (HB2.out.alloc HB2.out.size _).grown hgr3 (by simp; omega) (fun g hg => (HO2.out.lt g hg).1)
          have HO3 := ghid hown3
          have HB3 := ghid hbel3
          clear ho3 hgr3 hnn3 hown3 hbel3 p0 p1 p2
          go_wp2_with fail
          go_roundw
          case rel => exact ⟨k + 1, by omega, by simp, by rw [HST.out], by rw [HST.out]; exact HO3.out, HB3.out⟩
          case measure => simp [intOf]; omega
    · have e : G.take k = G := List.take_of_length_le (by omega)
      rw [e] at hown hle ⊢
      have HR : Hid (∀ X pb, Pp.gputS ⟨f, m, r⟩ b0 G = (X, pb) → Pp.gputR ⟨f, m, r⟩ b0 G = if pb = true then X else X ++ [Gr.mk f m r]) := (fun X pb e => by rw [Pp.gputR, e] : ∀ X pb, Pp.gputS ⟨f, m, r⟩ b0 G = (X, pb) → Pp.gputR ⟨f, m, r⟩ b0 G = if pb = true then X else X ++ [Gr.mk f m r])
      obtain ⟨X, hX⟩ : ∃ X, X = (Pp.gputS ⟨f, m, r⟩ b0 G).1 := ⟨_, rfl⟩
      obtain ⟨pb, hpb⟩ : ∃ pb, pb = (Pp.gputS ⟨f, m, r⟩ b0 G).2 := ⟨_, rfl⟩
      rw [← hX] at hown hle
      rw [← hpb]
      have HRS := ghid (HR.out X pb (by rw [hX, hpb]))
      clear hX hpb
      have hbsz := hbel.size
      cases pb with
      | true =>
        have HRX : Hid (Pp.gputR ⟨f, m, r⟩ b0 G = X) := (by rw [HRS.out]; rfl : Pp.gputR ⟨f, m, r⟩ b0 G = X)
        go_wp2_with fail
        go_ret
        exact ⟨_, rfl, by rw [HRX.out]; exact hown, hbel⟩
      | false =>
        have HRX : Hid (Pp.gputR ⟨f, m, r⟩ b0 G = X ++ [Gr.mk f m r]) := (by rw [HRS.out]; rfl : Pp.gputR ⟨f, m, r⟩ b0 G = X ++ [Gr.mk f m r])
        go_wp2_with (at_builtin; refine wpList_append_own _ rfl _ _ 23 rfl w.heap.size 83 i0 (.agg #[.string ⟨#[]⟩, .string ⟨#[]⟩, .int .i64 0]) 3 40 Tryz.underlying23 hi0 hz0 hz1 hz2 rfl (by decide) _ _ _ rfl (hown.alloc _) ⟨wr.heap.size, 0, none⟩ 1 1 (Pp.cellsG (Gr.mk f m r)) rfl rfl (new_cellsG wr ⟨f, m, r⟩ _) (Pp.cellsG_one _) (by unfold maxLen; omega) (by omega) (by simp; omega) ?_)
        intro v2 w2 ho2 hgr2 hnn2
        rw [Pp.flatG_snoc] at ho2
        have hown2 : w2.ownsRow w.heap.size 83 3 v2 (X ++ [Gr.mk f m r]).length (Pp.flatG (X ++ [Gr.mk f m r])) := by rw [List.length_append]; exact ho2
        have hbel2 : Below w.heap.size w w2 := (hbel.alloc hbel.size _).grown hgr2 (by simp; omega) (fun g hg => (hown.lt g hg).1)
        clear ho2 hgr2 hnn2 hown hbel
        go_wp2_with fail
        go_ret
        exact ⟨_, rfl, by rw [HRX.out]; exact hown2, hbel2⟩
end Go.Proofs.YtmdkecdhgjjceaaGreat
