/- What grant.checkAll and Right answer, and the reference's RightOf, for every list of grants. Grants in order: what is put, and sorted, is what is put into its place. -/
import Derived.Test.YtchlgpeiombmdaaGreatGC
set_option linter.unusedSimpArgs false
set_option linter.unusedVariables false
namespace Go.Proofs.YtchlgpeiombmdaaGreat
open Go.RowKit

namespace Pp
/-- Check of grants, then of names beside them. -/
def calE (G : List Gr) (ns : List ByteArray) : Int := if gchE G = 0 then nmsE ns else gchE G
theorem nms_cases (ns : List ByteArray) : nmsE ns = 0 ∨ nmsE ns = 1 := by
 rw [nmsE]; split
 · exact Or.inl rfl
 · exact Or.inr rfl
end Pp

set_option maxHeartbeats 1000000 in
theorem gcheckAll_any (G : List Gr) (v : Value) (ns : List ByteArray) (g cap : Nat) (w : World) (hv : LiesG w v G) (hs : SizedG G) (hg : g < w.heap.size) (hns : ∀ i (h : i < ns.length), (ns[i]).size ≤ 1000000000000000) (hl : ns.length ≤ 1000) (hc : ∀ i (h : i < ns.length), w.cell? ⟨g, 0 + i, none⟩ = some (.string ns[i])) :
    Calls Tryz.prog 28 #[v, .slice (some ⟨g, 0, none⟩) ns.length cap] w fun e w' => e = .returned (.int .i64 (Pp.calE G ns)) ∧ Below w.heap.size w w' := by
 have HV := ghid hv
 have HS := ghid hs
 have HN := ghid hns
 have HC := ghid hc
 clear hv hs hns hc
 by_cases h0 : Pp.gchE G = 0
 · have H0 := ghid h0
   have HE := hid (show Pp.nmsE ns = Pp.calE G ns from (if_pos h0).symm)
   clear h0
   go_enter Tryz.func28, Tryz.ntmps28
   go_wp2_with fail
   refine (gcheck_any G _ _ HV.out HS.out).mono ?_
   rintro e w1 ⟨rfl, hb1⟩
   rw [H0.out]
   go_wp2_with fail
   refine (names_any ns g 0 cap _ (Nat.lt_of_lt_of_le hg hb1.size) HN.out hl (fun i h => (hb1.cell (p := ⟨g, 0 + i, none⟩) hg).trans (HC.out i h))).mono ?_
   rintro e w2 ⟨rfl, hb2⟩
   generalize Pp.nmsE ns = y at *
   go_wp2
   go_ret
   exact ⟨Pp.ret_int HE.out, below_trans hb1 hb2⟩
 · have HE := hid (show Pp.gchE G = Pp.calE G ns from (if_neg h0).symm)
   have hz : (Pp.gchE G == 0) = false := by simpa using h0
   go_enter Tryz.func28, Tryz.ntmps28
   go_wp2_with fail
   refine (gcheck_any G _ _ HV.out HS.out).mono ?_
   rintro e w1 ⟨rfl, hb1⟩
   generalize Pp.gchE G = y at *
   go_wp2
   go_ret
   exact ⟨Pp.ret_int HE.out, hb1⟩
namespace Pp
def rigR (G : List Gr) (f h : ByteArray) : Int := if calE G [f, h] = 0 then rgt G f h else 0
end Pp

set_option maxRecDepth 100000 in
set_option maxHeartbeats 1000000 in
theorem right2_any (G : List Gr) (v : Value) (f h : ByteArray) (w : World) (hv : LiesG w v G) (hs : SizedG G) (hf : f.size ≤ 150000000000000) (hh : h.size ≤ 150000000000000) :
    Calls Tryz.prog 14 #[v, .string f, .string h] w fun e w' => e = .returned (.tuple #[.int .i64 (Pp.rigR G f h), .int .i64 (Pp.calE G [f, h])]) ∧ Below w.heap.size w w' := by
 have HV := ghid hv
 have HS := ghid hs
 clear hv hs
 have hsz : ∀ i (hi : i < [f, h].length), ([f, h][i]).size ≤ 1000000000000000 := fun i hi => by match i, hi with | 0, _ => exact Nat.le_trans hf (by decide) | 1, _ => exact Nat.le_trans hh (by decide)
 by_cases h0 : Pp.calE G [f, h] = 0
 · have HE := hid (show Pp.rgt G f h = Pp.rigR G f h from (if_pos h0).symm)
   have H0 := ghid h0
   rw [h0]
   clear h0
   go_enter Tryz.func14, Tryz.ntmps14
   go_wp2_with fail
   refine (gcheckAll_any G _ [f, h] w.heap.size 2 _ (HV.out.below ((Below.refl _ _).alloc (Nat.le_refl _) _)) HS.out (by simp) hsz (by simp) (fun i hi => by match i, hi with | 0, _ => simp | 1, _ => simp)).mono ?_
   rintro e w1 ⟨rfl, hb1⟩
   rw [H0.out]
   have hb01 : Below w.heap.size w w1 := ((Below.refl _ _).alloc (Nat.le_refl _) _).trans (hb1.mono (by simp))
   clear hb1
   go_wp2_with fail
   refine (right_any G _ f h _ (HV.out.below hb01)).mono ?_
   rintro e w2 ⟨rfl, hb2⟩
   rw [HE.out]
   have hb02 := below_trans hb01 hb2
   go_wp2
   go_ret2
   exact ⟨rfl, hb02⟩
 · have HE := hid (show 0 = Pp.rigR G f h from (if_neg h0).symm)
   have hz : (Pp.calE G [f, h] == 0) = false := by simpa using h0
   go_enter Tryz.func14, Tryz.ntmps14
   go_wp2_with fail
   refine (gcheckAll_any G _ [f, h] w.heap.size 2 _ (HV.out.below ((Below.refl _ _).alloc (Nat.le_refl _) _)) HS.out (by simp) hsz (by simp) (fun i hi => by match i, hi with | 0, _ => simp | 1, _ => simp)).mono ?_
   rintro e w1 ⟨rfl, hb1⟩
   have hb01 : Below w.heap.size w w1 := ((Below.refl _ _).alloc (Nat.le_refl _) _).trans (hb1.mono (by simp))
   go_wp2
   go_ret2
   exact ⟨by rw [← HE.out]; rfl, hb01⟩
end Go.Proofs.YtchlgpeiombmdaaGreat
set_option linter.unusedSimpArgs false
set_option linter.unusedVariables false
namespace Go.Proofs.YtchlgpeiombmdaaGreat.Pp

theorem gsorted_eq : ∀ {a b : List Gr}, a.Perm b → a.Pairwise (fun x y => ltG x y = true) → b.Pairwise (fun x y => ltG x y = true) → a = b
 | [], b, h, _, _ => by rw [List.nil_perm] at h; exact h.symm
 | x :: r, b, h, h1, h2 => by
  cases b with
  | nil => exact absurd h.length_eq (by simp)
  | cons y s =>
   have e : x = y := by
    have hx : x ∈ y :: s := h.subset (List.mem_cons_self ..)
    have hy : y ∈ x :: r := h.symm.subset (List.mem_cons_self ..)
    rcases List.mem_cons.1 hx with e | hx
    · exact e
    · rcases List.mem_cons.1 hy with e | hy
      · exact e.symm
      · have l1 := (List.pairwise_cons.1 h1).1 y hy
        have l2 := (List.pairwise_cons.1 h2).1 x hx
        have := ltG_trans x y x l1 l2
        rw [ltG_irr] at this; cases this
   subst e
   rw [gsorted_eq (List.perm_cons x |>.1 h) (List.pairwise_cons.1 h1).2 (List.pairwise_cons.1 h2).2]
theorem risG_pair : ∀ (L : List Gr), risG L = true ↔ L.Pairwise (fun x y => ltG x y = true)
 | [] => by simp [risG]
 | [_] => by simp [risG]
 | a :: b :: r => by
  rw [risG, Bool.and_eq_true, risG_pair (b :: r), ltG_c]
  constructor
  · rintro ⟨h1, h2⟩
    refine List.pairwise_cons.2 ⟨fun x hx => ?_, h2⟩
    rcases List.mem_cons.1 hx with rfl | hx
    · exact h1
    · exact ltG_trans _ _ _ h1 ((List.pairwise_cons.1 h2).1 x hx)
  · intro h
    exact ⟨(List.pairwise_cons.1 h).1 b (by simp), (List.pairwise_cons.1 h).2⟩
/-- Two grants are of one and the same in one folder just where neither comes ahead of the other. -/
theorem oth_iff (x e : Gr) : othG x e = true ↔ ltG e x = true ∨ ltG x e = true := by
 have h1 : decide (cG e x < 0) = ltG e x := ltG_c e x
 have h2 : decide (cG x e < 0) = ltG x e := ltG_c x e
 have key : cG e x = 0 ↔ cG x e = 0 := by
  have c0 : ∀ a b : ByteArray, cS a b = 0 ↔ cS b a = 0 := by
   intro a b
   rcases tri a b with ⟨t1, t2, t3, t4⟩ | ⟨t1, t2, t3, t4⟩ | ⟨t1, t2, t3, t4⟩
   · simp [cS, t1, t2, t4]
   · simp [cS, t1, t2, t3, t4]
   · simp [cS, t1, t2, t3]
  rw [cG, cG]
  by_cases hf : cS e.fo x.fo = 0
  · have hf' := (c0 _ _).1 hf
    rw [if_pos hf, if_pos hf']; exact c0 _ _
  · have hf' : ¬ cS x.fo e.fo = 0 := fun h => hf ((c0 _ _).1 h)
    rw [if_neg hf, if_neg hf']; exact c0 _ _
 have pos : ∀ a b : Gr, 0 < cG a b → cG b a < 0 := by
  intro a b h
  have p0 : ∀ u v : ByteArray, 0 < cS u v → cS v u < 0 := by
   intro u v hh
   rcases tri u v with ⟨t1, t2, t3, t4⟩ | ⟨t1, t2, t3, t4⟩ | ⟨t1, t2, t3, t4⟩
   · simp [cS, t1] at hh
   · simp [cS, t1, t3] at hh
   · simp [cS, t2]
  have z0 : ∀ u v : ByteArray, cS u v = 0 → cS v u = 0 := by
   intro u v hh
   rcases tri u v with ⟨t1, t2, t3, t4⟩ | ⟨t1, t2, t3, t4⟩ | ⟨t1, t2, t3, t4⟩
   · simp [cS, t1] at hh
   · simp [cS, t2, t4]
   · simp [cS, t1, t3] at hh
  rw [cG] at h ⊢
  by_cases hf : cS a.fo b.fo = 0
  · rw [if_pos hf] at h
    rw [if_pos (z0 _ _ hf)]; exact p0 _ _ h
  · rw [if_neg hf] at h
    have := p0 _ _ h
    rw [if_neg (by omega)]; exact this
 rw [othG, ← h1, ← h2, decide_eq_true_eq, decide_eq_true_eq]
 constructor
 · intro h
   have h0 : ¬ cG e x = 0 := by simpa using h
   by_cases hl : cG e x < 0
   · exact Or.inl hl
   · exact Or.inr (pos e x (by omega))
 · intro h
   have h0 : ¬ cG e x = 0 := by
    rcases h with h | h
    · omega
    · intro e0; have := key.1 e0; omega
   simpa using h0
def insG (x : Gr) : List Gr → List Gr
 | [] => [x]
 | y :: r => if ltG y x = true then y :: insG x r else x :: y :: r
theorem insG_perm (x : Gr) : ∀ L : List Gr, (insG x L).Perm (x :: L)
 | [] => List.Perm.refl _
 | y :: r => by
  rw [insG]; split
  · exact ((insG_perm x r).cons y).trans (List.Perm.swap x y r)
  · exact List.Perm.refl _
theorem insG_sorted (x : Gr) : ∀ {L : List Gr}, L.Pairwise (fun x y => ltG x y = true) → (∀ y ∈ L, othG x y = true) → (insG x L).Pairwise (fun x y => ltG x y = true)
 | [], _, _ => by simp [insG]
 | y :: r, h, hne => by
  rw [insG]; split
  · rename_i hy
    rw [List.pairwise_cons]
    refine ⟨fun z hz => ?_, insG_sorted x (List.pairwise_cons.1 h).2 fun z hz => hne z (List.mem_cons_of_mem _ hz)⟩
    rcases List.mem_cons.1 ((insG_perm x r).subset hz) with rfl | hz
    · exact hy
    · exact (List.pairwise_cons.1 h).1 z hz
  · rename_i hy
    have hxy : ltG x y = true := by
     rcases (oth_iff x y).1 (hne y (List.mem_cons_self ..)) with h1 | h1
     · exact absurd h1 hy
     · exact h1
    rw [List.pairwise_cons]
    refine ⟨fun z hz => ?_, h⟩
    rcases List.mem_cons.1 hz with rfl | hz
    · exact hxy
    · exact ltG_trans _ _ _ hxy ((List.pairwise_cons.1 h).1 z hz)
/-- What put makes of grants that rise: the grant in its place. -/
theorem put_ins {G M : List Gr} {x : Gr} (hG : G.Pairwise (fun x y => ltG x y = true)) (hp : M.Perm (outG x G ++ [x])) (hM : M.Pairwise (fun a b => ltG b a = false)) : M = insG x (outG x G) := by
 have hF : (outG x G).Pairwise (fun x y => ltG x y = true) := List.Pairwise.filter _ hG
 have ho : ∀ y ∈ outG x G, othG x y = true := fun y hy => (List.mem_filter.1 hy).2
 have hdist : (outG x G ++ [x]).Pairwise (fun a b => ltG a b = true ∨ ltG b a = true) := by
  rw [List.pairwise_append]
  refine ⟨hF.imp fun h => Or.inl h, by simp, fun a ha b hb => ?_⟩
  have : b = x := by simpa using hb
  subst this
  exact (oth_iff b a).1 (ho a ha)
 have hnd : M.Pairwise (fun a b => ltG a b = true ∨ ltG b a = true) := hp.symm.pairwise hdist (fun h => h.symm)
 refine gsorted_eq (hp.trans ?_) ((hM.and hnd).imp fun {a b} h => ?_) (insG_sorted x hF ho)
 · exact (List.perm_append_comm).trans (insG_perm x _).symm
 · rcases h.2 with h1 | h1
   · exact h1
   · rw [h.1] at h1; cases h1
end Go.Proofs.YtchlgpeiombmdaaGreat.Pp
