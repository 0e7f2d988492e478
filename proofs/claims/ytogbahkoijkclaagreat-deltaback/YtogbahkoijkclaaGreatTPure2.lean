/- Paths in order: comparing, and that a rising list is known by its entries. -/
import Derived.Test.YtogbahkoijkclaaGreatTPure
import Derived.Lib.Bytealg
set_option linter.unusedSimpArgs false
set_option linter.unusedVariables false
namespace Go.Proofs.YtogbahkoijkclaaGreat.Pp

theorem cmp_self : ∀ a : List UInt8, Lib.compareBytes a a = 0
  | [] => rfl
  | a :: r => by simp [Lib.compareBytes, cmp_self r]
theorem cmp_anti : ∀ a b : List UInt8, Lib.compareBytes b a = - Lib.compareBytes a b
  | [], [] => rfl
  | [], _ :: _ => rfl
  | _ :: _, [] => rfl
  | a :: r, b :: s => by
    rw [Lib.compareBytes, Lib.compareBytes]
    by_cases h1 : a < b
    · have h2 : ¬ b < a := fun h => by rw [UInt8.lt_iff_toNat_lt] at h h1; omega
      simp [h1, h2]
    · by_cases h2 : b < a
      · simp [h1, h2]
      · simp [h1, h2, cmp_anti r s]
theorem cmp_zero : ∀ a b : List UInt8, Lib.compareBytes a b = 0 → a = b
  | [], [], _ => rfl
  | [], _ :: _, h => by simp [Lib.compareBytes] at h
  | _ :: _, [], h => by simp [Lib.compareBytes] at h
  | a :: r, b :: s, h => by
    rw [Lib.compareBytes] at h
    by_cases h1 : a < b
    · simp [h1] at h
    · by_cases h2 : b < a
      · simp [h1, h2] at h
      · simp only [h1, h2, if_false] at h
        have e : a = b := UInt8.toNat_inj.1 (by rw [UInt8.lt_iff_toNat_lt] at h1 h2; omega)
        rw [e, cmp_zero r s h]
theorem cmp_range : ∀ a b : List UInt8, Lib.compareBytes a b = -1 ∨ Lib.compareBytes a b = 0 ∨ Lib.compareBytes a b = 1
  | [], [] => by simp [Lib.compareBytes]
  | [], _ :: _ => by simp [Lib.compareBytes]
  | _ :: _, [] => by simp [Lib.compareBytes]
  | a :: r, b :: s => by
    rw [Lib.compareBytes]
    split
    · simp
    · split
      · simp
      · exact cmp_range r s
theorem cmp_trans : ∀ a b c : List UInt8, Lib.compareBytes a b < 0 → Lib.compareBytes b c < 0 → Lib.compareBytes a c < 0
  | [], [], _, h, _ => by simp [Lib.compareBytes] at h
  | _, _ :: _, [], _, h => by simp [Lib.compareBytes] at h
  | _ :: _, [], _, h, _ => by simp [Lib.compareBytes] at h
  | [], _ :: _, _ :: _, _, _ => by simp [Lib.compareBytes]
  | a :: r, b :: s, c :: t, h1, h2 => by
    rw [Lib.compareBytes] at h1 h2 ⊢
    simp only [UInt8.lt_iff_toNat_lt] at *
    by_cases x1 : a.toNat < b.toNat
    · by_cases y1 : b.toNat < c.toNat
      · rw [if_pos (by omega)]; omega
      · by_cases y2 : c.toNat < b.toNat
        · rw [if_neg y1, if_pos y2] at h2; omega
        · rw [if_pos (by omega)]; omega
    · by_cases x2 : b.toNat < a.toNat
      · rw [if_neg x1, if_pos x2] at h1; omega
      · rw [if_neg x1, if_neg x2] at h1
        by_cases y1 : b.toNat < c.toNat
        · rw [if_pos (by omega)]; omega
        · by_cases y2 : c.toNat < b.toNat
          · rw [if_neg y1, if_pos y2] at h2; omega
          · rw [if_neg y1, if_neg y2] at h2
            rw [if_neg (by omega), if_neg (by omega)]
            exact cmp_trans r s t h1 h2
theorem less_cmp : ∀ a b : List UInt8, Op.bytesLess a b = decide (Lib.compareBytes a b < 0)
  | [], [] => by simp [Op.bytesLess, Lib.compareBytes]
  | [], _ :: _ => by simp [Op.bytesLess, Lib.compareBytes]
  | _ :: _, [] => by simp [Op.bytesLess, Lib.compareBytes]
  | a :: r, b :: s => by
    have ih := less_cmp r s
    rw [Lib.compareBytes]
    by_cases h1 : a < b
    · simp [Op.bytesLess, h1]
    · by_cases h2 : b < a
      · simp [Op.bytesLess, h1, h2]; try (intro e; subst e; exact absurd h2 (by simp))
      · have e : a = b := UInt8.toNat_inj.1 (by rw [UInt8.lt_iff_toNat_lt] at h1 h2; omega)
        subst e
        simp [Op.bytesLess, ih]

def cfE (x y : En) : Int := Lib.compareBytes x.path.data.toList y.path.data.toList
theorem lt_cfE (x y : En) : lt x y = decide (cfE x y < 0) := by rw [lt, less_cmp, Lib.toList_data, Lib.toList_data]; rfl
theorem lt_irrefl (x : En) : lt x x = false := by rw [lt_cfE, cfE, cmp_self]; rfl
theorem lt_trans (x y z : En) (h1 : lt x y = true) (h2 : lt y z = true) : lt x z = true := by
  rw [lt_cfE] at *; simp only [decide_eq_true_eq] at *; exact cmp_trans _ _ _ h1 h2
theorem lt_ntrans (x y z : En) (h1 : lt x y = false) (h2 : lt y z = false) : lt x z = false := by
  rw [lt_cfE, decide_eq_false_iff_not] at h1 h2 ⊢
  unfold cfE at h1 h2 ⊢
  intro h
  have a1 := cmp_anti x.path.data.toList y.path.data.toList
  have a2 := cmp_anti y.path.data.toList z.path.data.toList
  by_cases e1 : Lib.compareBytes x.path.data.toList y.path.data.toList = 0
  · rw [cmp_zero _ _ e1] at h; exact h2 h
  · by_cases e2 : Lib.compareBytes y.path.data.toList z.path.data.toList = 0
    · rw [← cmp_zero _ _ e2] at h; exact h1 h
    · have := cmp_trans _ _ _ (show Lib.compareBytes z.path.data.toList y.path.data.toList < 0 by omega) (show Lib.compareBytes y.path.data.toList x.path.data.toList < 0 by omega)
      have a3 := cmp_anti x.path.data.toList z.path.data.toList
      omega
/-- Neither before the other: one path. -/
theorem lt_same {x y : En} (h1 : lt x y = false) (h2 : lt y x = false) : x.path.data.toList = y.path.data.toList := by
  rw [lt_cfE, decide_eq_false_iff_not] at h1 h2
  unfold cfE at h1 h2
  have a1 := cmp_anti x.path.data.toList y.path.data.toList
  exact cmp_zero _ _ (by omega)

/-- Two lists in strict order that have the same entries are one. -/
theorem sorted_eq : ∀ {a b : List En}, a.Perm b → a.Pairwise (fun x y => lt x y = true) → b.Pairwise (fun x y => lt x y = true) → a = b
  | [], b, h, _, _ => by rw [List.nil_perm] at h; exact h.symm
  | x :: r, b, h, h1, h2 => by
    cases b with
    | nil => exact absurd h.length_eq (by simp)
    | cons y s =>
      have e : x = y := by
        have hx : x ∈ y :: s := h.subset (List.mem_cons_self ..)
        have hy : y ∈ x :: r := h.symm.subset (List.mem_cons_self ..)
        rcases List.mem_cons.1 hx with e | hx
        · exact e
        · rcases List.mem_cons.1 hy with e | hy
          · exact e.symm
          · have l1 := (List.pairwise_cons.1 h1).1 y hy
            have l2 := (List.pairwise_cons.1 h2).1 x hx
            have := lt_trans x y x l1 l2
            rw [lt_irrefl] at this; cases this
      subst e
      rw [sorted_eq (List.perm_cons x |>.1 h) (List.pairwise_cons.1 h1).2 (List.pairwise_cons.1 h2).2]
theorem rises_pair : ∀ (L : List En), risesB L = true ↔ L.Pairwise (fun x y => lt x y = true)
  | [] => by simp [risesB]
  | [_] => by simp [risesB]
  | a :: b :: r => by
    rw [risesB, Bool.and_eq_true, rises_pair (b :: r)]
    constructor
    · rintro ⟨h1, h2⟩
      refine List.pairwise_cons.2 ⟨fun x hx => ?_, h2⟩
      rcases List.mem_cons.1 hx with rfl | hx
      · exact h1
      · exact lt_trans a b x h1 ((List.pairwise_cons.1 h2).1 x hx)
    · intro h
      have h := List.pairwise_cons.1 h
      exact ⟨h.1 b (by simp), h.2⟩
/-- Where an entry belongs. -/
def ins (x : En) : List En → List En
  | [] => [x]
  | y :: r => if lt y x = true then y :: ins x r else x :: y :: r
theorem ins_perm (x : En) : ∀ L : List En, (ins x L).Perm (x :: L)
  | [] => List.Perm.refl _
  | y :: r => by
    rw [ins]; split
    · exact ((ins_perm x r).cons y).trans (List.Perm.swap x y r)
    · exact List.Perm.refl _
theorem ins_sorted (x : En) : ∀ {L : List En}, L.Pairwise (fun x y => lt x y = true) → (∀ y ∈ L, y.path.data.toList ≠ x.path.data.toList) → (ins x L).Pairwise (fun x y => lt x y = true)
  | [], _, _ => by simp [ins]
  | y :: r, h, hne => by
    rw [ins]; split
    · rename_i hy
      rw [List.pairwise_cons]
      refine ⟨fun z hz => ?_, ins_sorted x (List.pairwise_cons.1 h).2 fun z hz => hne z (List.mem_cons_of_mem _ hz)⟩
      rcases List.mem_cons.1 ((ins_perm x r).subset hz) with rfl | hz
      · exact hy
      · exact (List.pairwise_cons.1 h).1 z hz
    · rename_i hy
      have hyf : lt y x = false := by simpa using hy
      have hxy : lt x y = true := by
        cases e : lt x y with
        | true => rfl
        | false => exact absurd (lt_same hyf e) (hne y (by simp))
      rw [List.pairwise_cons]
      refine ⟨fun z hz => ?_, h⟩
      rcases List.mem_cons.1 hz with rfl | hz
      · exact hxy
      · exact lt_trans x y z hxy ((List.pairwise_cons.1 h).1 z hz)
/-- What a sort by paths gives, where an entry came behind entries in order that are at other paths. -/
theorem sort_ins {x : En} {L M : List En} (hp : M.Perm (L ++ [x])) (hM : M.Pairwise (fun a b => lt b a = false)) (hL : L.Pairwise (fun x y => lt x y = true)) (hne : ∀ y ∈ L, y.path.data.toList ≠ x.path.data.toList) : M = ins x L := by
  have hI := ins_sorted x hL hne
  have hperm : M.Perm (ins x L) := hp.trans ((List.perm_append_singleton x L).trans (ins_perm x L).symm)
  refine sorted_eq hperm ?_ hI
  have hnd : (ins x L).Pairwise (fun a b => a.path.data.toList ≠ b.path.data.toList) := hI.imp fun {a b} h e => by
    have : lt a b = lt a a := by rw [lt_cfE, lt_cfE]; unfold cfE; rw [← e]
    rw [this, lt_irrefl] at h; cases h
  have hnd2 : M.Pairwise (fun a b => a.path.data.toList ≠ b.path.data.toList) := hperm.symm.pairwise hnd (fun h e => h e.symm)
  have hboth := hM.and hnd2
  refine hboth.imp fun {a b} h => ?_
  cases e : lt a b with
  | true => rfl
  | false => exact absurd (lt_same e h.1) h.2
end Go.Proofs.YtogbahkoijkclaaGreat.Pp
