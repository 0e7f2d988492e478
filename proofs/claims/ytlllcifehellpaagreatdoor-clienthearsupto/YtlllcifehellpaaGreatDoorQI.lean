/- Versions do not matter while a merge goes on: mathematics. The reference's merge as mathematics: paths put in order, what stays and goes with one version, and that it is alike to what the program has. The reference's merge as mathematics: folders that are made; the names of a path and its folders. What the reference's HasText and PutText answer, of texts that rise: a text is put where it belongs, if it is not there. What the reference's PutText answers of the paths of entries that rise. -/
import Derived.Test.YtlllcifehellpaaGreatDoorQA
import Derived.Test.YtlllcifehellpaaGreatDoorPH
import Derived.Test.YtlllcifehellpaaGreatDoorPU
import Derived.BigQuiet
import Derived.Deep.QuietTactic
import Derived.Deep.RegionHeld3
import Derived.Deep.RegionLaw
import Derived.Deep.RegionLawGrows
set_option linter.unusedSimpArgs false
set_option linter.unusedVariables false
namespace Go.Proofs.YtlllcifehellpaaGreatDoor
open Go.RowKit Go.Maps

namespace Mg
/-- Alike at each path. -/
def Sim (N N' : List En) : Prop := ∀ p, lk (st N p) (st N' p) = true
theorem Sim.w {N N' : List En} (h : Sim N N') (p : List UInt8) : (st N p).w = (st N' p).w := (lk_iff.1 (h p)).1
theorem free_sim {M T N N' : List En} (h : Sim N N') (p : List UInt8) : free M T N p = free M T N' p := by rw [free, free, h.w]
theorem asdF_sim {M T N N' : List En} (h : Sim N N') (p : List UInt8) : ∀ f n, asdF M T N p f n = asdF M T N' p f n
  | 0, _ => rfl
  | f + 1, n => by rw [asdF, asdF, free_sim h, asdF_sim h p f (n + 1)]
theorem asd_sim {M T N N' : List En} (h : Sim N N') (p : List UInt8) : asd M T N p = asd M T N' p := asdF_sim h p 99 1
theorem Sim.put {N N' : List En} {e e' : En} (hN : Sp.Rise N) (hN' : Sp.Rise N') (h : Sim N N') (hp : e.path.data.toList = e'.path.data.toList) (he : lk (spo e) (spo e') = true) : Sim (Sp.put1 e N) (Sp.put1 e' N') := by
  intro p
  rw [st_put1 hN, st_put1 hN', hp]
  split
  · exact he
  · exact h p
theorem mkf_sim {M T N N' X : List En} {C Y : CC} {r : ByteArray} (hN : Sp.Rise N) (hN' : Sp.Rise N') (h : Sim N N') : (mkf M T N C r = none ↔ mkf M T N' C r = none) ∧ ∀ X Y, mkf M T N C r = some (X, Y) → ∃ X', mkf M T N' C r = some (X', Y) ∧ Sp.Rise X ∧ Sp.Rise X' ∧ Sim X X' := by
  have hw := h.w r.data.toList
  by_cases h2 : (st N r.data.toList).w = 2
  · have h2' : (st N' r.data.toList).w = 2 := by omega
    cases ha : asd M T N r.data.toList with
    | none =>
      have ha' : asd M T N' r.data.toList = none := by rw [← asd_sim h]; exact ha
      rw [mkf_no h2 ha, mkf_no h2' ha']
      exact ⟨Iff.rfl, fun X Y hh => by cases hh⟩
    | some q =>
      have ha' : asd M T N' r.data.toList = some q := by rw [← asd_sim h]; exact ha
      rw [mkf_some h2 ha, mkf_some h2' ha']
      refine ⟨⟨(fun hh => by cases hh), (fun hh => by cases hh)⟩, fun X Y hh => ?_⟩
      injection hh with hh
      injection hh with e1 e2
      have r1 := Sp.put1_rise (e := file q (st N r.data.toList)) hN
      have r2 := Sp.put1_rise (e := file q (st N' r.data.toList)) hN'
      have s1 : Sim (Sp.put1 (file q (st N r.data.toList)) N) (Sp.put1 (file q (st N' r.data.toList)) N') := h.put hN hN' rfl (lk_iff.2 ⟨rfl, (lk_iff.1 (h r.data.toList)).2⟩)
      rw [← e1, ← e2]
      exact ⟨_, rfl, Sp.put1_rise r1, Sp.put1_rise r2, s1.put r1 r2 rfl (lk_refl _)⟩
  · have h2' : ¬ (st N' r.data.toList).w = 2 := by omega
    rw [mkf_else h2, mkf_else h2']
    refine ⟨⟨(fun hh => by cases hh), (fun hh => by cases hh)⟩, fun X Y hh => ?_⟩
    injection hh with hh
    injection hh with e1 e2
    rw [← e1, ← e2]
    exact ⟨_, rfl, Sp.put1_rise hN, Sp.put1_rise hN', h.put hN hN' rfl (lk_refl _)⟩
theorem mks_sim {M T : List En} : ∀ (Q : List ByteArray) (N N' : List En) (C : CC), Sp.Rise N → Sp.Rise N' → Sim N N' → (mks M T Q (N, C) = none → mks M T Q (N', C) = none) ∧ ∀ X Y, mks M T Q (N, C) = some (X, Y) → ∃ X', mks M T Q (N', C) = some (X', Y) ∧ Sp.Rise X ∧ Sp.Rise X' ∧ Sim X X'
  | [], N, N', C, hN, hN', h => ⟨fun hh => (by cases hh), fun X Y hh => by
    injection hh with hh
    injection hh with e1 e2
    rw [← e1, ← e2]
    exact ⟨N', rfl, hN, hN', h⟩⟩
  | q :: r, N, N', C, hN, hN', h => by
    obtain ⟨k1, k2⟩ := mkf_sim (M := M) (T := T) (X := N) (Y := C) (C := C) (r := q) hN hN' h
    rw [mks, mks]
    cases hq : mkf M T N C q with
    | none =>
      rw [k1.1 hq]
      exact ⟨fun _ => rfl, fun X Y hh => by cases hh⟩
    | some x =>
      obtain ⟨X1, Y1⟩ := x
      obtain ⟨X1', e1, r1, r2, s1⟩ := k2 X1 Y1 hq
      rw [e1]
      exact mks_sim r X1 X1' Y1 r1 r2 s1
end Mg
end Go.Proofs.YtlllcifehellpaaGreatDoor
set_option linter.unusedSimpArgs false
set_option linter.unusedVariables false
namespace Go.Proofs.YtlllcifehellpaaGreatDoor
open Go.RowKit Go.Maps

namespace Mg
def pths (L : List En) : List (List UInt8) := L.map (fun e => e.path.data.toList)
def bare (e : En) : En := ⟨e.path, false, ⟨#[]⟩, 0⟩
theorem pths_bare (L : List En) : pths (L.map bare) = pths L := by simp [pths, bare]
theorem pths_ext {X Y : List En} (hX : Sp.Rise X) (hY : Sp.Rise Y) (h : ∀ p : List UInt8, (∃ x ∈ X, x.path.data.toList = p) ↔ ∃ y ∈ Y, y.path.data.toList = p) : pths X = pths Y := by
  have one : ∀ {X Y : List En}, (∀ p : List UInt8, (∃ x ∈ X, x.path.data.toList = p) → ∃ y ∈ Y, y.path.data.toList = p) → ∀ e, e ∈ X.map bare → e ∈ Y.map bare := by
    intro X Y h e he
    obtain ⟨x, hx, rfl⟩ := List.mem_map.1 he
    obtain ⟨y, hy, hp⟩ := h _ ⟨x, hx, rfl⟩
    exact List.mem_map.2 ⟨y, hy, by rw [bare, bare, ba_ext hp]⟩
  have : X.map bare = Y.map bare := rise_ext (map_rise (f := bare) (fun _ => rfl) hX) (map_rise (f := bare) (fun _ => rfl) hY) (fun e => ⟨one (fun p => (h p).1) e, one (fun p => (h p).2) e⟩)
  rw [← pths_bare X, this, pths_bare]
/-- One that is there already. -/
theorem pths_there {e : En} {L : List En} (hL : Sp.Rise L) (h : e.path.data.toList ∈ pths L) : pths (Sp.put1 e L) = pths L := by
  obtain ⟨z, hz, hzp⟩ := List.mem_map.1 h
  refine pths_ext (Sp.put1_rise hL) hL (fun p => ⟨?_, ?_⟩)
  · rintro ⟨x, hx, rfl⟩
    rcases Sp.mem_put1.1 hx with rfl | ⟨hx, _⟩
    · exact ⟨z, hz, hzp⟩
    · exact ⟨x, hx, rfl⟩
  · rintro ⟨y, hy, rfl⟩
    by_cases he : y.path.data.toList = e.path.data.toList
    · exact ⟨e, Sp.mem_put1.2 (Or.inl rfl), he.symm⟩
    · exact ⟨y, Sp.mem_put1.2 (Or.inr ⟨hy, he⟩), rfl⟩
theorem lt_less {x y : En} : Pp.lt x y = Op.bytesLess x.path.data.toList y.path.data.toList := by rw [Pp.lt, Lib.toList_data, Lib.toList_data]
/-- One that is new, where it belongs. -/
theorem pths_new {e : En} {L : List En} (hL : Sp.Rise L) (h : e.path.data.toList ∉ pths L) {k : Nat} (hk : k ≤ L.length) (h1 : ∀ i (hi : i < k), Op.bytesLess ((L[i]'(by omega)).path.data.toList) e.path.data.toList = true) (h2 : ∀ hk : k < L.length, Op.bytesLess (L[k].path.data.toList) e.path.data.toList = false) : pths (Sp.put1 e L) = (pths L).take k ++ e.path.data.toList :: (pths L).drop k := by
  have hne : ∀ x ∈ L, x.path.data.toList ≠ e.path.data.toList := fun x hx hp => h (List.mem_map.2 ⟨x, hx, hp⟩)
  have ht : ∀ x ∈ L.take k, Pp.lt x e = true := fun x hx => by
    obtain ⟨i, hi, rfl⟩ := List.getElem_of_mem hx
    rw [List.length_take] at hi
    rw [List.getElem_take, lt_less]
    exact h1 i (by omega)
  have hd : ∀ x ∈ L.drop k, Pp.lt e x = true := fun x hx => by
    obtain ⟨i, hi, rfl⟩ := List.getElem_of_mem hx
    rw [List.length_drop] at hi
    rw [List.getElem_drop]
    have hk2 : k < L.length := by omega
    have a1 : Pp.lt L[k] e = false := by rw [lt_less]; exact h2 hk2
    have a2 : Pp.lt e L[k] = true := by
      cases hc : Pp.lt e L[k] with
      | true => rfl
      | false => exact absurd (Pp.lt_same a1 hc) (hne _ (List.getElem_mem hk2))
    rcases Nat.eq_zero_or_pos i with h0 | h0
    · subst h0; simpa using a2
    · exact Pp.lt_trans _ _ _ a2 (List.pairwise_iff_getElem.1 hL k (k + i) hk2 (by omega) (by omega))
  have hr : Sp.Rise (L.take k ++ e :: L.drop k) := by
    have h3 : Sp.Rise (L.take k) := List.Pairwise.sublist (List.take_sublist k L) hL
    have h4 : Sp.Rise (L.drop k) := List.Pairwise.sublist (List.drop_sublist k L) hL
    refine List.pairwise_append.2 ⟨h3, List.pairwise_cons.2 ⟨hd, h4⟩, fun a ha b hb => ?_⟩
    rcases List.mem_cons.1 hb with rfl | hb
    · exact ht a ha
    · exact Pp.lt_trans _ _ _ (ht a ha) (hd b hb)
  have he : Sp.put1 e L = L.take k ++ e :: L.drop k := rise_ext (Sp.put1_rise hL) hr (fun x => by
    rw [Sp.mem_put1, List.mem_append, List.mem_cons]
    constructor
    · rintro (rfl | ⟨hx, _⟩)
      · exact Or.inr (Or.inl rfl)
      · rw [← List.take_append_drop k L, List.mem_append] at hx
        rcases hx with hx | hx
        · exact Or.inl hx
        · exact Or.inr (Or.inr hx)
    · rintro (hx | rfl | hx)
      · exact Or.inr ⟨List.mem_of_mem_take hx, hne x (List.mem_of_mem_take hx)⟩
      · exact Or.inl rfl
      · exact Or.inr ⟨List.mem_of_mem_drop hx, hne x (List.mem_of_mem_drop hx)⟩)
  rw [he, pths, pths, List.map_append, List.map_cons, List.map_take, List.map_drop]
theorem over_nil {B : List En} (h : Sp.Rise B) : over [] B = B := by
  refine rise_ext (over_rise List.Pairwise.nil B) h (fun e => ?_)
  have ha := at_over (L := []) List.Pairwise.nil B (Sp.apart_rise h)
  constructor
  · intro he
    rcases over_mem he with he | he
    · cases he
    · exact he
  · intro he
    have h1 := ha e.path.data.toList
    rw [at_mem h he] at h1
    exact ((Sp.at_iff (Sp.apart_rise (over_rise List.Pairwise.nil B))).1 h1).1
theorem over_take {L M : List En} {k : Nat} (h : k < M.length) : over L (M.take (k + 1)) = Sp.put1 M[k] (over L (M.take k)) := by
  rw [List.take_succ_eq_append_getElem h, over_snoc]

/-- What is settled, with the version that all have till the end. -/
def one (s : Spo) : Spo := if s.w = 0 then zero else ⟨s.w, s.t, 1⟩
theorem one_ok {s : Spo} (h : Ok s) : Ok (one s) := by
  rw [one]
  split
  · exact Or.inl rfl
  · rename_i h0
    rcases h with h | h | h
    · rw [h] at h0; exact absurd rfl h0
    · exact Or.inr (Or.inl h)
    · exact Or.inr (Or.inr h)
theorem one_lk {s : Spo} (h : Ok s) : lk s (one s) = true := by
  rw [one]
  split
  · rename_i h0
    rw [h.zero h0]; exact lk_refl _
  · exact lk_iff.2 ⟨rfl, rfl⟩
theorem one_w (s : Spo) : (one s).w = s.w := by
  rw [one]
  split
  · rename_i h; rw [h]; rfl
  · rfl
theorem one_zero {s : Spo} (h : s = zero) : one s = zero := by rw [h]; rfl
def fR (B M T : List En) (p : List UInt8) : Spo := one (fS B M T p)
def nowR (B M T : List En) (U : List En) : List En := sets (fR B M T) U
def goR (B M T : List En) (U : List En) : List En := sets (fG B M T) U
theorem sets_take {f : List UInt8 → Spo} {U : List En} (h : Sp.Rise U) {k : Nat} (hk : k < U.length) (h0 : ¬ (f U[k].path.data.toList).w = 0) : sets f (U.take (k + 1)) = sets f (U.take k) ++ [enOf U[k].path (f U[k].path.data.toList)] := by
  rw [sets, List.take_succ_eq_append_getElem hk, List.filterMap_append]
  simp [sets, List.filterMap_cons, set1, h0]
theorem sets_take0 {f : List UInt8 → Spo} {U : List En} {k : Nat} (hk : k < U.length) (h0 : (f U[k].path.data.toList).w = 0) : sets f (U.take (k + 1)) = sets f (U.take k) := by
  rw [sets, List.take_succ_eq_append_getElem hk, List.filterMap_append]
  simp [sets, List.filterMap_cons, set1, h0]
theorem sets_put {f : List UInt8 → Spo} {U : List En} (h : Sp.Rise U) {k : Nat} (hk : k < U.length) (h0 : ¬ (f U[k].path.data.toList).w = 0) : sets f (U.take (k + 1)) = Sp.put1 (enOf U[k].path (f U[k].path.data.toList)) (sets f (U.take k)) := by
  have hr : ∀ n, Sp.Rise (sets f (U.take n)) := fun n => sets_rise (List.Pairwise.sublist (List.take_sublist n U) h)
  have hlt : ∀ x ∈ sets f (U.take k), x.path.data.toList ≠ U[k].path.data.toList := fun x hx hp => by
    obtain ⟨e, he, hs⟩ := mem_sets.1 hx
    obtain ⟨i, hi, rfl⟩ := List.getElem_of_mem he
    rw [List.length_take] at hi
    rw [List.getElem_take] at hs
    have hl := List.pairwise_iff_getElem.1 h i k (by omega) hk (by omega)
    rw [(set1_path hs).1] at hp
    exact Pp.lt_dif hl hp
  refine rise_ext (hr _) (Sp.put1_rise (hr _)) (fun x => ?_)
  rw [sets_take h hk h0, Sp.mem_put1, List.mem_append, List.mem_singleton]
  constructor
  · rintro (hx | hx)
    · exact Or.inr ⟨hx, hlt x hx⟩
    · exact Or.inl hx
  · rintro (hx | ⟨hx, _⟩)
    · exact Or.inr hx
    · exact Or.inl hx
theorem st_nowR {B M T : List En} (h : Sp.Rise B) (hM : Sp.Apart M) (hT : Sp.Apart T) (p : List UInt8) : st (nowR B M T (uni B M T)) p = one (fS B M T p) := st_sets (uni_rise h M T) (fun p => one_ok (fS_ok B M T p)) (fun p hp => one_zero (fS_none h hM hT p hp)) p
theorem sim_now {B M T : List En} (h : Sp.Rise B) (hM : Sp.Apart M) (hT : Sp.Apart T) : Sim (now0 B M T) (nowR B M T (uni B M T)) := fun p => by
  rw [st_now0 h hM hT, st_nowR h hM hT]
  exact one_lk (fS_ok B M T p)
theorem sim_refl (N : List En) : Sim N N := fun p => lk_refl _
theorem sim_symm {N N' : List En} (h : Sim N N') : Sim N' N := fun p => lk_symm (h p)
theorem sim_trans {N N' N'' : List En} (h : Sim N N') (h1 : Sim N' N'') : Sim N N'' := fun p => lk_trans (h p) (h1 p)
theorem sim_len {N N' : List En} (hN : Sp.Rise N) (hN' : Sp.Rise N') (h : Sim N N') : N.length = N'.length := by
  have := congrArg List.length (strips_eq hN hN' h)
  simpa using this
theorem sim_get {N N' : List En} (hN : Sp.Rise N) (hN' : Sp.Rise N') (h : Sim N N') {i : Nat} (hi : i < N.length) (hi' : i < N'.length) : N[i].path = N'[i].path ∧ Sp.wh N[i] = Sp.wh N'[i] ∧ Sp.tx N[i] = Sp.tx N'[i] := by
  have he := strips_eq hN hN' h
  have h3 : (N.map strip)[i]'(by simpa using hi) = (N'.map strip)[i]'(by simpa using hi') := by simp only [he]
  rw [List.getElem_map, List.getElem_map] at h3
  have e1 : N[i].path = N'[i].path := (congrArg En.path h3 : (strip N[i]).path = (strip N'[i]).path)
  have e2 : (Sp.wh N[i] == 1) = (Sp.wh N'[i] == 1) := (congrArg En.folder h3 : (strip N[i]).folder = (strip N'[i]).folder)
  have e3 : Sp.tx N[i] = Sp.tx N'[i] := (congrArg En.text h3 : (strip N[i]).text = (strip N'[i]).text)
  refine ⟨e1, ?_, e3⟩
  rcases wh_12 N[i] with h1 | h1 <;> rcases wh_12 N'[i] with h2 | h2
  · rw [h1, h2]
  · rw [h1, h2] at e2; cases e2
  · rw [h1, h2] at e2; cases e2
  · rw [h1, h2]
theorem sim_pths {N N' : List En} (hN : Sp.Rise N) (hN' : Sp.Rise N') (h : Sim N N') : N.map En.path = N'.map En.path := by
  refine List.ext_getElem (by simpa using sim_len hN hN' h) (fun i h1 h2 => ?_)
  rw [List.getElem_map, List.getElem_map]
  exact (sim_get hN hN' h (by simpa using h1) (by simpa using h2)).1
theorem allP_map (N : List En) : allP N N.length = (N.map En.path).flatMap (fun p => pres p p.size) := by
  rw [allP, List.take_length, List.flatMap_map]
theorem sim_allP {N N' : List En} (hN : Sp.Rise N) (hN' : Sp.Rise N') (h : Sim N N') : allP N N.length = allP N' N'.length := by
  rw [allP_map, allP_map, sim_pths hN hN' h]
theorem sim_outs {M T N N' : List En} (hN : Sp.Rise N) (hN' : Sp.Rise N') (h : Sim N N') : outs M T N = outs M T N' := by
  refine List.ext_getElem (by rw [outs, outs, List.length_map, List.length_map]; exact sim_len hN hN' h) (fun i h1 h2 => ?_)
  have hi : i < N.length := by rw [outs, List.length_map] at h1; exact h1
  have hi' : i < N'.length := by rw [outs, List.length_map] at h2; exact h2
  obtain ⟨e1, e2, e3⟩ := sim_get hN hN' h hi hi'
  simp only [outs, List.getElem_map]
  have hv : ∀ p, ver M T N p = ver M T N' p := fun p => by
    have hl : ∀ s : Spo, lk (st N p) s = lk (st N' p) s := fun s => by
      cases hc : lk (st N' p) s with
      | true => exact lk_trans (h p) hc
      | false =>
        cases hd : lk (st N p) s with
        | false => rfl
        | true => exact absurd (lk_trans (lk_symm (h p)) hd) (by rw [hc]; decide)
    rw [ver, ver, hl, hl]
  rw [out1, out1, e1, e2, e3, hv]
/-- Asides of lists that are alike. -/
theorem asds_sim {M T : List En} : ∀ (A N N' : List En) (C : CC), Sp.Rise N → Sp.Rise N' → Sim N N' → (∀ a ∈ A, Sp.wh a = 2) → ∀ (f : En → En), (∀ a ∈ A, (f a).path = a.path ∧ Sp.wh (f a) = 2 ∧ Sp.tx (f a) = Sp.tx a) → (asds M T A (N, C) = none → asds M T (A.map f) (N', C) = none) ∧ ∀ X Y, asds M T A (N, C) = some (X, Y) → ∃ X', asds M T (A.map f) (N', C) = some (X', Y) ∧ Sp.Rise X ∧ Sp.Rise X' ∧ Sim X X'
  | [], N, N', C, hN, hN', h, _, f, _ => ⟨fun hh => (by cases hh), fun X Y hh => by
    injection hh with hh
    injection hh with e1 e2
    rw [← e1, ← e2]
    exact ⟨N', rfl, hN, hN', h⟩⟩
  | a :: r, N, N', C, hN, hN', h, hw, f, hf => by
    obtain ⟨f1, f2, f3⟩ := hf a (by simp)
    rw [List.map_cons, asds, asds, f1, asd_sim h]
    cases hq : asd M T N' a.path.data.toList with
    | none => exact ⟨fun _ => rfl, fun X Y hh => by cases hh⟩
    | some q =>
      exact asds_sim r _ _ _ (Sp.put1_rise hN) (Sp.put1_rise hN') (h.put (e := file q (spo a)) (e' := file q (spo (f a))) hN hN' rfl (lk_iff.2 ⟨rfl, f3.symm⟩)) (fun x hx => hw x (by simp [hx])) f (fun x hx => hf x (by simp [hx]))
end Mg
end Go.Proofs.YtlllcifehellpaaGreatDoor
set_option linter.unusedSimpArgs false
set_option linter.unusedVariables false
namespace Go.Proofs.YtlllcifehellpaaGreatDoor
open Go.RowKit Go.Maps

namespace Mg
def fold1 (q : ByteArray) : En := ⟨q, true, ⟨#[]⟩, 1⟩
/-- One folder, as the reference makes it. -/
def mkR (M T N : List En) (C : CC) (q : ByteArray) : Option (List En × CC) :=
  if (st N q.data.toList).w = 1 then some (N, C) else if (st N q.data.toList).w = 2 then (asd M T (Sp.put1 (fold1 q) N) q.data.toList).map (fun r => (Sp.put1 (file r ⟨2, (st N q.data.toList).t, 1⟩) (Sp.put1 (fold1 q) N), C ++ [(q, ⟨r.toArray⟩)])) else some (Sp.put1 (fold1 q) N, C)
def mksR (M T : List En) : List ByteArray → List En × CC → Option (List En × CC)
  | [], s => some s
  | q :: r, s => (mkR M T s.1 s.2 q).bind (mksR M T r)
theorem mksR_app (M T : List En) : ∀ (a b : List ByteArray) (s : List En × CC), mksR M T (a ++ b) s = (mksR M T a s).bind (mksR M T b)
  | [], b, s => rfl
  | q :: r, b, s => by
    rw [List.cons_append, mksR, mksR, Option.bind_assoc]
    congr 1
    funext t
    exact mksR_app M T r b t
theorem mksR_none {M T : List En} {a b : List ByteArray} {q : ByteArray} {s : List En × CC} {N : List En} {C : CC} (h : mksR M T a s = some (N, C)) (h1 : mkR M T N C q = none) : mksR M T (a ++ [q] ++ b) s = none := by
  rw [mksR_app, mksR_app, h]
  simp [mksR, h1]
theorem mksR_some {M T : List En} {a : List ByteArray} {q : ByteArray} {s t : List En × CC} {N : List En} {C : CC} (h : mksR M T a s = some (N, C)) (h1 : mkR M T N C q = some t) : mksR M T (a ++ [q]) s = some t := by
  rw [mksR_app, h]
  simp [mksR, h1]
theorem asdF_free {M T N N' : List En} (h : ∀ r, free M T N r = free M T N' r) (p : List UInt8) : ∀ f n, asdF M T N p f n = asdF M T N' p f n
  | 0, _ => rfl
  | f + 1, n => by rw [asdF, asdF, h, asdF_free h p f (n + 1)]
theorem asd_fold1 {M T N : List En} {q : ByteArray} (hN : Sp.Rise N) (h : (st N q.data.toList).w = 2) (p : List UInt8) : asd M T (Sp.put1 (fold1 q) N) p = asd M T N p := by
  refine asdF_free (fun r => ?_) p 99 1
  rw [free, free, st_put1 hN]
  by_cases hr : (fold1 q).path.data.toList = r
  · rw [if_pos hr]
    have hr' : q.data.toList = r := hr
    have e1 : ((spo (fold1 q)).w == 0) = false := rfl
    have e2 : ((st N r).w == 0) = false := by rw [← hr', h]; rfl
    rw [e1, e2]
  · rw [if_neg hr]
theorem mkR_sim {M T N N' : List En} {C : CC} {q : ByteArray} (hN : Sp.Rise N) (hN' : Sp.Rise N') (h : Sim N N') : (mkf M T N C q = none → mkR M T N' C q = none) ∧ ∀ X Y, mkf M T N C q = some (X, Y) → ∃ X', mkR M T N' C q = some (X', Y) ∧ Sp.Rise X ∧ Sp.Rise X' ∧ Sim X X' := by
  have hw := h.w q.data.toList
  have ht := (lk_iff.1 (h q.data.toList)).2
  by_cases h2 : (st N q.data.toList).w = 2
  · have h2' : (st N' q.data.toList).w = 2 := by omega
    have h1' : ¬ (st N' q.data.toList).w = 1 := by omega
    have ha0 : asd M T (Sp.put1 (fold1 q) N') q.data.toList = asd M T N q.data.toList := by rw [asd_fold1 hN' h2', asd_sim h]
    rw [mkR, if_neg h1', if_pos h2', ha0]
    cases ha : asd M T N q.data.toList with
    | none =>
      rw [mkf_no h2 ha]
      exact ⟨fun _ => rfl, fun X Y hh => by cases hh⟩
    | some r =>
      rw [mkf_some h2 ha]
      refine ⟨fun hh => (by cases hh), fun X Y hh => ?_⟩
      injection hh with hh
      injection hh with e1 e2
      rw [← e1, ← e2]
      have hr1 := Sp.put1_rise (e := file r (st N q.data.toList)) hN
      have hr2 := Sp.put1_rise (e := fold1 q) hN'
      refine ⟨_, rfl, Sp.put1_rise hr1, Sp.put1_rise hr2, fun p => ?_⟩
      have hfr := (asd_some ha).2.2.2
      have hne : ¬ r = q.data.toList := fun e => by
        rw [e, free, h2] at hfr
        simp at hfr
      rw [st_put1 hr1, st_put1 hN, st_put1 hr2, st_put1 hN']
      have p1 : ∀ s, (file r s).path.data.toList = r := fun s => by simp [file]
      have p2 : (fold q).path.data.toList = q.data.toList := rfl
      have p3 : (fold1 q).path.data.toList = q.data.toList := rfl
      rw [p1, p1, p2, p3]
      by_cases hq : q.data.toList = p
      · rw [if_pos hq, if_neg (fun e => hne (e.trans hq.symm)), if_pos hq]
        exact lk_iff.2 ⟨rfl, rfl⟩
      · rw [if_neg hq]
        by_cases hrp : r = p
        · rw [if_pos hrp, if_pos hrp]
          exact lk_iff.2 ⟨rfl, ht⟩
        · rw [if_neg hrp, if_neg hrp, if_neg hq]
          exact h p
  · have h2' : ¬ (st N' q.data.toList).w = 2 := by omega
    rw [mkf_else h2]
    refine ⟨fun hh => (by cases hh), fun X Y hh => ?_⟩
    injection hh with hh
    injection hh with e1 e2
    rw [← e1, ← e2]
    by_cases h1 : (st N' q.data.toList).w = 1
    · refine ⟨N', by rw [mkR, if_pos h1], Sp.put1_rise hN, hN', fun p => ?_⟩
      rw [st_put1 hN]
      split
      · rename_i hp
        have hp : q.data.toList = p := hp
        rw [spo_fold, ← hp]
        exact lk_iff.2 ⟨h1.symm, ((ok_st N' q.data.toList).fold h1).symm⟩
      · exact h p
    · refine ⟨Sp.put1 (fold1 q) N', by rw [mkR, if_neg h1, if_neg h2'], Sp.put1_rise hN, Sp.put1_rise hN', h.put (e := fold q) (e' := fold1 q) hN hN' rfl (lk_iff.2 ⟨rfl, rfl⟩)⟩
theorem mksR_sim {M T : List En} : ∀ (Q : List ByteArray) (N N' : List En) (C : CC), Sp.Rise N → Sp.Rise N' → Sim N N' → (mks M T Q (N, C) = none → mksR M T Q (N', C) = none) ∧ ∀ X Y, mks M T Q (N, C) = some (X, Y) → ∃ X', mksR M T Q (N', C) = some (X', Y) ∧ Sp.Rise X ∧ Sp.Rise X' ∧ Sim X X'
  | [], N, N', C, hN, hN', h => ⟨fun hh => (by cases hh), fun X Y hh => by
    injection hh with hh
    injection hh with e1 e2
    rw [← e1, ← e2]
    exact ⟨N', rfl, hN, hN', h⟩⟩
  | q :: r, N, N', C, hN, hN', h => by
    obtain ⟨k1, k2⟩ := mkR_sim (M := M) (T := T) (C := C) (q := q) hN hN' h
    rw [mks, mksR]
    cases hq : mkf M T N C q with
    | none =>
      rw [k1 hq]
      exact ⟨fun _ => rfl, fun X Y hh => by cases hh⟩
    | some x =>
      obtain ⟨X1, Y1⟩ := x
      obtain ⟨X1', e1, r1, r2, s1⟩ := k2 X1 Y1 hq
      rw [e1]
      exact mksR_sim r X1 X1' Y1 r1 r2 s1
/-- The folders of a path, by its bytes. -/
def preL : List UInt8 → List (List UInt8)
  | [] => []
  | c :: r => if c = 47 then [] :: (preL r).map (47 :: ·) else (preL r).map (c :: ·)
theorem preL_range : ∀ l : List UInt8, (List.range l.length).filterMap (fun i => if l[i]? = some 47 then some (l.take i) else none) = preL l
  | [] => rfl
  | c :: r => by
    have ih := preL_range r
    rw [List.length_cons, List.range_succ_eq_map, List.filterMap_cons, List.filterMap_map]
    have e : ((fun i => if (c :: r)[i]? = some 47 then some ((c :: r).take i) else none) ∘ Nat.succ) = fun i => (if r[i]? = some 47 then some (r.take i) else none).map (c :: ·) := by
      funext i
      simp only [Function.comp, Nat.succ_eq_add_one, List.getElem?_cons_succ, List.take_succ_cons]
      split <;> rfl
    have e2 : (List.range r.length).filterMap (fun i => (if r[i]? = some 47 then some (r.take i) else none).map (c :: ·)) = (preL r).map (c :: ·) := by
      rw [← ih, List.map_filterMap]
    rw [e, e2, preL]
    by_cases hc : c = 47
    · subst hc; simp
    · simp [hc]
theorem join_cons {a : List UInt8} {R : List (List UInt8)} (h : R ≠ []) : Pp.join (a :: R) = a ++ 47 :: Pp.join R := by
  cases R with
  | nil => exact absurd rfl h
  | cons b r => rfl
theorem preL_names : ∀ l : List UInt8, preL l = (List.range ((Pp.nm l).length - 1)).map (fun k => Pp.join ((Pp.nm l).take (k + 1)))
  | [] => rfl
  | c :: r => by
    have ih := preL_names r
    have hn := Pp.nm_ne r
    cases e : Pp.nm r with
    | nil => exact absurd e hn
    | cons h t =>
      rw [e] at ih
      rw [preL, Pp.nm, e]
      by_cases hc : c = 47
      · subst hc
        rw [if_pos rfl, if_pos rfl, ih]
        simp only [List.length_cons, Nat.add_sub_cancel, List.range_succ_eq_map, List.map_cons, List.map_map]
        refine List.cons_eq_cons.2 ⟨rfl, ?_⟩
        refine List.map_congr_left (fun k _ => ?_)
        simp only [Function.comp, Nat.succ_eq_add_one, List.take_succ_cons]
        rw [join_cons (a := []) (by simp)]
        rfl
      · rw [if_neg hc, if_neg hc, ih]
        simp only [List.length_cons, Nat.add_sub_cancel, List.map_map]
        refine List.map_congr_left (fun k _ => ?_)
        simp only [Function.comp, List.take_succ_cons]
        cases ht : t.take k with
        | nil => rfl
        | cons b u => rfl
def presN (p : ByteArray) (k : Nat) : List ByteArray := (List.range k).map (fun j => (⟨(Pp.join ((Pp.nm p.data.toList).take (j + 1))).toArray⟩ : ByteArray))
theorem presN_succ (p : ByteArray) (k : Nat) : presN p (k + 1) = presN p k ++ [⟨(Pp.join ((Pp.nm p.data.toList).take (k + 1))).toArray⟩] := by
  rw [presN, presN, List.range_succ, List.map_append]; rfl
theorem extract_take (p : ByteArray) (i : Nat) : p.extract 0 i = ⟨(p.data.toList.take i).toArray⟩ := by
  refine ba_ext ?_
  rw [ByteArray.data_extract]
  simp [Array.toList_extract, List.extract]
theorem pres_names (p : ByteArray) : pres p p.size = presN p ((Pp.nm p.data.toList).length - 1) := by
  have h1 : pres p p.size = (preL p.data.toList).map (fun x => (⟨x.toArray⟩ : ByteArray)) := by
    rw [← preL_range, List.map_filterMap, pres]
    have hl : p.data.toList.length = p.size := Array.length_toList
    rw [hl]
    refine congrArg (fun f => List.filterMap f (List.range p.size)) ?_
    funext i
    rw [extract_take]
    split <;> rfl
  rw [h1, preL_names, presN, List.map_map]
  rfl
/-- All folders of the first paths. -/
def allR (N : List En) (k : Nat) : List ByteArray := (N.take k).flatMap (fun e => presN e.path ((Pp.nm e.path.data.toList).length - 1))
theorem allR_eq (N : List En) (k : Nat) : allR N k = allP N k := by
  rw [allR, allP]
  refine congrArg (fun f => List.flatMap f (N.take k)) ?_
  funext e
  rw [pres_names]
theorem allR_succ {N : List En} {k : Nat} (hk : k < N.length) : allR N (k + 1) = allR N k ++ presN N[k].path ((Pp.nm N[k].path.data.toList).length - 1) := by
  rw [allR, allR, List.take_succ_eq_append_getElem hk, List.flatMap_append]
  simp
theorem allR_more (N : List En) {k : Nat} (h : k ≤ N.length) : ∃ r, allR N N.length = allR N k ++ r := by
  refine ⟨(N.drop k).flatMap (fun e => presN e.path ((Pp.nm e.path.data.toList).length - 1)), ?_⟩
  rw [allR, allR, ← List.flatMap_append, List.take_length, List.take_append_drop]
theorem presN_more (p : ByteArray) {k n : Nat} (h : k ≤ n) : ∃ r, presN p n = presN p k ++ r := by
  refine ⟨(presN p n).drop k, ?_⟩
  have : (presN p n).take k = presN p k := by
    rw [presN, presN, ← List.map_take, List.take_range, Nat.min_eq_left h]
  rw [← this, List.take_append_drop]
theorem chk_pre2 {p : List UInt8} (h : Pp.chk p = 0) {k : Nat} (hk : k + 1 < (Pp.nm p).length) : Pp.chk (Pp.join ((Pp.nm p).take (k + 1))) = 0 := by
  have hm : Pp.join ((Pp.nm p).take (k + 1)) ∈ preL p := by
    rw [preL_names]
    exact List.mem_map.2 ⟨k, List.mem_range.2 (by omega), rfl⟩
  rw [← preL_range, List.mem_filterMap] at hm
  obtain ⟨i, hi, he⟩ := hm
  split at he
  · rename_i h47
    injection he with he
    rw [← he]
    have hlt : i < p.length := List.mem_range.1 hi
    have e2 : p[i] = 47 := by
      rw [List.getElem?_eq_getElem hlt] at h47
      injection h47
    have hp : p = p.take i ++ 47 :: p.drop (i + 1) := by rw [← e2, List.getElem_cons_drop, List.take_append_drop]
    generalize p.take i = a at *
    generalize p.drop (i + 1) = b at *
    have hn := Pp.chk_names h
    have hb := Pp.chk_not_big h
    rw [hp, Pp.nm_app] at hn
    rw [List.all_append, Bool.and_eq_true] at hn
    rw [Pp.chk_big hn.1]
    have : Pp.big a = false := by
      rw [hp, Pp.big, Pp.nm_app] at hb
      rw [Pp.big]
      simp only [List.length_append, List.length_cons, Bool.or_eq_false_iff, decide_eq_false_iff_not] at hb ⊢
      omega
    rw [this]
    rfl
  · cases he
end Mg
end Go.Proofs.YtlllcifehellpaaGreatDoor
set_option linter.unusedSimpArgs false
set_option linter.unusedVariables false
namespace Go.Proofs.YtlllcifehellpaaGreatDoor
open Go.RowKit

/-- A row of texts. -/
def LiesT (w : World) (v : Value) (N : List (List UInt8)) : Prop := ∃ a cap, v = .slice a N.length cap ∧ N.length ≤ cap ∧ cap ≤ maxLen ∧ N.length ≤ 1000000 ∧ (a = none → cap = 0) ∧ ∀ i (h : i < N.length), ∃ b o, a = some ⟨b, o, none⟩ ∧ b < w.heap.size ∧ w.cell? ⟨b, o + i, none⟩ = some (.string ⟨(N[i]).toArray⟩)
theorem LiesT.below {w w' : World} {v : Value} {N : List (List UInt8)} (h : LiesT w v N) (hw : Below w.heap.size w w') : LiesT w' v N := by
  obtain ⟨a, cap, hv, h1, h2, h3, h4, h5⟩ := h
  refine ⟨a, cap, hv, h1, h2, h3, h4, fun i hi => ?_⟩
  obtain ⟨b, o, ha, hb, he⟩ := h5 i hi
  exact ⟨b, o, ha, Nat.lt_of_lt_of_le hb hw.size, (hw.cell (p := ⟨b, o + i, none⟩) hb).trans he⟩
theorem liesT_nil (w : World) : LiesT w (.slice none 0 0) [] := ⟨none, 0, rfl, Nat.le_refl _, by decide, by decide, fun _ => rfl, fun i h => absurd h (by simp)⟩
theorem liesT_own {w : World} {base : Nat} {v : Value} {N : List (List UInt8)} (h : w.ownsRow base 9 1 v N.length (Pp.vs N)) (hn : N.length ≤ 1000000) : LiesT w v N := by
  have h' := h
  obtain ⟨hl, h2⟩ := h
  rcases h2 with ⟨rfl, hz⟩ | ⟨g, cap, cur, rfl, hg, hh, hn2, hm, hz, htake⟩
  · exact ⟨none, 0, by rw [hz], by omega, by decide, hn, fun _ => rfl, fun i h => absurd h (by omega)⟩
  · have hlt : g < w.heap.size := by
      rcases Nat.lt_or_ge g w.heap.size with h | h
      · exact h
      · rw [Array.getElem?_eq_none h] at hh; cases hh
    refine ⟨some ⟨g, 0, none⟩, cap, rfl, hn2, hm, hn, (fun h => by cases h), fun i h => ⟨g, 0, rfl, hlt, ?_⟩⟩
    rw [Nat.zero_add, h'.cellAt i (by omega)]
    simp [Pp.vs, h]
theorem Mg.bytes_of (l : List UInt8) : (⟨l.toArray⟩ : ByteArray).toList = l := by rw [Lib.toList_data]
theorem Mg.bytes_self (s : ByteArray) : (⟨s.data.toList.toArray⟩ : ByteArray) = s := by cases s; simp

set_option maxHeartbeats 1000000 in
theorem hasText_any (N : List (List UInt8)) (v : Value) (s : ByteArray) (w : World) (hv : LiesT w v N) :
    Calls Tryz.prog 59 #[v, .string s] w fun e w' => e = .returned (.bool (decide (s.data.toList ∈ N))) ∧ Below w.heap.size w w' := by
  obtain ⟨a, cap, rfl, h1, h2, h3, h4, h5⟩ := hv
  have HL : Hid (∀ i (h : i < N.length), ∃ b o, a = some ⟨b, o, none⟩ ∧ b < w.heap.size ∧ w.cell? ⟨b, o + i, none⟩ = some (.string ⟨(N[i]).toArray⟩)) := h5
  obtain ⟨z, hz⟩ : ∃ z, z = decide (s.data.toList ∈ N) := ⟨_, rfl⟩
  rw [← hz]
  have HZ := hid hz
  clear h5 h4 hz
  go_enter Tryz.func59, Tryz.ntmps59
  go_wp2_with fail
  go_loopw [5] (fun i wr => ∃ k : Nat, k ≤ N.length ∧ i = .int .i64 k ∧ Hid (∀ j (h : j < k) (h1 : j < N.length), N[j] ≠ s.data.toList) ∧ Below w.heap.size w wr) (fun i _ => N.length - (intOf i).toNat)
  case atStart => exact ⟨0, Nat.zero_le _, rfl, (fun j h _ => absurd h (by omega) : ∀ j (h : j < 0) (h1 : j < N.length), N[j] ≠ s.data.toList), Below.refl _ _⟩
  case round =>
    obtain ⟨k, hk, rfl, HK, hbel⟩ := hrel
    by_cases hlt : k < N.length
    · obtain ⟨b, o, rfl, hb, he⟩ := HL.out k hlt
      have c0 := (hbel.cell (p := ⟨b, o + k, none⟩) hb).trans he
      by_cases hp : N[k] = s.data.toList
      · have hp2 : ((⟨(N[k]).toArray⟩ : ByteArray).toList == s.toList) = true := by rw [Mg.bytes_of, Lib.toList_data, hp]; simp
        have HT : Hid (z = true) := (by rw [HZ.out, decide_eq_true_iff, ← hp]; exact List.getElem_mem hlt : z = true)
        clear he hp HK
        generalize (⟨(N[k]).toArray⟩ : ByteArray) = x at *
        go_wp2_with fail
        go_ret
        exact ⟨by rw [HT.out]; rfl, hbel⟩
      · have hp2 : ((⟨(N[k]).toArray⟩ : ByteArray).toList == s.toList) = false := by rw [Mg.bytes_of, Lib.toList_data]; simpa using hp
        have HK2 : Hid (∀ j (h : j < k + 1) (h1 : j < N.length), N[j] ≠ s.data.toList) := (fun j hj h1 => by
          rcases (by omega : j < k ∨ j = k) with h | h
          · exact HK.out j h h1
          · subst h; exact hp : ∀ j (h : j < k + 1) (h1 : j < N.length), N[j] ≠ s.data.toList)
        clear he hp HK
        generalize (⟨(N[k]).toArray⟩ : ByteArray) = x at *
        go_wp2_with fail
        go_roundw
        case rel => exact ⟨k + 1, by omega, by simp, HK2, hbel⟩
        case measure => simp [intOf]; omega
    · have HF : Hid (z = false) := (by
        rw [HZ.out, decide_eq_false_iff_not]
        intro hm
        obtain ⟨j, hj, e⟩ := List.getElem_of_mem hm
        exact HK.out j (by omega) hj e : z = false)
      go_wp2_with fail
      go_ret
      exact ⟨by rw [HF.out]; rfl, hbel⟩

/-- Cells of a row of texts. -/
theorem LiesT.cells {w W : World} {a : Option Addr} {n cap : Nat} {N : List (List UInt8)} (h : LiesT w (.slice a n cap) N) (hW : Below w.heap.size w W) : ∀ b, a = some b → ∀ j u, (Pp.vs N)[j]? = some u → W.cell? (b.add j) = some u := by
  obtain ⟨a', cap', hv, _, _, _, _, h5⟩ := h
  injection hv with e1 _ _
  subst e1
  intro b hab j u hj
  have hjl : j < N.length := by
    rcases Nat.lt_or_ge j N.length with h | h
    · exact h
    · rw [List.getElem?_eq_none (by rw [Pp.vs_len]; exact h)] at hj; cases hj
  obtain ⟨b', o', hab', hb', hc'⟩ := h5 j hjl
  rw [hab'] at hab
  cases hab
  have hu : u = .string ⟨(N[j]).toArray⟩ := by
    have : (Pp.vs N)[j]? = some (.string ⟨(N[j]).toArray⟩) := by simp [Pp.vs, hjl]
    rw [this] at hj; cases hj; rfl
  rw [hu]
  by_cases hj0 : j = 0
  · subst hj0; simpa [Addr.add] using (hW.cell (p := ⟨b', o' + 0, none⟩) hb').trans hc'
  · simpa [Addr.add, hj0] using (hW.cell (p := ⟨b', o' + j, none⟩) hb').trans hc'
theorem vs_off {w W : World} {b o n cap k : Nat} {N : List (List UInt8)} (h : LiesT w (.slice (some ⟨b, o, none⟩) n cap) N) (hW : Below w.heap.size w W) : ∀ j u, (Pp.vs (N.drop k))[j]? = some u → W.cell? ((⟨b, o + k, none⟩ : Addr).add j) = some u := by
  intro j u hj
  have h1 := h.cells hW ⟨b, o, none⟩ rfl (k + j) u (by
    simp only [Pp.vs, List.getElem?_map, List.getElem?_drop] at hj ⊢
    exact hj)
  have e : ((⟨b, o, none⟩ : Addr).add (k + j)) = (⟨b, o + k, none⟩ : Addr).add j := by
    unfold Addr.add
    by_cases h0 : k + j = 0
    · have hk : k = 0 := by omega
      have hj0 : j = 0 := by omega
      subst hk hj0
      simp
    · by_cases hj : j = 0
      · subst hj
        simp [h0]
        try omega
      · simp [h0, hj]
        try omega
  rw [← e]
  exact h1
theorem vs_take {w W : World} {b o n cap k : Nat} {N : List (List UInt8)} (h : LiesT w (.slice (some ⟨b, o, none⟩) n cap) N) (hW : Below w.heap.size w W) : ∀ c, some (⟨b, o, none⟩ : Addr) = some c → ∀ j u, (Pp.vs (N.take k))[j]? = some u → W.cell? (c.add j) = some u := by
  intro c hc j u hj
  refine h.cells hW c hc j u ?_
  simp only [Pp.vs, List.getElem?_map, List.getElem?_take] at hj ⊢
  split at hj
  · exact hj
  · cases hj

set_option maxRecDepth 100000 in
set_option maxHeartbeats 2000000 in
/-- A text that is not there is put at its place. -/
theorem putText_new (N : List (List UInt8)) (v : Value) (s : ByteArray) (w : World) (hv : LiesT w v N) (hn : N.length ≤ 1000) (hN : s.data.toList ∉ N) :
    Calls Tryz.prog 31 #[v, .string s] w fun e w' => ∃ u, e = .returned u ∧ (∃ k, k ≤ N.length ∧ (∀ j (h : j < k) (h1 : j < N.length), Op.bytesLess N[j] s.data.toList = true) ∧ (∀ h : k < N.length, Op.bytesLess N[k] s.data.toList = false) ∧ LiesT w' u (N.take k ++ s.data.toList :: N.drop k)) ∧ Below w.heap.size w w' := by
  obtain ⟨i1, hj0, hy0, hy1, hy2⟩ := info_parts Tryz.infoS
  have HV := hid hv
  have HN : Hid (decide (s.data.toList ∈ N) = false) := (by simpa using hN : decide (s.data.toList ∈ N) = false)
  obtain ⟨a, cap, rfl, h1, h2, h3, h4, h5⟩ := hv
  have HL : Hid (∀ i (h : i < N.length), ∃ b o, a = some ⟨b, o, none⟩ ∧ b < w.heap.size ∧ w.cell? ⟨b, o + i, none⟩ = some (.string ⟨(N[i]).toArray⟩)) := h5
  clear h5 hN
  go_enter Tryz.func31, Tryz.ntmps31
  go_wp2_with fail
  refine (hasText_any N _ s _ HV.out).mono ?_
  rintro e w1 ⟨rfl, hb1⟩
  rw [HN.out]
  go_wp2_with fail
  go_loopw [5] (fun i wr => ∃ k : Nat, k ≤ N.length ∧ i = .int .i64 k ∧ Hid (∀ j (h : j < k) (h1 : j < N.length), Op.bytesLess N[j] s.data.toList = true) ∧ Below w.heap.size w wr) (fun i _ => N.length - (intOf i).toNat)
  case atStart => exact ⟨0, Nat.zero_le _, rfl, (fun j h _ => absurd h (by omega) : ∀ j (h : j < 0) (h1 : j < N.length), Op.bytesLess N[j] s.data.toList = true), hb1⟩
  case round =>
    obtain ⟨k, hk, rfl, HK, hbel⟩ := hrel
    clear hb1
    have hway : (∃ hlt : k < N.length, Op.bytesLess N[k] s.data.toList = true) ∨ Hid (∀ h : k < N.length, Op.bytesLess N[k] s.data.toList = false) := by
      by_cases hlt : k < N.length
      · cases hc : Op.bytesLess N[k] s.data.toList with
        | true => exact Or.inl ⟨hlt, hc⟩
        | false => exact Or.inr (fun _ => hc : ∀ h : k < N.length, Op.bytesLess N[k] s.data.toList = false)
      · exact Or.inr (fun h => absurd h hlt : ∀ h : k < N.length, Op.bytesLess N[k] s.data.toList = false)
    rcases hway with ⟨hlt, hless⟩ | HE
    · obtain ⟨b, o, rfl, hb, he⟩ := HL.out k hlt
      have c0 := (hbel.cell (p := ⟨b, o + k, none⟩) hb).trans he
      have hp2 : Op.bytesLess (⟨(N[k]).toArray⟩ : ByteArray).toList s.toList = true := by rw [Mg.bytes_of, Lib.toList_data]; exact hless
      have HK2 : Hid (∀ j (h : j < k + 1) (h1 : j < N.length), Op.bytesLess N[j] s.data.toList = true) := (fun j hj h1 => by
        rcases (by omega : j < k ∨ j = k) with h | h
        · exact HK.out j h h1
        · subst h; exact hless : ∀ j (h : j < k + 1) (h1 : j < N.length), Op.bytesLess N[j] s.data.toList = true)
      clear he HK hless
      generalize (⟨(N[k]).toArray⟩ : ByteArray) = x at *
      go_wp2_with fail
      go_roundw
      case rel => exact ⟨k + 1, by omega, by simp, HK2, hbel⟩
      case measure => simp [intOf]; omega
    · by_cases hlt : k < N.length
--@gen
      · obtain ⟨b, o, rfl, hb, he⟩ := HL.out k hlt
        have c0 := (hbel.cell (p := ⟨b, o + k, none⟩) hb).trans he
        have hp2 : Op.bytesLess (⟨(N[k]).toArray⟩ : ByteArray).toList s.toList = false := by rw [Mg.bytes_of, Lib.toList_data]; exact HE.out hlt
        have hbN : Below w.heap.size w (wr.alloc (.cells #[.string s] 9)).drew := (hbel.alloc hbel.size _).drew
        have hlt' : (k : Int) < N.length := by omega
        have hkc : ¬ cap = k := by omega
        have hkc2 : k ≤ cap := by omega
        have hkc3 : k ≤ N.length := by omega
        clear he
        generalize (⟨(N[k]).toArray⟩ : ByteArray) = x at *
        go_wp2_with fail
        refine wp_region_held_drew (S := fun _ => True) (by kernel_rfl) trivial (fun hHeld => ?_)
        refine wpAnyH_take (i := 0) (oi := ⟨some 24, Op.move (Operand.tmp 0), 70, _, _, none⟩) (v := ?_) rfl (by kernel_rfl) (by kernel_rfl) (by kernel_rfl) (fun _ _ _ h => h) (Or.inl ⟨by rfl, ?_⟩) hHeld ?_
        rotate_left
        · (intro W hSw; go_simp <;> with_reducible rfl)
        try simp only [Act.put, List.setIfInBounds_toArray, List.set_cons_zero, List.set_cons_succ]
        refine wpAnyH_take (i := 1) (oi := ⟨some 25, Op.move (Operand.tmp 5), 3, _, _, none⟩) (v := ?_) rfl (by kernel_rfl) (by kernel_rfl) (by kernel_rfl) (fun _ _ _ h => h) (Or.inl ⟨by rfl, ?_⟩) hHeld ?_
        rotate_left
        · (intro W hSw; go_simp <;> with_reducible rfl)
        try simp only [Act.put, List.setIfInBounds_toArray, List.set_cons_zero, List.set_cons_succ]
        refine wpAnyH_take (i := 2) (oi := ⟨some 26, Op.move (Operand.tmp 5), 3, _, _, none⟩) (v := ?_) rfl (by kernel_rfl) (by kernel_rfl) (by kernel_rfl) (fun _ _ _ h => h) (Or.inl ⟨by rfl, ?_⟩) hHeld ?_
        rotate_left
        · (intro W hSw; go_simp <;> with_reducible rfl)
        try simp only [Act.put, List.setIfInBounds_toArray, List.set_cons_zero, List.set_cons_succ]
        refine wpAnyH_take (i := 3) (oi := ⟨some 27, Op.slice 70 (Operand.tmp 24) none (some (Operand.tmp 25)) (some (Operand.tmp 26)), 70, _, _, none⟩) (v := ?_) rfl (by kernel_rfl) (by kernel_rfl) (by kernel_rfl) (fun _ _ _ h => h) (Or.inl ⟨by rfl, ?_⟩) hHeld ?_
        rotate_left
        · (intro W hSw; go_simp <;> with_reducible rfl)
        try simp only [Act.put, List.setIfInBounds_toArray, List.set_cons_zero, List.set_cons_succ]
        refine wpAnyH_take (i := 4) (oi := ⟨some 28, Op.move (Operand.tmp 1), 9, _, _, none⟩) (v := ?_) rfl (by kernel_rfl) (by kernel_rfl) (by kernel_rfl) (fun _ _ _ h => h) (Or.inl ⟨by rfl, ?_⟩) hHeld ?_
        rotate_left
        · (intro W hSw; go_simp <;> with_reducible rfl)
        try simp only [Act.put, List.setIfInBounds_toArray, List.set_cons_zero, List.set_cons_succ]
        refine wpAnyH_take (i := 6) (oi := ⟨some 30, Op.move (Operand.tmp 0), 70, _, _, none⟩) (v := ?_) rfl (by kernel_rfl) (by kernel_rfl) (by kernel_rfl) (fun _ _ _ h => h) (Or.inl ⟨by rfl, ?_⟩) hHeld ?_
        rotate_left
        · (intro W hSw; go_simp <;> with_reducible rfl)
        try simp only [Act.put, List.setIfInBounds_toArray, List.set_cons_zero, List.set_cons_succ]
        refine wpAnyH_take (i := 7) (oi := ⟨some 31, Op.move (Operand.tmp 5), 3, _, _, none⟩) (v := ?_) rfl (by kernel_rfl) (by kernel_rfl) (by kernel_rfl) (fun _ _ _ h => h) (Or.inl ⟨by rfl, ?_⟩) hHeld ?_
        rotate_left
        · (intro W hSw; go_simp <;> with_reducible rfl)
        try simp only [Act.put, List.setIfInBounds_toArray, List.set_cons_zero, List.set_cons_succ]
        refine wpAnyH_take (i := 8) (oi := ⟨some 32, Op.slice 70 (Operand.tmp 30) (some (Operand.tmp 31)) none none, 70, _, _, none⟩) (v := ?_) rfl (by kernel_rfl) (by kernel_rfl) (by kernel_rfl) (fun _ _ _ h => h) (Or.inl ⟨by rfl, ?_⟩) hHeld ?_
        rotate_left
        · (intro W hSw; go_simp <;> with_reducible rfl)
        try simp only [Act.put, List.setIfInBounds_toArray, List.set_cons_zero, List.set_cons_succ]
        refine wpAnyH_ready (rs := [5]) (by kernel_rfl) (by simp) ?_
        refine AllReadyH.cons (o := ⟨some 29, Op.buildSlice 70 1 #[(0, Operand.tmp 28)], 70, _, _, none⟩) rfl (fun K hK => ?_) AllReadyH.nil
        go_simp
        refine hK.out _ _ trivial (fun hHeld => ?_)
        clear hK K
        try simp only [Act.put, List.setIfInBounds_toArray, List.set_cons_zero, List.set_cons_succ]
        refine wpAnyH_ready (rs := [9]) (by kernel_rfl) (by simp) ?_
        refine AllReadyH.cons (o := ⟨some 33, Op.call ⟨Callee.builtin Builtin.append, #[Operand.tmp 29, Operand.tmp 32], #[70, 70]⟩, 70, _, _, none⟩) rfl (fun K hK => ?_) AllReadyH.nil
        refine step_append_grows rfl (.tmp 29) (.tmp 32) 70 rfl 9 i1 (.string ⟨#[]⟩) 1 16 Tryz.underlying70 hj0 hy0 hy1 hy2 rfl (by decide) (some ⟨wr.heap.size, 0, none⟩) 1 1 [.string s] rfl (fun h => by cases h) rfl (by intro b hb; cases hb; exact (by intro j u hj; match j, hj with | 0, hj => simp at hj; subst hj; simp [Addr.add] | j + 1, hj => simp at hj)) ⟨b, o + k, none⟩ (N.length - k) (cap - k) (Pp.vs (N.drop k)) rfl (by rw [Pp.vs_len, List.length_drop, Nat.mul_one]) (vs_off HV.out hbN) (Pp.vs_oneW _) (by omega) (by unfold maxLen; omega) (by omega) ?_
        intro v4 w4 ho4 hgr4
        have hb4 : Below w.heap.size w w4 := hbN.grown hgr4 hbN.size (fun k hk => by cases hk)
        have e4 : [Value.string s] ++ Pp.vs (N.drop k) = Pp.vs (s.data.toList :: N.drop k) := by
          show _ = Value.string ⟨s.data.toList.toArray⟩ :: Pp.vs (N.drop k)
          rw [Mg.bytes_self]; rfl
        rw [e4] at ho4
        have hl4 : (s.data.toList :: N.drop k).length = 1 + (N.length - k) := by rw [List.length_cons, List.length_drop]; omega
        rw [← hl4] at ho4
        obtain ⟨g4, cap4, rfl, hg4, hlt4, hce4⟩ := Pp.own_atW ho4 (by simp)
        have HC4 : Hid (∀ j u, (Pp.vs (s.data.toList :: N.drop k))[j]? = some u → w4.cell? ((⟨g4, 0, none⟩ : Addr).add j) = some u) := (fun j u hj => Pp.vs_cellsW hce4 0 j u (by rw [List.drop_zero]; exact hj) : ∀ j u, (Pp.vs (s.data.toList :: N.drop k))[j]? = some u → w4.cell? ((⟨g4, 0, none⟩ : Addr).add j) = some u)
        clear ho4 hgr4 hce4 e4
        refine hK.out _ _ trivial (fun hHeld => ?_)
        clear hK K
        try simp only [Act.put, List.setIfInBounds_toArray, List.set_cons_zero, List.set_cons_succ]
        refine wpAnyH_ready (rs := [10]) (by kernel_rfl) (by simp) ?_
        refine AllReadyH.cons (o := ⟨some 34, Op.call ⟨Callee.builtin Builtin.append, #[Operand.tmp 27, Operand.tmp 33], #[70, 70]⟩, 70, _, _, none⟩) rfl (fun K hK => ?_) AllReadyH.nil
        refine step_append_grows rfl (.tmp 27) (.tmp 33) 70 rfl 9 i1 (.string ⟨#[]⟩) 1 16 Tryz.underlying70 hj0 hy0 hy1 hy2 rfl (by decide) (some ⟨b, o, none⟩) k k (Pp.vs (N.take k)) rfl (fun h => by cases h) (by rw [Pp.vs_len, List.length_take]; omega) (vs_take HV.out hb4) ⟨g4, 0, none⟩ (s.data.toList :: N.drop k).length cap4 (Pp.vs (s.data.toList :: N.drop k)) rfl (by rw [Pp.vs_len, Nat.mul_one]) HC4.out (Pp.vs_oneW _) (by rw [hl4]; omega) (by rw [hl4]; unfold maxLen; omega) (by rw [hl4]; omega) ?_
        intro v5 w5 ho5 hgr5
        have hb5 : Below w.heap.size w w5 := hb4.grown hgr5 hb4.size (fun k hk => by cases hk)
        rw [Pp.vs_appW] at ho5
        have hl5 : (N.take k ++ s.data.toList :: N.drop k).length = k + (s.data.toList :: N.drop k).length := by rw [List.length_append, List.length_take]; omega
        rw [← hl5] at ho5
        have HO : Hid (LiesT w5 v5 (N.take k ++ s.data.toList :: N.drop k)) := liesT_own ho5 (by rw [hl5, hl4]; omega)
        clear ho5 hgr5 hl5
        refine hK.out _ _ trivial (fun hHeld => ?_)
        clear hK K
        try simp only [Act.put, List.setIfInBounds_toArray, List.set_cons_zero, List.set_cons_succ]
        refine wpAnyH_take (i := 11) (oi := ⟨some 4, Op.assign (Operand.tmp 34), 70, _, _, none⟩) (v := ?_) rfl (by kernel_rfl) (by kernel_rfl) (by kernel_rfl) (fun _ _ _ h => h) (Or.inl ⟨by rfl, ?_⟩) hHeld ?_
        rotate_left
        · (intro W hSw; go_simp <;> with_reducible rfl)
        try simp only [Act.put, List.setIfInBounds_toArray, List.set_cons_zero, List.set_cons_succ]
        refine wpAnyH_done (by kernel_rfl) ?_ _
        go_wp2
        go_ret
        exact ⟨_, rfl, ⟨_, hk, HK.out, HE.out, HO.out⟩, hb5⟩
      · obtain rfl : k = N.length := by omega
        have hd : decide ((N.length : Int) < (N.length : Int)) = false := by simp
        have hbN : Below w.heap.size w (wr.alloc (.cells #[.string s] 9)).drew := (hbel.alloc hbel.size _).drew
        have HNONE : Hid (a = none → N.length = 0 ∧ N.length = 0) := (fun h => by have := h4 h; omega : a = none → N.length = 0 ∧ N.length = 0)
        have hco : ((N.length : Nat) : Int) ≤ cap := by omega
        have hcases : a = none ∨ ∃ A, a = some A := by cases a with
          | none => exact Or.inl rfl
          | some A => exact Or.inr ⟨A, rfl⟩
        rcases hcases with rfl | ⟨A, rfl⟩
        · have hc0 := h4 rfl
          subst hc0
          have hN0 : N = [] := List.length_eq_zero_iff.1 (by omega)
          subst hN0
          go_wp2_with fail
          refine wp_region_held_drew (S := fun _ => True) (by kernel_rfl) trivial (fun hHeld => ?_)
          refine wpAnyH_take (i := 0) (oi := ⟨some 24, Op.move (Operand.tmp 0), 70, _, _, none⟩) (v := ?_) rfl (by kernel_rfl) (by kernel_rfl) (by kernel_rfl) (fun _ _ _ h => h) (Or.inl ⟨by rfl, ?_⟩) hHeld ?_
          rotate_left
          · (intro W hSw; go_simp <;> with_reducible rfl)
          try simp only [Act.put, List.setIfInBounds_toArray, List.set_cons_zero, List.set_cons_succ]
          refine wpAnyH_take (i := 1) (oi := ⟨some 25, Op.move (Operand.tmp 5), 3, _, _, none⟩) (v := ?_) rfl (by kernel_rfl) (by kernel_rfl) (by kernel_rfl) (fun _ _ _ h => h) (Or.inl ⟨by rfl, ?_⟩) hHeld ?_
          rotate_left
          · (intro W hSw; go_simp <;> with_reducible rfl)
          try simp only [Act.put, List.setIfInBounds_toArray, List.set_cons_zero, List.set_cons_succ]
          refine wpAnyH_take (i := 2) (oi := ⟨some 26, Op.move (Operand.tmp 5), 3, _, _, none⟩) (v := ?_) rfl (by kernel_rfl) (by kernel_rfl) (by kernel_rfl) (fun _ _ _ h => h) (Or.inl ⟨by rfl, ?_⟩) hHeld ?_
          rotate_left
          · (intro W hSw; go_simp <;> with_reducible rfl)
          try simp only [Act.put, List.setIfInBounds_toArray, List.set_cons_zero, List.set_cons_succ]
          refine wpAnyH_take (i := 3) (oi := ⟨some 27, Op.slice 70 (Operand.tmp 24) none (some (Operand.tmp 25)) (some (Operand.tmp 26)), 70, _, _, none⟩) (v := ?_) rfl (by kernel_rfl) (by kernel_rfl) (by kernel_rfl) (fun _ _ _ h => h) (Or.inl ⟨by rfl, ?_⟩) hHeld ?_
          rotate_left
          · (intro W hSw; go_simp <;> with_reducible rfl)
          try simp only [Act.put, List.setIfInBounds_toArray, List.set_cons_zero, List.set_cons_succ]
          refine wpAnyH_take (i := 4) (oi := ⟨some 28, Op.move (Operand.tmp 1), 9, _, _, none⟩) (v := ?_) rfl (by kernel_rfl) (by kernel_rfl) (by kernel_rfl) (fun _ _ _ h => h) (Or.inl ⟨by rfl, ?_⟩) hHeld ?_
          rotate_left
          · (intro W hSw; go_simp <;> with_reducible rfl)
          try simp only [Act.put, List.setIfInBounds_toArray, List.set_cons_zero, List.set_cons_succ]
          refine wpAnyH_take (i := 6) (oi := ⟨some 30, Op.move (Operand.tmp 0), 70, _, _, none⟩) (v := ?_) rfl (by kernel_rfl) (by kernel_rfl) (by kernel_rfl) (fun _ _ _ h => h) (Or.inl ⟨by rfl, ?_⟩) hHeld ?_
          rotate_left
          · (intro W hSw; go_simp <;> with_reducible rfl)
          try simp only [Act.put, List.setIfInBounds_toArray, List.set_cons_zero, List.set_cons_succ]
          refine wpAnyH_take (i := 7) (oi := ⟨some 31, Op.move (Operand.tmp 5), 3, _, _, none⟩) (v := ?_) rfl (by kernel_rfl) (by kernel_rfl) (by kernel_rfl) (fun _ _ _ h => h) (Or.inl ⟨by rfl, ?_⟩) hHeld ?_
          rotate_left
          · (intro W hSw; go_simp <;> with_reducible rfl)
          try simp only [Act.put, List.setIfInBounds_toArray, List.set_cons_zero, List.set_cons_succ]
          refine wpAnyH_take (i := 8) (oi := ⟨some 32, Op.slice 70 (Operand.tmp 30) (some (Operand.tmp 31)) none none, 70, _, _, none⟩) (v := ?_) rfl (by kernel_rfl) (by kernel_rfl) (by kernel_rfl) (fun _ _ _ h => h) (Or.inl ⟨by rfl, ?_⟩) hHeld ?_
          rotate_left
          · (intro W hSw; go_simp <;> with_reducible rfl)
          try simp only [Act.put, List.setIfInBounds_toArray, List.set_cons_zero, List.set_cons_succ]
          refine wpAnyH_ready (rs := [5]) (by kernel_rfl) (by simp) ?_
          refine AllReadyH.cons (o := ⟨some 29, Op.buildSlice 70 1 #[(0, Operand.tmp 28)], 70, _, _, none⟩) rfl (fun K hK => ?_) AllReadyH.nil
          go_simp
          refine hK.out _ _ trivial (fun hHeld => ?_)
          clear hK K
          try simp only [Act.put, List.setIfInBounds_toArray, List.set_cons_zero, List.set_cons_succ]
          refine wpAnyH_ready (rs := [9]) (by kernel_rfl) (by simp) ?_
          refine AllReadyH.cons (o := ⟨some 33, Op.call ⟨Callee.builtin Builtin.append, #[Operand.tmp 29, Operand.tmp 32], #[70, 70]⟩, 70, _, _, none⟩) rfl (fun K hK => ?_) AllReadyH.nil
          go_simp
          refine hK.out _ _ trivial (fun hHeld => ?_)
          clear hK K
          try simp only [Act.put, List.setIfInBounds_toArray, List.set_cons_zero, List.set_cons_succ]
          refine wpAnyH_ready (rs := [10]) (by kernel_rfl) (by simp) ?_
          refine AllReadyH.cons (o := ⟨some 34, Op.call ⟨Callee.builtin Builtin.append, #[Operand.tmp 27, Operand.tmp 33], #[70, 70]⟩, 70, _, _, none⟩) rfl (fun K hK => ?_) AllReadyH.nil
          refine step_append_grows rfl (.tmp 27) (.tmp 33) 70 rfl 9 i1 (.string ⟨#[]⟩) 1 16 Tryz.underlying70 hj0 hy0 hy1 hy2 rfl (by decide) _ _ _ (Pp.vs []) rfl (fun _ => ⟨rfl, rfl⟩) (by simp [Pp.vs]) (HV.out.cells hbN) ⟨wr.heap.size, 0, none⟩ 1 1 [.string s] rfl rfl (by intro j u hj; match j, hj with | 0, hj => simp at hj; subst hj; simp [Addr.add] | j + 1, hj => simp at hj) (by intro u hu; simp at hu; subst hu; rfl) (by first | omega | (simp; omega)) (by unfold maxLen; omega) (by omega) ?_
          intro v5 w5 ho5 hgr5
          have hb5 : Below w.heap.size w w5 := hbN.grown hgr5 hbN.size (fun k hk => by cases hk)
          have e1 : Pp.vs [] ++ [.string s] = Pp.vs ([].take 0 ++ s.data.toList :: [].drop 0) := by rw [List.take_nil, List.drop_nil, List.nil_append, ← List.nil_append [s.data.toList], ← Pp.vs_snoc, Mg.bytes_self]
          rw [e1] at ho5
          have hl5 : ([].take 0 ++ s.data.toList :: [].drop 0).length = 0 + 1 := rfl
          rw [← hl5] at ho5
          have HO : Hid (LiesT w5 v5 ([].take 0 ++ s.data.toList :: [].drop 0)) := liesT_own ho5 (by rw [hl5]; omega)
          clear ho5 hgr5 e1 hl5
          refine hK.out _ _ trivial (fun hHeld => ?_)
          clear hK K
          try simp only [Act.put, List.setIfInBounds_toArray, List.set_cons_zero, List.set_cons_succ]
          refine wpAnyH_take (i := 11) (oi := ⟨some 4, Op.assign (Operand.tmp 34), 70, _, _, none⟩) (v := ?_) rfl (by kernel_rfl) (by kernel_rfl) (by kernel_rfl) (fun _ _ _ h => h) (Or.inl ⟨by rfl, ?_⟩) hHeld ?_
          rotate_left
          · (intro W hSw; go_simp <;> with_reducible rfl)
          try simp only [Act.put, List.setIfInBounds_toArray, List.set_cons_zero, List.set_cons_succ]
          refine wpAnyH_done (by kernel_rfl) ?_ _
          go_wp2
          go_ret
          exact ⟨_, rfl, ⟨_, hk, HK.out, HE.out, HO.out⟩, hb5⟩
        · by_cases hcc : cap = N.length
          all_goals
            go_wp2_with fail
            refine wp_region_held_drew (S := fun _ => True) (by kernel_rfl) trivial (fun hHeld => ?_)
            refine wpAnyH_take (i := 0) (oi := ⟨some 24, Op.move (Operand.tmp 0), 70, _, _, none⟩) (v := ?_) rfl (by kernel_rfl) (by kernel_rfl) (by kernel_rfl) (fun _ _ _ h => h) (Or.inl ⟨by rfl, ?_⟩) hHeld ?_
            rotate_left
            · (intro W hSw; go_simp <;> with_reducible rfl)
            try simp only [Act.put, List.setIfInBounds_toArray, List.set_cons_zero, List.set_cons_succ]
            refine wpAnyH_take (i := 1) (oi := ⟨some 25, Op.move (Operand.tmp 5), 3, _, _, none⟩) (v := ?_) rfl (by kernel_rfl) (by kernel_rfl) (by kernel_rfl) (fun _ _ _ h => h) (Or.inl ⟨by rfl, ?_⟩) hHeld ?_
            rotate_left
            · (intro W hSw; go_simp <;> with_reducible rfl)
            try simp only [Act.put, List.setIfInBounds_toArray, List.set_cons_zero, List.set_cons_succ]
            refine wpAnyH_take (i := 2) (oi := ⟨some 26, Op.move (Operand.tmp 5), 3, _, _, none⟩) (v := ?_) rfl (by kernel_rfl) (by kernel_rfl) (by kernel_rfl) (fun _ _ _ h => h) (Or.inl ⟨by rfl, ?_⟩) hHeld ?_
            rotate_left
            · (intro W hSw; go_simp <;> with_reducible rfl)
            try simp only [Act.put, List.setIfInBounds_toArray, List.set_cons_zero, List.set_cons_succ]
            refine wpAnyH_take (i := 3) (oi := ⟨some 27, Op.slice 70 (Operand.tmp 24) none (some (Operand.tmp 25)) (some (Operand.tmp 26)), 70, _, _, none⟩) (v := ?_) rfl (by kernel_rfl) (by kernel_rfl) (by kernel_rfl) (fun _ _ _ h => h) (Or.inl ⟨by rfl, ?_⟩) hHeld ?_
            rotate_left
            · (intro W hSw; go_simp <;> with_reducible rfl)
            try simp only [Act.put, List.setIfInBounds_toArray, List.set_cons_zero, List.set_cons_succ]
            refine wpAnyH_take (i := 4) (oi := ⟨some 28, Op.move (Operand.tmp 1), 9, _, _, none⟩) (v := ?_) rfl (by kernel_rfl) (by kernel_rfl) (by kernel_rfl) (fun _ _ _ h => h) (Or.inl ⟨by rfl, ?_⟩) hHeld ?_
            rotate_left
            · (intro W hSw; go_simp <;> with_reducible rfl)
            try simp only [Act.put, List.setIfInBounds_toArray, List.set_cons_zero, List.set_cons_succ]
            refine wpAnyH_take (i := 6) (oi := ⟨some 30, Op.move (Operand.tmp 0), 70, _, _, none⟩) (v := ?_) rfl (by kernel_rfl) (by kernel_rfl) (by kernel_rfl) (fun _ _ _ h => h) (Or.inl ⟨by rfl, ?_⟩) hHeld ?_
            rotate_left
            · (intro W hSw; go_simp <;> with_reducible rfl)
            try simp only [Act.put, List.setIfInBounds_toArray, List.set_cons_zero, List.set_cons_succ]
            refine wpAnyH_take (i := 7) (oi := ⟨some 31, Op.move (Operand.tmp 5), 3, _, _, none⟩) (v := ?_) rfl (by kernel_rfl) (by kernel_rfl) (by kernel_rfl) (fun _ _ _ h => h) (Or.inl ⟨by rfl, ?_⟩) hHeld ?_
            rotate_left
            · (intro W hSw; go_simp <;> with_reducible rfl)
            try simp only [Act.put, List.setIfInBounds_toArray, List.set_cons_zero, List.set_cons_succ]
            refine wpAnyH_take (i := 8) (oi := ⟨some 32, Op.slice 70 (Operand.tmp 30) (some (Operand.tmp 31)) none none, 70, _, _, none⟩) (v := ?_) rfl (by kernel_rfl) (by kernel_rfl) (by kernel_rfl) (fun _ _ _ h => h) (Or.inl ⟨by rfl, ?_⟩) hHeld ?_
            rotate_left
            · (intro W hSw; go_simp <;> with_reducible rfl)
            try simp only [Act.put, List.setIfInBounds_toArray, List.set_cons_zero, List.set_cons_succ]
            refine wpAnyH_ready (rs := [5]) (by kernel_rfl) (by simp) ?_
            refine AllReadyH.cons (o := ⟨some 29, Op.buildSlice 70 1 #[(0, Operand.tmp 28)], 70, _, _, none⟩) rfl (fun K hK => ?_) AllReadyH.nil
            go_simp
            refine hK.out _ _ trivial (fun hHeld => ?_)
            clear hK K
            try simp only [Act.put, List.setIfInBounds_toArray, List.set_cons_zero, List.set_cons_succ]
            refine wpAnyH_ready (rs := [9]) (by kernel_rfl) (by simp) ?_
            refine AllReadyH.cons (o := ⟨some 33, Op.call ⟨Callee.builtin Builtin.append, #[Operand.tmp 29, Operand.tmp 32], #[70, 70]⟩, 70, _, _, none⟩) rfl (fun K hK => ?_) AllReadyH.nil
            go_simp
            refine hK.out _ _ trivial (fun hHeld => ?_)
            clear hK K
            try simp only [Act.put, List.setIfInBounds_toArray, List.set_cons_zero, List.set_cons_succ]
            refine wpAnyH_ready (rs := [10]) (by kernel_rfl) (by simp) ?_
            refine AllReadyH.cons (o := ⟨some 34, Op.call ⟨Callee.builtin Builtin.append, #[Operand.tmp 27, Operand.tmp 33], #[70, 70]⟩, 70, _, _, none⟩) rfl (fun K hK => ?_) AllReadyH.nil
            refine step_append_grows rfl (.tmp 27) (.tmp 33) 70 rfl 9 i1 (.string ⟨#[]⟩) 1 16 Tryz.underlying70 hj0 hy0 hy1 hy2 rfl (by decide) _ _ _ (Pp.vs N) rfl HNONE.out (by simp [Pp.vs]) (HV.out.cells hbN) ⟨wr.heap.size, 0, none⟩ 1 1 [.string s] rfl rfl (by intro j u hj; match j, hj with | 0, hj => simp at hj; subst hj; simp [Addr.add] | j + 1, hj => simp at hj) (by intro u hu; simp at hu; subst hu; rfl) (by first | omega | (simp; omega)) (by unfold maxLen; omega) (by omega) ?_
            intro v5 w5 ho5 hgr5
            have hb5 : Below w.heap.size w w5 := hbN.grown hgr5 hbN.size (fun k hk => by cases hk)
            have e1 : Pp.vs N ++ [.string s] = Pp.vs (N.take N.length ++ s.data.toList :: N.drop N.length) := by rw [List.take_length, List.drop_length, ← Pp.vs_snoc, Mg.bytes_self]
            rw [e1] at ho5
            have hl5 : (N.take N.length ++ s.data.toList :: N.drop N.length).length = N.length + 1 := by rw [List.take_length, List.drop_length, List.length_append]; rfl
            rw [← hl5] at ho5
            have HO : Hid (LiesT w5 v5 (N.take N.length ++ s.data.toList :: N.drop N.length)) := liesT_own ho5 (by rw [hl5]; omega)
            clear ho5 hgr5 e1 hl5
            refine hK.out _ _ trivial (fun hHeld => ?_)
            clear hK K
            try simp only [Act.put, List.setIfInBounds_toArray, List.set_cons_zero, List.set_cons_succ]
            refine wpAnyH_take (i := 11) (oi := ⟨some 4, Op.assign (Operand.tmp 34), 70, _, _, none⟩) (v := ?_) rfl (by kernel_rfl) (by kernel_rfl) (by kernel_rfl) (fun _ _ _ h => h) (Or.inl ⟨by rfl, ?_⟩) hHeld ?_
            rotate_left
            · (intro W hSw; go_simp <;> with_reducible rfl)
            try simp only [Act.put, List.setIfInBounds_toArray, List.set_cons_zero, List.set_cons_succ]
            refine wpAnyH_done (by kernel_rfl) ?_ _
            go_wp2
            go_ret
            exact ⟨_, rfl, ⟨_, hk, HK.out, HE.out, HO.out⟩, hb5⟩

end Go.Proofs.YtlllcifehellpaaGreatDoor
set_option linter.unusedSimpArgs false
set_option linter.unusedVariables false
namespace Go.Proofs.YtlllcifehellpaaGreatDoor
open Go.RowKit Go.Maps

set_option maxRecDepth 100000 in
set_option maxHeartbeats 1000000 in
theorem putText_there (N : List (List UInt8)) (v : Value) (s : ByteArray) (w : World) (hv : LiesT w v N) (hN : s.data.toList ∈ N) :
    Calls Tryz.prog 31 #[v, .string s] w fun e w' => e = .returned v ∧ Below w.heap.size w w' := by
  have HV := hid hv
  have HN : Hid (decide (s.data.toList ∈ N) = true) := (by simpa using hN : decide (s.data.toList ∈ N) = true)
  obtain ⟨a, cap, rfl, _⟩ := hv
  go_enter Tryz.func31, Tryz.ntmps31
  go_wp2_with fail
  refine (hasText_any N _ s _ HV.out).mono ?_
  rintro e w1 ⟨rfl, hb1⟩
  rw [HN.out]
  go_wp2_with fail
  go_ret
  exact ⟨rfl, hb1⟩

theorem putText_any (X : List En) (e : En) (v : Value) (w : World) (hv : LiesT w v (Mg.pths X)) (hr : Sp.Rise X) (hn : X.length ≤ 1000) :
    Calls Tryz.prog 31 #[v, .string e.path] w fun ex w' => ∃ u, ex = .returned u ∧ LiesT w' u (Mg.pths (Sp.put1 e X)) ∧ Below w.heap.size w w' := by
  by_cases h : e.path.data.toList ∈ Mg.pths X
  · refine (putText_there _ v e.path w hv h).mono ?_
    rintro ex w' ⟨rfl, hb⟩
    exact ⟨v, rfl, by rw [Mg.pths_there hr h]; exact hv.below hb, hb⟩
  · have hl : (Mg.pths X).length = X.length := by rw [Mg.pths, List.length_map]
    refine (putText_new _ v e.path w hv (by rw [hl]; exact hn) h).mono ?_
    rintro ex w' ⟨u, rfl, ⟨k, h1, h2, h3, h4⟩, hb⟩
    refine ⟨u, rfl, ?_, hb⟩
    have hk : k ≤ X.length := by omega
    rw [Mg.pths_new hr h hk (fun i hi => by
      have := h2 i hi (by omega)
      simpa [Mg.pths] using this) (fun hk2 => by
      have := h3 (by omega)
      simpa [Mg.pths] using this)]
    exact h4
end Go.Proofs.YtlllcifehellpaaGreatDoor
