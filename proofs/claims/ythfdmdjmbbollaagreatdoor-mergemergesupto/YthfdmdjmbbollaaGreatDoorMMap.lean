/- Maps of spots and the lists that they read as: laying one more spot, and laying all spots of another map. Plain mathematics. -/
import Derived.Test.YthfdmdjmbbollaaGreatDoorPG
import Derived.Lib.SlMapMerge
set_option linter.unusedSimpArgs false
set_option linter.unusedVariables false
namespace Go.Proofs.YthfdmdjmbbollaaGreatDoor
open Go.RowKit Go.Maps

namespace Sp
/-- Keys that are texts. -/
def Kd (l : Lit) : Prop := ∃ b, l = .string b
theorem oneKind : OneKind Kd := ⟨fun ⟨b, h⟩ => by rw [h]; trivial, fun ha hb hne => ChangeMaps.before_total ha hb hne⟩
theorem key_kd (p : ByteArray) : Kd (key p) := ⟨_, rfl⟩
theorem canonD (L : List En) : CanonK Kd (D L) := by
  refine snoc_ind (P := fun L => CanonK Kd (D L)) ⟨[], rfl, List.Pairwise.nil, fun p hp => by cases hp⟩ ?_ L
  intro L e ih
  rw [D_snoc]
  exact canonK_put oneKind (key_kd _) _ ih
theorem D_has (L : List En) (k : Lit) : has (D L) k = true ↔ ∃ e ∈ L, key e.path = k := by
  refine snoc_ind (P := fun L => has (D L) k = true ↔ ∃ e ∈ L, key e.path = k) ⟨(fun h => by cases h), fun ⟨e, he, _⟩ => by cases he⟩ ?_ L
  intro L e ih
  rw [D_snoc, put]
  by_cases hk : key e.path = k
  · subst hk
    rw [has_put_same (D_map L) (oneKind.key (key_kd _))]
    exact ⟨fun _ => ⟨e, by simp, rfl⟩, fun _ => rfl⟩
  · rw [has_put_other (fun h => hk h.symm), ih]
    constructor
    · rintro ⟨x, hx, hxk⟩
      exact ⟨x, by simp [hx], hxk⟩
    · rintro ⟨x, hx, hxk⟩
      rcases List.mem_append.1 hx with h | h
      · exact ⟨x, h, hxk⟩
      · rw [List.mem_singleton] at h
        exact absurd (h ▸ hxk) hk
/-- Two lists with the same spots give the same map. -/
theorem D_ext {L M : List En} (hL : Apart L) (hM : Apart M) (h : ∀ p : List UInt8, at_ L p = at_ M p) : D L = D M := by
  have hh : ∀ k, has (D L) k = true ↔ has (D M) k = true := by
    have one : ∀ {L M : List En}, (∀ p : List UInt8, at_ L p = at_ M p) → ∀ k, has (D L) k = true → has (D M) k = true := by
      intro L M h k hk
      obtain ⟨e, he, hek⟩ := (D_has L k).1 hk
      have h1 : (at_ L e.path.data.toList).isSome := by
        rw [at_, List.find?_isSome]
        exact ⟨e, he, atB_iff.2 rfl⟩
      rw [h] at h1
      obtain ⟨x, hx⟩ := Option.isSome_iff_exists.1 h1
      have hp := atB_iff.1 (List.find?_some hx)
      exact (D_has M k).2 ⟨x, List.mem_of_find?_eq_some hx, by rw [← hek, key, key, hp]⟩
    exact fun k => ⟨one h k, one (fun p => (h p).symm) k⟩
  refine ext ((canonD L).canon oneKind) ((canonD M).canon oneKind) (fun k => Bool.eq_iff_iff.2 (hh k)) (fun k z hk => ?_)
  obtain ⟨e, he, hek⟩ := (D_has L k).1 hk
  rw [← hek, D_at hL, D_at hM, h]
/-- A list with a spot in its place. -/
def put1 (e : En) (L : List En) : List En := Pp.ins e (L.filter (fun x => !Pp.atB e.path.data.toList x))
abbrev Rise (L : List En) : Prop := L.Pairwise (fun x y => Pp.lt x y = true)
theorem put1_rise {e : En} {L : List En} (h : Rise L) : Rise (put1 e L) := by
  refine Pp.ins_sorted e (h.filter _) ?_
  intro y hy he
  have := (List.mem_filter.1 hy).2
  rw [Pp.atB] at this
  simp [he] at this
theorem mem_put1 {e x : En} {L : List En} : x ∈ put1 e L ↔ x = e ∨ (x ∈ L ∧ x.path.data.toList ≠ e.path.data.toList) := by
  rw [put1, (Pp.ins_perm e _).mem_iff, List.mem_cons, List.mem_filter, Bool.not_eq_true', ← Bool.not_eq_true, atB_iff]
theorem at_iff {L : List En} (h : Apart L) {p : List UInt8} {e : En} : at_ L p = some e ↔ e ∈ L ∧ e.path.data.toList = p := by
  constructor
  · intro he
    exact ⟨List.mem_of_find?_eq_some he, atB_iff.1 (List.find?_some he)⟩
  · rintro ⟨he, rfl⟩
    have h1 : (at_ L e.path.data.toList).isSome := by
      rw [at_, List.find?_isSome]
      exact ⟨e, he, atB_iff.2 rfl⟩
    obtain ⟨x, hx⟩ := Option.isSome_iff_exists.1 h1
    have hp := atB_iff.1 (List.find?_some hx)
    have hm := List.mem_of_find?_eq_some hx
    rw [hx]
    by_cases hxe : x = e
    · rw [hxe]
    · exfalso
      rcases List.mem_iff_getElem.1 hm with ⟨i, hi, rfl⟩
      rcases List.mem_iff_getElem.1 he with ⟨j, hj, rfl⟩
      have hij : i ≠ j := fun e => hxe (by subst e; rfl)
      rcases Nat.lt_or_ge i j with hlt | hge
      · exact List.pairwise_iff_getElem.1 h i j hi hj hlt hp
      · exact List.pairwise_iff_getElem.1 h j i hj hi (by omega) hp.symm
theorem at_none {L : List En} {p : List UInt8} : at_ L p = none ↔ ∀ e ∈ L, e.path.data.toList ≠ p := by
  rw [at_, List.find?_eq_none]
  exact ⟨fun h e he hp => h e he (atB_iff.2 hp), fun h e he hb => h e he (atB_iff.1 hb)⟩
theorem at_put1 {e : En} {L : List En} (h : Rise L) (p : List UInt8) : at_ (put1 e L) p = if e.path.data.toList = p then some e else at_ L p := by
  have ha := apart_rise h
  have hb := apart_rise (put1_rise (e := e) h)
  by_cases hp : e.path.data.toList = p
  · rw [if_pos hp]
    exact (at_iff hb).2 ⟨mem_put1.2 (Or.inl rfl), hp⟩
  · rw [if_neg hp]
    cases hx : at_ L p with
    | none =>
      rw [at_none] at hx ⊢
      intro x hxm
      rcases mem_put1.1 hxm with rfl | ⟨hxl, _⟩
      · exact hp
      · exact hx x hxl
    | some x =>
      obtain ⟨h1, h2⟩ := (at_iff ha).1 hx
      exact (at_iff hb).2 ⟨mem_put1.2 (Or.inr ⟨h1, fun e' => hp (by rw [← e', h2])⟩), h2⟩
theorem D_put {L : List En} (h : Rise L) (e : En) : put (D L) e = D (put1 e L) := by
  have ha := apart_rise h
  have hc : CanonK Kd (put (D L) e) := canonK_put oneKind (key_kd _) _ (canonD L)
  refine ext (hc.canon oneKind) ((canonD _).canon oneKind) (fun k => Bool.eq_iff_iff.2 ?_) (fun k z hin => ?_)
  · by_cases hk : k = key e.path
    · subst hk
      rw [put, has_put_same (D_map L) (oneKind.key (key_kd _)), D_has]
      exact ⟨fun _ => ⟨e, mem_put1.2 (Or.inl rfl), rfl⟩, fun _ => rfl⟩
    · rw [put, has_put_other hk, D_has, D_has]
      constructor
      · rintro ⟨x, hx, hxk⟩
        exact ⟨x, mem_put1.2 (Or.inr ⟨hx, fun e' => hk (by rw [← hxk, key, key, e'])⟩), hxk⟩
      · rintro ⟨x, hx, hxk⟩
        rcases mem_put1.1 hx with rfl | ⟨hxl, _⟩
        · exact absurd hxk.symm hk
        · exact ⟨x, hxl, hxk⟩
  · by_cases hk : k = key e.path
    · subst hk
      rw [put, atKey_put_same (D_map L) (oneKind.key (key_kd _)), D_at (apart_rise (put1_rise h)), at_put1 h, if_pos rfl]
    · rw [put, has_put_other hk] at hin
      obtain ⟨x, _, hxk⟩ := (D_has L k).1 hin
      subst hxk
      rw [put, atKey_put_other hk, D_at ha, D_at (apart_rise (put1_rise h)), at_put1 h, if_neg (fun e' => hk (by rw [key, key, e']))]
end Sp
end Go.Proofs.YthfdmdjmbbollaaGreatDoor
