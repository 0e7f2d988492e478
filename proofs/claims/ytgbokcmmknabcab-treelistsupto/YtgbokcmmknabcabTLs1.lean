/- Names just in a path: they rise as their paths do; rows of texts; HasText, PutText and SameTexts of them. -/
import Derived.Test.YtgbokcmmknabcabTPure3
import Derived.Test.YtgbokcmmknabcabT16
import Derived.Test.YtgbokcmmknabcabTRst
import Derived.ArgAppend
set_option linter.unusedSimpArgs false
set_option linter.unusedVariables false
namespace Go.Proofs.Ytgbokcmmknabcab
open Go.RowKit

namespace Pp
theorem less_app : ∀ (a x y : List UInt8), Op.bytesLess (a ++ x) (a ++ y) = Op.bytesLess x y
  | [], _, _ => rfl
  | c :: r, x, y => by
    rw [List.cons_append, List.cons_append, Op.bytesLess, less_app r x y]
    simp
theorem chk_slash (b : List UInt8) : ¬ chk (47 :: b) = 0 := by
  intro h
  have hn : nm (47 :: b) = [] :: nm b := by simp [nm]
  have := chk_names h
  rw [hn] at this
  simp [nameB] at this
theorem name_lt {l m : List UInt8} (hl : chk l = 0) (hm : chk m = 0) (hp : par l = par m) (h : Op.bytesLess l m = true) : Op.bytesLess (lst l) (lst m) = true := by
  by_cases h1 : 47 ∈ l
  · obtain ⟨a, b, hb, rfl⟩ := last_split h1
    rw [par_cut a hb] at hp
    rw [lst_cut a hb]
    by_cases h2 : 47 ∈ m
    · obtain ⟨a', b', hb', rfl⟩ := last_split h2
      rw [par_cut a' hb'] at hp
      subst hp
      rw [lst_cut a hb']
      rw [less_app] at h
      have := less_app [47] b b'
      rw [List.singleton_append, List.singleton_append] at this
      rw [← this]; exact h
    · rw [par_none h2] at hp
      subst hp
      exact absurd hl (chk_slash b)
  · rw [par_none h1] at hp
    rw [lst_none h1]
    by_cases h2 : 47 ∈ m
    · obtain ⟨a', b', hb', rfl⟩ := last_split h2
      rw [par_cut a' hb'] at hp
      subst hp
      exact absurd hm (chk_slash b')
    · rw [lst_none h2]; exact h
/-- Is an entry just in a path? -/
def inP (p : List UInt8) (e : En) : Bool := par e.path.data.toList == p
def namesIn (p : List UInt8) (L : List En) : List (List UInt8) := (L.filter (inP p)).map (fun e => lst e.path.data.toList)
theorem ji_in {p : List UInt8} {e : En} (h : chk e.path.data.toList = 0) : jiB p e = inP p e := by rw [jiB, h, ifc_yes rfl, inP]
theorem names_take {p : List UInt8} {L : List En} {k : Nat} (h : k < L.length) : namesIn p (L.take (k + 1)) = if inP p L[k] = true then namesIn p (L.take k) ++ [lst (L[k]).path.data.toList] else namesIn p (L.take k) := by
  rw [namesIn, List.take_succ_eq_append_getElem h, List.filter_append, List.filter_cons]
  split <;> simp [namesIn]
/-- A name is behind all names of the entries ahead. -/
theorem names_less {p : List UInt8} {L : List En} (hL : Good L) {k : Nat} (h : k < L.length) (hi : inP p L[k] = true) : ∀ x ∈ namesIn p (L.take k), Op.bytesLess x (lst (L[k]).path.data.toList) = true := by
  intro x hx
  rw [namesIn, List.mem_map] at hx
  obtain ⟨e, he, rfl⟩ := hx
  obtain ⟨he1, he2⟩ := List.mem_filter.1 he
  obtain ⟨j, hj, rfl⟩ := List.getElem_of_mem he1
  rw [List.length_take] at hj
  rw [List.getElem_take] at he2 ⊢
  have hlt := List.pairwise_iff_getElem.1 hL.rise j k (by omega) h (by omega)
  rw [lt, Lib.toList_data, Lib.toList_data] at hlt
  have e1 : par (L[j]).path.data.toList = p := by simpa [inP] using he2
  have e2 : par (L[k]).path.data.toList = p := by simpa [inP] using hi
  exact name_lt (entE_path (hL.ents _ (List.getElem_mem _))) (entE_path (hL.ents _ (List.getElem_mem _))) (e1.trans e2.symm) hlt
theorem less_ne {x y : List UInt8} (h : Op.bytesLess x y = true) : (x == y) = false := by
  rw [beq_eq_false_iff_ne]
  intro e
  subst e
  rw [less_cmp, cmp_self] at h
  cases h
theorem bytes_self (s : ByteArray) : (⟨s.data.toList.toArray⟩ : ByteArray) = s := by cases s; simp
theorem bytes_of (l : List UInt8) : (⟨l.toArray⟩ : ByteArray).toList = l := by rw [Lib.toList_data]
end Pp

/-- A row of texts. -/
def LiesT (w : World) (v : Value) (N : List (List UInt8)) : Prop := ∃ a cap, v = .slice a N.length cap ∧ N.length ≤ cap ∧ cap ≤ maxLen ∧ N.length ≤ 1000000 ∧ (a = none → cap = 0) ∧ ∀ i (h : i < N.length), ∃ b o, a = some ⟨b, o, none⟩ ∧ b < w.heap.size ∧ w.cell? ⟨b, o + i, none⟩ = some (.string ⟨(N[i]).toArray⟩)
theorem LiesT.below {w w' : World} {v : Value} {N : List (List UInt8)} (h : LiesT w v N) (hw : Below w.heap.size w w') : LiesT w' v N := by
  obtain ⟨a, cap, hv, h1, h2, h3, h4, h5⟩ := h
  refine ⟨a, cap, hv, h1, h2, h3, h4, fun i hi => ?_⟩
  obtain ⟨b, o, ha, hb, he⟩ := h5 i hi
  exact ⟨b, o, ha, Nat.lt_of_lt_of_le hb hw.size, (hw.cell (p := ⟨b, o + i, none⟩) hb).trans he⟩
theorem liesT_nil (w : World) : LiesT w (.slice none 0 0) [] := ⟨none, 0, rfl, Nat.le_refl _, by decide, by decide, fun _ => rfl, fun i h => absurd h (by simp)⟩
theorem liesT_own {w : World} {base : Nat} {v : Value} {N : List (List UInt8)} (h : w.ownsRow base 9 1 v N.length (Pp.vs N)) (hn : N.length ≤ 1000000) : LiesT w v N := by
  have h' := h
  obtain ⟨hl, h2⟩ := h
  rcases h2 with ⟨rfl, hz⟩ | ⟨g, cap, cur, rfl, hg, hh, hn2, hm, hz, htake⟩
  · exact ⟨none, 0, by rw [hz], by omega, by decide, hn, fun _ => rfl, fun i h => absurd h (by omega)⟩
  · have hlt : g < w.heap.size := by
      rcases Nat.lt_or_ge g w.heap.size with h | h
      · exact h
      · rw [Array.getElem?_eq_none h] at hh; cases hh
    refine ⟨some ⟨g, 0, none⟩, cap, rfl, hn2, hm, hn, (fun h => by cases h), fun i h => ⟨g, 0, rfl, hlt, ?_⟩⟩
    rw [Nat.zero_add, h'.cellAt i (by omega)]
    simp [Pp.vs, h]

set_option maxHeartbeats 1000000 in
theorem hasText_no (N : List (List UInt8)) (v : Value) (s : ByteArray) (w : World) (hv : LiesT w v N) (hN : ∀ x ∈ N, (x == s.data.toList) = false) :
    Calls Try.prog 54 #[v, .string s] w fun e w' => e = .returned (.bool false) ∧ Below w.heap.size w w' := by
  obtain ⟨a, cap, rfl, h1, h2, h3, h4, h5⟩ := hv
  have HL : Hid (∀ i (h : i < N.length), ∃ b o, a = some ⟨b, o, none⟩ ∧ b < w.heap.size ∧ w.cell? ⟨b, o + i, none⟩ = some (.string ⟨(N[i]).toArray⟩)) := h5
  have HN := hid hN
  clear h5 hN h4
  go_enter Try.func54, Try.ntmps54
  go_wp2_with fail
  go_loopw [5] (fun i wr => ∃ k : Nat, k ≤ N.length ∧ i = .int .i64 k ∧ Below w.heap.size w wr) (fun i _ => N.length - (intOf i).toNat)
  case atStart => exact ⟨0, Nat.zero_le _, rfl, Below.refl _ _⟩
  case round =>
    obtain ⟨k, hk, rfl, hbel⟩ := hrel
    by_cases hlt : k < N.length
    · obtain ⟨b, o, rfl, hb, he⟩ := HL.out k hlt
      have c0 := (hbel.cell (p := ⟨b, o + k, none⟩) hb).trans he
      have hp2 : ((⟨(N[k]).toArray⟩ : ByteArray).toList == s.toList) = false := by rw [Pp.bytes_of, Lib.toList_data]; exact HN.out _ (List.getElem_mem hlt)
      clear he
      generalize (⟨(N[k]).toArray⟩ : ByteArray) = x at *
      go_wp2_with fail
      go_roundw
      case rel => exact ⟨k + 1, by omega, by simp, hbel⟩
      case measure => simp [intOf]; omega
    · go_wp2_with fail
      go_ret
      exact ⟨rfl, hbel⟩

set_option maxHeartbeats 1000000 in
theorem sameTexts_yes (N : List (List UInt8)) (v u : Value) (w : World) (hv : LiesT w v N) (hu : LiesT w u N) :
    Calls Try.prog 17 #[v, u] w fun e w' => e = .returned (.bool true) ∧ Below w.heap.size w w' := by
  obtain ⟨a, cap, rfl, h1, h2, h3, h4, h5⟩ := hv
  have HL : Hid (∀ i (h : i < N.length), ∃ b o, a = some ⟨b, o, none⟩ ∧ b < w.heap.size ∧ w.cell? ⟨b, o + i, none⟩ = some (.string ⟨(N[i]).toArray⟩)) := h5
  obtain ⟨a', cap', rfl, g1, g2, g3, g4, g5⟩ := hu
  have HL' : Hid (∀ i (h : i < N.length), ∃ b o, a' = some ⟨b, o, none⟩ ∧ b < w.heap.size ∧ w.cell? ⟨b, o + i, none⟩ = some (.string ⟨(N[i]).toArray⟩)) := g5
  clear h5 g5 h4 g4
  go_enter Try.func17, Try.ntmps17
  go_wp2_with fail
  go_loopw [5] (fun i wr => ∃ k : Nat, k ≤ N.length ∧ i = .int .i64 k ∧ Below w.heap.size w wr) (fun i _ => N.length - (intOf i).toNat)
  case atStart => exact ⟨0, Nat.zero_le _, rfl, Below.refl _ _⟩
  case round =>
    obtain ⟨k, hk, rfl, hbel⟩ := hrel
    by_cases hlt : k < N.length
    · obtain ⟨b, o, rfl, hb, he⟩ := HL.out k hlt
      obtain ⟨b', o', rfl, hb', he'⟩ := HL'.out k hlt
      have c0 := (hbel.cell (p := ⟨b, o + k, none⟩) hb).trans he
      have c1 := (hbel.cell (p := ⟨b', o' + k, none⟩) hb').trans he'
      clear he he'
      generalize (⟨(N[k]).toArray⟩ : ByteArray) = x at *
      go_wp2_with fail
      go_region
      go_wp2_with fail
      go_roundw
      case rel => exact ⟨k + 1, by omega, by simp, hbel.drew⟩
      case measure => simp [intOf]; omega
    · go_wp2_with fail
      go_ret
      exact ⟨rfl, hbel⟩
end Go.Proofs.Ytgbokcmmknabcab
