/- Folders that are made, one after the other: mathematics. Merging as mathematics: what is at each path, step by step. What goes aside and what is made, as mathematics: what stays true step by step. Merging as mathematics: trees that are alike, what one side changed, the other way round. -/
import Derived.Test.YtlllcifehellpaaGreatDoorQB
import Derived.Test.YtlllcifehellpaaGreatDoorMA
import Derived.Test.YtlllcifehellpaaGreatDoorQS
set_option linter.unusedSimpArgs false
set_option linter.unusedVariables false
namespace Go.Proofs.YtlllcifehellpaaGreatDoor
open Go.RowKit Go.Maps Go.WideMaps

namespace Mg
abbrev CC := List (ByteArray × ByteArray)
/-- The folders of a path, up to one of its bytes. -/
def pres (p : ByteArray) (k : Nat) : List ByteArray := (List.range k).filterMap (fun i => if p.data.toList[i]? = some 47 then some (p.extract 0 i) else none)
theorem pres_hit {p : ByteArray} {k : Nat} (h : p.data.toList[k]? = some 47) : pres p (k + 1) = pres p k ++ [p.extract 0 k] := by
  have h' : p.data[k]? = some 47 := by simpa using h
  rw [pres, pres, List.range_succ, List.filterMap_append]
  simp [List.filterMap_cons, h']
theorem pres_miss {p : ByteArray} {k : Nat} (h : ¬ p.data.toList[k]? = some 47) : pres p (k + 1) = pres p k := by
  have h' : ¬ p.data[k]? = some 47 := by simpa using h
  rw [pres, pres, List.range_succ, List.filterMap_append]
  simp [List.filterMap_cons, h']
theorem pres_len (p : ByteArray) : ∀ k, (pres p k).length ≤ k := fun k => by
  have := List.length_filterMap_le (fun i => if p.data.toList[i]? = some 47 then some (p.extract 0 i) else none) (List.range k)
  rw [List.length_range] at this
  exact this
/-- Folders that are made, one after the other. -/
def mks (M T : List En) : List ByteArray → List En × CC → Option (List En × CC)
  | [], s => some s
  | q :: r, s => (mkf M T s.1 s.2 q).bind (mks M T r)
theorem mks_app (M T : List En) : ∀ (a b : List ByteArray) (s : List En × CC), mks M T (a ++ b) s = (mks M T a s).bind (mks M T b)
  | [], b, s => rfl
  | q :: r, b, s => by
    rw [List.cons_append, mks, mks, Option.bind_assoc]
    congr 1
    funext t
    exact mks_app M T r b t
theorem mks_none {M T : List En} {a b : List ByteArray} {q : ByteArray} {s : List En × CC} {N : List En} {C : CC} (h : mks M T a s = some (N, C)) (h1 : mkf M T N C q = none) : mks M T (a ++ [q] ++ b) s = none := by
  rw [mks_app, mks_app, h]
  simp [mks, h1]
theorem mks_some {M T : List En} {a : List ByteArray} {q : ByteArray} {s t : List En × CC} {N : List En} {C : CC} (h : mks M T a s = some (N, C)) (h1 : mkf M T N C q = some t) : mks M T (a ++ [q]) s = some t := by
  rw [mks_app, h]
  simp [mks, h1]
theorem mkf_rise {M T N : List En} {C : CC} {p : ByteArray} {N' : List En} {C' : CC} (h : mkf M T N C p = some (N', C')) (hN : Sp.Rise N) : Sp.Rise N' ∧ C'.length ≤ C.length + 1 := by
  by_cases h2 : (st N p.data.toList).w = 2
  · cases ha : asd M T N p.data.toList with
    | none => rw [mkf_no h2 ha] at h; cases h
    | some q =>
      rw [mkf_some h2 ha] at h
      injection h with h
      injection h with e1 e2
      rw [← e1, ← e2]
      exact ⟨Sp.put1_rise (Sp.put1_rise hN), by simp⟩
  · rw [mkf_else h2] at h
    injection h with h
    injection h with e1 e2
    rw [← e1, ← e2]
    exact ⟨Sp.put1_rise hN, by simp⟩
/-- All folders of all paths. -/
def allP (N : List En) (k : Nat) : List ByteArray := (N.take k).flatMap (fun e => pres e.path e.path.size)
theorem allP_succ {N : List En} {k : Nat} (hk : k < N.length) : allP N (k + 1) = allP N k ++ pres N[k].path N[k].path.size := by
  rw [allP, allP, List.take_succ_eq_append_getElem hk, List.flatMap_append]
  simp
theorem allP_len {N : List En} (h : ∀ e ∈ N, e.path.size ≤ 80) : ∀ k, (allP N k).length ≤ 80 * k
  | 0 => by simp [allP]
  | k + 1 => by
    by_cases hk : k < N.length
    · rw [allP_succ hk, List.length_append]
      have := allP_len h k
      have h1 := pres_len N[k].path N[k].path.size
      have h2 := h _ (List.getElem_mem hk)
      omega
    · have : allP N (k + 1) = allP N k := by rw [allP, allP, List.take_of_length_le (by omega), List.take_of_length_le (by omega)]
      rw [this]
      have := allP_len h k
      omega
theorem pres_more (p : ByteArray) {k : Nat} (h : k < p.size) : ∃ r, pres p p.size = pres p (k + 1) ++ r := by
  have : ∀ d k, ∃ r, pres p (k + d) = pres p k ++ r := by
    intro d
    induction d with
    | zero => intro k; exact ⟨[], by simp⟩
    | succ d ih =>
      intro k
      obtain ⟨r, hr⟩ := ih k
      by_cases h : p.data.toList[k + d]? = some 47
      · exact ⟨r ++ [p.extract 0 (k + d)], by rw [← Nat.add_assoc, pres_hit h, hr, List.append_assoc]⟩
      · exact ⟨r, by rw [← Nat.add_assoc, pres_miss h, hr]⟩
  obtain ⟨r, hr⟩ := this (p.size - (k + 1)) (k + 1)
  rw [show k + 1 + (p.size - (k + 1)) = p.size by omega] at hr
  exact ⟨r, hr⟩
theorem allP_more (N : List En) {k : Nat} (h : k ≤ N.length) : ∃ r, allP N N.length = allP N k ++ r := by
  refine ⟨(N.drop k).flatMap (fun e => pres e.path e.path.size), ?_⟩
  rw [allP, allP, ← List.flatMap_append, List.take_length, List.take_append_drop]
end Mg
end Go.Proofs.YtlllcifehellpaaGreatDoor
set_option linter.unusedSimpArgs false
set_option linter.unusedVariables false
namespace Go.Proofs.YtlllcifehellpaaGreatDoor
open Go.RowKit Go.Maps

namespace Mg
theorem ba_ext {a b : ByteArray} (h : a.data.toList = b.data.toList) : a = b := by
  cases a; cases b
  simp only at h
  congr 1
  exact Array.toList_inj.1 h
def spo (e : En) : Spo := ⟨Sp.wh e, Sp.tx e, e.ver⟩
theorem st_some {L : List En} {p : List UInt8} {e : En} (h : Sp.at_ L p = some e) : st L p = spo e := by rw [st, Sp.wAt, Sp.tAt, Sp.vAt, h]; rfl
theorem st_none {L : List En} {p : List UInt8} (h : Sp.at_ L p = none) : st L p = zero := by rw [st, Sp.wAt, Sp.tAt, Sp.vAt, h]; rfl
theorem wh_12 (e : En) : Sp.wh e = 1 ∨ Sp.wh e = 2 := by
  rw [Sp.wh]; split
  · exact Or.inl rfl
  · exact Or.inr rfl
theorem st_w0 {L : List En} {p : List UInt8} : (st L p).w = 0 ↔ Sp.at_ L p = none := by
  cases h : Sp.at_ L p with
  | none => rw [st_none h]; exact ⟨fun _ => rfl, fun _ => rfl⟩
  | some e =>
    rw [st_some h]
    constructor
    · intro h0
      have := wh_12 e
      have h0 : Sp.wh e = 0 := h0
      omega
    · intro h0; cases h0
/-- What may be at a path. -/
def Ok (s : Spo) : Prop := s = zero ∨ (s.w = 1 ∧ s.t = ⟨#[]⟩) ∨ s.w = 2
theorem ok_spo (e : En) : Ok (spo e) := by
  rcases wh_12 e with h | h
  · refine Or.inr (Or.inl ⟨h, ?_⟩)
    show Sp.tx e = _
    rw [Sp.tx]
    rw [Sp.wh] at h
    split at h
    · rename_i hf; rw [if_pos hf]
    · simp at h
  · exact Or.inr (Or.inr h)
theorem ok_st (L : List En) (p : List UInt8) : Ok (st L p) := by
  cases h : Sp.at_ L p with
  | none => rw [st_none h]; exact Or.inl rfl
  | some e => rw [st_some h]; exact ok_spo e
theorem Ok.w {s : Spo} (h : Ok s) : s.w = 0 ∨ s.w = 1 ∨ s.w = 2 := by
  rcases h with h | h | h
  · rw [h]; exact Or.inl rfl
  · exact Or.inr (Or.inl h.1)
  · exact Or.inr (Or.inr h)
theorem Ok.zero {s : Spo} (h : Ok s) (h0 : s.w = 0) : s = Mg.zero := by
  rcases h with h | h | h
  · exact h
  · omega
  · omega
theorem Ok.fold {s : Spo} (h : Ok s) (h0 : s.w = 1) : s.t = ⟨#[]⟩ := by
  rcases h with h | h | h
  · rw [h] at h0; cases h0
  · exact h.2
  · omega
theorem st_put1 {e : En} {L : List En} (h : Sp.Rise L) (p : List UInt8) : st (Sp.put1 e L) p = if e.path.data.toList = p then spo e else st L p := by
  have ha := Sp.at_put1 (e := e) h p
  by_cases hp : e.path.data.toList = p
  · rw [if_pos hp] at ha ⊢
    exact st_some ha
  · rw [if_neg hp] at ha ⊢
    rw [st, st, Sp.wAt, Sp.tAt, Sp.vAt, Sp.wAt, Sp.tAt, Sp.vAt, ha]
theorem spo_fold (p : ByteArray) : spo (fold p) = ⟨1, ⟨#[]⟩, 0⟩ := rfl
theorem spo_file (q : List UInt8) (s : Spo) : spo (file q s) = ⟨2, s.t, s.v⟩ := rfl
theorem lk_iff {a b : Spo} : lk a b = true ↔ a.w = b.w ∧ a.t = b.t := by
  rw [lk, Bool.and_eq_true, beq_iff_eq, beq_iff_eq, Lib.toList_data, Lib.toList_data]
  exact ⟨fun ⟨h1, h2⟩ => ⟨h1, ba_ext h2⟩, fun ⟨h1, h2⟩ => ⟨h1, by rw [h2]⟩⟩
theorem lk_refl (a : Spo) : lk a a = true := lk_iff.2 ⟨rfl, rfl⟩
theorem lk_symm {a b : Spo} (h : lk a b = true) : lk b a = true := lk_iff.2 ⟨(lk_iff.1 h).1.symm, (lk_iff.1 h).2.symm⟩
theorem lk_trans {a b c : Spo} (h : lk a b = true) (h1 : lk b c = true) : lk a c = true := lk_iff.2 ⟨(lk_iff.1 h).1.trans (lk_iff.1 h1).1, (lk_iff.1 h).2.trans (lk_iff.1 h1).2⟩
theorem lk_fold {a b : Spo} (ha : Ok a) (hb : Ok b) (h : a.w = b.w) (h2 : a.w ≠ 2) : lk a b = true := by
  refine lk_iff.2 ⟨h, ?_⟩
  rcases ha.w with h0 | h0 | h0
  · rw [ha.zero h0, hb.zero (by omega)]
  · rw [ha.fold h0, hb.fold (by omega)]
  · omega
theorem stays_mem (b m t : Spo) : stays b m t = m ∨ stays b m t = t := by
  rw [stays]
  split
  · exact Or.inr rfl
  · split
    · exact Or.inl rfl
    · split
      · exact Or.inl rfl
      · exact Or.inr rfl
theorem goes_mem (b m t : Spo) : goes b m t = zero ∨ goes b m t = m ∨ goes b m t = t := by
  rw [goes]
  split
  · exact Or.inl rfl
  · split
    · exact Or.inl rfl
    · split
      · exact Or.inr (Or.inr rfl)
      · exact Or.inr (Or.inl rfl)
theorem goes_ok {b m t : Spo} (hm : Ok m) (ht : Ok t) : Ok (goes b m t) := by
  rcases goes_mem b m t with h | h | h
  · rw [h]; exact Or.inl rfl
  · rw [h]; exact hm
  · rw [h]; exact ht
theorem stays_ok {b m t : Spo} (hm : Ok m) (ht : Ok t) : Ok (stays b m t) := by
  rcases stays_mem b m t with h | h
  · rw [h]; exact hm
  · rw [h]; exact ht
theorem goes_file {b m t : Spo} (hm : Ok m) (ht : Ok t) (h : (goes b m t).w ≠ 0) : (goes b m t).w = 2 := by
  have hz : zero.w = 0 := rfl
  rw [goes] at h ⊢
  split at h
  · exact absurd hz h
  · rename_i h1
    rw [if_neg h1]
    split at h
    · exact absurd hz h
    · rename_i h2
      rw [if_neg h2]
      split at h
      · rename_i h3
        rw [if_pos h3]
        rcases ht.w with h0 | h0 | h0
        · exact absurd h0 h
        · rcases h3 with h3 | h3
          · exact absurd (Or.inl (lk_fold hm ht (by omega) (by omega))) h1
          · omega
        · exact h0
      · rename_i h3
        rw [if_neg h3]
        rcases hm.w with h0 | h0 | h0
        · exact absurd h0 h
        · exact absurd (Or.inl h0) h3
        · exact h0

/-- A list with all spots of another one laid into it. -/
def over (L M : List En) : List En := M.foldl (fun X e => Sp.put1 e X) L
theorem over_snoc (L M : List En) (e : En) : over L (M ++ [e]) = Sp.put1 e (over L M) := by simp [over]
theorem over_rise {L : List En} (h : Sp.Rise L) (M : List En) : Sp.Rise (over L M) := by
  refine snoc_ind (P := fun M => Sp.Rise (over L M)) h ?_ M
  intro M e ih
  rw [over_snoc]
  exact Sp.put1_rise ih
theorem at_over {L : List En} (h : Sp.Rise L) (M : List En) (hM : Sp.Apart M) (p : List UInt8) : Sp.at_ (over L M) p = match Sp.at_ M p with | some e => some e | none => Sp.at_ L p := by
  revert hM
  refine snoc_ind (P := fun M => Sp.Apart M → Sp.at_ (over L M) p = match Sp.at_ M p with | some e => some e | none => Sp.at_ L p) (fun _ => rfl) ?_ M
  intro M e ih hM
  obtain ⟨h1, h2⟩ := hM.snoc
  rw [over_snoc, Sp.at_put1 (over_rise h M), ih h1]
  by_cases hp : e.path.data.toList = p
  · rw [if_pos hp]
    have : Sp.at_ (M ++ [e]) p = some e := (Sp.at_iff hM).2 ⟨by simp, hp⟩
    rw [this]
  · rw [if_neg hp]
    have : Sp.at_ (M ++ [e]) p = Sp.at_ M p := by
      rw [Sp.at_, Sp.at_, List.find?_append]
      have : [e].find? (Pp.atB p) = none := by
        rw [List.find?_eq_none]
        intro x hx hb
        rw [List.mem_singleton] at hx
        exact hp (hx ▸ Sp.atB_iff.1 hb)
      rw [this, Option.or_none]
    rw [this]
def uni (B M T : List En) : List En := over (over B M) T
theorem uni_rise {B : List En} (h : Sp.Rise B) (M T : List En) : Sp.Rise (uni B M T) := over_rise (over_rise h M) T
theorem uni_none {B M T : List En} (h : Sp.Rise B) (hM : Sp.Apart M) (hT : Sp.Apart T) {p : List UInt8} (hp : Sp.at_ (uni B M T) p = none) : Sp.at_ B p = none ∧ Sp.at_ M p = none ∧ Sp.at_ T p = none := by
  rw [uni, at_over (over_rise h M) T hT, at_over h M hM] at hp
  cases h1 : Sp.at_ T p with
  | some e => rw [h1] at hp; cases hp
  | none =>
    rw [h1] at hp
    cases h2 : Sp.at_ M p with
    | some e => rw [h2] at hp; cases hp
    | none => rw [h2] at hp; exact ⟨hp, rfl, rfl⟩
theorem put1_len (e : En) (L : List En) : (Sp.put1 e L).length ≤ L.length + 1 := by
  rw [Sp.put1, (Pp.ins_perm e _).length_eq, List.length_cons]
  have := List.length_filter_le (fun x => !Pp.atB e.path.data.toList x) L
  omega
theorem over_len (L M : List En) : (over L M).length ≤ L.length + M.length := by
  refine snoc_ind (P := fun M => (over L M).length ≤ L.length + M.length) (by simp [over]) ?_ M
  intro M e ih
  rw [over_snoc]
  have := put1_len e (over L M)
  simp only [List.length_append, List.length_singleton]
  omega
theorem over_mem {L M : List En} {x : En} (h : x ∈ over L M) : x ∈ L ∨ x ∈ M := by
  revert h
  refine snoc_ind (P := fun M => x ∈ over L M → x ∈ L ∨ x ∈ M) (fun h => Or.inl h) ?_ M
  intro M e ih h
  rw [over_snoc] at h
  rcases Sp.mem_put1.1 h with rfl | ⟨h, _⟩
  · exact Or.inr (by simp)
  · rcases ih h with h | h
    · exact Or.inl h
    · exact Or.inr (by simp [h])
theorem uni_mem {B M T : List En} {x : En} (h : x ∈ uni B M T) : x ∈ B ∨ x ∈ M ∨ x ∈ T := by
  rcases over_mem h with h | h
  · rcases over_mem h with h | h
    · exact Or.inl h
    · exact Or.inr (Or.inl h)
  · exact Or.inr (Or.inr h)
theorem good_len {L : List En} (h : Pp.Good L) {x : En} (hx : x ∈ L) : x.path.size ≤ 80 := by
  have := Pp.chk_len (Pp.entE_path (h.ents x hx))
  rw [Array.length_toList] at this
  exact this
theorem uni_len80 {B M T : List En} (gB : Pp.Good B) (gM : Pp.Good M) (gT : Pp.Good T) {x : En} (h : x ∈ uni B M T) : x.path.size ≤ 80 := by
  rcases uni_mem h with h | h | h
  · exact good_len gB h
  · exact good_len gM h
  · exact good_len gT h
theorem uni_len (B M T : List En) : (uni B M T).length ≤ B.length + M.length + T.length := by
  have h1 := over_len (over B M) T
  have h2 := over_len B M
  rw [uni]
  omega

def enOf (p : ByteArray) (s : Spo) : En := ⟨p, s.w == 1, s.t, s.v⟩
theorem spo_enOf {p : ByteArray} {s : Spo} (h : Ok s) (h0 : s.w ≠ 0) : spo (enOf p s) = s := by
  obtain ⟨sw, st, sv⟩ := s
  rcases h.w with h1 | h1 | h1
  · exact absurd h1 h0
  · have h2 := h.fold h1
    simp only at h1 h2
    subst h1 h2
    rfl
  · simp only at h1
    subst h1
    rfl
def set1 (f : List UInt8 → Spo) (e : En) : Option En := if (f e.path.data.toList).w = 0 then none else some (enOf e.path (f e.path.data.toList))
/-- What is settled at the paths of a list. -/
def sets (f : List UInt8 → Spo) (U : List En) : List En := U.filterMap (set1 f)
theorem set1_path {f : List UInt8 → Spo} {e x : En} (h : set1 f e = some x) : x.path = e.path ∧ x = enOf e.path (f e.path.data.toList) ∧ (f e.path.data.toList).w ≠ 0 := by
  rw [set1] at h
  split at h
  · cases h
  · rename_i h0
    injection h with h
    subst h
    exact ⟨rfl, rfl, h0⟩
theorem mem_sets {f : List UInt8 → Spo} {U : List En} {x : En} : x ∈ sets f U ↔ ∃ e ∈ U, set1 f e = some x := by rw [sets, List.mem_filterMap]
theorem sets_rise {f : List UInt8 → Spo} {U : List En} (h : Sp.Rise U) : Sp.Rise (sets f U) := by
  refine List.Pairwise.filterMap (set1 f) ?_ h
  intro a a' ha b hb b' hb'
  rw [Pp.lt, (set1_path hb).1, (set1_path hb').1]
  exact ha
theorem sets_len (f : List UInt8 → Spo) (U : List En) : (sets f U).length ≤ U.length := List.length_filterMap_le _ _
theorem st_sets {f : List UInt8 → Spo} {U : List En} (h : Sp.Rise U) (hok : ∀ p, Ok (f p)) (hn : ∀ p, Sp.at_ U p = none → f p = zero) (p : List UInt8) : st (sets f U) p = f p := by
  have hr := sets_rise (f := f) h
  by_cases h0 : (f p).w = 0
  · rw [(hok p).zero h0]
    refine st_none (Sp.at_none.2 ?_)
    intro x hx hxp
    obtain ⟨e, he, hs⟩ := mem_sets.1 hx
    obtain ⟨h1, _, h3⟩ := set1_path hs
    rw [h1] at hxp
    rw [hxp] at h3
    exact h3 h0
  · cases hu : Sp.at_ U p with
    | none => rw [hn p hu] at h0; exact absurd rfl h0
    | some e =>
      obtain ⟨h1, h2⟩ := (Sp.at_iff (Sp.apart_rise h)).1 hu
      have hs : set1 f e = some (enOf e.path (f p)) := by rw [set1, h2, if_neg h0]
      have : Sp.at_ (sets f U) p = some (enOf e.path (f p)) := (Sp.at_iff (Sp.apart_rise hr)).2 ⟨mem_sets.2 ⟨e, h1, hs⟩, h2⟩
      rw [st_some this, spo_enOf (hok p) h0]
def fS (B M T : List En) (p : List UInt8) : Spo := stays (st B p) (st M p) (st T p)
def fG (B M T : List En) (p : List UInt8) : Spo := goes (st B p) (st M p) (st T p)
theorem fS_ok (B M T : List En) (p : List UInt8) : Ok (fS B M T p) := stays_ok (ok_st _ _) (ok_st _ _)
theorem fG_ok (B M T : List En) (p : List UInt8) : Ok (fG B M T p) := goes_ok (ok_st _ _) (ok_st _ _)
theorem fS_none {B M T : List En} (h : Sp.Rise B) (hM : Sp.Apart M) (hT : Sp.Apart T) (p : List UInt8) (hp : Sp.at_ (uni B M T) p = none) : fS B M T p = zero := by
  obtain ⟨h1, h2, h3⟩ := uni_none h hM hT hp
  rw [fS, st_none h1, st_none h2, st_none h3]
  rcases stays_mem zero zero zero with h | h <;> exact h
theorem fG_none {B M T : List En} (h : Sp.Rise B) (hM : Sp.Apart M) (hT : Sp.Apart T) (p : List UInt8) (hp : Sp.at_ (uni B M T) p = none) : fG B M T p = zero := by
  obtain ⟨h1, h2, h3⟩ := uni_none h hM hT hp
  rw [fG, st_none h1, st_none h2, st_none h3]
  rcases goes_mem zero zero zero with h | h | h <;> exact h
def now0 (B M T : List En) : List En := sets (fS B M T) (uni B M T)
def asi0 (B M T : List En) : List En := sets (fG B M T) (uni B M T)
theorem st_now0 {B M T : List En} (h : Sp.Rise B) (hM : Sp.Apart M) (hT : Sp.Apart T) (p : List UInt8) : st (now0 B M T) p = fS B M T p := st_sets (uni_rise h M T) (fS_ok B M T) (fS_none h hM hT) p
theorem st_asi0 {B M T : List En} (h : Sp.Rise B) (hM : Sp.Apart M) (hT : Sp.Apart T) (p : List UInt8) : st (asi0 B M T) p = fG B M T p := st_sets (uni_rise h M T) (fG_ok B M T) (fG_none h hM hT) p

/-- Files that go aside, one after the other. -/
def asds (M T : List En) : List En → List En × CC → Option (List En × CC)
  | [], s => some s
  | a :: r, s => (asd M T s.1 a.path.data.toList).bind (fun q => asds M T r (Sp.put1 (file q (spo a)) s.1, s.2 ++ [(a.path, ⟨q.toArray⟩)]))
theorem asds_app (M T : List En) : ∀ (a b : List En) (s : List En × CC), asds M T (a ++ b) s = (asds M T a s).bind (asds M T b)
  | [], b, s => rfl
  | x :: r, b, s => by
    rw [List.cons_append, asds, asds, Option.bind_assoc]
    congr 1
    funext t
    exact asds_app M T r b _
theorem asds_none {M T : List En} {a b : List En} {x : En} {s : List En × CC} {N : List En} {C : CC} (h : asds M T a s = some (N, C)) (h1 : asd M T N x.path.data.toList = none) : asds M T (a ++ [x] ++ b) s = none := by
  rw [asds_app, asds_app, h]
  simp [asds, h1]
theorem asds_some {M T : List En} {a : List En} {x : En} {s : List En × CC} {N : List En} {C : CC} {q : List UInt8} (h : asds M T a s = some (N, C)) (h1 : asd M T N x.path.data.toList = some q) : asds M T (a ++ [x]) s = some (Sp.put1 (file q (spo x)) N, C ++ [(x.path, ⟨q.toArray⟩)]) := by
  rw [asds_app, h]
  simp [asds, h1]
def run (B M T : List En) : Option (List En × CC) := (asds M T (asi0 B M T) (now0 B M T, [])).bind (fun s => mks M T (allP s.1 s.1.length) s)
def out1 (M T N : List En) (e : En) : En := ⟨e.path, Sp.wh e == 1, Sp.tx e, ver M T N e.path.data.toList⟩
def outs (M T N : List En) : List En := N.map (out1 M T N)
def mrg (B M T : List En) : Option (List En × CC) := (run B M T).bind (fun s => if 60 < s.1.length then none else some (outs M T s.1, s.2))
end Mg
end Go.Proofs.YtlllcifehellpaaGreatDoor
set_option linter.unusedSimpArgs false
set_option linter.unusedVariables false
namespace Go.Proofs.YtlllcifehellpaaGreatDoor
open Go.RowKit Go.Maps

namespace Mg
theorem asdF_some {M T N : List En} {p q : List UInt8} : ∀ (f n : Nat), asdF M T N p f n = some q → ∃ m : Nat, Pp.asideE p m = 0 ∧ q = Pp.asideT p m ∧ free M T N q = true
  | 0, n, h => by cases h
  | f + 1, n, h => by
    rw [asdF] at h
    split at h
    · cases h
    · rename_i h1
      split at h
      · rename_i h2
        injection h with h
        exact ⟨n, Classical.not_not.1 h1, h.symm, h ▸ h2⟩
      · exact asdF_some f (n + 1) h
theorem asd_some {M T N : List En} {p q : List UInt8} (h : asd M T N p = some q) : Pp.chk q = 0 ∧ Pp.par q = Pp.par p ∧ Pp.chk p = 0 ∧ free M T N q = true := by
  obtain ⟨m, h1, h2, h3⟩ := asdF_some 99 1 h
  have ho := Pp.aside_ok h1
  have hp := Pp.aside_par h1
  rw [Int.toNat_natCast] at ho hp
  exact ⟨h2 ▸ ho.2.2.2.2, h2 ▸ hp, ho.1, h3⟩
theorem asds_ind {M T : List En} {P : List En → CC → Prop} : ∀ (A : List En) (N : List En) (C : CC), P N C → (∀ a ∈ A, ∀ N C q, P N C → asd M T N a.path.data.toList = some q → P (Sp.put1 (file q (spo a)) N) (C ++ [(a.path, ⟨q.toArray⟩)])) → ∀ N' C', asds M T A (N, C) = some (N', C') → P N' C'
  | [], N, C, h0, _, N', C', h => by
    injection h with h
    injection h with e1 e2
    exact e1 ▸ e2 ▸ h0
  | a :: r, N, C, h0, hs, N', C', h => by
    rw [asds] at h
    cases hq : asd M T N a.path.data.toList with
    | none => simp only [hq] at h; cases h
    | some q =>
      simp only [hq] at h
      exact asds_ind r _ _ (hs a (by simp) N C q h0 hq) (fun x hx => hs x (by simp [hx])) N' C' h
theorem asds_form {M T A N : List En} {C : CC} {n : Nat} (hN : Sp.Rise N) (hl : ∀ e ∈ N, e.path.size ≤ 80) (hn : N.length ≤ n) {N' : List En} {C' : CC} (h : asds M T A (N, C) = some (N', C')) : Sp.Rise N' ∧ (∀ e ∈ N', e.path.size ≤ 80) ∧ N'.length + C.length ≤ n + C'.length ∧ C'.length ≤ C.length + A.length := by
  have h1 := asds_ind (P := fun N' C' => Sp.Rise N' ∧ (∀ e ∈ N', e.path.size ≤ 80) ∧ N'.length + C.length ≤ n + C'.length) A N C ⟨hN, hl, by omega⟩ (by
    intro a ha N1 C1 q ⟨r1, r2, r3⟩ hq
    refine ⟨Sp.put1_rise r1, ?_, ?_⟩
    · intro e he
      rcases Sp.mem_put1.1 he with rfl | ⟨he, _⟩
      · have := Pp.chk_len (asd_some hq).1
        show q.toArray.size ≤ 80
        rw [List.size_toArray]
        exact this
      · exact r2 e he
    · have := put1_len (file q (spo a)) N1
      rw [List.length_append, List.length_singleton]
      omega) N' C' h
  refine ⟨h1.1, h1.2.1, h1.2.2, ?_⟩
  revert h
  have : ∀ (A N : List En) (C : CC), asds M T A (N, C) = some (N', C') → C'.length ≤ C.length + A.length := by
    intro A
    induction A with
    | nil =>
      intro N C h
      injection h with h
      injection h with e1 e2
      rw [e2]
      simp
    | cons a r ih =>
      intro N C h
      rw [asds] at h
      cases hq : asd M T N a.path.data.toList with
      | none => simp only [hq] at h; cases h
      | some q =>
        simp only [hq] at h
        have := ih _ _ h
        simp at this ⊢
        omega
  exact this A N C
theorem mks_ind {M T : List En} {P : List En → CC → Prop} : ∀ (Q : List ByteArray) (N : List En) (C : CC), P N C → (∀ q ∈ Q, ∀ N C N' C', P N C → mkf M T N C q = some (N', C') → P N' C') → ∀ N' C', mks M T Q (N, C) = some (N', C') → P N' C'
  | [], N, C, h0, _, N', C', h => by
    injection h with h
    injection h with e1 e2
    exact e1 ▸ e2 ▸ h0
  | q :: r, N, C, h0, hs, N', C', h => by
    rw [mks] at h
    cases hq : mkf M T N C q with
    | none => simp only [hq] at h; cases h
    | some x =>
      obtain ⟨N1, C1⟩ := x
      simp only [hq] at h
      exact mks_ind r _ _ (hs q (by simp) N C N1 C1 h0 hq) (fun x hx => hs x (by simp [hx])) N' C' h
theorem mks_rise {M T N N' : List En} {C C' : CC} {Q : List ByteArray} (hN : Sp.Rise N) (h : mks M T Q (N, C) = some (N', C')) : Sp.Rise N' :=
  mks_ind (P := fun N _ => Sp.Rise N) Q N C hN (fun q _ N C N' C' h1 h2 => (mkf_rise h2 h1).1) N' C' h
theorem mks_len {M T N' : List En} {C' : CC} : ∀ (Q : List ByteArray) (N : List En) (C : CC), mks M T Q (N, C) = some (N', C') → C'.length ≤ C.length + Q.length
  | [], N, C, h => by
    injection h with h
    injection h with e1 e2
    rw [e2]
    simp
  | q :: r, N, C, h => by
    rw [mks] at h
    cases hq : mkf M T N C q with
    | none => simp only [hq] at h; cases h
    | some x =>
      obtain ⟨N1, C1⟩ := x
      simp only [hq] at h
      have h1 := mks_len r N1 C1 h
      have h2 : C1.length ≤ C.length + 1 := by
        by_cases h2 : (st N q.data.toList).w = 2
        · cases ha : asd M T N q.data.toList with
          | none => rw [mkf_no h2 ha] at hq; cases hq
          | some r =>
            rw [mkf_some h2 ha] at hq
            injection hq with hq
            injection hq with _ e2
            rw [← e2]
            simp
        · rw [mkf_else h2] at hq
          injection hq with hq
          injection hq with _ e2
          rw [← e2]
          omega
      rw [List.length_cons]
      omega
theorem now0_len80 {B M T : List En} (gB : Pp.Good B) (gM : Pp.Good M) (gT : Pp.Good T) : ∀ e ∈ now0 B M T, e.path.size ≤ 80 := by
  intro e he
  obtain ⟨x, hx, hs⟩ := mem_sets.1 he
  rw [(set1_path hs).1]
  exact uni_len80 gB gM gT hx
theorem mkf_len80 {M T N N' : List En} {C C' : CC} {q : ByteArray} (hq : q.size ≤ 80) (hl : ∀ e ∈ N, e.path.size ≤ 80) (h : mkf M T N C q = some (N', C')) : ∀ e ∈ N', e.path.size ≤ 80 := by
  by_cases h2 : (st N q.data.toList).w = 2
  · cases ha : asd M T N q.data.toList with
    | none => rw [mkf_no h2 ha] at h; cases h
    | some r =>
      rw [mkf_some h2 ha] at h
      injection h with h
      injection h with e1 e2
      rw [← e1]
      intro e he
      rcases Sp.mem_put1.1 he with rfl | ⟨he, _⟩
      · exact hq
      · rcases Sp.mem_put1.1 he with rfl | ⟨he, _⟩
        · have := Pp.chk_len (asd_some ha).1
          show r.toArray.size ≤ 80
          rw [List.size_toArray]
          exact this
        · exact hl e he
  · rw [mkf_else h2] at h
    injection h with h
    injection h with e1 e2
    rw [← e1]
    intro e he
    rcases Sp.mem_put1.1 he with rfl | ⟨he, _⟩
    · exact hq
    · exact hl e he
theorem mem_pres {p q : ByteArray} {n : Nat} (h : q ∈ pres p n) : ∃ i, i < n ∧ p.data.toList[i]? = some 47 ∧ q = p.extract 0 i := by
  rw [pres, List.mem_filterMap] at h
  obtain ⟨i, hi, h⟩ := h
  split at h
  · rename_i h4
    injection h with h
    exact ⟨i, List.mem_range.1 hi, h4, h.symm⟩
  · cases h
theorem mem_allP {N : List En} {q : ByteArray} {n : Nat} (h : q ∈ allP N n) : ∃ e ∈ N, ∃ i, i < e.path.size ∧ e.path.data.toList[i]? = some 47 ∧ q = e.path.extract 0 i := by
  rw [allP, List.mem_flatMap] at h
  obtain ⟨e, he, h⟩ := h
  obtain ⟨i, hi, h4, h5⟩ := mem_pres h
  exact ⟨e, List.mem_of_mem_take he, i, hi, h4, h5⟩
theorem run_form {B M T N : List En} {C : CC} (gB : Pp.Good B) (gM : Pp.Good M) (gT : Pp.Good T) (h : run B M T = some (N, C)) : Sp.Rise N ∧ (∀ e ∈ N, e.path.size ≤ 80) ∧ C.length ≤ 100000 := by
  rw [run] at h
  cases ha : asds M T (asi0 B M T) (now0 B M T, []) with
  | none => rw [ha] at h; cases h
  | some s =>
    obtain ⟨N1, C1⟩ := s
    rw [ha] at h
    have h : mks M T (allP N1 N1.length) (N1, C1) = some (N, C) := h
    obtain ⟨h1, h2, h3, h4⟩ := asds_form (sets_rise (uni_rise gB.rise M T)) (now0_len80 gB gM gT) (Nat.le_refl _) ha
    refine ⟨mks_rise h1 h, ?_, ?_⟩
    rotate_left
    · have hu := uni_len B M T
      have hs : (asi0 B M T).length ≤ (uni B M T).length := sets_len _ _
      have hn : (sets (fS B M T) (uni B M T)).length ≤ (uni B M T).length := sets_len _ _
      have := gB.len
      have := gM.len
      have := gT.len
      have hc := mks_len _ _ _ h
      have hp := allP_len h2 N1.length
      simp only [List.length_nil] at h3 h4
      omega
    refine mks_ind (P := fun N _ => ∀ e ∈ N, e.path.size ≤ 80) (allP N1 N1.length) N1 C1 h2 ?_ N C h
    intro q hq N C N' C' hl hm
    refine mkf_len80 ?_ hl hm
    obtain ⟨e, he, i, hi, _, rfl⟩ := mem_allP hq
    have := h2 e he
    rw [ByteArray.size_extract]
    omega
end Mg
end Go.Proofs.YtlllcifehellpaaGreatDoor
set_option linter.unusedSimpArgs false
set_option linter.unusedVariables false
namespace Go.Proofs.YtlllcifehellpaaGreatDoor
open Go.RowKit Go.Maps

namespace Mg
theorem rise_ext : ∀ {X Y : List En}, Sp.Rise X → Sp.Rise Y → (∀ e, e ∈ X ↔ e ∈ Y) → X = Y
  | [], [], _, _, _ => rfl
  | [], y :: r, _, _, h => by have := (h y).2 (by simp); cases this
  | x :: r, [], _, _, h => by have := (h x).1 (by simp); cases this
  | x :: r, y :: s, hX, hY, h => by
    obtain ⟨x1, x2⟩ := List.pairwise_cons.1 hX
    obtain ⟨y1, y2⟩ := List.pairwise_cons.1 hY
    have hxy : x = y := by
      rcases List.mem_cons.1 ((h x).1 (by simp)) with e | hx
      · exact e
      · rcases List.mem_cons.1 ((h y).2 (by simp)) with e | hy
        · exact e.symm
        · have a1 := y1 x hx
          have a2 := x1 y hy
          have a3 := Pp.lt_trans _ _ _ a1 a2
          rw [Pp.lt_irrefl] at a3
          cases a3
    subst hxy
    have : r = s := rise_ext x2 y2 (fun e => by
      constructor
      · intro he
        rcases List.mem_cons.1 ((h e).1 (by simp [he])) with e1 | h1
        · subst e1
          have := x1 e he
          rw [Pp.lt_irrefl] at this
          cases this
        · exact h1
      · intro he
        rcases List.mem_cons.1 ((h e).2 (by simp [he])) with e1 | h1
        · subst e1
          have := y1 e he
          rw [Pp.lt_irrefl] at this
          cases this
        · exact h1)
    rw [this]
def strip (e : En) : En := ⟨e.path, Sp.wh e == 1, Sp.tx e, 0⟩
theorem wh_fold (e : En) : (Sp.wh e == 1) = e.folder := by
  rw [Sp.wh]
  cases e.folder <;> rfl
theorem map_rise {f : En → En} (hf : ∀ e, (f e).path = e.path) {X : List En} (h : Sp.Rise X) : Sp.Rise (X.map f) := by
  rw [Sp.Rise, List.pairwise_map]
  refine h.imp ?_
  intro a b hab
  rw [Pp.lt, hf, hf]
  exact hab
theorem at_mem {X : List En} (h : Sp.Rise X) {e : En} (he : e ∈ X) : Sp.at_ X e.path.data.toList = some e := (Sp.at_iff (Sp.apart_rise h)).2 ⟨he, rfl⟩
theorem st_mem {X : List En} (h : Sp.Rise X) {e : En} (he : e ∈ X) : st X e.path.data.toList = spo e := st_some (at_mem h he)
theorem st_get {X : List En} (h : Sp.Rise X) {p : List UInt8} (hw : (st X p).w ≠ 0) : ∃ e ∈ X, e.path.data.toList = p ∧ st X p = spo e := by
  cases ha : Sp.at_ X p with
  | none => exact absurd (st_w0.2 ha) hw
  | some e =>
    obtain ⟨h1, h2⟩ := (Sp.at_iff (Sp.apart_rise h)).1 ha
    exact ⟨e, h1, h2, st_some ha⟩
theorem strips_eq {X Y : List En} (hX : Sp.Rise X) (hY : Sp.Rise Y) (h : ∀ p, lk (st X p) (st Y p) = true) : X.map strip = Y.map strip := by
  have one : ∀ {X Y : List En}, Sp.Rise X → Sp.Rise Y → (∀ p, lk (st X p) (st Y p) = true) → ∀ z ∈ X.map strip, z ∈ Y.map strip := by
    intro X Y hX hY h z hz
    obtain ⟨e, he, rfl⟩ := List.mem_map.1 hz
    have h1 := lk_iff.1 (h e.path.data.toList)
    rw [st_mem hX he] at h1
    have h0 := wh_12 e
    have h1w : Sp.wh e = (st Y e.path.data.toList).w := h1.1
    obtain ⟨y, hy, hp, hs⟩ := st_get hY (p := e.path.data.toList) (by omega)
    rw [hs] at h1
    refine List.mem_map.2 ⟨y, hy, ?_⟩
    have e1 : Sp.wh e = Sp.wh y := h1.1
    have e2 : Sp.tx e = Sp.tx y := h1.2
    rw [strip, strip, e1, e2, ba_ext hp]
  refine rise_ext (map_rise (f := strip) (fun _ => rfl) hX) (map_rise (f := strip) (fun _ => rfl) hY) (fun z => ⟨one hX hY h z, one hY hX (fun p => lk_symm (h p)) z⟩)
theorem good_text {S : List En} (g : Pp.Good S) {e : En} (he : e ∈ S) : Sp.tx e = e.text := by
  rw [Sp.tx]
  split
  · rename_i hf
    have h := g.ents e he
    have hc := Pp.entE_path h
    rw [Pp.entE, if_pos hc] at h
    split at h
    · cases h
    · rename_i hn
      have : e.text.data.toList = [] := by
        by_cases ht : e.text.data.toList = []
        · exact ht
        · exact absurd ⟨hf, ht⟩ hn
      exact ba_ext (by rw [this])
  · rfl
theorem outs_like {M T N S : List En} (gS : Pp.Good S) (hN : Sp.Rise N) (h : ∀ p, lk (st N p) (st S p) = true) : Sp.likeP (outs M T N) S := by
  have he := strips_eq hN gS.rise h
  have hl : N.length = S.length := by have := congrArg List.length he; simpa using this
  refine ⟨by rw [outs, List.length_map]; exact hl, fun j h1 h2 => ?_⟩
  have hj : j < N.length := by rw [outs, List.length_map] at h1; exact h1
  have h3 : (N.map strip)[j]'(by simpa using hj) = (S.map strip)[j]'(by simpa using h2) := by simp only [he]
  rw [List.getElem_map, List.getElem_map] at h3
  have h4 : (outs M T N)[j] = out1 M T N N[j] := by simp only [outs, List.getElem_map]
  rw [h4, Sp.likeE_iff]
  have e1 : N[j].path = S[j].path := (congrArg En.path h3 : (strip N[j]).path = (strip S[j]).path)
  have e2 : (Sp.wh N[j] == 1) = (Sp.wh S[j] == 1) := (congrArg En.folder h3 : (strip N[j]).folder = (strip S[j]).folder)
  have e3 : Sp.tx N[j] = Sp.tx S[j] := (congrArg En.text h3 : (strip N[j]).text = (strip S[j]).text)
  refine ⟨by rw [show (out1 M T N N[j]).path = N[j].path from rfl, e1], ?_, ?_⟩
  · show (Sp.wh N[j] == 1) = S[j].folder
    rw [e2, wh_fold]
  · show (Sp.tx N[j]).data.toList = S[j].text.data.toList
    rw [e3, good_text gS (List.getElem_mem h2)]
theorem outs_same {M N S : List En} (gS : Pp.Good S) (hN : Sp.Rise N) (h : ∀ p, lk (st N p) (st S p) = true) : outs M S N = S := by
  have he := strips_eq hN gS.rise h
  have hl : N.length = S.length := by have := congrArg List.length he; simpa using this
  refine List.ext_getElem (by rw [outs, List.length_map]; exact hl) (fun j h1 h2 => ?_)
  have hj : j < N.length := by rw [outs, List.length_map] at h1; exact h1
  have h3 : (N.map strip)[j]'(by simpa using hj) = (S.map strip)[j]'(by simpa using h2) := by simp only [he]
  rw [List.getElem_map, List.getElem_map] at h3
  have h4 : (outs M S N)[j] = out1 M S N N[j] := by simp only [outs, List.getElem_map]
  have e1 : N[j].path = S[j].path := (congrArg En.path h3 : (strip N[j]).path = (strip S[j]).path)
  have e2 : (Sp.wh N[j] == 1) = (Sp.wh S[j] == 1) := (congrArg En.folder h3 : (strip N[j]).folder = (strip S[j]).folder)
  have e3 : Sp.tx N[j] = Sp.tx S[j] := (congrArg En.text h3 : (strip N[j]).text = (strip S[j]).text)
  have e4 : ver M S N N[j].path.data.toList = S[j].ver := by
    rw [ver, if_pos (h _), e1, st_mem gS.rise (List.getElem_mem h2)]
    rfl
  rw [h4, out1, e1, e2, e3, wh_fold, good_text gS (List.getElem_mem h2)]
  rw [e1] at e4
  rw [e4]

theorem chk_pre {a r : List UInt8} (h : Pp.chk (a ++ 47 :: r) = 0) : a ≠ [] := by
  rintro rfl
  rw [Pp.chk, List.nil_append] at h
  have : Pp.nm (47 :: r) = [] :: Pp.nm r := Pp.nm_cut [] r (by simp)
  rw [this] at h
  simp [Pp.nameB] at h
theorem anc2 {S : List En} (g : Pp.Good S) : ∀ (n : Nat) (e : En), e ∈ S → e.path.data.toList.length ≤ n → ∀ a r, e.path.data.toList = a ++ 47 :: r → (st S a).w = 1 := by
  intro n
  induction n with
  | zero =>
    intro e he hl a r hp
    rw [hp] at hl
    simp at hl
  | succ n ih =>
    intro e he hl a r hp
    have hc := Pp.entE_path (g.ents e he)
    have ha : a ≠ [] := chk_pre (hp ▸ hc)
    obtain ⟨x, y, hy, hxy, hin, hpar⟩ := Pp.par_down (p := a) (r := r)
    have hf := g.pars e he
    rw [hp, hpar] at hf
    have hx : x ≠ [] := by
      rcases (Pp.isIn_of x a).1 hin with h | ⟨z, h⟩
      · rw [h]; exact ha
      · rw [h]; simp
    obtain ⟨z, hz, hzp, hzf, _⟩ := Pp.fold_zero hf hx
    rcases (Pp.isIn_of x a).1 hin with h | ⟨q, h⟩
    · have := st_mem g.rise hz
      rw [hzp, h] at this
      rw [this]
      show Sp.wh z = 1
      rw [Sp.wh, if_pos hzf]
    · refine ih z hz ?_ a q (by rw [hzp, h])
      rw [hzp]
      rw [hp, hxy] at hl
      simp at hl
      omega
theorem pres_list {p q : ByteArray} {n : Nat} (h : q ∈ pres p n) : ∃ r, p.data.toList = q.data.toList ++ 47 :: r := by
  obtain ⟨i, hi, h4, rfl⟩ := mem_pres h
  refine ⟨p.data.toList.drop (i + 1), ?_⟩
  have hlt : i < p.data.toList.length := by
    rcases Nat.lt_or_ge i p.data.toList.length with h | h
    · exact h
    · rw [List.getElem?_eq_none h] at h4; cases h4
  have e1 : (p.extract 0 i).data.toList = p.data.toList.take i := by
    rw [ByteArray.data_extract]
    simp [Array.toList_extract, List.extract]
  have e2 : p.data.toList[i] = 47 := by
    rw [List.getElem?_eq_getElem hlt] at h4
    injection h4
  rw [e1, ← e2, List.getElem_cons_drop, List.take_append_drop]
theorem allP_list {N : List En} {q : ByteArray} {n : Nat} (h : q ∈ allP N n) : ∃ e ∈ N, ∃ r, e.path.data.toList = q.data.toList ++ 47 :: r := by
  rw [allP, List.mem_flatMap] at h
  obtain ⟨e, he, h⟩ := h
  exact ⟨e, List.mem_of_mem_take he, pres_list h⟩
/-- Where all parents are folders already nothing changes. -/
theorem mks_like {M T S : List En} : ∀ (Q : List ByteArray), (∀ q ∈ Q, (st S q.data.toList).w = 1) → ∀ (N : List En), Sp.Rise N → (∀ p, lk (st N p) (st S p) = true) → ∃ N', mks M T Q (N, []) = some (N', []) ∧ Sp.Rise N' ∧ ∀ p, lk (st N' p) (st S p) = true
  | [], _, N, hN, h => ⟨N, rfl, hN, h⟩
  | q :: r, hq, N, hN, h => by
    have h1 := hq q (by simp)
    have h2 := (lk_iff.1 (h q.data.toList)).1
    have h3 : ¬ (st N q.data.toList).w = 2 := by omega
    obtain ⟨N', a1, a2, a3⟩ := mks_like (M := M) (T := T) r (fun x hx => hq x (by simp [hx])) (Sp.put1 (fold q) N) (Sp.put1_rise hN) (fun p => by
      rw [st_put1 hN]
      split
      · rename_i hp
        have hp : q.data.toList = p := hp
        rw [spo_fold, ← hp]
        exact lk_iff.2 ⟨h1.symm, ((ok_st S q.data.toList).fold h1).symm⟩
      · exact h p)
    refine ⟨N', ?_, a2, a3⟩
    rw [mks, mkf_else h3]
    exact a1
/-- What becomes where nothing goes aside, and all is as it is on a side. -/
theorem run_one {B M T S : List En} (gB : Pp.Good B) (gM : Pp.Good M) (gT : Pp.Good T) (gS : Pp.Good S) (hf : ∀ p, lk (fS B M T p) (st S p) = true) (hg : ∀ p, (fG B M T p).w = 0) : ∃ N, run B M T = some (N, []) ∧ Sp.Rise N ∧ (∀ p, lk (st N p) (st S p) = true) ∧ N.length = S.length := by
  have hA : asi0 B M T = [] := by
    rw [asi0, sets, List.filterMap_eq_nil_iff]
    intro e _
    rw [set1, if_pos (hg _)]
  have hr : Sp.Rise (now0 B M T) := sets_rise (uni_rise gB.rise M T)
  have hl : ∀ p, lk (st (now0 B M T) p) (st S p) = true := fun p => by
    rw [st_now0 gB.rise (Sp.apart_rise gM.rise) (Sp.apart_rise gT.rise)]
    exact hf p
  obtain ⟨N, h1, h2, h3⟩ := mks_like (M := M) (T := T) (S := S) (allP (now0 B M T) (now0 B M T).length) (fun q hq => by
    obtain ⟨e, he, r, hp⟩ := allP_list hq
    have h4 := (lk_iff.1 (hl e.path.data.toList)).1
    rw [st_mem hr he] at h4
    have h5 := wh_12 e
    have h4 : Sp.wh e = (st S e.path.data.toList).w := h4
    obtain ⟨y, hy, hyp, _⟩ := st_get gS.rise (p := e.path.data.toList) (by omega)
    exact anc2 gS _ y hy (Nat.le_refl _) _ r (by rw [hyp, hp])) (now0 B M T) hr hl
  refine ⟨N, ?_, h2, h3, ?_⟩
  · rw [run, hA]
    exact h1
  · have := congrArg List.length (strips_eq h2 gS.rise h3)
    simpa using this
theorem mrg_one {B M T S : List En} (gB : Pp.Good B) (gM : Pp.Good M) (gT : Pp.Good T) (gS : Pp.Good S) (hf : ∀ p, lk (fS B M T p) (st S p) = true) (hg : ∀ p, (fG B M T p).w = 0) : ∃ N, mrg B M T = some (outs M T N, []) ∧ Sp.Rise N ∧ ∀ p, lk (st N p) (st S p) = true := by
  obtain ⟨N, h1, h2, h3, h4⟩ := run_one gB gM gT gS hf hg
  refine ⟨N, ?_, h2, h3⟩
  rw [mrg, h1]
  show (if 60 < N.length then none else _) = _
  rw [if_neg (by have := gS.len; omega)]
/-- Only mine changed. -/
theorem one_mine {B S : List En} (gB : Pp.Good B) (gS : Pp.Good S) : ∃ X, mrg B S B = some (X, []) ∧ Sp.likeP X S := by
  obtain ⟨N, h1, h2, h3⟩ := mrg_one (S := S) gB gS gB gS (fun p => by
    rw [fS, stays]
    split
    · rename_i h
      rcases h with h | h <;> exact lk_symm h
    · rw [if_pos (lk_refl _)]
      exact lk_refl _) (fun p => by
    rw [fG, goes]
    split
    · rfl
    · rw [if_pos (lk_refl _)]
      rfl)
  exact ⟨_, h1, outs_like gS h2 h3⟩
/-- Only theirs changed. -/
theorem one_theirs {B S : List En} (gB : Pp.Good B) (gS : Pp.Good S) : mrg B B S = some (S, []) := by
  obtain ⟨N, h1, h2, h3⟩ := mrg_one (S := S) gB gB gS gS (fun p => by
    rw [fS, stays, if_pos (Or.inr (lk_refl _))]
    exact lk_refl _) (fun p => by
    rw [fG, goes, if_pos (Or.inr (lk_refl _))]
    rfl)
  rw [h1, outs_same gS h2 h3]
/-- Both changed alike. -/
theorem one_both {B S : List En} (gB : Pp.Good B) (gS : Pp.Good S) : mrg B S S = some (S, []) := by
  obtain ⟨N, h1, h2, h3⟩ := mrg_one (S := S) gB gS gS gS (fun p => by
    rw [fS, stays, if_pos (Or.inl (lk_refl _))]
    exact lk_refl _) (fun p => by
    rw [fG, goes, if_pos (Or.inl (lk_refl _))]
    rfl)
  rw [h1, outs_same gS h2 h3]
end Mg
end Go.Proofs.YtlllcifehellpaaGreatDoor
