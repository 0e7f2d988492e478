/- What is left to tell of a change that is right by its form and its place; what regions, rows of names and moves want. -/
import Derived.Test.YtagdilnbbepccaaGreatT29
import Derived.Test.YtagdilnbbepccaaGreatT25
import Derived.Test.YtagdilnbbepccaaGreatMJ
import Derived.Deep.RegionHeld3
import Derived.Deep.RegionLaw
import Derived.Deep.DeepCutAuto
import Derived.WalkKit
set_option linter.unusedSimpArgs false
set_option linter.unusedVariables false
namespace Go.Proofs.YtagdilnbbepccaaGreat
open Go.RowKit

/-- May these operations be passed over, one after the other, where operation g (it writes dg) has said no? -/
def passOk (md : Region.Mode) (ops : Array Oper) (g dg : Nat) : Array Bool → List (Nat × Nat) → Bool
  | _, [] => true
  | listed, (i, d) :: r => ((ops[i]?).map (fun o => (o.dst, o.guard)) == some (some d, some (g, true))) && d != dg && Region.free md ops listed i && (Region.ready md ops listed).contains i && passOk md ops g dg (listed.setIfInBounds i true) r
def passAll : Array Bool → List (Nat × Nat) → Array Bool
  | listed, [] => listed
  | listed, (i, _) :: r => passAll (listed.setIfInBounds i true) r
def putAll : Act → List (Nat × Nat) → Act
  | a, [] => a
  | a, (_, d) :: r => putAll (a.put (some d) undef) r

theorem wpAnyH_pass {P : Program} {md : Region.Mode} {ops : Array Oper} {Q : Exit → Act → World → Prop} {S : World → Prop} {g dg : Nat} (hs : Region.noSelect ops = true) (hdg : (ops[g]?).bind (·.dst) = some dg)
    (hQ : ∀ c a (d : Nat) v w, Q (.panic c) (Act.put a (some d) v) w → Q (.panic c) a w) {w : World} (hS : S w) {fuel : Nat} :
    ∀ (l : List (Nat × Nat)) (listed : Array Bool) (a : Act), passOk md ops g dg listed l = true → a.tmps[dg]? = some (.bool false) → wpAnyH P md ops Q S fuel (passAll listed l) (putAll a l) w → wpAnyH P md ops Q S (fuel + l.length) listed a w
  | [], _, _, _, _, h => h
  | (i, d) :: r, listed, a, hok, ht, h => by
    rw [passOk] at hok
    simp only [Bool.and_eq_true, beq_iff_eq, bne_iff_ne] at hok
    obtain ⟨⟨⟨⟨h1, h2⟩, h3⟩, h4⟩, h5⟩ := hok
    cases ho : ops[i]? with
    | none => rw [ho] at h1; cases h1
    | some o =>
      rw [ho] at h1
      simp only [Option.map_some, Option.some.injEq, Prod.mk.injEq] at h1
      have hw : Region.wanted o (yielded ops a.tmps) = false := by
        have hy : yielded ops a.tmps g = some false := by
          unfold yielded
          rw [hdg]
          simp only [Option.bind_some, ht]
        unfold Region.wanted
        rw [h1.2]
        simp [hy]
      have ht2 : (a.put (some d) undef).tmps[dg]? = some (.bool false) := by
        unfold Act.put
        simp only
        rw [Array.getElem?_setIfInBounds_ne (by exact h2)]
        exact ht
      have ih := wpAnyH_pass hs hdg hQ hS r (listed.setIfInBounds i true) (a.put (some d) undef) h5 ht2 h
      refine wpAnyH_take (i := i) (oi := o) (v := undef) ho hs h3 h4 (fun c a w hh => hQ c a d undef w (by rw [h1.1] at hh; exact hh)) (Or.inr ⟨hw, rfl⟩) hS ?_
      rw [h1.1]
      exact ih
/-- What is to be shown later, once for several ways that come to it. -/
structure Later (p : Prop) : Prop where
  out : p
theorem later {p q : Prop} (h : Later p → q) (hp : p) : q := h ⟨hp⟩
end Go.Proofs.YtagdilnbbepccaaGreat
namespace Go.Proofs.YtagdilnbbepccaaGreat
open Go.RowKit

namespace Pp
theorem own_at {w : World} {base : Nat} {v : Value} {L : List (List UInt8)} (h : w.ownsRow base 9 1 v L.length (vs L)) (h0 : L ≠ []) :
    ∃ g cap, v = .slice (some ⟨g, 0, none⟩) L.length cap ∧ base ≤ g ∧ g < w.heap.size ∧ ∀ i (h : i < L.length), w.cell? ⟨g, i, none⟩ = some (.string ⟨(L[i]).toArray⟩) := by
  have hcopy := h
  obtain ⟨hl, h2⟩ := h
  rcases h2 with ⟨_, hz⟩ | ⟨g, cap, cur, rfl, hg, hh, hn, hm, hz, htake⟩
  · exact absurd (List.length_eq_zero_iff.1 hz) h0
  · have hlt : g < w.heap.size := by
      rcases Nat.lt_or_ge g w.heap.size with h | h
      · exact h
      · rw [Array.getElem?_eq_none h] at hh; cases hh
    refine ⟨g, cap, rfl, hg, hlt, fun i h => ?_⟩
    rw [hcopy.cellAt i (by omega)]
    simp [vs, h]
theorem vs_app (a b : List (List UInt8)) : vs a ++ vs b = vs (a ++ b) := by simp [vs]
theorem vs_cells {w : World} {g : Nat} {L : List (List UInt8)} (h : ∀ i (h : i < L.length), w.cell? ⟨g, i, none⟩ = some (.string ⟨(L[i]).toArray⟩)) (o : Nat) : ∀ j u, (vs (L.drop o))[j]? = some u → w.cell? ((⟨g, o, none⟩ : Addr).add j) = some u := by
  intro j u hu
  simp only [vs, List.getElem?_map, List.getElem?_drop, Option.map_eq_some_iff] at hu
  obtain ⟨x, hx, rfl⟩ := hu
  obtain ⟨hlt, rfl⟩ := List.getElem?_eq_some_iff.1 hx
  have e := h (o + j) hlt
  by_cases hj : j = 0
  · subst hj; simpa [Addr.add] using e
  · simpa [Addr.add, hj] using e
theorem vs_one (L : List (List UInt8)) : ∀ u ∈ vs L, u.oneCell' = true := by
  intro u hu
  simp only [vs, List.mem_map] at hu
  obtain ⟨x, _, rfl⟩ := hu
  rfl
end Pp

theorem pathOf_n (L : List (List UInt8)) (n g o cap : Nat) (w : World) (he : n = L.length) (hL : (Pp.join L).length ≤ 1000000000) (hn : L.length ≤ 1000000000) (hcell : ∀ i (h : i < L.length), w.cell? ⟨g, o + i, none⟩ = some (.string ⟨(L[i]).toArray⟩)) :
    Calls Tryz.prog 64 #[.slice (some ⟨g, o, none⟩) n cap] w fun e w' => e = .returned (.string ⟨(Pp.join L).toArray⟩) ∧ w' = w := by
  subst he
  exact pathOf_any L g o cap w hL hn hcell
end Go.Proofs.YtagdilnbbepccaaGreat
namespace Go.Proofs.YtagdilnbbepccaaGreat.Pp

theorem filter_step {f : En → Bool} {L : List En} {m : Nat} (hm : m < L.length) : (L.take (m + 1)).filter f = if f L[m] = true then (L.take m).filter f ++ [L[m]] else (L.take m).filter f := by
  rw [List.take_succ_eq_append_getElem hm, List.filter_append, List.filter_cons]
  split <;> simp
theorem insAll_snoc (ms : List En) (x : En) (K : List En) : insAll (ms ++ [x]) K = ins x (insAll ms K) := by rw [insAll, List.foldl_append]; rfl
/-- What was moved of the first entries. -/
def mvTo (L : List En) (c : Ch) (n : Int) (m : Nat) : List En := insAll (((L.take m).filter (wi c.p.data.toList)).map (mvd c n)) (keptL L c)
theorem mvTo_zero (L : List En) (c : Ch) (n : Int) : mvTo L c n 0 = keptL L c := rfl
theorem mvTo_all (L : List En) (c : Ch) (n : Int) : mvTo L c n L.length = insAll (mvL L c n) (keptL L c) := by rw [mvTo, List.take_length]; rfl
theorem mvTo_out {L : List En} {c : Ch} {n : Int} {m : Nat} (hm : m < L.length) (hw : wi c.p.data.toList L[m] = false) : mvTo L c n (m + 1) = mvTo L c n m := by
  rw [mvTo, filter_step hm, if_neg (by rw [hw]; decide)]; rfl
theorem mvTo_in {L : List En} (hL : Good L) {c : Ch} {n : Int} {m : Nat} (hd : (keptL L c ++ mvL L c n).Pairwise dif) (hm : m < L.length) (hw : wi c.p.data.toList L[m] = true) : putR (mvd c n L[m]) (mvTo L c n m) = mvTo L c n (m + 1) := by
  have e1 : goL L c = (L.take m).filter (wi c.p.data.toList) ++ L[m] :: (L.drop (m + 1)).filter (wi c.p.data.toList) := by
    have : L = L.take m ++ L[m] :: L.drop (m + 1) := by rw [List.getElem_cons_drop]; exact (List.take_append_drop m L).symm
    rw [goL]
    conv => lhs; rw [this]
    rw [List.filter_append, List.filter_cons, if_pos hw]
  have e2 : mvL L c n = ((L.take m).filter (wi c.p.data.toList)).map (mvd c n) ++ mvd c n L[m] :: ((L.drop (m + 1)).filter (wi c.p.data.toList)).map (mvd c n) := by
    rw [mvL, e1, List.map_append, List.map_cons]
  rw [e2, ← List.append_assoc] at hd
  have hd2 := List.pairwise_append.1 hd
  have hs : (mvTo L c n m).Pairwise (fun x y => lt x y = true) := insAll_sorted _ (List.Pairwise.filter _ hL.rise) hd2.1
  have ho : outE (mvd c n L[m]) (mvTo L c n m) = mvTo L c n m := by
    rw [outE, List.filter_eq_self]
    intro y hy
    have hy2 : y ∈ keptL L c ++ ((L.take m).filter (wi c.p.data.toList)).map (mvd c n) := (insAll_perm _ _).mem_iff.1 hy
    have hne := hd2.2.2 y hy2 (mvd c n L[m]) (by simp)
    rw [at_no hne]; rfl
  rw [putR_eq hs, ho, mvTo, mvTo, filter_step hm, if_pos hw, List.map_append, List.map_cons, List.map_nil, insAll_snoc]
theorem mvTo_len (L : List En) (c : Ch) (n : Int) (m : Nat) : (mvTo L c n m).length ≤ L.length := by
  have h1 : (mvTo L c n m).length = (keptL L c).length + ((L.take m).filter (wi c.p.data.toList)).length := by
    rw [mvTo, (insAll_perm _ _).length_eq, List.length_append, List.length_map]
  have h2 : ((L.take m).filter (wi c.p.data.toList)).length ≤ (L.filter (wi c.p.data.toList)).length := ((List.take_sublist m L).filter _).length_le
  have h3 : (keptL L c).length + (L.filter (wi c.p.data.toList)).length = L.length := by
    rw [keptL]
    have : ∀ (M : List En), (M.filter (fun e => !wi c.p.data.toList e)).length + (M.filter (wi c.p.data.toList)).length = M.length := by
      intro M
      induction M with
      | nil => rfl
      | cons x r ih =>
        rw [List.filter_cons, List.filter_cons]
        cases hx : wi c.p.data.toList x <;> simp <;> omega
    exact this L
  omega
theorem big_hit {L : List En} {c : Ch} {m : Nat} (hm : m < L.length) (hw : wi c.p.data.toList L[m] = true) (hb : big (mvP c L[m]) = true) : (goL L c).any (fun e => big (mvP c e)) = true :=
  List.any_eq_true.2 ⟨L[m], List.mem_filter.2 ⟨List.getElem_mem hm, hw⟩, hb⟩
theorem big_none {L : List En} {c : Ch} (h : ∀ j (h : j < L.length), wi c.p.data.toList L[j] = true → big (mvP c L[j]) = false) : (goL L c).any (fun e => big (mvP c e)) = false :=
  List.any_eq_false.2 fun e he => by
    obtain ⟨h1, h2⟩ := List.mem_filter.1 he
    obtain ⟨j, hj, rfl⟩ := List.getElem_of_mem h1
    rw [h j hj h2]; decide
end Go.Proofs.YtagdilnbbepccaaGreat.Pp
namespace Go.Proofs.YtagdilnbbepccaaGreat
open Go.RowKit

namespace Pp
/-- What is left to tell, where a change is right by its form and its place. -/
def rstE (L : List En) (c : Ch) (n : Int) : Int := if stl L c = true then 8 else chdE L c n
theorem ins_len (x : En) (K : List En) : (ins x K).length = K.length + 1 := by rw [(ins_perm x K).length_eq]; rfl
theorem stl_no {L : List En} {k : Int} {p q t : ByteArray} {b : Int} (hb : -1 ≤ b) (h : ∀ j (h : j < L.length), 0 ≤ b → stW p.data.toList b L[j] = false) : stl L ⟨k, p, q, t, b⟩ = false := by
  rw [stl]
  by_cases h1 : b = -1
  · simp [h1]
  · rw [List.any_eq_false.2, Bool.and_false]
    intro x hx
    obtain ⟨j, hj, rfl⟩ := List.getElem_of_mem hx
    rw [h j hj (by omega)]; decide
theorem stl_yes {L : List En} {k : Int} {p q t : ByteArray} {b : Int} {j : Nat} (hb : 0 ≤ b) (hj : j < L.length) (h1 : isInB (L[j]).path.data.toList p.data.toList = true) (h2 : b < (L[j]).ver) : stl L ⟨k, p, q, t, b⟩ = true := by
  rw [stl]
  have e : (b == -1) = false := by simpa using (by omega : ¬ b = -1)
  have : L.any (stW p.data.toList b) = true := List.any_eq_true.2 ⟨L[j], List.getElem_mem hj, by rw [stW, wi, h1]; simp [h2]⟩
  simp only [e, this]; rfl
theorem stW_in {p : List UInt8} {b : Int} {e : En} (h : isInB e.path.data.toList p = false) : stW p b e = false := by rw [stW, wi, h, Bool.and_false]
theorem stW_ver {p : List UInt8} {b : Int} {e : En} (h : ¬ b < e.ver) : stW p b e = false := by rw [stW]; simp [h]
theorem no_text {t : ByteArray} (h : t.data.toList = []) : t = ⟨#[]⟩ := by
  cases t with
  | mk d => cases d with
    | mk l => simp at h; subst h; rfl
end Pp

end Go.Proofs.YtagdilnbbepccaaGreat
