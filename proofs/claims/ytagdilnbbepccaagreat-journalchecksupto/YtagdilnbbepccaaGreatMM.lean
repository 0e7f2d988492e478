/- append to a slice that has no room, in a region that draws its order. Commit of a journal as plain mathematics. -/
import Derived.Test.YtagdilnbbepccaaGreatJRows
import Derived.Deep.RegionLaw
import Derived.Test.YtagdilnbbepccaaGreatMB
set_option linter.unusedSimpArgs false
set_option linter.unusedVariables false
namespace Go.Proofs.YtagdilnbbepccaaGreat
open Go.RowKit

theorem append_full {P : Program} (w : World) (t ty e : TypeId) (i : TypeInfo) (z : Value) (size bytes : Nat) (ht : P.underlying t = some (.slice e)) (hi : P.info? e = some i) (hz : i.zero = some z)
    (hsize : i.size = size) (hby : i.bytes = bytes) (hzs : z.cells.size = size) (hsz : 0 < size) (a : Option Addr) (R : List (List Value)) (hR : LiesR size w (.slice a R.length R.length) R)
    (ad : Addr) (c : Nat) (r : List Value) (hr : r.length = size ∧ ∀ u ∈ r, u.oneCell' = true) (hnews : ∀ j u, r[j]? = some u → w.cell? (ad.add j) = some u) (hn : R.length ≤ 1000000000) (hb : bytes ≤ 1000) :
    ∃ v' w', (Builtin.append_ #[t, t] ty #[.slice a R.length R.length, .slice (some ad) 1 c]).run P w = .ok v' w' ∧ LiesR size w' v' (R ++ [r]) ∧ Own w.heap.size w' v' ∧ Below w.heap.size w w' := by
  subst hsize
  subst hby
  obtain ⟨a', cap', hv, h1, h2, h4, h3⟩ := hR
  injection hv with e1 e2 e3
  subst e1
  have hrr : ∀ x ∈ R ++ [r], x.length = i.size ∧ ∀ u ∈ x, u.oneCell' = true := fun x hx => by
    rcases List.mem_append.1 hx with hx | hx
    · exact h4 x hx
    · rw [List.mem_singleton] at hx; rw [hx]; exact hr
  have hfl : R.flatten.length = R.length * i.size := flatten_len (fun x hx => (h4 x hx).1)
  have hmul : (R.length + 1) * i.bytes ≤ (1000000000 + 1) * 1000 := Nat.mul_le_mul (by omega) hb
  have fin : ∀ cap, R.length + 1 ≤ cap → (w.drew.alloc (.cells (R.flatten.toArray ++ r.toArray ++ Builtin.zeroCells z.cells (cap - (R.length + 1))) e)).ownsRow w.heap.size e i.size (.slice (some ⟨w.heap.size, 0, none⟩) (R.length + 1) cap) (R.length + 1) (R ++ [r]).flatten → LiesR i.size (w.drew.alloc (.cells (R.flatten.toArray ++ r.toArray ++ Builtin.zeroCells z.cells (cap - (R.length + 1))) e)) (.slice (some ⟨w.heap.size, 0, none⟩) (R.length + 1) cap) (R ++ [r]) ∧ Own w.heap.size (w.drew.alloc (.cells (R.flatten.toArray ++ r.toArray ++ Builtin.zeroCells z.cells (cap - (R.length + 1))) e)) (.slice (some ⟨w.heap.size, 0, none⟩) (R.length + 1) cap) ∧ Below w.heap.size w (w.drew.alloc (.cells (R.flatten.toArray ++ r.toArray ++ Builtin.zeroCells z.cells (cap - (R.length + 1))) e)) := fun cap hcap ho =>
    ⟨liesR_own (by simpa using ho) (by simp; omega) hrr, own_row ho, ((Below.refl _ _).drew).alloc (Nat.le_refl _) _⟩
  have own : ∀ cap, R.length + 1 ≤ cap → cap ≤ maxLen → (w.drew.alloc (.cells (R.flatten.toArray ++ r.toArray ++ Builtin.zeroCells z.cells (cap - (R.length + 1))) e)).ownsRow w.heap.size e i.size (.slice (some ⟨w.heap.size, 0, none⟩) (R.length + 1) cap) (R.length + 1) (R ++ [r]).flatten := fun cap hcap hcm => by
    have hl : (R ++ [r]).flatten.length = (R.length + 1) * i.size := by
      rw [flatten_len (fun x hx => (hrr x hx).1)]; simp
    refine ⟨hl, .inr ⟨w.heap.size, _, _, rfl, Nat.le_refl _, heap_alloc_new w.drew _, hcap, hcm, ?_, ?_⟩⟩
    · simp only [Array.size_append, List.size_toArray, size_zeroCells, hzs, hfl, hr.1]
      have : R.length * i.size + i.size + (cap - (R.length + 1)) * i.size = (R.length + 1 + (cap - (R.length + 1))) * i.size := by
        rw [Nat.add_mul, Nat.add_mul]; omega
      rw [this]
      congr 1
      omega
    · simp only [Array.toList_append, List.append_assoc]
      rw [← hl]
      have e : R.flatten.toArray.toList ++ (r.toArray.toList ++ (Builtin.zeroCells z.cells (cap - (R.length + 1))).toList) = (R ++ [r]).flatten ++ (Builtin.zeroCells z.cells (cap - (R.length + 1))).toList := by simp
      rw [e]
      exact List.take_left
  have hml : R.length + 1 ≤ maxLen := by unfold maxLen; omega
  cases a with
  | none =>
    have hR0 : R = [] := by
      cases R with
      | nil => rfl
      | cons s r => obtain ⟨b, o, hb, _⟩ := h3 0 (by simp); cases hb
    subst hR0
    have hr2 := run_append_nil (P := P) w t ty e i z ht hi hz ad 1 c r (by rw [hr.1, Nat.one_mul]) hnews (by decide) (by decide) (by simp at hmul ⊢; omega)
    have hg := own (grownCap w 1 0 e) (grownCap_ge w 1 0 e) (grownCap_le_maxLen w 1 0 e hml)
    have hf := fin (grownCap w 1 0 e) (grownCap_ge w 1 0 e) hg
    refine ⟨_, _, hr2, ?_⟩
    simpa using hf
  | some b0 =>
    have holds : ∀ j u, R.flatten[j]? = some u → w.cell? (b0.add j) = some u := by
      cases R with
      | nil => intro j u hj; simp at hj
      | cons s r =>
        obtain ⟨b, o, hb, _⟩ := h3 0 (by simp)
        injection hb with hb
        subst hb
        exact liesR_cells hsz (fun r hr => (h4 r hr).1) fun i hi => by
          obtain ⟨b', o', hb', _, he⟩ := h3 i hi
          injection hb' with hb'
          injection hb' with h1 h2
          subst h1; subst h2
          exact he
    have hr2 := run_append_grow (P := P) w t ty e i z ht hi hz b0 R.length R.length R.flatten hfl holds ad 1 c r (by rw [hr.1, Nat.one_mul]) hnews (by omega) (by omega) (growslice_fits (by omega) (by omega))
    have hg := own (grownCap w (R.length + 1) R.length e) (grownCap_ge w _ _ e) (grownCap_le_maxLen w _ _ e hml)
    exact ⟨_, _, hr2, fin _ (grownCap_ge w _ _ e) hg⟩

/-- The same as one step of a region that draws. -/
theorem step_append_full {P : Program} {ops : Array Oper} {o : Oper} {a : Act} {w : World} {K : Act → World → Prop} {Q : Exit → Act → World → Prop} {E : Prop}
    (hg : o.guard = none) (s x : Operand) (t : TypeId) (hop : o.op = Op.call { callee := Callee.builtin Builtin.append, args := #[s, x], argTypes := #[t, t] })
    (e : TypeId) (i : TypeInfo) (z : Value) (size bytes : Nat) (ht : P.underlying t = some (.slice e)) (hi : P.info? e = some i) (hz : i.zero = some z)
    (hsize : i.size = size) (hby : i.bytes = bytes) (hzs : z.cells.size = size) (hsz : 0 < size) (ao : Option Addr) (R : List (List Value)) (n : Nat) (hRn : R.length = n) (hs : a.eval s = .slice ao n n) (hR : LiesR size w (.slice ao n n) R)
    (ad : Addr) (c : Nat) (hx : a.eval x = .slice (some ad) 1 c) (r : List Value) (hr : r.length = size ∧ ∀ u ∈ r, u.oneCell' = true) (hnews : ∀ j u, r[j]? = some u → w.cell? (ad.add j) = some u) (hn : R.length ≤ 1000000000) (hb : bytes ≤ 1000)
    (hK : ∀ v' w', LiesR size w' v' (R ++ [r]) ∧ Own w.heap.size w' v' ∧ Below w.heap.size w w' → K (a.put o.dst v') w') :
    if Region.wanted o (yielded ops a.tmps) = true then Oper.wp P o a w K Q else E := by
  have hw : Region.wanted o (yielded ops a.tmps) = true := by simp [Region.wanted, hg]
  rw [if_pos hw]
  subst hRn
  obtain ⟨v', w', hrun, h1⟩ := append_full (P := P) w t o.type e i z size bytes ht hi hz hsize hby hzs hsz ao R hR ad c r hr hnews hn hb
  unfold Oper.wp
  simp [execOp, hop, resolve, invoke, builtin, hs, hx, hrun, Result.andThen]
  exact hK _ _ h1
theorem LiesR.clip {n : Nat} {w : World} {a : Option Addr} {k cap : Nat} {R : List (List Value)} (h : LiesR n w (.slice a k cap) R) : LiesR n w (.slice a k k) R := by
  obtain ⟨a', cap', hv, h1, h2, h3⟩ := h
  injection hv with e1 e2 e3
  subst e1
  exact ⟨a, k, by rw [e2], by omega, h2, h3⟩
end Go.Proofs.YtagdilnbbepccaaGreat
set_option linter.unusedSimpArgs false
set_option linter.unusedVariables false
namespace Go.Proofs.YtagdilnbbepccaaGreat
open Go.RowKit

namespace Jn
/-- A new commit, by a key that was not met, of a journal that passes Check: its error. -/
def newE (J : Jo) (l : List Pp.Ch) : Int := if l = [] then 1 else if 1000000 < last J + 1 then 3 else Pp.allE (tree J) l (last J + 1)
def newC (J : Jo) (key : ByteArray) (l : List Pp.Ch) : Co := ⟨last J + 1, key, l⟩
/-- The first one goes, if there are too many. -/
def cutJ (J : Jo) : Jo := if 30 < J.cos.length then (match J.cos with | [] => J | c :: r => ⟨Pp.allR J.base c.ch J.first, J.first + 1, r⟩) else J
def addJ (J : Jo) (key : ByteArray) (l : List Pp.Ch) : Jo := cutJ ⟨J.base, J.first, J.cos ++ [newC J key l]⟩
def comE (J : Jo) (key : ByteArray) (l : List Pp.Ch) : Int := if ¬ chkE J = 0 then chkE J else if ¬ Pp.keyB key.data.toList = true then 1 else if hasB J.cos key.data.toList = true then 0 else newE J l
def comN (J : Jo) (key : ByteArray) (l : List Pp.Ch) : Int := if ¬ comE J key l = 0 then 0 else if hasB J.cos key.data.toList = true then numOf J.cos key.data.toList else last J + 1
def zeroJ : Jo := ⟨[], 0, []⟩
def comR (J : Jo) (key : ByteArray) (l : List Pp.Ch) : Jo := if ¬ comE J key l = 0 then zeroJ else if hasB J.cos key.data.toList = true then J else addJ J key l
theorem com_chk {J : Jo} {key : ByteArray} {l : List Pp.Ch} (h : ¬ chkE J = 0) : comE J key l = chkE J ∧ comN J key l = 0 ∧ comR J key l = zeroJ := by
  have e : comE J key l = chkE J := by rw [comE, if_pos h]
  exact ⟨e, by rw [comN, e, if_pos h], by rw [comR, e, if_pos h]⟩
theorem com_key {J : Jo} {key : ByteArray} {l : List Pp.Ch} (h : chkE J = 0) (h1 : Pp.keyB key.data.toList = false) : comE J key l = 1 ∧ comN J key l = 0 ∧ comR J key l = zeroJ := by
  have e : comE J key l = 1 := by rw [comE, if_neg (fun x => x h), if_pos (by simp [h1])]
  exact ⟨e, by rw [comN, e, if_pos (by decide)], by rw [comR, e, if_pos (by decide)]⟩
theorem com_has {J : Jo} {key : ByteArray} {l : List Pp.Ch} (h : chkE J = 0) (h1 : Pp.keyB key.data.toList = true) (h2 : hasB J.cos key.data.toList = true) : comE J key l = 0 ∧ comN J key l = numOf J.cos key.data.toList ∧ comR J key l = J := by
  have e : comE J key l = 0 := by rw [comE, if_neg (fun x => x h), if_neg (fun x => x h1), if_pos h2]
  exact ⟨e, by rw [comN, e, if_neg (fun x => x rfl), if_pos h2], by rw [comR, e, if_neg (fun x => x rfl), if_pos h2]⟩
theorem com_new {J : Jo} {key : ByteArray} {l : List Pp.Ch} (h : chkE J = 0) (h1 : Pp.keyB key.data.toList = true) (h2 : hasB J.cos key.data.toList = false) : comE J key l = newE J l := by
  rw [comE, if_neg (fun x => x h), if_neg (fun x => x h1), if_neg (by simp [h2])]
theorem com_bad {J : Jo} {key : ByteArray} {l : List Pp.Ch} (h : ¬ comE J key l = 0) : comN J key l = 0 ∧ comR J key l = zeroJ := ⟨by rw [comN, if_pos h], by rw [comR, if_pos h]⟩
theorem com_add {J : Jo} {key : ByteArray} {l : List Pp.Ch} (h : chkE J = 0) (h1 : Pp.keyB key.data.toList = true) (h2 : hasB J.cos key.data.toList = false) (h3 : newE J l = 0) : comE J key l = 0 ∧ comN J key l = last J + 1 ∧ comR J key l = addJ J key l := by
  have e : comE J key l = 0 := by rw [com_new h h1 h2]; exact h3
  exact ⟨e, by rw [comN, e, if_neg (fun x => x rfl), if_neg (by simp [h2])], by rw [comR, e, if_neg (fun x => x rfl), if_neg (by simp [h2])]⟩
/-- Of a journal that passes Check: the changes of each commit are few, and small. -/
theorem all_few {T : List En} {cs : List Pp.Ch} {n : Int} (h : Pp.allE T cs n = 0) : cs.length ≤ 20 := by
  have ht : Pp.treeE T = 0 := by
    by_cases ht : Pp.treeE T = 0
    · exact ht
    · rw [(Pp.all_no ht cs n).1] at h; exact absurd h ht
  rcases Nat.lt_or_ge 20 cs.length with hm | hm
  · rw [(Pp.all_many ht hm n).1] at h; cases h
  · exact hm
theorem run_few : ∀ {n : Int} {T : List En} {l : List Co}, (runJ n T l).1 = 0 → ∀ c ∈ l, c.ch.length ≤ 20
  | n, T, [], _, c, hc => by cases hc
  | n, T, d :: r, h, c, hc => by
    rw [runJ] at h
    by_cases h0 : coE d n = 0
    · rw [if_neg (fun x => x h0)] at h
      by_cases h1 : Pp.allE T d.ch d.nu = 0
      · rw [if_neg (fun x => x h1)] at h
        rcases List.mem_cons.1 hc with rfl | hc
        · exact all_few h1
        · exact run_few h c hc
      · rw [if_pos h1] at h; exact absurd h h1
    · rw [if_pos h0] at h; exact absurd h h0
theorem chk_few {J : Jo} (h : chkE J = 0) : ∀ c ∈ J.cos, c.ch.length ≤ 20 := by
  obtain ⟨_, _, _, h4, _⟩ := chk_parts h
  exact run_few (n := J.first) (T := J.base) (by rw [h4])
theorem run_first {n : Int} {T : List En} {c : Co} {r : List Co} (h : (runJ n T (c :: r)).1 = 0) : coE c n = 0 ∧ Pp.allE T c.ch c.nu = 0 := by
  rw [runJ] at h
  by_cases h0 : coE c n = 0
  · rw [if_neg (fun x => x h0)] at h
    by_cases h1 : Pp.allE T c.ch c.nu = 0
    · exact ⟨h0, h1⟩
    · rw [if_pos h1] at h; exact absurd h h1
  · rw [if_pos h0] at h; exact absurd h h0
end Jn
end Go.Proofs.YtagdilnbbepccaaGreat
