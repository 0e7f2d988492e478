/- Pages as plain mathematics, and in memory; what Read and Follow answer. What the reference's SameEntries and the laws' treeIs answer, of the same trees. -/
import Derived.Test.YtagdilnbbepccaaGreatJ5b
import Derived.Test.YtagdilnbbepccaaGreatMB
import Derived.Test.YtagdilnbbepccaaGreatT24a
set_option linter.unusedSimpArgs false
set_option linter.unusedVariables false
namespace Go.Proofs.YtagdilnbbepccaaGreat
open Go.RowKit

/-- A page. -/
structure Pg where
  reset : Bool
  tree : List En
  cos : List Co
  cur : Int
  more : Bool
def LiesP (w : World) (v : Value) (P : Pg) : Prop := ∃ vt vc, v = .agg #[.bool P.reset, vt, vc, .int .i64 P.cur, .bool P.more] ∧ Lies w vt P.tree ∧ LiesO w vc P.cos
def OwnP (B : Nat) (w : World) (v : Value) (P : Pg) : Prop := ∃ vt vc, v = .agg #[.bool P.reset, vt, vc, .int .i64 P.cur, .bool P.more] ∧ Lies w vt P.tree ∧ Own B w vt ∧ OwnO B w vc P.cos
theorem LiesP.below {w w' : World} {v : Value} {P : Pg} (h : LiesP w v P) (hw : Below w.heap.size w w') : LiesP w' v P := by
  obtain ⟨vt, vc, h1, h2, h3⟩ := h
  exact ⟨vt, vc, h1, h2.below hw, h3.below hw⟩
theorem OwnP.lies {B : Nat} {w : World} {v : Value} {P : Pg} (h : OwnP B w v P) : LiesP w v P := by
  obtain ⟨vt, vc, h1, h2, _, h4⟩ := h
  exact ⟨vt, vc, h1, h2, h4.lies⟩
theorem OwnP.below {B : Nat} {w w' : World} {v : Value} {P : Pg} (h : OwnP B w v P) (hw : Below w.heap.size w w') : OwnP B w' v P := by
  obtain ⟨vt, vc, h1, h2, h3, h4⟩ := h
  exact ⟨vt, vc, h1, h2.below hw, h3.below hw, h4.below hw⟩
theorem ownO_nil (B : Nat) (w : World) : OwnO B w (.slice none 0 0) [] :=
  ⟨[], ⟨rfl, fun i c u hc => by simp at hc⟩, ⟨none, 0, rfl, Nat.le_refl _, by decide, (fun r hr => by cases hr), fun i h => absurd h (by simp [rowsO])⟩, own_nil _ _, (fun u hu => by cases hu)⟩
namespace Jn
def zeroP : Pg := ⟨false, [], [], 0, false⟩
def rdE (J : Jo) (c m : Int) : Int := if ¬ chkE J = 0 then chkE J else if m < 1 ∨ 10 < m ∨ c < 0 then 3 else if last J < c then 5 else 0
def behind (J : Jo) (c : Int) : List Co := J.cos.drop (c - (J.first - 1)).toNat
def few (m : Int) (n : Nat) : Nat := min m.toNat n
def rdR (J : Jo) (c m : Int) : Pg := if ¬ rdE J c m = 0 then zeroP else if c < J.first - 1 then ⟨true, tree J, [], last J, false⟩ else
  ⟨false, [], (behind J c).take (few m (behind J c).length), c + few m (behind J c).length, decide (few m (behind J c).length < (behind J c).length)⟩
theorem rd_bad {J : Jo} {c m e : Int} (h : rdE J c m = e) (he : ¬ e = 0) : rdR J c m = zeroP := by rw [rdR, h, if_pos he]
theorem rd_chk {J : Jo} {c m : Int} (h : ¬ chkE J = 0) : rdE J c m = chkE J := by rw [rdE, if_pos h]
theorem rd_range {J : Jo} {c m : Int} (h : chkE J = 0) (h1 : m < 1 ∨ 10 < m ∨ c < 0) : rdE J c m = 3 := by rw [rdE, if_neg (fun x => x h), if_pos h1]
theorem rd_none {J : Jo} {c m : Int} (h : chkE J = 0) (h1 : ¬ (m < 1 ∨ 10 < m ∨ c < 0)) (h2 : last J < c) : rdE J c m = 5 := by rw [rdE, if_neg (fun x => x h), if_neg h1, if_pos h2]
theorem rd_ok {J : Jo} {c m : Int} (h : chkE J = 0) (h1 : ¬ (m < 1 ∨ 10 < m ∨ c < 0)) (h2 : ¬ last J < c) : rdE J c m = 0 := by rw [rdE, if_neg (fun x => x h), if_neg h1, if_neg h2]
theorem rd_reset {J : Jo} {c m : Int} (h : rdE J c m = 0) (h3 : c < J.first - 1) : rdR J c m = ⟨true, tree J, [], last J, false⟩ := by rw [rdR, if_neg (fun x => x h), if_pos h3]
theorem rd_page {J : Jo} {c m : Int} (h : rdE J c m = 0) (h3 : ¬ c < J.first - 1) : rdR J c m = ⟨false, [], (behind J c).take (few m (behind J c).length), c + few m (behind J c).length, decide (few m (behind J c).length < (behind J c).length)⟩ := by rw [rdR, if_neg (fun x => x h), if_neg h3]
end Jn
/-- A part of a slice of commits. -/
theorem liesO_part {w : World} {a a' : Option Addr} {n cap i k cap' : Nat} {l : List Co} (h : LiesO w (.slice a n cap) l) (hi : i ≤ l.length) (hk : k ≤ (l.drop i).length) (hc : k ≤ cap') (ha : ∀ b o, a = some ⟨b, o, none⟩ → 0 < k → a' = some ⟨b, o + i * 3, none⟩) : LiesO w (.slice a' k cap') ((l.drop i).take k) := by
  obtain ⟨a0, cap0, hv, h1, h2, h3⟩ := h
  injection hv with e1 e2 e3
  subst e1
  have hl : ((l.drop i).take k).length = k := by rw [List.length_take]; omega
  have hl2 : (l.drop i).length = l.length - i := List.length_drop
  refine ⟨a', cap', by rw [hl], by rw [hl]; exact hc, by rw [hl]; omega, fun j hj => ?_⟩
  rw [hl] at hj
  obtain ⟨b, o, hab, hb, he⟩ := h3 (i + j) (by omega)
  refine ⟨b, o + i * 3, ha b o hab (by omega), hb, ?_⟩
  rw [List.getElem_take, List.getElem_drop, Nat.add_assoc, show i * 3 + j * 3 = (i + j) * 3 by omega]
  exact he
end Go.Proofs.YtagdilnbbepccaaGreat
set_option linter.unusedSimpArgs false
set_option linter.unusedVariables false
namespace Go.Proofs.YtagdilnbbepccaaGreat
open Go.RowKit

set_option maxHeartbeats 1000000 in
theorem same_yes (L : List En) (v u : Value) (w : World) (hv : Lies w v L) (hu : Lies w u L) :
    Calls Tryz.prog 25 #[v, u] w fun e w' => e = .returned (.bool true) ∧ Below w.heap.size w w' := by
  obtain ⟨a, cap, rfl, hcap, hcap2, hL⟩ := hv
  have HL : Hid (∀ i (h : i < L.length), ∃ b o, a = some ⟨b, o, none⟩ ∧ b < w.heap.size ∧ EnAt w b (o + i * 4) L[i]) := hL
  obtain ⟨a', cap', rfl, hcap', _, hL'⟩ := hu
  have HL' : Hid (∀ i (h : i < L.length), ∃ b o, a' = some ⟨b, o, none⟩ ∧ b < w.heap.size ∧ EnAt w b (o + i * 4) L[i]) := hL'
  clear hL hL'
  go_enter Tryz.func25, Tryz.ntmps25
  go_wp2_with fail
  go_loopw [5] (fun i wr => ∃ k : Nat, k ≤ L.length ∧ i = .int .i64 k ∧ Below w.heap.size w wr) (fun i _ => L.length - (intOf i).toNat)
  case atStart => exact ⟨0, Nat.zero_le _, rfl, Below.refl _ _⟩
  case round =>
    obtain ⟨k, hk, rfl, hbel⟩ := hrel
    by_cases hlt : k < L.length
    · obtain ⟨b, o, rfl, hb, he⟩ := HL.out k hlt
      obtain ⟨b', o', rfl, hb', he'⟩ := HL'.out k hlt
      obtain ⟨c0, c1, c2, c3⟩ := he.below hb hbel
      obtain ⟨d0, d1, d2, d3⟩ := he'.below hb' hbel
      go_wp2_with fail
      go_region
      go_wp2_with fail
      go_roundw
      case rel => exact ⟨k + 1, by omega, by simp, hbel.drew⟩
      case measure => simp [intOf]; omega
    · go_wp2_with fail
      go_ret
      exact ⟨rfl, hbel⟩

set_option maxHeartbeats 1000000 in
theorem treeIs_yes (L M : List En) (v u : Value) (r : Int) (w : World) (hv : Lies w v (Pp.ifz r L)) (hu : r = 0 → Lies w u L) :
    Calls Tryz.prog 14 #[v, .int .i64 r, .int .i64 r, u] w fun e w' => e = .returned (.bool true) ∧ Below w.heap.size w w' := by
  by_cases hr : r = 0
  · rw [Pp.ifz_yes hr] at hv
    have HV := hid hv
    have HU := hid (hu hr)
    clear hv hu
    subst hr
    go_enter Tryz.func14, Tryz.ntmps14
    go_wp2_with fail
    refine (same_yes L v u _ HV.out HU.out).mono ?_
    rintro e w1 ⟨rfl, hb1⟩
    go_wp2
    go_ret
    exact ⟨rfl, hb1⟩
  · rw [Pp.ifz_no hr] at hv
    have HV := hid hv
    have hz : (r == 0) = false := by simpa using hr
    clear hv hu
    go_enter Tryz.func14, Tryz.ntmps14
    go_wp2_with fail
    refine (same_yes [] v _ _ HV.out (lies_nil _)).mono ?_
    rintro e w1 ⟨rfl, hb1⟩
    go_wp2
    go_ret
    exact ⟨rfl, hb1⟩
end Go.Proofs.YtagdilnbbepccaaGreat
