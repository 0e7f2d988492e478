/- What the document's own NamesOf lays, for every text: the names between slashes, in memory of the call's own. -/
import Derived.Test.YtogbahkoijkclaaW7
import Derived.Test.YtogbahkoijkclaaV0
set_option linter.unusedSimpArgs false
set_option linter.unusedVariables false
namespace Go.Proofs.Ytogbahkoijkclaa
open Go.RowKit

namespace Pp
def vs (l : List (List UInt8)) : List Value := l.map fun x => .string ⟨x.toArray⟩
theorem vs_len (l : List (List UInt8)) : (vs l).length = l.length := by simp [vs]
theorem vs_snoc (l : List (List UInt8)) (x : List UInt8) : vs l ++ [.string ⟨x.toArray⟩] = vs (l ++ [x]) := by simp [vs]
theorem own_below {w w' : World} {base : Nat} {e : TypeId} {size : Nat} {v : Value} {n : Nat} {xs : List Value} (h : w.ownsRow base e size v n xs) (hb : Below w.heap.size w w') : w'.ownsRow base e size v n xs := by
  obtain ⟨h1, h2⟩ := h
  refine ⟨h1, ?_⟩
  rcases h2 with h2 | ⟨g, cap, cur, hv, hg, hh, r⟩
  · exact .inl h2
  · refine .inr ⟨g, cap, cur, hv, hg, ?_, r⟩
    have hlt : g < w.heap.size := by
      rcases Nat.lt_or_ge g w.heap.size with h | h
      · exact h
      · rw [Array.getElem?_eq_none h] at hh; cases hh
    rw [hb.block g hlt]; exact hh
theorem piece (s : ByteArray) (f k : Nat) : s.extract f k = ⟨((s.data.toList.drop f).take (k - f)).toArray⟩ := bytes_eq (Lib.extract_data s f k)
theorem piece_end (s : ByteArray) (f : Nat) : s.extract f s.size = ⟨(s.data.toList.drop f).toArray⟩ := bytes_eq (by rw [Lib.extract_data]; exact List.take_of_length_le (by rw [List.length_drop, ← Lib.size_eq]; exact Nat.le_refl _))
theorem drop_split (s : ByteArray) (f k : Nat) (hf : f ≤ k) (hk : k < s.size) : s.data.toList.drop f = (s.data.toList.drop f).take (k - f) ++ s[k] :: s.data.toList.drop (k + 1) := by
  have hl : k < s.data.toList.length := by simpa using hk
  conv => lhs; rw [← List.take_append_drop (k - f) (s.data.toList.drop f)]
  rw [List.drop_drop, show f + (k - f) = k by omega, List.drop_eq_getElem_cons hl, byte_at' s k hk hl]
theorem seg_snoc (s : ByteArray) (f k : Nat) (hf : f ≤ k) (hk : k < s.size) : (s.data.toList.drop f).take (k + 1 - f) = (s.data.toList.drop f).take (k - f) ++ [s[k]] := by
  have hl : k < s.data.toList.length := by simpa using hk
  have h2 : k - f < (s.data.toList.drop f).length := by rw [List.length_drop]; omega
  rw [show k + 1 - f = (k - f) + 1 by omega, List.take_succ_eq_append_getElem h2, List.getElem_drop]
  congr 2
  rw [← byte_at' s k hk hl]
  congr 1
  omega
/-- After k bytes: the names that are whole, and where the next one begins. -/
def cutTo (s : ByteArray) (dn : List (List UInt8)) (f k : Nat) : Prop := nm s.data.toList = dn ++ nm (s.data.toList.drop f) ∧ 47 ∉ (s.data.toList.drop f).take (k - f) ∧ dn.length ≤ k ∧ f ≤ k
theorem cut_zero (s : ByteArray) : cutTo s [] 0 0 := ⟨by simp, by simp, by simp, Nat.le_refl _⟩
theorem cut_slash (s : ByteArray) {dn : List (List UInt8)} {f k : Nat} (hk : k < s.size) (h : cutTo s dn f k) (hc : (s[k].toNat : Int) = 47) : cutTo s (dn ++ [(s.data.toList.drop f).take (k - f)]) (k + 1) (k + 1) := by
  have e : s[k] = 47 := UInt8.toNat_inj.1 (by simpa using Int.ofNat.inj hc)
  refine ⟨?_, by simp, by have := h.2.2.1; simp; omega, Nat.le_refl _⟩
  have e2 := drop_split s f k h.2.2.2 hk
  rw [e] at e2
  have e3 : nm (s.data.toList.drop f) = (s.data.toList.drop f).take (k - f) :: nm (s.data.toList.drop (k + 1)) := by
    conv => lhs; rw [e2]
    exact nm_cut _ _ h.2.1
  rw [h.1, e3]
  simp
theorem cut_other (s : ByteArray) {dn : List (List UInt8)} {f k : Nat} (hk : k < s.size) (h : cutTo s dn f k) (hc : (s[k].toNat : Int) ≠ 47) : cutTo s dn f (k + 1) := by
  refine ⟨h.1, ?_, by have := h.2.2.1; omega, by have := h.2.2.2; omega⟩
  rw [seg_snoc s f k h.2.2.2 hk]
  intro hm
  rcases List.mem_append.1 hm with hm | hm
  · exact h.2.1 hm
  · rw [List.mem_singleton] at hm
    exact hc (by rw [← hm]; rfl)
theorem cut_end (s : ByteArray) {dn : List (List UInt8)} {f : Nat} (h : cutTo s dn f s.size) : nm s.data.toList = dn ++ [s.data.toList.drop f] := by
  rw [h.1, nm_none]
  have := h.2.1
  rwa [List.take_of_length_le (by rw [List.length_drop, ← Lib.size_eq]; exact Nat.le_refl _)] at this
end Pp

theorem Try.infoS : (Try.prog.info? 9).map (fun i => (i.zero, i.size, i.bytes)) = some (some (.string ⟨#[]⟩), 1, 16) := by kernel_rfl

set_option maxRecDepth 100000 in
set_option maxHeartbeats 1000000 in
theorem rNames_any (s : ByteArray) (w : World) (hs : s.size ≤ 1000000000) :
    Calls Try.prog 35 #[.string s] w fun e w' => ∃ v, e = .returned v ∧ w'.ownsRow w.heap.size 9 1 v (Pp.nm s.data.toList).length (Pp.vs (Pp.nm s.data.toList)) ∧ Below w.heap.size w w' := by
  obtain ⟨i0, hi, hz0, hz1, hz2⟩ := info_parts Try.infoS
  go_enter Try.func35, Try.ntmps35
  go_wp2_with fail
  go_loopw [3, 4, 5] (fun v fr i wr => ∃ (dn : List (List UInt8)) (f k : Nat), k ≤ s.size ∧ f ≤ k ∧ dn.length ≤ k ∧ fr = .int .i64 f ∧ i = .int .i64 k ∧ wr.ownsRow w.heap.size 9 1 v dn.length (Pp.vs dn) ∧ Below w.heap.size w wr ∧ Hid (Pp.cutTo s dn f k))
    (fun _ _ i _ => s.size - (intOf i).toNat)
  case atStart => exact ⟨[], 0, 0, Nat.zero_le _, Nat.le_refl _, Nat.le_refl _, rfl, rfl, World.ownsRow_nil _ _ _ _, Below.refl _ _, Pp.cut_zero s⟩
  case round =>
    obtain ⟨dn, f, k, hk, hf, hd, rfl, rfl, hown, hbel, HC⟩ := hrel
    by_cases hlt : k < s.size
    · cases hc : ((s[k].toNat : Int) == 47) with
      | true =>
        have HX : Hid ((s[k].toNat : Int) = 47) := (by simpa using hc : (s[k].toNat : Int) = 47)
        go_wp2_with (at_builtin; refine wpList_append_own _ rfl _ _ 56 rfl w.heap.size 9 i0 (.string ⟨#[]⟩) 1 16 Try.underlying56 hi hz0 hz1 hz2 rfl (by decide) _ _ _ rfl (hown.alloc _) ⟨wr.heap.size, 0, none⟩ 1 1 [.string (s.extract f k)] rfl rfl ?c1 ?c2 ?c3 ?c4 ?c5 ?_)
        case c1 =>
          intro j u hj
          match j, hj with
          | 0, hj => simp at hj; subst hj; simp [Addr.add]
        case c2 => intro u hu; simp at hu; subst hu; rfl
        case c3 => unfold maxLen; omega
        case c4 => omega
        case c5 => have := hbel.size; simp; omega
        intro v' w1 hown' hgrow _
        have hb1 : Below w.heap.size w w1 := (hbel.alloc hbel.size _).grown hgrow (by have := hbel.size; simp; omega) (fun g hg => (hown.lt g hg).1)
        rw [Pp.piece, Pp.vs_snoc] at hown'
        have HO : Hid (w1.ownsRow w.heap.size 9 1 v' (dn.length + 1) (Pp.vs (dn ++ [(s.data.toList.drop f).take (k - f)]))) := hown'
        clear hown' hgrow hown hbel
        go_wp2
        go_roundw
        case rel => exact ⟨dn ++ [(s.data.toList.drop f).take (k - f)], k + 1, k + 1, by omega, Nat.le_refl _, by simp; omega, by simp, by simp, by rw [List.length_append]; exact HO.out, hb1, Pp.cut_slash s hlt HC.out HX.out⟩
        case measure => simp [intOf]; omega
      | false =>
        have HX : Hid ((s[k].toNat : Int) ≠ 47) := (by simpa using hc : (s[k].toNat : Int) ≠ 47)
        go_wp2_with fail
        go_roundw
        case rel => exact ⟨dn, f, k + 1, by omega, by omega, by omega, rfl, by simp, hown, hbel, Pp.cut_other s hlt HC.out HX.out⟩
        case measure => simp [intOf]; omega
    · obtain rfl : k = s.size := by omega
      go_wp2_with (at_builtin; refine wpList_append_own _ rfl _ _ 56 rfl w.heap.size 9 i0 (.string ⟨#[]⟩) 1 16 Try.underlying56 hi hz0 hz1 hz2 rfl (by decide) _ _ _ rfl (hown.alloc _) ⟨wr.heap.size, 0, none⟩ 1 1 [.string (s.extract f s.size)] rfl rfl ?d1 ?d2 ?d3 ?d4 ?d5 ?_)
      case d1 =>
        intro j u hj
        match j, hj with
        | 0, hj => simp at hj; subst hj; simp [Addr.add]
      case d2 => intro u hu; simp at hu; subst hu; rfl
      case d3 => unfold maxLen; omega
      case d4 => omega
      case d5 => have := hbel.size; simp; omega
      intro v' w1 hown' hgrow _
      have hb1 : Below w.heap.size w w1 := (hbel.alloc hbel.size _).grown hgrow (by have := hbel.size; simp; omega) (fun g hg => (hown.lt g hg).1)
      rw [Pp.piece_end, Pp.vs_snoc] at hown'
      have HO : Hid (w1.ownsRow w.heap.size 9 1 v' (dn.length + 1) (Pp.vs (dn ++ [s.data.toList.drop f]))) := hown'
      clear hown' hgrow hown hbel
      go_wp2
      go_ret
      exact ⟨v', rfl, by rw [Pp.cut_end s HC.out, List.length_append]; exact HO.out, hb1⟩
end Go.Proofs.Ytogbahkoijkclaa
