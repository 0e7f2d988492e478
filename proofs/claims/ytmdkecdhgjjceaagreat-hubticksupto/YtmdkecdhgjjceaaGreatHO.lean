/- What the document's own NamesOf lays, for every text: the names between slashes, in memory of the call's own. What the document's own TooGreat and CheckPath answer, for every text. What the reference's ChangeForm answers, for every change. What the reference's EntryAt answers, for every tree. What the document's own PathOf, ParentOf and LastOf answer. What the reference's EntryAt and IsFolder answer, for every tree. What the document's own IsIn answers, for every two texts. -/
import Derived.Test.YtmdkecdhgjjceaaGreatW7
import Derived.Test.YtmdkecdhgjjceaaGreatMC
import Derived.Test.YtmdkecdhgjjceaaGreatHH
import Derived.Test.YtmdkecdhgjjceaaGreatMD
import Derived.Test.YtmdkecdhgjjceaaGreatMA
set_option linter.unusedSimpArgs false
set_option linter.unusedVariables false
namespace Go.Proofs.YtmdkecdhgjjceaaGreat
open Go.RowKit

namespace Pp
def vs (l : List (List UInt8)) : List Value := l.map fun x => .string ⟨x.toArray⟩
theorem vs_len (l : List (List UInt8)) : (vs l).length = l.length := by simp [vs]
theorem vs_snoc (l : List (List UInt8)) (x : List UInt8) : vs l ++ [.string ⟨x.toArray⟩] = vs (l ++ [x]) := by simp [vs]
theorem piece (s : ByteArray) (f k : Nat) : s.extract f k = ⟨((s.data.toList.drop f).take (k - f)).toArray⟩ := bytes_eq (Lib.extract_data s f k)
theorem piece_end (s : ByteArray) (f : Nat) : s.extract f s.size = ⟨(s.data.toList.drop f).toArray⟩ := bytes_eq (by rw [Lib.extract_data]; exact List.take_of_length_le (by rw [List.length_drop, ← Lib.size_eq]; exact Nat.le_refl _))
theorem drop_split (s : ByteArray) (f k : Nat) (hf : f ≤ k) (hk : k < s.size) : s.data.toList.drop f = (s.data.toList.drop f).take (k - f) ++ s[k] :: s.data.toList.drop (k + 1) := by
 have hl : k < s.data.toList.length := by simpa using hk
 conv => lhs; rw [← List.take_append_drop (k - f) (s.data.toList.drop f)]
 rw [List.drop_drop, show f + (k - f) = k by omega, List.drop_eq_getElem_cons hl, byte_at' s k hk hl]
theorem seg_snoc (s : ByteArray) (f k : Nat) (hf : f ≤ k) (hk : k < s.size) : (s.data.toList.drop f).take (k + 1 - f) = (s.data.toList.drop f).take (k - f) ++ [s[k]] := by
 have hl : k < s.data.toList.length := by simpa using hk
 have h2 : k - f < (s.data.toList.drop f).length := by rw [List.length_drop]; omega
 rw [show k + 1 - f = (k - f) + 1 by omega, List.take_succ_eq_append_getElem h2, List.getElem_drop]
 congr 2
 rw [← byte_at' s k hk hl]
 congr 1
 omega
/-- After k bytes: the names that are whole, and where the next one begins. -/
def cutTo (s : ByteArray) (dn : List (List UInt8)) (f k : Nat) : Prop := nm s.data.toList = dn ++ nm (s.data.toList.drop f) ∧ 47 ∉ (s.data.toList.drop f).take (k - f) ∧ dn.length ≤ k ∧ f ≤ k
theorem cut_zero (s : ByteArray) : cutTo s [] 0 0 := ⟨by simp, by simp, by simp, Nat.le_refl _⟩
theorem cut_slash (s : ByteArray) {dn : List (List UInt8)} {f k : Nat} (hk : k < s.size) (h : cutTo s dn f k) (hc : (s[k].toNat : Int) = 47) : cutTo s (dn ++ [(s.data.toList.drop f).take (k - f)]) (k + 1) (k + 1) := by
 have e : s[k] = 47 := UInt8.toNat_inj.1 (by simpa using Int.ofNat.inj hc)
 refine ⟨?_, by simp, by have := h.2.2.1; simp; omega, Nat.le_refl _⟩
 have e2 := drop_split s f k h.2.2.2 hk
 rw [e] at e2
 have e3 : nm (s.data.toList.drop f) = (s.data.toList.drop f).take (k - f) :: nm (s.data.toList.drop (k + 1)) := by
  conv => lhs; rw [e2]
  exact nm_cut _ _ h.2.1
 rw [h.1, e3]
 simp
theorem cut_other (s : ByteArray) {dn : List (List UInt8)} {f k : Nat} (hk : k < s.size) (h : cutTo s dn f k) (hc : (s[k].toNat : Int) ≠ 47) : cutTo s dn f (k + 1) := by
 refine ⟨h.1, ?_, by have := h.2.2.1; omega, by have := h.2.2.2; omega⟩
 rw [seg_snoc s f k h.2.2.2 hk]
 intro hm
 rcases List.mem_append.1 hm with hm | hm
 · exact h.2.1 hm
 · rw [List.mem_singleton] at hm
   exact hc (by rw [← hm]; rfl)
theorem cut_end (s : ByteArray) {dn : List (List UInt8)} {f : Nat} (h : cutTo s dn f s.size) : nm s.data.toList = dn ++ [s.data.toList.drop f] := by
 rw [h.1, nm_none]
 have := h.2.1
 rwa [List.take_of_length_le (by rw [List.length_drop, ← Lib.size_eq]; exact Nat.le_refl _)] at this
end Pp

theorem Tryz.infoS : (Tryz.prog.info? 9).map (fun i => (i.zero, i.size, i.bytes)) = some (some (.string ⟨#[]⟩), 1, 16) := by kernel_rfl

set_option maxRecDepth 100000 in
set_option maxHeartbeats 1000000 in
theorem rNames_any (s : ByteArray) (w : World) (hs : s.size ≤ 1000000000) :
    Calls Tryz.prog 142 #[.string s] w fun e w' => ∃ v, e = .returned v ∧ w'.ownsRow w.heap.size 9 1 v (Pp.nm s.data.toList).length (Pp.vs (Pp.nm s.data.toList)) ∧ Below w.heap.size w w' := by
 obtain ⟨i0, hi, hz0, hz1, hz2⟩ := info_parts Tryz.infoS
 go_enter Tryz.func142, Tryz.ntmps142
 go_wp2_with fail
 go_loopw [3, 4, 5] (fun v fr i wr => ∃ (dn : List (List UInt8)) (f k : Nat), k ≤ s.size ∧ f ≤ k ∧ dn.length ≤ k ∧ fr = .int .i64 f ∧ i = .int .i64 k ∧ wr.ownsRow w.heap.size 9 1 v dn.length (Pp.vs dn) ∧ Below w.heap.size w wr ∧ Hid (Pp.cutTo s dn f k))
  (fun _ _ i _ => s.size - (intOf i).toNat)
 case atStart => exact ⟨[], 0, 0, Nat.zero_le _, Nat.le_refl _, Nat.le_refl _, rfl, rfl, World.ownsRow_nil _ _ _ _, Below.refl _ _, Pp.cut_zero s⟩
 case round =>
  obtain ⟨dn, f, k, hk, hf, hd, rfl, rfl, hown, hbel, HC⟩ := hrel
  by_cases hlt : k < s.size
  · cases hc : ((s[k].toNat : Int) == 47) with
    | true =>
     have HX := hid (show (s[k].toNat : Int) = 47 from by simpa using hc)
     go_wp2_with (at_builtin; refine wpList_append_own _ rfl _ _ 84 rfl w.heap.size 9 i0 (.string ⟨#[]⟩) 1 16 Tryz.underlying84 hi hz0 hz1 hz2 rfl (by decide) _ _ _ rfl (hown.alloc _) ⟨wr.heap.size, 0, none⟩ 1 1 [.string (s.extract f k)] rfl rfl ?c1 ?c2 ?c3 ?c4 ?c5 ?_)
     case c1 =>
      intro j u hj
      match j, hj with
      | 0, hj => simp at hj; subst hj; simp [Addr.add]
     case c2 => intro u hu; simp at hu; subst hu; rfl
     case c3 => unfold maxLen; omega
     case c4 => omega
     case c5 => have := hbel.size; simp; omega
     intro v' w1 hown' hgrow _
     have hb1 : Below w.heap.size w w1 := (hbel.alloc hbel.size _).grown hgrow (by have := hbel.size; simp; omega) (fun g hg => (hown.lt g hg).1)
     rw [Pp.piece, Pp.vs_snoc] at hown'
     have HO : Hid (w1.ownsRow w.heap.size 9 1 v' (dn.length + 1) (Pp.vs (dn ++ [(s.data.toList.drop f).take (k - f)]))) := hown'
     clear hown' hgrow hown hbel
     go_wp2
     go_roundw
     case rel => exact ⟨dn ++ [(s.data.toList.drop f).take (k - f)], k + 1, k + 1, by omega, Nat.le_refl _, by simp; omega, by simp, by simp, by rw [List.length_append]; exact HO.out, hb1, Pp.cut_slash s hlt HC.out HX.out⟩
     case measure => simp [intOf]; omega
    | false =>
     have HX := hid (show (s[k].toNat : Int) ≠ 47 from by simpa using hc)
     go_wp2_with fail
     go_roundw
     case rel => exact ⟨dn, f, k + 1, by omega, by omega, by omega, rfl, by simp, hown, hbel, Pp.cut_other s hlt HC.out HX.out⟩
     case measure => simp [intOf]; omega
  · obtain rfl : k = s.size := by omega
    go_wp2_with (at_builtin; refine wpList_append_own _ rfl _ _ 84 rfl w.heap.size 9 i0 (.string ⟨#[]⟩) 1 16 Tryz.underlying84 hi hz0 hz1 hz2 rfl (by decide) _ _ _ rfl (hown.alloc _) ⟨wr.heap.size, 0, none⟩ 1 1 [.string (s.extract f s.size)] rfl rfl ?d1 ?d2 ?d3 ?d4 ?d5 ?_)
    case d1 =>
     intro j u hj
     match j, hj with
     | 0, hj => simp at hj; subst hj; simp [Addr.add]
    case d2 => intro u hu; simp at hu; subst hu; rfl
    case d3 => unfold maxLen; omega
    case d4 => omega
    case d5 => have := hbel.size; simp; omega
    intro v' w1 hown' hgrow _
    have hb1 : Below w.heap.size w w1 := (hbel.alloc hbel.size _).grown hgrow (by have := hbel.size; simp; omega) (fun g hg => (hown.lt g hg).1)
    rw [Pp.piece_end, Pp.vs_snoc] at hown'
    have HO : Hid (w1.ownsRow w.heap.size 9 1 v' (dn.length + 1) (Pp.vs (dn ++ [s.data.toList.drop f]))) := hown'
    clear hown' hgrow hown hbel
    go_wp2
    go_ret
    exact ⟨v', rfl, by rw [Pp.cut_end s HC.out, List.length_append]; exact HO.out, hb1⟩
end Go.Proofs.YtmdkecdhgjjceaaGreat
set_option linter.unusedSimpArgs false
set_option linter.unusedVariables false
namespace Go.Proofs.YtmdkecdhgjjceaaGreat
open Go.RowKit

theorem Pp.nm_mem_len : ∀ (l : List UInt8) (x : List UInt8), x ∈ Pp.nm l → x.length ≤ l.length
 | [], x, h => by simp [Pp.nm] at h; simp [h]
 | c :: r, x, h => by
  rw [Pp.nm] at h
  split at h
  · rcases List.mem_cons.1 h with h | h
    · simp [h]
    · have := Pp.nm_mem_len r x h; simp; omega
  · cases e : Pp.nm r with
    | nil => exact absurd e (Pp.nm_ne r)
    | cons y t =>
     rw [e] at h
     rcases List.mem_cons.1 h with h | h
     · have := Pp.nm_mem_len r y (by rw [e]; simp); rw [h]; simp; omega
     · have := Pp.nm_mem_len r x (by rw [e]; simp [h]); simp; omega

theorem rNames_at (s : ByteArray) (w : World) (hs : s.size ≤ 1000000000) :
    Calls Tryz.prog 142 #[.string s] w fun e w' => ∃ g cap, e = .returned (.slice (some ⟨g, 0, none⟩) (Pp.nm s.data.toList).length cap) ∧ (Pp.nm s.data.toList).length ≤ cap ∧ cap ≤ maxLen ∧ w.heap.size ≤ g ∧ g < w'.heap.size ∧
     (∀ i (h : i < (Pp.nm s.data.toList).length), w'.cell? ⟨g, i, none⟩ = some (.string ⟨((Pp.nm s.data.toList)[i]).toArray⟩)) ∧ Below w.heap.size w w' := by
 refine (rNames_any s w hs).mono ?_
 rintro e w' ⟨v, rfl, hown, hb⟩
 obtain ⟨hl, h2⟩ := hown
 rcases h2 with ⟨_, h0⟩ | ⟨g, cap, cur, rfl, hg, hh, hn, hm, hz, htake⟩
 · exact absurd (List.length_eq_zero_iff.1 h0) (Pp.nm_ne _)
 · have hlt : g < w'.heap.size := by
    rcases Nat.lt_or_ge g w'.heap.size with h | h
    · exact h
    · rw [Array.getElem?_eq_none h] at hh; cases hh
   refine ⟨g, cap, rfl, hn, hm, hg, hlt, fun i h => ?_, hb⟩
   have ho : w'.ownsRow w.heap.size 9 1 (.slice (some ⟨g, 0, none⟩) (Pp.nm s.data.toList).length cap) (Pp.nm s.data.toList).length (Pp.vs (Pp.nm s.data.toList)) := ⟨hl, .inr ⟨g, cap, cur, rfl, hg, hh, hn, hm, hz, htake⟩⟩
   rw [ho.cellAt i (by omega)]
   simp [Pp.vs, h]

set_option maxHeartbeats 400000 in
theorem rTooGreat_any (s : ByteArray) (w : World) (hs : s.size ≤ 1000000000) :
    Calls Tryz.prog 143 #[.string s] w fun e w' => e = .returned (.bool (Pp.big s.data.toList)) ∧ Below w.heap.size w w' := by
 have hn : (Pp.nm s.data.toList).length ≤ s.size + 1 := by have := Pp.nm_len_le s.data.toList; rwa [← Lib.size_eq] at this
 have hb1 : (6 : Int) < (Pp.nm s.data.toList).length → true = Pp.big s.data.toList := fun h => by
  symm; simp only [Pp.big, Bool.or_eq_true, decide_eq_true_eq]; omega
 have hb2 : (80 : Int) < s.size → true = Pp.big s.data.toList := fun h => by
  symm; simp only [Pp.big, Bool.or_eq_true, decide_eq_true_eq, ← Lib.size_eq]; omega
 have hb3 : ((Pp.nm s.data.toList).length : Int) ≤ 6 → (s.size : Int) ≤ 80 → false = Pp.big s.data.toList := fun h1 h2 => by
  symm; simp only [Pp.big, Bool.or_eq_false_iff, decide_eq_false_iff_not, ← Lib.size_eq]; omega
 by_cases c1 : (6 : Int) < (Pp.nm s.data.toList).length
 · have H : Hid (true = Pp.big s.data.toList) := hb1 c1
   clear hb1 hb2 hb3
   go_enter Tryz.func143, Tryz.ntmps143
   go_wp2_with fail
   refine (rNames_at s _ hs).mono ?_
   rintro e w1 ⟨g, cap, rfl, _, _, _, _, _, hb⟩
   go_wp2
   go_ret
   exact ⟨Pp.ret_bool H.out, hb⟩
 by_cases c2 : (80 : Int) < s.size
 · have H : Hid (true = Pp.big s.data.toList) := hb2 c2
   clear hb1 hb2 hb3
   go_enter Tryz.func143, Tryz.ntmps143
   go_wp2_with fail
   refine (rNames_at s _ hs).mono ?_
   rintro e w1 ⟨g, cap, rfl, _, _, _, _, _, hb⟩
   go_wp2
   go_ret
   exact ⟨Pp.ret_bool H.out, hb⟩
 · have H : Hid (false = Pp.big s.data.toList) := hb3 (by omega) (by omega)
   clear hb1 hb2 hb3
   go_enter Tryz.func143, Tryz.ntmps143
   go_wp2_with fail
   refine (rNames_at s _ hs).mono ?_
   rintro e w1 ⟨g, cap, rfl, _, _, _, _, _, hb⟩
   go_wp2
   go_ret
   exact ⟨Pp.ret_bool (by rw [← H.out]; simp; omega), hb⟩

set_option maxHeartbeats 600000 in
theorem rCheck_any (s : ByteArray) (w : World) (hs : s.size ≤ 1000000000) :
    Calls Tryz.prog 115 #[.string s] w fun e w' => e = .returned (.int .i64 (Pp.chk s.data.toList)) ∧ Below w.heap.size w w' := by
 have hn : (Pp.nm s.data.toList).length ≤ s.size + 1 := by have := Pp.nm_len_le s.data.toList; rwa [← Lib.size_eq] at this
 obtain ⟨L, hL⟩ : ∃ L, L = Pp.nm s.data.toList := ⟨_, rfl⟩
 have HL : Hid (L = Pp.nm s.data.toList) := hL
 rw [← hL] at hn
 have hsz : ∀ i (h : i < L.length), (L[i]).length ≤ s.size := by
  intro i h
  have := Pp.nm_mem_len s.data.toList L[i] (by rw [← hL]; exact List.getElem_mem h)
  rwa [← Lib.size_eq] at this
 clear hL
 go_enter Tryz.func115, Tryz.ntmps115
 go_wp2_with fail
 refine (rNames_at s _ hs).mono ?_
 rintro e w1 ⟨g, cap, rfl, hc1, hc2, hg1, hg2, hcell, hb⟩
 rw [← HL.out] at hc1 hcell ⊢
 have HC : Hid (∀ i (h : i < L.length), w1.cell? ⟨g, i, none⟩ = some (.string ⟨(L[i]).toArray⟩)) := hcell
 clear hcell
 go_wp2_with fail
 go_loopw [4] (fun i wr => ∃ k : Nat, k ≤ L.length ∧ i = .int .i64 k ∧ Hid ((L.take k).all Pp.nameB = true) ∧ wr = w1) (fun i _ => L.length - (intOf i).toNat)
 case atStart => exact ⟨0, Nat.zero_le _, rfl, rfl, rfl⟩
 case round =>
  obtain ⟨k, hk, rfl, HA, rfl⟩ := hrel
  by_cases hlt : k < L.length
  · have hce := HC.out k hlt
    cases hnm : Pp.nameB L[k] with
    | true =>
     have HN : Hid (Pp.nameB L[k] = true) := hnm
     clear hnm
     go_wp2_with fail
     refine (rIsName_any _ _ (by rw [Pp.sz]; have := hsz k hlt; omega)).mono ?_
     rintro e w2 ⟨rfl, rfl⟩
     simp only [HN.out]
     go_wp2_with fail
     go_roundw
     case rel => exact ⟨k + 1, by omega, by simp, (by rw [List.take_succ_eq_append_getElem hlt]; exact Pp.all_add HA.out HN.out : (L.take (k + 1)).all Pp.nameB = true), trivial⟩
     case measure => simp [intOf]; omega
    | false =>
     have HN : Hid (Pp.nameB L[k] = false) := hnm
     clear hnm
     go_wp2_with fail
     refine (rIsName_any _ _ (by rw [Pp.sz]; have := hsz k hlt; omega)).mono ?_
     rintro e w2 ⟨rfl, rfl⟩
     simp only [HN.out]
     go_wp2_with fail
     go_ret
     exact ⟨Pp.ret_int (Pp.chk_one s (dn := L.take k) (r := L.drop (k + 1)) (n := L[k]) (by rw [← HL.out, ← List.drop_eq_getElem_cons hlt, List.take_append_drop]) HN.out), hb⟩
  · have HB := hid (show L.all Pp.nameB = true from by have := HA.out; rwa [List.take_of_length_le (by omega)] at this)
    cases hbig : Pp.big s.data.toList with
    | true =>
     have HG : Hid (Pp.big s.data.toList = true) := hbig
     clear hbig
     go_wp2_with fail
     refine (rTooGreat_any s _ hs).mono ?_
     rintro e w2 ⟨rfl, hb2⟩
     simp only [HG.out]
     go_wp2
     go_ret
     exact ⟨Pp.ret_int (by rw [Pp.chk, ← HL.out, if_pos HB.out, if_pos HG.out]), hb.trans (hb2.mono hb.size)⟩
    | false =>
     have HG : Hid (Pp.big s.data.toList = false) := hbig
     clear hbig
     go_wp2_with fail
     refine (rTooGreat_any s _ hs).mono ?_
     rintro e w2 ⟨rfl, hb2⟩
     simp only [HG.out]
     go_wp2
     go_ret
     exact ⟨Pp.ret_int (by rw [Pp.chk, ← HL.out, if_pos HB.out, if_neg (by rw [HG.out]; decide)]), hb.trans (hb2.mono hb.size)⟩

end Go.Proofs.YtmdkecdhgjjceaaGreat
set_option linter.unusedSimpArgs false
set_option linter.unusedVariables false
namespace Go.Proofs.YtmdkecdhgjjceaaGreat
open Go.RowKit

set_option maxHeartbeats 2000000 in
theorem changeForm_any (k : Int) (p q t : ByteArray) (b : Int) (w : World) (hp : p.size ≤ 1000000000) (hq : q.size ≤ 1000000000) (ht : t.size ≤ 1000000000000000) :
    Calls Tryz.prog 137 #[.agg #[.int .i64 k, .string p, .string q, .string t, .int .i64 b]] w fun e w' => e = .returned (.int .i64 (Pp.chgE ⟨k, p, q, t, b⟩)) ∧ Below w.heap.size w w' := by
 by_cases h1 : k < 1
 · have HE := hid (show 7 = Pp.chgE ⟨k, p, q, t, b⟩ from by rw [Pp.chgE, if_pos (Or.inl h1)])
   go_enter Tryz.func137, Tryz.ntmps137
   go_wp2
   go_ret
   exact ⟨Pp.ret_int HE.out, (Below.refl _ _).alloc (Nat.le_refl _) _⟩
 by_cases h2 : 4 < k
 · have HE := hid (show 7 = Pp.chgE ⟨k, p, q, t, b⟩ from by rw [Pp.chgE, if_pos (Or.inr h2)])
   go_enter Tryz.func137, Tryz.ntmps137
   go_wp2
   go_ret
   exact ⟨Pp.ret_int HE.out, (Below.refl _ _).alloc (Nat.le_refl _) _⟩
 by_cases hz : Pp.chk p.data.toList = 0
 · have HZ : Hid (Pp.chk p.data.toList = 0) := hz
   have h4 : (k = 1 ∨ k = 4) ∨ k = 2 ∨ k = 3 := by omega
   clear h1 h2
   rcases h4 with h | rfl | rfl
   · have hcases := Pp.cc14 h p q t b hz
     clear hz
     rcases h with rfl | rfl
     all_goals
      rcases hcases with ⟨f1, HE⟩ | ⟨f1, f2, HE⟩ | ⟨f1, f2, f3, f4, HE⟩ | ⟨f1, f2, f3, f4, HE⟩ | ⟨f1, f2, f3, f4, f5, HE⟩
     all_goals
      go_enter Tryz.func137, Tryz.ntmps137
      go_wp2_with fail
      refine (rCheck_any p _ hp).mono ?_
      rintro e w1 ⟨rfl, hb1'⟩
      rw [HZ.out]
      obtain ⟨c0, c1, c2, c3, c4, hbw, hlt⟩ := bx5 hb1'
      clear hb1'
      go_wp2_with fail
      go_ret
      exact ⟨Pp.ret_int HE.out, hbw⟩
   · have hcases := Pp.cc2 p q t b hz
     clear hz
     rcases hcases with ⟨f1, HE⟩ | ⟨f1, f2, HE⟩ | ⟨f1, f2, f3, HE⟩ | ⟨f1, f2, f3, HE⟩ | ⟨f1, f2, f3, f4, HE⟩
     all_goals
      go_enter Tryz.func137, Tryz.ntmps137
      go_wp2_with fail
      refine (rCheck_any p _ hp).mono ?_
      rintro e w1 ⟨rfl, hb1'⟩
      rw [HZ.out]
      obtain ⟨c0, c1, c2, c3, c4, hbw, hlt⟩ := bx5 hb1'
      clear hb1'
      go_wp2_with fail
      go_ret
      exact ⟨Pp.ret_int HE.out, hbw⟩
   · by_cases hy : Pp.chk q.data.toList = 0
     · have hcases := Pp.cc3 p q t b hz hy
       have HY : Hid (Pp.chk q.data.toList = 0) := hy
       clear hz hy
       rcases hcases with ⟨f1, HE⟩ | ⟨f1, f2, f3, HE⟩ | ⟨f1, f2, f3, HE⟩ | ⟨f1, f2, f3, f4, HE⟩
       all_goals
        go_enter Tryz.func137, Tryz.ntmps137
        go_wp2_with fail
        refine (rCheck_any p _ hp).mono ?_
        rintro e w1 ⟨rfl, hb1'⟩
        rw [HZ.out]
        obtain ⟨c0, c1, c2, c3, c4, hbw, hlt⟩ := bx5 hb1'
        go_wp2_with fail
        refine (rCheck_any q _ hq).mono ?_
        rintro e w2 ⟨rfl, hb2'⟩
        rw [HY.out]
        have hb02 := hb1'.trans (hb2'.mono hb1'.size)
        clear c0 c1 c2 c3 c4 hbw hlt hb1' hb2'
        obtain ⟨c0, c1, c2, c3, c4, hbw, hlt⟩ := bx5 hb02
        clear hb02
        go_wp2_with fail
        go_ret
        exact ⟨Pp.ret_int HE.out, hbw⟩
     · have HE := hid (show Pp.chk q.data.toList = Pp.chgE ⟨3, p, q, t, b⟩ from by simp [Pp.chgE, hz, hy])
       have hy2 : (Pp.chk q.data.toList == 0) = false := by simpa using hy
       clear hz
       go_enter Tryz.func137, Tryz.ntmps137
       go_wp2_with fail
       refine (rCheck_any p _ hp).mono ?_
       rintro e w1 ⟨rfl, hb1'⟩
       rw [HZ.out]
       obtain ⟨c0, c1, c2, c3, c4, hbw, hlt⟩ := bx5 hb1'
       go_wp2_with fail
       refine (rCheck_any q _ hq).mono ?_
       rintro e w2 ⟨rfl, hb2'⟩
       have hb02 := hb1'.trans (hb2'.mono hb1'.size)
       clear c0 c1 c2 c3 c4 hbw hlt hb1' hb2'
       obtain ⟨c0, c1, c2, c3, c4, hbw, hlt⟩ := bx5 hb02
       clear hb02
       go_wp2_with fail
       go_ret
       exact ⟨Pp.ret_int HE.out, hbw⟩
 · have HE := hid (show Pp.chk p.data.toList = Pp.chgE ⟨k, p, q, t, b⟩ from by rw [Pp.chgE, if_neg (by simp only; omega), if_pos hz])
   have hz2 : (Pp.chk p.data.toList == 0) = false := by simpa using hz
   go_enter Tryz.func137, Tryz.ntmps137
   go_wp2_with fail
   refine (rCheck_any p _ hp).mono ?_
   rintro e w1 ⟨rfl, hb1⟩
   obtain ⟨c0, c1, c2, c3, c4, hb, hlt⟩ := bx5 hb1
   clear hb1
   go_wp2_with fail
   go_ret
   exact ⟨Pp.ret_int HE.out, hb⟩
end Go.Proofs.YtmdkecdhgjjceaaGreat
set_option linter.unusedSimpArgs false
set_option linter.unusedVariables false
namespace Go.Proofs.YtmdkecdhgjjceaaGreat
open Go.RowKit

namespace Pp
/-- The place of the first entry at a path; -1: there is none. -/
def idx (L : List En) (q : List UInt8) : Int := match L.findIdx? (atB q) with
 | some i => (i : Int)
 | none => -1
theorem idx_hit {L : List En} {q : List UInt8} {k : Nat} (hlt : k < L.length) (h : ∀ j (h : j < L.length), j < k → atB q L[j] = false) (hp : atB q L[k] = true) : (k : Int) = idx L q := by
 have : L.findIdx? (atB q) = some k := List.findIdx?_eq_some_iff_getElem.2 ⟨hlt, hp, fun j hj => by rw [h j (by omega) hj]; simp⟩
 rw [idx, this]
theorem idx_miss {L : List En} {q : List UInt8} (h : ∀ j (h : j < L.length), atB q L[j] = false) : -1 = idx L q := by
 have : L.findIdx? (atB q) = none := List.findIdx?_eq_none_iff.2 fun x hx => by
  obtain ⟨j, hj, rfl⟩ := List.getElem_of_mem hx
  exact h j hj
 rw [idx, this]
theorem idx_cases (L : List En) (q : List UInt8) : (idx L q = -1 ∧ L.find? (atB q) = none) ∨ ∃ k, ∃ h : k < L.length, idx L q = (k : Int) ∧ L.find? (atB q) = some L[k] := by
 cases hf : L.findIdx? (atB q) with
 | none =>
  refine Or.inl ⟨by rw [idx, hf], ?_⟩
  rw [List.find?_eq_none]
  intro x hx
  have := List.findIdx?_eq_none_iff.1 hf x hx
  simp [this]
 | some k =>
  obtain ⟨hlt, hp, hmin⟩ := List.findIdx?_eq_some_iff_getElem.1 hf
  refine Or.inr ⟨k, hlt, by rw [idx, hf], find_hit hlt (fun j h hj => ?_) hp⟩
  have := hmin j hj
  simpa using this
end Pp

set_option maxHeartbeats 800000 in
theorem entryAt_any (L : List En) (v : Value) (q : ByteArray) (w : World) (hv : Lies w v L) :
    Calls Tryz.prog 138 #[v, .string q] w fun e w' => e = .returned (.int .i64 (Pp.idx L q.data.toList)) ∧ Below w.heap.size w w' := by
 obtain ⟨a, cap, rfl, hcap, hcap2, hL⟩ := hv
 have HL : Hid (∀ i (h : i < L.length), ∃ b o, a = some ⟨b, o, none⟩ ∧ b < w.heap.size ∧ EnAt w b (o + i * 4) L[i]) := hL
 clear hL
 go_enter Tryz.func138, Tryz.ntmps138
 go_wp2_with fail
 go_loopw [5] (fun i wr => ∃ k : Nat, k ≤ L.length ∧ i = .int .i64 k ∧ Hid (∀ j (h : j < L.length), j < k → Pp.atB q.data.toList L[j] = false) ∧ Below w.heap.size w wr) (fun i _ => L.length - (intOf i).toNat)
 case atStart => exact ⟨0, Nat.zero_le _, rfl, (fun j _ h => absurd h (Nat.not_lt_zero _) : ∀ j (h : j < L.length), j < 0 → Pp.atB q.data.toList L[j] = false), Below.refl _ _⟩
 case round =>
  obtain ⟨k, hk, rfl, HP, hbel⟩ := hrel
  by_cases hlt : k < L.length
  · obtain ⟨b, o, rfl, hb, he⟩ := HL.out k hlt
    obtain ⟨c0, c1, c2, c3⟩ := he.below hb hbel
    cases hp : Pp.atB q.data.toList L[k] with
    | true =>
     have hp2 : ((L[k]).path.toList == q.toList) = true := by rw [← hp, Pp.atB, Lib.toList_data, Lib.toList_data]
     have HE := hid (show (k : Int) = Pp.idx L q.data.toList from Pp.idx_hit hlt HP.out hp)
     go_wp2_with fail
     go_ret
     exact ⟨Pp.ret_int HE.out, hbel⟩
    | false =>
     have hp2 : ((L[k]).path.toList == q.toList) = false := by rw [← hp, Pp.atB, Lib.toList_data, Lib.toList_data]
     go_wp2_with fail
     go_roundw
     case rel => exact ⟨k + 1, by omega, by simp, (fun j h1 h2 => by
      by_cases e : j = k
      · subst e; exact hp
      · exact HP.out j h1 (by omega) : ∀ j (h : j < L.length), j < k + 1 → Pp.atB q.data.toList L[j] = false), hbel⟩
     case measure => simp [intOf]; omega
  · have HE := hid (show -1 = Pp.idx L q.data.toList from Pp.idx_miss (fun j h => HP.out j h (by omega)))
    go_wp2_with fail
    go_ret
    exact ⟨Pp.ret_int HE.out, hbel⟩

end Go.Proofs.YtmdkecdhgjjceaaGreat
set_option linter.unusedSimpArgs false
set_option linter.unusedVariables false
namespace Go.Proofs.YtmdkecdhgjjceaaGreat
open Go.RowKit


set_option maxHeartbeats 400000 in
theorem pathOf_any (L : List (List UInt8)) (g o cap : Nat) (w : World) (hL : (Pp.join L).length ≤ 1000000000) (hn : L.length ≤ 1000000000) (hcell : ∀ i (h : i < L.length), w.cell? ⟨g, o + i, none⟩ = some (.string ⟨(L[i]).toArray⟩)) :
    Calls Tryz.prog 141 #[.slice (some ⟨g, o, none⟩) L.length cap] w fun e w' => e = .returned (.string ⟨(Pp.join L).toArray⟩) ∧ w' = w := by
 have HC : Hid (∀ i (h : i < L.length), w.cell? ⟨g, o + i, none⟩ = some (.string ⟨(L[i]).toArray⟩)) := hcell
 clear hcell
 go_enter Tryz.func141, Tryz.ntmps141
 go_wp2_with fail
 go_loop [3, 4] (fun s i => ∃ k : Nat, k ≤ L.length ∧ i = .int .i64 k ∧ s = .string ⟨(Pp.join (L.take k)).toArray⟩) (fun _ i => L.length - (intOf i).toNat)
 case atStart => exact ⟨0, Nat.zero_le _, rfl, rfl⟩
 case round =>
  obtain ⟨k, hk, rfl, rfl⟩ := hrel
  by_cases hlt : k < L.length
  · have hce := HC.out k hlt
    have b1 := Pp.join_take_le L k
    have b2 := Pp.join_take_le L (k + 1)
    have b3 := Pp.mem_join_len L k hlt
    by_cases hk0 : 0 < k
    · have HJ : Hid ((⟨(Pp.join (L.take k)).toArray⟩ : ByteArray) ++ ⟨#[47]⟩ ++ ⟨(L[k]).toArray⟩ = ⟨(Pp.join (L.take (k + 1))).toArray⟩) := Pp.join_step L k hlt hk0
      have hk1 : 0 < (k : Int) := by omega
      go_wp2
      go_round
      case rel => exact ⟨k + 1, by omega, by go_num, by rw [← HJ.out]⟩
      case measure => simp [intOf]; omega
    · obtain rfl : k = 0 := by omega
      have HJ : Hid ((⟨#[]⟩ : ByteArray) ++ ⟨(L[0]).toArray⟩ = ⟨(Pp.join (L.take 1)).toArray⟩) := Pp.join_first L hlt
      have hce0 : w.cell? ⟨g, o, none⟩ = some (.string ⟨(L[0]).toArray⟩) := hce
      have b4 : (Pp.join []).length = 0 := rfl
      clear hce
      go_wp2
      go_round
      case rel => exact ⟨0 + 1, by omega, by go_num, by rw [← HJ.out]; rfl⟩
      case measure => simp [intOf]; omega
  · go_wp2
    go_ret
    exact ⟨by rw [List.take_of_length_le (by omega)]; rfl, rfl⟩

set_option maxHeartbeats 400000 in
theorem parentOf_any (s : ByteArray) (w : World) (hs : s.size ≤ 1000000000) :
    Calls Tryz.prog 117 #[.string s] w fun e w' => e = .returned (.string ⟨(Pp.par s.data.toList).toArray⟩) ∧ Below w.heap.size w w' := by
 have hn : (Pp.nm s.data.toList).length ≤ s.size + 1 := by have := Pp.nm_len_le s.data.toList; rwa [← Lib.size_eq] at this
 have hp := Pp.len_par s.data.toList
 rw [← Lib.size_eq] at hp
 have h1 : 1 ≤ (Pp.nm s.data.toList).length := Nat.pos_of_ne_zero (fun e => Pp.nm_ne _ (List.length_eq_zero_iff.1 e))
 have HP : Hid (Pp.join (Pp.nm s.data.toList).dropLast = Pp.par s.data.toList) := rfl
 have HD := hid (show ∀ i (h : i < (Pp.nm s.data.toList).dropLast.length) (h2 : i < (Pp.nm s.data.toList).length), (Pp.nm s.data.toList).dropLast[i] = (Pp.nm s.data.toList)[i] from fun i h h2 => List.getElem_dropLast h)
 have HL : Hid ((Pp.nm s.data.toList).dropLast.length = (Pp.nm s.data.toList).length - 1) := List.length_dropLast
 go_enter Tryz.func117, Tryz.ntmps117
 go_wp2_with fail
 refine (rNames_at s _ hs).mono ?_
 rintro e w1 ⟨g, cap, rfl, hc1, hc2, hg1, hg2, hcell, hb⟩
 have HC : Hid (∀ i (h : i < (Pp.nm s.data.toList).length), w1.cell? ⟨g, i, none⟩ = some (.string ⟨((Pp.nm s.data.toList)[i]).toArray⟩)) := hcell
 clear hcell
 go_wp2_with fail
 rw [← HL.out]
 refine (pathOf_any (Pp.nm s.data.toList).dropLast g 0 cap _ (by rw [HP.out]; omega) (by rw [HL.out]; omega) (fun i h => ?_)).mono ?_
 · have h2 : i < (Pp.nm s.data.toList).length := by rw [HL.out] at h; omega
   rw [Nat.zero_add, HD.out i h h2]
   exact HC.out i h2
 rintro e w2 ⟨rfl, rfl⟩
 rw [HP.out, HL.out]
 go_wp2
 go_ret
 exact ⟨rfl, hb⟩
end Go.Proofs.YtmdkecdhgjjceaaGreat
set_option linter.unusedSimpArgs false
set_option linter.unusedVariables false
namespace Go.Proofs.YtmdkecdhgjjceaaGreat
open Go.RowKit

set_option maxHeartbeats 800000 in
theorem isFolder_any (L : List En) (v : Value) (q : ByteArray) (w : World) (hv : Lies w v L) :
    Calls Tryz.prog 116 #[v, .string q] w fun e w' => e = .returned (.int .i64 (Pp.foldE L q.data.toList)) ∧ Below w.heap.size w w' := by
 have HV : Hid (Lies w v L) := hv
 cases hc : q.toList.isEmpty with
 | true =>
  have HE := hid (show 0 = Pp.foldE L q.data.toList from by rw [Pp.foldE, if_pos ((Pp.empty_iff q).1 hc)])
  clear hv
  go_enter Tryz.func116, Tryz.ntmps116
  go_wp2
  go_ret
  exact ⟨Pp.ret_int HE.out, Below.refl _ _⟩
 | false =>
  have hne := Pp.not_empty hc
  rcases Pp.idx_cases L q.data.toList with ⟨hi, hf⟩ | ⟨k, hk, hi, hf⟩
  · have HI : Hid (Pp.idx L q.data.toList = -1) := hi
    have HE := hid (show 5 = Pp.foldE L q.data.toList from by rw [Pp.foldE, if_neg hne, hf])
    clear hf hne hi hv
    go_enter Tryz.func116, Tryz.ntmps116
    go_wp2_with fail
    refine (entryAt_any L v q _ HV.out).mono ?_
    rintro e w1 ⟨rfl, hb1⟩
    rw [HI.out]
    go_wp2_with fail
    go_ret
    exact ⟨Pp.ret_int HE.out, hb1⟩
  · have HI : Hid (Pp.idx L q.data.toList = (k : Int)) := hi
    have hE : Pp.foldE L q.data.toList = if (L[k]).folder = true then 0 else 4 := by rw [Pp.foldE, if_neg hne, hf]
    obtain ⟨a, cap, rfl, hcap, hcap2, hL⟩ := hv
    obtain ⟨b, o, rfl, hb, he⟩ := hL k hk
    have hkk : (k : Int) < L.length := by omega
    clear hf hne hi hL
    cases hx : (L[k]).folder with
    | true =>
     have HE := hid (show 0 = Pp.foldE L q.data.toList from by rw [hE, hx]; rfl)
     clear hE
     go_enter Tryz.func116, Tryz.ntmps116
     go_wp2_with fail
     refine (entryAt_any L _ q _ HV.out).mono ?_
     rintro e w1 ⟨rfl, hb1⟩
     rw [HI.out]
     obtain ⟨c0, c1, c2, c3⟩ := he.below hb hb1
     rw [hx] at c1
     clear hx
     go_wp2_with fail
     go_ret
     exact ⟨Pp.ret_int HE.out, hb1⟩
    | false =>
     have HE := hid (show 4 = Pp.foldE L q.data.toList from by rw [hE, hx]; rfl)
     clear hE
     go_enter Tryz.func116, Tryz.ntmps116
     go_wp2_with fail
     refine (entryAt_any L _ q _ HV.out).mono ?_
     rintro e w1 ⟨rfl, hb1⟩
     rw [HI.out]
     obtain ⟨c0, c1, c2, c3⟩ := he.below hb hb1
     rw [hx] at c1
     clear hx
     go_wp2_with fail
     go_ret
     exact ⟨Pp.ret_int HE.out, hb1⟩
end Go.Proofs.YtmdkecdhgjjceaaGreat
set_option linter.unusedSimpArgs false
set_option linter.unusedVariables false
namespace Go.Proofs.YtmdkecdhgjjceaaGreat
open Go.RowKit

namespace Pp
theorem pre_short {A B : List (List UInt8)} (h : A.length < B.length) : false = B.isPrefixOf A := by
 symm
 cases e : B.isPrefixOf A with
 | false => rfl
 | true => have := (List.isPrefixOf_iff_prefix.1 e).length_le; omega
theorem pre_no {A B : List (List UInt8)} {k : Nat} (hA : k < A.length) (hB : k < B.length) (h : ¬ A[k] = B[k]) : false = B.isPrefixOf A := by
 symm
 cases e : B.isPrefixOf A with
 | false => rfl
 | true =>
  obtain ⟨t, ht⟩ := List.isPrefixOf_iff_prefix.1 e
  subst ht
  exact absurd (by simp [List.getElem_append_left hB]) h
theorem pre_yes {A B : List (List UInt8)} (h : A.take B.length = B) : true = B.isPrefixOf A := by
 symm
 rw [List.isPrefixOf_iff_prefix]
 have := List.take_prefix B.length A
 rwa [h] at this
end Pp

set_option maxHeartbeats 800000 in
theorem isIn_any (s t : ByteArray) (w : World) (hs : s.size ≤ 1000000000) (ht : t.size ≤ 1000000000) :
    Calls Tryz.prog 139 #[.string s, .string t] w fun e w' => e = .returned (.bool (Pp.isInB s.data.toList t.data.toList)) ∧ Below w.heap.size w w' := by
 have hn1 : (Pp.nm s.data.toList).length ≤ s.size + 1 := by have := Pp.nm_len_le s.data.toList; rwa [← Lib.size_eq] at this
 have hn2 : (Pp.nm t.data.toList).length ≤ t.size + 1 := by have := Pp.nm_len_le t.data.toList; rwa [← Lib.size_eq] at this
 obtain ⟨A, hA⟩ : ∃ L, L = Pp.nm s.data.toList := ⟨_, rfl⟩
 obtain ⟨B, hB⟩ : ∃ L, L = Pp.nm t.data.toList := ⟨_, rfl⟩
 have HA : Hid (A = Pp.nm s.data.toList) := hA
 have HB : Hid (B = Pp.nm t.data.toList) := hB
 have HI := hid (show Pp.isInB s.data.toList t.data.toList = B.isPrefixOf A from by rw [Pp.isInB, hA, hB])
 rw [← hA] at hn1
 rw [← hB] at hn2
 clear hA hB
 go_enter Tryz.func139, Tryz.ntmps139
 go_wp2_with fail
 refine (rNames_at s _ hs).mono ?_
 rintro e w1 ⟨g1, c1, rfl, hc1, hc1', hg1, hg1', hcell1, hb1⟩
 rw [← HA.out] at hc1 hcell1 ⊢
 go_wp2_with fail
 refine (rNames_at t _ ht).mono ?_
 rintro e w2 ⟨g2, c2, rfl, hc2, hc2', hg2, hg2', hcell2, hb2⟩
 rw [← HB.out] at hc2 hcell2 ⊢
 have HC1 := hid (show ∀ i (h : i < A.length), w2.cell? ⟨g1, i, none⟩ = some (.string ⟨(A[i]).toArray⟩) from fun i h => (hb2.cell (p := ⟨g1, i, none⟩) hg1').trans (hcell1 i h))
 have HC2 : Hid (∀ i (h : i < B.length), w2.cell? ⟨g2, i, none⟩ = some (.string ⟨(B[i]).toArray⟩)) := hcell2
 have hb : Below w.heap.size w w2 := below_trans hb1 hb2
 clear hcell1 hcell2 hb1 hb2
 by_cases hlen : A.length < B.length
 · have hl2 : (A.length : Int) < B.length := by omega
   go_wp2
   go_ret
   exact ⟨Pp.ret_bool (by rw [HI.out]; exact Pp.pre_short hlen), hb⟩
 · have hl2 : (B.length : Int) ≤ A.length := by omega
   go_wp2_with fail
   go_loopw [7] (fun i wr => ∃ k : Nat, k ≤ B.length ∧ i = .int .i64 k ∧ Hid (A.take k = B.take k) ∧ Below w2.heap.size w2 wr) (fun i _ => B.length - (intOf i).toNat)
   case atStart => exact ⟨0, Nat.zero_le _, rfl, rfl, Below.refl _ _⟩
   case round =>
    obtain ⟨k, hk, rfl, HE, hbel⟩ := hrel
    by_cases hlt : k < B.length
    · have hltA : k < A.length := by omega
      have hce1 : wr.cell? ⟨g1, k, none⟩ = some (.string ⟨(A[k]).toArray⟩) := (hbel.cell (p := ⟨g1, k, none⟩) (show g1 < w2.heap.size by omega)).trans (HC1.out k hltA)
      have hce2 : wr.cell? ⟨g2, k, none⟩ = some (.string ⟨(B[k]).toArray⟩) := (hbel.cell (p := ⟨g2, k, none⟩) hg2').trans (HC2.out k hlt)
      cases heq : (A[k] == B[k]) with
      | true =>
       have HQ := hid (show A[k] = B[k] from by simpa using heq)
       go_wp2_with fail
       go_region
       go_wp2
       go_roundw
       case rel => exact ⟨k + 1, by omega, by simp, (by rw [List.take_succ_eq_append_getElem hltA, List.take_succ_eq_append_getElem hlt, HE.out, HQ.out] : A.take (k + 1) = B.take (k + 1)), hbel.drew⟩
       case measure => simp [intOf]; omega
      | false =>
       have HQ := hid (show ¬ A[k] = B[k] from by simpa using heq)
       go_wp2_with fail
       go_region
       go_wp2
       go_ret
       exact ⟨Pp.ret_bool (by rw [HI.out]; exact Pp.pre_no hltA hlt HQ.out), (below_trans hb hbel).drew⟩
    · go_wp2_with fail
      go_ret
      exact ⟨Pp.ret_bool (by rw [HI.out]; obtain rfl : k = B.length := (by omega); exact Pp.pre_yes (by have := HE.out; rwa [List.take_length] at this)), below_trans hb hbel⟩

end Go.Proofs.YtmdkecdhgjjceaaGreat
