/- Keys: what word.inKeys and word.Key answer, for every byte and every text. Journals as plain mathematics: commits, what Check answers, the tree that comes, what Commit, Read and Follow answer. Boxes of some cells in memory, and what is stored in them; what lies elsewhere stays. Small things of trees. Commit of a journal as plain mathematics. Pages in memory. -/
import Derived.Test.YtchlgpeiombmdaaGreatProg
import Derived.WalkKit
import Derived.WalkSpells
import Derived.WalkLawsBesides
import Derived.Handy
import Derived.Test.YtchlgpeiombmdaaGreatMA
import Derived.Maps.OwnSet
import Derived.StringKeys
set_option linter.unusedSimpArgs false
set_option linter.unusedVariables false
namespace Go.Proofs.YtchlgpeiombmdaaGreat
open Go.RowKit

namespace Pp
theorem retB {a b : Bool} (h : a = b) : Ending.returned (.bool a) = .returned (.bool b) := by rw [h]
def okK (c : UInt8) : Bool := decide (97 ≤ (c.toNat : Int) ∧ (c.toNat : Int) ≤ 122 ∨ 65 ≤ (c.toNat : Int) ∧ (c.toNat : Int) ≤ 90 ∨ 48 ≤ (c.toNat : Int) ∧ (c.toNat : Int) ≤ 57 ∨ (c.toNat : Int) = 45)
def keyB (l : List UInt8) : Bool := decide (1 ≤ l.length) && decide (l.length ≤ 20) && l.all okK
def keyE (l : List UInt8) : Int := if keyB l = true then 0 else 1
theorem keyE_yes {l : List UInt8} (h : keyB l = true) : keyE l = 0 := if_pos h
theorem keyE_no {l : List UInt8} (h : keyB l = false) : keyE l = 1 := if_neg (by rw [h]; decide)
theorem keyB_short {l : List UInt8} (h : l.length < 1) : keyB l = false := by simp [keyB]; omega
theorem keyB_long {l : List UInt8} (h : 20 < l.length) : keyB l = false := by simp [keyB]; omega
theorem keyB_bad {l : List UInt8} {k : Nat} (hk : k < l.length) (h : okK l[k] = false) : keyB l = false := by
 have : l.all okK = false := by
  rw [List.all_eq_false]
  exact ⟨l[k], List.getElem_mem hk, by simp [h]⟩
 simp [keyB, this]
theorem keyB_ok {l : List UInt8} (h1 : ¬ l.length < 1) (h2 : ¬ 20 < l.length) (h : l.all okK = true) : keyB l = true := by
 simp only [keyB, h, Bool.and_true, Bool.and_eq_true, decide_eq_true_eq]; omega
theorem all_take {l : List UInt8} {f : UInt8 → Bool} {k : Nat} (hk : k < l.length) (h : (l.take k).all f = true) (hf : f l[k] = true) : (l.take (k + 1)).all f = true := by
 rw [List.take_succ_eq_append_getElem hk, List.all_append, h]; simp [hf]
theorem okK_yes {c : UInt8} (h : 97 ≤ (c.toNat : Int) ∧ (c.toNat : Int) ≤ 122 ∨ 65 ≤ (c.toNat : Int) ∧ (c.toNat : Int) ≤ 90 ∨ 48 ≤ (c.toNat : Int) ∧ (c.toNat : Int) ≤ 57) : true = okK c := by
 rw [okK, eq_comm, decide_eq_true_eq]; omega
theorem okK_last {c : UInt8} (h : ¬ (97 ≤ (c.toNat : Int) ∧ (c.toNat : Int) ≤ 122 ∨ 65 ≤ (c.toNat : Int) ∧ (c.toNat : Int) ≤ 90 ∨ 48 ≤ (c.toNat : Int) ∧ (c.toNat : Int) ≤ 57)) : ((c.toNat : Int) == 45) = okK c := by
 rw [okK, Bool.eq_iff_iff, beq_iff_eq, decide_eq_true_eq]; omega
end Pp

set_option maxHeartbeats 400000 in
theorem inKeys_any (c : UInt8) (w : World) :
    Calls Tryz.prog 149 #[.int .u8 (c.toNat : Int)] w fun e w' => e = .returned (.bool (Pp.okK c)) ∧ w' = w := by
 go_enter Tryz.func149, Tryz.ntmps149
 go_wp2
 all_goals go_ret
 all_goals first
  | exact ⟨Pp.retB (Pp.okK_yes (by omega)), rfl⟩
  | exact ⟨Pp.retB (Pp.okK_last (by omega)), rfl⟩
set_option maxHeartbeats 800000 in
theorem key_any (s : ByteArray) (w : World) (hs : s.size ≤ maxLen) :
    Calls Tryz.prog 121 #[.string s] w fun e w' => e = .returned (.int .i64 (Pp.keyE s.data.toList)) ∧ w' = w := by
 unfold maxLen at hs
 have hz : s.data.toList.length = s.size := Array.length_toList
 by_cases c1 : (s.size : Int) < 1
 · rw [Pp.keyE_no (Pp.keyB_short (by omega))]
   go_enter Tryz.func121, Tryz.ntmps121
   go_wp2_with fail
   go_ret
   exact ⟨rfl, rfl⟩
 by_cases c2 : 20 < (s.size : Int)
 · rw [Pp.keyE_no (Pp.keyB_long (by omega))]
   go_enter Tryz.func121, Tryz.ntmps121
   go_wp2_with fail
   go_ret
   exact ⟨rfl, rfl⟩
 have HZ : Hid (s.data.toList.length = s.size) := hz
 have HY : Hid (s.data.toList.all Pp.okK = true → Pp.keyE s.data.toList = 0) := fun h => Pp.keyE_yes (Pp.keyB_ok (by omega) (by omega) h)
 clear hz
 go_enter Tryz.func121, Tryz.ntmps121
 go_wp2_with fail
 go_loop [14] (fun i => ∃ k : Nat, k ≤ s.size ∧ i = .int .i64 k ∧ (s.data.toList.take k).all Pp.okK = true) (fun i => s.size - (intOf i).toNat)
 case atStart => exact ⟨0, Nat.zero_le _, rfl, by simp⟩
 case round =>
  obtain ⟨k, hk, rfl, hall⟩ := hrel
  have HA : Hid ((s.data.toList.take k).all Pp.okK = true) := hall
  clear hall
  by_cases hlt : k < s.size
  · cases ho : Pp.okK s[k] with
    | true =>
     have HN : Hid ((s.data.toList.take (k + 1)).all Pp.okK = true) := Pp.all_take (by rw [HZ.out]; exact hlt) HA.out ho
     go_wp2_with (go_at_call 149; refine (inKeys_any _ _).mono ?_; rintro e w' ⟨rfl, rfl⟩)
     go_round
     case rel => exact ⟨k + 1, by omega, by go_num, HN.out⟩
     case measure => simp [intOf]; omega
    | false =>
     have HE : Hid (Pp.keyE s.data.toList = 1) := Pp.keyE_no (Pp.keyB_bad (by rw [HZ.out]; exact hlt) ho)
     go_wp2_with (go_at_call 149; refine (inKeys_any _ _).mono ?_; rintro e w' ⟨rfl, rfl⟩)
     go_ret
     exact ⟨by rw [HE.out]; rfl, rfl⟩
  · have HE2 : Hid (Pp.keyE s.data.toList = 0) := HY.out (by have := HA.out; rwa [List.take_of_length_le (by rw [HZ.out]; omega)] at this)
    go_wp2_with fail
    go_ret
    exact ⟨by rw [HE2.out]; rfl, rfl⟩
end Go.Proofs.YtchlgpeiombmdaaGreat
set_option linter.unusedSimpArgs false
set_option linter.unusedVariables false
namespace Go.Proofs.YtchlgpeiombmdaaGreat
open Go.RowKit

/-- A commit: its number, its key, its changes. -/
structure Co where
 nu : Int
 ke : ByteArray
 ch : List Pp.Ch
/-- A journal: the tree ahead of its first commit, that one's number, its commits. -/
structure Jo where
 base : List En
 first : Int
 cos : List Co
def CoAt (w : World) (b o : Nat) (c : Co) : Prop := w.cell? ⟨b, o, none⟩ = some (.int .i64 c.nu) ∧ w.cell? ⟨b, o + 1, none⟩ = some (.string c.ke) ∧ ∃ u, w.cell? ⟨b, o + 2, none⟩ = some u ∧ LiesC w u c.ch
def LiesO (w : World) (v : Value) (l : List Co) : Prop := ∃ a cap, v = .slice a l.length cap ∧ l.length ≤ cap ∧ l.length ≤ 1000000000000000 ∧ ∀ i (h : i < l.length), ∃ b o, a = some ⟨b, o, none⟩ ∧ b < w.heap.size ∧ CoAt w b (o + i * 3) l[i]
def LiesJ (w : World) (v : Value) (J : Jo) : Prop := ∃ vb vc, v = .agg #[vb, .int .i64 J.first, vc] ∧ Lies w vb J.base ∧ LiesO w vc J.cos
theorem CoAt.below {w w' : World} {b o : Nat} {c : Co} (h : CoAt w b o c) (hb : b < w.heap.size) (hw : Below w.heap.size w w') : CoAt w' b o c := by
 obtain ⟨h0, h1, u, h2, h3⟩ := h
 exact ⟨(hw.cell (p := ⟨b, o, none⟩) hb).trans h0, (hw.cell (p := ⟨b, o + 1, none⟩) hb).trans h1, u, (hw.cell (p := ⟨b, o + 2, none⟩) hb).trans h2, h3.below hw⟩
theorem LiesO.below {w w' : World} {v : Value} {l : List Co} (h : LiesO w v l) (hw : Below w.heap.size w w') : LiesO w' v l := by
 obtain ⟨a, cap, hv, h1, h2, h3⟩ := h
 refine ⟨a, cap, hv, h1, h2, fun i hi => ?_⟩
 obtain ⟨b, o, ha, hb, he⟩ := h3 i hi
 exact ⟨b, o, ha, Nat.lt_of_lt_of_le hb hw.size, he.below hb hw⟩
theorem LiesJ.below {w w' : World} {v : Value} {J : Jo} (h : LiesJ w v J) (hw : Below w.heap.size w w') : LiesJ w' v J := by
 obtain ⟨vb, vc, rfl, h1, h2⟩ := h
 exact ⟨vb, vc, rfl, h1.below hw, h2.below hw⟩
theorem liesO_nil (w : World) : LiesO w (.slice none 0 0) [] := ⟨none, 0, rfl, Nat.le_refl _, by decide, fun i h => absurd h (by simp)⟩
def SizedO (B : Nat) (l : List Co) : Prop := ∀ c ∈ l, c.ke.size ≤ B ∧ SizedC B c.ch
theorem SizedO.mono {B B' : Nat} {l : List Co} (h : SizedO B l) (hb : B ≤ B') : SizedO B' l := fun c hc => ⟨Nat.le_trans (h c hc).1 hb, fun x hx => ⟨Nat.le_trans ((h c hc).2 x hx).1 hb, Nat.le_trans ((h c hc).2 x hx).2.1 hb, Nat.le_trans ((h c hc).2 x hx).2.2 hb⟩⟩
namespace Jn
/-- Of one commit, but for its changes: its number must be this one. -/
def coE (c : Co) (n : Int) : Int := if ¬ c.nu = n then 4 else if 1000000 < n then 3 else if ¬ Pp.keyB c.ke.data.toList = true then 1 else if c.ch = [] then 1 else 0
/-- Commit by commit. -/
def runJ : Int → List En → List Co → Int × List En
 | _, T, [] => (0, T)
 | n, T, c :: r => if ¬ coE c n = 0 then (coE c n, []) else if ¬ Pp.allE T c.ch c.nu = 0 then (Pp.allE T c.ch c.nu, []) else runJ (n + 1) (Pp.allR T c.ch c.nu) r
def Apart (l : List Co) : Prop := l.Pairwise (fun x y => x.ke.data.toList ≠ y.ke.data.toList)
instance (l : List Co) : Decidable (Apart l) := by unfold Apart; infer_instance
def chkE (J : Jo) : Int := if ¬ Pp.treeE J.base = 0 then Pp.treeE J.base else if ¬ Pp.verE J.first = 0 then 3 else if 30 < J.cos.length then 2 else
 if ¬ (runJ J.first J.base J.cos).1 = 0 then (runJ J.first J.base J.cos).1 else if ¬ Apart J.cos then 6 else 0
def tree (J : Jo) : List En := (runJ J.first J.base J.cos).2
def last (J : Jo) : Int := J.first - 1 + J.cos.length
/-- What is left to do behind the first commits. -/
def LeftJ (J : Jo) (S : List En) (k : Nat) : Prop := runJ J.first J.base J.cos = runJ (J.first + k) S (J.cos.drop k)
theorem left_zero (J : Jo) : LeftJ J J.base 0 := by rw [LeftJ]; simp
theorem left_step {J : Jo} {S : List En} {k : Nat} (h : LeftJ J S k) (hk : k < J.cos.length) : runJ J.first J.base J.cos = if ¬ coE J.cos[k] (J.first + k) = 0 then (coE J.cos[k] (J.first + k), []) else if ¬ Pp.allE S J.cos[k].ch J.cos[k].nu = 0 then (Pp.allE S J.cos[k].ch J.cos[k].nu, []) else runJ (J.first + (k + 1 : Nat)) (Pp.allR S J.cos[k].ch J.cos[k].nu) (J.cos.drop (k + 1)) := by
 rw [LeftJ, List.drop_eq_getElem_cons hk, runJ] at h
 rw [h, show J.first + (k : Int) + 1 = J.first + ((k + 1 : Nat) : Int) by omega]
theorem left_bad {J : Jo} {S : List En} {k : Nat} (h : LeftJ J S k) (hk : k < J.cos.length) (h0 : ¬ coE J.cos[k] (J.first + k) = 0) : runJ J.first J.base J.cos = (coE J.cos[k] (J.first + k), []) := by
 rw [left_step h hk, if_pos h0]
theorem left_all {J : Jo} {S : List En} {k : Nat} (h : LeftJ J S k) (hk : k < J.cos.length) (h0 : coE J.cos[k] (J.first + k) = 0) (h1 : ¬ Pp.allE S J.cos[k].ch J.cos[k].nu = 0) : runJ J.first J.base J.cos = (Pp.allE S J.cos[k].ch J.cos[k].nu, []) := by
 rw [left_step h hk, if_neg (fun x => x h0), if_pos h1]
theorem left_next {J : Jo} {S : List En} {k : Nat} (h : LeftJ J S k) (hk : k < J.cos.length) (h0 : coE J.cos[k] (J.first + k) = 0) (h1 : Pp.allE S J.cos[k].ch J.cos[k].nu = 0) : LeftJ J (Pp.allR S J.cos[k].ch J.cos[k].nu) (k + 1) := by
 rw [LeftJ, left_step h hk, if_neg (fun x => x h0), if_neg (fun x => x h1)]
theorem left_end {J : Jo} {S : List En} (h : LeftJ J S J.cos.length) : runJ J.first J.base J.cos = (0, S) := by
 rw [LeftJ, List.drop_length, runJ] at h
 exact h
theorem ver_iff {n : Int} : Pp.verE n = 0 ↔ 1 ≤ n ∧ n ≤ 1000000 := by
 unfold Pp.verE
 split
 · exact ⟨(fun h => by cases h), fun h => by omega⟩
 · exact ⟨fun _ => by omega, fun _ => rfl⟩
theorem chk_tree {J : Jo} (h : ¬ Pp.treeE J.base = 0) : chkE J = Pp.treeE J.base := by rw [chkE, if_pos h]
theorem chk_first {J : Jo} (h : Pp.treeE J.base = 0) (h1 : ¬ Pp.verE J.first = 0) : chkE J = 3 := by rw [chkE, if_neg (fun x => x h), if_pos h1]
theorem chk_many {J : Jo} (h : Pp.treeE J.base = 0) (h1 : Pp.verE J.first = 0) (h2 : 30 < J.cos.length) : chkE J = 2 := by rw [chkE, if_neg (fun x => x h), if_neg (fun x => x h1), if_pos h2]
theorem chk_run {J : Jo} (h : Pp.treeE J.base = 0) (h1 : Pp.verE J.first = 0) (h2 : ¬ 30 < J.cos.length) {e : Int} {T : List En} (hr : runJ J.first J.base J.cos = (e, T)) (he : ¬ e = 0) : chkE J = e := by
 rw [chkE, if_neg (fun x => x h), if_neg (fun x => x h1), if_neg h2, hr, if_pos he]
theorem chk_twice {J : Jo} (h : Pp.treeE J.base = 0) (h1 : Pp.verE J.first = 0) (h2 : ¬ 30 < J.cos.length) {T : List En} (hr : runJ J.first J.base J.cos = (0, T)) (ha : ¬ Apart J.cos) : chkE J = 6 := by
 rw [chkE, if_neg (fun x => x h), if_neg (fun x => x h1), if_neg h2, hr, if_neg (fun x => x rfl), if_pos ha]
theorem chk_ok {J : Jo} (h : Pp.treeE J.base = 0) (h1 : Pp.verE J.first = 0) (h2 : ¬ 30 < J.cos.length) {T : List En} (hr : runJ J.first J.base J.cos = (0, T)) (ha : Apart J.cos) : chkE J = 0 := by
 rw [chkE, if_neg (fun x => x h), if_neg (fun x => x h1), if_neg h2, hr, if_neg (fun x => x rfl), if_neg (fun x => x ha)]
theorem tree_of {J : Jo} {T : List En} (hr : runJ J.first J.base J.cos = (0, T)) : tree J = T := by rw [tree, hr]
/-- What it takes to pass Check. -/
theorem chk_parts {J : Jo} (h : chkE J = 0) : Pp.treeE J.base = 0 ∧ Pp.verE J.first = 0 ∧ ¬ 30 < J.cos.length ∧ runJ J.first J.base J.cos = (0, tree J) ∧ Apart J.cos := by
 by_cases h1 : Pp.treeE J.base = 0
 · by_cases h2 : Pp.verE J.first = 0
   · by_cases h3 : 30 < J.cos.length
     · rw [chk_many h1 h2 h3] at h; cases h
     · rcases hr : runJ J.first J.base J.cos with ⟨e, T⟩
       by_cases he : e = 0
       · subst he
         by_cases ha : Apart J.cos
         · exact ⟨h1, h2, h3, by rw [tree_of hr], ha⟩
         · rw [chk_twice h1 h2 h3 hr ha] at h; cases h
       · rw [chk_run h1 h2 h3 hr he] at h; exact absurd h he
   · rw [chk_first h1 h2] at h; cases h
 · rw [chk_tree h1] at h; exact absurd h h1
theorem all_good {T : List En} {cs : List Pp.Ch} {n : Int} (h : Pp.allE T cs n = 0) : Pp.Good (Pp.allR T cs n) := by
 have ht : Pp.treeE T = 0 := by
  by_cases ht : Pp.treeE T = 0
  · exact ht
  · rw [(Pp.all_no ht cs n).1] at h; exact absurd h ht
 have hm : ¬ 20 < cs.length := fun hm => by rw [(Pp.all_many ht hm n).1] at h; cases h
 have hr := Pp.all_run ht hm (n := n) (k := (Pp.runF n T cs).1) (e := (Pp.runF n T cs).2.1) (R := (Pp.runF n T cs).2.2) rfl
 rw [hr.1] at h
 rw [hr.2.2]
 have hT := (Pp.good_iff T).1 ht
 clear hr ht hm
 induction cs generalizing T with
 | nil => exact hT
 | cons c r ih =>
  rw [Pp.runF] at h ⊢
  by_cases h0 : Pp.appE T c n = 0
  · rw [if_pos h0] at h ⊢
    exact ih h (Pp.app_good hT h0)
  · rw [if_neg h0] at h
    exact absurd h h0
theorem run_good : ∀ {n : Int} {T : List En} {l : List Co}, Pp.Good T → (runJ n T l).1 = 0 → Pp.Good (runJ n T l).2
 | n, T, [], hT, _ => hT
 | n, T, c :: r, hT, h => by
  rw [runJ] at h ⊢
  by_cases h0 : coE c n = 0
  · rw [if_neg (fun x => x h0)] at h ⊢
    by_cases h1 : Pp.allE T c.ch c.nu = 0
    · rw [if_neg (fun x => x h1)] at h ⊢
      exact run_good (all_good h1) h
    · rw [if_pos h1] at h; exact absurd h h1
  · rw [if_pos h0] at h; exact absurd h h0
theorem tree_good {J : Jo} (h : chkE J = 0) : Pp.Good (tree J) := by
 obtain ⟨h1, _, _, h4, _⟩ := chk_parts h
 have := run_good (n := J.first) (l := J.cos) ((Pp.good_iff _).1 h1) (by rw [h4])
 rwa [h4] at this
/-- The tree behind the first k commits. -/
def trAt (J : Jo) (k : Nat) : List En := (J.cos.take k).foldl (fun T c => Pp.allR T c.ch c.nu) J.base
theorem trAt_zero (J : Jo) : trAt J 0 = J.base := by simp [trAt]
theorem trAt_succ {J : Jo} {k : Nat} (hk : k < J.cos.length) : trAt J (k + 1) = Pp.allR (trAt J k) J.cos[k].ch J.cos[k].nu := by
 rw [trAt, List.take_succ_eq_append_getElem hk, List.foldl_append]; rfl
theorem run_tree : ∀ {n : Int} {T : List En} {l : List Co}, (runJ n T l).1 = 0 → (runJ n T l).2 = l.foldl (fun T c => Pp.allR T c.ch c.nu) T
 | n, T, [], _ => rfl
 | n, T, c :: r, h => by
  rw [runJ] at h ⊢
  by_cases h0 : coE c n = 0
  · rw [if_neg (fun x => x h0)] at h ⊢
    by_cases h1 : Pp.allE T c.ch c.nu = 0
    · rw [if_neg (fun x => x h1)] at h ⊢
      exact run_tree h
    · rw [if_pos h1] at h; exact absurd h h1
  · rw [if_pos h0] at h; exact absurd h h0
theorem tree_trAt {J : Jo} (h : chkE J = 0) : tree J = trAt J J.cos.length := by
 obtain ⟨_, _, _, h4, _⟩ := chk_parts h
 rw [trAt, List.take_length, tree, run_tree (by rw [h4])]
/-- No key of the first i commits is there twice; none of the first k is that of commit i. -/
def ApK (l : List Co) (i k : Nat) : Prop := ∀ x ∈ l.take k, ∀ y, l[i]? = some y → x.ke.data.toList ≠ y.ke.data.toList
theorem apK_zero (l : List Co) (i : Nat) : ApK l i 0 := fun x hx => by simp at hx
theorem apK_succ {l : List Co} {i k : Nat} (h : ApK l i k) (hk : k < l.length) (hi : i < l.length) (hne : l[k].ke.data.toList ≠ l[i].ke.data.toList) : ApK l i (k + 1) := by
 intro x hx y hy
 rw [List.take_succ_eq_append_getElem hk, List.mem_append, List.mem_singleton] at hx
 rcases hx with hx | rfl
 · exact h x hx y hy
 · rw [List.getElem?_eq_getElem hi] at hy
   injection hy with hy
   rw [← hy]; exact hne
theorem apart_succ {l : List Co} {i : Nat} (hi : i < l.length) (h : Apart (l.take i)) (hk : ApK l i i) : Apart (l.take (i + 1)) := by
 rw [List.take_succ_eq_append_getElem hi, Apart, List.pairwise_append]
 refine ⟨h, by simp, fun x hx y hy => ?_⟩
 rw [List.mem_singleton] at hy
 exact hk x hx y (by rw [hy]; exact List.getElem?_eq_getElem hi)
theorem not_apart {l : List Co} {i k : Nat} (hi : i < l.length) (hk : k < i) (he : l[k].ke.data.toList = l[i].ke.data.toList) : ¬ Apart l := fun h => (List.pairwise_iff_getElem.1 h k i (by omega) hi hk) he
/-! Numbers by keys. -/
def key (p : ByteArray) : Lit := .string p.data.toList
def num (n : Int) : DataW Unit := .lit (.int .i64 n)
def D (l : List Co) : DataW Unit := l.foldl (fun m c => m.put (key c.ke) (num c.nu)) (.map [])
theorem D_snoc (l : List Co) (c : Co) : D (l ++ [c]) = (D l).put (key c.ke) (num c.nu) := by simp [D]
theorem D_take {l : List Co} {k : Nat} (hk : k < l.length) : D (l.take (k + 1)) = (D (l.take k)).put (key l[k].ke) (num l[k].nu) := by
 rw [List.take_succ_eq_append_getElem hk, D_snoc]
theorem key_lit (p : ByteArray) : WideAt.IsKeyLit (key p) := by simp [key, WideAt.IsKeyLit]
theorem key_inj {p q : ByteArray} (h : key p = key q) : p.data.toList = q.data.toList := by simpa [key] using h
theorem D_tidy (l : List Co) : Maps.Tidy (D l) := by
 have : ∀ (l : List Co) (m : DataW Unit), Maps.Tidy m → Maps.Tidy (l.foldl (fun m c => m.put (key c.ke) (num c.nu)) m) := by
  intro l
  induction l with
  | nil => intro m h; exact h
  | cons c r ih => intro m h; exact ih _ (h.put (key_lit _) _)
 exact this l _ Maps.tidy_empty
def hasB (l : List Co) (p : List UInt8) : Bool := l.any (fun c => c.ke.data.toList == p)
theorem snoc_ind {α : Type} {P : List α → Prop} (h0 : P []) (h1 : ∀ L e, P L → P (L ++ [e])) (L : List α) : P L := by
 have h : ∀ R : List α, P R.reverse := fun R => by
  induction R with
  | nil => exact h0
  | cons a r ih => rw [List.reverse_cons]; exact h1 _ _ ih
 have h2 := h L.reverse
 rwa [List.reverse_reverse] at h2
theorem D_has (l : List Co) (p : ByteArray) : Maps.has (D l) (key p) = hasB l p.data.toList := by
 refine snoc_ind (P := fun l => Maps.has (D l) (key p) = hasB l p.data.toList) rfl ?_ l
 intro l c ih
 rw [D_snoc, hasB, List.any_append]
 by_cases hk : key p = key c.ke
 · rw [hk, Maps.has_put_same (D_tidy l).isMap (key_lit _)]
   simp [key_inj hk]
 · rw [Maps.has_put_other hk, ih, hasB]
   have hd : ¬ c.ke.data = p.data := fun h => hk (by rw [key, key, h])
   simp [hd]
theorem D_size (l : List Co) : Maps.size (D l) ≤ l.length ∧ (Maps.size (D l) = l.length ↔ Apart l) := by
 refine snoc_ind (P := fun l => Maps.size (D l) ≤ l.length ∧ (Maps.size (D l) = l.length ↔ Apart l)) ⟨Nat.le_refl _, ⟨fun _ => List.Pairwise.nil, fun _ => rfl⟩⟩ ?_ l
 intro l c ⟨ih1, ih2⟩
 rw [D_snoc, Maps.size_put (D_tidy l), D_has, List.length_append, Apart, List.pairwise_append]
 cases hb : hasB l c.ke.data.toList with
 | true =>
  rw [if_pos rfl]
  refine ⟨by omega, ⟨fun h => ?_, fun h => ?_⟩⟩
  · simp at h; omega
  · obtain ⟨x, hx, he⟩ := List.any_eq_true.1 hb
    exact absurd (by simpa using he) (h.2.2 x hx c (by simp))
 | false =>
  rw [if_neg (by simp)]
  refine ⟨by simp; omega, ⟨fun h => ?_, fun h => ?_⟩⟩
  · refine ⟨ih2.1 (by simp at h; omega), by simp, fun a ha b hbm => ?_⟩
    simp at hbm
    subst hbm
    intro he
    have := List.any_eq_false.1 hb a ha
    simp [he] at this
  · have := ih2.2 h.1
    simp; omega
def numOf (l : List Co) (p : List UInt8) : Int := match l.find? (fun c => c.ke.data.toList == p) with
 | some c => c.nu
 | none => 0
theorem D_at {l : List Co} (h : Apart l) (p : ByteArray) (z : Int) : hasB l p.data.toList = true → (D l).atKey (key p) (num z) = num (numOf l p.data.toList) := by
 revert h
 refine snoc_ind (P := fun l => Apart l → hasB l p.data.toList = true → (D l).atKey (key p) (num z) = num (numOf l p.data.toList)) (fun _ h => by cases h) ?_ l
 intro l c ih ha hb
 rw [Apart, List.pairwise_append] at ha
 rw [D_snoc]
 by_cases hk : key p = key c.ke
 · have hp := key_inj hk
   rw [hk, Maps.atKey_put_same (D_tidy l).isMap (key_lit _)]
   have hnone : l.find? (fun c => c.ke.data.toList == p.data.toList) = none := by
    rw [List.find?_eq_none]
    intro x hx hh
    exact ha.2.2 x hx c (by simp) (by simp at hh; rw [hh, hp])
   rw [numOf, List.find?_append, hnone]
   simp [hp]
 · rw [Maps.atKey_put_other hk]
   have hd : ¬ c.ke.data = p.data := fun h => hk (by rw [key, key, h])
   rw [hasB, List.any_append] at hb
   simp [hd] at hb
   rw [ih ha.1 (by rw [hasB, List.any_eq_true]; simpa using hb), numOf, numOf, List.find?_append]
   simp [hd]
end Jn
end Go.Proofs.YtchlgpeiombmdaaGreat
set_option linter.unusedSimpArgs false
set_option linter.unusedVariables false
namespace Go.Proofs.YtchlgpeiombmdaaGreat
open Go.RowKit Go.Maps

theorem heap_lt {W : World} {b : Nat} {o : Obj} (h : W.heap[b]? = some o) : b < W.heap.size := by
 rcases Nat.lt_or_ge b W.heap.size with h1 | h1
 · exact h1
 · rw [Array.getElem?_eq_none h1] at h; cases h
/-- A block that holds just these cells, and may be written. -/
def Cs (W : World) (b : Nat) (vs : List Value) : Prop := ∃ T, W.heap[b]? = some (.cells vs.toArray T (0, 0))
theorem Cs.lt {W : World} {b : Nat} {vs : List Value} (h : Cs W b vs) : b < W.heap.size := h.elim fun _ h => heap_lt h
theorem Cs.cell {W : World} {b : Nat} {vs : List Value} (h : Cs W b vs) (i : Nat) {v : Value} (hv : vs[i]? = some v) : W.cell? ⟨b, i, none⟩ = some v := by
 obtain ⟨T, h⟩ := h
 simp [World.cell?, h, hv]
theorem Cs.fr {W : World} {b : Nat} {vs : List Value} (h : Cs W b vs) (i : Nat) : W.frozen? ⟨b, i, none⟩ = false := by
 obtain ⟨T, h⟩ := h
 simp [World.frozen?, h]
theorem Cs.belowAt {W W' : World} {b B : Nat} {vs : List Value} (h : Cs W b vs) (hw : Below B W W') (hb : b < B) : Cs W' b vs := by
 obtain ⟨T, h⟩ := h
 exact ⟨T, (hw.block b hb).trans h⟩
theorem Cs.below {W W' : World} {b : Nat} {vs : List Value} (h : Cs W b vs) (hw : Below W.heap.size W W') : Cs W' b vs := h.belowAt hw h.lt
theorem Cs.nb {W W' : World} {b g : Nat} {vs : List Value} (h : Cs W b vs) (hw : W.grownBy W' (some g)) (hne : b ≠ g) : Cs W' b vs := by
 have hl := h.lt
 obtain ⟨T, h⟩ := h
 exact ⟨T, (hw.block b hl (fun e => hne (by injection e))).trans h⟩
theorem Cs.new (w : World) (vs : List Value) (T : TypeId) : Cs (w.alloc (.cells vs.toArray T)) w.heap.size vs := ⟨T, by show (w.heap.push _)[w.heap.size]? = _; simp⟩
theorem Cs.set {W : World} {b : Nat} {vs : List Value} (h : Cs W b vs) (i : Nat) (u : Value) : Cs (W.setCell ⟨b, i, none⟩ u) b (vs.set i u) := by
 obtain ⟨T, h⟩ := h
 refine ⟨T, ?_⟩
 unfold World.setCell
 simp only [Array.getElem?_modify, h, if_true, Option.map_some]
 simp
theorem nb_set (W : World) (b o : Nat) (u : Value) : W.grownBy (W.setCell ⟨b, o, none⟩ u) (some b) :=
 ⟨rfl, rfl, rfl, by simp, fun k _ hk => Below.heap_setCell W _ u k (fun e => hk (by rw [e]))⟩
theorem Cs.other {W : World} {b b' o : Nat} {vs : List Value} (h : Cs W b vs) (hne : b ≠ b') (u : Value) : Cs (W.setCell ⟨b', o, none⟩ u) b vs := h.nb (nb_set W b' o u) hne
/-- A block without texts. -/
def NoStr (W : World) (g : Nat) : Prop := ∀ o s, W.cell? ⟨g, o, none⟩ ≠ some (.string s)
theorem Cs.noStr {W : World} {b : Nat} {vs : List Value} (h : Cs W b vs) (hv : ∀ s, Value.string s ∉ vs) : NoStr W b := by
 obtain ⟨T, h⟩ := h
 intro o s
 simp only [World.cell?, h]
 intro he
 have : vs[o]? = some (.string s) := by simpa using he
 exact hv s (List.mem_of_getElem? this)
theorem noStr_map {W : World} {P : Program} {k : TypeId} {R : Value → Option (DataW Unit × List MemPlace)} {b n : Nat} {D : DataW Unit} (h : W.ownsMap P k R b n D) : NoStr W b := by
 obtain ⟨es, clock, hb, _⟩ := h
 intro o s
 simp [World.cell?, hb]
theorem EnAt.ne {W : World} {b o g : Nat} {e : En} (h : EnAt W b o e) (hn : NoStr W g) : b ≠ g := fun hb => hn o e.path (hb ▸ h.1)
theorem ChAt.ne {W : World} {b o g : Nat} {c : Pp.Ch} (h : ChAt W b o c) (hn : NoStr W g) : b ≠ g := fun hb => hn (o + 1) c.p (hb ▸ h.2.1)
theorem cell_nb {W W' : World} {g b : Nat} (hw : W.grownBy W' (some g)) (hb : b < W.heap.size) (hne : b ≠ g) (o : Nat) : W'.cell? ⟨b, o, none⟩ = W.cell? ⟨b, o, none⟩ :=
 World.cell?_of_block (w := W) (a := ⟨b, o, none⟩) (hw.block b hb (fun e => hne (by injection e)))
theorem Lies.nb {W W' : World} {v : Value} {L : List En} {g : Nat} (h : Lies W v L) (hw : W.grownBy W' (some g)) (hn : NoStr W g) : Lies W' v L := by
 obtain ⟨a, cap, hv, h1, h2, h3⟩ := h
 refine ⟨a, cap, hv, h1, h2, fun i hi => ?_⟩
 obtain ⟨b, o, ha, hb, he⟩ := h3 i hi
 have c := cell_nb hw hb (he.ne hn)
 exact ⟨b, o, ha, Nat.lt_of_lt_of_le hb hw.size, (c _).trans he.1, (c _).trans he.2.1, (c _).trans he.2.2.1, (c _).trans he.2.2.2⟩
theorem LiesC.nb {W W' : World} {v : Value} {L : List Pp.Ch} {g : Nat} (h : LiesC W v L) (hw : W.grownBy W' (some g)) (hn : NoStr W g) : LiesC W' v L := by
 obtain ⟨a, cap, hv, h1, h2, h3⟩ := h
 refine ⟨a, cap, hv, h1, h2, fun i hi => ?_⟩
 obtain ⟨b, o, ha, hb, he⟩ := h3 i hi
 have c := cell_nb hw hb (he.ne hn)
 exact ⟨b, o, ha, Nat.lt_of_lt_of_le hb hw.size, (c _).trans he.1, (c _).trans he.2.1, (c _).trans he.2.2.1, (c _).trans he.2.2.2.1, (c _).trans he.2.2.2.2⟩
/-- Grown, and written in two blocks alone. -/
structure Nb2 (w w' : World) (b m : Nat) : Prop where
 os : w'.os = w.os
 tape : w'.tape = w.tape
 output : w'.output = w.output
 size : w.heap.size ≤ w'.heap.size
 block : ∀ k, k < w.heap.size → k ≠ b → k ≠ m → w'.heap[k]? = w.heap[k]?
theorem Nb2.of_below {w w' : World} (b m : Nat) (h : Below w.heap.size w w') : Nb2 w w' b m := ⟨h.os, h.tape, h.output, h.size, fun k hk _ _ => h.block k hk⟩
theorem Nb2.of_left {w w' : World} {b : Nat} (m : Nat) (h : w.grownBy w' (some b)) : Nb2 w w' b m := ⟨h.os, h.tape, h.output, h.size, fun k hk hb _ => h.block k hk (fun e => hb (by injection e))⟩
theorem Nb2.of_right {w w' : World} {m : Nat} (b : Nat) (h : w.grownBy w' (some m)) : Nb2 w w' b m := ⟨h.os, h.tape, h.output, h.size, fun k hk _ hm => h.block k hk (fun e => hm (by injection e))⟩
theorem Nb2.trans {a c d : World} {b m : Nat} (h : Nb2 a c b m) (k : Nb2 c d b m) : Nb2 a d b m :=
 ⟨k.os.trans h.os, k.tape.trans h.tape, k.output.trans h.output, Nat.le_trans h.size k.size, fun q hq h1 h2 => (k.block q (Nat.lt_of_lt_of_le hq h.size) h1 h2).trans (h.block q hq h1 h2)⟩
theorem Nb2.to {w w' : World} {b m B : Nat} (h : Nb2 w w' b m) (hB : B ≤ w.heap.size) (h1 : B ≤ b) (h2 : B ≤ m) : Below B w w' := ⟨h.os, h.tape, h.output, h.size, fun k hk => h.block k (by omega) (by omega) (by omega)⟩
theorem Nb2.cell {w w' : World} {b m k : Nat} (h : Nb2 w w' b m) (hk : k < w.heap.size) (h1 : k ≠ b) (h2 : k ≠ m) (o : Nat) : w'.cell? ⟨k, o, none⟩ = w.cell? ⟨k, o, none⟩ := World.cell?_of_block (w := w) (a := ⟨k, o, none⟩) (h.block k hk h1 h2)
theorem Cs.nb2 {w w' : World} {b m k : Nat} {vs : List Value} (h : Cs w k vs) (hn : Nb2 w w' b m) (h1 : k ≠ b) (h2 : k ≠ m) : Cs w' k vs := by
 have hl := h.lt
 obtain ⟨T, h⟩ := h
 exact ⟨T, (hn.block k hl h1 h2).trans h⟩
end Go.Proofs.YtchlgpeiombmdaaGreat
set_option linter.unusedSimpArgs false
set_option linter.unusedVariables false
namespace Go.Proofs.YtchlgpeiombmdaaGreat
open Go.RowKit

theorem hid {p : Prop} (h : p) : Hid p := h
theorem lies_nil (w : World) : Lies w (.slice none 0 0) [] := ⟨none, 0, rfl, Nat.le_refl _, by simp, fun i hi => absurd hi (by simp)⟩
namespace Pp
theorem chk_len {l : List UInt8} (h : chk l = 0) : l.length ≤ 80 := by
 have h1 := chk_not_big h
 rw [big, Bool.or_eq_false_iff] at h1
 have := of_decide_eq_false h1.2
 omega
end Pp
end Go.Proofs.YtchlgpeiombmdaaGreat
set_option linter.unusedSimpArgs false
set_option linter.unusedVariables false
namespace Go.Proofs.YtchlgpeiombmdaaGreat
open Go.RowKit

namespace Jn
/-- A new commit, by a key that was not met, of a journal that passes Check: its error. -/
def newE (J : Jo) (l : List Pp.Ch) : Int := if l = [] then 1 else if 1000000 < last J + 1 then 3 else Pp.allE (tree J) l (last J + 1)
def newC (J : Jo) (key : ByteArray) (l : List Pp.Ch) : Co := ⟨last J + 1, key, l⟩
/-- The first one goes, if there are too many. -/
def cutJ (J : Jo) : Jo := if 30 < J.cos.length then (match J.cos with | [] => J | c :: r => ⟨Pp.allR J.base c.ch J.first, J.first + 1, r⟩) else J
def addJ (J : Jo) (key : ByteArray) (l : List Pp.Ch) : Jo := cutJ ⟨J.base, J.first, J.cos ++ [newC J key l]⟩
def comE (J : Jo) (key : ByteArray) (l : List Pp.Ch) : Int := if ¬ chkE J = 0 then chkE J else if ¬ Pp.keyB key.data.toList = true then 1 else if hasB J.cos key.data.toList = true then 0 else newE J l
def comN (J : Jo) (key : ByteArray) (l : List Pp.Ch) : Int := if ¬ comE J key l = 0 then 0 else if hasB J.cos key.data.toList = true then numOf J.cos key.data.toList else last J + 1
def zeroJ : Jo := ⟨[], 0, []⟩
def comR (J : Jo) (key : ByteArray) (l : List Pp.Ch) : Jo := if ¬ comE J key l = 0 then zeroJ else if hasB J.cos key.data.toList = true then J else addJ J key l
theorem com_chk {J : Jo} {key : ByteArray} {l : List Pp.Ch} (h : ¬ chkE J = 0) : comE J key l = chkE J ∧ comN J key l = 0 ∧ comR J key l = zeroJ := by
 have e : comE J key l = chkE J := by rw [comE, if_pos h]
 exact ⟨e, by rw [comN, e, if_pos h], by rw [comR, e, if_pos h]⟩
theorem com_key {J : Jo} {key : ByteArray} {l : List Pp.Ch} (h : chkE J = 0) (h1 : Pp.keyB key.data.toList = false) : comE J key l = 1 ∧ comN J key l = 0 ∧ comR J key l = zeroJ := by
 have e : comE J key l = 1 := by rw [comE, if_neg (fun x => x h), if_pos (by simp [h1])]
 exact ⟨e, by rw [comN, e, if_pos (by decide)], by rw [comR, e, if_pos (by decide)]⟩
theorem com_has {J : Jo} {key : ByteArray} {l : List Pp.Ch} (h : chkE J = 0) (h1 : Pp.keyB key.data.toList = true) (h2 : hasB J.cos key.data.toList = true) : comE J key l = 0 ∧ comN J key l = numOf J.cos key.data.toList ∧ comR J key l = J := by
 have e : comE J key l = 0 := by rw [comE, if_neg (fun x => x h), if_neg (fun x => x h1), if_pos h2]
 exact ⟨e, by rw [comN, e, if_neg (fun x => x rfl), if_pos h2], by rw [comR, e, if_neg (fun x => x rfl), if_pos h2]⟩
theorem com_new {J : Jo} {key : ByteArray} {l : List Pp.Ch} (h : chkE J = 0) (h1 : Pp.keyB key.data.toList = true) (h2 : hasB J.cos key.data.toList = false) : comE J key l = newE J l := by
 rw [comE, if_neg (fun x => x h), if_neg (fun x => x h1), if_neg (by simp [h2])]
theorem com_bad {J : Jo} {key : ByteArray} {l : List Pp.Ch} (h : ¬ comE J key l = 0) : comN J key l = 0 ∧ comR J key l = zeroJ := ⟨by rw [comN, if_pos h], by rw [comR, if_pos h]⟩
theorem com_add {J : Jo} {key : ByteArray} {l : List Pp.Ch} (h : chkE J = 0) (h1 : Pp.keyB key.data.toList = true) (h2 : hasB J.cos key.data.toList = false) (h3 : newE J l = 0) : comE J key l = 0 ∧ comN J key l = last J + 1 ∧ comR J key l = addJ J key l := by
 have e : comE J key l = 0 := by rw [com_new h h1 h2]; exact h3
 exact ⟨e, by rw [comN, e, if_neg (fun x => x rfl), if_neg (by simp [h2])], by rw [comR, e, if_neg (fun x => x rfl), if_neg (by simp [h2])]⟩
/-- Of a journal that passes Check: the changes of each commit are few, and small. -/
theorem all_few {T : List En} {cs : List Pp.Ch} {n : Int} (h : Pp.allE T cs n = 0) : cs.length ≤ 20 := by
 have ht : Pp.treeE T = 0 := by
  by_cases ht : Pp.treeE T = 0
  · exact ht
  · rw [(Pp.all_no ht cs n).1] at h; exact absurd h ht
 rcases Nat.lt_or_ge 20 cs.length with hm | hm
 · rw [(Pp.all_many ht hm n).1] at h; cases h
 · exact hm
theorem run_few : ∀ {n : Int} {T : List En} {l : List Co}, (runJ n T l).1 = 0 → ∀ c ∈ l, c.ch.length ≤ 20
 | n, T, [], _, c, hc => by cases hc
 | n, T, d :: r, h, c, hc => by
  rw [runJ] at h
  by_cases h0 : coE d n = 0
  · rw [if_neg (fun x => x h0)] at h
    by_cases h1 : Pp.allE T d.ch d.nu = 0
    · rw [if_neg (fun x => x h1)] at h
      rcases List.mem_cons.1 hc with rfl | hc
      · exact all_few h1
      · exact run_few h c hc
    · rw [if_pos h1] at h; exact absurd h h1
  · rw [if_pos h0] at h; exact absurd h h0
theorem chk_few {J : Jo} (h : chkE J = 0) : ∀ c ∈ J.cos, c.ch.length ≤ 20 := by
 obtain ⟨_, _, _, h4, _⟩ := chk_parts h
 exact run_few (n := J.first) (T := J.base) (by rw [h4])
theorem run_first {n : Int} {T : List En} {c : Co} {r : List Co} (h : (runJ n T (c :: r)).1 = 0) : coE c n = 0 ∧ Pp.allE T c.ch c.nu = 0 := by
 rw [runJ] at h
 by_cases h0 : coE c n = 0
 · rw [if_neg (fun x => x h0)] at h
   by_cases h1 : Pp.allE T c.ch c.nu = 0
   · exact ⟨h0, h1⟩
   · rw [if_pos h1] at h; exact absurd h h1
 · rw [if_pos h0] at h; exact absurd h h0
end Jn
end Go.Proofs.YtchlgpeiombmdaaGreat
set_option linter.unusedSimpArgs false
set_option linter.unusedVariables false
namespace Go.Proofs.YtchlgpeiombmdaaGreat
open Go.RowKit

/-- A page. -/
structure Pg where
 reset : Bool
 tree : List En
 cos : List Co
 cur : Int
 more : Bool
def LiesPg (w : World) (v : Value) (P : Pg) : Prop := ∃ vt vc, v = .agg #[.bool P.reset, vt, vc, .int .i64 P.cur, .bool P.more] ∧ Lies w vt P.tree ∧ LiesO w vc P.cos
theorem LiesPg.below {w w' : World} {v : Value} {P : Pg} (h : LiesPg w v P) (hw : Below w.heap.size w w') : LiesPg w' v P := by
 obtain ⟨vt, vc, h1, h2, h3⟩ := h
 exact ⟨vt, vc, h1, h2.below hw, h3.below hw⟩
theorem liesO_shape {w : World} {v : Value} {l : List Co} (h : LiesO w v l) : ∃ a cap, v = .slice a l.length cap := by
 obtain ⟨a, cap, h, _⟩ := h
 exact ⟨a, cap, h⟩
end Go.Proofs.YtchlgpeiombmdaaGreat
