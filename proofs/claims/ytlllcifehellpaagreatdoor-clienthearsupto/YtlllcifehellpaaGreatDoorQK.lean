/- Journals as plain mathematics: commits, what Check answers, the tree that comes, what Commit, Read and Follow answer. Pages in memory. Follow as plain mathematics. -/
import Derived.Test.YtlllcifehellpaaGreatDoorMA
import Derived.Test.YtlllcifehellpaaGreatDoorQR
import Derived.Maps.OwnSet
import Derived.StringKeys
set_option linter.unusedSimpArgs false
set_option linter.unusedVariables false
namespace Go.Proofs.YtlllcifehellpaaGreatDoor
open Go.RowKit

/-- A commit: its number, its key, its changes. -/
structure Co where
  nu : Int
  ke : ByteArray
  ch : List Pp.Ch
/-- A journal: the tree ahead of its first commit, that one's number, its commits. -/
structure Jo where
  base : List En
  first : Int
  cos : List Co

def CoAt (w : World) (b o : Nat) (c : Co) : Prop := w.cell? ⟨b, o, none⟩ = some (.int .i64 c.nu) ∧ w.cell? ⟨b, o + 1, none⟩ = some (.string c.ke) ∧ ∃ u, w.cell? ⟨b, o + 2, none⟩ = some u ∧ LiesC w u c.ch
def LiesO (w : World) (v : Value) (l : List Co) : Prop := ∃ a cap, v = .slice a l.length cap ∧ l.length ≤ cap ∧ l.length ≤ 1000000000000000 ∧ ∀ i (h : i < l.length), ∃ b o, a = some ⟨b, o, none⟩ ∧ b < w.heap.size ∧ CoAt w b (o + i * 3) l[i]
def LiesJ (w : World) (v : Value) (J : Jo) : Prop := ∃ vb vc, v = .agg #[vb, .int .i64 J.first, vc] ∧ Lies w vb J.base ∧ LiesO w vc J.cos
theorem CoAt.below {w w' : World} {b o : Nat} {c : Co} (h : CoAt w b o c) (hb : b < w.heap.size) (hw : Below w.heap.size w w') : CoAt w' b o c := by
  obtain ⟨h0, h1, u, h2, h3⟩ := h
  exact ⟨(hw.cell (p := ⟨b, o, none⟩) hb).trans h0, (hw.cell (p := ⟨b, o + 1, none⟩) hb).trans h1, u, (hw.cell (p := ⟨b, o + 2, none⟩) hb).trans h2, h3.below hw⟩
theorem LiesO.below {w w' : World} {v : Value} {l : List Co} (h : LiesO w v l) (hw : Below w.heap.size w w') : LiesO w' v l := by
  obtain ⟨a, cap, hv, h1, h2, h3⟩ := h
  refine ⟨a, cap, hv, h1, h2, fun i hi => ?_⟩
  obtain ⟨b, o, ha, hb, he⟩ := h3 i hi
  exact ⟨b, o, ha, Nat.lt_of_lt_of_le hb hw.size, he.below hb hw⟩
theorem LiesJ.below {w w' : World} {v : Value} {J : Jo} (h : LiesJ w v J) (hw : Below w.heap.size w w') : LiesJ w' v J := by
  obtain ⟨vb, vc, rfl, h1, h2⟩ := h
  exact ⟨vb, vc, rfl, h1.below hw, h2.below hw⟩
theorem liesO_nil (w : World) : LiesO w (.slice none 0 0) [] := ⟨none, 0, rfl, Nat.le_refl _, by decide, fun i h => absurd h (by simp)⟩
def SizedO (B : Nat) (l : List Co) : Prop := ∀ c ∈ l, c.ke.size ≤ B ∧ SizedC B c.ch
theorem SizedO.mono {B B' : Nat} {l : List Co} (h : SizedO B l) (hb : B ≤ B') : SizedO B' l := fun c hc => ⟨Nat.le_trans (h c hc).1 hb, fun x hx => ⟨Nat.le_trans ((h c hc).2 x hx).1 hb, Nat.le_trans ((h c hc).2 x hx).2.1 hb, Nat.le_trans ((h c hc).2 x hx).2.2 hb⟩⟩

namespace Jn
/-- Of one commit, but for its changes: its number must be this one. -/
def coE (c : Co) (n : Int) : Int := if ¬ c.nu = n then 4 else if 1000000 < n then 3 else if ¬ Pp.keyB c.ke.data.toList = true then 1 else if c.ch = [] then 1 else 0
/-- Commit by commit. -/
def runJ : Int → List En → List Co → Int × List En
  | _, T, [] => (0, T)
  | n, T, c :: r => if ¬ coE c n = 0 then (coE c n, []) else if ¬ Pp.allE T c.ch c.nu = 0 then (Pp.allE T c.ch c.nu, []) else runJ (n + 1) (Pp.allR T c.ch c.nu) r
def Apart (l : List Co) : Prop := l.Pairwise (fun x y => x.ke.data.toList ≠ y.ke.data.toList)
instance (l : List Co) : Decidable (Apart l) := by unfold Apart; infer_instance
def chkE (J : Jo) : Int := if ¬ Pp.treeE J.base = 0 then Pp.treeE J.base else if ¬ Pp.verE J.first = 0 then 3 else if 30 < J.cos.length then 2 else
  if ¬ (runJ J.first J.base J.cos).1 = 0 then (runJ J.first J.base J.cos).1 else if ¬ Apart J.cos then 6 else 0
def tree (J : Jo) : List En := (runJ J.first J.base J.cos).2
def last (J : Jo) : Int := J.first - 1 + J.cos.length
/-- What is left to do behind the first commits. -/
def LeftJ (J : Jo) (S : List En) (k : Nat) : Prop := runJ J.first J.base J.cos = runJ (J.first + k) S (J.cos.drop k)
theorem left_zero (J : Jo) : LeftJ J J.base 0 := by rw [LeftJ]; simp
theorem left_step {J : Jo} {S : List En} {k : Nat} (h : LeftJ J S k) (hk : k < J.cos.length) : runJ J.first J.base J.cos = if ¬ coE J.cos[k] (J.first + k) = 0 then (coE J.cos[k] (J.first + k), []) else if ¬ Pp.allE S J.cos[k].ch J.cos[k].nu = 0 then (Pp.allE S J.cos[k].ch J.cos[k].nu, []) else runJ (J.first + (k + 1 : Nat)) (Pp.allR S J.cos[k].ch J.cos[k].nu) (J.cos.drop (k + 1)) := by
  rw [LeftJ, List.drop_eq_getElem_cons hk, runJ] at h
  rw [h, show J.first + (k : Int) + 1 = J.first + ((k + 1 : Nat) : Int) by omega]
theorem left_bad {J : Jo} {S : List En} {k : Nat} (h : LeftJ J S k) (hk : k < J.cos.length) (h0 : ¬ coE J.cos[k] (J.first + k) = 0) : runJ J.first J.base J.cos = (coE J.cos[k] (J.first + k), []) := by
  rw [left_step h hk, if_pos h0]
theorem left_all {J : Jo} {S : List En} {k : Nat} (h : LeftJ J S k) (hk : k < J.cos.length) (h0 : coE J.cos[k] (J.first + k) = 0) (h1 : ¬ Pp.allE S J.cos[k].ch J.cos[k].nu = 0) : runJ J.first J.base J.cos = (Pp.allE S J.cos[k].ch J.cos[k].nu, []) := by
  rw [left_step h hk, if_neg (fun x => x h0), if_pos h1]
theorem left_next {J : Jo} {S : List En} {k : Nat} (h : LeftJ J S k) (hk : k < J.cos.length) (h0 : coE J.cos[k] (J.first + k) = 0) (h1 : Pp.allE S J.cos[k].ch J.cos[k].nu = 0) : LeftJ J (Pp.allR S J.cos[k].ch J.cos[k].nu) (k + 1) := by
  rw [LeftJ, left_step h hk, if_neg (fun x => x h0), if_neg (fun x => x h1)]
theorem left_end {J : Jo} {S : List En} (h : LeftJ J S J.cos.length) : runJ J.first J.base J.cos = (0, S) := by
  rw [LeftJ, List.drop_length, runJ] at h
  exact h
theorem ver_iff {n : Int} : Pp.verE n = 0 ↔ 1 ≤ n ∧ n ≤ 1000000 := by
  unfold Pp.verE
  split
  · exact ⟨(fun h => by cases h), fun h => by omega⟩
  · exact ⟨fun _ => by omega, fun _ => rfl⟩
theorem chk_tree {J : Jo} (h : ¬ Pp.treeE J.base = 0) : chkE J = Pp.treeE J.base := by rw [chkE, if_pos h]
theorem chk_first {J : Jo} (h : Pp.treeE J.base = 0) (h1 : ¬ Pp.verE J.first = 0) : chkE J = 3 := by rw [chkE, if_neg (fun x => x h), if_pos h1]
theorem chk_many {J : Jo} (h : Pp.treeE J.base = 0) (h1 : Pp.verE J.first = 0) (h2 : 30 < J.cos.length) : chkE J = 2 := by rw [chkE, if_neg (fun x => x h), if_neg (fun x => x h1), if_pos h2]
theorem chk_run {J : Jo} (h : Pp.treeE J.base = 0) (h1 : Pp.verE J.first = 0) (h2 : ¬ 30 < J.cos.length) {e : Int} {T : List En} (hr : runJ J.first J.base J.cos = (e, T)) (he : ¬ e = 0) : chkE J = e := by
  rw [chkE, if_neg (fun x => x h), if_neg (fun x => x h1), if_neg h2, hr, if_pos he]
theorem chk_twice {J : Jo} (h : Pp.treeE J.base = 0) (h1 : Pp.verE J.first = 0) (h2 : ¬ 30 < J.cos.length) {T : List En} (hr : runJ J.first J.base J.cos = (0, T)) (ha : ¬ Apart J.cos) : chkE J = 6 := by
  rw [chkE, if_neg (fun x => x h), if_neg (fun x => x h1), if_neg h2, hr, if_neg (fun x => x rfl), if_pos ha]
theorem chk_ok {J : Jo} (h : Pp.treeE J.base = 0) (h1 : Pp.verE J.first = 0) (h2 : ¬ 30 < J.cos.length) {T : List En} (hr : runJ J.first J.base J.cos = (0, T)) (ha : Apart J.cos) : chkE J = 0 := by
  rw [chkE, if_neg (fun x => x h), if_neg (fun x => x h1), if_neg h2, hr, if_neg (fun x => x rfl), if_neg (fun x => x ha)]
theorem tree_of {J : Jo} {T : List En} (hr : runJ J.first J.base J.cos = (0, T)) : tree J = T := by rw [tree, hr]
/-- What it takes to pass Check. -/
theorem chk_parts {J : Jo} (h : chkE J = 0) : Pp.treeE J.base = 0 ∧ Pp.verE J.first = 0 ∧ ¬ 30 < J.cos.length ∧ runJ J.first J.base J.cos = (0, tree J) ∧ Apart J.cos := by
  by_cases h1 : Pp.treeE J.base = 0
  · by_cases h2 : Pp.verE J.first = 0
    · by_cases h3 : 30 < J.cos.length
      · rw [chk_many h1 h2 h3] at h; cases h
      · rcases hr : runJ J.first J.base J.cos with ⟨e, T⟩
        by_cases he : e = 0
        · subst he
          by_cases ha : Apart J.cos
          · exact ⟨h1, h2, h3, by rw [tree_of hr], ha⟩
          · rw [chk_twice h1 h2 h3 hr ha] at h; cases h
        · rw [chk_run h1 h2 h3 hr he] at h; exact absurd h he
    · rw [chk_first h1 h2] at h; cases h
  · rw [chk_tree h1] at h; exact absurd h h1

theorem all_good {T : List En} {cs : List Pp.Ch} {n : Int} (h : Pp.allE T cs n = 0) : Pp.Good (Pp.allR T cs n) := by
  have ht : Pp.treeE T = 0 := by
    by_cases ht : Pp.treeE T = 0
    · exact ht
    · rw [(Pp.all_no ht cs n).1] at h; exact absurd h ht
  have hm : ¬ 20 < cs.length := fun hm => by rw [(Pp.all_many ht hm n).1] at h; cases h
  have hr := Pp.all_run ht hm (n := n) (k := (Pp.runF n T cs).1) (e := (Pp.runF n T cs).2.1) (R := (Pp.runF n T cs).2.2) rfl
  rw [hr.1] at h
  rw [hr.2.2]
  have hT := (Pp.good_iff T).1 ht
  clear hr ht hm
  induction cs generalizing T with
  | nil => exact hT
  | cons c r ih =>
    rw [Pp.runF] at h ⊢
    by_cases h0 : Pp.appE T c n = 0
    · rw [if_pos h0] at h ⊢
      exact ih h (Pp.app_good hT h0)
    · rw [if_neg h0] at h
      exact absurd h h0
theorem run_good : ∀ {n : Int} {T : List En} {l : List Co}, Pp.Good T → (runJ n T l).1 = 0 → Pp.Good (runJ n T l).2
  | n, T, [], hT, _ => hT
  | n, T, c :: r, hT, h => by
    rw [runJ] at h ⊢
    by_cases h0 : coE c n = 0
    · rw [if_neg (fun x => x h0)] at h ⊢
      by_cases h1 : Pp.allE T c.ch c.nu = 0
      · rw [if_neg (fun x => x h1)] at h ⊢
        exact run_good (all_good h1) h
      · rw [if_pos h1] at h; exact absurd h h1
    · rw [if_pos h0] at h; exact absurd h h0
theorem tree_good {J : Jo} (h : chkE J = 0) : Pp.Good (tree J) := by
  obtain ⟨h1, _, _, h4, _⟩ := chk_parts h
  have := run_good (n := J.first) (l := J.cos) ((Pp.good_iff _).1 h1) (by rw [h4])
  rwa [h4] at this

/-- The tree behind the first k commits. -/
def trAt (J : Jo) (k : Nat) : List En := (J.cos.take k).foldl (fun T c => Pp.allR T c.ch c.nu) J.base
theorem trAt_zero (J : Jo) : trAt J 0 = J.base := by simp [trAt]
theorem trAt_succ {J : Jo} {k : Nat} (hk : k < J.cos.length) : trAt J (k + 1) = Pp.allR (trAt J k) J.cos[k].ch J.cos[k].nu := by
  rw [trAt, List.take_succ_eq_append_getElem hk, List.foldl_append]; rfl
theorem run_tree : ∀ {n : Int} {T : List En} {l : List Co}, (runJ n T l).1 = 0 → (runJ n T l).2 = l.foldl (fun T c => Pp.allR T c.ch c.nu) T
  | n, T, [], _ => rfl
  | n, T, c :: r, h => by
    rw [runJ] at h ⊢
    by_cases h0 : coE c n = 0
    · rw [if_neg (fun x => x h0)] at h ⊢
      by_cases h1 : Pp.allE T c.ch c.nu = 0
      · rw [if_neg (fun x => x h1)] at h ⊢
        exact run_tree h
      · rw [if_pos h1] at h; exact absurd h h1
    · rw [if_pos h0] at h; exact absurd h h0
theorem tree_trAt {J : Jo} (h : chkE J = 0) : tree J = trAt J J.cos.length := by
  obtain ⟨_, _, _, h4, _⟩ := chk_parts h
  rw [trAt, List.take_length, tree, run_tree (by rw [h4])]
/-- No key of the first i commits is there twice; none of the first k is that of commit i. -/
def ApK (l : List Co) (i k : Nat) : Prop := ∀ x ∈ l.take k, ∀ y, l[i]? = some y → x.ke.data.toList ≠ y.ke.data.toList
theorem apK_zero (l : List Co) (i : Nat) : ApK l i 0 := fun x hx => by simp at hx
theorem apK_succ {l : List Co} {i k : Nat} (h : ApK l i k) (hk : k < l.length) (hi : i < l.length) (hne : l[k].ke.data.toList ≠ l[i].ke.data.toList) : ApK l i (k + 1) := by
  intro x hx y hy
  rw [List.take_succ_eq_append_getElem hk, List.mem_append, List.mem_singleton] at hx
  rcases hx with hx | rfl
  · exact h x hx y hy
  · rw [List.getElem?_eq_getElem hi] at hy
    injection hy with hy
    rw [← hy]; exact hne
theorem apart_succ {l : List Co} {i : Nat} (hi : i < l.length) (h : Apart (l.take i)) (hk : ApK l i i) : Apart (l.take (i + 1)) := by
  rw [List.take_succ_eq_append_getElem hi, Apart, List.pairwise_append]
  refine ⟨h, by simp, fun x hx y hy => ?_⟩
  rw [List.mem_singleton] at hy
  exact hk x hx y (by rw [hy]; exact List.getElem?_eq_getElem hi)
theorem not_apart {l : List Co} {i k : Nat} (hi : i < l.length) (hk : k < i) (he : l[k].ke.data.toList = l[i].ke.data.toList) : ¬ Apart l := fun h => (List.pairwise_iff_getElem.1 h k i (by omega) hi hk) he

/-! Numbers by keys. -/
def key (p : ByteArray) : Lit := .string p.data.toList
def num (n : Int) : DataW Unit := .lit (.int .i64 n)
def D (l : List Co) : DataW Unit := l.foldl (fun m c => m.put (key c.ke) (num c.nu)) (.map [])
theorem D_snoc (l : List Co) (c : Co) : D (l ++ [c]) = (D l).put (key c.ke) (num c.nu) := by simp [D]
theorem D_take {l : List Co} {k : Nat} (hk : k < l.length) : D (l.take (k + 1)) = (D (l.take k)).put (key l[k].ke) (num l[k].nu) := by
  rw [List.take_succ_eq_append_getElem hk, D_snoc]
theorem key_lit (p : ByteArray) : WideAt.IsKeyLit (key p) := by simp [key, WideAt.IsKeyLit]
theorem key_inj {p q : ByteArray} (h : key p = key q) : p.data.toList = q.data.toList := by simpa [key] using h
theorem D_tidy (l : List Co) : Maps.Tidy (D l) := by
  have : ∀ (l : List Co) (m : DataW Unit), Maps.Tidy m → Maps.Tidy (l.foldl (fun m c => m.put (key c.ke) (num c.nu)) m) := by
    intro l
    induction l with
    | nil => intro m h; exact h
    | cons c r ih => intro m h; exact ih _ (h.put (key_lit _) _)
  exact this l _ Maps.tidy_empty
def hasB (l : List Co) (p : List UInt8) : Bool := l.any (fun c => c.ke.data.toList == p)
theorem snoc_ind {α : Type} {P : List α → Prop} (h0 : P []) (h1 : ∀ L e, P L → P (L ++ [e])) (L : List α) : P L := by
  have h : ∀ R : List α, P R.reverse := fun R => by
    induction R with
    | nil => exact h0
    | cons a r ih => rw [List.reverse_cons]; exact h1 _ _ ih
  have h2 := h L.reverse
  rwa [List.reverse_reverse] at h2
theorem D_has (l : List Co) (p : ByteArray) : Maps.has (D l) (key p) = hasB l p.data.toList := by
  refine snoc_ind (P := fun l => Maps.has (D l) (key p) = hasB l p.data.toList) rfl ?_ l
  intro l c ih
  rw [D_snoc, hasB, List.any_append]
  by_cases hk : key p = key c.ke
  · rw [hk, Maps.has_put_same (D_tidy l).isMap (key_lit _)]
    simp [key_inj hk]
  · rw [Maps.has_put_other hk, ih, hasB]
    have hd : ¬ c.ke.data = p.data := fun h => hk (by rw [key, key, h])
    simp [hd]
theorem D_size (l : List Co) : Maps.size (D l) ≤ l.length ∧ (Maps.size (D l) = l.length ↔ Apart l) := by
  refine snoc_ind (P := fun l => Maps.size (D l) ≤ l.length ∧ (Maps.size (D l) = l.length ↔ Apart l)) ⟨Nat.le_refl _, ⟨fun _ => List.Pairwise.nil, fun _ => rfl⟩⟩ ?_ l
  intro l c ⟨ih1, ih2⟩
  rw [D_snoc, Maps.size_put (D_tidy l), D_has, List.length_append, Apart, List.pairwise_append]
  cases hb : hasB l c.ke.data.toList with
  | true =>
    rw [if_pos rfl]
    refine ⟨by omega, ⟨fun h => ?_, fun h => ?_⟩⟩
    · simp at h; omega
    · obtain ⟨x, hx, he⟩ := List.any_eq_true.1 hb
      exact absurd (by simpa using he) (h.2.2 x hx c (by simp))
  | false =>
    rw [if_neg (by simp)]
    refine ⟨by simp; omega, ⟨fun h => ?_, fun h => ?_⟩⟩
    · refine ⟨ih2.1 (by simp at h; omega), by simp, fun a ha b hbm => ?_⟩
      simp at hbm
      subst hbm
      intro he
      have := List.any_eq_false.1 hb a ha
      simp [he] at this
    · have := ih2.2 h.1
      simp; omega
def numOf (l : List Co) (p : List UInt8) : Int := match l.find? (fun c => c.ke.data.toList == p) with
  | some c => c.nu
  | none => 0
theorem D_at {l : List Co} (h : Apart l) (p : ByteArray) (z : Int) : hasB l p.data.toList = true → (D l).atKey (key p) (num z) = num (numOf l p.data.toList) := by
  revert h
  refine snoc_ind (P := fun l => Apart l → hasB l p.data.toList = true → (D l).atKey (key p) (num z) = num (numOf l p.data.toList)) (fun _ h => by cases h) ?_ l
  intro l c ih ha hb
  rw [Apart, List.pairwise_append] at ha
  rw [D_snoc]
  by_cases hk : key p = key c.ke
  · have hp := key_inj hk
    rw [hk, Maps.atKey_put_same (D_tidy l).isMap (key_lit _)]
    have hnone : l.find? (fun c => c.ke.data.toList == p.data.toList) = none := by
      rw [List.find?_eq_none]
      intro x hx hh
      exact ha.2.2 x hx c (by simp) (by simp at hh; rw [hh, hp])
    rw [numOf, List.find?_append, hnone]
    simp [hp]
  · rw [Maps.atKey_put_other hk]
    have hd : ¬ c.ke.data = p.data := fun h => hk (by rw [key, key, h])
    rw [hasB, List.any_append] at hb
    simp [hd] at hb
    rw [ih ha.1 (by rw [hasB, List.any_eq_true]; simpa using hb), numOf, numOf, List.find?_append]
    simp [hd]
end Jn
end Go.Proofs.YtlllcifehellpaaGreatDoor
set_option linter.unusedSimpArgs false
set_option linter.unusedVariables false
namespace Go.Proofs.YtlllcifehellpaaGreatDoor
open Go.RowKit

/-- A page. -/
structure Pg where
  reset : Bool
  tree : List En
  cos : List Co
  cur : Int
  more : Bool
def LiesPg (w : World) (v : Value) (P : Pg) : Prop := ∃ vt vc, v = .agg #[.bool P.reset, vt, vc, .int .i64 P.cur, .bool P.more] ∧ Lies w vt P.tree ∧ LiesO w vc P.cos
theorem LiesPg.below {w w' : World} {v : Value} {P : Pg} (h : LiesPg w v P) (hw : Below w.heap.size w w') : LiesPg w' v P := by
  obtain ⟨vt, vc, h1, h2, h3⟩ := h
  exact ⟨vt, vc, h1, h2.below hw, h3.below hw⟩
theorem liesO_shape {w : World} {v : Value} {l : List Co} (h : LiesO w v l) : ∃ a cap, v = .slice a l.length cap := by
  obtain ⟨a, cap, h, _⟩ := h
  exact ⟨a, cap, h⟩
end Go.Proofs.YtlllcifehellpaaGreatDoor
set_option linter.unusedSimpArgs false
set_option linter.unusedVariables false
namespace Go.Proofs.YtlllcifehellpaaGreatDoor
open Go.RowKit

namespace Jn
def curE (c : Int) : Int := if c < 0 ∨ 1000000 < c then 3 else 0
def knE (T : List En) (c : Int) : Int := if ¬ Pp.treeE T = 0 then Pp.treeE T else curE c
/-- Are the numbers of commits one more each than a cursor? -/
def numsB : Int → List Co → Bool
  | _, [] => true
  | c, x :: r => x.nu == c + 1 && numsB (c + 1) r
def onE (P : Pg) (c : Int) : Int := if ¬ P.tree = [] then 1 else if 10 < P.cos.length then 2 else if numsB c P.cos = true then (if P.cur = c + P.cos.length then 0 else 4) else 4
/-- Commit by commit. -/
def folF : List En → List Co → Int × List En
  | T, [] => (0, T)
  | T, x :: r => if Pp.allE T x.ch x.nu = 0 then folF (Pp.allR T x.ch x.nu) r else (Pp.allE T x.ch x.nu, [])
def rstE (P : Pg) : Int := if ¬ knE P.tree P.cur = 0 then knE P.tree P.cur else if 0 < P.cos.length ∨ P.more = true then 1 else 0
def folE (T : List En) (c : Int) (P : Pg) : Int := if ¬ knE T c = 0 then knE T c else if P.reset = true then rstE P else if ¬ onE P c = 0 then onE P c else (folF T P.cos).1
def folR (T : List En) (c : Int) (P : Pg) : List En := if ¬ folE T c P = 0 then [] else if P.reset = true then P.tree else (folF T P.cos).2
def folN (T : List En) (c : Int) (P : Pg) : Int := if ¬ folE T c P = 0 then 0 else P.cur
theorem kn_tree {T : List En} {c : Int} (h : ¬ Pp.treeE T = 0) : knE T c = Pp.treeE T := if_pos h
theorem kn_cur {T : List En} {c : Int} (h : Pp.treeE T = 0) : knE T c = curE c := if_neg (fun x => x h)
theorem kn_zero {T : List En} {c : Int} (h : knE T c = 0) : Pp.treeE T = 0 ∧ 0 ≤ c ∧ c ≤ 1000000 := by
  by_cases ht : Pp.treeE T = 0
  · rw [kn_cur ht, curE] at h
    split at h
    · cases h
    · exact ⟨ht, by omega⟩
  · rw [kn_tree ht] at h; exact absurd h ht
theorem fol_bad {T : List En} {c e : Int} {P : Pg} (h : folE T c P = e) (he : ¬ e = 0) : folR T c P = [] ∧ folN T c P = 0 := ⟨by rw [folR, h, if_pos he], by rw [folN, h, if_pos he]⟩
theorem fol_kn {T : List En} {c : Int} {P : Pg} (h : ¬ knE T c = 0) : folE T c P = knE T c := if_pos h
theorem fol_reset {T : List En} {c : Int} {P : Pg} (h : knE T c = 0) (hr : P.reset = true) : folE T c P = rstE P := by rw [folE, if_neg (fun x => x h), if_pos hr]
theorem fol_on {T : List En} {c : Int} {P : Pg} (h : knE T c = 0) (hr : P.reset = false) (ho : ¬ onE P c = 0) : folE T c P = onE P c := by rw [folE, if_neg (fun x => x h), if_neg (by simp [hr]), if_pos ho]
theorem fol_run {T : List En} {c : Int} {P : Pg} (h : knE T c = 0) (hr : P.reset = false) (ho : onE P c = 0) : folE T c P = (folF T P.cos).1 := by rw [folE, if_neg (fun x => x h), if_neg (by simp [hr]), if_neg (fun x => x ho)]
theorem fol_okR {T : List En} {c : Int} {P : Pg} (h : folE T c P = 0) (hr : P.reset = true) : folR T c P = P.tree ∧ folN T c P = P.cur := ⟨by rw [folR, if_neg (fun x => x h), if_pos hr], by rw [folN, if_neg (fun x => x h)]⟩
theorem fol_okF {T : List En} {c : Int} {P : Pg} (h : folE T c P = 0) (hr : P.reset = false) : folR T c P = (folF T P.cos).2 ∧ folN T c P = P.cur := ⟨by rw [folR, if_neg (fun x => x h), if_neg (by simp [hr])], by rw [folN, if_neg (fun x => x h)]⟩
theorem rst_kn {P : Pg} (h : ¬ knE P.tree P.cur = 0) : rstE P = knE P.tree P.cur := if_pos h
theorem rst_form {P : Pg} (h : knE P.tree P.cur = 0) (h1 : 0 < P.cos.length ∨ P.more = true) : rstE P = 1 := by rw [rstE, if_neg (fun x => x h), if_pos h1]
theorem rst_ok {P : Pg} (h : knE P.tree P.cur = 0) (h1 : ¬ (0 < P.cos.length ∨ P.more = true)) : rstE P = 0 := by rw [rstE, if_neg (fun x => x h), if_neg h1]
/-- What is left of the numbers. -/
def NumsAt (c : Int) (l : List Co) (k : Nat) : Prop := numsB c l = numsB (c + k) (l.drop k)
theorem nums_zero (c : Int) (l : List Co) : NumsAt c l 0 := by simp [NumsAt]
theorem nums_step {c : Int} {l : List Co} {k : Nat} (h : NumsAt c l k) (hk : k < l.length) : numsB c l = ((l[k].nu == c + k + 1) && numsB (c + (k + 1 : Nat)) (l.drop (k + 1))) := by
  rw [NumsAt, List.drop_eq_getElem_cons hk, numsB] at h
  rw [h, show c + (k : Int) + 1 = c + ((k + 1 : Nat) : Int) by omega]
theorem nums_next {c : Int} {l : List Co} {k : Nat} (h : NumsAt c l k) (hk : k < l.length) (h1 : l[k].nu = c + k + 1) : NumsAt c l (k + 1) := by
  rw [NumsAt, nums_step h hk]; simp [h1]
theorem nums_bad {c : Int} {l : List Co} {k : Nat} (h : NumsAt c l k) (hk : k < l.length) (h1 : ¬ l[k].nu = c + k + 1) : numsB c l = false := by
  rw [nums_step h hk]; simp [h1]
theorem nums_end {c : Int} {l : List Co} (h : NumsAt c l l.length) : numsB c l = true := by
  rw [NumsAt, List.drop_length] at h; exact h
theorem on_tree {P : Pg} {c : Int} (h : ¬ P.tree = []) : onE P c = 1 := if_pos h
theorem on_many {P : Pg} {c : Int} (h : P.tree = []) (h1 : 10 < P.cos.length) : onE P c = 2 := by rw [onE, if_neg (fun x => x h), if_pos h1]
theorem on_nums {P : Pg} {c : Int} (h : P.tree = []) (h1 : ¬ 10 < P.cos.length) (h2 : numsB c P.cos = false) : onE P c = 4 := by rw [onE, if_neg (fun x => x h), if_neg h1, if_neg (by simp [h2])]
theorem on_cur {P : Pg} {c : Int} (h : P.tree = []) (h1 : ¬ 10 < P.cos.length) (h2 : numsB c P.cos = true) (h3 : ¬ P.cur = c + P.cos.length) : onE P c = 4 := by rw [onE, if_neg (fun x => x h), if_neg h1, if_pos h2, if_neg h3]
theorem on_ok {P : Pg} {c : Int} (h : P.tree = []) (h1 : ¬ 10 < P.cos.length) (h2 : numsB c P.cos = true) (h3 : P.cur = c + P.cos.length) : onE P c = 0 := by rw [onE, if_neg (fun x => x h), if_neg h1, if_pos h2, if_pos h3]
theorem on_zero {P : Pg} {c : Int} (h : onE P c = 0) : P.tree = [] ∧ ¬ 10 < P.cos.length ∧ numsB c P.cos = true ∧ P.cur = c + P.cos.length := by
  by_cases h1 : P.tree = []
  · by_cases h2 : 10 < P.cos.length
    · rw [on_many h1 h2] at h; cases h
    · cases h3 : numsB c P.cos with
      | false => rw [on_nums h1 h2 h3] at h; cases h
      | true =>
        by_cases h4 : P.cur = c + P.cos.length
        · exact ⟨h1, h2, rfl, h4⟩
        · rw [on_cur h1 h2 h3 h4] at h; cases h
  · rw [on_tree h1] at h; cases h
/-- What is left to do behind the first commits. -/
def LeftF (T : List En) (l : List Co) (S : List En) (k : Nat) : Prop := folF T l = folF S (l.drop k)
theorem leftF_zero (T : List En) (l : List Co) : LeftF T l T 0 := by simp [LeftF]
theorem leftF_next {T S : List En} {l : List Co} {k : Nat} (h : LeftF T l S k) (hk : k < l.length) (h0 : Pp.allE S l[k].ch l[k].nu = 0) : LeftF T l (Pp.allR S l[k].ch l[k].nu) (k + 1) := by
  rw [LeftF, List.drop_eq_getElem_cons hk, folF, if_pos h0] at h
  exact h
theorem leftF_stop {T S : List En} {l : List Co} {k : Nat} (h : LeftF T l S k) (hk : k < l.length) (h0 : ¬ Pp.allE S l[k].ch l[k].nu = 0) : folF T l = (Pp.allE S l[k].ch l[k].nu, []) := by
  rw [LeftF, List.drop_eq_getElem_cons hk, folF, if_neg h0] at h
  exact h
theorem leftF_end {T S : List En} {l : List Co} (h : LeftF T l S l.length) : folF T l = (0, S) := by
  rw [LeftF, List.drop_length, folF] at h
  exact h
end Jn
end Go.Proofs.YtlllcifehellpaaGreatDoor
