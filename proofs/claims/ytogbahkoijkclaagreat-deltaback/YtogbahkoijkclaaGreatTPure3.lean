/- What Apply of a change answers, as plain mathematics: errors in their order, and what comes. -/
import Derived.Test.YtogbahkoijkclaaGreatTPure2
set_option linter.unusedSimpArgs false
set_option linter.unusedVariables false
namespace Go.Proofs.YtogbahkoijkclaaGreat.Pp

/-- A change: its kind, its path, where to, its text, its base. -/
structure Ch where
  k : Int
  p : ByteArray
  q : ByteArray
  t : ByteArray
  b : Int

def chgE (c : Ch) : Int :=
  if c.k < 1 ∨ 4 < c.k then 7 else if ¬ chk c.p.data.toList = 0 then chk c.p.data.toList
  else if c.k = 3 ∧ ¬ chk c.q.data.toList = 0 then chk c.q.data.toList
  else if (¬ c.k = 3 ∧ ¬ c.q.data.toList = []) ∨ (¬ c.k = 2 ∧ ¬ c.t.data.toList = []) then 1
  else if 300 < c.t.size then 2 else if c.b < -1 ∨ 1000000 < c.b then 3 else 0
def goal (c : Ch) : List UInt8 := if c.k = 3 then c.q.data.toList else c.p.data.toList
def plcE (L : List En) (c : Ch) : Int :=
  if ¬ foldE L (par (goal c)) = 0 then foldE L (par (goal c)) else match L.find? (atB c.p.data.toList) with
  | none => if c.k = 3 ∨ c.k = 4 then 5 else 0
  | some x => if c.k = 1 then 6 else if c.k = 2 then (if x.folder = true then 4 else 0)
    else if c.k = 3 then (if isInB c.q.data.toList c.p.data.toList = true then 3 else if (L.find? (atB c.q.data.toList)).isSome = true then 6 else 0) else 0
/-- Is an entry at a path, or within? -/
def wi (q : List UInt8) (e : En) : Bool := isInB e.path.data.toList q
def stW (q : List UInt8) (b : Int) (e : En) : Bool := decide (b < e.ver) && wi q e
def stl (L : List En) (c : Ch) : Bool := !(c.b == -1) && L.any (stW c.p.data.toList c.b)
def newE (c : Ch) (n : Int) : En := ⟨c.p, decide (c.k = 1), c.t, n⟩
def outE (x : En) (L : List En) : List En := L.filter (fun e => !atB x.path.data.toList e)
def keptL (L : List En) (c : Ch) : List En := L.filter (fun e => !wi c.p.data.toList e)
def mvP (c : Ch) (e : En) : List UInt8 := mvT e.path.data.toList c.p.data.toList c.q.data.toList
def mvd (c : Ch) (n : Int) (e : En) : En := ⟨⟨(mvP c e).toArray⟩, e.folder, e.text, if e.path.data.toList = c.p.data.toList then n else e.ver⟩
def goL (L : List En) (c : Ch) : List En := L.filter (wi c.p.data.toList)
def mvL (L : List En) (c : Ch) (n : Int) : List En := (goL L c).map (mvd c n)
def insAll (ms K : List En) : List En := ms.foldl (fun a x => ins x a) K
def chdE (L : List En) (c : Ch) (n : Int) : Int :=
  if c.k = 1 ∨ c.k = 2 then (if 60 < (outE (newE c n) L).length + 1 then 2 else 0)
  else if c.k = 3 then (if (goL L c).any (fun e => big (mvP c e)) = true then 2 else 0) else 0
def chdR (L : List En) (c : Ch) (n : Int) : List En :=
  if c.k = 1 ∨ c.k = 2 then ins (newE c n) (outE (newE c n) L)
  else if c.k = 3 then insAll (mvL L c n) (keptL L c) else keptL L c
def appE (L : List En) (c : Ch) (n : Int) : Int :=
  if ¬ verE n = 0 then verE n else if ¬ chgE c = 0 then chgE c else if ¬ plcE L c = 0 then plcE L c else if stl L c = true then 8 else chdE L c n

theorem insAll_perm : ∀ (ms K : List En), (insAll ms K).Perm (K ++ ms)
  | [], K => by simp [insAll]
  | x :: r, K => by
    have h := insAll_perm r (ins x K)
    refine (show insAll (x :: r) K = insAll r (ins x K) from rfl) ▸ h.trans ?_
    refine ((ins_perm x K).append_right r).trans ?_
    exact (List.perm_middle (l₁ := K) (a := x) (l₂ := r)).symm
def dif (a b : En) : Prop := a.path.data.toList ≠ b.path.data.toList
theorem dif_symm {a b : En} (h : dif a b) : dif b a := fun e => h e.symm
theorem lt_dif {a b : En} (h : lt a b = true) : dif a b := fun e => by
  have : lt a b = lt a a := by rw [lt_cfE, lt_cfE]; unfold cfE; rw [← e]
  rw [this, lt_irrefl] at h; cases h
theorem insAll_sorted : ∀ (ms : List En) {K : List En}, K.Pairwise (fun x y => lt x y = true) → (K ++ ms).Pairwise dif → (insAll ms K).Pairwise (fun x y => lt x y = true)
  | [], K, h, _ => h
  | x :: r, K, h, hd => by
    have hd2 := List.pairwise_append.1 hd
    refine insAll_sorted r (K := ins x K) (ins_sorted x h fun y hy => hd2.2.2 y hy x (by simp)) ?_
    have hp : (K ++ x :: r).Perm (ins x K ++ r) := (List.perm_middle (l₁ := K) (a := x) (l₂ := r)).trans ((ins_perm x K).symm.append_right r)
    exact hp.pairwise hd (fun h => dif_symm h)
/-- What a sort by paths gives, where entries came behind entries in order, all at other paths. -/
theorem sort_all {ms K M : List En} (hp : M.Perm (K ++ ms)) (hM : M.Pairwise (fun a b => lt b a = false)) (hK : K.Pairwise (fun x y => lt x y = true)) (hd : (K ++ ms).Pairwise dif) : M = insAll ms K := by
  refine sorted_eq (hp.trans (insAll_perm ms K).symm) ?_ (insAll_sorted ms hK hd)
  have hnd : M.Pairwise dif := hp.symm.pairwise hd (fun h => dif_symm h)
  refine (hM.and hnd).imp fun {a b} h => ?_
  cases e : lt a b with
  | true => rfl
  | false => exact absurd (lt_same e h.1) h.2

theorem last_split {l : List UInt8} (h : 47 ∈ l) : ∃ a b, 47 ∉ b ∧ l = a ++ 47 :: b := by
  obtain ⟨a, b, ha, e⟩ := split_at l.reverse 47 (by simpa using h)
  refine ⟨b.reverse, a.reverse, by simpa using ha, ?_⟩
  have := congrArg List.reverse e
  simpa using this
/-- A tree that passes Check. -/
structure Good (L : List En) : Prop where
  len : L.length ≤ 60
  ents : ∀ e ∈ L, entE e = 0
  rise : L.Pairwise (fun x y => lt x y = true)
  pars : ∀ e ∈ L, foldE L (par e.path.data.toList) = 0
theorem ents_zero {L : List En} (h : ∀ e ∈ L, entE e = 0) : entsE L = 0 := by
  induction L with
  | nil => rfl
  | cons a r ih => rw [entsE, if_pos (h a (by simp))]; exact ih fun e he => h e (by simp [he])
theorem good_iff (L : List En) : treeE L = 0 ↔ Good L := by
  constructor
  · intro h
    have h1 : ¬ 60 < L.length := by
      intro h6; rw [treeE, if_pos h6] at h; cases h
    have h2 : entsE L = 0 := by
      by_cases he : entsE L = 0
      · exact he
      · rw [treeE, if_neg h1, if_neg he] at h; exact h
    rw [treeE, if_neg h1, if_pos h2] at h
    have h3 : risesB L = true := by
      cases hr : risesB L with
      | true => rfl
      | false => rw [if_neg (by rw [hr]; decide)] at h; cases h
    rw [if_pos h3, parsE] at h
    have h5 : L.any (fun e => parF L e == 5) = false := by
      cases hr : L.any (fun e => parF L e == 5) with
      | false => rfl
      | true => rw [if_pos hr] at h; cases h
    rw [if_neg (by rw [h5]; decide)] at h
    have h4 : L.any (fun e => parF L e == 4) = false := by
      cases hr : L.any (fun e => parF L e == 4) with
      | false => rfl
      | true => rw [if_pos hr] at h; cases h
    refine ⟨by omega, entsE_all h2, (rises_pair L).1 h3, fun e he => ?_⟩
    have a5 : ¬ parF L e = 5 := fun x => by
      have := List.any_eq_false.1 h5 e he; simp [x] at this
    have a4 : ¬ parF L e = 4 := fun x => by
      have := List.any_eq_false.1 h4 e he; simp [x] at this
    rcases foldE_range L (par e.path.data.toList) with h | h | h
    · exact h
    · exact absurd h a4
    · exact absurd h a5
  · intro h
    have n5 : L.any (fun e => parF L e == 5) = false := List.any_eq_false.2 fun e he => by
      have := h.pars e he; rw [parF, this]; decide
    have n4 : L.any (fun e => parF L e == 4) = false := List.any_eq_false.2 fun e he => by
      have := h.pars e he; rw [parF, this]; decide
    rw [treeE, if_neg (by have := h.len; omega), if_pos (ents_zero h.ents), if_pos ((rises_pair L).2 h.rise), parsE, if_neg (by rw [n5]; decide), if_neg (by rw [n4]; decide)]
theorem fold_zero {L : List En} {p : List UInt8} (h : foldE L p = 0) (hp : p ≠ []) : ∃ x, x ∈ L ∧ x.path.data.toList = p ∧ x.folder = true ∧ L.find? (atB p) = some x := by
  rw [foldE, if_neg hp] at h
  cases hf : L.find? (atB p) with
  | none => rw [hf] at h; cases h
  | some x =>
    rw [hf] at h
    have h1 := List.find?_some hf
    refine ⟨x, List.mem_of_find?_eq_some hf, by simpa [atB] using h1, ?_, rfl⟩
    cases hx : x.folder with
    | true => rfl
    | false => simp [hx] at h
theorem Good.uniq {L : List En} (h : Good L) {x y : En} (hx : x ∈ L) (hy : y ∈ L) (e : x.path.data.toList = y.path.data.toList) : x = y := by
  have hd : L.Pairwise dif := h.rise.imp fun h => lt_dif h
  obtain ⟨i, hi, rfl⟩ := List.getElem_of_mem hx
  obtain ⟨j, hj, rfl⟩ := List.getElem_of_mem hy
  rw [List.pairwise_iff_getElem] at hd
  rcases Nat.lt_trichotomy i j with h | h | h
  · exact absurd e (hd i j hi hj h)
  · subst h; rfl
  · exact absurd e.symm (hd j i hj hi h)
theorem sorted_find {L : List En} (hr : L.Pairwise (fun x y => lt x y = true)) {x : En} (hx : x ∈ L) : L.find? (atB x.path.data.toList) = some x := by
  have hd : L.Pairwise dif := hr.imp fun h => lt_dif h
  cases hf : L.find? (atB x.path.data.toList) with
  | none => have := List.find?_eq_none.1 hf x hx; simp [atB] at this
  | some y =>
    have h1 : y.path.data.toList = x.path.data.toList := by have := List.find?_some hf; simpa [atB] using this
    have hy := List.mem_of_find?_eq_some hf
    obtain ⟨i, hi, rfl⟩ := List.getElem_of_mem hx
    obtain ⟨j, hj, rfl⟩ := List.getElem_of_mem hy
    rw [List.pairwise_iff_getElem] at hd
    rcases Nat.lt_trichotomy i j with h | h | h
    · exact absurd h1.symm (hd i j hi hj h)
    · subst h; rfl
    · exact absurd h1 (hd j i hj hi h)
theorem chk_path_ne {l : List UInt8} (h : chk l = 0) : l ≠ [] := by
  intro e; subst e; exact absurd h (by decide)
/-- Whatever is within a path is so by its parents. -/
theorem anc {L : List En} (hp : ∀ e ∈ L, foldE L (par e.path.data.toList) = 0) {q : List UInt8} (hq : q ≠ []) : ∀ (n : Nat) (e : En), e ∈ L → e.path.data.toList.length ≤ n → isInB e.path.data.toList q = true → ∃ x ∈ L, x.path.data.toList = q := by
  intro n
  induction n with
  | zero =>
    intro e he hl hi
    rcases (isIn_of _ _).1 hi with h | ⟨r, h⟩
    · exact ⟨e, he, h⟩
    · rw [h] at hl; simp at hl
  | succ n ih =>
    intro e he hl hi
    rcases (isIn_of _ _).1 hi with h | ⟨r, h⟩
    · exact ⟨e, he, h⟩
    · obtain ⟨a, b, hb, e2⟩ := last_split (l := e.path.data.toList) (by rw [h]; simp)
      have hpar : par e.path.data.toList = a := by rw [e2]; exact par_cut a hb
      have hf := hp e he
      rw [hpar] at hf
      have hqa : isInB a q = true := by
        rw [isIn_of]
        have e3 : a ++ 47 :: b = q ++ 47 :: r := e2.symm.trans h
        by_cases hr : 47 ∈ r
        · obtain ⟨r1, r2, hr2, er⟩ := last_split hr
          have : par (a ++ 47 :: b) = par ((q ++ 47 :: r1) ++ 47 :: r2) := by rw [e3, er]; simp
          rw [par_cut a hb, par_cut _ hr2] at this
          exact Or.inr ⟨r1, this⟩
        · have : par (a ++ 47 :: b) = par (q ++ 47 :: r) := by rw [e3]
          rw [par_cut a hb, par_cut _ hr] at this
          exact Or.inl this
      have ha : a ≠ [] := by
        intro e0
        rcases (isIn_of _ _).1 hqa with h | ⟨r, h⟩
        · exact hq (h.symm.trans e0)
        · rw [e0] at h; simp at h
      obtain ⟨x, hx, hxp, _, _⟩ := fold_zero hf ha
      refine ih x hx ?_ (by rw [hxp]; exact hqa)
      rw [hxp]
      have : e.path.data.toList.length = a.length + b.length + 1 := by rw [e2]; simp; omega
      omega
theorem anc' {L : List En} (hp : ∀ e ∈ L, foldE L (par e.path.data.toList) = 0) {q : List UInt8} (hq : q ≠ []) {e : En} (he : e ∈ L) (hi : isInB e.path.data.toList q = true) : ∃ x ∈ L, x.path.data.toList = q := anc hp hq _ e he (Nat.le_refl _) hi
theorem isIn_refl (p : List UInt8) : isInB p p = true := (isIn_of p p).2 (Or.inl rfl)
theorem isIn_pre {p q : List UInt8} (h : isInB p q = true) : ∃ s, p = q ++ s := by
  rcases (isIn_of p q).1 h with h | ⟨r, h⟩
  · exact ⟨[], by simpa using h⟩
  · exact ⟨_, h⟩
theorem mvT_in {p f t : List UInt8} (h : isInB p f = true) : isInB (mvT p f t) t = true := by
  rcases (isIn_of p f).1 h with h | ⟨r, h⟩
  · rw [isIn_of, mvT, h]; simp
  · rw [isIn_of, mvT, h]; simp
theorem mvT_inj {p p' f t : List UInt8} (h : isInB p f = true) (h' : isInB p' f = true) (e : mvT p f t = mvT p' f t) : p = p' := by
  obtain ⟨s, rfl⟩ := isIn_pre h
  obtain ⟨s', rfl⟩ := isIn_pre h'
  simpa [mvT] using e
end Go.Proofs.YtogbahkoijkclaaGreat.Pp
