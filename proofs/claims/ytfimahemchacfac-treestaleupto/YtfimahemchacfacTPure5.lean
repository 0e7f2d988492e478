/- What the law TreeStale says, as plain mathematics. -/
import Derived.Test.YtfimahemchacfacT24
set_option linter.unusedSimpArgs false
set_option linter.unusedVariables false
namespace Go.Proofs.Ytfimahemchacfac.Pp

theorem chg_base (k : Int) (p q t : ByteArray) {a b : Int} (ha : -1 ≤ a ∧ a ≤ 1000000) (hb : -1 ≤ b ∧ b ≤ 1000000) : chgE ⟨k, p, q, t, a⟩ = chgE ⟨k, p, q, t, b⟩ := by
  have h1 : ¬ (a < -1 ∨ 1000000 < a) := by omega
  have h2 : ¬ (b < -1 ∨ 1000000 < b) := by omega
  simp only [chgE, h1, h2]
theorem plc_base (L : List En) (k : Int) (p q t : ByteArray) (a b : Int) : plcE L ⟨k, p, q, t, a⟩ = plcE L ⟨k, p, q, t, b⟩ := rfl
theorem chd_base (L : List En) (k : Int) (p q t : ByteArray) (a b n : Int) : chdE L ⟨k, p, q, t, a⟩ n = chdE L ⟨k, p, q, t, b⟩ n := rfl
/-- The newest version within a path. -/
def newest (p : List UInt8) (L : List En) : Int := L.foldl (fun m e => if wi p e = true then max m e.ver else m) 0
theorem newest_snoc (p : List UInt8) (L : List En) (e : En) : newest p (L ++ [e]) = if wi p e = true then max (newest p L) e.ver else newest p L := by
  rw [newest, List.foldl_append]; rfl
theorem newest_lt (p : List UInt8) {b : Int} (hb : 0 ≤ b) : ∀ (L : List En) (m : Int), (b < L.foldl (fun m e => if wi p e = true then max m e.ver else m) m) ↔ (b < m ∨ ∃ e ∈ L, stW p b e = true)
  | [], m => by simp
  | e :: r, m => by
    rw [List.foldl_cons, newest_lt p hb r]
    have hs : stW p b e = true ↔ b < e.ver ∧ wi p e = true := by rw [stW]; simp
    constructor
    · rintro (h | ⟨x, hx, h⟩)
      · by_cases hw : wi p e = true
        · rw [if_pos hw] at h
          by_cases hm : b < m
          · exact Or.inl hm
          · exact Or.inr ⟨e, by simp, hs.2 ⟨by omega, hw⟩⟩
        · rw [if_neg hw] at h; exact Or.inl h
      · exact Or.inr ⟨x, by simp [hx], h⟩
    · rintro (h | ⟨x, hx, h⟩)
      · by_cases hw : wi p e = true
        · rw [if_pos hw]; exact Or.inl (by omega)
        · rw [if_neg hw]; exact Or.inl h
      · rcases List.mem_cons.1 hx with rfl | hx
        · have := hs.1 h
          rw [if_pos this.2]; exact Or.inl (by omega)
        · exact Or.inr ⟨x, hx, h⟩
theorem stl_newest {L : List En} {k : Int} {p q t : ByteArray} {b : Int} (hb : 0 ≤ b) : stl L ⟨k, p, q, t, b⟩ = true ↔ b < newest p.data.toList L := by
  rw [newest, newest_lt _ hb, stl, Bool.and_eq_true]
  have h1 : (!(b == -1)) = true := by simp; omega
  constructor
  · rintro ⟨_, h⟩
    exact Or.inr (List.any_eq_true.1 h)
  · rintro (h | h)
    · omega
    · exact ⟨h1, List.any_eq_true.2 h⟩
theorem tree_not8 (L : List En) : treeE L ≠ 8 := by
  have hent : ∀ e : En, entE e ≤ 3 := fun e => by
    unfold entE verE
    have := chk_range e.path.data.toList
    split
    · split
      · omega
      · split
        · omega
        · split <;> omega
    · omega
  have hents : ∀ M : List En, entsE M ≤ 3 := fun M => by
    induction M with
    | nil => simp [entsE]
    | cons a r ih => rw [entsE]; split; exact ih; exact hent a
  have := hents L
  unfold treeE parsE
  split
  · omega
  · split
    · split
      · split
        · omega
        · split <;> omega
      · omega
    · omega
/-- By a base that asks for nothing: an error, or none; by another one: the same, or ErrStale. -/
theorem stale_law (L : List En) (k : Int) (p q t : ByteArray) (n : Int) {b : Int} (hb : 0 ≤ b) (hb2 : b ≤ 1000000) :
    (tapE L ⟨k, p, q, t, -1⟩ n ≠ 0 → tapE L ⟨k, p, q, t, b⟩ n ≠ 0) ∧
    (tapE L ⟨k, p, q, t, -1⟩ n = 0 → (b < newest p.data.toList L ∧ tapE L ⟨k, p, q, t, b⟩ n = 8) ∨ (newest p.data.toList L ≤ b ∧ tapE L ⟨k, p, q, t, b⟩ n = 0)) := by
  have hch := chg_base k p q t (a := -1) (b := b) (by omega) (by omega)
  have hpl := plc_base L k p q t (-1) b
  have hcd := chd_base L k p q t (-1) b n
  have hs1 : stl L ⟨k, p, q, t, -1⟩ = false := by rw [stl]; simp
  by_cases htr : treeE L = 0
  · rw [tapE_yes htr, tapE_yes htr]
    by_cases hv : verE n = 0
    · by_cases hc : chgE ⟨k, p, q, t, -1⟩ = 0
      · by_cases hp : plcE L ⟨k, p, q, t, -1⟩ = 0
        · rw [app_chd hv hc hp hs1]
          have hc' := hch ▸ hc
          have hp' := hpl ▸ hp
          cases hst : stl L ⟨k, p, q, t, b⟩ with
          | true =>
            rw [app_stl hv hc' hp' hst]
            exact ⟨fun _ => by decide, fun _ => Or.inl ⟨(stl_newest hb).1 hst, rfl⟩⟩
          | false =>
            rw [app_chd hv hc' hp' hst, ← hcd]
            refine ⟨fun h => h, fun h => Or.inr ⟨?_, h⟩⟩
            by_cases hlt : b < newest p.data.toList L
            · rw [(stl_newest hb).2 hlt] at hst; cases hst
            · omega
        · rw [app_plc hv hc hp, app_plc hv (hch ▸ hc) (hpl ▸ hp), ← hpl]
          exact ⟨fun h => h, fun h => absurd h hp⟩
      · rw [app_chg hv hc, app_chg hv (hch ▸ hc), ← hch]
        exact ⟨fun h => h, fun h => absurd h hc⟩
    · rw [app_ver hv, app_ver hv]
      exact ⟨fun h => h, fun h => absurd h hv⟩
  · rw [tapE_no htr, tapE_no htr]
    exact ⟨fun h => h, fun h => absurd h htr⟩
end Go.Proofs.Ytfimahemchacfac.Pp
