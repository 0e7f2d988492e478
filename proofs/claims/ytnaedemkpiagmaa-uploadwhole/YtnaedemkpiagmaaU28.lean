/- What Query and Finish answer of one session whose text is there whole. -/
import Derived.Test.YtnaedemkpiagmaaU27
set_option linter.unusedSimpArgs false
set_option linter.unusedVariables false
namespace Go.Proofs.Ytnaedemkpiagmaa
open Go.RowKit

theorem w1_first {p t : ByteArray} {c : Nat} {till now : Int} (h : now ≤ till) (hk : 0 < (Pp.swL now [Pp.who1 p t c till]).length) : (Pp.swL now [Pp.who1 p t c till])[0] = Pp.who1 p t c till := by
  have : ∀ (L : List Se) (h : 0 < L.length), L = [Pp.who1 p t c till] → L[0] = Pp.who1 p t c till := by
    intro L h e; subst e; rfl
  exact this _ hk (Pp.w1_sw h)
theorem query_w (p t : ByteArray) (till : Int) (u : Value) (w : World) (hu : LiesS w u [Pp.who1 p t t.size till]) (hp : Pp.nameB p.data.toList = true) (hps : p.size ≤ 1000) (ht : t.size ≤ 300) (h1 : 13 ≤ till) (h2 : till ≤ 14) :
    Calls Try.prog 13 #[.agg #[u, .int .i64 8, .int .i64 10, .int .i64 1000], .string p, .int .i64 7, .int .i64 5] w fun e w' => e = .returned (.tuple #[.int .i64 (t.size : Int), .int .i64 0]) ∧ Below w.heap.size w w' := by
  have hk : 0 < (Pp.swL 5 [Pp.who1 p t t.size till]).length := by rw [Pp.w1_sw (by omega)]; simp
  refine (query_k [Pp.who1 p t t.size till] u 8 10 1000 p 7 5 w hu (w1_sized hps (Nat.le_refl _) ht) (by omega) (Pp.w1_fi hp (Nat.le_refl _) ht (by omega) (by omega) (by omega)) 0 hk (by rw [Pp.w1_sw (by omega)]; exact Pp.w1_id p t _ till)).mono ?_
  rintro e w' ⟨rfl, hb⟩
  refine ⟨?_, hb⟩
  rw [w1_first (by omega) hk]
  show Ending.returned (.tuple #[.int .i64 ((t.extract 0 t.size).size : Int), _]) = _
  rw [Pp.ext_all]
theorem finish_w (p t : ByteArray) (till : Int) (u : Value) (w : World) (hu : LiesS w u [Pp.who1 p t t.size till]) (hp : Pp.nameB p.data.toList = true) (hps : p.size ≤ 1000) (ht : t.size ≤ 300) (h1 : 13 ≤ till) (h2 : till ≤ 14) :
    Calls Try.prog 14 #[.agg #[u, .int .i64 8, .int .i64 10, .int .i64 1000], .string p, .int .i64 7, .int .i64 5] w fun e w' => ∃ u', e = .returned (.tuple #[.agg #[u', .int .i64 8, .int .i64 10, .int .i64 1000], .string t, .int .i64 0]) ∧ (∃ a c, u' = .slice a 0 c) ∧ Below w.heap.size w w' := by
  have hk : 0 < (Pp.swL 5 [Pp.who1 p t t.size till]).length := by rw [Pp.w1_sw (by omega)]; simp
  have hs0 := w1_first (p := p) (t := t) (c := t.size) (till := till) (now := 5) (by omega) hk
  refine (finish_k [Pp.who1 p t t.size till] u 8 10 1000 p 7 5 w hu (w1_sized hps (Nat.le_refl _) ht) (by omega) (Pp.w1_fi hp (Nat.le_refl _) ht (by omega) (by omega) (by omega)) 0 hk (by rw [Pp.w1_sw (by omega)]; exact Pp.w1_id p t _ till) (by
    rw [hs0]
    show ¬ ((t.extract 0 t.size).size : Int) < (t.size : Int)
    rw [Pp.ext_all]; omega)).mono ?_
  rintro e w' ⟨u', rfl, ho, hb⟩
  refine ⟨u', ?_, ?_, hb⟩
  · rw [hs0]
    show Ending.returned (.tuple #[_, .string (t.extract 0 t.size), _]) = _
    rw [Pp.ext_all]
  · have hl : ((Pp.swL 5 [Pp.who1 p t t.size till]).take 0 ++ (Pp.swL 5 [Pp.who1 p t t.size till]).drop (0 + 1)).length = 0 := by rw [Pp.w1_sw (by omega)]; simp
    obtain ⟨a, c, h, _⟩ := ho.lies (by omega)
    rw [hl] at h
    exact ⟨a, c, h⟩
end Go.Proofs.Ytnaedemkpiagmaa
