/- Changes that lie in memory. -/
import Derived.Test.YtogbahkoijkclaaGreatTPure3
set_option linter.unusedSimpArgs false
set_option linter.unusedVariables false
namespace Go.Proofs.YtogbahkoijkclaaGreat
open Go.RowKit

/-- A change lies at a place: its five cells. -/
def ChAt (w : World) (b o : Nat) (c : Pp.Ch) : Prop := w.cell? ⟨b, o, none⟩ = some (.int .i64 c.k) ∧ w.cell? ⟨b, o + 1, none⟩ = some (.string c.p) ∧ w.cell? ⟨b, o + 2, none⟩ = some (.string c.q) ∧ w.cell? ⟨b, o + 3, none⟩ = some (.string c.t) ∧ w.cell? ⟨b, o + 4, none⟩ = some (.int .i64 c.b)
def LiesC (w : World) (v : Value) (cs : List Pp.Ch) : Prop := ∃ a cap, v = .slice a cs.length cap ∧ cs.length ≤ cap ∧ cs.length ≤ 1000000000000000 ∧ ∀ i (h : i < cs.length), ∃ b o, a = some ⟨b, o, none⟩ ∧ b < w.heap.size ∧ ChAt w b (o + i * 5) cs[i]
theorem ChAt.below {w w' : World} {b o : Nat} {c : Pp.Ch} (h : ChAt w b o c) (hb : b < w.heap.size) (hw : Below w.heap.size w w') : ChAt w' b o c :=
  ⟨(hw.cell (p := ⟨b, o, none⟩) hb).trans h.1, (hw.cell (p := ⟨b, o + 1, none⟩) hb).trans h.2.1, (hw.cell (p := ⟨b, o + 2, none⟩) hb).trans h.2.2.1, (hw.cell (p := ⟨b, o + 3, none⟩) hb).trans h.2.2.2.1, (hw.cell (p := ⟨b, o + 4, none⟩) hb).trans h.2.2.2.2⟩
theorem LiesC.below {w w' : World} {v : Value} {cs : List Pp.Ch} (h : LiesC w v cs) (hw : Below w.heap.size w w') : LiesC w' v cs := by
  obtain ⟨a, cap, hv, h1, h2, h3⟩ := h
  refine ⟨a, cap, hv, h1, h2, fun i hi => ?_⟩
  obtain ⟨b, o, ha, hb, he⟩ := h3 i hi
  exact ⟨b, o, ha, Nat.lt_of_lt_of_le hb hw.size, he.below hb hw⟩
def SizedC (B : Nat) (cs : List Pp.Ch) : Prop := ∀ c ∈ cs, c.p.size ≤ B ∧ c.q.size ≤ B ∧ c.t.size ≤ B
end Go.Proofs.YtogbahkoijkclaaGreat
