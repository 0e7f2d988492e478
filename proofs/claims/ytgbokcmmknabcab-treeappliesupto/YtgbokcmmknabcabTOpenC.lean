/- A change that is handed in: its fields, and how great they are. -/
import Derived.Test.YtgbokcmmknabcabTOpen
import Derived.Test.YtgbokcmmknabcabTPure4
set_option linter.unusedSimpArgs false
set_option linter.unusedVariables false
namespace Go.Proofs.Ytgbokcmmknabcab
open Go.ChangeShapes Go.WideShapes Go.ChangeAt Go.RowKit

theorem Try.cellsC : Try.prog.cellsOf 43 = 5 := by kernel_rfl
theorem list5 {α : Type} {l : List α} (h : l.length = 5) : ∃ a b c d e, l = [a, b, c, d, e] := by
  rcases l with _ | ⟨a, _ | ⟨b, _ | ⟨c, _ | ⟨d, _ | ⟨e, _ | ⟨f, r⟩⟩⟩⟩⟩⟩
  all_goals first | exact ⟨a, b, c, d, e, rfl⟩ | (simp at h)

theorem fields5 {H : Type} {enc : TypeId × Value → H} {P : Program} {w : World} {base : Nat} {spare : Nat → Bool} {held : Bool} {t : TypeId} {f0 f1 f2 f3 f4 : Field} {fuel : Nat} {cs : List Value} {x : DataW H × List MemPlace} (ht : P.underlying t = some (.struct #[f0, f1, f2, f3, f4])) (h : DataW.trod enc P w base spare held fuel t cs = some x) :
    ∃ y0 y1 y2 y3 y4 n, x = (.agg [y0.1, y1.1, y2.1, y3.1, y4.1], y0.2 ++ (y1.2 ++ (y2.2 ++ (y3.2 ++ y4.2)))) ∧ cs.length = P.cellsOf t ∧ DataW.trod enc P w base spare held n f0.type ((cs.drop f0.offset).take (P.cellsOf f0.type)) = some y0 ∧
      DataW.trod enc P w base spare held n f1.type ((cs.drop f1.offset).take (P.cellsOf f1.type)) = some y1 ∧ DataW.trod enc P w base spare held n f2.type ((cs.drop f2.offset).take (P.cellsOf f2.type)) = some y2 ∧
      DataW.trod enc P w base spare held n f3.type ((cs.drop f3.offset).take (P.cellsOf f3.type)) = some y3 ∧ DataW.trod enc P w base spare held n f4.type ((cs.drop f4.offset).take (P.cellsOf f4.type)) = some y4 := by
  obtain ⟨xs, n, _, rfl, hl, hlen, hf⟩ := DataW.trod_struct ht h
  match xs, hlen with
  | [y0, y1, y2, y3, y4], _ => exact ⟨y0, y1, y2, y3, y4, n, by simp, hl, by simpa using hf 0 f0 rfl, by simpa using hf 1 f1 rfl, by simpa using hf 2 f2 rfl, by simpa using hf 3 f3 rfl, by simpa using hf 4 f4 rfl⟩

set_option maxRecDepth 100000 in
theorem open_change {B : Nat} {H : Type} {enc : TypeId × Value → H} {W : World} {r : Reach} {b0 : Nat} {v : Value} {d : DataW H} {pl : List MemPlace} (hv : Value.okWide Try.prog W r b0 43 v) (h : DataW.Trod enc Try.prog W 0 (fun _ => true) true 43 v d pl) (hk : Rows.uptoBulk d ≤ B) :
    ∃ (k : Int) (p q t : ByteArray) (b : Int), v = .agg #[.int .i64 k, .string p, .string q, .string t, .int .i64 b] ∧ p.size ≤ B ∧ q.size ≤ B ∧ t.size ≤ B := by
  obtain ⟨cs, rfl, hsz⟩ := okWide_struct Try.underlying43 hv
  obtain ⟨fuel, hf⟩ := h
  have hf' : DataW.trod enc Try.prog W 0 (fun _ => true) true fuel 43 cs.toList = some (d, pl) := by simpa [Value.cells] using hf
  obtain ⟨y0, y1, y2, y3, y4, n', hx, hlen, t0, t1, t2, t3, t4⟩ := fields5 Try.underlying43 hf'
  rw [Try.cellsC] at hlen
  obtain ⟨c0, c1, c2, c3, c4, hcs⟩ := list5 hlen
  rw [hcs] at t0 t1 t2 t3 t4
  have t0' : DataW.trod enc Try.prog W 0 (fun _ => true) true n' 3 [c0] = some y0 := by simpa [Try.cells3] using t0
  have t1' : DataW.trod enc Try.prog W 0 (fun _ => true) true n' 9 [c1] = some y1 := by simpa [Try.cells9] using t1
  have t2' : DataW.trod enc Try.prog W 0 (fun _ => true) true n' 9 [c2] = some y2 := by simpa [Try.cells9] using t2
  have t3' : DataW.trod enc Try.prog W 0 (fun _ => true) true n' 9 [c3] = some y3 := by simpa [Try.cells9] using t3
  have t4' : DataW.trod enc Try.prog W 0 (fun _ => true) true n' 3 [c4] = some y4 := by simpa [Try.cells3] using t4
  obtain ⟨s0, e0, g0, _⟩ := DataW.trod_int Try.underlying3 t0'
  obtain ⟨s1, e1, g1, _⟩ := DataW.trod_string Try.underlying9 t1'
  obtain ⟨s2, e2, g2, _⟩ := DataW.trod_string Try.underlying9 t2'
  obtain ⟨s3, e3, g3, _⟩ := DataW.trod_string Try.underlying9 t3'
  obtain ⟨s4, e4, g4, _⟩ := DataW.trod_int Try.underlying3 t4'
  obtain rfl : c0 = .int .i64 s0 := by simpa using e0
  obtain rfl : c1 = .string s1 := by simpa using e1
  obtain rfl : c2 = .string s2 := by simpa using e2
  obtain rfl : c3 = .string s3 := by simpa using e3
  obtain rfl : c4 = .int .i64 s4 := by simpa using e4
  subst g0; subst g1; subst g2; subst g3; subst g4
  simp only [Prod.mk.injEq] at hx
  have hb := hx.1
  rw [hb, Rows.uptoBulk, Rows.uptoBulkAll, Rows.uptoBulkAll, Rows.uptoBulkAll, Rows.uptoBulkAll, Rows.uptoBulkAll, Rows.uptoBulkAll, Rows.uptoBulk, Rows.uptoBulk, Rows.uptoBulk, Rows.uptoBulk, Rows.uptoBulk] at hk
  · refine ⟨s0, s1, s2, s3, s4, ?_, ?_, ?_, ?_⟩
    · congr 1
      exact Array.ext' (by simpa using hcs)
    · rw [Lib.size_eq]; omega
    · rw [Lib.size_eq]; omega
    · rw [Lib.size_eq]; omega
  · intro b h; cases h
  · intro b h; cases h
end Go.Proofs.Ytgbokcmmknabcab
