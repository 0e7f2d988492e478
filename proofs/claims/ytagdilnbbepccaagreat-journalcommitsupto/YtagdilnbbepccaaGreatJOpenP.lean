/- Pages that are handed in. -/
import Derived.Test.YtagdilnbbepccaaGreatML
import Derived.Test.YtagdilnbbepccaaGreatMN
set_option linter.unusedSimpArgs false
set_option linter.unusedVariables false
namespace Go.Proofs.YtagdilnbbepccaaGreat
open Go.ChangeShapes Go.WideShapes Go.ChangeAt Go.RowKit

theorem Tryz.cellsPg : Tryz.prog.cellsOf 40 = 5 := by kernel_rfl
theorem bulk5 {H : Type} (a b c d e : DataW H) : Rows.uptoBulk (.agg [a, b, c, d, e]) = 1 + (Rows.uptoBulk a + (Rows.uptoBulk b + (Rows.uptoBulk c + (Rows.uptoBulk d + Rows.uptoBulk e)))) := by
  rw [Rows.uptoBulk, Rows.uptoBulkAll, Rows.uptoBulkAll, Rows.uptoBulkAll, Rows.uptoBulkAll, Rows.uptoBulkAll, Rows.uptoBulkAll]
  omega

set_option maxRecDepth 100000 in
theorem open_page {B : Nat} (hB : B ≤ 1000000000) {H : Type} {enc : TypeId × Value → H} {W : World} {r : Reach} {b0 : Nat} {v : Value} {d : DataW H} {pl : List MemPlace} (hv : Value.okWide Tryz.prog W r b0 40 v) (h : DataW.Trod enc Tryz.prog W 0 (fun _ => true) true 40 v d pl) (hk : Rows.uptoBulk d ≤ B) :
    ∃ P : Pg, LiesP W v P ∧ P.cos.length ≤ B ∧ SizedO B P.cos ∧ ∀ e ∈ P.tree, e.path.size ≤ B ∧ e.text.size ≤ B := by
  obtain ⟨cs, rfl, hsz⟩ := okWide_struct Tryz.underlying40 hv
  obtain ⟨fuel, hf⟩ := h
  have hf' : DataW.trod enc Tryz.prog W 0 (fun _ => true) true fuel 40 cs.toList = some (d, pl) := by simpa [Value.cells] using hf
  obtain ⟨y0, y1, y2, y3, y4, n', hx, hlen, t0, t1, t2, t3, t4⟩ := fields5 Tryz.underlying40 hf'
  rw [Tryz.cellsPg] at hlen
  obtain ⟨c0, c1, c2, c3, c4, hcs⟩ := list5 hlen
  rw [hcs] at t0 t1 t2 t3 t4
  have t0' : DataW.trod enc Tryz.prog W 0 (fun _ => true) true n' 4 [c0] = some y0 := by simpa [Tryz.cells4] using t0
  have t1' : DataW.trod enc Tryz.prog W 0 (fun _ => true) true n' 22 [c1] = some y1 := by simpa [Tryz.cellsSE] using t1
  have t2' : DataW.trod enc Tryz.prog W 0 (fun _ => true) true n' 23 [c2] = some y2 := by simpa [Tryz.cellsSO] using t2
  have t3' : DataW.trod enc Tryz.prog W 0 (fun _ => true) true n' 3 [c3] = some y3 := by simpa [Tryz.cells3] using t3
  have t4' : DataW.trod enc Tryz.prog W 0 (fun _ => true) true n' 4 [c4] = some y4 := by simpa [Tryz.cells4] using t4
  obtain ⟨s0, e0, g0⟩ := DataW.trod_bool Tryz.underlying4 t0'
  obtain ⟨s3, e3, g3, _⟩ := DataW.trod_int Tryz.underlying3 t3'
  obtain ⟨s4, e4, g4⟩ := DataW.trod_bool Tryz.underlying4 t4'
  obtain rfl : c0 = .bool s0 := by simpa using e0
  obtain rfl : c3 = .int .i64 s3 := by simpa using e3
  obtain rfl : c4 = .bool s4 := by simpa using e4
  subst g0; subst g3; subst g4
  obtain ⟨d1, p1⟩ := y1
  obtain ⟨d2, p2⟩ := y2
  simp only [Prod.mk.injEq] at hx
  rw [hx.1, bulk5] at hk
  obtain ⟨L, hL, _, hLs⟩ := open_tree (B := B) hB (fuel := n') t1' (by omega)
  obtain ⟨l, hl, hll, hls⟩ := open_commits (B := B) hB t2' (by omega)
  have hag : cs = #[.bool s0, c1, c2, .int .i64 s3, .bool s4] := Array.ext' (by simpa using hcs)
  exact ⟨⟨s0, L, l, s3, s4⟩, ⟨c1, c2, by rw [hag], hL, hl⟩, hll, hls, hLs⟩
end Go.Proofs.YtagdilnbbepccaaGreat
