/- One grant that is handed in: its texts, and how great they are. -/
import Derived.Test.YtgjiicnhedekjaaGOpenW
set_option linter.unusedSimpArgs false
set_option linter.unusedVariables false
namespace Go.Proofs.Ytgjiicnhedekjaa
open Go.ChangeShapes Go.WideShapes Go.ChangeAt Go.RowKit

theorem open_grant_w {H : Type} {enc : TypeId × Value → H} {W : World} {r : Reach} {b0 : Nat} {v : Value} {d : DataW H} {pl : List MemPlace} (hv : Value.okWide Try.prog W r b0 33 v) (h : DataW.Trod enc Try.prog W 0 (fun _ => true) true 33 v d pl) (hk : ∀ n ∈ d.weights Try.prog 33, n ≤ reachBytes) :
    ∃ x : Gr, v = .agg #[.string x.fo, .string x.wh, .int .i64 x.ri] ∧ x.fo.size ≤ reachBytes ∧ x.wh.size ≤ reachBytes := by
  obtain ⟨cs, rfl, hsz⟩ := okWide_struct Try.underlying33 hv
  obtain ⟨fuel, hf⟩ := h
  have hf' : DataW.trod enc Try.prog W 0 (fun _ => true) true fuel 33 cs.toList = some (d, pl) := by simpa [Value.cells] using hf
  obtain ⟨y0, y1, y2, n', hx, hlen, t0, t1, t2⟩ := fields3 Try.underlying33 hf'
  rw [Try.cellsG] at hlen
  obtain ⟨c0, c1, c2, hcs⟩ := list3 hlen
  rw [hcs] at t0 t1 t2
  have t0' : DataW.trod enc Try.prog W 0 (fun _ => true) true n' 9 [c0] = some y0 := by simpa [Try.cellsG9] using t0
  have t1' : DataW.trod enc Try.prog W 0 (fun _ => true) true n' 9 [c1] = some y1 := by simpa [Try.cellsG9] using t1
  have t2' : DataW.trod enc Try.prog W 0 (fun _ => true) true n' 3 [c2] = some y2 := by simpa [Try.cellsG3] using t2
  obtain ⟨s0, e0, g0, _⟩ := DataW.trod_string Try.underlying9 t0'
  obtain ⟨s1, e1, g1, _⟩ := DataW.trod_string Try.underlying9 t1'
  obtain ⟨s2, e2, g2, _⟩ := DataW.trod_int Try.underlying3 t2'
  obtain rfl : c0 = .string s0 := by simpa using e0
  obtain rfl : c1 = .string s1 := by simpa using e1
  obtain rfl : c2 = .int .i64 s2 := by simpa using e2
  subst g0; subst g1; subst g2
  simp only [Prod.mk.injEq] at hx
  have hb := hx.1
  have hd : d = datG (H := H) ⟨s0, s1, s2⟩ := hb
  have hw : DataW.weights Try.prog 33 d = [s0.data.toList.length, s1.data.toList.length] := by
    rw [hd, datG, DataW.weights]
    simp only [Try.underlying33]
    simp [DataW.weightsEach, DataW.weights]
  rw [hw] at hk
  refine ⟨⟨s0, s1, s2⟩, ?_, ?_, ?_⟩
  · congr 1
    exact Array.ext' (by simpa using hcs)
  · rw [Lib.size_eq]; exact hk _ (List.mem_cons_self ..)
  · rw [Lib.size_eq]; exact hk _ (List.mem_cons_of_mem _ (List.mem_cons_self ..))
end Go.Proofs.Ytgjiicnhedekjaa
