/- A slice of numbers that is handed in, as a row of numbers. -/
import Derived.Test.YtnaedemkpiagmaaUL3b
import Derived.WalkKit
import Derived.ProofKit
import Derived.OpenShut
import Derived.ChangeSlices
import Derived.SizedLaws
set_option linter.unusedSimpArgs false
set_option linter.unusedVariables false
namespace Go.Proofs.Ytnaedemkpiagmaa
open Go.ChangeShapes Go.WideShapes Go.ChangeAt Go.RowKit

theorem liesI_nil (w : World) : LiesI w (.slice none 0 0) [] := ⟨none, 0, rfl, Nat.le_refl _, by simp, fun i hi => absurd hi (by simp), fun c hc => by cases hc⟩
theorem Try.cellsI : Try.prog.cellsOf 3 = 1 := by kernel_rfl
theorem Try.bytesI : Try.prog.bytesOf 3 = 8 := by kernel_rfl

set_option maxRecDepth 100000 in
theorem open_cuts {H : Type} {enc : TypeId × Value → H} {W : World} {r : Reach} {b0 : Nat} {v : Value} {d : DataW H} {pl : List MemPlace} (hv : Value.okWide Try.prog W r b0 39 v) (h : DataW.Trod enc Try.prog W 0 (fun _ => true) true 39 v d pl) (hk : ∀ n ∈ d.weights Try.prog 39, n ≤ reachBytes) : ∃ C, LiesI W v C := by
  obtain ⟨a0, len0, cap0, rfl⟩ := okWide_slice Try.underlying39 hv
  obtain ⟨fuel, hf⟩ := h
  rcases open_ints Try.underlying39 Try.underlying3 Try.cellsI hf with ⟨hcs, hx⟩ | ⟨a, len, cap, zs, hcs, _, hle, hmax, hall, hx, hcell, hwf⟩
  · simp [Value.cells] at hcs
    obtain ⟨rfl, rfl, rfl⟩ := hcs
    exact ⟨[], liesI_nil _⟩
  · simp [Value.cells] at hcs
    obtain ⟨rfl, rfl, rfl⟩ := hcs
    have hd := (Prod.mk.inj hx).1
    have hzl : zs.length = cap0 := hall.trans (if_pos rfl)
    have hrb : reachBytes = 140737488351232 := by decide
    have hlen8 : (len0 + (zs.length - len0)) * 8 ≤ reachBytes := by
      have := hk ((len0 + (zs.length - len0)) * 8) (by
        rw [hd, DataW.weights]
        simp only [Try.underlying39, Try.bytesI, lits, List.length_map, List.length_take, List.length_drop]
        rw [show min len0 zs.length = len0 by omega]
        exact List.mem_cons_self ..)
      exact this
    rw [hrb] at hlen8
    refine ⟨zs.take len0, some a, cap0, ?_, ?_, ?_, ?_, ?_⟩
    · rw [List.length_take, show min len0 zs.length = len0 by omega]
    · rw [List.length_take]; omega
    · rw [List.length_take]; omega
    · intro i hi
      rw [List.length_take] at hi
      obtain ⟨b, off, rfl, hc⟩ := ints_at hcell (by omega)
      have k := hc i (by omega)
      have hlt : b < W.heap.size := by
        rcases Nat.lt_or_ge b W.heap.size with h | h
        · exact h
        · unfold World.cell? at k; rw [Array.getElem?_eq_none h] at k; cases k
      refine ⟨b, off, rfl, hlt, ?_⟩
      rw [k, List.getElem_take, List.getD_eq_getElem?_getD, List.getElem?_eq_getElem (by omega)]
      rfl
    · intro c hc
      have h := hwf c (List.mem_of_mem_take hc)
      simp only [Lit.wf, Bool.and_eq_true, decide_eq_true_eq] at h
      exact h
theorem uploadWhole_walk (p t : ByteArray) (v : Value) (C : List Int) (q : Int) (w : World) (hv : LiesI w v C) (hq1 : -9223372036854775808 ≤ q) (hq2 : q ≤ 9223372036854775807) (hp : p.size ≤ 150000000000000) (ht : t.size ≤ 150000000000000) :
    Calls Try.prog 6 #[.string p, .string t, v, .int .i64 q] w fun e w' => e = .returned (.bool true) ∧ Below w.heap.size w w' := by
  cases hn : Pp.nameB p.data.toList with
  | false => exact uploadWhole_no p t v q w hp ht (Or.inl hn)
  | true =>
    by_cases h3 : 300 < t.size
    · exact uploadWhole_no p t v q w hp ht (Or.inr ⟨hn, h3⟩)
    · exact uploadWhole_yes p t v C q w hv hq1 hq2 hn (by omega)
end Go.Proofs.Ytnaedemkpiagmaa
