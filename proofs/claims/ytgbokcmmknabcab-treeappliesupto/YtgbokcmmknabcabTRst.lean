/- What is left to tell of a change that is right by its form and its place. -/
import Derived.Test.YtgbokcmmknabcabT29
import Derived.Test.YtgbokcmmknabcabT25
import Derived.Test.YtgbokcmmknabcabTReg
import Derived.Deep.RegionHeld3
import Derived.Deep.RegionLaw
import Derived.Deep.DeepCutAuto
set_option linter.unusedSimpArgs false
set_option linter.unusedVariables false
namespace Go.Proofs.Ytgbokcmmknabcab
open Go.RowKit

namespace Pp
/-- What is left to tell, where a change is right by its form and its place. -/
def rstE (L : List En) (c : Ch) (n : Int) : Int := if stl L c = true then 8 else chdE L c n
theorem ins_len (x : En) (K : List En) : (ins x K).length = K.length + 1 := by rw [(ins_perm x K).length_eq]; rfl
theorem stl_no {L : List En} {k : Int} {p q t : ByteArray} {b : Int} (hb : -1 ≤ b) (h : ∀ j (h : j < L.length), 0 ≤ b → stW p.data.toList b L[j] = false) : stl L ⟨k, p, q, t, b⟩ = false := by
  rw [stl]
  by_cases h1 : b = -1
  · simp [h1]
  · rw [List.any_eq_false.2, Bool.and_false]
    intro x hx
    obtain ⟨j, hj, rfl⟩ := List.getElem_of_mem hx
    rw [h j hj (by omega)]; decide
theorem stl_yes {L : List En} {k : Int} {p q t : ByteArray} {b : Int} {j : Nat} (hb : 0 ≤ b) (hj : j < L.length) (h1 : isInB (L[j]).path.data.toList p.data.toList = true) (h2 : b < (L[j]).ver) : stl L ⟨k, p, q, t, b⟩ = true := by
  rw [stl]
  have e : (b == -1) = false := by simpa using (by omega : ¬ b = -1)
  have : L.any (stW p.data.toList b) = true := List.any_eq_true.2 ⟨L[j], List.getElem_mem hj, by rw [stW, wi, h1]; simp [h2]⟩
  simp only [e, this]; rfl
theorem stW_in {p : List UInt8} {b : Int} {e : En} (h : isInB e.path.data.toList p = false) : stW p b e = false := by rw [stW, wi, h, Bool.and_false]
theorem stW_ver {p : List UInt8} {b : Int} {e : En} (h : ¬ b < e.ver) : stW p b e = false := by rw [stW]; simp [h]
theorem no_text {t : ByteArray} (h : t.data.toList = []) : t = ⟨#[]⟩ := by
  cases t with
  | mk d => cases d with
    | mk l => simp at h; subst h; rfl
end Pp

end Go.Proofs.Ytgbokcmmknabcab
