/- What upload.Open answers, errors too, for every uploads. -/
import Derived.Test.YtnaedemkpiagmaaU8
set_option linter.unusedSimpArgs false
set_option linter.unusedVariables false
namespace Go.Proofs.Ytnaedemkpiagmaa
open Go.RowKit

namespace Pp
/-- Open, where going has no error. -/
def opE (G : List Se) (x l r : Int) (p : ByteArray) (size now : Int) : Int := if ¬ goE G x l r now [p] = 0 then goE G x l r now [p] else if size < 0 ∨ 300 < size ∨ 1099511627776 ≤ x then 3 else if 20 ≤ (swL now G).length then 2 else if r < takS (swL now G) p + size then 10 else 0
theorem op_cases (G : List Se) (x l r : Int) (p : ByteArray) (size now : Int) : (¬ goE G x l r now [p] = 0 ∧ opE G x l r p size now = goE G x l r now [p]) ∨
    (goE G x l r now [p] = 0 ∧ size < 0 ∧ opE G x l r p size now = 3) ∨ (goE G x l r now [p] = 0 ∧ 0 ≤ size ∧ 300 < size ∧ opE G x l r p size now = 3) ∨ (goE G x l r now [p] = 0 ∧ 0 ≤ size ∧ size ≤ 300 ∧ 1099511627776 ≤ x ∧ opE G x l r p size now = 3) ∨
    (goE G x l r now [p] = 0 ∧ 0 ≤ size ∧ size ≤ 300 ∧ x < 1099511627776 ∧ 20 ≤ (swL now G).length ∧ opE G x l r p size now = 2) ∨ (goE G x l r now [p] = 0 ∧ 0 ≤ size ∧ size ≤ 300 ∧ x < 1099511627776 ∧ (swL now G).length < 20 ∧ r < takS (swL now G) p + size ∧ opE G x l r p size now = 10) ∨
    (goE G x l r now [p] = 0 ∧ 0 ≤ size ∧ size ≤ 300 ∧ x < 1099511627776 ∧ (swL now G).length < 20 ∧ takS (swL now G) p + size ≤ r ∧ opE G x l r p size now = 0) := by
  by_cases h0 : goE G x l r now [p] = 0
  · right
    have e : opE G x l r p size now = if size < 0 ∨ 300 < size ∨ 1099511627776 ≤ x then 3 else if 20 ≤ (swL now G).length then 2 else if r < takS (swL now G) p + size then 10 else 0 := by rw [opE, if_neg (fun k => k h0)]
    by_cases h1 : size < 0
    · left; exact ⟨h0, h1, by rw [e, if_pos (Or.inl h1)]⟩
    · right
      by_cases h2 : 300 < size
      · left; exact ⟨h0, by omega, h2, by rw [e, if_pos (Or.inr (Or.inl h2))]⟩
      · right
        by_cases h3 : 1099511627776 ≤ x
        · left; exact ⟨h0, by omega, by omega, h3, by rw [e, if_pos (Or.inr (Or.inr h3))]⟩
        · right
          rw [if_neg (by omega)] at e
          by_cases h4 : 20 ≤ (swL now G).length
          · left; exact ⟨h0, by omega, by omega, by omega, h4, by rw [e, if_pos h4]⟩
          · right
            rw [if_neg h4] at e
            by_cases h5 : r < takS (swL now G) p + size
            · left; exact ⟨h0, by omega, by omega, by omega, by omega, h5, by rw [e, if_pos h5]⟩
            · right; exact ⟨h0, by omega, by omega, by omega, by omega, by omega, by rw [e, if_neg h5]⟩
  · left; exact ⟨h0, by rw [opE, if_pos h0]⟩
theorem go_zero {G : List Se} {x l r now : Int} {ns : List ByteArray} (h : goE G x l r now ns = 0) : uchE G x l r = 0 ∧ (0 ≤ now ∧ now ≤ 1099511627776) ∧ nmsE ns = 0 := by
  rcases go_cases G x l r now ns with ⟨h0, hE⟩ | ⟨h0, h1, hE⟩ | ⟨h0, h1, h2, hE⟩ | ⟨h0, h1, h2, hE⟩
  · rw [h] at hE; exact absurd hE.symm h0
  · rw [h] at hE; cases hE
  · rw [h] at hE; cases hE
  · exact ⟨h0, inR_yes h1, h2⟩
def newS (x : Int) (p : ByteArray) (size till : Int) : Se := ⟨x, p, ⟨#[]⟩, size, till⟩
end Pp
end Go.Proofs.Ytnaedemkpiagmaa
