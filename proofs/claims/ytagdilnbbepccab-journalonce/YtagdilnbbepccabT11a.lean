/- A row of entries of one's own, as a tree. -/
import Derived.Test.YtagdilnbbepccabT10a
set_option linter.unusedSimpArgs false
set_option linter.unusedVariables false
namespace Go.Proofs.Ytagdilnbbepccab
open Go.RowKit

theorem lies_own {w : World} {base : Nat} {T : TypeId} {v : Value} {L : List En} (h : w.ownsRow base T 4 v L.length (Pp.flat L)) (hn : L.length ≤ 1000000000000000) : Lies w v L := by
  haveI : Inhabited En := ⟨⟨⟨#[]⟩, false, ⟨#[]⟩, 0⟩⟩
  by_cases h0 : L = []
  · subst h0
    obtain ⟨_, h2⟩ := h
    rcases h2 with ⟨rfl, _⟩ | ⟨g, cap, cur, rfl, hg, hh, hc, _⟩
    · exact ⟨none, 0, rfl, Nat.le_refl _, by simp, fun i hi => absurd hi (by simp)⟩
    · exact ⟨some ⟨g, 0, none⟩, cap, rfl, hc, by simp, fun i hi => absurd hi (by simp)⟩
  · obtain ⟨g, cap, rfl, hb, hg, hc, hm⟩ := Pp.own_shape h h0
    have := Pp.lies_holds hg (Pp.holds_own h rfl) (d := L.toArray) (cap := cap) (by simpa using hc) (by simpa using hn)
    simpa using this
end Go.Proofs.Ytagdilnbbepccab
