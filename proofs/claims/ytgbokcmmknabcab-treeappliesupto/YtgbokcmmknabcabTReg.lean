/- Inside a region that draws its order: operations whose guard says no are passed over, all at once. -/
import Derived.Deep.RegionHeld3
import Derived.WalkKit
set_option linter.unusedSimpArgs false
set_option linter.unusedVariables false
namespace Go.Proofs.Ytgbokcmmknabcab
open Go.RowKit

/-- May these operations be passed over, one after the other, where operation g (it writes dg) has said no? -/
def passOk (md : Region.Mode) (ops : Array Oper) (g dg : Nat) : Array Bool → List (Nat × Nat) → Bool
  | _, [] => true
  | listed, (i, d) :: r => ((ops[i]?).map (fun o => (o.dst, o.guard)) == some (some d, some (g, true))) && d != dg && Region.free md ops listed i && (Region.ready md ops listed).contains i && passOk md ops g dg (listed.setIfInBounds i true) r
def passAll : Array Bool → List (Nat × Nat) → Array Bool
  | listed, [] => listed
  | listed, (i, _) :: r => passAll (listed.setIfInBounds i true) r
def putAll : Act → List (Nat × Nat) → Act
  | a, [] => a
  | a, (_, d) :: r => putAll (a.put (some d) undef) r

theorem wpAnyH_pass {P : Program} {md : Region.Mode} {ops : Array Oper} {Q : Exit → Act → World → Prop} {S : World → Prop} {g dg : Nat} (hs : Region.noSelect ops = true) (hdg : (ops[g]?).bind (·.dst) = some dg)
    (hQ : ∀ c a (d : Nat) v w, Q (.panic c) (Act.put a (some d) v) w → Q (.panic c) a w) {w : World} (hS : S w) {fuel : Nat} :
    ∀ (l : List (Nat × Nat)) (listed : Array Bool) (a : Act), passOk md ops g dg listed l = true → a.tmps[dg]? = some (.bool false) → wpAnyH P md ops Q S fuel (passAll listed l) (putAll a l) w → wpAnyH P md ops Q S (fuel + l.length) listed a w
  | [], _, _, _, _, h => h
  | (i, d) :: r, listed, a, hok, ht, h => by
    rw [passOk] at hok
    simp only [Bool.and_eq_true, beq_iff_eq, bne_iff_ne] at hok
    obtain ⟨⟨⟨⟨h1, h2⟩, h3⟩, h4⟩, h5⟩ := hok
    cases ho : ops[i]? with
    | none => rw [ho] at h1; cases h1
    | some o =>
      rw [ho] at h1
      simp only [Option.map_some, Option.some.injEq, Prod.mk.injEq] at h1
      have hw : Region.wanted o (yielded ops a.tmps) = false := by
        have hy : yielded ops a.tmps g = some false := by
          unfold yielded
          rw [hdg]
          simp only [Option.bind_some, ht]
        unfold Region.wanted
        rw [h1.2]
        simp [hy]
      have ht2 : (a.put (some d) undef).tmps[dg]? = some (.bool false) := by
        unfold Act.put
        simp only
        rw [Array.getElem?_setIfInBounds_ne (by exact h2)]
        exact ht
      have ih := wpAnyH_pass hs hdg hQ hS r (listed.setIfInBounds i true) (a.put (some d) undef) h5 ht2 h
      refine wpAnyH_take (i := i) (oi := o) (v := undef) ho hs h3 h4 (fun c a w hh => hQ c a d undef w (by rw [h1.1] at hh; exact hh)) (Or.inr ⟨hw, rfl⟩) hS ?_
      rw [h1.1]
      exact ih
/-- What is to be shown later, once for several ways that come to it. -/
structure Later (p : Prop) : Prop where
  out : p
theorem later {p q : Prop} (h : Later p → q) (hp : p) : q := h ⟨hp⟩
end Go.Proofs.Ytgbokcmmknabcab
