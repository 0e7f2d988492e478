/- What slices.IndexFunc and slices.DeleteFunc answer of rows of sessions. -/
import Derived.Test.YtnaedemkpiagmaaU5
set_option linter.unusedSimpArgs false
set_option linter.unusedVariables false
namespace Go.Proofs.Ytnaedemkpiagmaa
open Go.RowKit

namespace Pp
/-- The place of the first session of which a predicate holds; -1: of none. -/
def idS (G : List Se) (pr : Se → Bool) : Int := match G.findIdx? pr with
  | some i => (i : Int)
  | none => -1
theorem idS_hit {G : List Se} {pr : Se → Bool} {k : Nat} (hlt : k < G.length) (h : ∀ j (h : j < G.length), j < k → pr G[j] = false) (hp : pr G[k] = true) : (k : Int) = idS G pr := by
  have : G.findIdx? pr = some k := List.findIdx?_eq_some_iff_getElem.2 ⟨hlt, hp, fun j hj => by rw [h j (by omega) hj]; simp⟩
  rw [idS, this]
theorem idS_miss {G : List Se} {pr : Se → Bool} (h : ∀ j (h : j < G.length), pr G[j] = false) : -1 = idS G pr := by
  have : G.findIdx? pr = none := List.findIdx?_eq_none_iff.2 fun x hx => by
    obtain ⟨j, hj, rfl⟩ := List.getElem_of_mem hx
    exact h j hj
  rw [idS, this]
theorem idS_cases (G : List Se) (pr : Se → Bool) : (idS G pr = -1 ∧ ∀ x ∈ G, pr x = false) ∨ ∃ k, ∃ h : k < G.length, idS G pr = (k : Int) ∧ pr G[k] = true ∧ ∀ j (hj : j < G.length), j < k → pr G[j] = false := by
  cases hf : G.findIdx? pr with
  | none =>
    have hn := List.findIdx?_eq_none_iff.1 hf
    exact Or.inl ⟨by rw [idS, hf], fun x hx => by simpa using hn x hx⟩
  | some k =>
    obtain ⟨hlt, hp, hmin⟩ := List.findIdx?_eq_some_iff_getElem.1 hf
    exact Or.inr ⟨k, hlt, by rw [idS, hf], hp, fun j hj hjk => by have := hmin j hjk; simpa using this⟩
/-- What is left where j sessions were looked at. -/
def lf (pr : Se → Bool) (L : List Se) (j : Nat) : List Se := (L.take j).filter fun x => !pr x
theorem lf_keep {pr : Se → Bool} {L : List Se} {j : Nat} (h : j < L.length) (hp : pr L[j] = false) : lf pr L (j + 1) = lf pr L j ++ [L[j]] := by
  rw [lf, lf, List.take_succ_eq_append_getElem h, List.filter_append]; simp [hp]
theorem lf_skip {pr : Se → Bool} {L : List Se} {j : Nat} (h : j < L.length) (hp : pr L[j] = true) : lf pr L (j + 1) = lf pr L j := by
  rw [lf, lf, List.take_succ_eq_append_getElem h, List.filter_append]; simp [hp]
theorem lf_all {pr : Se → Bool} {L : List Se} {k : Nat} (hk : k ≤ L.length) (h : ∀ j (hj : j < L.length), j < k → pr L[j] = false) : lf pr L k = L.take k := by
  rw [lf, List.filter_eq_self]
  intro x hx
  obtain ⟨j, hj, rfl⟩ := List.getElem_of_mem hx
  rw [List.length_take] at hj
  rw [List.getElem_take, h j (by omega) (by omega)]; rfl
theorem lf_len (pr : Se → Bool) (L : List Se) (j : Nat) : (lf pr L j).length ≤ j := by
  have h1 := List.length_filter_le (fun x => !pr x) (L.take j)
  have h2 := List.length_take_le j L
  rw [lf]; omega
end Pp

set_option maxHeartbeats 1000000 in
theorem sindexFunc_any (G : List Se) (v : Value) (q g : Nat) (cb : Array Value) (pr : Se → Bool) (w : World) (hv : LiesS w v G) (hg : TellsS w q g cb pr) :
    Calls Try.prog 35 #[v, .func (.func g) #[] cb] w fun e w' => e = .returned (.int .i64 (Pp.idS G pr)) ∧ Below w.heap.size w w' := by
  obtain ⟨a, cap, rfl, hcap, hcap2, hLL⟩ := hv
  have HL : Hid (∀ i (h : i < G.length), ∃ b o, a = some ⟨b, o, none⟩ ∧ b < w.heap.size ∧ SeAt w b (o + i * 5) G[i]) := hLL
  have HG := ghid hg
  have eg := hg.1
  clear hLL hg
  go_enter Try.func35, Try.ntmps35
  go_wp2_with fail
  go_loopw [8] (fun i wr => ∃ k : Nat, k ≤ G.length ∧ i = .int .i64 k ∧ Hid (∀ j (h : j < G.length), j < k → pr G[j] = false) ∧ Below w.heap.size w wr) (fun i _ => G.length - (intOf i).toNat)
  case atStart => exact ⟨0, Nat.zero_le _, rfl, (fun j _ h => absurd h (Nat.not_lt_zero _) : ∀ j (h : j < G.length), j < 0 → pr G[j] = false), Below.refl _ _⟩
  case round =>
    obtain ⟨k, hk, rfl, HP, hbel⟩ := hrel
    by_cases hlt : k < G.length
    · obtain ⟨b, o, rfl, hb, he⟩ := HL.out k hlt
      obtain ⟨c0, c1, c2, c3, c4⟩ := he.below hb hbel
      go_wp2_with fail
      refine (HG.out.2 _ (Nb.below q hbel) G[k]).mono ?_
      rintro e w1 ⟨rfl, hb1⟩
      have hbel1 := below_trans hbel hb1
      clear c0 c1 c2 c3 c4 hbel hb1
      cases hp : pr G[k] with
      | true =>
        have HE : Hid ((k : Int) = Pp.idS G pr) := (Pp.idS_hit hlt HP.out hp : (k : Int) = Pp.idS G pr)
        go_wp2_with fail
        go_ret
        exact ⟨Pp.ret_int HE.out, hbel1⟩
      | false =>
        have HP2 : Hid (∀ j (h : j < G.length), j < k + 1 → pr G[j] = false) := (fun j h1 h2 => by
          by_cases e : j = k
          · subst e; exact hp
          · exact HP.out j h1 (by omega) : ∀ j (h : j < G.length), j < k + 1 → pr G[j] = false)
        go_wp2_with fail
        go_roundw
        case rel => exact ⟨k + 1, by omega, by simp, HP2, hbel1⟩
        case measure => simp [intOf]; omega
    · have HE : Hid (-1 = Pp.idS G pr) := (Pp.idS_miss (fun j h => HP.out j h (by omega)) : -1 = Pp.idS G pr)
      go_wp2_with fail
      go_ret
      exact ⟨Pp.ret_int HE.out, hbel⟩
end Go.Proofs.Ytnaedemkpiagmaa
