/- What upload.Query and the reference's SessionAt answer. -/
import Derived.Test.YtnaedemkpiagmaaU16
import Derived.Test.YtnaedemkpiagmaaU10
set_option linter.unusedSimpArgs false
set_option linter.unusedVariables false
namespace Go.Proofs.Ytnaedemkpiagmaa
open Go.RowKit

set_option maxRecDepth 100000 in
set_option maxHeartbeats 2000000 in
theorem query_any (G : List Se) (v : Value) (x l r : Int) (p : ByteArray) (n now : Int) (w : World) (hv : LiesS w v G) (hs : SizedS G) (hp : p.size ≤ 150000000000000) :
    Calls Try.prog 13 #[.agg #[v, .int .i64 x, .int .i64 l, .int .i64 r], .string p, .int .i64 n, .int .i64 now] w fun e w' => ∃ q, e = .returned (.tuple #[.int .i64 q, .int .i64 (Pp.fiE G x l r p n now)]) ∧ Below w.heap.size w w' := by
  have HV := ghid hv
  have HS := ghid hs
  clear hv hs
  have hb3 : Below w.heap.size w (w.alloc (.cells #[v, .int .i64 x, .int .i64 l, .int .i64 r] 24)) := (Below.refl _ _).alloc (Nat.le_refl _) _
  have hsw : Pp.fiE G x l r p n now = 0 → (Pp.swL now G).length ≤ 1000 := fun h => by
    have h2 := Pp.swL_len now G
    have hg : Pp.goE G x l r now [p] = 0 := by
      rcases Pp.fi_cases G x l r p n now with ⟨h0, hE⟩ | ⟨h0, _⟩ | ⟨h0, _⟩
      · rw [h] at hE; exact hE.symm
      · exact h0
      · exact h0
    have := (Pp.bnd_zero (Pp.uch_zero (Pp.go_zero hg).1).1).1
    omega
  have HSW := ghid hsw
  clear hsw
  go_enter Try.func13, Try.ntmps13
  go_wp2_with fail
  refine (find_any G _ x l r p n now _ (HV.out.below hb3) HS.out hp).mono ?_
  rintro e w4 (⟨hne, rfl, hb4⟩ | ⟨hz, u, k, rfl, hk, _, hown, hb4⟩)
  · have hb04 : Below w.heap.size w w4 := hb3.trans (hb4.mono (by simp))
    have hz : (Pp.fiE G x l r p n now == 0) = false := by simpa using hne
    clear hb4 hne
    generalize hy : Pp.fiE G x l r p n now = y at *
    go_wp2_with fail
    go_ret2
    exact ⟨_, by rw [hy]; rfl, hb04.alloc hb04.size _⟩
  · have HZ := ghid hz
    have hb04 : Below w.heap.size w w4 := hb3.trans (hb4.mono (by simp))
    have hsw2 := HSW.out hz
    clear hb4 hz
    rcases hown with ⟨_, hnil⟩ | ⟨g, cap, rfl, hg1, hg2, hrow, _⟩
    · rw [hnil] at hk; simp at hk
    have hglt := hrow.1
    obtain ⟨t0, t1, t2, t3, t4⟩ := (hrow.below ((Below.refl _ _).alloc (Nat.le_refl _) (.cells #[.slice (some ⟨g, 0, none⟩) (Pp.swL now G).length cap, .int .i64 x, .int .i64 l, .int .i64 r] 24))).at hk
    clear hrow
    go_wp2_with fail
    go_ret2
    exact ⟨_, by rw [HZ.out]; rfl, hb04.alloc hb04.size _⟩

namespace Pp
def mine2 (p : ByteArray) (n : Int) (s : Se) : Bool := (s.wh.toList == p.toList) && (s.nu == n)
end Pp

set_option maxRecDepth 100000 in
set_option maxHeartbeats 2000000 in
theorem sessionAt_any (G : List Se) (v : Value) (x l r : Int) (p : ByteArray) (n : Int) (w : World) (hv : LiesS w v G) :
    Calls Try.prog 27 #[.agg #[v, .int .i64 x, .int .i64 l, .int .i64 r], .string p, .int .i64 n] w fun e w' => e = .returned (.int .i64 (Pp.idS G (Pp.mine2 p n))) ∧ Below w.heap.size w w' := by
  obtain ⟨a, cap, rfl, hcap, hcap2, hLL⟩ := hv
  have HL : Hid (∀ i (h : i < G.length), ∃ b o, a = some ⟨b, o, none⟩ ∧ b < w.heap.size ∧ SeAt w b (o + i * 5) G[i]) := hLL
  clear hLL
  obtain ⟨w2, hw2⟩ : ∃ w2, w2 = w.alloc (.cells #[.slice a G.length cap, .int .i64 x, .int .i64 l, .int .i64 r] 24) := ⟨_, rfl⟩
  have hb2 : Below w.heap.size w w2 := by rw [hw2]; exact (Below.refl _ _).alloc (Nat.le_refl _) _
  have HA2 : Hid (Bx w2 w.heap.size (.slice a G.length cap) (.int .i64 x) (.int .i64 l) (.int .i64 r)) := (by rw [hw2]; exact Bx.new _ _ _ _ _ _ : Bx w2 w.heap.size (.slice a G.length cap) (.int .i64 x) (.int .i64 l) (.int .i64 r))
  go_enter Try.func27, Try.ntmps27
  go_wp2_with fail
  rw [← hw2]
  clear hw2
  go_loopw [7] (fun i wr => ∃ k : Nat, k ≤ G.length ∧ i = .int .i64 k ∧ Hid (∀ j (h' : j < G.length), j < k → Pp.mine2 p n G[j] = false) ∧ Below w2.heap.size w2 wr) (fun i _ => G.length - (intOf i).toNat)
  case atStart => exact ⟨0, Nat.zero_le _, rfl, (fun j _ h => absurd h (Nat.not_lt_zero _) : ∀ j (h' : j < G.length), j < 0 → Pp.mine2 p n G[j] = false), Below.refl _ _⟩
  case round =>
    obtain ⟨k, hk, rfl, HP, hbel2⟩ := hrel
    have hbel : Below w.heap.size w wr := hb2.trans (hbel2.mono hb2.size)
    obtain ⟨hAb, ⟨a0, a1, a2, a3⟩, _⟩ := HA2.out.below hbel2
    by_cases hlt : k < G.length
    · obtain ⟨b, o, rfl, hb, he⟩ := HL.out k hlt
      obtain ⟨c0, c1, c2, c3, c4⟩ := he.below hb hbel
      have HT : Hid (Pp.mine2 p n G[k] = true → (k : Int) = Pp.idS G (Pp.mine2 p n)) := (fun h => Pp.idS_hit hlt HP.out h : Pp.mine2 p n G[k] = true → (k : Int) = Pp.idS G (Pp.mine2 p n))
      have HF : Hid (Pp.mine2 p n G[k] = false → ∀ j (h' : j < G.length), j < k + 1 → Pp.mine2 p n G[j] = false) := (fun hp j h1 h2 => by
        by_cases e : j = k
        · subst e; exact hp
        · exact HP.out j h1 (by omega) : Pp.mine2 p n G[k] = false → ∀ j (h' : j < G.length), j < k + 1 → Pp.mine2 p n G[j] = false)
      clear he
      generalize G[k] = s at *
      cases h1 : (s.wh.toList == p.toList) with
      | true =>
        cases h2 : (s.nu == n) with
        | true =>
          have HE := ghid (HT.out (by rw [Pp.mine2, h1, h2]; rfl))
          go_wp2_with fail
          go_ret
          exact ⟨Pp.ret_int HE.out, hbel⟩
        | false =>
          have HP2 := ghid (HF.out (by rw [Pp.mine2, h1, h2]; rfl))
          go_wp2_with fail
          go_roundw
          case rel => exact ⟨k + 1, by omega, by simp, HP2, hbel2⟩
          case measure => simp [intOf]; omega
      | false =>
        have HP2 := ghid (HF.out (by rw [Pp.mine2, h1]; rfl))
        go_wp2_with fail
        go_roundw
        case rel => exact ⟨k + 1, by omega, by simp, HP2, hbel2⟩
        case measure => simp [intOf]; omega
    · have HE : Hid (-1 = Pp.idS G (Pp.mine2 p n)) := (Pp.idS_miss (fun j h => HP.out j h (by omega)) : -1 = Pp.idS G (Pp.mine2 p n))
      go_wp2_with fail
      go_ret
      exact ⟨Pp.ret_int HE.out, hbel⟩
end Go.Proofs.Ytnaedemkpiagmaa
