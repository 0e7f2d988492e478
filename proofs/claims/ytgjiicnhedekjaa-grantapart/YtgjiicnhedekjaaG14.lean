/- What grant.checkAll and Right answer, and the reference's RightOf, for every list of grants. -/
import Derived.Test.YtgjiicnhedekjaaG13
set_option linter.unusedSimpArgs false
set_option linter.unusedVariables false
namespace Go.Proofs.Ytgjiicnhedekjaa
open Go.RowKit

namespace Pp
/-- Check of grants, then of names beside them. -/
def calE (G : List Gr) (ns : List ByteArray) : Int := if gchE G = 0 then nmsE ns else gchE G
theorem nms_cases (ns : List ByteArray) : nmsE ns = 0 ∨ nmsE ns = 1 := by
  rw [nmsE]; split
  · exact Or.inl rfl
  · exact Or.inr rfl
end Pp

set_option maxHeartbeats 1000000 in
theorem gcheckAll_any (G : List Gr) (v : Value) (ns : List ByteArray) (g cap : Nat) (w : World) (hv : LiesG w v G) (hs : SizedG G) (hg : g < w.heap.size) (hns : ∀ i (h : i < ns.length), (ns[i]).size ≤ 1000000000000000) (hl : ns.length ≤ 1000) (hc : ∀ i (h : i < ns.length), w.cell? ⟨g, 0 + i, none⟩ = some (.string ns[i])) :
    Calls Try.prog 15 #[v, .slice (some ⟨g, 0, none⟩) ns.length cap] w fun e w' => e = .returned (.int .i64 (Pp.calE G ns)) ∧ Below w.heap.size w w' := by
  have HV := ghid hv
  have HS := ghid hs
  have HN := ghid hns
  have HC := ghid hc
  clear hv hs hns hc
  by_cases h0 : Pp.gchE G = 0
  · have H0 := ghid h0
    have HE : Hid (Pp.nmsE ns = Pp.calE G ns) := ((if_pos h0).symm : Pp.nmsE ns = Pp.calE G ns)
    clear h0
    go_enter Try.func15, Try.ntmps15
    go_wp2_with fail
    refine (gcheck_any G _ _ HV.out HS.out).mono ?_
    rintro e w1 ⟨rfl, hb1⟩
    rw [H0.out]
    go_wp2_with fail
    refine (names_any ns g 0 cap _ (Nat.lt_of_lt_of_le hg hb1.size) HN.out hl (fun i h => (hb1.cell (p := ⟨g, 0 + i, none⟩) hg).trans (HC.out i h))).mono ?_
    rintro e w2 ⟨rfl, hb2⟩
    generalize Pp.nmsE ns = y at *
    go_wp2
    go_ret
    exact ⟨Pp.ret_int HE.out, below_trans hb1 hb2⟩
  · have HE : Hid (Pp.gchE G = Pp.calE G ns) := ((if_neg h0).symm : Pp.gchE G = Pp.calE G ns)
    have hz : (Pp.gchE G == 0) = false := by simpa using h0
    go_enter Try.func15, Try.ntmps15
    go_wp2_with fail
    refine (gcheck_any G _ _ HV.out HS.out).mono ?_
    rintro e w1 ⟨rfl, hb1⟩
    generalize Pp.gchE G = y at *
    go_wp2
    go_ret
    exact ⟨Pp.ret_int HE.out, hb1⟩

namespace Pp
def rigR (G : List Gr) (f h : ByteArray) : Int := if calE G [f, h] = 0 then rgt G f h else 0
end Pp

set_option maxRecDepth 100000 in
set_option maxHeartbeats 1000000 in
theorem right2_any (G : List Gr) (v : Value) (f h : ByteArray) (w : World) (hv : LiesG w v G) (hs : SizedG G) (hf : f.size ≤ 150000000000000) (hh : h.size ≤ 150000000000000) :
    Calls Try.prog 13 #[v, .string f, .string h] w fun e w' => e = .returned (.tuple #[.int .i64 (Pp.rigR G f h), .int .i64 (Pp.calE G [f, h])]) ∧ Below w.heap.size w w' := by
  have HV := ghid hv
  have HS := ghid hs
  clear hv hs
  have hsz : ∀ i (hi : i < [f, h].length), ([f, h][i]).size ≤ 1000000000000000 := fun i hi => by match i, hi with | 0, _ => exact Nat.le_trans hf (by decide) | 1, _ => exact Nat.le_trans hh (by decide)
  by_cases h0 : Pp.calE G [f, h] = 0
  · have HE : Hid (Pp.rgt G f h = Pp.rigR G f h) := ((if_pos h0).symm : Pp.rgt G f h = Pp.rigR G f h)
    have H0 := ghid h0
    rw [h0]
    clear h0
    go_enter Try.func13, Try.ntmps13
    go_wp2_with fail
    refine (gcheckAll_any G _ [f, h] w.heap.size 2 _ (HV.out.below ((Below.refl _ _).alloc (Nat.le_refl _) _)) HS.out (by simp) hsz (by simp) (fun i hi => by match i, hi with | 0, _ => simp | 1, _ => simp)).mono ?_
    rintro e w1 ⟨rfl, hb1⟩
    rw [H0.out]
    have hb01 : Below w.heap.size w w1 := ((Below.refl _ _).alloc (Nat.le_refl _) _).trans (hb1.mono (by simp))
    clear hb1
    go_wp2_with fail
    refine (right_any G _ f h _ (HV.out.below hb01)).mono ?_
    rintro e w2 ⟨rfl, hb2⟩
    rw [HE.out]
    have hb02 := below_trans hb01 hb2
    go_wp2
    go_ret2
    exact ⟨rfl, hb02⟩
  · have HE : Hid (0 = Pp.rigR G f h) := ((if_neg h0).symm : 0 = Pp.rigR G f h)
    have hz : (Pp.calE G [f, h] == 0) = false := by simpa using h0
    go_enter Try.func13, Try.ntmps13
    go_wp2_with fail
    refine (gcheckAll_any G _ [f, h] w.heap.size 2 _ (HV.out.below ((Below.refl _ _).alloc (Nat.le_refl _) _)) HS.out (by simp) hsz (by simp) (fun i hi => by match i, hi with | 0, _ => simp | 1, _ => simp)).mono ?_
    rintro e w1 ⟨rfl, hb1⟩
    have hb01 : Below w.heap.size w w1 := ((Below.refl _ _).alloc (Nat.le_refl _) _).trans (hb1.mono (by simp))
    go_wp2
    go_ret2
    exact ⟨by rw [← HE.out]; rfl, hb01⟩

set_option maxHeartbeats 1000000 in
theorem rightOf_any (G : List Gr) (v : Value) (f h : ByteArray) (w : World) (hv : LiesG w v G) :
    Calls Try.prog 22 #[v, .string f, .string h] w fun e w' => e = .returned (.int .i64 (Pp.rgt G f h)) ∧ Below w.heap.size w w' := by
  obtain ⟨a, cap, rfl, hcap, hcap2, hLL⟩ := hv
  have HL : Hid (∀ i (h : i < G.length), ∃ b o, a = some ⟨b, o, none⟩ ∧ b < w.heap.size ∧ GrAt w b (o + i * 3) G[i]) := hLL
  clear hLL
  obtain ⟨r, hr⟩ : ∃ r, r = Pp.rgt G f h := ⟨_, rfl⟩
  rw [← hr]
  have HR := ghid hr
  clear hr
  go_enter Try.func22, Try.ntmps22
  go_wp2_with fail
  go_loopw [7] (fun i wr => ∃ k : Nat, k ≤ G.length ∧ i = .int .i64 k ∧ Hid (∀ j (h' : j < G.length), j < k → Pp.ofW f h G[j] = false) ∧ Below w.heap.size w wr) (fun i _ => G.length - (intOf i).toNat)
  case atStart => exact ⟨0, Nat.zero_le _, rfl, (fun j _ h => absurd h (Nat.not_lt_zero _) : ∀ j (h' : j < G.length), j < 0 → Pp.ofW f h G[j] = false), Below.refl _ _⟩
  case round =>
    obtain ⟨k, hk, rfl, HP, hbel⟩ := hrel
    by_cases hlt : k < G.length
    · obtain ⟨b, o, rfl, hb, he⟩ := HL.out k hlt
      obtain ⟨c0, c1, c2⟩ := he.below hb hbel
      have HT : Hid (Pp.ofW f h G[k] = true → (G[k]).ri = r) := (fun hp => by
        have : G.find? (Pp.ofW f h) = some G[k] := by
          rw [List.find?_eq_some_iff_getElem]
          exact ⟨hp, k, hlt, rfl, fun j hj => by simpa using HP.out j (by omega) hj⟩
        rw [HR.out, Pp.rgt, this] : Pp.ofW f h G[k] = true → (G[k]).ri = r)
      have HF : Hid (Pp.ofW f h G[k] = false → ∀ j (h' : j < G.length), j < k + 1 → Pp.ofW f h G[j] = false) := (fun hp j h1 h2 => by
        by_cases e : j = k
        · subst e; exact hp
        · exact HP.out j h1 (by omega) : Pp.ofW f h G[k] = false → ∀ j (h' : j < G.length), j < k + 1 → Pp.ofW f h G[j] = false)
      generalize G[k] = x at *
      cases h1 : (x.fo.toList == f.toList) with
      | true =>
        cases h2 : (x.wh.toList == h.toList) with
        | true =>
          have HE := ghid (HT.out (by rw [Pp.ofW, h1, h2]; rfl))
          go_wp2_with fail
          go_ret
          exact ⟨Pp.ret_int HE.out, hbel⟩
        | false =>
          have HP2 := ghid (HF.out (by rw [Pp.ofW, h1, h2]; rfl))
          go_wp2_with fail
          go_roundw
          case rel => exact ⟨k + 1, by omega, by simp, HP2, hbel⟩
          case measure => simp [intOf]; omega
      | false =>
        have HP2 := ghid (HF.out (by rw [Pp.ofW, h1]; rfl))
        go_wp2_with fail
        go_roundw
        case rel => exact ⟨k + 1, by omega, by simp, HP2, hbel⟩
        case measure => simp [intOf]; omega
    · have HE : Hid (0 = r) := (by
        have : G.find? (Pp.ofW f h) = none := by
          rw [List.find?_eq_none]
          intro x hx
          obtain ⟨j, hj, rfl⟩ := List.getElem_of_mem hx
          simpa using HP.out j hj (by omega)
        rw [HR.out, Pp.rgt, this] : 0 = r)
      go_wp2_with fail
      go_ret
      exact ⟨Pp.ret_int HE.out, hbel⟩
end Go.Proofs.Ytgjiicnhedekjaa
