/- How grants are compared: cmp.Compare of texts, cmp.Or of two numbers, grant.compare, grant.rises. -/
import Derived.Test.YtgjiicnhedekjaaG1
import Derived.Deep.RegionHeld3
import Derived.Deep.RegionLaw
import Derived.Deep.DeepCutAuto
import Derived.Deep.DeepMust
set_option linter.unusedSimpArgs false
set_option linter.unusedVariables false
namespace Go.Proofs.Ytgjiicnhedekjaa
open Go.RowKit

namespace Pp
def cS (x y : ByteArray) : Int := if Op.bytesLess x.toList y.toList = true then -1 else if (x.toList == y.toList) = true then 0 else 1
def cG (a b : Gr) : Int := if cS a.fo b.fo = 0 then cS a.wh b.wh else cS a.fo b.fo
end Pp

set_option maxHeartbeats 1000000 in
theorem cmpS_any (x y : ByteArray) (w : World) :
    Calls Try.prog 44 #[.string x, .string y] w fun e w' => e = .returned (.int .i64 (Pp.cS x y)) ∧ w' = w := by
  cases h1 : Op.bytesLess x.toList y.toList with
  | true =>
    have HE : Hid (-1 = Pp.cS x y) := (by rw [Pp.cS, if_pos h1] : -1 = Pp.cS x y)
    go_enter Try.func44, Try.ntmps44
    go_wp2
    go_ret
    exact ⟨Pp.ret_int HE.out, rfl⟩
  | false =>
    cases h2 : (x.toList == y.toList) with
    | true =>
      have HE : Hid (0 = Pp.cS x y) := (by rw [Pp.cS, if_neg (by rw [h1]; decide), if_pos h2] : 0 = Pp.cS x y)
      go_enter Try.func44, Try.ntmps44
      go_wp2
      go_ret
      exact ⟨Pp.ret_int HE.out, rfl⟩
    | false =>
      have HE : Hid (1 = Pp.cS x y) := (by rw [Pp.cS, if_neg (by rw [h1]; decide), if_neg (by rw [h2]; decide)] : 1 = Pp.cS x y)
      go_enter Try.func44, Try.ntmps44
      go_wp2
      go_ret
      exact ⟨Pp.ret_int HE.out, rfl⟩

set_option maxHeartbeats 1000000 in
theorem or2_any (a b : Int) (g : Nat) (w : World) (hg : g < w.heap.size) (h0 : w.cell? ⟨g, 0, none⟩ = some (.int .i64 a)) (h1 : w.cell? ⟨g, 1, none⟩ = some (.int .i64 b)) :
    Calls Try.prog 43 #[.slice (some ⟨g, 0, none⟩) 2 2] w fun e w' => e = .returned (.int .i64 (if a = 0 then b else a)) ∧ Below w.heap.size w w' := by
  have H0 := ghid h0
  have H1 := ghid h1
  clear h0 h1
  obtain ⟨r, hr⟩ : ∃ r, r = if a = 0 then b else a := ⟨_, rfl⟩
  rw [← hr]
  have HR := ghid hr
  clear hr
  go_enter Try.func43, Try.ntmps43
  go_wp2_with fail
  go_loopw [8] (fun i wr => (i = .int .i64 0 ∨ (i = .int .i64 1 ∧ a = 0) ∨ (i = .int .i64 2 ∧ a = 0 ∧ b = 0)) ∧ Below w.heap.size w wr) (fun i _ => 2 - (intOf i).toNat)
  case atStart => exact ⟨Or.inl rfl, Below.refl _ _⟩
  case round =>
    obtain ⟨hi, hbel⟩ := hrel
    have c0 := (hbel.cell (p := ⟨g, 0, none⟩) hg).trans H0.out
    have c1 := (hbel.cell (p := ⟨g, 1, none⟩) hg).trans H1.out
    rcases hi with rfl | ⟨rfl, ha⟩ | ⟨rfl, ha, hb⟩
    · by_cases ha : a = 0
      · subst ha
        go_wp2_with fail
        go_roundw
        case rel => exact ⟨by simp, hbel⟩
        case measure => simp [intOf]
      · have HE : Hid (a = r) := (by rw [HR.out, if_neg ha] : a = r)
        have hz : (a == 0) = false := by simpa using ha
        go_wp2_with fail
        go_ret
        exact ⟨Pp.ret_int HE.out, hbel⟩
    · subst ha
      by_cases hb : b = 0
      · subst hb
        go_wp2_with fail
        go_roundw
        case rel => exact ⟨by simp, hbel⟩
        case measure => simp [intOf]
      · have HE : Hid (b = r) := (by rw [HR.out, if_pos rfl] : b = r)
        have hz : (b == 0) = false := by simpa using hb
        go_wp2_with fail
        go_ret
        exact ⟨Pp.ret_int HE.out, hbel⟩
    · subst ha
      subst hb
      have HE : Hid ((0 : Int) = r) := (by rw [HR.out, if_pos rfl] : (0 : Int) = r)
      go_wp2_with fail
      go_ret
      exact ⟨Pp.ret_int HE.out, hbel⟩

set_option maxHeartbeats 1000000 in
theorem compare_any (a b : Gr) (w : World) :
    Calls Try.prog 35 #[.agg #[.string a.fo, .string a.wh, .int .i64 a.ri], .agg #[.string b.fo, .string b.wh, .int .i64 b.ri]] w fun e w' => e = .returned (.int .i64 (Pp.cG a b)) ∧ Below w.heap.size w w' := by
  have HE : Hid ((if Pp.cS a.fo b.fo = 0 then Pp.cS a.wh b.wh else Pp.cS a.fo b.fo) = Pp.cG a b) := rfl
  go_enter Try.func35, Try.ntmps35
  go_wp2_with fail
  go_region_held3 (fun W => W.cell? ⟨w.heap.size, 0, none⟩ = some (.string a.fo) ∧ W.cell? ⟨w.heap.size, 1, none⟩ = some (.string a.wh) ∧ W.cell? ⟨w.heap.size + 1, 0, none⟩ = some (.string b.fo) ∧ W.cell? ⟨w.heap.size + 1, 1, none⟩ = some (.string b.wh)) (go_keep) (first
    | (go_at_call 44; refine (cmpS_any _ _ _).mono ?_; rintro e wa ⟨rfl, rfl⟩)
    | (go_at_call 43; go_must (refine (or2_any (Pp.cS a.fo b.fo) (Pp.cS a.wh b.wh) _ _ (by first | (simp; done) | (simp; omega)) (by simp [go_sem]) (by simp [go_sem])).mono ?_); rintro e wb ⟨rfl, hbb⟩; rw [HE.out]; have k1 : wb.cell? ⟨w.heap.size, 0, none⟩ = some (.string a.fo) := (hbb.cell (p := ⟨w.heap.size, 0, none⟩) (by simp; omega)).trans (by simp [go_sem]); have k2 : wb.cell? ⟨w.heap.size, 1, none⟩ = some (.string a.wh) := (hbb.cell (p := ⟨w.heap.size, 1, none⟩) (by simp; omega)).trans (by simp [go_sem]); have k3 : wb.cell? ⟨w.heap.size + 1, 0, none⟩ = some (.string b.fo) := (hbb.cell (p := ⟨w.heap.size + 1, 0, none⟩) (by simp)).trans (by simp [go_sem]); have k4 : wb.cell? ⟨w.heap.size + 1, 1, none⟩ = some (.string b.wh) := (hbb.cell (p := ⟨w.heap.size + 1, 1, none⟩) (by simp)).trans (by simp [go_sem])))
  all_goals
    go_wp2
    go_ret
    exact ⟨rfl, Below.trans (by go_grown) (hbb.mono (by simp; omega))⟩
end Go.Proofs.Ytgjiicnhedekjaa
