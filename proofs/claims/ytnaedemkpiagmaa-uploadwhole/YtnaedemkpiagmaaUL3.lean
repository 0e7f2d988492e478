/- What the law UploadWhole answers: true, for every two texts, numbers and number. -/
import Derived.Test.YtnaedemkpiagmaaU27
import Derived.Test.YtnaedemkpiagmaaU15
import Derived.Test.YtnaedemkpiagmaaU9d
import Derived.Deep.RegionHeld3
set_option linter.unusedSimpArgs false
set_option linter.unusedVariables false
namespace Go.Proofs.Ytnaedemkpiagmaa
open Go.RowKit

/-- A row of numbers. -/
def LiesI (w : World) (v : Value) (C : List Int) : Prop := ∃ a cap, v = .slice a C.length cap ∧ C.length ≤ cap ∧ C.length ≤ 1000000000000000 ∧ (∀ i (h : i < C.length), ∃ b o, a = some ⟨b, o, none⟩ ∧ b < w.heap.size ∧ w.cell? ⟨b, o + i, none⟩ = some (.int .i64 C[i])) ∧ ∀ c ∈ C, -9223372036854775808 ≤ c ∧ c ≤ 9223372036854775807
theorem LiesI.below {w w' : World} {v : Value} {C : List Int} (h : LiesI w v C) (hw : Below w.heap.size w w') : LiesI w' v C := by
  obtain ⟨a, cap, h1, h2, h3, h4, h5⟩ := h
  refine ⟨a, cap, h1, h2, h3, fun i hi => ?_, h5⟩
  obtain ⟨b, o, ha, hb, hc⟩ := h4 i hi
  exact ⟨b, o, ha, Nat.lt_of_lt_of_le hb hw.size, (hw.cell (p := ⟨b, o + i, none⟩) hb).trans hc⟩

set_option maxRecDepth 100000 in
set_option maxHeartbeats 2000000 in
theorem uploadWhole_no (p t : ByteArray) (v : Value) (q : Int) (w : World) (hp : p.size ≤ 150000000000000) (ht : t.size ≤ 150000000000000) (hn : Pp.nameB p.data.toList = false ∨ (Pp.nameB p.data.toList = true ∧ 300 < t.size)) :
    Calls Try.prog 6 #[.string p, .string t, v, .int .i64 q] w fun e w' => e = .returned (.bool true) ∧ Below w.heap.size w w' := by
  rcases hn with hn | ⟨hn, h3⟩
  · have HN := ghid hn
    clear hn
    go_enter Try.func6, Try.ntmps6
    go_wp2_with fail
    refine (uploadBegun_yes _).mono ?_
    rintro e w1 ⟨rfl, hb1⟩
    go_wp2_with fail
    refine (rIsName_any p _ hp).mono ?_
    rintro e w2 ⟨rfl, hw⟩
    rw [hw, HN.out]
    clear hw w2
    go_wp2_with fail
    refine (uploadBegun_yes _).mono ?_
    rintro e w3 ⟨rfl, hb3⟩
    have hb03 := below_trans hb1 hb3
    go_wp2
    go_ret
    exact ⟨rfl, hb03⟩
  · have HN := ghid hn
    have h3i : 300 < (t.size : Int) := by omega
    clear hn
    go_enter Try.func6, Try.ntmps6
    go_wp2_with fail
    refine (uploadBegun_yes _).mono ?_
    rintro e w1 ⟨rfl, hb1⟩
    go_wp2_with fail
    refine (rIsName_any p _ hp).mono ?_
    rintro e w2 ⟨rfl, hw⟩
    rw [hw, HN.out]
    clear hw w2
    go_wp2_with fail
    refine (uploadBegun_yes _).mono ?_
    rintro e w3 ⟨rfl, hb3⟩
    have hb03 := below_trans hb1 hb3
    go_wp2
    go_ret
    exact ⟨rfl, hb03⟩

namespace Pp
theorem w0_go {p : ByteArray} (hp : nameB p.data.toList = true) : goE [] 7 10 1000 3 [p] = 0 := by
  have hu : uchE [] 7 10 1000 = 0 := by decide
  rw [goE, if_pos hu, nmsE1 hp]; decide
theorem w0_list (p t : ByteArray) : swL 3 [] ++ [newS 7 p (t.size : Int) (3 + 10)] = [who1 p t 0 13] := by
  have : t.extract 0 0 = ⟨#[]⟩ := by
    apply ByteArray.ext
    rw [ByteArray.data_extract]; simp
  rw [who1, this]; rfl
end Pp
end Go.Proofs.Ytnaedemkpiagmaa
