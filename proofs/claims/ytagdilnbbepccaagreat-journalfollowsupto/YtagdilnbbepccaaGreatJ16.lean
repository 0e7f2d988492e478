/- The law JournalFollows. -/
import Derived.Test.YtagdilnbbepccaaGreatJ15
import Derived.Test.YtagdilnbbepccaaGreatMO
import Derived.Test.YtagdilnbbepccaaGreatMN
set_option linter.unusedSimpArgs false
set_option linter.unusedVariables false
namespace Go.Proofs.YtagdilnbbepccaaGreat
open Go.RowKit

namespace Jn
theorem folR_ifz (T : List En) (c : Int) (P : Pg) : folR T c P = Pp.ifz (folE T c P) (folR T c P) := by
  by_cases h : folE T c P = 0
  · rw [Pp.ifz_yes h]
  · rw [Pp.ifz_no h, (fol_bad rfl h).1]
end Jn

set_option maxRecDepth 100000 in
set_option maxHeartbeats 2000000 in
theorem journalFollows_walk (T : List En) (v : Value) (c : Int) (P : Pg) (vp : Value) (w : World) (hv : Lies w v T) (hs : ∀ e ∈ T, e.path.size ≤ 1000000000 ∧ e.text.size ≤ 1000000000) (hp : LiesP w vp P) (hps : ∀ e ∈ P.tree, e.path.size ≤ 1000000000 ∧ e.text.size ≤ 1000000000) (hpc : SizedO 1000000000 P.cos) :
    Calls Tryz.prog 6 #[v, .int .i64 c, vp] w fun e w' => e = .returned (.bool true) ∧ Below w.heap.size w w' := by
  have HV := hid hv
  have HPP := hid hp
  have HS1 : Hid (Sized T) := (fun e he => ⟨by have := (hs e he).1; omega, by have := (hs e he).2; omega⟩ : Sized T)
  have HS2 : Hid (∀ e ∈ T, e.path.size ≤ 1000000000) := (fun e he => (hs e he).1 : ∀ e ∈ T, e.path.size ≤ 1000000000)
  have HP1 : Hid (Sized P.tree) := (fun e he => ⟨by have := (hps e he).1; omega, by have := (hps e he).2; omega⟩ : Sized P.tree)
  have HP2 : Hid (∀ e ∈ P.tree, e.path.size ≤ 1000000000) := (fun e he => (hps e he).1 : ∀ e ∈ P.tree, e.path.size ≤ 1000000000)
  have HC1 := hid hpc
  have HC2 := hid (hpc.mono (by decide : 1000000000 ≤ 150000000000000))
  have HRI := hid (Jn.folR_ifz T c P)
  clear hs hps hpc
  obtain ⟨vt, vc, rfl, hvt, hvc⟩ := hp
  obtain ⟨a1, b1, rfl, _⟩ := hvt
  obtain ⟨a2, b2, rfl, _⟩ := hvc
  obtain ⟨va, vcap, rfl, _⟩ := hv
  obtain ⟨wz, hwz⟩ : ∃ wz, wz = w.alloc (.cells #[.bool P.reset, .slice a1 P.tree.length b1, .slice a2 P.cos.length b2, .int .i64 P.cur, .bool P.more] 40) := ⟨_, rfl⟩
  have hbz : Below w.heap.size w wz := by rw [hwz]; exact (Below.refl _ _).alloc (Nat.le_refl _) _
  have HBX : Hid (Cs wz w.heap.size [.bool P.reset, .slice a1 P.tree.length b1, .slice a2 P.cos.length b2, .int .i64 P.cur, .bool P.more]) := (by rw [hwz]; exact Cs.new w [.bool P.reset, .slice a1 P.tree.length b1, .slice a2 P.cos.length b2, .int .i64 P.cur, .bool P.more] _ : Cs wz w.heap.size [.bool P.reset, .slice a1 P.tree.length b1, .slice a2 P.cos.length b2, .int .i64 P.cur, .bool P.more])
  go_enter Tryz.func6, Tryz.ntmps6
  go_wp2_with fail
  rw [← hwz]
  clear hwz
  refine (follow_any T _ c P _ _ (HV.out.below hbz) HS1.out (HPP.out.below hbz) HP1.out HC2.out).mono ?_
  rintro e w1 ⟨r, rfl, hli, hb1⟩
  rw [HRI.out] at hli
  have HL1 := hid hli
  have HX1 := hid (HBX.out.below hb1)
  have x0 := HX1.out.cell 0 rfl
  have x1 := HX1.out.cell 1 rfl
  have x2 := HX1.out.cell 2 rfl
  have x3 := HX1.out.cell 3 rfl
  have x4 := HX1.out.cell 4 rfl
  have hb01 := below_tr hbz hb1
  clear hli
  go_wp2_with fail
  refine (followOf_any T _ c P _ _ (HV.out.below hb01) HS2.out (HPP.out.below hb01) HP2.out HC1.out).mono ?_
  rintro e w2 ⟨u, rfl, hu, hb2⟩
  have HL2 := hid (HL1.out.below hb2)
  have HU2 := hid hu
  have hb02 := below_tr hb01 hb2
  clear hu x0 x1 x2 x3 x4
  go_wp2_with fail
  refine (journalBegun_yes _).mono ?_
  rintro e w3 ⟨rfl, hb3⟩
  have HL3 := hid (HL2.out.below hb3)
  have HU3 : Hid (Jn.folE T c P = 0 → Lies w3 u (Jn.folR T c P)) := (fun h => (HU2.out h).below hb3 : Jn.folE T c P = 0 → Lies w3 u (Jn.folR T c P))
  have hb03 := below_tr hb02 hb3
  go_wp2_with fail
  refine (treeIs_yes (Jn.folR T c P) [] r u (Jn.folE T c P) _ HL3.out HU3.out).mono ?_
  rintro e w4 ⟨rfl, hb4⟩
  have hb04 := below_tr hb03 hb4
  go_wp2_with fail
  go_ret
  exact ⟨rfl, hb04⟩
end Go.Proofs.YtagdilnbbepccaaGreat
