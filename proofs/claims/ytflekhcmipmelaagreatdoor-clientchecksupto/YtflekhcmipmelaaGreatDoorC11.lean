/- What the law ClientChecks answers: true, for every client. -/
import Derived.Test.YtflekhcmipmelaaGreatDoorC2
import Derived.Test.YtflekhcmipmelaaGreatDoorPN
import Derived.Deep.RegionHeld3
set_option linter.unusedSimpArgs false
set_option linter.unusedVariables false
namespace Go.Proofs.YtflekhcmipmelaaGreatDoor
open Go.RowKit

set_option maxRecDepth 100000 in
set_option maxHeartbeats 4000000 in
theorem clientChecks_walk (c : Cn) (v : Value) (w : World) (hv : LiesN w v c) (hs : SizedN c) (hpb : ∀ e ∈ c.base, e.path.size ≤ 1000000000) (hpm : ∀ e ∈ c.mine, e.path.size ≤ 1000000000) :
    Calls Tryz.prog 4 #[v] w fun e w' => e = .returned (.bool true) ∧ Below w.heap.size w w' := by
  have HV := hid hv
  have HS := hid hs
  have HPB := hid hpb
  have HPM := hid hpm
  obtain ⟨vb, vm, va, rfl, lb, lm, la⟩ := hv
  obtain ⟨ab, cb, rfl, _⟩ := lb
  obtain ⟨am, cm, rfl, _⟩ := lm
  obtain ⟨aa, ca, rfl, _⟩ := la
  clear hs hpb hpm
  obtain ⟨wz, hwz⟩ : ∃ wz, wz = w.alloc (.cells #[.string c.who, .string c.fo, .slice ab c.base.length cb, .int .i64 c.cur, .slice am c.mine.length cm, .string c.key, .slice aa c.ask.length ca, .int .i64 c.keys] 25) := ⟨_, rfl⟩
  have hbz : Below w.heap.size w wz := by rw [hwz]; exact (Below.refl _ _).alloc (Nat.le_refl _) _
  have HX : Hid (Cs wz w.heap.size [.string c.who, .string c.fo, .slice ab c.base.length cb, .int .i64 c.cur, .slice am c.mine.length cm, .string c.key, .slice aa c.ask.length ca, .int .i64 c.keys]) := (by rw [hwz]; exact Cs.new w [.string c.who, .string c.fo, .slice ab c.base.length cb, .int .i64 c.cur, .slice am c.mine.length cm, .string c.key, .slice aa c.ask.length ca, .int .i64 c.keys] _ : Cs wz w.heap.size [.string c.who, .string c.fo, .slice ab c.base.length cb, .int .i64 c.cur, .slice am c.mine.length cm, .string c.key, .slice aa c.ask.length ca, .int .i64 c.keys])
  have HCE : Hid (∀ W, Below wz.heap.size wz W → W.cell? ⟨w.heap.size, 0, none⟩ = some (.string c.who) ∧ W.cell? ⟨w.heap.size, 1, none⟩ = some (.string c.fo) ∧ W.cell? ⟨w.heap.size, 2, none⟩ = some (.slice ab c.base.length cb) ∧ W.cell? ⟨w.heap.size, 3, none⟩ = some (.int .i64 c.cur) ∧ W.cell? ⟨w.heap.size, 4, none⟩ = some (.slice am c.mine.length cm) ∧ W.cell? ⟨w.heap.size, 5, none⟩ = some (.string c.key) ∧ W.cell? ⟨w.heap.size, 6, none⟩ = some (.slice aa c.ask.length ca) ∧ W.cell? ⟨w.heap.size, 7, none⟩ = some (.int .i64 c.keys)) := (fun W hW => ⟨(HX.out.below hW).cell 0 rfl, (HX.out.below hW).cell 1 rfl, (HX.out.below hW).cell 2 rfl, (HX.out.below hW).cell 3 rfl, (HX.out.below hW).cell 4 rfl, (HX.out.below hW).cell 5 rfl, (HX.out.below hW).cell 6 rfl, (HX.out.below hW).cell 7 rfl⟩ : ∀ W, Below wz.heap.size wz W → W.cell? ⟨w.heap.size, 0, none⟩ = some (.string c.who) ∧ W.cell? ⟨w.heap.size, 1, none⟩ = some (.string c.fo) ∧ W.cell? ⟨w.heap.size, 2, none⟩ = some (.slice ab c.base.length cb) ∧ W.cell? ⟨w.heap.size, 3, none⟩ = some (.int .i64 c.cur) ∧ W.cell? ⟨w.heap.size, 4, none⟩ = some (.slice am c.mine.length cm) ∧ W.cell? ⟨w.heap.size, 5, none⟩ = some (.string c.key) ∧ W.cell? ⟨w.heap.size, 6, none⟩ = some (.slice aa c.ask.length ca) ∧ W.cell? ⟨w.heap.size, 7, none⟩ = some (.int .i64 c.keys))
  have HLV : Hid (∀ W, Below wz.heap.size wz W → LiesN W (.agg #[.string c.who, .string c.fo, .slice ab c.base.length cb, .int .i64 c.cur, .slice am c.mine.length cm, .string c.key, .slice aa c.ask.length ca, .int .i64 c.keys]) c) := (fun W hW => HV.out.below (below_tr hbz hW) : ∀ W, Below wz.heap.size wz W → LiesN W (.agg #[.string c.who, .string c.fo, .slice ab c.base.length cb, .int .i64 c.cur, .slice am c.mine.length cm, .string c.key, .slice aa c.ask.length ca, .int .i64 c.keys]) c)
  have HE : Hid (∀ W : World, True) := (fun _ => trivial : ∀ W : World, True)
  obtain ⟨y, hy⟩ : ∃ y, y = Cy.chE c := ⟨_, rfl⟩
  have HY := hid hy
  clear hy
  obtain ⟨z0, z1, z2, z3, z4, z5, z6, z7⟩ := HCE.out wz (Below.refl _ _)
  go_enter Tryz.func4, Tryz.ntmps4
  go_wp2_with fail
  rw [← hwz]
  clear hwz
  go_region_held3 (fun W => W.cell? ⟨w.heap.size, 0, none⟩ = some (.string c.who) ∧ W.cell? ⟨w.heap.size, 1, none⟩ = some (.string c.fo) ∧ W.cell? ⟨w.heap.size, 2, none⟩ = some (.slice ab c.base.length cb) ∧ W.cell? ⟨w.heap.size, 3, none⟩ = some (.int .i64 c.cur) ∧ W.cell? ⟨w.heap.size, 4, none⟩ = some (.slice am c.mine.length cm) ∧ W.cell? ⟨w.heap.size, 5, none⟩ = some (.string c.key) ∧ W.cell? ⟨w.heap.size, 6, none⟩ = some (.slice aa c.ask.length ca) ∧ W.cell? ⟨w.heap.size, 7, none⟩ = some (.int .i64 c.keys)) (go_keep) (first
    | (go_at_call 10; refine (clientBegun_yes _).mono ?_; rintro e wa ⟨rfl, hba⟩; have hwa : Below wz.heap.size wz wa := (by first | exact (Below.refl _ _).drew.trans (hba.mono (by simp)) | exact hba); obtain ⟨z0, z1, z2, z3, z4, z5, z6, z7⟩ := HCE.out wa hwa)
    | (go_at_call 13; refine (ccheck_any c _ _ (by first | exact HLV.out _ hwa | exact HLV.out _ hwc) HS.out).mono ?_; rintro e wb ⟨rfl, hbb⟩; rw [← HY.out]; have hwb : Below wz.heap.size wz wb := (by first | exact below_tr hwa hbb | exact below_tr hwc hbb); obtain ⟨z0, z1, z2, z3, z4, z5, z6, z7⟩ := HCE.out wb hwb)
    | (go_at_call 12; refine (rCheckClient_any c _ _ (by first | exact HLV.out _ hwb | exact HLV.out _ hwa) HS.out HPB.out HPM.out).mono ?_; rintro e wc ⟨rfl, hbc⟩; rw [← HY.out]; have hwc : Below wz.heap.size wz wc := (by first | exact below_tr hwb hbc | exact below_tr hwa hbc); obtain ⟨z0, z1, z2, z3, z4, z5, z6, z7⟩ := HCE.out wc hwc))
  all_goals
    go_wp2
    go_ret
    first | exact ⟨rfl, below_tr hbz hwc⟩ | exact ⟨rfl, below_tr hbz hwb⟩
end Go.Proofs.YtflekhcmipmelaaGreatDoor
