/- What the law HubChecks answers: true, for every hub. -/
import Derived.Test.YtmdkecdhgjjceaaGreatKG
import Derived.Test.YtmdkecdhgjjceaaGreatKI
set_option linter.unusedSimpArgs false
set_option linter.unusedVariables false
namespace Go.Proofs.YtmdkecdhgjjceaaGreat
open Go.RowKit

set_option maxRecDepth 100000 in
set_option maxHeartbeats 8000000 in
theorem hubChecks_walk (H : Hb) (v : Value) (w : World) (hv : LiesH w v H) (hs : SizedH H) (hu : ∀ s ∈ H.fos, s.na.size ≤ 1048576 ∧ (∀ e ∈ s.jo.base, e.path.size ≤ 1048576 ∧ e.text.size ≤ 1048576) ∧ SizedO 1048576 s.jo.cos) :
    Calls Tryz.prog 4 #[v] w fun e w' => e = .returned (.bool true) ∧ Below w.heap.size w w' := by
  have HV := hid hv
  have HS := hid hs
  have HU := hid hu
  obtain ⟨fa, fc, ga, gc, sa, sc, rfl⟩ := hv.shape
  clear hv hs hu
  obtain ⟨E, hE⟩ : ∃ E, E = Hu.hE H := ⟨_, rfl⟩
  have HE := hid hE
  clear hE
  obtain ⟨wz, hwz⟩ : ∃ wz, wz = w.alloc (.cells #[.slice fa H.fos.length fc, .slice ga H.gs.length gc, .slice sa H.ss.length sc, .int .i64 H.nx, .int .i64 H.la, .int .i64 H.ro, .int .i64 H.now] 28) := ⟨_, rfl⟩
  have hbz : Below w.heap.size w wz := by rw [hwz]; exact (Below.refl _ _).alloc (Nat.le_refl _) _
  have HX : Hid (Cs wz w.heap.size [.slice fa H.fos.length fc, .slice ga H.gs.length gc, .slice sa H.ss.length sc, .int .i64 H.nx, .int .i64 H.la, .int .i64 H.ro, .int .i64 H.now]) := (by rw [hwz]; exact Cs.new w [.slice fa H.fos.length fc, .slice ga H.gs.length gc, .slice sa H.ss.length sc, .int .i64 H.nx, .int .i64 H.la, .int .i64 H.ro, .int .i64 H.now] _ : Cs wz w.heap.size _)
  have HVZ := hid (HV.out.below hbz)
  have x0 := HX.out.cell 0 rfl
  have x1 := HX.out.cell 1 rfl
  have x2 := HX.out.cell 2 rfl
  have x3 := HX.out.cell 3 rfl
  have x4 := HX.out.cell 4 rfl
  have x5 := HX.out.cell 5 rfl
  have x6 := HX.out.cell 6 rfl
  go_enter Tryz.func4, Tryz.ntmps4
  go_upto_region 1 with fail
  rw [← hwz]
  clear hwz
  go_region_held3 (fun W => W.cell? ⟨w.heap.size, 0, none⟩ = some (.slice fa H.fos.length fc) ∧ W.cell? ⟨w.heap.size, 1, none⟩ = some (.slice ga H.gs.length gc) ∧ W.cell? ⟨w.heap.size, 2, none⟩ = some (.slice sa H.ss.length sc) ∧ W.cell? ⟨w.heap.size, 3, none⟩ = some (.int .i64 H.nx) ∧ W.cell? ⟨w.heap.size, 4, none⟩ = some (.int .i64 H.la) ∧ W.cell? ⟨w.heap.size, 5, none⟩ = some (.int .i64 H.ro) ∧ W.cell? ⟨w.heap.size, 6, none⟩ = some (.int .i64 H.now)) (go_keep) (first
    | (go_at_call 11; refine (hubBegun_yes _).mono ?_; rintro e wa ⟨rfl, hba⟩; have hwa : Below wz.heap.size wz wa := ((Below.refl _ _).drew).trans hba; have HXa := hid (HX.out.below hwa); have j0 := HXa.out.cell 0 rfl; have j1 := HXa.out.cell 1 rfl; have j2 := HXa.out.cell 2 rfl; have j3 := HXa.out.cell 3 rfl; have j4 := HXa.out.cell 4 rfl; have j5 := HXa.out.cell 5 rfl; have j6 := HXa.out.cell 6 rfl)
    | (go_at_call 13; refine (hcheck_any H _ _ (by first | exact HVZ.out.below hwc | exact HVZ.out.below hwa) HS.out).mono ?_; rw [← HE.out]; rintro e wb ⟨rfl, hbb⟩; have hwb : Below wz.heap.size wz wb := (by first | exact below_tr hwc hbb | exact below_tr hwa hbb); have HXb := hid (HX.out.below hwb); have k0 := HXb.out.cell 0 rfl; have k1 := HXb.out.cell 1 rfl; have k2 := HXb.out.cell 2 rfl; have k3 := HXb.out.cell 3 rfl; have k4 := HXb.out.cell 4 rfl; have k5 := HXb.out.cell 5 rfl; have k6 := HXb.out.cell 6 rfl)
    | (go_at_call 14; refine (rCheckHub_any H _ _ (by first | exact HVZ.out.below hwb | exact HVZ.out.below hwa) HS.out HU.out).mono ?_; rw [← HE.out]; rintro e wc ⟨rfl, hbc⟩; have hwc : Below wz.heap.size wz wc := (by first | exact below_tr hwb hbc | exact below_tr hwa hbc); have HXc := hid (HX.out.below hwc); have l0 := HXc.out.cell 0 rfl; have l1 := HXc.out.cell 1 rfl; have l2 := HXc.out.cell 2 rfl; have l3 := HXc.out.cell 3 rfl; have l4 := HXc.out.cell 4 rfl; have l5 := HXc.out.cell 5 rfl; have l6 := HXc.out.cell 6 rfl))
  all_goals
    go_wp2_with fail
    go_ret
    first
      | exact ⟨rfl, below_tr hbz hwc⟩
      | exact ⟨rfl, below_tr hbz hwb⟩
end Go.Proofs.YtmdkecdhgjjceaaGreat
