/- What the law ClientNews answers: true, for every two texts. -/
import Derived.Test.YtflekhcmipmelaaGreatDoorC2
import Derived.Test.YtflekhcmipmelaaGreatDoorC5
import Derived.Test.YtflekhcmipmelaaGreatDoorPN
import Derived.Deep.RegionHeld3
set_option linter.unusedSimpArgs false
set_option linter.unusedVariables false
namespace Go.Proofs.YtflekhcmipmelaaGreatDoor
open Go.RowKit

set_option maxRecDepth 100000 in
set_option maxHeartbeats 4000000 in
theorem clientNews_walk (who fo : ByteArray) (w : World) (h1 : who.size ≤ 140737488351232) (h2 : fo.size ≤ 140737488351232) :
    Calls Tryz.prog 3 #[.string who, .string fo] w fun e w' => e = .returned (.bool true) ∧ Below w.heap.size w w' := by
  have HS : Hid (SizedN (newN who fo)) := (sizedN_new (by omega) (by omega) : SizedN (newN who fo))
  obtain ⟨r, hr⟩ : ∃ r, r = Cy.chE (newN who fo) := ⟨_, rfl⟩
  have HR := hid hr
  clear hr
  go_enter Tryz.func3, Tryz.ntmps3
  go_wp2_with fail
  refine (cnew_any who fo _ (by omega) (by omega)).mono ?_
  rintro e w1 ⟨u, rfl, hN1, hb1⟩
  rw [← HR.out]
  obtain ⟨d, hd⟩ : ∃ d, d = Cy.ok (newN who fo) := ⟨_, rfl⟩
  rw [← hd] at hN1
  have HD := hid hd
  clear hd
  have HN1 := hid hN1.lies
  obtain ⟨vb, vm, va, rfl, ⟨lb1, _⟩, ⟨lm1, _⟩, la1, _⟩ := hN1
  obtain ⟨ab, cb, rfl, _⟩ := lb1
  obtain ⟨am, cm, rfl, _⟩ := lm1
  obtain ⟨aa, ca, rfl, _⟩ := la1
  obtain ⟨wz, hwz⟩ : ∃ wz, wz = (w1.alloc (.cells #[.string d.who, .string d.fo, .slice ab d.base.length cb, .int .i64 d.cur, .slice am d.mine.length cm, .string d.key, .slice aa d.ask.length ca, .int .i64 d.keys] 25)).alloc (.cells #[.string who, .string fo, .slice none 0 0, .int .i64 0, .slice none 0 0, .string ⟨#[]⟩, .slice none 0 0, .int .i64 0] 25) := ⟨_, rfl⟩
  have hbz : Below w1.heap.size w1 wz := by rw [hwz]; exact ((Below.refl _ _).alloc (Nat.le_refl _) _).alloc (by simp) _
  have HX : Hid (Cs wz w1.heap.size [.string d.who, .string d.fo, .slice ab d.base.length cb, .int .i64 d.cur, .slice am d.mine.length cm, .string d.key, .slice aa d.ask.length ca, .int .i64 d.keys]) := (by rw [hwz]; exact (Cs.new w1 [.string d.who, .string d.fo, .slice ab d.base.length cb, .int .i64 d.cur, .slice am d.mine.length cm, .string d.key, .slice aa d.ask.length ca, .int .i64 d.keys] _).below ((Below.refl _ _).alloc (Nat.le_refl _) _) : Cs wz w1.heap.size _)
  have HY : Hid (Cs wz (w1.heap.size + 1) [.string who, .string fo, .slice none 0 0, .int .i64 0, .slice none 0 0, .string ⟨#[]⟩, .slice none 0 0, .int .i64 0]) := (by
    have := Cs.new (w1.alloc (.cells #[.string d.who, .string d.fo, .slice ab d.base.length cb, .int .i64 d.cur, .slice am d.mine.length cm, .string d.key, .slice aa d.ask.length ca, .int .i64 d.keys] 25)) [.string who, .string fo, .slice none 0 0, .int .i64 0, .slice none 0 0, .string ⟨#[]⟩, .slice none 0 0, .int .i64 0] 25
    rw [hwz]; simpa using this : Cs wz (w1.heap.size + 1) [.string who, .string fo, .slice none 0 0, .int .i64 0, .slice none 0 0, .string ⟨#[]⟩, .slice none 0 0, .int .i64 0])
  have hb0z := below_tr hb1 hbz
  have HCE : Hid (∀ W, Below wz.heap.size wz W → (W.cell? ⟨w1.heap.size, 0, none⟩ = some (.string d.who) ∧ W.cell? ⟨w1.heap.size, 1, none⟩ = some (.string d.fo) ∧ W.cell? ⟨w1.heap.size, 2, none⟩ = some (.slice ab d.base.length cb) ∧ W.cell? ⟨w1.heap.size, 3, none⟩ = some (.int .i64 d.cur) ∧ W.cell? ⟨w1.heap.size, 4, none⟩ = some (.slice am d.mine.length cm) ∧ W.cell? ⟨w1.heap.size, 5, none⟩ = some (.string d.key) ∧ W.cell? ⟨w1.heap.size, 6, none⟩ = some (.slice aa d.ask.length ca) ∧ W.cell? ⟨w1.heap.size, 7, none⟩ = some (.int .i64 d.keys)) ∧ W.cell? ⟨w1.heap.size + 1, 0, none⟩ = some (.string who) ∧ W.cell? ⟨w1.heap.size + 1, 1, none⟩ = some (.string fo) ∧ W.cell? ⟨w1.heap.size + 1, 2, none⟩ = some (.slice none 0 0) ∧ W.cell? ⟨w1.heap.size + 1, 3, none⟩ = some (.int .i64 0) ∧ W.cell? ⟨w1.heap.size + 1, 4, none⟩ = some (.slice none 0 0) ∧ W.cell? ⟨w1.heap.size + 1, 5, none⟩ = some (.string ⟨#[]⟩) ∧ W.cell? ⟨w1.heap.size + 1, 6, none⟩ = some (.slice none 0 0) ∧ W.cell? ⟨w1.heap.size + 1, 7, none⟩ = some (.int .i64 0)) := (fun W hW => ⟨⟨(HX.out.below hW).cell 0 rfl, (HX.out.below hW).cell 1 rfl, (HX.out.below hW).cell 2 rfl, (HX.out.below hW).cell 3 rfl, (HX.out.below hW).cell 4 rfl, (HX.out.below hW).cell 5 rfl, (HX.out.below hW).cell 6 rfl, (HX.out.below hW).cell 7 rfl⟩, ⟨(HY.out.below hW).cell 0 rfl, (HY.out.below hW).cell 1 rfl, (HY.out.below hW).cell 2 rfl, (HY.out.below hW).cell 3 rfl, (HY.out.below hW).cell 4 rfl, (HY.out.below hW).cell 5 rfl, (HY.out.below hW).cell 6 rfl, (HY.out.below hW).cell 7 rfl⟩⟩ : ∀ W, Below wz.heap.size wz W → (W.cell? ⟨w1.heap.size, 0, none⟩ = some (.string d.who) ∧ W.cell? ⟨w1.heap.size, 1, none⟩ = some (.string d.fo) ∧ W.cell? ⟨w1.heap.size, 2, none⟩ = some (.slice ab d.base.length cb) ∧ W.cell? ⟨w1.heap.size, 3, none⟩ = some (.int .i64 d.cur) ∧ W.cell? ⟨w1.heap.size, 4, none⟩ = some (.slice am d.mine.length cm) ∧ W.cell? ⟨w1.heap.size, 5, none⟩ = some (.string d.key) ∧ W.cell? ⟨w1.heap.size, 6, none⟩ = some (.slice aa d.ask.length ca) ∧ W.cell? ⟨w1.heap.size, 7, none⟩ = some (.int .i64 d.keys)) ∧ W.cell? ⟨w1.heap.size + 1, 0, none⟩ = some (.string who) ∧ W.cell? ⟨w1.heap.size + 1, 1, none⟩ = some (.string fo) ∧ W.cell? ⟨w1.heap.size + 1, 2, none⟩ = some (.slice none 0 0) ∧ W.cell? ⟨w1.heap.size + 1, 3, none⟩ = some (.int .i64 0) ∧ W.cell? ⟨w1.heap.size + 1, 4, none⟩ = some (.slice none 0 0) ∧ W.cell? ⟨w1.heap.size + 1, 5, none⟩ = some (.string ⟨#[]⟩) ∧ W.cell? ⟨w1.heap.size + 1, 6, none⟩ = some (.slice none 0 0) ∧ W.cell? ⟨w1.heap.size + 1, 7, none⟩ = some (.int .i64 0))
  have HLV : Hid (∀ W, Below wz.heap.size wz W → LiesN W (.agg #[.string d.who, .string d.fo, .slice ab d.base.length cb, .int .i64 d.cur, .slice am d.mine.length cm, .string d.key, .slice aa d.ask.length ca, .int .i64 d.keys]) (if r = 0 then newN who fo else zeroN)) := (fun W hW => by rw [HR.out]; show LiesN W _ (Cy.ok (newN who fo)); rw [← HD.out]; exact HN1.out.below (below_tr hbz hW) : ∀ W, Below wz.heap.size wz W → LiesN W (.agg #[.string d.who, .string d.fo, .slice ab d.base.length cb, .int .i64 d.cur, .slice am d.mine.length cm, .string d.key, .slice aa d.ask.length ca, .int .i64 d.keys]) (if r = 0 then newN who fo else zeroN))
  obtain ⟨⟨z0, z1, z2, z3, z4, z5, z6, z7⟩, y0, y1, y2, y3, y4, y5, y6, y7⟩ := HCE.out wz (Below.refl _ _)
  go_upto_region 3 with fail
  rw [← hwz]
  clear hwz
  go_region_held3 (fun W => (W.cell? ⟨w1.heap.size, 0, none⟩ = some (.string d.who) ∧ W.cell? ⟨w1.heap.size, 1, none⟩ = some (.string d.fo) ∧ W.cell? ⟨w1.heap.size, 2, none⟩ = some (.slice ab d.base.length cb) ∧ W.cell? ⟨w1.heap.size, 3, none⟩ = some (.int .i64 d.cur) ∧ W.cell? ⟨w1.heap.size, 4, none⟩ = some (.slice am d.mine.length cm) ∧ W.cell? ⟨w1.heap.size, 5, none⟩ = some (.string d.key) ∧ W.cell? ⟨w1.heap.size, 6, none⟩ = some (.slice aa d.ask.length ca) ∧ W.cell? ⟨w1.heap.size, 7, none⟩ = some (.int .i64 d.keys)) ∧ W.cell? ⟨w1.heap.size + 1, 0, none⟩ = some (.string who) ∧ W.cell? ⟨w1.heap.size + 1, 1, none⟩ = some (.string fo) ∧ W.cell? ⟨w1.heap.size + 1, 2, none⟩ = some (.slice none 0 0) ∧ W.cell? ⟨w1.heap.size + 1, 3, none⟩ = some (.int .i64 0) ∧ W.cell? ⟨w1.heap.size + 1, 4, none⟩ = some (.slice none 0 0) ∧ W.cell? ⟨w1.heap.size + 1, 5, none⟩ = some (.string ⟨#[]⟩) ∧ W.cell? ⟨w1.heap.size + 1, 6, none⟩ = some (.slice none 0 0) ∧ W.cell? ⟨w1.heap.size + 1, 7, none⟩ = some (.int .i64 0)) (go_keep) (first
    | (go_at_call 10; refine (clientBegun_yes _).mono ?_; rintro e wa ⟨rfl, hba⟩; have hwa : Below wz.heap.size wz wa := (by first | exact (Below.refl _ _).drew.trans (hba.mono (by simp)) | exact hba); obtain ⟨⟨z0, z1, z2, z3, z4, z5, z6, z7⟩, y0, y1, y2, y3, y4, y5, y6, y7⟩ := HCE.out wa hwa)
    | (go_at_call 12; refine (rCheckClient_any (newN who fo) _ _ (liesN_new who fo _) HS.out (fun e he => by cases he) (fun e he => by cases he)).mono ?_; rintro e wc ⟨rfl, hbc⟩; rw [← HR.out]; have hwc : Below wz.heap.size wz wc := below_tr hwa hbc; obtain ⟨⟨z0, z1, z2, z3, z4, z5, z6, z7⟩, y0, y1, y2, y3, y4, y5, y6, y7⟩ := HCE.out wc hwc)
    | (go_at_call 11; refine (clientIs_yes (newN who fo) (newN who fo) _ _ r _ (HLV.out _ hwc) (liesN_new who fo _) (fun _ => rfl)).mono ?_; rintro e wd ⟨rfl, hbd⟩; have hwd : Below wz.heap.size wz wd := below_tr hwc hbd; obtain ⟨⟨z0, z1, z2, z3, z4, z5, z6, z7⟩, y0, y1, y2, y3, y4, y5, y6, y7⟩ := HCE.out wd hwd))
  all_goals
    go_wp2
    go_ret
    exact ⟨rfl, below_tr hb0z hwd⟩
end Go.Proofs.YtflekhcmipmelaaGreatDoor
