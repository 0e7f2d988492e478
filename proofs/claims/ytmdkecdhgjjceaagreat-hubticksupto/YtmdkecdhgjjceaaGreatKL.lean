/- What hub.Tick answers. What the law HubTicks answers: true, for every hub, every number and every folder. -/
import Derived.Test.YtmdkecdhgjjceaaGreatKF
import Derived.Test.YtmdkecdhgjjceaaGreatKG
import Derived.Test.YtmdkecdhgjjceaaGreatKH
import Derived.Test.YtmdkecdhgjjceaaGreatKI
set_option linter.unusedSimpArgs false
set_option linter.unusedVariables false
namespace Go.Proofs.YtmdkecdhgjjceaaGreat
open Go.RowKit

namespace Hu
def tkE (H : Hb) (n : Int) : Int := if ¬ hE H = 0 then hE H else if n < 0 ∨ 1099511627776 - H.now < n then 3 else 0
def tkH (H : Hb) (n : Int) : Hb := if tkE H n = 0 then ⟨H.fos, H.gs, H.ss, H.nx, H.la, H.ro, H.now + n⟩ else zeroH
theorem tk_bad {H : Hb} {n : Int} (h : ¬ hE H = 0) : tkE H n = hE H ∧ tkH H n = zeroH := by
 have e : tkE H n = hE H := by rw [tkE, if_pos h]
 exact ⟨e, by rw [tkH, e, if_neg h]⟩
theorem tk_range {H : Hb} {n : Int} (h : hE H = 0) (h1 : n < 0 ∨ 1099511627776 - H.now < n) : tkE H n = 3 ∧ tkH H n = zeroH := by
 have e : tkE H n = 3 := by rw [tkE, if_neg (fun x => x h), if_pos h1]
 exact ⟨e, by rw [tkH, e, if_neg (by decide)]⟩
theorem tk_ok {H : Hb} {n : Int} (h : hE H = 0) (h1 : ¬ (n < 0 ∨ 1099511627776 - H.now < n)) : tkE H n = 0 ∧ tkH H n = ⟨H.fos, H.gs, H.ss, H.nx, H.la, H.ro, H.now + n⟩ := by
 have e : tkE H n = 0 := by rw [tkE, if_neg (fun x => x h), if_neg h1]
 exact ⟨e, by rw [tkH, e, if_pos rfl]⟩
end Hu
set_option maxRecDepth 100000 in
set_option maxHeartbeats 4000000 in
theorem htick_any (H : Hb) (v : Value) (n : Int) (w : World) (hv : LiesH w v H) (hs : SizedH H) :
    Calls Tryz.prog 18 #[v, .int .i64 n] w fun e w' => ∃ u, e = .returned (.tuple #[u, .int .i64 (Hu.tkE H n)]) ∧ LiesH w' u (Hu.tkH H n) ∧ Below w.heap.size w w' := by
 have HV := hid hv
 have HS := hid hs
 obtain ⟨fa, fc, ga, gc, sa, sc, rfl⟩ := hv.shape
 clear hv hs
 obtain ⟨wa, hwa⟩ : ∃ wa, wa = w.alloc (.cells #[.slice fa H.fos.length fc, .slice ga H.gs.length gc, .slice sa H.ss.length sc, .int .i64 H.nx, .int .i64 H.la, .int .i64 H.ro, .int .i64 H.now] 28) := ⟨_, rfl⟩
 obtain ⟨wz, hwz⟩ : ∃ wz, wz = wa.alloc (.cells #[.slice none 0 0, .slice none 0 0, .slice none 0 0, .int .i64 0, .int .i64 0, .int .i64 0, .int .i64 0] 28) := ⟨_, rfl⟩
 have sa1 : wa.heap.size = w.heap.size + 1 := by rw [hwa]; simp
 have bwa : Below w.heap.size w wa := by rw [hwa]; exact (Below.refl _ _).alloc (Nat.le_refl _) _
 have bwz : Below wa.heap.size wa wz := by rw [hwz]; exact (Below.refl _ _).alloc (Nat.le_refl _) _
 have hbz : Below w.heap.size w wz := below_tr bwa bwz
 have HX : Hid (Cs wz w.heap.size [.slice fa H.fos.length fc, .slice ga H.gs.length gc, .slice sa H.ss.length sc, .int .i64 H.nx, .int .i64 H.la, .int .i64 H.ro, .int .i64 H.now]) := ((by rw [hwa]; exact Cs.new w [.slice fa H.fos.length fc, .slice ga H.gs.length gc, .slice sa H.ss.length sc, .int .i64 H.nx, .int .i64 H.la, .int .i64 H.ro, .int .i64 H.now] _ : Cs wa w.heap.size [.slice fa H.fos.length fc, .slice ga H.gs.length gc, .slice sa H.ss.length sc, .int .i64 H.nx, .int .i64 H.la, .int .i64 H.ro, .int .i64 H.now]).below bwz : Cs wz w.heap.size _)
 have HRX := hid (show Cs wz (w.heap.size + 1) [.slice none 0 0, .slice none 0 0, .slice none 0 0, .int .i64 0, .int .i64 0, .int .i64 0, .int .i64 0] from by rw [← sa1, hwz]; exact Cs.new wa [.slice none 0 0, .slice none 0 0, .slice none 0 0, .int .i64 0, .int .i64 0, .int .i64 0, .int .i64 0] _)
 have hwzz : (w.alloc (.cells #[.slice fa H.fos.length fc, .slice ga H.gs.length gc, .slice sa H.ss.length sc, .int .i64 H.nx, .int .i64 H.la, .int .i64 H.ro, .int .i64 H.now] 28)).alloc (.cells #[.slice none 0 0, .slice none 0 0, .slice none 0 0, .int .i64 0, .int .i64 0, .int .i64 0, .int .i64 0] 28) = wz := by rw [hwz, hwa]
 have HWZ := hid hwzz
 have hsz : w.heap.size + 1 < wz.heap.size := HRX.out.lt
 clear hwa hwz bwa bwz sa1 hwzz
 have x0 := HX.out.cell 0 rfl
 have x1 := HX.out.cell 1 rfl
 have x2 := HX.out.cell 2 rfl
 have x3 := HX.out.cell 3 rfl
 have x4 := HX.out.cell 4 rfl
 have x5 := HX.out.cell 5 rfl
 have x6 := HX.out.cell 6 rfl
 go_enter Tryz.func18, Tryz.ntmps18
 go_upto_region 1 with fail
 rw [HWZ.out]
 clear HWZ
 go_wp2_with fail
 refine (serving_any H _ _ (HV.out.below hbz) HS.out).mono ?_
 rintro e w1 ⟨p, rfl, hok, hbad, hb1⟩
 clear x0 x1 x2 x3 x4 x5 x6
 have hb01 := below_tr hbz hb1
 have HR1 := hid (HRX.out.below hb1)
 have hs1 := hb1.size
 by_cases h0 : ¬ (Hu.hE H = 0)
 · have HB := hid (Hu.tk_bad (n := n) h0)
   have hz : (Hu.hE H == 0) = false := by simpa using h0
   have hz2 : (Hu.hE H != 0) = true := by simpa using h0
   clear h0 hok hbad
   generalize Hu.hE H = r at *
   have p0 := HR1.out.cell 0 rfl
   have f0 := HR1.out.fr 0
   have p1 := HR1.out.cell 1 rfl
   have f1 := HR1.out.fr 1
   have p2 := HR1.out.cell 2 rfl
   have f2 := HR1.out.fr 2
   have p3 := HR1.out.cell 3 rfl
   have f3 := HR1.out.fr 3
   have p4 := HR1.out.cell 4 rfl
   have f4 := HR1.out.fr 4
   have p5 := HR1.out.cell 5 rfl
   have f5 := HR1.out.fr 5
   have p6 := HR1.out.cell 6 rfl
   have f6 := HR1.out.fr 6
   go_wp2_with fail
   refine bodyPost_ret (v := .tuple #[.agg #[.slice none 0 0, .slice none 0 0, .slice none 0 0, .int .i64 0, .int .i64 0, .int .i64 0, .int .i64 0], .int .i64 r]) (by simp [results, Tryz.results18, go_sem, p0, p1, p2, p3, p4, p5, p6]) rfl ⟨_, by rw [HB.out.1], by rw [HB.out.2]; exact liesH_zero _, ?_⟩
   exact (((((((hb01.setCell (p := ⟨w.heap.size + 1, 0, none⟩) (Nat.le_succ _) _).setCell (p := ⟨w.heap.size + 1, 1, none⟩) (Nat.le_succ _) _).setCell (p := ⟨w.heap.size + 1, 2, none⟩) (Nat.le_succ _) _).setCell (p := ⟨w.heap.size + 1, 3, none⟩) (Nat.le_succ _) _).setCell (p := ⟨w.heap.size + 1, 4, none⟩) (Nat.le_succ _) _).setCell (p := ⟨w.heap.size + 1, 5, none⟩) (Nat.le_succ _) _).setCell (p := ⟨w.heap.size + 1, 6, none⟩) (Nat.le_succ _) _)
 replace h0 := Decidable.not_not.1 h0
 obtain ⟨rfl, B, vf, vg, vs, hB1, hB2, hsv, hm⟩ := hok h0
 have HSV := hid hsv.lies
 obtain ⟨fb, fd, gb, gd, sb, sd, hC, hH⟩ := HSV.out.hub
 have HC := hid hC
 have HH := hid hH
 have hnow := (Hu.h_parts h0).1
 have hn1 : ¬ H.now < 0 := fun h => hnow (Or.inl h)
 have hn2 : ¬ 1099511627776 < H.now := fun h => hnow (Or.inr h)
 have hgl := HC.out.lt
 rw [h0]
 have HZ0 := hid h0
 clear hok hbad hsv hm hC hH hnow h0
 have q6 := HC.out.cell 6 rfl
 have g6 := HC.out.fr 6
 have hsub : IntKind.i64.wrap (1099511627776 - H.now) = 1099511627776 - H.now := by rw [IntKind.wrap_i64]; omega
 by_cases hneg : n < 0
 · have HB := hid (Hu.tk_range HZ0.out (Or.inl hneg))
   have p0 := HR1.out.cell 0 rfl
   have f0 := HR1.out.fr 0
   have p1 := HR1.out.cell 1 rfl
   have f1 := HR1.out.fr 1
   have p2 := HR1.out.cell 2 rfl
   have f2 := HR1.out.fr 2
   have p3 := HR1.out.cell 3 rfl
   have f3 := HR1.out.fr 3
   have p4 := HR1.out.cell 4 rfl
   have f4 := HR1.out.fr 4
   have p5 := HR1.out.cell 5 rfl
   have f5 := HR1.out.fr 5
   have p6 := HR1.out.cell 6 rfl
   have f6 := HR1.out.fr 6
   go_wp2_with fail
   refine bodyPost_ret (v := .tuple #[.agg #[.slice none 0 0, .slice none 0 0, .slice none 0 0, .int .i64 0, .int .i64 0, .int .i64 0, .int .i64 0], .int .i64 3]) (by simp [results, Tryz.results18, go_sem, p0, p1, p2, p3, p4, p5, p6]) rfl ⟨_, by rw [HB.out.1], by rw [HB.out.2]; exact liesH_zero _, ?_⟩
   exact (((((((hb01.setCell (p := ⟨w.heap.size + 1, 0, none⟩) (Nat.le_succ _) _).setCell (p := ⟨w.heap.size + 1, 1, none⟩) (Nat.le_succ _) _).setCell (p := ⟨w.heap.size + 1, 2, none⟩) (Nat.le_succ _) _).setCell (p := ⟨w.heap.size + 1, 3, none⟩) (Nat.le_succ _) _).setCell (p := ⟨w.heap.size + 1, 4, none⟩) (Nat.le_succ _) _).setCell (p := ⟨w.heap.size + 1, 5, none⟩) (Nat.le_succ _) _).setCell (p := ⟨w.heap.size + 1, 6, none⟩) (Nat.le_succ _) _)
 by_cases hbig : 1099511627776 - H.now < n
 · have HB := hid (Hu.tk_range HZ0.out (Or.inr hbig))
   have p0 := HR1.out.cell 0 rfl
   have f0 := HR1.out.fr 0
   have p1 := HR1.out.cell 1 rfl
   have f1 := HR1.out.fr 1
   have p2 := HR1.out.cell 2 rfl
   have f2 := HR1.out.fr 2
   have p3 := HR1.out.cell 3 rfl
   have f3 := HR1.out.fr 3
   have p4 := HR1.out.cell 4 rfl
   have f4 := HR1.out.fr 4
   have p5 := HR1.out.cell 5 rfl
   have f5 := HR1.out.fr 5
   have p6 := HR1.out.cell 6 rfl
   have f6 := HR1.out.fr 6
   go_wp2_with fail
   refine bodyPost_ret (v := .tuple #[.agg #[.slice none 0 0, .slice none 0 0, .slice none 0 0, .int .i64 0, .int .i64 0, .int .i64 0, .int .i64 0], .int .i64 3]) (by simp [results, Tryz.results18, go_sem, p0, p1, p2, p3, p4, p5, p6]) rfl ⟨_, by rw [HB.out.1], by rw [HB.out.2]; exact liesH_zero _, ?_⟩
   exact (((((((hb01.setCell (p := ⟨w.heap.size + 1, 0, none⟩) (Nat.le_succ _) _).setCell (p := ⟨w.heap.size + 1, 1, none⟩) (Nat.le_succ _) _).setCell (p := ⟨w.heap.size + 1, 2, none⟩) (Nat.le_succ _) _).setCell (p := ⟨w.heap.size + 1, 3, none⟩) (Nat.le_succ _) _).setCell (p := ⟨w.heap.size + 1, 4, none⟩) (Nat.le_succ _) _).setCell (p := ⟨w.heap.size + 1, 5, none⟩) (Nat.le_succ _) _).setCell (p := ⟨w.heap.size + 1, 6, none⟩) (Nat.le_succ _) _)
 have HB := hid (Hu.tk_ok (n := n) HZ0.out (fun h => h.elim hneg hbig))
 have hadd : IntKind.i64.wrap (H.now + n) = H.now + n := by rw [IntKind.wrap_i64]; omega
 obtain ⟨w2, hw2⟩ : ∃ w2, w2 = w1.setCell ⟨wz.heap.size + 1 + 1, 6, none⟩ (.int .i64 (H.now + n)) := ⟨_, rfl⟩
 have hg2 : w1.grownBy w2 (some (wz.heap.size + 1 + 1)) := by rw [hw2]; exact nb_set _ _ _ _
 have HC2 : Hid (Cs w2 (wz.heap.size + 1 + 1) [.slice fb H.fos.length fd, .slice gb H.gs.length gd, .slice sb H.ss.length sd, .int .i64 H.nx, .int .i64 H.la, .int .i64 H.ro, .int .i64 (H.now + n), .map (some (wz.heap.size + 1))]) := (by rw [hw2]; exact HC.out.set 6 _ : Cs w2 _ _)
 have HNS := hid (noStr_sv HC.out)
 have HH2 := hid (show LiesH w2 (.agg #[.slice fb H.fos.length fd, .slice gb H.gs.length gd, .slice sb H.ss.length sd, .int .i64 H.nx, .int .i64 H.la, .int .i64 H.ro, .int .i64 (H.now + n)]) ⟨H.fos, H.gs, H.ss, H.nx, H.la, H.ro, H.now + n⟩ from by
  obtain ⟨a, b, c, e, l1, l2, l3⟩ := HH.out.nb hg2 HNS.out
  injection e with e
  simp only [Array.mk.injEq, List.cons.injEq] at e
  obtain ⟨e1, e2, e3, _⟩ := e
  subst e1 e2 e3
  exact ⟨_, _, _, rfl, l1, l2, l3⟩)
 have HR2 := hid (HR1.out.nb hg2 (by omega))
 have hb02 : Below w.heap.size w w2 := by rw [hw2]; exact hb01.setCell (p := ⟨wz.heap.size + 1 + 1, 6, none⟩) (by show w.heap.size ≤ wz.heap.size + 1 + 1; omega) _
 go_upto_region 7 with fail
 rw [← hw2]
 clear hw2 q6 g6
 have q0 := HC2.out.cell 0 rfl
 have q1 := HC2.out.cell 1 rfl
 have q2 := HC2.out.cell 2 rfl
 have q3 := HC2.out.cell 3 rfl
 have q4 := HC2.out.cell 4 rfl
 have q5 := HC2.out.cell 5 rfl
 have q6 := HC2.out.cell 6 rfl
 have p0 := HR2.out.cell 0 rfl
 have f0 := HR2.out.fr 0
 have p1 := HR2.out.cell 1 rfl
 have f1 := HR2.out.fr 1
 have p2 := HR2.out.cell 2 rfl
 have f2 := HR2.out.fr 2
 have p3 := HR2.out.cell 3 rfl
 have f3 := HR2.out.fr 3
 have p4 := HR2.out.cell 4 rfl
 have f4 := HR2.out.fr 4
 have p5 := HR2.out.cell 5 rfl
 have f5 := HR2.out.fr 5
 have p6 := HR2.out.cell 6 rfl
 have f6 := HR2.out.fr 6
 have n1 : ¬ wz.heap.size + 1 + 1 = w.heap.size + 1 := by omega
 go_wp2_with fail
 refine bodyPost_ret (v := .tuple #[.agg #[.slice fb H.fos.length fd, .slice gb H.gs.length gd, .slice sb H.ss.length sd, .int .i64 H.nx, .int .i64 H.la, .int .i64 H.ro, .int .i64 (H.now + n)], .int .i64 0]) (by simp [results, Tryz.results18, go_sem, p0, p1, p2, p3, p4, p5, p6]) rfl ⟨_, by rw [HB.out.1], by rw [HB.out.2]; exact HH2.out.nb (grown_on (grown_on (grown_on (grown_on (grown_on (grown_on (nb_set w2 (w.heap.size + 1) 0 (.slice fb H.fos.length fd)) (nb_set _ (w.heap.size + 1) 1 (.slice gb H.gs.length gd))) (nb_set _ (w.heap.size + 1) 2 (.slice sb H.ss.length sd))) (nb_set _ (w.heap.size + 1) 3 (.int .i64 H.nx))) (nb_set _ (w.heap.size + 1) 4 (.int .i64 H.la))) (nb_set _ (w.heap.size + 1) 5 (.int .i64 H.ro))) (nb_set _ (w.heap.size + 1) 6 (.int .i64 (H.now + n)))) (noStr_hub HR2.out), ?_⟩
 exact (((((((hb02.setCell (p := ⟨w.heap.size + 1, 0, none⟩) (Nat.le_succ _) _).setCell (p := ⟨w.heap.size + 1, 1, none⟩) (Nat.le_succ _) _).setCell (p := ⟨w.heap.size + 1, 2, none⟩) (Nat.le_succ _) _).setCell (p := ⟨w.heap.size + 1, 3, none⟩) (Nat.le_succ _) _).setCell (p := ⟨w.heap.size + 1, 4, none⟩) (Nat.le_succ _) _).setCell (p := ⟨w.heap.size + 1, 5, none⟩) (Nat.le_succ _) _).setCell (p := ⟨w.heap.size + 1, 6, none⟩) (Nat.le_succ _) _)
end Go.Proofs.YtmdkecdhgjjceaaGreat
set_option linter.unusedSimpArgs false
set_option linter.unusedVariables false
namespace Go.Proofs.YtmdkecdhgjjceaaGreat
open Go.RowKit

set_option maxRecDepth 100000 in
set_option maxHeartbeats 16000000 in
theorem hubTicks_walk (H : Hb) (v : Value) (n : Int) (x : ByteArray) (w : World) (hv : LiesH w v H) (hs : SizedH H) (hx : x.size ≤ 150000000000000) (hu : ∀ s ∈ H.fos, s.na.size ≤ 1048576 ∧ (∀ e ∈ s.jo.base, e.path.size ≤ 1048576 ∧ e.text.size ≤ 1048576) ∧ SizedO 1048576 s.jo.cos) :
    Calls Tryz.prog 6 #[v, .int .i64 n, .string x] w fun e w' => e = .returned (.bool true) ∧ Below w.heap.size w w' := by
 have HV := hid hv
 have HS := hid hs
 have HU := hid hu
 have HSX := hid hx
 have HLF := hid (show ∃ a cap, (∃ vg vs, v = .agg #[.slice a H.fos.length cap, vg, vs, .int .i64 H.nx, .int .i64 H.la, .int .i64 H.ro, .int .i64 H.now]) ∧ ∀ i (h : i < H.fos.length), ∃ b o, a = some ⟨b, o, none⟩ ∧ b < w.heap.size ∧ ShAt w b (o + i * 4) H.fos[i] from by
  obtain ⟨vf, vg, vs, rfl, ⟨a, cap, rfl, _, _, h⟩, _⟩ := hv
  exact ⟨a, cap, ⟨vg, vs, rfl⟩, h⟩)
 obtain ⟨fa, fc, ga, gc, sa, sc, rfl⟩ := hv.shape
 have HL := hid (show ∀ i (h : i < H.fos.length), ∃ b o, fa = some ⟨b, o, none⟩ ∧ b < w.heap.size ∧ ShAt w b (o + i * 4) H.fos[i] from by
  obtain ⟨a, cap, ⟨vg, vs, e⟩, h⟩ := HLF.out
  injection e with e
  simp only [Array.mk.injEq, List.cons.injEq] at e
  obtain ⟨e1, _⟩ := e
  injection e1 with e1
  subst e1
  exact h)
 clear hv hs hu hx HLF
 obtain ⟨wz, hwz⟩ : ∃ wz, wz = w.alloc (.cells #[.slice fa H.fos.length fc, .slice ga H.gs.length gc, .slice sa H.ss.length sc, .int .i64 H.nx, .int .i64 H.la, .int .i64 H.ro, .int .i64 H.now] 28) := ⟨_, rfl⟩
 have hbz : Below w.heap.size w wz := by rw [hwz]; exact (Below.refl _ _).alloc (Nat.le_refl _) _
 have HX : Hid (Cs wz w.heap.size [.slice fa H.fos.length fc, .slice ga H.gs.length gc, .slice sa H.ss.length sc, .int .i64 H.nx, .int .i64 H.la, .int .i64 H.ro, .int .i64 H.now]) := (by rw [hwz]; exact Cs.new w [.slice fa H.fos.length fc, .slice ga H.gs.length gc, .slice sa H.ss.length sc, .int .i64 H.nx, .int .i64 H.la, .int .i64 H.ro, .int .i64 H.now] _ : Cs wz w.heap.size _)
 obtain ⟨E, hE⟩ : ∃ E, E = Hu.hE H := ⟨_, rfl⟩
 obtain ⟨T, hT⟩ : ∃ T, T = Hu.tkH H n := ⟨_, rfl⟩
 obtain ⟨F, hF⟩ : ∃ F, F = Hu.tkE H n := ⟨_, rfl⟩
 obtain ⟨G, hG⟩ : ∃ G, G = Hu.trE H x := ⟨_, rfl⟩
 obtain ⟨R, hR⟩ : ∃ R, R = Hu.trR H x := ⟨_, rfl⟩
 have HE := hid hE
 have HT := hid hT
 have HF := hid hF
 have HG := hid hG
 have HR := hid hR
 clear hE hT hF hG hR
 have x0 := HX.out.cell 0 rfl
 have x1 := HX.out.cell 1 rfl
 have x2 := HX.out.cell 2 rfl
 have x3 := HX.out.cell 3 rfl
 have x4 := HX.out.cell 4 rfl
 have x5 := HX.out.cell 5 rfl
 have x6 := HX.out.cell 6 rfl
 go_enter Tryz.func6, Tryz.ntmps6
 go_upto_region 1 with fail
 rw [← hwz]
 clear hwz
 go_wp2_with fail
 refine (htick_any H _ n _ (HV.out.below hbz) HS.out).mono ?_
 rw [← HF.out, ← HT.out]
 rintro e w1 ⟨u1, rfl, hl1, hb1⟩
 have hb01 := below_tr hbz hb1
 have HL1 := hid hl1
 obtain ⟨fb, fd, gb, gd, sb, sd, rfl⟩ := hl1.shape
 clear hl1 x0 x1 x2 x3 x4 x5 x6
 obtain ⟨w2, hw2⟩ : ∃ w2, w2 = w1.alloc (.cells #[.slice fb T.fos.length fd, .slice gb T.gs.length gd, .slice sb T.ss.length sd, .int .i64 T.nx, .int .i64 T.la, .int .i64 T.ro, .int .i64 T.now] 28) := ⟨_, rfl⟩
 have hb2 : Below w1.heap.size w1 w2 := by rw [hw2]; exact (Below.refl _ _).alloc (Nat.le_refl _) _
 have HT2 : Hid (Cs w2 w1.heap.size [.slice fb T.fos.length fd, .slice gb T.gs.length gd, .slice sb T.ss.length sd, .int .i64 T.nx, .int .i64 T.la, .int .i64 T.ro, .int .i64 T.now]) := (by rw [hw2]; exact Cs.new w1 [.slice fb T.fos.length fd, .slice gb T.gs.length gd, .slice sb T.ss.length sd, .int .i64 T.nx, .int .i64 T.la, .int .i64 T.ro, .int .i64 T.now] _ : Cs w2 w1.heap.size _)
 have hb12 := below_tr hb1 hb2
 have hb02 := below_tr hb01 hb2
 have HX2 := hid (HX.out.below hb12)
 have HL2 := hid (HL1.out.below hb2)
 have x0 := HX2.out.cell 0 rfl
 have x1 := HX2.out.cell 1 rfl
 have x2 := HX2.out.cell 2 rfl
 have x3 := HX2.out.cell 3 rfl
 have x4 := HX2.out.cell 4 rfl
 have x5 := HX2.out.cell 5 rfl
 have x6 := HX2.out.cell 6 rfl
 go_upto_region 2 with fail
 try simp only [World.setCell_alloc_new]
 rw [← hw2]
 clear hw2
 go_wp2_with fail
 refine (htree_any H _ x _ (HV.out.below hb02) HS.out HSX.out).mono ?_
 rw [← HG.out, ← HR.out]
 rintro e w3 ⟨u3, rfl, hl3, hb3⟩
 have HR3 := hid hl3
 obtain ⟨ra, rc, rfl, _⟩ := hl3
 have hb03 := below_tr hb02 hb3
 have HX3 := hid (HX2.out.below hb3)
 have HT3 := hid (HT2.out.below hb3)
 have HL3 := hid (HL2.out.below hb3)
 clear x0 x1 x2 x3 x4 x5 x6
 have x0 := HX3.out.cell 0 rfl
 have x1 := HX3.out.cell 1 rfl
 have x2 := HX3.out.cell 2 rfl
 have x3 := HX3.out.cell 3 rfl
 have x4 := HX3.out.cell 4 rfl
 have x5 := HX3.out.cell 5 rfl
 have x6 := HX3.out.cell 6 rfl
 go_wp2_with fail
 refine (rCheckHub_any H _ _ (HV.out.below hb03) HS.out HU.out).mono ?_
 rw [← HE.out]
 rintro e w4 ⟨rfl, hb4⟩
 have hb04 := below_tr hb03 hb4
 have HX4 := hid (HX3.out.below hb4)
 have HT4 := hid (HT3.out.below hb4)
 have HL4 := hid (HL3.out.below hb4)
 have HR4 := hid (HR3.out.below hb4)
 clear x0 x1 x2 x3 x4 x5 x6
 obtain ⟨w5, hw5⟩ : ∃ w5, w5 = w4.alloc (.cells #[.slice none 0 0, .slice none 0 0, .slice none 0 0, .int .i64 0, .int .i64 0, .int .i64 0, .int .i64 0] 28) := ⟨_, rfl⟩
 have hb5 : Below w4.heap.size w4 w5 := by rw [hw5]; exact (Below.refl _ _).alloc (Nat.le_refl _) _
 have HW5 := hid (show Cs w5 w4.heap.size [.slice none 0 0, .slice none 0 0, .slice none 0 0, .int .i64 0, .int .i64 0, .int .i64 0, .int .i64 0] from by rw [hw5]; exact Cs.new w4 [.slice none 0 0, .slice none 0 0, .slice none 0 0, .int .i64 0, .int .i64 0, .int .i64 0, .int .i64 0] _)
 have hb05 := below_tr hb04 hb5
 have HX5 := hid (HX4.out.below hb5)
 have HT5 := hid (HT4.out.below hb5)
 have HL5 := hid (HL4.out.below hb5)
 have HR5 := hid (HR4.out.below hb5)
 have hxl := HX4.out.lt
 have htl := HT4.out.lt
 have hwl := HW5.out.lt
 go_upto_region 5 with fail
 try simp only [World.setCell_alloc_new]
 rw [← hw5]
 clear hw5
 by_cases h0 : ¬ (E = 0)
 · have hz : (E == 0) = false := by simpa using h0
   have HTZ := hid (show T = zeroH ∧ E = F from by rw [HT.out, HF.out, HE.out]; exact ⟨(Hu.tk_bad (by rw [← HE.out]; exact h0)).2, (Hu.tk_bad (by rw [← HE.out]; exact h0)).1.symm⟩)
   have HGZ := hid (show E = G ∧ R = [] from by
    have e : Hu.trE H x = Hu.hE H := by rw [Hu.trE, if_pos (by rw [← HE.out]; exact h0)]
    refine ⟨by rw [HG.out, HE.out, e], ?_⟩
    rw [HR.out, Hu.trR, e, if_neg (by rw [← HE.out]; exact h0)])
   obtain ⟨rfl, rfl⟩ := HTZ.out
   obtain ⟨rfl, rfl⟩ := HGZ.out
   have HNE := hid h0
   clear h0
   have HWZ5 : Hid (LiesH w5 (.agg #[.slice none 0 0, .slice none 0 0, .slice none 0 0, .int .i64 0, .int .i64 0, .int .i64 0, .int .i64 0]) zeroH) := liesH_zero _
   have HRZ := hid (show Lies w5 (.slice ra ([] : List En).length rc) (Pp.ifz E []) from by rw [Pp.ifz, if_neg HNE.out]; exact HR5.out)
   go_wp2_with fail
   refine (hubBegun_yes _).mono ?_
   rintro e wp ⟨rfl, hbp⟩
   have hb0p := below_tr hb05 hbp
   have HTp := hid (HT5.out.below hbp)
   have HWp := hid (HW5.out.below hbp)
   have a0 := HTp.out.cell 0 rfl
   have a1 := HTp.out.cell 1 rfl
   have a2 := HTp.out.cell 2 rfl
   have a3 := HTp.out.cell 3 rfl
   have a4 := HTp.out.cell 4 rfl
   have a5 := HTp.out.cell 5 rfl
   have a6 := HTp.out.cell 6 rfl
   have b0 := HWp.out.cell 0 rfl
   have b1 := HWp.out.cell 1 rfl
   have b2 := HWp.out.cell 2 rfl
   have b3 := HWp.out.cell 3 rfl
   have b4 := HWp.out.cell 4 rfl
   have b5 := HWp.out.cell 5 rfl
   have b6 := HWp.out.cell 6 rfl
   go_wp2_with fail
   refine (sameHub_yes zeroH _ _ _ (HL5.out.below hbp) (HWZ5.out.below hbp)).mono ?_
   rintro e wq ⟨rfl, hbq⟩
   have hb0q := below_tr hb0p hbq
   have hbpq := below_tr hbp hbq
   clear a0 a1 a2 a3 a4 a5 a6 b0 b1 b2 b3 b4 b5 b6
   go_wp2_with fail
   refine (treeIs_yes [] [] _ _ E _ (HRZ.out.below hbpq) (fun h => absurd h HNE.out)).mono ?_
   rintro e wr ⟨rfl, hbr⟩
   have hb0r := below_tr hb0q hbr
   go_wp2_with fail
   go_ret
   exact ⟨rfl, hb0r⟩
 replace h0 := Decidable.not_not.1 h0
 subst h0
 have HZ0 : Hid (Hu.hE H = 0) := HE.out.symm
 have hnow := (Hu.h_parts HZ0.out).1
 have hn1 : ¬ H.now < 0 := fun h => hnow (Or.inl h)
 have hn2 : ¬ 1099511627776 < H.now := fun h => hnow (Or.inr h)
 have hsub : IntKind.i64.wrap (1099511627776 - H.now) = 1099511627776 - H.now := by rw [IntKind.wrap_i64]; omega
 have x6 := HX5.out.cell 6 rfl
 clear hnow
 by_cases hrg : n < 0 ∨ 1099511627776 - H.now < n
 · have HTZ := hid (show T = zeroH ∧ F = 3 from by rw [HT.out, HF.out]; exact ⟨(Hu.tk_range HZ0.out hrg).2, (Hu.tk_range HZ0.out hrg).1⟩)
   obtain ⟨hTZ, rfl⟩ := HTZ.out
   have HWZ5 := hid (show LiesH w5 (.agg #[.slice none 0 0, .slice none 0 0, .slice none 0 0, .int .i64 0, .int .i64 0, .int .i64 0, .int .i64 0]) T from by rw [hTZ]; exact liesH_zero _)
   clear hTZ HTZ
   rcases hrg with hneg | hbig
   · skip
     have z0 := HX5.out.cell 0 rfl
     have z1 := HX5.out.cell 1 rfl
     have z2 := HX5.out.cell 2 rfl
     have z3 := HX5.out.cell 3 rfl
     have z4 := HX5.out.cell 4 rfl
     have z5 := HX5.out.cell 5 rfl
     have z6 := HX5.out.cell 6 rfl
     go_wp2_with fail
     refine (folderAt_any H _ x _ (HV.out.below hb05)).mono ?_
     rintro e w6 ⟨rfl, hb6⟩
     have hb06 := below_tr hb05 hb6
     have HX6 := hid (HX5.out.below hb6)
     have HTB6 := hid (HT5.out.below hb6)
     have HWB6 := hid (HW5.out.below hb6)
     have HTL6 := hid (HL5.out.below hb6)
     have HWL6 := hid (HWZ5.out.below hb6)
     have HR6 := hid (HR5.out.below hb6)
     clear z0 z1 z2 z3 z4 z5 z6
     have z0 := HX6.out.cell 0 rfl
     cases hin : Hu.inG H.gs x with
     | false =>
      have hneg : Hu.fat H.fos x < 0 := (Hu.fat_neg _ _).2 (by rw [← Hu.told_is HZ0.out, hin])
      have HGZ := hid (show G = 5 ∧ R = [] from by
       have e : Hu.trE H x = 5 := by rw [Hu.trE, if_neg (fun y => y HZ0.out), if_neg (by rw [hin]; decide)]
       refine ⟨by rw [HG.out, e], ?_⟩
       rw [HR.out, Hu.trR, e, if_neg (by decide)])
      obtain ⟨rfl, rfl⟩ := HGZ.out
      clear hin
      have hneg2 : ¬ 0 ≤ Hu.fat H.fos x := by omega
      generalize Hu.fat H.fos x = q at *
      have HRZ := hid (show Lies w6 (.slice ra ([] : List En).length rc) (Pp.ifz 5 []) from by rw [Pp.ifz, if_neg (by decide)]; exact HR6.out)
      go_wp2_with fail
      refine (hubBegun_yes _).mono ?_
      rintro e wp ⟨rfl, hbp⟩
      have hb0p := below_tr hb06 hbp
      have HTp := hid (HTB6.out.below hbp)
      have HWp := hid (HWB6.out.below hbp)
      have a0 := HTp.out.cell 0 rfl
      have a1 := HTp.out.cell 1 rfl
      have a2 := HTp.out.cell 2 rfl
      have a3 := HTp.out.cell 3 rfl
      have a4 := HTp.out.cell 4 rfl
      have a5 := HTp.out.cell 5 rfl
      have a6 := HTp.out.cell 6 rfl
      have b0 := HWp.out.cell 0 rfl
      have b1 := HWp.out.cell 1 rfl
      have b2 := HWp.out.cell 2 rfl
      have b3 := HWp.out.cell 3 rfl
      have b4 := HWp.out.cell 4 rfl
      have b5 := HWp.out.cell 5 rfl
      have b6 := HWp.out.cell 6 rfl
      go_wp2_with fail
      refine (sameHub_yes T _ _ _ (HTL6.out.below hbp) (HWL6.out.below hbp)).mono ?_
      rintro e wq ⟨rfl, hbq⟩
      have hb0q := below_tr hb0p hbq
      have hbpq := below_tr hbp hbq
      clear a0 a1 a2 a3 a4 a5 a6 b0 b1 b2 b3 b4 b5 b6
      go_wp2_with fail
      refine (treeIs_yes [] [] _ _ 5 _ (HRZ.out.below hbpq) (fun h => by cases h)).mono ?_
      rintro e wr ⟨rfl, hbr⟩
      have hb0r := below_tr hb0q hbr
      go_wp2_with fail
      go_ret
      exact ⟨rfl, hb0r⟩
     | true =>
      have hfw := Hu.fat_whr HZ0.out hin
      have hi0 : Hu.whr H.fos H.gs x < H.fos.length := (Hu.whr_at HZ0.out hin).elim (fun h _ => h)
      obtain ⟨i, hwi⟩ : ∃ i, i = Hu.whr H.fos H.gs x := ⟨_, rfl⟩
      have hi : i < H.fos.length := by rw [hwi]; exact hi0
      have HGZ := hid (show G = 0 ∧ R = Jn.tree (H.fos[i].jo) from by
       have e : Hu.trE H x = 0 := by rw [Hu.trE, if_neg (fun y => y HZ0.out), if_pos hin]
       refine ⟨by rw [HG.out, e], ?_⟩
       rw [HR.out, Hu.trR, e, if_pos rfl, ← hwi, Hu.joAt_eq hi])
      have HCK : Hid (Jn.chkE (H.fos[i].jo) = 0) := (Hu.cf_mem (Hu.h_parts HZ0.out).2.1 (List.getElem_mem hi)).2
      have HUZ := hid (HU.out _ (List.getElem_mem hi)).2
      rw [hfw, ← hwi]
      have hii : (i : Int) < H.fos.length := by omega
      have hi1 : 0 ≤ (i : Int) := by omega
      clear hin hfw hi0 hwi
      obtain ⟨b, o, hfa, hbl, he⟩ := HL.out i hi
      subst hfa
      obtain ⟨c0, u, y, c1, c2, c3, hu, hy⟩ := he.below hbl hb06
      clear he
      obtain ⟨rfl, hRR⟩ := HGZ.out
      have HRR := hid hRR
      clear hRR HGZ
      generalize H.fos[i] = s at *
      obtain ⟨na, ⟨jb, jf, jc⟩⟩ := s
      simp only at c0 c1 c2 c3 hu hy
      have HLU := hid hu
      have HLY := hid hy
      obtain ⟨ua, uc, rfl, _⟩ := hu
      obtain ⟨ya, yc, rfl, _⟩ := hy
      go_wp2_with fail
      refine (treeOf_any ⟨jb, jf, jc⟩ _ _ ⟨_, _, rfl, HLU.out, HLY.out⟩ (fun e he => by have := (HUZ.out.1 e he).1; omega) (HUZ.out.2.mono (by decide)) HCK.out).mono ?_
      rintro e w7 ⟨r7, rfl, hl7, hb7⟩
      have hb07 := below_tr hb06 hb7
      have HTB7 := hid (HTB6.out.below hb7)
      have HWB7 := hid (HWB6.out.below hb7)
      have HTL7 := hid (HTL6.out.below hb7)
      have HWL7 := hid (HWL6.out.below hb7)
      have HR7 := hid (show Lies w7 (.slice ra R.length rc) (Pp.ifz 0 R) from by rw [Pp.ifz, if_pos rfl]; exact HR6.out.below hb7)
      have HE7 := hid (show Lies w7 r7 R from by rw [HRR.out]; exact hl7)
      obtain ⟨ea, ec, rfl, _⟩ := hl7
      clear c0 c1 c2 c3 z0
      go_wp2_with fail
      refine (hubBegun_yes _).mono ?_
      rintro e wp ⟨rfl, hbp⟩
      have hb0p := below_tr hb07 hbp
      have HTp := hid (HTB7.out.below hbp)
      have HWp := hid (HWB7.out.below hbp)
      have a0 := HTp.out.cell 0 rfl
      have a1 := HTp.out.cell 1 rfl
      have a2 := HTp.out.cell 2 rfl
      have a3 := HTp.out.cell 3 rfl
      have a4 := HTp.out.cell 4 rfl
      have a5 := HTp.out.cell 5 rfl
      have a6 := HTp.out.cell 6 rfl
      have b0 := HWp.out.cell 0 rfl
      have b1 := HWp.out.cell 1 rfl
      have b2 := HWp.out.cell 2 rfl
      have b3 := HWp.out.cell 3 rfl
      have b4 := HWp.out.cell 4 rfl
      have b5 := HWp.out.cell 5 rfl
      have b6 := HWp.out.cell 6 rfl
      go_wp2_with fail
      refine (sameHub_yes T _ _ _ (HTL7.out.below hbp) (HWL7.out.below hbp)).mono ?_
      rintro e wq ⟨rfl, hbq⟩
      have hb0q := below_tr hb0p hbq
      have hbpq := below_tr hbp hbq
      clear a0 a1 a2 a3 a4 a5 a6 b0 b1 b2 b3 b4 b5 b6
      go_wp2_with fail
      refine (treeIs_yes R [] _ _ 0 _ (HR7.out.below hbpq) (fun _ => HE7.out.below hbpq)).mono ?_
      rintro e wr ⟨rfl, hbr⟩
      have hb0r := below_tr hb0q hbr
      go_wp2_with fail
      go_ret
      exact ⟨rfl, hb0r⟩
   · by_cases hneg : n < 0
     · exact absurd hbig (by omega)
     · skip
       have z0 := HX5.out.cell 0 rfl
       have z1 := HX5.out.cell 1 rfl
       have z2 := HX5.out.cell 2 rfl
       have z3 := HX5.out.cell 3 rfl
       have z4 := HX5.out.cell 4 rfl
       have z5 := HX5.out.cell 5 rfl
       have z6 := HX5.out.cell 6 rfl
       go_wp2_with fail
       refine (folderAt_any H _ x _ (HV.out.below hb05)).mono ?_
       rintro e w6 ⟨rfl, hb6⟩
       have hb06 := below_tr hb05 hb6
       have HX6 := hid (HX5.out.below hb6)
       have HTB6 := hid (HT5.out.below hb6)
       have HWB6 := hid (HW5.out.below hb6)
       have HTL6 := hid (HL5.out.below hb6)
       have HWL6 := hid (HWZ5.out.below hb6)
       have HR6 := hid (HR5.out.below hb6)
       clear z0 z1 z2 z3 z4 z5 z6
       have z0 := HX6.out.cell 0 rfl
       cases hin : Hu.inG H.gs x with
       | false =>
        have hneg : Hu.fat H.fos x < 0 := (Hu.fat_neg _ _).2 (by rw [← Hu.told_is HZ0.out, hin])
        have HGZ := hid (show G = 5 ∧ R = [] from by
         have e : Hu.trE H x = 5 := by rw [Hu.trE, if_neg (fun y => y HZ0.out), if_neg (by rw [hin]; decide)]
         refine ⟨by rw [HG.out, e], ?_⟩
         rw [HR.out, Hu.trR, e, if_neg (by decide)])
        obtain ⟨rfl, rfl⟩ := HGZ.out
        clear hin
        have hneg2 : ¬ 0 ≤ Hu.fat H.fos x := by omega
        generalize Hu.fat H.fos x = q at *
        have HRZ := hid (show Lies w6 (.slice ra ([] : List En).length rc) (Pp.ifz 5 []) from by rw [Pp.ifz, if_neg (by decide)]; exact HR6.out)
        go_wp2_with fail
        refine (hubBegun_yes _).mono ?_
        rintro e wp ⟨rfl, hbp⟩
        have hb0p := below_tr hb06 hbp
        have HTp := hid (HTB6.out.below hbp)
        have HWp := hid (HWB6.out.below hbp)
        have a0 := HTp.out.cell 0 rfl
        have a1 := HTp.out.cell 1 rfl
        have a2 := HTp.out.cell 2 rfl
        have a3 := HTp.out.cell 3 rfl
        have a4 := HTp.out.cell 4 rfl
        have a5 := HTp.out.cell 5 rfl
        have a6 := HTp.out.cell 6 rfl
        have b0 := HWp.out.cell 0 rfl
        have b1 := HWp.out.cell 1 rfl
        have b2 := HWp.out.cell 2 rfl
        have b3 := HWp.out.cell 3 rfl
        have b4 := HWp.out.cell 4 rfl
        have b5 := HWp.out.cell 5 rfl
        have b6 := HWp.out.cell 6 rfl
        go_wp2_with fail
        refine (sameHub_yes T _ _ _ (HTL6.out.below hbp) (HWL6.out.below hbp)).mono ?_
        rintro e wq ⟨rfl, hbq⟩
        have hb0q := below_tr hb0p hbq
        have hbpq := below_tr hbp hbq
        clear a0 a1 a2 a3 a4 a5 a6 b0 b1 b2 b3 b4 b5 b6
        go_wp2_with fail
        refine (treeIs_yes [] [] _ _ 5 _ (HRZ.out.below hbpq) (fun h => by cases h)).mono ?_
        rintro e wr ⟨rfl, hbr⟩
        have hb0r := below_tr hb0q hbr
        go_wp2_with fail
        go_ret
        exact ⟨rfl, hb0r⟩
       | true =>
        have hfw := Hu.fat_whr HZ0.out hin
        have hi0 : Hu.whr H.fos H.gs x < H.fos.length := (Hu.whr_at HZ0.out hin).elim (fun h _ => h)
        obtain ⟨i, hwi⟩ : ∃ i, i = Hu.whr H.fos H.gs x := ⟨_, rfl⟩
        have hi : i < H.fos.length := by rw [hwi]; exact hi0
        have HGZ := hid (show G = 0 ∧ R = Jn.tree (H.fos[i].jo) from by
         have e : Hu.trE H x = 0 := by rw [Hu.trE, if_neg (fun y => y HZ0.out), if_pos hin]
         refine ⟨by rw [HG.out, e], ?_⟩
         rw [HR.out, Hu.trR, e, if_pos rfl, ← hwi, Hu.joAt_eq hi])
        have HCK : Hid (Jn.chkE (H.fos[i].jo) = 0) := (Hu.cf_mem (Hu.h_parts HZ0.out).2.1 (List.getElem_mem hi)).2
        have HUZ := hid (HU.out _ (List.getElem_mem hi)).2
        rw [hfw, ← hwi]
        have hii : (i : Int) < H.fos.length := by omega
        have hi1 : 0 ≤ (i : Int) := by omega
        clear hin hfw hi0 hwi
        obtain ⟨b, o, hfa, hbl, he⟩ := HL.out i hi
        subst hfa
        obtain ⟨c0, u, y, c1, c2, c3, hu, hy⟩ := he.below hbl hb06
        clear he
        obtain ⟨rfl, hRR⟩ := HGZ.out
        have HRR := hid hRR
        clear hRR HGZ
        generalize H.fos[i] = s at *
        obtain ⟨na, ⟨jb, jf, jc⟩⟩ := s
        simp only at c0 c1 c2 c3 hu hy
        have HLU := hid hu
        have HLY := hid hy
        obtain ⟨ua, uc, rfl, _⟩ := hu
        obtain ⟨ya, yc, rfl, _⟩ := hy
        go_wp2_with fail
        refine (treeOf_any ⟨jb, jf, jc⟩ _ _ ⟨_, _, rfl, HLU.out, HLY.out⟩ (fun e he => by have := (HUZ.out.1 e he).1; omega) (HUZ.out.2.mono (by decide)) HCK.out).mono ?_
        rintro e w7 ⟨r7, rfl, hl7, hb7⟩
        have hb07 := below_tr hb06 hb7
        have HTB7 := hid (HTB6.out.below hb7)
        have HWB7 := hid (HWB6.out.below hb7)
        have HTL7 := hid (HTL6.out.below hb7)
        have HWL7 := hid (HWL6.out.below hb7)
        have HR7 := hid (show Lies w7 (.slice ra R.length rc) (Pp.ifz 0 R) from by rw [Pp.ifz, if_pos rfl]; exact HR6.out.below hb7)
        have HE7 := hid (show Lies w7 r7 R from by rw [HRR.out]; exact hl7)
        obtain ⟨ea, ec, rfl, _⟩ := hl7
        clear c0 c1 c2 c3 z0
        go_wp2_with fail
        refine (hubBegun_yes _).mono ?_
        rintro e wp ⟨rfl, hbp⟩
        have hb0p := below_tr hb07 hbp
        have HTp := hid (HTB7.out.below hbp)
        have HWp := hid (HWB7.out.below hbp)
        have a0 := HTp.out.cell 0 rfl
        have a1 := HTp.out.cell 1 rfl
        have a2 := HTp.out.cell 2 rfl
        have a3 := HTp.out.cell 3 rfl
        have a4 := HTp.out.cell 4 rfl
        have a5 := HTp.out.cell 5 rfl
        have a6 := HTp.out.cell 6 rfl
        have b0 := HWp.out.cell 0 rfl
        have b1 := HWp.out.cell 1 rfl
        have b2 := HWp.out.cell 2 rfl
        have b3 := HWp.out.cell 3 rfl
        have b4 := HWp.out.cell 4 rfl
        have b5 := HWp.out.cell 5 rfl
        have b6 := HWp.out.cell 6 rfl
        go_wp2_with fail
        refine (sameHub_yes T _ _ _ (HTL7.out.below hbp) (HWL7.out.below hbp)).mono ?_
        rintro e wq ⟨rfl, hbq⟩
        have hb0q := below_tr hb0p hbq
        have hbpq := below_tr hbp hbq
        clear a0 a1 a2 a3 a4 a5 a6 b0 b1 b2 b3 b4 b5 b6
        go_wp2_with fail
        refine (treeIs_yes R [] _ _ 0 _ (HR7.out.below hbpq) (fun _ => HE7.out.below hbpq)).mono ?_
        rintro e wr ⟨rfl, hbr⟩
        have hb0r := below_tr hb0q hbr
        go_wp2_with fail
        go_ret
        exact ⟨rfl, hb0r⟩
 · have hneg : ¬ n < 0 := fun h => hrg (Or.inl h)
   have hbig : ¬ 1099511627776 - H.now < n := fun h => hrg (Or.inr h)
   have HTZ := hid (show T = ⟨H.fos, H.gs, H.ss, H.nx, H.la, H.ro, H.now + n⟩ ∧ F = 0 from by rw [HT.out, HF.out]; exact ⟨(Hu.tk_ok HZ0.out hrg).2, (Hu.tk_ok HZ0.out hrg).1⟩)
   obtain ⟨hTZ, rfl⟩ := HTZ.out
   have HTZ2 := hid hTZ
   clear hTZ HTZ hrg
   have hadd : IntKind.i64.wrap (H.now + n) = H.now + n := by rw [IntKind.wrap_i64]; omega
   obtain ⟨w8, hw8⟩ : ∃ w8, w8 = (((((((w5.setCell ⟨w4.heap.size, 0, none⟩ (.slice fa H.fos.length fc)).setCell ⟨w4.heap.size, 1, none⟩ (.slice ga H.gs.length gc)).setCell ⟨w4.heap.size, 2, none⟩ (.slice sa H.ss.length sc)).setCell ⟨w4.heap.size, 3, none⟩ (.int .i64 H.nx)).setCell ⟨w4.heap.size, 4, none⟩ (.int .i64 H.la)).setCell ⟨w4.heap.size, 5, none⟩ (.int .i64 H.ro)).setCell ⟨w4.heap.size, 6, none⟩ (.int .i64 H.now)) := ⟨_, rfl⟩
   have hg8 : w5.grownBy w8 (some w4.heap.size) := by rw [hw8]; exact (grown_on (grown_on (grown_on (grown_on (grown_on (grown_on (nb_set w5 (w4.heap.size) 0 (.slice fa H.fos.length fc)) (nb_set _ (w4.heap.size) 1 (.slice ga H.gs.length gc))) (nb_set _ (w4.heap.size) 2 (.slice sa H.ss.length sc))) (nb_set _ (w4.heap.size) 3 (.int .i64 H.nx))) (nb_set _ (w4.heap.size) 4 (.int .i64 H.la))) (nb_set _ (w4.heap.size) 5 (.int .i64 H.ro))) (nb_set _ (w4.heap.size) 6 (.int .i64 H.now)))
   have HW8 : Hid (Cs w8 w4.heap.size [.slice fa H.fos.length fc, .slice ga H.gs.length gc, .slice sa H.ss.length sc, .int .i64 H.nx, .int .i64 H.la, .int .i64 H.ro, .int .i64 H.now]) := (by rw [hw8]; exact (((((((HW5.out.set 0 (.slice fa H.fos.length fc)).set 1 (.slice ga H.gs.length gc)).set 2 (.slice sa H.ss.length sc)).set 3 (.int .i64 H.nx)).set 4 (.int .i64 H.la)).set 5 (.int .i64 H.ro)).set 6 (.int .i64 H.now)) : Cs w8 w4.heap.size _)
   obtain ⟨w9, hw9⟩ : ∃ w9, w9 = w8.setCell ⟨w4.heap.size, 6, none⟩ (.int .i64 (H.now + n)) := ⟨_, rfl⟩
   have hg9 : w8.grownBy w9 (some w4.heap.size) := by rw [hw9]; exact nb_set _ _ _ _
   have hg59 : w5.grownBy w9 (some w4.heap.size) := Nb.trans hg8 hg9
   have HNS := hid (noStr_hub HW5.out)
   have HW9 : Hid (Cs w9 w4.heap.size [.slice fa H.fos.length fc, .slice ga H.gs.length gc, .slice sa H.ss.length sc, .int .i64 H.nx, .int .i64 H.la, .int .i64 H.ro, .int .i64 (H.now + n)]) := (by rw [hw9]; exact HW8.out.set 6 _ : Cs w9 w4.heap.size _)
   have HX9 := hid (HX5.out.nb hg59 (by omega))
   have HT9 := hid (HT5.out.nb hg59 (by omega))
   have HL9 := hid (HL5.out.nb hg59 HNS.out)
   have HR9 := hid (HR5.out.nb hg59 HNS.out)
   have HVN := hid ((HV.out.below hb05).nb hg59 HNS.out)
   have HWL9 := hid (show LiesH w9 (.agg #[.slice fa H.fos.length fc, .slice ga H.gs.length gc, .slice sa H.ss.length sc, .int .i64 H.nx, .int .i64 H.la, .int .i64 H.ro, .int .i64 (H.now + n)]) T from by
    rw [HTZ2.out]
    obtain ⟨a, b, c, e, l1, l2, l3⟩ := HVN.out
    injection e with e
    simp only [Array.mk.injEq, List.cons.injEq] at e
    obtain ⟨e1, e2, e3, _⟩ := e
    subst e1 e2 e3
    exact ⟨_, _, _, rfl, l1, l2, l3⟩)
   have hb09 : Below w.heap.size w w9 := by rw [hw9, hw8]; exact ((((((((hb05.setCell (p := ⟨w4.heap.size, 0, none⟩) (hb04.size) _).setCell (p := ⟨w4.heap.size, 1, none⟩) (hb04.size) _).setCell (p := ⟨w4.heap.size, 2, none⟩) (hb04.size) _).setCell (p := ⟨w4.heap.size, 3, none⟩) (hb04.size) _).setCell (p := ⟨w4.heap.size, 4, none⟩) (hb04.size) _).setCell (p := ⟨w4.heap.size, 5, none⟩) (hb04.size) _).setCell (p := ⟨w4.heap.size, 6, none⟩) (hb04.size) _)).setCell (p := ⟨w4.heap.size, 6, none⟩) hb04.size _
   clear x6
   have x0 := HX5.out.cell 0 rfl
   have x1 := HX5.out.cell 1 rfl
   have x2 := HX5.out.cell 2 rfl
   have x3 := HX5.out.cell 3 rfl
   have x4 := HX5.out.cell 4 rfl
   have x5 := HX5.out.cell 5 rfl
   have x6 := HX5.out.cell 6 rfl
   have p0 := HW5.out.cell 0 rfl
   have f0 := HW5.out.fr 0
   have p1 := HW5.out.cell 1 rfl
   have f1 := HW5.out.fr 1
   have p2 := HW5.out.cell 2 rfl
   have f2 := HW5.out.fr 2
   have p3 := HW5.out.cell 3 rfl
   have f3 := HW5.out.fr 3
   have p4 := HW5.out.cell 4 rfl
   have f4 := HW5.out.fr 4
   have p5 := HW5.out.cell 5 rfl
   have f5 := HW5.out.fr 5
   have p6 := HW5.out.cell 6 rfl
   have f6 := HW5.out.fr 6
   have n1 : ¬ w.heap.size = w4.heap.size := by omega
   have n2 : ¬ w4.heap.size = w.heap.size := by omega
   go_upto_region 9 with fail
   rw [← hw8]
   clear hw8 p0 p1 p2 p3 p4 p5 p6 f0 f1 f2 f3 f4 f5 f6 x0 x1 x2 x3 x4 x5 x6
   have p6 := HW8.out.cell 6 rfl
   have f6 := HW8.out.fr 6
   go_upto_region 10 with fail
   rw [← hw9]
   clear hw9 p6 f6
   have z0 := HX9.out.cell 0 rfl
   have z1 := HX9.out.cell 1 rfl
   have z2 := HX9.out.cell 2 rfl
   have z3 := HX9.out.cell 3 rfl
   have z4 := HX9.out.cell 4 rfl
   have z5 := HX9.out.cell 5 rfl
   have z6 := HX9.out.cell 6 rfl
   go_wp2_with fail
   refine (folderAt_any H _ x _ (HV.out.below hb09)).mono ?_
   rintro e w6 ⟨rfl, hb6⟩
   have hb06 := below_tr hb09 hb6
   have HX6 := hid (HX9.out.below hb6)
   have HTB6 := hid (HT9.out.below hb6)
   have HWB6 := hid (HW9.out.below hb6)
   have HTL6 := hid (HL9.out.below hb6)
   have HWL6 := hid (HWL9.out.below hb6)
   have HR6 := hid (HR9.out.below hb6)
   clear z0 z1 z2 z3 z4 z5 z6
   have z0 := HX6.out.cell 0 rfl
   cases hin : Hu.inG H.gs x with
   | false =>
    have hneg : Hu.fat H.fos x < 0 := (Hu.fat_neg _ _).2 (by rw [← Hu.told_is HZ0.out, hin])
    have HGZ := hid (show G = 5 ∧ R = [] from by
     have e : Hu.trE H x = 5 := by rw [Hu.trE, if_neg (fun y => y HZ0.out), if_neg (by rw [hin]; decide)]
     refine ⟨by rw [HG.out, e], ?_⟩
     rw [HR.out, Hu.trR, e, if_neg (by decide)])
    obtain ⟨rfl, rfl⟩ := HGZ.out
    clear hin
    have hneg2 : ¬ 0 ≤ Hu.fat H.fos x := by omega
    generalize Hu.fat H.fos x = q at *
    have HRZ := hid (show Lies w6 (.slice ra ([] : List En).length rc) (Pp.ifz 5 []) from by rw [Pp.ifz, if_neg (by decide)]; exact HR6.out)
    go_wp2_with fail
    refine (hubBegun_yes _).mono ?_
    rintro e wp ⟨rfl, hbp⟩
    have hb0p := below_tr hb06 hbp
    have HTp := hid (HTB6.out.below hbp)
    have HWp := hid (HWB6.out.below hbp)
    have a0 := HTp.out.cell 0 rfl
    have a1 := HTp.out.cell 1 rfl
    have a2 := HTp.out.cell 2 rfl
    have a3 := HTp.out.cell 3 rfl
    have a4 := HTp.out.cell 4 rfl
    have a5 := HTp.out.cell 5 rfl
    have a6 := HTp.out.cell 6 rfl
    have b0 := HWp.out.cell 0 rfl
    have b1 := HWp.out.cell 1 rfl
    have b2 := HWp.out.cell 2 rfl
    have b3 := HWp.out.cell 3 rfl
    have b4 := HWp.out.cell 4 rfl
    have b5 := HWp.out.cell 5 rfl
    have b6 := HWp.out.cell 6 rfl
    go_wp2_with fail
    refine (sameHub_yes T _ _ _ (HTL6.out.below hbp) (HWL6.out.below hbp)).mono ?_
    rintro e wq ⟨rfl, hbq⟩
    have hb0q := below_tr hb0p hbq
    have hbpq := below_tr hbp hbq
    clear a0 a1 a2 a3 a4 a5 a6 b0 b1 b2 b3 b4 b5 b6
    go_wp2_with fail
    refine (treeIs_yes [] [] _ _ 5 _ (HRZ.out.below hbpq) (fun h => by cases h)).mono ?_
    rintro e wr ⟨rfl, hbr⟩
    have hb0r := below_tr hb0q hbr
    go_wp2_with fail
    go_ret
    exact ⟨rfl, hb0r⟩
   | true =>
    have hfw := Hu.fat_whr HZ0.out hin
    have hi0 : Hu.whr H.fos H.gs x < H.fos.length := (Hu.whr_at HZ0.out hin).elim (fun h _ => h)
    obtain ⟨i, hwi⟩ : ∃ i, i = Hu.whr H.fos H.gs x := ⟨_, rfl⟩
    have hi : i < H.fos.length := by rw [hwi]; exact hi0
    have HGZ := hid (show G = 0 ∧ R = Jn.tree (H.fos[i].jo) from by
     have e : Hu.trE H x = 0 := by rw [Hu.trE, if_neg (fun y => y HZ0.out), if_pos hin]
     refine ⟨by rw [HG.out, e], ?_⟩
     rw [HR.out, Hu.trR, e, if_pos rfl, ← hwi, Hu.joAt_eq hi])
    have HCK : Hid (Jn.chkE (H.fos[i].jo) = 0) := (Hu.cf_mem (Hu.h_parts HZ0.out).2.1 (List.getElem_mem hi)).2
    have HUZ := hid (HU.out _ (List.getElem_mem hi)).2
    rw [hfw, ← hwi]
    have hii : (i : Int) < H.fos.length := by omega
    have hi1 : 0 ≤ (i : Int) := by omega
    clear hin hfw hi0 hwi
    obtain ⟨b, o, hfa, hbl, he⟩ := HL.out i hi
    subst hfa
    obtain ⟨c0, u, y, c1, c2, c3, hu, hy⟩ := he.below hbl hb06
    clear he
    obtain ⟨rfl, hRR⟩ := HGZ.out
    have HRR := hid hRR
    clear hRR HGZ
    generalize H.fos[i] = s at *
    obtain ⟨na, ⟨jb, jf, jc⟩⟩ := s
    simp only at c0 c1 c2 c3 hu hy
    have HLU := hid hu
    have HLY := hid hy
    obtain ⟨ua, uc, rfl, _⟩ := hu
    obtain ⟨ya, yc, rfl, _⟩ := hy
    go_wp2_with fail
    refine (treeOf_any ⟨jb, jf, jc⟩ _ _ ⟨_, _, rfl, HLU.out, HLY.out⟩ (fun e he => by have := (HUZ.out.1 e he).1; omega) (HUZ.out.2.mono (by decide)) HCK.out).mono ?_
    rintro e w7 ⟨r7, rfl, hl7, hb7⟩
    have hb07 := below_tr hb06 hb7
    have HTB7 := hid (HTB6.out.below hb7)
    have HWB7 := hid (HWB6.out.below hb7)
    have HTL7 := hid (HTL6.out.below hb7)
    have HWL7 := hid (HWL6.out.below hb7)
    have HR7 := hid (show Lies w7 (.slice ra R.length rc) (Pp.ifz 0 R) from by rw [Pp.ifz, if_pos rfl]; exact HR6.out.below hb7)
    have HE7 := hid (show Lies w7 r7 R from by rw [HRR.out]; exact hl7)
    obtain ⟨ea, ec, rfl, _⟩ := hl7
    clear c0 c1 c2 c3 z0
    go_wp2_with fail
    refine (hubBegun_yes _).mono ?_
    rintro e wp ⟨rfl, hbp⟩
    have hb0p := below_tr hb07 hbp
    have HTp := hid (HTB7.out.below hbp)
    have HWp := hid (HWB7.out.below hbp)
    have a0 := HTp.out.cell 0 rfl
    have a1 := HTp.out.cell 1 rfl
    have a2 := HTp.out.cell 2 rfl
    have a3 := HTp.out.cell 3 rfl
    have a4 := HTp.out.cell 4 rfl
    have a5 := HTp.out.cell 5 rfl
    have a6 := HTp.out.cell 6 rfl
    have b0 := HWp.out.cell 0 rfl
    have b1 := HWp.out.cell 1 rfl
    have b2 := HWp.out.cell 2 rfl
    have b3 := HWp.out.cell 3 rfl
    have b4 := HWp.out.cell 4 rfl
    have b5 := HWp.out.cell 5 rfl
    have b6 := HWp.out.cell 6 rfl
    go_wp2_with fail
    refine (sameHub_yes T _ _ _ (HTL7.out.below hbp) (HWL7.out.below hbp)).mono ?_
    rintro e wq ⟨rfl, hbq⟩
    have hb0q := below_tr hb0p hbq
    have hbpq := below_tr hbp hbq
    clear a0 a1 a2 a3 a4 a5 a6 b0 b1 b2 b3 b4 b5 b6
    go_wp2_with fail
    refine (treeIs_yes R [] _ _ 0 _ (HR7.out.below hbpq) (fun _ => HE7.out.below hbpq)).mono ?_
    rintro e wr ⟨rfl, hbr⟩
    have hb0r := below_tr hb0q hbr
    go_wp2_with fail
    go_ret
    exact ⟨rfl, hb0r⟩
end Go.Proofs.YtmdkecdhgjjceaaGreat
