/- What the server's answer is to a request that is not allowed. -/
import Derived.Test.YtchlgpeiombmdaaGreatKE
set_option linter.unusedSimpArgs false
set_option linter.unusedVariables false
namespace Go.Proofs.YtchlgpeiombmdaaGreat
open Go.RowKit

set_option maxRecDepth 100000 in
set_option maxHeartbeats 4000000 in
theorem sanswer_err (H : Hb) (q : Rq) (vq vf : Value) (g mb : Nat) (w : World) (hsv : SvL w g mb H) (hs : SizedG H.gs) (hq : LiesQ w vq q) (hsq : SizedQ q) (hck : ¬ Hu.ckE H.gs q = 0) : AnsOK w g mb vf vq ⟨Hu.ckE H.gs q, 0, Jn.zeroP⟩ H := by
 have HSG := hid hs
 have HSQ := hid hsq
 have HCK := hid hck
 clear hs hsq hck
 unfold AnsOK
 obtain ⟨va, rfl, lq⟩ := hq
 have HLQ := hid lq
 obtain ⟨qa, qc, rfl, _⟩ := lq
 obtain ⟨kind, who, fo, name, key, text, num, off, base, ch⟩ := q
 simp only at *
 obtain ⟨wa, hwa⟩ : ∃ wa, wa = w.alloc (.cells #[.int .i64 kind, .string who, .string fo, .string name, .string key, .string text, .int .i64 num, .int .i64 off, .int .i64 base, .slice qa ch.length qc] 31) := ⟨_, rfl⟩
 obtain ⟨wz, hwz⟩ : ∃ wz, wz = wa.alloc (.cells #[.int .i64 0, .int .i64 0, .bool false, .slice none 0 0, .slice none 0 0, .int .i64 0, .bool false] 39) := ⟨_, rfl⟩
 have sa1 : wa.heap.size = w.heap.size + 1 := by rw [hwa]; simp
 have bwa : Below w.heap.size w wa := by rw [hwa]; exact (Below.refl _ _).alloc (Nat.le_refl _) _
 have bwz : Below wa.heap.size wa wz := by rw [hwz]; exact (Below.refl _ _).alloc (Nat.le_refl _) _
 have hbz : Below w.heap.size w wz := below_tr bwa bwz
 have HQX : Hid (Cs wz w.heap.size [.int .i64 kind, .string who, .string fo, .string name, .string key, .string text, .int .i64 num, .int .i64 off, .int .i64 base, .slice qa ch.length qc]) := ((by rw [hwa]; exact Cs.new w [.int .i64 kind, .string who, .string fo, .string name, .string key, .string text, .int .i64 num, .int .i64 off, .int .i64 base, .slice qa ch.length qc] _ : Cs wa w.heap.size [.int .i64 kind, .string who, .string fo, .string name, .string key, .string text, .int .i64 num, .int .i64 off, .int .i64 base, .slice qa ch.length qc]).below bwz : Cs wz w.heap.size _)
 have HAX := hid (show Cs wz (w.heap.size + 1) [.int .i64 0, .int .i64 0, .bool false, .slice none 0 0, .slice none 0 0, .int .i64 0, .bool false] from by rw [← sa1, hwz]; exact Cs.new wa [.int .i64 0, .int .i64 0, .bool false, .slice none 0 0, .slice none 0 0, .int .i64 0, .bool false] _)
 have hwzz : (w.alloc (.cells #[.int .i64 kind, .string who, .string fo, .string name, .string key, .string text, .int .i64 num, .int .i64 off, .int .i64 base, .slice qa ch.length qc] 31)).alloc (.cells #[.int .i64 0, .int .i64 0, .bool false, .slice none 0 0, .slice none 0 0, .int .i64 0, .bool false] 39) = wz := by rw [hwz, hwa]
 have HWZ := hid hwzz
 have hsz2 : w.heap.size + 1 < wz.heap.size := HAX.out.lt
 clear hwa hwz bwa bwz sa1 hwzz
 obtain ⟨fa, fc, ga, gc, sa, sc, hC, hF, hG, hS⟩ := hsv.shape
 have HSVz := hid (hsv.below hbz)
 have HCz := hid (hC.below hbz)
 have HGz := hid (hG.below hbz)
 have hgl := hC.lt
 have hgz : g < wz.heap.size := Nat.lt_of_lt_of_le hgl hbz.size
 clear hC hF hG hS
 have x0 := HQX.out.cell 0 rfl
 have x1 := HQX.out.cell 1 rfl
 have x2 := HQX.out.cell 2 rfl
 have x3 := HQX.out.cell 3 rfl
 have x4 := HQX.out.cell 4 rfl
 have x5 := HQX.out.cell 5 rfl
 have x6 := HQX.out.cell 6 rfl
 have x7 := HQX.out.cell 7 rfl
 have x8 := HQX.out.cell 8 rfl
 have x9 := HQX.out.cell 9 rfl
 go_enter Tryz.func21, Tryz.ntmps21
 go_upto_region 1 with fail
 rw [HWZ.out]
 clear HWZ
 go_wp2_with fail
 refine (scheck_any H.gs ⟨kind, who, fo, name, key, text, num, off, base, ch⟩ _ _ g wz hgz (HCz.out.cell 1 rfl) HGz.out HSG.out ⟨_, rfl, HLQ.out.below hbz⟩ HSQ.out).mono ?_
 rintro e w1 ⟨rfl, hb1⟩
 clear x0 x1 x2 x3 x4 x5 x6 x7 x8 x9
 have hb01 := below_tr hbz hb1
 have HSV1 := hid (HSVz.out.below hb1)
 have HQ1 := hid (HQX.out.below hb1)
 have HA1 := hid (HAX.out.below hb1)
 have hs1 := hb1.size
 obtain ⟨r, hr⟩ : ∃ r, r = Hu.ckE H.gs ⟨kind, who, fo, name, key, text, num, off, base, ch⟩ := ⟨_, rfl⟩
 have hz : (r == 0) = false := by rw [hr]; simpa using HCK.out
 have hz2 : (r != 0) = true := by rw [hr]; simpa using HCK.out
 rw [← hr]
 have HRR := hid hr
 clear hr HCK
 obtain ⟨w2, hw2⟩ : ∃ w2, w2 = (((((((w1.setCell ⟨w.heap.size + 1, 0, none⟩ (.int .i64 r)).setCell ⟨w.heap.size + 1, 1, none⟩ (.int .i64 0)).setCell ⟨w.heap.size + 1, 2, none⟩ (.bool false)).setCell ⟨w.heap.size + 1, 3, none⟩ (.slice none 0 0)).setCell ⟨w.heap.size + 1, 4, none⟩ (.slice none 0 0)).setCell ⟨w.heap.size + 1, 5, none⟩ (.int .i64 0)).setCell ⟨w.heap.size + 1, 6, none⟩ (.bool false)) := ⟨_, rfl⟩
 have hg2 : w1.grownBy w2 (some (w.heap.size + 1)) := by rw [hw2]; exact (grown_on (grown_on (grown_on (grown_on (grown_on (grown_on (nb_set w1 (w.heap.size + 1) 0 (.int .i64 r)) (nb_set _ (w.heap.size + 1) 1 (.int .i64 0))) (nb_set _ (w.heap.size + 1) 2 (.bool false))) (nb_set _ (w.heap.size + 1) 3 (.slice none 0 0))) (nb_set _ (w.heap.size + 1) 4 (.slice none 0 0))) (nb_set _ (w.heap.size + 1) 5 (.int .i64 0))) (nb_set _ (w.heap.size + 1) 6 (.bool false)))
 have HA2 : Hid (Cs w2 (w.heap.size + 1) [.int .i64 r, .int .i64 0, .bool false, .slice none 0 0, .slice none 0 0, .int .i64 0, .bool false]) := (by rw [hw2]; exact (((((((HA1.out.set 0 (.int .i64 r)).set 1 (.int .i64 0)).set 2 (.bool false)).set 3 (.slice none 0 0)).set 4 (.slice none 0 0)).set 5 (.int .i64 0)).set 6 (.bool false)) : Cs w2 (w.heap.size + 1) _)
 have hb2 : Below w.heap.size w w2 := by rw [hw2]; exact (((((((hb01.setCell (p := ⟨w.heap.size + 1, 0, none⟩) (Nat.le_succ _) _).setCell (p := ⟨w.heap.size + 1, 1, none⟩) (Nat.le_succ _) _).setCell (p := ⟨w.heap.size + 1, 2, none⟩) (Nat.le_succ _) _).setCell (p := ⟨w.heap.size + 1, 3, none⟩) (Nat.le_succ _) _).setCell (p := ⟨w.heap.size + 1, 4, none⟩) (Nat.le_succ _) _).setCell (p := ⟨w.heap.size + 1, 5, none⟩) (Nat.le_succ _) _).setCell (p := ⟨w.heap.size + 1, 6, none⟩) (Nat.le_succ _) _)
 have HSV2 := hid (HSV1.out.nb hg2 (noStr_ans HA1.out) (by omega))
 have p0 := HA1.out.cell 0 rfl
 have f0 := HA1.out.fr 0
 have p1 := HA1.out.cell 1 rfl
 have f1 := HA1.out.fr 1
 have p2 := HA1.out.cell 2 rfl
 have f2 := HA1.out.fr 2
 have p3 := HA1.out.cell 3 rfl
 have f3 := HA1.out.fr 3
 have p4 := HA1.out.cell 4 rfl
 have f4 := HA1.out.fr 4
 have p5 := HA1.out.cell 5 rfl
 have f5 := HA1.out.fr 5
 have p6 := HA1.out.cell 6 rfl
 have f6 := HA1.out.fr 6
 go_wp2_with fail
 rw [← hw2]
 have y0 := HA2.out.cell 0 rfl
 have y1 := HA2.out.cell 1 rfl
 have y2 := HA2.out.cell 2 rfl
 have y3 := HA2.out.cell 3 rfl
 have y4 := HA2.out.cell 4 rfl
 have y5 := HA2.out.cell 5 rfl
 have y6 := HA2.out.cell 6 rfl
 refine bodyPost_ret (v := .agg #[.int .i64 r, .int .i64 0, .bool false, .slice none 0 0, .slice none 0 0, .int .i64 0, .bool false]) (by simp [results, Tryz.results21, go_sem, y0, y1, y2, y3, y4, y5, y6]) rfl ⟨_, rfl, by rw [← HRR.out]; exact liesA_num _ _ _, HSV2.out, Nb2.of_below _ _ hb2⟩
end Go.Proofs.YtchlgpeiombmdaaGreat
