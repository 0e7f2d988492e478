/- What the server's take, give and makeFolder do. What the server's answer is, and hub.Serve's, where what number does is known. What hub.New, Check, Tree and Serve answer. -/
import Derived.Test.YtchlgpeiombmdaaGreatQR
set_option linter.unusedSimpArgs false
set_option linter.unusedVariables false
namespace Go.Proofs.YtchlgpeiombmdaaGreat
open Go.RowKit

theorem SvL.shape {w : World} {g mb : Nat} {H : Hb} (h : SvL w g mb H) : ∃ fa fc ga gc sa sc, Cs w g [.slice fa H.fos.length fc, .slice ga H.gs.length gc, .slice sa H.ss.length sc, .int .i64 H.nx, .int .i64 H.la, .int .i64 H.ro, .int .i64 H.now, .map (some mb)] ∧ LiesF w (.slice fa H.fos.length fc) H.fos ∧ LiesG w (.slice ga H.gs.length gc) H.gs ∧ LiesS w (.slice sa H.ss.length sc) H.ss := by
 obtain ⟨vf, vg, vs, h1, h2, h3, h4⟩ := h
 have l2 := h2
 have l3 := h3
 have l4 := h4
 obtain ⟨fa, fc, rfl, _⟩ := h2
 obtain ⟨ga, gc, rfl, _⟩ := h3
 obtain ⟨sa, sc, rfl, _⟩ := h4
 exact ⟨fa, fc, ga, gc, sa, sc, h1, l2, l3, l4⟩
theorem noStr_sv {w : World} {g mb : Nat} {a b c d e f : Nat} {x y z : Option Addr} {n1 n2 n3 n4 : Int} (h : Cs w g [.slice x a b, .slice y c d, .slice z e f, .int .i64 n1, .int .i64 n2, .int .i64 n3, .int .i64 n4, .map (some mb)]) : NoStr w g := h.noStr (fun s hs => by simp at hs)
namespace Hu
def upH (H : Hb) (e : Int) (S : List Se) (x l r : Int) : Hb := if e = 0 then ⟨H.fos, H.gs, S, x, l, r, H.now⟩ else H
def gsH (H : Hb) (e : Int) (G : List Gr) : Hb := if e = 0 then { H with gs := G } else H
end Hu

set_option maxRecDepth 100000 in
set_option maxHeartbeats 4000000 in
theorem stake_any (H : Hb) (S : List Se) (u : Value) (x l r m e : Int) (g mb : Nat) (w : World) (hsv : SvL w g mb H) (hu : LiesS w u S) :
    Calls Tryz.prog 80 #[.pointer (some ⟨g, 0, none⟩), .agg #[u, .int .i64 x, .int .i64 l, .int .i64 r], .int .i64 m, .int .i64 e] w fun z w' => z = .returned (.tuple #[.int .i64 m, .int .i64 e]) ∧ SvL w' g mb (Hu.upH H e S x l r) ∧ w.grownBy w' (some g) := by
 have HU := hid hu
 obtain ⟨ua, uc, rfl, _⟩ := hu
 obtain ⟨fos, gs, ss, nx, la, ro, now⟩ := H
 obtain ⟨fa, fc, ga, gc, sa, sc, hC, hF, hG, hS⟩ := hsv.shape
 simp only at hC hF hG hS
 have HC := hid hC
 have HF := hid hF
 have HG := hid hG
 have HS := hid hS
 have hgl := hC.lt
 obtain ⟨wz, hwz⟩ : ∃ wz, wz = w.alloc (.cells #[.slice ua S.length uc, .int .i64 x, .int .i64 l, .int .i64 r] 26) := ⟨_, rfl⟩
 have hbz : Below w.heap.size w wz := by rw [hwz]; exact (Below.refl _ _).alloc (Nat.le_refl _) _
 have HX : Hid (Cs wz w.heap.size [.slice ua S.length uc, .int .i64 x, .int .i64 l, .int .i64 r]) := (by rw [hwz]; exact Cs.new w [.slice ua S.length uc, .int .i64 x, .int .i64 l, .int .i64 r] _ : Cs wz w.heap.size _)
 have HCz := hid (HC.out.below hbz)
 clear hsv hF hG hS hC
 by_cases he : e = 0
 · subst he
   obtain ⟨w2, hw2⟩ : ∃ w2, w2 = (((wz.setCell ⟨g, 2, none⟩ (.slice ua S.length uc)).setCell ⟨g, 2 + 1, none⟩ (.int .i64 x)).setCell ⟨g, 2 + 2, none⟩ (.int .i64 l)).setCell ⟨g, 2 + 3, none⟩ (.int .i64 r) := ⟨_, rfl⟩
   have hg2 : wz.grownBy w2 (some g) := by rw [hw2]; exact grown_on (grown_on (grown_on (nb_set _ _ _ _) (nb_set _ _ _ _)) (nb_set _ _ _ _)) (nb_set _ _ _ _)
   have HC2 : Hid (Cs w2 g [.slice fa fos.length fc, .slice ga gs.length gc, .slice ua S.length uc, .int .i64 x, .int .i64 l, .int .i64 r, .int .i64 now, .map (some mb)]) := (by rw [hw2]; exact ((((HCz.out.set 2 (.slice ua S.length uc)).set 3 (.int .i64 x)).set 4 (.int .i64 l)).set 5 (.int .i64 r)) : Cs w2 g _)
   have HNS := hid (noStr_sv HCz.out)
   have HR := hid (show SvL w2 g mb ⟨fos, gs, S, x, l, r, now⟩ from ⟨_, _, _, HC2.out, (HF.out.below hbz).nb hg2 HNS.out, (HG.out.below hbz).nb hg2 HNS.out, (HU.out.below hbz).nb hg2 HNS.out⟩)
   have hg0 : w.grownBy w2 (some g) := Nb.trans (Nb.below g hbz) hg2
   have y0 := HX.out.cell 0 rfl
   have y1 := HX.out.cell 1 rfl
   have y2 := HX.out.cell 2 rfl
   have y3 := HX.out.cell 3 rfl
   have p2 := HCz.out.cell 2 rfl
   have p3 := HCz.out.cell 3 rfl
   have p4 := HCz.out.cell 4 rfl
   have p5 := HCz.out.cell 5 rfl
   have f2 := HCz.out.fr 2
   have f3 := HCz.out.fr 3
   have f4 := HCz.out.fr 4
   have f5 := HCz.out.fr 5
   go_enter Tryz.func80, Tryz.ntmps80
   go_upto_region 1 with fail
   rw [← hwz]
   clear hwz
   go_wp2_with fail
   rw [← hw2]
   go_ret2
   exact ⟨rfl, by rw [Hu.upH, if_pos rfl]; exact HR.out, hg0⟩
 · have hz : (e == 0) = false := by simpa using he
   have HE := hid he
   have HR := hid (show SvL wz g mb ⟨fos, gs, ss, nx, la, ro, now⟩ from ⟨_, _, _, HCz.out, HF.out.below hbz, HG.out.below hbz, HS.out.below hbz⟩)
   clear he
   go_enter Tryz.func80, Tryz.ntmps80
   go_upto_region 1 with fail
   rw [← hwz]
   clear hwz
   go_wp2_with fail
   go_ret2
   exact ⟨rfl, by rw [Hu.upH, if_neg HE.out]; exact HR.out, Nb.below g hbz⟩
/-- What slices.Insert does with a row of folders of one's own: a folder with an empty journal comes in. -/
def InsOK (B : Nat) (v : Value) (L : List Sh) (i : Nat) (na : ByteArray) : Prop := ∀ (W : World) (vb : Nat), OwnF B W v L → Rm W v → Cs W vb [.string na, .slice none 0 0, .int .i64 1, .slice none 0 0] → (∀ b, v.ownBlock = some b → b < vb) →
 Calls Tryz.prog 108 #[v, .int .i64 i, .slice (some ⟨vb, 0, none⟩) 1 1] W fun e w' => ∃ u, e = .returned u ∧ LiesF w' u (L.take i ++ ⟨na, ⟨[], 1, []⟩⟩ :: L.drop i) ∧ W.grownBy w' v.ownBlock
namespace Hu
def mkE (H : Hb) (f h : ByteArray) : Int := if ¬ Pp.maE H.gs f h = 0 then Pp.maE H.gs f h else if 8 ≤ H.fos.length then 2 else 0
def mkH (H : Hb) (f h : ByteArray) : Hb := if mkE H f h = 0 then { H with fos := H.fos.take (plc H.fos f) ++ ⟨f, ⟨[], 1, []⟩⟩ :: H.fos.drop (plc H.fos f), gs := Pp.maL H.gs f h } else H
theorem mk_bad {H : Hb} {f h : ByteArray} (h0 : ¬ Pp.maE H.gs f h = 0) : mkE H f h = Pp.maE H.gs f h ∧ mkH H f h = H := by
 have e : mkE H f h = Pp.maE H.gs f h := by rw [mkE, if_pos h0]
 exact ⟨e, by rw [mkH, e, if_neg h0]⟩
theorem mk_many {H : Hb} {f h : ByteArray} (h0 : Pp.maE H.gs f h = 0) (h8 : 8 ≤ H.fos.length) : mkE H f h = 2 ∧ mkH H f h = H := by
 have e : mkE H f h = 2 := by rw [mkE, if_neg (fun x => x h0), if_pos h8]
 exact ⟨e, by rw [mkH, e, if_neg (by decide)]⟩
theorem mk_ok {H : Hb} {f h : ByteArray} (h0 : Pp.maE H.gs f h = 0) (h8 : ¬ 8 ≤ H.fos.length) : mkE H f h = 0 ∧ mkH H f h = { H with fos := H.fos.take (plc H.fos f) ++ ⟨f, ⟨[], 1, []⟩⟩ :: H.fos.drop (plc H.fos f), gs := Pp.maL H.gs f h } := by
 have e : mkE H f h = 0 := by rw [mkE, if_neg (fun x => x h0), if_neg h8]
 exact ⟨e, by rw [mkH, e, if_pos rfl]⟩
end Hu
end Go.Proofs.YtchlgpeiombmdaaGreat
set_option linter.unusedSimpArgs false
set_option linter.unusedVariables false
namespace Go.Proofs.YtchlgpeiombmdaaGreat
open Go.RowKit

def zeroA : An := ⟨0, 0, Jn.zeroP⟩
def zeroH : Hb := ⟨[], [], [], 0, 0, 0, 0⟩
theorem lies_nilE (w : World) : Lies w (.slice none 0 0) [] := ⟨none, 0, rfl, Nat.le_refl _, by decide, fun i h => absurd h (by simp)⟩
theorem liesA_num (w : World) (e n : Int) : LiesA w (.agg #[.int .i64 e, .int .i64 n, .bool false, .slice none 0 0, .slice none 0 0, .int .i64 0, .bool false]) ⟨e, n, Jn.zeroP⟩ := ⟨_, _, rfl, lies_nilE _, liesO_nil _⟩
theorem liesH_zero (w : World) : LiesH w (.agg #[.slice none 0 0, .slice none 0 0, .slice none 0 0, .int .i64 0, .int .i64 0, .int .i64 0, .int .i64 0]) zeroH := ⟨_, _, _, rfl, liesF_nil _, liesG_nil _, ⟨none, 0, rfl, Nat.le_refl _, by decide, fun i h => absurd h (by simp [zeroH])⟩⟩
theorem noStr_ans {w : World} {g : Nat} {e n c : Int} {r m : Bool} {x y : Option Addr} {a b a' b' : Nat} (h : Cs w g [.int .i64 e, .int .i64 n, .bool r, .slice x a b, .slice y a' b', .int .i64 c, .bool m]) : NoStr w g := h.noStr (fun s hs => by simp at hs)
theorem noStr_hub {w : World} {g : Nat} {a b c d e f : Nat} {x y z : Option Addr} {n1 n2 n3 n4 : Int} (h : Cs w g [.slice x a b, .slice y c d, .slice z e f, .int .i64 n1, .int .i64 n2, .int .i64 n3, .int .i64 n4]) : NoStr w g := h.noStr (fun s hs => by simp at hs)
/-- What number answers, and what it leaves. -/
def NumOK (w : World) (g mb : Nat) (vf : Value) (q : Rq) (n e : Int) (H : Hb) : Prop := ∀ (W : World) (vq : Value), Below w.heap.size w W → LiesQ W vq q → Calls Tryz.prog 42 #[.pointer (some ⟨g, 0, none⟩), vq] W fun z w' => z = .returned (.tuple #[.int .i64 n, .int .i64 e]) ∧ SvL w' g mb H ∧ Nb2 W w' g (bo vf g)
/-- What answer answers, and what it leaves. -/
def AnsOK (w : World) (g mb : Nat) (vf vq : Value) (A : An) (H : Hb) : Prop := Calls Tryz.prog 21 #[.pointer (some ⟨g, 0, none⟩), vq] w fun z w' => ∃ u, z = .returned u ∧ LiesA w' u A ∧ SvL w' g mb H ∧ Nb2 w w' g (bo vf g)
set_option maxRecDepth 100000 in
set_option maxHeartbeats 8000000 in
theorem sanswer_num (H H' : Hb) (q : Rq) (vq vf : Value) (g mb : Nat) (n e : Int) (w : World) (hsv : SvL w g mb H) (hs : SizedG H.gs) (hq : LiesQ w vq q) (hsq : SizedQ q) (hck : Hu.ckE H.gs q = 0) (hk : ¬ q.kind = 2) (hnum : NumOK w g mb vf q n e H') (hvf : ∀ b, vf.ownBlock = some b → b < w.heap.size) : AnsOK w g mb vf vq ⟨e, n, Jn.zeroP⟩ H' := by
 have HSG := hid hs
 have HSQ := hid hsq
 have HCK := hid hck
 have HNUM := hid hnum
 have HBO := hid (show bo vf g < w.heap.size ∧ g < w.heap.size from by
  obtain ⟨_, _, _, h, _⟩ := hsv
  refine ⟨?_, h.lt⟩
  rw [bo]
  cases hb : vf.ownBlock with
  | none => exact h.lt
  | some b => exact hvf b hb)
 clear hs hsq hck hnum hvf
 unfold AnsOK
 obtain ⟨va, rfl, lq⟩ := hq
 have HLQ := hid lq
 obtain ⟨qa, qc, rfl, _⟩ := lq
 obtain ⟨kind, who, fo, name, key, text, num, off, base, ch⟩ := q
 simp only at *
 obtain ⟨wa, hwa⟩ : ∃ wa, wa = w.alloc (.cells #[.int .i64 kind, .string who, .string fo, .string name, .string key, .string text, .int .i64 num, .int .i64 off, .int .i64 base, .slice qa ch.length qc] 31) := ⟨_, rfl⟩
 obtain ⟨wz, hwz⟩ : ∃ wz, wz = wa.alloc (.cells #[.int .i64 0, .int .i64 0, .bool false, .slice none 0 0, .slice none 0 0, .int .i64 0, .bool false] 39) := ⟨_, rfl⟩
 have sa1 : wa.heap.size = w.heap.size + 1 := by rw [hwa]; simp
 have bwa : Below w.heap.size w wa := by rw [hwa]; exact (Below.refl _ _).alloc (Nat.le_refl _) _
 have bwz : Below wa.heap.size wa wz := by rw [hwz]; exact (Below.refl _ _).alloc (Nat.le_refl _) _
 have hbz : Below w.heap.size w wz := below_tr bwa bwz
 have HQX : Hid (Cs wz w.heap.size [.int .i64 kind, .string who, .string fo, .string name, .string key, .string text, .int .i64 num, .int .i64 off, .int .i64 base, .slice qa ch.length qc]) := ((by rw [hwa]; exact Cs.new w [.int .i64 kind, .string who, .string fo, .string name, .string key, .string text, .int .i64 num, .int .i64 off, .int .i64 base, .slice qa ch.length qc] _ : Cs wa w.heap.size [.int .i64 kind, .string who, .string fo, .string name, .string key, .string text, .int .i64 num, .int .i64 off, .int .i64 base, .slice qa ch.length qc]).below bwz : Cs wz w.heap.size _)
 have HAX := hid (show Cs wz (w.heap.size + 1) [.int .i64 0, .int .i64 0, .bool false, .slice none 0 0, .slice none 0 0, .int .i64 0, .bool false] from by rw [← sa1, hwz]; exact Cs.new wa [.int .i64 0, .int .i64 0, .bool false, .slice none 0 0, .slice none 0 0, .int .i64 0, .bool false] _)
 have hwzz : (w.alloc (.cells #[.int .i64 kind, .string who, .string fo, .string name, .string key, .string text, .int .i64 num, .int .i64 off, .int .i64 base, .slice qa ch.length qc] 31)).alloc (.cells #[.int .i64 0, .int .i64 0, .bool false, .slice none 0 0, .slice none 0 0, .int .i64 0, .bool false] 39) = wz := by rw [hwz, hwa]
 have HWZ := hid hwzz
 have hsz2 : w.heap.size + 1 < wz.heap.size := HAX.out.lt
 clear hwa hwz bwa bwz sa1 hwzz
 obtain ⟨fa, fc, ga, gc, sa, sc, hC, hF, hG, hS⟩ := hsv.shape
 have HSVz := hid (hsv.below hbz)
 have HCz := hid (hC.below hbz)
 have HGz := hid (hG.below hbz)
 have hgl := hC.lt
 have hgz : g < wz.heap.size := Nat.lt_of_lt_of_le hgl hbz.size
 clear hC hF hG hS
 have x0 := HQX.out.cell 0 rfl
 have x1 := HQX.out.cell 1 rfl
 have x2 := HQX.out.cell 2 rfl
 have x3 := HQX.out.cell 3 rfl
 have x4 := HQX.out.cell 4 rfl
 have x5 := HQX.out.cell 5 rfl
 have x6 := HQX.out.cell 6 rfl
 have x7 := HQX.out.cell 7 rfl
 have x8 := HQX.out.cell 8 rfl
 have x9 := HQX.out.cell 9 rfl
 go_enter Tryz.func21, Tryz.ntmps21
 go_upto_region 1 with fail
 rw [HWZ.out]
 clear HWZ
 go_wp2_with fail
 refine (scheck_any H.gs ⟨kind, who, fo, name, key, text, num, off, base, ch⟩ _ _ g wz hgz (HCz.out.cell 1 rfl) HGz.out HSG.out ⟨_, rfl, HLQ.out.below hbz⟩ HSQ.out).mono ?_
 rintro e w1 ⟨rfl, hb1⟩
 clear x0 x1 x2 x3 x4 x5 x6 x7 x8 x9
 have hb01 := below_tr hbz hb1
 have HSV1 := hid (HSVz.out.below hb1)
 have HQ1 := hid (HQX.out.below hb1)
 have HA1 := hid (HAX.out.below hb1)
 have hs1 := hb1.size
 rw [HCK.out]
 have hkk : (kind == 2) = false := by simpa using hk
 clear HCK hk
 obtain ⟨w2, hw2⟩ : ∃ w2, w2 = w1.alloc (.cells #[.int .i64 0, .int .i64 0, .bool false, .slice none 0 0, .slice none 0 0, .int .i64 0, .bool false] 39) := ⟨_, rfl⟩
 have hb2 : Below w1.heap.size w1 w2 := by rw [hw2]; exact (Below.refl _ _).alloc (Nat.le_refl _) _
 have HB2 := hid (show Cs w2 w1.heap.size [.int .i64 0, .int .i64 0, .bool false, .slice none 0 0, .slice none 0 0, .int .i64 0, .bool false] from by rw [hw2]; exact Cs.new w1 [.int .i64 0, .int .i64 0, .bool false, .slice none 0 0, .slice none 0 0, .int .i64 0, .bool false] _)
 have HQ2 := hid (HQ1.out.below hb2)
 have HA2 := hid (HA1.out.below hb2)
 have hb02 := below_tr hb01 hb2
 have hs2 := hb2.size
 have hl2 := HB2.out.lt
 have x0 := HQ2.out.cell 0 rfl
 have x1 := HQ2.out.cell 1 rfl
 have x2 := HQ2.out.cell 2 rfl
 have x3 := HQ2.out.cell 3 rfl
 have x4 := HQ2.out.cell 4 rfl
 have x5 := HQ2.out.cell 5 rfl
 have x6 := HQ2.out.cell 6 rfl
 have x7 := HQ2.out.cell 7 rfl
 have x8 := HQ2.out.cell 8 rfl
 have x9 := HQ2.out.cell 9 rfl
 go_upto_region 5 with fail
 rw [← hw2]
 clear hw2
 go_wp2_with fail
 refine (HNUM.out w2 _ hb02 ⟨_, rfl, HLQ.out.below hb02⟩).mono ?_
 rintro z w3 ⟨rfl, hsv3, hn3⟩
 have HSV3 := hid hsv3
 have hbo := HBO.out
 have HB3 := hid (HB2.out.nb2 hn3 (by omega) (by omega))
 have HA3 := hid (HA2.out.nb2 hn3 (by omega) (by omega))
 have HN3 := hid (show Nb2 w w3 g (bo vf g) from (Nb2.of_below _ _ hb02).trans hn3)
 have hs3 := hn3.size
 clear hsv3 hn3 x0 x1 x2 x3 x4 x5 x6 x7 x8 x9
 obtain ⟨w4, hw4⟩ : ∃ w4, w4 = (w3.setCell ⟨w1.heap.size, 1, none⟩ (.int .i64 n)).setCell ⟨w1.heap.size, 0, none⟩ (.int .i64 e) := ⟨_, rfl⟩
 have hg4 : w3.grownBy w4 (some w1.heap.size) := by rw [hw4]; exact grown_on (nb_set _ _ _ _) (nb_set _ _ _ _)
 have HB4 : Hid (Cs w4 w1.heap.size [.int .i64 e, .int .i64 n, .bool false, .slice none 0 0, .slice none 0 0, .int .i64 0, .bool false]) := (by rw [hw4]; exact (HB3.out.set 1 (.int .i64 n)).set 0 (.int .i64 e) : Cs w4 w1.heap.size _)
 have HA4 := hid (HA3.out.nb hg4 (by omega))
 have HSV4 := hid (HSV3.out.nb hg4 (noStr_ans HB3.out) (by omega))
 have p0 := HB3.out.cell 0 rfl
 have p1 := HB3.out.cell 1 rfl
 have f0 := HB3.out.fr 0
 have f1 := HB3.out.fr 1
 go_upto_region 8 with fail
 rw [← hw4]
 clear hw4 p0 p1 f0 f1
 obtain ⟨w5, hw5⟩ : ∃ w5, w5 = (((((((w4.setCell ⟨w.heap.size + 1, 0, none⟩ (.int .i64 e)).setCell ⟨w.heap.size + 1, 1, none⟩ (.int .i64 n)).setCell ⟨w.heap.size + 1, 2, none⟩ (.bool false)).setCell ⟨w.heap.size + 1, 3, none⟩ (.slice none 0 0)).setCell ⟨w.heap.size + 1, 4, none⟩ (.slice none 0 0)).setCell ⟨w.heap.size + 1, 5, none⟩ (.int .i64 0)).setCell ⟨w.heap.size + 1, 6, none⟩ (.bool false)) := ⟨_, rfl⟩
 have hg5 : w4.grownBy w5 (some (w.heap.size + 1)) := by rw [hw5]; exact (grown_on (grown_on (grown_on (grown_on (grown_on (grown_on (nb_set w4 (w.heap.size + 1) 0 (.int .i64 e)) (nb_set _ (w.heap.size + 1) 1 (.int .i64 n))) (nb_set _ (w.heap.size + 1) 2 (.bool false))) (nb_set _ (w.heap.size + 1) 3 (.slice none 0 0))) (nb_set _ (w.heap.size + 1) 4 (.slice none 0 0))) (nb_set _ (w.heap.size + 1) 5 (.int .i64 0))) (nb_set _ (w.heap.size + 1) 6 (.bool false)))
 have HA5 : Hid (Cs w5 (w.heap.size + 1) [.int .i64 e, .int .i64 n, .bool false, .slice none 0 0, .slice none 0 0, .int .i64 0, .bool false]) := (by rw [hw5]; exact (((((((HA4.out.set 0 (.int .i64 e)).set 1 (.int .i64 n)).set 2 (.bool false)).set 3 (.slice none 0 0)).set 4 (.slice none 0 0)).set 5 (.int .i64 0)).set 6 (.bool false)) : Cs w5 (w.heap.size + 1) _)
 have HSV5 := hid (HSV4.out.nb hg5 (noStr_ans HA4.out) (by omega))
 have HN5 := hid (show Nb2 w w5 g (bo vf g) from ⟨hg5.os.trans (hg4.os.trans HN3.out.os), hg5.tape.trans (hg4.tape.trans HN3.out.tape), hg5.output.trans (hg4.output.trans HN3.out.output), Nat.le_trans HN3.out.size (Nat.le_trans hg4.size hg5.size), fun k hk h1 h2 => (hg5.block k (by have := HN3.out.size; have := hg4.size; omega) (fun e => by injection e with e; omega)).trans ((hg4.block k (by have := HN3.out.size; omega) (fun e => by injection e with e; omega)).trans (HN3.out.block k hk h1 h2))⟩)
 have q0 := HB4.out.cell 0 rfl
 have q1 := HB4.out.cell 1 rfl
 have q2 := HB4.out.cell 2 rfl
 have q3 := HB4.out.cell 3 rfl
 have q4 := HB4.out.cell 4 rfl
 have q5 := HB4.out.cell 5 rfl
 have q6 := HB4.out.cell 6 rfl
 have p0 := HA4.out.cell 0 rfl
 have f0 := HA4.out.fr 0
 have p1 := HA4.out.cell 1 rfl
 have f1 := HA4.out.fr 1
 have p2 := HA4.out.cell 2 rfl
 have f2 := HA4.out.fr 2
 have p3 := HA4.out.cell 3 rfl
 have f3 := HA4.out.fr 3
 have p4 := HA4.out.cell 4 rfl
 have f4 := HA4.out.fr 4
 have p5 := HA4.out.cell 5 rfl
 have f5 := HA4.out.fr 5
 have p6 := HA4.out.cell 6 rfl
 have f6 := HA4.out.fr 6
 go_wp2_with fail
 rw [← hw5]
 clear p0 p1 p2 p3 p4 p5 p6
 have y0 := HA5.out.cell 0 rfl
 have y1 := HA5.out.cell 1 rfl
 have y2 := HA5.out.cell 2 rfl
 have y3 := HA5.out.cell 3 rfl
 have y4 := HA5.out.cell 4 rfl
 have y5 := HA5.out.cell 5 rfl
 have y6 := HA5.out.cell 6 rfl
 refine bodyPost_ret (v := .agg #[.int .i64 e, .int .i64 n, .bool false, .slice none 0 0, .slice none 0 0, .int .i64 0, .bool false]) (by simp [results, Tryz.results21, go_sem, y0, y1, y2, y3, y4, y5, y6]) rfl ⟨_, rfl, liesA_num _ _ _, HSV5.out, HN5.out⟩
end Go.Proofs.YtchlgpeiombmdaaGreat
set_option linter.unusedSimpArgs false
set_option linter.unusedVariables false
namespace Go.Proofs.YtchlgpeiombmdaaGreat
open Go.RowKit

theorem LiesH.shape {w : World} {v : Value} {H : Hb} (h : LiesH w v H) : ∃ fa fc ga gc sa sc, v = .agg #[.slice fa H.fos.length fc, .slice ga H.gs.length gc, .slice sa H.ss.length sc, .int .i64 H.nx, .int .i64 H.la, .int .i64 H.ro, .int .i64 H.now] := by
 obtain ⟨vf, vg, vs, rfl, h2, h3, h4⟩ := h
 obtain ⟨fa, fc, rfl, _⟩ := h2
 obtain ⟨ga, gc, rfl, _⟩ := h3
 obtain ⟨sa, sc, rfl, _⟩ := h4
 exact ⟨fa, fc, ga, gc, sa, sc, rfl⟩
theorem LiesH.nb {W W' : World} {v : Value} {H : Hb} {g : Nat} (h : LiesH W v H) (hw : W.grownBy W' (some g)) (hn : NoStr W g) : LiesH W' v H := by
 obtain ⟨vf, vg, vs, rfl, h2, h3, h4⟩ := h
 exact ⟨vf, vg, vs, rfl, h2.nb hw hn, h3.nb hw hn, h4.nb hw hn⟩
theorem LiesA.nb {W W' : World} {v : Value} {A : An} {g : Nat} (h : LiesA W v A) (hw : W.grownBy W' (some g)) (hn : NoStr W g) : LiesA W' v A := by
 obtain ⟨vt, vc, rfl, h2, h3⟩ := h
 exact ⟨vt, vc, rfl, h2.nb hw hn, h3.nb hw hn⟩
theorem LiesA.shape {w : World} {v : Value} {A : An} (h : LiesA w v A) : ∃ ta tc ca cc, v = .agg #[.int .i64 A.err, .int .i64 A.num, .bool A.pg.reset, .slice ta A.pg.tree.length tc, .slice ca A.pg.cos.length cc, .int .i64 A.pg.cur, .bool A.pg.more] := by
 obtain ⟨vt, vc, rfl, h2, h3⟩ := h
 obtain ⟨ta, tc, rfl, _⟩ := h2
 obtain ⟨ca, cc, rfl, _⟩ := h3
 exact ⟨ta, tc, ca, cc, rfl⟩
theorem SvL.hub {w : World} {g mb : Nat} {H : Hb} (h : SvL w g mb H) : ∃ fa fc ga gc sa sc, Cs w g [.slice fa H.fos.length fc, .slice ga H.gs.length gc, .slice sa H.ss.length sc, .int .i64 H.nx, .int .i64 H.la, .int .i64 H.ro, .int .i64 H.now, .map (some mb)] ∧ LiesH w (.agg #[.slice fa H.fos.length fc, .slice ga H.gs.length gc, .slice sa H.ss.length sc, .int .i64 H.nx, .int .i64 H.la, .int .i64 H.ro, .int .i64 H.now]) H := by
 obtain ⟨fa, fc, ga, gc, sa, sc, h1, h2, h3, h4⟩ := h.shape
 exact ⟨fa, fc, ga, gc, sa, sc, h1, _, _, _, rfl, h2, h3, h4⟩
namespace Hu
def nwH (l r : Int) : Hb := if Pp.uchE [] 1 l r = 0 then ⟨[], [], [], 1, l, r, 0⟩ else zeroH
end Hu

set_option maxRecDepth 100000 in
set_option maxHeartbeats 4000000 in
theorem hnew_any (l r : Int) (w : World) :
    Calls Tryz.prog 19 #[.int .i64 l, .int .i64 r] w fun e w' => ∃ u, e = .returned (.tuple #[u, .int .i64 (Pp.uchE [] 1 l r)]) ∧ LiesH w' u (Hu.nwH l r) ∧ Below w.heap.size w w' := by
 obtain ⟨rr, hrr⟩ : ∃ rr, rr = Pp.uchE [] 1 l r := ⟨_, rfl⟩
 rw [← hrr]
 have HRR := hid hrr
 have HNW := hid (show Hu.nwH l r = if rr = 0 then ⟨[], [], [], 1, l, r, 0⟩ else zeroH from by rw [Hu.nwH, ← hrr])
 clear hrr
 obtain ⟨wa, hwa⟩ : ∃ wa, wa = w.alloc (.cells #[.slice none 0 0, .slice none 0 0, .slice none 0 0, .int .i64 0, .int .i64 0, .int .i64 0, .int .i64 0] 28) := ⟨_, rfl⟩
 obtain ⟨wz, hwz⟩ : ∃ wz, wz = wa.alloc (.cells #[.slice none 0 0, .int .i64 1, .int .i64 l, .int .i64 r] 26) := ⟨_, rfl⟩
 have sa1 : wa.heap.size = w.heap.size + 1 := by rw [hwa]; simp
 have bwa : Below w.heap.size w wa := by rw [hwa]; exact (Below.refl _ _).alloc (Nat.le_refl _) _
 have bwz : Below wa.heap.size wa wz := by rw [hwz]; exact (Below.refl _ _).alloc (Nat.le_refl _) _
 have hbz : Below w.heap.size w wz := below_tr bwa bwz
 have HX : Hid (Cs wz w.heap.size [.slice none 0 0, .slice none 0 0, .slice none 0 0, .int .i64 0, .int .i64 0, .int .i64 0, .int .i64 0]) := ((by rw [hwa]; exact Cs.new w [.slice none 0 0, .slice none 0 0, .slice none 0 0, .int .i64 0, .int .i64 0, .int .i64 0, .int .i64 0] _ : Cs wa w.heap.size [.slice none 0 0, .slice none 0 0, .slice none 0 0, .int .i64 0, .int .i64 0, .int .i64 0, .int .i64 0]).below bwz : Cs wz w.heap.size _)
 have HY : Hid (Cs wz (w.heap.size + 1) [.slice none 0 0, .int .i64 1, .int .i64 l, .int .i64 r]) := (by rw [← sa1, hwz]; exact Cs.new wa [.slice none 0 0, .int .i64 1, .int .i64 l, .int .i64 r] _ : Cs wz (w.heap.size + 1) _)
 have hwzz : (w.alloc (.cells #[.slice none 0 0, .slice none 0 0, .slice none 0 0, .int .i64 0, .int .i64 0, .int .i64 0, .int .i64 0] 28)).alloc (.cells #[.slice none 0 0, .int .i64 1, .int .i64 l, .int .i64 r] 26) = wz := by rw [hwz, hwa]
 have HWZ := hid hwzz
 clear hwa hwz bwa bwz sa1 hwzz
 go_enter Tryz.func19, Tryz.ntmps19
 go_upto_region 2 with fail
 try simp only [World.setCell_alloc_new]
 rw [HWZ.out]
 clear HWZ
 have y0 := HY.out.cell 0 rfl
 have y1 := HY.out.cell 1 rfl
 have y2 := HY.out.cell 2 rfl
 have y3 := HY.out.cell 3 rfl
 go_wp2_with fail
 refine (ucheck_any [] _ 1 l r _ ⟨none, 0, rfl, Nat.le_refl _, by decide, fun i h => absurd h (by simp)⟩ (fun s hs => by cases hs)).mono ?_
 rintro e w1 ⟨rfl, hb1⟩
 rw [← HRR.out]
 have hb01 := below_tr hbz hb1
 have HX1 := hid (HX.out.below hb1)
 have HY1 := hid (HY.out.below hb1)
 clear y0 y1 y2 y3
 by_cases h0 : rr = 0
 · subst h0
   have HNP := hid (show Hu.nwH l r = ⟨[], [], [], 1, l, r, 0⟩ from by rw [HNW.out, if_pos rfl])
   clear HNW
   have y0 := HY1.out.cell 0 rfl
   have y1 := HY1.out.cell 1 rfl
   have y2 := HY1.out.cell 2 rfl
   have y3 := HY1.out.cell 3 rfl
   have p0 := HX1.out.cell 0 rfl
   have f0 := HX1.out.fr 0
   have p1 := HX1.out.cell 1 rfl
   have f1 := HX1.out.fr 1
   have p2 := HX1.out.cell 2 rfl
   have f2 := HX1.out.fr 2
   have p3 := HX1.out.cell 3 rfl
   have f3 := HX1.out.fr 3
   have p4 := HX1.out.cell 4 rfl
   have f4 := HX1.out.fr 4
   have p5 := HX1.out.cell 5 rfl
   have f5 := HX1.out.fr 5
   have p6 := HX1.out.cell 6 rfl
   have f6 := HX1.out.fr 6
   go_wp2_with fail
   refine bodyPost_ret (v := .tuple #[.agg #[.slice none 0 0, .slice none 0 0, .slice none 0 0, .int .i64 1, .int .i64 l, .int .i64 r, .int .i64 0], .int .i64 0]) (by simp [results, Tryz.results19, go_sem, p0, p1, p2, p3, p4, p5, p6]) rfl ⟨_, rfl, ?_, ?_⟩
   · rw [HNP.out]; exact ⟨_, _, _, rfl, liesF_nil _, liesG_nil _, ⟨none, 0, rfl, Nat.le_refl _, Nat.zero_le _, fun i h => absurd h (by simp)⟩⟩
   · exact (((((((hb01.setCell (p := ⟨w.heap.size, 0, none⟩) (Nat.le_refl _) _).setCell (p := ⟨w.heap.size, 1, none⟩) (Nat.le_refl _) _).setCell (p := ⟨w.heap.size, 2, none⟩) (Nat.le_refl _) _).setCell (p := ⟨w.heap.size, 3, none⟩) (Nat.le_refl _) _).setCell (p := ⟨w.heap.size, 4, none⟩) (Nat.le_refl _) _).setCell (p := ⟨w.heap.size, 5, none⟩) (Nat.le_refl _) _).setCell (p := ⟨w.heap.size, 6, none⟩) (Nat.le_refl _) _)
 · have hz : (rr == 0) = false := by simpa using h0
   have hz2 : (rr != 0) = true := by simpa using h0
   have HNP := hid (show Hu.nwH l r = zeroH from by rw [HNW.out, if_neg h0])
   clear HNW
   clear h0
   have p0 := HX1.out.cell 0 rfl
   have f0 := HX1.out.fr 0
   have p1 := HX1.out.cell 1 rfl
   have f1 := HX1.out.fr 1
   have p2 := HX1.out.cell 2 rfl
   have f2 := HX1.out.fr 2
   have p3 := HX1.out.cell 3 rfl
   have f3 := HX1.out.fr 3
   have p4 := HX1.out.cell 4 rfl
   have f4 := HX1.out.fr 4
   have p5 := HX1.out.cell 5 rfl
   have f5 := HX1.out.fr 5
   have p6 := HX1.out.cell 6 rfl
   have f6 := HX1.out.fr 6
   go_wp2_with fail
   refine bodyPost_ret (v := .tuple #[.agg #[.slice none 0 0, .slice none 0 0, .slice none 0 0, .int .i64 0, .int .i64 0, .int .i64 0, .int .i64 0], .int .i64 rr]) (by simp [results, Tryz.results19, go_sem, p0, p1, p2, p3, p4, p5, p6]) rfl ⟨_, rfl, ?_, ?_⟩
   · rw [HNP.out]; exact liesH_zero _
   · exact (((((((hb01.setCell (p := ⟨w.heap.size, 0, none⟩) (Nat.le_refl _) _).setCell (p := ⟨w.heap.size, 1, none⟩) (Nat.le_refl _) _).setCell (p := ⟨w.heap.size, 2, none⟩) (Nat.le_refl _) _).setCell (p := ⟨w.heap.size, 3, none⟩) (Nat.le_refl _) _).setCell (p := ⟨w.heap.size, 4, none⟩) (Nat.le_refl _) _).setCell (p := ⟨w.heap.size, 5, none⟩) (Nat.le_refl _) _).setCell (p := ⟨w.heap.size, 6, none⟩) (Nat.le_refl _) _)
namespace Hu
def trE (H : Hb) (x : ByteArray) : Int := if ¬ hE H = 0 then hE H else if inG H.gs x = true then 0 else 5
def trR (H : Hb) (x : ByteArray) : List En := if trE H x = 0 then Jn.tree (joAt H (whr H.fos H.gs x)) else []
end Hu
set_option maxRecDepth 100000 in
set_option maxHeartbeats 4000000 in
theorem htree_any (H : Hb) (v : Value) (x : ByteArray) (w : World) (hv : LiesH w v H) (hs : SizedH H) (hx : x.size ≤ 150000000000000) :
    Calls Tryz.prog 15 #[v, .string x] w fun e w' => ∃ u, e = .returned (.tuple #[u, .int .i64 (Hu.trE H x)]) ∧ Lies w' u (Hu.trR H x) ∧ Below w.heap.size w w' := by
 have HV := hid hv
 have HS := hid hs
 have HSX := hid hx
 obtain ⟨fa, fc, ga, gc, sa, sc, rfl⟩ := hv.shape
 clear hv hs hx
 obtain ⟨wz, hwz⟩ : ∃ wz, wz = w.alloc (.cells #[.slice fa H.fos.length fc, .slice ga H.gs.length gc, .slice sa H.ss.length sc, .int .i64 H.nx, .int .i64 H.la, .int .i64 H.ro, .int .i64 H.now] 28) := ⟨_, rfl⟩
 have hbz : Below w.heap.size w wz := by rw [hwz]; exact (Below.refl _ _).alloc (Nat.le_refl _) _
 go_enter Tryz.func15, Tryz.ntmps15
 go_wp2_with fail
 rw [← hwz]
 clear hwz
 refine (serving_any H _ _ (HV.out.below hbz) HS.out).mono ?_
 rintro e w1 ⟨p, rfl, hok, hbad, hb1⟩
 have hb01 := below_tr hbz hb1
 by_cases h0 : ¬ (Hu.hE H = 0)
 · have hz : (Hu.hE H == 0) = false := by simpa using h0
   have hz2 : (Hu.hE H != 0) = true := by simpa using h0
   have HE := hid (show Hu.trE H x = Hu.hE H ∧ Hu.trR H x = [] from by
    have e : Hu.trE H x = Hu.hE H := by rw [Hu.trE, if_pos h0]
    exact ⟨e, by rw [Hu.trR, e, if_neg h0]⟩)
   clear h0 hok hbad
   generalize Hu.hE H = r at *
   go_wp2_with fail
   go_ret2
   exact ⟨_, by rw [HE.out.1]; rfl, by rw [HE.out.2]; exact lies_nilE _, hb01⟩
 replace h0 := Decidable.not_not.1 h0
 obtain ⟨rfl, B, vf, vg, vs, hB1, hB2, hsv, hm⟩ := hok h0
 have H0 := hid h0
 have HSV := hid hsv
 have HM := hid hm
 obtain ⟨hC, hOF, _⟩ := hsv
 have HC := hid hC
 have HLF := hid hOF.lies
 obtain ⟨af, cf, rfl, _, _, hat⟩ := hOF.lies
 have hlk := hm.look2 x HSX.out
 have p7 := HC.out.cell 7 rfl
 have p0 := HC.out.cell 0 rfl
 rw [h0]
 cases hin : Hu.inG H.gs x with
 | false =>
  have HE := hid (show Hu.trE H x = 5 ∧ Hu.trR H x = [] from by
   have e : Hu.trE H x = 5 := by rw [Hu.trE, if_neg (fun y => y h0), if_neg (by rw [hin]; decide)]
   exact ⟨e, by rw [Hu.trR, e, if_neg (by decide)]⟩)
  rw [hin] at hlk
  clear h0 hok hbad hin hC hOF hat hm
  go_wp2_with fail
  go_ret2
  exact ⟨_, by rw [HE.out.1]; rfl, by rw [HE.out.2]; exact lies_nilE _, hb01⟩
 | true =>
  have hi0 : Hu.whr H.fos H.gs x < H.fos.length := (Hu.whr_at h0 hin).elim (fun h _ => h)
  have e0 : Hu.trE H x = 0 := by rw [Hu.trE, if_neg (fun y => y h0), if_pos hin]
  have HE : Hid (Hu.trE H x = 0) := e0
  obtain ⟨i, hwi⟩ : ∃ i, i = Hu.whr H.fos H.gs x := ⟨_, rfl⟩
  have hi : i < H.fos.length := by rw [hwi]; exact hi0
  have HEN := hid (show Hu.trR H x = Jn.tree (H.fos[i].jo) from by rw [Hu.trR, if_pos e0, ← hwi, Hu.joAt_eq hi])
  have HCK : Hid (Jn.chkE (H.fos[i].jo) = 0) := (Hu.cf_mem (Hu.h_parts h0).2.1 (List.getElem_mem hi)).2
  have HSJ := hid (HS.out.fos _ (List.getElem_mem hi)).2
  obtain ⟨b, o, rfl, hbl, he⟩ := hat i hi
  rw [hin, ← hwi] at hlk
  have hii : (i : Int) < H.fos.length := by omega
  clear h0 hok hbad hin hC hOF hat hm hwi e0 hi0
  obtain ⟨c0, u, y, c1, c2, c3, hu, hy⟩ := he
  generalize H.fos[i] = s at *
  obtain ⟨na, ⟨jb, jf, jc⟩⟩ := s
  simp only at c0 c1 c2 c3 hu hy
  have HU := hid hu
  have HY := hid hy
  obtain ⟨ua, uc, rfl, _⟩ := hu
  obtain ⟨ya, yc, rfl, _⟩ := hy
  go_wp2_with fail
  refine (jtree_any ⟨jb, jf, jc⟩ _ _ ⟨_, _, rfl, HU.out, HY.out⟩ HSJ.out.1 HSJ.out.2).mono ?_
  rintro e w2 ⟨r, rfl, hl, _, hb2⟩
  rw [HCK.out] at hl ⊢
  have HL := hid hl
  clear hl
  have hb02 := below_tr hb01 hb2
  obtain ⟨ra, rc, rfl, _⟩ := id HL.out
  go_wp2_with fail
  go_ret2
  exact ⟨_, by rw [HE.out]; rfl, by rw [HEN.out]; exact HL.out, hb02⟩
end Go.Proofs.YtchlgpeiombmdaaGreat
