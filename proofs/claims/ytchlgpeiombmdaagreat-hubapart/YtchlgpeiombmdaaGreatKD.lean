/- What the server's commit does. What the server's take, give and makeFolder do. slices.Insert of a folder behind all others. -/
import Derived.Test.YtchlgpeiombmdaaGreatKC
import Derived.Test.YtchlgpeiombmdaaGreatGF
set_option linter.unusedSimpArgs false
set_option linter.unusedVariables false
namespace Go.Proofs.YtchlgpeiombmdaaGreat
open Go.RowKit

theorem rowsF_set2 {l : List Sh} {us : List (Value × Value)} (h : us.length = l.length) {i : Nat} (hi : i < l.length) (s : Sh) (u : Value × Value) : (rowsF l us).set i (rowF s u) = rowsF (l.set i s) (us.set i u) := by
 apply List.ext_getElem?
 intro j
 rw [List.getElem?_set, rowsF, rowsF, List.getElem?_zipWith, List.getElem?_zipWith, List.getElem?_set, List.getElem?_set]
 by_cases hj : i = j
 · subst hj
   simp [h, hi, show i < us.length by omega]
 · simp [hj]
/-- A journal is stored into its folder's row, in place of another one. -/
theorem rowsF_put {w : World} {a : Option Addr} {n cap b o k : Nat} {l : List Sh} {us : List (Value × Value)} {u : Value × Value} {J : Jo} (h : LiesR 4 w (.slice a n cap) (rowsF l us)) (hl : us.length = l.length) (ha : a = some ⟨b, o, none⟩) (hk : k < l.length) (h1 : u.1.oneCell' = true) (h2 : u.2.oneCell' = true) :
    LiesR 4 (((w.setCell ⟨b, o + k * 4 + 1, none⟩ u.1).setCell ⟨b, o + k * 4 + 2, none⟩ (.int .i64 J.first)).setCell ⟨b, o + k * 4 + 3, none⟩ u.2) (.slice a n cap) (rowsF (l.set k ⟨l[k].na, J⟩) (us.set k u)) := by
 have hr := rowsF_at hl hk
 have hkl : k < (rowsF l us).length := by rw [rowsF_len hl]; exact hk
 rw [List.getElem?_eq_getElem hkl] at hr
 injection hr with hr
 have s1 := h.set ha (i := k) (c := 1) hkl (by decide) u.1 h1
 have s2 := s1.set ha (i := k) (c := 2) (by simpa using hkl) (by decide) (.int .i64 J.first) rfl
 have s3 := s2.set ha (i := k) (c := 3) (by simpa using hkl) (by decide) u.2 h2
 rw [← rowsF_set2 hl hk ⟨l[k].na, J⟩ u]
 simpa [hr, rowF] using s3
theorem OwnF.put {B b o n cap k : Nat} {w : World} {l : List Sh} {u1 u2 : Value} {J : Jo} (h : OwnF B w (.slice (some ⟨b, o, none⟩) n cap) l) (hk : k < l.length) (h1 : Lies w u1 J.base) (h1o : Own (b + 1) w u1) (h2 : OwnO (b + 1) w u2 J.cos) :
    LiesF (((w.setCell ⟨b, o + k * 4 + 1, none⟩ u1).setCell ⟨b, o + k * 4 + 2, none⟩ (.int .i64 J.first)).setCell ⟨b, o + k * 4 + 3, none⟩ u2) (.slice (some ⟨b, o, none⟩) n cap) (l.set k ⟨l[k].na, J⟩) := by
 obtain ⟨us, ⟨hl, hj⟩, hr, ho, hx⟩ := h
 have o1 : u1.oneCell' = true := by obtain ⟨_, _, rfl, _⟩ := h1; rfl
 have o2 : u2.oneCell' = true := by obtain ⟨_, _, rfl, _⟩ := h2.lies; rfl
 have hs := rowsF_put (u := (u1, u2)) (J := J) hr hl rfl hk o1 o2
 have hg : w.grownBy (((w.setCell ⟨b, o + k * 4 + 1, none⟩ u1).setCell ⟨b, o + k * 4 + 2, none⟩ (.int .i64 J.first)).setCell ⟨b, o + k * 4 + 3, none⟩ u2) (some b) := grown_on (grown_on (nb_set _ _ _ _) (nb_set _ _ _ _)) (nb_set _ _ _ _)
 have ne : ∀ {v : Value}, Own (b + 1) w v → ∀ x, v.ownBlock = some x → x ≠ b := fun ho x hx => by have := (ho x hx).1; omega
 refine liesF_of (us := us.set k (u1, u2)) ⟨by simp [hl], fun i c u hc hu => ?_⟩ hs
 by_cases hik : k = i
 · subst hik
   rw [List.getElem?_set_self (by omega)] at hc hu
   injection hc with hc
   injection hu with hu
   subst hc
   subst hu
   exact ⟨h1.nbo hg (ne h1o), (h2.nbo hg (Nat.lt_succ_self _)).lies⟩
 · rw [List.getElem?_set_ne hik] at hc hu
   have hz := (hx i c u hc hu).2 b rfl
   exact ⟨(hj i c u hc hu).1.nbo hg (ne hz.1), (hz.2.nbo hg (Nat.lt_succ_self _)).lies⟩
theorem LiesG.row {W W' : World} {v : Value} {L : List Gr} {r : Option Nat} (h : LiesG W v L) (hw : W.grownBy W' r) (hn : ∀ b, v.ownBlock = some b → r ≠ some b) : LiesG W' v L := by
 obtain ⟨a, cap, rfl, h1, h2, h3⟩ := h
 refine ⟨a, cap, rfl, h1, h2, fun i hi => ?_⟩
 obtain ⟨b, o, rfl, hb, he⟩ := h3 i hi
 have c : ∀ k, W'.cell? ⟨b, k, none⟩ = W.cell? ⟨b, k, none⟩ := fun k => World.cell?_of_block (w := W) (a := ⟨b, k, none⟩) (hw.block b hb (fun e => hn b rfl e.symm))
 exact ⟨b, o, rfl, Nat.lt_of_lt_of_le hb hw.size, (c _).trans he.1, (c _).trans he.2.1, (c _).trans he.2.2⟩
theorem LiesS.row {W W' : World} {v : Value} {L : List Se} {r : Option Nat} (h : LiesS W v L) (hw : W.grownBy W' r) (hn : ∀ b, v.ownBlock = some b → r ≠ some b) : LiesS W' v L := by
 obtain ⟨a, cap, rfl, h1, h2, h3⟩ := h
 refine ⟨a, cap, rfl, h1, h2, fun i hi => ?_⟩
 obtain ⟨b, o, rfl, hb, he⟩ := h3 i hi
 have c : ∀ k, W'.cell? ⟨b, k, none⟩ = W.cell? ⟨b, k, none⟩ := fun k => World.cell?_of_block (w := W) (a := ⟨b, k, none⟩) (hw.block b hb (fun e => hn b rfl e.symm))
 exact ⟨b, o, rfl, Nat.lt_of_lt_of_le hb hw.size, (c _).trans he.1, (c _).trans he.2.1, (c _).trans he.2.2.1, (c _).trans he.2.2.2.1, (c _).trans he.2.2.2.2⟩
theorem Cs.orow {W W' : World} {b : Nat} {vs : List Value} {r : Option Nat} (h : Cs W b vs) (hw : W.grownBy W' r) (hne : r ≠ some b) : Cs W' b vs := by
 obtain ⟨T, hT⟩ := h
 exact ⟨T, (hw.block b (heap_lt hT) (fun e => hne e.symm)).trans hT⟩
namespace Hu
/-- A hub in which a folder has this journal; what a commit leaves. -/
def putJ (H : Hb) (i : Nat) (J : Jo) : Hb := { H with fos := H.fos.modify i (fun s => ⟨s.na, J⟩) }
def joAt (H : Hb) (i : Nat) : Jo := match H.fos[i]? with | some s => s.jo | none => Jn.zeroJ
theorem joAt_eq {H : Hb} {i : Nat} (h : i < H.fos.length) : joAt H i = H.fos[i].jo := by rw [joAt, List.getElem?_eq_getElem h]
theorem putJ_fos {H : Hb} {i : Nat} (h : i < H.fos.length) (J : Jo) : (putJ H i J).fos = H.fos.set i ⟨H.fos[i].na, J⟩ := by
 rw [putJ]
 apply List.ext_getElem?
 intro j
 rw [List.getElem?_modify, List.getElem?_set]
 by_cases e : i = j
 · subst e; simp [h]
 · simp [e]
def cmE (H : Hb) (i : Nat) (key : ByteArray) (l : List Pp.Ch) : Int := Jn.comE (joAt H i) key l
def cmN (H : Hb) (i : Nat) (key : ByteArray) (l : List Pp.Ch) : Int := Jn.comN (joAt H i) key l
def cmH (H : Hb) (i : Nat) (key : ByteArray) (l : List Pp.Ch) : Hb := if cmE H i key l = 0 then putJ H i (Jn.comR (joAt H i) key l) else H
end Hu
def JBox (N : Nat) (w W : World) (jx : Nat) (ja : Option Addr) (jc : Nat) (ka : Option Addr) (kc : Nat) (R : Jo) : Prop := N ≤ jx ∧ Cs W jx [.slice ja R.base.length jc, .int .i64 R.first, .slice ka R.cos.length kc] ∧ (Lies W (.slice ja R.base.length jc) R.base ∧ Own N W (.slice ja R.base.length jc) ∧ OwnO N W (.slice ka R.cos.length kc) R.cos) ∧ Below N w W
theorem jbox_set {N C jx jc kc : Nat} {w w5 : World} {ja ka : Option Addr} {R : Jo} {a b c : Value} (hN : N ≤ jx) (hj : jx < C) (h : Cs w5 jx [a, b, c]) (hl : Lies w5 (.slice ja R.base.length jc) R.base) (ho : Own C w5 (.slice ja R.base.length jc)) (hc : OwnO C w5 (.slice ka R.cos.length kc) R.cos) (hb : Below N w w5) :
    JBox N w (((w5.setCell ⟨jx, 0, none⟩ (.slice ja R.base.length jc)).setCell ⟨jx, 1, none⟩ (.int .i64 R.first)).setCell ⟨jx, 2, none⟩ (.slice ka R.cos.length kc)) jx ja jc ka kc R := by
 have hg := (grown_on (grown_on (nb_set w5 (jx) 0 (.slice ja R.base.length jc)) (nb_set _ (jx) 1 (.int .i64 R.first))) (nb_set _ (jx) 2 (.slice ka R.cos.length kc)))
 have ne : ∀ x, (Value.slice ja R.base.length jc).ownBlock = some x → x ≠ jx := fun x hx => by have := (ho x hx).1; omega
 exact ⟨hN, (((h.set 0 (.slice ja R.base.length jc)).set 1 (.int .i64 R.first)).set 2 (.slice ka R.cos.length kc)), ⟨hl.nbo hg ne, (ho.nb hg ne).mono (by omega), (hc.nbo hg hj).mono (by omega)⟩, (((hb.setCell (p := ⟨jx, 0, none⟩) (hN) _).setCell (p := ⟨jx, 1, none⟩) (hN) _).setCell (p := ⟨jx, 2, none⟩) (hN) _)⟩
theorem jbox_new {N C jc kc : Nat} {w w5 : World} {ja ka : Option Addr} {R : Jo} {T : TypeId} (hN : N ≤ C) (hl : Lies w5 (.slice ja R.base.length jc) R.base) (ho : Own C w5 (.slice ja R.base.length jc)) (hc : OwnO C w5 (.slice ka R.cos.length kc) R.cos) (hb : Below N w w5) (hs : N ≤ w5.heap.size) :
    JBox N w (w5.alloc (.cells #[.slice ja R.base.length jc, .int .i64 R.first, .slice ka R.cos.length kc] T)) w5.heap.size ja jc ka kc R := by
 have ha : Below w5.heap.size w5 (w5.alloc (.cells #[.slice ja R.base.length jc, .int .i64 R.first, .slice ka R.cos.length kc] T)) := (Below.refl _ _).alloc (Nat.le_refl _) _
 exact ⟨hs, Cs.new w5 [.slice ja R.base.length jc, .int .i64 R.first, .slice ka R.cos.length kc] T, ⟨hl.below ha, (ho.below ha).mono hN, (hc.below ha).mono hN⟩, hb.alloc hs _⟩
theorem noStr_srv {w : World} {g mb : Nat} {a b c d e f k : Nat} {x y z : Option Addr} {n1 n2 n3 n4 : Int} (h : Cs w g [.slice x a b, .slice y c d, .slice z e f, .int .i64 n1, .int .i64 n2, .int .i64 n3, .int .i64 n4, .map (some mb)]) : NoStr w g := h.noStr (fun s hs => by simp at hs)
set_option maxRecDepth 100000 in
set_option maxHeartbeats 8000000 in
theorem hcommit_any (H : Hb) (q : Rq) (l : List Pp.Ch) (vq u vf vg vs : Value) (B g mb n : Nat) (w : World) (hsv : Sv B w g mb vf vg vs H) (hm : SvM w mb n H) (hgB : g < B) (hs : SizedF H.fos) (hq : LiesQ w vq q) (hsq : SizedQ q) (hu : LiesC w u l) (hls : SizedC 150000000000000 l) (hi : Hu.whr H.fos H.gs q.fo < H.fos.length) :
    Calls Tryz.prog 79 #[.pointer (some ⟨g, 0, none⟩), vq, u] w fun e w' => e = .returned (.tuple #[.int .i64 (Hu.cmN H (Hu.whr H.fos H.gs q.fo) q.key l), .int .i64 (Hu.cmE H (Hu.whr H.fos H.gs q.fo) q.key l)]) ∧ SvL w' g mb (Hu.cmH H (Hu.whr H.fos H.gs q.fo) q.key l) ∧ Nb2 w w' g (bo vf g) := by
 have HSV := hid hsv
 have HM := hid hm
 have HSF := hid hs
 have HSQ := hid hsq
 have HU := hid hu
 have HLS := hid hls
 have HPO := hid (⟨Hu.cmE, rfl⟩ : ∃ f, f = Hu.cmE)
 obtain ⟨ux, uc, rfl, _⟩ := hu
 clear hs hsq hls hm
 obtain ⟨va, rfl, lq⟩ := hq
 have HLQ := hid lq
 obtain ⟨qa, qc, rfl, _⟩ := lq
 obtain ⟨kind, who, fo, name, key, text, num, off, base, ch⟩ := q
 simp only at *
 obtain ⟨wz, hwz⟩ : ∃ wz, wz = w.alloc (.cells #[.int .i64 kind, .string who, .string fo, .string name, .string key, .string text, .int .i64 num, .int .i64 off, .int .i64 base, .slice qa ch.length qc] 31) := ⟨_, rfl⟩
 have hbz : Below w.heap.size w wz := by rw [hwz]; exact (Below.refl _ _).alloc (Nat.le_refl _) _
 have HQX : Hid (Cs wz w.heap.size [.int .i64 kind, .string who, .string fo, .string name, .string key, .string text, .int .i64 num, .int .i64 off, .int .i64 base, .slice qa ch.length qc]) := (by rw [hwz]; exact Cs.new w [.int .i64 kind, .string who, .string fo, .string name, .string key, .string text, .int .i64 num, .int .i64 off, .int .i64 base, .slice qa ch.length qc] _ : Cs wz w.heap.size _)
 obtain ⟨i, hwi⟩ : ∃ i, i = Hu.whr H.fos H.gs fo := ⟨_, rfl⟩
 have HWI := hid hwi
 rw [← hwi] at hi ⊢
 obtain ⟨hC, hOF, ⟨hLG, hFG⟩, ⟨hLS, hFS⟩, hAP, _⟩ := hsv
 have HC := hid hC
 have HOF := hid hOF
 have HLG := hid hLG
 have HLSS := hid hLS
 have HFG := hid hFG
 have HFS := hid hFS
 have HAP := hid hAP
 have HLF := hid hOF.lies
 obtain ⟨af, cf, rfl, _, _, hat⟩ := hOF.lies
 obtain ⟨ag, cg, rfl, _⟩ := hLG
 obtain ⟨xs, cs, rfl, _⟩ := hLS
 obtain ⟨b, o, rfl, hbl, he⟩ := hat i hi
 have HSH := hid he
 have hbB : B ≤ b := by obtain ⟨_, _, _, ho, _⟩ := hOF; exact (ho b rfl).1
 have HOB := hid (show ∀ W, Below w.heap.size w W → ∀ k, W.frozen? ⟨b, k, none⟩ = false from fun W hW k => by
  obtain ⟨_, _, _, ho, _⟩ := HOF.out.below hW
  obtain ⟨_, cur, TT, hcur⟩ := ho b rfl
  simp [World.frozen?, hcur])
 have hgl := hC.lt
 obtain ⟨J, hJ⟩ : ∃ J, J = Hu.joAt H i := ⟨_, rfl⟩
 have HJ := hid (show J = (H.fos[i]).jo from by rw [hJ, Hu.joAt_eq hi])
 have HSJ := hid (show Sized J.base ∧ SizedO 150000000000000 J.cos from by rw [HJ.out]; exact (HSF.out _ (List.getElem_mem hi)).2)
 have HJC := hid (show ∀ W, Below w.heap.size w W → Calls Tryz.prog 76 #[.pointer (some ⟨g, 0, none⟩), .string fo] W fun e w' => ∃ u, e = .returned u ∧ LiesJ w' u J ∧ Below W.heap.size W w' from fun W hW => by
  have h := sjournal_any H _ _ _ g mb n fo W (HC.out.below hW) (HLF.out.below hW) (HM.out.below hW) HSQ.out.fo (by rw [← HWI.out]; exact hi)
  refine h.mono ?_
  rintro e w' ⟨u, rfl, hl, hb⟩
  exact ⟨u, rfl, by rw [HJ.out]; simpa only [HWI.out] using hl, hb⟩)
 have HCC := hid (show ∀ W v, Below w.heap.size w W → LiesJ W v J → Calls Tryz.prog 109 #[v, .string key, .slice ux l.length uc] W fun e w' => ∃ r, e = .returned (.tuple #[r, .int .i64 (Jn.comN J key l), .int .i64 (Jn.comE J key l)]) ∧ OwnJ W.heap.size w' r (Jn.comR J key l) ∧ Below W.heap.size W w' from fun W v hW hv => jcommit_any J v key l _ W hv (HU.out.below hW) HSJ.out.1 HSJ.out.2 HLS.out (by have : key.size ≤ 150000000000000 := HSQ.out.key; unfold maxLen; omega))
 have HLK := hid (show ∀ W, Below w.heap.size w W → (Instr.lookup 72 (.map (some mb)) (.string fo) false).run Tryz.prog W = .ok (.int .i64 (i : Nat)) W from fun W hW => by rw [HWI.out]; exact (HM.out.below hW).look fo HSQ.out.fo)
 have HN := hid (show Hu.cmN H i key l = Jn.comN J key l from by rw [Hu.cmN, hJ])
 have HE := hid (show Hu.cmE H i key l = Jn.comE J key l from by rw [Hu.cmE, hJ])
 have HH := hid (show Hu.cmH H i key l = if Jn.comE J key l = 0 then Hu.putJ H i (Jn.comR J key l) else H from by rw [Hu.cmH, HE.out, hJ])
 rw [HN.out, HE.out]
 have HI := hid hi
 clear hwi hJ HJ hat he hOF hFG hFS hAP HPO
 obtain ⟨R, hR⟩ : ∃ R, R = Jn.comR J key l := ⟨_, rfl⟩
 rw [← hR] at HCC HH
 have hii : (i : Int) < H.fos.length := by omega
 obtain ⟨nn, hnn⟩ : ∃ nn, nn = Jn.comN J key l := ⟨_, rfl⟩
 obtain ⟨ee, hee⟩ : ∃ ee, ee = Jn.comE J key l := ⟨_, rfl⟩
 rw [← hnn, ← hee] at HCC
 rw [← hnn, ← hee]
 rw [← hee] at HH
 clear hnn hee hR
 have x2 := HQX.out.cell 2 rfl
 have x4 := HQX.out.cell 4 rfl
 have hqz := HQX.out.lt
 have hdr : Below wz.heap.size wz wz.drew := (Below.refl _ _).drew
 have hda : Below wz.heap.size wz (wz.alloc (.cells #[.slice none 0 0, .int .i64 0, .slice none 0 0] 49)).drew := ((Below.refl _ _).alloc (Nat.le_refl _) _).drew
 have hdrw := below_tr hbz hdr
 have hnz : ¬ w.heap.size = wz.heap.size := by omega
 have hdaw := below_tr hbz hda
 go_enter Tryz.func79, Tryz.ntmps79
 go_upto_region 1 with fail
 rw [← hwz]
 clear hwz
 go_cut [0, 4, 8, 9, 10] (fun a r p m e W => a = .pointer (some ⟨g, 0, none⟩) ∧ r = .pointer (some ⟨w.heap.size, 0, none⟩) ∧ m = .int .i64 nn ∧ e = .int .i64 ee ∧ ∃ jx ja jc ka kc, p = .pointer (some ⟨jx, 0, none⟩) ∧ Hid (JBox wz.heap.size wz W jx ja jc ka kc R))
 case first =>
  go_region_held3 (fun W => W.cell? ⟨w.heap.size, 2, none⟩ = some (.string fo) ∧ W.cell? ⟨w.heap.size, 4, none⟩ = some (.string key)) (first | go_keep | (have hx := (HQX.out.below hb45).nb (grown_on (grown_on (nb_set w5 (w3.heap.size) 0 (.slice jja R.base.length jjc)) (nb_set _ (w3.heap.size) 1 (.int .i64 R.first))) (nb_set _ (w3.heap.size) 2 (.slice kka R.cos.length kkc))) (by omega); exact ⟨hx.cell 2 rfl, hx.cell 4 rfl⟩) | (have hx := (HQX.out.below hb45).nb (grown_on (grown_on (nb_set w5 (wz.heap.size) 0 (.slice jja R.base.length jjc)) (nb_set _ (wz.heap.size) 1 (.int .i64 R.first))) (nb_set _ (wz.heap.size) 2 (.slice kka R.cos.length kkc))) (by omega); exact ⟨hx.cell 2 rfl, hx.cell 4 rfl⟩)) (first
   | (go_at_call 76; refine (HJC.out _ hdrw).mono ?_; rintro e w3 ⟨u3, rfl, hJ3, hb3⟩; have hb23 := below_tr hdr hb3; have hn3 : ¬ w.heap.size = w3.heap.size := (by have := hb23.size; omega); have HJ3 := hid hJ3; obtain ⟨vb3, vc3, rfl, lb3, lc3⟩ := hJ3; obtain ⟨_, _, rfl, _⟩ := lb3; obtain ⟨_, _, rfl⟩ := liesO_shape lc3; clear lc3; have q2 := (HQX.out.below hb23).cell 2 rfl; have q4 := (HQX.out.below hb23).cell 4 rfl)
   | (go_at_call 76; refine (HJC.out _ hdaw).mono ?_; rintro e w3 ⟨u3, rfl, hJ3, hb3⟩; have hb23 := below_tr hda hb3; have hn3 : ¬ w.heap.size = w3.heap.size := (by have := hb23.size; omega); have HJ3 := hid hJ3; obtain ⟨vb3, vc3, rfl, lb3, lc3⟩ := hJ3; obtain ⟨_, _, rfl, _⟩ := lb3; obtain ⟨_, _, rfl⟩ := liesO_shape lc3; clear lc3; have q2 := (HQX.out.below hb23).cell 2 rfl; have q4 := (HQX.out.below hb23).cell 4 rfl; have HZ := hid (((Cs.new wz [.slice none 0 0, .int .i64 0, .slice none 0 0] 49).below ((Below.refl _ _).drew)).below hb3))
   | (go_at_call 109; refine (HCC.out _ _ (below_tr hbz hb23) HJ3.out).mono ?_; rintro e w5 ⟨u5, rfl, hJ5, hb5⟩; have hb45 := below_tr hb23 hb5; have HY := hid (HZ.out.below hb5); obtain ⟨vb5, vc5, rfl, lb5, ob5, oc5⟩ := hJ5; have HLB5 := hid lb5; obtain ⟨jja, jjc, rfl, _⟩ := lb5; obtain ⟨kka, kkc, rfl⟩ := liesO_shape oc5.lies; have r2 := (HQX.out.below hb45).cell 2 rfl; have r4 := (HQX.out.below hb45).cell 4 rfl; have HB := hid (jbox_set (Nat.le_refl _) HZ.out.lt HY.out HLB5.out ob5 oc5 hb45); clear ob5 oc5; have y0 := HY.out.cell 0 rfl; have y1 := HY.out.cell 1 rfl; have y2 := HY.out.cell 2 rfl; have f0 := HY.out.fr 0; have f1 := HY.out.fr 1; have f2 := HY.out.fr 2)
   | (go_at_call 109; refine (HCC.out _ _ (below_tr hbz (hb23.alloc hb23.size _)) (HJ3.out.below ((Below.refl _ _).alloc (Nat.le_refl _) _))).mono ?_; rintro e w5 ⟨u5, rfl, hJ5, hb5⟩; have hb45 := below_tr (hb23.alloc hb23.size _) hb5; have HY := hid ((Cs.new w3 [.slice none 0 0, .int .i64 0, .slice none 0 0] 49).below hb5); obtain ⟨vb5, vc5, rfl, lb5, ob5, oc5⟩ := hJ5; have HLB5 := hid lb5; obtain ⟨jja, jjc, rfl, _⟩ := lb5; obtain ⟨kka, kkc, rfl⟩ := liesO_shape oc5.lies; have r2 := (HQX.out.below hb45).cell 2 rfl; have r4 := (HQX.out.below hb45).cell 4 rfl; have HB := hid (jbox_set hb23.size (Cs.new w3 [.slice none 0 0, .int .i64 0, .slice none 0 0] 49).lt HY.out HLB5.out ob5 oc5 hb45); clear ob5 oc5; have y0 := HY.out.cell 0 rfl; have y1 := HY.out.cell 1 rfl; have y2 := HY.out.cell 2 rfl; have f0 := HY.out.fr 0; have f1 := HY.out.fr 1; have f2 := HY.out.fr 2)
   | (go_at_call 109; refine (HCC.out _ _ (below_tr hbz hb23) HJ3.out).mono ?_; rintro e w5 ⟨u5, rfl, hJ5, hb5⟩; have hb45 := below_tr hb23 hb5; obtain ⟨vb5, vc5, rfl, lb5, ob5, oc5⟩ := hJ5; have HLB5 := hid lb5; obtain ⟨jja, jjc, rfl, _⟩ := lb5; obtain ⟨kka, kkc, rfl⟩ := liesO_shape oc5.lies; have r2 := (HQX.out.below hb45).cell 2 rfl; have r4 := (HQX.out.below hb45).cell 4 rfl; have HB := hid (jbox_new (T := 49) hb23.size HLB5.out ob5 oc5 hb45 hb45.size); clear ob5 oc5))
  all_goals
   go_wp2_with fail
   go_meet
   case rel => exact ⟨rfl, rfl, rfl, rfl, _, jja, jjc, kka, kkc, rfl, HB⟩
 case rest =>
  obtain ⟨rfl, rfl, rfl, rfl, jx, ja, jc, ka, kc, rfl, HJB⟩ := hcut
  obtain ⟨hjx, hJX, hJL, hbx⟩ := HJB.out
  have HJX := hid hJX
  have HJL := hid hJL
  clear hJX hJL
  have hb0x := below_tr hbz hbx
  have HCx := hid (HC.out.below hb0x)
  have HQx := hid (HQX.out.below hbx)
  have HOFx := hid (HOF.out.below hb0x)
  have hjl := HJX.out.lt
  have hsx := hb0x.size
  have hbox : bo (.slice (some ⟨b, o, none⟩) H.fos.length cf) g = b := rfl
  by_cases he : ee = 0
  · obtain rfl : ee = 0 := he
    have HHP := hid (show Hu.cmH H i key l = Hu.putJ H i R from by rw [HH.out, if_pos rfl])
    obtain ⟨w6, hw6⟩ : ∃ w6, w6 = ((wc.drew.setCell ⟨b, o + i * 4 + 1, none⟩ (.slice ja R.base.length jc)).setCell ⟨b, o + i * 4 + 1 + 1, none⟩ (.int .i64 R.first)).setCell ⟨b, o + i * 4 + 1 + 2, none⟩ (.slice ka R.cos.length kc) := ⟨_, rfl⟩
    have hdx : Below wc.heap.size wc wc.drew := (Below.refl _ _).drew
    have hb0d := below_tr hb0x hdx
    have hg6 : wc.drew.grownBy w6 (some b) := by rw [hw6]; exact grown_on (grown_on (nb_set _ _ _ _) (nb_set _ _ _ _)) (nb_set _ _ _ _)
    have hwb : wz.heap.size ≤ wc.heap.size := hbx.size
    have hwz1 : w.heap.size < wz.heap.size := HQX.out.lt
    have HF6 := hid (show LiesF w6 (.slice (some ⟨b, o, none⟩) H.fos.length cf) (Hu.putJ H i R).fos from by
     rw [Hu.putJ_fos HI.out, hw6]
     exact (HOF.out.below hb0d).put HI.out (HJL.out.1.below hdx) ((HJL.out.2.1.below hdx).mono (by omega)) ((HJL.out.2.2.below hdx).mono (by omega)))
    have hln : (Hu.putJ H i R).fos.length = H.fos.length := by rw [Hu.putJ_fos HI.out]; simp
    have HAB := HAP.out b rfl
    have HG6 := hid ((HLG.out.below hb0d).row hg6 (fun x hx e => by injection e with e; have := HAB.1 x hx; omega))
    have HS6 := hid ((HLSS.out.below hb0d).row hg6 (fun x hx e => by injection e with e; have := HAB.2 x hx; omega))
    have HC6 := hid ((HC.out.below hb0d).nb hg6 (by omega))
    have HR6 := hid (show SvL w6 g mb (Hu.putJ H i R) from ⟨_, _, _, HC6.out, HF6.out, HG6.out, HS6.out⟩)
    have HN6 := hid (show Nb2 w w6 g b from (Nb2.of_below _ _ hb0d).trans (Nb2.of_right _ hg6))
    have hlk1 := HLK.out wc hb0x
    have hlk2 := HLK.out wc.drew hb0d
    obtain ⟨c0, su, sx, c1, c2, c3, _, _⟩ := HSH.out.below hbl hb0x
    have fr1 := HOB.out wc hb0x (o + i * 4 + 1)
    have fr2 := HOB.out wc hb0x (o + i * 4 + 1 + 1)
    have fr3 := HOB.out wc hb0x (o + i * 4 + 1 + 2)
    have p0 := HCx.out.cell 0 rfl
    have p7 := HCx.out.cell 7 rfl
    have x2x := HQx.out.cell 2 rfl
    have m0 := HJX.out.cell 0 rfl
    have m1 := HJX.out.cell 1 rfl
    have m2 := HJX.out.cell 2 rfl
    clear HSF HM HJC HCC HLK HOB HF6 HG6 HS6 HC6 x2 x4 hqz hdr hda hdrw hdaw
    go_wp2_with fail
    go_region
    go_wp2_with fail
    rw [show ((((wc.setCell ⟨b, o + i * 4 + 1, none⟩ (.slice ja R.base.length jc)).setCell ⟨b, o + i * 4 + 1 + 1, none⟩ (.int .i64 R.first)).setCell ⟨b, o + i * 4 + 1 + 2, none⟩ (.slice ka R.cos.length kc)).drew : World) = w6 from by rw [hw6]; rfl]
    go_ret2
    exact ⟨rfl, by rw [HHP.out]; exact HR6.out, by rw [hbox]; exact HN6.out⟩
  · have hz : (ee == 0) = false := by simpa using he
    have HHP := hid (show Hu.cmH H i key l = H from by rw [HH.out, if_neg he])
    have HR6 := hid (show SvL wc g mb H from HSV.out.lies.below hb0x)
    clear he HH
    go_wp2_with fail
    go_ret2
    exact ⟨rfl, by rw [HHP.out]; exact HR6.out, Nb2.of_below _ _ hb0x⟩
end Go.Proofs.YtchlgpeiombmdaaGreat
set_option linter.unusedSimpArgs false
set_option linter.unusedVariables false
namespace Go.Proofs.YtchlgpeiombmdaaGreat
open Go.RowKit

theorem SvL.shape {w : World} {g mb : Nat} {H : Hb} (h : SvL w g mb H) : ∃ fa fc ga gc sa sc, Cs w g [.slice fa H.fos.length fc, .slice ga H.gs.length gc, .slice sa H.ss.length sc, .int .i64 H.nx, .int .i64 H.la, .int .i64 H.ro, .int .i64 H.now, .map (some mb)] ∧ LiesF w (.slice fa H.fos.length fc) H.fos ∧ LiesG w (.slice ga H.gs.length gc) H.gs ∧ LiesS w (.slice sa H.ss.length sc) H.ss := by
 obtain ⟨vf, vg, vs, h1, h2, h3, h4⟩ := h
 have l2 := h2
 have l3 := h3
 have l4 := h4
 obtain ⟨fa, fc, rfl, _⟩ := h2
 obtain ⟨ga, gc, rfl, _⟩ := h3
 obtain ⟨sa, sc, rfl, _⟩ := h4
 exact ⟨fa, fc, ga, gc, sa, sc, h1, l2, l3, l4⟩
theorem noStr_sv {w : World} {g mb : Nat} {a b c d e f : Nat} {x y z : Option Addr} {n1 n2 n3 n4 : Int} (h : Cs w g [.slice x a b, .slice y c d, .slice z e f, .int .i64 n1, .int .i64 n2, .int .i64 n3, .int .i64 n4, .map (some mb)]) : NoStr w g := h.noStr (fun s hs => by simp at hs)
namespace Hu
def upH (H : Hb) (e : Int) (S : List Se) (x l r : Int) : Hb := if e = 0 then ⟨H.fos, H.gs, S, x, l, r, H.now⟩ else H
def gsH (H : Hb) (e : Int) (G : List Gr) : Hb := if e = 0 then { H with gs := G } else H
end Hu

set_option maxRecDepth 100000 in
set_option maxHeartbeats 4000000 in
theorem stake_any (H : Hb) (S : List Se) (u : Value) (x l r m e : Int) (g mb : Nat) (w : World) (hsv : SvL w g mb H) (hu : LiesS w u S) :
    Calls Tryz.prog 80 #[.pointer (some ⟨g, 0, none⟩), .agg #[u, .int .i64 x, .int .i64 l, .int .i64 r], .int .i64 m, .int .i64 e] w fun z w' => z = .returned (.tuple #[.int .i64 m, .int .i64 e]) ∧ SvL w' g mb (Hu.upH H e S x l r) ∧ w.grownBy w' (some g) := by
 have HU := hid hu
 obtain ⟨ua, uc, rfl, _⟩ := hu
 obtain ⟨fos, gs, ss, nx, la, ro, now⟩ := H
 obtain ⟨fa, fc, ga, gc, sa, sc, hC, hF, hG, hS⟩ := hsv.shape
 simp only at hC hF hG hS
 have HC := hid hC
 have HF := hid hF
 have HG := hid hG
 have HS := hid hS
 have hgl := hC.lt
 obtain ⟨wz, hwz⟩ : ∃ wz, wz = w.alloc (.cells #[.slice ua S.length uc, .int .i64 x, .int .i64 l, .int .i64 r] 26) := ⟨_, rfl⟩
 have hbz : Below w.heap.size w wz := by rw [hwz]; exact (Below.refl _ _).alloc (Nat.le_refl _) _
 have HX : Hid (Cs wz w.heap.size [.slice ua S.length uc, .int .i64 x, .int .i64 l, .int .i64 r]) := (by rw [hwz]; exact Cs.new w [.slice ua S.length uc, .int .i64 x, .int .i64 l, .int .i64 r] _ : Cs wz w.heap.size _)
 have HCz := hid (HC.out.below hbz)
 clear hsv hF hG hS hC
 by_cases he : e = 0
 · subst he
   obtain ⟨w2, hw2⟩ : ∃ w2, w2 = (((wz.setCell ⟨g, 2, none⟩ (.slice ua S.length uc)).setCell ⟨g, 2 + 1, none⟩ (.int .i64 x)).setCell ⟨g, 2 + 2, none⟩ (.int .i64 l)).setCell ⟨g, 2 + 3, none⟩ (.int .i64 r) := ⟨_, rfl⟩
   have hg2 : wz.grownBy w2 (some g) := by rw [hw2]; exact grown_on (grown_on (grown_on (nb_set _ _ _ _) (nb_set _ _ _ _)) (nb_set _ _ _ _)) (nb_set _ _ _ _)
   have HC2 : Hid (Cs w2 g [.slice fa fos.length fc, .slice ga gs.length gc, .slice ua S.length uc, .int .i64 x, .int .i64 l, .int .i64 r, .int .i64 now, .map (some mb)]) := (by rw [hw2]; exact ((((HCz.out.set 2 (.slice ua S.length uc)).set 3 (.int .i64 x)).set 4 (.int .i64 l)).set 5 (.int .i64 r)) : Cs w2 g _)
   have HNS := hid (noStr_sv HCz.out)
   have HR := hid (show SvL w2 g mb ⟨fos, gs, S, x, l, r, now⟩ from ⟨_, _, _, HC2.out, (HF.out.below hbz).nb hg2 HNS.out, (HG.out.below hbz).nb hg2 HNS.out, (HU.out.below hbz).nb hg2 HNS.out⟩)
   have hg0 : w.grownBy w2 (some g) := Nb.trans (Nb.below g hbz) hg2
   have y0 := HX.out.cell 0 rfl
   have y1 := HX.out.cell 1 rfl
   have y2 := HX.out.cell 2 rfl
   have y3 := HX.out.cell 3 rfl
   have p2 := HCz.out.cell 2 rfl
   have p3 := HCz.out.cell 3 rfl
   have p4 := HCz.out.cell 4 rfl
   have p5 := HCz.out.cell 5 rfl
   have f2 := HCz.out.fr 2
   have f3 := HCz.out.fr 3
   have f4 := HCz.out.fr 4
   have f5 := HCz.out.fr 5
   go_enter Tryz.func80, Tryz.ntmps80
   go_upto_region 1 with fail
   rw [← hwz]
   clear hwz
   go_wp2_with fail
   rw [← hw2]
   go_ret2
   exact ⟨rfl, by rw [Hu.upH, if_pos rfl]; exact HR.out, hg0⟩
 · have hz : (e == 0) = false := by simpa using he
   have HE := hid he
   have HR := hid (show SvL wz g mb ⟨fos, gs, ss, nx, la, ro, now⟩ from ⟨_, _, _, HCz.out, HF.out.below hbz, HG.out.below hbz, HS.out.below hbz⟩)
   clear he
   go_enter Tryz.func80, Tryz.ntmps80
   go_upto_region 1 with fail
   rw [← hwz]
   clear hwz
   go_wp2_with fail
   go_ret2
   exact ⟨rfl, by rw [Hu.upH, if_neg HE.out]; exact HR.out, Nb.below g hbz⟩
/-- What slices.Insert does with a row of folders of one's own: a folder with an empty journal comes in. -/
def InsOK (B : Nat) (v : Value) (L : List Sh) (i : Nat) (na : ByteArray) : Prop := ∀ (W : World) (vb : Nat), OwnF B W v L → Rm W v → Cs W vb [.string na, .slice none 0 0, .int .i64 1, .slice none 0 0] → (∀ b, v.ownBlock = some b → b < vb) →
 Calls Tryz.prog 108 #[v, .int .i64 i, .slice (some ⟨vb, 0, none⟩) 1 1] W fun e w' => ∃ u, e = .returned u ∧ LiesF w' u (L.take i ++ ⟨na, ⟨[], 1, []⟩⟩ :: L.drop i) ∧ W.grownBy w' v.ownBlock
namespace Hu
def mkE (H : Hb) (f h : ByteArray) : Int := if ¬ Pp.maE H.gs f h = 0 then Pp.maE H.gs f h else if 8 ≤ H.fos.length then 2 else 0
def mkH (H : Hb) (f h : ByteArray) : Hb := if mkE H f h = 0 then { H with fos := H.fos.take (plc H.fos f) ++ ⟨f, ⟨[], 1, []⟩⟩ :: H.fos.drop (plc H.fos f), gs := Pp.maL H.gs f h } else H
theorem mk_bad {H : Hb} {f h : ByteArray} (h0 : ¬ Pp.maE H.gs f h = 0) : mkE H f h = Pp.maE H.gs f h ∧ mkH H f h = H := by
 have e : mkE H f h = Pp.maE H.gs f h := by rw [mkE, if_pos h0]
 exact ⟨e, by rw [mkH, e, if_neg h0]⟩
theorem mk_many {H : Hb} {f h : ByteArray} (h0 : Pp.maE H.gs f h = 0) (h8 : 8 ≤ H.fos.length) : mkE H f h = 2 ∧ mkH H f h = H := by
 have e : mkE H f h = 2 := by rw [mkE, if_neg (fun x => x h0), if_pos h8]
 exact ⟨e, by rw [mkH, e, if_neg (by decide)]⟩
theorem mk_ok {H : Hb} {f h : ByteArray} (h0 : Pp.maE H.gs f h = 0) (h8 : ¬ 8 ≤ H.fos.length) : mkE H f h = 0 ∧ mkH H f h = { H with fos := H.fos.take (plc H.fos f) ++ ⟨f, ⟨[], 1, []⟩⟩ :: H.fos.drop (plc H.fos f), gs := Pp.maL H.gs f h } := by
 have e : mkE H f h = 0 := by rw [mkE, if_neg (fun x => x h0), if_neg h8]
 exact ⟨e, by rw [mkH, e, if_pos rfl]⟩
end Hu
end Go.Proofs.YtchlgpeiombmdaaGreat
set_option linter.unusedSimpArgs false
set_option linter.unusedVariables false
namespace Go.Proofs.YtchlgpeiombmdaaGreat
open Go.RowKit

def newC (na : ByteArray) : List Value := [.string na, .slice none 0 0, .int .i64 1, .slice none 0 0]
theorem newC_one (na : ByteArray) : (newC na).length = 4 ∧ ∀ u ∈ newC na, u.oneCell' = true := by
 refine ⟨rfl, fun u hu => ?_⟩
 simp only [newC, List.mem_cons, List.not_mem_nil, or_false] at hu
 rcases hu with rfl | rfl | rfl | rfl <;> rfl
/-- Rows of folders, one of them new, in a world in which the old journals lie. -/
theorem liesF_new {w : World} {v : Value} {l : List Sh} {us : List (Value × Value)} {na : ByteArray} {i : Nat} (hj : JosAt w l us) (hi : i ≤ l.length) (h : LiesR 4 w v ((rowsF l us).take i ++ newC na :: (rowsF l us).drop i)) : LiesF w v (l.take i ++ ⟨na, ⟨[], 1, []⟩⟩ :: l.drop i) := by
 obtain ⟨hl, hj⟩ := hj
 have e : (rowsF l us).take i ++ newC na :: (rowsF l us).drop i = rowsF (l.take i ++ ⟨na, ⟨[], 1, []⟩⟩ :: l.drop i) (us.take i ++ (.slice none 0 0, .slice none 0 0) :: us.drop i) := by
  rw [rowsF, rowsF, List.zipWith_append (by simp [hl]), List.zipWith_cons_cons, List.take_zipWith, List.drop_zipWith]
  rfl
 rw [e] at h
 refine liesF_of ⟨by simp [hl], fun k c u hc hu => ?_⟩ h
 rcases Nat.lt_trichotomy k i with hk | hk | hk
 · rw [List.getElem?_append_left (by simp; omega), List.getElem?_take, if_pos hk] at hc hu
   exact hj k c u hc hu
 · subst hk
   rw [List.getElem?_append_right (by simp; omega)] at hc hu
   simp [List.length_take, Nat.min_eq_left hi, Nat.min_eq_left (hl ▸ hi)] at hc hu
   subst hc; subst hu
   exact ⟨⟨none, 0, rfl, Nat.le_refl _, Nat.zero_le _, fun i h => absurd h (by simp)⟩, liesO_nil _⟩
 · rw [List.getElem?_append_right (by simp; omega)] at hc hu
   rw [List.length_take, Nat.min_eq_left (by omega)] at hc hu
   obtain ⟨d, rfl⟩ : ∃ d, k = i + 1 + d := ⟨k - i - 1, by omega⟩
   rw [show i + 1 + d - i = d + 1 by omega, List.getElem?_cons_succ, List.getElem?_drop] at hc hu
   exact hj _ c u hc hu
theorem below_none {W W' : World} (h : W.grownBy W' none) : Below W.heap.size W W' := ⟨h.os, h.tape, h.output, h.size, fun k hk => h.block k hk (by simp)⟩
theorem josAt_row {B : Nat} {W W' : World} {v : Value} {l : List Sh} {us : List (Value × Value)} (hj : JosAt W l us) (hx : ∀ (i : Nat) (c : Sh) (u : Value × Value), l[i]? = some c → us[i]? = some u → (Own B W u.1 ∧ OwnO B W u.2 c.jo.cos) ∧ ∀ b, v.ownBlock = some b → Own (b + 1) W u.1 ∧ OwnO (b + 1) W u.2 c.jo.cos) (hg : W.grownBy W' v.ownBlock) : JosAt W' l us := by
 refine ⟨hj.1, fun i c u hc hu => ?_⟩
 have h1 := hj.2 i c u hc hu
 cases hb : v.ownBlock with
 | none => rw [hb] at hg; exact ⟨h1.1.below (below_none hg), h1.2.below (below_none hg)⟩
 | some b =>
  rw [hb] at hg
  obtain ⟨h2, h3⟩ := (hx i c u hc hu).2 b hb
  exact ⟨h1.1.nbo hg (fun x hx => by have := (h2 x hx).1; omega), (h3.nbo hg (Nat.lt_succ_self _)).lies⟩
set_option maxRecDepth 100000 in
set_option maxHeartbeats 4000000 in
theorem insert_end (B : Nat) (v : Value) (L : List Sh) (na : ByteArray) (h8 : L.length ≤ 8) : InsOK B v L L.length na := by
 intro W vb hO hM hc hb
 obtain ⟨i0, hi0, hz0, hz1, hz2⟩ := info_parts Tryz.infoRF
 have HC := hid hc
 have hvl := hc.lt
 obtain ⟨us, hj, hr, ho, hx⟩ := hO
 have hlr := rowsF_len hj.1
 have hrow := own_of_rm hr hM (ho.mono (Nat.zero_le B))
 have HLR := hid hlr
 have HJ := hid hj
 have HROW := hid hrow
 have HX := hid hx
 have HONE := hid (show ∀ r ∈ rowsF L us, r.length = 4 ∧ ∀ u ∈ r, u.oneCell' = true from by obtain ⟨_, _, _, _, _, h4, _⟩ := hr; exact h4)
 have HB := hid hb
 obtain ⟨fa, fc, rfl, hfc, _⟩ := hr
 rw [hlr] at hrow HROW hfc HX HB
 have hfc' : fc ≤ 9223372036854775807 ∧ (fa = none → fc = 0) := by
  rcases hM with h | ⟨g, n, cap, cur, h, _, _, h4, _⟩
  · injection h with e1 e2 e3; subst e3; exact ⟨by omega, fun _ => rfl⟩
  · injection h with e1 e2 e3; subst e3; unfold maxLen at h4; exact ⟨by omega, fun h => by rw [e1] at h; cases h⟩
 rw [hlr]
 clear hc hb hj hx ho hM hrow hlr
 by_cases hq : fc = L.length
 · subst hq
   go_enter Tryz.func108, Tryz.ntmps108
   go_wp2_with (at_builtin; refine wpList_append_own _ rfl _ _ 22 rfl 0 51 i0 (.agg #[.string ⟨#[]⟩, .slice none 0 0, .int .i64 0, .slice none 0 0]) 4 72 Tryz.underlying22 hi0 hz0 hz1 hz2 rfl (by decide) _ _ _ rfl HROW.out ⟨vb, 0, none⟩ 1 1 (newC na) rfl rfl ?qc2 (newC_one na).2 (by unfold maxLen; omega) (by omega) (Nat.zero_le _) ?_)
   case qc2 =>
    intro j u hj
    rw [Addr.add_lit, Nat.zero_add]
    exact HC.out.cell j hj
   intro v2 w2 ho2 hgr2 hnn2
   have HG := hid hgr2
   have ho3 : w2.ownsRow 0 51 4 v2 (rowsF L us ++ [newC na]).length (rowsF L us ++ [newC na]).flatten := by
    have e1 : (rowsF L us ++ [newC na]).length = L.length + 1 := by rw [List.length_append, HLR.out]; rfl
    have e2 : (rowsF L us ++ [newC na]).flatten = (rowsF L us).flatten ++ newC na := by simp
    rw [e1, e2]; exact ho2
   have HL := hid (show LiesF w2 v2 (L.take L.length ++ ⟨na, ⟨[], 1, []⟩⟩ :: L.drop L.length) from liesF_new (josAt_row HJ.out HX.out HG.out) (Nat.le_refl _) (by
    have e3 : (rowsF L us).take L.length = rowsF L us := List.take_of_length_le (by rw [HLR.out]; exact Nat.le_refl _)
    have e4 : (rowsF L us).drop L.length = [] := List.drop_eq_nil_of_le (by rw [HLR.out]; exact Nat.le_refl _)
    rw [e3, e4]
    exact liesR_own ho3 (by rw [List.length_append, HLR.out]; simp; omega) (fun r hr => by
     rcases List.mem_append.1 hr with h | h
     · exact HONE.out r h
     · rw [List.mem_singleton.1 h]; exact newC_one na)))
   obtain ⟨a2, cap2, hv2, _⟩ := id HL.out
   clear ho2 ho3 hgr2 hnn2
   go_wp2_with fail
   go_ret
   exact ⟨_, rfl, HL.out, HG.out⟩
 · skip
   go_enter Tryz.func108, Tryz.ntmps108
   go_wp2_with (at_builtin; refine wpList_append_own _ rfl _ _ 22 rfl 0 51 i0 (.agg #[.string ⟨#[]⟩, .slice none 0 0, .int .i64 0, .slice none 0 0]) 4 72 Tryz.underlying22 hi0 hz0 hz1 hz2 rfl (by decide) _ _ _ rfl HROW.out ⟨vb, 0, none⟩ 1 1 (newC na) rfl rfl ?qc2 (newC_one na).2 (by unfold maxLen; omega) (by omega) (Nat.zero_le _) ?_)
   case qc2 =>
    intro j u hj
    rw [Addr.add_lit, Nat.zero_add]
    exact HC.out.cell j hj
   intro v2 w2 ho2 hgr2 hnn2
   have HG := hid hgr2
   have ho3 : w2.ownsRow 0 51 4 v2 (rowsF L us ++ [newC na]).length (rowsF L us ++ [newC na]).flatten := by
    have e1 : (rowsF L us ++ [newC na]).length = L.length + 1 := by rw [List.length_append, HLR.out]; rfl
    have e2 : (rowsF L us ++ [newC na]).flatten = (rowsF L us).flatten ++ newC na := by simp
    rw [e1, e2]; exact ho2
   have HL := hid (show LiesF w2 v2 (L.take L.length ++ ⟨na, ⟨[], 1, []⟩⟩ :: L.drop L.length) from liesF_new (josAt_row HJ.out HX.out HG.out) (Nat.le_refl _) (by
    have e3 : (rowsF L us).take L.length = rowsF L us := List.take_of_length_le (by rw [HLR.out]; exact Nat.le_refl _)
    have e4 : (rowsF L us).drop L.length = [] := List.drop_eq_nil_of_le (by rw [HLR.out]; exact Nat.le_refl _)
    rw [e3, e4]
    exact liesR_own ho3 (by rw [List.length_append, HLR.out]; simp; omega) (fun r hr => by
     rcases List.mem_append.1 hr with h | h
     · exact HONE.out r h
     · rw [List.mem_singleton.1 h]; exact newC_one na)))
   obtain ⟨a2, cap2, hv2, _⟩ := id HL.out
   clear ho2 ho3 hgr2 hnn2
   go_wp2_with fail
   go_ret
   exact ⟨_, rfl, HL.out, HG.out⟩
end Go.Proofs.YtchlgpeiombmdaaGreat
