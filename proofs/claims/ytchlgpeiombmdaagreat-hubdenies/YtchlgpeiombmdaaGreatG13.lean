/- What grant.Give answers, where a right is given and all is right; how grants begin. -/
import Derived.Test.YtchlgpeiombmdaaGreatGC
set_option linter.unusedSimpArgs false
set_option linter.unusedVariables false
namespace Go.Proofs.YtchlgpeiombmdaaGreat
open Go.RowKit

set_option maxHeartbeats 1000000 in
theorem checkGive_ok (G : List Gr) (v : Value) (b : ByteArray) (x : Gr) (w : World) (hv : LiesG w v G) (hx : ¬ x.ri = 0) (hr : Pp.rgt G x.fo b = 3) :
    Calls Tryz.prog 48 #[v, .string b, .agg #[.string x.fo, .string x.wh, .int .i64 x.ri]] w fun e w' => e = .returned (.int .i64 0) ∧ Below w.heap.size w w' := by
 have HV := ghid hv
 have HR := ghid hr
 have hz : (x.ri == 0) = false := by simpa using hx
 clear hv hr hx
 go_enter Tryz.func48, Tryz.ntmps48
 go_wp2_with fail
 refine (right_any G _ x.fo b _ (HV.out.below ((Below.refl _ _).alloc (Nat.le_refl _) _))).mono ?_
 rintro e w1 ⟨rfl, hb1⟩
 rw [HR.out]
 obtain ⟨c0, c1, c2, hbw, hlt⟩ := bxG3 hb1
 clear hb1
 go_wp2
 go_ret
 exact ⟨rfl, hbw⟩
set_option maxRecDepth 100000 in
set_option maxHeartbeats 2000000 in
theorem give_ok (G : List Gr) (v : Value) (f b h : ByteArray) (r : Int) (w : World) (hv : LiesG w v G) (hs : SizedG G) (hf : f.size ≤ 1000000000) (hb : b.size ≤ 1000000000) (hh : h.size ≤ 1000000000) (h0 : Pp.gchE G = 0) (h1 : Pp.nmsE [f, b, h] = 0) (hr1 : 1 ≤ r) (hr3 : r ≤ 3) (h2 : Pp.rgt G f b = 3) (h3 : (Pp.outG (Gr.mk f h r) G ++ [Gr.mk f h r]).any (Pp.ownF f) = true) (hn : G.length + 1 ≤ 60) :
    Calls Tryz.prog 27 #[v, .string f, .string b, .string h, .int .i64 r] w fun e w' => ∃ u M, e = .returned (.tuple #[u, .int .i64 0]) ∧ M.Perm (Pp.outG ⟨f, h, r⟩ G ++ [⟨f, h, r⟩]) ∧ M.Pairwise (fun a b => Pp.ltG b a = false) ∧ LiesG w' u M ∧ Below w.heap.size w w' := by
 have HV := ghid hv
 have HS := ghid hs
 have H0 := ghid h0
 have H1 := ghid h1
 have H2 := ghid h2
 have H3 := ghid h3
 have hFl : (Pp.outG ⟨f, h, r⟩ G).length ≤ G.length := List.length_filter_le _ _
 have hr0 : ¬ r = 0 := by omega
 have HR0 := ghid hr0
 clear hv hs h0 h1 h2 h3 hr0
 go_enter Tryz.func27, Tryz.ntmps27
 go_wp2_with fail
 refine (checkAll_ok G _ [f, b, h] w.heap.size 3 _ (HV.out.below ((Below.refl _ _).alloc (Nat.le_refl _) _)) HS.out (by simp) (fun i hi => by match i, hi with | 0, _ => exact Nat.le_trans hf (by decide) | 1, _ => exact Nat.le_trans hb (by decide) | 2, _ => exact Nat.le_trans hh (by decide)) (by simp) (fun i hi => by match i, hi with | 0, _ => simp | 1, _ => simp | 2, _ => simp) H0.out H1.out).mono ?_
 rintro e w1 ⟨rfl, hb1⟩
 have hb01 : Below w.heap.size w w1 := ((Below.refl _ _).alloc (Nat.le_refl _) _).trans (hb1.mono (by simp))
 clear hb1
 go_wp2_with fail
 refine (checkGive_ok G _ b ⟨f, h, r⟩ _ (HV.out.below (by first | exact hb01 | exact hb01.alloc hb01.size _)) HR0.out H2.out).mono ?_
 rintro e w2 ⟨rfl, hb2⟩
 obtain ⟨c0, c1, c2, hbw, hlt⟩ := bxG3 hb2
 have hb02 := below_trans hb01 hbw
 clear hb2 hbw hb01
 go_wp2_with fail
 refine (put_yes G _ ⟨f, h, r⟩ _ (HV.out.below hb02) (by omega) HR0.out).mono ?_
 rintro e w4 ⟨u, M, rfl, hp, hsrt, ⟨hli, _⟩, hb4⟩
 have hM : M.length ≤ 60 := by rw [hp.length_eq, List.length_append]; simp; omega
 have hany : M.any (Pp.ownF f) = true := by
  have h3 := H3.out
  rw [List.any_eq_true] at h3 ⊢
  obtain ⟨y, hy, hy2⟩ := h3
  exact ⟨y, hp.mem_iff.2 hy, hy2⟩
 have HA := ghid hany
 have HP := ghid hp
 have HSS := ghid hsrt
 have HLI := ghid hli
 have hb04 := below_trans hb02 hb4
 clear hp hsrt hli hb4 hb02 c0 c1 c2 hany
 go_wp2_with fail
 refine (isOwned_any M _ f _ HLI.out).mono ?_
 rintro e w5 ⟨rfl, hb5⟩
 rw [HA.out]
 have hb05 := below_trans hb04 hb5
 have HLI5 := ghid (HLI.out.below hb5)
 clear hb5 hb04 HLI
 go_wp2_with fail
 refine (bounded_ok M _ _ HLI5.out hM).mono ?_
 rintro e w6 ⟨rfl, hw⟩
 rw [hw]
 clear hw w6
 go_wp2
 go_ret2
 exact ⟨_, M, rfl, HP.out, HSS.out, HLI5.out, hb05⟩
namespace Bg
def bf : ByteArray := ⟨#[102]⟩
def ba : ByteArray := ⟨#[97]⟩
def bb : ByteArray := ⟨#[98]⟩
def g1 : Gr := ⟨bf, ba, 3⟩
def g2 : Gr := ⟨bf, bb, 1⟩
theorem out1 : Pp.outG g1 [] = [] := rfl
theorem n1 : Pp.nmsE [bf, ba] = 0 := by decide
theorem n2 : Pp.nmsE [bf, ba, bb] = 0 := by decide
theorem c0 : Pp.gchE [] = 0 := by decide
theorem tl (b : ByteArray) : b.toList = b.data.toList := Lib.toList_data b
theorem own1 : Pp.ownF bf g1 = true := by simp [Pp.ownF, g1, bf, tl]
theorem c1 : Pp.gchE [g1] = 0 := by
 have h1 : Pp.grsE [g1] = 0 := by decide
 rw [Pp.gch_own (by decide) h1 rfl]
 exact (Pp.owns_yes (fun j h => by
  have : j = 0 := by simp at h; omega
  subst this
  simp [own1, g1] at *
  exact own1)).symm
theorem r1 : Pp.rgt [g1] bf ba = 3 := by simp [Pp.rgt, Pp.ofW, g1, bf, ba, tl]
theorem o2 : Pp.outG g2 [g1] = [g1] := by
 have : Pp.othG g2 g1 = true := by
  have : Pp.cG g1 g2 = -1 := by simp [Pp.cG, Pp.cS, g1, g2, bf, ba, bb, tl, Op.bytesLess]
  rw [Pp.othG, this]; decide
 simp [Pp.outG, this]
theorem s1 : SizedG [g1] := fun g hg => by
 have : g = g1 := by simpa using hg
 subst this
 exact ⟨by decide, by decide⟩
end Bg

set_option maxRecDepth 100000 in
set_option maxHeartbeats 1000000 in
theorem grantBegun_yes (w : World) : Calls Tryz.prog 13 #[] w fun e w' => e = .returned (.bool true) ∧ Below w.heap.size w w' := by
 go_enter Tryz.func13, Tryz.ntmps13
 go_wp2_with fail
 refine (make_ok [] _ Bg.bf Bg.ba _ (liesG_nil _) (fun g hg => by cases hg) (by decide) (by decide) Bg.c0 Bg.n1 rfl (by decide)).mono ?_
 rintro e w1 ⟨u, M, rfl, hp, _, hli, hb1⟩
 have hM : M = [Bg.g1] := by
  have : M.Perm [Bg.g1] := hp
  exact List.perm_singleton.1 this
 subst hM
 have HLI := ghid hli
 clear hli hp
 go_wp2_with fail
 refine (give_ok [Bg.g1] _ Bg.bf Bg.ba Bg.bb 1 _ HLI.out Bg.s1 (by decide) (by decide) (by decide) Bg.c1 Bg.n2 (by decide) (by decide) Bg.r1 (by rw [show Pp.outG (Gr.mk Bg.bf Bg.bb 1) [Bg.g1] = [Bg.g1] from Bg.o2]; simp [Bg.own1]) (by decide)).mono ?_
 rintro e w2 ⟨u2, M2, rfl, hp2, _, hli2, hb2⟩
 have hl2 : M2.length = 2 := by
  rw [hp2.length_eq, show Pp.outG (Gr.mk Bg.bf Bg.bb 1) [Bg.g1] = [Bg.g1] from Bg.o2]; rfl
 obtain ⟨a1, cap1, rfl, hc1, hc1', _⟩ := HLI.out
 obtain ⟨a2, cap2, rfl, hc2, hc2', _⟩ := hli2
 rw [hl2] at hc2 ⊢
 have hb02 := below_trans hb1 hb2
 clear hb1 hb2 hp2
 go_wp2
 go_ret
 exact ⟨rfl, hb02⟩
end Go.Proofs.YtchlgpeiombmdaaGreat
