/- What journal.checkKnown, reset, checkOn and Follow answer, for every tree, cursor and page. -/
import Derived.Test.YtagdilnbbepccaaGreatMP
import Derived.Test.YtagdilnbbepccaaGreatJ5
import Derived.Test.YtagdilnbbepccaaGreatMF
import Derived.Test.YtagdilnbbepccaaGreatMH
import Derived.Deep.RegionHeld3
set_option linter.unusedSimpArgs false
set_option linter.unusedVariables false
namespace Go.Proofs.YtagdilnbbepccaaGreat
open Go.RowKit

set_option maxRecDepth 100000 in
set_option maxHeartbeats 1000000 in
theorem checkKnown_any (T : List En) (v : Value) (c : Int) (w : World) (hv : Lies w v T) (hs : Sized T) :
    Calls Tryz.prog 37 #[v, .int .i64 c] w fun e w' => e = .returned (.int .i64 (Jn.knE T c)) ∧ Below w.heap.size w w' := by
  have HV := hid hv
  have HS := hid hs
  clear hv hs
  by_cases ht : Pp.treeE T = 0
  · have HT := hid ht
    have HK := hid (Jn.kn_cur (c := c) ht)
    clear ht
    by_cases c1 : c < 0
    · have HE : Hid (Jn.curE c = 3) := (by rw [Jn.curE, if_pos (Or.inl c1)] : Jn.curE c = 3)
      go_enter Tryz.func37, Tryz.ntmps37
      go_wp2_with fail
      refine (tcheck_all T v _ HV.out HS.out).mono ?_
      rintro e w1 ⟨rfl, hb1⟩
      rw [HT.out]
      go_wp2_with fail
      go_ret
      exact ⟨by rw [HK.out, HE.out]; rfl, hb1⟩
    by_cases c2 : 1000000 < c
    · have HE : Hid (Jn.curE c = 3) := (by rw [Jn.curE, if_pos (Or.inr c2)] : Jn.curE c = 3)
      go_enter Tryz.func37, Tryz.ntmps37
      go_wp2_with fail
      refine (tcheck_all T v _ HV.out HS.out).mono ?_
      rintro e w1 ⟨rfl, hb1⟩
      rw [HT.out]
      go_wp2_with fail
      go_ret
      exact ⟨by rw [HK.out, HE.out]; rfl, hb1⟩
    · have HE : Hid (Jn.curE c = 0) := (by rw [Jn.curE, if_neg (by omega)] : Jn.curE c = 0)
      go_enter Tryz.func37, Tryz.ntmps37
      go_wp2_with fail
      refine (tcheck_all T v _ HV.out HS.out).mono ?_
      rintro e w1 ⟨rfl, hb1⟩
      rw [HT.out]
      go_wp2_with fail
      go_ret
      exact ⟨by rw [HK.out, HE.out]; rfl, hb1⟩
  · have HK := hid (Jn.kn_tree (c := c) ht)
    have hz : (Pp.treeE T == 0) = false := by simpa using ht
    go_enter Tryz.func37, Tryz.ntmps37
    go_wp2_with fail
    refine (tcheck_all T v _ HV.out HS.out).mono ?_
    rintro e w1 ⟨rfl, hb1⟩
    go_wp2_with fail
    go_ret
    exact ⟨by rw [HK.out]; rfl, hb1⟩

set_option maxRecDepth 100000 in
set_option maxHeartbeats 2000000 in
theorem reset_any (P : Pg) (v : Value) (w : World) (hv : LiesP w v P) (hs : Sized P.tree) :
    Calls Tryz.prog 38 #[v] w fun e w' => ∃ r, e = .returned (.tuple #[r, .int .i64 (if Jn.rstE P = 0 then P.cur else 0), .int .i64 (Jn.rstE P)]) ∧ Lies w' r (Pp.ifz (Jn.rstE P) P.tree) ∧ Below w.heap.size w w' := by
  obtain ⟨vt, vc, rfl, hvt, hvc⟩ := hv
  have HVT := hid hvt
  have HS := hid hs
  obtain ⟨a1, b1, rfl, _⟩ := hvt
  obtain ⟨a2, b2, rfl, _⟩ := hvc
  clear hs
  obtain ⟨wz, hwz⟩ : ∃ wz, wz = w.alloc (.cells #[.bool P.reset, .slice a1 P.tree.length b1, .slice a2 P.cos.length b2, .int .i64 P.cur, .bool P.more] 40) := ⟨_, rfl⟩
  have hbz : Below w.heap.size w wz := by rw [hwz]; exact (Below.refl _ _).alloc (Nat.le_refl _) _
  have HBX : Hid (Cs wz w.heap.size [.bool P.reset, .slice a1 P.tree.length b1, .slice a2 P.cos.length b2, .int .i64 P.cur, .bool P.more]) := (by rw [hwz]; exact Cs.new w [.bool P.reset, .slice a1 P.tree.length b1, .slice a2 P.cos.length b2, .int .i64 P.cur, .bool P.more] _ : Cs wz w.heap.size [.bool P.reset, .slice a1 P.tree.length b1, .slice a2 P.cos.length b2, .int .i64 P.cur, .bool P.more])
  have hlz := HBX.out.lt
  by_cases hk : Jn.knE P.tree P.cur = 0
  · have HK := hid hk
    have hg := (Pp.good_iff P.tree).1 (Jn.kn_zero hk).1
    have hlen := hg.len
    clear hg
    by_cases h1 : 0 < P.cos.length
    · have HE := hid (Jn.rst_form hk (Or.inl h1))
      have h1' : 0 < (P.cos.length : Int) := by omega
      clear hk
      obtain ⟨cu, hcu⟩ : ∃ cu, cu = (if Jn.rstE P = 0 then P.cur else 0) := ⟨_, rfl⟩
      have hcu2 : cu = 0 := by rw [hcu, HE.out]; rfl
      rw [← hcu, hcu2]
      clear hcu hcu2
      go_enter Tryz.func38, Tryz.ntmps38
      go_wp2_with fail
      rw [← hwz]
      clear hwz
      refine (checkKnown_any P.tree _ P.cur _ (HVT.out.below hbz) HS.out).mono ?_
      rintro e w1 ⟨rfl, hb1⟩
      rw [HK.out]
      have x2 := (HBX.out.below hb1).cell 2 rfl
      have hb01 := below_tr hbz hb1
      go_wp2_with fail
      go_ret3
      exact ⟨_, by rw [HE.out]; rfl, by rw [HE.out]; exact lies_nil _, hb01⟩
    · have h1' : ¬ 0 < (P.cos.length : Int) := by omega
      cases hm : P.more with
      | true =>
        have HE := hid (Jn.rst_form hk (Or.inr hm))
        clear hk
        obtain ⟨cu, hcu⟩ : ∃ cu, cu = (if Jn.rstE P = 0 then P.cur else 0) := ⟨_, rfl⟩
        have hcu2 : cu = 0 := by rw [hcu, HE.out]; rfl
        rw [← hcu, hcu2]
        clear hcu hcu2
        rw [hm] at hwz HBX
        go_enter Tryz.func38, Tryz.ntmps38
        go_wp2_with fail
        rw [← hwz]
        clear hwz
        refine (checkKnown_any P.tree _ P.cur _ (HVT.out.below hbz) HS.out).mono ?_
        rintro e w1 ⟨rfl, hb1⟩
        rw [HK.out]
        have x2 := (HBX.out.below hb1).cell 2 rfl
        have x4 := (HBX.out.below hb1).cell 4 rfl
        have hb01 := below_tr hbz hb1
        go_wp2_with fail
        go_ret3
        exact ⟨_, by rw [HE.out]; rfl, by rw [HE.out]; exact lies_nil _, hb01⟩
      | false =>
        have HE := hid (Jn.rst_ok hk (fun h => h.elim h1 (fun h => by rw [hm] at h; cases h)))
        clear hk
        obtain ⟨cu, hcu⟩ : ∃ cu, cu = (if Jn.rstE P = 0 then P.cur else 0) := ⟨_, rfl⟩
        have hcu2 : cu = P.cur := by rw [hcu, HE.out]; rfl
        rw [← hcu, hcu2]
        clear hcu hcu2
        rw [hm] at hwz HBX
        go_enter Tryz.func38, Tryz.ntmps38
        go_wp2_with fail
        rw [← hwz]
        clear hwz
        refine (checkKnown_any P.tree _ P.cur _ (HVT.out.below hbz) HS.out).mono ?_
        rintro e w1 ⟨rfl, hb1⟩
        rw [HK.out]
        have HX1 := hid (HBX.out.below hb1)
        have x1 := HX1.out.cell 1 rfl
        have x2 := HX1.out.cell 2 rfl
        have x3 := HX1.out.cell 3 rfl
        have x4 := HX1.out.cell 4 rfl
        have hb01 := below_tr hbz hb1
        have hl1 := HX1.out.lt
        have HVT1 := hid (HVT.out.below hb01)
        go_wp2_with fail
        go_region_held3 (fun W => W.cell? ⟨w.heap.size, 1, none⟩ = some (.slice a1 P.tree.length b1) ∧ W.cell? ⟨w.heap.size, 3, none⟩ = some (.int .i64 P.cur)) (go_keep) (first
          | (go_at_call 28; refine (cloneE (P.tree.map Pp.cells) _ _ (liesR_en.1 (HVT1.out.below (Below.refl _ _).drew)) (by rw [List.length_map]; omega)).mono ?_; rintro e wa ⟨u, rfl, hR, _, hba⟩; have hza : Below w1.heap.size w1 wa := ((Below.refl _ _).drew).trans hba; have j1 := (hza.cell (p := ⟨w.heap.size, 1, none⟩) hl1).trans x1; have j3 := (hza.cell (p := ⟨w.heap.size, 3, none⟩) hl1).trans x3))
        have HL := hid (liesR_en.2 hR)
        have hb02 := below_tr hb01 hza
        go_wp2_with fail
        go_ret3
        exact ⟨_, by rw [HE.out]; rfl, by rw [HE.out]; exact HL.out, hb02⟩
  · have HE := hid (Jn.rst_kn hk)
    have hz : (Jn.knE P.tree P.cur == 0) = false := by simpa using hk
    obtain ⟨cu, hcu⟩ : ∃ cu, cu = (if Jn.rstE P = 0 then P.cur else 0) := ⟨_, rfl⟩
    have hcu2 : cu = 0 := by rw [hcu, HE.out, if_neg hk]
    rw [← hcu, hcu2]
    clear hcu hcu2
    have HN : Hid (Pp.ifz (Jn.rstE P) P.tree = []) := (by rw [HE.out, Pp.ifz_no hk] : Pp.ifz (Jn.rstE P) P.tree = [])
    go_enter Tryz.func38, Tryz.ntmps38
    go_wp2_with fail
    rw [← hwz]
    clear hwz
    refine (checkKnown_any P.tree _ P.cur _ (HVT.out.below hbz) HS.out).mono ?_
    rintro e w1 ⟨rfl, hb1⟩
    have hb01 := below_tr hbz hb1
    go_wp2_with fail
    go_ret3
    exact ⟨_, by rw [HE.out]; rfl, by rw [HN.out]; exact lies_nil _, hb01⟩
end Go.Proofs.YtagdilnbbepccaaGreat
