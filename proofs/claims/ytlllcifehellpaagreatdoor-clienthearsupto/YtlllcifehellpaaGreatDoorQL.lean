/- What journal.checkKnown, reset, checkOn and Follow answer, for every tree, cursor and page. What journal.checkOn and Follow answer, for every tree, cursor and page. -/
import Derived.Test.YtlllcifehellpaaGreatDoorQK
import Derived.Test.YtlllcifehellpaaGreatDoorPI
import Derived.Test.YtlllcifehellpaaGreatDoorPH
import Derived.Test.YtlllcifehellpaaGreatDoorPV
import Derived.Deep.RegionHeld3
set_option linter.unusedSimpArgs false
set_option linter.unusedVariables false
namespace Go.Proofs.YtlllcifehellpaaGreatDoor
open Go.RowKit

set_option maxRecDepth 100000 in
set_option maxHeartbeats 1000000 in
theorem checkKnown_any (T : List En) (v : Value) (c : Int) (w : World) (hv : Lies w v T) (hs : Sized T) :
    Calls Tryz.prog 50 #[v, .int .i64 c] w fun e w' => e = .returned (.int .i64 (Jn.knE T c)) ∧ Below w.heap.size w w' := by
  have HV := hid hv
  have HS := hid hs
  clear hv hs
  by_cases ht : Pp.treeE T = 0
  · have HT := hid ht
    have HK := hid (Jn.kn_cur (c := c) ht)
    clear ht
    by_cases c1 : c < 0
    · have HE : Hid (Jn.curE c = 3) := (by rw [Jn.curE, if_pos (Or.inl c1)] : Jn.curE c = 3)
      go_enter Tryz.func50, Tryz.ntmps50
      go_wp2_with fail
      refine (tcheck_all T v _ HV.out HS.out).mono ?_
      rintro e w1 ⟨rfl, hb1⟩
      rw [HT.out]
      go_wp2_with fail
      go_ret
      exact ⟨by rw [HK.out, HE.out]; rfl, hb1⟩
    by_cases c2 : 1000000 < c
    · have HE : Hid (Jn.curE c = 3) := (by rw [Jn.curE, if_pos (Or.inr c2)] : Jn.curE c = 3)
      go_enter Tryz.func50, Tryz.ntmps50
      go_wp2_with fail
      refine (tcheck_all T v _ HV.out HS.out).mono ?_
      rintro e w1 ⟨rfl, hb1⟩
      rw [HT.out]
      go_wp2_with fail
      go_ret
      exact ⟨by rw [HK.out, HE.out]; rfl, hb1⟩
    · have HE : Hid (Jn.curE c = 0) := (by rw [Jn.curE, if_neg (by omega)] : Jn.curE c = 0)
      go_enter Tryz.func50, Tryz.ntmps50
      go_wp2_with fail
      refine (tcheck_all T v _ HV.out HS.out).mono ?_
      rintro e w1 ⟨rfl, hb1⟩
      rw [HT.out]
      go_wp2_with fail
      go_ret
      exact ⟨by rw [HK.out, HE.out]; rfl, hb1⟩
  · have HK := hid (Jn.kn_tree (c := c) ht)
    have hz : (Pp.treeE T == 0) = false := by simpa using ht
    go_enter Tryz.func50, Tryz.ntmps50
    go_wp2_with fail
    refine (tcheck_all T v _ HV.out HS.out).mono ?_
    rintro e w1 ⟨rfl, hb1⟩
    go_wp2_with fail
    go_ret
    exact ⟨by rw [HK.out]; rfl, hb1⟩

set_option maxRecDepth 100000 in
set_option maxHeartbeats 2000000 in
theorem reset_any (P : Pg) (v : Value) (w : World) (hv : LiesPg w v P) (hs : Sized P.tree) :
    Calls Tryz.prog 51 #[v] w fun e w' => ∃ r, e = .returned (.tuple #[r, .int .i64 (if Jn.rstE P = 0 then P.cur else 0), .int .i64 (Jn.rstE P)]) ∧ Lies w' r (Pp.ifz (Jn.rstE P) P.tree) ∧ Below w.heap.size w w' := by
  obtain ⟨vt, vc, rfl, hvt, hvc⟩ := hv
  have HVT := hid hvt
  have HS := hid hs
  obtain ⟨a1, b1, rfl, _⟩ := hvt
  obtain ⟨a2, b2, rfl, _⟩ := hvc
  clear hs
  obtain ⟨wz, hwz⟩ : ∃ wz, wz = w.alloc (.cells #[.bool P.reset, .slice a1 P.tree.length b1, .slice a2 P.cos.length b2, .int .i64 P.cur, .bool P.more] 29) := ⟨_, rfl⟩
  have hbz : Below w.heap.size w wz := by rw [hwz]; exact (Below.refl _ _).alloc (Nat.le_refl _) _
  have HBX : Hid (Cs wz w.heap.size [.bool P.reset, .slice a1 P.tree.length b1, .slice a2 P.cos.length b2, .int .i64 P.cur, .bool P.more]) := (by rw [hwz]; exact Cs.new w [.bool P.reset, .slice a1 P.tree.length b1, .slice a2 P.cos.length b2, .int .i64 P.cur, .bool P.more] _ : Cs wz w.heap.size [.bool P.reset, .slice a1 P.tree.length b1, .slice a2 P.cos.length b2, .int .i64 P.cur, .bool P.more])
  have hlz := HBX.out.lt
  by_cases hk : Jn.knE P.tree P.cur = 0
  · have HK := hid hk
    have hg := (Pp.good_iff P.tree).1 (Jn.kn_zero hk).1
    have hlen := hg.len
    clear hg
    by_cases h1 : 0 < P.cos.length
    · have HE := hid (Jn.rst_form hk (Or.inl h1))
      have h1' : 0 < (P.cos.length : Int) := by omega
      clear hk
      obtain ⟨cu, hcu⟩ : ∃ cu, cu = (if Jn.rstE P = 0 then P.cur else 0) := ⟨_, rfl⟩
      have hcu2 : cu = 0 := by rw [hcu, HE.out]; rfl
      rw [← hcu, hcu2]
      clear hcu hcu2
      go_enter Tryz.func51, Tryz.ntmps51
      go_wp2_with fail
      rw [← hwz]
      clear hwz
      refine (checkKnown_any P.tree _ P.cur _ (HVT.out.below hbz) HS.out).mono ?_
      rintro e w1 ⟨rfl, hb1⟩
      rw [HK.out]
      have x2 := (HBX.out.below hb1).cell 2 rfl
      have hb01 := below_tr hbz hb1
      go_wp2_with fail
      go_ret3
      exact ⟨_, by rw [HE.out]; rfl, by rw [HE.out]; exact lies_nil _, hb01⟩
    · have h1' : ¬ 0 < (P.cos.length : Int) := by omega
      cases hm : P.more with
      | true =>
        have HE := hid (Jn.rst_form hk (Or.inr hm))
        clear hk
        obtain ⟨cu, hcu⟩ : ∃ cu, cu = (if Jn.rstE P = 0 then P.cur else 0) := ⟨_, rfl⟩
        have hcu2 : cu = 0 := by rw [hcu, HE.out]; rfl
        rw [← hcu, hcu2]
        clear hcu hcu2
        rw [hm] at hwz HBX
        go_enter Tryz.func51, Tryz.ntmps51
        go_wp2_with fail
        rw [← hwz]
        clear hwz
        refine (checkKnown_any P.tree _ P.cur _ (HVT.out.below hbz) HS.out).mono ?_
        rintro e w1 ⟨rfl, hb1⟩
        rw [HK.out]
        have x2 := (HBX.out.below hb1).cell 2 rfl
        have x4 := (HBX.out.below hb1).cell 4 rfl
        have hb01 := below_tr hbz hb1
        go_wp2_with fail
        go_ret3
        exact ⟨_, by rw [HE.out]; rfl, by rw [HE.out]; exact lies_nil _, hb01⟩
      | false =>
        have HE := hid (Jn.rst_ok hk (fun h => h.elim h1 (fun h => by rw [hm] at h; cases h)))
        clear hk
        obtain ⟨cu, hcu⟩ : ∃ cu, cu = (if Jn.rstE P = 0 then P.cur else 0) := ⟨_, rfl⟩
        have hcu2 : cu = P.cur := by rw [hcu, HE.out]; rfl
        rw [← hcu, hcu2]
        clear hcu hcu2
        rw [hm] at hwz HBX
        go_enter Tryz.func51, Tryz.ntmps51
        go_wp2_with fail
        rw [← hwz]
        clear hwz
        refine (checkKnown_any P.tree _ P.cur _ (HVT.out.below hbz) HS.out).mono ?_
        rintro e w1 ⟨rfl, hb1⟩
        rw [HK.out]
        have HX1 := hid (HBX.out.below hb1)
        have x1 := HX1.out.cell 1 rfl
        have x2 := HX1.out.cell 2 rfl
        have x3 := HX1.out.cell 3 rfl
        have x4 := HX1.out.cell 4 rfl
        have hb01 := below_tr hbz hb1
        have hl1 := HX1.out.lt
        have HVT1 := hid (HVT.out.below hb01)
        go_wp2_with fail
        go_region_held3 (fun W => W.cell? ⟨w.heap.size, 1, none⟩ = some (.slice a1 P.tree.length b1) ∧ W.cell? ⟨w.heap.size, 3, none⟩ = some (.int .i64 P.cur)) (go_keep) (first
          | (go_at_call 49; refine (cloneE (P.tree.map Pp.cells) _ _ (liesR_en.1 (HVT1.out.below (Below.refl _ _).drew)) (by rw [List.length_map]; omega)).mono ?_; rintro e wa ⟨u, rfl, hR, _, hba⟩; have hza : Below w1.heap.size w1 wa := ((Below.refl _ _).drew).trans hba; have j1 := (hza.cell (p := ⟨w.heap.size, 1, none⟩) hl1).trans x1; have j3 := (hza.cell (p := ⟨w.heap.size, 3, none⟩) hl1).trans x3))
        have HL := hid (liesR_en.2 hR)
        have hb02 := below_tr hb01 hza
        go_wp2_with fail
        go_ret3
        exact ⟨_, by rw [HE.out]; rfl, by rw [HE.out]; exact HL.out, hb02⟩
  · have HE := hid (Jn.rst_kn hk)
    have hz : (Jn.knE P.tree P.cur == 0) = false := by simpa using hk
    obtain ⟨cu, hcu⟩ : ∃ cu, cu = (if Jn.rstE P = 0 then P.cur else 0) := ⟨_, rfl⟩
    have hcu2 : cu = 0 := by rw [hcu, HE.out, if_neg hk]
    rw [← hcu, hcu2]
    clear hcu hcu2
    have HN : Hid (Pp.ifz (Jn.rstE P) P.tree = []) := (by rw [HE.out, Pp.ifz_no hk] : Pp.ifz (Jn.rstE P) P.tree = [])
    go_enter Tryz.func51, Tryz.ntmps51
    go_wp2_with fail
    rw [← hwz]
    clear hwz
    refine (checkKnown_any P.tree _ P.cur _ (HVT.out.below hbz) HS.out).mono ?_
    rintro e w1 ⟨rfl, hb1⟩
    have hb01 := below_tr hbz hb1
    go_wp2_with fail
    go_ret3
    exact ⟨_, by rw [HE.out]; rfl, by rw [HN.out]; exact lies_nil _, hb01⟩
end Go.Proofs.YtlllcifehellpaaGreatDoor
set_option linter.unusedSimpArgs false
set_option linter.unusedVariables false
namespace Go.Proofs.YtlllcifehellpaaGreatDoor
open Go.RowKit

set_option maxRecDepth 100000 in
set_option maxHeartbeats 2000000 in
theorem checkOn_any (P : Pg) (v : Value) (c : Int) (w : World) (hv : LiesPg w v P) (h1 : 0 ≤ c) (h2 : c ≤ 1000000) :
    Calls Tryz.prog 52 #[v, .int .i64 c] w fun e w' => e = .returned (.int .i64 (Jn.onE P c)) ∧ Below w.heap.size w w' := by
  obtain ⟨vt, vc, rfl, hvt, hvc⟩ := hv
  obtain ⟨a1, b1, rfl, _⟩ := hvt
  obtain ⟨a2, b2, rfl, hcap, hcap2, hat⟩ := hvc
  have HC : Hid (∀ i (h : i < P.cos.length), ∃ b o, a2 = some ⟨b, o, none⟩ ∧ b < w.heap.size ∧ CoAt w b (o + i * 3) P.cos[i]) := hat
  clear hat
  obtain ⟨wz, hwz⟩ : ∃ wz, wz = w.alloc (.cells #[.bool P.reset, .slice a1 P.tree.length b1, .slice a2 P.cos.length b2, .int .i64 P.cur, .bool P.more] 29) := ⟨_, rfl⟩
  have hbz : Below w.heap.size w wz := by rw [hwz]; exact (Below.refl _ _).alloc (Nat.le_refl _) _
  have HBX : Hid (Cs wz w.heap.size [.bool P.reset, .slice a1 P.tree.length b1, .slice a2 P.cos.length b2, .int .i64 P.cur, .bool P.more]) := (by rw [hwz]; exact Cs.new w [.bool P.reset, .slice a1 P.tree.length b1, .slice a2 P.cos.length b2, .int .i64 P.cur, .bool P.more] _ : Cs wz w.heap.size [.bool P.reset, .slice a1 P.tree.length b1, .slice a2 P.cos.length b2, .int .i64 P.cur, .bool P.more])
  have hlz := HBX.out.lt
  by_cases t0 : P.tree = []
  · have t1 : ¬ 0 < (P.tree.length : Int) := by rw [t0]; simp
    by_cases t2 : 10 < P.cos.length
    · have HE := hid (Jn.on_many (c := c) t0 t2)
      have t2' : 10 < (P.cos.length : Int) := by omega
      clear t0
      go_enter Tryz.func52, Tryz.ntmps52
      go_wp2_with fail
      rw [← hwz]
      go_ret
      exact ⟨by rw [HE.out]; rfl, hbz⟩
    · have t2' : ¬ 10 < (P.cos.length : Int) := by omega
      have HBAD : Hid (Jn.numsB c P.cos = false → Jn.onE P c = 4) := (fun h => Jn.on_nums t0 t2 h : Jn.numsB c P.cos = false → Jn.onE P c = 4)
      have HCU : Hid (Jn.numsB c P.cos = true → ¬ P.cur = c + P.cos.length → Jn.onE P c = 4) := (fun h h3 => Jn.on_cur t0 t2 h h3 : Jn.numsB c P.cos = true → ¬ P.cur = c + P.cos.length → Jn.onE P c = 4)
      have HOK : Hid (Jn.numsB c P.cos = true → P.cur = c + P.cos.length → Jn.onE P c = 0) := (fun h h3 => Jn.on_ok t0 t2 h h3 : Jn.numsB c P.cos = true → P.cur = c + P.cos.length → Jn.onE P c = 0)
      clear t0
      go_enter Tryz.func52, Tryz.ntmps52
      go_wp2_with fail
      rw [← hwz]
      clear hwz
      go_loopw [1, 18] (fun x i wr => ∃ k : Nat, k ≤ P.cos.length ∧ i = .int .i64 k ∧ x = .int .i64 (c + k) ∧ Hid (Jn.NumsAt c P.cos k) ∧ Below wz.heap.size wz wr) (fun _ i _ => P.cos.length - (intOf i).toNat)
      case atStart => exact ⟨0, Nat.zero_le _, rfl, by simp, Jn.nums_zero c P.cos, Below.refl _ _⟩
      case round =>
        obtain ⟨k, hk, rfl, rfl, HN, hbel⟩ := hrel
        have hb0 := below_tr hbz hbel
        by_cases hlt : k < P.cos.length
        · obtain ⟨b, o, rfl, hb, he⟩ := HC.out k hlt
          obtain ⟨c0, c1, u, c2, hu⟩ := he.below hb hb0
          have HNX : Hid (P.cos[k].nu = c + k + 1 → Jn.NumsAt c P.cos (k + 1)) := (fun h => Jn.nums_next HN.out hlt h : P.cos[k].nu = c + k + 1 → Jn.NumsAt c P.cos (k + 1))
          have HNB : Hid (¬ P.cos[k].nu = c + k + 1 → Jn.onE P c = 4) := (fun h => HBAD.out (Jn.nums_bad HN.out hlt h) : ¬ P.cos[k].nu = c + k + 1 → Jn.onE P c = 4)
          clear he
          generalize P.cos[k] = ck at *
          obtain ⟨nu, ke, ch⟩ := ck
          simp only at c0 c1 c2 hu
          obtain ⟨ua, ucap, rfl, _⟩ := hu
          have e1 : IntKind.i64.wrap (c + (k : Int) + 1) = c + k + 1 := by rw [IntKind.wrap_i64]; omega
          have hby : Below wr.heap.size wr (wr.alloc (.cells #[.int .i64 nu, .string ke, .slice ua ch.length ucap] 68)) := (Below.refl _ _).alloc (Nat.le_refl _) _
          have hb2 := below_tr hbel hby
          have hb02 := below_tr hb0 hby
          by_cases hnu : nu = c + k + 1
          · have HN2 := hid (HNX.out hnu)
            subst hnu
            clear HNX HNB
            go_wp2_with fail
            go_roundw
            case rel => exact ⟨k + 1, by omega, by simp, by simp; omega, HN2, hb2⟩
            case measure => simp [intOf]; omega
          · have HE := hid (HNB.out hnu)
            have hz : (nu == c + k + 1) = false := by simpa using hnu
            clear HNX HNB hnu
            go_wp2_with fail
            go_ret
            exact ⟨by rw [HE.out]; rfl, hb02⟩
        · obtain rfl : k = P.cos.length := by omega
          have hnb := Jn.nums_end HN.out
          have x3 := (HBX.out.below hbel).cell 3 rfl
          by_cases hcu : P.cur = c + P.cos.length
          · have HE := hid (HOK.out hnb hcu)
            have hz : (P.cur == c + (P.cos.length : Int)) = true := by simpa using hcu
            clear hcu hnb
            go_wp2_with fail
            go_ret
            exact ⟨by rw [HE.out]; rfl, hb0⟩
          · have HE := hid (HCU.out hnb hcu)
            have hz : (P.cur == c + (P.cos.length : Int)) = false := by simpa using hcu
            clear hcu hnb
            go_wp2_with fail
            go_ret
            exact ⟨by rw [HE.out]; rfl, hb0⟩
  · have HE := hid (Jn.on_tree (c := c) t0)
    have t1 : 0 < (P.tree.length : Int) := by have := List.length_pos_iff.2 t0; omega
    clear t0
    go_enter Tryz.func52, Tryz.ntmps52
    go_wp2_with fail
    rw [← hwz]
    go_ret
    exact ⟨by rw [HE.out]; rfl, hbz⟩

set_option maxRecDepth 100000 in
set_option maxHeartbeats 4000000 in
theorem follow_any (T : List En) (v : Value) (c : Int) (P : Pg) (vp : Value) (w : World) (hv : Lies w v T) (hs : Sized T) (hp : LiesPg w vp P) (hps : Sized P.tree) (hpc : SizedO 150000000000000 P.cos) :
    Calls Tryz.prog 24 #[v, .int .i64 c, vp] w fun e w' => ∃ r, e = .returned (.tuple #[r, .int .i64 (Jn.folN T c P), .int .i64 (Jn.folE T c P)]) ∧ Lies w' r (Jn.folR T c P) ∧ Below w.heap.size w w' := by
  have HV := hid hv
  have HS := hid hs
  have HPP := hid hp
  have HPS := hid hps
  have HPC := hid hpc
  obtain ⟨vt, vc, rfl, hvt, hvc⟩ := hp
  obtain ⟨a1, b1, rfl, _⟩ := hvt
  obtain ⟨a2, b2, rfl, hcap, hcap2, hat⟩ := hvc
  have HC : Hid (∀ i (h : i < P.cos.length), ∃ b o, a2 = some ⟨b, o, none⟩ ∧ b < w.heap.size ∧ CoAt w b (o + i * 3) P.cos[i]) := hat
  clear hat hs hps hpc
  obtain ⟨va, vcap, rfl, _⟩ := hv
  obtain ⟨wz, hwz⟩ : ∃ wz, wz = w.alloc (.cells #[.bool P.reset, .slice a1 P.tree.length b1, .slice a2 P.cos.length b2, .int .i64 P.cur, .bool P.more] 29) := ⟨_, rfl⟩
  have hbz : Below w.heap.size w wz := by rw [hwz]; exact (Below.refl _ _).alloc (Nat.le_refl _) _
  have HBX : Hid (Cs wz w.heap.size [.bool P.reset, .slice a1 P.tree.length b1, .slice a2 P.cos.length b2, .int .i64 P.cur, .bool P.more]) := (by rw [hwz]; exact Cs.new w [.bool P.reset, .slice a1 P.tree.length b1, .slice a2 P.cos.length b2, .int .i64 P.cur, .bool P.more] _ : Cs wz w.heap.size [.bool P.reset, .slice a1 P.tree.length b1, .slice a2 P.cos.length b2, .int .i64 P.cur, .bool P.more])
  have hlz := HBX.out.lt
  by_cases hk : Jn.knE T c = 0
  · have HK := hid hk
    obtain ⟨htr, k1, k2⟩ := Jn.kn_zero hk
    have hG := (Pp.good_iff T).1 htr
    have HG := hid hG
    have hlen := hG.len
    clear htr hG
    cases hr : P.reset with
    | true =>
      have hE := Jn.fol_reset hk hr
      have HE := hid hE
      have HRN : Hid (Jn.folN T c P = (if Jn.rstE P = 0 then P.cur else 0) ∧ Jn.folR T c P = Pp.ifz (Jn.rstE P) P.tree) := (by
        by_cases h0 : Jn.rstE P = 0
        · have := Jn.fol_okR (hE.trans h0) hr
          rw [this.1, this.2, if_pos h0, Pp.ifz_yes h0]; exact ⟨rfl, rfl⟩
        · have := Jn.fol_bad hE h0
          rw [this.1, this.2, if_neg h0, Pp.ifz_no h0]; exact ⟨rfl, rfl⟩ : Jn.folN T c P = (if Jn.rstE P = 0 then P.cur else 0) ∧ Jn.folR T c P = Pp.ifz (Jn.rstE P) P.tree)
      rw [HRN.out.1, HRN.out.2, HE.out]
      rw [hr] at hwz HBX HPP
      obtain ⟨cu, hcu⟩ : ∃ cu, cu = (if Jn.rstE P = 0 then P.cur else 0) := ⟨_, rfl⟩
      rw [← hcu]
      have HCUE := hid hcu
      clear hcu hE hk HRN HE
      go_enter Tryz.func24, Tryz.ntmps24
      go_wp2_with fail
      rw [← hwz]
      clear hwz
      refine (checkKnown_any T _ c _ (HV.out.below hbz) HS.out).mono ?_
      rintro e w1 ⟨rfl, hb1⟩
      rw [HK.out]
      have HX1 := hid (HBX.out.below hb1)
      have x0 := HX1.out.cell 0 rfl
      have x1 := HX1.out.cell 1 rfl
      have x2 := HX1.out.cell 2 rfl
      have x3 := HX1.out.cell 3 rfl
      have x4 := HX1.out.cell 4 rfl
      have hb01 := below_tr hbz hb1
      have HPP1 : Hid (LiesPg w1 (.agg #[.bool true, .slice a1 P.tree.length b1, .slice a2 P.cos.length b2, .int .i64 P.cur, .bool P.more]) P) := (HPP.out.below hb01 : LiesPg w1 (.agg #[.bool true, .slice a1 P.tree.length b1, .slice a2 P.cos.length b2, .int .i64 P.cur, .bool P.more]) P)
      go_wp2_with fail
      refine (reset_any P _ _ HPP1.out HPS.out).mono ?_
      rintro e w2 ⟨r, rfl, hli, hb2⟩
      rw [← HCUE.out]
      have HLI := hid hli
      have hb02 := below_tr hb01 hb2
      clear hli
      go_wp2_with fail
      go_ret3
      exact ⟨_, rfl, HLI.out, hb02⟩
    | false =>
      have HPPF : Hid (LiesPg w (.agg #[.bool false, .slice a1 P.tree.length b1, .slice a2 P.cos.length b2, .int .i64 P.cur, .bool P.more]) P) := (by have := HPP.out; rw [hr] at this; exact this : LiesPg w (.agg #[.bool false, .slice a1 P.tree.length b1, .slice a2 P.cos.length b2, .int .i64 P.cur, .bool P.more]) P)
      rw [hr] at hwz HBX
      by_cases ho : Jn.onE P c = 0
      · have HO := hid ho
        have hE := Jn.fol_run hk hr ho
        have HEE := hid hE
        have HST : Hid (∀ e, Jn.folF T P.cos = (e, []) → ¬ e = 0 → Jn.folE T c P = e ∧ Jn.folR T c P = [] ∧ Jn.folN T c P = 0) := (fun e h he => by
          have h2 : Jn.folE T c P = e := by rw [hE, h]
          exact ⟨h2, (Jn.fol_bad h2 he).1, (Jn.fol_bad h2 he).2⟩ : ∀ e, Jn.folF T P.cos = (e, []) → ¬ e = 0 → Jn.folE T c P = e ∧ Jn.folR T c P = [] ∧ Jn.folN T c P = 0)
        have HEN : Hid (∀ S, Jn.folF T P.cos = (0, S) → Jn.folE T c P = 0 ∧ Jn.folR T c P = S ∧ Jn.folN T c P = P.cur) := (fun S h => by
          have h2 : Jn.folE T c P = 0 := by rw [hE, h]
          have h3 := Jn.fol_okF h2 hr
          exact ⟨h2, by rw [h3.1, h], h3.2⟩ : ∀ S, Jn.folF T P.cos = (0, S) → Jn.folE T c P = 0 ∧ Jn.folR T c P = S ∧ Jn.folN T c P = P.cur)
        clear hE hk ho HEE
        go_enter Tryz.func24, Tryz.ntmps24
        go_wp2_with fail
        rw [← hwz]
        clear hwz
        refine (checkKnown_any T _ c _ (HV.out.below hbz) HS.out).mono ?_
        rintro e w1 ⟨rfl, hb1⟩
        rw [HK.out]
        have HX1 := hid (HBX.out.below hb1)
        have x0 := HX1.out.cell 0 rfl
        have x1 := HX1.out.cell 1 rfl
        have x2 := HX1.out.cell 2 rfl
        have x3 := HX1.out.cell 3 rfl
        have x4 := HX1.out.cell 4 rfl
        have hb01 := below_tr hbz hb1
        go_wp2_with fail
        refine (checkOn_any P _ c _ (HPPF.out.below hb01) k1 k2).mono ?_
        rintro e w2 ⟨rfl, hb2⟩
        rw [HO.out]
        have hb02 := below_tr hb01 hb2
        have HX2 := hid (HX1.out.below hb2)
        clear x0 x1 x2 x3 x4
        go_wp2_with fail
        refine (cloneE (T.map Pp.cells) _ _ (liesR_en.1 (HV.out.below hb02)) (by rw [List.length_map]; omega)).mono ?_
        rintro e w3 ⟨u, rfl, hR, _, hb3⟩
        have HU3 := hid (liesR_en.2 hR)
        have HX3 := hid (HX2.out.below hb3)
        have x2 := HX3.out.cell 2 rfl
        have hb03 := below_tr hb02 hb3
        clear hR
        go_wp2_with fail
        go_loopw [11, 39] (fun x i wr => ∃ (k : Nat) (S : List En), k ≤ P.cos.length ∧ i = .int .i64 k ∧ Hid (Lies wr x S) ∧ Hid (Pp.Good S) ∧ Hid (Jn.LeftF T P.cos S k) ∧ Hid (Cs wr w.heap.size [.bool false, .slice a1 P.tree.length b1, .slice a2 P.cos.length b2, .int .i64 P.cur, .bool P.more]) ∧ Below w.heap.size w wr) (fun _ i _ => P.cos.length - (intOf i).toNat)
        case atStart => exact ⟨0, T, Nat.zero_le _, rfl, HU3, HG, Jn.leftF_zero T P.cos, HX3, hb03⟩
        case round =>
          obtain ⟨k, S, hk, rfl, HX, HGS, HLF, HXr, hbel⟩ := hrel
          clear HU3 HX3 hb03 x2
          by_cases hlt : k < P.cos.length
          · obtain ⟨b, o, rfl, hb, he⟩ := HC.out k hlt
            obtain ⟨c0, c1, y, c2, hy⟩ := he.below hb hbel
            have HZ := hid (HPC.out P.cos[k] (List.getElem_mem hlt))
            have HNX : Hid (Pp.allE S P.cos[k].ch P.cos[k].nu = 0 → Jn.LeftF T P.cos (Pp.allR S P.cos[k].ch P.cos[k].nu) (k + 1)) := (fun h0 => Jn.leftF_next HLF.out hlt h0 : Pp.allE S P.cos[k].ch P.cos[k].nu = 0 → Jn.LeftF T P.cos (Pp.allR S P.cos[k].ch P.cos[k].nu) (k + 1))
            have HSP : Hid (¬ Pp.allE S P.cos[k].ch P.cos[k].nu = 0 → Jn.folF T P.cos = (Pp.allE S P.cos[k].ch P.cos[k].nu, [])) := (fun h0 => Jn.leftF_stop HLF.out hlt h0 : ¬ Pp.allE S P.cos[k].ch P.cos[k].nu = 0 → Jn.folF T P.cos = (Pp.allE S P.cos[k].ch P.cos[k].nu, []))
            clear he
            generalize P.cos[k] = ck at *
            obtain ⟨nu, ke, ch⟩ := ck
            simp only at c0 c1 c2 hy
            have HY := hid hy
            obtain ⟨ua, ucap, rfl, _⟩ := hy
            have hby : Below wr.heap.size wr (wr.alloc (.cells #[.int .i64 nu, .string ke, .slice ua ch.length ucap] 68)) := (Below.refl _ _).alloc (Nat.le_refl _) _
            have hb2 := below_tr hbel hby
            go_wp2_with fail
            refine (tall_any S _ ch _ nu _ (HX.out.below hby) (Pp.good_sized HGS.out) (HY.out.below hby) HZ.out.2).mono ?_
            rintro e w4 ⟨r, rfl, hli, hb4⟩
            have HLI := hid hli
            have hbr4 := below_tr hby hb4
            have hb04 := below_tr hbel hbr4
            have HX4 := hid (HXr.out.below hbr4)
            clear hli hb4
            by_cases h0 : Pp.allE S ch nu = 0
            · have HN := hid (HNX.out h0)
              have HG4 := hid (Jn.all_good h0)
              rw [h0]
              clear h0 HNX HSP
              go_wp2_with fail
              go_roundw
              case rel => exact ⟨k + 1, _, by omega, by simp, HLI, HG4, HN, HX4, hb04⟩
              case measure => simp [intOf]; omega
            · obtain ⟨q1, q2, q3⟩ := HST.out _ (HSP.out h0) h0
              have HQ1 := hid q1
              have HQ2 := hid q2
              have HQ3 := hid q3
              have hz : (Pp.allE S ch nu == 0) = false := by simpa using h0
              clear q1 q2 q3 h0 HNX HSP
              go_wp2_with fail
              go_ret3
              exact ⟨_, by rw [HQ1.out, HQ3.out]; rfl, by rw [HQ2.out]; exact lies_nil _, hb04⟩
          · obtain rfl : k = P.cos.length := by omega
            obtain ⟨q1, q2, q3⟩ := HEN.out _ (Jn.leftF_end HLF.out)
            have HQ1 := hid q1
            have HQ2 := hid q2
            have HQ3 := hid q3
            have x3 := HXr.out.cell 3 rfl
            clear q1 q2 q3
            have HXD := hid (HX.out.below (Below.refl _ _).drew)
            have hbd := below_tr hbel (Below.refl _ _).drew
            go_wp2_with fail
            go_region
            go_wp2_with fail
            go_ret3
            exact ⟨_, by rw [HQ1.out, HQ3.out]; rfl, by rw [HQ2.out]; exact HXD.out, hbd⟩
      · have HE := hid (Jn.fol_on hk hr ho)
        obtain ⟨q2, q3⟩ := Jn.fol_bad HE.out ho
        have HQ2 := hid q2
        have HQ3 := hid q3
        have hz : (Jn.onE P c == 0) = false := by simpa using ho
        clear hk ho q2 q3
        go_enter Tryz.func24, Tryz.ntmps24
        go_wp2_with fail
        rw [← hwz]
        clear hwz
        refine (checkKnown_any T _ c _ (HV.out.below hbz) HS.out).mono ?_
        rintro e w1 ⟨rfl, hb1⟩
        rw [HK.out]
        have HX1 := hid (HBX.out.below hb1)
        have x0 := HX1.out.cell 0 rfl
        have x1 := HX1.out.cell 1 rfl
        have x2 := HX1.out.cell 2 rfl
        have x3 := HX1.out.cell 3 rfl
        have x4 := HX1.out.cell 4 rfl
        have hb01 := below_tr hbz hb1
        go_wp2_with fail
        refine (checkOn_any P _ c _ (HPPF.out.below hb01) k1 k2).mono ?_
        rintro e w2 ⟨rfl, hb2⟩
        have hb02 := below_tr hb01 hb2
        go_wp2_with fail
        go_ret3
        exact ⟨_, by rw [HE.out, HQ3.out]; rfl, by rw [HQ2.out]; exact lies_nil _, hb02⟩
  · have HE := hid (Jn.fol_kn (P := P) hk)
    obtain ⟨q2, q3⟩ := Jn.fol_bad HE.out hk
    have HQ2 := hid q2
    have HQ3 := hid q3
    have hz : (Jn.knE T c == 0) = false := by simpa using hk
    clear hk q2 q3
    go_enter Tryz.func24, Tryz.ntmps24
    go_wp2_with fail
    rw [← hwz]
    clear hwz
    refine (checkKnown_any T _ c _ (HV.out.below hbz) HS.out).mono ?_
    rintro e w1 ⟨rfl, hb1⟩
    have hb01 := below_tr hbz hb1
    go_wp2_with fail
    go_ret3
    exact ⟨_, by rw [HE.out, HQ3.out]; rfl, by rw [HQ2.out]; exact lies_nil _, hb01⟩
end Go.Proofs.YtlllcifehellpaaGreatDoor
