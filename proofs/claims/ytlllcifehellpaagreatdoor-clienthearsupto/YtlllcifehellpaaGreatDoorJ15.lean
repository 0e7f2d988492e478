/- What the reference's IsCursor and FollowOf answer; the law JournalFollows. -/
import Derived.Test.YtlllcifehellpaaGreatDoorQL
import Derived.Test.YtlllcifehellpaaGreatDoorPT
import Derived.Test.YtlllcifehellpaaGreatDoorT13
import Derived.Test.YtlllcifehellpaaGreatDoorPV
set_option linter.unusedSimpArgs false
set_option linter.unusedVariables false
namespace Go.Proofs.YtlllcifehellpaaGreatDoor
open Go.RowKit

set_option maxHeartbeats 400000 in
theorem isCursorJ_any (n : Int) (w : World) : Calls Tryz.prog 15 #[.int .i64 n] w fun e w' => e = .returned (.bool (Jn.curE n == 0)) ∧ w' = w := by
  by_cases h1 : 0 ≤ n
  · by_cases h2 : n ≤ 1000000
    · have HE : Hid (true = (Jn.curE n == 0)) := (by rw [Jn.curE, if_neg (by omega)]; rfl : true = (Jn.curE n == 0))
      go_enter Tryz.func15, Tryz.ntmps15
      go_wp2
      go_ret
      exact ⟨Pp.retB HE.out, rfl⟩
    · have HE : Hid (false = (Jn.curE n == 0)) := (by rw [Jn.curE, if_pos (by omega)]; rfl : false = (Jn.curE n == 0))
      go_enter Tryz.func15, Tryz.ntmps15
      go_wp2
      go_ret
      exact ⟨Pp.retB HE.out, rfl⟩
  · have HE : Hid (false = (Jn.curE n == 0)) := (by rw [Jn.curE, if_pos (by omega)]; rfl : false = (Jn.curE n == 0))
    go_enter Tryz.func15, Tryz.ntmps15
    go_wp2
    go_ret
    exact ⟨Pp.retB HE.out, rfl⟩

namespace Jn
theorem cur_cases (c : Int) : curE c = 0 ∨ curE c = 3 := by
  unfold curE
  split
  · exact Or.inr rfl
  · exact Or.inl rfl
end Jn

set_option maxRecDepth 100000 in
set_option maxHeartbeats 4000000 in
theorem followOf_any (T : List En) (v : Value) (c : Int) (P : Pg) (vp : Value) (w : World) (hv : Lies w v T) (hs : ∀ e ∈ T, e.path.size ≤ 1000000000) (hp : LiesPg w vp P) (hps : ∀ e ∈ P.tree, e.path.size ≤ 1000000000) (hpc : SizedO 1000000000 P.cos) :
    Calls Tryz.prog 16 #[v, .int .i64 c, vp] w fun e w' => ∃ r, e = .returned (.tuple #[r, .int .i64 (Jn.folN T c P), .int .i64 (Jn.folE T c P)]) ∧ (Jn.folE T c P = 0 → Lies w' r (Jn.folR T c P)) ∧ Below w.heap.size w w' := by
  have HV := hid hv
  have HS := hid hs
  have HPS := hid hps
  have HPC := hid hpc
  obtain ⟨vt, vc, rfl, hvt, hvc⟩ := hp
  have HVT := hid hvt
  obtain ⟨a1, b1, rfl, _⟩ := hvt
  obtain ⟨a2, b2, rfl, hcap, hcap2, hat⟩ := hvc
  have HC : Hid (∀ i (h : i < P.cos.length), ∃ b o, a2 = some ⟨b, o, none⟩ ∧ b < w.heap.size ∧ CoAt w b (o + i * 3) P.cos[i]) := hat
  clear hat hs hps hpc
  obtain ⟨va, vcap, rfl, _⟩ := hv
  obtain ⟨wz, hwz⟩ : ∃ wz, wz = w.alloc (.cells #[.bool P.reset, .slice a1 P.tree.length b1, .slice a2 P.cos.length b2, .int .i64 P.cur, .bool P.more] 29) := ⟨_, rfl⟩
  have hbz : Below w.heap.size w wz := by rw [hwz]; exact (Below.refl _ _).alloc (Nat.le_refl _) _
  have HBX : Hid (Cs wz w.heap.size [.bool P.reset, .slice a1 P.tree.length b1, .slice a2 P.cos.length b2, .int .i64 P.cur, .bool P.more]) := (by rw [hwz]; exact Cs.new w [.bool P.reset, .slice a1 P.tree.length b1, .slice a2 P.cos.length b2, .int .i64 P.cur, .bool P.more] _ : Cs wz w.heap.size [.bool P.reset, .slice a1 P.tree.length b1, .slice a2 P.cos.length b2, .int .i64 P.cur, .bool P.more])
  have hlz := HBX.out.lt
  by_cases ht : Pp.treeE T = 0
  · have HT := hid ht
    have HG := hid ((Pp.good_iff T).1 ht)
    rcases Jn.cur_cases c with hc | hc
    · have hk : Jn.knE T c = 0 := (Jn.kn_cur ht).trans hc
      obtain ⟨_, k1, k2⟩ := Jn.kn_zero hk
      have HCE := hid hc
      clear ht hc
      cases hr : P.reset with
      | true =>
        have hE := Jn.fol_reset hk hr
        rw [hr] at hwz HBX
        by_cases hkp : Pp.treeE P.tree = 0
        · have HKP := hid hkp
          rcases Jn.cur_cases P.cur with hcp | hcp
          · have hkn : Jn.knE P.tree P.cur = 0 := (Jn.kn_cur hkp).trans hcp
            have HCP := hid hcp
            by_cases h1 : 0 < P.cos.length
            · have h1' : 0 < (P.cos.length : Int) := by omega
              have HE := hid (hE.trans (Jn.rst_form hkn (Or.inl h1)))
              have HNZ : Hid (¬ (1 : Int) = 0) := (by decide : ¬ (1 : Int) = 0)
              have HN := hid (Jn.fol_bad HE.out HNZ.out).2
              clear hE hkn hkp hcp hk
              go_enter Tryz.func16, Tryz.ntmps16
              go_wp2_with fail
              rw [← hwz]
              clear hwz
              refine (rCheckTree_any T _ _ (HV.out.below hbz) HS.out).mono ?_
              rintro e w1 ⟨rfl, hb1⟩
              rw [HT.out]
              go_wp2_with fail
              refine (isCursorJ_any c _).mono ?_
              rintro e w2 ⟨rfl, hw⟩
              rw [hw, HCE.out]
              clear hw w2
              have HX1 := hid (HBX.out.below hb1)
              have x0 := HX1.out.cell 0 rfl
              have x1 := HX1.out.cell 1 rfl
              have x2 := HX1.out.cell 2 rfl
              have hb01 := below_tr hbz hb1
              go_wp2_with fail
              refine (rCheckTree_any P.tree _ _ (HVT.out.below hb01) HPS.out).mono ?_
              rintro e w2 ⟨rfl, hb2⟩
              have HX2 := hid (HX1.out.below hb2)
              have hb02 := below_tr hb01 hb2
              clear x0 x1 x2
              rw [HKP.out]
              have x1 := HX2.out.cell 1 rfl
              have x2 := HX2.out.cell 2 rfl
              have x3 := HX2.out.cell 3 rfl
              have x4 := HX2.out.cell 4 rfl
              go_wp2_with fail
              refine (isCursorJ_any P.cur _).mono ?_
              rintro e w3 ⟨rfl, hw⟩
              rw [hw, HCP.out]
              clear hw w3
              go_wp2_with fail
              go_ret3
              exact ⟨_, by rw [HE.out, HN.out]; rfl, (fun h => by rw [HE.out] at h; exact absurd h HNZ.out), hb02⟩
            · have h1' : ¬ 0 < (P.cos.length : Int) := by omega
              cases hm : P.more with
              | true =>
                have HE := hid (hE.trans (Jn.rst_form hkn (Or.inr hm)))
                have HNZ : Hid (¬ (1 : Int) = 0) := (by decide : ¬ (1 : Int) = 0)
                have HN := hid (Jn.fol_bad HE.out HNZ.out).2
                rw [hm] at hwz HBX
                clear hE hkn hkp hcp hk
                go_enter Tryz.func16, Tryz.ntmps16
                go_wp2_with fail
                rw [← hwz]
                clear hwz
                refine (rCheckTree_any T _ _ (HV.out.below hbz) HS.out).mono ?_
                rintro e w1 ⟨rfl, hb1⟩
                rw [HT.out]
                go_wp2_with fail
                refine (isCursorJ_any c _).mono ?_
                rintro e w2 ⟨rfl, hw⟩
                rw [hw, HCE.out]
                clear hw w2
                have HX1 := hid (HBX.out.below hb1)
                have x0 := HX1.out.cell 0 rfl
                have x1 := HX1.out.cell 1 rfl
                have x2 := HX1.out.cell 2 rfl
                have hb01 := below_tr hbz hb1
                go_wp2_with fail
                refine (rCheckTree_any P.tree _ _ (HVT.out.below hb01) HPS.out).mono ?_
                rintro e w2 ⟨rfl, hb2⟩
                have HX2 := hid (HX1.out.below hb2)
                have hb02 := below_tr hb01 hb2
                clear x0 x1 x2
                rw [HKP.out]
                have x1 := HX2.out.cell 1 rfl
                have x2 := HX2.out.cell 2 rfl
                have x3 := HX2.out.cell 3 rfl
                have x4 := HX2.out.cell 4 rfl
                go_wp2_with fail
                refine (isCursorJ_any P.cur _).mono ?_
                rintro e w3 ⟨rfl, hw⟩
                rw [hw, HCP.out]
                clear hw w3
                go_wp2_with fail
                go_ret3
                exact ⟨_, by rw [HE.out, HN.out]; rfl, (fun h => by rw [HE.out] at h; exact absurd h HNZ.out), hb02⟩
              | false =>
                have HE := hid (hE.trans (Jn.rst_ok hkn (fun h => h.elim h1 (fun h => by rw [hm] at h; cases h))))
                have HRN := hid (Jn.fol_okR HE.out hr)
                rw [hm] at hwz HBX
                clear hE hkn hkp hcp hk
                go_enter Tryz.func16, Tryz.ntmps16
                go_wp2_with fail
                rw [← hwz]
                clear hwz
                refine (rCheckTree_any T _ _ (HV.out.below hbz) HS.out).mono ?_
                rintro e w1 ⟨rfl, hb1⟩
                rw [HT.out]
                go_wp2_with fail
                refine (isCursorJ_any c _).mono ?_
                rintro e w2 ⟨rfl, hw⟩
                rw [hw, HCE.out]
                clear hw w2
                have HX1 := hid (HBX.out.below hb1)
                have x0 := HX1.out.cell 0 rfl
                have x1 := HX1.out.cell 1 rfl
                have x2 := HX1.out.cell 2 rfl
                have hb01 := below_tr hbz hb1
                go_wp2_with fail
                refine (rCheckTree_any P.tree _ _ (HVT.out.below hb01) HPS.out).mono ?_
                rintro e w2 ⟨rfl, hb2⟩
                have HX2 := hid (HX1.out.below hb2)
                have hb02 := below_tr hb01 hb2
                clear x0 x1 x2
                rw [HKP.out]
                have x1 := HX2.out.cell 1 rfl
                have x2 := HX2.out.cell 2 rfl
                have x3 := HX2.out.cell 3 rfl
                have x4 := HX2.out.cell 4 rfl
                go_wp2_with fail
                refine (isCursorJ_any P.cur _).mono ?_
                rintro e w3 ⟨rfl, hw⟩
                rw [hw, HCP.out]
                clear hw w3
                have HTD := hid ((HVT.out.below hb02).below (Below.refl _ _).drew)
                have hbd := below_tr hb02 (Below.refl _ _).drew
                go_wp2_with fail
                go_region
                go_wp2_with fail
                go_ret3
                exact ⟨_, by rw [HE.out, HRN.out.2]; rfl, fun _ => by rw [HRN.out.1]; exact HTD.out, hbd⟩
          · have hkn : Jn.knE P.tree P.cur = 3 := (Jn.kn_cur hkp).trans hcp
            have HCP : Hid (Jn.curE P.cur = 3) := hcp
            have HE := hid (hE.trans ((Jn.rst_kn (by rw [hkn]; decide)).trans hkn))
            have HNZ : Hid (¬ (3 : Int) = 0) := (by decide : ¬ (3 : Int) = 0)
            have HN := hid (Jn.fol_bad HE.out HNZ.out).2
            clear hE hkn hkp hcp hk
            go_enter Tryz.func16, Tryz.ntmps16
            go_wp2_with fail
            rw [← hwz]
            clear hwz
            refine (rCheckTree_any T _ _ (HV.out.below hbz) HS.out).mono ?_
            rintro e w1 ⟨rfl, hb1⟩
            rw [HT.out]
            go_wp2_with fail
            refine (isCursorJ_any c _).mono ?_
            rintro e w2 ⟨rfl, hw⟩
            rw [hw, HCE.out]
            clear hw w2
            have HX1 := hid (HBX.out.below hb1)
            have x0 := HX1.out.cell 0 rfl
            have x1 := HX1.out.cell 1 rfl
            have x2 := HX1.out.cell 2 rfl
            have hb01 := below_tr hbz hb1
            go_wp2_with fail
            refine (rCheckTree_any P.tree _ _ (HVT.out.below hb01) HPS.out).mono ?_
            rintro e w2 ⟨rfl, hb2⟩
            have HX2 := hid (HX1.out.below hb2)
            have hb02 := below_tr hb01 hb2
            clear x0 x1 x2
            rw [HKP.out]
            have x1 := HX2.out.cell 1 rfl
            have x2 := HX2.out.cell 2 rfl
            have x3 := HX2.out.cell 3 rfl
            have x4 := HX2.out.cell 4 rfl
            go_wp2_with fail
            refine (isCursorJ_any P.cur _).mono ?_
            rintro e w3 ⟨rfl, hw⟩
            rw [hw, HCP.out]
            clear hw w3
            go_wp2_with fail
            go_ret3
            exact ⟨_, by rw [HE.out, HN.out]; rfl, (fun h => by rw [HE.out] at h; exact absurd h HNZ.out), hb02⟩
        · have hkn : Jn.knE P.tree P.cur = Pp.treeE P.tree := Jn.kn_tree hkp
          have hz : (Pp.treeE P.tree == 0) = false := by simpa using hkp
          have HE := hid (hE.trans ((Jn.rst_kn (by rw [hkn]; exact hkp)).trans hkn))
          have HNZ : Hid (¬ (Pp.treeE P.tree : Int) = 0) := (hkp : ¬ (Pp.treeE P.tree : Int) = 0)
          have HN := hid (Jn.fol_bad HE.out HNZ.out).2
          clear hE hkn hkp hk
          go_enter Tryz.func16, Tryz.ntmps16
          go_wp2_with fail
          rw [← hwz]
          clear hwz
          refine (rCheckTree_any T _ _ (HV.out.below hbz) HS.out).mono ?_
          rintro e w1 ⟨rfl, hb1⟩
          rw [HT.out]
          go_wp2_with fail
          refine (isCursorJ_any c _).mono ?_
          rintro e w2 ⟨rfl, hw⟩
          rw [hw, HCE.out]
          clear hw w2
          have HX1 := hid (HBX.out.below hb1)
          have x0 := HX1.out.cell 0 rfl
          have x1 := HX1.out.cell 1 rfl
          have x2 := HX1.out.cell 2 rfl
          have hb01 := below_tr hbz hb1
          go_wp2_with fail
          refine (rCheckTree_any P.tree _ _ (HVT.out.below hb01) HPS.out).mono ?_
          rintro e w2 ⟨rfl, hb2⟩
          have HX2 := hid (HX1.out.below hb2)
          have hb02 := below_tr hb01 hb2
          clear x0 x1 x2
          go_wp2_with fail
          go_ret3
          exact ⟨_, by rw [HE.out, HN.out]; rfl, (fun h => by rw [HE.out] at h; exact absurd h HNZ.out), hb02⟩
      | false =>
        rw [hr] at hwz HBX
        by_cases t0 : P.tree = []
        · have t1 : ¬ 0 < (P.tree.length : Int) := by rw [t0]; simp
          by_cases t2 : 10 < P.cos.length
          · have t2' : 10 < (P.cos.length : Int) := by omega
            have ho := Jn.on_many (c := c) t0 t2
            have HE := hid ((Jn.fol_on hk hr (by rw [ho]; decide)).trans ho)
            have HNZ : Hid (¬ (2 : Int) = 0) := (by decide : ¬ (2 : Int) = 0)
            have HN := hid (Jn.fol_bad HE.out HNZ.out).2
            clear ho hk t0
            go_enter Tryz.func16, Tryz.ntmps16
            go_wp2_with fail
            rw [← hwz]
            clear hwz
            refine (rCheckTree_any T _ _ (HV.out.below hbz) HS.out).mono ?_
            rintro e w1 ⟨rfl, hb1⟩
            rw [HT.out]
            go_wp2_with fail
            refine (isCursorJ_any c _).mono ?_
            rintro e w2 ⟨rfl, hw⟩
            rw [hw, HCE.out]
            clear hw w2
            have HX1 := hid (HBX.out.below hb1)
            have x0 := HX1.out.cell 0 rfl
            have x1 := HX1.out.cell 1 rfl
            have x2 := HX1.out.cell 2 rfl
            have hb01 := below_tr hbz hb1
            go_wp2_with fail
            go_ret3
            exact ⟨_, by rw [HE.out, HN.out]; rfl, (fun h => by rw [HE.out] at h; exact absurd h HNZ.out), hb01⟩
          · have t2' : ¬ 10 < (P.cos.length : Int) := by omega
            have HBAD : Hid (Jn.numsB c P.cos = false → Jn.folE T c P = 4) := (fun h => (Jn.fol_on hk hr (by rw [Jn.on_nums t0 t2 h]; decide)).trans (Jn.on_nums t0 t2 h) : Jn.numsB c P.cos = false → Jn.folE T c P = 4)
            have HCU : Hid (Jn.numsB c P.cos = true → ¬ P.cur = c + P.cos.length → Jn.folE T c P = 4) := (fun h h3 => (Jn.fol_on hk hr (by rw [Jn.on_cur t0 t2 h h3]; decide)).trans (Jn.on_cur t0 t2 h h3) : Jn.numsB c P.cos = true → ¬ P.cur = c + P.cos.length → Jn.folE T c P = 4)
            have HOK : Hid (Jn.numsB c P.cos = true → P.cur = c + P.cos.length → (∀ e, Jn.folF T P.cos = (e, []) → ¬ e = 0 → Jn.folE T c P = e ∧ Jn.folN T c P = 0) ∧ (∀ S, Jn.folF T P.cos = (0, S) → Jn.folE T c P = 0 ∧ Jn.folR T c P = S ∧ Jn.folN T c P = P.cur)) := (fun h h3 => by
              have ho := Jn.on_ok t0 t2 h h3
              have hE := Jn.fol_run hk hr ho
              refine ⟨fun e hf he => ?_, fun S hf => ?_⟩
              · have h2 : Jn.folE T c P = e := by rw [hE, hf]
                exact ⟨h2, (Jn.fol_bad h2 he).2⟩
              · have h2 : Jn.folE T c P = 0 := by rw [hE, hf]
                have h3 := Jn.fol_okF h2 hr
                exact ⟨h2, by rw [h3.1, hf], h3.2⟩ : _)
            have HN4 : Hid (Jn.folE T c P = 4 → Jn.folN T c P = 0) := (fun h => (Jn.fol_bad h (by decide)).2 : Jn.folE T c P = 4 → Jn.folN T c P = 0)
            clear hk t0
            go_enter Tryz.func16, Tryz.ntmps16
            go_wp2_with fail
            rw [← hwz]
            clear hwz
            refine (rCheckTree_any T _ _ (HV.out.below hbz) HS.out).mono ?_
            rintro e w1 ⟨rfl, hb1⟩
            rw [HT.out]
            go_wp2_with fail
            refine (isCursorJ_any c _).mono ?_
            rintro e w2 ⟨rfl, hw⟩
            rw [hw, HCE.out]
            clear hw w2
            have HX1 := hid (HBX.out.below hb1)
            have x0 := HX1.out.cell 0 rfl
            have x1 := HX1.out.cell 1 rfl
            have x2 := HX1.out.cell 2 rfl
            have hb01 := below_tr hbz hb1
            go_wp2_with fail
            clear t1
            generalize decide (0 < P.tree.length) = bq
            go_loopw [1, 10] (fun x i wr => ∃ k : Nat, k ≤ P.cos.length ∧ i = .int .i64 k ∧ x = .int .i64 (c + k) ∧ Hid (Jn.NumsAt c P.cos k) ∧ Below w1.heap.size w1 wr) (fun _ i _ => P.cos.length - (intOf i).toNat)
            case atStart => exact ⟨0, Nat.zero_le _, rfl, by simp, Jn.nums_zero c P.cos, Below.refl _ _⟩
            case round =>
              obtain ⟨k, hk, rfl, rfl, HNA, hbel⟩ := hrel
              have hb0 := below_tr hb01 hbel
              clear x0 x1 x2
              have x2 := (HX1.out.below hbel).cell 2 rfl
              by_cases hlt : k < P.cos.length
              · obtain ⟨b, o, rfl, hb, he⟩ := HC.out k hlt
                have c0 := (he.below hb hb0).1
                have HNX : Hid (P.cos[k].nu = c + k + 1 → Jn.NumsAt c P.cos (k + 1)) := (fun h => Jn.nums_next HNA.out hlt h : P.cos[k].nu = c + k + 1 → Jn.NumsAt c P.cos (k + 1))
                have HNB : Hid (¬ P.cos[k].nu = c + k + 1 → Jn.folE T c P = 4) := (fun h => HBAD.out (Jn.nums_bad HNA.out hlt h) : ¬ P.cos[k].nu = c + k + 1 → Jn.folE T c P = 4)
                clear he
                generalize (P.cos[k]).nu = nu at *
                have e1 : IntKind.i64.wrap (c + (k : Int) + 1) = c + k + 1 := by rw [IntKind.wrap_i64]; omega
                by_cases hnu : nu = c + k + 1
                · have HN2 := hid (HNX.out hnu)
                  subst hnu
                  clear HNX HNB
                  go_wp2_with fail
                  go_roundw
                  case rel => exact ⟨k + 1, by omega, by simp, by simp; omega, HN2, hbel⟩
                  case measure => simp [intOf]; omega
                · have HE := hid (HNB.out hnu)
                  have HN := hid (HN4.out HE.out)
                  have hz : (nu == c + k + 1) = false := by simpa using hnu
                  clear HNX HNB hnu
                  go_wp2_with fail
                  go_ret3
                  exact ⟨_, by rw [HE.out, HN.out]; rfl, (fun h => by rw [HE.out] at h; exact absurd h (by decide)), hb0⟩
              · obtain rfl : k = P.cos.length := by omega
                have hnb := Jn.nums_end HNA.out
                have x3 := (HX1.out.below hbel).cell 3 rfl
                by_cases hcu : P.cur = c + P.cos.length
                · obtain ⟨hst, hen⟩ := HOK.out hnb hcu
                  have HST := hid hst
                  have HEN := hid hen
                  clear hnb hst hen HBAD HCU HOK HN4
                  generalize P.cur = pc at *
                  subst hcu
                  have HXo := hid (HX1.out.below hbel)
                  generalize wr = wo at *
                  go_wp2_with fail
                  go_loopw [0, 11] (fun x i wr => ∃ (k : Nat) (S : List En), k ≤ P.cos.length ∧ i = .int .i64 k ∧ Hid (Lies wr x S) ∧ Hid (Pp.Good S) ∧ Hid (Jn.LeftF T P.cos S k) ∧ Below wo.heap.size wo wr) (fun _ i _ => P.cos.length - (intOf i).toNat)
                  case atStart => exact ⟨0, T, Nat.zero_le _, rfl, HV.out.below hb0, HG, Jn.leftF_zero T P.cos, Below.refl _ _⟩
                  case round =>
                    obtain ⟨k, S, hk, rfl, HX, HGS, HLF, hbo⟩ := hrel
                    have hb1o := below_tr hb0 hbo
                    clear x2 x3
                    have HXq := hid (HXo.out.below hbo)
                    have x2 := HXq.out.cell 2 rfl
                    have hlq := HXq.out.lt
                    by_cases hlt : k < P.cos.length
                    · obtain ⟨b, o, rfl, hb, he⟩ := HC.out k hlt
                      obtain ⟨c0, c1, y, c2, hy⟩ := he.below hb hb1o
                      have HZ := hid (HPC.out P.cos[k] (List.getElem_mem hlt))
                      have HNX : Hid (Pp.allE S P.cos[k].ch P.cos[k].nu = 0 → Jn.LeftF T P.cos (Pp.allR S P.cos[k].ch P.cos[k].nu) (k + 1)) := (fun h0 => Jn.leftF_next HLF.out hlt h0 : Pp.allE S P.cos[k].ch P.cos[k].nu = 0 → Jn.LeftF T P.cos (Pp.allR S P.cos[k].ch P.cos[k].nu) (k + 1))
                      have HSP : Hid (¬ Pp.allE S P.cos[k].ch P.cos[k].nu = 0 → Jn.folF T P.cos = (Pp.allE S P.cos[k].ch P.cos[k].nu, [])) := (fun h0 => Jn.leftF_stop HLF.out hlt h0 : ¬ Pp.allE S P.cos[k].ch P.cos[k].nu = 0 → Jn.folF T P.cos = (Pp.allE S P.cos[k].ch P.cos[k].nu, []))
                      clear he
                      generalize P.cos[k] = ck at *
                      obtain ⟨nu, ke, ch⟩ := ck
                      simp only at c0 c1 c2 hy
                      have HY := hid hy
                      obtain ⟨ua, ucap, rfl, _⟩ := hy
                      have hbl : b < wr.heap.size := Nat.lt_of_lt_of_le hb hb1o.size
                      go_wp2_with fail
                      go_region_held3 (fun W => W.cell? ⟨w.heap.size, 2, none⟩ = some (.slice (some ⟨b, o, none⟩) P.cos.length b2) ∧ W.cell? ⟨b, o + k * 3, none⟩ = some (.int .i64 nu) ∧ W.cell? ⟨b, o + k * 3 + 2, none⟩ = some (.slice ua ch.length ucap)) (go_keep) (first
                        | (go_at_call 30; refine (rAllOf_any S _ ch _ nu _ (HX.out.below (Below.refl _ _).drew) HGS.out (HY.out.below (Below.refl _ _).drew) HZ.out.2).mono ?_; rintro e wa ⟨r, rfl, hli, hba⟩; have hza : Below wr.heap.size wr wa := ((Below.refl _ _).drew).trans hba; have j2 := (hza.cell (p := ⟨w.heap.size, 2, none⟩) hlq).trans x2; have i0 := (hza.cell (p := ⟨b, o + k * 3, none⟩) hbl).trans c0; have i2 := (hza.cell (p := ⟨b, o + k * 3 + 2, none⟩) hbl).trans c2))
                      have HLI := hid hli
                      have hbo4 := below_tr hbo hza
                      have hb04 := below_tr hb1o hza
                      clear hli
                      by_cases h0 : Pp.allE S ch nu = 0
                      · have HN := hid (HNX.out h0)
                        have HG4 := hid (Jn.all_good h0)
                        have HL4 := hid (HLI.out h0)
                        rw [h0]
                        clear h0 HNX HSP HLI
                        go_wp2_with fail
                        go_roundw
                        case rel => exact ⟨k + 1, _, by omega, by simp, HL4, HG4, HN, hbo4⟩
                        case measure => simp [intOf]; omega
                      · obtain ⟨q1, q3⟩ := HST.out _ (HSP.out h0) h0
                        have HQ1 := hid q1
                        have HQ3 := hid q3
                        have HZ0 := hid h0
                        have hz2 : (Pp.allE S ch nu == 0) = false := by simpa using h0
                        clear q1 q3 h0 HNX HSP
                        go_wp2_with fail
                        go_ret3
                        exact ⟨_, by rw [HQ1.out, HQ3.out]; rfl, (fun h => by rw [HQ1.out] at h; exact absurd h HZ0.out), hb04⟩
                    · obtain rfl : k = P.cos.length := by omega
                      obtain ⟨q1, q2, q3⟩ := HEN.out _ (Jn.leftF_end HLF.out)
                      have HQ1 := hid q1
                      have HQ2 := hid q2
                      have HQ3 := hid q3
                      clear q1 q2 q3
                      go_wp2_with fail
                      go_ret3
                      exact ⟨_, by rw [HQ1.out, HQ3.out]; rfl, fun _ => by rw [HQ2.out]; exact HX.out, hb1o⟩
                · have HE := hid (HCU.out hnb hcu)
                  have HN := hid (HN4.out HE.out)
                  have hz : (P.cur == c + (P.cos.length : Int)) = false := by simpa using hcu
                  clear hcu hnb
                  go_wp2_with fail
                  go_ret3
                  exact ⟨_, by rw [HE.out, HN.out]; rfl, (fun h => by rw [HE.out] at h; exact absurd h (by decide)), hb0⟩
        · have t1 : 0 < (P.tree.length : Int) := by have := List.length_pos_iff.2 t0; omega
          have ho := Jn.on_tree (c := c) t0
          have HE := hid ((Jn.fol_on hk hr (by rw [ho]; decide)).trans ho)
          have HNZ : Hid (¬ (1 : Int) = 0) := (by decide : ¬ (1 : Int) = 0)
          have HN := hid (Jn.fol_bad HE.out HNZ.out).2
          clear ho hk t0
          go_enter Tryz.func16, Tryz.ntmps16
          go_wp2_with fail
          rw [← hwz]
          clear hwz
          refine (rCheckTree_any T _ _ (HV.out.below hbz) HS.out).mono ?_
          rintro e w1 ⟨rfl, hb1⟩
          rw [HT.out]
          go_wp2_with fail
          refine (isCursorJ_any c _).mono ?_
          rintro e w2 ⟨rfl, hw⟩
          rw [hw, HCE.out]
          clear hw w2
          have HX1 := hid (HBX.out.below hb1)
          have x0 := HX1.out.cell 0 rfl
          have x1 := HX1.out.cell 1 rfl
          have x2 := HX1.out.cell 2 rfl
          have hb01 := below_tr hbz hb1
          go_wp2_with fail
          go_ret3
          exact ⟨_, by rw [HE.out, HN.out]; rfl, (fun h => by rw [HE.out] at h; exact absurd h HNZ.out), hb01⟩
    · have hkn : Jn.knE T c = 3 := (Jn.kn_cur ht).trans hc
      have HCE : Hid (Jn.curE c = 3) := hc
      have HE := hid ((Jn.fol_kn (P := P) (by rw [hkn]; decide)).trans hkn)
      have HNZ : Hid (¬ (3 : Int) = 0) := (by decide : ¬ (3 : Int) = 0)
      have HN := hid (Jn.fol_bad HE.out HNZ.out).2
      clear hkn ht hc
      go_enter Tryz.func16, Tryz.ntmps16
      go_wp2_with fail
      rw [← hwz]
      clear hwz
      refine (rCheckTree_any T _ _ (HV.out.below hbz) HS.out).mono ?_
      rintro e w1 ⟨rfl, hb1⟩
      rw [HT.out]
      go_wp2_with fail
      refine (isCursorJ_any c _).mono ?_
      rintro e w2 ⟨rfl, hw⟩
      rw [hw, HCE.out]
      clear hw w2
      have HX1 := hid (HBX.out.below hb1)
      have x0 := HX1.out.cell 0 rfl
      have x1 := HX1.out.cell 1 rfl
      have x2 := HX1.out.cell 2 rfl
      have hb01 := below_tr hbz hb1
      go_wp2_with fail
      go_ret3
      exact ⟨_, by rw [HE.out, HN.out]; rfl, (fun h => by rw [HE.out] at h; exact absurd h HNZ.out), hb01⟩
  · have hkn : Jn.knE T c = Pp.treeE T := Jn.kn_tree ht
    have hz : (Pp.treeE T == 0) = false := by simpa using ht
    have HE := hid ((Jn.fol_kn (P := P) (by rw [hkn]; exact ht)).trans hkn)
    have HNZ : Hid (¬ (Pp.treeE T : Int) = 0) := (ht : ¬ (Pp.treeE T : Int) = 0)
    have HN := hid (Jn.fol_bad HE.out HNZ.out).2
    clear hkn ht
    go_enter Tryz.func16, Tryz.ntmps16
    go_wp2_with fail
    rw [← hwz]
    clear hwz
    refine (rCheckTree_any T _ _ (HV.out.below hbz) HS.out).mono ?_
    rintro e w1 ⟨rfl, hb1⟩
    have hb01 := below_tr hbz hb1
    go_wp2_with fail
    go_ret3
    exact ⟨_, by rw [HE.out, HN.out]; rfl, (fun h => by rw [HE.out] at h; exact absurd h HNZ.out), hb01⟩
end Go.Proofs.YtlllcifehellpaaGreatDoor
