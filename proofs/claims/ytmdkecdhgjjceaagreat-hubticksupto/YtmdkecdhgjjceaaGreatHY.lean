/- What the reference's OpenJournal answers, for every journal. What the reference's CheckJournal and TreeOf answer; the law JournalChecks. -/
import Derived.Test.YtmdkecdhgjjceaaGreatHM
import Derived.Test.YtmdkecdhgjjceaaGreatHK
import Derived.Test.YtmdkecdhgjjceaaGreatHU
import Derived.BigQuiet
import Derived.Test.YtmdkecdhgjjceaaGreatHV
set_option linter.unusedSimpArgs false
set_option linter.unusedVariables false
namespace Go.Proofs.YtmdkecdhgjjceaaGreat
open Go.RowKit

/-- A row of trees. -/
def LiesT (w : World) (v : Value) (n : Nat) (f : Nat → List En) : Prop := ∃ a cap, v = .slice a n cap ∧ n ≤ cap ∧ n ≤ 1000000 ∧ ∀ i, i < n → ∃ b o u, a = some ⟨b, o, none⟩ ∧ b < w.heap.size ∧ w.cell? ⟨b, o + i, none⟩ = some u ∧ Lies w u (f i)
theorem LiesT.below {w w' : World} {v : Value} {n : Nat} {f : Nat → List En} (h : LiesT w v n f) (hw : Below w.heap.size w w') : LiesT w' v n f := by
 obtain ⟨a, cap, hv, h1, h2, h5⟩ := h
 refine ⟨a, cap, hv, h1, h2, fun i hi => ?_⟩
 obtain ⟨b, o, u, ha, hb, he, hl⟩ := h5 i hi
 exact ⟨b, o, u, ha, Nat.lt_of_lt_of_le hb hw.size, (hw.cell (p := ⟨b, o + i, none⟩) hb).trans he, hl.below hw⟩
theorem liesT_own {w : World} {base : Nat} {v : Value} {T : TypeId} {us : List Value} {f : Nat → List En} (h : w.ownsRow base T 1 v us.length us) (hf : ∀ i u, us[i]? = some u → Lies w u (f i)) (hN : us.length ≤ 1000000) : LiesT w v us.length f := by
 have h' := h
 obtain ⟨hl, h2⟩ := h
 rcases h2 with ⟨rfl, hz⟩ | ⟨g, cap, cur, rfl, hg, hh, hn2, hm, hz, htake⟩
 · exact ⟨none, 0, by rw [hz], by omega, hN, fun i h => absurd h (by omega)⟩
 · have hlt := heap_lt hh
   refine ⟨some ⟨g, 0, none⟩, cap, rfl, hn2, hN, fun i h => ⟨g, 0, us[i], rfl, hlt, ?_, hf i _ (List.getElem?_eq_getElem h)⟩⟩
   rw [Nat.zero_add, h'.cellAt i (by omega)]
   exact List.getElem?_eq_getElem h
theorem Tryz.infoES : (Tryz.prog.info? 41).map (fun i => (i.zero, i.size, i.bytes)) = some (some (.slice none 0 0), 1, 24) := by kernel_rfl

theorem keyB_of1 {l : List UInt8} (h : Pp.keyE l = 1) : Pp.keyB l = false := by
 cases hb : Pp.keyB l with
 | false => rfl
 | true => rw [Pp.keyE_yes hb] at h; exact absurd h (by decide)
theorem keyB_of0 {l : List UInt8} (h : Pp.keyE l = 0) : Pp.keyB l = true := by
 cases hb : Pp.keyB l with
 | true => rfl
 | false => rw [Pp.keyE_no hb] at h; exact absurd h (by decide)
theorem ownsRow_below {w w' : World} {base : Nat} {e : TypeId} {size : Nat} {v : Value} {n : Nat} {xs : List Value} (h : w.ownsRow base e size v n xs) (hw : Below w.heap.size w w') : w'.ownsRow base e size v n xs :=
 h.kept (row := none) ⟨hw.os, hw.tape, hw.output, hw.size, fun k hk _ => hw.block k hk⟩ (by cases h : v.ownBlock with
  | none => exact Or.inl rfl
  | some g => exact Or.inr (by simp))
def TrsAt (wr : World) (J : Jo) (us : List Value) (k : Nat) : Prop := us.length = k + 1 ∧ ∀ i u, us[i]? = some u → Lies wr u (Jn.trAt J i)
theorem TrsAt.below {w w' : World} {J : Jo} {us : List Value} {k : Nat} (h : TrsAt w J us k) (hw : Below w.heap.size w w') : TrsAt w' J us k := ⟨h.1, fun i u hu => (h.2 i u hu).below hw⟩
theorem TrsAt.row {w w' : World} {J : Jo} {us : List Value} {k : Nat} {v : Value} (h : TrsAt w J us k) (hg : w.grownBy w' v.ownBlock) (hn : NoStrV w v) : TrsAt w' J us k := ⟨h.1, fun i u hu => (h.2 i u hu).row hg hn⟩
theorem Cs.row {w w' : World} {b : Nat} {vs : List Value} {v : Value} (h : Cs w b vs) (hg : w.grownBy w' v.ownBlock) (hne : ∀ g, v.ownBlock = some g → b ≠ g) : Cs w' b vs := by
 cases hv : v.ownBlock with
 | none =>
  rw [hv] at hg
  exact h.below ⟨hg.os, hg.tape, hg.output, hg.size, fun k hk => hg.block k hk (by simp)⟩
 | some g =>
  rw [hv] at hg
  exact h.nb hg (hne g hv)
theorem TrsAt.snoc {w : World} {J : Jo} {us : List Value} {k : Nat} {x : Value} (h : TrsAt w J us k) (hx : Lies w x (Jn.trAt J (k + 1))) : TrsAt w J (us ++ [x]) (k + 1) := by
 refine ⟨by simp [h.1], fun i u hu => ?_⟩
 by_cases hi : i < us.length
 · rw [List.getElem?_append_left hi] at hu
   exact h.2 i u hu
 · rw [List.getElem?_append_right (by omega)] at hu
   have h1 := h.1
   have hi2 : i = k + 1 := by
    rcases Nat.lt_or_ge (i - us.length) 1 with h3 | h3
    · omega
    · rw [List.getElem?_eq_none (by simpa using h3)] at hu; cases hu
   subst hi2
   rw [h1, Nat.sub_self] at hu
   injection hu with hu
   exact hu ▸ hx

set_option maxRecDepth 100000 in
set_option maxHeartbeats 4000000 in
theorem openJournal_any (J : Jo) (v : Value) (w : World) (hv : LiesJ w v J) (hp : ∀ e ∈ J.base, e.path.size ≤ 1000000000) (hcs : SizedO 1000000000 J.cos) :
    Calls Tryz.prog 51 #[v] w fun e w' => ∃ r, e = .returned (.tuple #[r, .int .i64 (Jn.chkE J)]) ∧ (Jn.chkE J = 0 → LiesT w' r (J.cos.length + 1) (Jn.trAt J)) ∧ Below w.heap.size w w' := by
 obtain ⟨i0, hi0, hz0, hz1, hz2⟩ := info_parts Tryz.infoES
 obtain ⟨vb, vc, rfl, hvb, hvc⟩ := hv
 have HVB := hid hvb
 have HP := hid hp
 have HCS := hid hcs
 obtain ⟨cb, ccap, rfl, hccap, hccap2, hC⟩ := hvc
 obtain ⟨ba, bcap, rfl, hbcap, hbcap2, _⟩ := hvb
 have HC : Hid (∀ i (h : i < J.cos.length), ∃ b o, cb = some ⟨b, o, none⟩ ∧ b < w.heap.size ∧ CoAt w b (o + i * 3) J.cos[i]) := hC
 clear hC hp hcs
 obtain ⟨wz, hwz⟩ : ∃ wz, wz = w.alloc (.cells #[.slice ba J.base.length bcap, .int .i64 J.first, .slice cb J.cos.length ccap] 59) := ⟨_, rfl⟩
 have hbz : Below w.heap.size w wz := by rw [hwz]; exact (Below.refl _ _).alloc (Nat.le_refl _) _
 have HBX := hid (show Cs wz w.heap.size [.slice ba J.base.length bcap, .int .i64 J.first, .slice cb J.cos.length ccap] from by rw [hwz]; exact Cs.new _ _ _)
 by_cases ht : Pp.treeE J.base = 0
 · have HT := hid ht
   by_cases hf : Pp.verE J.first = 0
   · have HF := hid hf
     by_cases hm : 30 < J.cos.length
     · have HE := hid (Jn.chk_many ht hf hm)
       have hm' : 30 < (J.cos.length : Int) := by omega
       clear ht hf
       go_enter Tryz.func51, Tryz.ntmps51
       go_wp2_with fail
       rw [← hwz]
       clear hwz
       refine (rCheckTree_any J.base _ _ (HVB.out.below hbz) HP.out).mono ?_
       rintro e w1 ⟨rfl, hb1⟩
       rw [HT.out]
       have c1 := (HBX.out.below hb1).cell 1 rfl
       have c2 := (HBX.out.below hb1).cell 2 rfl
       go_wp2_with fail
       refine (isVersion_any J.first _).mono ?_
       rintro e w2 ⟨rfl, hw⟩
       rw [hw]
       clear hw w2
       rw [HF.out]
       go_wp2_with fail
       go_ret2
       exact ⟨_, by rw [HE.out]; rfl, (fun h => by rw [HE.out] at h; exact absurd h (by decide)), below_tr hbz hb1⟩
     · have hm' : ¬ 30 < (J.cos.length : Int) := by omega
       obtain ⟨f1, f2⟩ := Jn.ver_iff.1 hf
       have HG := hid ((Pp.good_iff J.base).1 ht)
       have HRUN := hid (show ∀ e T, Jn.runJ J.first J.base J.cos = (e, T) → ¬ e = 0 → Jn.chkE J = e from fun e T h he => Jn.chk_run ht hf hm h he)
       have HTW := hid (show ∀ T, Jn.runJ J.first J.base J.cos = (0, T) → ¬ Jn.Apart J.cos → Jn.chkE J = 6 from fun T h ha => Jn.chk_twice ht hf hm h ha)
       have HOK := hid (show ∀ T, Jn.runJ J.first J.base J.cos = (0, T) → Jn.Apart J.cos → Jn.chkE J = 0 from fun T h ha => Jn.chk_ok ht hf hm h ha)
       clear ht hf
       go_enter Tryz.func51, Tryz.ntmps51
       go_wp2_with fail
       rw [← hwz]
       clear hwz
       refine (rCheckTree_any J.base _ _ (HVB.out.below hbz) HP.out).mono ?_
       rintro e w1 ⟨rfl, hb1⟩
       rw [HT.out]
       have HB1 := hid (HBX.out.below hb1)
       have c0 := HB1.out.cell 0 rfl
       have c1 := HB1.out.cell 1 rfl
       have c2 := HB1.out.cell 2 rfl
       have hl1 := HB1.out.lt
       go_wp2_with fail
       refine (isVersion_any J.first _).mono ?_
       rintro e w2 ⟨rfl, hw⟩
       rw [hw]
       clear hw w2
       rw [HF.out]
       have hb01 := below_tr hbz hb1
       have HO0 : Hid ((w1.alloc (.cells #[.slice ba J.base.length bcap] 41)).ownsRow (w.heap.size + 1) 41 1 (.slice (some ⟨w1.heap.size, 0, none⟩) 1 1) 1 [.slice ba J.base.length bcap]) := (World.ownsRow_lit w1 #[.slice ba J.base.length bcap] 1 (by omega) (by decide) rfl : _)
       have HN0 := hid (show NoStrV (w1.alloc (.cells #[.slice ba J.base.length bcap] 41)) (.slice (some ⟨w1.heap.size, 0, none⟩) 1 1) from fun g hg => by
        simp only [Value.ownBlock, Option.some.injEq] at hg
        subst hg
        exact noStr_cells (heap_alloc_new w1 _) (by simp))
       have hby : Below w1.heap.size w1 (w1.alloc (.cells #[.slice ba J.base.length bcap] 41)) := (Below.refl _ _).alloc (Nat.le_refl _) _
       have HLB := hid (HVB.out.below (below_tr hb01 hby))
       have HT0 := hid (show TrsAt (w1.alloc (.cells #[.slice ba J.base.length bcap] 41)) J [.slice ba J.base.length bcap] 0 from ⟨rfl, fun i u hu => by
        rcases Nat.eq_zero_or_pos i with h | h
        · subst h
          simp at hu
          rw [← hu, Jn.trAt_zero]; exact HLB.out
        · rw [List.getElem?_eq_none (by simp; omega)] at hu; cases hu⟩)
       have HB2 := hid (HB1.out.below hby)
       have hb02 := below_tr hb01 hby
       go_wp2_with fail
       generalize hwq : w1.alloc (.cells #[.slice ba J.base.length bcap] 41) = wq at *
       clear hwq hby c0 c1 c2 HB1 hb01
       go_loopw [5, 6, 7] (fun x t i wr => ∃ (k : Nat) (us : List Value), k ≤ J.cos.length ∧ i = .int .i64 k ∧ Hid (wr.ownsRow (w.heap.size + 1) 41 1 x us.length us) ∧ Hid (NoStrV wr x) ∧ Hid (TrsAt wr J us k) ∧ Hid (Lies wr t (Jn.trAt J k)) ∧ Hid (Pp.Good (Jn.trAt J k)) ∧ Hid (Jn.LeftJ J (Jn.trAt J k) k) ∧ Hid (Cs wr w.heap.size [.slice ba J.base.length bcap, .int .i64 J.first, .slice cb J.cos.length ccap]) ∧ Below w.heap.size w wr) (fun _ _ i _ => J.cos.length - (intOf i).toNat)
       case atStart => exact ⟨0, _, Nat.zero_le _, rfl, HO0, HN0, HT0, by rw [Jn.trAt_zero]; exact HLB, by rw [Jn.trAt_zero]; exact HG, by rw [Jn.trAt_zero]; exact Jn.left_zero J, HB2, hb02⟩
       case round =>
        obtain ⟨k, us, hk, rfl, HOW, HNS, HTS, HLT, HGS, HL, HBX2, hbel⟩ := hrel
        clear HO0 HN0 HT0 HLB HB2 hb02
        have c1 := HBX2.out.cell 1 rfl
        have c2 := HBX2.out.cell 2 rfl
        have hszr := HBX2.out.lt
        by_cases hlt : k < J.cos.length
        · obtain ⟨b, o, rfl, hb, he⟩ := HC.out k hlt
          obtain ⟨d0, d1, u, d2, hu⟩ := he.below hb hbel
          have HZ := hid (HCS.out J.cos[k] (List.getElem_mem hlt))
          have HBAD := hid (show ¬ Jn.coE J.cos[k] (J.first + k) = 0 → Jn.chkE J = Jn.coE J.cos[k] (J.first + k) from fun h0 => HRUN.out _ _ (Jn.left_bad HL.out hlt h0) h0)
          have HALL := hid (show Jn.coE J.cos[k] (J.first + k) = 0 → ¬ Pp.allE (Jn.trAt J k) J.cos[k].ch J.cos[k].nu = 0 → Jn.chkE J = Pp.allE (Jn.trAt J k) J.cos[k].ch J.cos[k].nu from fun h0 h1 => HRUN.out _ _ (Jn.left_all HL.out hlt h0 h1) h1)
          have HNX := hid (show Jn.coE J.cos[k] (J.first + k) = 0 → Pp.allE (Jn.trAt J k) J.cos[k].ch J.cos[k].nu = 0 → Jn.LeftJ J (Jn.trAt J (k + 1)) (k + 1) from fun h0 h1 => by rw [Jn.trAt_succ hlt]; exact Jn.left_next HL.out hlt h0 h1)
          have HTR : Hid (Jn.trAt J (k + 1) = Pp.allR (Jn.trAt J k) J.cos[k].ch J.cos[k].nu) := Jn.trAt_succ hlt
          clear he
          generalize J.cos[k] = ck at *
          obtain ⟨nu, ke, ch⟩ := ck
          simp only at d0 d1 d2 hu
          have HKE := hid (show ke.size ≤ maxLen from by have : ke.size ≤ 1000000000 := HZ.out.1; unfold maxLen; omega)
          have HU := hid hu
          obtain ⟨ua, ucap, rfl, _, _, _⟩ := hu
          have hwrap : IntKind.i64.wrap (J.first + (k : Int)) = J.first + k := by rw [IntKind.wrap_i64]; omega
          have hbyr : Below wr.heap.size wr (wr.alloc (.cells #[.int .i64 nu, .string ke, .slice ua ch.length ucap] 126)) := (Below.refl _ _).alloc (Nat.le_refl _) _
          have hbely := below_tr hbel hbyr
          rcases Jn.co_cases ⟨nu, ke, ch⟩ (J.first + k) with ⟨h1, hE⟩ | ⟨h1, h2, hE⟩ | ⟨h1, h2, h3, hE⟩ | ⟨h1, h2, h3, h4, hE⟩ | ⟨h1, h2, h3, h4, hE⟩
          · have HE := hid (HBAD.out (by rw [hE]; decide))
            have HE2 := hid hE
            simp only at h1
            clear hE HBAD HALL HNX HTR
            go_wp2_with fail
            go_ret2
            exact ⟨_, by rw [HE.out, HE2.out]; rfl, (fun h => by rw [HE.out, HE2.out] at h; exact absurd h (by decide)), hbely⟩
          · have HE := hid (HBAD.out (by rw [hE]; decide))
            have HE2 := hid hE
            simp only at h1
            subst h1
            clear hE HBAD HALL HNX HTR
            go_wp2_with fail
            go_ret2
            exact ⟨_, by rw [HE.out, HE2.out]; rfl, (fun h => by rw [HE.out, HE2.out] at h; exact absurd h (by decide)), hbely⟩
          · have HE := hid (HBAD.out (by rw [hE]; decide))
            have HE2 := hid hE
            have HK3 : Hid (Pp.keyB ke.data.toList = false) := keyB_of1 h3
            simp only at h1
            subst h1
            clear hE h3 HBAD HALL HNX HTR
            go_wp2_with fail
            refine (isKey_any ke _ HKE.out).mono ?_
            rintro e w4 ⟨rfl, hw⟩
            rw [hw, HK3.out]
            clear hw w4
            go_wp2_with fail
            go_ret2
            exact ⟨_, by rw [HE.out, HE2.out]; rfl, (fun h => by rw [HE.out, HE2.out] at h; exact absurd h (by decide)), hbely⟩
          · have HE := hid (HBAD.out (by rw [hE]; decide))
            have HE2 := hid hE
            have HK3 : Hid (Pp.keyB ke.data.toList = true) := keyB_of0 h3
            have h4' : ((ch.length : Int) == 0) = true := by rw [beq_iff_eq]; simp only at h4; omega
            simp only at h1
            subst h1
            clear hE h3 h4 HBAD HALL HNX HTR
            go_wp2_with fail
            refine (isKey_any ke _ HKE.out).mono ?_
            rintro e w4 ⟨rfl, hw⟩
            rw [hw, HK3.out]
            clear hw w4
            go_wp2_with fail
            go_ret2
            exact ⟨_, by rw [HE.out, HE2.out]; rfl, (fun h => by rw [HE.out, HE2.out] at h; exact absurd h (by decide)), hbely⟩
          · have HK3 : Hid (Pp.keyB ke.data.toList = true) := keyB_of0 h3
            have h4' : ((ch.length : Int) == 0) = false := by rw [beq_eq_false_iff_ne]; simp only at h4; omega
            have HA := hid (HALL.out hE)
            have HN := hid (HNX.out hE)
            simp only at h1
            subst h1
            clear hE h3 h4 HBAD HALL HNX
            go_wp2_with fail
            refine (isKey_any ke _ HKE.out).mono ?_
            rintro e w4 ⟨rfl, hw⟩
            rw [hw, HK3.out]
            clear hw w4
            go_wp2_with fail
            refine (rAllOf_any (Jn.trAt J k) _ ch _ (J.first + k) _ (HLT.out.below hbyr) HGS.out (HU.out.below hbyr) HZ.out.2).mono ?_
            rintro e w5 ⟨r, rfl, hli, hb5⟩
            have HLI := hid hli
            have hbr5 := below_tr hbyr hb5
            have hb05 := below_tr hbel hbr5
            clear hli hb5
            by_cases h0 : Pp.allE (Jn.trAt J k) ch (J.first + k) = 0
            · have HL6 := hid (HN.out h0)
              have HG6 := hid (show Pp.Good (Jn.trAt J (k + 1)) from by rw [HTR.out]; exact Jn.all_good h0)
              have HT6 := hid (show Lies w5 r (Jn.trAt J (k + 1)) from by rw [HTR.out]; exact HLI.out h0)
              rw [h0]
              have HOW5 := hid (ownsRow_below HOW.out hbr5)
              have HNS5 := hid (HNS.out.below (fun g hg => (HOW.out.lt g hg).2) hbr5)
              have HTS5 := hid (HTS.out.below hbr5)
              have HBX5 := hid (HBX2.out.below hbr5)
              obtain ⟨ra, rcap, rfl, _, _, _⟩ := HT6.out
              have hul := HTS.out.1
              have hsz5 := hbr5.size
              clear h0 HA HN HTR HLI HOW HNS HTS HBX2 c1 c2
              go_wp2_with (at_builtin; refine wpList_append_no _ rfl _ _ 108 rfl (w.heap.size + 1) 41 i0 (.slice none 0 0) 1 24 Tryz.underlying108 hi0 hz0 hz1 hz2 rfl (by decide) _ _ _ rfl (HOW5.out.alloc _) ⟨w5.heap.size, 0, none⟩ 1 1 [.slice ra (Jn.trAt J (k + 1)).length rcap] rfl rfl ?qc1 (by intro u hu; simp at hu; subst hu; rfl) (by unfold maxLen; omega) (by omega) (by simp; omega) (by decide) (by intro s; simp [Value.cells]) (by simp) ?qc2 ?_)
              case qc1 => intro j u hj; match j, hj with | 0, hj => simp at hj; subst hj; simp [Addr.add] | j + 1, hj => simp at hj
              case qc2 => exact HNS5.out.below (fun g hg => (HOW5.out.lt g hg).2) ((Below.refl _ _).alloc (Nat.le_refl _) _)
              intro v2 w2 ho2 hgr2 hns2
              have hbn : Below w5.heap.size w5 (w5.alloc (.cells #[.slice ra (Jn.trAt J (k + 1)).length rcap] 41)) := (Below.refl _ _).alloc (Nat.le_refl _) _
              have HNS6 := hid (HNS5.out.below (fun g hg => (HOW5.out.lt g hg).2) hbn)
              have HLR := hid ((HT6.out.below hbn).row hgr2 HNS6.out)
              have HTS7 := hid ((HTS5.out.below hbn).row hgr2 HNS6.out)
              have HTS8 := hid (HTS7.out.snoc HLR.out)
              have HBX8 := hid ((HBX5.out.below hbn).row hgr2 (fun g hg => by have := (HOW5.out.lt g hg).1; omega))
              have hb08 : Below w.heap.size w w2 := ((below_tr hb05 hbn).grown hgr2 (by simp; omega) (fun g hg => by have := (HOW5.out.lt g hg).1; omega))
              have HO8 := hid (show w2.ownsRow (w.heap.size + 1) 41 1 v2 (us ++ [Value.slice ra (Jn.trAt J (k + 1)).length rcap]).length (us ++ [Value.slice ra (Jn.trAt J (k + 1)).length rcap]) from by rw [List.length_append, hul]; exact ho2)
              have HN8 := hid hns2
              clear ho2 hgr2 hns2 hbn HNS6 HTS7 HOW5 HNS5 HTS5 HBX5
              go_wp2_with fail
              go_roundw
              case rel => exact ⟨k + 1, _, by omega, by simp, HO8, HN8, HTS8, HLR, HG6, HL6, HBX8, hb08⟩
              case measure => simp [intOf]; omega
            · have HE := hid (HA.out h0)
              have hz : (Pp.allE (Jn.trAt J k) ch (J.first + k) == 0) = false := by simpa using h0
              have H0 := hid h0
              clear h0 HA HN HTR HLI
              go_wp2_with fail
              go_ret2
              exact ⟨_, by rw [HE.out]; rfl, fun h => absurd (HE.out ▸ h) H0.out, hb05⟩
        · obtain rfl : k = J.cos.length := by omega
          have hr := Jn.left_end HL.out
          have HR := hid hr
          have hul := HTS.out.1
          have HLT2 := hid (show LiesT wr u5 (J.cos.length + 1) (Jn.trAt J) from by
           have := liesT_own (f := Jn.trAt J) HOW.out HTS.out.2 (by rw [hul]; omega)
           rw [hul] at this; exact this)
          obtain ⟨xa, xcap, rfl, _, _, _⟩ := HLT2.out
          clear hr HOW HNS HTS HLT HGS HL hul
          generalize wr = wo at *
          go_wp2_with fail
          go_loopw [9] (fun i wr => ∃ m : Nat, m ≤ J.cos.length ∧ i = .int .i64 m ∧ Hid (Jn.Apart (J.cos.take m)) ∧ Below wo.heap.size wo wr) (fun i _ => J.cos.length - (intOf i).toNat)
          case atStart => exact ⟨0, Nat.zero_le _, rfl, (List.Pairwise.nil : Jn.Apart []), Below.refl _ _⟩
          case round =>
           obtain ⟨m, hm2, rfl, HAP, hbo⟩ := hrel
           clear c1 c2
           have c2 := (HBX2.out.below hbo).cell 2 rfl
           have hszo := hbo.size
           by_cases hlm : m < J.cos.length
           · obtain ⟨b, o, rfl, hb, he⟩ := HC.out m hlm
             have HD1 := hid he
             clear he
             generalize wr = wp at *
             go_wp2_with fail
             go_loopw [10] (fun i wr => ∃ q : Nat, q ≤ m ∧ i = .int .i64 q ∧ Hid (Jn.ApK J.cos m q) ∧ Below wp.heap.size wp wr) (fun i _ => m - (intOf i).toNat)
             case atStart => exact ⟨0, Nat.zero_le _, rfl, (Jn.apK_zero _ _ : Jn.ApK J.cos m 0), Below.refl _ _⟩
             case round =>
              obtain ⟨q, hq, rfl, HAK, hbp⟩ := hrel
              clear c2
              have c2 := (HBX2.out.below (below_tr hbo hbp)).cell 2 rfl
              have hszp := hbp.size
              have hb0p := below_tr hbel (below_tr hbo hbp)
              by_cases hlq : q < m
              · obtain ⟨b', o', hbo', hb', he'⟩ := HC.out q (by omega)
                injection hbo' with hbo'
                injection hbo' with e1 e2
                subst e1; subst e2
                have x1 := (HD1.out.below hb hb0p).2.1
                have x2 := (he'.below hb' hb0p).2.1
                clear he'
                have HKS := hid (show J.cos[q].ke.data.toList ≠ J.cos[m].ke.data.toList → Jn.ApK J.cos m (q + 1) from fun h => Jn.apK_succ HAK.out (by omega) hlm h)
                have HKT := hid (show J.cos[q].ke.data.toList = J.cos[m].ke.data.toList → Jn.chkE J = 6 from fun h => HTW.out _ HR.out (Jn.not_apart hlm hlq h))
                generalize J.cos[q].ke = kq at *
                generalize J.cos[m].ke = km at *
                have hbd : Below w.heap.size w wr.drew := below_tr hb0p (Below.refl _ _).drew
                have hbpd : Below wp.heap.size wp wr.drew := below_tr hbp (Below.refl _ _).drew
                cases hkk : (kq.toList == km.toList) with
                | true =>
                 have HE := hid (HKT.out (by simpa [Lib.toList_data] using hkk))
                 go_wp2_with fail
                 go_region
                 go_wp2_with fail
                 go_ret2
                 exact ⟨_, by rw [HE.out]; rfl, (fun h => by rw [HE.out] at h; exact absurd h (by decide)), hbd⟩
                | false =>
                 have HN := hid (HKS.out (by simpa [Lib.toList_data] using hkk))
                 go_wp2_with fail
                 go_region
                 go_wp2_with fail
                 go_roundw
                 case rel => exact ⟨q + 1, by omega, by simp, HN, hbpd⟩
                 case measure => simp [intOf]; omega
              · obtain rfl : q = m := by omega
                have HAN : Hid (Jn.Apart (J.cos.take (q + 1))) := Jn.apart_succ hlm HAP.out HAK.out
                have hbop := below_tr hbo hbp
                go_wp2_with fail
                go_roundw
                case rel => exact ⟨q + 1, by omega, by simp, HAN, hbop⟩
                case measure => simp [intOf]; omega
           · obtain rfl : m = J.cos.length := by omega
             have HAP2 := hid (show Jn.Apart J.cos from by have := HAP.out; rwa [List.take_length] at this)
             have HE := hid (HOK.out _ HR.out HAP2.out)
             have HLT3 := hid (HLT2.out.below hbo)
             have hb0o := below_tr hbel hbo
             clear hlm
             go_wp2_with fail
             go_ret2
             exact ⟨_, by rw [HE.out]; rfl, fun _ => HLT3.out, hb0o⟩
   · have HE := hid (Jn.chk_first ht hf)
     have hzz : (Pp.verE J.first == 0) = false := by simpa using hf
     clear ht hf
     go_enter Tryz.func51, Tryz.ntmps51
     go_wp2_with fail
     rw [← hwz]
     clear hwz
     refine (rCheckTree_any J.base _ _ (HVB.out.below hbz) HP.out).mono ?_
     rintro e w1 ⟨rfl, hb1⟩
     rw [HT.out]
     have c1 := (HBX.out.below hb1).cell 1 rfl
     go_wp2_with fail
     refine (isVersion_any J.first _).mono ?_
     rintro e w2 ⟨rfl, hw⟩
     rw [hw]
     clear hw w2
     go_wp2_with fail
     go_ret2
     exact ⟨_, by rw [HE.out]; rfl, (fun h => by rw [HE.out] at h; exact absurd h (by decide)), below_tr hbz hb1⟩
 · have hzz : (Pp.treeE J.base == 0) = false := by simpa using ht
   have HE := hid (Jn.chk_tree ht)
   have HN := hid ht
   go_enter Tryz.func51, Tryz.ntmps51
   go_wp2_with fail
   rw [← hwz]
   clear hwz
   refine (rCheckTree_any J.base _ _ (HVB.out.below hbz) HP.out).mono ?_
   rintro e w1 ⟨rfl, hb1⟩
   go_wp2_with fail
   go_ret2
   exact ⟨_, by rw [HE.out]; rfl, fun h => absurd (HE.out ▸ h) HN.out, below_tr hbz hb1⟩
end Go.Proofs.YtmdkecdhgjjceaaGreat
set_option linter.unusedSimpArgs false
set_option linter.unusedVariables false
namespace Go.Proofs.YtmdkecdhgjjceaaGreat
open Go.RowKit

set_option maxRecDepth 100000 in
set_option maxHeartbeats 1000000 in
theorem checkJournal_any (J : Jo) (v : Value) (w : World) (hv : LiesJ w v J) (hp : ∀ e ∈ J.base, e.path.size ≤ 1000000000) (hcs : SizedO 1000000000 J.cos) :
    Calls Tryz.prog 34 #[v] w fun e w' => e = .returned (.int .i64 (Jn.chkE J)) ∧ Below w.heap.size w w' := by
 have HV := hid hv
 have HP := hid hp
 have HCS := hid hcs
 obtain ⟨vb, vc, rfl, hvb, hvc⟩ := hv
 obtain ⟨ba, bcap, rfl, _⟩ := hvb
 obtain ⟨ca, ccap, rfl, _⟩ := hvc
 clear hp hcs
 have hbw : Below w.heap.size w (w.alloc (.cells #[.slice ba J.base.length bcap, .int .i64 J.first, .slice ca J.cos.length ccap] 59)) := (Below.refl _ _).alloc (Nat.le_refl _) _
 go_enter Tryz.func34, Tryz.ntmps34
 go_wp2_with fail
 refine (openJournal_any J _ _ (HV.out.below hbw) HP.out HCS.out).mono ?_
 rintro e w1 ⟨p, rfl, _, hb1⟩
 have hb01 := below_tr hbw hb1
 go_wp2_with fail
 go_ret
 exact ⟨rfl, hb01⟩

set_option maxRecDepth 100000 in
set_option maxHeartbeats 1000000 in
theorem treeOf_any (J : Jo) (v : Value) (w : World) (hv : LiesJ w v J) (hp : ∀ e ∈ J.base, e.path.size ≤ 1000000000) (hcs : SizedO 1000000000 J.cos) (h0 : Jn.chkE J = 0) :
    Calls Tryz.prog 21 #[v] w fun e w' => ∃ r, e = .returned r ∧ Lies w' r (Jn.tree J) ∧ Below w.heap.size w w' := by
 have HV := hid hv
 have HP := hid hp
 have HCS := hid hcs
 have H0 := hid h0
 have HTT := hid (Jn.tree_trAt h0)
 obtain ⟨vb, vc, rfl, hvb, hvc⟩ := hv
 obtain ⟨ba, bcap, rfl, _⟩ := hvb
 obtain ⟨ca, ccap, rfl, _⟩ := hvc
 clear hp hcs h0
 have hbw : Below w.heap.size w (w.alloc (.cells #[.slice ba J.base.length bcap, .int .i64 J.first, .slice ca J.cos.length ccap] 59)) := (Below.refl _ _).alloc (Nat.le_refl _) _
 go_enter Tryz.func21, Tryz.ntmps21
 go_wp2_with fail
 refine (openJournal_any J _ _ (HV.out.below hbw) HP.out HCS.out).mono ?_
 rintro e w1 ⟨p, rfl, hT, hb1⟩
 obtain ⟨a, cap, rfl, hc1, hc2, hat⟩ := hT H0.out
 obtain ⟨b, o, u, rfl, hb, hcell, hli⟩ := hat J.cos.length (by omega)
 rw [← HTT.out] at hli
 have HLI := hid hli
 obtain ⟨ua, ucap, rfl, _⟩ := hli
 have hb01 := below_tr hbw hb1
 have e1 : IntKind.i64.wrap (((J.cos.length + 1 : Nat) : Int) - 1) = (J.cos.length : Int) := by rw [IntKind.wrap_i64]; omega
 have e2 : (J.cos.length : Int) < ((J.cos.length + 1 : Nat) : Int) := by omega
 clear hT hat
 go_wp2_with fail
 go_ret
 exact ⟨_, rfl, HLI.out, hb01⟩

end Go.Proofs.YtmdkecdhgjjceaaGreat
