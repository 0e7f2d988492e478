/- What delta.Diff answers of no tree and of a tree with one file; and how delta begins. -/
import Derived.Test.YtflekhcmipmelaaGreatDoorPG
set_option linter.unusedSimpArgs false
set_option linter.unusedVariables false
namespace Go.Proofs.YtflekhcmipmelaaGreatDoor
open Go.RowKit Go.Maps Go.WideMaps

set_option maxRecDepth 100000 in
set_option maxHeartbeats 2000000 in
theorem diff_one (p t : ByteArray) (k : Int) (v : Value) (w : World) (hv : Lies w v [⟨p, false, t, k⟩]) (hp : p.size ≤ 1000) (ht : t.size ≤ 1000) (htr : Pp.treeE [⟨p, false, t, k⟩] = 0) :
    Calls Tryz.prog 40 #[.slice none 0 0, v] w fun e w' => ∃ u, e = .returned (.tuple #[u, .int .i64 0]) ∧ w'.ownsRow w.heap.size 35 5 u 1 (Pp.cellsC ⟨2, p, ⟨#[]⟩, t, -1⟩) ∧ Below w.heap.size w w' := by
  obtain ⟨i0, hi0, hz0, hz1, hz2⟩ := info_parts Tryz.infoChg
  have HV := hid hv
  have HT := hid htr
  have HS : Hid (Sized [⟨p, false, t, k⟩]) := (fun e he => by
    have : e = ⟨p, false, t, k⟩ := by simpa using he
    subst this
    exact ⟨by show p.size ≤ _; omega, by show t.size ≤ _; omega⟩ : Sized [⟨p, false, t, k⟩])
  have hpm : p.size ≤ maxLen := by unfold maxLen; omega
  clear hv htr
  go_enter Tryz.func40, Tryz.ntmps40
  go_wp2_with fail
  refine (tcheck_all [] _ _ (lies_nil _) (fun e he => by cases he)).mono ?_
  rintro e w1 ⟨rfl, hb1⟩
  rw [show Pp.treeE [] = 0 from by decide]
  go_wp2_with fail
  refine (tcheck_all _ _ _ (HV.out.below hb1) HS.out).mono ?_
  rintro e w2 ⟨rfl, hb2⟩
  rw [HT.out]
  have hb02 := below_trans hb1 hb2
  clear hb1 hb2
  go_wp2_with fail
  refine (spotOf_nil _).mono ?_
  rintro e w3 ⟨b, rfl, hbb, hob, hb3⟩
  have HOB := hid hob
  have hb03 := below_trans hb02 hb3
  clear hb3 hob
  go_wp2_with fail
  refine (spotOf_one p t k _ _ (HV.out.below hb03) hpm).mono ?_
  rintro e w4 ⟨c, rfl, hcc, hoc, hb4⟩
  have HOC := hid hoc
  have HOB4 := hid (omap_below HOB.out hb4 HOB.out.lt)
  have hb04 := below_trans hb03 hb4
  clear hb4 hoc
  go_wp2_with fail
  refine (deletes_none HOB4.out).mono ?_
  rintro e w5 ⟨rfl, hb5⟩
  have HOB5 := hid (omap_below HOB4.out hb5 HOB4.out.lt)
  have HOC5 := hid (omap_below HOC.out hb5 HOC.out.lt)
  have hb05 := below_trans hb04 hb5
  clear hb5
  go_wp2_with fail
  refine (makes_one HOB5.out HOC5.out hpm).mono ?_
  rintro e w6 ⟨u, rfl, hou, hb6⟩
  have hb06 := below_trans hb05 hb6
  have hsz6 := hb06.size
  have hsz5 := hb05.size
  obtain ⟨g, cap, hu, hgl, hgc⟩ : ∃ g cap, u = .slice (some ⟨g, 0, none⟩) 1 cap ∧ g < w6.heap.size ∧ ∀ j x, (Pp.cellsC ⟨2, p, ⟨#[]⟩, t, -1⟩)[j]? = some x → w6.cell? ((⟨g, 0, none⟩ : Addr).add j) = some x := by
    have hou' := hou
    obtain ⟨hl, h2⟩ := hou
    rcases h2 with ⟨_, hz⟩ | ⟨g, cap, cur, hv, hg, hh, hn, hm, hz, htake⟩
    · cases hz
    · subst hv
      refine ⟨g, cap, rfl, ?_, fun j x hj => ?_⟩
      · rcases Nat.lt_or_ge g w6.heap.size with h | h
        · exact h
        · rw [Array.getElem?_eq_none h] at hh; cases hh
      · have hadd : (⟨g, 0, none⟩ : Addr).add j = ⟨g, j, none⟩ := by unfold Addr.add; split <;> simp_all
        have hlt : j < 1 * 5 := by
          have := (List.getElem?_eq_some_iff.1 hj).1
          simpa [Pp.cellsC] using this
        rw [hadd, hou'.cellAt j hlt]
        exact hj
  subst hu
  have HGC := hid hgc
  clear hou hgc hb6
  go_wp2_with (at_builtin; refine wpList_append_own _ rfl _ _ 23 rfl w.heap.size 35 i0 (.agg #[.int .i64 0, .string ⟨#[]⟩, .string ⟨#[]⟩, .string ⟨#[]⟩, .int .i64 0]) 5 64 Tryz.underlying23 hi0 hz0 hz1 hz2 rfl (by decide) (.slice none 0 0) 0 [] rfl (World.ownsRow_nil _ _ _ _) ⟨g, 0, none⟩ 1 cap (Pp.cellsC ⟨2, p, ⟨#[]⟩, t, -1⟩) rfl rfl HGC.out (Pp.cellsC_one _) (by unfold maxLen; omega) (by omega) (by omega) ?_)
  intro v7 w7 ho7 hgr7 hnn7
  have hb07 : Below w.heap.size w w7 := hb06.grown hgr7 hsz6 (fun q hq => by simp [Value.ownBlock] at hq)
  have HO7 : Hid (w7.ownsRow w.heap.size 35 5 v7 1 (Pp.cellsC ⟨2, p, ⟨#[]⟩, t, -1⟩)) := (by simpa using ho7 : w7.ownsRow w.heap.size 35 5 v7 1 (Pp.cellsC ⟨2, p, ⟨#[]⟩, t, -1⟩))
  clear ho7 hgr7 hnn7
  go_wp2_with fail
  go_ret2
  exact ⟨_, rfl, HO7.out, hb07⟩

set_option maxRecDepth 100000 in
set_option maxHeartbeats 1000000 in
theorem deltaBegun_yes (w : World) : Calls Tryz.prog 21 #[] w fun e w' => e = .returned (.bool true) ∧ Below w.heap.size w w' := by
  have HL : Hid (Lies (w.alloc (.cells #[.string ⟨#[97]⟩, .bool false, .string ⟨#[120]⟩, .int .i64 1] 46)) (.slice (some ⟨w.heap.size, 0, none⟩) 1 1) [⟨⟨#[97]⟩, false, ⟨#[120]⟩, 1⟩]) := (⟨_, 1, rfl, Nat.le_refl _, by simp, fun i hi => by
    have : i = 0 := by simpa using hi
    subst this
    exact ⟨w.heap.size, 0, rfl, by simp, by simp, by simp, by simp, by simp⟩⟩ : Lies (w.alloc (.cells #[.string ⟨#[97]⟩, .bool false, .string ⟨#[120]⟩, .int .i64 1] 46)) (.slice (some ⟨w.heap.size, 0, none⟩) 1 1) [⟨⟨#[97]⟩, false, ⟨#[120]⟩, 1⟩])
  have hbw : Below w.heap.size w (w.alloc (.cells #[.string ⟨#[97]⟩, .bool false, .string ⟨#[120]⟩, .int .i64 1] 46)) := (Below.refl _ _).alloc (Nat.le_refl _) _
  go_enter Tryz.func21, Tryz.ntmps21
  go_wp2_with fail
  refine (diff_one ⟨#[97]⟩ ⟨#[120]⟩ 1 _ _ HL.out (by decide) (by decide) (by decide)).mono ?_
  rintro e w1 ⟨u, rfl, hou, hb1⟩
  have hb01 := hbw.trans (hb1.mono (by simp))
  have hou' := hou
  obtain ⟨hl, h2⟩ := hou
  rcases h2 with ⟨_, hz⟩ | ⟨g, cap, cur, hv, hg, hh, hn, hm, hz, htake⟩
  · cases hz
  subst hv
  have c0 : w1.cell? ⟨g, 0, none⟩ = some (.int .i64 2) := by rw [hou'.cellAt 0 (by decide)]; rfl
  clear hou' hl hh htake hz
  go_wp2_with fail
  go_ret
  exact ⟨rfl, hb01⟩
end Go.Proofs.YtflekhcmipmelaaGreatDoor
