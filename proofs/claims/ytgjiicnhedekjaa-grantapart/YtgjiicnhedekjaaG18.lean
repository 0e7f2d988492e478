/- What the reference's PutGrant answers: the grants with one in its place. -/
import Derived.Test.YtgjiicnhedekjaaG17
set_option linter.unusedSimpArgs false
set_option linter.unusedVariables false
namespace Go.Proofs.Ytgjiicnhedekjaa
open Go.RowKit

namespace Pp
theorem gstp_ny {x : Gr} {X : List Gr} {pb : Bool} {y : Gr} (h : pb = true ∨ ltG y x = true) (h2 : othG x y = true) : gstp x (X, pb) y = (X ++ [y], pb) := by
  rw [gstp]
  rcases h with h | h
  · subst h; simp [h2]
  · simp [h2, h]
theorem gstp_nn {x : Gr} {X : List Gr} {y : Gr} (h2 : othG x y = false) : gstp x (X, true) y = (X, true) := by
  rw [gstp]; simp [h2]
theorem gstp_yn {x : Gr} {X : List Gr} {y : Gr} (h : ltG y x = false) (h2 : othG x y = false) : gstp x (X, false) y = (X ++ [x], true) := by
  rw [gstp]; simp [h2, h]
theorem gstp_yy {x : Gr} {X : List Gr} {y : Gr} (h : ltG y x = false) (h2 : othG x y = true) : gstp x (X, false) y = (X ++ [x] ++ [y], true) := by
  rw [gstp]; simp [h2, h]
theorem cS_eq {a b : ByteArray} (h1 : Op.bytesLess a.toList b.toList = false) (h2 : (a.toList == b.toList) = true) : cS a b = 0 := by rw [cS, h1, h2]; simp
theorem cS_ne {a b : ByteArray} (h2 : (a.toList == b.toList) = false) : ¬ cS a b = 0 := by rw [cS, h2]; split <;> simp
theorem oth_fo {x y : Gr} (h : (y.fo.toList == x.fo.toList) = false) : othG x y = true := by
  have h1 := cS_ne h
  rw [othG, cG, if_neg h1]; simpa using h1
theorem oth_wh {x y : Gr} (h1 : Op.bytesLess y.fo.toList x.fo.toList = false) (h2 : (y.fo.toList == x.fo.toList) = true) (h : (y.wh.toList == x.wh.toList) = false) : othG x y = true := by
  have h3 := cS_ne h
  rw [othG, cG, if_pos (cS_eq h1 h2)]; simpa using h3
theorem oth_no {x y : Gr} (h1 : Op.bytesLess y.fo.toList x.fo.toList = false) (h2 : (y.fo.toList == x.fo.toList) = true) (h3 : Op.bytesLess y.wh.toList x.wh.toList = false) (h : (y.wh.toList == x.wh.toList) = true) : othG x y = false := by
  rw [othG, cG, if_pos (cS_eq h1 h2), cS_eq h3 h]; rfl
theorem gputS_len (x : Gr) (b : Bool) (L : List Gr) : ∀ k, k ≤ L.length → (gputS x b (L.take k)).1.length ≤ 2 * k := by
  intro k
  induction k with
  | zero => intro _; simp [gputS]
  | succ k ih =>
    intro hk
    have := ih (by omega)
    rw [List.take_succ_eq_append_getElem (by omega), gputS_snoc, gstp]
    split <;> split <;> simp only [List.length_append, List.length_cons, List.length_nil] <;> omega
end Pp
theorem grown_cell {w w' : World} {row : Option Nat} {p : Addr} {v : Value} (hg : w.grownBy w' row) (hp : p.block < w.heap.size) (hr : row ≠ some p.block) (h : w.cell? p = some v) : w'.cell? p = some v :=
  (World.cell?_of_block (w := w) (hg.block p.block hp (fun e => hr e.symm))).trans h

set_option maxRecDepth 100000 in
set_option maxHeartbeats 4000000 in
theorem putGrant_any (G : List Gr) (v : Value) (f m : ByteArray) (r : Int) (w : World) (hv : LiesG w v G) (hn : G.length ≤ 1000) :
    Calls Try.prog 23 #[v, .string f, .string m, .int .i64 r] w fun e w' => ∃ u, e = .returned u ∧ w'.ownsRow w.heap.size 33 3 u (Pp.gputR ⟨f, m, r⟩ (r == 0) G).length (Pp.flatG (Pp.gputR ⟨f, m, r⟩ (r == 0) G)) ∧ Below w.heap.size w w' := by
  obtain ⟨i0, hi0, hz0, hz1, hz2⟩ := info_parts Try.infoG
  obtain ⟨a, cap, rfl, hcap, hcap2, hLL⟩ := hv
  have HL : Hid (∀ i (h : i < G.length), ∃ b o, a = some ⟨b, o, none⟩ ∧ b < w.heap.size ∧ GrAt w b (o + i * 3) G[i]) := hLL
  clear hLL
  obtain ⟨b0, hb0⟩ : ∃ b0, b0 = (r == 0) := ⟨_, rfl⟩
  have HX : Hid (∀ k, ∀ h' : k < G.length, Pp.gputS ⟨f, m, r⟩ b0 (G.take (k + 1)) = Pp.gstp ⟨f, m, r⟩ (Pp.gputS ⟨f, m, r⟩ b0 (G.take k)) G[k]) := (fun k h' => by rw [List.take_succ_eq_append_getElem h', Pp.gputS_snoc] : ∀ k, ∀ h' : k < G.length, Pp.gputS ⟨f, m, r⟩ b0 (G.take (k + 1)) = Pp.gstp ⟨f, m, r⟩ (Pp.gputS ⟨f, m, r⟩ b0 (G.take k)) G[k])
  have HLEN : Hid (∀ k, k ≤ G.length → (Pp.gputS ⟨f, m, r⟩ b0 (G.take k)).1.length ≤ 2 * k) := (Pp.gputS_len _ _ _ : ∀ k, k ≤ G.length → (Pp.gputS ⟨f, m, r⟩ b0 (G.take k)).1.length ≤ 2 * k)
  rw [← hb0]
  go_enter Try.func23, Try.ntmps23
  go_wp2_with fail
  go_loopw [9, 10, 11] (fun o pt i wr => ∃ k : Nat, k ≤ G.length ∧ i = .int .i64 k ∧ pt = .bool (Pp.gputS ⟨f, m, r⟩ b0 (G.take k)).2 ∧ wr.ownsRow w.heap.size 33 3 o (Pp.gputS ⟨f, m, r⟩ b0 (G.take k)).1.length (Pp.flatG (Pp.gputS ⟨f, m, r⟩ b0 (G.take k)).1) ∧ Below w.heap.size w wr) (fun _ _ i _ => G.length - (intOf i).toNat)
  case atStart => exact ⟨0, Nat.zero_le _, rfl, by rw [List.take_zero, hb0]; rfl, World.ownsRow_nil _ _ _ _, Below.refl _ _⟩
  case round =>
    clear hb0
    obtain ⟨k, hk, rfl, rfl, hown, hbel⟩ := hrel
    have hle := HLEN.out k hk
    by_cases hlt : k < G.length
    · obtain ⟨b, o, rfl, hb, he⟩ := HL.out k hlt
      obtain ⟨c0, c1, c2⟩ := he.below hb hbel
      have hstp := HX.out k hlt
      clear he
      generalize Pp.gputS ⟨f, m, r⟩ b0 (G.take k) = S at *
      obtain ⟨X, pb⟩ := S
      simp only at hle hown
      generalize G[k] = y at *
      have hbsz := hbel.size
      obtain ⟨wz, hwz⟩ : ∃ wz, wz = wr.alloc (.cells #[.string y.fo, .string y.wh, .int .i64 y.ri] 33) := ⟨_, rfl⟩
      have hownz := hwz ▸ hown.alloc (.cells #[.string y.fo, .string y.wh, .int .i64 y.ri] 33)
      have hbelz : Below w.heap.size w wz := hwz ▸ hbel.alloc hbel.size _
      have q0 : wz.cell? ⟨wr.heap.size, 0, none⟩ = some (.string y.fo) := by rw [hwz]; simp
      have q1 : wz.cell? ⟨wr.heap.size, 1, none⟩ = some (.string y.wh) := by rw [hwz]; simp
      have q2 : wz.cell? ⟨wr.heap.size, 2, none⟩ = some (.int .i64 y.ri) := by rw [hwz]; simp
      have hszz : wz.heap.size = wr.heap.size + 1 := by rw [hwz]; simp
      have hz : ∀ (o : Obj) (c : Nat), (wz.alloc o).cell? ⟨wr.heap.size, c, none⟩ = wz.cell? ⟨wr.heap.size, c, none⟩ := fun o c => ((Below.refl wz.heap.size wz).alloc (Nat.le_refl _) o).cell (p := ⟨wr.heap.size, c, none⟩) (by show wr.heap.size < wz.heap.size; omega)
      have HZ := ghid hz
      have HBZ := ghid hbelz
      have HOZ := ghid hownz
      have HOW := ghid hown
      have HB := ghid hbel
      clear hbelz hownz hown hbel hz
      cases pb with
      | true =>
        rcases Pp.tri y.fo f with ⟨t1, t2, t3, t4⟩ | ⟨t1, t2, t3, t4⟩ | ⟨t1, t2, t3, t4⟩
        · have HST : Hid (Pp.gputS ⟨f, m, r⟩ b0 (G.take (k + 1)) = (X ++ [y], true)) := (by rw [hstp]; exact Pp.gstp_ny (Or.inl rfl) (Pp.oth_fo t3) : Pp.gputS ⟨f, m, r⟩ b0 (G.take (k + 1)) = (X ++ [y], true))
          clear hstp
          go_wp2_with (at_builtin; rw [← hwz]; refine wpList_append_own _ rfl _ _ 22 rfl w.heap.size 33 i0 (.agg #[.string ⟨#[]⟩, .string ⟨#[]⟩, .int .i64 0]) 3 40 Try.underlying22 hi0 hz0 hz1 hz2 rfl (by decide) _ _ _ rfl (HOZ.out.alloc _) ⟨wr.heap.size + 1, 0, none⟩ 1 1 (Pp.cellsG y) rfl rfl (by rw [← hszz]; exact new_cellsG wz y _) (Pp.cellsG_one _) (by unfold maxLen; omega) (by omega) (by simp; omega) ?_)
          intro v2 w2 ho2 hgr2 hnn2
          rw [← hwz] at hgr2
          rw [Pp.flatG_snoc] at ho2
          have hown2 : w2.ownsRow w.heap.size 33 3 v2 (X ++ [y]).length (Pp.flatG (X ++ [y])) := by rw [List.length_append]; exact ho2
          have hbel2 : Below w.heap.size w w2 := (HBZ.out.alloc HBZ.out.size _).grown hgr2 (by simp; omega) (fun g hg => (HOW.out.lt g hg).1)
          have HO2 := ghid hown2
          have HB2 := ghid hbel2
          clear ho2 hgr2 hnn2 hown2 hbel2 hwz q0 q1 q2
          go_wp2_with fail
          go_roundw
          case rel => exact ⟨k + 1, by omega, by simp, by rw [HST.out], by rw [HST.out]; exact HO2.out, HB2.out⟩
          case measure => simp [intOf]; omega
        · rcases Pp.tri y.wh m with ⟨s1, s2, s3, s4⟩ | ⟨s1, s2, s3, s4⟩ | ⟨s1, s2, s3, s4⟩
          · have HST : Hid (Pp.gputS ⟨f, m, r⟩ b0 (G.take (k + 1)) = (X ++ [y], true)) := (by rw [hstp]; exact Pp.gstp_ny (Or.inl rfl) (Pp.oth_wh t1 t3 s3) : Pp.gputS ⟨f, m, r⟩ b0 (G.take (k + 1)) = (X ++ [y], true))
            clear hstp
            go_wp2_with (at_builtin; rw [← hwz]; refine wpList_append_own _ rfl _ _ 22 rfl w.heap.size 33 i0 (.agg #[.string ⟨#[]⟩, .string ⟨#[]⟩, .int .i64 0]) 3 40 Try.underlying22 hi0 hz0 hz1 hz2 rfl (by decide) _ _ _ rfl (HOZ.out.alloc _) ⟨wr.heap.size + 1, 0, none⟩ 1 1 (Pp.cellsG y) rfl rfl (by rw [← hszz]; exact new_cellsG wz y _) (Pp.cellsG_one _) (by unfold maxLen; omega) (by omega) (by simp; omega) ?_)
            intro v2 w2 ho2 hgr2 hnn2
            rw [← hwz] at hgr2
            rw [Pp.flatG_snoc] at ho2
            have hown2 : w2.ownsRow w.heap.size 33 3 v2 (X ++ [y]).length (Pp.flatG (X ++ [y])) := by rw [List.length_append]; exact ho2
            have hbel2 : Below w.heap.size w w2 := (HBZ.out.alloc HBZ.out.size _).grown hgr2 (by simp; omega) (fun g hg => (HOW.out.lt g hg).1)
            have HO2 := ghid hown2
            have HB2 := ghid hbel2
            clear ho2 hgr2 hnn2 hown2 hbel2 hwz q0 q1 q2
            go_wp2_with fail
            go_roundw
            case rel => exact ⟨k + 1, by omega, by simp, by rw [HST.out], by rw [HST.out]; exact HO2.out, HB2.out⟩
            case measure => simp [intOf]; omega
          · have HST : Hid (Pp.gputS ⟨f, m, r⟩ b0 (G.take (k + 1)) = (X, true)) := (by rw [hstp]; exact Pp.gstp_nn (Pp.oth_no t1 t3 s1 s3) : Pp.gputS ⟨f, m, r⟩ b0 (G.take (k + 1)) = (X, true))
            clear hstp
            go_wp2_with fail
            go_roundw
            case rel => exact ⟨k + 1, by omega, by simp, by rw [HST.out], by rw [HST.out]; first | exact HOZ.out | (rw [← hwz]; exact HOZ.out), by first | exact HBZ.out | (rw [← hwz]; exact HBZ.out)⟩
            case measure => simp [intOf]; omega
          · have HST : Hid (Pp.gputS ⟨f, m, r⟩ b0 (G.take (k + 1)) = (X ++ [y], true)) := (by rw [hstp]; exact Pp.gstp_ny (Or.inl rfl) (Pp.oth_wh t1 t3 s3) : Pp.gputS ⟨f, m, r⟩ b0 (G.take (k + 1)) = (X ++ [y], true))
            clear hstp
            go_wp2_with (at_builtin; rw [← hwz]; refine wpList_append_own _ rfl _ _ 22 rfl w.heap.size 33 i0 (.agg #[.string ⟨#[]⟩, .string ⟨#[]⟩, .int .i64 0]) 3 40 Try.underlying22 hi0 hz0 hz1 hz2 rfl (by decide) _ _ _ rfl (HOZ.out.alloc _) ⟨wr.heap.size + 1, 0, none⟩ 1 1 (Pp.cellsG y) rfl rfl (by rw [← hszz]; exact new_cellsG wz y _) (Pp.cellsG_one _) (by unfold maxLen; omega) (by omega) (by simp; omega) ?_)
            intro v2 w2 ho2 hgr2 hnn2
            rw [← hwz] at hgr2
            rw [Pp.flatG_snoc] at ho2
            have hown2 : w2.ownsRow w.heap.size 33 3 v2 (X ++ [y]).length (Pp.flatG (X ++ [y])) := by rw [List.length_append]; exact ho2
            have hbel2 : Below w.heap.size w w2 := (HBZ.out.alloc HBZ.out.size _).grown hgr2 (by simp; omega) (fun g hg => (HOW.out.lt g hg).1)
            have HO2 := ghid hown2
            have HB2 := ghid hbel2
            clear ho2 hgr2 hnn2 hown2 hbel2 hwz q0 q1 q2
            go_wp2_with fail
            go_roundw
            case rel => exact ⟨k + 1, by omega, by simp, by rw [HST.out], by rw [HST.out]; exact HO2.out, HB2.out⟩
            case measure => simp [intOf]; omega
        · have HST : Hid (Pp.gputS ⟨f, m, r⟩ b0 (G.take (k + 1)) = (X ++ [y], true)) := (by rw [hstp]; exact Pp.gstp_ny (Or.inl rfl) (Pp.oth_fo t3) : Pp.gputS ⟨f, m, r⟩ b0 (G.take (k + 1)) = (X ++ [y], true))
          clear hstp
          go_wp2_with (at_builtin; rw [← hwz]; refine wpList_append_own _ rfl _ _ 22 rfl w.heap.size 33 i0 (.agg #[.string ⟨#[]⟩, .string ⟨#[]⟩, .int .i64 0]) 3 40 Try.underlying22 hi0 hz0 hz1 hz2 rfl (by decide) _ _ _ rfl (HOZ.out.alloc _) ⟨wr.heap.size + 1, 0, none⟩ 1 1 (Pp.cellsG y) rfl rfl (by rw [← hszz]; exact new_cellsG wz y _) (Pp.cellsG_one _) (by unfold maxLen; omega) (by omega) (by simp; omega) ?_)
          intro v2 w2 ho2 hgr2 hnn2
          rw [← hwz] at hgr2
          rw [Pp.flatG_snoc] at ho2
          have hown2 : w2.ownsRow w.heap.size 33 3 v2 (X ++ [y]).length (Pp.flatG (X ++ [y])) := by rw [List.length_append]; exact ho2
          have hbel2 : Below w.heap.size w w2 := (HBZ.out.alloc HBZ.out.size _).grown hgr2 (by simp; omega) (fun g hg => (HOW.out.lt g hg).1)
          have HO2 := ghid hown2
          have HB2 := ghid hbel2
          clear ho2 hgr2 hnn2 hown2 hbel2 hwz q0 q1 q2
          go_wp2_with fail
          go_roundw
          case rel => exact ⟨k + 1, by omega, by simp, by rw [HST.out], by rw [HST.out]; exact HO2.out, HB2.out⟩
          case measure => simp [intOf]; omega
      | false =>
        rcases Pp.tri y.fo f with ⟨t1, t2, t3, t4⟩ | ⟨t1, t2, t3, t4⟩ | ⟨t1, t2, t3, t4⟩
        · have HST : Hid (Pp.gputS ⟨f, m, r⟩ b0 (G.take (k + 1)) = (X ++ [y], false)) := (by rw [hstp]; exact Pp.gstp_ny (Or.inr (by rw [Pp.ltG]; simp [Pp.ls, t1] : Pp.ltG y ⟨f, m, r⟩ = true)) (Pp.oth_fo t3) : Pp.gputS ⟨f, m, r⟩ b0 (G.take (k + 1)) = (X ++ [y], false))
          clear hstp
          go_wp2_with (at_builtin; rw [← hwz]; refine wpList_append_own _ rfl _ _ 22 rfl w.heap.size 33 i0 (.agg #[.string ⟨#[]⟩, .string ⟨#[]⟩, .int .i64 0]) 3 40 Try.underlying22 hi0 hz0 hz1 hz2 rfl (by decide) _ _ _ rfl (HOZ.out.alloc _) ⟨wr.heap.size + 1, 0, none⟩ 1 1 (Pp.cellsG y) rfl rfl (by rw [← hszz]; exact new_cellsG wz y _) (Pp.cellsG_one _) (by unfold maxLen; omega) (by omega) (by simp; omega) ?_)
          intro v2 w2 ho2 hgr2 hnn2
          rw [← hwz] at hgr2
          rw [Pp.flatG_snoc] at ho2
          have hown2 : w2.ownsRow w.heap.size 33 3 v2 (X ++ [y]).length (Pp.flatG (X ++ [y])) := by rw [List.length_append]; exact ho2
          have hbel2 : Below w.heap.size w w2 := (HBZ.out.alloc HBZ.out.size _).grown hgr2 (by simp; omega) (fun g hg => (HOW.out.lt g hg).1)
          have HO2 := ghid hown2
          have HB2 := ghid hbel2
          clear ho2 hgr2 hnn2 hown2 hbel2 hwz q0 q1 q2
          go_wp2_with fail
          go_roundw
          case rel => exact ⟨k + 1, by omega, by simp, by rw [HST.out], by rw [HST.out]; exact HO2.out, HB2.out⟩
          case measure => simp [intOf]; omega
        · rcases Pp.tri y.wh m with ⟨s1, s2, s3, s4⟩ | ⟨s1, s2, s3, s4⟩ | ⟨s1, s2, s3, s4⟩
          · have HST : Hid (Pp.gputS ⟨f, m, r⟩ b0 (G.take (k + 1)) = (X ++ [y], false)) := (by rw [hstp]; exact Pp.gstp_ny (Or.inr (by rw [Pp.ltG]; simp [Pp.ls, t1, t2, s1] : Pp.ltG y ⟨f, m, r⟩ = true)) (Pp.oth_wh t1 t3 s3) : Pp.gputS ⟨f, m, r⟩ b0 (G.take (k + 1)) = (X ++ [y], false))
            clear hstp
            go_wp2_with (at_builtin; rw [← hwz]; refine wpList_append_own _ rfl _ _ 22 rfl w.heap.size 33 i0 (.agg #[.string ⟨#[]⟩, .string ⟨#[]⟩, .int .i64 0]) 3 40 Try.underlying22 hi0 hz0 hz1 hz2 rfl (by decide) _ _ _ rfl (HOZ.out.alloc _) ⟨wr.heap.size + 1, 0, none⟩ 1 1 (Pp.cellsG y) rfl rfl (by rw [← hszz]; exact new_cellsG wz y _) (Pp.cellsG_one _) (by unfold maxLen; omega) (by omega) (by simp; omega) ?_)
            intro v2 w2 ho2 hgr2 hnn2
            rw [← hwz] at hgr2
            rw [Pp.flatG_snoc] at ho2
            have hown2 : w2.ownsRow w.heap.size 33 3 v2 (X ++ [y]).length (Pp.flatG (X ++ [y])) := by rw [List.length_append]; exact ho2
            have hbel2 : Below w.heap.size w w2 := (HBZ.out.alloc HBZ.out.size _).grown hgr2 (by simp; omega) (fun g hg => (HOW.out.lt g hg).1)
            have HO2 := ghid hown2
            have HB2 := ghid hbel2
            clear ho2 hgr2 hnn2 hown2 hbel2 hwz q0 q1 q2
            go_wp2_with fail
            go_roundw
            case rel => exact ⟨k + 1, by omega, by simp, by rw [HST.out], by rw [HST.out]; exact HO2.out, HB2.out⟩
            case measure => simp [intOf]; omega
          · have HST : Hid (Pp.gputS ⟨f, m, r⟩ b0 (G.take (k + 1)) = (X ++ [Gr.mk f m r], true)) := (by rw [hstp]; exact Pp.gstp_yn ((by rw [Pp.ltG]; simp [Pp.ls, t1, t2, s1] : Pp.ltG y ⟨f, m, r⟩ = false)) (Pp.oth_no t1 t3 s1 s3) : Pp.gputS ⟨f, m, r⟩ b0 (G.take (k + 1)) = (X ++ [Gr.mk f m r], true))
            clear hstp
            go_wp2_with (at_builtin; rw [← hwz]; refine wpList_append_own _ rfl _ _ 22 rfl w.heap.size 33 i0 (.agg #[.string ⟨#[]⟩, .string ⟨#[]⟩, .int .i64 0]) 3 40 Try.underlying22 hi0 hz0 hz1 hz2 rfl (by decide) _ _ _ rfl (HOZ.out.alloc _) ⟨wr.heap.size + 1, 0, none⟩ 1 1 (Pp.cellsG (Gr.mk f m r)) rfl rfl (by rw [← hszz]; exact new_cellsG wz ⟨f, m, r⟩ _) (Pp.cellsG_one _) (by unfold maxLen; omega) (by omega) (by simp; omega) ?_)
            intro v2 w2 ho2 hgr2 hnn2
            rw [← hwz] at hgr2
            rw [Pp.flatG_snoc] at ho2
            have hown2 : w2.ownsRow w.heap.size 33 3 v2 (X ++ [Gr.mk f m r]).length (Pp.flatG (X ++ [Gr.mk f m r])) := by rw [List.length_append]; exact ho2
            have hbel2 : Below w.heap.size w w2 := (HBZ.out.alloc HBZ.out.size _).grown hgr2 (by simp; omega) (fun g hg => (HOW.out.lt g hg).1)
            have p0 : w2.cell? ⟨wr.heap.size, 0, none⟩ = some (.string y.fo) := grown_cell hgr2 (by simp; omega) (fun e => Nat.lt_irrefl _ (HOW.out.lt _ e).2) ((HZ.out _ _).trans q0)
            have p1 : w2.cell? ⟨wr.heap.size, 1, none⟩ = some (.string y.wh) := grown_cell hgr2 (by simp; omega) (fun e => Nat.lt_irrefl _ (HOW.out.lt _ e).2) ((HZ.out _ _).trans q1)
            have p2 : w2.cell? ⟨wr.heap.size, 2, none⟩ = some (.int .i64 y.ri) := grown_cell hgr2 (by simp; omega) (fun e => Nat.lt_irrefl _ (HOW.out.lt _ e).2) ((HZ.out _ _).trans q2)
            have HO2 := ghid hown2
            have HB2 := ghid hbel2
            have hsz2 := hbel2.size
            clear ho2 hgr2 hnn2 hown2 hbel2 hwz q0 q1 q2
            go_wp2_with fail
            go_roundw
            case rel => exact ⟨k + 1, by omega, by simp, by rw [HST.out], by rw [HST.out]; exact HO2.out, HB2.out⟩
            case measure => simp [intOf]; omega
          · have HST : Hid (Pp.gputS ⟨f, m, r⟩ b0 (G.take (k + 1)) = (X ++ [Gr.mk f m r] ++ [y], true)) := (by rw [hstp]; exact Pp.gstp_yy ((by rw [Pp.ltG]; simp [Pp.ls, t1, t2, s1] : Pp.ltG y ⟨f, m, r⟩ = false)) (Pp.oth_wh t1 t3 s3) : Pp.gputS ⟨f, m, r⟩ b0 (G.take (k + 1)) = (X ++ [Gr.mk f m r] ++ [y], true))
            clear hstp
            go_wp2_with (at_builtin; rw [← hwz]; refine wpList_append_own _ rfl _ _ 22 rfl w.heap.size 33 i0 (.agg #[.string ⟨#[]⟩, .string ⟨#[]⟩, .int .i64 0]) 3 40 Try.underlying22 hi0 hz0 hz1 hz2 rfl (by decide) _ _ _ rfl (HOZ.out.alloc _) ⟨wr.heap.size + 1, 0, none⟩ 1 1 (Pp.cellsG (Gr.mk f m r)) rfl rfl (by rw [← hszz]; exact new_cellsG wz ⟨f, m, r⟩ _) (Pp.cellsG_one _) (by unfold maxLen; omega) (by omega) (by simp; omega) ?_)
            intro v2 w2 ho2 hgr2 hnn2
            rw [← hwz] at hgr2
            rw [Pp.flatG_snoc] at ho2
            have hown2 : w2.ownsRow w.heap.size 33 3 v2 (X ++ [Gr.mk f m r]).length (Pp.flatG (X ++ [Gr.mk f m r])) := by rw [List.length_append]; exact ho2
            have hbel2 : Below w.heap.size w w2 := (HBZ.out.alloc HBZ.out.size _).grown hgr2 (by simp; omega) (fun g hg => (HOW.out.lt g hg).1)
            have p0 : w2.cell? ⟨wr.heap.size, 0, none⟩ = some (.string y.fo) := grown_cell hgr2 (by simp; omega) (fun e => Nat.lt_irrefl _ (HOW.out.lt _ e).2) ((HZ.out _ _).trans q0)
            have p1 : w2.cell? ⟨wr.heap.size, 1, none⟩ = some (.string y.wh) := grown_cell hgr2 (by simp; omega) (fun e => Nat.lt_irrefl _ (HOW.out.lt _ e).2) ((HZ.out _ _).trans q1)
            have p2 : w2.cell? ⟨wr.heap.size, 2, none⟩ = some (.int .i64 y.ri) := grown_cell hgr2 (by simp; omega) (fun e => Nat.lt_irrefl _ (HOW.out.lt _ e).2) ((HZ.out _ _).trans q2)
            have HO2 := ghid hown2
            have HB2 := ghid hbel2
            have hsz2 := hbel2.size
            clear ho2 hgr2 hnn2 hown2 hbel2 hwz q0 q1 q2
            have hlx : (X ++ [Gr.mk f m r]).length = X.length + 1 := by simp
            go_wp2_with (at_builtin; refine wpList_append_own _ rfl _ _ 22 rfl w.heap.size 33 i0 (.agg #[.string ⟨#[]⟩, .string ⟨#[]⟩, .int .i64 0]) 3 40 Try.underlying22 hi0 hz0 hz1 hz2 rfl (by decide) _ _ _ rfl (HO2.out.alloc _) ⟨w2.heap.size, 0, none⟩ 1 1 (Pp.cellsG y) rfl rfl (new_cellsG w2 y _) (Pp.cellsG_one _) (by unfold maxLen; omega) (by omega) (by simp; omega) ?_)
            intro v3 w3 ho3 hgr3 hnn3
            rw [Pp.flatG_snoc] at ho3
            have hown3 : w3.ownsRow w.heap.size 33 3 v3 (X ++ [Gr.mk f m r] ++ [y]).length (Pp.flatG (X ++ [Gr.mk f m r] ++ [y])) := by rw [List.length_append, hlx]; exact ho3
            have hbel3 : Below w.heap.size w w3 := (HB2.out.alloc HB2.out.size _).grown hgr3 (by simp; omega) (fun g hg => (HO2.out.lt g hg).1)
            have HO3 := ghid hown3
            have HB3 := ghid hbel3
            clear ho3 hgr3 hnn3 hown3 hbel3 p0 p1 p2
            go_wp2_with fail
            go_roundw
            case rel => exact ⟨k + 1, by omega, by simp, by rw [HST.out], by rw [HST.out]; exact HO3.out, HB3.out⟩
            case measure => simp [intOf]; omega
        · have HST : Hid (Pp.gputS ⟨f, m, r⟩ b0 (G.take (k + 1)) = (X ++ [Gr.mk f m r] ++ [y], true)) := (by rw [hstp]; exact Pp.gstp_yy ((by rw [Pp.ltG]; simp [Pp.ls, t1, t2] : Pp.ltG y ⟨f, m, r⟩ = false)) (Pp.oth_fo t3) : Pp.gputS ⟨f, m, r⟩ b0 (G.take (k + 1)) = (X ++ [Gr.mk f m r] ++ [y], true))
          clear hstp
          go_wp2_with (at_builtin; rw [← hwz]; refine wpList_append_own _ rfl _ _ 22 rfl w.heap.size 33 i0 (.agg #[.string ⟨#[]⟩, .string ⟨#[]⟩, .int .i64 0]) 3 40 Try.underlying22 hi0 hz0 hz1 hz2 rfl (by decide) _ _ _ rfl (HOZ.out.alloc _) ⟨wr.heap.size + 1, 0, none⟩ 1 1 (Pp.cellsG (Gr.mk f m r)) rfl rfl (by rw [← hszz]; exact new_cellsG wz ⟨f, m, r⟩ _) (Pp.cellsG_one _) (by unfold maxLen; omega) (by omega) (by simp; omega) ?_)
          intro v2 w2 ho2 hgr2 hnn2
          rw [← hwz] at hgr2
          rw [Pp.flatG_snoc] at ho2
          have hown2 : w2.ownsRow w.heap.size 33 3 v2 (X ++ [Gr.mk f m r]).length (Pp.flatG (X ++ [Gr.mk f m r])) := by rw [List.length_append]; exact ho2
          have hbel2 : Below w.heap.size w w2 := (HBZ.out.alloc HBZ.out.size _).grown hgr2 (by simp; omega) (fun g hg => (HOW.out.lt g hg).1)
          have p0 : w2.cell? ⟨wr.heap.size, 0, none⟩ = some (.string y.fo) := grown_cell hgr2 (by simp; omega) (fun e => Nat.lt_irrefl _ (HOW.out.lt _ e).2) ((HZ.out _ _).trans q0)
          have p1 : w2.cell? ⟨wr.heap.size, 1, none⟩ = some (.string y.wh) := grown_cell hgr2 (by simp; omega) (fun e => Nat.lt_irrefl _ (HOW.out.lt _ e).2) ((HZ.out _ _).trans q1)
          have p2 : w2.cell? ⟨wr.heap.size, 2, none⟩ = some (.int .i64 y.ri) := grown_cell hgr2 (by simp; omega) (fun e => Nat.lt_irrefl _ (HOW.out.lt _ e).2) ((HZ.out _ _).trans q2)
          have HO2 := ghid hown2
          have HB2 := ghid hbel2
          have hsz2 := hbel2.size
          clear ho2 hgr2 hnn2 hown2 hbel2 hwz q0 q1 q2
          have hlx : (X ++ [Gr.mk f m r]).length = X.length + 1 := by simp
          go_wp2_with (at_builtin; refine wpList_append_own _ rfl _ _ 22 rfl w.heap.size 33 i0 (.agg #[.string ⟨#[]⟩, .string ⟨#[]⟩, .int .i64 0]) 3 40 Try.underlying22 hi0 hz0 hz1 hz2 rfl (by decide) _ _ _ rfl (HO2.out.alloc _) ⟨w2.heap.size, 0, none⟩ 1 1 (Pp.cellsG y) rfl rfl (new_cellsG w2 y _) (Pp.cellsG_one _) (by unfold maxLen; omega) (by omega) (by simp; omega) ?_)
          intro v3 w3 ho3 hgr3 hnn3
          rw [Pp.flatG_snoc] at ho3
          have hown3 : w3.ownsRow w.heap.size 33 3 v3 (X ++ [Gr.mk f m r] ++ [y]).length (Pp.flatG (X ++ [Gr.mk f m r] ++ [y])) := by rw [List.length_append, hlx]; exact ho3
          have hbel3 : Below w.heap.size w w3 := (HB2.out.alloc HB2.out.size _).grown hgr3 (by simp; omega) (fun g hg => (HO2.out.lt g hg).1)
          have HO3 := ghid hown3
          have HB3 := ghid hbel3
          clear ho3 hgr3 hnn3 hown3 hbel3 p0 p1 p2
          go_wp2_with fail
          go_roundw
          case rel => exact ⟨k + 1, by omega, by simp, by rw [HST.out], by rw [HST.out]; exact HO3.out, HB3.out⟩
          case measure => simp [intOf]; omega
    · have e : G.take k = G := List.take_of_length_le (by omega)
      rw [e] at hown hle ⊢
      have HR : Hid (∀ X pb, Pp.gputS ⟨f, m, r⟩ b0 G = (X, pb) → Pp.gputR ⟨f, m, r⟩ b0 G = if pb = true then X else X ++ [Gr.mk f m r]) := (fun X pb e => by rw [Pp.gputR, e] : ∀ X pb, Pp.gputS ⟨f, m, r⟩ b0 G = (X, pb) → Pp.gputR ⟨f, m, r⟩ b0 G = if pb = true then X else X ++ [Gr.mk f m r])
      obtain ⟨X, hX⟩ : ∃ X, X = (Pp.gputS ⟨f, m, r⟩ b0 G).1 := ⟨_, rfl⟩
      obtain ⟨pb, hpb⟩ : ∃ pb, pb = (Pp.gputS ⟨f, m, r⟩ b0 G).2 := ⟨_, rfl⟩
      rw [← hX] at hown hle
      rw [← hpb]
      have HRS := ghid (HR.out X pb (by rw [hX, hpb]))
      clear hX hpb
      have hbsz := hbel.size
      cases pb with
      | true =>
        have HRX : Hid (Pp.gputR ⟨f, m, r⟩ b0 G = X) := (by rw [HRS.out]; rfl : Pp.gputR ⟨f, m, r⟩ b0 G = X)
        go_wp2_with fail
        go_ret
        exact ⟨_, rfl, by rw [HRX.out]; exact hown, hbel⟩
      | false =>
        have HRX : Hid (Pp.gputR ⟨f, m, r⟩ b0 G = X ++ [Gr.mk f m r]) := (by rw [HRS.out]; rfl : Pp.gputR ⟨f, m, r⟩ b0 G = X ++ [Gr.mk f m r])
        go_wp2_with (at_builtin; refine wpList_append_own _ rfl _ _ 22 rfl w.heap.size 33 i0 (.agg #[.string ⟨#[]⟩, .string ⟨#[]⟩, .int .i64 0]) 3 40 Try.underlying22 hi0 hz0 hz1 hz2 rfl (by decide) _ _ _ rfl (hown.alloc _) ⟨wr.heap.size, 0, none⟩ 1 1 (Pp.cellsG (Gr.mk f m r)) rfl rfl (new_cellsG wr ⟨f, m, r⟩ _) (Pp.cellsG_one _) (by unfold maxLen; omega) (by omega) (by simp; omega) ?_)
        intro v2 w2 ho2 hgr2 hnn2
        rw [Pp.flatG_snoc] at ho2
        have hown2 : w2.ownsRow w.heap.size 33 3 v2 (X ++ [Gr.mk f m r]).length (Pp.flatG (X ++ [Gr.mk f m r])) := by rw [List.length_append]; exact ho2
        have hbel2 : Below w.heap.size w w2 := (hbel.alloc hbel.size _).grown hgr2 (by simp; omega) (fun g hg => (hown.lt g hg).1)
        clear ho2 hgr2 hnn2 hown hbel
        go_wp2_with fail
        go_ret
        exact ⟨_, rfl, by rw [HRX.out]; exact hown2, hbel2⟩
end Go.Proofs.Ytgjiicnhedekjaa
