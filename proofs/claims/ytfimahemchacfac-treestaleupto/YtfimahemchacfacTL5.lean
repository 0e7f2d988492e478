/- What the law TreeStale answers: true, for every tree, change, version and base. -/
import Derived.Test.YtfimahemchacfacTPure5
import Derived.Test.YtfimahemchacfacTCh
import Derived.Test.YtfimahemchacfacW12
set_option linter.unusedSimpArgs false
set_option linter.unusedVariables false
namespace Go.Proofs.Ytfimahemchacfac
open Go.RowKit

theorem bx5f {w w1 : World} {a b c d e : Value} {T : TypeId} (h : Below (w.alloc (.cells #[a, b, c, d, e] T)).heap.size (w.alloc (.cells #[a, b, c, d, e] T)) w1) (i : Nat) : w1.frozen? ⟨w.heap.size, i, none⟩ = false :=
  (h.frozen (p := ⟨w.heap.size, i, none⟩) (by simp)).trans (World.frozen?_alloc_at _ _ _ _ rfl)

set_option maxRecDepth 100000 in
set_option maxHeartbeats 2000000 in
theorem treeStale_walk (L : List En) (v : Value) (k : Int) (p q t : ByteArray) (b n base : Int) (w : World) (hv : Lies w v L) (hn : L.length ≤ 1048576) (hs : ∀ e ∈ L, e.path.size ≤ 1048576 ∧ e.text.size ≤ 1048576) (hp : p.size ≤ 1048576) (hq : q.size ≤ 1048576) (ht : t.size ≤ 1048576) (h1 : -9223372036854775808 ≤ base) (h2 : base ≤ 9223372036854775807) :
    Calls Try.prog 6 #[v, .agg #[.int .i64 k, .string p, .string q, .string t, .int .i64 b], .int .i64 n, .int .i64 base] w fun e w' => e = .returned (.bool true) ∧ Below w.heap.size w w' := by
  have hsz : Sized L := fun e he => ⟨by have := (hs e he).1; omega, by have := (hs e he).2; omega⟩
  have HV : Hid (Lies w v L) := hv
  have HS : Hid (Sized L) := hsz
  have HS2 : Hid (∀ e ∈ L, e.path.size ≤ 1000000000) := (fun e he => by have := (hs e he).1; omega : ∀ e ∈ L, e.path.size ≤ 1000000000)
  have hr := Pp.chz_range base (n := 1000001) (by decide)
  have hlaw := Pp.stale_law L k p q t n (b := Pp.chz base 1000001) hr.1 (by omega)
  have hlen : (L.length : Int) ≤ 1048576 := by omega
  obtain ⟨a, cap, rfl, hcap, hcap2, hL⟩ := hv
  have HL : Hid (∀ i (h : i < L.length), ∃ b o, a = some ⟨b, o, none⟩ ∧ b < w.heap.size ∧ EnAt w b (o + i * 4) L[i]) := hL
  clear hsz hs hL
  have hcs : ((Pp.tapE L ⟨k, p, q, t, -1⟩ n == 0) = false ∧ (Pp.tapE L ⟨k, p, q, t, Pp.chz base 1000001⟩ n == 0) = false) ∨
      (Hid (Pp.tapE L ⟨k, p, q, t, -1⟩ n = 0) ∧ ((Pp.chz base 1000001 < Pp.newest p.data.toList L ∧ Hid (Pp.tapE L ⟨k, p, q, t, Pp.chz base 1000001⟩ n = 8)) ∨ (Pp.newest p.data.toList L ≤ Pp.chz base 1000001 ∧ Hid (Pp.tapE L ⟨k, p, q, t, Pp.chz base 1000001⟩ n = 0)))) := by
    by_cases he : Pp.tapE L ⟨k, p, q, t, -1⟩ n = 0
    · exact Or.inr ⟨he, hlaw.2 he⟩
    · exact Or.inl ⟨by simpa using he, by simpa using hlaw.1 he⟩
  clear hlaw
  generalize hB : Pp.chz base 1000001 = B at *
  go_enter Try.func6, Try.ntmps6
  go_wp2_with fail
  refine (begun_yes _).mono ?_
  rintro e w1 ⟨rfl, hb1⟩
  obtain ⟨c0, c1, c2, c3, c4, hbw, hlt⟩ := bx5 hb1
  have f4 := bx5f hb1 4
  clear hb1
  go_wp2_with fail
  refine (tapply_any L _ k p q t (-1) n _ (HV.out.below (hbw.setCell (Nat.le_refl _) _)) (by omega) HS.out (by omega) (by omega) (by omega)).mono ?_
  rintro e w2 ⟨u, rfl, hli, hb2⟩
  have hlt1 : w.heap.size < (w1.setCell ⟨w.heap.size, 4, none⟩ (.int .i64 (-1))).heap.size := by simpa using hlt
  have q0 : w2.cell? ⟨w.heap.size, 0, none⟩ = some (.int .i64 k) := (hb2.cell (p := ⟨w.heap.size, 0, none⟩) hlt1).trans ((World.cell?_setCell_other _ _ _ _ (by simp)).trans c0)
  have q1 : w2.cell? ⟨w.heap.size, 1, none⟩ = some (.string p) := (hb2.cell (p := ⟨w.heap.size, 1, none⟩) hlt1).trans ((World.cell?_setCell_other _ _ _ _ (by simp)).trans c1)
  have q2 : w2.cell? ⟨w.heap.size, 2, none⟩ = some (.string q) := (hb2.cell (p := ⟨w.heap.size, 2, none⟩) hlt1).trans ((World.cell?_setCell_other _ _ _ _ (by simp)).trans c2)
  have q3 : w2.cell? ⟨w.heap.size, 3, none⟩ = some (.string t) := (hb2.cell (p := ⟨w.heap.size, 3, none⟩) hlt1).trans ((World.cell?_setCell_other _ _ _ _ (by simp)).trans c3)
  have q4 : ∃ x, w2.cell? ⟨w.heap.size, 4, none⟩ = some x := ⟨.int .i64 (-1), (hb2.cell (p := ⟨w.heap.size, 4, none⟩) hlt1).trans (by simp [go_sem, c4])⟩
  have g4 : w2.frozen? ⟨w.heap.size, 4, none⟩ = false := (hb2.frozen (p := ⟨w.heap.size, 4, none⟩) hlt1).trans ((World.frozen?_setCell _ _ _ _).trans f4)
  have hbw2 : Below w.heap.size w w2 := (hbw.setCell (Nat.le_refl _) _).trans (hb2.mono (Nat.le_of_lt hlt1))
  have hlt2 : w.heap.size < w2.heap.size := Nat.lt_of_lt_of_le hlt1 hb2.size
  have Q0 := hid q0
  have Q1 := hid q1
  have Q2 := hid q2
  have Q3 := hid q3
  have Q4 := hid q4
  have G4 := hid g4
  clear hli hb2 hlt1 c0 c1 c2 c3 c4 f4 q0 q1 q2 q3 q4 g4 hbw hlt
  have HCS := hid hcs
  clear hcs
  go_wp2_with fail
  go_loopw [11, 12] (fun m i wr => ∃ j : Nat, j ≤ L.length ∧ i = .int .i64 j ∧ m = .int .i64 (Pp.newest p.data.toList (L.take j)) ∧ Below w2.heap.size w2 wr) (fun _ i _ => L.length - (intOf i).toNat)
  case atStart => exact ⟨0, Nat.zero_le _, rfl, rfl, Below.refl _ _⟩
  case round =>
    obtain ⟨j, hj, rfl, rfl, hbel⟩ := hrel
    have r1 : wr.cell? ⟨w.heap.size, 1, none⟩ = some (.string p) := (hbel.cell (p := ⟨w.heap.size, 1, none⟩) hlt2).trans Q1.out
    by_cases hlj : j < L.length
    · obtain ⟨b', o, rfl, hb', he⟩ := HL.out j hlj
      obtain ⟨c0, c1, c2, c3⟩ := (he.below hb' hbw2).below (Nat.lt_trans hb' hlt2) hbel
      have hnew := Pp.newest_snoc p.data.toList (L.take j) L[j]
      rw [← List.take_succ_eq_append_getElem hlj] at hnew
      have HNEW := hid hnew
      have hlr : w.heap.size < wr.heap.size := Nat.lt_of_lt_of_le hlt2 hbel.size
      have hbr : b' < wr.heap.size := Nat.lt_trans hb' hlr
      clear hnew
      go_wp2_with fail
      go_region_held3 (fun W => W.cell? ⟨b', o + j * 4, none⟩ = some (.string L[j].path) ∧ W.cell? ⟨w.heap.size, 1, none⟩ = some (.string p)) (go_keep) (first
        | (go_at_call 17; refine (isIn_any L[j].path p _ (HS2.out _ (List.getElem_mem hlj)) (by omega)).mono ?_; rintro e wa ⟨rfl, hba⟩; have k1 : wa.cell? ⟨b', o + j * 4, none⟩ = some (.string L[j].path) := (hba.cell (p := ⟨b', o + j * 4, none⟩) hbr).trans c0; have k2 : wa.cell? ⟨w.heap.size, 1, none⟩ = some (.string p) := (hba.cell (p := ⟨w.heap.size, 1, none⟩) hlr).trans r1))
      have hbel2 : Below w2.heap.size w2 wa := hbel.drew.trans (hba.mono hbel.drew.size)
      have d3 : wa.cell? ⟨b', o + j * 4 + 3, none⟩ = some (.int .i64 L[j].ver) := (hba.cell (p := ⟨b', o + j * 4 + 3, none⟩) hbr).trans c3
      clear hba hbel c0 c1 c2 c3 r1 he
      cases hin : Pp.isInB L[j].path.data.toList p.data.toList with
      | true =>
        have HN : Hid (Pp.newest p.data.toList (L.take (j + 1)) = max (Pp.newest p.data.toList (L.take j)) L[j].ver) := (by rw [HNEW.out, if_pos (show Pp.wi p.data.toList L[j] = true from hin)] : Pp.newest p.data.toList (L.take (j + 1)) = max (Pp.newest p.data.toList (L.take j)) L[j].ver)
        clear hin
        generalize Pp.newest p.data.toList (L.take j) = m at *
        go_wp2_with fail
        go_roundw
        case rel => exact ⟨j + 1, by omega, by simp, by rw [HN.out], hbel2⟩
        case measure => simp [intOf]; omega
      | false =>
        have HN : Hid (Pp.newest p.data.toList (L.take (j + 1)) = Pp.newest p.data.toList (L.take j)) := (by rw [HNEW.out, if_neg (show ¬ Pp.wi p.data.toList L[j] = true from fun h => by rw [show Pp.wi p.data.toList L[j] = false from hin] at h; cases h)] : Pp.newest p.data.toList (L.take (j + 1)) = Pp.newest p.data.toList (L.take j))
        clear hin
        go_wp2_with fail
        go_roundw
        case rel => exact ⟨j + 1, by omega, by simp, by rw [HN.out], hbel2⟩
        case measure => simp [intOf]; omega
    · have ek : L.take j = L := List.take_of_length_le (by omega)
      rw [ek]
      have r0 := (hbel.cell (p := ⟨w.heap.size, 0, none⟩) hlt2).trans Q0.out
      have r2 := (hbel.cell (p := ⟨w.heap.size, 2, none⟩) hlt2).trans Q2.out
      have r3 := (hbel.cell (p := ⟨w.heap.size, 3, none⟩) hlt2).trans Q3.out
      obtain ⟨y4, hy4⟩ := Q4.out
      have r4 := (hbel.cell (p := ⟨w.heap.size, 4, none⟩) hlt2).trans hy4
      have s4 := (hbel.frozen (p := ⟨w.heap.size, 4, none⟩) hlt2).trans G4.out
      have hbr : Below w.heap.size w wr := hbw2.trans (hbel.mono (Nat.le_of_lt hlt2))
      have hlr : w.heap.size < wr.heap.size := Nat.lt_of_lt_of_le hlt2 hbel.size
      have HB := hid hB
      clear hy4 hbel ek hB
      generalize Pp.newest p.data.toList L = m at *
      go_wp2_with fail
      refine (choose_any base 1000001 _ h1 h2 (by decide) (by decide)).mono ?_
      rintro e w9 ⟨rfl, rfl⟩
      rw [HB.out]
      go_wp2_with fail
      refine (tapply_any L _ k p q t B n _ (HV.out.below (hbr.setCell (Nat.le_refl _) _)) (by omega) HS.out (by omega) (by omega) (by omega)).mono ?_
      rintro e w3 ⟨u3, rfl, hli, hb3⟩
      have hlt1 : w.heap.size < (w9.setCell ⟨w.heap.size, 4, none⟩ (.int .i64 B)).heap.size := by simpa using hlr
      have p4 : w3.cell? ⟨w.heap.size, 4, none⟩ = some (.int .i64 B) := (hb3.cell (p := ⟨w.heap.size, 4, none⟩) hlt1).trans (by simp [go_sem, r4])
      have hb03 : Below w.heap.size w w3 := (hbr.setCell (Nat.le_refl _) _).trans (hb3.mono (Nat.le_of_lt hlt1))
      clear hb3 hbr r0 r1 r2 r3 r4 s4 hli hlt1
      rcases HCS.out with ⟨he, hf⟩ | ⟨HE, ⟨hlt, HF⟩ | ⟨hle, HF⟩⟩
      · generalize Pp.tapE L ⟨k, p, q, t, B⟩ n = y at *
        generalize Pp.tapE L ⟨k, p, q, t, -1⟩ n = x at *
        go_wp2
        go_ret
        exact ⟨Pp.ret_bool (show (y != 0) = true by simp [bne, hf]), hb03⟩
      · rw [HE.out, HF.out]
        go_wp2
        go_ret
        exact ⟨Pp.ret_bool (show (!decide (m ≤ B)) = true by simp; omega), hb03⟩
      · rw [HE.out, HF.out]
        go_wp2
        go_ret
        exact ⟨rfl, hb03⟩
end Go.Proofs.Ytfimahemchacfac
