/- What (*keeper).take does, for every keeper and every commit. -/
import Derived.Test.YtagdilnbbepccaaGreatJ1
import Derived.Test.YtagdilnbbepccaaGreatMH
set_option linter.unusedSimpArgs false
set_option linter.unusedVariables false
namespace Go.Proofs.YtagdilnbbepccaaGreat
open Go.RowKit Go.Maps Go.WideMaps

theorem below_tr {w w1 w2 : World} (h1 : Below w.heap.size w w1) (h2 : Below w1.heap.size w1 w2) : Below w.heap.size w w2 := h1.trans (h2.mono h1.size)
theorem below_at {B : Nat} {w w1 w2 : World} (h1 : Below B w w1) (h2 : Below w1.heap.size w1 w2) (hB : B ≤ w1.heap.size) : Below B w w2 := h1.trans (h2.mono hB)

/-- A keeper in memory: what it keeps, the tree, and the numbers by keys. -/
def Kp (w : World) (b mb : Nat) (vb : Value) (fi : Int) (vc : Value) (T : List En) (nn : Nat) (M : DataW Unit) : Prop :=
  ∃ vt, Cs w b [vb, .int .i64 fi, vc, vt, .map (some mb)] ∧ Lies w vt T ∧ w.ownsMap Tryz.prog 9 (plainElem Tryz.prog 3) mb nn M ∧ b ≠ mb
theorem Kp.below {w w' : World} {b mb : Nat} {vb : Value} {fi : Int} {vc : Value} {T : List En} {nn : Nat} {M : DataW Unit} (h : Kp w b mb vb fi vc T nn M) (hw : Below w.heap.size w w') : Kp w' b mb vb fi vc T nn M := by
  obtain ⟨vt, h1, h2, h3, h4⟩ := h
  exact ⟨vt, h1.below hw, h2.below hw, h3.kept (row := none) ⟨hw.os, hw.tape, hw.output, hw.size, fun k hk _ => hw.block k hk⟩ (by simp), h4⟩

set_option maxRecDepth 100000 in
set_option maxHeartbeats 2000000 in
theorem take_any (c : Co) (u : Value) (b mb nn : Nat) (vb vc : Value) (fi : Int) (T : List En) (M : DataW Unit) (w : World) (hu : LiesC w u c.ch) (hcs : SizedC 150000000000000 c.ch) (hke : c.ke.size ≤ maxLen) (hnu : (Lit.int .i64 c.nu).wf = true)
    (hk : Kp w b mb vb fi vc T nn M) (hs : Sized T) (hnn : nn < maxLen) (hvb : ∀ s, vb ≠ .string s) (hvc : ∀ s, vc ≠ .string s) :
    Calls Tryz.prog 48 #[.pointer (some ⟨b, 0, none⟩), .agg #[.int .i64 c.nu, .string c.ke, u]] w fun e w' => e = .returned (.int .i64 (Pp.allE T c.ch c.nu)) ∧ Nb2 w w' b mb ∧
      (Pp.allE T c.ch c.nu = 0 → Kp w' b mb vb fi vc (Pp.allR T c.ch c.nu) (nn + 1) (M.put (Jn.key c.ke) (Jn.num c.nu))) := by
  obtain ⟨vt, hbx, hvt, hm, hne⟩ := hk
  have HBX := hid hbx
  have HT := hid hvt
  have HU := hid hu
  have HS := hid hs
  have HCS := hid hcs
  have HM := hid hm
  have hbl := hbx.lt
  have hml := hm.lt
  have hvs : ∀ s, Value.string s ∉ [vb, .int .i64 fi, vc, vt, .map (some mb)] := by
    obtain ⟨_, _, rfl, _⟩ := hvt
    intro s hs
    simp only [List.mem_cons, List.not_mem_nil, or_false] at hs
    rcases hs with h | h | h | h | h
    · exact hvb s h.symm
    · cases h
    · exact hvc s h.symm
    · cases h
    · cases h
  obtain ⟨wz, hwz⟩ : ∃ wz, wz = w.alloc (.cells #[.int .i64 c.nu, .string c.ke, u] 73) := ⟨_, rfl⟩
  have hbz : Below w.heap.size w wz := by rw [hwz]; exact (Below.refl _ _).alloc (Nat.le_refl _) _
  have z0 : wz.cell? ⟨w.heap.size, 0, none⟩ = some (.int .i64 c.nu) := by rw [hwz]; simp
  have z1 : wz.cell? ⟨w.heap.size, 1, none⟩ = some (.string c.ke) := by rw [hwz]; simp
  have z2 : wz.cell? ⟨w.heap.size, 2, none⟩ = some u := by rw [hwz]; simp
  have hszz : w.heap.size < wz.heap.size := by rw [hwz]; simp
  have z3 : wz.cell? ⟨b, 3, none⟩ = some vt := (hbz.cell (p := ⟨b, 3, none⟩) hbl).trans (hbx.cell 3 rfl)
  clear hbx hvt hu hs hcs hm
  by_cases h0 : Pp.allE T c.ch c.nu = 0
  · have H0 := hid h0
    go_enter Tryz.func48, Tryz.ntmps48
    go_wp2_with fail
    rw [← hwz]
    clear hwz
    go_region_held3 (fun W => W.cell? ⟨w.heap.size, 0, none⟩ = some (.int .i64 c.nu) ∧ W.cell? ⟨w.heap.size, 2, none⟩ = some u ∧ W.cell? ⟨b, 3, none⟩ = some vt) (go_keep) (first
      | (go_at_call 40; refine (tall_any T vt c.ch u c.nu _ (HT.out.below (below_tr hbz (Below.refl _ _).drew)) HS.out (HU.out.below (below_tr hbz (Below.refl _ _).drew)) HCS.out).mono ?_; rintro e wa ⟨r, rfl, hli, hba⟩; rw [H0.out]; have hza : Below wz.heap.size wz wa := ((Below.refl _ _).drew).trans hba; have j0 := (hza.cell (p := ⟨w.heap.size, 0, none⟩) hszz).trans z0; have j2 := (hza.cell (p := ⟨w.heap.size, 2, none⟩) hszz).trans z2; have j3 := (hza.cell (p := ⟨b, 3, none⟩) (Nat.lt_trans hbl hszz)).trans z3))
    have HLI := hid hli
    obtain ⟨ra, rcap, rfl, _, _, _⟩ := hli
    have hwa := below_tr hbz hza
    have HBA := hid (HBX.out.below hwa)
    have j3f := HBA.out.fr 3
    have HNB : Hid (NoStr wa b) := HBA.out.noStr hvs
    obtain ⟨wq, hwq⟩ : ∃ wq, wq = wa.setCell ⟨b, 3, none⟩ (.slice ra (Pp.allR T c.ch c.nu).length rcap) := ⟨_, rfl⟩
    have HBQ : Hid (Cs wq b [vb, .int .i64 fi, vc, .slice ra (Pp.allR T c.ch c.nu).length rcap, .map (some mb)]) := (by rw [hwq]; exact HBA.out.set 3 _ : Cs wq b [vb, .int .i64 fi, vc, .slice ra (Pp.allR T c.ch c.nu).length rcap, .map (some mb)])
    have q4 := HBQ.out.cell 4 rfl
    have hwl := hza.size
    have q0 : wq.cell? ⟨w.heap.size, 0, none⟩ = some (.int .i64 c.nu) := by rw [hwq, World.cell?_setCell_other (h := fun e => by injection e with e1 e2; omega)]; exact j0
    have q1 : wq.cell? ⟨w.heap.size, 1, none⟩ = some (.string c.ke) := by rw [hwq, World.cell?_setCell_other (h := fun e => by injection e with e1 e2; omega)]; exact (hza.cell (p := ⟨w.heap.size, 1, none⟩) hszz).trans z1
    have HMQ : Hid (wq.ownsMap Tryz.prog 9 (plainElem Tryz.prog 3) mb nn M) := (by rw [hwq]; exact (HM.out.kept (row := none) ⟨hwa.os, hwa.tape, hwa.output, hwa.size, fun k hk _ => hwa.block k hk⟩ (by simp)).setCell (fun e => hne e.symm) _ : wq.ownsMap Tryz.prog 9 (plainElem Tryz.prog 3) mb nn M)
    obtain ⟨w6, hrun6, hown6, hgr6⟩ := HMQ.out.drew.update (string_keyed Tryz.underlying9) Tryz.underlying61 hnn (keyOf_string_mk Tryz.underlying9 hke) (plainElem_int Tryz.underlying3 hnu)
    have HO6 := hid hown6
    clear hown6
    go_wp2_with fail
    have hbq : Nb2 w wq b mb := by rw [hwq]; exact (Nb2.of_below b mb hwa).trans (Nb2.of_left mb (nb_set _ _ _ _))
    have hlq : w.heap.size < wq.heap.size := by rw [hwq]; simp; omega
    have HLQ : Hid (Lies wq (.slice ra (Pp.allR T c.ch c.nu).length rcap) (Pp.allR T c.ch c.nu)) := (by rw [hwq]; exact HLI.out.nb (nb_set wa b 3 _) HNB.out : Lies wq (.slice ra (Pp.allR T c.ch c.nu).length rcap) (Pp.allR T c.ch c.nu))
    rw [← hwq]
    clear hwq
    go_region
    have hb6 : Nb2 w w6 b mb := (hbq.trans (Nb2.of_below b mb (Below.refl _ _).drew)).trans (Nb2.of_right b hgr6)
    have hK6 : Kp w6 b mb vb fi vc (Pp.allR T c.ch c.nu) (nn + 1) (M.put (Jn.key c.ke) (Jn.num c.nu)) := ⟨_, (HBQ.out.below (Below.refl _ _).drew).nb hgr6 hne, (HLQ.out.below (Below.refl _ _).drew).nb hgr6 (noStr_map HMQ.out.drew), HO6.out, hne⟩
    have HK6 := hid hK6
    clear hK6
    go_wp2_with fail
    go_ret
    exact ⟨by rw [H0.out]; rfl, hb6, fun _ => HK6.out⟩
  · have hz : (Pp.allE T c.ch c.nu == 0) = false := by simpa using h0
    go_enter Tryz.func48, Tryz.ntmps48
    go_wp2_with fail
    rw [← hwz]
    clear hwz
    go_region_held3 (fun W => W.cell? ⟨w.heap.size, 0, none⟩ = some (.int .i64 c.nu) ∧ W.cell? ⟨w.heap.size, 2, none⟩ = some u ∧ W.cell? ⟨b, 3, none⟩ = some vt) (go_keep) (first
      | (go_at_call 40; refine (tall_any T vt c.ch u c.nu _ (HT.out.below (below_tr hbz (Below.refl _ _).drew)) HS.out (HU.out.below (below_tr hbz (Below.refl _ _).drew)) HCS.out).mono ?_; rintro e wa ⟨r, rfl, hli, hba⟩; have hza : Below wz.heap.size wz wa := ((Below.refl _ _).drew).trans hba; have j0 := (hza.cell (p := ⟨w.heap.size, 0, none⟩) hszz).trans z0; have j2 := (hza.cell (p := ⟨w.heap.size, 2, none⟩) hszz).trans z2; have j3 := (hza.cell (p := ⟨b, 3, none⟩) (Nat.lt_trans hbl hszz)).trans z3))
    go_wp2_with fail
    go_ret
    exact ⟨rfl, Nb2.of_below b mb (below_tr hbz hza), fun h => absurd h h0⟩
end Go.Proofs.YtagdilnbbepccaaGreat
