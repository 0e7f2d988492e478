/- What journal.checkCommit answers, for every commit. What (*keeper).take does, for every keeper and every commit. What journal.keep answers, for every journal. -/
import Derived.Test.YtchlgpeiombmdaaGreatMB
import Derived.Test.YtchlgpeiombmdaaGreatHH
import Derived.Deep.RegionHeld3
import Derived.Test.YtchlgpeiombmdaaGreatHL
import Derived.Test.YtchlgpeiombmdaaGreatHK
import Derived.Test.YtchlgpeiombmdaaGreatHG
set_option linter.unusedSimpArgs false
set_option linter.unusedVariables false
namespace Go.Proofs.YtchlgpeiombmdaaGreat
open Go.RowKit

namespace Jn
theorem co_cases (c : Co) (n : Int) : ((c.nu == n) = false ∧ coE c n = 4) ∨ (c.nu = n ∧ 1000000 < n ∧ coE c n = 3) ∨ (c.nu = n ∧ ¬ 1000000 < n ∧ Pp.keyE c.ke.data.toList = 1 ∧ coE c n = 1) ∨
    (c.nu = n ∧ ¬ 1000000 < n ∧ Pp.keyE c.ke.data.toList = 0 ∧ c.ch.length = 0 ∧ coE c n = 1) ∨ (c.nu = n ∧ ¬ 1000000 < n ∧ Pp.keyE c.ke.data.toList = 0 ∧ 0 < c.ch.length ∧ coE c n = 0) := by
 by_cases h1 : c.nu = n
 · by_cases h2 : 1000000 < n
   · exact Or.inr (Or.inl ⟨h1, h2, by rw [coE, if_neg (fun x => x h1), if_pos h2]⟩)
   · cases h3 : Pp.keyB c.ke.data.toList with
     | false => exact Or.inr (Or.inr (Or.inl ⟨h1, h2, Pp.keyE_no h3, by rw [coE, if_neg (fun x => x h1), if_neg h2, if_pos (by simp [h3])]⟩))
     | true =>
      by_cases h4 : c.ch = []
      · exact Or.inr (Or.inr (Or.inr (Or.inl ⟨h1, h2, Pp.keyE_yes h3, by rw [h4]; rfl, by rw [coE, if_neg (fun x => x h1), if_neg h2, if_neg (fun x => x h3), if_pos h4]⟩)))
      · exact Or.inr (Or.inr (Or.inr (Or.inr ⟨h1, h2, Pp.keyE_yes h3, List.length_pos_iff.2 h4, by rw [coE, if_neg (fun x => x h1), if_neg h2, if_neg (fun x => x h3), if_neg h4]⟩)))
 · exact Or.inl ⟨by simpa using h1, by rw [coE, if_pos h1]⟩
end Jn

theorem bx3 {w w1 : World} {a b c : Value} {T : TypeId} (h : Below (w.alloc (.cells #[a, b, c] T)).heap.size (w.alloc (.cells #[a, b, c] T)) w1) :
    w1.cell? ⟨w.heap.size, 0, none⟩ = some a ∧ w1.cell? ⟨w.heap.size, 1, none⟩ = some b ∧ w1.cell? ⟨w.heap.size, 2, none⟩ = some c ∧ Below w.heap.size w w1 ∧ w.heap.size < w1.heap.size := by
 have hz : w.heap.size < (w.alloc (.cells #[a, b, c] T)).heap.size := by simp
 refine ⟨?_, ?_, ?_, ((Below.refl _ _).alloc (Nat.le_refl _) _).trans (h.mono (Nat.le_of_lt hz)), Nat.lt_of_lt_of_le hz h.size⟩
 · exact (h.cell (p := ⟨w.heap.size, 0, none⟩) hz).trans (by simp)
 · exact (h.cell (p := ⟨w.heap.size, 1, none⟩) hz).trans (by simp)
 · exact (h.cell (p := ⟨w.heap.size, 2, none⟩) hz).trans (by simp)
set_option maxRecDepth 100000 in
set_option maxHeartbeats 1000000 in
theorem checkCommit_any (c : Co) (u : Value) (n : Int) (w : World) (hu : LiesC w u c.ch) (hke : c.ke.size ≤ maxLen) :
    Calls Tryz.prog 94 #[.agg #[.int .i64 c.nu, .string c.ke, u], .int .i64 n] w fun e w' => e = .returned (.int .i64 (Jn.coE c n)) ∧ Below w.heap.size w w' := by
 obtain ⟨a, cap, rfl, hcap, hcap2, _⟩ := hu
 have hbw : Below w.heap.size w (w.alloc (.cells #[.int .i64 c.nu, .string c.ke, .slice a c.ch.length cap] 58)) := (Below.refl _ _).alloc (Nat.le_refl _) _
 rcases Jn.co_cases c n with ⟨h1, hE⟩ | ⟨h1, h2, hE⟩ | ⟨h1, h2, h3, hE⟩ | ⟨h1, h2, h3, h4, hE⟩ | ⟨h1, h2, h3, h4, hE⟩
 · have HE := hid hE
   clear hE
   go_enter Tryz.func94, Tryz.ntmps94
   go_wp2
   go_ret
   exact ⟨by rw [HE.out]; rfl, hbw⟩
 · have HE := hid hE
   clear hE
   obtain ⟨nu, ke, ch⟩ := c
   simp only at h1 h2 hbw hke ⊢
   subst h1
   go_enter Tryz.func94, Tryz.ntmps94
   go_wp2
   go_ret
   exact ⟨by rw [HE.out]; rfl, hbw⟩
 all_goals
  have HE := hid hE
  have H3 := hid h3
  clear hE h3
  try (have h4' : ((c.ch.length : Int) == 0) = true := by rw [beq_iff_eq]; omega)
  try (have h4' : ((c.ch.length : Int) == 0) = false := by rw [beq_eq_false_iff_ne]; omega)
  try clear h4
  obtain ⟨nu, ke, ch⟩ := c
  simp only at h1 h2 hbw hke hcap hcap2 ⊢
  try simp only at h4'
  subst h1
  go_enter Tryz.func94, Tryz.ntmps94
  go_wp2_with fail
  refine (key_any ke _ hke).mono ?_
  rintro e w1 ⟨rfl, hw⟩
  rw [hw, H3.out]
  clear hw w1
  go_wp2
  go_ret
  exact ⟨by rw [HE.out]; rfl, hbw⟩
end Go.Proofs.YtchlgpeiombmdaaGreat
set_option linter.unusedSimpArgs false
set_option linter.unusedVariables false
namespace Go.Proofs.YtchlgpeiombmdaaGreat
open Go.RowKit Go.Maps Go.WideMaps

theorem below_at {B : Nat} {w w1 w2 : World} (h1 : Below B w w1) (h2 : Below w1.heap.size w1 w2) (hB : B ≤ w1.heap.size) : Below B w w2 := h1.trans (h2.mono hB)
/-- A keeper in memory: what it keeps, the tree, and the numbers by keys. -/
def Kp (w : World) (b mb : Nat) (vb : Value) (fi : Int) (vc : Value) (T : List En) (nn : Nat) (M : DataW Unit) : Prop :=
 ∃ vt, Cs w b [vb, .int .i64 fi, vc, vt, .map (some mb)] ∧ Lies w vt T ∧ w.ownsMap Tryz.prog 9 (plainElem Tryz.prog 3) mb nn M ∧ b ≠ mb
theorem Kp.below {w w' : World} {b mb : Nat} {vb : Value} {fi : Int} {vc : Value} {T : List En} {nn : Nat} {M : DataW Unit} (h : Kp w b mb vb fi vc T nn M) (hw : Below w.heap.size w w') : Kp w' b mb vb fi vc T nn M := by
 obtain ⟨vt, h1, h2, h3, h4⟩ := h
 exact ⟨vt, h1.below hw, h2.below hw, h3.kept (row := none) ⟨hw.os, hw.tape, hw.output, hw.size, fun k hk _ => hw.block k hk⟩ (by simp), h4⟩
set_option maxRecDepth 100000 in
set_option maxHeartbeats 2000000 in
theorem take_any (c : Co) (u : Value) (b mb nn : Nat) (vb vc : Value) (fi : Int) (T : List En) (M : DataW Unit) (w : World) (hu : LiesC w u c.ch) (hcs : SizedC 150000000000000 c.ch) (hke : c.ke.size ≤ maxLen) (hnu : (Lit.int .i64 c.nu).wf = true)
    (hk : Kp w b mb vb fi vc T nn M) (hs : Sized T) (hnn : nn < maxLen) (hvb : ∀ s, vb ≠ .string s) (hvc : ∀ s, vc ≠ .string s) :
    Calls Tryz.prog 95 #[.pointer (some ⟨b, 0, none⟩), .agg #[.int .i64 c.nu, .string c.ke, u]] w fun e w' => e = .returned (.int .i64 (Pp.allE T c.ch c.nu)) ∧ Nb2 w w' b mb ∧
     (Pp.allE T c.ch c.nu = 0 → Kp w' b mb vb fi vc (Pp.allR T c.ch c.nu) (nn + 1) (M.put (Jn.key c.ke) (Jn.num c.nu))) := by
 obtain ⟨vt, hbx, hvt, hm, hne⟩ := hk
 have HBX := hid hbx
 have HT := hid hvt
 have HU := hid hu
 have HS := hid hs
 have HCS := hid hcs
 have HM := hid hm
 have hbl := hbx.lt
 have hml := hm.lt
 have hvs : ∀ s, Value.string s ∉ [vb, .int .i64 fi, vc, vt, .map (some mb)] := by
  obtain ⟨_, _, rfl, _⟩ := hvt
  intro s hs
  simp only [List.mem_cons, List.not_mem_nil, or_false] at hs
  rcases hs with h | h | h | h | h
  · exact hvb s h.symm
  · cases h
  · exact hvc s h.symm
  · cases h
  · cases h
 obtain ⟨wz, hwz⟩ : ∃ wz, wz = w.alloc (.cells #[.int .i64 c.nu, .string c.ke, u] 58) := ⟨_, rfl⟩
 have hbz : Below w.heap.size w wz := by rw [hwz]; exact (Below.refl _ _).alloc (Nat.le_refl _) _
 have z0 : wz.cell? ⟨w.heap.size, 0, none⟩ = some (.int .i64 c.nu) := by rw [hwz]; simp
 have z1 : wz.cell? ⟨w.heap.size, 1, none⟩ = some (.string c.ke) := by rw [hwz]; simp
 have z2 : wz.cell? ⟨w.heap.size, 2, none⟩ = some u := by rw [hwz]; simp
 have hszz : w.heap.size < wz.heap.size := by rw [hwz]; simp
 have z3 : wz.cell? ⟨b, 3, none⟩ = some vt := (hbz.cell (p := ⟨b, 3, none⟩) hbl).trans (hbx.cell 3 rfl)
 clear hbx hvt hu hs hcs hm
 by_cases h0 : Pp.allE T c.ch c.nu = 0
 · have H0 := hid h0
   go_enter Tryz.func95, Tryz.ntmps95
   go_wp2_with fail
   rw [← hwz]
   clear hwz
   go_region_held3 (fun W => W.cell? ⟨w.heap.size, 0, none⟩ = some (.int .i64 c.nu) ∧ W.cell? ⟨w.heap.size, 2, none⟩ = some u ∧ W.cell? ⟨b, 3, none⟩ = some vt) (go_keep) (first
    | (go_at_call 122; refine (tall_any T vt c.ch u c.nu _ (HT.out.below (below_tr hbz (Below.refl _ _).drew)) HS.out (HU.out.below (below_tr hbz (Below.refl _ _).drew)) HCS.out).mono ?_; rintro e wa ⟨r, rfl, hli, hba⟩; rw [H0.out]; have hza : Below wz.heap.size wz wa := ((Below.refl _ _).drew).trans hba; have j0 := (hza.cell (p := ⟨w.heap.size, 0, none⟩) hszz).trans z0; have j2 := (hza.cell (p := ⟨w.heap.size, 2, none⟩) hszz).trans z2; have j3 := (hza.cell (p := ⟨b, 3, none⟩) (Nat.lt_trans hbl hszz)).trans z3))
   have HLI := hid hli
   obtain ⟨ra, rcap, rfl, _, _, _⟩ := hli
   have hwa := below_tr hbz hza
   have HBA := hid (HBX.out.below hwa)
   have j3f := HBA.out.fr 3
   have HNB : Hid (NoStr wa b) := HBA.out.noStr hvs
   obtain ⟨wq, hwq⟩ : ∃ wq, wq = wa.setCell ⟨b, 3, none⟩ (.slice ra (Pp.allR T c.ch c.nu).length rcap) := ⟨_, rfl⟩
   have HBQ := hid (show Cs wq b [vb, .int .i64 fi, vc, .slice ra (Pp.allR T c.ch c.nu).length rcap, .map (some mb)] from by rw [hwq]; exact HBA.out.set 3 _)
   have q4 := HBQ.out.cell 4 rfl
   have hwl := hza.size
   have q0 : wq.cell? ⟨w.heap.size, 0, none⟩ = some (.int .i64 c.nu) := by rw [hwq, World.cell?_setCell_other (h := fun e => by injection e with e1 e2; omega)]; exact j0
   have q1 : wq.cell? ⟨w.heap.size, 1, none⟩ = some (.string c.ke) := by rw [hwq, World.cell?_setCell_other (h := fun e => by injection e with e1 e2; omega)]; exact (hza.cell (p := ⟨w.heap.size, 1, none⟩) hszz).trans z1
   have HMQ := hid (show wq.ownsMap Tryz.prog 9 (plainElem Tryz.prog 3) mb nn M from by rw [hwq]; exact (HM.out.kept (row := none) ⟨hwa.os, hwa.tape, hwa.output, hwa.size, fun k hk _ => hwa.block k hk⟩ (by simp)).setCell (fun e => hne e.symm) _)
   obtain ⟨w6, hrun6, hown6, hgr6⟩ := HMQ.out.drew.update (string_keyed Tryz.underlying9) Tryz.underlying72 hnn (keyOf_string_mk Tryz.underlying9 hke) (plainElem_int Tryz.underlying3 hnu)
   have HO6 := hid hown6
   clear hown6
   go_wp2_with fail
   have hbq : Nb2 w wq b mb := by rw [hwq]; exact (Nb2.of_below b mb hwa).trans (Nb2.of_left mb (nb_set _ _ _ _))
   have hlq : w.heap.size < wq.heap.size := by rw [hwq]; simp; omega
   have HLQ := hid (show Lies wq (.slice ra (Pp.allR T c.ch c.nu).length rcap) (Pp.allR T c.ch c.nu) from by rw [hwq]; exact HLI.out.nb (nb_set wa b 3 _) HNB.out)
   rw [← hwq]
   clear hwq
   go_region
   have hb6 : Nb2 w w6 b mb := (hbq.trans (Nb2.of_below b mb (Below.refl _ _).drew)).trans (Nb2.of_right b hgr6)
   have hK6 : Kp w6 b mb vb fi vc (Pp.allR T c.ch c.nu) (nn + 1) (M.put (Jn.key c.ke) (Jn.num c.nu)) := ⟨_, (HBQ.out.below (Below.refl _ _).drew).nb hgr6 hne, (HLQ.out.below (Below.refl _ _).drew).nb hgr6 (noStr_map HMQ.out.drew), HO6.out, hne⟩
   have HK6 := hid hK6
   clear hK6
   go_wp2_with fail
   go_ret
   exact ⟨by rw [H0.out]; rfl, hb6, fun _ => HK6.out⟩
 · have hz : (Pp.allE T c.ch c.nu == 0) = false := by simpa using h0
   go_enter Tryz.func95, Tryz.ntmps95
   go_wp2_with fail
   rw [← hwz]
   clear hwz
   go_region_held3 (fun W => W.cell? ⟨w.heap.size, 0, none⟩ = some (.int .i64 c.nu) ∧ W.cell? ⟨w.heap.size, 2, none⟩ = some u ∧ W.cell? ⟨b, 3, none⟩ = some vt) (go_keep) (first
    | (go_at_call 122; refine (tall_any T vt c.ch u c.nu _ (HT.out.below (below_tr hbz (Below.refl _ _).drew)) HS.out (HU.out.below (below_tr hbz (Below.refl _ _).drew)) HCS.out).mono ?_; rintro e wa ⟨r, rfl, hli, hba⟩; have hza : Below wz.heap.size wz wa := ((Below.refl _ _).drew).trans hba; have j0 := (hza.cell (p := ⟨w.heap.size, 0, none⟩) hszz).trans z0; have j2 := (hza.cell (p := ⟨w.heap.size, 2, none⟩) hszz).trans z2; have j3 := (hza.cell (p := ⟨b, 3, none⟩) (Nat.lt_trans hbl hszz)).trans z3))
   go_wp2_with fail
   go_ret
   exact ⟨rfl, Nb2.of_below b mb (below_tr hbz hza), fun h => absurd h h0⟩
end Go.Proofs.YtchlgpeiombmdaaGreat
set_option linter.unusedSimpArgs false
set_option linter.unusedVariables false
namespace Go.Proofs.YtchlgpeiombmdaaGreat
open Go.RowKit Go.Maps Go.WideMaps

/-- A keeper of a journal that passes Check. -/
def Keeps (w : World) (p : Value) (B : Nat) (v : Value) (J : Jo) : Prop := ∃ b mb vb vc nn, p = .pointer (some ⟨b, 0, none⟩) ∧ v = .agg #[vb, .int .i64 J.first, vc] ∧ B ≤ b ∧ B ≤ mb ∧ Kp w b mb vb J.first vc (Jn.tree J) nn (Jn.D J.cos) ∧ nn ≤ 30
theorem Keeps.below {w w' : World} {p : Value} {B : Nat} {v : Value} {J : Jo} (h : Keeps w p B v J) (hw : Below w.heap.size w w') : Keeps w' p B v J := by
 obtain ⟨b, mb, vb, vc, nn, h1, h2, h3, h4, h6, h7⟩ := h
 exact ⟨b, mb, vb, vc, nn, h1, h2, h3, h4, h6.below hw, h7⟩
theorem nostr_slice {a : Option Addr} {n c : Nat} (s : ByteArray) : Value.slice a n c ≠ .string s := fun h => by cases h
namespace Jn
theorem co_zero {c : Co} {n : Int} (h : coE c n = 0) : c.nu = n ∧ n ≤ 1000000 ∧ Pp.keyB c.ke.data.toList = true ∧ 0 < c.ch.length := by
 rcases co_cases c n with ⟨_, hE⟩ | ⟨_, _, hE⟩ | ⟨_, _, _, hE⟩ | ⟨_, _, _, _, hE⟩ | ⟨h1, h2, h3, h4, _⟩
 · rw [hE] at h; cases h
 · rw [hE] at h; cases h
 · rw [hE] at h; cases h
 · rw [hE] at h; cases h
 · refine ⟨h1, by omega, ?_, h4⟩
   cases hb : Pp.keyB c.ke.data.toList with
   | true => rfl
   | false => rw [Pp.keyE_no hb] at h3; cases h3
theorem wf_num {n : Int} (h1 : -9223372036854775808 ≤ n) (h2 : n ≤ 9223372036854775807) : (Lit.int .i64 n).wf = true := by
 have e1 : IntKind.i64.min = -9223372036854775808 := by decide
 have e2 : IntKind.i64.max = 9223372036854775807 := by decide
 simp only [Lit.wf, e1, e2, Bool.and_eq_true, decide_eq_true_eq]
 exact ⟨h1, h2⟩
end Jn

theorem Tryz.makeNumbers (w : World) : (Instr.makeMap 72 none).run Tryz.prog w = .ok (.map (some w.heap.size)) (w.alloc (.map #[] 0)) := by
 simp [Instr.makeMap, run_underlying Tryz.underlying72, Result.andThen]
set_option maxRecDepth 100000 in
set_option maxHeartbeats 4000000 in
theorem keep_any (J : Jo) (v : Value) (w : World) (hv : LiesJ w v J) (hs : Sized J.base) (hcs : SizedO 150000000000000 J.cos) :
    Calls Tryz.prog 53 #[v] w fun e w' => ∃ p, e = .returned (.tuple #[p, .int .i64 (Jn.chkE J)]) ∧ (Jn.chkE J = 0 → Keeps w' p w.heap.size v J) ∧ (¬ Jn.chkE J = 0 → p = .pointer none) ∧ Below w.heap.size w w' := by
 obtain ⟨vb, vc, rfl, hvb, hvc⟩ := hv
 have hmm := Tryz.makeNumbers
 have HVB := hid hvb
 have HVC := hid hvc
 have HS := hid hs
 have HCS := hid hcs
 obtain ⟨cb, ccap, rfl, hccap, hccap2, hC⟩ := hvc
 obtain ⟨ba, bcap, rfl, hbcap, hbcap2, _⟩ := hvb
 have HC : Hid (∀ i (h : i < J.cos.length), ∃ b o, cb = some ⟨b, o, none⟩ ∧ b < w.heap.size ∧ CoAt w b (o + i * 3) J.cos[i]) := hC
 clear hC hs hcs
 obtain ⟨wz, hwz⟩ : ∃ wz, wz = ((w.alloc (.cells #[.slice ba J.base.length bcap, .int .i64 J.first, .slice cb J.cos.length ccap] 49)).alloc (.map #[] 0)).alloc (.cells #[.slice ba J.base.length bcap, .int .i64 J.first, .slice cb J.cos.length ccap, .slice ba J.base.length bcap, .map (some (w.heap.size + 1))] 121) := ⟨_, rfl⟩
 have hbz : Below w.heap.size w wz := by rw [hwz]; exact (((Below.refl _ _).alloc (Nat.le_refl _) _).alloc (by simp) _).alloc (by simp; omega) _
 have hsz : w.heap.size + 1 + 1 < wz.heap.size := by rw [hwz]; simp
 have HK0 := hid (show Kp wz (w.heap.size + 1 + 1) (w.heap.size + 1) (.slice ba J.base.length bcap) J.first (.slice cb J.cos.length ccap) J.base 0 (.map []) from by
  refine ⟨.slice ba J.base.length bcap, ?_, HVB.out.below hbz, ?_, by omega⟩
  · have := Cs.new ((w.alloc (.cells #[.slice ba J.base.length bcap, .int .i64 J.first, .slice cb J.cos.length ccap] 49)).alloc (.map #[] 0)) [.slice ba J.base.length bcap, .int .i64 J.first, .slice cb J.cos.length ccap, .slice ba J.base.length bcap, .map (some (w.heap.size + 1))] 121
    rw [hwz]; simpa using this
  · have := (World.ownsMap_made (w.alloc (.cells #[.slice ba J.base.length bcap, .int .i64 J.first, .slice cb J.cos.length ccap] 49)) Tryz.prog 9 (plainElem (H := Unit) Tryz.prog 3)).alloc (.cells #[.slice ba J.base.length bcap, .int .i64 J.first, .slice cb J.cos.length ccap, .slice ba J.base.length bcap, .map (some (w.heap.size + 1))] 121)
    rw [hwz]; simpa using this)
 by_cases ht : Pp.treeE J.base = 0
 · have HT := hid ht
   by_cases hf : Pp.verE J.first = 0
   · have hf1 := Jn.ver_iff.1 hf
     by_cases hm : 30 < J.cos.length
     · have HE := hid (Jn.chk_many ht hf hm)
       have hm' : 30 < (J.cos.length : Int) := by omega
       obtain ⟨f1, f2⟩ := hf1
       clear ht hf
       go_enter Tryz.func53, Tryz.ntmps53
       go_wp2_with fail
       rw [← hwz]
       clear hwz
       refine (tcheck_all J.base _ _ (HVB.out.below hbz) HS.out).mono ?_
       rintro e w1 ⟨rfl, hb1⟩
       rw [HT.out]
       obtain ⟨vt1, HB1, _⟩ := HK0.out.below hb1
       have c1 := HB1.cell 1 rfl
       have c2 := HB1.cell 2 rfl
       clear HB1
       go_wp2_with fail
       go_ret2
       exact ⟨_, by rw [HE.out]; rfl, (fun h => by rw [HE.out] at h; exact absurd h (by decide)), fun _ => rfl, below_tr hbz hb1⟩
     · have hm' : ¬ 30 < (J.cos.length : Int) := by omega
       obtain ⟨f1, f2⟩ := hf1
       have HG := hid ((Pp.good_iff J.base).1 ht)
       have HRUN := hid (show ∀ e T, Jn.runJ J.first J.base J.cos = (e, T) → ¬ e = 0 → Jn.chkE J = e from fun e T h he => Jn.chk_run ht hf hm h he)
       have HTW := hid (show ∀ T, Jn.runJ J.first J.base J.cos = (0, T) → ¬ Jn.Apart J.cos → Jn.chkE J = 6 from fun T h ha => Jn.chk_twice ht hf hm h ha)
       have HOK := hid (show ∀ T, Jn.runJ J.first J.base J.cos = (0, T) → Jn.Apart J.cos → Jn.chkE J = 0 ∧ Jn.tree J = T from fun T h ha => ⟨Jn.chk_ok ht hf hm h ha, Jn.tree_of h⟩)
       clear ht hf
       go_enter Tryz.func53, Tryz.ntmps53
       go_wp2_with fail
       rw [← hwz]
       clear hwz
       refine (tcheck_all J.base _ _ (HVB.out.below hbz) HS.out).mono ?_
       rintro e w1 ⟨rfl, hb1⟩
       rw [HT.out]
       have HK1 := hid (HK0.out.below hb1)
       obtain ⟨vt1, HB1, _⟩ := HK1.out
       have c1 := HB1.cell 1 rfl
       have c2 := HB1.cell 2 rfl
       clear HB1
       have hb01 := below_tr hbz hb1
       have hsz1 : w.heap.size + 1 + 1 < w1.heap.size := Nat.lt_of_lt_of_le hsz hb1.size
       clear hb1
       go_wp2_with fail
       go_loopw [52] (fun i wr => ∃ k : Nat, k ≤ J.cos.length ∧ i = .int .i64 k ∧ Hid (Kp wr (w.heap.size + 1 + 1) (w.heap.size + 1) (.slice ba J.base.length bcap) J.first (.slice cb J.cos.length ccap) (Jn.trAt J k) k (Jn.D (J.cos.take k))) ∧ Hid (Jn.LeftJ J (Jn.trAt J k) k) ∧ Hid (Pp.Good (Jn.trAt J k)) ∧ Below w.heap.size w wr ∧ w.heap.size + 1 + 1 < wr.heap.size) (fun i _ => J.cos.length - (intOf i).toNat)
       case atStart => exact ⟨0, Nat.zero_le _, rfl, by rw [Jn.trAt_zero, List.take_zero]; exact HK1, by rw [Jn.trAt_zero]; exact Jn.left_zero J, by rw [Jn.trAt_zero]; exact HG, hb01, hsz1⟩
       case round =>
        obtain ⟨k, hk, rfl, HK, HL, HGS, hbel, hszr⟩ := hrel
        clear hb01 hsz1 c1 c2
        by_cases hlt : k < J.cos.length
        · obtain ⟨b, o, rfl, hb, he⟩ := HC.out k hlt
          obtain ⟨c0, c1, u, c2, hu⟩ := he.below hb hbel
          have HZ := hid (HCS.out J.cos[k] (List.getElem_mem hlt))
          have HBAD := hid (show ¬ Jn.coE J.cos[k] (J.first + k) = 0 → Jn.chkE J = Jn.coE J.cos[k] (J.first + k) from fun h0 => HRUN.out _ _ (Jn.left_bad HL.out hlt h0) h0)
          have HALL := hid (show Jn.coE J.cos[k] (J.first + k) = 0 → ¬ Pp.allE (Jn.trAt J k) J.cos[k].ch J.cos[k].nu = 0 → Jn.chkE J = Pp.allE (Jn.trAt J k) J.cos[k].ch J.cos[k].nu from fun h0 h1 => HRUN.out _ _ (Jn.left_all HL.out hlt h0 h1) h1)
          have HNX := hid (show Jn.coE J.cos[k] (J.first + k) = 0 → Pp.allE (Jn.trAt J k) J.cos[k].ch J.cos[k].nu = 0 → Jn.LeftJ J (Jn.trAt J (k + 1)) (k + 1) from fun h0 h1 => by rw [Jn.trAt_succ hlt]; exact Jn.left_next HL.out hlt h0 h1)
          have HTR : Hid (Jn.trAt J (k + 1) = Pp.allR (Jn.trAt J k) J.cos[k].ch J.cos[k].nu) := Jn.trAt_succ hlt
          have HD : Hid (Jn.D (J.cos.take (k + 1)) = (Jn.D (J.cos.take k)).put (Jn.key J.cos[k].ke) (Jn.num J.cos[k].nu)) := Jn.D_take hlt
          clear he
          generalize J.cos[k] = ck at *
          obtain ⟨nu, ke, ch⟩ := ck
          simp only at c0 c1 c2 hu
          have HKE := hid (show ke.size ≤ maxLen from by have : ke.size ≤ 150000000000000 := HZ.out.1; unfold maxLen; omega)
          have HU := hid hu
          obtain ⟨ua, ucap, rfl, _, _, _⟩ := hu
          obtain ⟨wy, hwy⟩ : ∃ wy, wy = wr.alloc (.cells #[.int .i64 nu, .string ke, .slice ua ch.length ucap] 58) := ⟨_, rfl⟩
          have hby : Below wr.heap.size wr wy := by rw [hwy]; exact (Below.refl _ _).alloc (Nat.le_refl _) _
          have y0 : wy.cell? ⟨wr.heap.size, 0, none⟩ = some (.int .i64 nu) := by rw [hwy]; simp
          have y1 : wy.cell? ⟨wr.heap.size, 1, none⟩ = some (.string ke) := by rw [hwy]; simp
          have y2 : wy.cell? ⟨wr.heap.size, 2, none⟩ = some (.slice ua ch.length ucap) := by rw [hwy]; simp
          have hszy : wr.heap.size < wy.heap.size := by rw [hwy]; simp
          have HKY := hid (HK.out.below hby)
          obtain ⟨vt, hB, _⟩ := HKY.out
          have y3 := hB.cell 1 rfl
          clear hB
          have hwrap : IntKind.i64.wrap (J.first + (k : Int)) = J.first + k := by rw [IntKind.wrap_i64]; omega
          go_wp2_with fail
          rw [← hwy]
          clear hwy c0 c1 c2
          go_region_held3 (fun W => W.cell? ⟨wr.heap.size, 0, none⟩ = some (.int .i64 nu) ∧ W.cell? ⟨wr.heap.size, 1, none⟩ = some (.string ke) ∧ W.cell? ⟨wr.heap.size, 2, none⟩ = some (.slice ua ch.length ucap) ∧ W.cell? ⟨w.heap.size + 1 + 1, 1, none⟩ = some (.int .i64 J.first)) (go_keep) (first
           | (go_at_call 94; refine (checkCommit_any ⟨nu, ke, ch⟩ _ (J.first + k) _ (HU.out.below (below_tr hby (Below.refl _ _).drew)) HKE.out).mono ?_; rintro e wa ⟨rfl, hba⟩; have hya : Below wy.heap.size wy wa := ((Below.refl _ _).drew).trans hba; have j0 := (hya.cell (p := ⟨wr.heap.size, 0, none⟩) hszy).trans y0; have j1 := (hya.cell (p := ⟨wr.heap.size, 1, none⟩) hszy).trans y1; have j2 := (hya.cell (p := ⟨wr.heap.size, 2, none⟩) hszy).trans y2; have j3 := (hya.cell (p := ⟨w.heap.size + 1 + 1, 1, none⟩) (Nat.lt_trans hszr hszy)).trans y3))
          have hbela := below_tr hbel (below_tr hby hya)
          have HKA := hid (HKY.out.below hya)
          have HUA := hid (HU.out.below (below_tr hby hya))
          have hsza := hya.size
          by_cases h0 : Jn.coE ⟨nu, ke, ch⟩ (J.first + k) = 0
          · obtain ⟨n1, n2, _, _⟩ := Jn.co_zero h0
            have hnu : (Lit.int .i64 nu).wf = true := Jn.wf_num (by simp only at n1; omega) (by simp only at n1; omega)
            have HNW := hid hnu
            clear n1 n2 hnu
            have HA := hid (HALL.out h0)
            have HN := hid (HNX.out h0)
            have HSZ := hid (Pp.good_sized HGS.out)
            have HKM := hid (show k < maxLen from by unfold maxLen; omega)
            have HI1 := hid (show w.heap.size ≤ w.heap.size + 1 + 1 from by omega)
            have HI2 := hid (show w.heap.size ≤ w.heap.size + 1 from by omega)
            rw [h0]
            clear h0 HBAD HALL HNX
            go_wp2_with fail
            refine (take_any ⟨nu, ke, ch⟩ (.slice ua ch.length ucap) (w.heap.size + 1 + 1) (w.heap.size + 1) k (.slice ba J.base.length bcap) (.slice (some ⟨b, o, none⟩) J.cos.length ccap) J.first (Jn.trAt J k) (Jn.D (J.cos.take k)) wa HUA.out HZ.out.2 HKE.out HNW.out HKA.out HSZ.out HKM.out nostr_slice nostr_slice).mono ?_
            rintro e w4 ⟨rfl, hn4, hK4⟩
            have hb4 : Below w.heap.size wa w4 := hn4.to (by omega) HI1.out HI2.out
            clear hn4
            have HK4 := hid hK4
            have hbel4 := hbela.trans hb4
            have hsz4 := hb4.size
            clear hK4 hb4
            by_cases h1 : Pp.allE (Jn.trAt J k) ch nu = 0
            · have HK5 := HK4.out h1
              simp only at HK5
              rw [← HTR.out, ← HD.out] at HK5
              have HK6 := hid HK5
              have HL6 := hid (HN.out h1)
              have HG6 := hid (show Pp.Good (Jn.trAt J (k + 1)) from by rw [HTR.out]; exact Jn.all_good h1)
              rw [h1]
              clear h1 HK5 HK4 HA HN HTR HD
              go_wp2_with fail
              go_roundw
              case rel => exact ⟨k + 1, by omega, by simp, HK6, HL6, HG6, hbel4, by omega⟩
              case measure => simp [intOf]; omega
            · have HE := hid (HA.out h1)
              have H1 := hid h1
              have hz : (Pp.allE (Jn.trAt J k) ch nu == 0) = false := by simpa using h1
              clear h1 HK4 HA HN HTR HD
              go_wp2_with fail
              go_ret2
              exact ⟨_, by rw [HE.out]; rfl, fun h => absurd (HE.out ▸ h) H1.out, fun _ => rfl, hbel4⟩
          · have HE := hid (HBAD.out h0)
            have hz : (Jn.coE ⟨nu, ke, ch⟩ (J.first + k) == 0) = false := by simpa using h0
            have H0 := hid h0
            clear h0 HBAD HALL HNX HTR HD
            go_wp2_with fail
            go_ret2
            exact ⟨_, by rw [HE.out]; rfl, fun h => absurd (HE.out ▸ h) H0.out, fun _ => rfl, hbela⟩
        · obtain rfl : k = J.cos.length := by omega
          rw [List.take_length] at HK
          have hr := Jn.left_end HL.out
          obtain ⟨vt, hB, hLt, hM, hne⟩ := HK.out
          have c2 := hB.cell 2 rfl
          have c4 := hB.cell 4 rfl
          have hlen := fun ty => hM.drew.len Tryz.underlying72 ty
          have hds := Jn.D_size J.cos
          by_cases hap : Jn.Apart J.cos
          · have hsz : (Maps.size (Jn.D J.cos) : Int) = J.cos.length := by rw [hds.2.2 hap]
            obtain ⟨hE, hT⟩ := HOK.out _ hr hap
            have HE := hid hE
            have HKK := hid (show Keeps wr (.pointer (some ⟨w.heap.size + 1 + 1, 0, none⟩)) w.heap.size (.agg #[.slice ba J.base.length bcap, .int .i64 J.first, .slice cb J.cos.length ccap]) J from ⟨w.heap.size + 1 + 1, w.heap.size + 1, _, _, J.cos.length, rfl, rfl, by omega, by omega, by rw [hT]; exact HK.out, by omega⟩)
            clear hE hT hr hB hLt hM hds hap
            go_wp2_with fail
            go_region
            have HKD := hid (HKK.out.below (Below.refl _ _).drew)
            have hbd := below_tr hbel (Below.refl _ _).drew
            go_wp2_with fail
            go_ret2
            exact ⟨_, by rw [HE.out]; rfl, fun _ => HKD.out, fun h => absurd HE.out h, hbd⟩
          · have hsz : (Maps.size (Jn.D J.cos) : Int) < J.cos.length := by
             rcases Nat.lt_or_ge (Maps.size (Jn.D J.cos)) J.cos.length with h | h
             · omega
             · exact absurd (hds.2.1 (by omega)) hap
            have HE := hid (HTW.out _ hr hap)
            clear hr hB hLt hM hds hap
            have hbd := below_tr hbel (Below.refl _ _).drew
            go_wp2_with fail
            go_region
            go_wp2_with fail
            go_ret2
            exact ⟨_, by rw [HE.out]; rfl, (fun h => by rw [HE.out] at h; exact absurd h (by decide)), fun _ => rfl, hbd⟩
   · have HE := hid (Jn.chk_first ht hf)
     have hf' : J.first < 1 ∨ 1000000 < J.first := by
      rcases Int.lt_or_le J.first 1 with h | h
      · exact Or.inl h
      · rcases Int.lt_or_le 1000000 J.first with h2 | h2
        · exact Or.inr h2
        · exact absurd (Jn.ver_iff.2 ⟨h, h2⟩) hf
     clear ht hf
     rcases hf' with hf' | hf'
     all_goals
      try (have hf2 : ¬ J.first < 1 := by omega)
      go_enter Tryz.func53, Tryz.ntmps53
      go_wp2_with fail
      rw [← hwz]
      clear hwz
      refine (tcheck_all J.base _ _ (HVB.out.below hbz) HS.out).mono ?_
      rintro e w1 ⟨rfl, hb1⟩
      rw [HT.out]
      obtain ⟨vt1, HB1, _⟩ := HK0.out.below hb1
      have c1 := HB1.cell 1 rfl
      clear HB1
      go_wp2_with fail
      go_ret2
      exact ⟨_, by rw [HE.out]; rfl, (fun h => by rw [HE.out] at h; exact absurd h (by decide)), fun _ => rfl, below_tr hbz hb1⟩
 · have hzz : (Pp.treeE J.base == 0) = false := by simpa using ht
   have HE := hid (Jn.chk_tree ht)
   have HN := hid ht
   go_enter Tryz.func53, Tryz.ntmps53
   go_wp2_with fail
   rw [← hwz]
   clear hwz
   refine (tcheck_all J.base _ _ (HVB.out.below hbz) HS.out).mono ?_
   rintro e w1 ⟨rfl, hb1⟩
   go_wp2_with fail
   go_ret2
   exact ⟨_, by rw [HE.out]; rfl, fun h => absurd (HE.out ▸ h) HN.out, fun _ => rfl, below_tr hbz hb1⟩
end Go.Proofs.YtchlgpeiombmdaaGreat
