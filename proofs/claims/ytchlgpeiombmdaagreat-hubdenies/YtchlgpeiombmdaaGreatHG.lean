/- What tree.checkChange, checkPlace, isStale, changed and apply answer, where a folder is made or a file is written at a path at which nothing is, and nothing stands against it. What tree.isStale, changed, apply, Apply and All answer, where a folder is made or a file is written at a path at which nothing is, and nothing stands against it. What tree.apply answers, where a folder is made or a file is written at a path at which nothing is, and nothing stands against it. A row of entries of one's own, as a tree. The function literal of tree.All says yes to all. What tree.Check answers, for a tree of any length. -/
import Derived.Test.YtchlgpeiombmdaaGreatHF
import Derived.Test.YtchlgpeiombmdaaGreatMD
import Derived.Test.YtchlgpeiombmdaaGreatMB
set_option linter.unusedSimpArgs false
set_option linter.unusedVariables false
namespace Go.Proofs.YtchlgpeiombmdaaGreat
open Go.RowKit

theorem box5 {w w1 : World} {a b c d e : Value} {T : TypeId} (h : Below (w.alloc (.cells #[a, b, c, d, e] T)).heap.size (w.alloc (.cells #[a, b, c, d, e] T)) w1) :
    w1.cell? ⟨w.heap.size, 0, none⟩ = some a ∧ w1.cell? ⟨w.heap.size, 1, none⟩ = some b ∧ w1.cell? ⟨w.heap.size, 2, none⟩ = some c ∧ w1.cell? ⟨w.heap.size, 3, none⟩ = some d ∧ w1.cell? ⟨w.heap.size, 4, none⟩ = some e ∧ Below w.heap.size w w1 ∧ w.heap.size < w1.heap.size := by
 have hz : w.heap.size < (w.alloc (.cells #[a, b, c, d, e] T)).heap.size := by simp
 refine ⟨?_, ?_, ?_, ?_, ?_, ((Below.refl _ _).alloc (Nat.le_refl _) _).trans (h.mono (Nat.le_of_lt hz)), Nat.lt_of_lt_of_le hz h.size⟩
 · exact (h.cell (p := ⟨w.heap.size, 0, none⟩) hz).trans (by simp)
 · exact (h.cell (p := ⟨w.heap.size, 1, none⟩) hz).trans (by simp)
 · exact (h.cell (p := ⟨w.heap.size, 2, none⟩) hz).trans (by simp)
 · exact (h.cell (p := ⟨w.heap.size, 3, none⟩) hz).trans (by simp)
 · exact (h.cell (p := ⟨w.heap.size, 4, none⟩) hz).trans (by simp)
/-- Which changes are meant: a folder (no text), or a file. -/
def Plain (k : Int) (t : ByteArray) : Prop := (k = 1 ∧ t = ⟨#[]⟩) ∨ k = 2
set_option maxHeartbeats 800000 in
theorem checkChange_ok (k : Int) (p t : ByteArray) (b : Int) (w : World) (hk : Plain k t) (hp : p.size ≤ 1000000000000000) (hc : Pp.chk p.data.toList = 0) (ht : t.size ≤ 300) (hb1 : -1 ≤ b) (hb2 : b ≤ 1000000) :
    Calls Tryz.prog 167 #[.agg #[.int .i64 k, .string p, .string ⟨#[]⟩, .string t, .int .i64 b]] w fun e w' => e = .returned (.int .i64 0) ∧ Below w.heap.size w w' := by
 have HC : Hid (Pp.chk p.data.toList = 0) := hc
 have ht2 : (t.size : Int) ≤ 300 := by omega
 clear hc
 rcases hk with ⟨rfl, rfl⟩ | rfl
 all_goals
  go_enter Tryz.func167, Tryz.ntmps167
  go_wp2_with fail
  refine (check_any p _ hp).mono ?_
  rintro e w1 ⟨rfl, hb1'⟩
  rw [HC.out]
  obtain ⟨c0, c1, c2, c3, c4, hbw, hlt⟩ := box5 hb1'
  clear hb1'
  go_wp2_with fail
  go_ret
  exact ⟨rfl, hbw⟩
set_option maxHeartbeats 800000 in
theorem checkPlace_ok (L : List En) (v : Value) (k : Int) (p t : ByteArray) (b : Int) (w : World) (hv : Lies w v L) (hs : Sized L) (hk : Plain k t) (hp : p.size ≤ 1000000000000000) (hc : Pp.chk p.data.toList = 0) (hpar : Pp.foldE L (Pp.par p.data.toList) = 0) (hf : L.find? (Pp.atB p.data.toList) = none) :
    Calls Tryz.prog 168 #[v, .agg #[.int .i64 k, .string p, .string ⟨#[]⟩, .string t, .int .i64 b]] w fun e w' => e = .returned (.int .i64 0) ∧ Below w.heap.size w w' := by
 have HC : Hid (Pp.chk p.data.toList = 0) := hc
 have HP : Hid (Pp.foldE L (Pp.par p.data.toList) = 0) := hpar
 have HF : Hid (L.find? (Pp.atB p.data.toList) = none) := hf
 have HV : Hid (Lies w v L) := hv
 have HS := hid (show ∀ e ∈ L, e.path.size ≤ 1000000000000000 from fun e he => (hs e he).1)
 clear hc hpar hf hv hs
 rcases hk with ⟨rfl, rfl⟩ | rfl
 all_goals
  go_enter Tryz.func168, Tryz.ntmps168
  go_wp2_with fail
  refine (parent_any p _ hp).mono ?_
  rintro e w1 ⟨rfl, hb1'⟩
  rw [HC.out, Pp.ifc_yes rfl]
  obtain ⟨c0, c1, c2, c3, c4, hbw, hlt⟩ := box5 hb1'
  go_wp2_with fail
  refine (checkFolder_any L v ⟨(Pp.par p.data.toList).toArray⟩ _ (HV.out.below hbw) HS.out).mono ?_
  rintro e w2 ⟨rfl, hb2⟩
  rw [show Pp.foldE L _ = 0 from HP.out]
  have hb02 := hb1'.trans (hb2.mono hb1'.size)
  obtain ⟨d0, d1, d2, d3, d4, hbw2, hlt2⟩ := box5 hb02
  clear hb1' c0 c1 c2 c3 c4 hbw hlt
  go_wp2_with fail
  refine (at_any p _).mono ?_
  rintro e w3 ⟨rfl, hta, hb3⟩
  have HT : Hid (Tells w3 60 #[.pointer (some ⟨w2.heap.size, 0, none⟩)] (Pp.atB p.data.toList)) := hta
  have hb03 := hb02.trans (hb3.mono hb02.size)
  obtain ⟨e0, e1, e2, e3, e4, hbw3, hlt3⟩ := box5 hb03
  clear hta d0 d1 d2 d3 d4 hbw2 hlt2
  go_wp2_with fail
  refine (first_any L v _ _ _ _ (HV.out.below hbw3) HT.out HS.out).mono ?_
  rintro e w4 ⟨rfl, hb4⟩
  rw [HF.out, fnd]
  have hb04 := hb03.trans (hb4.mono hb03.size)
  obtain ⟨f0, f1, f2, f3, f4, hbw4, hlt4⟩ := box5 hb04
  clear e0 e1 e2 e3 e4 hbw3 hlt3 hb02 hb03 hb04 hb2 hb3 hb4
  go_wp2_with fail
  go_ret
  exact ⟨rfl, hbw4.alloc (Nat.le_of_lt hlt4) _⟩
end Go.Proofs.YtchlgpeiombmdaaGreat
set_option linter.unusedSimpArgs false
set_option linter.unusedVariables false
namespace Go.Proofs.YtchlgpeiombmdaaGreat
open Go.RowKit

namespace Pp
def stB (q : List UInt8) (b : Int) (e : En) : Bool := decide (b < e.ver) && inB q e
end Pp

set_option maxHeartbeats 800000 in
theorem stale1_any (x : En) (q : ByteArray) (k : Int) (t u : ByteArray) (b : Int) (c d g : Nat) (cb : Array Value) (w : World) (hc : c < w.heap.size) (hd : d < w.heap.size) (h4 : w.cell? ⟨c, 4, none⟩ = some (.int .i64 b)) (hd0 : w.cell? ⟨d, 0, none⟩ = some (.func (.func g) #[] cb)) (hg : Tells w g cb (Pp.inB q.data.toList)) (hs : x.path.size ≤ 1000000000000000) :
    Calls Tryz.prog 179 #[.agg #[.string x.path, .bool x.folder, .string x.text, .int .i64 x.ver], .pointer (some ⟨c, 0, none⟩), .pointer (some ⟨d, 0, none⟩)] w fun r w' => r = .returned (.bool (Pp.stB q.data.toList b x)) ∧ Below w.heap.size w w' := by
 have hc2 : ∀ o, (w.alloc o).cell? ⟨c, 4, none⟩ = some (.int .i64 b) := fun o => (((Below.refl w.heap.size w).alloc (Nat.le_refl _) o).cell (p := ⟨c, 4, none⟩) hc).trans h4
 have hd2 : ∀ o, (w.alloc o).cell? ⟨d, 0, none⟩ = some (.func (.func g) #[] cb) := fun o => (((Below.refl w.heap.size w).alloc (Nat.le_refl _) o).cell (p := ⟨d, 0, none⟩) hd).trans hd0
 have HG : Hid (Tells w g cb (Pp.inB q.data.toList)) := hg
 have eg := hg.1
 clear hg
 by_cases hv : b < x.ver
 · have HE := hid (show Pp.inB q.data.toList x = Pp.stB q.data.toList b x from by rw [Pp.stB]; simp [hv])
   go_enter Tryz.func179, Tryz.ntmps179
   go_wp2_with fail
   refine (HG.out.2 _ ((Below.refl _ _).alloc (Nat.le_refl _) _) x hs).mono ?_
   rintro r w1 ⟨rfl, hb1⟩
   obtain ⟨d0, d1, d2, d3, hb1w, hlt1⟩ := box4 hb1
   clear hb1 eg
   go_wp2
   go_ret
   exact ⟨Pp.ret_bool HE.out, hb1w⟩
 · have HE := hid (show false = Pp.stB q.data.toList b x from by rw [Pp.stB]; simp [hv])
   go_enter Tryz.func179, Tryz.ntmps179
   go_wp2
   go_ret
   exact ⟨Pp.ret_bool HE.out, (Below.refl _ _).alloc (Nat.le_refl _) _⟩
set_option maxHeartbeats 1000000 in
theorem isStale_no (L : List En) (v : Value) (k : Int) (p q t : ByteArray) (b : Int) (w : World) (hv : Lies w v L) (hs : Sized L) (hp : p.size ≤ 1000000000000000) (hb : b = -1 ∨ L.find? (Pp.stB p.data.toList b) = none) :
    Calls Tryz.prog 169 #[v, .agg #[.int .i64 k, .string p, .string q, .string t, .int .i64 b]] w fun e w' => e = .returned (.bool false) ∧ Below w.heap.size w w' := by
 have HV : Hid (Lies w v L) := hv
 have HS := hid (show ∀ e ∈ L, e.path.size ≤ 1000000000000000 from fun e he => (hs e he).1)
 clear hv hs
 by_cases h1 : b = -1
 · subst h1
   go_enter Tryz.func169, Tryz.ntmps169
   go_wp2
   go_ret
   exact ⟨rfl, (Below.refl _ _).alloc (Nat.le_refl _) _⟩
 · have HF := hid (show L.find? (Pp.stB p.data.toList b) = none from hb.resolve_left h1)
   have h2 : (b == -1) = false := by simpa using h1
   clear hb
   have hst : ∀ (W : World) (a : Addr) (f : Fn) (x y : Array Value), (store a (.func f x y)).run Tryz.prog W = stored Tryz.prog W a (.func f x y) .plain := fun W a f x y => run_store Tryz.prog W a _ _ rfl
   go_enter Tryz.func169, Tryz.ntmps169
   go_wp2_with fail
   refine (twithin_any p _ hp).mono ?_
   rintro e w1 ⟨rfl, ht, hb1⟩
   obtain ⟨c0, c1, c2, c3, c4, hbw, hlt⟩ := box5 hb1
   have HT : Hid (Tells w1 185 #[.pointer (some ⟨(w.alloc (.cells #[.int .i64 k, .string p, .string q, .string t, .int .i64 b] 67)).heap.size, 0, none⟩)] (Pp.inB p.data.toList)) := ht
   clear ht hb1
   go_wp2_with fail
   refine (first_any L v _ _ (Pp.stB p.data.toList b) _ (HV.out.below (hbw.alloc (Nat.le_of_lt hlt) _)) ⟨enters_of Tryz.func179 (by kernel_rfl) rfl, ?_⟩ HS.out).mono ?_
   · intro W hW x hx
     have hW1 : Below w1.heap.size w1 W := ((Below.refl _ _).alloc (Nat.le_refl _) _).trans (hW.mono (by simp))
     refine stale1_any x p k t q b w.heap.size w1.heap.size 185 #[.pointer (some ⟨w.heap.size + 1, 0, none⟩)] W (Nat.lt_of_lt_of_le hlt hW1.size) (Nat.lt_of_lt_of_le (by simp) hW.size) ((hW1.cell (p := ⟨w.heap.size, 4, none⟩) hlt).trans c4) ((hW.cell (p := ⟨w1.heap.size, 0, none⟩) (by simp)).trans (by simp)) ?_ hx
     have h := HT.out.below hW1
     simpa using h
   · rintro e w2 ⟨rfl, hb2⟩
     rw [HF.out, fnd]
     have hbw2 : Below w.heap.size w w2 := (hbw.alloc (Nat.le_of_lt hlt) _).trans (hb2.mono (by simp; omega))
     have hlt2 : w.heap.size < w2.heap.size := by have := hb2.size; simp at this; omega
     clear hb2 c0 c1 c2 c3 c4
     go_wp2
     go_ret
     exact ⟨rfl, hbw2.alloc (Nat.le_of_lt hlt2) _⟩
/-- What is made of a change. -/
def made (k : Int) (p t : ByteArray) (n : Int) : En := ⟨p, decide (k = 1), t, n⟩
set_option maxHeartbeats 800000 in
theorem changed_ok (L : List En) (v : Value) (k : Int) (p t : ByteArray) (b n : Int) (w : World) (hv : Lies w v L) (hn : L.length ≤ 60) (hs : Sized L) (hk : Plain k t) (hp : p.size ≤ 1000000000000000) (hL : L.Pairwise (fun x y => Pp.lt x y = true)) (hlen : ¬ 60 < (Pp.out (made k p t n) L).length + 1) :
    Calls Tryz.prog 170 #[v, .agg #[.int .i64 k, .string p, .string ⟨#[]⟩, .string t, .int .i64 b], .int .i64 n] w fun e w' => ∃ u, e = .returned (.tuple #[u, .int .i64 0]) ∧ Lies w' u (Pp.ins (made k p t n) (Pp.out (made k p t n) L)) ∧ Below w.heap.size w w' := by
 have HV : Hid (Lies w v L) := hv
 have HS : Hid (Sized L) := hs
 have HL : Hid (L.Pairwise (fun x y => Pp.lt x y = true)) := hL
 have HN : Hid (¬ 60 < (Pp.out (made k p t n) L).length + 1) := hlen
 clear hv hs hL hlen
 rcases hk with ⟨rfl, rfl⟩ | rfl
 all_goals
  go_enter Tryz.func170, Tryz.ntmps170
  go_wp2_with fail
 · refine (put_any L v (made 1 p ⟨#[]⟩ n) _ (HV.out.below ((Below.refl _ _).alloc (Nat.le_refl _) _)) hn HS.out hp HL.out).mono ?_
   rintro e w1 (⟨h, _⟩ | ⟨_, u, rfl, hli, hb1⟩)
   · exact absurd h HN.out
   · obtain ⟨c0, c1, c2, c3, c4, hbw, hlt⟩ := box5 hb1
     have HLI : Hid (Lies w1 u (Pp.ins (made 1 p ⟨#[]⟩ n) (Pp.out (made 1 p ⟨#[]⟩ n) L))) := hli
     clear hb1 hli c0 c1 c2 c3 c4
     go_wp2
     go_ret2
     exact ⟨u, rfl, HLI.out, hbw⟩
 · refine (put_any L v (made 2 p t n) _ (HV.out.below ((Below.refl _ _).alloc (Nat.le_refl _) _)) hn HS.out hp HL.out).mono ?_
   rintro e w1 (⟨h, _⟩ | ⟨_, u, rfl, hli, hb1⟩)
   · exact absurd h HN.out
   · obtain ⟨c0, c1, c2, c3, c4, hbw, hlt⟩ := box5 hb1
     have HLI : Hid (Lies w1 u (Pp.ins (made 2 p t n) (Pp.out (made 2 p t n) L))) := hli
     clear hb1 hli c0 c1 c2 c3 c4
     go_wp2
     go_ret2
     exact ⟨u, rfl, HLI.out, hbw⟩
end Go.Proofs.YtchlgpeiombmdaaGreat
set_option linter.unusedSimpArgs false
set_option linter.unusedVariables false
namespace Go.Proofs.YtchlgpeiombmdaaGreat
open Go.RowKit

/-- A change that nothing in a tree stands against. -/
structure Fits (L : List En) (k : Int) (p t : ByteArray) (b n : Int) : Prop where
 kind : Plain k t
 size : p.size ≤ 1000000000000000
 path : Pp.chk p.data.toList = 0
 text : t.size ≤ 300
 base1 : -1 ≤ b
 base2 : b ≤ 1000000
 vers : Pp.verE n = 0
 folder : Pp.foldE L (Pp.par p.data.toList) = 0
 nowhere : L.find? (Pp.atB p.data.toList) = none
 fresh : b = -1 ∨ L.find? (Pp.stB p.data.toList b) = none
 room : L.length ≤ 60
 room2 : ¬ 60 < (Pp.out (made k p t n) L).length + 1
 sorted : L.Pairwise (fun x y => Pp.lt x y = true)
/-- What comes of it. -/
def after (L : List En) (k : Int) (p t : ByteArray) (n : Int) : List En := Pp.ins (made k p t n) (Pp.out (made k p t n) L)
set_option maxHeartbeats 800000 in
theorem apply_ok (L : List En) (v : Value) (k : Int) (p t : ByteArray) (b n : Int) (w : World) (hv : Lies w v L) (hs : Sized L) (h : Fits L k p t b n) :
    Calls Tryz.prog 152 #[v, .agg #[.int .i64 k, .string p, .string ⟨#[]⟩, .string t, .int .i64 b], .int .i64 n] w fun e w' => ∃ u, e = .returned (.tuple #[u, .int .i64 0]) ∧ Lies w' u (after L k p t n) ∧ Below w.heap.size w w' := by
 have HV : Hid (Lies w v L) := hv
 have HS : Hid (Sized L) := hs
 have HF : Hid (Fits L k p t b n) := h
 clear hv hs h
 go_enter Tryz.func152, Tryz.ntmps152
 go_wp2_with fail
 refine (checkVersion_any n _).mono ?_
 rintro e w1 ⟨rfl, rfl⟩
 rw [HF.out.vers]
 go_wp2_with fail
 refine (checkChange_ok k p t b _ HF.out.kind HF.out.size HF.out.path HF.out.text HF.out.base1 HF.out.base2).mono ?_
 rintro e w2 ⟨rfl, hb2⟩
 obtain ⟨c0, c1, c2, c3, c4, hbw2, hlt2⟩ := box5 hb2
 go_wp2_with fail
 refine (checkPlace_ok L v k p t b _ (HV.out.below hbw2) HS.out HF.out.kind HF.out.size HF.out.path HF.out.folder HF.out.nowhere).mono ?_
 rintro e w3 ⟨rfl, hb3⟩
 have hb03 := hb2.trans (hb3.mono hb2.size)
 clear c0 c1 c2 c3 c4 hbw2 hlt2
 obtain ⟨c0, c1, c2, c3, c4, hbw3, hlt3⟩ := box5 hb03
 clear hb3 hb2
 go_wp2_with fail
 refine (isStale_no L v k p ⟨#[]⟩ t b _ (HV.out.below hbw3) HS.out HF.out.size HF.out.fresh).mono ?_
 rintro e w4 ⟨rfl, hb4⟩
 have hb04 := hb03.trans (hb4.mono hb03.size)
 clear c0 c1 c2 c3 c4 hbw3 hlt3
 obtain ⟨c0, c1, c2, c3, c4, hbw4, hlt4⟩ := box5 hb04
 clear hb03 hb4
 go_wp2_with fail
 refine (changed_ok L v k p t b n _ (HV.out.below hbw4) HF.out.room HS.out HF.out.kind HF.out.size HF.out.sorted HF.out.room2).mono ?_
 rintro e w5 ⟨u, rfl, hli, hb5⟩
 have HLI : Hid (Lies w5 u (after L k p t n)) := hli
 have hb05 := hbw4.trans (hb5.mono (Nat.le_of_lt hlt4))
 clear hb04 hb5 hli c0 c1 c2 c3 c4
 go_wp2
 go_ret2
 exact ⟨u, rfl, HLI.out, hb05⟩
end Go.Proofs.YtchlgpeiombmdaaGreat
set_option linter.unusedSimpArgs false
set_option linter.unusedVariables false
namespace Go.Proofs.YtchlgpeiombmdaaGreat
open Go.RowKit

theorem lies_own {w : World} {base : Nat} {T : TypeId} {v : Value} {L : List En} (h : w.ownsRow base T 4 v L.length (Pp.flat L)) (hn : L.length ≤ 1000000000000000) : Lies w v L := by
 haveI : Inhabited En := ⟨⟨⟨#[]⟩, false, ⟨#[]⟩, 0⟩⟩
 by_cases h0 : L = []
 · subst h0
   obtain ⟨_, h2⟩ := h
   rcases h2 with ⟨rfl, _⟩ | ⟨g, cap, cur, rfl, hg, hh, hc, _⟩
   · exact ⟨none, 0, rfl, Nat.le_refl _, by simp, fun i hi => absurd hi (by simp)⟩
   · exact ⟨some ⟨g, 0, none⟩, cap, rfl, hc, by simp, fun i hi => absurd hi (by simp)⟩
 · obtain ⟨g, cap, rfl, hb, hg, hc, hm⟩ := Pp.own_shape h h0
   have := Pp.lies_holds hg (Pp.holds_own h rfl) (d := L.toArray) (cap := cap) (by simpa using hc) (by simpa using hn)
   simpa using this
end Go.Proofs.YtchlgpeiombmdaaGreat
set_option linter.unusedSimpArgs false
set_option linter.unusedVariables false
namespace Go.Proofs.YtchlgpeiombmdaaGreat
open Go.RowKit

set_option maxHeartbeats 400000 in
theorem yes1_any (x : En) (w : World) :
    Calls Tryz.prog 151 #[.agg #[.string x.path, .bool x.folder, .string x.text, .int .i64 x.ver]] w fun r w' => r = .returned (.bool true) ∧ Below w.heap.size w w' := by
 go_enter Tryz.func151, Tryz.ntmps151
 go_wp2
 go_ret
 exact ⟨rfl, by first | exact Below.refl _ _ | exact (Below.refl _ _).alloc (Nat.le_refl _) _⟩
theorem yes_tells (w : World) : Tells w 151 #[] (fun _ => true) :=
 ⟨enters_of Tryz.func151 (by kernel_rfl) rfl, fun W hW x hx => yes1_any x W⟩
end Go.Proofs.YtchlgpeiombmdaaGreat
set_option linter.unusedSimpArgs false
set_option linter.unusedVariables false
namespace Go.Proofs.YtchlgpeiombmdaaGreat
open Go.RowKit

set_option maxHeartbeats 1000000 in
theorem tcheck_all (L : List En) (v : Value) (w : World) (hv : Lies w v L) (hs : Sized L) :
    Calls Tryz.prog 31 #[v] w fun e w' => e = .returned (.int .i64 (Pp.treeE L)) ∧ Below w.heap.size w w' := by
 by_cases h60 : L.length ≤ 60
 · exact tcheck_any L v w hv (by omega) hs
 · have HE := hid (show 2 = Pp.treeE L from by rw [Pp.treeE, if_pos (by omega)])
   obtain ⟨a, cap, rfl, hcap, hcap2, hL⟩ := hv
   have hl : 60 < (L.length : Int) := by omega
   clear hL hs
   go_enter Tryz.func31, Tryz.ntmps31
   go_wp2_with fail
   go_ret
   exact ⟨Pp.ret_int HE.out, Below.refl _ _⟩
end Go.Proofs.YtchlgpeiombmdaaGreat
