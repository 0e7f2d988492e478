/- What tree.isStale, changed, apply, Apply and All answer, where a folder is made or a file is written at a path at which nothing is, and nothing stands against it. -/
import Derived.Test.YtagdilnbbepccabT8
set_option linter.unusedSimpArgs false
set_option linter.unusedVariables false
namespace Go.Proofs.Ytagdilnbbepccab
open Go.RowKit

namespace Pp
def stB (q : List UInt8) (b : Int) (e : En) : Bool := decide (b < e.ver) && inB q e
end Pp

set_option maxHeartbeats 800000 in
theorem stale1_any (x : En) (q : ByteArray) (k : Int) (t u : ByteArray) (b : Int) (c d g : Nat) (cb : Array Value) (w : World) (hc : c < w.heap.size) (hd : d < w.heap.size) (h4 : w.cell? ⟨c, 4, none⟩ = some (.int .i64 b)) (hd0 : w.cell? ⟨d, 0, none⟩ = some (.func (.func g) #[] cb)) (hg : Tells w g cb (Pp.inB q.data.toList)) (hs : x.path.size ≤ 1000000000000000) :
    Calls Try.prog 55 #[.agg #[.string x.path, .bool x.folder, .string x.text, .int .i64 x.ver], .pointer (some ⟨c, 0, none⟩), .pointer (some ⟨d, 0, none⟩)] w fun r w' => r = .returned (.bool (Pp.stB q.data.toList b x)) ∧ Below w.heap.size w w' := by
  have hc2 : ∀ o, (w.alloc o).cell? ⟨c, 4, none⟩ = some (.int .i64 b) := fun o => (((Below.refl w.heap.size w).alloc (Nat.le_refl _) o).cell (p := ⟨c, 4, none⟩) hc).trans h4
  have hd2 : ∀ o, (w.alloc o).cell? ⟨d, 0, none⟩ = some (.func (.func g) #[] cb) := fun o => (((Below.refl w.heap.size w).alloc (Nat.le_refl _) o).cell (p := ⟨d, 0, none⟩) hd).trans hd0
  have HG : Hid (Tells w g cb (Pp.inB q.data.toList)) := hg
  have eg := hg.1
  clear hg
  by_cases hv : b < x.ver
  · have HE : Hid (Pp.inB q.data.toList x = Pp.stB q.data.toList b x) := (by rw [Pp.stB]; simp [hv] : Pp.inB q.data.toList x = Pp.stB q.data.toList b x)
    go_enter Try.func55, Try.ntmps55
    go_wp2_with fail
    refine (HG.out.2 _ ((Below.refl _ _).alloc (Nat.le_refl _) _) x hs).mono ?_
    rintro r w1 ⟨rfl, hb1⟩
    obtain ⟨d0, d1, d2, d3, hb1w, hlt1⟩ := box4 hb1
    clear hb1 eg
    go_wp2
    go_ret
    exact ⟨Pp.ret_bool HE.out, hb1w⟩
  · have HE : Hid (false = Pp.stB q.data.toList b x) := (by rw [Pp.stB]; simp [hv] : false = Pp.stB q.data.toList b x)
    go_enter Try.func55, Try.ntmps55
    go_wp2
    go_ret
    exact ⟨Pp.ret_bool HE.out, (Below.refl _ _).alloc (Nat.le_refl _) _⟩

set_option maxHeartbeats 1000000 in
theorem isStale_no (L : List En) (v : Value) (k : Int) (p q t : ByteArray) (b : Int) (w : World) (hv : Lies w v L) (hs : Sized L) (hp : p.size ≤ 1000000000000000) (hb : b = -1 ∨ L.find? (Pp.stB p.data.toList b) = none) :
    Calls Try.prog 47 #[v, .agg #[.int .i64 k, .string p, .string q, .string t, .int .i64 b]] w fun e w' => e = .returned (.bool false) ∧ Below w.heap.size w w' := by
  have HV : Hid (Lies w v L) := hv
  have HS : Hid (∀ e ∈ L, e.path.size ≤ 1000000000000000) := (fun e he => (hs e he).1 : ∀ e ∈ L, e.path.size ≤ 1000000000000000)
  clear hv hs
  by_cases h1 : b = -1
  · subst h1
    go_enter Try.func47, Try.ntmps47
    go_wp2
    go_ret
    exact ⟨rfl, (Below.refl _ _).alloc (Nat.le_refl _) _⟩
  · have HF : Hid (L.find? (Pp.stB p.data.toList b) = none) := (hb.resolve_left h1 : L.find? (Pp.stB p.data.toList b) = none)
    have h2 : (b == -1) = false := by simpa using h1
    clear hb
    have hst : ∀ (W : World) (a : Addr) (f : Fn) (x y : Array Value), (store a (.func f x y)).run Try.prog W = stored Try.prog W a (.func f x y) .plain := fun W a f x y => run_store Try.prog W a _ _ rfl
    go_enter Try.func47, Try.ntmps47
    go_wp2_with fail
    refine (twithin_any p _ hp).mono ?_
    rintro e w1 ⟨rfl, ht, hb1⟩
    obtain ⟨c0, c1, c2, c3, c4, hbw, hlt⟩ := box5 hb1
    have HT : Hid (Tells w1 64 #[.pointer (some ⟨(w.alloc (.cells #[.int .i64 k, .string p, .string q, .string t, .int .i64 b] 35)).heap.size, 0, none⟩)] (Pp.inB p.data.toList)) := ht
    clear ht hb1
    go_wp2_with fail
    refine (first_any L v _ _ (Pp.stB p.data.toList b) _ (HV.out.below (hbw.alloc (Nat.le_of_lt hlt) _)) ⟨enters_of Try.func55 (by kernel_rfl) rfl, ?_⟩ HS.out).mono ?_
    · intro W hW x hx
      have hW1 : Below w1.heap.size w1 W := ((Below.refl _ _).alloc (Nat.le_refl _) _).trans (hW.mono (by simp))
      refine stale1_any x p k t q b w.heap.size w1.heap.size 64 #[.pointer (some ⟨w.heap.size + 1, 0, none⟩)] W (Nat.lt_of_lt_of_le hlt hW1.size) (Nat.lt_of_lt_of_le (by simp) hW.size) ((hW1.cell (p := ⟨w.heap.size, 4, none⟩) hlt).trans c4) ((hW.cell (p := ⟨w1.heap.size, 0, none⟩) (by simp)).trans (by simp)) ?_ hx
      have h := HT.out.below hW1
      simpa using h
    · rintro e w2 ⟨rfl, hb2⟩
      rw [HF.out, fnd]
      have hbw2 : Below w.heap.size w w2 := (hbw.alloc (Nat.le_of_lt hlt) _).trans (hb2.mono (by simp; omega))
      have hlt2 : w.heap.size < w2.heap.size := by have := hb2.size; simp at this; omega
      clear hb2 c0 c1 c2 c3 c4
      go_wp2
      go_ret
      exact ⟨rfl, hbw2.alloc (Nat.le_of_lt hlt2) _⟩

/-- What is made of a change. -/
def made (k : Int) (p t : ByteArray) (n : Int) : En := ⟨p, decide (k = 1), t, n⟩

set_option maxHeartbeats 800000 in
theorem changed_ok (L : List En) (v : Value) (k : Int) (p t : ByteArray) (b n : Int) (w : World) (hv : Lies w v L) (hn : L.length ≤ 60) (hs : Sized L) (hk : Plain k t) (hp : p.size ≤ 1000000000000000) (hL : L.Pairwise (fun x y => Pp.lt x y = true)) (hlen : ¬ 60 < (Pp.out (made k p t n) L).length + 1) :
    Calls Try.prog 48 #[v, .agg #[.int .i64 k, .string p, .string ⟨#[]⟩, .string t, .int .i64 b], .int .i64 n] w fun e w' => ∃ u, e = .returned (.tuple #[u, .int .i64 0]) ∧ Lies w' u (Pp.ins (made k p t n) (Pp.out (made k p t n) L)) ∧ Below w.heap.size w w' := by
  have HV : Hid (Lies w v L) := hv
  have HS : Hid (Sized L) := hs
  have HL : Hid (L.Pairwise (fun x y => Pp.lt x y = true)) := hL
  have HN : Hid (¬ 60 < (Pp.out (made k p t n) L).length + 1) := hlen
  clear hv hs hL hlen
  rcases hk with ⟨rfl, rfl⟩ | rfl
  all_goals
    go_enter Try.func48, Try.ntmps48
    go_wp2_with fail
  · refine (put_any L v (made 1 p ⟨#[]⟩ n) _ (HV.out.below ((Below.refl _ _).alloc (Nat.le_refl _) _)) hn HS.out hp HL.out).mono ?_
    rintro e w1 (⟨h, _⟩ | ⟨_, u, rfl, hli, hb1⟩)
    · exact absurd h HN.out
    · obtain ⟨c0, c1, c2, c3, c4, hbw, hlt⟩ := box5 hb1
      have HLI : Hid (Lies w1 u (Pp.ins (made 1 p ⟨#[]⟩ n) (Pp.out (made 1 p ⟨#[]⟩ n) L))) := hli
      clear hb1 hli c0 c1 c2 c3 c4
      go_wp2
      go_ret2
      exact ⟨u, rfl, HLI.out, hbw⟩
  · refine (put_any L v (made 2 p t n) _ (HV.out.below ((Below.refl _ _).alloc (Nat.le_refl _) _)) hn HS.out hp HL.out).mono ?_
    rintro e w1 (⟨h, _⟩ | ⟨_, u, rfl, hli, hb1⟩)
    · exact absurd h HN.out
    · obtain ⟨c0, c1, c2, c3, c4, hbw, hlt⟩ := box5 hb1
      have HLI : Hid (Lies w1 u (Pp.ins (made 2 p t n) (Pp.out (made 2 p t n) L))) := hli
      clear hb1 hli c0 c1 c2 c3 c4
      go_wp2
      go_ret2
      exact ⟨u, rfl, HLI.out, hbw⟩
end Go.Proofs.Ytagdilnbbepccab
