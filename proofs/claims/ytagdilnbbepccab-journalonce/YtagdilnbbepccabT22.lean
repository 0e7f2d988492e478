/- What tree.isStale answers, for every change. -/
import Derived.Test.YtagdilnbbepccabT21
import Derived.Test.YtagdilnbbepccabT9
set_option linter.unusedSimpArgs false
set_option linter.unusedVariables false
namespace Go.Proofs.Ytagdilnbbepccab
open Go.RowKit

set_option maxHeartbeats 1000000 in
theorem isStale_yes (L : List En) (v : Value) (k : Int) (p q t : ByteArray) (b : Int) (w : World) (hv : Lies w v L) (hs : ∀ e ∈ L, e.path.size ≤ 1000000000000000) (hp : p.size ≤ 1000000000000000) (h1 : ¬ b = -1) (x : En) (hf : L.find? (Pp.stB p.data.toList b) = some x) :
    Calls Try.prog 47 #[v, .agg #[.int .i64 k, .string p, .string q, .string t, .int .i64 b]] w fun e w' => e = .returned (.bool true) ∧ Below w.heap.size w w' := by
  have HV : Hid (Lies w v L) := hv
  have HS : Hid (∀ e ∈ L, e.path.size ≤ 1000000000000000) := hs
  have HF : Hid (L.find? (Pp.stB p.data.toList b) = some x) := hf
  have h2 : (b == -1) = false := by simpa using h1
  clear hv hs hf
  have hst : ∀ (W : World) (a : Addr) (f : Fn) (x y : Array Value), (store a (.func f x y)).run Try.prog W = stored Try.prog W a (.func f x y) .plain := fun W a f x y => run_store Try.prog W a _ _ rfl
  go_enter Try.func47, Try.ntmps47
  go_wp2_with fail
  refine (twithin_any p _ hp).mono ?_
  rintro e w1 ⟨rfl, ht, hb1⟩
  obtain ⟨c0, c1, c2, c3, c4, hbw, hlt⟩ := bx5 hb1
  have HT : Hid (Tells w1 64 #[.pointer (some ⟨(w.alloc (.cells #[.int .i64 k, .string p, .string q, .string t, .int .i64 b] 35)).heap.size, 0, none⟩)] (Pp.inB p.data.toList)) := ht
  clear ht hb1
  go_wp2_with fail
  refine (first_any L v _ _ (Pp.stB p.data.toList b) _ (HV.out.below (hbw.alloc (Nat.le_of_lt hlt) _)) ⟨enters_of Try.func55 (by kernel_rfl) rfl, ?_⟩ HS.out).mono ?_
  · intro W hW x hx
    have hW1 : Below w1.heap.size w1 W := ((Below.refl _ _).alloc (Nat.le_refl _) _).trans (hW.mono (by simp))
    refine stale1_any x p k t q b w.heap.size w1.heap.size 64 #[.pointer (some ⟨w.heap.size + 1, 0, none⟩)] W (Nat.lt_of_lt_of_le hlt hW1.size) (Nat.lt_of_lt_of_le (by simp) hW.size) ((hW1.cell (p := ⟨w.heap.size, 4, none⟩) hlt).trans c4) ((hW.cell (p := ⟨w1.heap.size, 0, none⟩) (by simp)).trans (by simp)) ?_ hx
    have h := HT.out.below hW1
    simpa using h
  · rintro e w2 ⟨rfl, hb2⟩
    rw [HF.out, fnd]
    have hbw2 : Below w.heap.size w w2 := (hbw.alloc (Nat.le_of_lt hlt) _).trans (hb2.mono (by simp; omega))
    have hlt2 : w.heap.size < w2.heap.size := by have := hb2.size; simp at this; omega
    clear hb2 c0 c1 c2 c3 c4
    go_wp2
    go_ret
    exact ⟨rfl, hbw2.alloc (Nat.le_of_lt hlt2) _⟩

namespace Pp
theorem inB_wi {e : En} {p : List UInt8} (h1 : chk e.path.data.toList = 0) (h2 : chk p = 0) : inB p e = wi p e := by
  rw [inB, wi]; simp [chks, h1, h2]
theorem stB_stW {e : En} {p : List UInt8} {b : Int} (h1 : chk e.path.data.toList = 0) (h2 : chk p = 0) : stB p b e = stW p b e := by
  rw [stB, stW, inB_wi h1 h2]
theorem filter_eq {f g : En → Bool} {L : List En} (h : ∀ e ∈ L, f e = g e) : L.filter f = L.filter g := List.filter_congr h
theorem stl_find {L : List En} {c : Ch} (hL : ∀ e ∈ L, chk e.path.data.toList = 0) (hp : chk c.p.data.toList = 0) : stl L c = (!(c.b == -1) && (L.find? (stB c.p.data.toList c.b)).isSome) := by
  rw [stl]
  congr 1
  cases hf : L.find? (stB c.p.data.toList c.b) with
  | none =>
    rw [List.any_eq_false.2]
    · rfl
    · intro e he
      have := List.find?_eq_none.1 hf e he
      rw [stB_stW (hL e he) hp] at this
      exact this
  | some x =>
    have h1 := List.find?_some hf
    have h2 := List.mem_of_find?_eq_some hf
    rw [stB_stW (hL x h2) hp] at h1
    rw [List.any_eq_true.2 ⟨x, h2, h1⟩]; rfl
end Pp

theorem isStale_any (L : List En) (v : Value) (k : Int) (p q t : ByteArray) (b : Int) (w : World) (hv : Lies w v L) (hs : Sized L) (hp : p.size ≤ 1000000000000000) (hL : ∀ e ∈ L, Pp.chk e.path.data.toList = 0) (hc : Pp.chk p.data.toList = 0) :
    Calls Try.prog 47 #[v, .agg #[.int .i64 k, .string p, .string q, .string t, .int .i64 b]] w fun e w' => e = .returned (.bool (Pp.stl L ⟨k, p, q, t, b⟩)) ∧ Below w.heap.size w w' := by
  have hst := Pp.stl_find (c := ⟨k, p, q, t, b⟩) hL hc
  by_cases h1 : b = -1
  · rw [hst]; subst h1
    exact isStale_no L v k p q t (-1) w hv hs hp (Or.inl rfl)
  · have h2 : (b == -1) = false := by simpa using h1
    cases hf : L.find? (Pp.stB p.data.toList b) with
    | none =>
      have e : Pp.stl L ⟨k, p, q, t, b⟩ = false := by rw [hst]; simp only [hf]; simp
      rw [e]
      exact isStale_no L v k p q t b w hv hs hp (Or.inr hf)
    | some x =>
      have e : Pp.stl L ⟨k, p, q, t, b⟩ = true := by rw [hst]; simp only [hf, h2]; rfl
      rw [e]
      exact isStale_yes L v k p q t b w hv (fun e he => (hs e he).1) hp h1 x hf
end Go.Proofs.Ytagdilnbbepccab
