/- What tree.checkChange, checkPlace, isStale, changed and apply answer, where a folder is made or a file is written at a path at which nothing is, and nothing stands against it. -/
import Derived.Test.YtagdilnbbepccabT7
set_option linter.unusedSimpArgs false
set_option linter.unusedVariables false
namespace Go.Proofs.Ytagdilnbbepccab
open Go.RowKit

theorem box5 {w w1 : World} {a b c d e : Value} {T : TypeId} (h : Below (w.alloc (.cells #[a, b, c, d, e] T)).heap.size (w.alloc (.cells #[a, b, c, d, e] T)) w1) :
    w1.cell? ⟨w.heap.size, 0, none⟩ = some a ∧ w1.cell? ⟨w.heap.size, 1, none⟩ = some b ∧ w1.cell? ⟨w.heap.size, 2, none⟩ = some c ∧ w1.cell? ⟨w.heap.size, 3, none⟩ = some d ∧ w1.cell? ⟨w.heap.size, 4, none⟩ = some e ∧ Below w.heap.size w w1 ∧ w.heap.size < w1.heap.size := by
  have hz : w.heap.size < (w.alloc (.cells #[a, b, c, d, e] T)).heap.size := by simp
  refine ⟨?_, ?_, ?_, ?_, ?_, ((Below.refl _ _).alloc (Nat.le_refl _) _).trans (h.mono (Nat.le_of_lt hz)), Nat.lt_of_lt_of_le hz h.size⟩
  · exact (h.cell (p := ⟨w.heap.size, 0, none⟩) hz).trans (by simp)
  · exact (h.cell (p := ⟨w.heap.size, 1, none⟩) hz).trans (by simp)
  · exact (h.cell (p := ⟨w.heap.size, 2, none⟩) hz).trans (by simp)
  · exact (h.cell (p := ⟨w.heap.size, 3, none⟩) hz).trans (by simp)
  · exact (h.cell (p := ⟨w.heap.size, 4, none⟩) hz).trans (by simp)

/-- Which changes are meant: a folder (no text), or a file. -/
def Plain (k : Int) (t : ByteArray) : Prop := (k = 1 ∧ t = ⟨#[]⟩) ∨ k = 2

set_option maxHeartbeats 800000 in
theorem checkChange_ok (k : Int) (p t : ByteArray) (b : Int) (w : World) (hk : Plain k t) (hp : p.size ≤ 1000000000000000) (hc : Pp.chk p.data.toList = 0) (ht : t.size ≤ 300) (hb1 : -1 ≤ b) (hb2 : b ≤ 1000000) :
    Calls Try.prog 45 #[.agg #[.int .i64 k, .string p, .string ⟨#[]⟩, .string t, .int .i64 b]] w fun e w' => e = .returned (.int .i64 0) ∧ Below w.heap.size w w' := by
  have HC : Hid (Pp.chk p.data.toList = 0) := hc
  have ht2 : (t.size : Int) ≤ 300 := by omega
  clear hc
  rcases hk with ⟨rfl, rfl⟩ | rfl
  all_goals
    go_enter Try.func45, Try.ntmps45
    go_wp2_with fail
    refine (check_any p _ hp).mono ?_
    rintro e w1 ⟨rfl, hb1'⟩
    rw [HC.out]
    obtain ⟨c0, c1, c2, c3, c4, hbw, hlt⟩ := box5 hb1'
    clear hb1'
    go_wp2_with fail
    go_ret
    exact ⟨rfl, hbw⟩

set_option maxHeartbeats 800000 in
theorem checkPlace_ok (L : List En) (v : Value) (k : Int) (p t : ByteArray) (b : Int) (w : World) (hv : Lies w v L) (hs : Sized L) (hk : Plain k t) (hp : p.size ≤ 1000000000000000) (hc : Pp.chk p.data.toList = 0) (hpar : Pp.foldE L (Pp.par p.data.toList) = 0) (hf : L.find? (Pp.atB p.data.toList) = none) :
    Calls Try.prog 46 #[v, .agg #[.int .i64 k, .string p, .string ⟨#[]⟩, .string t, .int .i64 b]] w fun e w' => e = .returned (.int .i64 0) ∧ Below w.heap.size w w' := by
  have HC : Hid (Pp.chk p.data.toList = 0) := hc
  have HP : Hid (Pp.foldE L (Pp.par p.data.toList) = 0) := hpar
  have HF : Hid (L.find? (Pp.atB p.data.toList) = none) := hf
  have HV : Hid (Lies w v L) := hv
  have HS : Hid (∀ e ∈ L, e.path.size ≤ 1000000000000000) := (fun e he => (hs e he).1 : ∀ e ∈ L, e.path.size ≤ 1000000000000000)
  clear hc hpar hf hv hs
  rcases hk with ⟨rfl, rfl⟩ | rfl
  all_goals
    go_enter Try.func46, Try.ntmps46
    go_wp2_with fail
    refine (parent_any p _ hp).mono ?_
    rintro e w1 ⟨rfl, hb1'⟩
    rw [HC.out, Pp.ifc_yes rfl]
    obtain ⟨c0, c1, c2, c3, c4, hbw, hlt⟩ := box5 hb1'
    go_wp2_with fail
    refine (checkFolder_any L v ⟨(Pp.par p.data.toList).toArray⟩ _ (HV.out.below hbw) HS.out).mono ?_
    rintro e w2 ⟨rfl, hb2⟩
    rw [show Pp.foldE L _ = 0 from HP.out]
    have hb02 := hb1'.trans (hb2.mono hb1'.size)
    obtain ⟨d0, d1, d2, d3, d4, hbw2, hlt2⟩ := box5 hb02
    clear hb1' c0 c1 c2 c3 c4 hbw hlt
    go_wp2_with fail
    refine (at_any p _).mono ?_
    rintro e w3 ⟨rfl, hta, hb3⟩
    have HT : Hid (Tells w3 52 #[.pointer (some ⟨w2.heap.size, 0, none⟩)] (Pp.atB p.data.toList)) := hta
    have hb03 := hb02.trans (hb3.mono hb02.size)
    obtain ⟨e0, e1, e2, e3, e4, hbw3, hlt3⟩ := box5 hb03
    clear hta d0 d1 d2 d3 d4 hbw2 hlt2
    go_wp2_with fail
    refine (first_any L v _ _ _ _ (HV.out.below hbw3) HT.out HS.out).mono ?_
    rintro e w4 ⟨rfl, hb4⟩
    rw [HF.out, fnd]
    have hb04 := hb03.trans (hb4.mono hb03.size)
    obtain ⟨f0, f1, f2, f3, f4, hbw4, hlt4⟩ := box5 hb04
    clear e0 e1 e2 e3 e4 hbw3 hlt3 hb02 hb03 hb04 hb2 hb3 hb4
    go_wp2_with fail
    go_ret
    exact ⟨rfl, hbw4.alloc (Nat.le_of_lt hlt4) _⟩
end Go.Proofs.Ytagdilnbbepccab
