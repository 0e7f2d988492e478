/- What grant.put does; grant.in, right, bounded. -/
import Derived.Test.YtgjiicnhedekjaaG9
set_option linter.unusedSimpArgs false
set_option linter.unusedVariables false
namespace Go.Proofs.Ytgjiicnhedekjaa
open Go.RowKit

namespace Pp
/-- Is a grant another one's, or of another folder? -/
def othG (x e : Gr) : Bool := !(cG e x == 0)
def outG (x : Gr) (G : List Gr) : List Gr := G.filter (othG x)
end Pp

set_option maxHeartbeats 1000000 in
theorem put1_any (e x : Gr) (b : Nat) (w : World) (hb : b < w.heap.size) (h0 : w.cell? ⟨b, 0, none⟩ = some (.string x.fo)) (h1 : w.cell? ⟨b, 1, none⟩ = some (.string x.wh)) (h2 : w.cell? ⟨b, 2, none⟩ = some (.int .i64 x.ri)) :
    Calls Try.prog 34 #[.agg #[.string e.fo, .string e.wh, .int .i64 e.ri], .pointer (some ⟨b, 0, none⟩)] w fun r w' => r = .returned (.bool (Pp.othG x e)) ∧ Below w.heap.size w w' := by
  have HE : Hid ((!(Pp.cG e x == 0)) = Pp.othG x e) := rfl
  have k0 : ∀ o, (w.alloc o).cell? ⟨b, 0, none⟩ = some (.string x.fo) := fun o => (((Below.refl w.heap.size w).alloc (Nat.le_refl _) o).cell (p := ⟨b, 0, none⟩) hb).trans h0
  have k1 : ∀ o, (w.alloc o).cell? ⟨b, 1, none⟩ = some (.string x.wh) := fun o => (((Below.refl w.heap.size w).alloc (Nat.le_refl _) o).cell (p := ⟨b, 1, none⟩) hb).trans h1
  have k2 : ∀ o, (w.alloc o).cell? ⟨b, 2, none⟩ = some (.int .i64 x.ri) := fun o => (((Below.refl w.heap.size w).alloc (Nat.le_refl _) o).cell (p := ⟨b, 2, none⟩) hb).trans h2
  go_enter Try.func34, Try.ntmps34
  go_wp2_with fail
  refine (compare_any e x _).mono ?_
  rintro r w1 ⟨rfl, hb1⟩
  first
    | (obtain ⟨d0, d1, d2, hbw, hlt⟩ := bx3 hb1)
    | (have hbw := hb1)
  generalize Pp.cG e x = y at *
  go_wp2
  go_ret
  exact ⟨Pp.ret_bool HE.out, hbw⟩

set_option maxHeartbeats 1000000 in
theorem in1_any (e : Gr) (f : ByteArray) (b : Nat) (w : World) (hb : b < w.heap.size) (hc : w.cell? ⟨b, 0, none⟩ = some (.string f)) :
    Calls Try.prog 39 #[.agg #[.string e.fo, .string e.wh, .int .i64 e.ri], .pointer (some ⟨b, 0, none⟩)] w fun r w' => r = .returned (.bool (Pp.inF f e)) ∧ Below w.heap.size w w' := by
  have hc2 : ∀ o, (w.alloc o).cell? ⟨b, 0, none⟩ = some (.string f) := fun o => (((Below.refl w.heap.size w).alloc (Nat.le_refl _) o).cell (p := ⟨b, 0, none⟩) hb).trans hc
  have HE : Hid ((e.fo.toList == f.toList) = Pp.inF f e) := rfl
  go_enter Try.func39, Try.ntmps39
  go_wp2
  go_ret
  exact ⟨Pp.ret_bool HE.out, (Below.refl _ _).alloc (Nat.le_refl _) _⟩

set_option maxHeartbeats 1000000 in
theorem in_any (f : ByteArray) (w : World) :
    Calls Try.prog 26 #[.string f] w fun e w' => e = .returned (.func (.func 39) #[] #[.pointer (some ⟨w.heap.size, 0, none⟩)]) ∧ TellsG w' 39 #[.pointer (some ⟨w.heap.size, 0, none⟩)] (Pp.inF f) ∧ Below w.heap.size w w' := by
  go_enter Try.func26, Try.ntmps26
  go_wp2
  go_ret
  refine ⟨rfl, ⟨enters_of Try.func39 (by kernel_rfl) rfl, fun W hW e => ?_⟩, (Below.refl _ _).alloc (Nat.le_refl _) _⟩
  exact in1_any e f w.heap.size W (Nat.lt_of_lt_of_le (by simp) hW.size) ((hW.cell (p := ⟨w.heap.size, 0, none⟩) (by simp)).trans (by simp))

set_option maxHeartbeats 1000000 in
theorem right1_any (e : Gr) (f h : ByteArray) (b b2 : Nat) (w : World) (hb : b < w.heap.size) (hb2 : b2 < w.heap.size) (hc : w.cell? ⟨b, 0, none⟩ = some (.string f)) (hc2 : w.cell? ⟨b2, 0, none⟩ = some (.string h)) :
    Calls Try.prog 41 #[.agg #[.string e.fo, .string e.wh, .int .i64 e.ri], .pointer (some ⟨b, 0, none⟩), .pointer (some ⟨b2, 0, none⟩)] w fun r w' => r = .returned (.bool (Pp.ofW f h e)) ∧ Below w.heap.size w w' := by
  have k0 : ∀ o, (w.alloc o).cell? ⟨b, 0, none⟩ = some (.string f) := fun o => (((Below.refl w.heap.size w).alloc (Nat.le_refl _) o).cell (p := ⟨b, 0, none⟩) hb).trans hc
  have k1 : ∀ o, (w.alloc o).cell? ⟨b2, 0, none⟩ = some (.string h) := fun o => (((Below.refl w.heap.size w).alloc (Nat.le_refl _) o).cell (p := ⟨b2, 0, none⟩) hb2).trans hc2
  cases h1 : (e.fo.toList == f.toList) with
  | true =>
    have HE : Hid ((e.wh.toList == h.toList) = Pp.ofW f h e) := (by rw [Pp.ofW, h1]; rfl : (e.wh.toList == h.toList) = Pp.ofW f h e)
    go_enter Try.func41, Try.ntmps41
    go_wp2
    go_ret
    exact ⟨Pp.ret_bool HE.out, (Below.refl _ _).alloc (Nat.le_refl _) _⟩
  | false =>
    have HE : Hid (false = Pp.ofW f h e) := (by rw [Pp.ofW, h1]; rfl : false = Pp.ofW f h e)
    go_enter Try.func41, Try.ntmps41
    go_wp2
    go_ret
    exact ⟨Pp.ret_bool HE.out, (Below.refl _ _).alloc (Nat.le_refl _) _⟩

namespace Pp
/-- The right of somebody in a folder. -/
def rgt (G : List Gr) (f h : ByteArray) : Int := match G.find? (ofW f h) with
  | some e => e.ri
  | none => 0
end Pp

set_option maxRecDepth 100000 in
set_option maxHeartbeats 1000000 in
theorem right_any (G : List Gr) (v : Value) (f h : ByteArray) (w : World) (hv : LiesG w v G) :
    Calls Try.prog 28 #[v, .string f, .string h] w fun e w' => e = .returned (.int .i64 (Pp.rgt G f h)) ∧ Below w.heap.size w w' := by
  have HV := ghid hv
  have hT : TellsG ((w.alloc (.cells #[.string f] 9)).alloc (.cells #[.string h] 9)) 41 #[.pointer (some ⟨w.heap.size, 0, none⟩), .pointer (some ⟨w.heap.size + 1, 0, none⟩)] (Pp.ofW f h) := by
    refine ⟨enters_of Try.func41 (by kernel_rfl) rfl, fun W hW e => ?_⟩
    exact right1_any e f h w.heap.size (w.heap.size + 1) W (Nat.lt_of_lt_of_le (by simp; omega) hW.size) (Nat.lt_of_lt_of_le (by simp) hW.size) ((hW.cell (p := ⟨w.heap.size, 0, none⟩) (by simp; omega)).trans (by simp [go_sem])) ((hW.cell (p := ⟨w.heap.size + 1, 0, none⟩) (by simp)).trans (by simp [go_sem]))
  have HT := ghid hT
  clear hT
  have hbb : Below w.heap.size w ((w.alloc (.cells #[.string f] 9)).alloc (.cells #[.string h] 9)) := ((Below.refl _ _).alloc (Nat.le_refl _) _).alloc (by simp) _
  rcases Pp.idG_cases G (Pp.ofW f h) with ⟨hi, hf, _⟩ | ⟨k, hk, hi, hf, _⟩
  · have HI := ghid hi
    have HE : Hid (0 = Pp.rgt G f h) := (by rw [Pp.rgt, hf] : 0 = Pp.rgt G f h)
    clear hi hf hv
    go_enter Try.func28, Try.ntmps28
    go_wp2_with fail
    refine (indexFunc_any G _ _ _ (Pp.ofW f h) _ (HV.out.below hbb) HT.out).mono ?_
    rintro e w1 ⟨rfl, hb1⟩
    rw [HI.out]
    have hb2 := hbb.trans (hb1.mono hbb.size)
    go_wp2
    go_ret
    exact ⟨Pp.ret_int HE.out, hb2⟩
  · have HI := ghid hi
    have HE : Hid ((G[k]).ri = Pp.rgt G f h) := (by rw [Pp.rgt, hf] : (G[k]).ri = Pp.rgt G f h)
    obtain ⟨a, cap, rfl, hcap, hcap2, hLL⟩ := hv
    obtain ⟨b, o, rfl, hb, he⟩ := hLL k hk
    have hkk : (k : Int) < G.length := by omega
    clear hi hf hLL
    go_enter Try.func28, Try.ntmps28
    go_wp2_with fail
    refine (indexFunc_any G _ _ _ (Pp.ofW f h) _ (HV.out.below hbb) HT.out).mono ?_
    rintro e w1 ⟨rfl, hb1⟩
    rw [HI.out]
    have hb2 := hbb.trans (hb1.mono hbb.size)
    obtain ⟨c0, c1, c2⟩ := he.below hb hb2
    go_wp2
    go_ret
    exact ⟨Pp.ret_int HE.out, hb2⟩
end Go.Proofs.Ytgjiicnhedekjaa
