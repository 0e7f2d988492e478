/- Sessions as records; what upload.isFrom, checkBounds and checkSession answer. -/
import Derived.Test.YtnaedemkpiagmaaG0
set_option linter.unusedSimpArgs false
set_option linter.unusedVariables false
namespace Go.Proofs.Ytnaedemkpiagmaa
open Go.RowKit

/-- A session. -/
structure Se where
  nu : Int
  wh : ByteArray
  tx : ByteArray
  si : Int
  ti : Int
def SeAt (w : World) (b o : Nat) (s : Se) : Prop := w.cell? ⟨b, o, none⟩ = some (.int .i64 s.nu) ∧ w.cell? ⟨b, o + 1, none⟩ = some (.string s.wh) ∧ w.cell? ⟨b, o + 2, none⟩ = some (.string s.tx) ∧ w.cell? ⟨b, o + 3, none⟩ = some (.int .i64 s.si) ∧ w.cell? ⟨b, o + 4, none⟩ = some (.int .i64 s.ti)
def LiesS (w : World) (v : Value) (G : List Se) : Prop := ∃ a cap, v = .slice a G.length cap ∧ G.length ≤ cap ∧ G.length ≤ 1000000000000000 ∧ ∀ i (h : i < G.length), ∃ b o, a = some ⟨b, o, none⟩ ∧ b < w.heap.size ∧ SeAt w b (o + i * 5) G[i]
theorem SeAt.below {w w' : World} {b o : Nat} {g : Se} (h : SeAt w b o g) (hb : b < w.heap.size) (hw : Below w.heap.size w w') : SeAt w' b o g :=
  ⟨(hw.cell (p := ⟨b, o, none⟩) hb).trans h.1, (hw.cell (p := ⟨b, o + 1, none⟩) hb).trans h.2.1, (hw.cell (p := ⟨b, o + 2, none⟩) hb).trans h.2.2.1, (hw.cell (p := ⟨b, o + 3, none⟩) hb).trans h.2.2.2.1, (hw.cell (p := ⟨b, o + 4, none⟩) hb).trans h.2.2.2.2⟩
theorem LiesS.below {w w' : World} {v : Value} {G : List Se} (h : LiesS w v G) (hw : Below w.heap.size w w') : LiesS w' v G := by
  obtain ⟨a, cap, hv, h1, h2, h3⟩ := h
  refine ⟨a, cap, hv, h1, h2, fun i hi => ?_⟩
  obtain ⟨b, o, ha, hb, he⟩ := h3 i hi
  exact ⟨b, o, ha, Nat.lt_of_lt_of_le hb hw.size, he.below hb hw⟩
theorem liesS_nil (w : World) : LiesS w (.slice none 0 0) [] := ⟨none, 0, rfl, Nat.le_refl _, by decide, fun i h => absurd h (by simp)⟩
def SizedS (G : List Se) : Prop := ∀ g ∈ G, g.wh.size ≤ 150000000000000 ∧ g.tx.size ≤ 150000000000000
theorem bx4 {w w1 : World} {a b c d : Value} {T : TypeId} (h : Below (w.alloc (.cells #[a, b, c, d] T)).heap.size (w.alloc (.cells #[a, b, c, d] T)) w1) :
    w1.cell? ⟨w.heap.size, 0, none⟩ = some a ∧ w1.cell? ⟨w.heap.size, 1, none⟩ = some b ∧ w1.cell? ⟨w.heap.size, 2, none⟩ = some c ∧ w1.cell? ⟨w.heap.size, 3, none⟩ = some d ∧ Below w.heap.size w w1 ∧ w.heap.size < w1.heap.size := by
  have hz : w.heap.size < (w.alloc (.cells #[a, b, c, d] T)).heap.size := by simp
  refine ⟨?_, ?_, ?_, ?_, ((Below.refl _ _).alloc (Nat.le_refl _) _).trans (h.mono (Nat.le_of_lt hz)), Nat.lt_of_lt_of_le hz h.size⟩
  · exact (h.cell (p := ⟨w.heap.size, 0, none⟩) hz).trans (by simp)
  · exact (h.cell (p := ⟨w.heap.size, 1, none⟩) hz).trans (by simp)
  · exact (h.cell (p := ⟨w.heap.size, 2, none⟩) hz).trans (by simp)
  · exact (h.cell (p := ⟨w.heap.size, 3, none⟩) hz).trans (by simp)
theorem bx5 {w w1 : World} {a b c d e : Value} {T : TypeId} (h : Below (w.alloc (.cells #[a, b, c, d, e] T)).heap.size (w.alloc (.cells #[a, b, c, d, e] T)) w1) :
    w1.cell? ⟨w.heap.size, 0, none⟩ = some a ∧ w1.cell? ⟨w.heap.size, 1, none⟩ = some b ∧ w1.cell? ⟨w.heap.size, 2, none⟩ = some c ∧ w1.cell? ⟨w.heap.size, 3, none⟩ = some d ∧ w1.cell? ⟨w.heap.size, 4, none⟩ = some e ∧ Below w.heap.size w w1 ∧ w.heap.size < w1.heap.size := by
  have hz : w.heap.size < (w.alloc (.cells #[a, b, c, d, e] T)).heap.size := by simp
  refine ⟨?_, ?_, ?_, ?_, ?_, ((Below.refl _ _).alloc (Nat.le_refl _) _).trans (h.mono (Nat.le_of_lt hz)), Nat.lt_of_lt_of_le hz h.size⟩
  · exact (h.cell (p := ⟨w.heap.size, 0, none⟩) hz).trans (by simp)
  · exact (h.cell (p := ⟨w.heap.size, 1, none⟩) hz).trans (by simp)
  · exact (h.cell (p := ⟨w.heap.size, 2, none⟩) hz).trans (by simp)
  · exact (h.cell (p := ⟨w.heap.size, 3, none⟩) hz).trans (by simp)
  · exact (h.cell (p := ⟨w.heap.size, 4, none⟩) hz).trans (by simp)

namespace Pp
def inR (l n m : Int) : Bool := decide (l ≤ n) && decide (n ≤ m)
theorem inR_yes {l n m : Int} (h : inR l n m = true) : l ≤ n ∧ n ≤ m := by simpa [inR] using h
/-- Of uploads: 3: a number is out of its bounds; 2: too many sessions. -/
def bndE (n : Nat) (x l r : Int) : Int := if (inR 1 l 1000000 && inR 0 r 100000 && inR 1 x 1099511627776) = true then (if 20 < n then 2 else 0) else 3
theorem bnd_cases (n : Nat) (x l r : Int) : (inR 1 l 1000000 = false ∧ bndE n x l r = 3) ∨ (inR 1 l 1000000 = true ∧ inR 0 r 100000 = false ∧ bndE n x l r = 3) ∨ (inR 1 l 1000000 = true ∧ inR 0 r 100000 = true ∧ inR 1 x 1099511627776 = false ∧ bndE n x l r = 3) ∨
    (inR 1 l 1000000 = true ∧ inR 0 r 100000 = true ∧ inR 1 x 1099511627776 = true ∧ 20 < n ∧ bndE n x l r = 2) ∨ (inR 1 l 1000000 = true ∧ inR 0 r 100000 = true ∧ inR 1 x 1099511627776 = true ∧ ¬ 20 < n ∧ bndE n x l r = 0) := by
  cases h1 : inR 1 l 1000000 <;> cases h2 : inR 0 r 100000 <;> cases h3 : inR 1 x 1099511627776 <;> by_cases h4 : 20 < n <;> simp [bndE, h1, h2, h3, h4]
/-- Of one session. -/
def seE (x : Int) (s : Se) : Int := if (inR 1 s.nu (x - 1) && inR 0 s.si 300 && inR 0 s.ti 2199023255552) = true then (if nameB s.wh.data.toList = true then (if s.si < (s.tx.size : Int) then 2 else 0) else 1) else 3
theorem se_cases (x : Int) (s : Se) : (inR 1 s.nu (x - 1) = false ∧ seE x s = 3) ∨ (inR 1 s.nu (x - 1) = true ∧ inR 0 s.si 300 = false ∧ seE x s = 3) ∨ (inR 1 s.nu (x - 1) = true ∧ inR 0 s.si 300 = true ∧ inR 0 s.ti 2199023255552 = false ∧ seE x s = 3) ∨
    (inR 1 s.nu (x - 1) = true ∧ inR 0 s.si 300 = true ∧ inR 0 s.ti 2199023255552 = true ∧ nameB s.wh.data.toList = false ∧ seE x s = 1) ∨ (inR 1 s.nu (x - 1) = true ∧ inR 0 s.si 300 = true ∧ inR 0 s.ti 2199023255552 = true ∧ nameB s.wh.data.toList = true ∧ s.si < (s.tx.size : Int) ∧ seE x s = 2) ∨
    (inR 1 s.nu (x - 1) = true ∧ inR 0 s.si 300 = true ∧ inR 0 s.ti 2199023255552 = true ∧ nameB s.wh.data.toList = true ∧ ¬ s.si < (s.tx.size : Int) ∧ seE x s = 0) := by
  cases h1 : inR 1 s.nu (x - 1) <;> cases h2 : inR 0 s.si 300 <;> cases h3 : inR 0 s.ti 2199023255552 <;> cases h5 : nameB s.wh.data.toList <;> by_cases h4 : s.si < (s.tx.size : Int) <;> simp [seE, h1, h2, h3, h4, h5]
theorem nmsE1 {s : ByteArray} {b : Bool} (h : nameB s.data.toList = b) : nmsE [s] = if b = true then 0 else 1 := by simp [nmsE, h]
end Pp

set_option maxHeartbeats 1000000 in
theorem isFrom_any (l n m : Int) (w : World) : Calls Try.prog 29 #[.int .i64 l, .int .i64 n, .int .i64 m] w fun e w' => e = .returned (.bool (Pp.inR l n m)) ∧ w' = w := by
  by_cases h : l ≤ n
  · have HE : Hid (decide (n ≤ m) = Pp.inR l n m) := (by rw [Pp.inR, decide_eq_true h]; rfl : decide (n ≤ m) = Pp.inR l n m)
    go_enter Try.func29, Try.ntmps29
    go_wp2
    go_ret
    exact ⟨Pp.ret_bool HE.out, rfl⟩
  · have HE : Hid (false = Pp.inR l n m) := (by rw [Pp.inR, decide_eq_false h]; rfl : false = Pp.inR l n m)
    go_enter Try.func29, Try.ntmps29
    go_wp2
    go_ret
    exact ⟨Pp.ret_bool HE.out, rfl⟩

set_option maxRecDepth 100000 in
set_option maxHeartbeats 2000000 in
theorem checkBounds_any (G : List Se) (v : Value) (x l r : Int) (w : World) (hv : LiesS w v G) :
    Calls Try.prog 37 #[.agg #[v, .int .i64 x, .int .i64 l, .int .i64 r]] w fun e w' => e = .returned (.int .i64 (Pp.bndE G.length x l r)) ∧ Below w.heap.size w w' := by
  obtain ⟨a, cap, rfl, hcap, hcap2, _⟩ := hv
  have hbw : Below w.heap.size w (w.alloc (.cells #[.slice a G.length cap, .int .i64 x, .int .i64 l, .int .i64 r] 24)) := (Below.refl _ _).alloc (Nat.le_refl _) _
  rcases Pp.bnd_cases G.length x l r with ⟨h1, hE⟩ | ⟨h1, h2, hE⟩ | ⟨h1, h2, h3, hE⟩ | ⟨h1, h2, h3, h4, hE⟩ | ⟨h1, h2, h3, h4, hE⟩
  · have HE := ghid hE
    have H1 := ghid h1
    clear hE h1
    go_enter Try.func37, Try.ntmps37
    go_wp2_with fail
    refine (isFrom_any 1 l 1000000 _).mono ?_
    rintro e w1 ⟨rfl, hw⟩
    rw [hw, H1.out]
    clear hw w1
    go_wp2
    go_ret
    exact ⟨by rw [HE.out]; rfl, hbw⟩
  · have HE := ghid hE
    have H1 := ghid h1
    have H2 := ghid h2
    clear hE h1 h2
    go_enter Try.func37, Try.ntmps37
    go_wp2_with fail
    refine (isFrom_any 1 l 1000000 _).mono ?_
    rintro e w1 ⟨rfl, hw⟩
    rw [hw, H1.out]
    clear hw w1
    go_wp2_with fail
    refine (isFrom_any 0 r 100000 _).mono ?_
    rintro e w1 ⟨rfl, hw⟩
    rw [hw, H2.out]
    clear hw w1
    go_wp2
    go_ret
    exact ⟨by rw [HE.out]; rfl, hbw⟩
  all_goals
    have HE := ghid hE
    have H1 := ghid h1
    have H2 := ghid h2
    have H3 := ghid h3
    try (have h20 : 20 < (G.length : Int) := by omega)
    try (have h20 : ¬ 20 < (G.length : Int) := by omega)
    clear hE h1 h2 h3
    go_enter Try.func37, Try.ntmps37
    go_wp2_with fail
    refine (isFrom_any 1 l 1000000 _).mono ?_
    rintro e w1 ⟨rfl, hw⟩
    rw [hw, H1.out]
    clear hw w1
    go_wp2_with fail
    refine (isFrom_any 0 r 100000 _).mono ?_
    rintro e w1 ⟨rfl, hw⟩
    rw [hw, H2.out]
    clear hw w1
    go_wp2_with fail
    refine (isFrom_any 1 x 1099511627776 _).mono ?_
    rintro e w1 ⟨rfl, hw⟩
    rw [hw, H3.out]
    clear hw w1
    go_wp2
    go_ret
    exact ⟨by rw [HE.out]; rfl, hbw⟩

set_option maxRecDepth 100000 in
set_option maxHeartbeats 2000000 in
theorem checkSession_any (s : Se) (x : Int) (w : World) (hx1 : 1 ≤ x) (hx2 : x ≤ 1099511627776) (hh : s.wh.size ≤ 150000000000000) :
    Calls Try.prog 38 #[.agg #[.int .i64 s.nu, .string s.wh, .string s.tx, .int .i64 s.si, .int .i64 s.ti], .int .i64 x] w fun e w' => e = .returned (.int .i64 (Pp.seE x s)) ∧ Below w.heap.size w w' := by
  have hbw : Below w.heap.size w (w.alloc (.cells #[.int .i64 s.nu, .string s.wh, .string s.tx, .int .i64 s.si, .int .i64 s.ti] 38)) := (Below.refl _ _).alloc (Nat.le_refl _) _
  rcases Pp.se_cases x s with ⟨h1, hE⟩ | ⟨h1, h2, hE⟩ | ⟨h1, h2, h3, hE⟩ | ⟨h1, h2, h3, h4, hE⟩ | ⟨h1, h2, h3, h4, h5, hE⟩ | ⟨h1, h2, h3, h4, h5, hE⟩
  · have HE := ghid hE
    have H1 := ghid h1
    clear hE h1
    go_enter Try.func38, Try.ntmps38
    go_wp2_with fail
    refine (isFrom_any 1 s.nu (x - 1) _).mono ?_
    rintro e w1 ⟨rfl, hw⟩
    rw [hw, H1.out]
    clear hw w1
    go_wp2
    go_ret
    exact ⟨by rw [HE.out]; rfl, hbw⟩
  · have HE := ghid hE
    have H1 := ghid h1
    have H2 := ghid h2
    clear hE h1 h2
    go_enter Try.func38, Try.ntmps38
    go_wp2_with fail
    refine (isFrom_any 1 s.nu (x - 1) _).mono ?_
    rintro e w1 ⟨rfl, hw⟩
    rw [hw, H1.out]
    clear hw w1
    go_wp2_with fail
    refine (isFrom_any 0 s.si 300 _).mono ?_
    rintro e w1 ⟨rfl, hw⟩
    rw [hw, H2.out]
    clear hw w1
    go_wp2
    go_ret
    exact ⟨by rw [HE.out]; rfl, hbw⟩
  · have HE := ghid hE
    have H1 := ghid h1
    have H2 := ghid h2
    have H3 := ghid h3
    clear hE h1 h2 h3
    go_enter Try.func38, Try.ntmps38
    go_wp2_with fail
    refine (isFrom_any 1 s.nu (x - 1) _).mono ?_
    rintro e w1 ⟨rfl, hw⟩
    rw [hw, H1.out]
    clear hw w1
    go_wp2_with fail
    refine (isFrom_any 0 s.si 300 _).mono ?_
    rintro e w1 ⟨rfl, hw⟩
    rw [hw, H2.out]
    clear hw w1
    go_wp2_with fail
    refine (isFrom_any 0 s.ti 2199023255552 _).mono ?_
    rintro e w1 ⟨rfl, hw⟩
    rw [hw, H3.out]
    clear hw w1
    go_wp2
    go_ret
    exact ⟨by rw [HE.out]; rfl, hbw⟩
  all_goals
    have HE := ghid hE
    have H1 := ghid h1
    have H2 := ghid h2
    have H3 := ghid h3
    have H4 := ghid (Pp.nmsE1 h4)
    have hss : ∀ i (hi : i < [s.wh].length), ([s.wh][i]).size ≤ 1000000000000000 := fun i hi => by match i, hi with | 0, _ => exact Nat.le_trans hh (by decide)
    have HSS := ghid hss
    clear hE h1 h2 h3 h4 hss
    go_enter Try.func38, Try.ntmps38
    go_wp2_with fail
    refine (isFrom_any 1 s.nu (x - 1) _).mono ?_
    rintro e w1 ⟨rfl, hw⟩
    rw [hw, H1.out]
    clear hw w1
    go_wp2_with fail
    refine (isFrom_any 0 s.si 300 _).mono ?_
    rintro e w1 ⟨rfl, hw⟩
    rw [hw, H2.out]
    clear hw w1
    go_wp2_with fail
    refine (isFrom_any 0 s.ti 2199023255552 _).mono ?_
    rintro e w1 ⟨rfl, hw⟩
    rw [hw, H3.out]
    clear hw w1
    go_wp2_with fail
    refine (names_any [s.wh] (w.heap.size + 1) 0 1 _ (by simp) HSS.out (by simp) (fun i hi => by match i, hi with | 0, _ => simp)).mono ?_
    rintro e w1 ⟨rfl, hb1⟩
    rw [H4.out]
    have hb2 : Below (w.alloc (.cells #[.int .i64 s.nu, .string s.wh, .string s.tx, .int .i64 s.si, .int .i64 s.ti] 38)).heap.size (w.alloc (.cells #[.int .i64 s.nu, .string s.wh, .string s.tx, .int .i64 s.si, .int .i64 s.ti] 38)) w1 := ((Below.refl _ _).alloc (Nat.le_refl _) _).trans (hb1.mono (by simp))
    obtain ⟨c0, c1, c2, c3, c4, hbw2, hlt⟩ := bx5 hb2
    clear hb1 hb2
    go_wp2_with fail
    go_ret
    exact ⟨by rw [HE.out]; rfl, hbw2⟩
end Go.Proofs.Ytnaedemkpiagmaa
