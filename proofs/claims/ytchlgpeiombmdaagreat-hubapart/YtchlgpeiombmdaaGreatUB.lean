/- Rows of sessions that are written in place; what slices.IndexFunc and slices.DeleteFunc answer of them. A box of four cells. What the reference's SameUploads answers of two that are alike. -/
import Derived.Test.YtchlgpeiombmdaaGreatUA
import Derived.Lib.SliceRun
set_option linter.unusedSimpArgs false
set_option linter.unusedVariables false
namespace Go.Proofs.YtchlgpeiombmdaaGreat
open Go.RowKit

/-- A function value that answers a predicate, in every world that has grown, or was written in one block since. -/
def TellsS (w : World) (q : Nat) (g : Nat) (cb : Array Value) (pr : Se → Bool) : Prop :=
 (∀ args w, (callFunc g args).run Tryz.prog w = .ok (.enter g args) w) ∧ ∀ W, w.grownBy W (some q) → ∀ s : Se, Calls Tryz.prog g (#[.agg #[.int .i64 s.nu, .string s.wh, .string s.tx, .int .i64 s.si, .int .i64 s.ti]] ++ cb) W fun e w' => e = .returned (.bool (pr s)) ∧ Below W.heap.size W w'
namespace Nb
theorem refl (w : World) (g : Nat) : w.grownBy w (some g) := ⟨rfl, rfl, rfl, Nat.le_refl _, fun _ _ _ => rfl⟩
theorem trans {a b c : World} {g : Nat} (h : a.grownBy b (some g)) (k : b.grownBy c (some g)) : a.grownBy c (some g) :=
 ⟨k.os.trans h.os, k.tape.trans h.tape, k.output.trans h.output, Nat.le_trans h.size k.size, fun q hq hne => (k.block q (Nat.lt_of_lt_of_le hq h.size) hne).trans (h.block q hq hne)⟩
theorem below {a b : World} (g : Nat) (h : Below a.heap.size a b) : a.grownBy b (some g) :=
 ⟨h.os, h.tape, h.output, h.size, fun q hq _ => h.block q hq⟩
theorem «to» {B : Nat} {w w' : World} {g : Nat} (h : w.grownBy w' (some g)) (hB : B ≤ w.heap.size) (hg : B ≤ g) : Below B w w' :=
 ⟨h.os, h.tape, h.output, h.size, fun k hk => h.block k (Nat.lt_of_lt_of_le hk hB) (fun e => by injection e with e; omega)⟩
theorem cell {w w' : World} {g : Nat} (h : w.grownBy w' (some g)) {p : Addr} (hp : p.block < w.heap.size) (hg : p.block ≠ g) : w'.cell? p = w.cell? p :=
 World.cell?_of_block (w := w) (h.block p.block hp (fun e => hg (by injection e)))
theorem frozen {w w' : World} {g : Nat} (h : w.grownBy w' (some g)) {p : Addr} (hp : p.block < w.heap.size) (hg : p.block ≠ g) : w'.frozen? p = w.frozen? p :=
 World.frozen?_of_block (w := w) (h.block p.block hp (fun e => hg (by injection e)))
theorem setCell (w : World) (g o : Nat) (v : Value) : w.grownBy (w.setCell ⟨g, o, none⟩ v) (some g) := by
 exact ⟨rfl, rfl, rfl, by simp, fun k _ hne => Below.heap_setCell w _ v k (fun e => hne (by rw [e]))⟩
theorem setCells (g : Nat) : ∀ (vs : List Value) (o : Nat) (w : World), w.grownBy (w.setCells g o vs) (some g)
 | [], _, w => refl w g
 | v :: r, o, w => trans (setCell w g o v) (setCells g r (o + 1) (w.setCell ⟨g, o, none⟩ v))
end Nb

/-- A block that is the program's own, of so many cells. -/
def Blk (W : World) (g : Nat) (T : TypeId) (n : Nat) : Prop := ∃ cur, W.heap[g]? = some (.cells cur T (0, 0)) ∧ cur.size = n
def KeepB (g : Nat) (w W : World) : Prop := ∀ T n, Blk w g T n → Blk W g T n
theorem Blk.lt {W : World} {g n : Nat} {T : TypeId} (h : Blk W g T n) : g < W.heap.size := by
 obtain ⟨cur, hh, _⟩ := h
 rcases Nat.lt_or_ge g W.heap.size with h | h
 · exact h
 · rw [Array.getElem?_eq_none h] at hh; cases hh
theorem Blk.below {W W' : World} {g n : Nat} {T : TypeId} (h : Blk W g T n) (hw : Below W.heap.size W W') : Blk W' g T n := by
 have hlt := h.lt
 obtain ⟨cur, hh, hs⟩ := h
 exact ⟨cur, (hw.block g hlt).trans hh, hs⟩
theorem Blk.nb {W W' : World} {g b n : Nat} {T : TypeId} (h : Blk W g T n) (hw : W.grownBy W' (some b)) (hne : g ≠ b) : Blk W' g T n := by
 have hlt := h.lt
 obtain ⟨cur, hh, hs⟩ := h
 exact ⟨cur, (hw.block g hlt (fun e => hne (by injection e))).trans hh, hs⟩
theorem KeepB.refl (g : Nat) (w : World) : KeepB g w w := fun _ _ h => h
theorem KeepB.trans {g : Nat} {a b c : World} (h : KeepB g a b) (k : KeepB g b c) : KeepB g a c := fun T n x => k T n (h T n x)
theorem KeepB.below {g : Nat} {a b : World} (h : Below a.heap.size a b) : KeepB g a b := fun _ _ x => x.below h
theorem KeepB.setCell (g o : Nat) (v : Value) (w : World) : KeepB g w (w.setCell ⟨g, o, none⟩ v) := by
 intro T n h
 obtain ⟨cur, hh, hs⟩ := h
 refine ⟨cur.setIfInBounds o v, ?_, by simpa using hs⟩
 unfold World.setCell
 simp only [Array.getElem?_modify, hh, if_true, Option.map_some]
 rfl
theorem KeepB.setCells (g : Nat) : ∀ (vs : List Value) (o : Nat) (w : World), KeepB g w (w.setCells g o vs)
 | [], _, w => KeepB.refl g w
 | v :: r, o, w => (KeepB.setCell g o v w).trans (KeepB.setCells g r (o + 1) (w.setCell ⟨g, o, none⟩ v))
namespace Pp
def cellsS (s : Se) : List Value := [.int .i64 s.nu, .string s.wh, .string s.tx, .int .i64 s.si, .int .i64 s.ti]
def flatS (G : List Se) : List Value := G.flatMap cellsS
theorem cellsS_one (s : Se) : ∀ u ∈ cellsS s, u.oneCell' = true := by
 intro u hu
 simp only [cellsS, List.mem_cons, List.not_mem_nil, or_false] at hu
 rcases hu with rfl | rfl | rfl | rfl | rfl <;> rfl
theorem flatS_get : ∀ (L : List Se) (i c : Nat) (h : i < L.length), c < 5 → (flatS L)[i * 5 + c]? = (cellsS L[i])[c]?
 | [], i, c, h, _ => absurd h (Nat.not_lt_zero _)
 | a :: r, 0, c, _, hc => by
  rw [flatS, List.flatMap_cons, Nat.zero_mul, Nat.zero_add, List.getElem?_append_left (by simpa [cellsS] using hc)]
  rfl
 | a :: r, i + 1, c, h, hc => by
  have ih := flatS_get r i c (by simpa using h) hc
  rw [flatS, List.flatMap_cons, List.getElem?_append_right (by simp [cellsS]; omega)]
  rw [show (cellsS a).length = 5 from rfl, show (i + 1) * 5 + c - 5 = i * 5 + c from by omega]
  exact ih
theorem flatS_len (L : List Se) : (flatS L).length = L.length * 5 := by
 induction L with
 | nil => rfl
 | cons a r ih => rw [flatS, List.flatMap_cons, List.length_append]; rw [show (List.flatMap cellsS r) = flatS r from rfl, ih]; simp [cellsS]; omega
theorem flatS_snoc (L : List Se) (e : Se) : flatS L ++ cellsS e = flatS (L ++ [e]) := by simp [flatS]
end Pp

/-- A row of sessions at a block's beginning, that may be written. -/
def RowS (w : World) (g : Nat) (d : List Se) : Prop := g < w.heap.size ∧ ∀ i (h : i < d.length), ∀ c, c < 5 → w.cell? ⟨g, i * 5 + c, none⟩ = (Pp.cellsS d[i])[c]? ∧ w.frozen? ⟨g, i * 5 + c, none⟩ = false
theorem RowS.at {w : World} {g : Nat} {d : List Se} (h : RowS w g d) {i : Nat} (hi : i < d.length) : SeAt w g (i * 5) d[i] :=
 ⟨by have := (h.2 i hi 0 (by decide)).1; simpa [Pp.cellsS] using this, by have := (h.2 i hi 1 (by decide)).1; simpa [Pp.cellsS] using this, by have := (h.2 i hi 2 (by decide)).1; simpa [Pp.cellsS] using this, by have := (h.2 i hi 3 (by decide)).1; simpa [Pp.cellsS] using this, by have := (h.2 i hi 4 (by decide)).1; simpa [Pp.cellsS] using this⟩
theorem RowS.below {w w' : World} {g : Nat} {d : List Se} (h : RowS w g d) (hw : Below w.heap.size w w') : RowS w' g d :=
 ⟨Nat.lt_of_lt_of_le h.1 hw.size, fun i hi c hc => ⟨(hw.cell (p := ⟨g, i * 5 + c, none⟩) h.1).trans (h.2 i hi c hc).1, (hw.frozen (p := ⟨g, i * 5 + c, none⟩) h.1).trans (h.2 i hi c hc).2⟩⟩
theorem RowS.lies {w : World} {g cap : Nat} {d : List Se} (h : RowS w g d) (hc : d.length ≤ cap) (hn : d.length ≤ 1000000000000000) : LiesS w (.slice (some ⟨g, 0, none⟩) d.length cap) d :=
 ⟨_, cap, rfl, hc, hn, fun i hi => ⟨g, 0, rfl, h.1, by rw [Nat.zero_add]; exact h.at hi⟩⟩
theorem RowS.take {w : World} {g : Nat} {d : List Se} (h : RowS w g d) (k : Nat) : RowS w g (d.take k) :=
 ⟨h.1, fun i hi c hc => by
  have hi' : i < d.length := by rw [List.length_take] at hi; omega
  have := h.2 i hi' c hc
  rw [List.getElem_take]; exact this⟩
theorem rowS_own {w : World} {base : Nat} {T : TypeId} {g n cap : Nat} {d : List Se} (h : w.ownsRow base T 5 (.slice (some ⟨g, 0, none⟩) n cap) n (Pp.flatS d)) (hn : n = d.length) : RowS w g d := by
 subst hn
 have hlt := (h.lt g rfl).2
 refine ⟨hlt, fun i hi c hc => ⟨?_, h.frozenAt _⟩⟩
 have hz : i * 5 + c < d.length * 5 := by omega
 rw [h.cellAt (i * 5 + c) hz]
 exact Pp.flatS_get d i c hi hc
theorem own_rowS {w : World} {base g cap : Nat} {T : TypeId} {d : List Se} (h : RowS w g d) (hB : Blk w g T (cap * 5)) (hc : d.length ≤ cap) (hm : cap ≤ maxLen) (hb : base ≤ g) : w.ownsRow base T 5 (.slice (some ⟨g, 0, none⟩) d.length cap) d.length (Pp.flatS d) := by
 obtain ⟨cur, hh, hs⟩ := hB
 refine ⟨Pp.flatS_len d, Or.inr ⟨g, cap, cur, rfl, hb, hh, hc, hm, hs, ?_⟩⟩
 apply List.ext_getElem?
 intro t
 by_cases ht : t < d.length * 5
 · have h1 : t / 5 < d.length := by omega
   have h2 : t / 5 * 5 + t % 5 = t := by omega
   have h3 := (h.2 (t / 5) h1 (t % 5) (by omega)).1
   rw [h2] at h3
   have h4 := Pp.flatS_get d (t / 5) (t % 5) h1 (by omega)
   rw [h2] at h4
   rw [h4, ← h3, List.getElem?_take_of_lt ht]
   simp [World.cell?, hh]
 · rw [List.getElem?_eq_none (by rw [List.length_take]; omega), List.getElem?_eq_none (by rw [Pp.flatS_len]; omega)]
theorem RowS.stores {w : World} {g : Nat} {d : List Se} (h : RowS w g d) {i : Nat} (hi : i < d.length) (s : Se) :
    (storeCells ⟨g, i * 5, none⟩ (Pp.cellsS s) 0).run Tryz.prog w = .ok () (w.setCells g (i * 5) (Pp.cellsS s)) := by
 have := run_storeCells_cells (P := Tryz.prog) g (i * 5) (Pp.cellsS s) 0 w (fun j hj => by
  have hj' : j < 5 := hj
  rw [Nat.add_zero, (h.2 i hi j hj').1]
  match j, hj' with
  | 0, _ => rfl
  | 1, _ => rfl
  | 2, _ => rfl
  | 3, _ => rfl
  | 4, _ => rfl) (fun j hj => by rw [Nat.add_zero]; exact (h.2 i hi j hj).2) (Pp.cellsS_one s)
 simpa using this
theorem RowS.set {w : World} {g : Nat} {d : List Se} (h : RowS w g d) {i : Nat} (hi : i < d.length) (s : Se) : RowS (w.setCells g (i * 5) (Pp.cellsS s)) g (d.set i s) := by
 refine ⟨Nat.lt_of_lt_of_le h.1 (Nb.setCells g _ _ w).size, fun j hj c hc => ⟨?_, ?_⟩⟩
 · have hj' : j < d.length := by simpa using hj
   by_cases e : j = i
   · subst e
     have := World.cell?_setCells_in g (Pp.cellsS s) (j * 5) w (fun c' hc' => by
      have hc'' : c' < 5 := hc'
      rw [(h.2 j hi c' hc'').1]
      match c', hc'' with
      | 0, _ => rfl
      | 1, _ => rfl
      | 2, _ => rfl
      | 3, _ => rfl
      | 4, _ => rfl) c hc
     rw [this]
     simp only [List.getElem_set_self]
     exact (List.getElem?_eq_getElem (show c < (Pp.cellsS s).length from hc)).symm
   · rw [World.cell?_setCells_out g _ _ _ _ (fun _ _ => by simp only [show (Pp.cellsS s).length = 5 from rfl]; omega), (h.2 j hj' c hc).1]
     rw [List.getElem_set_ne (fun e' => e e'.symm)]
 · rw [World.frozen?_setCells]; exact (h.2 j (by simpa using hj) c hc).2
end Go.Proofs.YtchlgpeiombmdaaGreat
set_option linter.unusedSimpArgs false
set_option linter.unusedVariables false
namespace Go.Proofs.YtchlgpeiombmdaaGreat
open Go.RowKit

def Bx (W : World) (b : Nat) (a0 a1 a2 a3 : Value) : Prop := b < W.heap.size ∧ (W.cell? ⟨b, 0, none⟩ = some a0 ∧ W.cell? ⟨b, 1, none⟩ = some a1 ∧ W.cell? ⟨b, 2, none⟩ = some a2 ∧ W.cell? ⟨b, 3, none⟩ = some a3) ∧ W.frozen? ⟨b, 0, none⟩ = false ∧ W.frozen? ⟨b, 1, none⟩ = false ∧ W.frozen? ⟨b, 2, none⟩ = false ∧ W.frozen? ⟨b, 3, none⟩ = false
theorem Bx.below {W W' : World} {b : Nat} {a0 a1 a2 a3 : Value} (h : Bx W b a0 a1 a2 a3) (hw : Below W.heap.size W W') : Bx W' b a0 a1 a2 a3 := by
 obtain ⟨hb, ⟨c0, c1, c2, c3⟩, f0, f1, f2, f3⟩ := h
 exact ⟨Nat.lt_of_lt_of_le hb hw.size, ⟨(hw.cell (p := ⟨b, 0, none⟩) hb).trans c0, (hw.cell (p := ⟨b, 1, none⟩) hb).trans c1, (hw.cell (p := ⟨b, 2, none⟩) hb).trans c2, (hw.cell (p := ⟨b, 3, none⟩) hb).trans c3⟩, (hw.frozen (p := ⟨b, 0, none⟩) hb).trans f0, (hw.frozen (p := ⟨b, 1, none⟩) hb).trans f1, (hw.frozen (p := ⟨b, 2, none⟩) hb).trans f2, (hw.frozen (p := ⟨b, 3, none⟩) hb).trans f3⟩
theorem Bx.nb {W W' : World} {b g : Nat} {a0 a1 a2 a3 : Value} (h : Bx W b a0 a1 a2 a3) (hw : W.grownBy W' (some g)) (hne : b ≠ g) : Bx W' b a0 a1 a2 a3 := by
 obtain ⟨hb, ⟨c0, c1, c2, c3⟩, f0, f1, f2, f3⟩ := h
 exact ⟨Nat.lt_of_lt_of_le hb hw.size, ⟨(Nb.cell hw (p := ⟨b, 0, none⟩) hb hne).trans c0, (Nb.cell hw (p := ⟨b, 1, none⟩) hb hne).trans c1, (Nb.cell hw (p := ⟨b, 2, none⟩) hb hne).trans c2, (Nb.cell hw (p := ⟨b, 3, none⟩) hb hne).trans c3⟩, (Nb.frozen hw (p := ⟨b, 0, none⟩) hb hne).trans f0, (Nb.frozen hw (p := ⟨b, 1, none⟩) hb hne).trans f1, (Nb.frozen hw (p := ⟨b, 2, none⟩) hb hne).trans f2, (Nb.frozen hw (p := ⟨b, 3, none⟩) hb hne).trans f3⟩
theorem Bx.new (w : World) (a0 a1 a2 a3 : Value) (T : TypeId) : Bx (w.alloc (.cells #[a0, a1, a2, a3] T)) w.heap.size a0 a1 a2 a3 :=
 ⟨by simp, ⟨by simp, by simp, by simp, by simp⟩, World.frozen?_alloc_at _ _ _ _ rfl, World.frozen?_alloc_at _ _ _ _ rfl, World.frozen?_alloc_at _ _ _ _ rfl, World.frozen?_alloc_at _ _ _ _ rfl⟩
theorem Bx.set {W : World} {b b' o : Nat} {a0 a1 a2 a3 u : Value} (h : Bx W b a0 a1 a2 a3) (hne : b' ≠ b) : Bx (W.setCell ⟨b', o, none⟩ u) b a0 a1 a2 a3 := h.nb (Nb.setCell W b' o u) (fun e => hne e.symm)
theorem below_set4 {B b : Nat} {w W : World} {a0 a1 a2 a3 : Value} (h : Below B w W) (hb : B ≤ b) : Below B w ((((W.setCell ⟨b, 0, none⟩ a0).setCell ⟨b, 1, none⟩ a1).setCell ⟨b, 2, none⟩ a2).setCell ⟨b, 3, none⟩ a3) :=
 (((h.setCell (p := ⟨b, 0, none⟩) hb _).setCell (p := ⟨b, 1, none⟩) hb _).setCell (p := ⟨b, 2, none⟩) hb _).setCell (p := ⟨b, 3, none⟩) hb _
end Go.Proofs.YtchlgpeiombmdaaGreat
set_option linter.unusedSimpArgs false
set_option linter.unusedVariables false
namespace Go.Proofs.YtchlgpeiombmdaaGreat
open Go.RowKit

set_option maxRecDepth 100000 in
set_option maxHeartbeats 2000000 in
theorem sameUploads_yes (G : List Se) (v u : Value) (x l r : Int) (w : World) (hv : LiesS w v G) (hu : LiesS w u G) :
    Calls Tryz.prog 23 #[.agg #[v, .int .i64 x, .int .i64 l, .int .i64 r], .agg #[u, .int .i64 x, .int .i64 l, .int .i64 r]] w fun e w' => e = .returned (.bool true) ∧ Below w.heap.size w w' := by
 obtain ⟨a, cap, rfl, hcap, hcap2, hL⟩ := hv
 have HL : Hid (∀ i (h : i < G.length), ∃ b o, a = some ⟨b, o, none⟩ ∧ b < w.heap.size ∧ SeAt w b (o + i * 5) G[i]) := hL
 obtain ⟨a', cap', rfl, hcap', _, hL'⟩ := hu
 have HL' : Hid (∀ i (h : i < G.length), ∃ b o, a' = some ⟨b, o, none⟩ ∧ b < w.heap.size ∧ SeAt w b (o + i * 5) G[i]) := hL'
 clear hL hL'
 obtain ⟨w2, hw2⟩ : ∃ w2, w2 = (w.alloc (.cells #[.slice a G.length cap, .int .i64 x, .int .i64 l, .int .i64 r] 26)).alloc (.cells #[.slice a' G.length cap', .int .i64 x, .int .i64 l, .int .i64 r] 26) := ⟨_, rfl⟩
 have hb2 : Below w.heap.size w w2 := by rw [hw2]; exact ((Below.refl _ _).alloc (Nat.le_refl _) _).alloc (by simp) _
 have HA2 := hid (show Bx w2 w.heap.size (.slice a G.length cap) (.int .i64 x) (.int .i64 l) (.int .i64 r) from by rw [hw2]; exact (Bx.new w _ _ _ _ _).below ((Below.refl _ _).alloc (Nat.le_refl _) _))
 have HB2 := hid (show Bx w2 (w.heap.size + 1) (.slice a' G.length cap') (.int .i64 x) (.int .i64 l) (.int .i64 r) from by
  have := Bx.new (w.alloc (.cells #[.slice a G.length cap, .int .i64 x, .int .i64 l, .int .i64 r] 26)) (.slice a' G.length cap') (.int .i64 x) (.int .i64 l) (.int .i64 r) 26
  rw [hw2]; simpa using this)
 have hsz2 : w2.heap.size = w.heap.size + 2 := by rw [hw2]; simp
 have HW2 := ghid hw2
 go_enter Tryz.func23, Tryz.ntmps23
 go_wp2_with fail
 rw [← hw2]
 clear hw2 HW2
 go_loopw [5] (fun i wr => ∃ k : Nat, k ≤ G.length ∧ i = .int .i64 k ∧ Below w2.heap.size w2 wr) (fun i _ => G.length - (intOf i).toNat)
 case atStart => exact ⟨0, Nat.zero_le _, rfl, Below.refl _ _⟩
 case round =>
  obtain ⟨k, hk, rfl, hbel2⟩ := hrel
  have hbel : Below w.heap.size w wr := hb2.trans (hbel2.mono hb2.size)
  obtain ⟨hAb, ⟨a0, a1, a2, a3⟩, _⟩ := HA2.out.below hbel2
  obtain ⟨hBb, ⟨b0, b1, b2, b3⟩, _⟩ := HB2.out.below hbel2
  by_cases hlt : k < G.length
  · obtain ⟨b, o, rfl, hb, he⟩ := HL.out k hlt
    obtain ⟨b', o', rfl, hb', he'⟩ := HL'.out k hlt
    obtain ⟨c0, c1, c2, c3, c4⟩ := he.below hb hbel
    obtain ⟨d0, d1, d2, d3, d4⟩ := he'.below hb' hbel
    generalize G[k] = s at *
    go_wp2_with fail
    go_region
    go_wp2_with fail
    go_roundw
    case rel => exact ⟨k + 1, by omega, by simp, hbel2.drew⟩
    case measure => simp [intOf]; omega
  · go_wp2_with fail
    go_ret
    exact ⟨rfl, hbel⟩
end Go.Proofs.YtchlgpeiombmdaaGreat
