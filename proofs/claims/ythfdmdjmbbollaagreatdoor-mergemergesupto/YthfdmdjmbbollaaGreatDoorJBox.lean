/- Boxes of some cells in memory, and what is stored in them; what lies elsewhere stays. -/
import Derived.Test.YthfdmdjmbbollaaGreatDoorMA
import Derived.Maps.OwnSet
set_option linter.unusedSimpArgs false
set_option linter.unusedVariables false
namespace Go.Proofs.YthfdmdjmbbollaaGreatDoor
open Go.RowKit Go.Maps

theorem heap_lt {W : World} {b : Nat} {o : Obj} (h : W.heap[b]? = some o) : b < W.heap.size := by
  rcases Nat.lt_or_ge b W.heap.size with h1 | h1
  · exact h1
  · rw [Array.getElem?_eq_none h1] at h; cases h

/-- A block that holds just these cells, and may be written. -/
def Cs (W : World) (b : Nat) (vs : List Value) : Prop := ∃ T, W.heap[b]? = some (.cells vs.toArray T (0, 0))
theorem Cs.lt {W : World} {b : Nat} {vs : List Value} (h : Cs W b vs) : b < W.heap.size := h.elim fun _ h => heap_lt h
theorem Cs.cell {W : World} {b : Nat} {vs : List Value} (h : Cs W b vs) (i : Nat) {v : Value} (hv : vs[i]? = some v) : W.cell? ⟨b, i, none⟩ = some v := by
  obtain ⟨T, h⟩ := h
  simp [World.cell?, h, hv]
theorem Cs.fr {W : World} {b : Nat} {vs : List Value} (h : Cs W b vs) (i : Nat) : W.frozen? ⟨b, i, none⟩ = false := by
  obtain ⟨T, h⟩ := h
  simp [World.frozen?, h]
theorem Cs.belowAt {W W' : World} {b B : Nat} {vs : List Value} (h : Cs W b vs) (hw : Below B W W') (hb : b < B) : Cs W' b vs := by
  obtain ⟨T, h⟩ := h
  exact ⟨T, (hw.block b hb).trans h⟩
theorem Cs.below {W W' : World} {b : Nat} {vs : List Value} (h : Cs W b vs) (hw : Below W.heap.size W W') : Cs W' b vs := h.belowAt hw h.lt
theorem Cs.nb {W W' : World} {b g : Nat} {vs : List Value} (h : Cs W b vs) (hw : W.grownBy W' (some g)) (hne : b ≠ g) : Cs W' b vs := by
  have hl := h.lt
  obtain ⟨T, h⟩ := h
  exact ⟨T, (hw.block b hl (fun e => hne (by injection e))).trans h⟩
theorem Cs.new (w : World) (vs : List Value) (T : TypeId) : Cs (w.alloc (.cells vs.toArray T)) w.heap.size vs := ⟨T, by show (w.heap.push _)[w.heap.size]? = _; simp⟩
theorem Cs.set {W : World} {b : Nat} {vs : List Value} (h : Cs W b vs) (i : Nat) (u : Value) : Cs (W.setCell ⟨b, i, none⟩ u) b (vs.set i u) := by
  obtain ⟨T, h⟩ := h
  refine ⟨T, ?_⟩
  unfold World.setCell
  simp only [Array.getElem?_modify, h, if_true, Option.map_some]
  simp
theorem nb_set (W : World) (b o : Nat) (u : Value) : W.grownBy (W.setCell ⟨b, o, none⟩ u) (some b) :=
  ⟨rfl, rfl, rfl, by simp, fun k _ hk => Below.heap_setCell W _ u k (fun e => hk (by rw [e]))⟩
theorem Cs.other {W : World} {b b' o : Nat} {vs : List Value} (h : Cs W b vs) (hne : b ≠ b') (u : Value) : Cs (W.setCell ⟨b', o, none⟩ u) b vs := h.nb (nb_set W b' o u) hne

/-- A block without texts. -/
def NoStr (W : World) (g : Nat) : Prop := ∀ o s, W.cell? ⟨g, o, none⟩ ≠ some (.string s)
theorem Cs.noStr {W : World} {b : Nat} {vs : List Value} (h : Cs W b vs) (hv : ∀ s, Value.string s ∉ vs) : NoStr W b := by
  obtain ⟨T, h⟩ := h
  intro o s
  simp only [World.cell?, h]
  intro he
  have : vs[o]? = some (.string s) := by simpa using he
  exact hv s (List.mem_of_getElem? this)
theorem noStr_map {W : World} {P : Program} {k : TypeId} {R : Value → Option (DataW Unit × List MemPlace)} {b n : Nat} {D : DataW Unit} (h : W.ownsMap P k R b n D) : NoStr W b := by
  obtain ⟨es, clock, hb, _⟩ := h
  intro o s
  simp [World.cell?, hb]
theorem EnAt.ne {W : World} {b o g : Nat} {e : En} (h : EnAt W b o e) (hn : NoStr W g) : b ≠ g := fun hb => hn o e.path (hb ▸ h.1)
theorem ChAt.ne {W : World} {b o g : Nat} {c : Pp.Ch} (h : ChAt W b o c) (hn : NoStr W g) : b ≠ g := fun hb => hn (o + 1) c.p (hb ▸ h.2.1)
theorem cell_nb {W W' : World} {g b : Nat} (hw : W.grownBy W' (some g)) (hb : b < W.heap.size) (hne : b ≠ g) (o : Nat) : W'.cell? ⟨b, o, none⟩ = W.cell? ⟨b, o, none⟩ :=
  World.cell?_of_block (w := W) (a := ⟨b, o, none⟩) (hw.block b hb (fun e => hne (by injection e)))
theorem Lies.nb {W W' : World} {v : Value} {L : List En} {g : Nat} (h : Lies W v L) (hw : W.grownBy W' (some g)) (hn : NoStr W g) : Lies W' v L := by
  obtain ⟨a, cap, hv, h1, h2, h3⟩ := h
  refine ⟨a, cap, hv, h1, h2, fun i hi => ?_⟩
  obtain ⟨b, o, ha, hb, he⟩ := h3 i hi
  have c := cell_nb hw hb (he.ne hn)
  exact ⟨b, o, ha, Nat.lt_of_lt_of_le hb hw.size, (c _).trans he.1, (c _).trans he.2.1, (c _).trans he.2.2.1, (c _).trans he.2.2.2⟩
theorem LiesC.nb {W W' : World} {v : Value} {L : List Pp.Ch} {g : Nat} (h : LiesC W v L) (hw : W.grownBy W' (some g)) (hn : NoStr W g) : LiesC W' v L := by
  obtain ⟨a, cap, hv, h1, h2, h3⟩ := h
  refine ⟨a, cap, hv, h1, h2, fun i hi => ?_⟩
  obtain ⟨b, o, ha, hb, he⟩ := h3 i hi
  have c := cell_nb hw hb (he.ne hn)
  exact ⟨b, o, ha, Nat.lt_of_lt_of_le hb hw.size, (c _).trans he.1, (c _).trans he.2.1, (c _).trans he.2.2.1, (c _).trans he.2.2.2.1, (c _).trans he.2.2.2.2⟩

/-- Grown, and written in two blocks alone. -/
structure Nb2 (w w' : World) (b m : Nat) : Prop where
  os : w'.os = w.os
  tape : w'.tape = w.tape
  output : w'.output = w.output
  size : w.heap.size ≤ w'.heap.size
  block : ∀ k, k < w.heap.size → k ≠ b → k ≠ m → w'.heap[k]? = w.heap[k]?
theorem Nb2.of_below {w w' : World} (b m : Nat) (h : Below w.heap.size w w') : Nb2 w w' b m := ⟨h.os, h.tape, h.output, h.size, fun k hk _ _ => h.block k hk⟩
theorem Nb2.of_left {w w' : World} {b : Nat} (m : Nat) (h : w.grownBy w' (some b)) : Nb2 w w' b m := ⟨h.os, h.tape, h.output, h.size, fun k hk hb _ => h.block k hk (fun e => hb (by injection e))⟩
theorem Nb2.of_right {w w' : World} {m : Nat} (b : Nat) (h : w.grownBy w' (some m)) : Nb2 w w' b m := ⟨h.os, h.tape, h.output, h.size, fun k hk _ hm => h.block k hk (fun e => hm (by injection e))⟩
theorem Nb2.trans {a c d : World} {b m : Nat} (h : Nb2 a c b m) (k : Nb2 c d b m) : Nb2 a d b m :=
  ⟨k.os.trans h.os, k.tape.trans h.tape, k.output.trans h.output, Nat.le_trans h.size k.size, fun q hq h1 h2 => (k.block q (Nat.lt_of_lt_of_le hq h.size) h1 h2).trans (h.block q hq h1 h2)⟩
theorem Nb2.to {w w' : World} {b m B : Nat} (h : Nb2 w w' b m) (hB : B ≤ w.heap.size) (h1 : B ≤ b) (h2 : B ≤ m) : Below B w w' := ⟨h.os, h.tape, h.output, h.size, fun k hk => h.block k (by omega) (by omega) (by omega)⟩
theorem Nb2.cell {w w' : World} {b m k : Nat} (h : Nb2 w w' b m) (hk : k < w.heap.size) (h1 : k ≠ b) (h2 : k ≠ m) (o : Nat) : w'.cell? ⟨k, o, none⟩ = w.cell? ⟨k, o, none⟩ := World.cell?_of_block (w := w) (a := ⟨k, o, none⟩) (h.block k hk h1 h2)
theorem Cs.nb2 {w w' : World} {b m k : Nat} {vs : List Value} (h : Cs w k vs) (hn : Nb2 w w' b m) (h1 : k ≠ b) (h2 : k ≠ m) : Cs w' k vs := by
  have hl := h.lt
  obtain ⟨T, h⟩ := h
  exact ⟨T, (hn.block k hl h1 h2).trans h⟩
end Go.Proofs.YthfdmdjmbbollaaGreatDoor
