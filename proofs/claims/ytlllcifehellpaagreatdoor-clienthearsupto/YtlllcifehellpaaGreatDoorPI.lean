/- Boxes of some cells in memory, and what is stored in them; what lies elsewhere stays. Rows of one's own that hold no texts: what is appended to them leaves all else that lies in memory. Rows of cells in memory, whatever they hold; and rows of one's own. Copies of entries and changes, in memory of their own. -/
import Derived.Test.YtlllcifehellpaaGreatDoorMA
import Derived.Maps.OwnSet
import Derived.Laws.OwnMore
import Derived.Test.YtlllcifehellpaaGreatDoorME
import Derived.Test.YtlllcifehellpaaGreatDoorPH
set_option linter.unusedSimpArgs false
set_option linter.unusedVariables false
namespace Go.Proofs.YtlllcifehellpaaGreatDoor
open Go.RowKit Go.Maps

theorem heap_lt {W : World} {b : Nat} {o : Obj} (h : W.heap[b]? = some o) : b < W.heap.size := by
  rcases Nat.lt_or_ge b W.heap.size with h1 | h1
  · exact h1
  · rw [Array.getElem?_eq_none h1] at h; cases h

/-- A block that holds just these cells, and may be written. -/
def Cs (W : World) (b : Nat) (vs : List Value) : Prop := ∃ T, W.heap[b]? = some (.cells vs.toArray T (0, 0))
theorem Cs.lt {W : World} {b : Nat} {vs : List Value} (h : Cs W b vs) : b < W.heap.size := h.elim fun _ h => heap_lt h
theorem Cs.cell {W : World} {b : Nat} {vs : List Value} (h : Cs W b vs) (i : Nat) {v : Value} (hv : vs[i]? = some v) : W.cell? ⟨b, i, none⟩ = some v := by
  obtain ⟨T, h⟩ := h
  simp [World.cell?, h, hv]
theorem Cs.fr {W : World} {b : Nat} {vs : List Value} (h : Cs W b vs) (i : Nat) : W.frozen? ⟨b, i, none⟩ = false := by
  obtain ⟨T, h⟩ := h
  simp [World.frozen?, h]
theorem Cs.belowAt {W W' : World} {b B : Nat} {vs : List Value} (h : Cs W b vs) (hw : Below B W W') (hb : b < B) : Cs W' b vs := by
  obtain ⟨T, h⟩ := h
  exact ⟨T, (hw.block b hb).trans h⟩
theorem Cs.below {W W' : World} {b : Nat} {vs : List Value} (h : Cs W b vs) (hw : Below W.heap.size W W') : Cs W' b vs := h.belowAt hw h.lt
theorem Cs.nb {W W' : World} {b g : Nat} {vs : List Value} (h : Cs W b vs) (hw : W.grownBy W' (some g)) (hne : b ≠ g) : Cs W' b vs := by
  have hl := h.lt
  obtain ⟨T, h⟩ := h
  exact ⟨T, (hw.block b hl (fun e => hne (by injection e))).trans h⟩
theorem Cs.new (w : World) (vs : List Value) (T : TypeId) : Cs (w.alloc (.cells vs.toArray T)) w.heap.size vs := ⟨T, by show (w.heap.push _)[w.heap.size]? = _; simp⟩
theorem Cs.set {W : World} {b : Nat} {vs : List Value} (h : Cs W b vs) (i : Nat) (u : Value) : Cs (W.setCell ⟨b, i, none⟩ u) b (vs.set i u) := by
  obtain ⟨T, h⟩ := h
  refine ⟨T, ?_⟩
  unfold World.setCell
  simp only [Array.getElem?_modify, h, if_true, Option.map_some]
  simp
theorem nb_set (W : World) (b o : Nat) (u : Value) : W.grownBy (W.setCell ⟨b, o, none⟩ u) (some b) :=
  ⟨rfl, rfl, rfl, by simp, fun k _ hk => Below.heap_setCell W _ u k (fun e => hk (by rw [e]))⟩
theorem Cs.other {W : World} {b b' o : Nat} {vs : List Value} (h : Cs W b vs) (hne : b ≠ b') (u : Value) : Cs (W.setCell ⟨b', o, none⟩ u) b vs := h.nb (nb_set W b' o u) hne

/-- A block without texts. -/
def NoStr (W : World) (g : Nat) : Prop := ∀ o s, W.cell? ⟨g, o, none⟩ ≠ some (.string s)
theorem Cs.noStr {W : World} {b : Nat} {vs : List Value} (h : Cs W b vs) (hv : ∀ s, Value.string s ∉ vs) : NoStr W b := by
  obtain ⟨T, h⟩ := h
  intro o s
  simp only [World.cell?, h]
  intro he
  have : vs[o]? = some (.string s) := by simpa using he
  exact hv s (List.mem_of_getElem? this)
theorem noStr_map {W : World} {P : Program} {k : TypeId} {R : Value → Option (DataW Unit × List MemPlace)} {b n : Nat} {D : DataW Unit} (h : W.ownsMap P k R b n D) : NoStr W b := by
  obtain ⟨es, clock, hb, _⟩ := h
  intro o s
  simp [World.cell?, hb]
theorem EnAt.ne {W : World} {b o g : Nat} {e : En} (h : EnAt W b o e) (hn : NoStr W g) : b ≠ g := fun hb => hn o e.path (hb ▸ h.1)
theorem ChAt.ne {W : World} {b o g : Nat} {c : Pp.Ch} (h : ChAt W b o c) (hn : NoStr W g) : b ≠ g := fun hb => hn (o + 1) c.p (hb ▸ h.2.1)
theorem cell_nb {W W' : World} {g b : Nat} (hw : W.grownBy W' (some g)) (hb : b < W.heap.size) (hne : b ≠ g) (o : Nat) : W'.cell? ⟨b, o, none⟩ = W.cell? ⟨b, o, none⟩ :=
  World.cell?_of_block (w := W) (a := ⟨b, o, none⟩) (hw.block b hb (fun e => hne (by injection e)))
theorem Lies.nb {W W' : World} {v : Value} {L : List En} {g : Nat} (h : Lies W v L) (hw : W.grownBy W' (some g)) (hn : NoStr W g) : Lies W' v L := by
  obtain ⟨a, cap, hv, h1, h2, h3⟩ := h
  refine ⟨a, cap, hv, h1, h2, fun i hi => ?_⟩
  obtain ⟨b, o, ha, hb, he⟩ := h3 i hi
  have c := cell_nb hw hb (he.ne hn)
  exact ⟨b, o, ha, Nat.lt_of_lt_of_le hb hw.size, (c _).trans he.1, (c _).trans he.2.1, (c _).trans he.2.2.1, (c _).trans he.2.2.2⟩
theorem LiesC.nb {W W' : World} {v : Value} {L : List Pp.Ch} {g : Nat} (h : LiesC W v L) (hw : W.grownBy W' (some g)) (hn : NoStr W g) : LiesC W' v L := by
  obtain ⟨a, cap, hv, h1, h2, h3⟩ := h
  refine ⟨a, cap, hv, h1, h2, fun i hi => ?_⟩
  obtain ⟨b, o, ha, hb, he⟩ := h3 i hi
  have c := cell_nb hw hb (he.ne hn)
  exact ⟨b, o, ha, Nat.lt_of_lt_of_le hb hw.size, (c _).trans he.1, (c _).trans he.2.1, (c _).trans he.2.2.1, (c _).trans he.2.2.2.1, (c _).trans he.2.2.2.2⟩

/-- Grown, and written in two blocks alone. -/
structure Nb2 (w w' : World) (b m : Nat) : Prop where
  os : w'.os = w.os
  tape : w'.tape = w.tape
  output : w'.output = w.output
  size : w.heap.size ≤ w'.heap.size
  block : ∀ k, k < w.heap.size → k ≠ b → k ≠ m → w'.heap[k]? = w.heap[k]?
theorem Nb2.of_below {w w' : World} (b m : Nat) (h : Below w.heap.size w w') : Nb2 w w' b m := ⟨h.os, h.tape, h.output, h.size, fun k hk _ _ => h.block k hk⟩
theorem Nb2.of_left {w w' : World} {b : Nat} (m : Nat) (h : w.grownBy w' (some b)) : Nb2 w w' b m := ⟨h.os, h.tape, h.output, h.size, fun k hk hb _ => h.block k hk (fun e => hb (by injection e))⟩
theorem Nb2.of_right {w w' : World} {m : Nat} (b : Nat) (h : w.grownBy w' (some m)) : Nb2 w w' b m := ⟨h.os, h.tape, h.output, h.size, fun k hk _ hm => h.block k hk (fun e => hm (by injection e))⟩
theorem Nb2.trans {a c d : World} {b m : Nat} (h : Nb2 a c b m) (k : Nb2 c d b m) : Nb2 a d b m :=
  ⟨k.os.trans h.os, k.tape.trans h.tape, k.output.trans h.output, Nat.le_trans h.size k.size, fun q hq h1 h2 => (k.block q (Nat.lt_of_lt_of_le hq h.size) h1 h2).trans (h.block q hq h1 h2)⟩
theorem Nb2.to {w w' : World} {b m B : Nat} (h : Nb2 w w' b m) (hB : B ≤ w.heap.size) (h1 : B ≤ b) (h2 : B ≤ m) : Below B w w' := ⟨h.os, h.tape, h.output, h.size, fun k hk => h.block k (by omega) (by omega) (by omega)⟩
theorem Nb2.cell {w w' : World} {b m k : Nat} (h : Nb2 w w' b m) (hk : k < w.heap.size) (h1 : k ≠ b) (h2 : k ≠ m) (o : Nat) : w'.cell? ⟨k, o, none⟩ = w.cell? ⟨k, o, none⟩ := World.cell?_of_block (w := w) (a := ⟨k, o, none⟩) (h.block k hk h1 h2)
theorem Cs.nb2 {w w' : World} {b m k : Nat} {vs : List Value} (h : Cs w k vs) (hn : Nb2 w w' b m) (h1 : k ≠ b) (h2 : k ≠ m) : Cs w' k vs := by
  have hl := h.lt
  obtain ⟨T, h⟩ := h
  exact ⟨T, (hn.block k hl h1 h2).trans h⟩
end Go.Proofs.YtlllcifehellpaaGreatDoor
set_option linter.unusedSimpArgs false
set_option linter.unusedVariables false
namespace Go.Proofs.YtlllcifehellpaaGreatDoor
open Go.RowKit

def NoStrV (w : World) (v : Value) : Prop := ∀ g, v.ownBlock = some g → NoStr w g
theorem noStr_cells {w : World} {g : Nat} {cur : Array Value} {T : TypeId} {fz : Nat × Nat} (h : w.heap[g]? = some (.cells cur T fz)) (hn : ∀ s, Value.string s ∉ cur.toList) : NoStr w g := by
  intro o s he
  have : cur.toList[o]? = some (.string s) := by simpa [World.cell?, h] using he
  exact hn s (List.mem_of_getElem? this)
theorem noStr_of {w : World} {g : Nat} {cur : Array Value} {T : TypeId} {fz : Nat × Nat} (h : w.heap[g]? = some (.cells cur T fz)) (hn : NoStr w g) : ∀ s, Value.string s ∉ cur.toList := by
  intro s hs
  obtain ⟨o, ho⟩ := List.getElem?_of_mem hs
  exact hn o s (by simpa [World.cell?, h] using ho)
theorem NoStr.keep {w w' : World} {g : Nat} (h : NoStr w g) (hb : w'.heap[g]? = w.heap[g]?) : NoStr w' g := by
  intro o s
  rw [World.cell?_of_block (w := w) (a := ⟨g, o, none⟩) hb]
  exact h o s
theorem NoStrV.below {w w' : World} {v : Value} (h : NoStrV w v) (hl : ∀ g, v.ownBlock = some g → g < w.heap.size) (hw : Below w.heap.size w w') : NoStrV w' v := fun g hg => (h g hg).keep (hw.block g (hl g hg))
theorem noStrV_nil (w : World) : NoStrV w (.slice none 0 0) := fun g h => by simp [Value.ownBlock] at h
theorem zeros_no {z : Array Value} (hz : ∀ s, Value.string s ∉ z.toList) (n : Nat) (s : ByteArray) : Value.string s ∉ (Builtin.zeroCells z n).toList := by
  intro h
  simp only [Builtin.zeroCells] at h
  simp at h
  obtain ⟨k, hk, he⟩ := h
  have hpos : 0 < z.size := by
    rcases Nat.eq_zero_or_pos z.size with h0 | h0
    · rw [h0] at hk; simp at hk
    · exact h0
  have hlt : k % z.size < z.size := Nat.mod_lt _ hpos
  rw [getElem!_pos z _ hlt] at he
  exact hz s (by rw [← he]; simp)
theorem append_noStr {P : Program} (w : World) (base : Nat) (t ty e : TypeId) (i : TypeInfo) (z : Value) (size bytes : Nat) (ht : P.underlying t = some (.slice e)) (hi : P.info? e = some i) (hz : i.zero = some z)
    (hsize : i.size = size) (hby : i.bytes = bytes) (hzs : z.cells.size = size) (hsz : 0 < size) (v : Value) (n : Nat) (xs : List Value) (hown : w.ownsRow base e size v n xs)
    (a : Addr) (m c : Nat) (news : List Value) (hl : news.length = m * size) (hnews : ∀ j u, news[j]? = some u → w.cell? (a.add j) = some u) (h1 : ∀ u ∈ news, u.oneCell' = true)
    (h63 : n + m ≤ maxLen) (hbytes : (n + m) * bytes ≤ 140737488355328) (hm : 0 < m) (hzn : ∀ s, Value.string s ∉ z.cells.toList) (hnn : ∀ s, Value.string s ∉ news) (hvn : NoStrV w v)
    {v' : Value} {w' : World} (hr : (Builtin.append_ #[t, t] ty #[v, .slice (some a) m c]).run P w = .ok v' w') : NoStrV w' v' := by
  subst hsize
  subst hby
  have hsmall : n + m ≤ 9223372036854775807 := by simp only [maxLen] at h63; omega
  rcases hown.2 with ⟨rfl, rfl⟩ | ⟨g, cap, cur, rfl, hbg, hg, hnc, hcm, hcs, htake⟩
  · have h2 := run_append_nil (P := P) w t ty e i z ht hi hz a m c news hl hnews hm (by omega) (by have hb := hbytes; simp only [Nat.zero_add] at hb; omega)
    rw [hr] at h2
    injection h2 with h2 h3
    subst h2; subst h3
    intro g hgg
    simp only [Value.ownBlock, Option.some.injEq] at hgg
    subst hgg
    refine noStr_cells (heap_alloc_new w.drew _) ?_
    intro s hs
    rw [Array.toList_append, List.mem_append] at hs
    rcases hs with hs | hs
    · exact hnn s hs
    · exact zeros_no hzn _ s hs
  · by_cases hroom : n + m ≤ cap
    · have hfit : n * i.size + news.length ≤ cur.size := by rw [hl, hcs, ← Nat.add_mul]; exact Nat.mul_le_mul_right _ hroom
      have h2 := run_append_room (P := P) w t ty e i ht hi g n cap cur hg a m c news hl hnews h1 hroom hfit
      rw [hr] at h2
      injection h2 with h2 h3
      subst h2; subst h3
      have hno := noStr_of hg (hvn g rfl)
      intro g' hgg
      simp only [Value.ownBlock, Option.some.injEq] at hgg
      subst hgg
      refine noStr_cells (setRow_heap w g cur _ e _ hg) ?_
      intro s hs
      simp only [List.mem_append] at hs
      rcases hs with (hs | hs) | hs
      · exact hno s (List.mem_of_mem_take hs)
      · exact hnn s hs
      · exact hno s (List.mem_of_mem_drop hs)
    · have h2 := run_append_grow (P := P) w t ty e i z ht hi hz ⟨g, 0, none⟩ n cap xs hown.1 (hown.cells (g := g) rfl) a m c news hl hnews (by omega) (by omega) (growslice_fits (by omega) hbytes)
      rw [hr] at h2
      injection h2 with h2 h3
      subst h2; subst h3
      have hno := noStr_of hg (hvn g rfl)
      intro g' hgg
      simp only [Value.ownBlock, Option.some.injEq] at hgg
      subst hgg
      refine noStr_cells (heap_alloc_new w.drew _) ?_
      intro s hs
      rw [Array.toList_append, Array.toList_append, List.mem_append, List.mem_append] at hs
      rcases hs with (hs | hs) | hs
      · have : Value.string s ∈ xs := by simpa using hs
        rw [← htake] at this
        exact hno s (List.mem_of_mem_take this)
      · exact hnn s (by simpa using hs)
      · exact zeros_no hzn _ s hs

/-- The law of append, with that said too. -/
theorem wpList_append_no {P : Program} (w : World) {ops : Array Oper} {rest : List Oper} {o : Oper} {a : Act} {Q : Exit → Act → World → Prop} (hgd : o.guard = none) (s x : Operand) (t : TypeId)
    (ho : o.op = .call { callee := .builtin .append, args := #[s, x], argTypes := #[t, t] })
    (base : Nat) (e : TypeId) (i : TypeInfo) (z : Value) (size bytes : Nat) (ht : P.underlying t = some (.slice e)) (hi : P.info? e = some i) (hz : i.zero = some z)
    (hsize : i.size = size) (hby : i.bytes = bytes) (hzs : z.cells.size = size) (hsz : 0 < size)
    (v : Value) (n : Nat) (xs : List Value) (hs : a.eval s = v) (hown : w.ownsRow base e size v n xs)
    (ad : Addr) (m c : Nat) (news : List Value) (hx : a.eval x = .slice (some ad) m c) (hl : news.length = m * size) (hnews : ∀ j u, news[j]? = some u → w.cell? (ad.add j) = some u) (h1 : ∀ u ∈ news, u.oneCell' = true)
    (h63 : n + m ≤ maxLen) (hbytes : (n + m) * bytes ≤ 140737488355328) (hbase : base ≤ w.heap.size) (hm : 0 < m) (hzn : ∀ s, Value.string s ∉ z.cells.toList) (hnn : ∀ s, Value.string s ∉ news) (hvn : NoStrV w v)
    (h : ∀ v' w', w'.ownsRow base e size v' (n + m) (xs ++ news) → w.grownBy w' v.ownBlock → NoStrV w' v' → wpList P ops Q rest (a.put o.dst v') w') : wpList P ops Q (o :: rest) a w := by
  refine wpList_plain hgd fun _ hK => ?_
  obtain ⟨v', w', hr, h2, h3, h4⟩ := run_append_own (P := P) w base t o.type e i z size bytes ht hi hz hsize hby hzs hsz v n xs hown ad m c news hl hnews h1 h63 hbytes hbase
  have h5 := append_noStr (P := P) w base t o.type e i z size bytes ht hi hz hsize hby hzs hsz v n xs hown ad m c news hl hnews h1 h63 hbytes hm hzn hnn hvn hr
  unfold Oper.wp execOp
  simp only [ho, resolve, invoke, builtin, Sem.run_bind, Sem.run_pure, Result.andThen_ok, List.map_toArray, List.map_cons, List.map_nil, hs, hx, hr]
  exact hK _ _ (h v' w' h2 h3 h5)
theorem Lies.row {w w' : World} {x v : Value} {L : List En} (h : Lies w x L) (hg : w.grownBy w' v.ownBlock) (hn : NoStrV w v) : Lies w' x L := by
  cases hv : v.ownBlock with
  | none =>
    rw [hv] at hg
    exact h.below ⟨hg.os, hg.tape, hg.output, hg.size, fun k hk => hg.block k hk (by simp)⟩
  | some g =>
    rw [hv] at hg
    exact h.nb hg (hn g hv)
end Go.Proofs.YtlllcifehellpaaGreatDoor
set_option linter.unusedSimpArgs false
set_option linter.unusedVariables false
namespace Go.Proofs.YtlllcifehellpaaGreatDoor
open Go.RowKit

/-- A slice whose elements have these cells, n each. -/
def LiesR (n : Nat) (w : World) (v : Value) (R : List (List Value)) : Prop := ∃ a cap, v = .slice a R.length cap ∧ R.length ≤ cap ∧ R.length ≤ 1000000000000000 ∧ (∀ r ∈ R, r.length = n ∧ ∀ u ∈ r, u.oneCell' = true) ∧
  ∀ i (h : i < R.length), ∃ b o, a = some ⟨b, o, none⟩ ∧ b < w.heap.size ∧ ∀ c u, R[i][c]? = some u → w.cell? ⟨b, o + i * n + c, none⟩ = some u
/-- The caller's own: in a block from B on, that may be written. -/
def Own (B : Nat) (w : World) (v : Value) : Prop := ∀ g, v.ownBlock = some g → B ≤ g ∧ ∃ cur T, w.heap[g]? = some (.cells cur T (0, 0))
theorem own_nil (B : Nat) (w : World) : Own B w (.slice none 0 0) := fun g h => by simp [Value.ownBlock] at h
theorem Own.lt {B : Nat} {w : World} {v : Value} (h : Own B w v) : ∀ g, v.ownBlock = some g → g < w.heap.size := fun g hg => by
  obtain ⟨_, cur, T, hh⟩ := h g hg
  exact heap_lt hh
theorem Own.below {B : Nat} {w w' : World} {v : Value} (h : Own B w v) (hw : Below w.heap.size w w') : Own B w' v := fun g hg => by
  obtain ⟨h1, cur, T, hh⟩ := h g hg
  exact ⟨h1, cur, T, (hw.block g (heap_lt hh)).trans hh⟩
theorem Own.mono {B B' : Nat} {w : World} {v : Value} (h : Own B w v) (hB : B' ≤ B) : Own B' w v := fun g hg => ⟨Nat.le_trans hB (h g hg).1, (h g hg).2⟩
theorem own_row {w : World} {base : Nat} {e : TypeId} {size : Nat} {v : Value} {n : Nat} {xs : List Value} (h : w.ownsRow base e size v n xs) : Own base w v := by
  obtain ⟨_, h2⟩ := h
  rcases h2 with ⟨rfl, _⟩ | ⟨g, cap, cur, rfl, hg, hh, _⟩
  · exact own_nil _ _
  · intro g' hg'
    simp only [Value.ownBlock, Option.some.injEq] at hg'
    subst hg'
    exact ⟨hg, cur, e, hh⟩
theorem LiesR.below {n : Nat} {w w' : World} {v : Value} {R : List (List Value)} (h : LiesR n w v R) (hw : Below w.heap.size w w') : LiesR n w' v R := by
  obtain ⟨a, cap, hv, h1, h2, h4, h3⟩ := h
  refine ⟨a, cap, hv, h1, h2, h4, fun i hi => ?_⟩
  obtain ⟨b, o, ha, hb, he⟩ := h3 i hi
  exact ⟨b, o, ha, Nat.lt_of_lt_of_le hb hw.size, fun c u hu => (hw.cell (p := ⟨b, o + i * n + c, none⟩) hb).trans (he c u hu)⟩
theorem flatten_len {n : Nat} : ∀ {R : List (List Value)}, (∀ r ∈ R, r.length = n) → R.flatten.length = R.length * n
  | [], _ => by simp
  | r :: R, h => by
    rw [List.flatten_cons, List.length_append, h r (by simp), flatten_len (fun x hx => h x (by simp [hx])), List.length_cons, Nat.add_mul]
    omega
theorem flatten_at {n : Nat} : ∀ {R : List (List Value)} (i c : Nat) (h : i < R.length), (∀ r ∈ R, r.length = n) → c < n → R.flatten[i * n + c]? = R[i][c]?
  | [], i, c, h, _, _ => absurd h (Nat.not_lt_zero _)
  | r :: R, 0, c, _, hr, hc => by
    rw [List.flatten_cons, Nat.zero_mul, Nat.zero_add, List.getElem?_append_left (by rw [hr r (by simp)]; exact hc)]
    rfl
  | r :: R, i + 1, c, h, hr, hc => by
    have hl := hr r (by simp)
    rw [List.flatten_cons, List.getElem?_append_right (by rw [hl, Nat.add_mul]; omega), hl]
    have e : (i + 1) * n + c - n = i * n + c := by rw [Nat.add_mul]; omega
    rw [e, flatten_at i c (by simpa using h) (fun x hx => hr x (by simp [hx])) hc]
    rfl
theorem liesR_cells {n : Nat} (hn : 0 < n) {w : World} {b o : Nat} {R : List (List Value)} (hr : ∀ r ∈ R, r.length = n) (h : ∀ i (h : i < R.length), ∀ c u, R[i][c]? = some u → w.cell? ⟨b, o + i * n + c, none⟩ = some u) : ∀ j u, R.flatten[j]? = some u → w.cell? ((⟨b, o, none⟩ : Addr).add j) = some u := by
  intro j u hj
  have hjl : j < R.length * n := by
    have := (List.getElem?_eq_some_iff.1 hj).1
    rw [flatten_len hr] at this; exact this
  have h1 : j / n < R.length := (Nat.div_lt_iff_lt_mul hn).2 hjl
  have h2 : j / n * n + j % n = j := Nat.div_add_mod' j n
  have h3 := flatten_at (j / n) (j % n) h1 hr (Nat.mod_lt _ hn)
  rw [h2, hj] at h3
  have h4 := h _ h1 _ u h3.symm
  rw [Addr.add_lit]
  rw [Nat.add_assoc, h2] at h4
  exact h4
theorem liesR_own {n : Nat} {w : World} {base : Nat} {T : TypeId} {v : Value} {R : List (List Value)} (h : w.ownsRow base T n v R.length R.flatten) (hn : R.length ≤ 1000000000000000) (hr : ∀ r ∈ R, r.length = n ∧ ∀ u ∈ r, u.oneCell' = true) : LiesR n w v R := by
  have h' := h
  obtain ⟨_, h2⟩ := h
  rcases h2 with ⟨rfl, hz⟩ | ⟨g, cap, cur, rfl, hg, hh, hc, hm, hz, htake⟩
  · have : R = [] := List.length_eq_zero_iff.1 hz
    subst this
    exact ⟨none, 0, rfl, Nat.le_refl _, by simp, by simp, fun i hi => absurd hi (by simp)⟩
  · refine ⟨some ⟨g, 0, none⟩, cap, rfl, hc, hn, hr, fun i hi => ⟨g, 0, rfl, heap_lt hh, fun c u hu => ?_⟩⟩
    have hc' : c < n := by
      have := (List.getElem?_eq_some_iff.1 hu).1
      rw [(hr _ (List.getElem_mem hi)).1] at this
      exact this
    have hlt : i * n + c < R.length * n := by
      have h5 : (i + 1) * n ≤ R.length * n := Nat.mul_le_mul_right n hi
      rw [Nat.add_mul] at h5
      omega
    rw [Nat.zero_add, h'.cellAt (i * n + c) hlt, flatten_at i c hi (fun r hr' => (hr r hr').1) hc']
    exact hu
theorem flatten_one {n : Nat} {R : List (List Value)} (hr : ∀ r ∈ R, r.length = n ∧ ∀ u ∈ r, u.oneCell' = true) : ∀ u ∈ R.flatten, u.oneCell' = true := by
  intro u hu
  obtain ⟨r, h1, h2⟩ := List.mem_flatten.1 hu
  exact (hr r h1).2 u h2
end Go.Proofs.YtlllcifehellpaaGreatDoor
set_option linter.unusedSimpArgs false
set_option linter.unusedVariables false
namespace Go.Proofs.YtlllcifehellpaaGreatDoor
open Go.RowKit

namespace Pp
def chC (c : Ch) : List Value := [.int .i64 c.k, .string c.p, .string c.q, .string c.t, .int .i64 c.b]
end Pp
theorem liesR_en {w : World} {v : Value} {L : List En} : Lies w v L ↔ LiesR 4 w v (L.map Pp.cells) := by
  constructor
  · rintro ⟨a, cap, hv, h1, h2, h3⟩
    refine ⟨a, cap, by simpa using hv, by simpa using h1, by simpa using h2, ?_, fun i hi => ?_⟩
    · intro r hr
      obtain ⟨e, _, rfl⟩ := List.mem_map.1 hr
      exact ⟨rfl, Pp.cells_one e⟩
    · obtain ⟨b, o, ha, hb, he⟩ := h3 i (by simpa using hi)
      refine ⟨b, o, ha, hb, fun c u hu => ?_⟩
      rw [List.getElem_map] at hu
      obtain ⟨e0, e1, e2, e3⟩ := he
      match c, hu with
      | 0, hu => simp [Pp.cells] at hu; subst hu; exact e0
      | 1, hu => simp [Pp.cells] at hu; subst hu; exact e1
      | 2, hu => simp [Pp.cells] at hu; subst hu; exact e2
      | 3, hu => simp [Pp.cells] at hu; subst hu; exact e3
      | c + 4, hu => simp [Pp.cells] at hu
  · rintro ⟨a, cap, hv, h1, h2, _, h3⟩
    refine ⟨a, cap, by simpa using hv, by simpa using h1, by simpa using h2, fun i hi => ?_⟩
    obtain ⟨b, o, ha, hb, he⟩ := h3 i (by simpa using hi)
    rw [List.getElem_map] at he
    exact ⟨b, o, ha, hb, he 0 _ rfl, he 1 _ rfl, he 2 _ rfl, he 3 _ rfl⟩
theorem liesR_ch {w : World} {v : Value} {L : List Pp.Ch} : LiesC w v L ↔ LiesR 5 w v (L.map Pp.chC) := by
  constructor
  · rintro ⟨a, cap, hv, h1, h2, h3⟩
    refine ⟨a, cap, by simpa using hv, by simpa using h1, by simpa using h2, ?_, fun i hi => ?_⟩
    · intro r hr
      obtain ⟨e, _, rfl⟩ := List.mem_map.1 hr
      refine ⟨rfl, fun u hu => ?_⟩
      simp only [Pp.chC, List.mem_cons, List.not_mem_nil, or_false] at hu
      rcases hu with rfl | rfl | rfl | rfl | rfl <;> rfl
    · obtain ⟨b, o, ha, hb, he⟩ := h3 i (by simpa using hi)
      refine ⟨b, o, ha, hb, fun c u hu => ?_⟩
      rw [List.getElem_map] at hu
      obtain ⟨e0, e1, e2, e3, e4⟩ := he
      match c, hu with
      | 0, hu => simp [Pp.chC] at hu; subst hu; exact e0
      | 1, hu => simp [Pp.chC] at hu; subst hu; exact e1
      | 2, hu => simp [Pp.chC] at hu; subst hu; exact e2
      | 3, hu => simp [Pp.chC] at hu; subst hu; exact e3
      | 4, hu => simp [Pp.chC] at hu; subst hu; exact e4
      | c + 5, hu => simp [Pp.chC] at hu
  · rintro ⟨a, cap, hv, h1, h2, _, h3⟩
    refine ⟨a, cap, by simpa using hv, by simpa using h1, by simpa using h2, fun i hi => ?_⟩
    obtain ⟨b, o, ha, hb, he⟩ := h3 i (by simpa using hi)
    rw [List.getElem_map] at he
    exact ⟨b, o, ha, hb, he 0 _ rfl, he 1 _ rfl, he 2 _ rfl, he 3 _ rfl, he 4 _ rfl⟩

theorem Tryz.infoRE : (Tryz.prog.info? 64).map (fun i => (i.zero, i.size, i.bytes)) = some (some (.agg #[.string ⟨#[]⟩, .bool false, .string ⟨#[]⟩, .int .i64 0]), 4, 48) := by kernel_rfl
set_option maxHeartbeats 1000000 in
theorem cloneE (R : List (List Value)) (v : Value) (w : World) (hv : LiesR 4 w v R) (hn : R.length ≤ 1000000000000) :
    Calls Tryz.prog 49 #[v] w fun e w' => ∃ u, e = .returned u ∧ LiesR 4 w' u R ∧ Own w.heap.size w' u ∧ Below w.heap.size w w' := by
  obtain ⟨i0, hi0, hz0, hz1, hz2⟩ := info_parts Tryz.infoRE
  obtain ⟨a, cap, rfl, hcap, hcap2, hR, hLL⟩ := hv
  have HR := hid hR
  have q22 : ∀ (w : World) (a : Option Addr) (n c n' c' : Nat), (binOp .eql 22 (.slice a n c) (.slice none n' c')).run Tryz.prog w = .ok (.bool a.isNone) w := fun w a n c n' c' => Lib.run_eql_slice_nil w _ _ a n c n' c' Tryz.underlying22
  cases a with
  | none =>
    have hL : R = [] := by
      cases R with
      | nil => rfl
      | cons s r => obtain ⟨b, o, hb, _⟩ := hLL 0 (by simp); cases hb
    subst hL
    clear hR
    go_enter Tryz.func49, Tryz.ntmps49
    go_wp2
    go_ret
    exact ⟨_, rfl, ⟨none, 0, rfl, Nat.le_refl _, by simp, HR.out, fun i h => absurd h (by simp)⟩, own_nil _ _, Below.refl _ _⟩
  | some ad =>
    have hcells : ∀ j u, R.flatten[j]? = some u → w.cell? (ad.add j) = some u := by
      cases R with
      | nil => intro j u hj; simp at hj
      | cons s r =>
        obtain ⟨b, o, hb, _⟩ := hLL 0 (by simp)
        injection hb with hb
        subst hb
        exact liesR_cells (by decide) (fun r hr => (hR r hr).1) fun i hi => by
          obtain ⟨b', o', hb', _, he⟩ := hLL i hi
          injection hb' with hb'
          injection hb' with h1 h2
          subst h1; subst h2
          exact he
    have HC := hid hcells
    have HFL := hid (flatten_len (fun r hr => (hR r hr).1) : R.flatten.length = R.length * 4)
    clear hcells hLL hR
    go_enter Tryz.func49, Tryz.ntmps49
    go_wp2_with (at_builtin; refine wpList_append_own _ rfl _ _ 22 rfl w.heap.size 64 i0 (.agg #[.string ⟨#[]⟩, .bool false, .string ⟨#[]⟩, .int .i64 0]) 4 48 Tryz.underlying22 hi0 hz0 hz1 hz2 rfl (by decide) _ _ _ rfl (World.ownsRow_made w #[] 0 (Nat.le_refl _) (Nat.zero_le _) (by simp)) ad R.length cap R.flatten rfl ?qc1 ?qc2 ?qc3 ?qc4 ?qc5 ?qc6 ?_)
    case qc1 => exact HFL.out
    case qc2 => intro j u hj; exact Lib.cell?_alloc_some _ (HC.out j u hj)
    case qc3 => exact flatten_one HR.out
    case qc4 => unfold maxLen; omega
    case qc5 => omega
    case qc6 => simp
    intro v2 w2 ho2 hgr2 hnn2
    have hbel2 : Below w.heap.size w w2 := ((Below.refl _ _).alloc (Nat.le_refl _) _).grown hgr2 (by simp) (fun k hk => by simp [Value.ownBlock] at hk; omega)
    have ho3 : w2.ownsRow w.heap.size 64 4 v2 R.length R.flatten := by simpa using ho2
    have HCL := hid (liesR_own ho3 (by omega) HR.out)
    have HOW := hid (own_row ho3)
    obtain ⟨a2, cap2, hv2, _, _, _⟩ := HCL.out
    clear ho2 ho3 hgr2 hnn2
    go_wp2_with fail
    go_ret
    exact ⟨_, rfl, HCL.out, HOW.out, hbel2⟩

theorem Tryz.infoRC : (Tryz.prog.info? 53).map (fun i => (i.zero, i.size, i.bytes)) = some (some (.agg #[.int .i64 0, .string ⟨#[]⟩, .string ⟨#[]⟩, .string ⟨#[]⟩, .int .i64 0]), 5, 64) := by kernel_rfl
set_option maxHeartbeats 1000000 in
theorem cloneC (R : List (List Value)) (v : Value) (w : World) (hv : LiesR 5 w v R) (hn : R.length ≤ 1000000000000) :
    Calls Tryz.prog 43 #[v] w fun e w' => ∃ u, e = .returned u ∧ LiesR 5 w' u R ∧ Own w.heap.size w' u ∧ Below w.heap.size w w' := by
  obtain ⟨i0, hi0, hz0, hz1, hz2⟩ := info_parts Tryz.infoRC
  obtain ⟨a, cap, rfl, hcap, hcap2, hR, hLL⟩ := hv
  have HR := hid hR
  have q22 : ∀ (w : World) (a : Option Addr) (n c n' c' : Nat), (binOp .eql 23 (.slice a n c) (.slice none n' c')).run Tryz.prog w = .ok (.bool a.isNone) w := fun w a n c n' c' => Lib.run_eql_slice_nil w _ _ a n c n' c' Tryz.underlying23
  cases a with
  | none =>
    have hL : R = [] := by
      cases R with
      | nil => rfl
      | cons s r => obtain ⟨b, o, hb, _⟩ := hLL 0 (by simp); cases hb
    subst hL
    clear hR
    go_enter Tryz.func43, Tryz.ntmps43
    go_wp2
    go_ret
    exact ⟨_, rfl, ⟨none, 0, rfl, Nat.le_refl _, by simp, HR.out, fun i h => absurd h (by simp)⟩, own_nil _ _, Below.refl _ _⟩
  | some ad =>
    have hcells : ∀ j u, R.flatten[j]? = some u → w.cell? (ad.add j) = some u := by
      cases R with
      | nil => intro j u hj; simp at hj
      | cons s r =>
        obtain ⟨b, o, hb, _⟩ := hLL 0 (by simp)
        injection hb with hb
        subst hb
        exact liesR_cells (by decide) (fun r hr => (hR r hr).1) fun i hi => by
          obtain ⟨b', o', hb', _, he⟩ := hLL i hi
          injection hb' with hb'
          injection hb' with h1 h2
          subst h1; subst h2
          exact he
    have HC := hid hcells
    have HFL := hid (flatten_len (fun r hr => (hR r hr).1) : R.flatten.length = R.length * 5)
    clear hcells hLL hR
    go_enter Tryz.func43, Tryz.ntmps43
    go_wp2_with (at_builtin; refine wpList_append_own _ rfl _ _ 23 rfl w.heap.size 53 i0 (.agg #[.int .i64 0, .string ⟨#[]⟩, .string ⟨#[]⟩, .string ⟨#[]⟩, .int .i64 0]) 5 64 Tryz.underlying23 hi0 hz0 hz1 hz2 rfl (by decide) _ _ _ rfl (World.ownsRow_made w #[] 0 (Nat.le_refl _) (Nat.zero_le _) (by simp)) ad R.length cap R.flatten rfl ?qc1 ?qc2 ?qc3 ?qc4 ?qc5 ?qc6 ?_)
    case qc1 => exact HFL.out
    case qc2 => intro j u hj; exact Lib.cell?_alloc_some _ (HC.out j u hj)
    case qc3 => exact flatten_one HR.out
    case qc4 => unfold maxLen; omega
    case qc5 => omega
    case qc6 => simp
    intro v2 w2 ho2 hgr2 hnn2
    have hbel2 : Below w.heap.size w w2 := ((Below.refl _ _).alloc (Nat.le_refl _) _).grown hgr2 (by simp) (fun k hk => by simp [Value.ownBlock] at hk; omega)
    have ho3 : w2.ownsRow w.heap.size 53 5 v2 R.length R.flatten := by simpa using ho2
    have HCL := hid (liesR_own ho3 (by omega) HR.out)
    have HOW := hid (own_row ho3)
    obtain ⟨a2, cap2, hv2, _, _, _⟩ := HCL.out
    clear ho2 ho3 hgr2 hnn2
    go_wp2_with fail
    go_ret
    exact ⟨_, rfl, HCL.out, HOW.out, hbel2⟩
theorem LiesC.nbo {W W' : World} {v : Value} {L : List Pp.Ch} {g : Nat} (h : LiesC W v L) (hw : W.grownBy W' (some g)) (hn : ∀ b, v.ownBlock = some b → b ≠ g) : LiesC W' v L := by
  obtain ⟨a, cap, rfl, h1, h2, h3⟩ := h
  refine ⟨a, cap, rfl, h1, h2, fun i hi => ?_⟩
  obtain ⟨b, o, rfl, hb, he⟩ := h3 i hi
  have c := cell_nb hw hb (hn b rfl)
  exact ⟨b, o, rfl, Nat.lt_of_lt_of_le hb hw.size, (c _).trans he.1, (c _).trans he.2.1, (c _).trans he.2.2.1, (c _).trans he.2.2.2.1, (c _).trans he.2.2.2.2⟩
theorem Own.nb {B : Nat} {w w' : World} {v : Value} {g : Nat} (h : Own B w v) (hw : w.grownBy w' (some g)) (hn : ∀ b, v.ownBlock = some b → b ≠ g) : Own B w' v := fun b hb => by
  obtain ⟨h1, cur, T, hh⟩ := h b hb
  exact ⟨h1, cur, T, (hw.block b (heap_lt hh) (fun e => hn b hb (by injection e))).trans hh⟩
theorem Own.setCell {B : Nat} {w : World} {v : Value} (h : Own B w v) (b o : Nat) (u : Value) : Own B (w.setCell ⟨b, o, none⟩ u) v := fun g hg => by
  obtain ⟨h1, cur, T, hh⟩ := h g hg
  by_cases hb : b = g
  · subst hb
    refine ⟨h1, cur.setIfInBounds o u, T, ?_⟩
    unfold World.setCell
    simp only [Array.getElem?_modify, hh, if_true, Option.map_some]
    rfl
  · exact ⟨h1, cur, T, ((nb_set w b o u).block g (heap_lt hh) (fun e => hb (by injection e with e; exact e.symm))).trans hh⟩
theorem Lies.nbo {W W' : World} {v : Value} {L : List En} {g : Nat} (h : Lies W v L) (hw : W.grownBy W' (some g)) (hn : ∀ b, v.ownBlock = some b → b ≠ g) : Lies W' v L := by
  obtain ⟨a, cap, rfl, h1, h2, h3⟩ := h
  refine ⟨a, cap, rfl, h1, h2, fun i hi => ?_⟩
  obtain ⟨b, o, rfl, hb, he⟩ := h3 i hi
  have c := cell_nb hw hb (hn b rfl)
  exact ⟨b, o, rfl, Nat.lt_of_lt_of_le hb hw.size, (c _).trans he.1, (c _).trans he.2.1, (c _).trans he.2.2.1, (c _).trans he.2.2.2⟩
theorem LiesR.nbo {n : Nat} {W W' : World} {v : Value} {R : List (List Value)} {g : Nat} (h : LiesR n W v R) (hw : W.grownBy W' (some g)) (hn : ∀ b, v.ownBlock = some b → b ≠ g) : LiesR n W' v R := by
  obtain ⟨a, cap, rfl, h1, h2, h4, h3⟩ := h
  refine ⟨a, cap, rfl, h1, h2, h4, fun i hi => ?_⟩
  obtain ⟨b, o, rfl, hb, he⟩ := h3 i hi
  have c := cell_nb hw hb (hn b rfl)
  exact ⟨b, o, rfl, Nat.lt_of_lt_of_le hb hw.size, fun d u hu => (c _).trans (he d u hu)⟩
theorem grown_on {a b c : World} {g : Nat} (h : a.grownBy b (some g)) (k : b.grownBy c (some g)) : a.grownBy c (some g) := ⟨k.os.trans h.os, k.tape.trans h.tape, k.output.trans h.output, Nat.le_trans h.size k.size, fun x hx hn => (k.block x (Nat.lt_of_lt_of_le hx h.size) hn).trans (h.block x hx hn)⟩
end Go.Proofs.YtlllcifehellpaaGreatDoor
