/- Appending, in a region that draws its order, what is nil or not. -/
import Derived.Test.YtnaedemkpiagmaaU9d
import Derived.Laws.OwnMore
import Derived.Deep.RegionHeld3
import Derived.Deep.RegionLaw
set_option linter.unusedSimpArgs false
set_option linter.unusedVariables false
namespace Go.Proofs.Ytnaedemkpiagmaa
open Go.RowKit

/-- What may be appended: nil, or so many records that lie at an address. -/
def Src5 (w : World) (sx : Value) (m size : Nat) (news : List Value) : Prop := (sx = .slice none 0 0 ∧ m = 0 ∧ news = []) ∨ ∃ ad c, sx = .slice (some ad) m c ∧ news.length = m * size ∧ (∀ j u, news[j]? = some u → w.cell? (ad.add j) = some u)
theorem wp_append_may {P : Program} {o : Oper} {a : Act} {w : World} {K : Act → World → Prop} {Q : Exit → Act → World → Prop}
    (s x : Operand) (t : TypeId) (hop : o.op = Op.call { callee := Callee.builtin Builtin.append, args := #[s, x], argTypes := #[t, t] })
    (base : Nat) (e : TypeId) (i : TypeInfo) (z : Value) (size bytes : Nat) (ht : P.underlying t = some (.slice e)) (hi : P.info? e = some i) (hz : i.zero = some z)
    (hsize : i.size = size) (hby : i.bytes = bytes) (hzs : z.cells.size = size) (hsz : 0 < size)
    (v : Value) (n : Nat) (xs : List Value) (hs : a.eval s = v) (hown : w.ownsRow base e size v n xs)
    (sx : Value) (m : Nat) (news : List Value) (hx : a.eval x = sx) (hsx : Src5 w sx m size news) (h1 : ∀ u ∈ news, u.oneCell' = true)
    (h63 : n + m ≤ maxLen) (hbytes : (n + m) * bytes ≤ 140737488355328) (hbase : base ≤ w.heap.size)
    (h : ∀ v' w', w'.ownsRow base e size v' (n + m) (xs ++ news) → w.grownBy w' v.ownBlock → K (a.put o.dst v') w') :
    Oper.wp P o a w K Q := by
  rcases hsx with ⟨rfl, rfl, rfl⟩ | ⟨ad, c, rfl, hl, hnews⟩
  · have hrun := run_append_owned_none (P := P) (w := w) base t o.type e i size ht hi v n xs hown
    unfold Oper.wp
    simp [execOp, hop, resolve, invoke, builtin, hs, hx, hrun, Result.andThen]
    exact h v w (by simpa using hown) (World.grownBy.refl _ _)
  · exact wp_append_own w s x t hop base e i z size bytes ht hi hz hsize hby hzs hsz v n xs hs hown ad m c news hx hl hnews h1 h63 hbytes hbase fun v' w' h1 h2 _ => h v' w' h1 h2
theorem step_append_may {P : Program} {ops : Array Oper} {o : Oper} {a : Act} {w : World} {K : Act → World → Prop} {Q : Exit → Act → World → Prop} {E : Prop}
    (hg : o.guard = none) (s x : Operand) (t : TypeId) (hop : o.op = Op.call { callee := Callee.builtin Builtin.append, args := #[s, x], argTypes := #[t, t] })
    (base : Nat) (e : TypeId) (i : TypeInfo) (z : Value) (size bytes : Nat) (ht : P.underlying t = some (.slice e)) (hi : P.info? e = some i) (hz : i.zero = some z)
    (hsize : i.size = size) (hby : i.bytes = bytes) (hzs : z.cells.size = size) (hsz : 0 < size)
    (v : Value) (n : Nat) (xs : List Value) (hs : a.eval s = v) (hown : w.ownsRow base e size v n xs)
    (sx : Value) (m : Nat) (news : List Value) (hx : a.eval x = sx) (hsx : Src5 w sx m size news) (h1 : ∀ u ∈ news, u.oneCell' = true)
    (h63 : n + m ≤ maxLen) (hbytes : (n + m) * bytes ≤ 140737488355328) (hbase : base ≤ w.heap.size)
    (h : ∀ v' w', w'.ownsRow base e size v' (n + m) (xs ++ news) → w.grownBy w' v.ownBlock → K (a.put o.dst v') w') :
    if Region.wanted o (yielded ops a.tmps) = true then Oper.wp P o a w K Q else E := by
  have hw : Region.wanted o (yielded ops a.tmps) = true := by simp [Region.wanted, hg]
  rw [if_pos hw]
  exact wp_append_may s x t hop base e i z size bytes ht hi hz hsize hby hzs hsz v n xs hs hown sx m news hx hsx h1 h63 hbytes hbase h
/-- A row of sessions, nil or own, as what is appended. -/
theorem Src5.own {B : Nat} {w : World} {u : Value} {L : List Se} (h : OwnS B w u L) : Src5 w u L.length 5 (Pp.flatS L) := by
  rcases h with ⟨rfl, rfl⟩ | ⟨g, cap, rfl, h2, h3, h4, h5, h6⟩
  · exact Or.inl ⟨rfl, rfl, rfl⟩
  · have ho := own_rowS h4 h5 h3 h6 h2
    refine Or.inr ⟨⟨g, 0, none⟩, cap, rfl, ho.1, fun j u hj => ?_⟩
    have hadd : (⟨g, 0, none⟩ : Addr).add j = ⟨g, j, none⟩ := by unfold Addr.add; split <;> simp_all
    have hlt : j < L.length * 5 := by
      rcases Nat.lt_or_ge j (L.length * 5) with h | h
      · exact h
      · rw [List.getElem?_eq_none (by rw [ho.1]; exact h)] at hj; cases hj
    rw [hadd, ho.cellAt j hlt]
    exact hj
/-- What is to be shown later, once for several ways that come to it. -/
structure Later (p : Prop) : Prop where
  out : p
theorem later {p q : Prop} (h : Later p → q) (hp : p) : q := h ⟨hp⟩
/-- An empty slice of one's own. -/
def Emp5 (B : Nat) (w : World) (v : Value) : Prop := ∃ b, v = .slice (some ⟨b, 0, none⟩) 0 0 ∧ B ≤ b ∧ b < w.heap.size ∧ w.heap[b]? = some (.cells #[] 38)
theorem Emp5.new {B : Nat} {w w' : World} (h : w.alloc (.cells #[] 38) = w') (hB : B ≤ w.heap.size) : Emp5 B w' (.slice (some ⟨w.heap.size, 0, none⟩) 0 0) :=
  ⟨w.heap.size, rfl, hB, by rw [← h]; simp, by rw [← h]; exact heap_alloc_new w _⟩
theorem Emp5.below {B : Nat} {w w' : World} {v : Value} (h : Emp5 B w v) (hw : Below w.heap.size w w') : Emp5 B w' v := by
  obtain ⟨b, h1, h2, h3, h4⟩ := h
  exact ⟨b, h1, h2, Nat.lt_of_lt_of_le h3 hw.size, (hw.block b h3).trans h4⟩
theorem Emp5.own {B : Nat} {w : World} {v : Value} (h : Emp5 B w v) : w.ownsRow B 38 5 v 0 [] := by
  obtain ⟨b, rfl, h2, h3, h4⟩ := h
  exact ⟨rfl, .inr ⟨b, 0, #[], rfl, h2, h4, Nat.le_refl _, by unfold maxLen; omega, rfl, rfl⟩⟩
/-- One session in a slice of its own. -/
def New5 (w : World) (v : Value) (s : Se) : Prop := ∃ b, v = .slice (some ⟨b, 0, none⟩) 1 1 ∧ b < w.heap.size ∧ ∀ j u, (Pp.cellsS s)[j]? = some u → w.cell? ((⟨b, 0, none⟩ : Addr).add j) = some u
theorem add_block (b j : Nat) : ((⟨b, 0, none⟩ : Addr).add j).block = b := by unfold Addr.add; split <;> rfl
theorem New5.new {w w' : World} {s : Se} (h : w.alloc (.cells #[.int .i64 s.nu, .string s.wh, .string s.tx, .int .i64 s.si, .int .i64 s.ti] 38) = w') : New5 w' (.slice (some ⟨w.heap.size, 0, none⟩) 1 1) s :=
  ⟨w.heap.size, rfl, by rw [← h]; simp, by rw [← h]; exact new_cellsS w s _⟩
theorem New5.below {w w' : World} {v : Value} {s : Se} (h : New5 w v s) (hw : Below w.heap.size w w') : New5 w' v s := by
  obtain ⟨b, h1, h2, h3⟩ := h
  exact ⟨b, h1, Nat.lt_of_lt_of_le h2 hw.size, fun j u hj => (hw.cell (p := (⟨b, 0, none⟩ : Addr).add j) (by rw [add_block]; exact h2)).trans (h3 j u hj)⟩
theorem New5.gr {B : Nat} {w w' : World} {v v0 : Value} {s : Se} (h : New5 w v s) (he : Emp5 B w v0) (hg : w.grownBy w' v0.ownBlock) : New5 w' v s := by
  obtain ⟨b, h1, h2, h3⟩ := h
  obtain ⟨c, rfl, _, h5, h6⟩ := he
  have hne : b ≠ c := by
    rintro rfl
    have := h3 0 (.int .i64 s.nu) rfl
    simp [Addr.add, World.cell?, h6] at this
  have hk : some b ≠ (Value.slice (some ⟨c, 0, none⟩) 0 0).ownBlock := by
    intro e
    simp [Value.ownBlock] at e
    exact hne e
  exact ⟨b, h1, Nat.lt_of_lt_of_le h2 hg.size, fun j u hj => (World.cell?_of_block (a := (⟨b, 0, none⟩ : Addr).add j) (by rw [add_block]; exact hg.block b h2 hk)).trans (h3 j u hj)⟩
theorem New5.src {w : World} {v : Value} {s : Se} (h : New5 w v s) : Src5 w v 1 5 (Pp.cellsS s) := by
  obtain ⟨b, rfl, h2, h3⟩ := h
  exact Or.inr ⟨⟨b, 0, none⟩, 1, rfl, rfl, h3⟩
end Go.Proofs.Ytnaedemkpiagmaa
