/- Appending commits, in a region that draws its order, beside other boxes that are made there. -/
import Derived.Test.YtagdilnbbepccaaGreatJ18
import Derived.Test.YtagdilnbbepccaaGreatTRst
import Derived.Laws.OwnMore
import Derived.Deep.RegionHeld3
import Derived.Deep.RegionLaw
set_option linter.unusedSimpArgs false
set_option linter.unusedVariables false
namespace Go.Proofs.YtagdilnbbepccaaGreat
open Go.RowKit

/-- What may be appended: nil, or so many records that lie at an address. -/
def Src3 (w : World) (sx : Value) (m size : Nat) (news : List Value) : Prop := (∃ c, sx = .slice none 0 c ∧ m = 0 ∧ news = []) ∨ ∃ ad c, sx = .slice (some ad) m c ∧ news.length = m * size ∧ (∀ j u, news[j]? = some u → w.cell? (ad.add j) = some u)
theorem run_append_none_cap {P : Program} {w : World} (base : Nat) (t ty e : TypeId) (i : TypeInfo) (size c : Nat) (ht : P.underlying t = some (.slice e)) (hi : P.info? e = some i)
    (v : Value) (n : Nat) (xs : List Value) (hown : w.ownsRow base e size v n xs) :
    (Builtin.append_ #[t, t] ty #[v, .slice none 0 c]).run P w = .ok v w := by
  rcases hown.2 with ⟨rfl, rfl⟩ | ⟨g, cap, cur, rfl, _, _, hnc, _⟩
  · simp [Builtin.append_, run_underlying ht, sizeOf, typeInfo, hi, Builtin.lenOf, Builtin.firstCells]
  · simp [Builtin.append_, run_underlying ht, sizeOf, typeInfo, hi, Builtin.lenOf, Builtin.firstCells, hnc, storeCells]
theorem step_append_src {P : Program} {ops : Array Oper} {o : Oper} {a : Act} {w : World} {K : Act → World → Prop} {Q : Exit → Act → World → Prop} {E : Prop}
    (hg : o.guard = none) (s x : Operand) (t : TypeId) (hop : o.op = Op.call { callee := Callee.builtin Builtin.append, args := #[s, x], argTypes := #[t, t] })
    (base : Nat) (e : TypeId) (i : TypeInfo) (z : Value) (size bytes : Nat) (ht : P.underlying t = some (.slice e)) (hi : P.info? e = some i) (hz : i.zero = some z)
    (hsize : i.size = size) (hby : i.bytes = bytes) (hzs : z.cells.size = size) (hsz : 0 < size)
    (v : Value) (n : Nat) (xs : List Value) (hs : a.eval s = v) (hown : w.ownsRow base e size v n xs)
    (sx : Value) (m : Nat) (news : List Value) (hx : a.eval x = sx) (hsx : Src3 w sx m size news) (h1 : ∀ u ∈ news, u.oneCell' = true)
    (h63 : n + m ≤ maxLen) (hbytes : (n + m) * bytes ≤ 140737488355328) (hbase : base ≤ w.heap.size)
    (h : ∀ v' w', w'.ownsRow base e size v' (n + m) (xs ++ news) → w.grownBy w' v.ownBlock → K (a.put o.dst v') w') :
    if Region.wanted o (yielded ops a.tmps) = true then Oper.wp P o a w K Q else E := by
  have hw : Region.wanted o (yielded ops a.tmps) = true := by simp [Region.wanted, hg]
  rw [if_pos hw]
  rcases hsx with ⟨c, rfl, rfl, rfl⟩ | ⟨ad, c, rfl, hl, hnews⟩
  · have hrun := run_append_none_cap (P := P) (w := w) base t o.type e i size c ht hi v n xs hown
    unfold Oper.wp
    simp [execOp, hop, resolve, invoke, builtin, hs, hx, hrun, Result.andThen]
    exact h v w (by simpa using hown) (World.grownBy.refl _ _)
  · exact wp_append_own w s x t hop base e i z size bytes ht hi hz hsize hby hzs hsz v n xs hs hown ad m c news hx hl hnews h1 h63 hbytes hbase fun v' w' h1 h2 _ => h v' w' h1 h2
/-- A slice of commits as what is appended. -/
theorem Src3.lies {w : World} {v : Value} {R : List (List Value)} (h : LiesR 3 w v R) : Src3 w v R.length 3 R.flatten := by
  obtain ⟨a, cap, rfl, h1, h2, h4, h3⟩ := h
  cases a with
  | none =>
    cases R with
    | nil => exact Or.inl ⟨cap, rfl, rfl, rfl⟩
    | cons s r => obtain ⟨b, o, hb, _⟩ := h3 0 (by simp); cases hb
  | some ad =>
    refine Or.inr ⟨ad, cap, rfl, flatten_len (fun r hr => (h4 r hr).1), ?_⟩
    cases R with
    | nil => intro j u hj; simp at hj
    | cons s r =>
      obtain ⟨b, o, hb, _⟩ := h3 0 (by simp)
      injection hb with hb
      subst hb
      exact liesR_cells (by decide) (fun r hr => (h4 r hr).1) fun i hi => by
        obtain ⟨b', o', hb', _, he⟩ := h3 i hi
        injection hb' with hb'
        injection hb' with h5 h6
        subst h5; subst h6
        exact he
theorem add_block3 (b j : Nat) : ((⟨b, 0, none⟩ : Addr).add j).block = b := by unfold Addr.add; split <;> rfl
/-- An empty slice of one's own. -/
def EmpC (B : Nat) (w : World) (v : Value) : Prop := ∃ b, v = .slice (some ⟨b, 0, none⟩) 0 0 ∧ B ≤ b ∧ b < w.heap.size ∧ w.heap[b]? = some (.cells #[] 73)
theorem EmpC.new {B : Nat} {w w' : World} (h : w.alloc (.cells #[] 73) = w') (hB : B ≤ w.heap.size) : EmpC B w' (.slice (some ⟨w.heap.size, 0, none⟩) 0 0) :=
  ⟨w.heap.size, rfl, hB, by rw [← h]; simp, by rw [← h]; exact heap_alloc_new w _⟩
theorem EmpC.below {B : Nat} {w w' : World} {v : Value} (h : EmpC B w v) (hw : Below w.heap.size w w') : EmpC B w' v := by
  obtain ⟨b, h1, h2, h3, h4⟩ := h
  exact ⟨b, h1, h2, Nat.lt_of_lt_of_le h3 hw.size, (hw.block b h3).trans h4⟩
theorem EmpC.own {B : Nat} {w : World} {v : Value} (h : EmpC B w v) : w.ownsRow B 73 3 v 0 [] := by
  obtain ⟨b, rfl, h2, h3, h4⟩ := h
  exact ⟨rfl, .inr ⟨b, 0, #[], rfl, h2, h4, Nat.le_refl _, by unfold maxLen; omega, rfl, rfl⟩⟩
/-- One record in a slice of its own. -/
def NewC (w : World) (v : Value) (r : List Value) : Prop := ∃ b, v = .slice (some ⟨b, 0, none⟩) 1 1 ∧ b < w.heap.size ∧ w.heap[b]? = some (.cells r.toArray 73)
theorem NewC.new {w w' : World} {r : List Value} (h : w.alloc (.cells r.toArray 73) = w') : NewC w' (.slice (some ⟨w.heap.size, 0, none⟩) 1 1) r :=
  ⟨w.heap.size, rfl, by rw [← h]; simp, by rw [← h]; exact heap_alloc_new w _⟩
theorem NewC.below {w w' : World} {v : Value} {r : List Value} (h : NewC w v r) (hw : Below w.heap.size w w') : NewC w' v r := by
  obtain ⟨b, h1, h2, h3⟩ := h
  exact ⟨b, h1, Nat.lt_of_lt_of_le h2 hw.size, (hw.block b h2).trans h3⟩
theorem NewC.gr {B : Nat} {w w' : World} {v v0 : Value} {r : List Value} (h : NewC w v r) (hr : r ≠ []) (he : EmpC B w v0) (hg : w.grownBy w' v0.ownBlock) : NewC w' v r := by
  obtain ⟨b, h1, h2, h3⟩ := h
  obtain ⟨c, rfl, _, h5, h6⟩ := he
  have hne : b ≠ c := by
    rintro rfl
    rw [h6] at h3
    injection h3 with h3
    injection h3 with h3
    exact hr (by have := congrArg Array.toList h3; simpa using this.symm)
  have hk : some b ≠ (Value.slice (some ⟨c, 0, none⟩) 0 0).ownBlock := by
    intro e
    simp [Value.ownBlock] at e
    exact hne e
  exact ⟨b, h1, Nat.lt_of_lt_of_le h2 hg.size, (hg.block b h2 hk).trans h3⟩
theorem NewC.src {w : World} {v : Value} {r : List Value} (h : NewC w v r) (hl : r.length = 3) : Src3 w v 1 3 r := by
  obtain ⟨b, rfl, h2, h3⟩ := h
  refine Or.inr ⟨⟨b, 0, none⟩, 1, rfl, by omega, fun j u hj => ?_⟩
  rw [Addr.add_lit, Nat.zero_add]
  simp [World.cell?, h3, hj]
/-- A box that is new, and holds no journal yet. -/
def BoxC (B : Nat) (w : World) (b : Nat) : Prop := B ≤ b ∧ w.heap[b]? = some (.cells #[.slice none 0 0, .int .i64 0, .slice none 0 0] 25)
theorem BoxC.new {B : Nat} {w w' : World} (h : w.alloc (.cells #[.slice none 0 0, .int .i64 0, .slice none 0 0] 25) = w') (hB : B ≤ w.heap.size) : BoxC B w' w.heap.size := ⟨hB, by rw [← h]; exact heap_alloc_new w _⟩
theorem BoxC.below {B b : Nat} {w w' : World} (h : BoxC B w b) (hw : Below w.heap.size w w') : BoxC B w' b := ⟨h.1, (hw.block b (heap_lt h.2)).trans h.2⟩
theorem journal_commit : (25 : TypeId) ≠ 73 := by decide
theorem BoxC.ne {B b base n : Nat} {w : World} {v : Value} {xs : List Value} (h : BoxC B w b) (ho : w.ownsRow base 73 3 v n xs) : some b ≠ v.ownBlock := by
  obtain ⟨_, h2⟩ := ho
  rcases h2 with ⟨rfl, _⟩ | ⟨g, cap, cur, rfl, _, hg, _⟩
  · simp [Value.ownBlock]
  · intro e
    simp [Value.ownBlock] at e
    subst e
    have h3 := h.2
    rw [hg] at h3
    injection h3 with h3
    injection h3 with _ h3
    exact journal_commit h3.symm
theorem BoxC.gr {B b base n : Nat} {w w' : World} {v : Value} {xs : List Value} (h : BoxC B w b) (ho : w.ownsRow base 73 3 v n xs) (hg : w.grownBy w' v.ownBlock) : BoxC B w' b :=
  ⟨h.1, (hg.block b (heap_lt h.2) (h.ne ho)).trans h.2⟩
theorem BoxC.cs {B b : Nat} {w : World} (h : BoxC B w b) : Cs w b [.slice none 0 0, .int .i64 0, .slice none 0 0] := ⟨_, h.2⟩
end Go.Proofs.YtagdilnbbepccaaGreat
