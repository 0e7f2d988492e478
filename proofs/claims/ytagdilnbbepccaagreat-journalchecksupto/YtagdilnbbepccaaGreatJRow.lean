/- Rows of one's own that hold no texts: what is appended to them leaves all else that lies in memory. -/
import Derived.Test.YtagdilnbbepccaaGreatMB
import Derived.Laws.OwnMore
set_option linter.unusedSimpArgs false
set_option linter.unusedVariables false
namespace Go.Proofs.YtagdilnbbepccaaGreat
open Go.RowKit

def NoStrV (w : World) (v : Value) : Prop := ∀ g, v.ownBlock = some g → NoStr w g
theorem noStr_cells {w : World} {g : Nat} {cur : Array Value} {T : TypeId} {fz : Nat × Nat} (h : w.heap[g]? = some (.cells cur T fz)) (hn : ∀ s, Value.string s ∉ cur.toList) : NoStr w g := by
  intro o s he
  have : cur.toList[o]? = some (.string s) := by simpa [World.cell?, h] using he
  exact hn s (List.mem_of_getElem? this)
theorem noStr_of {w : World} {g : Nat} {cur : Array Value} {T : TypeId} {fz : Nat × Nat} (h : w.heap[g]? = some (.cells cur T fz)) (hn : NoStr w g) : ∀ s, Value.string s ∉ cur.toList := by
  intro s hs
  obtain ⟨o, ho⟩ := List.getElem?_of_mem hs
  exact hn o s (by simpa [World.cell?, h] using ho)
theorem NoStr.keep {w w' : World} {g : Nat} (h : NoStr w g) (hb : w'.heap[g]? = w.heap[g]?) : NoStr w' g := by
  intro o s
  rw [World.cell?_of_block (w := w) (a := ⟨g, o, none⟩) hb]
  exact h o s
theorem NoStrV.below {w w' : World} {v : Value} (h : NoStrV w v) (hl : ∀ g, v.ownBlock = some g → g < w.heap.size) (hw : Below w.heap.size w w') : NoStrV w' v := fun g hg => (h g hg).keep (hw.block g (hl g hg))
theorem noStrV_nil (w : World) : NoStrV w (.slice none 0 0) := fun g h => by simp [Value.ownBlock] at h
theorem zeros_no {z : Array Value} (hz : ∀ s, Value.string s ∉ z.toList) (n : Nat) (s : ByteArray) : Value.string s ∉ (Builtin.zeroCells z n).toList := by
  intro h
  simp only [Builtin.zeroCells] at h
  simp at h
  obtain ⟨k, hk, he⟩ := h
  have hpos : 0 < z.size := by
    rcases Nat.eq_zero_or_pos z.size with h0 | h0
    · rw [h0] at hk; simp at hk
    · exact h0
  have hlt : k % z.size < z.size := Nat.mod_lt _ hpos
  rw [getElem!_pos z _ hlt] at he
  exact hz s (by rw [← he]; simp)
theorem append_noStr {P : Program} (w : World) (base : Nat) (t ty e : TypeId) (i : TypeInfo) (z : Value) (size bytes : Nat) (ht : P.underlying t = some (.slice e)) (hi : P.info? e = some i) (hz : i.zero = some z)
    (hsize : i.size = size) (hby : i.bytes = bytes) (hzs : z.cells.size = size) (hsz : 0 < size) (v : Value) (n : Nat) (xs : List Value) (hown : w.ownsRow base e size v n xs)
    (a : Addr) (m c : Nat) (news : List Value) (hl : news.length = m * size) (hnews : ∀ j u, news[j]? = some u → w.cell? (a.add j) = some u) (h1 : ∀ u ∈ news, u.oneCell' = true)
    (h63 : n + m ≤ maxLen) (hbytes : (n + m) * bytes ≤ 140737488355328) (hm : 0 < m) (hzn : ∀ s, Value.string s ∉ z.cells.toList) (hnn : ∀ s, Value.string s ∉ news) (hvn : NoStrV w v)
    {v' : Value} {w' : World} (hr : (Builtin.append_ #[t, t] ty #[v, .slice (some a) m c]).run P w = .ok v' w') : NoStrV w' v' := by
  subst hsize
  subst hby
  have hsmall : n + m ≤ 9223372036854775807 := by simp only [maxLen] at h63; omega
  rcases hown.2 with ⟨rfl, rfl⟩ | ⟨g, cap, cur, rfl, hbg, hg, hnc, hcm, hcs, htake⟩
  · have h2 := run_append_nil (P := P) w t ty e i z ht hi hz a m c news hl hnews hm (by omega) (by have hb := hbytes; simp only [Nat.zero_add] at hb; omega)
    rw [hr] at h2
    injection h2 with h2 h3
    subst h2; subst h3
    intro g hgg
    simp only [Value.ownBlock, Option.some.injEq] at hgg
    subst hgg
    refine noStr_cells (heap_alloc_new w.drew _) ?_
    intro s hs
    rw [Array.toList_append, List.mem_append] at hs
    rcases hs with hs | hs
    · exact hnn s hs
    · exact zeros_no hzn _ s hs
  · by_cases hroom : n + m ≤ cap
    · have hfit : n * i.size + news.length ≤ cur.size := by rw [hl, hcs, ← Nat.add_mul]; exact Nat.mul_le_mul_right _ hroom
      have h2 := run_append_room (P := P) w t ty e i ht hi g n cap cur hg a m c news hl hnews h1 hroom hfit
      rw [hr] at h2
      injection h2 with h2 h3
      subst h2; subst h3
      have hno := noStr_of hg (hvn g rfl)
      intro g' hgg
      simp only [Value.ownBlock, Option.some.injEq] at hgg
      subst hgg
      refine noStr_cells (setRow_heap w g cur _ e _ hg) ?_
      intro s hs
      simp only [List.mem_append] at hs
      rcases hs with (hs | hs) | hs
      · exact hno s (List.mem_of_mem_take hs)
      · exact hnn s hs
      · exact hno s (List.mem_of_mem_drop hs)
    · have h2 := run_append_grow (P := P) w t ty e i z ht hi hz ⟨g, 0, none⟩ n cap xs hown.1 (hown.cells (g := g) rfl) a m c news hl hnews (by omega) (by omega) (growslice_fits (by omega) hbytes)
      rw [hr] at h2
      injection h2 with h2 h3
      subst h2; subst h3
      have hno := noStr_of hg (hvn g rfl)
      intro g' hgg
      simp only [Value.ownBlock, Option.some.injEq] at hgg
      subst hgg
      refine noStr_cells (heap_alloc_new w.drew _) ?_
      intro s hs
      rw [Array.toList_append, Array.toList_append, List.mem_append, List.mem_append] at hs
      rcases hs with (hs | hs) | hs
      · have : Value.string s ∈ xs := by simpa using hs
        rw [← htake] at this
        exact hno s (List.mem_of_mem_take this)
      · exact hnn s (by simpa using hs)
      · exact zeros_no hzn _ s hs

/-- The law of append, with that said too. -/
theorem wpList_append_no {P : Program} (w : World) {ops : Array Oper} {rest : List Oper} {o : Oper} {a : Act} {Q : Exit → Act → World → Prop} (hgd : o.guard = none) (s x : Operand) (t : TypeId)
    (ho : o.op = .call { callee := .builtin .append, args := #[s, x], argTypes := #[t, t] })
    (base : Nat) (e : TypeId) (i : TypeInfo) (z : Value) (size bytes : Nat) (ht : P.underlying t = some (.slice e)) (hi : P.info? e = some i) (hz : i.zero = some z)
    (hsize : i.size = size) (hby : i.bytes = bytes) (hzs : z.cells.size = size) (hsz : 0 < size)
    (v : Value) (n : Nat) (xs : List Value) (hs : a.eval s = v) (hown : w.ownsRow base e size v n xs)
    (ad : Addr) (m c : Nat) (news : List Value) (hx : a.eval x = .slice (some ad) m c) (hl : news.length = m * size) (hnews : ∀ j u, news[j]? = some u → w.cell? (ad.add j) = some u) (h1 : ∀ u ∈ news, u.oneCell' = true)
    (h63 : n + m ≤ maxLen) (hbytes : (n + m) * bytes ≤ 140737488355328) (hbase : base ≤ w.heap.size) (hm : 0 < m) (hzn : ∀ s, Value.string s ∉ z.cells.toList) (hnn : ∀ s, Value.string s ∉ news) (hvn : NoStrV w v)
    (h : ∀ v' w', w'.ownsRow base e size v' (n + m) (xs ++ news) → w.grownBy w' v.ownBlock → NoStrV w' v' → wpList P ops Q rest (a.put o.dst v') w') : wpList P ops Q (o :: rest) a w := by
  refine wpList_plain hgd fun _ hK => ?_
  obtain ⟨v', w', hr, h2, h3, h4⟩ := run_append_own (P := P) w base t o.type e i z size bytes ht hi hz hsize hby hzs hsz v n xs hown ad m c news hl hnews h1 h63 hbytes hbase
  have h5 := append_noStr (P := P) w base t o.type e i z size bytes ht hi hz hsize hby hzs hsz v n xs hown ad m c news hl hnews h1 h63 hbytes hm hzn hnn hvn hr
  unfold Oper.wp execOp
  simp only [ho, resolve, invoke, builtin, Sem.run_bind, Sem.run_pure, Result.andThen_ok, List.map_toArray, List.map_cons, List.map_nil, hs, hx, hr]
  exact hK _ _ (h v' w' h2 h3 h5)
theorem Lies.row {w w' : World} {x v : Value} {L : List En} (h : Lies w x L) (hg : w.grownBy w' v.ownBlock) (hn : NoStrV w v) : Lies w' x L := by
  cases hv : v.ownBlock with
  | none =>
    rw [hv] at hg
    exact h.below ⟨hg.os, hg.tape, hg.output, hg.size, fun k hk => hg.block k hk (by simp)⟩
  | some g =>
    rw [hv] at hg
    exact h.nb hg (hn g hv)
end Go.Proofs.YtagdilnbbepccaaGreat
