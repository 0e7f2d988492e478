/- Rows of one's own that hold no texts: what is appended to them leaves all else that lies in memory. Rows of cells in memory, whatever they hold; and rows of one's own. append to a slice that has no room, in a region that draws its order. Worlds that grow, one behind the other. -/
import Derived.Test.YtchlgpeiombmdaaGreatMB
import Derived.Laws.OwnMore
import Derived.Deep.RegionLaw
set_option linter.unusedSimpArgs false
set_option linter.unusedVariables false
namespace Go.Proofs.YtchlgpeiombmdaaGreat
open Go.RowKit

def NoStrV (w : World) (v : Value) : Prop := ∀ g, v.ownBlock = some g → NoStr w g
theorem noStr_cells {w : World} {g : Nat} {cur : Array Value} {T : TypeId} {fz : Nat × Nat} (h : w.heap[g]? = some (.cells cur T fz)) (hn : ∀ s, Value.string s ∉ cur.toList) : NoStr w g := by
 intro o s he
 have : cur.toList[o]? = some (.string s) := by simpa [World.cell?, h] using he
 exact hn s (List.mem_of_getElem? this)
theorem noStr_of {w : World} {g : Nat} {cur : Array Value} {T : TypeId} {fz : Nat × Nat} (h : w.heap[g]? = some (.cells cur T fz)) (hn : NoStr w g) : ∀ s, Value.string s ∉ cur.toList := by
 intro s hs
 obtain ⟨o, ho⟩ := List.getElem?_of_mem hs
 exact hn o s (by simpa [World.cell?, h] using ho)
theorem NoStr.keep {w w' : World} {g : Nat} (h : NoStr w g) (hb : w'.heap[g]? = w.heap[g]?) : NoStr w' g := by
 intro o s
 rw [World.cell?_of_block (w := w) (a := ⟨g, o, none⟩) hb]
 exact h o s
theorem NoStrV.below {w w' : World} {v : Value} (h : NoStrV w v) (hl : ∀ g, v.ownBlock = some g → g < w.heap.size) (hw : Below w.heap.size w w') : NoStrV w' v := fun g hg => (h g hg).keep (hw.block g (hl g hg))
theorem noStrV_nil (w : World) : NoStrV w (.slice none 0 0) := fun g h => by simp [Value.ownBlock] at h
theorem zeros_no {z : Array Value} (hz : ∀ s, Value.string s ∉ z.toList) (n : Nat) (s : ByteArray) : Value.string s ∉ (Builtin.zeroCells z n).toList := by
 intro h
 simp only [Builtin.zeroCells] at h
 simp at h
 obtain ⟨k, hk, he⟩ := h
 have hpos : 0 < z.size := by
  rcases Nat.eq_zero_or_pos z.size with h0 | h0
  · rw [h0] at hk; simp at hk
  · exact h0
 have hlt : k % z.size < z.size := Nat.mod_lt _ hpos
 rw [getElem!_pos z _ hlt] at he
 exact hz s (by rw [← he]; simp)
theorem append_noStr {P : Program} (w : World) (base : Nat) (t ty e : TypeId) (i : TypeInfo) (z : Value) (size bytes : Nat) (ht : P.underlying t = some (.slice e)) (hi : P.info? e = some i) (hz : i.zero = some z)
    (hsize : i.size = size) (hby : i.bytes = bytes) (hzs : z.cells.size = size) (hsz : 0 < size) (v : Value) (n : Nat) (xs : List Value) (hown : w.ownsRow base e size v n xs)
    (a : Addr) (m c : Nat) (news : List Value) (hl : news.length = m * size) (hnews : ∀ j u, news[j]? = some u → w.cell? (a.add j) = some u) (h1 : ∀ u ∈ news, u.oneCell' = true)
    (h63 : n + m ≤ maxLen) (hbytes : (n + m) * bytes ≤ 140737488355328) (hm : 0 < m) (hzn : ∀ s, Value.string s ∉ z.cells.toList) (hnn : ∀ s, Value.string s ∉ news) (hvn : NoStrV w v)
    {v' : Value} {w' : World} (hr : (Builtin.append_ #[t, t] ty #[v, .slice (some a) m c]).run P w = .ok v' w') : NoStrV w' v' := by
 subst hsize
 subst hby
 have hsmall : n + m ≤ 9223372036854775807 := by simp only [maxLen] at h63; omega
 rcases hown.2 with ⟨rfl, rfl⟩ | ⟨g, cap, cur, rfl, hbg, hg, hnc, hcm, hcs, htake⟩
 · have h2 := run_append_nil (P := P) w t ty e i z ht hi hz a m c news hl hnews hm (by omega) (by have hb := hbytes; simp only [Nat.zero_add] at hb; omega)
   rw [hr] at h2
   injection h2 with h2 h3
   subst h2; subst h3
   intro g hgg
   simp only [Value.ownBlock, Option.some.injEq] at hgg
   subst hgg
   refine noStr_cells (heap_alloc_new w.drew _) ?_
   intro s hs
   rw [Array.toList_append, List.mem_append] at hs
   rcases hs with hs | hs
   · exact hnn s hs
   · exact zeros_no hzn _ s hs
 · by_cases hroom : n + m ≤ cap
   · have hfit : n * i.size + news.length ≤ cur.size := by rw [hl, hcs, ← Nat.add_mul]; exact Nat.mul_le_mul_right _ hroom
     have h2 := run_append_room (P := P) w t ty e i ht hi g n cap cur hg a m c news hl hnews h1 hroom hfit
     rw [hr] at h2
     injection h2 with h2 h3
     subst h2; subst h3
     have hno := noStr_of hg (hvn g rfl)
     intro g' hgg
     simp only [Value.ownBlock, Option.some.injEq] at hgg
     subst hgg
     refine noStr_cells (setRow_heap w g cur _ e _ hg) ?_
     intro s hs
     simp only [List.mem_append] at hs
     rcases hs with (hs | hs) | hs
     · exact hno s (List.mem_of_mem_take hs)
     · exact hnn s hs
     · exact hno s (List.mem_of_mem_drop hs)
   · have h2 := run_append_grow (P := P) w t ty e i z ht hi hz ⟨g, 0, none⟩ n cap xs hown.1 (hown.cells (g := g) rfl) a m c news hl hnews (by omega) (by omega) (growslice_fits (by omega) hbytes)
     rw [hr] at h2
     injection h2 with h2 h3
     subst h2; subst h3
     have hno := noStr_of hg (hvn g rfl)
     intro g' hgg
     simp only [Value.ownBlock, Option.some.injEq] at hgg
     subst hgg
     refine noStr_cells (heap_alloc_new w.drew _) ?_
     intro s hs
     rw [Array.toList_append, Array.toList_append, List.mem_append, List.mem_append] at hs
     rcases hs with (hs | hs) | hs
     · have : Value.string s ∈ xs := by simpa using hs
       rw [← htake] at this
       exact hno s (List.mem_of_mem_take this)
     · exact hnn s (by simpa using hs)
     · exact zeros_no hzn _ s hs
/-- The law of append, with that said too. -/
theorem wpList_append_no {P : Program} (w : World) {ops : Array Oper} {rest : List Oper} {o : Oper} {a : Act} {Q : Exit → Act → World → Prop} (hgd : o.guard = none) (s x : Operand) (t : TypeId)
    (ho : o.op = .call { callee := .builtin .append, args := #[s, x], argTypes := #[t, t] })
    (base : Nat) (e : TypeId) (i : TypeInfo) (z : Value) (size bytes : Nat) (ht : P.underlying t = some (.slice e)) (hi : P.info? e = some i) (hz : i.zero = some z)
    (hsize : i.size = size) (hby : i.bytes = bytes) (hzs : z.cells.size = size) (hsz : 0 < size)
    (v : Value) (n : Nat) (xs : List Value) (hs : a.eval s = v) (hown : w.ownsRow base e size v n xs)
    (ad : Addr) (m c : Nat) (news : List Value) (hx : a.eval x = .slice (some ad) m c) (hl : news.length = m * size) (hnews : ∀ j u, news[j]? = some u → w.cell? (ad.add j) = some u) (h1 : ∀ u ∈ news, u.oneCell' = true)
    (h63 : n + m ≤ maxLen) (hbytes : (n + m) * bytes ≤ 140737488355328) (hbase : base ≤ w.heap.size) (hm : 0 < m) (hzn : ∀ s, Value.string s ∉ z.cells.toList) (hnn : ∀ s, Value.string s ∉ news) (hvn : NoStrV w v)
    (h : ∀ v' w', w'.ownsRow base e size v' (n + m) (xs ++ news) → w.grownBy w' v.ownBlock → NoStrV w' v' → wpList P ops Q rest (a.put o.dst v') w') : wpList P ops Q (o :: rest) a w := by
 refine wpList_plain hgd fun _ hK => ?_
 obtain ⟨v', w', hr, h2, h3, h4⟩ := run_append_own (P := P) w base t o.type e i z size bytes ht hi hz hsize hby hzs hsz v n xs hown ad m c news hl hnews h1 h63 hbytes hbase
 have h5 := append_noStr (P := P) w base t o.type e i z size bytes ht hi hz hsize hby hzs hsz v n xs hown ad m c news hl hnews h1 h63 hbytes hm hzn hnn hvn hr
 unfold Oper.wp execOp
 simp only [ho, resolve, invoke, builtin, Sem.run_bind, Sem.run_pure, Result.andThen_ok, List.map_toArray, List.map_cons, List.map_nil, hs, hx, hr]
 exact hK _ _ (h v' w' h2 h3 h5)
theorem Lies.row {w w' : World} {x v : Value} {L : List En} (h : Lies w x L) (hg : w.grownBy w' v.ownBlock) (hn : NoStrV w v) : Lies w' x L := by
 cases hv : v.ownBlock with
 | none =>
  rw [hv] at hg
  exact h.below ⟨hg.os, hg.tape, hg.output, hg.size, fun k hk => hg.block k hk (by simp)⟩
 | some g =>
  rw [hv] at hg
  exact h.nb hg (hn g hv)
end Go.Proofs.YtchlgpeiombmdaaGreat
set_option linter.unusedSimpArgs false
set_option linter.unusedVariables false
namespace Go.Proofs.YtchlgpeiombmdaaGreat
open Go.RowKit

/-- A slice whose elements have these cells, n each. -/
def LiesR (n : Nat) (w : World) (v : Value) (R : List (List Value)) : Prop := ∃ a cap, v = .slice a R.length cap ∧ R.length ≤ cap ∧ R.length ≤ 1000000000000000 ∧ (∀ r ∈ R, r.length = n ∧ ∀ u ∈ r, u.oneCell' = true) ∧
 ∀ i (h : i < R.length), ∃ b o, a = some ⟨b, o, none⟩ ∧ b < w.heap.size ∧ ∀ c u, R[i][c]? = some u → w.cell? ⟨b, o + i * n + c, none⟩ = some u
/-- The caller's own: in a block from B on, that may be written. -/
def Own (B : Nat) (w : World) (v : Value) : Prop := ∀ g, v.ownBlock = some g → B ≤ g ∧ ∃ cur T, w.heap[g]? = some (.cells cur T (0, 0))
theorem own_nil (B : Nat) (w : World) : Own B w (.slice none 0 0) := fun g h => by simp [Value.ownBlock] at h
theorem Own.lt {B : Nat} {w : World} {v : Value} (h : Own B w v) : ∀ g, v.ownBlock = some g → g < w.heap.size := fun g hg => by
 obtain ⟨_, cur, T, hh⟩ := h g hg
 exact heap_lt hh
theorem Own.below {B : Nat} {w w' : World} {v : Value} (h : Own B w v) (hw : Below w.heap.size w w') : Own B w' v := fun g hg => by
 obtain ⟨h1, cur, T, hh⟩ := h g hg
 exact ⟨h1, cur, T, (hw.block g (heap_lt hh)).trans hh⟩
theorem Own.mono {B B' : Nat} {w : World} {v : Value} (h : Own B w v) (hB : B' ≤ B) : Own B' w v := fun g hg => ⟨Nat.le_trans hB (h g hg).1, (h g hg).2⟩
theorem own_row {w : World} {base : Nat} {e : TypeId} {size : Nat} {v : Value} {n : Nat} {xs : List Value} (h : w.ownsRow base e size v n xs) : Own base w v := by
 obtain ⟨_, h2⟩ := h
 rcases h2 with ⟨rfl, _⟩ | ⟨g, cap, cur, rfl, hg, hh, _⟩
 · exact own_nil _ _
 · intro g' hg'
   simp only [Value.ownBlock, Option.some.injEq] at hg'
   subst hg'
   exact ⟨hg, cur, e, hh⟩
theorem LiesR.below {n : Nat} {w w' : World} {v : Value} {R : List (List Value)} (h : LiesR n w v R) (hw : Below w.heap.size w w') : LiesR n w' v R := by
 obtain ⟨a, cap, hv, h1, h2, h4, h3⟩ := h
 refine ⟨a, cap, hv, h1, h2, h4, fun i hi => ?_⟩
 obtain ⟨b, o, ha, hb, he⟩ := h3 i hi
 exact ⟨b, o, ha, Nat.lt_of_lt_of_le hb hw.size, fun c u hu => (hw.cell (p := ⟨b, o + i * n + c, none⟩) hb).trans (he c u hu)⟩
theorem flatten_len {n : Nat} : ∀ {R : List (List Value)}, (∀ r ∈ R, r.length = n) → R.flatten.length = R.length * n
 | [], _ => by simp
 | r :: R, h => by
  rw [List.flatten_cons, List.length_append, h r (by simp), flatten_len (fun x hx => h x (by simp [hx])), List.length_cons, Nat.add_mul]
  omega
theorem flatten_at {n : Nat} : ∀ {R : List (List Value)} (i c : Nat) (h : i < R.length), (∀ r ∈ R, r.length = n) → c < n → R.flatten[i * n + c]? = R[i][c]?
 | [], i, c, h, _, _ => absurd h (Nat.not_lt_zero _)
 | r :: R, 0, c, _, hr, hc => by
  rw [List.flatten_cons, Nat.zero_mul, Nat.zero_add, List.getElem?_append_left (by rw [hr r (by simp)]; exact hc)]
  rfl
 | r :: R, i + 1, c, h, hr, hc => by
  have hl := hr r (by simp)
  rw [List.flatten_cons, List.getElem?_append_right (by rw [hl, Nat.add_mul]; omega), hl]
  have e : (i + 1) * n + c - n = i * n + c := by rw [Nat.add_mul]; omega
  rw [e, flatten_at i c (by simpa using h) (fun x hx => hr x (by simp [hx])) hc]
  rfl
theorem liesR_cells {n : Nat} (hn : 0 < n) {w : World} {b o : Nat} {R : List (List Value)} (hr : ∀ r ∈ R, r.length = n) (h : ∀ i (h : i < R.length), ∀ c u, R[i][c]? = some u → w.cell? ⟨b, o + i * n + c, none⟩ = some u) : ∀ j u, R.flatten[j]? = some u → w.cell? ((⟨b, o, none⟩ : Addr).add j) = some u := by
 intro j u hj
 have hjl : j < R.length * n := by
  have := (List.getElem?_eq_some_iff.1 hj).1
  rw [flatten_len hr] at this; exact this
 have h1 : j / n < R.length := (Nat.div_lt_iff_lt_mul hn).2 hjl
 have h2 : j / n * n + j % n = j := Nat.div_add_mod' j n
 have h3 := flatten_at (j / n) (j % n) h1 hr (Nat.mod_lt _ hn)
 rw [h2, hj] at h3
 have h4 := h _ h1 _ u h3.symm
 rw [Addr.add_lit]
 rw [Nat.add_assoc, h2] at h4
 exact h4
theorem liesR_own {n : Nat} {w : World} {base : Nat} {T : TypeId} {v : Value} {R : List (List Value)} (h : w.ownsRow base T n v R.length R.flatten) (hn : R.length ≤ 1000000000000000) (hr : ∀ r ∈ R, r.length = n ∧ ∀ u ∈ r, u.oneCell' = true) : LiesR n w v R := by
 have h' := h
 obtain ⟨_, h2⟩ := h
 rcases h2 with ⟨rfl, hz⟩ | ⟨g, cap, cur, rfl, hg, hh, hc, hm, hz, htake⟩
 · have : R = [] := List.length_eq_zero_iff.1 hz
   subst this
   exact ⟨none, 0, rfl, Nat.le_refl _, by simp, by simp, fun i hi => absurd hi (by simp)⟩
 · refine ⟨some ⟨g, 0, none⟩, cap, rfl, hc, hn, hr, fun i hi => ⟨g, 0, rfl, heap_lt hh, fun c u hu => ?_⟩⟩
   have hc' : c < n := by
    have := (List.getElem?_eq_some_iff.1 hu).1
    rw [(hr _ (List.getElem_mem hi)).1] at this
    exact this
   have hlt : i * n + c < R.length * n := by
    have h5 : (i + 1) * n ≤ R.length * n := Nat.mul_le_mul_right n hi
    rw [Nat.add_mul] at h5
    omega
   rw [Nat.zero_add, h'.cellAt (i * n + c) hlt, flatten_at i c hi (fun r hr' => (hr r hr').1) hc']
   exact hu
theorem flatten_one {n : Nat} {R : List (List Value)} (hr : ∀ r ∈ R, r.length = n ∧ ∀ u ∈ r, u.oneCell' = true) : ∀ u ∈ R.flatten, u.oneCell' = true := by
 intro u hu
 obtain ⟨r, h1, h2⟩ := List.mem_flatten.1 hu
 exact (hr r h1).2 u h2
end Go.Proofs.YtchlgpeiombmdaaGreat
set_option linter.unusedSimpArgs false
set_option linter.unusedVariables false
namespace Go.Proofs.YtchlgpeiombmdaaGreat
open Go.RowKit

theorem append_full {P : Program} (w : World) (t ty e : TypeId) (i : TypeInfo) (z : Value) (size bytes : Nat) (ht : P.underlying t = some (.slice e)) (hi : P.info? e = some i) (hz : i.zero = some z)
    (hsize : i.size = size) (hby : i.bytes = bytes) (hzs : z.cells.size = size) (hsz : 0 < size) (a : Option Addr) (R : List (List Value)) (hR : LiesR size w (.slice a R.length R.length) R)
    (ad : Addr) (c : Nat) (r : List Value) (hr : r.length = size ∧ ∀ u ∈ r, u.oneCell' = true) (hnews : ∀ j u, r[j]? = some u → w.cell? (ad.add j) = some u) (hn : R.length ≤ 1000000000) (hb : bytes ≤ 1000) :
    ∃ v' w', (Builtin.append_ #[t, t] ty #[.slice a R.length R.length, .slice (some ad) 1 c]).run P w = .ok v' w' ∧ LiesR size w' v' (R ++ [r]) ∧ Own w.heap.size w' v' ∧ Below w.heap.size w w' := by
 subst hsize
 subst hby
 obtain ⟨a', cap', hv, h1, h2, h4, h3⟩ := hR
 injection hv with e1 e2 e3
 subst e1
 have hrr : ∀ x ∈ R ++ [r], x.length = i.size ∧ ∀ u ∈ x, u.oneCell' = true := fun x hx => by
  rcases List.mem_append.1 hx with hx | hx
  · exact h4 x hx
  · rw [List.mem_singleton] at hx; rw [hx]; exact hr
 have hfl : R.flatten.length = R.length * i.size := flatten_len (fun x hx => (h4 x hx).1)
 have hmul : (R.length + 1) * i.bytes ≤ (1000000000 + 1) * 1000 := Nat.mul_le_mul (by omega) hb
 have fin : ∀ cap, R.length + 1 ≤ cap → (w.drew.alloc (.cells (R.flatten.toArray ++ r.toArray ++ Builtin.zeroCells z.cells (cap - (R.length + 1))) e)).ownsRow w.heap.size e i.size (.slice (some ⟨w.heap.size, 0, none⟩) (R.length + 1) cap) (R.length + 1) (R ++ [r]).flatten → LiesR i.size (w.drew.alloc (.cells (R.flatten.toArray ++ r.toArray ++ Builtin.zeroCells z.cells (cap - (R.length + 1))) e)) (.slice (some ⟨w.heap.size, 0, none⟩) (R.length + 1) cap) (R ++ [r]) ∧ Own w.heap.size (w.drew.alloc (.cells (R.flatten.toArray ++ r.toArray ++ Builtin.zeroCells z.cells (cap - (R.length + 1))) e)) (.slice (some ⟨w.heap.size, 0, none⟩) (R.length + 1) cap) ∧ Below w.heap.size w (w.drew.alloc (.cells (R.flatten.toArray ++ r.toArray ++ Builtin.zeroCells z.cells (cap - (R.length + 1))) e)) := fun cap hcap ho =>
  ⟨liesR_own (by simpa using ho) (by simp; omega) hrr, own_row ho, ((Below.refl _ _).drew).alloc (Nat.le_refl _) _⟩
 have own : ∀ cap, R.length + 1 ≤ cap → cap ≤ maxLen → (w.drew.alloc (.cells (R.flatten.toArray ++ r.toArray ++ Builtin.zeroCells z.cells (cap - (R.length + 1))) e)).ownsRow w.heap.size e i.size (.slice (some ⟨w.heap.size, 0, none⟩) (R.length + 1) cap) (R.length + 1) (R ++ [r]).flatten := fun cap hcap hcm => by
  have hl : (R ++ [r]).flatten.length = (R.length + 1) * i.size := by
   rw [flatten_len (fun x hx => (hrr x hx).1)]; simp
  refine ⟨hl, .inr ⟨w.heap.size, _, _, rfl, Nat.le_refl _, heap_alloc_new w.drew _, hcap, hcm, ?_, ?_⟩⟩
  · simp only [Array.size_append, List.size_toArray, size_zeroCells, hzs, hfl, hr.1]
    have : R.length * i.size + i.size + (cap - (R.length + 1)) * i.size = (R.length + 1 + (cap - (R.length + 1))) * i.size := by
     rw [Nat.add_mul, Nat.add_mul]; omega
    rw [this]
    congr 1
    omega
  · simp only [Array.toList_append, List.append_assoc]
    rw [← hl]
    have e : R.flatten.toArray.toList ++ (r.toArray.toList ++ (Builtin.zeroCells z.cells (cap - (R.length + 1))).toList) = (R ++ [r]).flatten ++ (Builtin.zeroCells z.cells (cap - (R.length + 1))).toList := by simp
    rw [e]
    exact List.take_left
 have hml : R.length + 1 ≤ maxLen := by unfold maxLen; omega
 cases a with
 | none =>
  have hR0 : R = [] := by
   cases R with
   | nil => rfl
   | cons s r => obtain ⟨b, o, hb, _⟩ := h3 0 (by simp); cases hb
  subst hR0
  have hr2 := run_append_nil (P := P) w t ty e i z ht hi hz ad 1 c r (by rw [hr.1, Nat.one_mul]) hnews (by decide) (by decide) (by simp at hmul ⊢; omega)
  have hg := own (grownCap w 1 0 e) (grownCap_ge w 1 0 e) (grownCap_le_maxLen w 1 0 e hml)
  have hf := fin (grownCap w 1 0 e) (grownCap_ge w 1 0 e) hg
  refine ⟨_, _, hr2, ?_⟩
  simpa using hf
 | some b0 =>
  have holds : ∀ j u, R.flatten[j]? = some u → w.cell? (b0.add j) = some u := by
   cases R with
   | nil => intro j u hj; simp at hj
   | cons s r =>
    obtain ⟨b, o, hb, _⟩ := h3 0 (by simp)
    injection hb with hb
    subst hb
    exact liesR_cells hsz (fun r hr => (h4 r hr).1) fun i hi => by
     obtain ⟨b', o', hb', _, he⟩ := h3 i hi
     injection hb' with hb'
     injection hb' with h1 h2
     subst h1; subst h2
     exact he
  have hr2 := run_append_grow (P := P) w t ty e i z ht hi hz b0 R.length R.length R.flatten hfl holds ad 1 c r (by rw [hr.1, Nat.one_mul]) hnews (by omega) (by omega) (growslice_fits (by omega) (by omega))
  have hg := own (grownCap w (R.length + 1) R.length e) (grownCap_ge w _ _ e) (grownCap_le_maxLen w _ _ e hml)
  exact ⟨_, _, hr2, fin _ (grownCap_ge w _ _ e) hg⟩
/-- The same as one step of a region that draws. -/
theorem step_append_full {P : Program} {ops : Array Oper} {o : Oper} {a : Act} {w : World} {K : Act → World → Prop} {Q : Exit → Act → World → Prop} {E : Prop}
    (hg : o.guard = none) (s x : Operand) (t : TypeId) (hop : o.op = Op.call { callee := Callee.builtin Builtin.append, args := #[s, x], argTypes := #[t, t] })
    (e : TypeId) (i : TypeInfo) (z : Value) (size bytes : Nat) (ht : P.underlying t = some (.slice e)) (hi : P.info? e = some i) (hz : i.zero = some z)
    (hsize : i.size = size) (hby : i.bytes = bytes) (hzs : z.cells.size = size) (hsz : 0 < size) (ao : Option Addr) (R : List (List Value)) (n : Nat) (hRn : R.length = n) (hs : a.eval s = .slice ao n n) (hR : LiesR size w (.slice ao n n) R)
    (ad : Addr) (c : Nat) (hx : a.eval x = .slice (some ad) 1 c) (r : List Value) (hr : r.length = size ∧ ∀ u ∈ r, u.oneCell' = true) (hnews : ∀ j u, r[j]? = some u → w.cell? (ad.add j) = some u) (hn : R.length ≤ 1000000000) (hb : bytes ≤ 1000)
    (hK : ∀ v' w', LiesR size w' v' (R ++ [r]) ∧ Own w.heap.size w' v' ∧ Below w.heap.size w w' → K (a.put o.dst v') w') :
    if Region.wanted o (yielded ops a.tmps) = true then Oper.wp P o a w K Q else E := by
 have hw : Region.wanted o (yielded ops a.tmps) = true := by simp [Region.wanted, hg]
 rw [if_pos hw]
 subst hRn
 obtain ⟨v', w', hrun, h1⟩ := append_full (P := P) w t o.type e i z size bytes ht hi hz hsize hby hzs hsz ao R hR ad c r hr hnews hn hb
 unfold Oper.wp
 simp [execOp, hop, resolve, invoke, builtin, hs, hx, hrun, Result.andThen]
 exact hK _ _ h1
theorem LiesR.clip {n : Nat} {w : World} {a : Option Addr} {k cap : Nat} {R : List (List Value)} (h : LiesR n w (.slice a k cap) R) : LiesR n w (.slice a k k) R := by
 obtain ⟨a', cap', hv, h1, h2, h3⟩ := h
 injection hv with e1 e2 e3
 subst e1
 exact ⟨a, k, by rw [e2], by omega, h2, h3⟩
end Go.Proofs.YtchlgpeiombmdaaGreat
set_option linter.unusedSimpArgs false
set_option linter.unusedVariables false
namespace Go.Proofs.YtchlgpeiombmdaaGreat
open Go.RowKit
theorem below_tr {w w1 w2 : World} (h1 : Below w.heap.size w w1) (h2 : Below w1.heap.size w1 w2) : Below w.heap.size w w2 := h1.trans (h2.mono h1.size)
end Go.Proofs.YtchlgpeiombmdaaGreat
