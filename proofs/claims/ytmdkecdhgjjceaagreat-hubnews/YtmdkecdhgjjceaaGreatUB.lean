/- Rows of sessions that are written in place; what slices.IndexFunc and slices.DeleteFunc answer of them. What slices.IndexFunc and slices.DeleteFunc answer of rows of sessions. What slices.DeleteFunc answers of a row of sessions. What upload.going answers, for every uploads, time and names. -/
import Derived.Test.YtmdkecdhgjjceaaGreatUA
import Derived.Lib.SliceRun
set_option linter.unusedSimpArgs false
set_option linter.unusedVariables false
namespace Go.Proofs.YtmdkecdhgjjceaaGreat
open Go.RowKit

/-- A function value that answers a predicate, in every world that has grown, or was written in one block since. -/
def TellsS (w : World) (q : Nat) (g : Nat) (cb : Array Value) (pr : Se → Bool) : Prop :=
  (∀ args w, (callFunc g args).run Tryz.prog w = .ok (.enter g args) w) ∧ ∀ W, w.grownBy W (some q) → ∀ s : Se, Calls Tryz.prog g (#[.agg #[.int .i64 s.nu, .string s.wh, .string s.tx, .int .i64 s.si, .int .i64 s.ti]] ++ cb) W fun e w' => e = .returned (.bool (pr s)) ∧ Below W.heap.size W w'

namespace Nb
theorem refl (w : World) (g : Nat) : w.grownBy w (some g) := ⟨rfl, rfl, rfl, Nat.le_refl _, fun _ _ _ => rfl⟩
theorem trans {a b c : World} {g : Nat} (h : a.grownBy b (some g)) (k : b.grownBy c (some g)) : a.grownBy c (some g) :=
  ⟨k.os.trans h.os, k.tape.trans h.tape, k.output.trans h.output, Nat.le_trans h.size k.size, fun q hq hne => (k.block q (Nat.lt_of_lt_of_le hq h.size) hne).trans (h.block q hq hne)⟩
theorem below {a b : World} (g : Nat) (h : Below a.heap.size a b) : a.grownBy b (some g) :=
  ⟨h.os, h.tape, h.output, h.size, fun q hq _ => h.block q hq⟩
theorem «to» {B : Nat} {w w' : World} {g : Nat} (h : w.grownBy w' (some g)) (hB : B ≤ w.heap.size) (hg : B ≤ g) : Below B w w' :=
  ⟨h.os, h.tape, h.output, h.size, fun k hk => h.block k (Nat.lt_of_lt_of_le hk hB) (fun e => by injection e with e; omega)⟩
theorem cell {w w' : World} {g : Nat} (h : w.grownBy w' (some g)) {p : Addr} (hp : p.block < w.heap.size) (hg : p.block ≠ g) : w'.cell? p = w.cell? p :=
  World.cell?_of_block (w := w) (h.block p.block hp (fun e => hg (by injection e)))
theorem frozen {w w' : World} {g : Nat} (h : w.grownBy w' (some g)) {p : Addr} (hp : p.block < w.heap.size) (hg : p.block ≠ g) : w'.frozen? p = w.frozen? p :=
  World.frozen?_of_block (w := w) (h.block p.block hp (fun e => hg (by injection e)))
theorem setCell (w : World) (g o : Nat) (v : Value) : w.grownBy (w.setCell ⟨g, o, none⟩ v) (some g) := by
  exact ⟨rfl, rfl, rfl, by simp, fun k _ hne => Below.heap_setCell w _ v k (fun e => hne (by rw [e]))⟩
theorem setCells (g : Nat) : ∀ (vs : List Value) (o : Nat) (w : World), w.grownBy (w.setCells g o vs) (some g)
  | [], _, w => refl w g
  | v :: r, o, w => trans (setCell w g o v) (setCells g r (o + 1) (w.setCell ⟨g, o, none⟩ v))
end Nb

/-- A block that is the program's own, of so many cells. -/
def Blk (W : World) (g : Nat) (T : TypeId) (n : Nat) : Prop := ∃ cur, W.heap[g]? = some (.cells cur T (0, 0)) ∧ cur.size = n
def KeepB (g : Nat) (w W : World) : Prop := ∀ T n, Blk w g T n → Blk W g T n
theorem Blk.lt {W : World} {g n : Nat} {T : TypeId} (h : Blk W g T n) : g < W.heap.size := by
  obtain ⟨cur, hh, _⟩ := h
  rcases Nat.lt_or_ge g W.heap.size with h | h
  · exact h
  · rw [Array.getElem?_eq_none h] at hh; cases hh
theorem Blk.below {W W' : World} {g n : Nat} {T : TypeId} (h : Blk W g T n) (hw : Below W.heap.size W W') : Blk W' g T n := by
  have hlt := h.lt
  obtain ⟨cur, hh, hs⟩ := h
  exact ⟨cur, (hw.block g hlt).trans hh, hs⟩
theorem Blk.nb {W W' : World} {g b n : Nat} {T : TypeId} (h : Blk W g T n) (hw : W.grownBy W' (some b)) (hne : g ≠ b) : Blk W' g T n := by
  have hlt := h.lt
  obtain ⟨cur, hh, hs⟩ := h
  exact ⟨cur, (hw.block g hlt (fun e => hne (by injection e))).trans hh, hs⟩
theorem KeepB.refl (g : Nat) (w : World) : KeepB g w w := fun _ _ h => h
theorem KeepB.trans {g : Nat} {a b c : World} (h : KeepB g a b) (k : KeepB g b c) : KeepB g a c := fun T n x => k T n (h T n x)
theorem KeepB.below {g : Nat} {a b : World} (h : Below a.heap.size a b) : KeepB g a b := fun _ _ x => x.below h
theorem KeepB.setCell (g o : Nat) (v : Value) (w : World) : KeepB g w (w.setCell ⟨g, o, none⟩ v) := by
  intro T n h
  obtain ⟨cur, hh, hs⟩ := h
  refine ⟨cur.setIfInBounds o v, ?_, by simpa using hs⟩
  unfold World.setCell
  simp only [Array.getElem?_modify, hh, if_true, Option.map_some]
  rfl
theorem KeepB.setCells (g : Nat) : ∀ (vs : List Value) (o : Nat) (w : World), KeepB g w (w.setCells g o vs)
  | [], _, w => KeepB.refl g w
  | v :: r, o, w => (KeepB.setCell g o v w).trans (KeepB.setCells g r (o + 1) (w.setCell ⟨g, o, none⟩ v))

namespace Pp
def cellsS (s : Se) : List Value := [.int .i64 s.nu, .string s.wh, .string s.tx, .int .i64 s.si, .int .i64 s.ti]
def flatS (G : List Se) : List Value := G.flatMap cellsS
theorem cellsS_one (s : Se) : ∀ u ∈ cellsS s, u.oneCell' = true := by
  intro u hu
  simp only [cellsS, List.mem_cons, List.not_mem_nil, or_false] at hu
  rcases hu with rfl | rfl | rfl | rfl | rfl <;> rfl
theorem flatS_get : ∀ (L : List Se) (i c : Nat) (h : i < L.length), c < 5 → (flatS L)[i * 5 + c]? = (cellsS L[i])[c]?
  | [], i, c, h, _ => absurd h (Nat.not_lt_zero _)
  | a :: r, 0, c, _, hc => by
    rw [flatS, List.flatMap_cons, Nat.zero_mul, Nat.zero_add, List.getElem?_append_left (by simpa [cellsS] using hc)]
    rfl
  | a :: r, i + 1, c, h, hc => by
    have ih := flatS_get r i c (by simpa using h) hc
    rw [flatS, List.flatMap_cons, List.getElem?_append_right (by simp [cellsS]; omega)]
    rw [show (cellsS a).length = 5 from rfl, show (i + 1) * 5 + c - 5 = i * 5 + c from by omega]
    exact ih
theorem flatS_len (L : List Se) : (flatS L).length = L.length * 5 := by
  induction L with
  | nil => rfl
  | cons a r ih => rw [flatS, List.flatMap_cons, List.length_append]; rw [show (List.flatMap cellsS r) = flatS r from rfl, ih]; simp [cellsS]; omega
theorem flatS_snoc (L : List Se) (e : Se) : flatS L ++ cellsS e = flatS (L ++ [e]) := by simp [flatS]
end Pp

/-- A row of sessions at a block's beginning, that may be written. -/
def RowS (w : World) (g : Nat) (d : List Se) : Prop := g < w.heap.size ∧ ∀ i (h : i < d.length), ∀ c, c < 5 → w.cell? ⟨g, i * 5 + c, none⟩ = (Pp.cellsS d[i])[c]? ∧ w.frozen? ⟨g, i * 5 + c, none⟩ = false
theorem RowS.at {w : World} {g : Nat} {d : List Se} (h : RowS w g d) {i : Nat} (hi : i < d.length) : SeAt w g (i * 5) d[i] :=
  ⟨by have := (h.2 i hi 0 (by decide)).1; simpa [Pp.cellsS] using this, by have := (h.2 i hi 1 (by decide)).1; simpa [Pp.cellsS] using this, by have := (h.2 i hi 2 (by decide)).1; simpa [Pp.cellsS] using this, by have := (h.2 i hi 3 (by decide)).1; simpa [Pp.cellsS] using this, by have := (h.2 i hi 4 (by decide)).1; simpa [Pp.cellsS] using this⟩
theorem RowS.below {w w' : World} {g : Nat} {d : List Se} (h : RowS w g d) (hw : Below w.heap.size w w') : RowS w' g d :=
  ⟨Nat.lt_of_lt_of_le h.1 hw.size, fun i hi c hc => ⟨(hw.cell (p := ⟨g, i * 5 + c, none⟩) h.1).trans (h.2 i hi c hc).1, (hw.frozen (p := ⟨g, i * 5 + c, none⟩) h.1).trans (h.2 i hi c hc).2⟩⟩
theorem RowS.lies {w : World} {g cap : Nat} {d : List Se} (h : RowS w g d) (hc : d.length ≤ cap) (hn : d.length ≤ 1000000000000000) : LiesS w (.slice (some ⟨g, 0, none⟩) d.length cap) d :=
  ⟨_, cap, rfl, hc, hn, fun i hi => ⟨g, 0, rfl, h.1, by rw [Nat.zero_add]; exact h.at hi⟩⟩
theorem RowS.take {w : World} {g : Nat} {d : List Se} (h : RowS w g d) (k : Nat) : RowS w g (d.take k) :=
  ⟨h.1, fun i hi c hc => by
    have hi' : i < d.length := by rw [List.length_take] at hi; omega
    have := h.2 i hi' c hc
    rw [List.getElem_take]; exact this⟩
theorem rowS_own {w : World} {base : Nat} {T : TypeId} {g n cap : Nat} {d : List Se} (h : w.ownsRow base T 5 (.slice (some ⟨g, 0, none⟩) n cap) n (Pp.flatS d)) (hn : n = d.length) : RowS w g d := by
  subst hn
  have hlt := (h.lt g rfl).2
  refine ⟨hlt, fun i hi c hc => ⟨?_, h.frozenAt _⟩⟩
  have hz : i * 5 + c < d.length * 5 := by omega
  rw [h.cellAt (i * 5 + c) hz]
  exact Pp.flatS_get d i c hi hc
theorem own_rowS {w : World} {base g cap : Nat} {T : TypeId} {d : List Se} (h : RowS w g d) (hB : Blk w g T (cap * 5)) (hc : d.length ≤ cap) (hm : cap ≤ maxLen) (hb : base ≤ g) : w.ownsRow base T 5 (.slice (some ⟨g, 0, none⟩) d.length cap) d.length (Pp.flatS d) := by
  obtain ⟨cur, hh, hs⟩ := hB
  refine ⟨Pp.flatS_len d, Or.inr ⟨g, cap, cur, rfl, hb, hh, hc, hm, hs, ?_⟩⟩
  apply List.ext_getElem?
  intro t
  by_cases ht : t < d.length * 5
  · have h1 : t / 5 < d.length := by omega
    have h2 : t / 5 * 5 + t % 5 = t := by omega
    have h3 := (h.2 (t / 5) h1 (t % 5) (by omega)).1
    rw [h2] at h3
    have h4 := Pp.flatS_get d (t / 5) (t % 5) h1 (by omega)
    rw [h2] at h4
    rw [h4, ← h3, List.getElem?_take_of_lt ht]
    simp [World.cell?, hh]
  · rw [List.getElem?_eq_none (by rw [List.length_take]; omega), List.getElem?_eq_none (by rw [Pp.flatS_len]; omega)]
theorem RowS.stores {w : World} {g : Nat} {d : List Se} (h : RowS w g d) {i : Nat} (hi : i < d.length) (s : Se) :
    (storeCells ⟨g, i * 5, none⟩ (Pp.cellsS s) 0).run Tryz.prog w = .ok () (w.setCells g (i * 5) (Pp.cellsS s)) := by
  have := run_storeCells_cells (P := Tryz.prog) g (i * 5) (Pp.cellsS s) 0 w (fun j hj => by
    have hj' : j < 5 := hj
    rw [Nat.add_zero, (h.2 i hi j hj').1]
    match j, hj' with
    | 0, _ => rfl
    | 1, _ => rfl
    | 2, _ => rfl
    | 3, _ => rfl
    | 4, _ => rfl) (fun j hj => by rw [Nat.add_zero]; exact (h.2 i hi j hj).2) (Pp.cellsS_one s)
  simpa using this
theorem RowS.set {w : World} {g : Nat} {d : List Se} (h : RowS w g d) {i : Nat} (hi : i < d.length) (s : Se) : RowS (w.setCells g (i * 5) (Pp.cellsS s)) g (d.set i s) := by
  refine ⟨Nat.lt_of_lt_of_le h.1 (Nb.setCells g _ _ w).size, fun j hj c hc => ⟨?_, ?_⟩⟩
  · have hj' : j < d.length := by simpa using hj
    by_cases e : j = i
    · subst e
      have := World.cell?_setCells_in g (Pp.cellsS s) (j * 5) w (fun c' hc' => by
        have hc'' : c' < 5 := hc'
        rw [(h.2 j hi c' hc'').1]
        match c', hc'' with
        | 0, _ => rfl
        | 1, _ => rfl
        | 2, _ => rfl
        | 3, _ => rfl
        | 4, _ => rfl) c hc
      rw [this]
      simp only [List.getElem_set_self]
      exact (List.getElem?_eq_getElem (show c < (Pp.cellsS s).length from hc)).symm
    · rw [World.cell?_setCells_out g _ _ _ _ (fun _ _ => by simp only [show (Pp.cellsS s).length = 5 from rfl]; omega), (h.2 j hj' c hc).1]
      rw [List.getElem_set_ne (fun e' => e e'.symm)]
  · rw [World.frozen?_setCells]; exact (h.2 j (by simpa using hj) c hc).2
end Go.Proofs.YtmdkecdhgjjceaaGreat
set_option linter.unusedSimpArgs false
set_option linter.unusedVariables false
namespace Go.Proofs.YtmdkecdhgjjceaaGreat
open Go.RowKit

namespace Pp
/-- The place of the first session of which a predicate holds; -1: of none. -/
def idS (G : List Se) (pr : Se → Bool) : Int := match G.findIdx? pr with
  | some i => (i : Int)
  | none => -1
theorem idS_hit {G : List Se} {pr : Se → Bool} {k : Nat} (hlt : k < G.length) (h : ∀ j (h : j < G.length), j < k → pr G[j] = false) (hp : pr G[k] = true) : (k : Int) = idS G pr := by
  have : G.findIdx? pr = some k := List.findIdx?_eq_some_iff_getElem.2 ⟨hlt, hp, fun j hj => by rw [h j (by omega) hj]; simp⟩
  rw [idS, this]
theorem idS_miss {G : List Se} {pr : Se → Bool} (h : ∀ j (h : j < G.length), pr G[j] = false) : -1 = idS G pr := by
  have : G.findIdx? pr = none := List.findIdx?_eq_none_iff.2 fun x hx => by
    obtain ⟨j, hj, rfl⟩ := List.getElem_of_mem hx
    exact h j hj
  rw [idS, this]
theorem idS_cases (G : List Se) (pr : Se → Bool) : (idS G pr = -1 ∧ ∀ x ∈ G, pr x = false) ∨ ∃ k, ∃ h : k < G.length, idS G pr = (k : Int) ∧ pr G[k] = true ∧ ∀ j (hj : j < G.length), j < k → pr G[j] = false := by
  cases hf : G.findIdx? pr with
  | none =>
    have hn := List.findIdx?_eq_none_iff.1 hf
    exact Or.inl ⟨by rw [idS, hf], fun x hx => by simpa using hn x hx⟩
  | some k =>
    obtain ⟨hlt, hp, hmin⟩ := List.findIdx?_eq_some_iff_getElem.1 hf
    exact Or.inr ⟨k, hlt, by rw [idS, hf], hp, fun j hj hjk => by have := hmin j hjk; simpa using this⟩
/-- What is left where j sessions were looked at. -/
def lf (pr : Se → Bool) (L : List Se) (j : Nat) : List Se := (L.take j).filter fun x => !pr x
theorem lf_keep {pr : Se → Bool} {L : List Se} {j : Nat} (h : j < L.length) (hp : pr L[j] = false) : lf pr L (j + 1) = lf pr L j ++ [L[j]] := by
  rw [lf, lf, List.take_succ_eq_append_getElem h, List.filter_append]; simp [hp]
theorem lf_skip {pr : Se → Bool} {L : List Se} {j : Nat} (h : j < L.length) (hp : pr L[j] = true) : lf pr L (j + 1) = lf pr L j := by
  rw [lf, lf, List.take_succ_eq_append_getElem h, List.filter_append]; simp [hp]
theorem lf_all {pr : Se → Bool} {L : List Se} {k : Nat} (hk : k ≤ L.length) (h : ∀ j (hj : j < L.length), j < k → pr L[j] = false) : lf pr L k = L.take k := by
  rw [lf, List.filter_eq_self]
  intro x hx
  obtain ⟨j, hj, rfl⟩ := List.getElem_of_mem hx
  rw [List.length_take] at hj
  rw [List.getElem_take, h j (by omega) (by omega)]; rfl
theorem lf_len (pr : Se → Bool) (L : List Se) (j : Nat) : (lf pr L j).length ≤ j := by
  have h1 := List.length_filter_le (fun x => !pr x) (L.take j)
  have h2 := List.length_take_le j L
  rw [lf]; omega
end Pp

set_option maxHeartbeats 1000000 in
theorem sindexFunc_any (G : List Se) (v : Value) (q g : Nat) (cb : Array Value) (pr : Se → Bool) (w : World) (hv : LiesS w v G) (hg : TellsS w q g cb pr) :
    Calls Tryz.prog 166 #[v, .func (.func g) #[] cb] w fun e w' => e = .returned (.int .i64 (Pp.idS G pr)) ∧ Below w.heap.size w w' := by
  obtain ⟨a, cap, rfl, hcap, hcap2, hLL⟩ := hv
  have HL : Hid (∀ i (h : i < G.length), ∃ b o, a = some ⟨b, o, none⟩ ∧ b < w.heap.size ∧ SeAt w b (o + i * 5) G[i]) := hLL
  have HG := ghid hg
  have eg := hg.1
  clear hLL hg
  go_enter Tryz.func166, Tryz.ntmps166
  go_wp2_with fail
  go_loopw [8] (fun i wr => ∃ k : Nat, k ≤ G.length ∧ i = .int .i64 k ∧ Hid (∀ j (h : j < G.length), j < k → pr G[j] = false) ∧ Below w.heap.size w wr) (fun i _ => G.length - (intOf i).toNat)
  case atStart => exact ⟨0, Nat.zero_le _, rfl, (fun j _ h => absurd h (Nat.not_lt_zero _) : ∀ j (h : j < G.length), j < 0 → pr G[j] = false), Below.refl _ _⟩
  case round =>
    obtain ⟨k, hk, rfl, HP, hbel⟩ := hrel
    by_cases hlt : k < G.length
    · obtain ⟨b, o, rfl, hb, he⟩ := HL.out k hlt
      obtain ⟨c0, c1, c2, c3, c4⟩ := he.below hb hbel
      go_wp2_with fail
      refine (HG.out.2 _ (Nb.below q hbel) G[k]).mono ?_
      rintro e w1 ⟨rfl, hb1⟩
      have hbel1 := below_trans hbel hb1
      clear c0 c1 c2 c3 c4 hbel hb1
      cases hp : pr G[k] with
      | true =>
        have HE : Hid ((k : Int) = Pp.idS G pr) := (Pp.idS_hit hlt HP.out hp : (k : Int) = Pp.idS G pr)
        go_wp2_with fail
        go_ret
        exact ⟨Pp.ret_int HE.out, hbel1⟩
      | false =>
        have HP2 : Hid (∀ j (h : j < G.length), j < k + 1 → pr G[j] = false) := (fun j h1 h2 => by
          by_cases e : j = k
          · subst e; exact hp
          · exact HP.out j h1 (by omega) : ∀ j (h : j < G.length), j < k + 1 → pr G[j] = false)
        go_wp2_with fail
        go_roundw
        case rel => exact ⟨k + 1, by omega, by simp, HP2, hbel1⟩
        case measure => simp [intOf]; omega
    · have HE : Hid (-1 = Pp.idS G pr) := (Pp.idS_miss (fun j h => HP.out j h (by omega)) : -1 = Pp.idS G pr)
      go_wp2_with fail
      go_ret
      exact ⟨Pp.ret_int HE.out, hbel⟩
end Go.Proofs.YtmdkecdhgjjceaaGreat
set_option linter.unusedSimpArgs false
set_option linter.unusedVariables false
namespace Go.Proofs.YtmdkecdhgjjceaaGreat
open Go.RowKit

namespace Pp
def zeS : Se := ⟨0, ⟨#[]⟩, ⟨#[]⟩, 0, 0⟩
theorem at_mid {α : Type} {A B C : List α} {j : Nat} {x : α} (h : (A ++ B).length = j) (hC : C = x :: C.tail) : ∃ hj : j < (A ++ B ++ C).length, (A ++ B ++ C)[j] = x := by
  have hl : j < (A ++ B ++ C).length := by rw [List.length_append, h, hC]; simp
  refine ⟨hl, ?_⟩
  rw [List.getElem_append_right (by omega)]
  subst h
  simp only [Nat.sub_self]
  rw [List.getElem_of_eq hC]; rfl
theorem set_mid {α : Type} {A X C : List α} {a x y : α} : (A ++ (a :: X) ++ (x :: C)).set A.length y = A ++ [y] ++ (X ++ [x]) ++ C := by
  simp
theorem drop_hd {α : Type} {L : List α} {j : Nat} (h : j < L.length) : L.drop j = L[j] :: L.drop (j + 1) := List.drop_eq_getElem_cons h
end Pp

theorem Tryz.zeroS : ∀ w, (zeroValue 70).run Tryz.prog w = .ok (.agg #[.int .i64 0, .string ⟨#[]⟩, .string ⟨#[]⟩, .int .i64 0, .int .i64 0]) w := Tryz.zeroValue70

theorem rowS_some {w : World} {g : Nat} {d : List Se} (h : RowS w g d) {t : Nat} (ht : t < d.length * 5) : (w.cell? ⟨g, t, none⟩).isSome = true ∧ w.frozen? ⟨g, t, none⟩ = false := by
  have h1 : t / 5 < d.length := by omega
  have h2 : t / 5 * 5 + t % 5 = t := by omega
  have h3 := h.2 (t / 5) h1 (t % 5) (by omega)
  rw [h2] at h3
  refine ⟨?_, h3.2⟩
  rw [h3.1]
  have h4 : t % 5 < 5 := by omega
  match t % 5, h4 with
  | 0, _ => rfl
  | 1, _ => rfl
  | 2, _ => rfl
  | 3, _ => rfl
  | 4, _ => rfl
theorem clearS {w : World} {g : Nat} {A X : List Se} (h : RowS w g (A ++ X)) (ty : TypeId) (hX : 0 < X.length) :
    ∃ w', (∀ cap, (Builtin.clear_ #[24] ty #[.slice (some ⟨g, A.length * 5, none⟩) X.length cap]).run Tryz.prog w = .ok (.tuple #[]) w') ∧ RowS w' g A ∧ w.grownBy w' (some g) ∧ KeepB g w w' := by
  obtain ⟨z, hz⟩ : ∃ z : Value, z = .agg #[.int .i64 0, .string ⟨#[]⟩, .string ⟨#[]⟩, .int .i64 0, .int .i64 0] := ⟨_, rfl⟩
  have hzv : ∀ w, (zeroValue 70).run Tryz.prog w = .ok z w := by rw [hz]; exact Tryz.zeroS
  have hzc : z.cells = (Pp.cellsS Pp.zeS).toArray := by rw [hz]; rfl
  obtain ⟨vs, hvs⟩ : ∃ vs, vs = (Builtin.zeroCells z.cells X.length).toList := ⟨_, rfl⟩
  have hl : vs.length = X.length * 5 := by rw [hvs, hzc]; simp [Builtin.zeroCells, Pp.cellsS]
  have h1 : ∀ v ∈ vs, v.oneCell' = true := by
    intro v hv
    rw [hvs, hzc] at hv
    simp [Builtin.zeroCells] at hv
    obtain ⟨i, hi, rfl⟩ := hv
    have h4 : i % (Pp.cellsS Pp.zeS).length < 5 := Nat.mod_lt _ (by decide)
    refine Pp.cellsS_one Pp.zeS _ ?_
    have h5 : i % (Pp.cellsS Pp.zeS).length < (Pp.cellsS Pp.zeS).length := h4
    rw [List.getElem?_eq_getElem h5]
    exact List.getElem_mem h5
  have hst := run_storeCells_cells (P := Tryz.prog) g (A.length * 5) vs 0 w (fun j hj => by
    rw [Nat.add_zero]; exact (rowS_some h (by rw [List.length_append]; omega)).1) (fun j hj => by
    rw [Nat.add_zero]; exact (rowS_some h (by rw [List.length_append]; omega)).2) h1
  simp only [Nat.add_zero] at hst
  refine ⟨w.setCells g (A.length * 5) vs, ?_, ⟨Nat.lt_of_lt_of_le h.1 (Nb.setCells g _ _ w).size, fun i hi c hc => ⟨?_, ?_⟩⟩, Nb.setCells g _ _ w, KeepB.setCells g _ _ w⟩
  · intro cap
    obtain ⟨m, hm⟩ : ∃ m, X.length = m + 1 := ⟨X.length - 1, by omega⟩
    rw [hm] at hvs ⊢
    simp [Builtin.clear_, run_underlying Tryz.underlying24, hzv, ← hvs, hst]
  · have hi' : i < (A ++ X).length := by rw [List.length_append]; omega
    rw [World.cell?_setCells_out g _ _ _ _ (fun _ _ => by simp only; omega), (h.2 i hi' c hc).1, List.getElem_append_left hi]
  · rw [World.frozen?_setCells]
    exact (h.2 i (by rw [List.length_append]; omega) c hc).2

set_option maxRecDepth 100000 in
set_option maxHeartbeats 2000000 in
theorem deleteFunc_any (L : List Se) (q cap g : Nat) (cb : Array Value) (pr : Se → Bool) (w : World) (hR : RowS w q L) (hg : TellsS w q g cb pr) (hn : L.length ≤ 1000) (hcap : L.length ≤ cap) :
    Calls Tryz.prog 164 #[.slice (some ⟨q, 0, none⟩) L.length cap, .func (.func g) #[] cb] w fun e w' => e = .returned (.slice (some ⟨q, 0, none⟩) (L.filter fun x => !pr x).length cap) ∧ RowS w' q (L.filter fun x => !pr x) ∧ w.grownBy w' (some q) ∧ KeepB q w w' := by
  have HR := ghid hR
  have HG := ghid hg
  have eg := hg.1
  have HIX := ghid (fun W (hW : Below w.heap.size w W) => sindexFunc_any L _ q g cb pr W ((hR.lies hcap (by omega)).below hW) ⟨hg.1, fun W' hW' => hg.2 W' (Nb.trans (Nb.below q hW) hW')⟩)
  clear hR hg
  rcases Pp.idS_cases L pr with ⟨hi, hall⟩ | ⟨k0, hk0, hi, hp0, hpre⟩
  · have HI := ghid hi
    have hF : (L.filter fun x => !pr x) = L := by
      rw [List.filter_eq_self]; intro x hx; rw [hall x hx]; rfl
    rw [hF]
    clear hi hF hall
    go_enter Tryz.func164, Tryz.ntmps164
    go_wp2_with fail
    refine (HIX.out w (Below.refl _ _)).mono ?_
    rintro e w1 ⟨rfl, hb1⟩
    rw [HI.out]
    go_wp2
    go_ret
    exact ⟨rfl, HR.out.below hb1, Nb.below q hb1, KeepB.below hb1⟩
  · have HI := ghid hi
    have H0 := ghid (show Pp.lf pr L (k0 + 1) = L.take k0 from (Pp.lf_skip hk0 hp0).trans (Pp.lf_all (Nat.le_of_lt hk0) hpre))
    have HF : Hid (Pp.lf pr L L.length = L.filter fun x => !pr x) := (by rw [Pp.lf, List.take_length] : Pp.lf pr L L.length = L.filter fun x => !pr x)
    have hkk : ((k0 : Int) == -1) = false := beq_eq_false_iff_ne.2 (by omega)
    clear hi hp0 hpre
    go_enter Tryz.func164, Tryz.ntmps164
    go_wp2_with fail
    refine (HIX.out w (Below.refl _ _)).mono ?_
    rintro e w1 ⟨rfl, hb1⟩
    rw [HI.out]
    have HB1 := ghid hb1
    clear hb1
    go_wp2_with fail
    go_loopw [5, 6] (fun a b wr => ∃ (j : Nat) (X : List Se), j ≤ L.length ∧ a = .int .i64 (Pp.lf pr L j).length ∧ b = .int .i64 j ∧ (Pp.lf pr L j).length + X.length = j ∧ 0 < X.length ∧ Hid (RowS wr q (Pp.lf pr L j ++ X ++ L.drop j)) ∧ w.grownBy wr (some q) ∧ KeepB q w wr) (fun _ b _ => L.length - (intOf b).toNat)
    case atStart =>
      have hlen : (Pp.lf pr L (k0 + 1)).length = k0 := by rw [H0.out, List.length_take]; omega
      refine ⟨k0 + 1, [L[k0]], by omega, by rw [hlen], by simp, by rw [hlen]; simp, by simp, ?_, Nb.below q HB1.out, KeepB.below HB1.out⟩
      have e : Pp.lf pr L (k0 + 1) ++ [L[k0]] ++ L.drop (k0 + 1) = L := by
        rw [H0.out, List.append_assoc, List.singleton_append, ← Pp.drop_hd hk0, List.take_append_drop]
      have : RowS w1 q (Pp.lf pr L (k0 + 1) ++ [L[k0]] ++ L.drop (k0 + 1)) := by rw [e]; exact HR.out.below HB1.out
      exact this
    case round =>
      obtain ⟨j, X, hj, rfl, rfl, hlen, hX, HROW, hnb, hkb⟩ := hrel
      have HNB := ghid hnb
      have HKB := ghid hkb
      clear hnb hkb
      by_cases hlt : j < L.length
      · obtain ⟨hjj, hget⟩ := Pp.at_mid (A := Pp.lf pr L j) (B := X) (C := L.drop j) (j := j) (x := L[j]) (by rw [List.length_append]; exact hlen) (by rw [Pp.drop_hd hlt]; rfl)
        have hat := HROW.out.at hjj
        rw [hget] at hat
        obtain ⟨c0, c1, c2, c3, c4⟩ := hat
        have hqlt := HROW.out.1
        clear hget hjj
        have HKEEP : Hid (pr L[j] = false → Pp.lf pr L (j + 1) = Pp.lf pr L j ++ [L[j]]) := (Pp.lf_keep hlt : pr L[j] = false → Pp.lf pr L (j + 1) = Pp.lf pr L j ++ [L[j]])
        have HSKIP : Hid (pr L[j] = true → Pp.lf pr L (j + 1) = Pp.lf pr L j) := (Pp.lf_skip hlt : pr L[j] = true → Pp.lf pr L (j + 1) = Pp.lf pr L j)
        have HD := ghid (Pp.drop_hd hlt)
        have hil := Pp.lf_len pr L j
        generalize L[j] = s at *
        generalize Pp.lf pr L j = A at *
        cases hp : pr s with
        | false =>
          have HK := ghid (HKEEP.out hp)
          go_wp2_with fail
          refine (HG.out.2 _ (Nb.trans HNB.out (Nb.below q ((Below.refl _ _).alloc (Nat.le_refl _) _))) s).mono ?_
          rintro e w2 ⟨rfl, hb2⟩
          rw [hp]
          obtain ⟨d0, d1, d2, d3, d4, hbw2, hlt2⟩ := bxU5 hb2
          have hrow2 := HROW.out.below hbw2
          have hil2 : A.length < (A ++ X ++ L.drop j).length := by simp only [List.length_append]; omega
          obtain ⟨y, hy⟩ : ∃ y, y = (A ++ X ++ L.drop j)[A.length] := ⟨_, rfl⟩
          obtain ⟨t0, t1, t2, t3, t4⟩ := hrow2.at hil2
          rw [← hy] at t0 t1 t2 t3 t4
          have f0 := (hrow2.2 _ hil2 0 (by decide)).2
          have f1 := (hrow2.2 _ hil2 1 (by decide)).2
          have f2 := (hrow2.2 _ hil2 2 (by decide)).2
          have f3 := (hrow2.2 _ hil2 3 (by decide)).2
          have f4 := (hrow2.2 _ hil2 4 (by decide)).2
          rw [Nat.add_zero] at f0
          have hset := hrow2.set hil2 s
          obtain ⟨a0, X', rfl⟩ : ∃ a0 X', X = a0 :: X' := by
            cases X with
            | nil => simp at hX
            | cons a0 X' => exact ⟨a0, X', rfl⟩
          rw [HD.out, Pp.set_mid] at hset
          have HROW2 := ghid hset
          have HNB2 := ghid (Nb.trans (Nb.trans HNB.out (Nb.below q hbw2)) (Nb.setCells q (Pp.cellsS s) (A.length * 5) w2))
          have HKB2 := ghid ((HKB.out.trans (KeepB.below hbw2)).trans (KeepB.setCells q (Pp.cellsS s) (A.length * 5) w2))
          clear hrow2 hb2 hset hy hbw2
          go_wp2_with fail
          go_roundw
          case rel => exact ⟨j + 1, X' ++ [s], by omega, by rw [HK.out, List.length_append]; simp, by simp, by rw [HK.out, List.length_append]; simp at hlen ⊢; omega, by simp, by rw [HK.out]; exact HROW2, HNB2.out, HKB2.out⟩
          case measure => simp [intOf]; omega
        | true =>
          have HK := ghid (HSKIP.out hp)
          go_wp2_with fail
          refine (HG.out.2 _ (Nb.trans HNB.out (Nb.below q ((Below.refl _ _).alloc (Nat.le_refl _) _))) s).mono ?_
          rintro e w2 ⟨rfl, hb2⟩
          rw [hp]
          obtain ⟨d0, d1, d2, d3, d4, hbw2, hlt2⟩ := bxU5 hb2
          have hrow2 := HROW.out.below hbw2
          rw [HD.out] at hrow2
          have HROW2 : Hid (RowS w2 q (A ++ (X ++ [s]) ++ L.drop (j + 1))) := (by simpa using hrow2 : RowS w2 q (A ++ (X ++ [s]) ++ L.drop (j + 1)))
          have HNB2 := ghid (Nb.trans HNB.out (Nb.below q hbw2))
          have HKB2 := ghid (HKB.out.trans (KeepB.below hbw2))
          clear hrow2 hb2 hbw2
          go_wp2_with fail
          go_roundw
          case rel => exact ⟨j + 1, X ++ [s], by omega, by rw [HK.out], by simp, by rw [HK.out, List.length_append]; simp; omega, by simp, by rw [HK.out]; exact HROW2, HNB2.out, HKB2.out⟩
          case measure => simp [intOf]; omega
      · obtain rfl : j = L.length := by omega
        have HRW := HROW.out
        rw [List.drop_length, List.append_nil] at HRW
        rw [HF.out] at hlen HRW ⊢
        obtain ⟨wc, hcl0, hrc, hnc, hkc⟩ := clearS HRW 0 hX
        have hcl := hcl0 (cap - (L.filter fun x => !pr x).length)
        clear hcl0
        have hXl : X.length = L.length - (L.filter fun x => !pr x).length := by omega
        rw [hXl] at hcl
        have HRC := ghid hrc
        have HNC := ghid (Nb.trans HNB.out hnc)
        have HKC := ghid (HKB.out.trans hkc)
        have hfl : (L.filter fun x => !pr x).length ≤ L.length := by omega
        clear HRW hrc hnc hkc
        generalize hFF : (L.filter fun x => !pr x) = FF at *
        go_wp2_with fail
        go_ret
        exact ⟨by rw [hFF]; rfl, by rw [hFF]; exact HRC.out, HNC.out, HKC.out⟩

set_option maxHeartbeats 1000000 in
theorem deleteFunc_nil (g : Nat) (cb : Array Value) (w : World) :
    Calls Tryz.prog 164 #[.slice none 0 0, .func (.func g) #[] cb] w fun e w' => e = .returned (.slice none 0 0) ∧ Below w.heap.size w w' := by
  have hix : ∀ W, Calls Tryz.prog 166 #[.slice none 0 0, .func (.func g) #[] cb] W fun e w' => e = .returned (.int .i64 (-1)) ∧ w' = W := by
    intro W
    go_enter Tryz.func166, Tryz.ntmps166
    go_wp2_with fail
    go_loopw [8] (fun i wr => i = .int .i64 0 ∧ wr = W) (fun i _ => 0)
    case atStart => exact ⟨rfl, rfl⟩
    case round =>
      obtain ⟨rfl, rfl⟩ := hrel
      go_wp2_with fail
      go_ret
      exact ⟨rfl, rfl⟩
  go_enter Tryz.func164, Tryz.ntmps164
  go_wp2_with fail
  refine (hix _).mono ?_
  rintro e w1 ⟨rfl, hw⟩
  rw [hw]
  go_wp2
  go_ret
  exact ⟨rfl, Below.refl _ _⟩

theorem Tryz.infoSe : (Tryz.prog.info? 70).map (fun i => (i.zero, i.size, i.bytes)) = some (some (.agg #[.int .i64 0, .string ⟨#[]⟩, .string ⟨#[]⟩, .int .i64 0, .int .i64 0]), 5, 56) := by kernel_rfl
theorem liesS_cells {w : World} {b o : Nat} {L : List Se} (h : ∀ i (h : i < L.length), SeAt w b (o + i * 5) L[i]) : ∀ j u, (Pp.flatS L)[j]? = some u → w.cell? ((⟨b, o, none⟩ : Addr).add j) = some u := by
  intro j u hj
  have hjl : j < L.length * 5 := by
    have := (List.getElem?_eq_some_iff.1 hj).1
    rw [Pp.flatS_len] at this; exact this
  have h1 : j / 5 < L.length := by omega
  have h2 : j / 5 * 5 + j % 5 = j := by omega
  have h3 := Pp.flatS_get L (j / 5) (j % 5) h1 (by omega)
  rw [h2] at h3
  rw [h3] at hj
  obtain ⟨e0, e1, e2, e3, e4⟩ := h _ h1
  have ha : (⟨b, o, none⟩ : Addr).add j = ⟨b, o + j / 5 * 5 + j % 5, none⟩ := by
    rw [Addr.add_lit, Nat.add_assoc, h2]
  rw [ha]
  have h4 : j % 5 < 5 := by omega
  generalize j % 5 = c at *
  match c, h4, hj with
  | 0, _, hj => simp [Pp.cellsS] at hj; subst hj; exact e0
  | 1, _, hj => simp [Pp.cellsS] at hj; subst hj; exact e1
  | 2, _, hj => simp [Pp.cellsS] at hj; subst hj; exact e2
  | 3, _, hj => simp [Pp.cellsS] at hj; subst hj; exact e3
  | 4, _, hj => simp [Pp.cellsS] at hj; subst hj; exact e4
theorem flatS_one (L : List Se) : ∀ u ∈ Pp.flatS L, u.oneCell' = true := by
  intro u hu
  obtain ⟨s, _, hs⟩ := List.mem_flatMap.1 hu
  exact Pp.cellsS_one s u hs

/-- Nil, and no session; or sessions in memory of their own. -/
def OwnS (base : Nat) (w' : World) (u : Value) (L : List Se) : Prop := (u = .slice none 0 0 ∧ L = []) ∨ ∃ g cap, u = .slice (some ⟨g, 0, none⟩) L.length cap ∧ base ≤ g ∧ L.length ≤ cap ∧ RowS w' g L ∧ Blk w' g 70 (cap * 5) ∧ cap ≤ maxLen

set_option maxHeartbeats 1000000 in
theorem sclone_any (L : List Se) (v : Value) (w : World) (hv : LiesS w v L) (hn : L.length ≤ 1000) :
    Calls Tryz.prog 99 #[v] w fun e w' => ∃ u, e = .returned u ∧ OwnS w.heap.size w' u L ∧ Below w.heap.size w w' := by
  obtain ⟨i0, hi0, hz0, hz1, hz2⟩ := info_parts Tryz.infoSe
  obtain ⟨a, cap, rfl, hcap, hcap2, hLL⟩ := hv
  have q22 : ∀ (w : World) (a : Option Addr) (n c n' c' : Nat), (binOp .eql 24 (.slice a n c) (.slice none n' c')).run Tryz.prog w = .ok (.bool a.isNone) w := fun w a n c n' c' => Lib.run_eql_slice_nil w _ _ a n c n' c' Tryz.underlying24
  cases a with
  | none =>
    have hL : L = [] := by
      cases L with
      | nil => rfl
      | cons s r => obtain ⟨b, o, hb, _⟩ := hLL 0 (by simp); cases hb
    subst hL
    go_enter Tryz.func99, Tryz.ntmps99
    go_wp2
    go_ret
    exact ⟨_, rfl, Or.inl ⟨rfl, rfl⟩, Below.refl _ _⟩
  | some ad =>
    have hcells : ∀ j u, (Pp.flatS L)[j]? = some u → w.cell? (ad.add j) = some u := by
      cases L with
      | nil => intro j u hj; simp [Pp.flatS] at hj
      | cons s r =>
        obtain ⟨b, o, hb, _⟩ := hLL 0 (by simp)
        injection hb with hb
        subst hb
        exact liesS_cells fun i hi => by
          obtain ⟨b', o', hb', _, he⟩ := hLL i hi
          injection hb' with hb'
          injection hb' with h1 h2
          subst h1; subst h2
          exact he
    have HC := ghid hcells
    have HFL := ghid (Pp.flatS_len L)
    clear hcells hLL
    go_enter Tryz.func99, Tryz.ntmps99
    go_wp2_with (at_builtin; refine wpList_append_own _ rfl _ _ 24 rfl w.heap.size 70 i0 (.agg #[.int .i64 0, .string ⟨#[]⟩, .string ⟨#[]⟩, .int .i64 0, .int .i64 0]) 5 56 Tryz.underlying24 hi0 hz0 hz1 hz2 rfl (by decide) _ _ _ rfl (World.ownsRow_made w #[] 0 (Nat.le_refl _) (Nat.zero_le _) (by simp)) ad L.length cap (Pp.flatS L) rfl ?qc1 ?qc2 ?qc3 ?qc4 ?qc5 ?qc6 ?_)
    case qc1 => exact HFL.out
    case qc2 => intro j u hj; exact Lib.cell?_alloc_some _ (HC.out j u hj)
    case qc3 => exact flatS_one L
    case qc4 => unfold maxLen; omega
    case qc5 => omega
    case qc6 => simp
    intro v2 w2 ho2 hgr2 hnn2
    have hbel2 : Below w.heap.size w w2 := ((Below.refl _ _).alloc (Nat.le_refl _) _).grown hgr2 (by simp) (fun k hk => by simp [Value.ownBlock] at hk; omega)
    have hcl : OwnS w.heap.size w2 v2 L := by
      have ho3 : w2.ownsRow w.heap.size 70 5 v2 L.length (Pp.flatS L) := by simpa using ho2
      obtain ⟨hl, h2⟩ := ho3
      rcases h2 with ⟨rfl, hz⟩ | ⟨g, cap2, cur, rfl, hg, hh, hn2, hm, hz, htake⟩
      · exact (hnn2 rfl).elim
      · exact Or.inr ⟨g, cap2, rfl, hg, hn2, rowS_own (base := w.heap.size) (T := 70) (cap := cap2) (n := L.length) (by simpa using ho2) rfl, ⟨cur, hh, hz⟩, hm⟩
    have HCL := ghid hcl
    clear ho2 hgr2 hnn2 hcl
    go_wp2_with fail
    go_ret
    exact ⟨_, rfl, HCL.out, hbel2⟩
end Go.Proofs.YtmdkecdhgjjceaaGreat
set_option linter.unusedSimpArgs false
set_option linter.unusedVariables false
namespace Go.Proofs.YtmdkecdhgjjceaaGreat
open Go.RowKit

theorem OwnS.below {B : Nat} {w w' : World} {u : Value} {L : List Se} (h : OwnS B w u L) (hw : Below w.heap.size w w') : OwnS B w' u L := by
  rcases h with h | ⟨g, cap, h1, h2, h3, h4⟩
  · exact Or.inl h
  · exact Or.inr ⟨g, cap, h1, h2, h3, h4.1.below hw, h4.2.1.below hw, h4.2.2⟩
theorem OwnS.lies {B : Nat} {w : World} {u : Value} {L : List Se} (h : OwnS B w u L) (hn : L.length ≤ 1000) : LiesS w u L := by
  rcases h with ⟨rfl, rfl⟩ | ⟨g, cap, rfl, h2, h3, h4⟩
  · exact liesS_nil _
  · exact h4.1.lies h3 (by omega)
theorem OwnS.mono {B B' : Nat} {w : World} {u : Value} {L : List Se} (h : OwnS B w u L) (hB : B' ≤ B) : OwnS B' w u L := by
  rcases h with h | ⟨g, cap, h1, h2, h3, h4⟩
  · exact Or.inl h
  · exact Or.inr ⟨g, cap, h1, Nat.le_trans hB h2, h3, h4⟩

namespace Pp
/-- Is a session over? -/
def ovr (now : Int) (s : Se) : Bool := decide (s.ti < now)
/-- Those that are not over. -/
def swL (now : Int) (G : List Se) : List Se := G.filter fun s => !ovr now s
def goE (G : List Se) (x l r now : Int) (ns : List ByteArray) : Int := if uchE G x l r = 0 then (if inR 0 now 1099511627776 = true then nmsE ns else 3) else uchE G x l r
theorem go_cases (G : List Se) (x l r now : Int) (ns : List ByteArray) : (¬ uchE G x l r = 0 ∧ goE G x l r now ns = uchE G x l r) ∨ (uchE G x l r = 0 ∧ inR 0 now 1099511627776 = false ∧ goE G x l r now ns = 3) ∨ (uchE G x l r = 0 ∧ inR 0 now 1099511627776 = true ∧ nmsE ns = 1 ∧ goE G x l r now ns = 1) ∨ (uchE G x l r = 0 ∧ inR 0 now 1099511627776 = true ∧ nmsE ns = 0 ∧ goE G x l r now ns = 0) := by
  by_cases h : uchE G x l r = 0
  · right
    cases h2 : inR 0 now 1099511627776 with
    | false => left; exact ⟨h, rfl, by rw [goE, if_pos h, h2]; rfl⟩
    | true =>
      right
      have h3 : nmsE ns = 0 ∨ nmsE ns = 1 := by
        rw [nmsE]; split
        · exact Or.inl rfl
        · exact Or.inr rfl
      rcases h3 with h3 | h3
      · right; exact ⟨h, rfl, h3, by rw [goE, if_pos h, h2, if_pos rfl, h3]⟩
      · left; exact ⟨h, rfl, h3, by rw [goE, if_pos h, h2, if_pos rfl, h3]⟩
  · left; exact ⟨h, by rw [goE, if_neg h]⟩
theorem uch_zero {G : List Se} {x l r : Int} (h : uchE G x l r = 0) : bndE G.length x l r = 0 ∧ sesE x G = 0 ∧ risS G = true ∧ roE G r = 0 := by
  by_cases h1 : bndE G.length x l r = 0
  · by_cases h2 : sesE x G = 0
    · cases h3 : risS G with
      | false => rw [uch_ris h1 h2 h3] at h; cases h
      | true => rw [uch_ro h1 h2 h3] at h; exact ⟨h1, h2, rfl, h⟩
    · rw [uch_ses h1 h2] at h; exact absurd h h2
  · rw [uch_bnd h1] at h; exact absurd h h1
theorem swL_len (now : Int) (G : List Se) : (swL now G).length ≤ G.length := List.length_filter_le _ _
end Pp

set_option maxHeartbeats 1000000 in
theorem names_nil (w : World) : Calls Tryz.prog 85 #[.slice none 0 0] w fun e w' => e = .returned (.int .i64 (Pp.nmsE [])) ∧ Below w.heap.size w w' := by
  go_enter Tryz.func85, Tryz.ntmps85
  go_wp2_with fail
  go_loopw [9] (fun i wr => i = .int .i64 0 ∧ wr = w) (fun i _ => 0)
  case atStart => exact ⟨rfl, rfl⟩
  case round =>
    obtain ⟨rfl, rfl⟩ := hrel
    go_wp2_with fail
    go_ret
    exact ⟨rfl, Below.refl _ _⟩

set_option maxHeartbeats 1000000 in
theorem going1_any (s : Se) (now : Int) (b : Nat) (w : World) (hb : b < w.heap.size) (hc : w.cell? ⟨b, 0, none⟩ = some (.int .i64 now)) :
    Calls Tryz.prog 165 #[.agg #[.int .i64 s.nu, .string s.wh, .string s.tx, .int .i64 s.si, .int .i64 s.ti], .pointer (some ⟨b, 0, none⟩)] w fun r w' => r = .returned (.bool (Pp.ovr now s)) ∧ Below w.heap.size w w' := by
  have hc2 : ∀ o, (w.alloc o).cell? ⟨b, 0, none⟩ = some (.int .i64 now) := fun o => (((Below.refl w.heap.size w).alloc (Nat.le_refl _) o).cell (p := ⟨b, 0, none⟩) hb).trans hc
  have HE : Hid (decide (s.ti < now) = Pp.ovr now s) := rfl
  go_enter Tryz.func165, Tryz.ntmps165
  go_wp2
  go_ret
  exact ⟨Pp.ret_bool HE.out, (Below.refl _ _).alloc (Nat.le_refl _) _⟩

/-- A row of names that is handed to a variadic function: nil, or in a block. -/
def Nms (w : World) (v : Value) (ns : List ByteArray) : Prop := (v = .slice none 0 0 ∧ ns = []) ∨ ∃ g cap, v = .slice (some ⟨g, 0, none⟩) ns.length cap ∧ g < w.heap.size ∧ ∀ i (h : i < ns.length), w.cell? ⟨g, 0 + i, none⟩ = some (.string ns[i])
theorem Nms.below {w w' : World} {v : Value} {ns : List ByteArray} (h : Nms w v ns) (hw : Below w.heap.size w w') : Nms w' v ns := by
  rcases h with h | ⟨g, cap, h1, h2, h3⟩
  · exact Or.inl h
  · exact Or.inr ⟨g, cap, h1, Nat.lt_of_lt_of_le h2 hw.size, fun i hi => (hw.cell (p := ⟨g, 0 + i, none⟩) h2).trans (h3 i hi)⟩
theorem unames_any (ns : List ByteArray) (v : Value) (w : World) (hv : Nms w v ns) (hs : ∀ s ∈ ns, s.size ≤ 150000000000000) (hl : ns.length ≤ 1000) :
    Calls Tryz.prog 85 #[v] w fun e w' => e = .returned (.int .i64 (Pp.nmsE ns)) ∧ Below w.heap.size w w' := by
  rcases hv with ⟨rfl, rfl⟩ | ⟨g, cap, rfl, h2, h3⟩
  · exact names_nil w
  · exact names_any ns g 0 cap w h2 (fun i h => Nat.le_trans (hs _ (List.getElem_mem h)) (by decide)) hl h3

/-- A box of four cells that may be written. -/
def Bx (W : World) (b : Nat) (a0 a1 a2 a3 : Value) : Prop := b < W.heap.size ∧ (W.cell? ⟨b, 0, none⟩ = some a0 ∧ W.cell? ⟨b, 1, none⟩ = some a1 ∧ W.cell? ⟨b, 2, none⟩ = some a2 ∧ W.cell? ⟨b, 3, none⟩ = some a3) ∧ W.frozen? ⟨b, 0, none⟩ = false ∧ W.frozen? ⟨b, 1, none⟩ = false ∧ W.frozen? ⟨b, 2, none⟩ = false ∧ W.frozen? ⟨b, 3, none⟩ = false
theorem Bx.below {W W' : World} {b : Nat} {a0 a1 a2 a3 : Value} (h : Bx W b a0 a1 a2 a3) (hw : Below W.heap.size W W') : Bx W' b a0 a1 a2 a3 := by
  obtain ⟨hb, ⟨c0, c1, c2, c3⟩, f0, f1, f2, f3⟩ := h
  exact ⟨Nat.lt_of_lt_of_le hb hw.size, ⟨(hw.cell (p := ⟨b, 0, none⟩) hb).trans c0, (hw.cell (p := ⟨b, 1, none⟩) hb).trans c1, (hw.cell (p := ⟨b, 2, none⟩) hb).trans c2, (hw.cell (p := ⟨b, 3, none⟩) hb).trans c3⟩, (hw.frozen (p := ⟨b, 0, none⟩) hb).trans f0, (hw.frozen (p := ⟨b, 1, none⟩) hb).trans f1, (hw.frozen (p := ⟨b, 2, none⟩) hb).trans f2, (hw.frozen (p := ⟨b, 3, none⟩) hb).trans f3⟩
theorem Bx.nb {W W' : World} {b g : Nat} {a0 a1 a2 a3 : Value} (h : Bx W b a0 a1 a2 a3) (hw : W.grownBy W' (some g)) (hne : b ≠ g) : Bx W' b a0 a1 a2 a3 := by
  obtain ⟨hb, ⟨c0, c1, c2, c3⟩, f0, f1, f2, f3⟩ := h
  exact ⟨Nat.lt_of_lt_of_le hb hw.size, ⟨(Nb.cell hw (p := ⟨b, 0, none⟩) hb hne).trans c0, (Nb.cell hw (p := ⟨b, 1, none⟩) hb hne).trans c1, (Nb.cell hw (p := ⟨b, 2, none⟩) hb hne).trans c2, (Nb.cell hw (p := ⟨b, 3, none⟩) hb hne).trans c3⟩, (Nb.frozen hw (p := ⟨b, 0, none⟩) hb hne).trans f0, (Nb.frozen hw (p := ⟨b, 1, none⟩) hb hne).trans f1, (Nb.frozen hw (p := ⟨b, 2, none⟩) hb hne).trans f2, (Nb.frozen hw (p := ⟨b, 3, none⟩) hb hne).trans f3⟩
theorem Bx.new (w : World) (a0 a1 a2 a3 : Value) (T : TypeId) : Bx (w.alloc (.cells #[a0, a1, a2, a3] T)) w.heap.size a0 a1 a2 a3 :=
  ⟨by simp, ⟨by simp, by simp, by simp, by simp⟩, World.frozen?_alloc_at _ _ _ _ rfl, World.frozen?_alloc_at _ _ _ _ rfl, World.frozen?_alloc_at _ _ _ _ rfl, World.frozen?_alloc_at _ _ _ _ rfl⟩
theorem Bx.set {W : World} {b b' o : Nat} {a0 a1 a2 a3 u : Value} (h : Bx W b a0 a1 a2 a3) (hne : b' ≠ b) : Bx (W.setCell ⟨b', o, none⟩ u) b a0 a1 a2 a3 := h.nb (Nb.setCell W b' o u) (fun e => hne e.symm)
theorem below_set4 {B b : Nat} {w W : World} {a0 a1 a2 a3 : Value} (h : Below B w W) (hb : B ≤ b) : Below B w ((((W.setCell ⟨b, 0, none⟩ a0).setCell ⟨b, 1, none⟩ a1).setCell ⟨b, 2, none⟩ a2).setCell ⟨b, 3, none⟩ a3) :=
  (((h.setCell (p := ⟨b, 0, none⟩) hb _).setCell (p := ⟨b, 1, none⟩) hb _).setCell (p := ⟨b, 2, none⟩) hb _).setCell (p := ⟨b, 3, none⟩) hb _
theorem RowS.nb {W W' : World} {g b : Nat} {d : List Se} (h : RowS W g d) (hw : W.grownBy W' (some b)) (hne : g ≠ b) : RowS W' g d :=
  ⟨Nat.lt_of_lt_of_le h.1 hw.size, fun i hi c hc => ⟨(Nb.cell hw (p := ⟨g, i * 5 + c, none⟩) h.1 hne).trans (h.2 i hi c hc).1, (Nb.frozen hw (p := ⟨g, i * 5 + c, none⟩) h.1 hne).trans (h.2 i hi c hc).2⟩⟩
theorem Nb.set4 (W : World) (b : Nat) (a0 a1 a2 a3 : Value) : W.grownBy ((((W.setCell ⟨b, 0, none⟩ a0).setCell ⟨b, 1, none⟩ a1).setCell ⟨b, 2, none⟩ a2).setCell ⟨b, 3, none⟩ a3) (some b) :=
  Nb.trans (Nb.trans (Nb.trans (Nb.setCell W b 0 a0) (Nb.setCell _ b 1 a1)) (Nb.setCell _ b 2 a2)) (Nb.setCell _ b 3 a3)

set_option maxRecDepth 100000 in
set_option maxHeartbeats 2000000 in
theorem going_any (G : List Se) (v : Value) (x l r now : Int) (ns : List ByteArray) (nv : Value) (w : World) (hv : LiesS w v G) (hs : SizedS G) (hnv : Nms w nv ns) (hns : ∀ s ∈ ns, s.size ≤ 150000000000000) (hnl : ns.length ≤ 1000) :
    Calls Tryz.prog 133 #[.agg #[v, .int .i64 x, .int .i64 l, .int .i64 r], .int .i64 now, nv] w fun e w' => (¬ Pp.goE G x l r now ns = 0 ∧ e = .returned (.tuple #[.agg #[.slice none 0 0, .int .i64 0, .int .i64 0, .int .i64 0], .int .i64 (Pp.goE G x l r now ns)]) ∧ Below w.heap.size w w') ∨
      (Pp.goE G x l r now ns = 0 ∧ ∃ u, e = .returned (.tuple #[.agg #[u, .int .i64 x, .int .i64 l, .int .i64 r], .int .i64 0]) ∧ OwnS w.heap.size w' u (Pp.swL now G) ∧ Below w.heap.size w w') := by
  have HV := ghid hv
  have HS := ghid hs
  have HN := ghid hnv
  clear hv hs hnv
  obtain ⟨w3, hw3⟩ : ∃ w3, w3 = ((w.alloc (.cells #[v, .int .i64 x, .int .i64 l, .int .i64 r] 26)).alloc (.cells #[.int .i64 now] 3)).alloc (.cells #[.slice none 0 0, .int .i64 0, .int .i64 0, .int .i64 0] 26) := ⟨_, rfl⟩
  have B3 : Hid (Below w.heap.size w w3) := (by rw [hw3]; exact (((Below.refl _ _).alloc (Nat.le_refl _) _).alloc (by simp) _).alloc (by simp; omega) _ : Below w.heap.size w w3)
  have HU3 : Hid (Bx w3 w.heap.size v (.int .i64 x) (.int .i64 l) (.int .i64 r)) := (by rw [hw3]; exact ((Bx.new w _ _ _ _ _).below ((Below.refl _ _).alloc (Nat.le_refl _) _)).below ((Below.refl _ _).alloc (Nat.le_refl _) _) : Bx w3 w.heap.size v (.int .i64 x) (.int .i64 l) (.int .i64 r))
  have HR3 : Hid (Bx w3 (w.heap.size + 2) (.slice none 0 0) (.int .i64 0) (.int .i64 0) (.int .i64 0)) := (by
    have := Bx.new ((w.alloc (.cells #[v, .int .i64 x, .int .i64 l, .int .i64 r] 26)).alloc (.cells #[.int .i64 now] 3)) (.slice none 0 0) (.int .i64 0) (.int .i64 0) (.int .i64 0) 26
    rw [hw3]; simpa using this : Bx w3 (w.heap.size + 2) (.slice none 0 0) (.int .i64 0) (.int .i64 0) (.int .i64 0))
  have HN3 : Hid (w3.cell? ⟨w.heap.size + 1, 0, none⟩ = some (.int .i64 now)) := (by rw [hw3]; simp [go_sem] : w3.cell? ⟨w.heap.size + 1, 0, none⟩ = some (.int .i64 now))
  have hsz3 : w3.heap.size = w.heap.size + 3 := by rw [hw3]; simp
  rcases Pp.go_cases G x l r now ns with ⟨h0, hE⟩ | ⟨h0, h1, hE⟩ | ⟨h0, h1, h2, hE⟩ | ⟨h0, h1, h2, hE⟩
  · have HE := ghid hE
    have hz : (Pp.uchE G x l r == 0) = false := by simpa using h0
    have HNZ := ghid h0
    clear hE h0
    go_enter Tryz.func133, Tryz.ntmps133
    go_wp2_with fail
    rw [← hw3]
    clear hw3
    refine (ucheck_any G _ x l r _ (HV.out.below B3.out) HS.out).mono ?_
    rintro e w4 ⟨rfl, hb4⟩
    have hR := HR3.out.below hb4
    have hb04 := B3.out.trans (hb4.mono B3.out.size)
    obtain ⟨hRb, ⟨c0, c1, c2, c3⟩, f0, f1, f2, f3⟩ := hR
    clear hb4
    generalize Pp.uchE G x l r = y at *
    go_wp2_with fail
    refine bodyPost_ret (v := .tuple #[.agg #[.slice none 0 0, .int .i64 0, .int .i64 0, .int .i64 0], .int .i64 y]) (by simp [results, Tryz.results133, go_sem, c0, c1, c2, c3, hRb]) rfl (Or.inl ⟨by rw [HE.out]; exact HNZ.out, by rw [HE.out], ?_⟩)
    exact below_set4 hb04 (by omega)
  · have HE := ghid hE
    have H0 := ghid h0
    have H1 := ghid h1
    clear hE h0 h1
    go_enter Tryz.func133, Tryz.ntmps133
    go_wp2_with fail
    rw [← hw3]
    clear hw3
    refine (ucheck_any G _ x l r _ (HV.out.below B3.out) HS.out).mono ?_
    rintro e w4 ⟨rfl, hb4⟩
    rw [H0.out]
    have hR := HR3.out.below hb4
    have hU := HU3.out.below hb4
    have hb04 := B3.out.trans (hb4.mono B3.out.size)
    have n4 := (hb4.cell (p := ⟨w.heap.size + 1, 0, none⟩) (by show w.heap.size + 1 < w3.heap.size; omega)).trans HN3.out
    have hsz4 := hb4.size
    clear hb4
    go_wp2_with fail
    refine (isFrom_any 0 now 1099511627776 _).mono ?_
    rintro e w5 ⟨rfl, hw⟩
    rw [hw, H1.out]
    clear hw w5
    obtain ⟨hRb, ⟨c0, c1, c2, c3⟩, f0, f1, f2, f3⟩ := hR
    go_wp2_with fail
    refine bodyPost_ret (v := .tuple #[.agg #[.slice none 0 0, .int .i64 0, .int .i64 0, .int .i64 0], .int .i64 3]) (by simp [results, Tryz.results133, go_sem, c0, c1, c2, c3, hRb]) rfl (Or.inl ⟨by rw [HE.out]; decide, by rw [HE.out], ?_⟩)
    exact below_set4 hb04 (by omega)
  · have HE := ghid hE
    have H0 := ghid h0
    have H1 := ghid h1
    have H2 := ghid h2
    clear hE h0 h1 h2
    go_enter Tryz.func133, Tryz.ntmps133
    go_wp2_with fail
    rw [← hw3]
    clear hw3
    refine (ucheck_any G _ x l r _ (HV.out.below B3.out) HS.out).mono ?_
    rintro e w4 ⟨rfl, hb4⟩
    rw [H0.out]
    have hR := HR3.out.below hb4
    have hU := HU3.out.below hb4
    have hb04 := B3.out.trans (hb4.mono B3.out.size)
    have n4 := (hb4.cell (p := ⟨w.heap.size + 1, 0, none⟩) (by show w.heap.size + 1 < w3.heap.size; omega)).trans HN3.out
    have hsz4 := hb4.size
    clear hb4
    go_wp2_with fail
    refine (isFrom_any 0 now 1099511627776 _).mono ?_
    rintro e w5 ⟨rfl, hw⟩
    rw [hw, H1.out]
    clear hw w5
    go_wp2_with fail
    refine (unames_any ns nv _ (HN.out.below hb04) hns hnl).mono ?_
    rintro e w5 ⟨rfl, hb5⟩
    rw [H2.out]
    have hR5 := hR.below hb5
    have hU5 := hU.below hb5
    have hb05 := below_trans hb04 hb5
    have n5 := (hb5.cell (p := ⟨w.heap.size + 1, 0, none⟩) (by show w.heap.size + 1 < w4.heap.size; omega)).trans n4
    have hsz5 := hb5.size
    clear hb5 hR hU n4 hb04
    obtain ⟨hRb, ⟨c0, c1, c2, c3⟩, f0, f1, f2, f3⟩ := hR5
    go_wp2_with fail
    refine bodyPost_ret (v := .tuple #[.agg #[.slice none 0 0, .int .i64 0, .int .i64 0, .int .i64 0], .int .i64 1]) (by simp [results, Tryz.results133, go_sem, c0, c1, c2, c3, hRb]) rfl (Or.inl ⟨by rw [HE.out]; decide, by rw [HE.out], ?_⟩)
    exact below_set4 hb05 (by omega)
  · have HE := ghid hE
    have H0 := ghid h0
    have H1 := ghid h1
    have H2 := ghid h2
    obtain ⟨hl20, _⟩ := Pp.bnd_zero (Pp.uch_zero h0).1
    clear hE h0 h1 h2
    go_enter Tryz.func133, Tryz.ntmps133
    go_wp2_with fail
    rw [← hw3]
    clear hw3
    refine (ucheck_any G _ x l r _ (HV.out.below B3.out) HS.out).mono ?_
    rintro e w4 ⟨rfl, hb4⟩
    rw [H0.out]
    have hR := HR3.out.below hb4
    have hU := HU3.out.below hb4
    have hb04 := B3.out.trans (hb4.mono B3.out.size)
    have n4 := (hb4.cell (p := ⟨w.heap.size + 1, 0, none⟩) (by show w.heap.size + 1 < w3.heap.size; omega)).trans HN3.out
    have hsz4 := hb4.size
    clear hb4
    go_wp2_with fail
    refine (isFrom_any 0 now 1099511627776 _).mono ?_
    rintro e w5 ⟨rfl, hw⟩
    rw [hw, H1.out]
    clear hw w5
    go_wp2_with fail
    refine (unames_any ns nv _ (HN.out.below hb04) hns hnl).mono ?_
    rintro e w5 ⟨rfl, hb5⟩
    rw [H2.out]
    have hR5 := hR.below hb5
    have hU5 := hU.below hb5
    have hb05 := below_trans hb04 hb5
    have n5 := (hb5.cell (p := ⟨w.heap.size + 1, 0, none⟩) (by show w.heap.size + 1 < w4.heap.size; omega)).trans n4
    have hsz5 := hb5.size
    clear hb5 hR hU n4 hb04
    have hU5k := hU5
    obtain ⟨hUb, ⟨u0, u1, u2, u3⟩, g0, g1, g2, g3⟩ := hU5
    go_wp2_with fail
    refine (sclone_any G _ _ (HV.out.below hb05) (by omega)).mono ?_
    rintro e w6 ⟨uc, rfl, hown, hb6⟩
    have hR6 := hR5.below hb6
    have hU6 := hU5k.below hb6
    have hb06 := below_trans hb05 hb6
    have n6 := (hb6.cell (p := ⟨w.heap.size + 1, 0, none⟩) (by show w.heap.size + 1 < w5.heap.size; omega)).trans n5
    have hsz6 := hb6.size
    have HOWN := ghid hown
    clear hb6 hR5 hU5k n5 hb05 hUb u0 u1 u2 u3 g0 g1 g2 g3 hown
    rcases HOWN.out with ⟨rfl, hG⟩ | ⟨g, cap, rfl, hgb, hgc, hrow, hblk, hcm⟩
    · have HSW : Hid (Pp.swL now G = []) := (by rw [hG]; rfl : Pp.swL now G = [])
      clear hG HOWN
      go_wp2_with fail
      refine (deleteFunc_nil _ _ _).mono ?_
      rintro e w7 ⟨rfl, hb7⟩
      have hR7 := hR6.below hb7
      have hU7 := hU6.below hb7
      have hb07 := below_trans hb06 hb7
      clear hb7 hR6 hU6 hb06
      obtain ⟨hUb, ⟨u0, u1, u2, u3⟩, g0, g1, g2, g3⟩ := hU7
      obtain ⟨hRb, ⟨c0, c1, c2, c3⟩, f0, f1, f2, f3⟩ := hR7
      go_wp2_with fail
      refine bodyPost_ret (v := .tuple #[.agg #[.slice none 0 0, .int .i64 x, .int .i64 l, .int .i64 r], .int .i64 0]) (by simp [results, Tryz.results133, go_sem, c0, c1, c2, c3, u0, u1, u2, u3, hRb, hUb]) rfl (Or.inr ⟨HE.out, _, rfl, ?_, ?_⟩)
      · rw [HSW.out]; exact Or.inl ⟨rfl, rfl⟩
      · exact below_set4 (hb07.setCell (p := ⟨w.heap.size, 0, none⟩) (Nat.le_refl _) _) (by omega)
    · have hTell : TellsS w6 g 165 #[.pointer (some ⟨w.heap.size + 1, 0, none⟩)] (Pp.ovr now) :=
        ⟨enters_of Tryz.func165 (by kernel_rfl) rfl, fun W hW s => going1_any s now (w.heap.size + 1) W (Nat.lt_of_lt_of_le (by omega) hW.size) ((Nb.cell hW (p := ⟨w.heap.size + 1, 0, none⟩) (by show w.heap.size + 1 < w6.heap.size; omega) (by show w.heap.size + 1 ≠ g; omega)).trans n6)⟩
      have HT := ghid hTell
      have HROW := ghid hrow
      clear hTell hrow HOWN
      go_wp2_with fail
      refine (deleteFunc_any G g cap _ _ (Pp.ovr now) _ HROW.out HT.out (by omega) hgc).mono ?_
      rintro e w7 ⟨rfl, hrow7, hnb7, hkb7⟩
      have hblk7 := hkb7 _ _ hblk
      have hR7 := hR6.nb hnb7 (by omega)
      have hU7 := hU6.nb hnb7 (by omega)
      have hb07 : Below w.heap.size w w7 := hb06.trans (Nb.to hnb7 hb06.size (by omega))
      have HROW7 := ghid hrow7
      have hfl : (G.filter fun s => !Pp.ovr now s).length ≤ G.length := List.length_filter_le _ _
      have HBLK7 := ghid hblk7
      clear hnb7 hR6 hU6 hb06 hrow7 hkb7 hblk hblk7
      obtain ⟨hUb, ⟨u0, u1, u2, u3⟩, g0, g1, g2, g3⟩ := hU7
      obtain ⟨hRb, ⟨c0, c1, c2, c3⟩, f0, f1, f2, f3⟩ := hR7
      go_wp2_with fail
      refine bodyPost_ret (v := .tuple #[.agg #[.slice (some ⟨g, 0, none⟩) (G.filter fun s => !Pp.ovr now s).length cap, .int .i64 x, .int .i64 l, .int .i64 r], .int .i64 0]) (by simp [results, Tryz.results133, go_sem, c0, c1, c2, c3, u0, u1, u2, u3, hRb, hUb]) rfl (Or.inr ⟨HE.out, _, rfl, ?_, ?_⟩)
      · exact Or.inr ⟨g, cap, rfl, by omega, Nat.le_trans hfl hgc, (HROW7.out.nb (Nb.setCell w7 w.heap.size 0 _) (by omega)).nb (Nb.set4 _ (w.heap.size + 2) _ _ _ _) (by omega), (HBLK7.out.nb (Nb.setCell w7 w.heap.size 0 _) (by omega)).nb (Nb.set4 _ (w.heap.size + 2) _ _ _ _) (by omega), hcm⟩
      · exact below_set4 (hb07.setCell (p := ⟨w.heap.size, 0, none⟩) (Nat.le_refl _) _) (by omega)
end Go.Proofs.YtmdkecdhgjjceaaGreat
