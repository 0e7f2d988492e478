/- slices.Insert of a folder, at any place. What Serve answers to every request, of a hub that passes Check. What a journal is behind one more commit, and what comes of the same key again: plain mathematics. What a commit leaves of a hub passes Check; who commits again by a key commits once (mathematics). -/
import Derived.Test.YtchlgpeiombmdaaGreatQZC
import Derived.Test.YtchlgpeiombmdaaGreatQK
import Derived.Test.YtchlgpeiombmdaaGreatQR
set_option linter.unusedSimpArgs false
set_option linter.unusedVariables false
namespace Go.Proofs.YtchlgpeiombmdaaGreat
open Go.RowKit

theorem Tryz.sizeSh : (Tryz.prog.info? 51).map (·.size) = some 4 := by
 obtain ⟨i0, hi0, _, hz1, _⟩ := info_parts Tryz.infoRF
 rw [hi0]; simp [hz1]
theorem Tryz.sizeOfSh (w : World) : (Go.sizeOf 51).run Tryz.prog w = .ok 4 w := by
 obtain ⟨i0, hi0, _, hz1, _⟩ := info_parts Tryz.infoRF
 simp [Go.sizeOf, typeInfo, hi0, hz1]
theorem cs_shape {W : World} {b : Nat} {vs : List Value} (h : Cs W b vs) : ∃ T, W.shape? b = some (T, vs.length) := by
 obtain ⟨T, h⟩ := h
 exact ⟨T, by simp [World.shape?, h]⟩
set_option maxRecDepth 100000 in
set_option maxHeartbeats 4000000 in
theorem insert_shift (g n cap i vb : Nat) (cur X : List Value) (na : ByteArray) (W : World) (hi : i < n) (hroom : n + 1 ≤ cap) (hcap : cap ≤ maxLen) (hh : W.heap[g]? = some (.cells cur.toArray 51 (0, 0))) (hcl : cur.length = cap * 4) (hX : X.length = n * 4) (hc : cur.take X.length = X) (h1 : ∀ v ∈ X, v.oneCell' = true) (hN : Cs W vb (newC na)) (hvb : vb ≠ g) :
    Calls Tryz.prog 108 #[.slice (some ⟨g, 0, none⟩) n cap, .int .i64 i, .slice (some ⟨vb, 0, none⟩) 1 1] W fun e w' => e = .returned (.slice (some ⟨g, 0, none⟩) (n + 1) cap) ∧ w'.heap[g]? = some (.cells (splice (splice cur (i * 4 + 4) (X.drop (i * 4))) (i * 4) (newC na)).toArray 51 (0, 0)) ∧ W.grownBy w' (some g) := by
 unfold maxLen at hcap
 have HG := hid hh
 obtain ⟨tA, hsa⟩ := cs_shape hN
 have hsb : W.shape? g = some (51, cur.length) := by simp [World.shape?, hh]
 have hfa : W.frozen? ⟨vb, 0, none⟩ = false := hN.fr 0
 have hfe : W.frozen? ⟨vb, (newC na).length, none⟩ = false := hN.fr _
 have hov : ∀ lb cb, (callFunc 129 #[.slice (some ⟨vb, 0, none⟩) 1 1, .slice (some ⟨g, (i + 1) * 4, none⟩) lb cb]).run Tryz.prog W = .ok (.value (.bool false)) W := fun lb cb => by
  rw [run_callFunc_extern Tryz.func129 (by kernel_rfl) (by kernel_rfl) (by kernel_rfl) (e := Extern.SlicesOverlaps.overlaps #[22, 22] #[4]) (by kernel_rfl),
   Lib.run_overlaps_apart W 22 4 51 Tryz.underlying22 4 Tryz.sizeOfSh ⟨vb, 0, none⟩ ⟨g, (i + 1) * 4, none⟩ 1 1 lb cb hvb tA 51 _ _ hsa hsb (by omega) hfa hfe]
  rfl
 have hz2 : ¬ ((i : Int) = (n : Int)) := by omega
 have hw1 : IntKind.i64.wrap ((i : Int) + 1) = (i : Int) + 1 := by rw [IntKind.wrap_i64]; omega
 have hw2 : IntKind.i64.wrap ((n : Int) + 1) = (n : Int) + 1 := by rw [IntKind.wrap_i64]; omega
 have hb1 : (0 : Int) ≤ (i : Int) + 1 := by omega
 have hb0 : (0 : Int) ≤ (n : Int) + 1 := by omega
 have hbi : (0 : Int) ≤ (i : Int) := by omega
 have hin : i ≤ n := by omega
 have htn : ((i : Int) + 1).toNat = i + 1 := by omega
 have htm : ((n : Int) + 1).toNat = n + 1 := by omega
 have hb2 : ¬ (cap = i + 1) := by omega
 have hb3 : (i : Int) ≤ (n : Int) + 1 := by omega
 have hb4 : ¬ (cap = i) := by omega
 have hb5 : ¬ ((cap : Int) < (n : Int) + 1) := by omega
 have hb6 : (n : Int) + 1 ≤ (cap : Int) := by omega
 have hb7 : (i : Int) + 1 ≤ (n : Int) + 1 := by omega
 have hXl : (X.drop (i * 4)).length = (n - i) * 4 := by rw [List.length_drop, hX]; omega
 have hcx : ∀ j, j < X.length → cur[j]? = X[j]? := fun j hj => by
  conv => rhs; rw [← hc]
  rw [List.getElem?_take, if_pos hj]
 have e4 : (i + 1) * 4 = i * 4 + 4 := by omega
 have hcp1 : ∀ ty dc sc, (Builtin.copy_ #[22, 22] ty #[.slice (some ⟨g, (i + 1) * 4, none⟩) (n + 1 - (i + 1)) dc, .slice (some ⟨g, i * 4, none⟩) (n + 1 - i) sc]).run Tryz.prog W.drew = .ok (goInt (Nat.min (n + 1 - i) (n + 1 - (i + 1)) : Nat)) (W.drew.setRow g (splice cur ((i + 1) * 4) (X.drop (i * 4))).toArray) := fun ty dc sc =>
  copy_rows W.drew _ _ ty 51 4 g ((i + 1) * 4) (n + 1 - (i + 1)) dc ⟨g, i * 4, none⟩ (n + 1 - i) sc cur 51 (X.drop (i * 4)) Tryz.underlying22 Tryz.sizeSh hh (by rw [hXl]; simp only [Nat.min_def]; split <;> omega)
   (fun j v hj => by
    rw [Addr.add_lit]
    rw [List.getElem?_drop] at hj
    have hjl : i * 4 + j < X.length := (List.getElem?_eq_some_iff.1 hj).1
    have hcj := (hcx _ hjl).trans hj
    show W.cell? _ = _
    simp only [World.cell?, hh]
    simpa using hcj) (by rw [hXl, hcl]; omega) (fun v hv => h1 v (List.mem_of_mem_drop hv))
 obtain ⟨W1, hW1⟩ : ∃ W1, W1 = W.drew.setRow g (splice cur ((i + 1) * 4) (X.drop (i * 4))).toArray := ⟨_, rfl⟩
 rw [← hW1] at hcp1
 have hH1 : W1.heap[g]? = some (.cells (splice cur ((i + 1) * 4) (X.drop (i * 4))).toArray 51 (0, 0)) := by rw [hW1]; exact setRow_heap W.drew g _ _ _ _ hh
 have hg1 : W.grownBy W1 (some g) := by rw [hW1]; exact Nb.trans (Nb.below g ((Below.refl W.heap.size W).drew)) (grown_setRow W.drew g _)
 have hsl : (splice cur ((i + 1) * 4) (X.drop (i * 4))).length = cap * 4 := by rw [length_splice _ _ _ (by rw [hXl, hcl]; omega), hcl]
 have hN1 : Cs W1 vb (newC na) := hN.nb hg1 hvb
 have hcp2 : ∀ ty dc, (Builtin.copy_ #[22, 22] ty #[.slice (some ⟨g, i * 4, none⟩) (n + 1 - i) dc, .slice (some ⟨vb, 0, none⟩) 1 1]).run Tryz.prog W1 = .ok (goInt (Nat.min 1 (n + 1 - i) : Nat)) (W1.setRow g (splice (splice cur ((i + 1) * 4) (X.drop (i * 4))) (i * 4) (newC na)).toArray) := fun ty dc =>
  copy_rows W1 _ _ ty 51 4 g (i * 4) (n + 1 - i) dc ⟨vb, 0, none⟩ 1 1 _ 51 (newC na) Tryz.underlying22 Tryz.sizeSh hH1 (by rw [(newC_one na).1]; simp only [Nat.min_def]; split <;> omega)
   (fun j v hj => by rw [Addr.add_lit, Nat.zero_add]; exact hN1.cell j hj) (by rw [hsl, (newC_one na).1]; omega) (newC_one na).2
 obtain ⟨W2, hW2⟩ : ∃ W2, W2 = W1.setRow g (splice (splice cur ((i + 1) * 4) (X.drop (i * 4))) (i * 4) (newC na)).toArray := ⟨_, rfl⟩
 rw [← hW2] at hcp2
 have hH2 : W2.heap[g]? = some (.cells (splice (splice cur (i * 4 + 4) (X.drop (i * 4))) (i * 4) (newC na)).toArray 51 (0, 0)) := by rw [← e4, hW2]; exact setRow_heap W1 g _ _ _ _ hH1
 have hg2 : W.grownBy W2 (some g) := by rw [hW2]; exact grown_on hg1 (grown_setRow W1 g _)
 have HH2 := hid hH2
 have HG2 := hid hg2
 clear hXl hcx e4 hH1 hg1 hsl hN1 hH2 hg2 hW1 hW2 hc hX h1 hN hh HG hsa hsb hfa hfe hcl
 go_enter Tryz.func108, Tryz.ntmps108
 go_wp2_with (simp only [hov])
 go_region_law (refine step_copy_rows rfl (.tmp 73) (.tmp 76) 22 22 rfl (.slice (some ⟨g, (i + 1) * 4, none⟩) (n + 1 - (i + 1)) (cap - (i + 1))) (.slice (some ⟨g, i * 4, none⟩) (n + 1 - i) (cap - i)) (by simp [Act.eval, Act.put]) (by simp [Act.eval, Act.put]) (hcp1 _ _ _) ?_)
 go_wp2_with (at_builtin; refine wpList_copy_rows rfl _ _ 22 22 rfl (.slice (some ⟨g, i * 4, none⟩) (n + 1 - i) (cap - i)) (.slice (some ⟨vb, 0, none⟩) 1 1) (by simp [Act.eval, Act.put]) (by simp [Act.eval, Act.put]) (hcp2 _ _) ?_)
 go_ret
 exact ⟨rfl, HH2.out, HG2.out⟩
set_option maxRecDepth 100000 in
set_option maxHeartbeats 4000000 in
theorem insert_grow (g n i vb : Nat) (X : List Value) (na : ByteArray) (W : World) (hi : i < n) (h8 : n ≤ 8) (hcs : ∀ j v, X[j]? = some v → W.cell? ⟨g, j, none⟩ = some v) (hgl : g < W.heap.size) (hX : X.length = n * 4) (h1 : ∀ v ∈ X, v.oneCell' = true) (hN : Cs W vb (newC na)) :
    Calls Tryz.prog 108 #[.slice (some ⟨g, 0, none⟩) n n, .int .i64 i, .slice (some ⟨vb, 0, none⟩) 1 1] W fun e w' => ∃ (G : Nat) (cur : List Value), e = .returned (.slice (some ⟨W.heap.size, 0, none⟩) (n + 1) G) ∧ n + 1 ≤ G ∧ G ≤ maxLen ∧ cur.length = G * 4 ∧ cur.take (X.length + 4) = X.take (i * 4) ++ (newC na ++ X.drop (i * 4)) ∧ w'.heap[W.heap.size]? = some (.cells cur.toArray 51 (0, 0)) ∧ Below W.heap.size W w' := by
 obtain ⟨i0, hi0, hz0, hzs, hzb⟩ := info_parts Tryz.infoRF
 have hold : (Builtin.firstCells i0.size i (.slice (some ⟨g, 0, none⟩) i n)).run Tryz.prog W.drew = .ok (X.take (i * 4)).toArray W.drew := by
  rw [hzs]
  exact run_firstCells_some W.drew 4 i ⟨g, 0, none⟩ i n (X.take (i * 4)) (by rw [List.length_take, hX]; omega) (fun j v hj => by
   rw [Addr.add_lit, Nat.zero_add]
   rw [List.getElem?_take] at hj
   split at hj
   · exact hcs j v hj
   · cases hj)
 obtain ⟨G, hG⟩ : ∃ G, G = grownCap W (n + 1) n 51 := ⟨_, rfl⟩
 have hGn : n + 1 ≤ G := by rw [hG]; exact grownCap_ge W _ _ _
 have hGm : G ≤ maxLen := by rw [hG]; exact grownCap_le_maxLen W (n + 1) n 51 (by unfold maxLen; omega)
 obtain ⟨R, hR⟩ : ∃ R : List Value, R.toArray = (X.take (i * 4)).toArray ++ Builtin.zeroCells (Value.agg #[.string ⟨#[]⟩, .slice none 0 0, .int .i64 0, .slice none 0 0]).cells (n + 1 - i) ++ Builtin.zeroCells (Value.agg #[.string ⟨#[]⟩, .slice none 0 0, .int .i64 0, .slice none 0 0]).cells (G - (n + 1)) := ⟨_, Array.toArray_toList⟩
 have hRl : R.length = G * 4 ∧ R.take (i * 4) = X.take (i * 4) := by
  have e : R = X.take (i * 4) ++ ((Builtin.zeroCells (Value.agg #[.string ⟨#[]⟩, .slice none 0 0, .int .i64 0, .slice none 0 0]).cells (n + 1 - i)).toList ++ (Builtin.zeroCells (Value.agg #[.string ⟨#[]⟩, .slice none 0 0, .int .i64 0, .slice none 0 0]).cells (G - (n + 1))).toList) := by
   have := congrArg Array.toList hR
   simpa using this
  have l0 : (X.take (i * 4)).length = i * 4 := Hu.len_take (by omega)
  refine ⟨?_, by rw [e, Hu.take_app (by omega), l0, Nat.sub_self, List.take_zero, List.append_nil]⟩
  rw [e]
  simp [Builtin.zeroCells, Value.cells, l0]
  omega
 obtain ⟨W1, hW1⟩ : ∃ W1, W1 = W.drew.alloc (.cells R.toArray 51) := ⟨_, rfl⟩
 have hkk : (n : Int) + 1 - (i : Int) = ((n + 1 - i : Nat) : Int) := by omega
 have hrz : ∀ ty, (Builtin.append_ #[22, 3] ty #[.slice (some ⟨g, 0, none⟩) i n, .int .i64 ((n : Int) + 1 - (i : Int))]).run Tryz.prog W = .ok (.slice (some ⟨W.heap.size, 0, none⟩) (n + 1) G) W1 := fun ty => by
  have h := Lib.run_append_grow_zeros W 22 3 ty 51 i0 _ .i64 .i64 Tryz.underlying22 Tryz.underlying3 hi0 hz0 (some ⟨g, 0, none⟩) i n (X.take (i * 4)) hold (n + 1 - i) (by omega) (by omega) (by omega) (by omega) (by rw [hzb]; omega) (by rw [hzb, show i + (n + 1 - i) = n + 1 by omega]; exact growslice_fits (by omega) (by omega))
  rw [show i + (n + 1 - i) = n + 1 by omega, ← hG, ← hR, ← hW1] at h
  rw [hkk]
  exact h
 have hb1 : Below W.heap.size W W1 := by rw [hW1]; exact ((Below.refl _ _).drew).alloc (Nat.le_refl _) _
 have hH1 : W1.heap[W.heap.size]? = some (.cells R.toArray 51 (0, 0)) := by rw [hW1]; show (W.heap.push _)[W.heap.size]? = _; simp
 have hN1 : Cs W1 vb (newC na) := hN.below hb1
 have hvl := hN.lt
 have hcpA : ∀ ty dc, (Builtin.copy_ #[22, 22] ty #[.slice (some ⟨W.heap.size, i * 4, none⟩) (n + 1 - i) dc, .slice (some ⟨vb, 0, none⟩) 1 1]).run Tryz.prog W1 = .ok (goInt (Nat.min 1 (n + 1 - i) : Nat)) (W1.setRow W.heap.size (splice R (i * 4) (newC na)).toArray) := fun ty dc =>
  copy_rows W1 _ _ ty 51 4 W.heap.size (i * 4) (n + 1 - i) dc ⟨vb, 0, none⟩ 1 1 R 51 (newC na) Tryz.underlying22 Tryz.sizeSh hH1 (by rw [(newC_one na).1]; simp only [Nat.min_def]; split <;> omega)
   (fun j v hj => by rw [Addr.add_lit, Nat.zero_add]; exact hN1.cell j hj) (by rw [hRl.1, (newC_one na).1]; omega) (newC_one na).2
 obtain ⟨W2, hW2⟩ : ∃ W2, W2 = W1.setRow W.heap.size (splice R (i * 4) (newC na)).toArray := ⟨_, rfl⟩
 rw [← hW2] at hcpA
 have hH2 : W2.heap[W.heap.size]? = some (.cells (splice R (i * 4) (newC na)).toArray 51 (0, 0)) := by rw [hW2]; exact setRow_heap W1 _ _ _ _ _ hH1
 have hb2 : Below W.heap.size W W2 := by rw [hW2]; exact below_setRow hb1 (Nat.le_refl _) _
 have hl2 : (splice R (i * 4) (newC na)).length = G * 4 := by rw [length_splice _ _ _ (by rw [(newC_one na).1, hRl.1]; omega), hRl.1]
 have hXl : (X.drop (i * 4)).length = (n - i) * 4 := by rw [List.length_drop, hX]; omega
 have hcpB : ∀ ty dc sc, (Builtin.copy_ #[22, 22] ty #[.slice (some ⟨W.heap.size, (i + 1) * 4, none⟩) (n + 1 - (i + 1)) dc, .slice (some ⟨g, i * 4, none⟩) (n - i) sc]).run Tryz.prog W2.drew = .ok (goInt (Nat.min (n - i) (n + 1 - (i + 1)) : Nat)) (W2.drew.setRow W.heap.size (splice (splice R (i * 4) (newC na)) ((i + 1) * 4) (X.drop (i * 4))).toArray) := fun ty dc sc =>
  copy_rows W2.drew _ _ ty 51 4 W.heap.size ((i + 1) * 4) (n + 1 - (i + 1)) dc ⟨g, i * 4, none⟩ (n - i) sc _ 51 (X.drop (i * 4)) Tryz.underlying22 Tryz.sizeSh hH2 (by rw [hXl]; simp only [Nat.min_def]; split <;> omega)
   (fun j v hj => by
    rw [Addr.add_lit]
    rw [List.getElem?_drop] at hj
    exact (hb2.cell (p := ⟨g, i * 4 + j, none⟩) hgl).trans (hcs _ v hj)) (by rw [hXl, hl2]; omega) (fun v hv => h1 v (List.mem_of_mem_drop hv))
 obtain ⟨W3, hW3⟩ : ∃ W3, W3 = W2.drew.setRow W.heap.size (splice (splice R (i * 4) (newC na)) ((i + 1) * 4) (X.drop (i * 4))).toArray := ⟨_, rfl⟩
 rw [← hW3] at hcpB
 have HH3 := hid (show W3.heap[W.heap.size]? = some (.cells (splice (splice R (i * 4) (newC na)) (i * 4 + 4) (X.drop (i * 4))).toArray 51 (0, 0)) from by rw [show i * 4 + 4 = (i + 1) * 4 by omega, hW3]; exact setRow_heap W2.drew _ _ _ _ _ hH2)
 have HB3 := hid (show Below W.heap.size W W3 from by rw [hW3]; exact below_setRow hb2.drew (Nat.le_refl _) _)
 have HL3 := hid (show (splice (splice R (i * 4) (newC na)) (i * 4 + 4) (X.drop (i * 4))).length = G * 4 ∧ (splice (splice R (i * 4) (newC na)) (i * 4 + 4) (X.drop (i * 4))).take (X.length + 4) = X.take (i * 4) ++ (newC na ++ X.drop (i * 4)) from ⟨by rw [length_splice _ _ _ (by rw [hXl, hl2]; omega), hl2], Hu.spl_new (newC_one na).1 (by rw [hX, hRl.1]; omega) (by omega) hRl.2⟩)
 have HGn := hid hGn
 have HGm := hid hGm
 have hz2 : ¬ ((i : Int) = (n : Int)) := by omega
 have hw1 : IntKind.i64.wrap ((i : Int) + 1) = (i : Int) + 1 := by rw [IntKind.wrap_i64]; omega
 have hw2 : IntKind.i64.wrap ((n : Int) + 1) = (n : Int) + 1 := by rw [IntKind.wrap_i64]; omega
 have hw3 : IntKind.i64.wrap ((n : Int) + 1 - (i : Int)) = (n : Int) + 1 - (i : Int) := by rw [IntKind.wrap_i64]; omega
 have hq1 : (0 : Int) ≤ (i : Int) + 1 := by omega
 have hq0 : (0 : Int) ≤ (n : Int) + 1 := by omega
 have hbi : (0 : Int) ≤ (i : Int) := by omega
 have hin : i ≤ n := by omega
 have htn : ((i : Int) + 1).toNat = i + 1 := by omega
 have hq2 : ¬ (G = i + 1) := by omega
 have hq4 : ¬ (G = i) := by omega
 have hq5 : ((n : Int) < (n : Int) + 1) := by omega
 have hq6 : (i : Int) ≤ (n : Int) := by omega
 have hq7 : (i : Int) + 1 ≤ (n : Int) + 1 := by omega
 have hq8 : ¬ (n = i) := by omega
 have hq9 : (i : Int) ≤ (n : Int) + 1 := by omega
 unfold maxLen at hGm
 clear hold hR hRl hkk hb1 hH1 hN1 hH2 hb2 hl2 hXl hG hX h1 hcs hN hW1 hW2 hW3 hi0 hz0 hzs hzb
 go_enter Tryz.func108, Tryz.ntmps108
 go_wp2_with (first
  | (at_builtin; refine wpList_append_eq rfl _ _ 22 3 rfl (.slice (some ⟨g, 0, none⟩) i n) (.int .i64 ((n : Int) + 1 - (i : Int))) (by simp [Act.eval, Act.put]) (by simp [Act.eval, Act.put]) (hrz _) ?_)
  | (at_builtin; refine wpList_copy_rows rfl _ _ 22 22 rfl (.slice (some ⟨W.heap.size, i * 4, none⟩) (n + 1 - i) (G - i)) (.slice (some ⟨vb, 0, none⟩) 1 1) (by simp [Act.eval, Act.put]) (by simp [Act.eval, Act.put]) (hcpA _ _) ?_))
 go_region_law (refine step_copy_rows rfl (.tmp 50) (.tmp 53) 22 22 rfl (.slice (some ⟨W.heap.size, (i + 1) * 4, none⟩) (n + 1 - (i + 1)) (G - (i + 1))) (.slice (some ⟨g, i * 4, none⟩) (n - i) (n - i)) (by simp [Act.eval, Act.put]) (by simp [Act.eval, Act.put]) (hcpB _ _ _) ?_)
 go_wp2_with fail
 go_ret
 exact ⟨G, _, rfl, HGn.out, HGm.out, HL3.out.1, HL3.out.2, HH3.out, HB3.out⟩
theorem insert_any (B : Nat) (v : Value) (L : List Sh) (i : Nat) (na : ByteArray) (h8 : L.length ≤ 8) (hi : i ≤ L.length) : InsOK B v L i na := by
 by_cases hie : i = L.length
 · subst hie; exact insert_end B v L na h8
 intro W vb hO hM hc hb
 obtain ⟨us, hj, hr, ho, hx⟩ := hO
 have hlr := rowsF_len hj.1
 have hone : ∀ r ∈ rowsF L us, r.length = 4 ∧ ∀ u ∈ r, u.oneCell' = true := by obtain ⟨_, _, _, _, _, h4, _⟩ := hr; exact h4
 have hfl : ∀ r ∈ rowsF L us, r.length = 4 := fun r hr => (hone r hr).1
 have hrow := own_of_rm hr hM (ho.mono (Nat.zero_le B))
 obtain ⟨hl, h2⟩ := hrow
 rcases h2 with ⟨_, hz⟩ | ⟨g, cap, cur, rfl, _, hh, hnc, hm, hz, htake⟩
 · rw [hlr] at hz; omega
 have hone' : ∀ u ∈ (rowsF L us).flatten, u.oneCell' = true := fun u hu => by
  obtain ⟨r, hr, hu⟩ := List.mem_flatten.1 hu
  exact (hone r hr).2 u hu
 have hnew : ∀ r ∈ (rowsF L us).take i ++ newC na :: (rowsF L us).drop i, r.length = 4 ∧ ∀ u ∈ r, u.oneCell' = true := fun r hr => by
  rcases List.mem_append.1 hr with h | h
  · exact hone r (List.mem_of_mem_take h)
  · rcases List.mem_cons.1 h with rfl | h
    · exact newC_one na
    · exact hone r (List.mem_of_mem_drop h)
 have hnl : ((rowsF L us).take i ++ newC na :: (rowsF L us).drop i).length = L.length + 1 := by simp [hlr]; omega
 have hnf : ((rowsF L us).take i ++ newC na :: (rowsF L us).drop i).flatten = (rowsF L us).flatten.take (i * 4) ++ (newC na ++ (rowsF L us).flatten.drop (i * 4)) := by
  rw [List.flatten_append, List.flatten_cons, Hu.flat_take hfl, Hu.flat_drop hfl]
 have hnfl : ((rowsF L us).take i ++ newC na :: (rowsF L us).drop i).flatten.length = (L.length + 1) * 4 := by rw [flatten_len (n := 4) (fun r hr => (hnew r hr).1), hnl]
 have hXl : (rowsF L us).flatten.length = L.length * 4 := by rw [hl, hlr]
 have hvb : g < vb := hb g rfl
 rw [hlr] at hnc hx ⊢
 rw [hlr] at htake
 by_cases hroom : L.length + 1 ≤ cap
 · refine (insert_shift g L.length cap i vb cur.toList (rowsF L us).flatten na W (by omega) hroom hm (by simpa using hh) (by simpa using hz) hXl (by rw [hXl]; exact htake) hone' hc (by omega)).mono ?_
   rintro e w' ⟨rfl, hH, hG⟩
   refine ⟨_, rfl, ?_, hG⟩
   have hsp : (splice (splice cur.toList (i * 4 + 4) ((rowsF L us).flatten.drop (i * 4))) (i * 4) (newC na)).length = cap * 4 := by
    have hd : ((rowsF L us).flatten.drop (i * 4)).length = (L.length - i) * 4 := by rw [List.length_drop, hXl]; omega
    rw [length_splice _ _ _ (by rw [length_splice _ _ _ (by rw [hd]; simp; omega), (newC_one na).1]; simp; omega), length_splice _ _ _ (by rw [hd]; simp; omega)]
    simpa using hz
   have hown : w'.ownsRow 0 51 4 (.slice (some ⟨g, 0, none⟩) (L.length + 1) cap) ((rowsF L us).take i ++ newC na :: (rowsF L us).drop i).length ((rowsF L us).take i ++ newC na :: (rowsF L us).drop i).flatten := by
    rw [hnl]
    refine ⟨hnfl, Or.inr ⟨g, cap, _, rfl, Nat.zero_le _, hH, by omega, hm, by simpa using hsp, ?_⟩⟩
    rw [hnf, ← Hu.spl_two (cur := cur.toList) (newC_one na).1 (by rw [hXl]; simp; omega) (by rw [hXl]; omega) (by rw [hXl]; exact htake), hXl]
    simp [Nat.add_mul]
   exact liesF_new (josAt_row hj hx hG) (by omega) (liesR_own hown (by rw [hnl]; omega) hnew)
 · obtain rfl : cap = L.length := by omega
   have hcs : ∀ j u, (rowsF L us).flatten[j]? = some u → W.cell? ⟨g, j, none⟩ = some u := fun j u hj => by
    have hjl : j < L.length * 4 := by rw [← hXl]; exact (List.getElem?_eq_some_iff.1 hj).1
    simp only [World.cell?, hh]
    rw [← htake, List.getElem?_take, if_pos hjl] at hj
    simpa using hj
   refine (insert_grow g L.length i vb (rowsF L us).flatten na W (by omega) h8 hcs (heap_lt hh) hXl hone' hc).mono ?_
   rintro e w' ⟨G, c2, rfl, hGn, hGm, hcl, htk, hH, hB⟩
   have hG : W.grownBy w' (some g) := Nb.below g hB
   refine ⟨_, rfl, ?_, hG⟩
   have hown : w'.ownsRow 0 51 4 (.slice (some ⟨W.heap.size, 0, none⟩) (L.length + 1) G) ((rowsF L us).take i ++ newC na :: (rowsF L us).drop i).length ((rowsF L us).take i ++ newC na :: (rowsF L us).drop i).flatten := by
    rw [hnl]
    refine ⟨hnfl, Or.inr ⟨W.heap.size, G, _, rfl, Nat.zero_le _, hH, by omega, hGm, by simpa using hcl, ?_⟩⟩
    rw [hnf, ← htk, hXl]
    simp [Nat.add_mul]
   exact liesF_new (josAt_row hj hx hG) (by omega) (liesR_own hown (by rw [hnl]; omega) hnew)
end Go.Proofs.YtchlgpeiombmdaaGreat
set_option linter.unusedSimpArgs false
set_option linter.unusedVariables false
namespace Go.Proofs.YtchlgpeiombmdaaGreat
open Go.RowKit

namespace Hu
theorem plc_le (L : List Sh) (x : ByteArray) : plc L x ≤ L.length := by
 rw [plc]
 exact List.findIdx_le_length
def anU (U : Ur) : An := ⟨U.e, U.num, Jn.zeroP⟩
def upU (H : Hb) (U : Ur) : Hb := upH H U.e U.ss U.nx U.la U.ro
/-- What a request that is not denied leaves, and its answer. -/
def skH (H : Hb) (q : Rq) : Hb :=
 if q.kind = 1 then cmH H (whr H.fos H.gs q.fo) q.key q.ch
 else if q.kind = 2 then H
 else if q.kind = 3 then gsH H (Pp.giE H.gs q.fo q.who q.name q.num) (Pp.giL H.gs q.fo q.who q.name q.num)
 else if q.kind = 4 then upU H (opU H q.who q.num)
 else if q.kind = 5 then upU H (apU H q.who q.num q.off q.text)
 else if q.kind = 6 then H
 else if q.kind = 7 then fnH H q (fnU H q.who q.num)
 else mkH H q.fo q.who
def skA (H : Hb) (q : Rq) : An :=
 if q.kind = 1 then ⟨cmE H (whr H.fos H.gs q.fo) q.key q.ch, cmN H (whr H.fos H.gs q.fo) q.key q.ch, Jn.zeroP⟩
 else if q.kind = 2 then ⟨Jn.rdE (joAt H (whr H.fos H.gs q.fo)) q.num 10, 0, Jn.rdR (joAt H (whr H.fos H.gs q.fo)) q.num 10⟩
 else if q.kind = 3 then ⟨Pp.giE H.gs q.fo q.who q.name q.num, 0, Jn.zeroP⟩
 else if q.kind = 4 then anU (opU H q.who q.num)
 else if q.kind = 5 then anU (apU H q.who q.num q.off q.text)
 else if q.kind = 6 then ⟨quE H q.who q.num, quN H q.who q.num, Jn.zeroP⟩
 else if q.kind = 7 then ⟨fnE H q (fnU H q.who q.num), fnN H q (fnU H q.who q.num), Jn.zeroP⟩
 else ⟨mkE H q.fo q.who, 0, Jn.zeroP⟩
def svH (H : Hb) (q : Rq) : Hb := if ckE H.gs q = 0 then skH H q else H
def svA (H : Hb) (q : Rq) : An := if ckE H.gs q = 0 then skA H q else ⟨ckE H.gs q, 0, Jn.zeroP⟩
theorem kinds {k : Int} (h1 : 1 ≤ k) (h2 : k ≤ 8) : k = 1 ∨ k = 2 ∨ k = 3 ∨ k = 4 ∨ k = 5 ∨ k = 6 ∨ k = 7 ∨ k = 8 := by omega
theorem sk_1 {H : Hb} {q : Rq} (h : q.kind = 1) : skH H q = cmH H (whr H.fos H.gs q.fo) q.key q.ch ∧ skA H q = ⟨cmE H (whr H.fos H.gs q.fo) q.key q.ch, cmN H (whr H.fos H.gs q.fo) q.key q.ch, Jn.zeroP⟩ := by simp [skH, skA, h]
theorem sk_2 {H : Hb} {q : Rq} (h : q.kind = 2) : skH H q = H ∧ skA H q = ⟨Jn.rdE (joAt H (whr H.fos H.gs q.fo)) q.num 10, 0, Jn.rdR (joAt H (whr H.fos H.gs q.fo)) q.num 10⟩ := by simp [skH, skA, h]
theorem sk_3 {H : Hb} {q : Rq} (h : q.kind = 3) : skH H q = gsH H (Pp.giE H.gs q.fo q.who q.name q.num) (Pp.giL H.gs q.fo q.who q.name q.num) ∧ skA H q = ⟨Pp.giE H.gs q.fo q.who q.name q.num, 0, Jn.zeroP⟩ := by simp [skH, skA, h]
theorem sk_4 {H : Hb} {q : Rq} (h : q.kind = 4) : skH H q = upU H (opU H q.who q.num) ∧ skA H q = anU (opU H q.who q.num) := by simp [skH, skA, h]
theorem sk_5 {H : Hb} {q : Rq} (h : q.kind = 5) : skH H q = upU H (apU H q.who q.num q.off q.text) ∧ skA H q = anU (apU H q.who q.num q.off q.text) := by simp [skH, skA, h]
theorem sk_6 {H : Hb} {q : Rq} (h : q.kind = 6) : skH H q = H ∧ skA H q = ⟨quE H q.who q.num, quN H q.who q.num, Jn.zeroP⟩ := by simp [skH, skA, h]
theorem sk_7 {H : Hb} {q : Rq} (h : q.kind = 7) : skH H q = fnH H q (fnU H q.who q.num) ∧ skA H q = ⟨fnE H q (fnU H q.who q.num), fnN H q (fnU H q.who q.num), Jn.zeroP⟩ := by simp [skH, skA, h]
theorem sk_8 {H : Hb} {q : Rq} (h : q.kind = 8) : skH H q = mkH H q.fo q.who ∧ skA H q = ⟨mkE H q.fo q.who, 0, Jn.zeroP⟩ := by simp [skH, skA, h]
end Hu
theorem serve_any (H : Hb) (q : Rq) (v vq : Value) (w : World) (hv : LiesH w v H) (hs : SizedH H) (hq : LiesQ w vq q) (hsq : SizedQ q) (h0 : Hu.hE H = 0) :
    Calls Tryz.prog 9 #[v, vq] w fun e w' => ∃ u a, e = .returned (.tuple #[u, a, .int .i64 0]) ∧ LiesH w' u (Hu.svH H q) ∧ LiesA w' a (Hu.svA H q) ∧ Below w.heap.size w w' := by
 by_cases hck : Hu.ckE H.gs q = 0
 · rw [Hu.svH, Hu.svA, if_pos hck, if_pos hck]
   obtain ⟨k1, k2, _⟩ := Hu.ck_parts hck
   rcases Hu.kinds k1 k2 with hk | hk | hk | hk | hk | hk | hk | hk
   · rw [(Hu.sk_1 hk).1, (Hu.sk_1 hk).2]; exact serve_commit H q v vq w hv hs hq hsq h0 hk hck
   · rw [(Hu.sk_2 hk).1, (Hu.sk_2 hk).2]; exact serve_page H q v vq w hv hs hq hsq h0 hk hck
   · rw [(Hu.sk_3 hk).1, (Hu.sk_3 hk).2]; exact serve_give H q v vq w hv hs hq hsq h0 hk hck
   · rw [(Hu.sk_4 hk).1, (Hu.sk_4 hk).2]; exact serve_4 H q v vq w hv hs hq hsq h0 hk hck
   · rw [(Hu.sk_5 hk).1, (Hu.sk_5 hk).2]; exact serve_5 H q v vq w hv hs hq hsq h0 hk hck
   · rw [(Hu.sk_6 hk).1, (Hu.sk_6 hk).2]; exact serve_6 H q v vq w hv hs hq hsq h0 hk hck
   · rw [(Hu.sk_7 hk).1, (Hu.sk_7 hk).2]; exact serve_7 H q v vq w hv hs hq hsq h0 hk hck
   · rw [(Hu.sk_8 hk).1, (Hu.sk_8 hk).2]
     exact serve_make H q v vq w hv hs hq hsq h0 hk hck (fun B v => insert_any B v H.fos _ q.fo (Hu.cf_parts (Hu.h_parts h0).2.1).1 (Hu.plc_le _ _))
 · rw [Hu.svH, Hu.svA, if_neg hck, if_neg hck]
   exact serve_err H q v vq w hv hs hq hsq h0 hck
end Go.Proofs.YtchlgpeiombmdaaGreat
set_option linter.unusedSimpArgs false
set_option linter.unusedVariables false
namespace Go.Proofs.YtchlgpeiombmdaaGreat
open Go.RowKit

namespace Jn
theorem run_cons {n : Int} {T S : List En} {c : Co} {r : List Co} (h : runJ n T (c :: r) = (0, S)) : coE c n = 0 ∧ Pp.allE T c.ch c.nu = 0 ∧ runJ (n + 1) (Pp.allR T c.ch c.nu) r = (0, S) := by
 have h1 := run_first (n := n) (T := T) (c := c) (r := r) (by rw [h])
 rw [runJ, if_neg (fun x => x h1.1), if_neg (fun x => x h1.2)] at h
 exact ⟨h1.1, h1.2, h⟩
theorem run_snoc : ∀ {l : List Co} {n : Int} {T S : List En} {c : Co}, runJ n T l = (0, S) → coE c (n + l.length) = 0 → Pp.allE S c.ch c.nu = 0 → runJ n T (l ++ [c]) = (0, Pp.allR S c.ch c.nu)
 | [], n, T, S, c, h, h1, h2 => by
  rw [runJ] at h
  injection h with _ h
  subst h
  simp at h1
  rw [List.nil_append, runJ, if_neg (fun x => x h1), if_neg (fun x => x h2), runJ]
 | d :: r, n, T, S, c, h, h1, h2 => by
  obtain ⟨a, b, e⟩ := run_cons h
  rw [List.cons_append, runJ, if_neg (fun x => x a), if_neg (fun x => x b)]
  refine run_snoc e ?_ h2
  rw [← h1]; congr 1; simp; omega
theorem new_zero {J : Jo} {l : List Pp.Ch} (h : newE J l = 0) : ¬ l = [] ∧ last J + 1 ≤ 1000000 ∧ Pp.allE (tree J) l (last J + 1) = 0 := by
 rw [newE] at h
 by_cases h1 : l = []
 · rw [if_pos h1] at h; cases h
 · rw [if_neg h1] at h
   by_cases h2 : 1000000 < last J + 1
   · rw [if_pos h2] at h; cases h
   · rw [if_neg h2] at h
     exact ⟨h1, by omega, h⟩
theorem new_co {J : Jo} {key : ByteArray} {l : List Pp.Ch} (hk : Pp.keyB key.data.toList = true) (h : newE J l = 0) : coE (newC J key l) (J.first + J.cos.length) = 0 := by
 obtain ⟨h1, h2, _⟩ := new_zero h
 have e : last J + 1 = J.first + J.cos.length := by rw [last]; omega
 rw [coE, if_neg (fun x => x e), if_neg (by omega), if_neg (fun x => x hk)]
 exact if_neg h1
theorem has_none {l : List Co} {p : List UInt8} (h : hasB l p = false) : ∀ c ∈ l, c.ke.data.toList ≠ p := fun c hc he => by
 have := List.any_eq_false.1 h c hc
 simp [he] at this
theorem add_chk {J : Jo} {key : ByteArray} {l : List Pp.Ch} (h : chkE J = 0) (hk : Pp.keyB key.data.toList = true) (hh : hasB J.cos key.data.toList = false) (hn : newE J l = 0) : chkE (addJ J key l) = 0 := by
 obtain ⟨h1, h2, h3, h4, h5⟩ := chk_parts h
 obtain ⟨n1, n2, n3⟩ := new_zero hn
 obtain ⟨f1, f2⟩ := ver_iff.1 h2
 have hrun : runJ J.first J.base (J.cos ++ [newC J key l]) = (0, Pp.allR (tree J) l (last J + 1)) := run_snoc h4 (new_co hk hn) n3
 have hap : Apart (J.cos ++ [newC J key l]) := by
  rw [Apart, List.pairwise_append]
  refine ⟨h5, by simp, fun x hx y hy => ?_⟩
  rw [List.mem_singleton] at hy
  rw [hy]; exact has_none hh x hx
 have hl : last J = J.first - 1 + J.cos.length := rfl
 rw [addJ, cutJ]
 by_cases hm : 30 < (J.cos ++ [newC J key l]).length
 · rw [if_pos hm]
   cases hj : J.cos with
   | nil => rw [hj] at hm; simp at hm
   | cons c r =>
    rw [hj] at hrun hap hm h3 hl
    simp only [List.cons_append] at hrun hap ⊢
    obtain ⟨r1, r2, r3⟩ := run_cons hrun
    have hnu := (co_zero r1).1
    rw [hnu] at r2 r3
    simp at hm h3 hl
    refine chk_ok ((Pp.good_iff _).2 (all_good r2)) (ver_iff.2 ⟨?_, ?_⟩) ?_ r3 ?_
    · show 1 ≤ J.first + 1; omega
    · show J.first + 1 ≤ 1000000; omega
    · simp; omega
    · exact (List.pairwise_cons.1 hap).2
 · rw [if_neg hm]
   exact chk_ok h1 h2 hm hrun hap
theorem add_mem {J : Jo} {key : ByteArray} {l : List Pp.Ch} : (∃ r, (addJ J key l).cos = r ++ [newC J key l] ∧ ∀ c ∈ r, c ∈ J.cos) ∧ ((addJ J key l).base = J.base ∨ ∃ c r, J.cos = c :: r ∧ (addJ J key l).base = Pp.allR J.base c.ch J.first) := by
 rw [addJ, cutJ]
 by_cases hm : 30 < (J.cos ++ [newC J key l]).length
 · rw [if_pos hm]
   cases hj : J.cos with
   | nil => rw [hj] at hm; simp at hm
   | cons c r =>
    simp only [List.cons_append]
    exact ⟨⟨r, rfl, fun x hx => List.mem_cons_of_mem _ hx⟩, Or.inr ⟨c, r, rfl, rfl⟩⟩
 · rw [if_neg hm]
   exact ⟨⟨J.cos, rfl, fun x hx => hx⟩, Or.inl rfl⟩
/-- Who asks again by a key asks once. -/
theorem com_again {J : Jo} {key : ByteArray} {a : List Pp.Ch} (h : comE J key a = 0) (b : List Pp.Ch) : chkE (comR J key a) = 0 ∧ comE (comR J key a) key b = 0 ∧ comN (comR J key a) key b = comN J key a ∧ comR (comR J key a) key b = comR J key a := by
 have hc : chkE J = 0 := by
  by_cases hc : chkE J = 0
  · exact hc
  · rw [(com_chk hc).1] at h; exact absurd h hc
 have hk : Pp.keyB key.data.toList = true := by
  cases hk : Pp.keyB key.data.toList with
  | true => rfl
  | false => rw [(com_key hc hk).1] at h; cases h
 cases hh : hasB J.cos key.data.toList with
 | true =>
  obtain ⟨_, h2, h3⟩ := com_has (l := a) hc hk hh
  obtain ⟨k1, k2, k3⟩ := com_has (l := b) hc hk hh
  rw [h3, h2]
  exact ⟨hc, k1, k2, k3⟩
 | false =>
  have hn : newE J a = 0 := by rw [← com_new hc hk hh]; exact h
  obtain ⟨_, h2, h3⟩ := com_add hc hk hh hn
  rw [h3, h2]
  have hx := add_chk hc hk hh hn
  obtain ⟨⟨r, hr, hm⟩, _⟩ := add_mem (J := J) (key := key) (l := a)
  have hh2 : hasB (addJ J key a).cos key.data.toList = true := by rw [hr, hasB, List.any_append]; simp [newC]
  obtain ⟨k1, k2, k3⟩ := com_has (l := b) hx hk hh2
  refine ⟨hx, k1, ?_, k3⟩
  rw [k2, numOf, hr, List.find?_append]
  have : r.find? (fun c => c.ke.data.toList == key.data.toList) = none := by
   rw [List.find?_eq_none]
   intro x hx he
   exact has_none hh x (hm x hx) (by simpa using he)
  rw [this]
  simp [newC]
end Jn
namespace Jn
theorem com_sized {J : Jo} {key : ByteArray} {a : List Pp.Ch} {B : Nat} (h : comE J key a = 0) (hc : SizedO B J.cos) (hk : key.size ≤ B) (ha : SizedC B a) : SizedO B (comR J key a).cos := by
 rw [comR, if_neg (fun x => x h)]
 split
 · exact hc
 · obtain ⟨⟨r, hr, hm⟩, _⟩ := add_mem (J := J) (key := key) (l := a)
   rw [hr]
   intro c hcm
   rcases List.mem_append.1 hcm with hcm | hcm
   · exact hc c (hm c hcm)
   · rw [List.mem_singleton] at hcm
     rw [hcm]; exact ⟨hk, ha⟩
end Jn
end Go.Proofs.YtchlgpeiombmdaaGreat
set_option linter.unusedSimpArgs false
set_option linter.unusedVariables false
namespace Go.Proofs.YtchlgpeiombmdaaGreat
open Go.RowKit
namespace Hu

theorem na_plc {x : ByteArray} : ∀ {L M : List Sh}, L.map Sh.na = M.map Sh.na → plc L x = plc M x := fun {L M} h => by
 have e : ∀ K : List Sh, plc K x = (K.map Sh.na).findIdx (fun n => decide (0 ≤ Lib.compareBytes n.data.toList x.data.toList)) := fun K => by
  rw [List.findIdx_map]; rfl
 rw [e, e, h]
theorem na_isB {x : ByteArray} : ∀ {L M : List Sh}, L.map Sh.na = M.map Sh.na → isB L x = isB M x := fun {L M} h => by
 have e : ∀ K : List Sh, isB K x = (K.map Sh.na).any (fun n => decide (Lib.compareBytes n.data.toList x.data.toList = 0)) := fun K => by
  rw [List.any_map]; rfl
 rw [e, e, h]
theorem na_ris : ∀ {L M : List Sh}, L.map Sh.na = M.map Sh.na → risB L = risB M
 | [], [], _ => rfl
 | [], _ :: _, h => by simp at h
 | _ :: _, [], h => by simp at h
 | [_], [_], _ => rfl
 | [_], _ :: _ :: _, h => by simp at h
 | _ :: _ :: _, [_], h => by simp at h
 | a :: b :: r, c :: d :: t, h => by
  have h1 : a.na = c.na := by simp at h; exact h.1
  have h2 : b.na = d.na := by simp at h; exact h.2.1
  have h3 : (b :: r).map Sh.na = (d :: t).map Sh.na := by simp at h; simp [h.2.1, h.2.2]
  rw [risB, risB, na_ris h3, lt, lt, h1, h2]
theorem na_told {L M : List Sh} (G : List Gr) (h : L.map Sh.na = M.map Sh.na) : told L G = told M G := by
 unfold told
 refine List.map_congr_left fun g _ => ?_
 rw [na_plc h]
theorem na_tel {L M : List Sh} (G : List Gr) (h : L.map Sh.na = M.map Sh.na) : telE L G = telE M G := by
 have hl : L.length = M.length := by have := congrArg List.length h; simpa using this
 unfold telE
 rw [na_told G h, hl]
 have e : (G.all fun g => isB L g.fo) = (G.all fun g => isB M g.fo) := by
  congr 1; funext g; exact na_isB h
 rw [e]
theorem put_na (H : Hb) (i : Nat) (J : Jo) : (putJ H i J).fos.map Sh.na = H.fos.map Sh.na := by
 rw [putJ]
 apply List.ext_getElem?
 intro j
 simp only [List.getElem?_map, List.getElem?_modify]
 by_cases e : i = j
 · subst e; cases H.fos[i]? <;> simp
 · simp [e]
theorem shs_iff : ∀ {L : List Sh}, shsE L = 0 ↔ ∀ s ∈ L, shE s = 0
 | [] => by simp [shsE]
 | s :: r => by
  rw [shsE]
  by_cases h : shE s = 0
  · rw [if_neg (fun x => x h), shs_iff]; simp [h]
  · rw [if_pos h]; simp [h]
theorem cf_make {L : List Sh} (h1 : L.length ≤ 8) (h2 : shsE L = 0) (h3 : risB L = true) : cfE L = 0 := by
 rw [cfE, if_neg (by omega), if_neg (fun x => x h2), if_pos h3]
theorem h_make {H : Hb} (h0 : ¬ (H.now < 0 ∨ 1099511627776 < H.now)) (h1 : cfE H.fos = 0) (h2 : Pp.gchE H.gs = 0) (h3 : telE H.fos H.gs = 0) (h4 : Pp.uchE H.ss H.nx H.la H.ro = 0) : hE H = 0 := by rw [h_up h0 h1 h2 h3, h4]
/-- A hub that passes Check passes it with another good journal. -/
theorem put_he {H : Hb} {i : Nat} {J : Jo} (h : hE H = 0) (hi : i < H.fos.length) (hj : Jn.chkE J = 0) : hE (putJ H i J) = 0 := by
 obtain ⟨h0, h1, h2, h3, h4⟩ := h_parts h
 obtain ⟨c1, c2, c3⟩ := cf_parts h1
 have hn := put_na H i J
 have hl : (putJ H i J).fos.length = H.fos.length := by rw [putJ_fos hi, List.length_set]
 refine h_make h0 (cf_make (by omega) (shs_iff.2 ?_) (by rw [na_ris hn]; exact c3)) h2 (by rw [show (putJ H i J).gs = H.gs from rfl, na_tel _ hn]; exact h3) h4
 intro s hs
 rw [putJ_fos hi] at hs
 rcases List.mem_or_eq_of_mem_set hs with hs | rfl
 · exact shs_iff.1 c2 s hs
 · obtain ⟨e, _⟩ := sh_parts (shs_iff.1 c2 _ (List.getElem_mem hi))
   show (if ¬ Pp.nmsE [H.fos[i].na] = 0 then _ else Jn.chkE J) = 0
   rw [if_neg (fun x => x e), hj]
theorem joAt_put {H : Hb} {i : Nat} (J : Jo) (hi : i < H.fos.length) : joAt (putJ H i J) i = J := by
 have hl : i < (putJ H i J).fos.length := by rw [putJ_fos hi, List.length_set]; exact hi
 rw [joAt_eq hl]
 simp only [putJ_fos hi, List.getElem_set_self]
theorem put_put {H : Hb} {i : Nat} (J K : Jo) (hi : i < H.fos.length) : putJ (putJ H i J) i K = putJ H i K := by
 have hl : i < (putJ H i J).fos.length := by rw [putJ_fos hi, List.length_set]; exact hi
 have e : (putJ (putJ H i J) i K).fos = (putJ H i K).fos := by
  show (H.fos.modify i _).modify i _ = H.fos.modify i _
  rw [List.modify_modify_eq]
  rfl
 have e1 : putJ (putJ H i J) i K = { (putJ H i K) with fos := (putJ (putJ H i J) i K).fos } := rfl
 rw [e1, e]
theorem cm_ok {H : Hb} {i : Nat} {key : ByteArray} {l : List Pp.Ch} (hi : i < H.fos.length) (h0 : cmE H i key l = 0) : cmH H i key l = putJ H i (Jn.comR (joAt H i) key l) := by rw [cmH, if_pos h0]
/-- Who commits again by a key commits once. -/
theorem cm_again {H : Hb} {i : Nat} {key : ByteArray} {l : List Pp.Ch} (h : hE H = 0) (hi : i < H.fos.length) (h0 : cmE H i key l = 0) (m : List Pp.Ch) :
    hE (cmH H i key l) = 0 ∧ cmE (cmH H i key l) i key m = 0 ∧ cmN (cmH H i key l) i key m = cmN H i key l ∧ cmH (cmH H i key l) i key m = cmH H i key l := by
 obtain ⟨g1, g2, g3, g4⟩ := Jn.com_again (J := joAt H i) h0 m
 rw [cm_ok hi h0]
 have a2 : cmE (putJ H i (Jn.comR (joAt H i) key l)) i key m = 0 := by rw [cmE, joAt_put _ hi]; exact g2
 refine ⟨put_he h hi g1, a2, by rw [cmN, joAt_put _ hi]; exact g3, ?_⟩
 rw [cmH, if_pos a2, joAt_put _ hi, g4, put_put _ _ hi]
theorem cm_gs (H : Hb) (i : Nat) (key : ByteArray) (l : List Pp.Ch) : (cmH H i key l).gs = H.gs := by rw [cmH]; split <;> rfl
theorem cm_sized {H : Hb} {i : Nat} {key : ByteArray} {l : List Pp.Ch} (hs : SizedH H) (hi : i < H.fos.length) (h0 : cmE H i key l = 0) (hk : key.size ≤ 150000000000000) (hl : SizedC 150000000000000 l) : SizedH (cmH H i key l) := by
 obtain ⟨g1, _⟩ := Jn.com_again (J := joAt H i) h0 l
 have hj := hs.fos _ (List.getElem_mem hi)
 rw [cm_ok hi h0]
 refine ⟨?_, hs.gs, hs.ss⟩
 intro s h
 rw [putJ_fos hi] at h
 rcases List.mem_or_eq_of_mem_set h with h | rfl
 · exact hs.fos s h
 · refine ⟨hj.1, Pp.good_sized ((Pp.good_iff _).1 (Jn.chk_parts g1).1), Jn.com_sized h0 ?_ hk hl⟩
   rw [joAt_eq hi]; exact hj.2.2
end Hu
end Go.Proofs.YtchlgpeiombmdaaGreat
