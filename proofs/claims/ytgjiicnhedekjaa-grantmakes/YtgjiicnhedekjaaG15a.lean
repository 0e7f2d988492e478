/- What the reference's WhoOf answers. -/
import Derived.Test.YtgjiicnhedekjaaG14
set_option linter.unusedSimpArgs false
set_option linter.unusedVariables false
namespace Go.Proofs.Ytgjiicnhedekjaa
open Go.RowKit

/-- A row of texts. -/
def LiesB (w : World) (v : Value) (N : List ByteArray) : Prop := ∃ a cap, v = .slice a N.length cap ∧ N.length ≤ cap ∧ N.length ≤ 1000000 ∧ ∀ i (h : i < N.length), ∃ b o, a = some ⟨b, o, none⟩ ∧ b < w.heap.size ∧ w.cell? ⟨b, o + i, none⟩ = some (.string N[i])
theorem LiesB.below {w w' : World} {v : Value} {N : List ByteArray} (h : LiesB w v N) (hw : Below w.heap.size w w') : LiesB w' v N := by
  obtain ⟨a, cap, hv, h1, h2, h5⟩ := h
  refine ⟨a, cap, hv, h1, h2, fun i hi => ?_⟩
  obtain ⟨b, o, ha, hb, he⟩ := h5 i hi
  exact ⟨b, o, ha, Nat.lt_of_lt_of_le hb hw.size, (hw.cell (p := ⟨b, o + i, none⟩) hb).trans he⟩
theorem liesB_nil (w : World) : LiesB w (.slice none 0 0) [] := ⟨none, 0, rfl, Nat.le_refl _, by decide, fun i h => absurd h (by simp)⟩
namespace Pp
def bs (N : List ByteArray) : List Value := N.map Value.string
theorem bs_snoc (N : List ByteArray) (x : ByteArray) : bs N ++ [.string x] = bs (N ++ [x]) := by simp [bs]
end Pp
theorem liesB_own {w : World} {base : Nat} {v : Value} {N : List ByteArray} (h : w.ownsRow base 9 1 v N.length (Pp.bs N)) (hN : N.length ≤ 1000000) : LiesB w v N := by
  have h' := h
  obtain ⟨hl, h2⟩ := h
  rcases h2 with ⟨rfl, hz⟩ | ⟨g, cap, cur, rfl, hg, hh, hn2, hm, hz, htake⟩
  · exact ⟨none, 0, by rw [hz], by omega, hN, fun i h => absurd h (by omega)⟩
  · have hlt : g < w.heap.size := by
      rcases Nat.lt_or_ge g w.heap.size with h | h
      · exact h
      · rw [Array.getElem?_eq_none h] at hh; cases hh
    refine ⟨some ⟨g, 0, none⟩, cap, rfl, hn2, hN, fun i h => ⟨g, 0, rfl, hlt, ?_⟩⟩
    rw [Nat.zero_add, h'.cellAt i (by omega)]
    simp [Pp.bs, h]

theorem Try.infoS9 : (Try.prog.info? 9).map (fun i => (i.zero, i.size, i.bytes)) = some (some (.string ⟨#[]⟩), 1, 16) := by kernel_rfl

namespace Pp
def whoR (G : List Gr) (f : ByteArray) : List ByteArray := (G.filter (inF f)).map Gr.wh
end Pp

set_option maxRecDepth 100000 in
set_option maxHeartbeats 1000000 in
theorem whoOf_any (G : List Gr) (v : Value) (f : ByteArray) (w : World) (hv : LiesG w v G) (hn : G.length ≤ 1000) :
    Calls Try.prog 27 #[v, .string f] w fun e w' => ∃ u, e = .returned u ∧ LiesB w' u (Pp.whoR G f) ∧ Below w.heap.size w w' := by
  obtain ⟨i0, hi0, hz0, hz1, hz2⟩ := info_parts Try.infoS9
  obtain ⟨a, cap, rfl, hcap, hcap2, hLL⟩ := hv
  have HL : Hid (∀ i (h : i < G.length), ∃ b o, a = some ⟨b, o, none⟩ ∧ b < w.heap.size ∧ GrAt w b (o + i * 3) G[i]) := hLL
  clear hLL
  go_enter Try.func27, Try.ntmps27
  go_wp2_with fail
  go_loopw [5, 6] (fun u i wr => ∃ k : Nat, k ≤ G.length ∧ i = .int .i64 k ∧ wr.ownsRow w.heap.size 9 1 u (Pp.whoR (G.take k) f).length (Pp.bs (Pp.whoR (G.take k) f)) ∧ Below w.heap.size w wr) (fun _ i _ => G.length - (intOf i).toNat)
  case atStart => exact ⟨0, Nat.zero_le _, rfl, World.ownsRow_nil _ _ _ _, Below.refl _ _⟩
  case round =>
    obtain ⟨k, hk, rfl, hown, hbel⟩ := hrel
    by_cases hlt : k < G.length
    · obtain ⟨b, o, rfl, hb, he⟩ := HL.out k hlt
      obtain ⟨c0, c1, c2⟩ := he.below hb hbel
      have hXl : (Pp.whoR (G.take k) f).length ≤ 1000 := by
        rw [Pp.whoR, List.length_map]
        exact Nat.le_trans (List.length_filter_le _ _) (by rw [List.length_take]; omega)
      cases hp : Pp.inF f G[k] with
      | true =>
        have h1 : ((G[k]).fo.toList == f.toList) = true := hp
        have HF : Hid (Pp.whoR (G.take (k + 1)) f = Pp.whoR (G.take k) f ++ [(G[k]).wh]) := (by rw [Pp.whoR, Pp.gfilter_hit hlt hp, List.map_append]; rfl : Pp.whoR (G.take (k + 1)) f = Pp.whoR (G.take k) f ++ [(G[k]).wh])
        clear hp
        generalize Pp.whoR (G.take k) f = X at *
        go_wp2_with (at_builtin; refine wpList_append_own _ rfl _ _ 49 rfl w.heap.size 9 i0 (.string ⟨#[]⟩) 1 16 Try.underlying49 hi0 hz0 hz1 hz2 rfl (by decide) _ _ _ rfl (hown.alloc _) ⟨wr.heap.size, 0, none⟩ 1 1 [.string (G[k]).wh] rfl rfl (by intro j u hj; match j, hj with | 0, hj => simp at hj; subst hj; simp [Addr.add] | j + 1, hj => simp at hj) (by intro u hu; simp at hu; subst hu; rfl) (by unfold maxLen; omega) (by omega) (by have := hbel.size; simp at this ⊢; omega) ?_)
        intro v2 w2 ho2 hgr2 hnn2
        have hbel2 : Below w.heap.size w w2 := (hbel.alloc hbel.size _).grown hgr2 (by have := hbel.size; simp at this ⊢; omega) (fun g hg => (hown.lt g hg).1)
        rw [Pp.bs_snoc] at ho2
        have hown2 : w2.ownsRow w.heap.size 9 1 v2 (X ++ [(G[k]).wh]).length (Pp.bs (X ++ [(G[k]).wh])) := by rw [List.length_append]; exact ho2
        have HO := ghid hown2
        clear ho2 hgr2 hnn2 hown2 hown hbel c0 c1 c2
        go_wp2_with fail
        go_roundw
        case rel => exact ⟨k + 1, by omega, by simp, by rw [HF.out]; exact HO.out, hbel2⟩
        case measure => simp [intOf]; omega
      | false =>
        have h1 : ((G[k]).fo.toList == f.toList) = false := hp
        have HF : Hid (Pp.whoR (G.take (k + 1)) f = Pp.whoR (G.take k) f) := (by rw [Pp.whoR, Pp.gfilter_miss hlt hp]; rfl : Pp.whoR (G.take (k + 1)) f = Pp.whoR (G.take k) f)
        clear hp
        go_wp2_with fail
        go_roundw
        case rel => exact ⟨k + 1, by omega, by simp, by rw [HF.out]; exact hown, hbel⟩
        case measure => simp [intOf]; omega
    · have e : G.take k = G := List.take_of_length_le (by omega)
      rw [e] at hown
      have HLI := ghid (liesB_own hown (by
        rw [Pp.whoR, List.length_map]
        exact Nat.le_trans (List.length_filter_le _ _) (by omega)))
      go_wp2_with fail
      go_ret
      exact ⟨_, rfl, HLI.out, hbel⟩

namespace Pp
theorem cal_len {G : List Gr} {ns : List ByteArray} (h : calE G ns = 0) : G.length ≤ 60 := by
  by_cases h60 : 60 < G.length
  · rw [calE, gch_many h60, if_neg (by decide)] at h; cases h
  · omega
end Pp
end Go.Proofs.Ytgjiicnhedekjaa
