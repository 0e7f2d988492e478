/- What the reference's SweepOf answers. -/
import Derived.Test.YtnaedemkpiagmaaU16
set_option linter.unusedSimpArgs false
set_option linter.unusedVariables false
namespace Go.Proofs.Ytnaedemkpiagmaa
open Go.RowKit

set_option maxRecDepth 100000 in
set_option maxHeartbeats 4000000 in
theorem sweepOf_any (G : List Se) (v : Value) (x l r now : Int) (w : World) (hv : LiesS w v G) (hn : G.length ≤ 1000) :
    Calls Try.prog 22 #[.agg #[v, .int .i64 x, .int .i64 l, .int .i64 r], .int .i64 now] w fun e w' => ∃ u, e = .returned (.agg #[u, .int .i64 x, .int .i64 l, .int .i64 r]) ∧ OwnS w.heap.size w' u (Pp.swL now G) ∧ Below w.heap.size w w' := by
  obtain ⟨i0, hi0, hz0, hz1, hz2⟩ := info_parts Try.infoS
  obtain ⟨a, cap, rfl, hcap, hcap2, hLL⟩ := hv
  have HL : Hid (∀ i (h : i < G.length), ∃ b o, a = some ⟨b, o, none⟩ ∧ b < w.heap.size ∧ SeAt w b (o + i * 5) G[i]) := hLL
  clear hLL
  obtain ⟨w2, hw2⟩ : ∃ w2, w2 = (w.alloc (.cells #[.slice a G.length cap, .int .i64 x, .int .i64 l, .int .i64 r] 24)).alloc (.cells #[.slice none 0 0, .int .i64 0, .int .i64 0, .int .i64 0] 24) := ⟨_, rfl⟩
  have hb2 : Below w.heap.size w w2 := by rw [hw2]; exact ((Below.refl _ _).alloc (Nat.le_refl _) _).alloc (by simp) _
  have HU2 : Hid (Bx w2 w.heap.size (.slice a G.length cap) (.int .i64 x) (.int .i64 l) (.int .i64 r)) := (by rw [hw2]; exact (Bx.new w _ _ _ _ _).below ((Below.refl _ _).alloc (Nat.le_refl _) _) : Bx w2 w.heap.size (.slice a G.length cap) (.int .i64 x) (.int .i64 l) (.int .i64 r))
  have HR2 : Hid (Bx w2 (w.heap.size + 1) (.slice none 0 0) (.int .i64 0) (.int .i64 0) (.int .i64 0)) := (by
    have := Bx.new (w.alloc (.cells #[.slice a G.length cap, .int .i64 x, .int .i64 l, .int .i64 r] 24)) (.slice none 0 0) (.int .i64 0) (.int .i64 0) (.int .i64 0) 24
    rw [hw2]; simpa using this : Bx w2 (w.heap.size + 1) (.slice none 0 0) (.int .i64 0) (.int .i64 0) (.int .i64 0))
  have hsz2 : w2.heap.size = w.heap.size + 2 := by rw [hw2]; simp
  go_enter Try.func22, Try.ntmps22
  go_wp2_with fail
  rw [← hw2]
  clear hw2
  go_loopw [5, 6] (fun u i wr => ∃ k : Nat, k ≤ G.length ∧ i = .int .i64 k ∧ wr.ownsRow w2.heap.size 38 5 u (Pp.swL now (G.take k)).length (Pp.flatS (Pp.swL now (G.take k))) ∧ Below w2.heap.size w2 wr) (fun _ i _ => G.length - (intOf i).toNat)
  case atStart => exact ⟨0, Nat.zero_le _, rfl, World.ownsRow_nil _ _ _ _, Below.refl _ _⟩
  case round =>
    obtain ⟨k, hk, rfl, hown, hbel2⟩ := hrel
    have hbel : Below w.heap.size w wr := hb2.trans (hbel2.mono hb2.size)
    have hUk := HU2.out.below hbel2
    obtain ⟨hAb, ⟨a0, a1, a2, a3⟩, g0, g1, g2, g3⟩ := hUk
    by_cases hlt : k < G.length
    · obtain ⟨b, o, rfl, hb, he⟩ := HL.out k hlt
      obtain ⟨c0, c1, c2, c3, c4⟩ := he.below hb hbel
      have hsn := Pp.swL_snoc (now := now) hlt
      have hXl : (Pp.swL now (G.take k)).length ≤ 1000 := by
        have h1 := Pp.swL_len now (G.take k)
        have h2 := List.length_take_le k G
        omega
      have hbsz := hbel2.size
      clear he
      generalize G[k] = s at *
      cases hov : Pp.ovr now s with
      | true =>
        have hti : s.ti < now := by simpa [Pp.ovr] using hov
        have HSN : Hid (Pp.swL now (G.take (k + 1)) = Pp.swL now (G.take k)) := (by rw [hsn, hov]; rfl : Pp.swL now (G.take (k + 1)) = Pp.swL now (G.take k))
        clear hsn hov
        go_wp2_with fail
        go_roundw
        case rel => exact ⟨k + 1, by omega, by simp, by rw [HSN.out]; exact hown, hbel2⟩
        case measure => simp [intOf]; omega
      | false =>
        have hti : ¬ s.ti < now := by simpa [Pp.ovr] using hov
        have HSN : Hid (Pp.swL now (G.take (k + 1)) = Pp.swL now (G.take k) ++ [s]) := (by rw [hsn, hov]; rfl : Pp.swL now (G.take (k + 1)) = Pp.swL now (G.take k) ++ [s])
        clear hsn hov
        generalize Pp.swL now (G.take k) = X at *
        go_wp2_with (at_builtin; refine wpList_append_own _ rfl _ _ 22 rfl w2.heap.size 38 i0 (.agg #[.int .i64 0, .string ⟨#[]⟩, .string ⟨#[]⟩, .int .i64 0, .int .i64 0]) 5 56 Try.underlying22 hi0 hz0 hz1 hz2 rfl (by decide) _ _ _ rfl (hown.alloc _) ⟨wr.heap.size, 0, none⟩ 1 1 (Pp.cellsS s) rfl rfl (new_cellsS wr s _) (Pp.cellsS_one _) (by unfold maxLen; omega) (by omega) (by simp; omega) ?_)
        intro v3 w3 ho3 hgr3 hnn3
        have hbel3 : Below w2.heap.size w2 w3 := (hbel2.alloc hbel2.size _).grown hgr3 (by simp; omega) (fun q hq => (hown.lt q hq).1)
        rw [Pp.flatS_snoc] at ho3
        have ho4 : w3.ownsRow w2.heap.size 38 5 v3 (X ++ [s]).length (Pp.flatS (X ++ [s])) := by rw [List.length_append]; first | exact ho3 | (rw [hsz2]; exact ho3)
        have HO := ghid ho4
        clear ho3 hgr3 hnn3 ho4 hown c0 c1 c2 c3 c4 a0 a1 a2 a3
        go_wp2_with fail
        go_roundw
        case rel => exact ⟨k + 1, by omega, by simp, by rw [HSN.out]; exact HO.out, hbel3⟩
        case measure => simp [intOf]; omega
    · have e : G.take k = G := List.take_of_length_le (by omega)
      rw [e] at hown
      have HO := ghid (ownS_of hown)
      have hXl := Pp.swL_len now G
      obtain ⟨au, cu, hu, _, _, _⟩ := HO.out.lies (by omega)
      subst hu
      have hRk := HR2.out.below hbel2
      obtain ⟨hRb, ⟨r0, r1, r2, r3⟩, f0, f1, f2, f3⟩ := hRk
      clear hown
      go_wp2_with fail
      refine bodyPost_ret (v := .agg #[.slice au (Pp.swL now G).length cu, .int .i64 x, .int .i64 l, .int .i64 r]) (by simp [results, Try.results22, go_sem, r0, r1, r2, r3, a0, a1, a2, a3, hRb, hAb]) rfl ⟨_, rfl, ?_, ?_⟩
      · exact ((HO.out.nb (Nb.setCell wr w.heap.size 0 _) (by omega)).nb (Nb.set4 _ (w.heap.size + 1) _ _ _ _) (by omega)).mono (by omega)
      · exact below_set4 (b := w.heap.size + 1) (hbel.setCell (p := ⟨w.heap.size, 0, none⟩) (Nat.le_refl _) _) (by omega)
end Go.Proofs.Ytnaedemkpiagmaa
