/- What grant.every answers: the grants of which a predicate holds, in memory of its own. -/
import Derived.Test.YtgjiicnhedekjaaG8
set_option linter.unusedSimpArgs false
set_option linter.unusedVariables false
namespace Go.Proofs.Ytgjiicnhedekjaa
open Go.RowKit

theorem own_belowG {w w' : World} {base : Nat} {e : TypeId} {size : Nat} {v : Value} {n : Nat} {xs : List Value} (h : w.ownsRow base e size v n xs) (hb : Below w.heap.size w w') : w'.ownsRow base e size v n xs := by
  obtain ⟨h1, h2⟩ := h
  refine ⟨h1, ?_⟩
  rcases h2 with h2 | ⟨g, cap, cur, hv, hg, hh, r⟩
  · exact .inl h2
  · have hlt : g < w.heap.size := by
      rcases Nat.lt_or_ge g w.heap.size with h | h
      · exact h
      · rw [Array.getElem?_eq_none h] at hh; cases hh
    exact .inr ⟨g, cap, cur, hv, hg, (hb.block g hlt).trans hh, r⟩
theorem own_monoG {w : World} {base B : Nat} {e : TypeId} {size : Nat} {v : Value} {n : Nat} {xs : List Value} (h : w.ownsRow base e size v n xs) (hB : B ≤ base) : w.ownsRow B e size v n xs := by
  obtain ⟨h1, h2⟩ := h
  refine ⟨h1, ?_⟩
  rcases h2 with h2 | ⟨g, cap, cur, hv, hg, r⟩
  · exact .inl h2
  · exact .inr ⟨g, cap, cur, hv, Nat.le_trans hB hg, r⟩
theorem new_cellsG (w : World) (e : Gr) (T : TypeId) : ∀ j u, (Pp.cellsG e)[j]? = some u → (w.alloc (.cells #[.string e.fo, .string e.wh, .int .i64 e.ri] T)).cell? ((⟨w.heap.size, 0, none⟩ : Addr).add j) = some u := by
  intro j u hj
  match j, hj with
  | 0, hj => simp [Pp.cellsG] at hj; subst hj; simp [Addr.add]
  | 1, hj => simp [Pp.cellsG] at hj; subst hj; simp [Addr.add]
  | 2, hj => simp [Pp.cellsG] at hj; subst hj; simp [Addr.add]
  | j + 3, hj => simp [Pp.cellsG] at hj
namespace Pp
theorem gfilter_hit {L : List Gr} {k : Nat} (h : k < L.length) {pr : Gr → Bool} (hp : pr L[k] = true) : (L.take (k + 1)).filter pr = (L.take k).filter pr ++ [L[k]] := by
  rw [List.take_succ_eq_append_getElem h, List.filter_append]; simp [hp]
theorem gfilter_miss {L : List Gr} {k : Nat} (h : k < L.length) {pr : Gr → Bool} (hp : pr L[k] = false) : (L.take (k + 1)).filter pr = (L.take k).filter pr := by
  rw [List.take_succ_eq_append_getElem h, List.filter_append]; simp [hp]
end Pp
theorem Try.infoG : (Try.prog.info? 33).map (fun i => (i.zero, i.size, i.bytes)) = some (some (.agg #[.string ⟨#[]⟩, .string ⟨#[]⟩, .int .i64 0]), 3, 40) := by kernel_rfl

set_option maxRecDepth 100000 in
set_option maxHeartbeats 1000000 in
theorem gevery_any (L : List Gr) (v : Value) (g : Nat) (cb : Array Value) (pr : Gr → Bool) (w : World) (hv : LiesG w v L) (hg : TellsG w g cb pr) (hn : L.length ≤ 1000000000) :
    Calls Try.prog 33 #[v, .func (.func g) #[] cb] w fun e w' => ∃ u, e = .returned u ∧ w'.ownsRow w.heap.size 33 3 u (L.filter pr).length (Pp.flatG (L.filter pr)) ∧ u ≠ .slice none 0 0 ∧ Below w.heap.size w w' := by
  obtain ⟨i0, hi0, hz0, hz1, hz2⟩ := info_parts Try.infoG
  obtain ⟨a, cap, rfl, hcap, hcap2, hL⟩ := hv
  have HL : Hid (∀ i (h : i < L.length), ∃ b o, a = some ⟨b, o, none⟩ ∧ b < w.heap.size ∧ GrAt w b (o + i * 3) L[i]) := hL
  have HG : Hid (TellsG w g cb pr) := hg
  have eg := hg.1
  clear hL hg
  go_enter Try.func33, Try.ntmps33
  go_wp2_with (at_make; refine wpList_make_own _ rfl _ _ 22 rfl w.heap.size 33 i0 (.agg #[.string ⟨#[]⟩, .string ⟨#[]⟩, .int .i64 0]) 3 Try.underlying22 hi0 hz0 hz1 .i64 .i64 (L.length : Int) L.length rfl rfl rfl ?m2 ?m3 ?m4 ?_)
  case m2 => rw [hz2]; omega
  case m3 => unfold maxLen; omega
  case m4 => exact Nat.le_refl _
  intro w0 ho0 hgr0
  have hb0 : Below w.heap.size w w0 := (Below.refl _ _).grown hgr0 (Nat.le_refl _) (fun k hk => by cases hk)
  clear hgr0
  go_wp2_with fail
  go_loopw [5, 13] (fun u i wr => ∃ k : Nat, k ≤ L.length ∧ i = .int .i64 k ∧ wr.ownsRow w.heap.size 33 3 u ((L.take k).filter pr).length (Pp.flatG ((L.take k).filter pr)) ∧ u ≠ .slice none 0 0 ∧ Below w.heap.size w wr) (fun _ i _ => L.length - (intOf i).toNat)
  case atStart => exact ⟨0, Nat.zero_le _, rfl, ho0, by simp, hb0⟩
  case round =>
    obtain ⟨k, hk, rfl, hown, hnn, hbel⟩ := hrel
    clear ho0 hb0
    have hlenf : ((L.take k).filter pr).length ≤ k := by
      have h1 := List.length_filter_le pr (L.take k)
      have h2 := List.length_take_le k L
      omega
    by_cases hlt : k < L.length
    · obtain ⟨b, o, rfl, hb, he⟩ := HL.out k hlt
      obtain ⟨c0, c1, c2⟩ := he.below hb hbel
      cases hp : pr L[k] with
      | true =>
        have HF : Hid ((L.take (k + 1)).filter pr = (L.take k).filter pr ++ [L[k]]) := Pp.gfilter_hit hlt hp
        go_wp2_with fail
        refine (HG.out.2 _ (hbel.alloc hbel.size _) L[k]).mono ?_
        rintro e w1 ⟨rfl, hb1⟩
        obtain ⟨d0, d1, d2, hb1w, hlt1⟩ := bx3 hb1
        have hbel1 := below_trans hbel hb1w
        have hown1 := own_belowG hown hb1w
        rw [hp]
        clear hb1 c0 c1 c2 eg hown hbel hb1w
        go_wp2_with (at_builtin; refine wpList_append_own _ rfl _ _ 22 rfl w.heap.size 33 i0 (.agg #[.string ⟨#[]⟩, .string ⟨#[]⟩, .int .i64 0]) 3 40 Try.underlying22 hi0 hz0 hz1 hz2 rfl (by decide) _ _ _ rfl (hown1.alloc _) ⟨w1.heap.size, 0, none⟩ 1 1 (Pp.cellsG L[k]) rfl rfl ?c1 ?c2 ?c3 ?c4 ?c5 ?_)
        case c1 => exact new_cellsG w1 L[k] _
        case c2 => exact Pp.cellsG_one _
        case c3 => unfold maxLen; omega
        case c4 => omega
        case c5 => have := hbel1.size; simp; omega
        intro v2 w2 ho2 hgr2 hnn2
        have hbel2 : Below w.heap.size w w2 := (hbel1.alloc hbel1.size _).grown hgr2 (by have := hbel1.size; simp; omega) (fun q hq => (hown1.lt q hq).1)
        rw [Pp.flatG_snoc] at ho2
        have HO : Hid (w2.ownsRow w.heap.size 33 3 v2 (((L.take k).filter pr).length + 1) (Pp.flatG ((L.take k).filter pr ++ [L[k]]))) := ho2
        have hnn3 : v2 ≠ .slice none 0 0 := by simpa using hnn2
        clear ho2 hgr2 hnn2 hown1 hbel1 d0 d1 d2 hnn
        go_wp2_with fail
        go_roundw
        case rel => exact ⟨k + 1, by omega, by simp, by rw [HF.out, List.length_append]; exact HO.out, hnn3, hbel2⟩
        case measure => simp [intOf]; omega
      | false =>
        have HF : Hid ((L.take (k + 1)).filter pr = (L.take k).filter pr) := Pp.gfilter_miss hlt hp
        go_wp2_with fail
        refine (HG.out.2 _ (hbel.alloc hbel.size _) L[k]).mono ?_
        rintro e w1 ⟨rfl, hb1⟩
        obtain ⟨d0, d1, d2, hb1w, hlt1⟩ := bx3 hb1
        have hbel1 := below_trans hbel hb1w
        have hown1 := own_belowG hown hb1w
        rw [hp]
        clear hb1 c0 c1 c2 eg hown hbel hb1w
        go_wp2_with fail
        go_roundw
        case rel => exact ⟨k + 1, by omega, by simp, by rw [HF.out]; exact hown1, hnn, hbel1⟩
        case measure => simp [intOf]; omega
    · go_wp2_with fail
      go_ret
      exact ⟨_, rfl, by have e : L.take k = L := List.take_of_length_le (by omega); rw [e] at hown; exact hown, hnn, hbel⟩
end Go.Proofs.Ytgjiicnhedekjaa
