/- What tree.not, within and every answer. -/
import Derived.Test.YtogbahkoijkclaaGreatT5a
import Derived.Test.YtogbahkoijkclaaGreatV1
import Derived.Test.YtogbahkoijkclaaGreatV0
set_option linter.unusedSimpArgs false
set_option linter.unusedVariables false
namespace Go.Proofs.YtogbahkoijkclaaGreat
open Go.RowKit

set_option maxHeartbeats 400000 in
theorem not1_any (e : En) (g : Nat) (cb : Array Value) (pr : En → Bool) (b : Nat) (w : World) (hb : b < w.heap.size) (hc : w.cell? ⟨b, 0, none⟩ = some (.func (.func g) #[] cb)) (hg : Tells w g cb pr) (hs : e.path.size ≤ 1000000000000000) :
    Calls Tryz.prog 61 #[.agg #[.string e.path, .bool e.folder, .string e.text, .int .i64 e.ver], .pointer (some ⟨b, 0, none⟩)] w fun r w' => r = .returned (.bool (!pr e)) ∧ Below w.heap.size w w' := by
  have hc2 : ∀ o, (w.alloc o).cell? ⟨b, 0, none⟩ = some (.func (.func g) #[] cb) := fun o => (((Below.refl w.heap.size w).alloc (Nat.le_refl _) o).cell (p := ⟨b, 0, none⟩) hb).trans hc
  have HG : Hid (Tells w g cb pr) := hg
  have eg := hg.1
  clear hg
  go_enter Tryz.func61, Tryz.ntmps61
  go_wp2_with fail
  refine (HG.out.2 _ ((Below.refl _ _).alloc (Nat.le_refl _) _) e hs).mono ?_
  rintro r w1 ⟨rfl, hb1⟩
  obtain ⟨d0, d1, d2, d3, hb1w, hlt1⟩ := box4 hb1
  clear hb1 eg
  go_wp2
  go_ret
  exact ⟨rfl, hb1w⟩
set_option maxHeartbeats 400000 in
theorem not_any (g : Nat) (cb : Array Value) (pr : En → Bool) (w : World) (hg : Tells w g cb pr) :
    Calls Tryz.prog 49 #[.func (.func g) #[] cb] w fun e w' => e = .returned (.func (.func 61) #[] #[.pointer (some ⟨w.heap.size, 0, none⟩)]) ∧ Tells w' 61 #[.pointer (some ⟨w.heap.size, 0, none⟩)] (fun e => !pr e) ∧ Below w.heap.size w w' := by
  have HG : Hid (Tells w g cb pr) := hg
  clear hg
  go_enter Tryz.func49, Tryz.ntmps49
  go_wp2
  go_ret
  refine ⟨rfl, ⟨enters_of Tryz.func61 (by kernel_rfl) rfl, fun W hW e he => ?_⟩, (Below.refl _ _).alloc (Nat.le_refl _) _⟩
  exact not1_any e g cb pr w.heap.size W (Nat.lt_of_lt_of_le (by simp) hW.size) ((hW.cell (p := ⟨w.heap.size, 0, none⟩) (by simp)).trans (by simp)) (HG.out.below (((Below.refl _ _).alloc (Nat.le_refl _) _).trans (hW.mono (by simp)))) he

namespace Pp
def inB (q : List UInt8) (e : En) : Bool := chks [e.path.data.toList, q] == 0 && isInB e.path.data.toList q
end Pp
set_option maxHeartbeats 400000 in
theorem within1_any (e : En) (q : ByteArray) (b : Nat) (w : World) (hb : b < w.heap.size) (hc : w.cell? ⟨b, 0, none⟩ = some (.string q)) (hs : e.path.size ≤ 1000000000000000) (hq : q.size ≤ 1000000000000000) :
    Calls Tryz.prog 58 #[.agg #[.string e.path, .bool e.folder, .string e.text, .int .i64 e.ver], .pointer (some ⟨b, 0, none⟩)] w fun r w' => r = .returned (.bool (Pp.inB q.data.toList e)) ∧ Below w.heap.size w w' := by
  have hc2 : ∀ o, (w.alloc o).cell? ⟨b, 0, none⟩ = some (.string q) := fun o => (((Below.refl w.heap.size w).alloc (Nat.le_refl _) o).cell (p := ⟨b, 0, none⟩) hb).trans hc
  have HI : Hid ((Pp.chks [e.path.data.toList, q.data.toList] == 0 && Pp.isInB e.path.data.toList q.data.toList) = Pp.inB q.data.toList e) := rfl
  go_enter Tryz.func58, Tryz.ntmps58
  go_wp2_with fail
  refine (within_any e.path q _ hs hq).mono ?_
  rintro r w1 ⟨rfl, hb1⟩
  rw [HI.out]
  obtain ⟨d0, d1, d2, d3, hb1w, hlt1⟩ := box4 hb1
  clear hb1
  go_wp2
  go_ret
  exact ⟨rfl, hb1w⟩
set_option maxHeartbeats 400000 in
theorem twithin_any (q : ByteArray) (w : World) (hq : q.size ≤ 1000000000000000) :
    Calls Tryz.prog 44 #[.string q] w fun e w' => e = .returned (.func (.func 58) #[] #[.pointer (some ⟨w.heap.size, 0, none⟩)]) ∧ Tells w' 58 #[.pointer (some ⟨w.heap.size, 0, none⟩)] (Pp.inB q.data.toList) ∧ Below w.heap.size w w' := by
  go_enter Tryz.func44, Tryz.ntmps44
  go_wp2
  go_ret
  refine ⟨rfl, ⟨enters_of Tryz.func58 (by kernel_rfl) rfl, fun W hW e he => ?_⟩, (Below.refl _ _).alloc (Nat.le_refl _) _⟩
  exact within1_any e q w.heap.size W (Nat.lt_of_lt_of_le (by simp) hW.size) ((hW.cell (p := ⟨w.heap.size, 0, none⟩) (by simp)).trans (by simp)) he hq

set_option maxRecDepth 100000 in
set_option maxHeartbeats 1000000 in
theorem every_any (L : List En) (v : Value) (g : Nat) (cb : Array Value) (pr : En → Bool) (w : World) (hv : Lies w v L) (hg : Tells w g cb pr) (hn : L.length ≤ 1000000000) (hs : Sized L) :
    Calls Tryz.prog 48 #[v, .func (.func g) #[] cb] w fun e w' => ∃ u, e = .returned u ∧ w'.ownsRow w.heap.size 35 4 u (L.filter pr).length (Pp.flat (L.filter pr)) ∧ u ≠ .slice none 0 0 ∧ Below w.heap.size w w' := by
  obtain ⟨i0, hi0, hz0, hz1, hz2⟩ := info_parts Tryz.infoE
  obtain ⟨a, cap, rfl, hcap, hcap2, hL⟩ := hv
  have HL : Hid (∀ i (h : i < L.length), ∃ b o, a = some ⟨b, o, none⟩ ∧ b < w.heap.size ∧ EnAt w b (o + i * 4) L[i]) := hL
  have HG : Hid (Tells w g cb pr) := hg
  have HS : Hid (Sized L) := hs
  have eg := hg.1
  clear hL hg hs
  go_enter Tryz.func48, Tryz.ntmps48
  go_wp2_with (at_make; refine wpList_make_own _ rfl _ _ 22 rfl w.heap.size 35 i0 (.agg #[.string ⟨#[]⟩, .bool false, .string ⟨#[]⟩, .int .i64 0]) 4 Tryz.underlying22 hi0 hz0 hz1 .i64 .i64 (L.length : Int) L.length rfl rfl rfl ?m2 ?m3 ?m4 ?_)
  case m2 => rw [hz2]; omega
  case m3 => unfold maxLen; omega
  case m4 => exact Nat.le_refl _
  intro w0 ho0 hgr0
  have hb0 : Below w.heap.size w w0 := (Below.refl _ _).grown hgr0 (Nat.le_refl _) (fun k hk => by cases hk)
  clear hgr0
  go_wp2_with fail
  go_loopw [5, 13] (fun u i wr => ∃ k : Nat, k ≤ L.length ∧ i = .int .i64 k ∧ wr.ownsRow w.heap.size 35 4 u ((L.take k).filter pr).length (Pp.flat ((L.take k).filter pr)) ∧ u ≠ .slice none 0 0 ∧ Below w.heap.size w wr) (fun _ i _ => L.length - (intOf i).toNat)
  case atStart => exact ⟨0, Nat.zero_le _, rfl, ho0, by simp, hb0⟩
  case round =>
    obtain ⟨k, hk, rfl, hown, hnn, hbel⟩ := hrel
    clear ho0 hb0
    have hlenf : ((L.take k).filter pr).length ≤ k := by
      have h1 := List.length_filter_le pr (L.take k)
      have h2 := List.length_take_le k L
      omega
    by_cases hlt : k < L.length
    · obtain ⟨b, o, rfl, hb, he⟩ := HL.out k hlt
      obtain ⟨c0, c1, c2, c3⟩ := he.below hb hbel
      have hsz := HS.out L[k] (List.getElem_mem hlt)
      cases hp : pr L[k] with
      | true =>
        have HF : Hid ((L.take (k + 1)).filter pr = (L.take k).filter pr ++ [L[k]]) := Pp.filter_hit hlt hp
        go_wp2_with fail
        refine (HG.out.2 _ (hbel.alloc hbel.size _) L[k] hsz.1).mono ?_
        rintro e w1 ⟨rfl, hb1⟩
        obtain ⟨d0, d1, d2, d3, hb1w, hlt1⟩ := box4 hb1
        have hbel1 := below_trans hbel hb1w
        have hown1 := Pp.own_below hown hb1w
        rw [hp]
        clear hb1 c0 c1 c2 c3 eg hown hbel hb1w
        go_wp2_with (at_builtin; refine wpList_append_own _ rfl _ _ 22 rfl w.heap.size 35 i0 (.agg #[.string ⟨#[]⟩, .bool false, .string ⟨#[]⟩, .int .i64 0]) 4 48 Tryz.underlying22 hi0 hz0 hz1 hz2 rfl (by decide) _ _ _ rfl (hown1.alloc _) ⟨w1.heap.size, 0, none⟩ 1 1 (Pp.cells L[k]) rfl rfl ?c1 ?c2 ?c3 ?c4 ?c5 ?_)
        case c1 => exact Pp.new_cells w1 L[k] _
        case c2 => exact Pp.cells_one _
        case c3 => unfold maxLen; omega
        case c4 => omega
        case c5 => have := hbel1.size; simp; omega
        intro v2 w2 ho2 hgr2 hnn2
        have hbel2 : Below w.heap.size w w2 := (hbel1.alloc hbel1.size _).grown hgr2 (by have := hbel1.size; simp; omega) (fun q hq => (hown1.lt q hq).1)
        rw [Pp.flat_snoc] at ho2
        have HO : Hid (w2.ownsRow w.heap.size 35 4 v2 (((L.take k).filter pr).length + 1) (Pp.flat ((L.take k).filter pr ++ [L[k]]))) := ho2
        have hnn3 : v2 ≠ .slice none 0 0 := by simpa using hnn2
        clear ho2 hgr2 hnn2 hown1 hbel1 d0 d1 d2 d3 hnn
        go_wp2_with fail
        go_roundw
        case rel => exact ⟨k + 1, by omega, by simp, by rw [HF.out, List.length_append]; exact HO.out, hnn3, hbel2⟩
        case measure => simp [intOf]; omega
      | false =>
        have HF : Hid ((L.take (k + 1)).filter pr = (L.take k).filter pr) := Pp.filter_miss hlt hp
        go_wp2_with fail
        refine (HG.out.2 _ (hbel.alloc hbel.size _) L[k] hsz.1).mono ?_
        rintro e w1 ⟨rfl, hb1⟩
        obtain ⟨d0, d1, d2, d3, hb1w, hlt1⟩ := box4 hb1
        have hbel1 := below_trans hbel hb1w
        have hown1 := Pp.own_below hown hb1w
        rw [hp]
        clear hb1 c0 c1 c2 c3 eg hown hbel hb1w
        go_wp2_with fail
        go_roundw
        case rel => exact ⟨k + 1, by omega, by simp, by rw [HF.out]; exact hown1, hnn, hbel1⟩
        case measure => simp [intOf]; omega
    · go_wp2_with fail
      go_ret
      exact ⟨_, rfl, by have e : L.take k = L := List.take_of_length_le (by omega); rw [e] at hown; exact hown, hnn, hbel⟩
end Go.Proofs.YtogbahkoijkclaaGreat
