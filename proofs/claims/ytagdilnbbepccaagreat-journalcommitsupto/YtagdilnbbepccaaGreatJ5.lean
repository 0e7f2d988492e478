/- Copies of entries, changes and commits, in memory of their own; what own.Commits, own.Journal and a keeper's journal answer. -/
import Derived.Test.YtagdilnbbepccaaGreatJ3
import Derived.Test.YtagdilnbbepccaaGreatMI
import Derived.Test.YtagdilnbbepccaaGreatME
set_option linter.unusedSimpArgs false
set_option linter.unusedVariables false
namespace Go.Proofs.YtagdilnbbepccaaGreat
open Go.RowKit

namespace Pp
def chC (c : Ch) : List Value := [.int .i64 c.k, .string c.p, .string c.q, .string c.t, .int .i64 c.b]
end Pp
theorem liesR_en {w : World} {v : Value} {L : List En} : Lies w v L ↔ LiesR 4 w v (L.map Pp.cells) := by
  constructor
  · rintro ⟨a, cap, hv, h1, h2, h3⟩
    refine ⟨a, cap, by simpa using hv, by simpa using h1, by simpa using h2, ?_, fun i hi => ?_⟩
    · intro r hr
      obtain ⟨e, _, rfl⟩ := List.mem_map.1 hr
      exact ⟨rfl, Pp.cells_one e⟩
    · obtain ⟨b, o, ha, hb, he⟩ := h3 i (by simpa using hi)
      refine ⟨b, o, ha, hb, fun c u hu => ?_⟩
      rw [List.getElem_map] at hu
      obtain ⟨e0, e1, e2, e3⟩ := he
      match c, hu with
      | 0, hu => simp [Pp.cells] at hu; subst hu; exact e0
      | 1, hu => simp [Pp.cells] at hu; subst hu; exact e1
      | 2, hu => simp [Pp.cells] at hu; subst hu; exact e2
      | 3, hu => simp [Pp.cells] at hu; subst hu; exact e3
      | c + 4, hu => simp [Pp.cells] at hu
  · rintro ⟨a, cap, hv, h1, h2, _, h3⟩
    refine ⟨a, cap, by simpa using hv, by simpa using h1, by simpa using h2, fun i hi => ?_⟩
    obtain ⟨b, o, ha, hb, he⟩ := h3 i (by simpa using hi)
    rw [List.getElem_map] at he
    exact ⟨b, o, ha, hb, he 0 _ rfl, he 1 _ rfl, he 2 _ rfl, he 3 _ rfl⟩
theorem liesR_ch {w : World} {v : Value} {L : List Pp.Ch} : LiesC w v L ↔ LiesR 5 w v (L.map Pp.chC) := by
  constructor
  · rintro ⟨a, cap, hv, h1, h2, h3⟩
    refine ⟨a, cap, by simpa using hv, by simpa using h1, by simpa using h2, ?_, fun i hi => ?_⟩
    · intro r hr
      obtain ⟨e, _, rfl⟩ := List.mem_map.1 hr
      refine ⟨rfl, fun u hu => ?_⟩
      simp only [Pp.chC, List.mem_cons, List.not_mem_nil, or_false] at hu
      rcases hu with rfl | rfl | rfl | rfl | rfl <;> rfl
    · obtain ⟨b, o, ha, hb, he⟩ := h3 i (by simpa using hi)
      refine ⟨b, o, ha, hb, fun c u hu => ?_⟩
      rw [List.getElem_map] at hu
      obtain ⟨e0, e1, e2, e3, e4⟩ := he
      match c, hu with
      | 0, hu => simp [Pp.chC] at hu; subst hu; exact e0
      | 1, hu => simp [Pp.chC] at hu; subst hu; exact e1
      | 2, hu => simp [Pp.chC] at hu; subst hu; exact e2
      | 3, hu => simp [Pp.chC] at hu; subst hu; exact e3
      | 4, hu => simp [Pp.chC] at hu; subst hu; exact e4
      | c + 5, hu => simp [Pp.chC] at hu
  · rintro ⟨a, cap, hv, h1, h2, _, h3⟩
    refine ⟨a, cap, by simpa using hv, by simpa using h1, by simpa using h2, fun i hi => ?_⟩
    obtain ⟨b, o, ha, hb, he⟩ := h3 i (by simpa using hi)
    rw [List.getElem_map] at he
    exact ⟨b, o, ha, hb, he 0 _ rfl, he 1 _ rfl, he 2 _ rfl, he 3 _ rfl, he 4 _ rfl⟩

theorem Tryz.infoRE : (Tryz.prog.info? 60).map (fun i => (i.zero, i.size, i.bytes)) = some (some (.agg #[.string ⟨#[]⟩, .bool false, .string ⟨#[]⟩, .int .i64 0]), 4, 48) := by kernel_rfl
set_option maxHeartbeats 1000000 in
theorem cloneE (R : List (List Value)) (v : Value) (w : World) (hv : LiesR 4 w v R) (hn : R.length ≤ 1000000000000) :
    Calls Tryz.prog 28 #[v] w fun e w' => ∃ u, e = .returned u ∧ LiesR 4 w' u R ∧ Own w.heap.size w' u ∧ Below w.heap.size w w' := by
  obtain ⟨i0, hi0, hz0, hz1, hz2⟩ := info_parts Tryz.infoRE
  obtain ⟨a, cap, rfl, hcap, hcap2, hR, hLL⟩ := hv
  have HR := hid hR
  have q22 : ∀ (w : World) (a : Option Addr) (n c n' c' : Nat), (binOp .eql 22 (.slice a n c) (.slice none n' c')).run Tryz.prog w = .ok (.bool a.isNone) w := fun w a n c n' c' => Lib.run_eql_slice_nil w _ _ a n c n' c' Tryz.underlying22
  cases a with
  | none =>
    have hL : R = [] := by
      cases R with
      | nil => rfl
      | cons s r => obtain ⟨b, o, hb, _⟩ := hLL 0 (by simp); cases hb
    subst hL
    clear hR
    go_enter Tryz.func28, Tryz.ntmps28
    go_wp2
    go_ret
    exact ⟨_, rfl, ⟨none, 0, rfl, Nat.le_refl _, by simp, HR.out, fun i h => absurd h (by simp)⟩, own_nil _ _, Below.refl _ _⟩
  | some ad =>
    have hcells : ∀ j u, R.flatten[j]? = some u → w.cell? (ad.add j) = some u := by
      cases R with
      | nil => intro j u hj; simp at hj
      | cons s r =>
        obtain ⟨b, o, hb, _⟩ := hLL 0 (by simp)
        injection hb with hb
        subst hb
        exact liesR_cells (by decide) (fun r hr => (hR r hr).1) fun i hi => by
          obtain ⟨b', o', hb', _, he⟩ := hLL i hi
          injection hb' with hb'
          injection hb' with h1 h2
          subst h1; subst h2
          exact he
    have HC := hid hcells
    have HFL := hid (flatten_len (fun r hr => (hR r hr).1) : R.flatten.length = R.length * 4)
    clear hcells hLL hR
    go_enter Tryz.func28, Tryz.ntmps28
    go_wp2_with (at_builtin; refine wpList_append_own _ rfl _ _ 22 rfl w.heap.size 60 i0 (.agg #[.string ⟨#[]⟩, .bool false, .string ⟨#[]⟩, .int .i64 0]) 4 48 Tryz.underlying22 hi0 hz0 hz1 hz2 rfl (by decide) _ _ _ rfl (World.ownsRow_made w #[] 0 (Nat.le_refl _) (Nat.zero_le _) (by simp)) ad R.length cap R.flatten rfl ?qc1 ?qc2 ?qc3 ?qc4 ?qc5 ?qc6 ?_)
    case qc1 => exact HFL.out
    case qc2 => intro j u hj; exact Lib.cell?_alloc_some _ (HC.out j u hj)
    case qc3 => exact flatten_one HR.out
    case qc4 => unfold maxLen; omega
    case qc5 => omega
    case qc6 => simp
    intro v2 w2 ho2 hgr2 hnn2
    have hbel2 : Below w.heap.size w w2 := ((Below.refl _ _).alloc (Nat.le_refl _) _).grown hgr2 (by simp) (fun k hk => by simp [Value.ownBlock] at hk; omega)
    have ho3 : w2.ownsRow w.heap.size 60 4 v2 R.length R.flatten := by simpa using ho2
    have HCL := hid (liesR_own ho3 (by omega) HR.out)
    have HOW := hid (own_row ho3)
    obtain ⟨a2, cap2, hv2, _, _, _⟩ := HCL.out
    clear ho2 ho3 hgr2 hnn2
    go_wp2_with fail
    go_ret
    exact ⟨_, rfl, HCL.out, HOW.out, hbel2⟩

theorem Tryz.infoRC : (Tryz.prog.info? 65).map (fun i => (i.zero, i.size, i.bytes)) = some (some (.agg #[.int .i64 0, .string ⟨#[]⟩, .string ⟨#[]⟩, .string ⟨#[]⟩, .int .i64 0]), 5, 64) := by kernel_rfl
set_option maxHeartbeats 1000000 in
theorem cloneC (R : List (List Value)) (v : Value) (w : World) (hv : LiesR 5 w v R) (hn : R.length ≤ 1000000000000) :
    Calls Tryz.prog 56 #[v] w fun e w' => ∃ u, e = .returned u ∧ LiesR 5 w' u R ∧ Own w.heap.size w' u ∧ Below w.heap.size w w' := by
  obtain ⟨i0, hi0, hz0, hz1, hz2⟩ := info_parts Tryz.infoRC
  obtain ⟨a, cap, rfl, hcap, hcap2, hR, hLL⟩ := hv
  have HR := hid hR
  have q22 : ∀ (w : World) (a : Option Addr) (n c n' c' : Nat), (binOp .eql 34 (.slice a n c) (.slice none n' c')).run Tryz.prog w = .ok (.bool a.isNone) w := fun w a n c n' c' => Lib.run_eql_slice_nil w _ _ a n c n' c' Tryz.underlying34
  cases a with
  | none =>
    have hL : R = [] := by
      cases R with
      | nil => rfl
      | cons s r => obtain ⟨b, o, hb, _⟩ := hLL 0 (by simp); cases hb
    subst hL
    clear hR
    go_enter Tryz.func56, Tryz.ntmps56
    go_wp2
    go_ret
    exact ⟨_, rfl, ⟨none, 0, rfl, Nat.le_refl _, by simp, HR.out, fun i h => absurd h (by simp)⟩, own_nil _ _, Below.refl _ _⟩
  | some ad =>
    have hcells : ∀ j u, R.flatten[j]? = some u → w.cell? (ad.add j) = some u := by
      cases R with
      | nil => intro j u hj; simp at hj
      | cons s r =>
        obtain ⟨b, o, hb, _⟩ := hLL 0 (by simp)
        injection hb with hb
        subst hb
        exact liesR_cells (by decide) (fun r hr => (hR r hr).1) fun i hi => by
          obtain ⟨b', o', hb', _, he⟩ := hLL i hi
          injection hb' with hb'
          injection hb' with h1 h2
          subst h1; subst h2
          exact he
    have HC := hid hcells
    have HFL := hid (flatten_len (fun r hr => (hR r hr).1) : R.flatten.length = R.length * 5)
    clear hcells hLL hR
    go_enter Tryz.func56, Tryz.ntmps56
    go_wp2_with (at_builtin; refine wpList_append_own _ rfl _ _ 34 rfl w.heap.size 65 i0 (.agg #[.int .i64 0, .string ⟨#[]⟩, .string ⟨#[]⟩, .string ⟨#[]⟩, .int .i64 0]) 5 64 Tryz.underlying34 hi0 hz0 hz1 hz2 rfl (by decide) _ _ _ rfl (World.ownsRow_made w #[] 0 (Nat.le_refl _) (Nat.zero_le _) (by simp)) ad R.length cap R.flatten rfl ?qc1 ?qc2 ?qc3 ?qc4 ?qc5 ?qc6 ?_)
    case qc1 => exact HFL.out
    case qc2 => intro j u hj; exact Lib.cell?_alloc_some _ (HC.out j u hj)
    case qc3 => exact flatten_one HR.out
    case qc4 => unfold maxLen; omega
    case qc5 => omega
    case qc6 => simp
    intro v2 w2 ho2 hgr2 hnn2
    have hbel2 : Below w.heap.size w w2 := ((Below.refl _ _).alloc (Nat.le_refl _) _).grown hgr2 (by simp) (fun k hk => by simp [Value.ownBlock] at hk; omega)
    have ho3 : w2.ownsRow w.heap.size 65 5 v2 R.length R.flatten := by simpa using ho2
    have HCL := hid (liesR_own ho3 (by omega) HR.out)
    have HOW := hid (own_row ho3)
    obtain ⟨a2, cap2, hv2, _, _, _⟩ := HCL.out
    clear ho2 ho3 hgr2 hnn2
    go_wp2_with fail
    go_ret
    exact ⟨_, rfl, HCL.out, HOW.out, hbel2⟩

theorem Tryz.infoRO : (Tryz.prog.info? 73).map (fun i => (i.zero, i.size, i.bytes)) = some (some (.agg #[.int .i64 0, .string ⟨#[]⟩, .slice none 0 0]), 3, 48) := by kernel_rfl
set_option maxHeartbeats 1000000 in
theorem cloneO (R : List (List Value)) (v : Value) (w : World) (hv : LiesR 3 w v R) (hn : R.length ≤ 1000000000000) :
    Calls Tryz.prog 55 #[v] w fun e w' => ∃ u, e = .returned u ∧ LiesR 3 w' u R ∧ Own w.heap.size w' u ∧ Below w.heap.size w w' := by
  obtain ⟨i0, hi0, hz0, hz1, hz2⟩ := info_parts Tryz.infoRO
  obtain ⟨a, cap, rfl, hcap, hcap2, hR, hLL⟩ := hv
  have HR := hid hR
  have q22 : ∀ (w : World) (a : Option Addr) (n c n' c' : Nat), (binOp .eql 23 (.slice a n c) (.slice none n' c')).run Tryz.prog w = .ok (.bool a.isNone) w := fun w a n c n' c' => Lib.run_eql_slice_nil w _ _ a n c n' c' Tryz.underlying23
  cases a with
  | none =>
    have hL : R = [] := by
      cases R with
      | nil => rfl
      | cons s r => obtain ⟨b, o, hb, _⟩ := hLL 0 (by simp); cases hb
    subst hL
    clear hR
    go_enter Tryz.func55, Tryz.ntmps55
    go_wp2
    go_ret
    exact ⟨_, rfl, ⟨none, 0, rfl, Nat.le_refl _, by simp, HR.out, fun i h => absurd h (by simp)⟩, own_nil _ _, Below.refl _ _⟩
  | some ad =>
    have hcells : ∀ j u, R.flatten[j]? = some u → w.cell? (ad.add j) = some u := by
      cases R with
      | nil => intro j u hj; simp at hj
      | cons s r =>
        obtain ⟨b, o, hb, _⟩ := hLL 0 (by simp)
        injection hb with hb
        subst hb
        exact liesR_cells (by decide) (fun r hr => (hR r hr).1) fun i hi => by
          obtain ⟨b', o', hb', _, he⟩ := hLL i hi
          injection hb' with hb'
          injection hb' with h1 h2
          subst h1; subst h2
          exact he
    have HC := hid hcells
    have HFL := hid (flatten_len (fun r hr => (hR r hr).1) : R.flatten.length = R.length * 3)
    clear hcells hLL hR
    go_enter Tryz.func55, Tryz.ntmps55
    go_wp2_with (at_builtin; refine wpList_append_own _ rfl _ _ 23 rfl w.heap.size 73 i0 (.agg #[.int .i64 0, .string ⟨#[]⟩, .slice none 0 0]) 3 48 Tryz.underlying23 hi0 hz0 hz1 hz2 rfl (by decide) _ _ _ rfl (World.ownsRow_made w #[] 0 (Nat.le_refl _) (Nat.zero_le _) (by simp)) ad R.length cap R.flatten rfl ?qc1 ?qc2 ?qc3 ?qc4 ?qc5 ?qc6 ?_)
    case qc1 => exact HFL.out
    case qc2 => intro j u hj; exact Lib.cell?_alloc_some _ (HC.out j u hj)
    case qc3 => exact flatten_one HR.out
    case qc4 => unfold maxLen; omega
    case qc5 => omega
    case qc6 => simp
    intro v2 w2 ho2 hgr2 hnn2
    have hbel2 : Below w.heap.size w w2 := ((Below.refl _ _).alloc (Nat.le_refl _) _).grown hgr2 (by simp) (fun k hk => by simp [Value.ownBlock] at hk; omega)
    have ho3 : w2.ownsRow w.heap.size 73 3 v2 R.length R.flatten := by simpa using ho2
    have HCL := hid (liesR_own ho3 (by omega) HR.out)
    have HOW := hid (own_row ho3)
    obtain ⟨a2, cap2, hv2, _, _, _⟩ := HCL.out
    clear ho2 ho3 hgr2 hnn2
    go_wp2_with fail
    go_ret
    exact ⟨_, rfl, HCL.out, HOW.out, hbel2⟩
end Go.Proofs.YtagdilnbbepccaaGreat
