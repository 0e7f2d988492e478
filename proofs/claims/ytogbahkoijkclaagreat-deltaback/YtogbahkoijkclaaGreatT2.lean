/- What tree.rises, at and first answer. -/
import Derived.Test.YtogbahkoijkclaaGreatT1
set_option linter.unusedSimpArgs false
set_option linter.unusedVariables false
namespace Go.Proofs.YtogbahkoijkclaaGreat
open Go.RowKit

namespace Pp
theorem find_hit {L : List En} {pr : En → Bool} {k : Nat} (hlt : k < L.length) (h : ∀ j (h : j < L.length), j < k → pr L[j] = false) (hp : pr L[k] = true) : L.find? pr = some L[k] := by
  rw [List.find?_eq_some_iff_getElem]
  exact ⟨hp, k, hlt, rfl, fun j hj => by simpa using h j (by omega) hj⟩
theorem find_miss {L : List En} {pr : En → Bool} (h : ∀ j (h : j < L.length), pr L[j] = false) : L.find? pr = none := by
  rw [List.find?_eq_none]
  intro x hx
  obtain ⟨j, hj, rfl⟩ := List.getElem_of_mem hx
  simpa using h j hj
end Pp

/-- A predicate on entries, as a function value. -/
def Tells (w : World) (g : Nat) (cb : Array Value) (pr : En → Bool) : Prop :=
  (∀ args w, (callFunc g args).run Tryz.prog w = .ok (.enter g args) w) ∧
  ∀ (W : World), Below w.heap.size w W → ∀ e : En, e.path.size ≤ 1000000000000000 → Calls Tryz.prog g (#[.agg #[.string e.path, .bool e.folder, .string e.text, .int .i64 e.ver]] ++ cb) W fun r W' => r = .returned (.bool (pr e)) ∧ Below W.heap.size W W'
theorem Tells.below {w w' : World} {g : Nat} {cb : Array Value} {pr : En → Bool} (h : Tells w g cb pr) (hw : Below w.heap.size w w') : Tells w' g cb pr :=
  ⟨h.1, fun W hW => h.2 W (hw.trans (hW.mono hw.size))⟩

set_option maxHeartbeats 400000 in
theorem at1_any (p : ByteArray) (f : Bool) (t : ByteArray) (n : Int) (q : ByteArray) (b : Nat) (w : World) (hb : b < w.heap.size) (hc : w.cell? ⟨b, 0, none⟩ = some (.string q)) :
    Calls Tryz.prog 53 #[.agg #[.string p, .bool f, .string t, .int .i64 n], .pointer (some ⟨b, 0, none⟩)] w fun e w' => e = .returned (.bool (Pp.atB q.data.toList ⟨p, f, t, n⟩)) ∧ Below w.heap.size w w' := by
  have hc2 : ∀ o, (w.alloc o).cell? ⟨b, 0, none⟩ = some (.string q) := fun o => (((Below.refl w.heap.size w).alloc (Nat.le_refl _) o).cell (p := ⟨b, 0, none⟩) hb).trans hc
  go_enter Tryz.func53, Tryz.ntmps53
  go_wp2
  go_ret
  exact ⟨Pp.ret_bool (by rw [Pp.atB, Lib.toList_data, Lib.toList_data]), (Below.refl _ _).alloc (Nat.le_refl _) _⟩

set_option maxHeartbeats 400000 in
theorem at_any (q : ByteArray) (w : World) :
    Calls Tryz.prog 39 #[.string q] w fun e w' => e = .returned (.func (.func 53) #[] #[.pointer (some ⟨w.heap.size, 0, none⟩)]) ∧ Tells w' 53 #[.pointer (some ⟨w.heap.size, 0, none⟩)] (Pp.atB q.data.toList) ∧ Below w.heap.size w w' := by
  go_enter Tryz.func39, Tryz.ntmps39
  go_wp2
  go_ret
  refine ⟨rfl, ⟨enters_of Tryz.func53 (by kernel_rfl) rfl, fun W hW e he => ?_⟩, (Below.refl _ _).alloc (Nat.le_refl _) _⟩
  exact at1_any e.path e.folder e.text e.ver q w.heap.size W (Nat.lt_of_lt_of_le (by simp) hW.size) ((hW.cell (p := ⟨w.heap.size, 0, none⟩) (by simp)).trans (by simp))

def fnd (r : Option En) : Value := match r with
  | some x => .tuple #[.agg #[.string x.path, .bool x.folder, .string x.text, .int .i64 x.ver], .bool true]
  | none => .tuple #[.agg #[.string ⟨#[]⟩, .bool false, .string ⟨#[]⟩, .int .i64 0], .bool false]

set_option maxHeartbeats 800000 in
theorem first_any (L : List En) (v : Value) (g : Nat) (cb : Array Value) (pr : En → Bool) (w : World) (hv : Lies w v L) (hg : Tells w g cb pr) (hs : ∀ e ∈ L, e.path.size ≤ 1000000000000000) :
    Calls Tryz.prog 38 #[v, .func (.func g) #[] cb] w fun e w' => e = .returned (fnd (L.find? pr)) ∧ Below w.heap.size w w' := by
  obtain ⟨a, cap, rfl, hcap, hcap2, hL⟩ := hv
  have HL : Hid (∀ i (h : i < L.length), ∃ b o, a = some ⟨b, o, none⟩ ∧ b < w.heap.size ∧ EnAt w b (o + i * 4) L[i]) := hL
  have HG : Hid (Tells w g cb pr) := hg
  have HS : Hid (∀ e ∈ L, e.path.size ≤ 1000000000000000) := hs
  have eg := hg.1
  clear hL hg hs
  go_enter Tryz.func38, Tryz.ntmps38
  go_wp2_with fail
  go_loopw [10] (fun i wr => ∃ k : Nat, k ≤ L.length ∧ i = .int .i64 k ∧ Hid (∀ j (h : j < L.length), j < k → pr L[j] = false) ∧ Below (w.alloc (.cells #[.string ⟨#[]⟩, .bool false, .string ⟨#[]⟩, .int .i64 0] 35)).heap.size (w.alloc (.cells #[.string ⟨#[]⟩, .bool false, .string ⟨#[]⟩, .int .i64 0] 35)) wr) (fun i _ => L.length - (intOf i).toNat)
  case atStart => exact ⟨0, Nat.zero_le _, rfl, (fun j _ h => absurd h (Nat.not_lt_zero _) : ∀ j (h : j < L.length), j < 0 → pr L[j] = false), Below.refl _ _⟩
  case round =>
    obtain ⟨k, hk, rfl, HP, hbel⟩ := hrel
    obtain ⟨r0, r1, r2, r3, hbw, hlt0⟩ := box4 hbel
    by_cases hlt : k < L.length
    · obtain ⟨b, o, rfl, hb, he⟩ := HL.out k hlt
      obtain ⟨c0, c1, c2, c3⟩ := he.below hb hbw
      have hsz := HS.out L[k] (List.getElem_mem hlt)
      cases hp : pr L[k] with
      | true =>
        have HF : Hid (L.find? pr = some L[k]) := (Pp.find_hit hlt HP.out hp : L.find? pr = some L[k])
        go_wp2_with fail
        refine (HG.out.2 _ (hbw.alloc (Nat.le_of_lt hlt0) _) L[k] hsz).mono ?_
        rintro e w1 ⟨rfl, hb1⟩
        obtain ⟨d0, d1, d2, d3, hb1w, hlt1⟩ := box4 hb1
        have hbel1 := hbel.trans (hb1w.mono hbel.size)
        obtain ⟨s0, s1, s2, s3, hbw1, hlt2⟩ := box4 hbel1
        have f0 := box4f hbel1 0
        have f1 := box4f hbel1 1
        have f2 := box4f hbel1 2
        have f3 := box4f hbel1 3
        rw [hp]
        clear hb1 c0 c1 c2 c3 r0 r1 r2 r3 hbel hbel1 eg
        go_wp2_with fail
        refine bodyPost_ret (v := .tuple #[.agg #[.string L[k].path, .bool L[k].folder, .string L[k].text, .int .i64 L[k].ver], .bool true]) (by simp [results, Tryz.results38, go_sem, s0, s1, s2, s3]) rfl ⟨by rw [HF.out]; rfl, ?_⟩
        exact (((hbw1.setCell (Nat.le_refl _) _).setCell (Nat.le_refl _) _).setCell (Nat.le_refl _) _).setCell (Nat.le_refl _) _
      | false =>
        go_wp2_with fail
        refine (HG.out.2 _ (hbw.alloc (Nat.le_of_lt hlt0) _) L[k] hsz).mono ?_
        rintro e w1 ⟨rfl, hb1⟩
        obtain ⟨d0, d1, d2, d3, hb1w, hlt1⟩ := box4 hb1
        have hbel1 := hbel.trans (hb1w.mono hbel.size)
        rw [hp]
        clear hb1 c0 c1 c2 c3 r0 r1 r2 r3 hbel eg
        go_wp2_with fail
        go_roundw
        case rel => exact ⟨k + 1, by omega, by simp, (fun j h1 h2 => by
          by_cases e : j = k
          · subst e; exact hp
          · exact HP.out j h1 (by omega) : ∀ j (h : j < L.length), j < k + 1 → pr L[j] = false), hbel1⟩
        case measure => simp [intOf]; omega
    · have f0 := box4f hbel 0
      have f1 := box4f hbel 1
      have f2 := box4f hbel 2
      have f3 := box4f hbel 3
      have HF : Hid (L.find? pr = none) := (Pp.find_miss (fun j h => HP.out j h (by omega)) : L.find? pr = none)
      go_wp2_with fail
      refine bodyPost_ret (v := .tuple #[.agg #[.string ⟨#[]⟩, .bool false, .string ⟨#[]⟩, .int .i64 0], .bool false]) (by simp [results, Tryz.results38, go_sem, r0, r1, r2, r3]) rfl ⟨by rw [HF.out]; rfl, ?_⟩
      exact (((hbw.setCell (Nat.le_refl _) _).setCell (Nat.le_refl _) _).setCell (Nat.le_refl _) _).setCell (Nat.le_refl _) _
end Go.Proofs.YtogbahkoijkclaaGreat
