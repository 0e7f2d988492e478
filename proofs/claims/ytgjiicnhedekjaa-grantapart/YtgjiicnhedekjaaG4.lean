/- Predicates on grants as function values; slices.IndexFunc and ContainsFunc at grants; isAny, isOwned, right. -/
import Derived.Test.YtgjiicnhedekjaaG3
set_option linter.unusedSimpArgs false
set_option linter.unusedVariables false
namespace Go.Proofs.Ytgjiicnhedekjaa
open Go.RowKit

/-- A predicate on grants, as a function value. -/
def TellsG (w : World) (g : Nat) (cb : Array Value) (pr : Gr → Bool) : Prop :=
  (∀ args w, (callFunc g args).run Try.prog w = .ok (.enter g args) w) ∧
  ∀ (W : World), Below w.heap.size w W → ∀ e : Gr, Calls Try.prog g (#[.agg #[.string e.fo, .string e.wh, .int .i64 e.ri]] ++ cb) W fun r W' => r = .returned (.bool (pr e)) ∧ Below W.heap.size W W'
theorem TellsG.below {w w' : World} {g : Nat} {cb : Array Value} {pr : Gr → Bool} (h : TellsG w g cb pr) (hw : Below w.heap.size w w') : TellsG w' g cb pr :=
  ⟨h.1, fun W hW => h.2 W (hw.trans (hW.mono hw.size))⟩

namespace Pp
/-- The place of the first grant of which a predicate holds; -1: of none. -/
def idG (G : List Gr) (pr : Gr → Bool) : Int := match G.findIdx? pr with
  | some i => (i : Int)
  | none => -1
theorem idG_hit {G : List Gr} {pr : Gr → Bool} {k : Nat} (hlt : k < G.length) (h : ∀ j (h : j < G.length), j < k → pr G[j] = false) (hp : pr G[k] = true) : (k : Int) = idG G pr := by
  have : G.findIdx? pr = some k := List.findIdx?_eq_some_iff_getElem.2 ⟨hlt, hp, fun j hj => by rw [h j (by omega) hj]; simp⟩
  rw [idG, this]
theorem idG_miss {G : List Gr} {pr : Gr → Bool} (h : ∀ j (h : j < G.length), pr G[j] = false) : -1 = idG G pr := by
  have : G.findIdx? pr = none := List.findIdx?_eq_none_iff.2 fun x hx => by
    obtain ⟨j, hj, rfl⟩ := List.getElem_of_mem hx
    exact h j hj
  rw [idG, this]
theorem idG_cases (G : List Gr) (pr : Gr → Bool) : (idG G pr = -1 ∧ G.find? pr = none ∧ G.any pr = false) ∨ ∃ k, ∃ h : k < G.length, idG G pr = (k : Int) ∧ G.find? pr = some G[k] ∧ G.any pr = true := by
  cases hf : G.findIdx? pr with
  | none =>
    have hn := List.findIdx?_eq_none_iff.1 hf
    refine Or.inl ⟨by rw [idG, hf], ?_, ?_⟩
    · rw [List.find?_eq_none]
      intro x hx
      simp [hn x hx]
    · exact List.any_eq_false.2 fun x hx => by simp [hn x hx]
  | some k =>
    obtain ⟨hlt, hp, hmin⟩ := List.findIdx?_eq_some_iff_getElem.1 hf
    refine Or.inr ⟨k, hlt, by rw [idG, hf], ?_, List.any_eq_true.2 ⟨G[k], List.getElem_mem hlt, hp⟩⟩
    rw [List.find?_eq_some_iff_getElem]
    exact ⟨hp, k, hlt, rfl, fun j hj => by have := hmin j hj; simpa using this⟩
end Pp

set_option maxHeartbeats 1000000 in
theorem indexFunc_any (G : List Gr) (v : Value) (g : Nat) (cb : Array Value) (pr : Gr → Bool) (w : World) (hv : LiesG w v G) (hg : TellsG w g cb pr) :
    Calls Try.prog 40 #[v, .func (.func g) #[] cb] w fun e w' => e = .returned (.int .i64 (Pp.idG G pr)) ∧ Below w.heap.size w w' := by
  obtain ⟨a, cap, rfl, hcap, hcap2, hLL⟩ := hv
  have HL : Hid (∀ i (h : i < G.length), ∃ b o, a = some ⟨b, o, none⟩ ∧ b < w.heap.size ∧ GrAt w b (o + i * 3) G[i]) := hLL
  have HG := ghid hg
  have eg := hg.1
  clear hLL hg
  go_enter Try.func40, Try.ntmps40
  go_wp2_with fail
  go_loopw [8] (fun i wr => ∃ k : Nat, k ≤ G.length ∧ i = .int .i64 k ∧ Hid (∀ j (h : j < G.length), j < k → pr G[j] = false) ∧ Below w.heap.size w wr) (fun i _ => G.length - (intOf i).toNat)
  case atStart => exact ⟨0, Nat.zero_le _, rfl, (fun j _ h => absurd h (Nat.not_lt_zero _) : ∀ j (h : j < G.length), j < 0 → pr G[j] = false), Below.refl _ _⟩
  case round =>
    obtain ⟨k, hk, rfl, HP, hbel⟩ := hrel
    by_cases hlt : k < G.length
    · obtain ⟨b, o, rfl, hb, he⟩ := HL.out k hlt
      obtain ⟨c0, c1, c2⟩ := he.below hb hbel
      go_wp2_with fail
      refine (HG.out.2 _ hbel G[k]).mono ?_
      rintro e w1 ⟨rfl, hb1⟩
      have hbel1 := below_trans hbel hb1
      clear c0 c1 c2 hbel hb1
      cases hp : pr G[k] with
      | true =>
        have HE : Hid ((k : Int) = Pp.idG G pr) := (Pp.idG_hit hlt HP.out hp : (k : Int) = Pp.idG G pr)
        go_wp2_with fail
        go_ret
        exact ⟨Pp.ret_int HE.out, hbel1⟩
      | false =>
        have HP2 : Hid (∀ j (h : j < G.length), j < k + 1 → pr G[j] = false) := (fun j h1 h2 => by
          by_cases e : j = k
          · subst e; exact hp
          · exact HP.out j h1 (by omega) : ∀ j (h : j < G.length), j < k + 1 → pr G[j] = false)
        go_wp2_with fail
        go_roundw
        case rel => exact ⟨k + 1, by omega, by simp, HP2, hbel1⟩
        case measure => simp [intOf]; omega
    · have HE : Hid (-1 = Pp.idG G pr) := (Pp.idG_miss (fun j h => HP.out j h (by omega)) : -1 = Pp.idG G pr)
      go_wp2_with fail
      go_ret
      exact ⟨Pp.ret_int HE.out, hbel⟩

set_option maxHeartbeats 1000000 in
theorem contains_any (G : List Gr) (v : Value) (g : Nat) (cb : Array Value) (pr : Gr → Bool) (w : World) (hv : LiesG w v G) (hg : TellsG w g cb pr) :
    Calls Try.prog 38 #[v, .func (.func g) #[] cb] w fun e w' => e = .returned (.bool (G.any pr)) ∧ Below w.heap.size w w' := by
  have HV := ghid hv
  have HG := ghid hg
  clear hv hg
  rcases Pp.idG_cases G pr with ⟨hi, _, ha⟩ | ⟨k, hk, hi, _, ha⟩
  · have HI := ghid hi
    have HA := ghid ha
    clear hi ha
    go_enter Try.func38, Try.ntmps38
    go_wp2_with fail
    refine (indexFunc_any G _ _ _ pr _ HV.out HG.out).mono ?_
    rintro e w1 ⟨rfl, hb1⟩
    rw [HI.out]
    go_wp2
    go_ret
    exact ⟨by rw [HA.out]; rfl, hb1⟩
  · have HI := ghid hi
    have HA := ghid ha
    clear hi ha
    go_enter Try.func38, Try.ntmps38
    go_wp2_with fail
    refine (indexFunc_any G _ _ _ pr _ HV.out HG.out).mono ?_
    rintro e w1 ⟨rfl, hb1⟩
    rw [HI.out]
    go_wp2
    go_ret
    exact ⟨by rw [HA.out]; rfl, hb1⟩

set_option maxHeartbeats 1000000 in
theorem isAny_any (G : List Gr) (v : Value) (g : Nat) (cb : Array Value) (pr : Gr → Bool) (w : World) (hv : LiesG w v G) (hg : TellsG w g cb pr) :
    Calls Try.prog 25 #[v, .func (.func g) #[] cb] w fun e w' => e = .returned (.bool (G.any pr)) ∧ Below w.heap.size w w' := by
  have HV := ghid hv
  have HG := ghid hg
  clear hv hg
  go_enter Try.func25, Try.ntmps25
  go_wp2_with fail
  refine (contains_any G _ _ _ pr _ HV.out HG.out).mono ?_
  rintro e w1 ⟨rfl, hb1⟩
  obtain ⟨r, hr⟩ : ∃ r, G.any pr = r := ⟨_, rfl⟩
  rw [hr]
  have HR := ghid hr
  clear hr
  go_wp2
  go_ret
  exact ⟨by rw [HR.out]; rfl, hb1⟩

namespace Pp
def inF (f : ByteArray) (e : Gr) : Bool := e.fo.toList == f.toList
def ownF (f : ByteArray) (e : Gr) : Bool := (e.fo.toList == f.toList) && (e.ri == 3)
def ofW (f h : ByteArray) (e : Gr) : Bool := (e.fo.toList == f.toList) && (e.wh.toList == h.toList)
end Pp

set_option maxHeartbeats 1000000 in
theorem own1_any (e : Gr) (f : ByteArray) (b : Nat) (w : World) (hb : b < w.heap.size) (hc : w.cell? ⟨b, 0, none⟩ = some (.string f)) :
    Calls Try.prog 37 #[.agg #[.string e.fo, .string e.wh, .int .i64 e.ri], .pointer (some ⟨b, 0, none⟩)] w fun r w' => r = .returned (.bool (Pp.ownF f e)) ∧ Below w.heap.size w w' := by
  have hc2 : ∀ o, (w.alloc o).cell? ⟨b, 0, none⟩ = some (.string f) := fun o => (((Below.refl w.heap.size w).alloc (Nat.le_refl _) o).cell (p := ⟨b, 0, none⟩) hb).trans hc
  cases h1 : (e.fo.toList == f.toList) with
  | true =>
    have HE : Hid ((e.ri == 3) = Pp.ownF f e) := (by rw [Pp.ownF, h1]; rfl : (e.ri == 3) = Pp.ownF f e)
    go_enter Try.func37, Try.ntmps37
    go_wp2
    go_ret
    exact ⟨Pp.ret_bool HE.out, (Below.refl _ _).alloc (Nat.le_refl _) _⟩
  | false =>
    have HE : Hid (false = Pp.ownF f e) := (by rw [Pp.ownF, h1]; rfl : false = Pp.ownF f e)
    go_enter Try.func37, Try.ntmps37
    go_wp2
    go_ret
    exact ⟨Pp.ret_bool HE.out, (Below.refl _ _).alloc (Nat.le_refl _) _⟩

set_option maxRecDepth 100000 in
set_option maxHeartbeats 1000000 in
theorem isOwned_any (G : List Gr) (v : Value) (f : ByteArray) (w : World) (hv : LiesG w v G) :
    Calls Try.prog 18 #[v, .string f] w fun e w' => e = .returned (.bool (G.any (Pp.ownF f))) ∧ Below w.heap.size w w' := by
  have HV := ghid hv
  clear hv
  have hT : TellsG (w.alloc (.cells #[.string f] 9)) 37 #[.pointer (some ⟨w.heap.size, 0, none⟩)] (Pp.ownF f) := by
    refine ⟨enters_of Try.func37 (by kernel_rfl) rfl, fun W hW e => ?_⟩
    exact own1_any e f w.heap.size W (Nat.lt_of_lt_of_le (by simp) hW.size) ((hW.cell (p := ⟨w.heap.size, 0, none⟩) (by simp)).trans (by simp))
  have HT := ghid hT
  clear hT
  go_enter Try.func18, Try.ntmps18
  go_wp2_with fail
  refine (isAny_any G _ _ _ (Pp.ownF f) _ (HV.out.below ((Below.refl _ _).alloc (Nat.le_refl _) _)) HT.out).mono ?_
  rintro e w1 ⟨rfl, hb1⟩
  have hbw := (box1 hb1).2.1
  obtain ⟨r, hr⟩ : ∃ r, G.any (Pp.ownF f) = r := ⟨_, rfl⟩
  rw [hr]
  have HR := ghid hr
  clear hr
  go_wp2
  go_ret
  exact ⟨by rw [HR.out]; rfl, hbw⟩
end Go.Proofs.Ytgjiicnhedekjaa
