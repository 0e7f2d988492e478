/- Predicates on grants as function values; slices.IndexFunc and ContainsFunc at grants; isAny, isOwned, right. What grant.Check and the reference's CheckGrants answer, for every list of grants. What the reference's Owned and CheckGrants answer, for every list of grants. The order of grants, as a sort asks for it; slices.SortFunc of grants. -/
import Derived.Test.YtchlgpeiombmdaaGreatGA
import Derived.BigQuiet
import Derived.Deep.QuietTactic
import Derived.Test.YtchlgpeiombmdaaGreatShelfG
import Derived.Shelf.SlSortCmp.WholeK
import Derived.Lib.OwnBridge
set_option linter.unusedSimpArgs false
set_option linter.unusedVariables false
namespace Go.Proofs.YtchlgpeiombmdaaGreat
open Go.RowKit

/-- A predicate on grants, as a function value. -/
def TellsG (w : World) (g : Nat) (cb : Array Value) (pr : Gr → Bool) : Prop :=
 (∀ args w, (callFunc g args).run Tryz.prog w = .ok (.enter g args) w) ∧
 ∀ (W : World), Below w.heap.size w W → ∀ e : Gr, Calls Tryz.prog g (#[.agg #[.string e.fo, .string e.wh, .int .i64 e.ri]] ++ cb) W fun r W' => r = .returned (.bool (pr e)) ∧ Below W.heap.size W W'
theorem TellsG.below {w w' : World} {g : Nat} {cb : Array Value} {pr : Gr → Bool} (h : TellsG w g cb pr) (hw : Below w.heap.size w w') : TellsG w' g cb pr :=
 ⟨h.1, fun W hW => h.2 W (hw.trans (hW.mono hw.size))⟩
namespace Pp
/-- The place of the first grant of which a predicate holds; -1: of none. -/
def idG (G : List Gr) (pr : Gr → Bool) : Int := match G.findIdx? pr with
 | some i => (i : Int)
 | none => -1
theorem idG_hit {G : List Gr} {pr : Gr → Bool} {k : Nat} (hlt : k < G.length) (h : ∀ j (h : j < G.length), j < k → pr G[j] = false) (hp : pr G[k] = true) : (k : Int) = idG G pr := by
 have : G.findIdx? pr = some k := List.findIdx?_eq_some_iff_getElem.2 ⟨hlt, hp, fun j hj => by rw [h j (by omega) hj]; simp⟩
 rw [idG, this]
theorem idG_miss {G : List Gr} {pr : Gr → Bool} (h : ∀ j (h : j < G.length), pr G[j] = false) : -1 = idG G pr := by
 have : G.findIdx? pr = none := List.findIdx?_eq_none_iff.2 fun x hx => by
  obtain ⟨j, hj, rfl⟩ := List.getElem_of_mem hx
  exact h j hj
 rw [idG, this]
theorem idG_cases (G : List Gr) (pr : Gr → Bool) : (idG G pr = -1 ∧ G.find? pr = none ∧ G.any pr = false) ∨ ∃ k, ∃ h : k < G.length, idG G pr = (k : Int) ∧ G.find? pr = some G[k] ∧ G.any pr = true := by
 cases hf : G.findIdx? pr with
 | none =>
  have hn := List.findIdx?_eq_none_iff.1 hf
  refine Or.inl ⟨by rw [idG, hf], ?_, ?_⟩
  · rw [List.find?_eq_none]
    intro x hx
    simp [hn x hx]
  · exact List.any_eq_false.2 fun x hx => by simp [hn x hx]
 | some k =>
  obtain ⟨hlt, hp, hmin⟩ := List.findIdx?_eq_some_iff_getElem.1 hf
  refine Or.inr ⟨k, hlt, by rw [idG, hf], ?_, List.any_eq_true.2 ⟨G[k], List.getElem_mem hlt, hp⟩⟩
  rw [List.find?_eq_some_iff_getElem]
  exact ⟨hp, k, hlt, rfl, fun j hj => by have := hmin j hj; simpa using this⟩
end Pp

set_option maxHeartbeats 1000000 in
theorem indexFunc_any (G : List Gr) (v : Value) (g : Nat) (cb : Array Value) (pr : Gr → Bool) (w : World) (hv : LiesG w v G) (hg : TellsG w g cb pr) :
    Calls Tryz.prog 51 #[v, .func (.func g) #[] cb] w fun e w' => e = .returned (.int .i64 (Pp.idG G pr)) ∧ Below w.heap.size w w' := by
 obtain ⟨a, cap, rfl, hcap, hcap2, hLL⟩ := hv
 have HL : Hid (∀ i (h : i < G.length), ∃ b o, a = some ⟨b, o, none⟩ ∧ b < w.heap.size ∧ GrAt w b (o + i * 3) G[i]) := hLL
 have HG := ghid hg
 have eg := hg.1
 clear hLL hg
 go_enter Tryz.func51, Tryz.ntmps51
 go_wp2_with fail
 go_loopw [8] (fun i wr => ∃ k : Nat, k ≤ G.length ∧ i = .int .i64 k ∧ Hid (∀ j (h : j < G.length), j < k → pr G[j] = false) ∧ Below w.heap.size w wr) (fun i _ => G.length - (intOf i).toNat)
 case atStart => exact ⟨0, Nat.zero_le _, rfl, (fun j _ h => absurd h (Nat.not_lt_zero _) : ∀ j (h : j < G.length), j < 0 → pr G[j] = false), Below.refl _ _⟩
 case round =>
  obtain ⟨k, hk, rfl, HP, hbel⟩ := hrel
  by_cases hlt : k < G.length
  · obtain ⟨b, o, rfl, hb, he⟩ := HL.out k hlt
    obtain ⟨c0, c1, c2⟩ := he.below hb hbel
    go_wp2_with fail
    refine (HG.out.2 _ hbel G[k]).mono ?_
    rintro e w1 ⟨rfl, hb1⟩
    have hbel1 := below_trans hbel hb1
    clear c0 c1 c2 hbel hb1
    cases hp : pr G[k] with
    | true =>
     have HE := hid (show (k : Int) = Pp.idG G pr from Pp.idG_hit hlt HP.out hp)
     go_wp2_with fail
     go_ret
     exact ⟨Pp.ret_int HE.out, hbel1⟩
    | false =>
     have HP2 := hid (show ∀ j (h : j < G.length), j < k + 1 → pr G[j] = false from fun j h1 h2 => by
      by_cases e : j = k
      · subst e; exact hp
      · exact HP.out j h1 (by omega))
     go_wp2_with fail
     go_roundw
     case rel => exact ⟨k + 1, by omega, by simp, HP2, hbel1⟩
     case measure => simp [intOf]; omega
  · have HE := hid (show -1 = Pp.idG G pr from Pp.idG_miss (fun j h => HP.out j h (by omega)))
    go_wp2_with fail
    go_ret
    exact ⟨Pp.ret_int HE.out, hbel⟩
set_option maxHeartbeats 1000000 in
theorem contains_any (G : List Gr) (v : Value) (g : Nat) (cb : Array Value) (pr : Gr → Bool) (w : World) (hv : LiesG w v G) (hg : TellsG w g cb pr) :
    Calls Tryz.prog 86 #[v, .func (.func g) #[] cb] w fun e w' => e = .returned (.bool (G.any pr)) ∧ Below w.heap.size w w' := by
 have HV := ghid hv
 have HG := ghid hg
 clear hv hg
 rcases Pp.idG_cases G pr with ⟨hi, _, ha⟩ | ⟨k, hk, hi, _, ha⟩
 · have HI := ghid hi
   have HA := ghid ha
   clear hi ha
   go_enter Tryz.func86, Tryz.ntmps86
   go_wp2_with fail
   refine (indexFunc_any G _ _ _ pr _ HV.out HG.out).mono ?_
   rintro e w1 ⟨rfl, hb1⟩
   rw [HI.out]
   go_wp2
   go_ret
   exact ⟨by rw [HA.out]; rfl, hb1⟩
 · have HI := ghid hi
   have HA := ghid ha
   clear hi ha
   go_enter Tryz.func86, Tryz.ntmps86
   go_wp2_with fail
   refine (indexFunc_any G _ _ _ pr _ HV.out HG.out).mono ?_
   rintro e w1 ⟨rfl, hb1⟩
   rw [HI.out]
   go_wp2
   go_ret
   exact ⟨by rw [HA.out]; rfl, hb1⟩
set_option maxHeartbeats 1000000 in
theorem isAny_any (G : List Gr) (v : Value) (g : Nat) (cb : Array Value) (pr : Gr → Bool) (w : World) (hv : LiesG w v G) (hg : TellsG w g cb pr) :
    Calls Tryz.prog 44 #[v, .func (.func g) #[] cb] w fun e w' => e = .returned (.bool (G.any pr)) ∧ Below w.heap.size w w' := by
 have HV := ghid hv
 have HG := ghid hg
 clear hv hg
 go_enter Tryz.func44, Tryz.ntmps44
 go_wp2_with fail
 refine (contains_any G _ _ _ pr _ HV.out HG.out).mono ?_
 rintro e w1 ⟨rfl, hb1⟩
 obtain ⟨r, hr⟩ : ∃ r, G.any pr = r := ⟨_, rfl⟩
 rw [hr]
 have HR := ghid hr
 clear hr
 go_wp2
 go_ret
 exact ⟨by rw [HR.out]; rfl, hb1⟩
namespace Pp
def inF (f : ByteArray) (e : Gr) : Bool := e.fo.toList == f.toList
def ownF (f : ByteArray) (e : Gr) : Bool := (e.fo.toList == f.toList) && (e.ri == 3)
def ofW (f h : ByteArray) (e : Gr) : Bool := (e.fo.toList == f.toList) && (e.wh.toList == h.toList)
end Pp

set_option maxHeartbeats 1000000 in
theorem own1_any (e : Gr) (f : ByteArray) (b : Nat) (w : World) (hb : b < w.heap.size) (hc : w.cell? ⟨b, 0, none⟩ = some (.string f)) :
    Calls Tryz.prog 92 #[.agg #[.string e.fo, .string e.wh, .int .i64 e.ri], .pointer (some ⟨b, 0, none⟩)] w fun r w' => r = .returned (.bool (Pp.ownF f e)) ∧ Below w.heap.size w w' := by
 have hc2 : ∀ o, (w.alloc o).cell? ⟨b, 0, none⟩ = some (.string f) := fun o => (((Below.refl w.heap.size w).alloc (Nat.le_refl _) o).cell (p := ⟨b, 0, none⟩) hb).trans hc
 cases h1 : (e.fo.toList == f.toList) with
 | true =>
  have HE := hid (show (e.ri == 3) = Pp.ownF f e from by rw [Pp.ownF, h1]; rfl)
  go_enter Tryz.func92, Tryz.ntmps92
  go_wp2
  go_ret
  exact ⟨Pp.ret_bool HE.out, (Below.refl _ _).alloc (Nat.le_refl _) _⟩
 | false =>
  have HE := hid (show false = Pp.ownF f e from by rw [Pp.ownF, h1]; rfl)
  go_enter Tryz.func92, Tryz.ntmps92
  go_wp2
  go_ret
  exact ⟨Pp.ret_bool HE.out, (Below.refl _ _).alloc (Nat.le_refl _) _⟩
set_option maxRecDepth 100000 in
set_option maxHeartbeats 1000000 in
theorem isOwned_any (G : List Gr) (v : Value) (f : ByteArray) (w : World) (hv : LiesG w v G) :
    Calls Tryz.prog 49 #[v, .string f] w fun e w' => e = .returned (.bool (G.any (Pp.ownF f))) ∧ Below w.heap.size w w' := by
 have HV := ghid hv
 clear hv
 have hT : TellsG (w.alloc (.cells #[.string f] 9)) 92 #[.pointer (some ⟨w.heap.size, 0, none⟩)] (Pp.ownF f) := by
  refine ⟨enters_of Tryz.func92 (by kernel_rfl) rfl, fun W hW e => ?_⟩
  exact own1_any e f w.heap.size W (Nat.lt_of_lt_of_le (by simp) hW.size) ((hW.cell (p := ⟨w.heap.size, 0, none⟩) (by simp)).trans (by simp))
 have HT := ghid hT
 clear hT
 go_enter Tryz.func49, Tryz.ntmps49
 go_wp2_with fail
 refine (isAny_any G _ _ _ (Pp.ownF f) _ (HV.out.below ((Below.refl _ _).alloc (Nat.le_refl _) _)) HT.out).mono ?_
 rintro e w1 ⟨rfl, hb1⟩
 have hbw := (box1 hb1).2.1
 obtain ⟨r, hr⟩ : ∃ r, G.any (Pp.ownF f) = r := ⟨_, rfl⟩
 rw [hr]
 have HR := ghid hr
 clear hr
 go_wp2
 go_ret
 exact ⟨by rw [HR.out]; rfl, hbw⟩
end Go.Proofs.YtchlgpeiombmdaaGreat
set_option linter.unusedSimpArgs false
set_option linter.unusedVariables false
namespace Go.Proofs.YtchlgpeiombmdaaGreat
open Go.RowKit

namespace Pp
def grsE : List Gr → Int
 | [] => 0
 | g :: r => if grE g = 0 then grsE r else grE g
theorem grs_hit : ∀ {G : List Gr} {k : Nat} (hlt : k < G.length), (∀ j (h : j < G.length), j < k → grE G[j] = 0) → ¬ grE G[k] = 0 → grsE G = grE G[k]
 | [], k, hlt, _, _ => absurd hlt (by simp)
 | g :: r, 0, _, _, hk => by rw [grsE, if_neg (show ¬ grE g = 0 from hk)]; rfl
 | g :: r, k + 1, hlt, h, hk => by
  rw [grsE, if_pos (show grE g = 0 from h 0 (by simp) (by omega))]
  have := grs_hit (G := r) (k := k) (by simpa using hlt) (fun j hj hjk => h (j + 1) (by simpa using hj) (by omega)) hk
  rw [this]; rfl
theorem grs_all : ∀ {G : List Gr}, (∀ j (h : j < G.length), grE G[j] = 0) → grsE G = 0
 | [], _ => rfl
 | g :: r, h => by
  rw [grsE, if_pos (show grE g = 0 from h 0 (by simp))]
  exact grs_all fun j hj => h (j + 1) (by simpa using hj)
def ownsE (G : List Gr) : Int := if (G.all fun g => G.any (ownF g.fo)) = true then 0 else 5
def gchE (G : List Gr) : Int := if 60 < G.length then 2 else if ¬ grsE G = 0 then grsE G else if risG G = false then 4 else ownsE G
theorem gch_many {G : List Gr} (h : 60 < G.length) : gchE G = 2 := if_pos h
theorem gch_grs {G : List Gr} (h : ¬ 60 < G.length) (h2 : ¬ grsE G = 0) : gchE G = grsE G := by rw [gchE, if_neg h, if_pos h2]
theorem gch_ris {G : List Gr} (h : ¬ 60 < G.length) (h2 : grsE G = 0) (h3 : risG G = false) : gchE G = 4 := by rw [gchE, if_neg h, if_neg (fun x => x h2), if_pos h3]
theorem gch_own {G : List Gr} (h : ¬ 60 < G.length) (h2 : grsE G = 0) (h3 : risG G = true) : gchE G = ownsE G := by rw [gchE, if_neg h, if_neg (fun x => x h2), if_neg (by rw [h3]; decide)]
theorem owns_no {G : List Gr} {k : Nat} (hlt : k < G.length) (h : G.any (ownF (G[k]).fo) = false) : 5 = ownsE G := by
 rw [ownsE, if_neg]
 rw [List.all_eq_true]
 intro hh
 have := hh G[k] (List.getElem_mem hlt)
 rw [h] at this; cases this
theorem owns_yes {G : List Gr} (h : ∀ j (h : j < G.length), G.any (ownF (G[j]).fo) = true) : 0 = ownsE G := by
 rw [ownsE, if_pos]
 rw [List.all_eq_true]
 intro x hx
 obtain ⟨j, hj, rfl⟩ := List.getElem_of_mem hx
 exact h j hj
end Pp

set_option maxHeartbeats 1000000 in
theorem checkOwners_any (G : List Gr) (v : Value) (w : World) (hv : LiesG w v G) :
    Calls Tryz.prog 68 #[v] w fun e w' => e = .returned (.int .i64 (Pp.ownsE G)) ∧ Below w.heap.size w w' := by
 have HV := ghid hv
 obtain ⟨a, cap, rfl, hcap, hcap2, hLL⟩ := hv
 have HL : Hid (∀ i (h : i < G.length), ∃ b o, a = some ⟨b, o, none⟩ ∧ b < w.heap.size ∧ GrAt w b (o + i * 3) G[i]) := hLL
 clear hLL
 go_enter Tryz.func68, Tryz.ntmps68
 go_wp2_with fail
 go_loopw [7] (fun i wr => ∃ k : Nat, k ≤ G.length ∧ i = .int .i64 k ∧ Hid (∀ j (h : j < G.length), j < k → G.any (Pp.ownF (G[j]).fo) = true) ∧ Below w.heap.size w wr) (fun i _ => G.length - (intOf i).toNat)
 case atStart => exact ⟨0, Nat.zero_le _, rfl, (fun j _ h => absurd h (Nat.not_lt_zero _) : ∀ j (h : j < G.length), j < 0 → G.any (Pp.ownF (G[j]).fo) = true), Below.refl _ _⟩
 case round =>
  obtain ⟨k, hk, rfl, HP, hbel⟩ := hrel
  by_cases hlt : k < G.length
  · obtain ⟨b, o, rfl, hb, he⟩ := HL.out k hlt
    obtain ⟨c0, c1, c2⟩ := he.below hb hbel
    have hsz := hbel.size
    go_wp2_with fail
    refine (isOwned_any G _ (G[k]).fo _ (HV.out.below (hbel.alloc hbel.size _))).mono ?_
    rintro e w1 ⟨rfl, hb1⟩
    obtain ⟨d0, d1, d2, hb1w, hlt1⟩ := bxG3 hb1
    have hbel1 := below_trans hbel hb1w
    clear c0 c1 c2 hbel hb1 hb1w d0 d1 d2
    cases hp : G.any (Pp.ownF (G[k]).fo) with
    | true =>
     have HP2 := hid (show ∀ j (h : j < G.length), j < k + 1 → G.any (Pp.ownF (G[j]).fo) = true from fun j h1 h2 => by
      by_cases e : j = k
      · subst e; exact hp
      · exact HP.out j h1 (by omega))
     clear hp
     go_wp2_with fail
     go_roundw
     case rel => exact ⟨k + 1, by omega, by simp, HP2, hbel1⟩
     case measure => simp [intOf]; omega
    | false =>
     have HE := hid (show 5 = Pp.ownsE G from Pp.owns_no hlt hp)
     clear hp
     go_wp2_with fail
     go_ret
     exact ⟨Pp.ret_int HE.out, hbel1⟩
  · have HE := hid (show 0 = Pp.ownsE G from Pp.owns_yes (fun j h => HP.out j h (by omega)))
    go_wp2_with fail
    go_ret
    exact ⟨Pp.ret_int HE.out, hbel⟩
set_option maxHeartbeats 2000000 in
theorem gcheck_any (G : List Gr) (v : Value) (w : World) (hv : LiesG w v G) (hs : SizedG G) :
    Calls Tryz.prog 37 #[v] w fun e w' => e = .returned (.int .i64 (Pp.gchE G)) ∧ Below w.heap.size w w' := by
 have HV := ghid hv
 have HS := ghid hs
 obtain ⟨a, cap, rfl, hcap, hcap2, hLL⟩ := hv
 have HL : Hid (∀ i (h : i < G.length), ∃ b o, a = some ⟨b, o, none⟩ ∧ b < w.heap.size ∧ GrAt w b (o + i * 3) G[i]) := hLL
 clear hLL hs
 by_cases h60 : 60 < G.length
 · have HE := hid (show 2 = Pp.gchE G from (Pp.gch_many h60).symm)
   have h60' : 60 < (G.length : Int) := by omega
   go_enter Tryz.func37, Tryz.ntmps37
   go_wp2_with fail
   go_ret
   exact ⟨Pp.ret_int HE.out, Below.refl _ _⟩
 · have h60' : ¬ 60 < (G.length : Int) := by omega
   go_enter Tryz.func37, Tryz.ntmps37
   go_wp2_with fail
   go_loopw [11] (fun i wr => ∃ k : Nat, k ≤ G.length ∧ i = .int .i64 k ∧ Hid (∀ j (h : j < G.length), j < k → Pp.grE G[j] = 0) ∧ Below w.heap.size w wr) (fun i _ => G.length - (intOf i).toNat)
   case atStart => exact ⟨0, Nat.zero_le _, rfl, (fun j _ h => absurd h (Nat.not_lt_zero _) : ∀ j (h : j < G.length), j < 0 → Pp.grE G[j] = 0), Below.refl _ _⟩
   case round =>
    obtain ⟨k, hk, rfl, HP, hbel⟩ := hrel
    by_cases hlt : k < G.length
    · obtain ⟨b, o, rfl, hb, he⟩ := HL.out k hlt
      obtain ⟨c0, c1, c2⟩ := he.below hb hbel
      have hsz := HS.out _ (List.getElem_mem hlt)
      go_wp2_with fail
      refine (checkGrant_any G[k] _ hsz.1 hsz.2).mono ?_
      rintro e w1 ⟨rfl, hb1⟩
      first
       | (have hbel1 := below_trans hbel hb1)
       | (have hbel1 := below_trans hbel (bxG3 hb1).2.2.2.1)
      clear c0 c1 c2 hbel hb1
      by_cases hp : Pp.grE G[k] = 0
      · rw [hp]
        have HP2 := hid (show ∀ j (h : j < G.length), j < k + 1 → Pp.grE G[j] = 0 from fun j h1 h2 => by
         by_cases e : j = k
         · subst e; exact hp
         · exact HP.out j h1 (by omega))
        clear hp
        go_wp2_with fail
        go_roundw
        case rel => exact ⟨k + 1, by omega, by simp, HP2, hbel1⟩
        case measure => simp [intOf]; omega
      · have hg := Pp.grs_hit hlt HP.out hp
        have HE := hid (show Pp.grE G[k] = Pp.gchE G from by rw [Pp.gch_grs h60 (by rw [hg]; exact hp), hg])
        have hz : (Pp.grE G[k] == 0) = false := by simpa using hp
        clear hg hp
        generalize Pp.grE G[k] = x at *
        go_wp2_with fail
        go_ret
        exact ⟨Pp.ret_int HE.out, hbel1⟩
    · have HG0 := ghid (Pp.grs_all (fun j h => HP.out j h (by omega)))
      clear HP
      go_wp2_with fail
      refine (grises_any G _ _ (HV.out.below hbel) (by omega)).mono ?_
      rintro e w1 ⟨rfl, hb1⟩
      have hbel1 := below_trans hbel hb1
      clear hbel hb1
      cases hr : Pp.risG G with
      | false =>
       have HE := hid (show 4 = Pp.gchE G from (Pp.gch_ris h60 HG0.out hr).symm)
       clear hr
       go_wp2_with fail
       go_ret
       exact ⟨Pp.ret_int HE.out, hbel1⟩
      | true =>
       have HE := hid (show Pp.ownsE G = Pp.gchE G from (Pp.gch_own h60 HG0.out hr).symm)
       clear hr
       go_wp2_with fail
       refine (checkOwners_any G _ _ (HV.out.below hbel1)).mono ?_
       rintro e w2 ⟨rfl, hb2⟩
       go_wp2_with fail
       go_ret
       exact ⟨Pp.ret_int HE.out, below_trans hbel1 hb2⟩
end Go.Proofs.YtchlgpeiombmdaaGreat
set_option linter.unusedSimpArgs false
set_option linter.unusedVariables false
namespace Go.Proofs.YtchlgpeiombmdaaGreat
open Go.RowKit

namespace Pp
theorem tri (x y : ByteArray) : (Op.bytesLess x.toList y.toList = true ∧ Op.bytesLess y.toList x.toList = false ∧ (x.toList == y.toList) = false ∧ (y.toList == x.toList) = false) ∨
    (Op.bytesLess x.toList y.toList = false ∧ Op.bytesLess y.toList x.toList = false ∧ (x.toList == y.toList) = true ∧ (y.toList == x.toList) = true) ∨
    (Op.bytesLess x.toList y.toList = false ∧ Op.bytesLess y.toList x.toList = true ∧ (x.toList == y.toList) = false ∧ (y.toList == x.toList) = false) := by
 have irr : ∀ z : ByteArray, Op.bytesLess z.toList z.toList = false := fun z => lt_irrefl ⟨z, false, z, 0⟩
 have tr : Op.bytesLess x.toList y.toList = true → Op.bytesLess y.toList x.toList = true → False := fun h1 h2 => by
  have := lt_trans ⟨x, false, x, 0⟩ ⟨y, false, y, 0⟩ ⟨x, false, x, 0⟩ h1 h2
  have h3 := irr x
  rw [show Op.bytesLess x.toList x.toList = lt ⟨x, false, x, 0⟩ ⟨x, false, x, 0⟩ from rfl, this] at h3
  cases h3
 have ne : ∀ a b : ByteArray, Op.bytesLess a.toList b.toList = true → (a.toList == b.toList) = false ∧ (b.toList == a.toList) = false := fun a b h => by
  constructor <;> (rw [beq_eq_false_iff_ne]; intro e)
  · rw [e] at h; rw [irr b] at h; cases h
  · rw [e] at h; rw [irr a] at h; cases h
 cases h1 : Op.bytesLess x.toList y.toList with
 | true =>
  have h2 : Op.bytesLess y.toList x.toList = false := by
   cases h2 : Op.bytesLess y.toList x.toList with
   | false => rfl
   | true => exact (tr h1 h2).elim
  exact Or.inl ⟨rfl, h2, (ne x y h1).1, (ne x y h1).2⟩
 | false =>
  cases h2 : Op.bytesLess y.toList x.toList with
  | true => exact Or.inr (Or.inr ⟨rfl, rfl, (ne y x h2).2, (ne y x h2).1⟩)
  | false =>
   have e : x.data.toList = y.data.toList := lt_same (x := ⟨x, false, x, 0⟩) (y := ⟨y, false, y, 0⟩) h1 h2
   refine Or.inr (Or.inl ⟨rfl, rfl, ?_, ?_⟩)
   · rw [Lib.toList_data, Lib.toList_data, e]; simp
   · rw [Lib.toList_data, Lib.toList_data, e]; simp
end Pp

namespace Pp
theorem cG_neg {a b : Gr} (h : Op.bytesLess a.fo.toList b.fo.toList = true ∨ ((a.fo.toList == b.fo.toList) = true ∧ Op.bytesLess a.fo.toList b.fo.toList = false ∧ Op.bytesLess a.wh.toList b.wh.toList = true)) : cG a b < 0 := by
 rcases h with h | ⟨h1, h2, h3⟩
 · rw [cG, if_neg (by rw [cS, if_pos h]; decide), cS, if_pos h]; decide
 · rw [cG, if_pos (by rw [cS, if_neg (by rw [h2]; decide), if_pos h1]), cS, if_pos h3]; decide
theorem cG_pos {a b : Gr} (h : (Op.bytesLess a.fo.toList b.fo.toList = false ∧ (a.fo.toList == b.fo.toList) = false) ∨ ((a.fo.toList == b.fo.toList) = true ∧ Op.bytesLess a.fo.toList b.fo.toList = false ∧ Op.bytesLess a.wh.toList b.wh.toList = false)) : 0 ≤ cG a b := by
 rcases h with ⟨h1, h2⟩ | ⟨h1, h2, h3⟩
 · have : cS a.fo b.fo = 1 := by rw [cS, if_neg (by rw [h1]; decide), if_neg (by rw [h2]; decide)]
   rw [cG, if_neg (by rw [this]; decide), this]; decide
 · rw [cG, if_pos (by rw [cS, if_neg (by rw [h2]; decide), if_pos h1]), cS, if_neg (by rw [h3]; decide)]
   split <;> decide
end Pp

end Go.Proofs.YtchlgpeiombmdaaGreat
set_option linter.unusedSimpArgs false
set_option linter.unusedVariables false
namespace Go.Proofs.YtchlgpeiombmdaaGreat
open Go.RowKit

namespace Pp
def ls (x y : ByteArray) : Bool := Op.bytesLess x.toList y.toList
theorem ls_irr (x : ByteArray) : ls x x = false := lt_irrefl ⟨x, false, x, 0⟩
theorem ls_trans (x y z : ByteArray) (h1 : ls x y = true) (h2 : ls y z = true) : ls x z = true := lt_trans ⟨x, false, x, 0⟩ ⟨y, false, y, 0⟩ ⟨z, false, z, 0⟩ h1 h2
theorem ls_ntrans (x y z : ByteArray) (h1 : ls x y = false) (h2 : ls y z = false) : ls x z = false := lt_ntrans ⟨x, false, x, 0⟩ ⟨y, false, y, 0⟩ ⟨z, false, z, 0⟩ h1 h2
def ltG (a b : Gr) : Bool := ls a.fo b.fo || (!(ls b.fo a.fo) && ls a.wh b.wh)
theorem ltG_c (a b : Gr) : decide (cG a b < 0) = ltG a b := by
 rcases tri a.fo b.fo with ⟨t1, t2, t3, t4⟩ | ⟨t1, t2, t3, t4⟩ | ⟨t1, t2, t3, t4⟩
 · have h1 : ls a.fo b.fo = true := t1
   have h2 := cG_neg (a := a) (b := b) (Or.inl t1)
   rw [ltG, h1]; simp [h2]
 · have h1 : ls a.fo b.fo = false := t1
   have h1' : ls b.fo a.fo = false := t2
   rcases tri a.wh b.wh with ⟨r1, r2, r3, r4⟩ | ⟨r1, r2, r3, r4⟩ | ⟨r1, r2, r3, r4⟩
   · have h2 := cG_neg (a := a) (b := b) (Or.inr ⟨t3, t1, r1⟩)
     have h3 : ls a.wh b.wh = true := r1
     rw [ltG, h1, h1', h3]; simp [h2]
   · have h2 := cG_pos (a := a) (b := b) (Or.inr ⟨t3, t1, r1⟩)
     have h3 : ls a.wh b.wh = false := r1
     rw [ltG, h1, h1', h3]; simp; omega
   · have h2 := cG_pos (a := a) (b := b) (Or.inr ⟨t3, t1, r1⟩)
     have h3 : ls a.wh b.wh = false := r1
     rw [ltG, h1, h1', h3]; simp; omega
 · have h1 : ls a.fo b.fo = false := t1
   have h1' : ls b.fo a.fo = true := t2
   have h2 := cG_pos (a := a) (b := b) (Or.inl ⟨t1, t3⟩)
   rw [ltG, h1, h1']; simp; omega
theorem ltOfG (a b : Gr) : ltOf cG a b = ltG a b := ltG_c a b
theorem ltG_irr (a : Gr) : ltG a a = false := by rw [ltG, ls_irr, ls_irr]; rfl
theorem ltG_trans (a b c : Gr) (h1 : ltG a b = true) (h2 : ltG b c = true) : ltG a c = true := by
 simp only [ltG, Bool.or_eq_true, Bool.and_eq_true, Bool.not_eq_true'] at *
 rcases h1 with h1 | ⟨h1, h1'⟩
 · rcases h2 with h2 | ⟨h2, h2'⟩
   · exact Or.inl (ls_trans _ _ _ h1 h2)
   · left
     cases h : ls a.fo c.fo with
     | true => rfl
     | false => have := ls_ntrans _ _ _ h h2; rw [this] at h1; cases h1
 · rcases h2 with h2 | ⟨h2, h2'⟩
   · left
     cases h : ls a.fo c.fo with
     | true => rfl
     | false => have := ls_ntrans _ _ _ h1 h; rw [this] at h2; cases h2
   · exact Or.inr ⟨ls_ntrans _ _ _ h2 h1, ls_trans _ _ _ h1' h2'⟩
theorem ltG_ntrans (a b c : Gr) (h1 : ltG a b = false) (h2 : ltG b c = false) : ltG a c = false := by
 simp only [ltG, Bool.or_eq_false_iff, Bool.and_eq_false_iff, Bool.not_eq_false'] at *
 obtain ⟨h1, h1'⟩ := h1
 obtain ⟨h2, h2'⟩ := h2
 refine ⟨ls_ntrans _ _ _ h1 h2, ?_⟩
 rcases h1' with h | h
 · left
   cases hc : ls c.fo a.fo with
   | true => rfl
   | false => have := ls_ntrans _ _ _ h2 hc; rw [this] at h; cases h
 · rcases h2' with h' | h'
   · left
     cases hc : ls c.fo a.fo with
     | true => rfl
     | false => have := ls_ntrans _ _ _ hc h1; rw [this] at h'; cases h'
   · exact Or.inr (ls_ntrans _ _ _ h h')
theorem swoG : Sort.SWO (ltOf cG) where
 irrefl x := by rw [ltOfG]; exact ltG_irr x
 trans x y z h1 h2 := by rw [ltOfG] at *; exact ltG_trans x y z h1 h2
 ntrans x y z h1 h2 := by rw [ltOfG] at *; exact ltG_ntrans x y z h1 h2
def cellsG (e : Gr) : List Value := [.string e.fo, .string e.wh, .int .i64 e.ri]
def flatG (G : List Gr) : List Value := G.flatMap cellsG
theorem cellsG_one (e : Gr) : ∀ u ∈ cellsG e, u.oneCell' = true := by
 intro u hu
 simp only [cellsG, List.mem_cons, List.not_mem_nil, or_false] at hu
 rcases hu with rfl | rfl | rfl <;> rfl
theorem flatG_get : ∀ (L : List Gr) (i c : Nat) (h : i < L.length), c < 3 → (flatG L)[i * 3 + c]? = (cellsG L[i])[c]?
 | [], i, c, h, _ => absurd h (Nat.not_lt_zero _)
 | a :: r, 0, c, _, hc => by
  rw [flatG, List.flatMap_cons, Nat.zero_mul, Nat.zero_add, List.getElem?_append_left (by simpa [cellsG] using hc)]
  rfl
 | a :: r, i + 1, c, h, hc => by
  have ih := flatG_get r i c (by simpa using h) hc
  rw [flatG, List.flatMap_cons, List.getElem?_append_right (by simp [cellsG]; omega)]
  rw [show (i + 1) * 3 + c - (cellsG a).length = i * 3 + c by simp [cellsG]; omega]
  exact ih
theorem cellsG_get (e : Gr) (c : Nat) (hc : c < 3) : (cellsG e)[c]? = some ((cellsG e)[c]!) := by
 have : c < (cellsG e).length := by simpa [cellsG] using hc
 rw [List.getElem?_eq_getElem this, getElem!_pos _ c this]
theorem flatG_len (L : List Gr) : (flatG L).length = L.length * 3 := by
 induction L with
 | nil => rfl
 | cons a r ih => rw [flatG, List.flatMap_cons, List.length_append]; rw [show (List.flatMap cellsG r) = flatG r from rfl, ih]; simp [cellsG]; omega
theorem flatG_snoc (L : List Gr) (e : Gr) : flatG L ++ cellsG e = flatG (L ++ [e]) := by simp [flatG]
theorem holdsG_own [Inhabited Gr] {w : World} {base g n cap : Nat} {T : TypeId} {L : List Gr} (h : w.ownsRow base T 3 (.slice (some ⟨g, 0, none⟩) n cap) n (flatG L)) (hn : n = L.length) : Sort.HoldsK cellsG 3 w g 0 L.toArray := by
 subst hn
 intro j hj
 rw [Sort.size_flatK, List.size_toArray] at hj
 refine ⟨?_, by rw [Nat.zero_add]; exact h.frozenAt j⟩
 rw [Nat.zero_add, h.cellAt j hj, id, Sort.get_flatK _ _ _ _ (by simpa using hj)]
 have h1 : j / 3 < L.length := by omega
 have h2 := flatG_get L (j / 3) (j % 3) h1 (by omega)
 rw [show j / 3 * 3 + j % 3 = j by omega] at h2
 rw [h2, cellsG_get _ _ (by omega)]
 have e : L.toArray[j / 3]! = L[j / 3] := by rw [getElem!_pos _ _ (by simpa using h1)]; simp
 rw [e]
theorem liesG_holds [Inhabited Gr] {w : World} {g cap : Nat} {d : Array Gr} (hg : g < w.heap.size) (h : Sort.HoldsK cellsG 3 w g 0 d) (hc : d.size ≤ cap) (hc2 : d.size ≤ 1000000000000000) : LiesG w (.slice (some ⟨g, 0, none⟩) d.size cap) d.toList := by
 refine ⟨some ⟨g, 0, none⟩, cap, by simp, by simpa using hc, by simpa using hc2, fun i hi => ⟨g, 0, rfl, hg, ?_⟩⟩
 have hi' : i < d.size := by simpa using hi
 have e : d[i]! = d.toList[i] := by rw [getElem!_pos d i hi']; simp
 have key : ∀ c, c < 3 → w.cell? ⟨g, 0 + i * 3 + c, none⟩ = (cellsG d.toList[i])[c]? := by
  intro c hc4
  have hj : i * 3 + c < d.size * 3 := by omega
  have := (h (i * 3 + c) (by rw [Sort.size_flatK]; exact hj)).1
  rw [id, Sort.get_flatK _ _ _ _ hj, show (i * 3 + c) / 3 = i by omega, show (i * 3 + c) % 3 = c by omega, e, ← cellsG_get _ c hc4] at this
  rw [Nat.add_assoc]; exact this
 exact ⟨key 0 (by omega), key 1 (by omega), key 2 (by omega)⟩
end Pp
end Go.Proofs.YtchlgpeiombmdaaGreat
