/- Hubs that lie in memory, and what is asked of their folders, as plain mathematics. Where a folder is among folders that rise, or would be: hub.place, over slices.BinarySearchFunc. What hub.checkFolders answers. Which folders the grants tell of: hub.tell. -/
import Derived.Test.YtchlgpeiombmdaaGreatHQ
import Derived.Test.YtchlgpeiombmdaaGreatUA
import Derived.Test.YtchlgpeiombmdaaGreatGB
import Derived.Test.YtchlgpeiombmdaaGreatMA
import Derived.Test.YtchlgpeiombmdaaGreatHM
import Derived.Test.YtchlgpeiombmdaaGreatHP
import Derived.Test.YtchlgpeiombmdaaGreatUB
set_option linter.unusedSimpArgs false
set_option linter.unusedVariables false
namespace Go.Proofs.YtchlgpeiombmdaaGreat
open Go.RowKit

/-- A shared folder: its name, its journal. -/
structure Sh where
 na : ByteArray
 jo : Jo
/-- A hub: its folders, its grants, its uploads (sessions, next, lasts, room), its time. -/
structure Hb where
 fos : List Sh
 gs : List Gr
 ss : List Se
 nx : Int
 la : Int
 ro : Int
 now : Int
def ShAt (w : World) (b o : Nat) (s : Sh) : Prop := w.cell? ⟨b, o, none⟩ = some (.string s.na) ∧ ∃ u x, w.cell? ⟨b, o + 1, none⟩ = some u ∧ w.cell? ⟨b, o + 2, none⟩ = some (.int .i64 s.jo.first) ∧ w.cell? ⟨b, o + 3, none⟩ = some x ∧ Lies w u s.jo.base ∧ LiesO w x s.jo.cos
def LiesF (w : World) (v : Value) (l : List Sh) : Prop := ∃ a cap, v = .slice a l.length cap ∧ l.length ≤ cap ∧ l.length ≤ 1000000000000000 ∧ ∀ i (h : i < l.length), ∃ b o, a = some ⟨b, o, none⟩ ∧ b < w.heap.size ∧ ShAt w b (o + i * 4) l[i]
def LiesH (w : World) (v : Value) (h : Hb) : Prop := ∃ vf vg vs, v = .agg #[vf, vg, vs, .int .i64 h.nx, .int .i64 h.la, .int .i64 h.ro, .int .i64 h.now] ∧ LiesF w vf h.fos ∧ LiesG w vg h.gs ∧ LiesS w vs h.ss
theorem ShAt.below {w w' : World} {b o : Nat} {s : Sh} (h : ShAt w b o s) (hb : b < w.heap.size) (hw : Below w.heap.size w w') : ShAt w' b o s := by
 obtain ⟨h0, u, x, h1, h2, h3, h4, h5⟩ := h
 exact ⟨(hw.cell (p := ⟨b, o, none⟩) hb).trans h0, u, x, (hw.cell (p := ⟨b, o + 1, none⟩) hb).trans h1, (hw.cell (p := ⟨b, o + 2, none⟩) hb).trans h2, (hw.cell (p := ⟨b, o + 3, none⟩) hb).trans h3, h4.below hw, h5.below hw⟩
theorem LiesF.below {w w' : World} {v : Value} {l : List Sh} (h : LiesF w v l) (hw : Below w.heap.size w w') : LiesF w' v l := by
 obtain ⟨a, cap, hv, h1, h2, h3⟩ := h
 refine ⟨a, cap, hv, h1, h2, fun i hi => ?_⟩
 obtain ⟨b, o, ha, hb, he⟩ := h3 i hi
 exact ⟨b, o, ha, Nat.lt_of_lt_of_le hb hw.size, he.below hb hw⟩
theorem LiesH.below {w w' : World} {v : Value} {h : Hb} (hl : LiesH w v h) (hw : Below w.heap.size w w') : LiesH w' v h := by
 obtain ⟨vf, vg, vs, rfl, h1, h2, h3⟩ := hl
 exact ⟨vf, vg, vs, rfl, h1.below hw, h2.below hw, h3.below hw⟩
theorem liesF_nil (w : World) : LiesF w (.slice none 0 0) [] := ⟨none, 0, rfl, Nat.le_refl _, by decide, fun i h => absurd h (by simp)⟩
def SizedF (l : List Sh) : Prop := ∀ s ∈ l, s.na.size ≤ 150000000000000 ∧ Sized s.jo.base ∧ SizedO 150000000000000 s.jo.cos
structure SizedH (h : Hb) : Prop where
 fos : SizedF h.fos
 gs : SizedG h.gs
 ss : SizedS h.ss
namespace Hu
/-- Of one folder: its name, its journal. -/
def shE (s : Sh) : Int := if ¬ Pp.nmsE [s.na] = 0 then Pp.nmsE [s.na] else Jn.chkE s.jo
def shsE : List Sh → Int
 | [] => 0
 | s :: r => if ¬ shE s = 0 then shE s else shsE r
def lt (a b : Sh) : Bool := Op.bytesLess a.na.toList b.na.toList
def risB : List Sh → Bool
 | [] => true
 | [_] => true
 | a :: b :: r => lt a b && risB (b :: r)
def cfE (l : List Sh) : Int := if 8 < l.length then 2 else if ¬ shsE l = 0 then shsE l else if risB l = true then 0 else 4
theorem ris_iff : ∀ (L : List Sh), risB L = true ↔ ∀ i (h : i + 1 < L.length), lt L[i] L[i + 1] = true
 | [] => by simp [risB]
 | [_] => by simp [risB]
 | a :: b :: r => by
  rw [risB, Bool.and_eq_true, ris_iff (b :: r)]
  constructor
  · rintro ⟨h1, h2⟩ i h
    cases i with
    | zero => exact h1
    | succ i => exact h2 i (by simpa using h)
  · intro h
    exact ⟨h 0 (by simp), fun i hi => h (i + 1) (by simpa using hi)⟩
theorem shs_zero {L : List Sh} : shsE L = 0 ↔ ∀ i (h : i < L.length), shE L[i] = 0 := by
 induction L with
 | nil => simp [shsE]
 | cons s r ih =>
  rw [shsE]
  constructor
  · intro h i hi
    by_cases h0 : shE s = 0
    · rw [if_neg (fun x => x h0)] at h
      cases i with
      | zero => exact h0
      | succ i => exact ih.1 h i (by simpa using hi)
    · rw [if_pos h0] at h; exact absurd h h0
  · intro h
    rw [if_neg (fun x => x (h 0 (by simp)))]
    exact ih.2 fun i hi => h (i + 1) (by simpa using hi)
theorem shs_bad {L : List Sh} {k : Nat} (hk : k < L.length) (h : ∀ i (h : i < L.length), i < k → shE L[i] = 0) (h0 : ¬ shE L[k] = 0) : shsE L = shE L[k] := by
 induction L generalizing k with
 | nil => exact absurd hk (by simp)
 | cons s r ih =>
  rw [shsE]
  cases k with
  | zero => exact if_pos h0
  | succ k =>
   rw [if_neg (fun x => x (h 0 (by simp) (by omega)))]
   exact ih (by simpa using hk) (fun i hi hik => h (i + 1) (by simpa using hi) (by omega)) h0
theorem cf_many {L : List Sh} (h : 8 < L.length) : cfE L = 2 := by rw [cfE, if_pos h]
theorem cf_bad {L : List Sh} {k : Nat} (h8 : ¬ 8 < L.length) (hk : k < L.length) (h : ∀ i (h : i < L.length), i < k → shE L[i] = 0) (h0 : ¬ shE L[k] = 0) : cfE L = shE L[k] := by
 have e := shs_bad hk h h0
 rw [cfE, if_neg h8, e, if_pos h0]
theorem cf_order {L : List Sh} {m : Nat} (h8 : ¬ 8 < L.length) (h : ∀ i (h : i < L.length), shE L[i] = 0) (hm : m + 1 < L.length) (hl : lt L[m] L[m + 1] = false) : cfE L = 4 := by
 rw [cfE, if_neg h8, if_neg (fun x => x (shs_zero.2 h)), if_neg (fun x => by have := (ris_iff L).1 x m hm; rw [hl] at this; cases this)]
theorem cf_ok {L : List Sh} (h8 : ¬ 8 < L.length) (h : ∀ i (h : i < L.length), shE L[i] = 0) (hl : ∀ i (h : i + 1 < L.length), lt L[i] L[i + 1] = true) : cfE L = 0 := by
 rw [cfE, if_neg h8, if_neg (fun x => x (shs_zero.2 h)), if_pos ((ris_iff L).2 hl)]
end Hu
end Go.Proofs.YtchlgpeiombmdaaGreat
set_option linter.unusedSimpArgs false
set_option linter.unusedVariables false
namespace Go.Proofs.YtchlgpeiombmdaaGreat
open Go.RowKit

namespace Hu
def cm (s : Sh) (x : ByteArray) : Int := Lib.compareBytes s.na.data.toList x.data.toList
theorem lt_cm (s t : Sh) : lt s t = decide (Lib.compareBytes s.na.data.toList t.na.data.toList < 0) := by rw [lt, Pp.less_cmp, Lib.toList_data, Lib.toList_data]
theorem ris_lt {L : List Sh} (hr : risB L = true) : ∀ (d i : Nat) (h : i + d + 1 < L.length), Lib.compareBytes (L[i]'(by omega)).na.data.toList (L[i + d + 1]).na.data.toList < 0
 | 0, i, h => by
  have := (ris_iff L).1 hr i h
  rw [lt_cm] at this
  exact of_decide_eq_true this
 | d + 1, i, h => by
  have h1 := ris_lt hr d i (by omega)
  have h2 := (ris_iff L).1 hr (i + d + 1) (by omega)
  rw [lt_cm] at h2
  exact Pp.cmp_trans _ _ _ h1 (of_decide_eq_true h2)
theorem cm_mono {L : List Sh} (hr : risB L = true) {x : ByteArray} {i j : Nat} (hij : i ≤ j) (hj : j < L.length) (h : cm L[j] x < 0) : cm (L[i]'(by omega)) x < 0 := by
 by_cases e : i = j
 · subst e; exact h
 · obtain ⟨d, rfl⟩ : ∃ d, j = i + d + 1 := ⟨j - i - 1, by omega⟩
   exact Pp.cmp_trans _ _ _ (ris_lt hr d i hj) h
/-- Where one of this name is, or would be; whether there is one. -/
def plc (L : List Sh) (x : ByteArray) : Nat := L.findIdx (fun s => decide (0 ≤ cm s x))
def isB (L : List Sh) (x : ByteArray) : Bool := L.any (fun s => decide (cm s x = 0))
theorem plc_of {L : List Sh} {x : ByteArray} {p : Nat} (hp : p ≤ L.length) (hlo : ∀ m (h : m < L.length), m < p → cm L[m] x < 0) (hhi : ∀ m (h : m < L.length), p ≤ m → 0 ≤ cm L[m] x) : plc L x = p := by
 by_cases h : p < L.length
 · exact (List.findIdx_eq h).2 ⟨decide_eq_true (hhi p h (Nat.le_refl _)), fun m hm => by have := hlo m (by omega) hm; simp; omega⟩
 · obtain rfl : p = L.length := by omega
   exact List.findIdx_eq_length.2 fun s hs => by
    obtain ⟨m, hm, rfl⟩ := List.getElem_of_mem hs
    have := hlo m hm hm; simp; omega
theorem is_of {L : List Sh} {x : ByteArray} {p : Nat} (hr : risB L = true) (h : p < L.length) (hlo : ∀ m (h : m < L.length), m < p → cm L[m] x < 0) (hhi : ∀ m (h : m < L.length), p ≤ m → 0 ≤ cm L[m] x) : isB L x = decide (cm L[p] x = 0) := by
 by_cases e : cm L[p] x = 0
 · rw [decide_eq_true e]
   exact List.any_eq_true.2 ⟨L[p], List.getElem_mem h, decide_eq_true e⟩
 · rw [decide_eq_false e]
   refine List.any_eq_false.2 fun s hs => ?_
   obtain ⟨m, hm, rfl⟩ := List.getElem_of_mem hs
   simp only [decide_eq_true_eq]
   intro hz
   by_cases h1 : m < p
   · have := hlo m hm h1; omega
   · by_cases h2 : m = p
     · subst h2; exact e hz
     · obtain ⟨d, rfl⟩ : ∃ d, m = p + d + 1 := ⟨m - p - 1, by omega⟩
       have h3 := ris_lt hr d p hm
       have h4 : L[p + d + 1].na.data.toList = x.data.toList := Pp.cmp_zero _ _ hz
       rw [h4] at h3
       have h5 := hhi p h (Nat.le_refl _)
       have h6 : cm L[p] x < 0 := h3
       omega
theorem is_none {L : List Sh} {x : ByteArray} (hlo : ∀ m (h : m < L.length), cm L[m] x < 0) : isB L x = false := by
 refine List.any_eq_false.2 fun s hs => ?_
 obtain ⟨m, hm, rfl⟩ := List.getElem_of_mem hs
 have := hlo m hm
 simp; omega
end Hu

set_option maxRecDepth 100000 in
theorem place1_any (na y : ByteArray) (ua xa : Option Addr) (n1 c1 n2 c2 : Nat) (f : Int) (w : World) :
    Calls Tryz.prog 104 #[.agg #[.string na, .slice ua n1 c1, .int .i64 f, .slice xa n2 c2], .string y] w fun e w' => e = .returned (.int .i64 (Lib.compareBytes na.data.toList y.data.toList)) ∧ Below w.heap.size w w' := by
 have hbz : Below w.heap.size w (w.alloc (.cells #[.string na, .slice ua n1 c1, .int .i64 f, .slice xa n2 c2] 51)) := (Below.refl _ _).alloc (Nat.le_refl _) _
 go_enter Tryz.func104, Tryz.ntmps104
 go_wp2_with fail
 refine (Tryz.strings_Compare _ _ _).mono ?_
 rintro e w1 ⟨rfl, rfl⟩
 go_wp2_with fail
 go_ret
 exact ⟨rfl, hbz⟩
set_option maxRecDepth 100000 in
set_option maxHeartbeats 2000000 in
theorem bsearch_any (L : List Sh) (v : Value) (x : ByteArray) (w : World) (hv : LiesF w v L) (hr : Hu.risB L = true) (h8 : L.length ≤ 8) :
    Calls Tryz.prog 103 #[v, .string x, .func (.func 104) #[] #[]] w fun e w' => e = .returned (.tuple #[.int .i64 (Hu.plc L x), .bool (Hu.isB L x)]) ∧ Below w.heap.size w w' := by
 have HR := hid hr
 obtain ⟨a, cap, rfl, hcap, hcap2, hLL⟩ := hv
 have HL : Hid (∀ i (h : i < L.length), ∃ b o, a = some ⟨b, o, none⟩ ∧ b < w.heap.size ∧ ShAt w b (o + i * 4) L[i]) := hLL
 clear hLL hr
 go_enter Tryz.func103, Tryz.ntmps103
 go_wp2_with fail
 go_loopw [9, 10] (fun vi vj wr => ∃ i j : Nat, i ≤ j ∧ j ≤ L.length ∧ vi = .int .i64 i ∧ vj = .int .i64 j ∧ Hid (∀ m (h : m < L.length), m < i → Hu.cm L[m] x < 0) ∧ Hid (∀ m (h : m < L.length), j ≤ m → 0 ≤ Hu.cm L[m] x) ∧ Below w.heap.size w wr) (fun vi vj _ => (intOf vj - intOf vi).toNat)
 case atStart => exact ⟨0, L.length, Nat.zero_le _, Nat.le_refl _, rfl, rfl, (fun m _ h => absurd h (Nat.not_lt_zero _) : ∀ m (h : m < L.length), m < 0 → Hu.cm L[m] x < 0), (fun m h h2 => absurd h (by omega) : ∀ m (h : m < L.length), L.length ≤ m → 0 ≤ Hu.cm L[m] x), Below.refl _ _⟩
 case round =>
  obtain ⟨i, j, hij, hj, rfl, rfl, HA, HB, hbel⟩ := hrel
  by_cases hlt : i < j
  · obtain ⟨k, hk⟩ : ∃ k : Nat, k = (i + j) / 2 := ⟨_, rfl⟩
    have hlt' : (i : Int) < j := by omega
    have hk1 : i ≤ k := by omega
    have hk2 : k < j := by omega
    have hkL : k < L.length := by omega
    obtain ⟨b, o, rfl, hb, he⟩ := HL.out k hkL
    obtain ⟨c0, u, z, c1, c2, c3, hu, hz⟩ := he.below hb hbel
    have HLO := hid (show Hu.cm L[k] x < 0 → ∀ m (h : m < L.length), m < k + 1 → Hu.cm L[m] x < 0 from fun h m h1 h2 => Hu.cm_mono HR.out (by omega) hkL h)
    have HHI := hid (show ¬ Hu.cm L[k] x < 0 → ∀ m (h : m < L.length), k ≤ m → 0 ≤ Hu.cm L[m] x from fun h m h1 h2 => by
     by_cases e : Hu.cm L[m] x < 0
     · exact absurd (Hu.cm_mono HR.out h2 h1 e) h
     · omega)
    clear he
    have HC := hid (show Lib.compareBytes L[k].na.data.toList x.data.toList = Hu.cm L[k] x from rfl)
    generalize L[k] = s at *
    obtain ⟨na, ⟨jb, jf, jc⟩⟩ := s
    simp only at c0 c1 c2 c3 hu hz
    obtain ⟨ua, uc, rfl, _⟩ := hu
    obtain ⟨xa, xc, rfl, _⟩ := hz
    have hmid : ((i : Int) + j) / 2 = (k : Int) := by omega
    have hsh : Op.shift .shr .u64 ((i : Int) + j) .u64 1 = pure (.int .u64 (k : Int)) := by rw [shift_shr_any _ _ _ _ (by decide), ← hmid]; rfl
    have hw1 : IntKind.i64.wrap (k : Int) = k := by rw [IntKind.wrap_i64]; omega
    clear hmid hk
    go_wp2_with fail
    refine (place1_any na x ua xa _ uc _ xc jf _).mono ?_
    rintro e w1 ⟨rfl, hb1⟩
    rw [HC.out]
    have hbel1 := below_tr hbel hb1
    by_cases hc : Hu.cm ⟨na, ⟨jb, jf, jc⟩⟩ x < 0
    · have HA2 := hid (HLO.out hc)
      go_wp2_with fail
      go_roundw
      case rel => exact ⟨k + 1, j, by omega, hj, by simp, rfl, HA2, HB, hbel1⟩
      case measure => simp [intOf]; omega
    · have HB2 := hid (HHI.out (by omega))
      go_wp2_with fail
      go_roundw
      case rel => exact ⟨i, k, hk1, by omega, rfl, by simp, HA, HB2, hbel1⟩
      case measure => simp [intOf]; omega
  · obtain rfl : i = j := by omega
    by_cases hn : i < L.length
    · have hn' : (i : Int) < L.length := by omega
      obtain ⟨b, o, rfl, hb, he⟩ := HL.out i hn
      obtain ⟨c0, u, z, c1, c2, c3, hu, hz⟩ := he.below hb hbel
      have HC := hid (show Lib.compareBytes L[i].na.data.toList x.data.toList = Hu.cm L[i] x from rfl)
      have HF := hid (show Hu.plc L x = i ∧ Hu.isB L x = decide (Hu.cm L[i] x = 0) from ⟨Hu.plc_of hj HA.out HB.out, Hu.is_of HR.out hn HA.out HB.out⟩)
      clear he
      generalize L[i] = s at *
      obtain ⟨na, ⟨jb, jf, jc⟩⟩ := s
      simp only at c0 c1 c2 c3 hu hz
      obtain ⟨ua, uc, rfl, _⟩ := hu
      obtain ⟨xa, xc, rfl, _⟩ := hz
      go_wp2_with fail
      refine (place1_any na x ua xa _ uc _ xc jf _).mono ?_
      rintro e w1 ⟨rfl, hb1⟩
      rw [HC.out]
      have hbel1 := below_tr hbel hb1
      go_wp2_with fail
      go_ret2
      exact ⟨by rw [HF.out.1, HF.out.2]; rfl, hbel1⟩
    · have hn' : ¬ (i : Int) < L.length := by omega
      obtain rfl : i = L.length := by omega
      have HF := hid (show Hu.plc L x = L.length ∧ Hu.isB L x = false from ⟨Hu.plc_of hj HA.out HB.out, Hu.is_none fun m h => HA.out m h h⟩)
      go_wp2_with fail
      go_ret2
      exact ⟨by rw [HF.out.1, HF.out.2]; rfl, hbel⟩
set_option maxRecDepth 100000 in
/-- The server's box lies at g, its folders first. -/
theorem place_any (L : List Sh) (v : Value) (x : ByteArray) (g : Nat) (w : World) (hc : w.cell? ⟨g, 0, none⟩ = some v) (hv : LiesF w v L) (hr : Hu.risB L = true) (h8 : L.length ≤ 8) :
    Calls Tryz.prog 69 #[.pointer (some ⟨g, 0, none⟩), .string x] w fun e w' => e = .returned (.tuple #[.int .i64 (Hu.plc L x), .bool (Hu.isB L x)]) ∧ Below w.heap.size w w' := by
 have HV := hid hv
 obtain ⟨a, cap, rfl, _⟩ := hv
 go_enter Tryz.func69, Tryz.ntmps69
 go_wp2_with fail
 refine (bsearch_any L _ x _ HV.out hr h8).mono ?_
 rintro e w1 ⟨rfl, hb⟩
 go_wp2_with fail
 go_ret2
 exact ⟨rfl, hb⟩
end Go.Proofs.YtchlgpeiombmdaaGreat
set_option linter.unusedSimpArgs false
set_option linter.unusedVariables false
namespace Go.Proofs.YtchlgpeiombmdaaGreat
open Go.RowKit

set_option maxRecDepth 100000 in
set_option maxHeartbeats 2000000 in
theorem checkFolders_any (L : List Sh) (v : Value) (w : World) (hv : LiesF w v L) (hs : SizedF L) :
    Calls Tryz.prog 36 #[v] w fun e w' => e = .returned (.int .i64 (Hu.cfE L)) ∧ Below w.heap.size w w' := by
 have HS := hid hs
 obtain ⟨a, cap, rfl, hcap, hcap2, hLL⟩ := hv
 have HL : Hid (∀ i (h : i < L.length), ∃ b o, a = some ⟨b, o, none⟩ ∧ b < w.heap.size ∧ ShAt w b (o + i * 4) L[i]) := hLL
 clear hLL hs
 by_cases h8 : 8 < L.length
 · have HE := hid (show 2 = Hu.cfE L from (Hu.cf_many h8).symm)
   have h8' : 8 < (L.length : Int) := by omega
   go_enter Tryz.func36, Tryz.ntmps36
   go_wp2_with fail
   go_ret
   exact ⟨Pp.ret_int HE.out, Below.refl _ _⟩
 have H8 := hid h8
 have h8' : ¬ 8 < (L.length : Int) := by omega
 go_enter Tryz.func36, Tryz.ntmps36
 go_wp2_with fail
 go_loopw [13] (fun i wr => ∃ k : Nat, k ≤ L.length ∧ i = .int .i64 k ∧ Hid (∀ i (h : i < L.length), i < k → Hu.shE L[i] = 0) ∧ Below w.heap.size w wr) (fun i _ => L.length - (intOf i).toNat)
 case atStart => exact ⟨0, Nat.zero_le _, rfl, (fun i _ h => absurd h (Nat.not_lt_zero _) : ∀ i (h : i < L.length), i < 0 → Hu.shE L[i] = 0), Below.refl _ _⟩
 case round =>
  obtain ⟨k, hk, rfl, HP, hbel⟩ := hrel
  by_cases hlt : k < L.length
  · obtain ⟨b, o, rfl, hb, he⟩ := HL.out k hlt
    obtain ⟨c0, u, x, c1, c2, c3, hu, hx⟩ := he.below hb hbel
    have HZ := hid (HS.out L[k] (List.getElem_mem hlt))
    have HBAD := hid (show ¬ Hu.shE L[k] = 0 → Hu.cfE L = Hu.shE L[k] from fun h0 => Hu.cf_bad H8.out hlt HP.out h0)
    have HNX := hid (show Hu.shE L[k] = 0 → ∀ i (h : i < L.length), i < k + 1 → Hu.shE L[i] = 0 from fun h0 i h1 h2 => by
     by_cases e : i = k
     · subst e; exact h0
     · exact HP.out i h1 (by omega))
    clear he
    generalize L[k] = s at *
    obtain ⟨na, ⟨jb, jf, jc⟩⟩ := s
    simp only at c0 c1 c2 c3 hu hx
    have HU := hid hu
    have HX := hid hx
    obtain ⟨ua, uc, rfl, _⟩ := hu
    obtain ⟨xa, xc, rfl, _⟩ := hx
    obtain ⟨wx, hwx⟩ : ∃ wx, wx = wr.alloc (.cells #[.string na, .slice ua jb.length uc, .int .i64 jf, .slice xa jc.length xc] 51) := ⟨_, rfl⟩
    obtain ⟨wy, hwy⟩ : ∃ wy, wy = wx.alloc (.cells #[.string na] 9) := ⟨_, rfl⟩
    have sx : wx.heap.size = wr.heap.size + 1 := by rw [hwx]; simp
    have bwx : Below wr.heap.size wr wx := by rw [hwx]; exact (Below.refl _ _).alloc (Nat.le_refl _) _
    have bwy : Below wx.heap.size wx wy := by rw [hwy]; exact (Below.refl _ _).alloc (Nat.le_refl _) _
    have hby : Below wr.heap.size wr wy := below_tr bwx bwy
    have HB : Hid (Cs wy wr.heap.size [.string na, .slice ua jb.length uc, .int .i64 jf, .slice xa jc.length xc]) := ((by rw [hwx]; exact Cs.new wr [.string na, .slice ua jb.length uc, .int .i64 jf, .slice xa jc.length xc] _ : Cs wx wr.heap.size [.string na, .slice ua jb.length uc, .int .i64 jf, .slice xa jc.length xc]).below bwy : Cs wy wr.heap.size _)
    have HN := hid (show Cs wy (wr.heap.size + 1) [.string na] from by rw [← sx, hwy]; exact Cs.new wx [.string na] _)
    have HWY := hid (show (wr.alloc (.cells #[.string na, .slice ua jb.length uc, .int .i64 jf, .slice xa jc.length xc] 51)).alloc (.cells #[.string na] 9) = wy from by rw [hwy, hwx])
    clear hwx hwy bwx bwy sx
    go_wp2_with fail
    rw [HWY.out]
    clear HWY c0 c1 c2 c3
    refine (names_any [na] (wr.heap.size + 1) 0 1 wy HN.out.lt (fun i hi => by
     match i, hi with
     | 0, _ => show na.size ≤ _; have : na.size ≤ 150000000000000 := HZ.out.1; omega) (by simp) (fun i hi => by
     match i, hi with
     | 0, _ => exact HN.out.cell 0 rfl)).mono ?_
    rintro e w1 ⟨rfl, hb1⟩
    have hy1 := below_tr hby hb1
    have hbel1 := below_tr hbel hy1
    have HB1 := hid (HB.out.below hb1)
    by_cases hn : Pp.nmsE [na] = 0
    · have HQ := hid (show Hu.shE ⟨na, ⟨jb, jf, jc⟩⟩ = Jn.chkE ⟨jb, jf, jc⟩ from by rw [Hu.shE, if_neg (fun x => x hn)])
      have c1 := HB1.out.cell 1 rfl
      have c2 := HB1.out.cell 2 rfl
      have c3 := HB1.out.cell 3 rfl
      rw [hn]
      clear hn
      go_wp2_with fail
      refine (jcheck_any ⟨jb, jf, jc⟩ _ _ ⟨_, _, rfl, HU.out.below hy1, HX.out.below hy1⟩ HZ.out.2.1 HZ.out.2.2).mono ?_
      rintro e w2 ⟨rfl, hb2⟩
      have hbel2 := below_tr hbel1 hb2
      clear c1 c2 c3
      rw [← HQ.out]
      by_cases h0 : Hu.shE ⟨na, ⟨jb, jf, jc⟩⟩ = 0
      · have HP2 := hid (HNX.out h0)
        rw [h0]
        clear h0 HBAD HNX HQ
        go_wp2_with fail
        go_roundw
        case rel => exact ⟨k + 1, by omega, by simp, HP2, hbel2⟩
        case measure => simp [intOf]; omega
      · have HE := hid (HBAD.out h0)
        have hz : (Hu.shE ⟨na, ⟨jb, jf, jc⟩⟩ == 0) = false := by simpa using h0
        have hz2 : (Hu.shE ⟨na, ⟨jb, jf, jc⟩⟩ != 0) = true := by simpa using h0
        clear h0 HBAD HNX HQ
        generalize Hu.shE ⟨na, ⟨jb, jf, jc⟩⟩ = r at *
        go_wp2_with fail
        go_ret
        exact ⟨by rw [HE.out]; rfl, hbel2⟩
    · have HQ := hid (show Hu.shE ⟨na, ⟨jb, jf, jc⟩⟩ = Pp.nmsE [na] from by rw [Hu.shE, if_pos hn])
      have HE := hid (show Hu.cfE L = Pp.nmsE [na] from by rw [← HQ.out]; exact HBAD.out (by rw [HQ.out]; exact hn))
      have hz : (Pp.nmsE [na] == 0) = false := by simpa using hn
      have hz2 : (Pp.nmsE [na] != 0) = true := by simpa using hn
      clear HQ HBAD HNX hn
      generalize Pp.nmsE [na] = r at *
      go_wp2_with fail
      go_ret
      exact ⟨by rw [HE.out]; rfl, hbel1⟩
  · have HA := hid (show ∀ i (h : i < L.length), Hu.shE L[i] = 0 from fun i h => HP.out i h (by omega))
    go_wp2_with fail
    go_loopw [7] (fun i wr => ∃ m : Nat, m ≤ L.length ∧ i = .int .i64 ((m : Int) + 1) ∧ Hid (∀ i (h : i + 1 < L.length), i < m → Hu.lt L[i] L[i + 1] = true) ∧ Below w.heap.size w wr) (fun i _ => L.length + 2 - (intOf i).toNat)
    case atStart => exact ⟨0, Nat.zero_le _, rfl, (fun i _ h => absurd h (Nat.not_lt_zero _) : ∀ i (h : i + 1 < L.length), i < 0 → Hu.lt L[i] L[i + 1] = true), hbel⟩
    case round =>
     clear hbel
     obtain ⟨m, hm, rfl, HR, hbel⟩ := hrel
     by_cases hlt2 : m + 1 < L.length
     · obtain ⟨b, o, rfl, hb, he⟩ := HL.out m (by omega)
       obtain ⟨c0, _⟩ := he.below hb hbel
       obtain ⟨b', o', hbo, hb', he'⟩ := HL.out (m + 1) hlt2
       obtain ⟨rfl, rfl⟩ : b = b' ∧ o = o' := by simpa using hbo
       obtain ⟨d0, _⟩ := he'.below hb hbel
       have hlt3 : (m : Int) + 1 < L.length := by omega
       clear hbo he he'
       cases hl : Hu.lt L[m] L[m + 1] with
       | true =>
        have hl2 : Op.bytesLess (L[m]).na.toList (L[m + 1]).na.toList = true := hl
        have HL2 := hid (show ∀ i (h : i + 1 < L.length), i < m + 1 → Hu.lt L[i] L[i + 1] = true from fun i h1 h2 => by
         by_cases e : i = m
         · subst e; exact hl
         · exact HR.out i h1 (by omega))
        clear hl
        go_wp2_with fail
        go_region
        go_wp2
        go_roundw
        case rel => exact ⟨m + 1, by omega, by simp, HL2, hbel.drew⟩
        case measure => simp [intOf]; omega
       | false =>
        have hl2 : Op.bytesLess (L[m]).na.toList (L[m + 1]).na.toList = false := hl
        have HE := hid (Hu.cf_order H8.out HA.out hlt2 hl)
        clear hl
        go_wp2_with fail
        go_region
        go_wp2
        go_ret
        exact ⟨by rw [HE.out]; rfl, hbel.drew⟩
     · have HE := hid (show Hu.cfE L = 0 from Hu.cf_ok H8.out HA.out fun i h => HR.out i h (by omega))
       go_wp2_with fail
       go_ret
       exact ⟨by rw [HE.out]; rfl, hbel⟩
end Go.Proofs.YtchlgpeiombmdaaGreat
set_option linter.unusedSimpArgs false
set_option linter.unusedVariables false
namespace Go.Proofs.YtchlgpeiombmdaaGreat
open Go.RowKit Go.Maps Go.WideMaps

theorem LiesG.nb {W W' : World} {v : Value} {L : List Gr} {g : Nat} (h : LiesG W v L) (hw : W.grownBy W' (some g)) (hn : NoStr W g) : LiesG W' v L := by
 obtain ⟨a, cap, hv, h1, h2, h3⟩ := h
 refine ⟨a, cap, hv, h1, h2, fun i hi => ?_⟩
 obtain ⟨b, o, ha, hb, he⟩ := h3 i hi
 have hne : b ≠ g := fun e => hn _ _ (e ▸ he.1)
 have c := cell_nb hw hb hne
 exact ⟨b, o, ha, Nat.lt_of_lt_of_le hb hw.size, (c _).trans he.1, (c _).trans he.2.1, (c _).trans he.2.2⟩
theorem LiesF.nb {W W' : World} {v : Value} {L : List Sh} {g : Nat} (h : LiesF W v L) (hw : W.grownBy W' (some g)) (hn : NoStr W g) : LiesF W' v L := by
 obtain ⟨a, cap, hv, h1, h2, h3⟩ := h
 refine ⟨a, cap, hv, h1, h2, fun i hi => ?_⟩
 obtain ⟨b, o, ha, hb, e0, u, x, e1, e2, e3, e4, e5⟩ := h3 i hi
 have hne : b ≠ g := fun e => hn _ _ (e ▸ e0)
 have c := cell_nb hw hb hne
 exact ⟨b, o, ha, Nat.lt_of_lt_of_le hb hw.size, (c _).trans e0, u, x, (c _).trans e1, (c _).trans e2, (c _).trans e3, e4.nb hw hn, e5.nb hw hn⟩
namespace Hu
/-- What the grants tell of, with where that is. -/
def told (L : List Sh) (G : List Gr) : List Co := G.map fun g => ⟨plc L g.fo, g.fo, []⟩
def telE (L : List Sh) (G : List Gr) : Int := if (G.all fun g => isB L g.fo) = true then (if Maps.size (Jn.D (told L G)) < L.length then 5 else 0) else 5
theorem tel_bad {L : List Sh} {G : List Gr} {k : Nat} (hk : k < G.length) (h : isB L G[k].fo = false) : telE L G = 5 := by
 rw [telE, if_neg]
 intro ha
 have := List.all_eq_true.1 ha G[k] (List.getElem_mem hk)
 rw [h] at this; cases this
theorem tel_all {L : List Sh} {G : List Gr} (h : ∀ m (h : m < G.length), isB L G[m].fo = true) : telE L G = if Maps.size (Jn.D (told L G)) < L.length then 5 else 0 := by
 rw [telE, if_pos]
 refine List.all_eq_true.2 fun g hg => ?_
 obtain ⟨m, hm, rfl⟩ := List.getElem_of_mem hg
 exact h m hm
theorem told_take {L : List Sh} {G : List Gr} {k : Nat} (hk : k < G.length) : Jn.D ((told L G).take (k + 1)) = (Jn.D ((told L G).take k)).put (Jn.key G[k].fo) (Jn.num (plc L G[k].fo)) := by
 have h := Jn.D_take (l := told L G) (k := k) (by simpa [told] using hk)
 simpa [told] using h
end Hu

set_option maxRecDepth 100000 in
set_option maxHeartbeats 2000000 in
theorem tell_any (L : List Sh) (G : List Gr) (vf vg vs : Value) (nx la ro now : Int) (g mb : Nat) (w : World) (hbx : Cs w g [vf, vg, vs, .int .i64 nx, .int .i64 la, .int .i64 ro, .int .i64 now, .map (some mb)]) (hm : w.ownsMap Tryz.prog 9 (plainElem Tryz.prog 3) mb 0 (.map [] : DataW Unit)) (hne : g ≠ mb)
    (hf : LiesF w vf L) (hg : LiesG w vg G) (hs : SizedG G) (hr : Hu.risB L = true) (h8 : L.length ≤ 8) (h60 : G.length ≤ 60) :
    Calls Tryz.prog 38 #[.pointer (some ⟨g, 0, none⟩)] w fun e w' => e = .returned (.int .i64 (Hu.telE L G)) ∧ w.grownBy w' (some mb) ∧ (Hu.telE L G = 0 → w'.ownsMap Tryz.prog 9 (plainElem Tryz.prog 3) mb G.length (Jn.D (Hu.told L G))) := by
 have HX := hid hbx
 have HF := hid hf
 have HS := hid hs
 have HR := hid hr
 have HM := hid hm
 have HNS : Hid (NoStr w mb) := noStr_map hm
 have hgl := hbx.lt
 have hml := hm.lt
 obtain ⟨fa, fc, rfl, _⟩ := hf
 obtain ⟨a, cap, rfl, hcap, hcap2, hLL⟩ := hg
 have HL : Hid (∀ i (h : i < G.length), ∃ b o, a = some ⟨b, o, none⟩ ∧ b < w.heap.size ∧ GrAt w b (o + i * 3) G[i]) := hLL
 have p1 := hbx.cell 1 rfl
 clear hLL hbx hs hr hm
 go_enter Tryz.func38, Tryz.ntmps38
 go_wp2_with fail
 go_loopw [13] (fun i wr => ∃ k : Nat, k ≤ G.length ∧ i = .int .i64 k ∧ Hid (wr.ownsMap Tryz.prog 9 (plainElem Tryz.prog 3) mb k (Jn.D ((Hu.told L G).take k))) ∧ Hid (∀ m (h : m < G.length), m < k → Hu.isB L G[m].fo = true) ∧ Hid (w.grownBy wr (some mb))) (fun i _ => G.length - (intOf i).toNat)
 case atStart => exact ⟨0, Nat.zero_le _, rfl, HM, (fun m _ h => absurd h (Nat.not_lt_zero _) : ∀ m (h : m < G.length), m < 0 → Hu.isB L G[m].fo = true), Nb.refl w mb⟩
 case round =>
  obtain ⟨k, hk, rfl, HD, HP, HN⟩ := hrel
  clear p1
  by_cases hlt : k < G.length
  · obtain ⟨b, o, rfl, hb, he⟩ := HL.out k hlt
    have hbne : b ≠ mb := fun e => HNS.out _ _ (e ▸ he.1)
    have cc := cell_nb HN.out hb hbne
    have c0 := (cc _).trans he.1
    have c1 := (cc _).trans he.2.1
    have c2 := (cc _).trans he.2.2
    have HZ := hid (HS.out G[k] (List.getElem_mem hlt))
    have HBAD := hid (show Hu.isB L G[k].fo = false → Hu.telE L G = 5 from fun h => Hu.tel_bad hlt h)
    have HNX := hid (show Hu.isB L G[k].fo = true → ∀ m (h : m < G.length), m < k + 1 → Hu.isB L G[m].fo = true from fun h0 m h1 h2 => by
     by_cases e : m = k
     · subst e; exact h0
     · exact HP.out m h1 (by omega))
    have HTK := hid (Hu.told_take (L := L) hlt)
    have HPL := hid (show Hu.plc L G[k].fo ≤ L.length from List.findIdx_le_length)
    clear he cc
    generalize G[k] = x at *
    obtain ⟨fo, wh, ri⟩ := x
    simp only at c0 c1 c2
    have hsr := HN.out.size
    obtain ⟨wy, hwy⟩ : ∃ wy, wy = wr.alloc (.cells #[.string fo, .string wh, .int .i64 ri] 102) := ⟨_, rfl⟩
    have hby : Below wr.heap.size wr wy := by rw [hwy]; exact (Below.refl _ _).alloc (Nat.le_refl _) _
    have HB := hid (show Cs wy wr.heap.size [.string fo, .string wh, .int .i64 ri] from by rw [hwy]; exact Cs.new wr [.string fo, .string wh, .int .i64 ri] _)
    have HNY := hid (show w.grownBy wy (some mb) from Nb.trans HN.out (Nb.below mb hby))
    have HXY := hid (HX.out.nb HNY.out hne)
    have HFY := hid (HF.out.nb HNY.out HNS.out)
    have y0 := HB.out.cell 0 rfl
    go_wp2_with fail
    rw [← hwy]
    clear hwy c0 c1 c2
    refine (place_any L _ fo g wy (HXY.out.cell 0 rfl) HFY.out HR.out h8).mono ?_
    rintro e w1 ⟨rfl, hb1⟩
    have HN1 := hid (show w.grownBy w1 (some mb) from Nb.trans HNY.out (Nb.below mb hb1))
    have HX1 := hid (HXY.out.below hb1)
    have HB1 := hid (HB.out.below hb1)
    have hbr1 := below_tr hby hb1
    have HD1 := hid (show w1.ownsMap Tryz.prog 9 (plainElem Tryz.prog 3) mb k (Jn.D ((Hu.told L G).take k)) from HD.out.kept (row := none) ⟨hbr1.os, hbr1.tape, hbr1.output, hbr1.size, fun k hk _ => hbr1.block k hk⟩ (by simp))
    clear y0
    cases hi : Hu.isB L fo with
    | false =>
     have HE := hid (HBAD.out hi)
     clear hi HBAD HNX
     go_wp2_with fail
     go_ret
     exact ⟨by rw [HE.out]; rfl, HN1.out, fun h => by rw [HE.out] at h; cases h⟩
    | true =>
     have HP2 := hid (HNX.out hi)
     obtain ⟨p, hp⟩ : ∃ p, p = Hu.plc L fo := ⟨_, rfl⟩
     rw [← hp]
     have HTK2 := hid (show Jn.D ((Hu.told L G).take (k + 1)) = (Jn.D ((Hu.told L G).take k)).put (Jn.key fo) (Jn.num p) from by rw [hp]; exact HTK.out)
     have hp8 : p ≤ L.length := by rw [hp]; exact HPL.out
     have hnu : (Lit.int .i64 (p : Int)).wf = true := Jn.wf_num (by omega) (by omega)
     have hke : fo.size ≤ maxLen := by have : fo.size ≤ 150000000000000 := HZ.out.1; unfold maxLen; omega
     have hkm : k < maxLen := by unfold maxLen; omega
     obtain ⟨w6, hrun6, hown6, hgr6⟩ := HD1.out.drew.update (string_keyed Tryz.underlying9) Tryz.underlying72 hkm (keyOf_string_mk Tryz.underlying9 hke) (plainElem_int Tryz.underlying3 hnu)
     have HO6 := hid hown6
     have HGR := hid hgr6
     have y0 := HB1.out.cell 0 rfl
     have x7 := HX1.out.cell 7 rfl
     clear hown6 hgr6 hp hi HBAD HNX HTK
     go_wp2_with fail
     go_region
     have HN6 := hid (show w.grownBy w6 (some mb) from Nb.trans (Nb.trans HN1.out (Nb.below mb (Below.refl _ _).drew)) HGR.out)
     have HO7 := hid (show w6.ownsMap Tryz.prog 9 (plainElem Tryz.prog 3) mb (k + 1) (Jn.D ((Hu.told L G).take (k + 1))) from by rw [HTK2.out]; exact HO6.out)
     go_wp2_with fail
     go_roundw
     case rel => exact ⟨k + 1, by omega, by simp, HO7, HP2, HN6⟩
     case measure => simp [intOf]; omega
  · obtain rfl : k = G.length := by omega
    have HA := hid (Hu.tel_all fun m h => HP.out m h h)
    have hT : (Hu.told L G).take G.length = Hu.told L G := List.take_of_length_le (by simp [Hu.told])
    rw [hT] at HD
    clear hT
    have HX1 := hid (HX.out.nb HN.out hne)
    have x7 := HX1.out.cell 7 rfl
    have x0 := HX1.out.cell 0 rfl
    have hlen := fun ty => HD.out.drew.len Tryz.underlying72 ty
    have HNd := hid (show w.grownBy _ (some mb) from Nb.trans HN.out (Nb.below mb (Below.refl _ _).drew))
    have HDd := hid HD.out.drew
    by_cases hz : Maps.size (Jn.D (Hu.told L G)) < L.length
    · have HE := hid (show Hu.telE L G = 5 from by rw [HA.out, if_pos hz])
      have hz' : (Maps.size (Jn.D (Hu.told L G)) : Int) < L.length := by omega
      generalize Maps.size (Jn.D (Hu.told L G)) = q at *
      go_wp2_with fail
      go_region
      go_wp2_with fail
      go_ret
      exact ⟨by rw [HE.out]; rfl, HNd.out, fun h => by rw [HE.out] at h; cases h⟩
    · have HE := hid (show Hu.telE L G = 0 from by rw [HA.out, if_neg hz])
      have hz' : ¬ (Maps.size (Jn.D (Hu.told L G)) : Int) < L.length := by omega
      generalize Maps.size (Jn.D (Hu.told L G)) = q at *
      go_wp2_with fail
      go_region
      go_wp2_with fail
      go_ret
      exact ⟨by rw [HE.out]; rfl, HNd.out, fun _ => HDd.out⟩
end Go.Proofs.YtchlgpeiombmdaaGreat
