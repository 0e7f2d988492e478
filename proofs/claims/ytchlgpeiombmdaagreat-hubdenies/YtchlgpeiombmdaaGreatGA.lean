/- Names: path.Join of nothing and a text, word.Names. Grants as records; what grant.checkGrant answers. How grants are compared: cmp.Compare of texts, cmp.Or of two numbers, grant.compare, grant.rises. What grant.rises answers, for every list of grants. -/
import Derived.Test.YtchlgpeiombmdaaGreatME
import Derived.Test.YtchlgpeiombmdaaGreatW4b
import Derived.Test.YtchlgpeiombmdaaGreatW7
import Derived.Test.YtchlgpeiombmdaaGreatMA
import Derived.Deep.RegionHeld3
import Derived.Deep.RegionLaw
import Derived.Deep.DeepCutAuto
import Derived.Deep.DeepMust
set_option linter.unusedSimpArgs false
set_option linter.unusedVariables false
namespace Go.Proofs.YtchlgpeiombmdaaGreat
open Go.RowKit

theorem ghid {p : Prop} (h : p) : Hid p := h
namespace Pp
theorem name_no47 {l : List UInt8} (h : nameB l = true) : 47 ∉ l := by
 intro h47
 have h1 : ∀ c ∈ l, okB c = true := by
  simp only [nameB, Bool.and_eq_true, List.all_eq_true] at h
  first | exact h.1 | exact h.1.1 | exact h.1.1.1 | exact h.1.1.1.1 | exact h.1.1.1.1.1 | exact h.1.1.1.1.1.1 | exact fun c hc => (h.1 c hc) | simp_all
 exact absurd (h1 47 h47) (by decide)
theorem name_len {l : List UInt8} (h : nameB l = true) : l.length ≤ 20 := by
 simp only [nameB, Bool.and_eq_true, decide_eq_true_eq] at h
 omega
theorem name_chk {l : List UInt8} (h : nameB l = true) : chk l = 0 := by
 have hn : nm l = [l] := nm_none l (name_no47 h)
 have ha : (nm l).all nameB = true := by rw [hn]; simp [h]
 rw [chk_big ha, if_neg]
 have := name_len h
 simp [big, hn]
 omega
/-- 1: a text is no name. -/
def nmE (l : List UInt8) : Int := if nameB l = true then 0 else 1
def nmsE (ns : List ByteArray) : Int := if (ns.all fun s => nameB s.data.toList) = true then 0 else 1
end Pp

set_option maxHeartbeats 400000 in
theorem join0_any (s : ByteArray) (w : World) (hs : s.size ≤ 1000000000000000) :
    Calls Tryz.prog 93 #[.string ⟨#[]⟩, .string s] w fun e w' => ∃ u, e = .returned (.tuple #[u, .int .i64 (Pp.nmE s.data.toList)]) ∧ Below w.heap.size w w' := by
 have hm : s.size ≤ maxLen := by unfold maxLen; omega
 cases hn : Pp.nameB s.data.toList with
 | true =>
  have HN := ghid hn
  have HC := ghid (Pp.name_chk hn)
  have HE := hid (show Pp.nmE s.data.toList = 0 from if_pos hn)
  have HJ := hid (show (⟨(Pp.jn [] s.data.toList).toArray⟩ : ByteArray) = s from by rw [Pp.jn, if_pos rfl])
  clear hn
  go_enter Tryz.func93, Tryz.ntmps93
  go_wp2_with fail
  refine (isName_any s _ hm).mono ?_
  rintro e w1 ⟨rfl, hw⟩
  rw [hw, HN.out]
  clear hw w1
  go_wp2_with fail
  refine (joined_any ⟨#[]⟩ s _ (by decide) hs).mono ?_
  rintro e w2 ⟨rfl, hw⟩
  rw [hw, show (⟨(Pp.jn (⟨#[]⟩ : ByteArray).data.toList s.data.toList).toArray⟩ : ByteArray) = s from HJ.out]
  clear hw w2
  go_wp2_with fail
  refine (checked_ok s _ hs HC.out).mono ?_
  rintro e w3 ⟨rfl, hb3⟩
  go_wp2
  go_ret2
  exact ⟨_, by rw [HE.out]; rfl, hb3⟩
 | false =>
  have HN := ghid hn
  have HE := hid (show Pp.nmE s.data.toList = 1 from if_neg (by rw [hn]; decide))
  clear hn
  go_enter Tryz.func93, Tryz.ntmps93
  go_wp2_with fail
  refine (isName_any s _ hm).mono ?_
  rintro e w1 ⟨rfl, hw⟩
  rw [hw, HN.out]
  clear hw w1
  go_wp2_with fail
  go_ret2
  exact ⟨_, by rw [HE.out]; rfl, Below.refl _ _⟩
set_option maxHeartbeats 1000000 in
theorem names_any (ns : List ByteArray) (g o cap : Nat) (w : World) (hg : g < w.heap.size) (hs : ∀ i (h : i < ns.length), (ns[i]).size ≤ 1000000000000000) (hl : ns.length ≤ 1000) (hc : ∀ i (h : i < ns.length), w.cell? ⟨g, o + i, none⟩ = some (.string ns[i])) :
    Calls Tryz.prog 50 #[.slice (some ⟨g, o, none⟩) ns.length cap] w fun e w' => e = .returned (.int .i64 (Pp.nmsE ns)) ∧ Below w.heap.size w w' := by
 have HC := ghid hc
 have HS := ghid hs
 clear hc hs
 go_enter Tryz.func50, Tryz.ntmps50
 have HX := hid (show ∀ k (h : k < ns.length), (∀ j (h : j < ns.length), j < k → Pp.nameB (ns[j]).data.toList = true) → Pp.nameB (ns[k]).data.toList = false → (ns.all fun s => Pp.nameB s.data.toList) = false from fun k h _ hk => List.all_eq_false.2 ⟨ns[k], List.getElem_mem h, by rw [hk]; decide⟩)
 have HY := hid (show (∀ j (h : j < ns.length), Pp.nameB (ns[j]).data.toList = true) → (ns.all fun s => Pp.nameB s.data.toList) = true from fun h => List.all_eq_true.2 fun x hx => by
  obtain ⟨j, hj, rfl⟩ := List.getElem_of_mem hx
  exact h j hj)
 go_wp2_with fail
 go_loopw [9] (fun i wr => ∃ k : Nat, k ≤ ns.length ∧ i = .int .i64 k ∧ Hid (∀ j (h : j < ns.length), j < k → Pp.nameB (ns[j]).data.toList = true) ∧ Below w.heap.size w wr) (fun i _ => ns.length - (intOf i).toNat)
 case atStart => exact ⟨0, Nat.zero_le _, rfl, (fun j _ h => absurd h (Nat.not_lt_zero _) : ∀ j (h : j < ns.length), j < 0 → Pp.nameB (ns[j]).data.toList = true), Below.refl _ _⟩
 case round =>
  obtain ⟨k, hk, rfl, HP, hbel⟩ := hrel
  by_cases hlt : k < ns.length
  · have c0 := (hbel.cell (p := ⟨g, o + k, none⟩) hg).trans (HC.out k hlt)
    go_wp2_with fail
    refine (join0_any ns[k] _ (HS.out k hlt)).mono ?_
    rintro e w1 ⟨u, rfl, hb1⟩
    have hbel1 := below_trans hbel hb1
    clear hbel hb1 c0
    cases hn : Pp.nameB (ns[k]).data.toList with
    | true =>
     rw [Pp.nmE, if_pos hn]
     have HP2 := hid (show ∀ j (h : j < ns.length), j < k + 1 → Pp.nameB (ns[j]).data.toList = true from fun j h1 h2 => by
      by_cases e : j = k
      · subst e; exact hn
      · exact HP.out j h1 (by omega))
     clear hn
     go_wp2_with fail
     go_roundw
     case rel => exact ⟨k + 1, by omega, by simp, HP2, hbel1⟩
     case measure => simp [intOf]; omega
    | false =>
     rw [Pp.nmE, if_neg (by rw [hn]; decide)]
     have HE := hid (show (1 : Int) = Pp.nmsE ns from by rw [Pp.nmsE, if_neg (by rw [HX.out k hlt HP.out hn]; decide)])
     clear hn
     go_wp2_with fail
     go_ret
     exact ⟨Pp.ret_int HE.out, hbel1⟩
  · have HE := hid (show (0 : Int) = Pp.nmsE ns from by rw [Pp.nmsE, if_pos (HY.out (fun j h => HP.out j h (by omega)))])
    go_wp2_with fail
    go_ret
    exact ⟨Pp.ret_int HE.out, hbel⟩
end Go.Proofs.YtchlgpeiombmdaaGreat
set_option linter.unusedSimpArgs false
set_option linter.unusedVariables false
namespace Go.Proofs.YtchlgpeiombmdaaGreat
open Go.RowKit

/-- A grant. -/
structure Gr where
 fo : ByteArray
 wh : ByteArray
 ri : Int
def GrAt (w : World) (b o : Nat) (g : Gr) : Prop := w.cell? ⟨b, o, none⟩ = some (.string g.fo) ∧ w.cell? ⟨b, o + 1, none⟩ = some (.string g.wh) ∧ w.cell? ⟨b, o + 2, none⟩ = some (.int .i64 g.ri)
def LiesG (w : World) (v : Value) (G : List Gr) : Prop := ∃ a cap, v = .slice a G.length cap ∧ G.length ≤ cap ∧ G.length ≤ 1000000000000000 ∧ ∀ i (h : i < G.length), ∃ b o, a = some ⟨b, o, none⟩ ∧ b < w.heap.size ∧ GrAt w b (o + i * 3) G[i]
theorem GrAt.below {w w' : World} {b o : Nat} {g : Gr} (h : GrAt w b o g) (hb : b < w.heap.size) (hw : Below w.heap.size w w') : GrAt w' b o g :=
 ⟨(hw.cell (p := ⟨b, o, none⟩) hb).trans h.1, (hw.cell (p := ⟨b, o + 1, none⟩) hb).trans h.2.1, (hw.cell (p := ⟨b, o + 2, none⟩) hb).trans h.2.2⟩
theorem LiesG.below {w w' : World} {v : Value} {G : List Gr} (h : LiesG w v G) (hw : Below w.heap.size w w') : LiesG w' v G := by
 obtain ⟨a, cap, hv, h1, h2, h3⟩ := h
 refine ⟨a, cap, hv, h1, h2, fun i hi => ?_⟩
 obtain ⟨b, o, ha, hb, he⟩ := h3 i hi
 exact ⟨b, o, ha, Nat.lt_of_lt_of_le hb hw.size, he.below hb hw⟩
theorem liesG_nil (w : World) : LiesG w (.slice none 0 0) [] := ⟨none, 0, rfl, Nat.le_refl _, by decide, fun i h => absurd h (by simp)⟩
def SizedG (G : List Gr) : Prop := ∀ g ∈ G, g.fo.size ≤ 150000000000000 ∧ g.wh.size ≤ 150000000000000
theorem bxG3 {w w1 : World} {a b c : Value} {T : TypeId} (h : Below (w.alloc (.cells #[a, b, c] T)).heap.size (w.alloc (.cells #[a, b, c] T)) w1) :
    w1.cell? ⟨w.heap.size, 0, none⟩ = some a ∧ w1.cell? ⟨w.heap.size, 1, none⟩ = some b ∧ w1.cell? ⟨w.heap.size, 2, none⟩ = some c ∧ Below w.heap.size w w1 ∧ w.heap.size < w1.heap.size := by
 have hz : w.heap.size < (w.alloc (.cells #[a, b, c] T)).heap.size := by simp
 refine ⟨?_, ?_, ?_, ((Below.refl _ _).alloc (Nat.le_refl _) _).trans (h.mono (Nat.le_of_lt hz)), Nat.lt_of_lt_of_le hz h.size⟩
 · exact (h.cell (p := ⟨w.heap.size, 0, none⟩) hz).trans (by simp)
 · exact (h.cell (p := ⟨w.heap.size, 1, none⟩) hz).trans (by simp)
 · exact (h.cell (p := ⟨w.heap.size, 2, none⟩) hz).trans (by simp)
namespace Pp
def nm2 (g : Gr) : Bool := nameB g.fo.data.toList && nameB g.wh.data.toList
def grE (g : Gr) : Int := if nm2 g = true then (if g.ri < 1 ∨ 3 < g.ri then 3 else 0) else 1
end Pp

set_option maxRecDepth 100000 in
set_option maxHeartbeats 1000000 in
theorem checkGrant_any (g : Gr) (w : World) (hf : g.fo.size ≤ 150000000000000) (hh : g.wh.size ≤ 150000000000000) :
    Calls Tryz.prog 66 #[.agg #[.string g.fo, .string g.wh, .int .i64 g.ri]] w fun e w' => e = .returned (.int .i64 (Pp.grE g)) ∧ Below w.heap.size w w' := by
 have hns : Pp.nmsE [g.fo, g.wh] = if Pp.nm2 g = true then 0 else 1 := by simp [Pp.nmsE, Pp.nm2]
 have hcs : (Pp.nmsE [g.fo, g.wh] = 1 ∧ Pp.grE g = 1) ∨ (Pp.nmsE [g.fo, g.wh] = 0 ∧ g.ri < 1 ∧ Pp.grE g = 3) ∨ (Pp.nmsE [g.fo, g.wh] = 0 ∧ 1 ≤ g.ri ∧ 3 < g.ri ∧ Pp.grE g = 3) ∨ (Pp.nmsE [g.fo, g.wh] = 0 ∧ 1 ≤ g.ri ∧ g.ri ≤ 3 ∧ Pp.grE g = 0) := by
  rw [hns, Pp.grE]
  cases Pp.nm2 g with
  | false => left; simp
  | true =>
   right
   by_cases h1 : g.ri < 1
   · left; simp [h1]
   · right
     by_cases h3 : 3 < g.ri
     · left; simp [h3]; omega
     · right; simp; omega
 clear hns
 rcases hcs with ⟨hn, hE⟩ | ⟨hn, h1, hE⟩ | ⟨hn, h1, h2, hE⟩ | ⟨hn, h1, h2, hE⟩
 all_goals
  have HN := ghid hn
  have HE := ghid hE
  clear hn hE
  go_enter Tryz.func66, Tryz.ntmps66
  go_wp2_with fail
  refine (names_any [g.fo, g.wh] (w.heap.size + 1) 0 2 _ (by simp) (fun i h => by match i, h with | 0, _ => exact Nat.le_trans hf (by decide) | 1, _ => exact Nat.le_trans hh (by decide)) (by simp) (fun i h => by match i, h with | 0, _ => simp | 1, _ => simp)).mono ?_
  rintro e w1 ⟨rfl, hb1⟩
  rw [HN.out]
  have hb2 : Below (w.alloc (.cells #[.string g.fo, .string g.wh, .int .i64 g.ri] 102)).heap.size (w.alloc (.cells #[.string g.fo, .string g.wh, .int .i64 g.ri] 102)) w1 := ((Below.refl _ _).alloc (Nat.le_refl _) _).trans (hb1.mono (by simp))
  obtain ⟨c0, c1, c2, hbw, hlt⟩ := bxG3 hb2
  clear hb1 hb2
  go_wp2_with fail
  go_ret
  exact ⟨by rw [HE.out]; rfl, hbw⟩
end Go.Proofs.YtchlgpeiombmdaaGreat
set_option linter.unusedSimpArgs false
set_option linter.unusedVariables false
namespace Go.Proofs.YtchlgpeiombmdaaGreat
open Go.RowKit

namespace Pp
def cS (x y : ByteArray) : Int := if Op.bytesLess x.toList y.toList = true then -1 else if (x.toList == y.toList) = true then 0 else 1
def cG (a b : Gr) : Int := if cS a.fo b.fo = 0 then cS a.wh b.wh else cS a.fo b.fo
end Pp

set_option maxHeartbeats 1000000 in
theorem cmpS_any (x y : ByteArray) (w : World) :
    Calls Tryz.prog 115 #[.string x, .string y] w fun e w' => e = .returned (.int .i64 (Pp.cS x y)) ∧ w' = w := by
 cases h1 : Op.bytesLess x.toList y.toList with
 | true =>
  have HE := hid (show -1 = Pp.cS x y from by rw [Pp.cS, if_pos h1])
  go_enter Tryz.func115, Tryz.ntmps115
  go_wp2
  go_ret
  exact ⟨Pp.ret_int HE.out, rfl⟩
 | false =>
  cases h2 : (x.toList == y.toList) with
  | true =>
   have HE := hid (show 0 = Pp.cS x y from by rw [Pp.cS, if_neg (by rw [h1]; decide), if_pos h2])
   go_enter Tryz.func115, Tryz.ntmps115
   go_wp2
   go_ret
   exact ⟨Pp.ret_int HE.out, rfl⟩
  | false =>
   have HE := hid (show 1 = Pp.cS x y from by rw [Pp.cS, if_neg (by rw [h1]; decide), if_neg (by rw [h2]; decide)])
   go_enter Tryz.func115, Tryz.ntmps115
   go_wp2
   go_ret
   exact ⟨Pp.ret_int HE.out, rfl⟩
set_option maxHeartbeats 1000000 in
theorem or2_any (a b : Int) (g : Nat) (w : World) (hg : g < w.heap.size) (h0 : w.cell? ⟨g, 0, none⟩ = some (.int .i64 a)) (h1 : w.cell? ⟨g, 1, none⟩ = some (.int .i64 b)) :
    Calls Tryz.prog 114 #[.slice (some ⟨g, 0, none⟩) 2 2] w fun e w' => e = .returned (.int .i64 (if a = 0 then b else a)) ∧ Below w.heap.size w w' := by
 have H0 := ghid h0
 have H1 := ghid h1
 clear h0 h1
 obtain ⟨r, hr⟩ : ∃ r, r = if a = 0 then b else a := ⟨_, rfl⟩
 rw [← hr]
 have HR := ghid hr
 clear hr
 go_enter Tryz.func114, Tryz.ntmps114
 go_wp2_with fail
 go_loopw [8] (fun i wr => (i = .int .i64 0 ∨ (i = .int .i64 1 ∧ a = 0) ∨ (i = .int .i64 2 ∧ a = 0 ∧ b = 0)) ∧ Below w.heap.size w wr) (fun i _ => 2 - (intOf i).toNat)
 case atStart => exact ⟨Or.inl rfl, Below.refl _ _⟩
 case round =>
  obtain ⟨hi, hbel⟩ := hrel
  have c0 := (hbel.cell (p := ⟨g, 0, none⟩) hg).trans H0.out
  have c1 := (hbel.cell (p := ⟨g, 1, none⟩) hg).trans H1.out
  rcases hi with rfl | ⟨rfl, ha⟩ | ⟨rfl, ha, hb⟩
  · by_cases ha : a = 0
    · subst ha
      go_wp2_with fail
      go_roundw
      case rel => exact ⟨by simp, hbel⟩
      case measure => simp [intOf]
    · have HE := hid (show a = r from by rw [HR.out, if_neg ha])
      have hz : (a == 0) = false := by simpa using ha
      go_wp2_with fail
      go_ret
      exact ⟨Pp.ret_int HE.out, hbel⟩
  · subst ha
    by_cases hb : b = 0
    · subst hb
      go_wp2_with fail
      go_roundw
      case rel => exact ⟨by simp, hbel⟩
      case measure => simp [intOf]
    · have HE := hid (show b = r from by rw [HR.out, if_pos rfl])
      have hz : (b == 0) = false := by simpa using hb
      go_wp2_with fail
      go_ret
      exact ⟨Pp.ret_int HE.out, hbel⟩
  · subst ha
    subst hb
    have HE := hid (show (0 : Int) = r from by rw [HR.out, if_pos rfl])
    go_wp2_with fail
    go_ret
    exact ⟨Pp.ret_int HE.out, hbel⟩
set_option maxHeartbeats 1000000 in
theorem compare_any (a b : Gr) (w : World) :
    Calls Tryz.prog 90 #[.agg #[.string a.fo, .string a.wh, .int .i64 a.ri], .agg #[.string b.fo, .string b.wh, .int .i64 b.ri]] w fun e w' => e = .returned (.int .i64 (Pp.cG a b)) ∧ Below w.heap.size w w' := by
 have HE : Hid ((if Pp.cS a.fo b.fo = 0 then Pp.cS a.wh b.wh else Pp.cS a.fo b.fo) = Pp.cG a b) := rfl
 go_enter Tryz.func90, Tryz.ntmps90
 go_wp2_with fail
 go_region_held3 (fun W => W.cell? ⟨w.heap.size, 0, none⟩ = some (.string a.fo) ∧ W.cell? ⟨w.heap.size, 1, none⟩ = some (.string a.wh) ∧ W.cell? ⟨w.heap.size + 1, 0, none⟩ = some (.string b.fo) ∧ W.cell? ⟨w.heap.size + 1, 1, none⟩ = some (.string b.wh)) (go_keep) (first
  | (go_at_call 115; refine (cmpS_any _ _ _).mono ?_; rintro e wa ⟨rfl, rfl⟩)
  | (go_at_call 114; go_must (refine (or2_any (Pp.cS a.fo b.fo) (Pp.cS a.wh b.wh) _ _ (by first | (simp; done) | (simp; omega)) (by simp [go_sem]) (by simp [go_sem])).mono ?_); rintro e wb ⟨rfl, hbb⟩; rw [HE.out]; have k1 : wb.cell? ⟨w.heap.size, 0, none⟩ = some (.string a.fo) := (hbb.cell (p := ⟨w.heap.size, 0, none⟩) (by simp; omega)).trans (by simp [go_sem]); have k2 : wb.cell? ⟨w.heap.size, 1, none⟩ = some (.string a.wh) := (hbb.cell (p := ⟨w.heap.size, 1, none⟩) (by simp; omega)).trans (by simp [go_sem]); have k3 : wb.cell? ⟨w.heap.size + 1, 0, none⟩ = some (.string b.fo) := (hbb.cell (p := ⟨w.heap.size + 1, 0, none⟩) (by simp)).trans (by simp [go_sem]); have k4 : wb.cell? ⟨w.heap.size + 1, 1, none⟩ = some (.string b.wh) := (hbb.cell (p := ⟨w.heap.size + 1, 1, none⟩) (by simp)).trans (by simp [go_sem])))
 all_goals
  go_wp2
  go_ret
  exact ⟨rfl, Below.trans (by go_grown) (hbb.mono (by simp; omega))⟩
end Go.Proofs.YtchlgpeiombmdaaGreat
set_option linter.unusedSimpArgs false
set_option linter.unusedVariables false
namespace Go.Proofs.YtchlgpeiombmdaaGreat
open Go.RowKit

namespace Pp
/-- Does each grant come ahead of the next one? -/
def risG : List Gr → Bool
 | [] => true
 | [_] => true
 | a :: b :: r => decide (cG a b < 0) && risG (b :: r)
theorem risG_iff (G : List Gr) : risG G = true ↔ ∀ k (h : k + 1 < G.length), cG G[k] G[k + 1] < 0 := by
 match G with
 | [] => simp [risG]
 | [a] => simp [risG]
 | a :: b :: r =>
  rw [risG, Bool.and_eq_true, risG_iff (b :: r)]
  constructor
  · intro ⟨h1, h2⟩ k hk
    match k with
    | 0 => simpa using h1
    | k + 1 =>
     have := h2 k (by simpa using hk)
     simpa using this
  · intro h
    refine ⟨by simpa using h 0 (by simp), fun k hk => ?_⟩
    have := h (k + 1) (by simpa using hk)
    simpa using this
theorem risG_no {G : List Gr} {k : Nat} (h : k + 1 < G.length) (hk : 0 ≤ cG G[k] G[k + 1]) : risG G = false := by
 cases hr : risG G with
 | false => rfl
 | true =>
  have := (risG_iff G).1 hr k h
  omega
end Pp

set_option maxRecDepth 100000 in
set_option maxHeartbeats 1000000 in
theorem grises_any (G : List Gr) (v : Value) (w : World) (hv : LiesG w v G) (hn : G.length ≤ 1000) :
    Calls Tryz.prog 67 #[v] w fun e w' => e = .returned (.bool (Pp.risG G)) ∧ Below w.heap.size w w' := by
 obtain ⟨a, cap, rfl, hcap, hcap2, hLL⟩ := hv
 have HL : Hid (∀ i (h : i < G.length), ∃ b o, a = some ⟨b, o, none⟩ ∧ b < w.heap.size ∧ GrAt w b (o + i * 3) G[i]) := hLL
 clear hLL
 go_enter Tryz.func67, Tryz.ntmps67
 go_wp2_with fail
 go_loopw [3] (fun i wr => ∃ m : Nat, (m = 0 ∨ m < G.length) ∧ i = .int .i64 ((m : Int) + 1) ∧ Hid (∀ j (h : j + 1 < G.length), j < m → Pp.cG G[j] G[j + 1] < 0) ∧ Below w.heap.size w wr) (fun i _ => G.length + 2 - (intOf i).toNat)
 case atStart => exact ⟨0, Or.inl rfl, rfl, (fun j _ h => absurd h (Nat.not_lt_zero _) : ∀ j (h : j + 1 < G.length), j < 0 → Pp.cG G[j] G[j + 1] < 0), Below.refl _ _⟩
 case round =>
  obtain ⟨m, hk, rfl, HP, hbel⟩ := hrel
  by_cases hlt : m + 1 < G.length
  · obtain ⟨b, o, rfl, hb, he⟩ := HL.out (m + 1) hlt
    obtain ⟨b', o', hab, hb', he'⟩ := HL.out m (by omega)
    cases hab
    obtain ⟨c0, c1, c2⟩ := he.below hb hbel
    obtain ⟨d0, d1, d2⟩ := he'.below hb' hbel
    have hbr : b < wr.heap.size := Nat.lt_of_lt_of_le hb hbel.size
    have hm0 : (0 : Int) ≤ (m : Int) := by omega
    have hm1 : (m : Int) < (G.length : Int) := by omega
    have hm2 : (m : Int) + 1 < (G.length : Int) := by omega
    have hm3 : (0 : Int) ≤ (m : Int) + 1 := by omega
    have hm5 : ((m : Int) + 1).toNat = m + 1 := by omega
    have hm6 : IntKind.i64.wrap ((m : Int) + 1 - 1) = (m : Int) := by rw [IntKind.wrap_i64]; omega
    have hm7 : IntKind.i64.wrap (m : Int) = (m : Int) := by rw [IntKind.wrap_i64]; omega
    have C0 := ghid c0
    have C1 := ghid c1
    have C2 := ghid c2
    have D0 := ghid d0
    have D1 := ghid d1
    have D2 := ghid d2
    have HNO := hid (show 0 ≤ Pp.cG G[m] G[m + 1] → false = Pp.risG G from fun h => (Pp.risG_no hlt h).symm)
    have HP2 := hid (show Pp.cG G[m] G[m + 1] < 0 → ∀ j (h : j + 1 < G.length), j < m + 1 → Pp.cG G[j] G[j + 1] < 0 from fun h0 j h1 h2 => by
     by_cases e : j = m
     · subst e; exact h0
     · exact HP.out j h1 (by omega))
    generalize G[m] = x at *
    generalize G[m + 1] = y at *
    go_wp2_with fail
    go_region_held3 (fun W => W.cell? ⟨b, o + m * 3, none⟩ = some (.string x.fo) ∧ W.cell? ⟨b, o + m * 3 + 1, none⟩ = some (.string x.wh) ∧ W.cell? ⟨b, o + m * 3 + 2, none⟩ = some (.int .i64 x.ri) ∧ W.cell? ⟨b, o + (m + 1) * 3, none⟩ = some (.string y.fo) ∧ W.cell? ⟨b, o + (m + 1) * 3 + 1, none⟩ = some (.string y.wh) ∧ W.cell? ⟨b, o + (m + 1) * 3 + 2, none⟩ = some (.int .i64 y.ri)) (go_keep) (first
     | (go_at_call 90; refine (compare_any x y _).mono ?_; rintro e wa ⟨rfl, hba⟩; have k0 := (hba.cell (p := ⟨b, o + m * 3, none⟩) hbr).trans D0.out; have k1 := (hba.cell (p := ⟨b, o + m * 3 + 1, none⟩) hbr).trans D1.out; have k2 := (hba.cell (p := ⟨b, o + m * 3 + 2, none⟩) hbr).trans D2.out; have k3 := (hba.cell (p := ⟨b, o + (m + 1) * 3, none⟩) hbr).trans C0.out; have k4 := (hba.cell (p := ⟨b, o + (m + 1) * 3 + 1, none⟩) hbr).trans C1.out; have k5 := (hba.cell (p := ⟨b, o + (m + 1) * 3 + 2, none⟩) hbr).trans C2.out))
    have hbel2 : Below w.heap.size w wa := hbel.drew.trans (hba.mono hbel.drew.size)
    by_cases hc : 0 ≤ Pp.cG x y
    · have HE := ghid (HNO.out hc)
      go_wp2_with fail
      go_ret
      exact ⟨Pp.ret_bool HE.out, hbel2⟩
    · have HP3 := ghid (HP2.out (by omega))
      go_wp2_with fail
      go_roundw
      case rel => exact ⟨m + 1, by omega, by simp, HP3, hbel2⟩
      case measure => simp [intOf]; omega
  · have HE := hid (show true = Pp.risG G from ((Pp.risG_iff G).2 fun j h => HP.out j h (by omega)).symm)
    go_wp2_with fail
    go_ret
    exact ⟨Pp.ret_bool HE.out, hbel⟩
end Go.Proofs.YtchlgpeiombmdaaGreat
