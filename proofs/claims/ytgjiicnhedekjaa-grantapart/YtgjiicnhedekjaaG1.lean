/- Names: path.Join of nothing and a text, word.Names; grants as records; what grant.checkGrant answers. -/
import Derived.Test.YtgjiicnhedekjaaW4b
import Derived.Test.YtgjiicnhedekjaaW7
import Derived.Test.YtgjiicnhedekjaaTPure2
set_option linter.unusedSimpArgs false
set_option linter.unusedVariables false
namespace Go.Proofs.Ytgjiicnhedekjaa
open Go.RowKit

theorem ghid {p : Prop} (h : p) : Hid p := h

namespace Pp
theorem name_no47 {l : List UInt8} (h : nameB l = true) : 47 ∉ l := by
  intro h47
  have h1 : ∀ c ∈ l, okB c = true := by
    simp only [nameB, Bool.and_eq_true, List.all_eq_true] at h
    first | exact h.1 | exact h.1.1 | exact h.1.1.1 | exact h.1.1.1.1 | exact h.1.1.1.1.1 | exact h.1.1.1.1.1.1 | exact fun c hc => (h.1 c hc) | simp_all
  exact absurd (h1 47 h47) (by decide)
theorem name_len {l : List UInt8} (h : nameB l = true) : l.length ≤ 20 := by
  simp only [nameB, Bool.and_eq_true, decide_eq_true_eq] at h
  omega
theorem name_chk {l : List UInt8} (h : nameB l = true) : chk l = 0 := by
  have hn : nm l = [l] := nm_none l (name_no47 h)
  have ha : (nm l).all nameB = true := by rw [hn]; simp [h]
  rw [chk_big ha, if_neg]
  have := name_len h
  simp [big, hn]
  omega
/-- 1: a text is no name. -/
def nmE (l : List UInt8) : Int := if nameB l = true then 0 else 1
def nmsE (ns : List ByteArray) : Int := if (ns.all fun s => nameB s.data.toList) = true then 0 else 1
end Pp

set_option maxHeartbeats 400000 in
theorem join0_any (s : ByteArray) (w : World) (hs : s.size ≤ 1000000000000000) :
    Calls Try.prog 42 #[.string ⟨#[]⟩, .string s] w fun e w' => ∃ u, e = .returned (.tuple #[u, .int .i64 (Pp.nmE s.data.toList)]) ∧ Below w.heap.size w w' := by
  have hm : s.size ≤ maxLen := by unfold maxLen; omega
  cases hn : Pp.nameB s.data.toList with
  | true =>
    have HN := ghid hn
    have HC := ghid (Pp.name_chk hn)
    have HE : Hid (Pp.nmE s.data.toList = 0) := (if_pos hn : Pp.nmE s.data.toList = 0)
    have HJ : Hid ((⟨(Pp.jn [] s.data.toList).toArray⟩ : ByteArray) = s) := (by rw [Pp.jn, if_pos rfl] : (⟨(Pp.jn [] s.data.toList).toArray⟩ : ByteArray) = s)
    clear hn
    go_enter Try.func42, Try.ntmps42
    go_wp2_with fail
    refine (isName_any s _ hm).mono ?_
    rintro e w1 ⟨rfl, hw⟩
    rw [hw, HN.out]
    clear hw w1
    go_wp2_with fail
    refine (joined_any ⟨#[]⟩ s _ (by decide) hs).mono ?_
    rintro e w2 ⟨rfl, hw⟩
    rw [hw, show (⟨(Pp.jn (⟨#[]⟩ : ByteArray).data.toList s.data.toList).toArray⟩ : ByteArray) = s from HJ.out]
    clear hw w2
    go_wp2_with fail
    refine (checked_ok s _ hs HC.out).mono ?_
    rintro e w3 ⟨rfl, hb3⟩
    go_wp2
    go_ret2
    exact ⟨_, by rw [HE.out]; rfl, hb3⟩
  | false =>
    have HN := ghid hn
    have HE : Hid (Pp.nmE s.data.toList = 1) := (if_neg (by rw [hn]; decide) : Pp.nmE s.data.toList = 1)
    clear hn
    go_enter Try.func42, Try.ntmps42
    go_wp2_with fail
    refine (isName_any s _ hm).mono ?_
    rintro e w1 ⟨rfl, hw⟩
    rw [hw, HN.out]
    clear hw w1
    go_wp2_with fail
    go_ret2
    exact ⟨_, by rw [HE.out]; rfl, Below.refl _ _⟩

set_option maxHeartbeats 1000000 in
theorem names_any (ns : List ByteArray) (g o cap : Nat) (w : World) (hg : g < w.heap.size) (hs : ∀ i (h : i < ns.length), (ns[i]).size ≤ 1000000000000000) (hl : ns.length ≤ 1000) (hc : ∀ i (h : i < ns.length), w.cell? ⟨g, o + i, none⟩ = some (.string ns[i])) :
    Calls Try.prog 32 #[.slice (some ⟨g, o, none⟩) ns.length cap] w fun e w' => e = .returned (.int .i64 (Pp.nmsE ns)) ∧ Below w.heap.size w w' := by
  have HC := ghid hc
  have HS := ghid hs
  clear hc hs
  go_enter Try.func32, Try.ntmps32
  have HX : Hid (∀ k (h : k < ns.length), (∀ j (h : j < ns.length), j < k → Pp.nameB (ns[j]).data.toList = true) → Pp.nameB (ns[k]).data.toList = false → (ns.all fun s => Pp.nameB s.data.toList) = false) := (fun k h _ hk => List.all_eq_false.2 ⟨ns[k], List.getElem_mem h, by rw [hk]; decide⟩ : ∀ k (h : k < ns.length), (∀ j (h : j < ns.length), j < k → Pp.nameB (ns[j]).data.toList = true) → Pp.nameB (ns[k]).data.toList = false → (ns.all fun s => Pp.nameB s.data.toList) = false)
  have HY : Hid ((∀ j (h : j < ns.length), Pp.nameB (ns[j]).data.toList = true) → (ns.all fun s => Pp.nameB s.data.toList) = true) := (fun h => List.all_eq_true.2 fun x hx => by
    obtain ⟨j, hj, rfl⟩ := List.getElem_of_mem hx
    exact h j hj : (∀ j (h : j < ns.length), Pp.nameB (ns[j]).data.toList = true) → (ns.all fun s => Pp.nameB s.data.toList) = true)
  go_wp2_with fail
  go_loopw [9] (fun i wr => ∃ k : Nat, k ≤ ns.length ∧ i = .int .i64 k ∧ Hid (∀ j (h : j < ns.length), j < k → Pp.nameB (ns[j]).data.toList = true) ∧ Below w.heap.size w wr) (fun i _ => ns.length - (intOf i).toNat)
  case atStart => exact ⟨0, Nat.zero_le _, rfl, (fun j _ h => absurd h (Nat.not_lt_zero _) : ∀ j (h : j < ns.length), j < 0 → Pp.nameB (ns[j]).data.toList = true), Below.refl _ _⟩
  case round =>
    obtain ⟨k, hk, rfl, HP, hbel⟩ := hrel
    by_cases hlt : k < ns.length
    · have c0 := (hbel.cell (p := ⟨g, o + k, none⟩) hg).trans (HC.out k hlt)
      go_wp2_with fail
      refine (join0_any ns[k] _ (HS.out k hlt)).mono ?_
      rintro e w1 ⟨u, rfl, hb1⟩
      have hbel1 := below_trans hbel hb1
      clear hbel hb1 c0
      cases hn : Pp.nameB (ns[k]).data.toList with
      | true =>
        rw [Pp.nmE, if_pos hn]
        have HP2 : Hid (∀ j (h : j < ns.length), j < k + 1 → Pp.nameB (ns[j]).data.toList = true) := (fun j h1 h2 => by
          by_cases e : j = k
          · subst e; exact hn
          · exact HP.out j h1 (by omega) : ∀ j (h : j < ns.length), j < k + 1 → Pp.nameB (ns[j]).data.toList = true)
        clear hn
        go_wp2_with fail
        go_roundw
        case rel => exact ⟨k + 1, by omega, by simp, HP2, hbel1⟩
        case measure => simp [intOf]; omega
      | false =>
        rw [Pp.nmE, if_neg (by rw [hn]; decide)]
        have HE : Hid ((1 : Int) = Pp.nmsE ns) := (by rw [Pp.nmsE, if_neg (by rw [HX.out k hlt HP.out hn]; decide)] : (1 : Int) = Pp.nmsE ns)
        clear hn
        go_wp2_with fail
        go_ret
        exact ⟨Pp.ret_int HE.out, hbel1⟩
    · have HE : Hid ((0 : Int) = Pp.nmsE ns) := (by rw [Pp.nmsE, if_pos (HY.out (fun j h => HP.out j h (by omega)))] : (0 : Int) = Pp.nmsE ns)
      go_wp2_with fail
      go_ret
      exact ⟨Pp.ret_int HE.out, hbel⟩

/-- A grant. -/
structure Gr where
  fo : ByteArray
  wh : ByteArray
  ri : Int
def GrAt (w : World) (b o : Nat) (g : Gr) : Prop := w.cell? ⟨b, o, none⟩ = some (.string g.fo) ∧ w.cell? ⟨b, o + 1, none⟩ = some (.string g.wh) ∧ w.cell? ⟨b, o + 2, none⟩ = some (.int .i64 g.ri)
def LiesG (w : World) (v : Value) (G : List Gr) : Prop := ∃ a cap, v = .slice a G.length cap ∧ G.length ≤ cap ∧ G.length ≤ 1000000000000000 ∧ ∀ i (h : i < G.length), ∃ b o, a = some ⟨b, o, none⟩ ∧ b < w.heap.size ∧ GrAt w b (o + i * 3) G[i]
theorem GrAt.below {w w' : World} {b o : Nat} {g : Gr} (h : GrAt w b o g) (hb : b < w.heap.size) (hw : Below w.heap.size w w') : GrAt w' b o g :=
  ⟨(hw.cell (p := ⟨b, o, none⟩) hb).trans h.1, (hw.cell (p := ⟨b, o + 1, none⟩) hb).trans h.2.1, (hw.cell (p := ⟨b, o + 2, none⟩) hb).trans h.2.2⟩
theorem LiesG.below {w w' : World} {v : Value} {G : List Gr} (h : LiesG w v G) (hw : Below w.heap.size w w') : LiesG w' v G := by
  obtain ⟨a, cap, hv, h1, h2, h3⟩ := h
  refine ⟨a, cap, hv, h1, h2, fun i hi => ?_⟩
  obtain ⟨b, o, ha, hb, he⟩ := h3 i hi
  exact ⟨b, o, ha, Nat.lt_of_lt_of_le hb hw.size, he.below hb hw⟩
theorem liesG_nil (w : World) : LiesG w (.slice none 0 0) [] := ⟨none, 0, rfl, Nat.le_refl _, by decide, fun i h => absurd h (by simp)⟩
def SizedG (G : List Gr) : Prop := ∀ g ∈ G, g.fo.size ≤ 150000000000000 ∧ g.wh.size ≤ 150000000000000
theorem bx3 {w w1 : World} {a b c : Value} {T : TypeId} (h : Below (w.alloc (.cells #[a, b, c] T)).heap.size (w.alloc (.cells #[a, b, c] T)) w1) :
    w1.cell? ⟨w.heap.size, 0, none⟩ = some a ∧ w1.cell? ⟨w.heap.size, 1, none⟩ = some b ∧ w1.cell? ⟨w.heap.size, 2, none⟩ = some c ∧ Below w.heap.size w w1 ∧ w.heap.size < w1.heap.size := by
  have hz : w.heap.size < (w.alloc (.cells #[a, b, c] T)).heap.size := by simp
  refine ⟨?_, ?_, ?_, ((Below.refl _ _).alloc (Nat.le_refl _) _).trans (h.mono (Nat.le_of_lt hz)), Nat.lt_of_lt_of_le hz h.size⟩
  · exact (h.cell (p := ⟨w.heap.size, 0, none⟩) hz).trans (by simp)
  · exact (h.cell (p := ⟨w.heap.size, 1, none⟩) hz).trans (by simp)
  · exact (h.cell (p := ⟨w.heap.size, 2, none⟩) hz).trans (by simp)

namespace Pp
def nm2 (g : Gr) : Bool := nameB g.fo.data.toList && nameB g.wh.data.toList
def grE (g : Gr) : Int := if nm2 g = true then (if g.ri < 1 ∨ 3 < g.ri then 3 else 0) else 1
end Pp

set_option maxRecDepth 100000 in
set_option maxHeartbeats 1000000 in
theorem checkGrant_any (g : Gr) (w : World) (hf : g.fo.size ≤ 150000000000000) (hh : g.wh.size ≤ 150000000000000) :
    Calls Try.prog 29 #[.agg #[.string g.fo, .string g.wh, .int .i64 g.ri]] w fun e w' => e = .returned (.int .i64 (Pp.grE g)) ∧ Below w.heap.size w w' := by
  have hns : Pp.nmsE [g.fo, g.wh] = if Pp.nm2 g = true then 0 else 1 := by simp [Pp.nmsE, Pp.nm2]
  have hcs : (Pp.nmsE [g.fo, g.wh] = 1 ∧ Pp.grE g = 1) ∨ (Pp.nmsE [g.fo, g.wh] = 0 ∧ g.ri < 1 ∧ Pp.grE g = 3) ∨ (Pp.nmsE [g.fo, g.wh] = 0 ∧ 1 ≤ g.ri ∧ 3 < g.ri ∧ Pp.grE g = 3) ∨ (Pp.nmsE [g.fo, g.wh] = 0 ∧ 1 ≤ g.ri ∧ g.ri ≤ 3 ∧ Pp.grE g = 0) := by
    rw [hns, Pp.grE]
    cases Pp.nm2 g with
    | false => left; simp
    | true =>
      right
      by_cases h1 : g.ri < 1
      · left; simp [h1]
      · right
        by_cases h3 : 3 < g.ri
        · left; simp [h3]; omega
        · right; simp; omega
  clear hns
  rcases hcs with ⟨hn, hE⟩ | ⟨hn, h1, hE⟩ | ⟨hn, h1, h2, hE⟩ | ⟨hn, h1, h2, hE⟩
  all_goals
    have HN := ghid hn
    have HE := ghid hE
    clear hn hE
    go_enter Try.func29, Try.ntmps29
    go_wp2_with fail
    refine (names_any [g.fo, g.wh] (w.heap.size + 1) 0 2 _ (by simp) (fun i h => by match i, h with | 0, _ => exact Nat.le_trans hf (by decide) | 1, _ => exact Nat.le_trans hh (by decide)) (by simp) (fun i h => by match i, h with | 0, _ => simp | 1, _ => simp)).mono ?_
    rintro e w1 ⟨rfl, hb1⟩
    rw [HN.out]
    have hb2 : Below (w.alloc (.cells #[.string g.fo, .string g.wh, .int .i64 g.ri] 33)).heap.size (w.alloc (.cells #[.string g.fo, .string g.wh, .int .i64 g.ri] 33)) w1 := ((Below.refl _ _).alloc (Nat.le_refl _) _).trans (hb1.mono (by simp))
    obtain ⟨c0, c1, c2, hbw, hlt⟩ := bx3 hb2
    clear hb1 hb2
    go_wp2_with fail
    go_ret
    exact ⟨by rw [HE.out]; rfl, hbw⟩
end Go.Proofs.Ytgjiicnhedekjaa
