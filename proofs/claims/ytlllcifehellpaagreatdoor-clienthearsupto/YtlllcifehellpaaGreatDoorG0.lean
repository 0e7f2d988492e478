/- Names: path.Join of nothing and a text, word.Names. -/
import Derived.Test.YtlllcifehellpaaGreatDoorME
import Derived.Test.YtlllcifehellpaaGreatDoorQR
import Derived.Test.YtlllcifehellpaaGreatDoorW7
import Derived.Test.YtlllcifehellpaaGreatDoorMA
set_option linter.unusedSimpArgs false
set_option linter.unusedVariables false
namespace Go.Proofs.YtlllcifehellpaaGreatDoor
open Go.RowKit

theorem ghid {p : Prop} (h : p) : Hid p := h

namespace Pp
theorem name_no47 {l : List UInt8} (h : nameB l = true) : 47 ∉ l := by
  intro h47
  have h1 : ∀ c ∈ l, okB c = true := by
    simp only [nameB, Bool.and_eq_true, List.all_eq_true] at h
    first | exact h.1 | exact h.1.1 | exact h.1.1.1 | exact h.1.1.1.1 | exact h.1.1.1.1.1 | exact h.1.1.1.1.1.1 | exact fun c hc => (h.1 c hc) | simp_all
  exact absurd (h1 47 h47) (by decide)
theorem name_len {l : List UInt8} (h : nameB l = true) : l.length ≤ 20 := by
  simp only [nameB, Bool.and_eq_true, decide_eq_true_eq] at h
  omega
theorem name_chk {l : List UInt8} (h : nameB l = true) : chk l = 0 := by
  have hn : nm l = [l] := nm_none l (name_no47 h)
  have ha : (nm l).all nameB = true := by rw [hn]; simp [h]
  rw [chk_big ha, if_neg]
  have := name_len h
  simp [big, hn]
  omega
/-- 1: a text is no name. -/
def nmE (l : List UInt8) : Int := if nameB l = true then 0 else 1
def nmsE (ns : List ByteArray) : Int := if (ns.all fun s => nameB s.data.toList) = true then 0 else 1
end Pp

set_option maxHeartbeats 400000 in
theorem join0_any (s : ByteArray) (w : World) (hs : s.size ≤ 1000000000000000) :
    Calls Tryz.prog 89 #[.string ⟨#[]⟩, .string s] w fun e w' => ∃ u, e = .returned (.tuple #[u, .int .i64 (Pp.nmE s.data.toList)]) ∧ Below w.heap.size w w' := by
  have hm : s.size ≤ maxLen := by unfold maxLen; omega
  cases hn : Pp.nameB s.data.toList with
  | true =>
    have HN := ghid hn
    have HC := ghid (Pp.name_chk hn)
    have HE : Hid (Pp.nmE s.data.toList = 0) := (if_pos hn : Pp.nmE s.data.toList = 0)
    have HJ : Hid ((⟨(Pp.jn [] s.data.toList).toArray⟩ : ByteArray) = s) := (by rw [Pp.jn, if_pos rfl] : (⟨(Pp.jn [] s.data.toList).toArray⟩ : ByteArray) = s)
    clear hn
    go_enter Tryz.func89, Tryz.ntmps89
    go_wp2_with fail
    refine (isName_any s _ hm).mono ?_
    rintro e w1 ⟨rfl, hw⟩
    rw [hw, HN.out]
    clear hw w1
    go_wp2_with fail
    refine (joined_any ⟨#[]⟩ s _ (by decide) hs).mono ?_
    rintro e w2 ⟨rfl, hw⟩
    rw [hw, show (⟨(Pp.jn (⟨#[]⟩ : ByteArray).data.toList s.data.toList).toArray⟩ : ByteArray) = s from HJ.out]
    clear hw w2
    go_wp2_with fail
    refine (checked_ok s _ hs HC.out).mono ?_
    rintro e w3 ⟨rfl, hb3⟩
    go_wp2
    go_ret2
    exact ⟨_, by rw [HE.out]; rfl, hb3⟩
  | false =>
    have HN := ghid hn
    have HE : Hid (Pp.nmE s.data.toList = 1) := (if_neg (by rw [hn]; decide) : Pp.nmE s.data.toList = 1)
    clear hn
    go_enter Tryz.func89, Tryz.ntmps89
    go_wp2_with fail
    refine (isName_any s _ hm).mono ?_
    rintro e w1 ⟨rfl, hw⟩
    rw [hw, HN.out]
    clear hw w1
    go_wp2_with fail
    go_ret2
    exact ⟨_, by rw [HE.out]; rfl, Below.refl _ _⟩

set_option maxHeartbeats 1000000 in
theorem names_any (ns : List ByteArray) (g o cap : Nat) (w : World) (hg : g < w.heap.size) (hs : ∀ i (h : i < ns.length), (ns[i]).size ≤ 1000000000000000) (hl : ns.length ≤ 1000) (hc : ∀ i (h : i < ns.length), w.cell? ⟨g, o + i, none⟩ = some (.string ns[i])) :
    Calls Tryz.prog 66 #[.slice (some ⟨g, o, none⟩) ns.length cap] w fun e w' => e = .returned (.int .i64 (Pp.nmsE ns)) ∧ Below w.heap.size w w' := by
  have HC := ghid hc
  have HS := ghid hs
  clear hc hs
  go_enter Tryz.func66, Tryz.ntmps66
  have HX : Hid (∀ k (h : k < ns.length), (∀ j (h : j < ns.length), j < k → Pp.nameB (ns[j]).data.toList = true) → Pp.nameB (ns[k]).data.toList = false → (ns.all fun s => Pp.nameB s.data.toList) = false) := (fun k h _ hk => List.all_eq_false.2 ⟨ns[k], List.getElem_mem h, by rw [hk]; decide⟩ : ∀ k (h : k < ns.length), (∀ j (h : j < ns.length), j < k → Pp.nameB (ns[j]).data.toList = true) → Pp.nameB (ns[k]).data.toList = false → (ns.all fun s => Pp.nameB s.data.toList) = false)
  have HY : Hid ((∀ j (h : j < ns.length), Pp.nameB (ns[j]).data.toList = true) → (ns.all fun s => Pp.nameB s.data.toList) = true) := (fun h => List.all_eq_true.2 fun x hx => by
    obtain ⟨j, hj, rfl⟩ := List.getElem_of_mem hx
    exact h j hj : (∀ j (h : j < ns.length), Pp.nameB (ns[j]).data.toList = true) → (ns.all fun s => Pp.nameB s.data.toList) = true)
  go_wp2_with fail
  go_loopw [9] (fun i wr => ∃ k : Nat, k ≤ ns.length ∧ i = .int .i64 k ∧ Hid (∀ j (h : j < ns.length), j < k → Pp.nameB (ns[j]).data.toList = true) ∧ Below w.heap.size w wr) (fun i _ => ns.length - (intOf i).toNat)
  case atStart => exact ⟨0, Nat.zero_le _, rfl, (fun j _ h => absurd h (Nat.not_lt_zero _) : ∀ j (h : j < ns.length), j < 0 → Pp.nameB (ns[j]).data.toList = true), Below.refl _ _⟩
  case round =>
    obtain ⟨k, hk, rfl, HP, hbel⟩ := hrel
    by_cases hlt : k < ns.length
    · have c0 := (hbel.cell (p := ⟨g, o + k, none⟩) hg).trans (HC.out k hlt)
      go_wp2_with fail
      refine (join0_any ns[k] _ (HS.out k hlt)).mono ?_
      rintro e w1 ⟨u, rfl, hb1⟩
      have hbel1 := below_trans hbel hb1
      clear hbel hb1 c0
      cases hn : Pp.nameB (ns[k]).data.toList with
      | true =>
        rw [Pp.nmE, if_pos hn]
        have HP2 : Hid (∀ j (h : j < ns.length), j < k + 1 → Pp.nameB (ns[j]).data.toList = true) := (fun j h1 h2 => by
          by_cases e : j = k
          · subst e; exact hn
          · exact HP.out j h1 (by omega) : ∀ j (h : j < ns.length), j < k + 1 → Pp.nameB (ns[j]).data.toList = true)
        clear hn
        go_wp2_with fail
        go_roundw
        case rel => exact ⟨k + 1, by omega, by simp, HP2, hbel1⟩
        case measure => simp [intOf]; omega
      | false =>
        rw [Pp.nmE, if_neg (by rw [hn]; decide)]
        have HE : Hid ((1 : Int) = Pp.nmsE ns) := (by rw [Pp.nmsE, if_neg (by rw [HX.out k hlt HP.out hn]; decide)] : (1 : Int) = Pp.nmsE ns)
        clear hn
        go_wp2_with fail
        go_ret
        exact ⟨Pp.ret_int HE.out, hbel1⟩
    · have HE : Hid ((0 : Int) = Pp.nmsE ns) := (by rw [Pp.nmsE, if_pos (HY.out (fun j h => HP.out j h (by omega)))] : (0 : Int) = Pp.nmsE ns)
      go_wp2_with fail
      go_ret
      exact ⟨Pp.ret_int HE.out, hbel⟩

end Go.Proofs.YtlllcifehellpaaGreatDoor
