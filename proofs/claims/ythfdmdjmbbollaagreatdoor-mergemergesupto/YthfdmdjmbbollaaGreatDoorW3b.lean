/- What path.parts and shortened answer, for every text. -/
import Derived.Test.YthfdmdjmbbollaaGreatDoorMC
set_option linter.unusedSimpArgs false
set_option linter.unusedVariables false
namespace Go.Proofs.YthfdmdjmbbollaaGreatDoor
open Go.RowKit

set_option maxHeartbeats 400000 in
theorem parts_any (s : ByteArray) (w : World) (hs : s.size ≤ 1000000000000000) :
    Calls Tryz.prog 86 #[.string s] w fun e w' => e = .returned (.tuple #[.string ⟨(Pp.stem s.data.toList).toArray⟩, .string ⟨(Pp.ending s.data.toList).toArray⟩]) ∧ Below w.heap.size w w' := by
  have go1 : ∀ i : Int, Lib.lastIndexByte s ((46 : UInt8).toNat : Int) = i → i ≤ 0 → Pp.stem s.data.toList = s.data.toList → Pp.ending s.data.toList = [] →
      Calls Tryz.prog 86 #[.string s] w fun e w' => e = .returned (.tuple #[.string ⟨(Pp.stem s.data.toList).toArray⟩, .string ⟨(Pp.ending s.data.toList).toArray⟩]) ∧ Below w.heap.size w w' := by
    intro i e hi h1 h2
    have HE : Hid (Lib.lastIndexByte s ((46 : UInt8).toNat : Int) = i) := e
    have HP : Hid (⟨(Pp.stem s.data.toList).toArray⟩ = s) := (by rw [h1] : ⟨(Pp.stem s.data.toList).toArray⟩ = s)
    have HL : Hid (Pp.ending s.data.toList = []) := h2
    clear e h1 h2
    go_enter Tryz.func86, Tryz.ntmps86
    go_wp2_with fail
    refine (lastIdx_any s 46 _ hs).mono ?_
    rintro e w' ⟨rfl, rfl⟩
    rw [HE.out]
    go_wp2
    go_ret2
    exact ⟨by rw [HP.out, HL.out]; rfl, Below.refl _ _⟩
  rcases Pp.last_cases s 46 with ⟨e, hn⟩ | ⟨a, b, e, hn, hl⟩
  · exact go1 _ e (by omega) (Pp.parts_none hn).1 (Pp.parts_none hn).2
  · cases a with
    | nil => exact go1 _ e (by simp) (by rw [hl]; exact (Pp.parts_first hn).1) (by rw [hl]; exact (Pp.parts_first hn).2)
    | cons a0 r =>
      have ha : 1 ≤ (a0 :: r).length := by simp
      generalize a0 :: r = a at *
      have HE : Hid (Lib.lastIndexByte s ((46 : UInt8).toNat : Int) = a.length) := e
      have hz : s.size = a.length + b.length + 1 := by rw [Lib.size_eq, hl]; simp; try omega
      have l1 : (a.length : Int) ≤ s.size := by omega
      have l3 : 0 < (a.length : Int) := by omega
      have l4 : ¬ a = [] := by intro h; rw [h] at ha; simp at ha
      have HP : Hid (s.extract 0 a.length = ⟨(Pp.stem s.data.toList).toArray⟩) := (Pp.bytes_eq (by rw [Lib.extract_data, hl, (Pp.parts_cut ha hn).1]; simp) : s.extract 0 a.length = ⟨(Pp.stem s.data.toList).toArray⟩)
      have HL : Hid (s.extract a.length s.size = ⟨(Pp.ending s.data.toList).toArray⟩) := (Pp.bytes_eq (by rw [Lib.extract_data, hl, (Pp.parts_cut ha hn).2, hz, List.drop_left]; exact List.take_of_length_le (by simp; omega)) : s.extract a.length s.size = ⟨(Pp.ending s.data.toList).toArray⟩)
      clear e hn hl hz go1
      go_enter Tryz.func86, Tryz.ntmps86
      go_wp2_with fail
      refine (lastIdx_any s 46 _ hs).mono ?_
      rintro e w' ⟨rfl, rfl⟩
      rw [HE.out]
      go_wp2
      go_region
      go_wp2
      go_ret2
      exact ⟨by rw [HP.out, HL.out]; rfl, (Below.refl _ _).drew⟩

set_option maxHeartbeats 400000 in
theorem shortened_any (s : ByteArray) (room : Int) (w : World) (hs : s.size ≤ 1000000000000000) (h1 : -1000000000000000 ≤ room) (h2 : room ≤ 1000000000000000) :
    Calls Tryz.prog 88 #[.string s, .int .i64 room] w fun e w' => e = .returned (.string ⟨(Pp.short s.data.toList room).toArray⟩) ∧ Below w.heap.size w w' := by
  by_cases hr : (s.size : Int) ≤ room
  · have HP : Hid (⟨(Pp.short s.data.toList room).toArray⟩ = s) := (by rw [Pp.short, if_pos (by rw [← Lib.size_eq]; exact hr)] : ⟨(Pp.short s.data.toList room).toArray⟩ = s)
    go_enter Tryz.func88, Tryz.ntmps88
    go_wp2
    go_ret
    exact ⟨by rw [HP.out]; rfl, Below.refl _ _⟩
  · obtain ⟨m, hm⟩ : ∃ m : Int, m = max room 0 := ⟨_, rfl⟩
    have HP : Hid (Lib.trimRightB (s.extract 0 (max room 0).toNat).data.toList 32 = Pp.short s.data.toList room) :=
      (by rw [Pp.short, if_neg (by rw [← Lib.size_eq]; exact hr), Lib.extract_data]; simp [show (max room 0).toNat = room.toNat by omega] : Lib.trimRightB (s.extract 0 (max room 0).toNat).data.toList 32 = Pp.short s.data.toList room)
    have l1 : 0 ≤ max room 0 := by omega
    have l2 : max room 0 ≤ s.size := by omega
    go_enter Tryz.func88, Tryz.ntmps88
    go_wp2_with fail
    refine (Tryz.strings_TrimRight_one _ 32 (by decide) _ (by rw [Lib.size_eq, Lib.extract_data]; simp; omega)).mono ?_
    rintro e w' ⟨rfl, rfl⟩
    rw [HP.out]
    go_wp2
    go_ret
    exact ⟨rfl, Below.refl _ _⟩
end Go.Proofs.YthfdmdjmbbollaaGreatDoor
