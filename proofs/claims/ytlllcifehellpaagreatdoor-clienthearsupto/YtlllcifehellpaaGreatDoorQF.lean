/- What path.parts and shortened answer, for every text. What path.Aside answers, for every text and number; and what holds in any case. Plain mathematics of paths, fourth part: what goes aside is a path. Plain mathematics of paths, fifth part: there and back; apart. -/
import Derived.Test.YtlllcifehellpaaGreatDoorMC
import Derived.Test.YtlllcifehellpaaGreatDoorME
import Derived.Test.YtlllcifehellpaaGreatDoorQR
import Derived.Test.YtlllcifehellpaaGreatDoorMA
set_option linter.unusedSimpArgs false
set_option linter.unusedVariables false
namespace Go.Proofs.YtlllcifehellpaaGreatDoor
open Go.RowKit

set_option maxHeartbeats 400000 in
theorem parts_any (s : ByteArray) (w : World) (hs : s.size ≤ 1000000000000000) :
    Calls Tryz.prog 124 #[.string s] w fun e w' => e = .returned (.tuple #[.string ⟨(Pp.stem s.data.toList).toArray⟩, .string ⟨(Pp.ending s.data.toList).toArray⟩]) ∧ Below w.heap.size w w' := by
  have go1 : ∀ i : Int, Lib.lastIndexByte s ((46 : UInt8).toNat : Int) = i → i ≤ 0 → Pp.stem s.data.toList = s.data.toList → Pp.ending s.data.toList = [] →
      Calls Tryz.prog 124 #[.string s] w fun e w' => e = .returned (.tuple #[.string ⟨(Pp.stem s.data.toList).toArray⟩, .string ⟨(Pp.ending s.data.toList).toArray⟩]) ∧ Below w.heap.size w w' := by
    intro i e hi h1 h2
    have HE : Hid (Lib.lastIndexByte s ((46 : UInt8).toNat : Int) = i) := e
    have HP : Hid (⟨(Pp.stem s.data.toList).toArray⟩ = s) := (by rw [h1] : ⟨(Pp.stem s.data.toList).toArray⟩ = s)
    have HL : Hid (Pp.ending s.data.toList = []) := h2
    clear e h1 h2
    go_enter Tryz.func124, Tryz.ntmps124
    go_wp2_with fail
    refine (lastIdx_any s 46 _ hs).mono ?_
    rintro e w' ⟨rfl, rfl⟩
    rw [HE.out]
    go_wp2
    go_ret2
    exact ⟨by rw [HP.out, HL.out]; rfl, Below.refl _ _⟩
  rcases Pp.last_cases s 46 with ⟨e, hn⟩ | ⟨a, b, e, hn, hl⟩
  · exact go1 _ e (by omega) (Pp.parts_none hn).1 (Pp.parts_none hn).2
  · cases a with
    | nil => exact go1 _ e (by simp) (by rw [hl]; exact (Pp.parts_first hn).1) (by rw [hl]; exact (Pp.parts_first hn).2)
    | cons a0 r =>
      have ha : 1 ≤ (a0 :: r).length := by simp
      generalize a0 :: r = a at *
      have HE : Hid (Lib.lastIndexByte s ((46 : UInt8).toNat : Int) = a.length) := e
      have hz : s.size = a.length + b.length + 1 := by rw [Lib.size_eq, hl]; simp; try omega
      have l1 : (a.length : Int) ≤ s.size := by omega
      have l3 : 0 < (a.length : Int) := by omega
      have l4 : ¬ a = [] := by intro h; rw [h] at ha; simp at ha
      have HP : Hid (s.extract 0 a.length = ⟨(Pp.stem s.data.toList).toArray⟩) := (Pp.bytes_eq (by rw [Lib.extract_data, hl, (Pp.parts_cut ha hn).1]; simp) : s.extract 0 a.length = ⟨(Pp.stem s.data.toList).toArray⟩)
      have HL : Hid (s.extract a.length s.size = ⟨(Pp.ending s.data.toList).toArray⟩) := (Pp.bytes_eq (by rw [Lib.extract_data, hl, (Pp.parts_cut ha hn).2, hz, List.drop_left]; exact List.take_of_length_le (by simp; omega)) : s.extract a.length s.size = ⟨(Pp.ending s.data.toList).toArray⟩)
      clear e hn hl hz go1
      go_enter Tryz.func124, Tryz.ntmps124
      go_wp2_with fail
      refine (lastIdx_any s 46 _ hs).mono ?_
      rintro e w' ⟨rfl, rfl⟩
      rw [HE.out]
      go_wp2
      go_region
      go_wp2
      go_ret2
      exact ⟨by rw [HP.out, HL.out]; rfl, (Below.refl _ _).drew⟩

set_option maxHeartbeats 400000 in
theorem shortened_any (s : ByteArray) (room : Int) (w : World) (hs : s.size ≤ 1000000000000000) (h1 : -1000000000000000 ≤ room) (h2 : room ≤ 1000000000000000) :
    Calls Tryz.prog 125 #[.string s, .int .i64 room] w fun e w' => e = .returned (.string ⟨(Pp.short s.data.toList room).toArray⟩) ∧ Below w.heap.size w w' := by
  by_cases hr : (s.size : Int) ≤ room
  · have HP : Hid (⟨(Pp.short s.data.toList room).toArray⟩ = s) := (by rw [Pp.short, if_pos (by rw [← Lib.size_eq]; exact hr)] : ⟨(Pp.short s.data.toList room).toArray⟩ = s)
    go_enter Tryz.func125, Tryz.ntmps125
    go_wp2
    go_ret
    exact ⟨by rw [HP.out]; rfl, Below.refl _ _⟩
  · obtain ⟨m, hm⟩ : ∃ m : Int, m = max room 0 := ⟨_, rfl⟩
    have HP : Hid (Lib.trimRightB (s.extract 0 (max room 0).toNat).data.toList 32 = Pp.short s.data.toList room) :=
      (by rw [Pp.short, if_neg (by rw [← Lib.size_eq]; exact hr), Lib.extract_data]; simp [show (max room 0).toNat = room.toNat by omega] : Lib.trimRightB (s.extract 0 (max room 0).toNat).data.toList 32 = Pp.short s.data.toList room)
    have l1 : 0 ≤ max room 0 := by omega
    have l2 : max room 0 ≤ s.size := by omega
    go_enter Tryz.func125, Tryz.ntmps125
    go_wp2_with fail
    refine (Tryz.strings_TrimRight_one _ 32 (by decide) _ (by rw [Lib.size_eq, Lib.extract_data]; simp; omega)).mono ?_
    rintro e w' ⟨rfl, rfl⟩
    rw [HP.out]
    go_wp2
    go_ret
    exact ⟨rfl, Below.refl _ _⟩
end Go.Proofs.YtlllcifehellpaaGreatDoor
set_option linter.unusedSimpArgs false
set_option linter.unusedVariables false
namespace Go.Proofs.YtlllcifehellpaaGreatDoor
open Go.RowKit

set_option maxHeartbeats 1000000 in
theorem aside_any (s : ByteArray) (n : Int) (w : World) (hs : s.size ≤ 200000000000000) :
    Calls Tryz.prog 98 #[.string s, .int .i64 n] w fun e w' => e = .returned (.tuple #[.string ⟨(Pp.ifc (Pp.asideE s.data.toList n) (Pp.asideT s.data.toList n.toNat)).toArray⟩, .int .i64 (Pp.asideE s.data.toList n)]) ∧ Below w.heap.size w w' := by
  by_cases hz : Pp.chk s.data.toList = 0
  · have HZ : Hid (Pp.chk s.data.toList = 0) := hz
    by_cases hn : n < 1 ∨ 99 < n
    · have HE : Hid (Pp.asideE s.data.toList n = 3) := (by rw [Pp.asideE, if_pos hz, if_pos hn] : Pp.asideE s.data.toList n = 3)
      have HR : Hid (Pp.ifc 3 (Pp.asideT s.data.toList n.toNat) = []) := Pp.ifc_no (by decide) _
      clear hz
      rcases hn with hn | hn
      · go_enter Tryz.func98, Tryz.ntmps98
        go_wp2_with fail
        refine (checkAll1 s _ _ (by omega)).mono ?_
        rintro e w1 ⟨rfl, hb1⟩
        rw [HZ.out]
        go_wp2_with fail
        go_ret2
        exact ⟨by rw [HE.out, HR.out]; rfl, hb1⟩
      · go_enter Tryz.func98, Tryz.ntmps98
        go_wp2_with fail
        refine (checkAll1 s _ _ (by omega)).mono ?_
        rintro e w1 ⟨rfl, hb1⟩
        rw [HZ.out]
        go_wp2_with fail
        go_ret2
        exact ⟨by rw [HE.out, HR.out]; rfl, hb1⟩
    · obtain ⟨i, rfl⟩ := Int.eq_ofNat_of_zero_le (show 0 ≤ n by omega)
      have hi1 : 1 ≤ (i : Int) := by omega
      have hi2 : (i : Int) ≤ 99 := by omega
      have b0 := Pp.dec_len i (by omega)
      have b1 := Pp.len_par s.data.toList
      have b2 := Pp.len_lst s.data.toList
      have b3 := Pp.len_stem (Pp.lst s.data.toList)
      have b4 := Pp.len_ending (Pp.lst s.data.toList)
      rw [← Lib.size_eq] at b1 b2
      have hes := Pp.asideE_in s.data.toList i hz hi1 hi2
      have b5 := Pp.len_asideS s.data.toList i
      have hT := Pp.asideT_eq s.data.toList i
      have hSq := Pp.aside_room s.data.toList i
      generalize Pp.asideS s.data.toList i = S at *
      have HS : Hid (Pp.short (Pp.stem (Pp.lst s.data.toList)) (20 - (2 + ((Lib.decDigits i).length : Int) + 1) - (Pp.ending (Pp.lst s.data.toList)).length) = S) := hSq
      have HES : Hid (Pp.asideE s.data.toList i = if S = [] then 2 else Pp.chk (Pp.asideT s.data.toList i)) := hes
      have HT : Hid (Pp.asideT s.data.toList i = Pp.jn (Pp.par s.data.toList) (S ++ Pp.mark i ++ Pp.ending (Pp.lst s.data.toList))) := hT
      clear hz hn hes hT hSq
      go_enter Tryz.func98, Tryz.ntmps98
      go_wp2_with fail
      refine (checkAll1 s _ _ (by omega)).mono ?_
      rintro e w1 ⟨rfl, hb1⟩
      rw [HZ.out]
      go_wp2_with fail
      refine (split_any s _ (by omega)).mono ?_
      rintro e w2 ⟨rfl, hb2⟩
      go_wp2_with fail
      refine (parts_any ⟨(Pp.lst s.data.toList).toArray⟩ _ (by rw [Pp.sz]; omega)).mono ?_
      rintro e w3 ⟨rfl, hb3⟩
      go_wp2_with fail
      refine (Tryz.strconv_Itoa_small i (by omega) _).mono ?_
      rintro e w4 ⟨rfl, rfl⟩
      go_wp2_with fail
      refine (shortened_any _ _ _ (by rw [Pp.sz]; omega) (by omega) (by omega)).mono ?_
      rintro e w5 ⟨rfl, hb5⟩
      rw [show Pp.short _ _ = S from HS.out]
      have hbb : Below w.heap.size w w5 := ((hb1.trans (hb2.mono hb1.size)).trans (hb3.mono (Nat.le_trans hb1.size hb2.size))).trans (hb5.mono (Nat.le_trans hb1.size (Nat.le_trans hb2.size hb3.size)))
      clear hb1 hb2 hb3 hb5 HS
      cases hq : S.isEmpty with
      | true =>
        have HE : Hid (Pp.asideE s.data.toList i = 2) := (by rw [HES.out, if_pos (List.isEmpty_iff.1 hq)] : Pp.asideE s.data.toList i = 2)
        have HR : Hid (Pp.ifc 2 (Pp.asideT s.data.toList (i : Int).toNat) = []) := Pp.ifc_no (by decide) _
        go_wp2_with fail
        go_ret2
        exact ⟨by rw [HE.out, HR.out]; rfl, hbb⟩
      | false =>
        have HE : Hid (Pp.asideE s.data.toList i = Pp.chk (Pp.asideT s.data.toList i)) := (by rw [HES.out, if_neg (by intro h; rw [h] at hq; cases hq)] : Pp.asideE s.data.toList i = Pp.chk (Pp.asideT s.data.toList i))
        have HB : Hid ((⟨S.toArray⟩ : ByteArray) ++ (⟨#[32, 40]⟩ ++ ⟨(Lib.decDigits i).toArray⟩ ++ ⟨#[41]⟩) ++ ⟨(Pp.ending (Pp.lst s.data.toList)).toArray⟩ = ⟨(S ++ Pp.mark i ++ Pp.ending (Pp.lst s.data.toList)).toArray⟩) :=
          (Pp.bytes_eq (by rw [Joins.data_append, Joins.data_append, Joins.data_append, Joins.data_append]; simp [Pp.mark]) : (⟨S.toArray⟩ : ByteArray) ++ (⟨#[32, 40]⟩ ++ ⟨(Lib.decDigits i).toArray⟩ ++ ⟨#[41]⟩) ++ ⟨(Pp.ending (Pp.lst s.data.toList)).toArray⟩ = ⟨(S ++ Pp.mark i ++ Pp.ending (Pp.lst s.data.toList)).toArray⟩)
        have b6 := Pp.mark_len i
        have b7 := Pp.len_jn (Pp.par s.data.toList) (S ++ Pp.mark i ++ Pp.ending (Pp.lst s.data.toList))
        rw [List.length_append, List.length_append, b6, ← HT.out] at b7
        have B8 : Hid ((S ++ Pp.mark i ++ Pp.ending (Pp.lst s.data.toList)).length ≤ 1000000000000000) := (by rw [List.length_append, List.length_append, b6]; omega : (S ++ Pp.mark i ++ Pp.ending (Pp.lst s.data.toList)).length ≤ 1000000000000000)
        clear b6
        go_wp2_with fail
        rw [HB.out]
        refine (joined_any _ ⟨(S ++ Pp.mark i ++ Pp.ending (Pp.lst s.data.toList)).toArray⟩ _ (by rw [Pp.sz]; omega) (by rw [Pp.sz]; exact B8.out)).mono ?_
        rintro e w6 ⟨rfl, rfl⟩
        rw [show Pp.jn _ _ = Pp.asideT s.data.toList i from HT.out.symm]
        by_cases hz : Pp.chk (Pp.asideT s.data.toList i) = 0
        · have HZ2 : Hid (Pp.chk (Pp.asideT s.data.toList i) = 0) := hz
          have HR : Hid (Pp.ifc 0 (Pp.asideT s.data.toList (i : Int).toNat) = Pp.asideT s.data.toList i) := Pp.ifc_yes rfl _
          clear hz
          go_wp2_with fail
          refine (checked_ok ⟨(Pp.asideT s.data.toList i).toArray⟩ _ (by rw [Pp.sz]; omega) HZ2.out).mono ?_
          rintro e w7 ⟨rfl, hb7⟩
          go_wp2
          go_ret2
          exact ⟨by rw [HE.out, HZ2.out, HR.out]; rfl, hbb.trans (hb7.mono hbb.size)⟩
        · have HR : Hid (Pp.ifc (Pp.chk (Pp.asideT s.data.toList i)) (Pp.asideT s.data.toList (i : Int).toNat) = []) := Pp.ifc_no hz _
          have HZ2 : Hid (¬ Pp.chk (Pp.asideT s.data.toList i) = 0) := hz
          clear hz
          go_wp2_with fail
          refine (checked_no ⟨(Pp.asideT s.data.toList i).toArray⟩ _ (by rw [Pp.sz]; omega) HZ2.out).mono ?_
          rintro e w7 ⟨rfl, hb7⟩
          go_wp2
          go_ret2
          exact ⟨by rw [HE.out, HR.out]; rfl, hbb.trans (hb7.mono hbb.size)⟩
  · have hz2 : (Pp.chk s.data.toList == 0) = false := by simpa using hz
    have HE : Hid (Pp.asideE s.data.toList n = Pp.chk s.data.toList) := (by rw [Pp.asideE, if_neg hz] : Pp.asideE s.data.toList n = Pp.chk s.data.toList)
    have HR : Hid (Pp.ifc (Pp.chk s.data.toList) (Pp.asideT s.data.toList n.toNat) = []) := Pp.ifc_no hz _
    clear hz
    go_enter Tryz.func98, Tryz.ntmps98
    go_wp2_with fail
    refine (checkAll1 s _ _ (by omega)).mono ?_
    rintro e w1 ⟨rfl, hb1⟩
    go_wp2
    go_ret2
    exact ⟨by rw [HE.out, HR.out]; rfl, hb1⟩
end Go.Proofs.YtlllcifehellpaaGreatDoor
set_option linter.unusedSimpArgs false
set_option linter.unusedVariables false
namespace Go.Proofs.YtlllcifehellpaaGreatDoor.Pp

theorem last_split4 (l : List UInt8) : (47 ∉ l ∧ par l = [] ∧ lst l = l) ∨ (l = par l ++ 47 :: lst l ∧ 47 ∉ lst l) := by
  by_cases h : 47 ∈ l.reverse
  · right
    obtain ⟨a, b, ha, hab⟩ := split_at _ _ h
    have e : l = b.reverse ++ 47 :: a.reverse := by
      have := congrArg List.reverse hab
      simpa using this
    have h2 : 47 ∉ a.reverse := by simpa using ha
    have e1 : par l = b.reverse := by rw [e, par_cut _ h2]
    have e2 : lst l = a.reverse := by rw [e, lst_cut _ h2]
    rw [e1, e2]
    exact ⟨e, h2⟩
  · left
    have h2 : 47 ∉ l := by simpa using h
    exact ⟨h2, par_none h2, lst_none h2⟩
theorem names_parts {l : List UInt8} (h : (nm l).all nameB = true) : nameB (lst l) = true ∧ (par l = [] ∨ (nm (par l)).all nameB = true) := by
  rcases last_split4 l with ⟨h1, e1, e2⟩ | ⟨e, h1⟩
  · rw [nm_none l h1] at h
    rw [e2]
    exact ⟨by simpa using h, Or.inl e1⟩
  · rw [e, nm_app, nm_none _ h1, List.all_append] at h
    simp only [Bool.and_eq_true, List.all_cons, List.all_nil, Bool.and_true] at h
    exact ⟨h.2, Or.inr h.1⟩
theorem jn_names {p n : List UInt8} (hn : nameB n = true) (hp : p = [] ∨ (nm p).all nameB = true) : (nm (jn p n)).all nameB = true := by
  unfold jn
  split
  · rw [nm_none n (no_slash hn)]; simp [hn]
  · rename_i e
    rcases hp with h | h
    · exact absurd h e
    · rw [nm_app, nm_none n (no_slash hn)]
      exact all_app h (by simp [hn])

theorem name_iff (l : List UInt8) : nameB l = true ↔ (∀ c ∈ l, okB c = true) ∧ 1 ≤ l.length ∧ l.length ≤ 20 ∧ l.head? ≠ some 32 ∧ l.getLast? ≠ some 32 ∧ l ≠ [46] ∧ l ≠ [46, 46] := by
  simp only [nameB, Bool.and_eq_true, decide_eq_true_eq, bne_iff_ne, List.all_eq_true]
  constructor
  · rintro ⟨⟨⟨⟨⟨⟨a, b⟩, c⟩, d⟩, e⟩, f⟩, g⟩; exact ⟨a, b, c, d, e, f, g⟩
  · rintro ⟨a, b, c, d, e, f, g⟩; exact ⟨⟨⟨⟨⟨⟨a, b⟩, c⟩, d⟩, e⟩, f⟩, g⟩
theorem dig_ok (u : Nat) : okB (UInt8.ofNat (48 + u % 10)) = true := by
  rw [okB_iff, UInt8.toNat_ofNat']; omega
theorem dec_ok : ∀ (n u : Nat), u < n → ∀ c ∈ Lib.decDigits u, okB c = true
  | 0, u, h => absurd h (Nat.not_lt_zero _)
  | n + 1, u, h => by
    intro c hc
    rw [Lib.decDigits] at hc
    split at hc
    · rename_i h1
      rw [List.mem_singleton] at hc
      rw [hc, show 48 + u = 48 + u % 10 by omega]
      exact dig_ok u
    · rcases List.mem_append.1 hc with hc | hc
      · exact dec_ok n (u / 10) (by omega) c hc
      · rw [List.mem_singleton] at hc
        rw [hc]; exact dig_ok u
theorem mark_ok (n : Nat) : ∀ c ∈ mark n, okB c = true := by
  intro c hc
  simp only [mark, List.mem_cons, List.mem_append, List.mem_singleton] at hc
  rcases hc with rfl | rfl | hc | rfl | hc
  · decide
  · decide
  · exact dec_ok (n + 1) n (Nat.lt_succ_self n) c hc
  · decide
  · cases hc
theorem stem_ending (l : List UInt8) : stem l ++ ending l = l := List.take_append_drop _ _
theorem trim_sub (l : List UInt8) (c : UInt8) : ∃ r, l = Lib.trimRightB l c ++ r := by
  refine ⟨(l.reverse.takeWhile (· == c)).reverse, ?_⟩
  unfold Lib.trimRightB
  have := congrArg List.reverse (List.takeWhile_append_dropWhile (p := (· == c)) (l := l.reverse))
  rw [List.reverse_append, List.reverse_reverse] at this
  exact this.symm
theorem short_sub (l : List UInt8) (room : Int) : ∃ r, l = short l room ++ r := by
  unfold short
  split
  · exact ⟨[], by simp⟩
  · obtain ⟨r, hr⟩ := trim_sub (l.take room.toNat) 32
    refine ⟨r ++ l.drop room.toNat, ?_⟩
    rw [← List.append_assoc, ← hr, List.take_append_drop]
theorem short_len {l : List UInt8} {room : Int} (h : short l room ≠ []) : ((short l room).length : Int) ≤ room := by
  unfold short at h ⊢
  split
  · assumption
  · rename_i h1
    rw [if_neg h1] at h
    have h2 := len_trim (l.take room.toNat) 32
    rw [List.length_take] at h2
    have h3 : (Lib.trimRightB (l.take room.toNat) 32).length ≠ 0 := fun e => h (List.length_eq_zero_iff.1 e)
    omega
theorem aside_name {m : List UInt8} (n : Nat) (hm : nameB m = true) (h : short (stem m) (20 - (mark n).length - (ending m).length) ≠ []) :
    nameB (short (stem m) (20 - (mark n).length - (ending m).length) ++ mark n ++ ending m) = true := by
  have hl := short_len h
  obtain ⟨r, hr⟩ := short_sub (stem m) (20 - (mark n).length - (ending m).length)
  have hse := stem_ending m
  generalize short (stem m) (20 - (mark n).length - (ending m).length) = S at *
  have hall : m = S ++ (r ++ ending m) := by rw [← List.append_assoc, ← hr, hse]
  rw [name_iff] at hm ⊢
  obtain ⟨h1, h2, h3, h4, h5, h6, h7⟩ := hm
  have hmk : 4 ≤ (mark n).length ∨ True := Or.inr trivial
  refine ⟨fun c hc => ?_, ?_, ?_, ?_, ?_, ?_, ?_⟩
  · rcases List.mem_append.1 hc with hc | hc
    · rcases List.mem_append.1 hc with hc | hc
      · exact h1 c (by rw [hall]; exact List.mem_append_left _ hc)
      · exact mark_ok n c hc
    · exact h1 c (by rw [← hse]; exact List.mem_append_right _ hc)
  · simp [mark]; omega
  · simp only [List.length_append]; omega
  · cases S with
    | nil => exact absurd rfl h
    | cons a t =>
      rw [hall] at h4
      simpa using h4
  · cases he : ending m with
    | nil => simp [mark, List.getLast?_append, List.getLast?_cons]
    | cons a t =>
      rw [he] at hse
      rw [← hse] at h5
      rw [List.getLast?_append] at h5 ⊢
      cases hq : (a :: t).getLast? with
      | none => simp at hq
      | some x => rw [hq] at h5; simpa using h5
  · intro e
    have : (40 : UInt8) ∈ S ++ mark n ++ ending m := by simp [mark]
    rw [e] at this
    simp at this
  · intro e
    have : (40 : UInt8) ∈ S ++ mark n ++ ending m := by simp [mark]
    rw [e] at this
    simp at this
theorem asideT_chk {l : List UInt8} (n : Nat) (h : chk l = 0) (hS : asideS l n ≠ []) : chk (asideT l n) = if big (asideT l n) = true then 2 else 0 := by
  apply chk_big
  obtain ⟨h1, h2⟩ := names_parts (chk_names h)
  rw [asideT_eq]
  exact jn_names (aside_name n h1 hS) h2

end Go.Proofs.YtlllcifehellpaaGreatDoor.Pp
set_option linter.unusedSimpArgs false
set_option linter.unusedVariables false
namespace Go.Proofs.YtlllcifehellpaaGreatDoor.Pp

theorem chk_lenP {l : List UInt8} (h : chk l = 0) : l.length ≤ 80 := by
  have hb := chk_not_big h
  simp only [big, Bool.or_eq_false_iff, decide_eq_false_iff_not] at hb
  omega
theorem nil_no : nameB [] = false := by decide
theorem par_ne {l : List UInt8} (h : chk l = 0) (e : l = par l ++ 47 :: lst l) : par l ≠ [] := by
  intro e2
  have h1 := chk_names h
  rw [e, e2, nm_app] at h1
  simp [nm, nil_no] at h1
theorem jn_parts {l : List UInt8} (h : chk l = 0) : jn (par l) (lst l) = l := by
  rcases last_split4 l with ⟨_, e1, e2⟩ | ⟨e, _⟩
  · rw [e1, e2, jn, if_pos rfl]
  · rw [jn, if_neg (par_ne h e)]; exact e.symm
theorem chk_par {l : List UInt8} (h : chk l = 0) : jnP (par l) = 0 := by
  rcases last_split4 l with ⟨_, e1, _⟩ | ⟨e, h47⟩
  · rw [e1, jnP, if_pos rfl]
  · rw [jnP, if_neg (par_ne h e)]
    have h2 : (nm (par l)).all nameB = true := by
      rcases (names_parts (chk_names h)).2 with h2 | h2
      · exact absurd h2 (par_ne h e)
      · exact h2
    rw [chk_big h2, if_neg]
    have hb := chk_not_big h
    intro hbp
    simp only [big, Bool.or_eq_true, decide_eq_true_eq, Bool.or_eq_false_iff, decide_eq_false_iff_not] at hb hbp
    have e3 : (nm l).length = (nm (par l)).length + 1 := by
      conv => lhs; rw [e, nm_app, nm_none _ h47]
      simp
    have := len_par l
    omega
theorem jnE_parts {l : List UInt8} (h : chk l = 0) : jnE (par l) (lst l) = 0 := by
  rw [jnE, if_pos (chk_par h), if_pos (names_parts (chk_names h)).1, jn_parts h]; exact h

theorem mv_ok {p f t : List UInt8} (h : mvE p f t = 0) : chk p = 0 ∧ chk f = 0 ∧ chk t = 0 ∧ isInB p f = true ∧ chk (mvT p f t) = 0 := by
  unfold mvE at h
  split at h
  · rename_i hz
    split at h
    · rename_i hi
      obtain ⟨h1, hz⟩ := chks_zero hz
      obtain ⟨h2, hz⟩ := chks_zero hz
      obtain ⟨h3, _⟩ := chks_zero hz
      exact ⟨h1, h2, h3, hi, h⟩
    · simp at h
  · rename_i hz; exact absurd h hz
theorem mv_in {p f : List UInt8} (t : List UInt8) (hi : isInB p f = true) : isInB (mvT p f t) t = true := by
  rw [isIn_of]
  rcases (isIn_of p f).1 hi with e | ⟨r, e⟩
  · left; rw [e]; simp [mvT]
  · right; exact ⟨r, by rw [e]; simp [mvT]⟩
theorem mv_again {p f : List UInt8} (t : List UInt8) (hi : isInB p f = true) : mvT (mvT p f t) t f = p := by
  rcases (isIn_of p f).1 hi with e | ⟨r, e⟩
  · rw [e]; simp [mvT]
  · rw [e]; simp [mvT]
theorem chks_three {a b c : List UInt8} (h1 : chk a = 0) (h2 : chk b = 0) (h3 : chk c = 0) : chks [a, b, c] = 0 := by simp [chks, h1, h2, h3]
theorem chks_two {a b : List UInt8} (h1 : chk a = 0) (h2 : chk b = 0) : chks [a, b] = 0 := by simp [chks, h1, h2]
theorem mvE_back {p f t : List UInt8} (h : mvE p f t = 0) : mvE (mvT p f t) t f = 0 := by
  obtain ⟨h1, h2, h3, hi, h5⟩ := mv_ok h
  rw [mvE, if_pos (chks_three h5 h3 h2), if_pos (mv_in t hi), mv_again t hi]
  exact h1

theorem aside_ok {l : List UInt8} {n : Int} (h : asideE l n = 0) : chk l = 0 ∧ 1 ≤ n ∧ n ≤ 99 ∧ asideS l n.toNat ≠ [] ∧ chk (asideT l n.toNat) = 0 := by
  unfold asideE at h
  split at h
  · rename_i hz
    split at h
    · simp at h
    · rename_i hn
      split at h
      · simp at h
      · rename_i hs
        exact ⟨hz, by omega, by omega, hs, h⟩
  · rename_i hz; exact absurd h hz
theorem aside_par {l : List UInt8} {n : Int} (h : asideE l n = 0) : par (asideT l n.toNat) = par l := by
  obtain ⟨hz, _, _, hs, _⟩ := aside_ok h
  have h47 := no_slash (aside_name n.toNat (names_parts (chk_names hz)).1 hs)
  rw [asideT_eq]
  unfold jn
  split
  · rename_i e; rw [e]; exact par_none h47
  · exact par_cut _ h47

theorem dec_no40 (n : Nat) : (40 : UInt8) ∉ Lib.decDigits n := by
  have : ∀ (m u : Nat), u < m → (40 : UInt8) ∉ Lib.decDigits u := by
    intro m
    induction m with
    | zero => intro u h; exact absurd h (Nat.not_lt_zero _)
    | succ m ih =>
      intro u h hm
      have hd : ∀ k, (40 : UInt8) ≠ UInt8.ofNat (48 + k % 10) := by
        intro k e
        have := congrArg UInt8.toNat e
        rw [UInt8.toNat_ofNat'] at this
        have h40 : (40 : UInt8).toNat = 40 := rfl
        omega
      rw [Lib.decDigits] at hm
      split at hm
      · rename_i h1
        rw [List.mem_singleton, show 48 + u = 48 + u % 10 by omega] at hm
        exact hd u hm
      · rcases List.mem_append.1 hm with hm | hm
        · exact ih (u / 10) (by omega) hm
        · rw [List.mem_singleton] at hm; exact hd u hm
  exact this (n + 1) n (Nat.lt_succ_self n)
theorem dec_inj {a b : Nat} (ha : a < 100) (hb : b < 100) (h : Lib.decDigits a = Lib.decDigits b) : a = b := by
  have : ∀ x y : Fin 100, Lib.decDigits x.1 = Lib.decDigits y.1 → x.1 = y.1 := by decide +kernel
  exact this ⟨a, ha⟩ ⟨b, hb⟩ h
theorem split_last {a b c d : List UInt8} (x : UInt8) (hb : x ∉ b) (hd : x ∉ d) (h : a ++ x :: b = c ++ x :: d) : b = d := by
  have h2 := congrArg List.reverse h
  simp only [List.reverse_append, List.reverse_cons, List.append_assoc, List.singleton_append] at h2
  have hb' : x ∉ b.reverse := by simpa using hb
  have hd' : x ∉ d.reverse := by simpa using hd
  have e1 := idx_of b.reverse a.reverse x hb'
  have e2 := idx_of d.reverse c.reverse x hd'
  rw [h2, e2] at e1
  have hl : d.reverse.length = b.reverse.length := by omega
  have := List.append_inj_left h2 hl.symm
  exact List.reverse_inj.1 this
theorem aside_apart {l : List UInt8} {n m : Int} (hn : asideE l n = 0) (hm : asideE l m = 0) (h : asideT l n.toNat = asideT l m.toNat) : n = m := by
  obtain ⟨hz, n1, n2, hs, _⟩ := aside_ok hn
  obtain ⟨_, m1, m2, hs2, _⟩ := aside_ok hm
  have e : asideS l n.toNat ++ mark n.toNat ++ ending (lst l) = asideS l m.toNat ++ mark m.toNat ++ ending (lst l) := by
    rw [asideT_eq, asideT_eq] at h
    unfold jn at h
    split at h
    · exact h
    · have := List.append_cancel_left h
      exact (List.cons.inj this).2
  have e2 := List.append_cancel_right e
  unfold mark at e2
  rw [show asideS l n.toNat ++ 32 :: 40 :: (Lib.decDigits n.toNat ++ [41]) = (asideS l n.toNat ++ [32]) ++ 40 :: (Lib.decDigits n.toNat ++ [41]) by simp, show asideS l m.toNat ++ 32 :: 40 :: (Lib.decDigits m.toNat ++ [41]) = (asideS l m.toNat ++ [32]) ++ 40 :: (Lib.decDigits m.toNat ++ [41]) by simp] at e2
  have h40 : ∀ k : Nat, (40 : UInt8) ∉ Lib.decDigits k ++ [41] := by
    intro k hk
    rcases List.mem_append.1 hk with hk | hk
    · exact dec_no40 k hk
    · rw [List.mem_singleton] at hk; revert hk; decide
  have e3 := split_last 40 (h40 _) (h40 _) e2
  have e4 := dec_inj (by omega) (by omega) (List.append_cancel_right e3)
  omega

end Go.Proofs.YtlllcifehellpaaGreatDoor.Pp
