/- What tree.checkVersion, checkEntry answer, for every entry. -/
import Derived.Test.YtogbahkoijkclaaGreatTPure
import Derived.Test.YtogbahkoijkclaaGreatV0
set_option linter.unusedSimpArgs false
set_option linter.unusedVariables false
namespace Go.Proofs.YtogbahkoijkclaaGreat
open Go.RowKit

set_option maxHeartbeats 400000 in
theorem checkVersion_any (n : Int) (w : World) :
    Calls Tryz.prog 25 #[.int .i64 n] w fun e w' => e = .returned (.int .i64 (Pp.verE n)) ∧ w' = w := by
  by_cases h1 : n < 1
  · have H : Hid (3 = Pp.verE n) := (by rw [Pp.verE, if_pos (Or.inl h1)] : 3 = Pp.verE n)
    go_enter Tryz.func25, Tryz.ntmps25
    go_wp2
    go_ret
    exact ⟨Pp.ret_int H.out, rfl⟩
  by_cases h2 : 1000000 < n
  · have H : Hid (3 = Pp.verE n) := (by rw [Pp.verE, if_pos (Or.inr h2)] : 3 = Pp.verE n)
    go_enter Tryz.func25, Tryz.ntmps25
    go_wp2
    go_ret
    exact ⟨Pp.ret_int H.out, rfl⟩
  · have H : Hid (0 = Pp.verE n) := (by rw [Pp.verE, if_neg (by omega)] : 0 = Pp.verE n)
    go_enter Tryz.func25, Tryz.ntmps25
    go_wp2
    go_ret
    exact ⟨Pp.ret_int H.out, rfl⟩

def ag (e : En) : Value := .agg #[.string e.path, .bool e.folder, .string e.text, .int .i64 e.ver]

set_option maxHeartbeats 800000 in
theorem checkEntry_any (p : ByteArray) (f : Bool) (t : ByteArray) (n : Int) (w : World) (hp : p.size ≤ 1000000000000000) (ht : t.size ≤ 1000000000000000) :
    Calls Tryz.prog 15 #[.agg #[.string p, .bool f, .string t, .int .i64 n]] w fun e w' => e = .returned (.int .i64 (Pp.entE ⟨p, f, t, n⟩)) ∧ Below w.heap.size w w' := by
  by_cases hz : Pp.chk p.data.toList = 0
  · have HZ : Hid (Pp.chk p.data.toList = 0) := hz
    have hE : Pp.entE ⟨p, f, t, n⟩ = if f = true ∧ ¬ t.data.toList = [] then 1 else if 300 < t.size then 2 else Pp.verE n := by rw [Pp.entE, if_pos hz]
    clear hz
    cases f with
    | true =>
      cases hc : t.toList.isEmpty with
      | false =>
        have HE : Hid (1 = Pp.entE ⟨p, true, t, n⟩) := (by rw [hE, if_pos ⟨rfl, Pp.not_empty hc⟩] : 1 = Pp.entE ⟨p, true, t, n⟩)
        clear hE
        go_enter Tryz.func15, Tryz.ntmps15
        go_wp2_with fail
        refine (check_any p _ hp).mono ?_
        rintro e w1 ⟨rfl, hb1⟩
        obtain ⟨c0, c1, c2, c3, hb, hlt⟩ := box4 hb1
        clear hb1
        rw [HZ.out]
        go_wp2_with fail
        go_ret
        exact ⟨Pp.ret_int HE.out, hb⟩
      | true =>
        have ht0 : t.size = 0 := by rw [Lib.size_eq, (Pp.empty_iff t).1 hc]; rfl
        have HE : Hid (Pp.entE ⟨p, true, t, n⟩ = Pp.verE n) := (by rw [hE, if_neg (fun h => h.2 ((Pp.empty_iff t).1 hc)), if_neg (by omega)] : Pp.entE ⟨p, true, t, n⟩ = Pp.verE n)
        clear hE
        have ht1 : (t.size : Int) ≤ 300 := by omega
        clear ht0
        go_enter Tryz.func15, Tryz.ntmps15
        go_wp2_with fail
        refine (check_any p _ hp).mono ?_
        rintro e w1 ⟨rfl, hb1⟩
        obtain ⟨c0, c1, c2, c3, hb, hlt⟩ := box4 hb1
        clear hb1
        rw [HZ.out]
        go_wp2_with fail
        refine (checkVersion_any n _).mono ?_
        rintro e w2 ⟨rfl, rfl⟩
        go_wp2_with fail
        go_ret
        exact ⟨Pp.ret_int HE.out.symm, hb⟩
    | false =>
      by_cases hl : 300 < (t.size : Int)
      · have HE : Hid (2 = Pp.entE ⟨p, false, t, n⟩) := (by rw [hE, if_neg (fun h => by cases h.1), if_pos (by omega)] : 2 = Pp.entE ⟨p, false, t, n⟩)
        clear hE
        go_enter Tryz.func15, Tryz.ntmps15
        go_wp2_with fail
        refine (check_any p _ hp).mono ?_
        rintro e w1 ⟨rfl, hb1⟩
        obtain ⟨c0, c1, c2, c3, hb, hlt⟩ := box4 hb1
        clear hb1
        rw [HZ.out]
        go_wp2_with fail
        go_ret
        exact ⟨Pp.ret_int HE.out, hb⟩
      · have HE : Hid (Pp.entE ⟨p, false, t, n⟩ = Pp.verE n) := (by rw [hE, if_neg (fun h => by cases h.1), if_neg (by omega)] : Pp.entE ⟨p, false, t, n⟩ = Pp.verE n)
        clear hE
        go_enter Tryz.func15, Tryz.ntmps15
        go_wp2_with fail
        refine (check_any p _ hp).mono ?_
        rintro e w1 ⟨rfl, hb1⟩
        obtain ⟨c0, c1, c2, c3, hb, hlt⟩ := box4 hb1
        clear hb1
        rw [HZ.out]
        go_wp2_with fail
        refine (checkVersion_any n _).mono ?_
        rintro e w2 ⟨rfl, rfl⟩
        go_wp2_with fail
        go_ret
        exact ⟨Pp.ret_int HE.out.symm, hb⟩
  · have HE : Hid (Pp.chk p.data.toList = Pp.entE ⟨p, f, t, n⟩) := (by rw [Pp.entE, if_neg hz] : Pp.chk p.data.toList = Pp.entE ⟨p, f, t, n⟩)
    have hz2 : (Pp.chk p.data.toList == 0) = false := by simpa using hz
    go_enter Tryz.func15, Tryz.ntmps15
    go_wp2_with fail
    refine (check_any p _ hp).mono ?_
    rintro e w1 ⟨rfl, hb1⟩
    obtain ⟨c0, c1, c2, c3, hb, hlt⟩ := box4 hb1
    clear hb1
    go_wp2_with fail
    go_ret
    exact ⟨Pp.ret_int HE.out, hb⟩
end Go.Proofs.YtogbahkoijkclaaGreat
