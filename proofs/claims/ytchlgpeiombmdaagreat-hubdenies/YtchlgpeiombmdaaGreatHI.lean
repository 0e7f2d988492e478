/- What tree.checkTo and checkPlace answer, for every change that is right by itself. What tree.isStale answers, for every change. -/
import Derived.Test.YtchlgpeiombmdaaGreatHH
import Derived.Test.YtchlgpeiombmdaaGreatHG
set_option linter.unusedSimpArgs false
set_option linter.unusedVariables false
namespace Go.Proofs.YtchlgpeiombmdaaGreat
open Go.RowKit

namespace Pp
def toE (L : List En) (p q : List UInt8) : Int := if isInB q p = true then 3 else if (L.find? (atB q)).isSome = true then 6 else 0
end Pp

set_option maxHeartbeats 1000000 in
theorem checkTo_any (L : List En) (v : Value) (k : Int) (p q t : ByteArray) (b : Int) (w : World) (hv : Lies w v L) (hs : ∀ e ∈ L, e.path.size ≤ 1000000000000000) (hp : p.size ≤ 1000000000000000) (hq : q.size ≤ 1000000000000000) (hc : Pp.chk p.data.toList = 0) (hd : Pp.chk q.data.toList = 0) :
    Calls Tryz.prog 177 #[v, .agg #[.int .i64 k, .string p, .string q, .string t, .int .i64 b]] w fun e w' => e = .returned (.int .i64 (Pp.toE L p.data.toList q.data.toList)) ∧ Below w.heap.size w w' := by
 have HV : Hid (Lies w v L) := hv
 have HS : Hid (∀ e ∈ L, e.path.size ≤ 1000000000000000) := hs
 have hck : (Pp.chks [q.data.toList, p.data.toList] == 0) = true := by simp [Pp.chks, hc, hd]
 clear hv hs hc hd
 cases hi : Pp.isInB q.data.toList p.data.toList with
 | true =>
  have HI := hid (show (Pp.chks [q.data.toList, p.data.toList] == 0 && Pp.isInB q.data.toList p.data.toList) = true from by rw [hck, hi]; rfl)
  have HE := hid (show 3 = Pp.toE L p.data.toList q.data.toList from by rw [Pp.toE, if_pos hi])
  clear hi hck
  go_enter Tryz.func177, Tryz.ntmps177
  go_wp2_with fail
  refine (within_any q p _ hq hp).mono ?_
  rintro e w1 ⟨rfl, hb1⟩
  rw [HI.out]
  obtain ⟨c0, c1, c2, c3, c4, hbw, hlt⟩ := bx5 hb1
  clear hb1
  go_wp2_with fail
  go_ret
  exact ⟨Pp.ret_int HE.out, hbw⟩
 | false =>
  have HI := hid (show (Pp.chks [q.data.toList, p.data.toList] == 0 && Pp.isInB q.data.toList p.data.toList) = false from by rw [hck, hi]; rfl)
  have hE : Pp.toE L p.data.toList q.data.toList = if (L.find? (Pp.atB q.data.toList)).isSome = true then 6 else 0 := by rw [Pp.toE, if_neg (by rw [hi]; decide)]
  clear hi hck
  have hcs : (L.find? (Pp.atB q.data.toList) = none ∧ Hid (0 = Pp.toE L p.data.toList q.data.toList)) ∨ ∃ x, L.find? (Pp.atB q.data.toList) = some x ∧ Hid (6 = Pp.toE L p.data.toList q.data.toList) := by
   cases hf : L.find? (Pp.atB q.data.toList) with
   | none => exact Or.inl ⟨rfl, (by rw [hE, hf]; rfl : 0 = Pp.toE L p.data.toList q.data.toList)⟩
   | some x => exact Or.inr ⟨x, rfl, (by rw [hE, hf]; rfl : 6 = Pp.toE L p.data.toList q.data.toList)⟩
  clear hE
  rcases hcs with ⟨hf, HE⟩ | ⟨x, hf, HE⟩
  all_goals
   have HF := hid hf
   clear hf
   go_enter Tryz.func177, Tryz.ntmps177
   go_wp2_with fail
   refine (within_any q p _ hq hp).mono ?_
   rintro e w1 ⟨rfl, hb1⟩
   rw [HI.out]
   obtain ⟨c0, c1, c2, c3, c4, hbw, hlt⟩ := bx5 hb1
   go_wp2_with fail
   refine (at_any q _).mono ?_
   rintro e w2 ⟨rfl, hta, hb2⟩
   have HT : Hid (Tells w2 60 #[.pointer (some ⟨w1.heap.size, 0, none⟩)] (Pp.atB q.data.toList)) := hta
   have hb02 := hb1.trans (hb2.mono hb1.size)
   clear hta c0 c1 c2 c3 c4 hbw hlt hb1 hb2
   obtain ⟨c0, c1, c2, c3, c4, hbw, hlt⟩ := bx5 hb02
   go_wp2_with fail
   refine (first_any L v _ _ _ _ (HV.out.below hbw) HT.out HS.out).mono ?_
   rintro e w4 ⟨rfl, hb4⟩
   rw [HF.out, fnd]
   have hb04 := hb02.trans (hb4.mono hb02.size)
   clear c0 c1 c2 c3 c4 hbw hlt hb02 hb4
   obtain ⟨c0, c1, c2, c3, c4, hbw, hlt⟩ := bx5 hb04
   clear hb04
   go_wp2_with fail
   go_ret
   exact ⟨Pp.ret_int HE.out, hbw.alloc (Nat.le_of_lt hlt) _⟩
namespace Pp
theorem pl_fold {L : List En} {c : Ch} (h : ¬ foldE L (par (goal c)) = 0) : foldE L (par (goal c)) = plcE L c := by rw [plcE, if_pos h]
theorem pl_none {L : List En} {c : Ch} (h : foldE L (par (goal c)) = 0) (hf : L.find? (atB c.p.data.toList) = none) : plcE L c = if c.k = 3 ∨ c.k = 4 then 5 else 0 := by rw [plcE, if_neg (fun x => x h), hf]
theorem pl_some {L : List En} {c : Ch} (h : foldE L (par (goal c)) = 0) {x : En} (hf : L.find? (atB c.p.data.toList) = some x) : plcE L c = if c.k = 1 then 6 else if c.k = 2 then (if x.folder = true then 4 else 0) else if c.k = 3 then toE L c.p.data.toList c.q.data.toList else 0 := by
 rw [plcE, if_neg (fun x => x h), hf]; rfl
end Pp

set_option maxHeartbeats 2000000 in
theorem checkPlace_any (L : List En) (v : Value) (k : Int) (p q t : ByteArray) (b : Int) (w : World) (hv : Lies w v L) (hs : ∀ e ∈ L, e.path.size ≤ 1000000000000000) (hp : p.size ≤ 1000000000000000) (hq : q.size ≤ 1000000000000000) (hg : Pp.chgE ⟨k, p, q, t, b⟩ = 0) :
    Calls Tryz.prog 168 #[v, .agg #[.int .i64 k, .string p, .string q, .string t, .int .i64 b]] w fun e w' => e = .returned (.int .i64 (Pp.plcE L ⟨k, p, q, t, b⟩)) ∧ Below w.heap.size w w' := by
 have hkk := Pp.chg_kind hg
 have HC : Hid (Pp.chk p.data.toList = 0) := Pp.chg_path hg
 have HV : Hid (Lies w v L) := hv
 have HS : Hid (∀ e ∈ L, e.path.size ≤ 1000000000000000) := hs
 have h4 : (k = 1 ∨ k = 2 ∨ k = 4) ∨ k = 3 := by simp only at hkk; omega
 clear hv hs hkk
 rcases h4 with h4 | rfl
 · have hgo : Pp.goal ⟨k, p, q, t, b⟩ = p.data.toList := by rw [Pp.goal, if_neg (by simp only; omega)]
   clear hg
   by_cases hf0 : Pp.foldE L (Pp.par p.data.toList) = 0
   · have HP : Hid (Pp.foldE L (Pp.par p.data.toList) = 0) := hf0
     rw [← hgo] at hf0
     have hcs : (L.find? (Pp.atB p.data.toList) = none) ∨ ∃ x, L.find? (Pp.atB p.data.toList) = some x := by
      cases L.find? (Pp.atB p.data.toList) with
      | none => exact Or.inl rfl
      | some x => exact Or.inr ⟨x, rfl⟩
     rcases hcs with hf | ⟨x, hf⟩
     · have hE := Pp.pl_none (c := ⟨k, p, q, t, b⟩) hf0 hf
       have HF := hid hf
       clear hf hf0 hgo
       rcases h4 with rfl | rfl | rfl
       all_goals
        simp only [Int.reduceEq, or_self, or_true, or_false, if_true, if_false] at hE
        have HE := hid hE
        clear hE
        go_enter Tryz.func168, Tryz.ntmps168
        go_wp2_with fail
        refine (parent_any p _ hp).mono ?_
        rintro e w1 ⟨rfl, hb1⟩
        rw [HC.out, Pp.ifc_yes rfl]
        obtain ⟨c0, c1, c2, c3, c4, hbw, hlt⟩ := bx5 hb1
        go_wp2_with fail
        refine (checkFolder_any L v ⟨(Pp.par p.data.toList).toArray⟩ _ (HV.out.below hbw) HS.out).mono ?_
        rintro e w2 ⟨rfl, hb2⟩
        rw [show Pp.foldE L _ = 0 from HP.out]
        have hb02 := hb1.trans (hb2.mono hb1.size)
        clear c0 c1 c2 c3 c4 hbw hlt hb1 hb2
        obtain ⟨c0, c1, c2, c3, c4, hbw, hlt⟩ := bx5 hb02
        go_wp2_with fail
        refine (at_any p _).mono ?_
        rintro e w3 ⟨rfl, hta, hb3⟩
        have HT : Hid (Tells w3 60 #[.pointer (some ⟨w2.heap.size, 0, none⟩)] (Pp.atB p.data.toList)) := hta
        have hb03 := hb02.trans (hb3.mono hb02.size)
        clear hta c0 c1 c2 c3 c4 hbw hlt hb02 hb3
        obtain ⟨c0, c1, c2, c3, c4, hbw, hlt⟩ := bx5 hb03
        go_wp2_with fail
        refine (first_any L v _ _ _ _ (HV.out.below hbw) HT.out HS.out).mono ?_
        rintro e w4 ⟨rfl, hb4⟩
        rw [HF.out, fnd]
        have hb04 := hb03.trans (hb4.mono hb03.size)
        clear c0 c1 c2 c3 c4 hbw hlt hb03 hb4
        obtain ⟨c0, c1, c2, c3, c4, hbw, hlt⟩ := bx5 hb04
        clear hb04
        go_wp2_with fail
        go_ret
        exact ⟨Pp.ret_int HE.out.symm, hbw.alloc (Nat.le_of_lt hlt) _⟩
     · have hE := Pp.pl_some (c := ⟨k, p, q, t, b⟩) hf0 hf
       have HF := hid hf
       clear hf hf0 hgo
       rcases h4 with rfl | rfl | rfl
       all_goals
        cases hx : x.folder
       all_goals
        simp only [Int.reduceEq, hx, or_self, or_true, or_false, if_true, if_false, Bool.false_eq_true] at hE
        have HE := hid hE
        clear hE
        go_enter Tryz.func168, Tryz.ntmps168
        go_wp2_with fail
        refine (parent_any p _ hp).mono ?_
        rintro e w1 ⟨rfl, hb1⟩
        rw [HC.out, Pp.ifc_yes rfl]
        obtain ⟨c0, c1, c2, c3, c4, hbw, hlt⟩ := bx5 hb1
        go_wp2_with fail
        refine (checkFolder_any L v ⟨(Pp.par p.data.toList).toArray⟩ _ (HV.out.below hbw) HS.out).mono ?_
        rintro e w2 ⟨rfl, hb2⟩
        rw [show Pp.foldE L _ = 0 from HP.out]
        have hb02 := hb1.trans (hb2.mono hb1.size)
        clear c0 c1 c2 c3 c4 hbw hlt hb1 hb2
        obtain ⟨c0, c1, c2, c3, c4, hbw, hlt⟩ := bx5 hb02
        go_wp2_with fail
        refine (at_any p _).mono ?_
        rintro e w3 ⟨rfl, hta, hb3⟩
        have HT : Hid (Tells w3 60 #[.pointer (some ⟨w2.heap.size, 0, none⟩)] (Pp.atB p.data.toList)) := hta
        have hb03 := hb02.trans (hb3.mono hb02.size)
        clear hta c0 c1 c2 c3 c4 hbw hlt hb02 hb3
        obtain ⟨c0, c1, c2, c3, c4, hbw, hlt⟩ := bx5 hb03
        go_wp2_with fail
        refine (first_any L v _ _ _ _ (HV.out.below hbw) HT.out HS.out).mono ?_
        rintro e w4 ⟨rfl, hb4⟩
        rw [HF.out, fnd, hx]
        have hb04 := hb03.trans (hb4.mono hb03.size)
        clear c0 c1 c2 c3 c4 hbw hlt hb03 hb4
        obtain ⟨c0, c1, c2, c3, c4, hbw, hlt⟩ := bx5 hb04
        clear hb04
        go_wp2_with fail
        go_ret
        exact ⟨Pp.ret_int HE.out.symm, hbw.alloc (Nat.le_of_lt hlt) _⟩
   · have hz2 : (Pp.foldE L (Pp.par p.data.toList) == 0) = false := by simpa using hf0
     have HE := hid (show Pp.foldE L (Pp.par p.data.toList) = Pp.plcE L ⟨k, p, q, t, b⟩ from by rw [← Pp.pl_fold (by rw [hgo]; exact hf0), hgo])
     clear hf0 hgo
     rcases h4 with rfl | rfl | rfl
     all_goals
      go_enter Tryz.func168, Tryz.ntmps168
      go_wp2_with fail
      refine (parent_any p _ hp).mono ?_
      rintro e w1 ⟨rfl, hb1⟩
      rw [HC.out, Pp.ifc_yes rfl]
      obtain ⟨c0, c1, c2, c3, c4, hbw, hlt⟩ := bx5 hb1
      go_wp2_with fail
      refine (checkFolder_any L v ⟨(Pp.par p.data.toList).toArray⟩ _ (HV.out.below hbw) HS.out).mono ?_
      rintro e w2 ⟨rfl, hb2⟩
      have hb02 := hb1.trans (hb2.mono hb1.size)
      clear c0 c1 c2 c3 c4 hbw hlt hb1 hb2
      obtain ⟨c0, c1, c2, c3, c4, hbw, hlt⟩ := bx5 hb02
      clear hb02
      have hz3 : (Pp.foldE L (⟨(Pp.par p.data.toList).toArray⟩ : ByteArray).data.toList == 0) = false := hz2
      generalize hG : Pp.foldE L (⟨(Pp.par p.data.toList).toArray⟩ : ByteArray).data.toList = G at *
      have hz4 : (G == 0) = false := hz3
      go_wp2_with fail
      go_ret
      exact ⟨Pp.ret_int HE.out, hbw⟩
 · have hgo : Pp.goal ⟨3, p, q, t, b⟩ = q.data.toList := rfl
   have HQ : Hid (Pp.chk q.data.toList = 0) := Pp.chg_to hg rfl
   clear hg
   by_cases hf0 : Pp.foldE L (Pp.par q.data.toList) = 0
   · have HP : Hid (Pp.foldE L (Pp.par q.data.toList) = 0) := hf0
     rw [← hgo] at hf0
     have hcs : (L.find? (Pp.atB p.data.toList) = none) ∨ ∃ x, L.find? (Pp.atB p.data.toList) = some x := by
      cases L.find? (Pp.atB p.data.toList) with
      | none => exact Or.inl rfl
      | some x => exact Or.inr ⟨x, rfl⟩
     rcases hcs with hf | ⟨x, hf⟩
     · have hE := Pp.pl_none (c := ⟨3, p, q, t, b⟩) hf0 hf
       have HF := hid hf
       clear hf hf0 hgo
       simp only [Int.reduceEq, or_self, or_true, or_false, if_true, if_false] at hE
       have HE := hid hE
       clear hE
       go_enter Tryz.func168, Tryz.ntmps168
       go_wp2_with fail
       refine (parent_any p _ hp).mono ?_
       rintro e w0 ⟨rfl, hb0⟩
       rw [HC.out, Pp.ifc_yes rfl]
       obtain ⟨c0, c1, c2, c3, c4, hbw, hlt⟩ := bx5 hb0
       go_wp2_with fail
       refine (parent_any q _ hq).mono ?_
       rintro e w1 ⟨rfl, hb1⟩
       rw [HQ.out, Pp.ifc_yes rfl]
       have hb01 := hb0.trans (hb1.mono hb0.size)
       clear c0 c1 c2 c3 c4 hbw hlt hb0 hb1
       obtain ⟨c0, c1, c2, c3, c4, hbw, hlt⟩ := bx5 hb01
       go_wp2_with fail
       refine (checkFolder_any L v ⟨(Pp.par q.data.toList).toArray⟩ _ (HV.out.below hbw) HS.out).mono ?_
       rintro e w2 ⟨rfl, hb2⟩
       rw [show Pp.foldE L _ = 0 from HP.out]
       have hb02 := hb01.trans (hb2.mono hb01.size)
       clear c0 c1 c2 c3 c4 hbw hlt hb01 hb2
       obtain ⟨c0, c1, c2, c3, c4, hbw, hlt⟩ := bx5 hb02
       go_wp2_with fail
       refine (at_any p _).mono ?_
       rintro e w3 ⟨rfl, hta, hb3⟩
       have HT : Hid (Tells w3 60 #[.pointer (some ⟨w2.heap.size, 0, none⟩)] (Pp.atB p.data.toList)) := hta
       have hb03 := hb02.trans (hb3.mono hb02.size)
       clear hta c0 c1 c2 c3 c4 hbw hlt hb02 hb3
       obtain ⟨c0, c1, c2, c3, c4, hbw, hlt⟩ := bx5 hb03
       go_wp2_with fail
       refine (first_any L v _ _ _ _ (HV.out.below hbw) HT.out HS.out).mono ?_
       rintro e w4 ⟨rfl, hb4⟩
       rw [HF.out, fnd]
       have hb04 := hb03.trans (hb4.mono hb03.size)
       clear c0 c1 c2 c3 c4 hbw hlt hb03 hb4
       obtain ⟨c0, c1, c2, c3, c4, hbw, hlt⟩ := bx5 hb04
       clear hb04
       go_wp2_with fail
       go_ret
       exact ⟨Pp.ret_int HE.out.symm, hbw.alloc (Nat.le_of_lt hlt) _⟩
     · have hE := Pp.pl_some (c := ⟨3, p, q, t, b⟩) hf0 hf
       have HF := hid hf
       clear hf hf0 hgo
       simp only [Int.reduceEq, or_self, or_true, or_false, if_true, if_false] at hE
       have HE := hid hE
       clear hE
       go_enter Tryz.func168, Tryz.ntmps168
       go_wp2_with fail
       refine (parent_any p _ hp).mono ?_
       rintro e w0 ⟨rfl, hb0⟩
       rw [HC.out, Pp.ifc_yes rfl]
       obtain ⟨c0, c1, c2, c3, c4, hbw, hlt⟩ := bx5 hb0
       go_wp2_with fail
       refine (parent_any q _ hq).mono ?_
       rintro e w1 ⟨rfl, hb1⟩
       rw [HQ.out, Pp.ifc_yes rfl]
       have hb01 := hb0.trans (hb1.mono hb0.size)
       clear c0 c1 c2 c3 c4 hbw hlt hb0 hb1
       obtain ⟨c0, c1, c2, c3, c4, hbw, hlt⟩ := bx5 hb01
       go_wp2_with fail
       refine (checkFolder_any L v ⟨(Pp.par q.data.toList).toArray⟩ _ (HV.out.below hbw) HS.out).mono ?_
       rintro e w2 ⟨rfl, hb2⟩
       rw [show Pp.foldE L _ = 0 from HP.out]
       have hb02 := hb01.trans (hb2.mono hb01.size)
       clear c0 c1 c2 c3 c4 hbw hlt hb01 hb2
       obtain ⟨c0, c1, c2, c3, c4, hbw, hlt⟩ := bx5 hb02
       go_wp2_with fail
       refine (at_any p _).mono ?_
       rintro e w3 ⟨rfl, hta, hb3⟩
       have HT : Hid (Tells w3 60 #[.pointer (some ⟨w2.heap.size, 0, none⟩)] (Pp.atB p.data.toList)) := hta
       have hb03 := hb02.trans (hb3.mono hb02.size)
       clear hta c0 c1 c2 c3 c4 hbw hlt hb02 hb3
       obtain ⟨c0, c1, c2, c3, c4, hbw, hlt⟩ := bx5 hb03
       go_wp2_with fail
       refine (first_any L v _ _ _ _ (HV.out.below hbw) HT.out HS.out).mono ?_
       rintro e w4 ⟨rfl, hb4⟩
       rw [HF.out, fnd]
       have hb04 := hb03.trans (hb4.mono hb03.size)
       clear c0 c1 c2 c3 c4 hbw hlt hb03 hb4
       obtain ⟨c0, c1, c2, c3, c4, hbw, hlt⟩ := bx5 hb04
       go_wp2_with fail
       refine (checkTo_any L v 3 p q t b _ (HV.out.below (hbw.alloc (Nat.le_of_lt hlt) _)) HS.out hp hq HC.out HQ.out).mono ?_
       rintro e w5 ⟨rfl, hb5⟩
       have hb05 : Below w.heap.size w w5 := (hbw.alloc (Nat.le_of_lt hlt) _).trans (hb5.mono (by simp; omega))
       clear c0 c1 c2 c3 c4 hbw hlt hb04 hb5
       go_wp2_with fail
       go_ret
       exact ⟨Pp.ret_int HE.out.symm, hb05⟩
   · have hz2 : (Pp.foldE L (Pp.par q.data.toList) == 0) = false := by simpa using hf0
     have HE := hid (show Pp.foldE L (Pp.par q.data.toList) = Pp.plcE L ⟨3, p, q, t, b⟩ from by rw [← Pp.pl_fold (by rw [hgo]; exact hf0), hgo])
     clear hf0 hgo
     go_enter Tryz.func168, Tryz.ntmps168
     go_wp2_with fail
     refine (parent_any p _ hp).mono ?_
     rintro e w0 ⟨rfl, hb0⟩
     rw [HC.out, Pp.ifc_yes rfl]
     obtain ⟨c0, c1, c2, c3, c4, hbw, hlt⟩ := bx5 hb0
     go_wp2_with fail
     refine (parent_any q _ hq).mono ?_
     rintro e w1 ⟨rfl, hb1⟩
     rw [HQ.out, Pp.ifc_yes rfl]
     have hb01 := hb0.trans (hb1.mono hb0.size)
     clear c0 c1 c2 c3 c4 hbw hlt hb0 hb1
     obtain ⟨c0, c1, c2, c3, c4, hbw, hlt⟩ := bx5 hb01
     go_wp2_with fail
     refine (checkFolder_any L v ⟨(Pp.par q.data.toList).toArray⟩ _ (HV.out.below hbw) HS.out).mono ?_
     rintro e w2 ⟨rfl, hb2⟩
     have hb02 := hb01.trans (hb2.mono hb01.size)
     clear c0 c1 c2 c3 c4 hbw hlt hb01 hb2
     obtain ⟨c0, c1, c2, c3, c4, hbw, hlt⟩ := bx5 hb02
     clear hb02
     have hz3 : (Pp.foldE L (⟨(Pp.par q.data.toList).toArray⟩ : ByteArray).data.toList == 0) = false := hz2
     generalize hG : Pp.foldE L (⟨(Pp.par q.data.toList).toArray⟩ : ByteArray).data.toList = G at *
     go_wp2_with fail
     go_ret
     exact ⟨Pp.ret_int HE.out, hbw⟩
end Go.Proofs.YtchlgpeiombmdaaGreat
set_option linter.unusedSimpArgs false
set_option linter.unusedVariables false
namespace Go.Proofs.YtchlgpeiombmdaaGreat
open Go.RowKit

set_option maxHeartbeats 1000000 in
theorem isStale_yes (L : List En) (v : Value) (k : Int) (p q t : ByteArray) (b : Int) (w : World) (hv : Lies w v L) (hs : ∀ e ∈ L, e.path.size ≤ 1000000000000000) (hp : p.size ≤ 1000000000000000) (h1 : ¬ b = -1) (x : En) (hf : L.find? (Pp.stB p.data.toList b) = some x) :
    Calls Tryz.prog 169 #[v, .agg #[.int .i64 k, .string p, .string q, .string t, .int .i64 b]] w fun e w' => e = .returned (.bool true) ∧ Below w.heap.size w w' := by
 have HV : Hid (Lies w v L) := hv
 have HS : Hid (∀ e ∈ L, e.path.size ≤ 1000000000000000) := hs
 have HF : Hid (L.find? (Pp.stB p.data.toList b) = some x) := hf
 have h2 : (b == -1) = false := by simpa using h1
 clear hv hs hf
 have hst : ∀ (W : World) (a : Addr) (f : Fn) (x y : Array Value), (store a (.func f x y)).run Tryz.prog W = stored Tryz.prog W a (.func f x y) .plain := fun W a f x y => run_store Tryz.prog W a _ _ rfl
 go_enter Tryz.func169, Tryz.ntmps169
 go_wp2_with fail
 refine (twithin_any p _ hp).mono ?_
 rintro e w1 ⟨rfl, ht, hb1⟩
 obtain ⟨c0, c1, c2, c3, c4, hbw, hlt⟩ := bx5 hb1
 have HT : Hid (Tells w1 185 #[.pointer (some ⟨(w.alloc (.cells #[.int .i64 k, .string p, .string q, .string t, .int .i64 b] 67)).heap.size, 0, none⟩)] (Pp.inB p.data.toList)) := ht
 clear ht hb1
 go_wp2_with fail
 refine (first_any L v _ _ (Pp.stB p.data.toList b) _ (HV.out.below (hbw.alloc (Nat.le_of_lt hlt) _)) ⟨enters_of Tryz.func179 (by kernel_rfl) rfl, ?_⟩ HS.out).mono ?_
 · intro W hW x hx
   have hW1 : Below w1.heap.size w1 W := ((Below.refl _ _).alloc (Nat.le_refl _) _).trans (hW.mono (by simp))
   refine stale1_any x p k t q b w.heap.size w1.heap.size 185 #[.pointer (some ⟨w.heap.size + 1, 0, none⟩)] W (Nat.lt_of_lt_of_le hlt hW1.size) (Nat.lt_of_lt_of_le (by simp) hW.size) ((hW1.cell (p := ⟨w.heap.size, 4, none⟩) hlt).trans c4) ((hW.cell (p := ⟨w1.heap.size, 0, none⟩) (by simp)).trans (by simp)) ?_ hx
   have h := HT.out.below hW1
   simpa using h
 · rintro e w2 ⟨rfl, hb2⟩
   rw [HF.out, fnd]
   have hbw2 : Below w.heap.size w w2 := (hbw.alloc (Nat.le_of_lt hlt) _).trans (hb2.mono (by simp; omega))
   have hlt2 : w.heap.size < w2.heap.size := by have := hb2.size; simp at this; omega
   clear hb2 c0 c1 c2 c3 c4
   go_wp2
   go_ret
   exact ⟨rfl, hbw2.alloc (Nat.le_of_lt hlt2) _⟩
namespace Pp
theorem inB_wi {e : En} {p : List UInt8} (h1 : chk e.path.data.toList = 0) (h2 : chk p = 0) : inB p e = wi p e := by
 rw [inB, wi]; simp [chks, h1, h2]
theorem stB_stW {e : En} {p : List UInt8} {b : Int} (h1 : chk e.path.data.toList = 0) (h2 : chk p = 0) : stB p b e = stW p b e := by
 rw [stB, stW, inB_wi h1 h2]
theorem filter_eq {f g : En → Bool} {L : List En} (h : ∀ e ∈ L, f e = g e) : L.filter f = L.filter g := List.filter_congr h
theorem stl_find {L : List En} {c : Ch} (hL : ∀ e ∈ L, chk e.path.data.toList = 0) (hp : chk c.p.data.toList = 0) : stl L c = (!(c.b == -1) && (L.find? (stB c.p.data.toList c.b)).isSome) := by
 rw [stl]
 congr 1
 cases hf : L.find? (stB c.p.data.toList c.b) with
 | none =>
  rw [List.any_eq_false.2]
  · rfl
  · intro e he
    have := List.find?_eq_none.1 hf e he
    rw [stB_stW (hL e he) hp] at this
    exact this
 | some x =>
  have h1 := List.find?_some hf
  have h2 := List.mem_of_find?_eq_some hf
  rw [stB_stW (hL x h2) hp] at h1
  rw [List.any_eq_true.2 ⟨x, h2, h1⟩]; rfl
end Pp

theorem isStale_any (L : List En) (v : Value) (k : Int) (p q t : ByteArray) (b : Int) (w : World) (hv : Lies w v L) (hs : Sized L) (hp : p.size ≤ 1000000000000000) (hL : ∀ e ∈ L, Pp.chk e.path.data.toList = 0) (hc : Pp.chk p.data.toList = 0) :
    Calls Tryz.prog 169 #[v, .agg #[.int .i64 k, .string p, .string q, .string t, .int .i64 b]] w fun e w' => e = .returned (.bool (Pp.stl L ⟨k, p, q, t, b⟩)) ∧ Below w.heap.size w w' := by
 have hst := Pp.stl_find (c := ⟨k, p, q, t, b⟩) hL hc
 by_cases h1 : b = -1
 · rw [hst]; subst h1
   exact isStale_no L v k p q t (-1) w hv hs hp (Or.inl rfl)
 · have h2 : (b == -1) = false := by simpa using h1
   cases hf : L.find? (Pp.stB p.data.toList b) with
   | none =>
    have e : Pp.stl L ⟨k, p, q, t, b⟩ = false := by rw [hst]; simp only [hf]; simp
    rw [e]
    exact isStale_no L v k p q t b w hv hs hp (Or.inr hf)
   | some x =>
    have e : Pp.stl L ⟨k, p, q, t, b⟩ = true := by rw [hst]; simp only [hf, h2]; rfl
    rw [e]
    exact isStale_yes L v k p q t b w hv (fun e he => (hs e he).1) hp h1 x hf
end Go.Proofs.YtchlgpeiombmdaaGreat
