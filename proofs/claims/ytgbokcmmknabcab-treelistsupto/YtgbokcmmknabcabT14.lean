/- What tree.Find answers, for every tree and every path. -/
import Derived.Test.YtgbokcmmknabcabT4
import Derived.Test.YtgbokcmmknabcabTPure2
set_option linter.unusedSimpArgs false
set_option linter.unusedVariables false
namespace Go.Proofs.Ytgbokcmmknabcab
open Go.RowKit

namespace Pp
def zE : En := ⟨⟨#[]⟩, false, ⟨#[]⟩, 0⟩
/-- What Find answers: an entry, and an error. -/
def findX (L : List En) (p : List UInt8) : En := if treeE L = 0 then (if chk p = 0 then (match L.find? (atB p) with | some x => x | none => zE) else zE) else zE
def findR (L : List En) (p : List UInt8) : Int := if treeE L = 0 then (if chk p = 0 then (match L.find? (atB p) with | some _ => 0 | none => 5) else chk p) else treeE L
def findV (x : En) (r : Int) : Value := .tuple #[.agg #[.string x.path, .bool x.folder, .string x.text, .int .i64 x.ver], .int .i64 r]
end Pp

set_option maxHeartbeats 1000000 in
theorem tfind_any (L : List En) (v : Value) (p : ByteArray) (w : World) (hv : Lies w v L) (hn : L.length ≤ 1000000000) (hs : Sized L) (hp : p.size ≤ 1000000000000000) :
    Calls Try.prog 10 #[v, .string p] w fun e w' => e = .returned (Pp.findV (Pp.findX L p.data.toList) (Pp.findR L p.data.toList)) ∧ Below w.heap.size w w' := by
  have HV : Hid (Lies w v L) := hv
  have HS : Hid (Sized L) := hs
  have HP : Hid (∀ e ∈ L, e.path.size ≤ 1000000000000000) := (fun e he => (hs e he).1 : ∀ e ∈ L, e.path.size ≤ 1000000000000000)
  clear hv hs
  by_cases ht : Pp.treeE L = 0
  · have HT : Hid (Pp.treeE L = 0) := ht
    by_cases hc : Pp.chk p.data.toList = 0
    · have HC : Hid (Pp.chk p.data.toList = 0) := hc
      cases hf : L.find? (Pp.atB p.data.toList) with
      | none =>
        have HF : Hid (L.find? (Pp.atB p.data.toList) = none) := hf
        have HX : Hid (Pp.findX L p.data.toList = Pp.zE) := (by rw [Pp.findX, if_pos ht, if_pos hc, hf] : Pp.findX L p.data.toList = Pp.zE)
        have HR : Hid (Pp.findR L p.data.toList = 5) := (by rw [Pp.findR, if_pos ht, if_pos hc, hf] : Pp.findR L p.data.toList = 5)
        clear hf hc ht
        go_enter Try.func10, Try.ntmps10
        go_wp2_with fail
        refine (tcheck_any L v _ (HV.out.below ((Below.refl _ _).alloc (Nat.le_refl _) _)) hn HS.out).mono ?_
        rintro e w1 ⟨rfl, hb1⟩
        rw [HT.out]
        go_wp2_with fail
        refine (check_any p _ hp).mono ?_
        rintro e w2 ⟨rfl, hb2⟩
        have hb02 := hb1.trans (hb2.mono hb1.size)
        clear hb1 hb2
        rw [HC.out]
        obtain ⟨c0, c1, c2, c3, hbw, hlt⟩ := box4 hb02
        clear c0 c1 c2 c3
        go_wp2_with fail
        refine (at_any p _).mono ?_
        rintro e w3 ⟨rfl, hta, hb3⟩
        have HTE : Hid (Tells w3 50 #[.pointer (some ⟨w2.heap.size, 0, none⟩)] (Pp.atB p.data.toList)) := hta
        have hb03 := hb02.trans (hb3.mono hb02.size)
        clear hta hb02 hb3 hbw hlt
        obtain ⟨c0, c1, c2, c3, hbw, hlt⟩ := box4 hb03
        clear c0 c1 c2 c3
        go_wp2_with fail
        refine (first_any L v _ _ _ _ (HV.out.below hbw) HTE.out HP.out).mono ?_
        rintro e w4 ⟨rfl, hb4⟩
        rw [HF.out, fnd]
        have hb04 := hb03.trans (hb4.mono hb03.size)
        clear hb03 hb4 hbw hlt
        obtain ⟨c0, c1, c2, c3, hbw, hlt⟩ := box4 hb04
        have f0 := box4f hb04 0
        have f1 := box4f hb04 1
        have f2 := box4f hb04 2
        have f3 := box4f hb04 3
        go_wp2_with fail
        refine bodyPost_ret (v := Pp.findV Pp.zE 5) (by simp [results, Try.results10, go_sem, Pp.findV, Pp.zE, c0, c1, c2, c3, hlt]) rfl ⟨by rw [HX.out, HR.out], ?_⟩
        first | exact (((hbw.setCell (p := ⟨w.heap.size, 0, none⟩) (Nat.le_refl _) _).setCell (p := ⟨w.heap.size, 1, none⟩) (Nat.le_refl _) _).setCell (p := ⟨w.heap.size, 2, none⟩) (Nat.le_refl _) _).setCell (p := ⟨w.heap.size, 3, none⟩) (Nat.le_refl _) _ | exact ((((hbw.setCell (p := ⟨w.heap.size, 0, none⟩) (Nat.le_refl _) _).setCell (p := ⟨w.heap.size, 1, none⟩) (Nat.le_refl _) _).setCell (p := ⟨w.heap.size, 2, none⟩) (Nat.le_refl _) _).setCell (p := ⟨w.heap.size, 3, none⟩) (Nat.le_refl _) _).alloc (by simpa using Nat.le_of_lt hlt) _
      | some x =>
        have HF : Hid (L.find? (Pp.atB p.data.toList) = some x) := hf
        have HX : Hid (Pp.findX L p.data.toList = x) := (by rw [Pp.findX, if_pos ht, if_pos hc, hf] : Pp.findX L p.data.toList = x)
        have HR : Hid (Pp.findR L p.data.toList = 0) := (by rw [Pp.findR, if_pos ht, if_pos hc, hf] : Pp.findR L p.data.toList = 0)
        clear hf hc ht
        go_enter Try.func10, Try.ntmps10
        go_wp2_with fail
        refine (tcheck_any L v _ (HV.out.below ((Below.refl _ _).alloc (Nat.le_refl _) _)) hn HS.out).mono ?_
        rintro e w1 ⟨rfl, hb1⟩
        rw [HT.out]
        go_wp2_with fail
        refine (check_any p _ hp).mono ?_
        rintro e w2 ⟨rfl, hb2⟩
        have hb02 := hb1.trans (hb2.mono hb1.size)
        clear hb1 hb2
        rw [HC.out]
        obtain ⟨c0, c1, c2, c3, hbw, hlt⟩ := box4 hb02
        clear c0 c1 c2 c3
        go_wp2_with fail
        refine (at_any p _).mono ?_
        rintro e w3 ⟨rfl, hta, hb3⟩
        have HTE : Hid (Tells w3 50 #[.pointer (some ⟨w2.heap.size, 0, none⟩)] (Pp.atB p.data.toList)) := hta
        have hb03 := hb02.trans (hb3.mono hb02.size)
        clear hta hb02 hb3 hbw hlt
        obtain ⟨c0, c1, c2, c3, hbw, hlt⟩ := box4 hb03
        clear c0 c1 c2 c3
        go_wp2_with fail
        refine (first_any L v _ _ _ _ (HV.out.below hbw) HTE.out HP.out).mono ?_
        rintro e w4 ⟨rfl, hb4⟩
        rw [HF.out, fnd]
        have hb04 := hb03.trans (hb4.mono hb03.size)
        clear hb03 hb4 hbw hlt
        obtain ⟨c0, c1, c2, c3, hbw, hlt⟩ := box4 hb04
        have f0 := box4f hb04 0
        have f1 := box4f hb04 1
        have f2 := box4f hb04 2
        have f3 := box4f hb04 3
        go_wp2_with fail
        refine bodyPost_ret (v := Pp.findV x 0) (by simp [results, Try.results10, go_sem, Pp.findV, Pp.zE, c0, c1, c2, c3, hlt]) rfl ⟨by rw [HX.out, HR.out], ?_⟩
        first | exact (((hbw.setCell (p := ⟨w.heap.size, 0, none⟩) (Nat.le_refl _) _).setCell (p := ⟨w.heap.size, 1, none⟩) (Nat.le_refl _) _).setCell (p := ⟨w.heap.size, 2, none⟩) (Nat.le_refl _) _).setCell (p := ⟨w.heap.size, 3, none⟩) (Nat.le_refl _) _ | exact ((((hbw.setCell (p := ⟨w.heap.size, 0, none⟩) (Nat.le_refl _) _).setCell (p := ⟨w.heap.size, 1, none⟩) (Nat.le_refl _) _).setCell (p := ⟨w.heap.size, 2, none⟩) (Nat.le_refl _) _).setCell (p := ⟨w.heap.size, 3, none⟩) (Nat.le_refl _) _).alloc (by simpa using Nat.le_of_lt hlt) _
    · have HX : Hid (Pp.findX L p.data.toList = Pp.zE) := (by rw [Pp.findX, if_pos ht, if_neg hc] : Pp.findX L p.data.toList = Pp.zE)
      have HR : Hid (Pp.findR L p.data.toList = Pp.chk p.data.toList) := (by rw [Pp.findR, if_pos ht, if_neg hc] : Pp.findR L p.data.toList = Pp.chk p.data.toList)
      have hc2 : (Pp.chk p.data.toList == 0) = false := by simpa using hc
      clear ht
      go_enter Try.func10, Try.ntmps10
      go_wp2_with fail
      refine (tcheck_any L v _ (HV.out.below ((Below.refl _ _).alloc (Nat.le_refl _) _)) hn HS.out).mono ?_
      rintro e w1 ⟨rfl, hb1⟩
      rw [HT.out]
      go_wp2_with fail
      refine (check_any p _ hp).mono ?_
      rintro e w2 ⟨rfl, hb2⟩
      have hb02 := hb1.trans (hb2.mono hb1.size)
      clear hb1 hb2
      obtain ⟨c0, c1, c2, c3, hbw, hlt⟩ := box4 hb02
      have f0 := box4f hb02 0
      have f1 := box4f hb02 1
      have f2 := box4f hb02 2
      have f3 := box4f hb02 3
      go_wp2_with fail
      refine bodyPost_ret (v := Pp.findV Pp.zE (Pp.chk p.data.toList)) (by simp [results, Try.results10, go_sem, Pp.findV, Pp.zE, c0, c1, c2, c3, hlt]) rfl ⟨by rw [HX.out, HR.out], ?_⟩
      first | exact (((hbw.setCell (p := ⟨w.heap.size, 0, none⟩) (Nat.le_refl _) _).setCell (p := ⟨w.heap.size, 1, none⟩) (Nat.le_refl _) _).setCell (p := ⟨w.heap.size, 2, none⟩) (Nat.le_refl _) _).setCell (p := ⟨w.heap.size, 3, none⟩) (Nat.le_refl _) _ | exact ((((hbw.setCell (p := ⟨w.heap.size, 0, none⟩) (Nat.le_refl _) _).setCell (p := ⟨w.heap.size, 1, none⟩) (Nat.le_refl _) _).setCell (p := ⟨w.heap.size, 2, none⟩) (Nat.le_refl _) _).setCell (p := ⟨w.heap.size, 3, none⟩) (Nat.le_refl _) _).alloc (by simpa using Nat.le_of_lt hlt) _
  · have HX : Hid (Pp.findX L p.data.toList = Pp.zE) := (by rw [Pp.findX, if_neg ht] : Pp.findX L p.data.toList = Pp.zE)
    have HR : Hid (Pp.findR L p.data.toList = Pp.treeE L) := (by rw [Pp.findR, if_neg ht] : Pp.findR L p.data.toList = Pp.treeE L)
    have ht2 : (Pp.treeE L == 0) = false := by simpa using ht
    go_enter Try.func10, Try.ntmps10
    go_wp2_with fail
    refine (tcheck_any L v _ (HV.out.below ((Below.refl _ _).alloc (Nat.le_refl _) _)) hn HS.out).mono ?_
    rintro e w1 ⟨rfl, hb1⟩
    obtain ⟨c0, c1, c2, c3, hbw, hlt⟩ := box4 hb1
    have f0 := box4f hb1 0
    have f1 := box4f hb1 1
    have f2 := box4f hb1 2
    have f3 := box4f hb1 3
    go_wp2_with fail
    refine bodyPost_ret (v := Pp.findV Pp.zE (Pp.treeE L)) (by simp [results, Try.results10, go_sem, Pp.findV, Pp.zE, c0, c1, c2, c3, hlt]) rfl ⟨by rw [HX.out, HR.out], ?_⟩
    first | exact (((hbw.setCell (p := ⟨w.heap.size, 0, none⟩) (Nat.le_refl _) _).setCell (p := ⟨w.heap.size, 1, none⟩) (Nat.le_refl _) _).setCell (p := ⟨w.heap.size, 2, none⟩) (Nat.le_refl _) _).setCell (p := ⟨w.heap.size, 3, none⟩) (Nat.le_refl _) _ | exact ((((hbw.setCell (p := ⟨w.heap.size, 0, none⟩) (Nat.le_refl _) _).setCell (p := ⟨w.heap.size, 1, none⟩) (Nat.le_refl _) _).setCell (p := ⟨w.heap.size, 2, none⟩) (Nat.le_refl _) _).setCell (p := ⟨w.heap.size, 3, none⟩) (Nat.le_refl _) _).alloc (by simpa using Nat.le_of_lt hlt) _
end Go.Proofs.Ytgbokcmmknabcab
