/- What the law TreeFinds answers, for every tree and path that are not too great. -/
import Derived.Test.YtkbcadiiceinaabT11
import Derived.Test.YtkbcadiiceinaabT13
import Derived.Test.YtkbcadiiceinaabT14
set_option linter.unusedSimpArgs false
set_option linter.unusedVariables false
namespace Go.Proofs.Ytkbcadiiceinaab
open Go.RowKit

set_option maxHeartbeats 1000000 in
theorem treeFinds_walk (L : List En) (v : Value) (p : ByteArray) (w : World) (hv : Lies w v L) (hn : L.length ≤ 1048576) (hs : ∀ e ∈ L, e.path.size ≤ 1048576 ∧ e.text.size ≤ 1048576) (hp : p.size ≤ 1048576) :
    Calls Try.prog 4 #[v, .string p] w fun e w' => e = .returned (.bool true) ∧ Below w.heap.size w w' := by
  have HV : Hid (Lies w v L) := hv
  have HS : Hid (Sized L) := (fun e he => ⟨Nat.le_trans (hs e he).1 (by decide), Nat.le_trans (hs e he).2 (by decide)⟩ : Sized L)
  have HR : Hid (∀ e ∈ L, e.path.size ≤ 1000000000) := (fun e he => Nat.le_trans (hs e he).1 (by decide) : ∀ e ∈ L, e.path.size ≤ 1000000000)
  have HN : Hid (L.length ≤ 1000000000) := (Nat.le_trans hn (by decide) : L.length ≤ 1000000000)
  have HP1 : Hid (p.size ≤ 1000000000000000) := (Nat.le_trans hp (by decide) : p.size ≤ 1000000000000000)
  have HP2 : Hid (p.size ≤ 1000000000) := (Nat.le_trans hp (by decide) : p.size ≤ 1000000000)
  clear hs hn hp
  by_cases ht : Pp.treeE L = 0
  · have HT : Hid (Pp.treeE L = 0) := ht
    by_cases hc : Pp.chk p.data.toList = 0
    · have HC : Hid (Pp.chk p.data.toList = 0) := hc
      rcases Pp.idx_cases L p.data.toList with ⟨hi, hf⟩ | ⟨k, hk, hi, hf⟩
      · have HI : Hid (Pp.idx L p.data.toList = -1) := hi
        have HX : Hid (Pp.findX L p.data.toList = Pp.zE) := (by rw [Pp.findX, if_pos ht, if_pos hc, hf] : Pp.findX L p.data.toList = Pp.zE)
        have HF : Hid (Pp.findR L p.data.toList = 5) := (by rw [Pp.findR, if_pos ht, if_pos hc, hf] : Pp.findR L p.data.toList = 5)
        clear ht hc hi hf hv
        go_enter Try.func4, Try.ntmps4
        go_wp2_with fail
        refine (tfind_any L _ p _ HV.out HN.out HS.out HP1.out).mono ?_
        rintro e w1 ⟨rfl, hb1⟩
        rw [HX.out, HF.out, Pp.findV, Pp.zE]
        go_wp2_with fail
        refine (rCheckTree_any L _ _ (HV.out.below (hb1.alloc hb1.size _)) HR.out).mono ?_
        rintro e w2 ⟨rfl, hb2⟩
        obtain ⟨x0, x1, x2, x3, hb12, hlt12⟩ := box4 hb2
        have hbw2 := below_trans hb1 hb12
        rw [HT.out]
        go_wp2_with fail
        refine (rCheck_any p _ HP2.out).mono ?_
        rintro e w3 ⟨rfl, hb3⟩
        rw [HC.out]
        obtain ⟨v0, v1, v2, v3, hb23, hlt23⟩ := box4 hb3
        have hbw3 := below_trans hbw2 hb23
        go_wp2_with fail
        refine (entryAt_any L _ p _ (HV.out.below hbw3)).mono ?_
        rintro e w4 ⟨rfl, hb4⟩
        rw [HI.out]
        have hb34 := hb3.trans (hb4.mono hb3.size)
        clear hb3 hb4 v0 v1 v2 v3 hb23 hlt23 hbw3
        go_wp2_with fail
        refine (begun_yes _).mono ?_
        rintro e w9 ⟨rfl, hb39⟩
        have hb9 := hb34.trans (hb39.mono hb34.size)
        have hbX := hb2
        clear hb34 hb39
        obtain ⟨y0, y1, y2, y3, hbq, hltq⟩ := box4 hb9
        have hb29 : Below (w1.alloc (.cells #[.string ⟨#[]⟩, .bool false, .string ⟨#[]⟩, .int .i64 0] 28)).heap.size (w1.alloc (.cells #[.string ⟨#[]⟩, .bool false, .string ⟨#[]⟩, .int .i64 0] 28)) w9 := hbX.trans (hbq.mono hbX.size)
        obtain ⟨z0, z1, z2, z3, hb19, hlt19⟩ := box4 hb29
        have hbw9 := below_trans hb1 hb19
        clear hb9 hb2 hbX hbq hb29 hb19 x0 x1 x2 x3 hb12 hbw2 hb1
        go_wp2_with fail
        go_ret
        exact ⟨by simp, hbw9⟩
      · have HI : Hid (Pp.idx L p.data.toList = (k : Int)) := hi
        have HX : Hid (Pp.findX L p.data.toList = L[k]) := (by rw [Pp.findX, if_pos ht, if_pos hc, hf] : Pp.findX L p.data.toList = L[k])
        have HF : Hid (Pp.findR L p.data.toList = 0) := (by rw [Pp.findR, if_pos ht, if_pos hc, hf] : Pp.findR L p.data.toList = 0)
        obtain ⟨a, cap, rfl, hcap, hcap2, hL⟩ := hv
        obtain ⟨b, o, rfl, hb, he⟩ := hL k hk
        have hkk : (k : Int) < L.length := by omega
        have HE : Hid (EnAt w b (o + k * 4) L[k]) := he
        clear ht hc hi hf hL he
        go_enter Try.func4, Try.ntmps4
        go_wp2_with fail
        refine (tfind_any L _ p _ HV.out HN.out HS.out HP1.out).mono ?_
        rintro e w1 ⟨rfl, hb1⟩
        rw [HX.out, HF.out, Pp.findV]
        go_wp2_with fail
        refine (rCheckTree_any L _ _ (HV.out.below (hb1.alloc hb1.size _)) HR.out).mono ?_
        rintro e w2 ⟨rfl, hb2⟩
        obtain ⟨x0, x1, x2, x3, hb12, hlt12⟩ := box4 hb2
        have hbw2 := below_trans hb1 hb12
        rw [HT.out]
        go_wp2_with fail
        refine (rCheck_any p _ HP2.out).mono ?_
        rintro e w3 ⟨rfl, hb3⟩
        rw [HC.out]
        obtain ⟨v0, v1, v2, v3, hb23, hlt23⟩ := box4 hb3
        have hbw3 := below_trans hbw2 hb23
        go_wp2_with fail
        refine (entryAt_any L _ p _ (HV.out.below hbw3)).mono ?_
        rintro e w4 ⟨rfl, hb4⟩
        rw [HI.out]
        have hb34 := hb3.trans (hb4.mono hb3.size)
        obtain ⟨y0, y1, y2, y3, hb24, hlt24⟩ := box4 hb34
        have hbw4 := below_trans hbw2 hb24
        obtain ⟨e0, e1, e2, e3⟩ := HE.out.below hb hbw4
        have f0 := box4f hb34 0
        have f1 := box4f hb34 1
        have f2 := box4f hb34 2
        have f3 := box4f hb34 3
        have hbX := hb2.trans (hb24.mono hb2.size)
        clear hb3 hb4 v0 v1 v2 v3 hb23 hlt23 hbw3 x0 x1 x2 x3
        go_wp2_with fail
        have hge : (w1.alloc (.cells #[.string (L[k]).path, .bool (L[k]).folder, .string (L[k]).text, .int .i64 (L[k]).ver] 28)).heap.size ≤ w2.heap.size := hb2.size
        have hbS := (((hbX.setCell (p := ⟨w2.heap.size, 0, none⟩) hge (.string (L[k]).path)).setCell (p := ⟨w2.heap.size, 1, none⟩) hge (.bool (L[k]).folder)).setCell (p := ⟨w2.heap.size, 2, none⟩) hge (.string (L[k]).text)).setCell (p := ⟨w2.heap.size, 3, none⟩) hge (.int .i64 (L[k]).ver)
        refine (begun_yes _).mono ?_
        rintro e w9 ⟨rfl, hb9⟩
        have hszS : w2.heap.size < ((((w4.setCell ⟨w2.heap.size, 0, none⟩ (.string (L[k]).path)).setCell ⟨w2.heap.size, 1, none⟩ (.bool (L[k]).folder)).setCell ⟨w2.heap.size, 2, none⟩ (.string (L[k]).text)).setCell ⟨w2.heap.size, 3, none⟩ (.int .i64 (L[k]).ver)).heap.size := by simpa using hlt24
        have q0 : w9.cell? ⟨w2.heap.size, 0, none⟩ = some (.string (L[k]).path) := (hb9.cell (p := ⟨w2.heap.size, 0, none⟩) hszS).trans (by simp [go_sem, y0, y1, y2, y3])
        have q1 : w9.cell? ⟨w2.heap.size, 1, none⟩ = some (.bool (L[k]).folder) := (hb9.cell (p := ⟨w2.heap.size, 1, none⟩) hszS).trans (by simp [go_sem, y0, y1, y2, y3])
        have q2 : w9.cell? ⟨w2.heap.size, 2, none⟩ = some (.string (L[k]).text) := (hb9.cell (p := ⟨w2.heap.size, 2, none⟩) hszS).trans (by simp [go_sem, y0, y1, y2, y3])
        have q3 : w9.cell? ⟨w2.heap.size, 3, none⟩ = some (.int .i64 (L[k]).ver) := (hb9.cell (p := ⟨w2.heap.size, 3, none⟩) hszS).trans (by simp [go_sem, y0, y1, y2, y3])
        have hb29 := hbS.trans (hb9.mono hbS.size)
        obtain ⟨z0, z1, z2, z3, hb19, hlt19⟩ := box4 hb29
        have hbw9 := below_trans hb1 hb19
        clear hb9 hb2 hbX hbS hb29 hb19 y0 y1 y2 y3 f0 f1 f2 f3 e0 e1 e2 e3 hb12 hbw2 hb1 hbw4 hb34 hb24
        go_wp2_with fail
        go_ret
        exact ⟨by simp, hbw9⟩
    · have HX : Hid (Pp.findX L p.data.toList = Pp.zE) := (by rw [Pp.findX, if_pos ht, if_neg hc] : Pp.findX L p.data.toList = Pp.zE)
      have HF : Hid (Pp.findR L p.data.toList = Pp.chk p.data.toList) := (by rw [Pp.findR, if_pos ht, if_neg hc] : Pp.findR L p.data.toList = Pp.chk p.data.toList)
      have hc2 : (Pp.chk p.data.toList == 0) = false := by simpa using hc
      clear ht
      clear hv
      go_enter Try.func4, Try.ntmps4
      go_wp2_with fail
      refine (tfind_any L v p _ HV.out HN.out HS.out HP1.out).mono ?_
      rintro e w1 ⟨rfl, hb1⟩
      rw [HX.out, HF.out, Pp.findV, Pp.zE]
      go_wp2_with fail
      refine (rCheckTree_any L v _ (HV.out.below (hb1.alloc hb1.size _)) HR.out).mono ?_
      rintro e w2 ⟨rfl, hb2⟩
      obtain ⟨x0, x1, x2, x3, hb12, hlt12⟩ := box4 hb2
      have hbw2 := below_trans hb1 hb12
      rw [HT.out]
      go_wp2_with fail
      refine (rCheck_any p _ HP2.out).mono ?_
      rintro e w3 ⟨rfl, hb3⟩
      go_wp2_with fail
      refine (begun_yes _).mono ?_
      rintro e w9 ⟨rfl, hb39⟩
      have hb9 := hb3.trans (hb39.mono hb3.size)
      have hbX := hb2
      clear hb3 hb39
      obtain ⟨y0, y1, y2, y3, hbq, hltq⟩ := box4 hb9
      have hb29 : Below (w1.alloc (.cells #[.string ⟨#[]⟩, .bool false, .string ⟨#[]⟩, .int .i64 0] 28)).heap.size (w1.alloc (.cells #[.string ⟨#[]⟩, .bool false, .string ⟨#[]⟩, .int .i64 0] 28)) w9 := hbX.trans (hbq.mono hbX.size)
      obtain ⟨z0, z1, z2, z3, hb19, hlt19⟩ := box4 hb29
      have hbw9 := below_trans hb1 hb19
      clear hb9 hb2 hbX hbq hb29 hb19 x0 x1 x2 x3 hb12 hbw2 hb1
      go_wp2_with fail
      go_ret
      exact ⟨by simp, hbw9⟩
  · have HX : Hid (Pp.findX L p.data.toList = Pp.zE) := (by rw [Pp.findX, if_neg ht] : Pp.findX L p.data.toList = Pp.zE)
    have HF : Hid (Pp.findR L p.data.toList = Pp.treeE L) := (by rw [Pp.findR, if_neg ht] : Pp.findR L p.data.toList = Pp.treeE L)
    have ht2 : (Pp.treeE L == 0) = false := by simpa using ht
    clear hv
    go_enter Try.func4, Try.ntmps4
    go_wp2_with fail
    refine (tfind_any L v p _ HV.out HN.out HS.out HP1.out).mono ?_
    rintro e w1 ⟨rfl, hb1⟩
    rw [HX.out, HF.out, Pp.findV, Pp.zE]
    go_wp2_with fail
    refine (rCheckTree_any L v _ (HV.out.below (hb1.alloc hb1.size _)) HR.out).mono ?_
    rintro e w2 ⟨rfl, hb2⟩
    obtain ⟨x0, x1, x2, x3, hb12, hlt12⟩ := box4 hb2
    have hbw2 := below_trans hb1 hb12
    go_wp2_with fail
    refine (begun_yes _).mono ?_
    rintro e w9 ⟨rfl, hb9⟩
    have hbX := hb2
    obtain ⟨y0, y1, y2, y3, hbq, hltq⟩ := box4 hb9
    have hb29 : Below (w1.alloc (.cells #[.string ⟨#[]⟩, .bool false, .string ⟨#[]⟩, .int .i64 0] 28)).heap.size (w1.alloc (.cells #[.string ⟨#[]⟩, .bool false, .string ⟨#[]⟩, .int .i64 0] 28)) w9 := hbX.trans (hbq.mono hbX.size)
    obtain ⟨z0, z1, z2, z3, hb19, hlt19⟩ := box4 hb29
    have hbw9 := below_trans hb1 hb19
    clear hb9 hb2 hbX hbq hb29 hb19 x0 x1 x2 x3 hb12 hbw2 hb1
    go_wp2_with fail
    go_ret
    exact ⟨by simp, hbw9⟩
end Go.Proofs.Ytkbcadiiceinaab
