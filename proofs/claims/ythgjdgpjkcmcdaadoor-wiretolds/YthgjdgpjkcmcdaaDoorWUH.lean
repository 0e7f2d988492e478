/- The document's ToldOf: just what the program's Told answers. -/
import Derived.Test.YthgjdgpjkcmcdaaDoorWUF
import Derived.Test.YthgjdgpjkcmcdaaDoorWUG
import Derived.Deep.CutBlock
import Derived.Test.YthgjdgpjkcmcdaaDoorWUA
import Derived.Deep.RegionHeld3
import Derived.Deep.Cut
import Derived.Test.YthgjdgpjkcmcdaaDoorRows
import Derived.Test.YthgjdgpjkcmcdaaDoorWUB
import Derived.LaidLaws
set_option linter.unusedSimpArgs false
set_option linter.unusedVariables false
namespace Go.Proofs.YthgjdgpjkcmcdaaDoor
open Go.RowKit

namespace Wr
theorem bind_assoc {α β γ : Type} (p : Ps α) (f : α → Ps β) (g : β → Ps γ) : bindP (bindP p f) g = bindP p fun x => bindP (f x) g := by
 funext l
 unfold bindP
 cases p l with
 | none => rfl
 | some z => rfl
theorem pure_bind {α β : Type} (x : α) (f : α → Ps β) : bindP (pureP x) f = f x := rfl
theorem anP_flat (g : Int → Bool) (m : Int) : anP g m = bindP (rdG g) fun e => bindP (rdG g) fun n => bindP (yesP g) fun r => bindP (cntP g 60) fun k => bindP (repP (enP g m) k.toNat) fun t => bindP (cntP g 10) fun k2 => bindP (repP (coP g m) k2.toNat) fun c => bindP (rdG g) fun u => bindP (yesP g) fun o => pureP ⟨e, n, ⟨r, t, c, u, o⟩⟩ := by
 unfold anP pgP lstP
 simp only [bind_assoc, pure_bind]
/-- What comes behind a list that is being read. -/
def andT {α β : Type} (o : Option (α × List UInt8)) (f : α → Ps β) : Option (β × List UInt8) := match o with
 | none => none
 | some (x, r) => f x r
theorem andT_rep {α β : Type} (p : Ps α) (n : Nat) (f : List α → Ps β) (l : List UInt8) : bindP (repP p n) f l = andT (repA p n [] l) f := by
 rw [← repA_nil]; rfl
end Wr
/-- The row of a tree stays, while a row of commits grows. -/
theorem RowV.apartE {B B' : Nat} {xs : List En} {x : Value} {W W' : World} {T : TypeId} {n k : Nat} {v : Value} {ys : List Value} (h : RowV B 76 4 VEn xs x W) (h' : W.ownsRow B' T n v k ys) (hT : 76 ≠ T) (hg : W.grownBy W' v.ownBlock) : RowV B 76 4 VEn xs x W' := by
 obtain ⟨Z, h1, h2, h3⟩ := h
 exact ⟨Z, h1, ownsRow_apart h2 h' hT hg, fun z hz => ⟨(h3 z hz).1, (h3 z hz).2⟩⟩
theorem en_new (W : World) (p : ByteArray) (f : Bool) (t : ByteArray) (v : Int) : ∀ j u, ([.string p, .bool f, .string t, .int .i64 v] : List Value)[j]? = some u → (W.alloc (.cells #[.string p, .bool f, .string t, .int .i64 v] 76)).cell? ((⟨W.heap.size, 0, none⟩ : Addr).add j) = some u := by
 intro j u hu
 have h2 := (Cs.new W ([.string p, .bool f, .string t, .int .i64 v]) 76).cell j hu
 rw [Addr.add_lit, Nat.zero_add]
 exact h2
/-- A commit that may be read. -/
def WfOX (c : Co) : Prop := WfO c ∧ c.ch.length ≤ 20
set_option maxHeartbeats 8000000 in
set_option maxRecDepth 8000 in
theorem toldOf_any (s : ByteArray) (w : World) (hs : s.size ≤ 140737488351232) :
    Calls Tryd.prog 18 #[.string s] w fun e w' => WhPost (Wr.whole (Wr.anP Wr.gN 1000 s.data.toList)) (.agg zan.toArray) (AnV w.heap.size) e w' ∧ Below w.heap.size w w' := by
 obtain ⟨wa, hwa⟩ : ∃ wa, wa = w.alloc (.cells zan.toArray 40) := ⟨_, rfl⟩
 obtain ⟨wb, hwb⟩ : ∃ wb, wb = wa.alloc (.cells #[.string s, .int .i64 0, .bool false] 71) := ⟨_, rfl⟩
 have sa : wa.heap.size = w.heap.size + 1 := by rw [hwa]; simp
 have sb : wb.heap.size = w.heap.size + 1 + 1 := by rw [hwb]; simp [sa]
 have hba : Below w.heap.size w wa := by rw [hwa]; exact below_alloc _ _
 have hbb : Below wa.heap.size wa wb := by rw [hwb]; exact below_alloc _ _
 have hab : Below w.heap.size w wb := hba.trans (hbb.mono (by omega))
 have cR0 : Cs wb w.heap.size zan := Cs.below (show Cs wa w.heap.size zan by rw [hwa]; exact Cs.new w zan _) hbb
 have hsc : Sc (w.heap.size + 1) s 0 false wb := by unfold Sc; rw [← sa, hwb]; exact heap_alloc_new wa _
 have H0 := hid (s5_new zan 40 hsc (Nat.zero_le _))
 have HCR := hid (show ∀ W, wb.grownBy W (some (w.heap.size + 1)) → Cs W w.heap.size zan from fun W hg => cR0.nb hg (by omega))
 have HLW := hid (show ∀ W, wb.grownBy W (some (w.heap.size + 1)) → Below w.heap.size w W from fun W hg => hab.trans (nb_low hg (by omega) hab.size))
 have HS := hid hs
 obtain ⟨RC, hRC⟩ : ∃ x, x = Wr.anP Wr.gR Wr.MR s.data.toList := ⟨_, rfl⟩
 have HRC := hid hRC
 obtain ⟨F2, hF2⟩ : ∃ F2 : Int → Int → Bool → List En → List Co → Wr.Ps An, F2 = fun e n r t c => Wr.bindP (Wr.rdG Wr.gR) fun u => Wr.bindP (Wr.yesP Wr.gR) fun o => Wr.pureP ⟨e, n, ⟨r, t, c, u, o⟩⟩ := ⟨_, rfl⟩
 obtain ⟨F1, hF1⟩ : ∃ F1 : Int → Int → Bool → List En → Wr.Ps An, F1 = fun e n r t => Wr.bindP (Wr.cntP Wr.gR 10) fun k2 => Wr.bindP (Wr.repP (Wr.coP Wr.gR Wr.MR) k2.toNat) fun c => F2 e n r t c := ⟨_, rfl⟩
 have HF0 := hid (show RC = Wr.bindP (Wr.rdG Wr.gR) (fun e => Wr.bindP (Wr.rdG Wr.gR) fun n => Wr.bindP (Wr.yesP Wr.gR) fun r => Wr.bindP (Wr.cntP Wr.gR 60) fun k => Wr.bindP (Wr.repP (Wr.enP Wr.gR Wr.MR) k.toNat) fun t => F1 e n r t) (s.data.toList.drop 0) from by rw [hRC, Wr.anP_flat, hF1, hF2, List.drop_zero])
 have HF1F := hid hF1
 have HF2F := hid hF2
 have HK0 := hid (scnumV (w.heap.size + 1) 0 s false _ H0.out.sc H0.out.jl hs)
 rw [hwb, hwa] at HK0
 have HWB := hid (show wb.alloc (.cells zan.toArray 40) = ((w.alloc (.cells zan.toArray 40)).alloc (.cells #[.string s, .int .i64 0, .bool false] 71)).alloc (.cells zan.toArray 40) from by rw [hwb, hwa])
 rw [sb] at H0
 have HSB := hid sb
 obtain ⟨W0, hW0⟩ : ∃ x, x = Wr.whole (Wr.anP Wr.gN 1000 s.data.toList) := ⟨_, rfl⟩
 rw [← hW0]
 have HW0 := hid hW0
 clear hwb hwa sa sb hbb hba cR0 hsc hab hRC hs hW0 hF1 hF2
 go_enter Tryd.func18, Tryd.ntmps18
 go_wp2_with fail
 refine HK0.out.mono ?_
 intro e w1 hv
 rw [← HWB.out] at hv
 obtain ⟨qe, _, j1, b1, rfl, rfl, p1, hS, hj1, hg, hT, hF⟩ := hv.step (fun h => by cases h) (fun _ => HF0.out)
 have H1 := hid (H0.out.call hg hS hj1)
 have HT1 := hid hT
 have HF1 := hid hF
 have y0 := H1.out.cC.cell 0 rfl
 have z0 := H1.out.cC.fr 0
 clear hv hS hg hT hF HF0 HK0 H0 HWB
 go_wp2_with fail
 refine (scnumV (w.heap.size + 1) j1 s b1 _ (H1.out.set 0 (.int .i64 qe)).sc (H1.out.set 0 (.int .i64 qe)).jl HS.out).mono ?_
 intro e w2 hv
 obtain ⟨qn, _, j2, b2, rfl, rfl, p2, hS, hj2, hg, hT, hF⟩ := hv.step HT1.out HF1.out
 have H2 := hid ((H1.out.set 0 (.int .i64 qe)).call hg hS hj2)
 have HT2 := hid hT
 have HF2 := hid hF
 clear hv hS hg hT hF HT1 HF1 H1 y0 z0
 have y1 := H2.out.cC.cell 1 rfl
 have z1 := H2.out.cC.fr 1
 go_wp2_with fail
 refine (scyesV (w.heap.size + 1) j2 s b2 _ (H2.out.set 1 (.int .i64 qn)).sc (H2.out.set 1 (.int .i64 qn)).jl HS.out).mono ?_
 intro e w3 hv
 obtain ⟨qr, _, j3, b3, rfl, rfl, p3, hS, hj3, hg, hT, hF⟩ := hv.step HT2.out HF2.out
 have H3 := hid ((H2.out.set 1 (.int .i64 qn)).call hg hS hj3)
 have HT3 := hid hT
 have HF3 := hid hF
 clear hv hS hg hT hF HT2 HF2 H2 y1 z1
 have y2 := H3.out.cC.cell 2 rfl
 have z2 := H3.out.cC.fr 2
 go_wp2_with fail
 refine (sccntV (w.heap.size + 1) j3 60 s b3 _ (H3.out.set 2 (.bool qr)).sc (H3.out.set 2 (.bool qr)).jl HS.out (by decide)).mono ?_
 intro e w4 hv
 obtain ⟨n4, _, j4, b4, rfl, rfl, ⟨hn0, hn1⟩, hS, hj4, hg, hT, hF⟩ := hv.step HT3.out HF3.out
 obtain ⟨N, rfl⟩ : ∃ N : Nat, n4 = N := ⟨n4.toNat, by omega⟩
 have H4 := hid ((H3.out.set 2 (.bool qr)).call hg hS hj4)
 have HT4 := hid hT
 have HF4 := hid (show b4 = false → RC = Wr.andT (Wr.repA (Wr.enP Wr.gR Wr.MR) (N - 0) [] (s.data.toList.drop j4)) (F1 qe qn qr) from fun h => by rw [hF h, Int.toNat_natCast, Nat.sub_zero, Wr.andT_rep])
 have hN60 : N ≤ 60 := by omega
 have HROW0 := hid (show RowV (w.heap.size + 1 + 1 + 1) 76 4 VEn [] (.slice none 0 0) w4 from rowV_nil _ _ _ _ _)
 clear hv hS hg hT hF HT3 HF3 H3 y2 z2 hn0 hn1
 obtain ⟨i4, hi4, hz40, hz41, hz42⟩ := info_parts Tryd.infoW4
 obtain ⟨i3, hi3, hz30, hz31, hz32⟩ := info_parts Tryd.infoW3
 go_upto_block 0 with fail
 go_cut [7] from 28 to 59 (fun i W => ∃ (j : Nat) (bd : Bool) (xs : List En) (x : Value), xs.length ≤ 60 ∧ Hid (S5 wb (w.heap.size + 1) (w.heap.size + 1 + 1) s j bd [.int .i64 qe, .int .i64 qn, .bool qr, x, .slice none 0 0, .int .i64 0, .bool false] W) ∧ Hid (RowV (w.heap.size + 1 + 1 + 1) 76 4 VEn xs x W) ∧ Hid (∀ e ∈ xs, WfE e) ∧ Hid (bd = true → RC = none) ∧ Hid (bd = false → RC = F1 qe qn qr xs (s.data.toList.drop j)))
 case first =>
  go_wp2_with fail
  go_loopw [7] (fun i wr => ∃ (k j : Nat) (bd : Bool) (xs : List En) (x : Value), i = .int .i64 k ∧ k ≤ N ∧ xs.length = k ∧ Hid (S5 wb (w.heap.size + 1) (w.heap.size + 1 + 1) s j bd [.int .i64 qe, .int .i64 qn, .bool qr, x, .slice none 0 0, .int .i64 0, .bool false] wr) ∧ Hid (RowV (w.heap.size + 1 + 1 + 1) 76 4 VEn xs x wr) ∧ Hid (∀ e ∈ xs, WfE e) ∧ Hid (bd = true → RC = none) ∧ Hid (bd = false → RC = Wr.andT (Wr.repA (Wr.enP Wr.gR Wr.MR) (N - k) xs (s.data.toList.drop j)) (F1 qe qn qr))) (fun i _ => N - (intOf i).toNat)
  case atStart => exact ⟨0, j4, b4, [], .slice none 0 0, rfl, Nat.zero_le _, rfl, H4, HROW0, hid (fun e he => by cases he), HT4, HF4⟩
  case round =>
   obtain ⟨k, j, bd, xs, x, rfl, hk, hxk, HL, HROW, HWF, HT, HF⟩ := hrel
   clear H4 HROW0 HT4 HF4
   have c2 := HL.out.sc.cs.cell 2 rfl
   by_cases hlt : k < N
   · cases hbd : bd with
     | true =>
      rw [hbd] at c2
      have HNO := hid (HT.out hbd)
      go_wp2_with fail
      go_meet
      case rel => exact ⟨j, bd, xs, x, by omega, HL, HROW, HWF, HT, hid (fun h => by rw [hbd] at h; cases h)⟩
     | false =>
      rw [hbd] at c2
      obtain ⟨m, hm⟩ : ∃ m, N - k = m + 1 := ⟨N - k - 1, by omega⟩
      have HRA := hid (HF.out hbd)
      rw [hm] at HRA
      have H0 := hid (s5_new zen 76 HL.out.sc HL.out.jl)
      rw [hbd] at H0
      obtain ⟨RE, hRE⟩ : ∃ y, y = Wr.enP Wr.gR Wr.MR (s.data.toList.drop j) := ⟨_, rfl⟩
      have HFE0 := hid (show RE = Wr.bindP (Wr.txtP Wr.gR Wr.MR) (fun p => Wr.bindP (Wr.yesP Wr.gR) fun f => Wr.bindP (Wr.txtP Wr.gR Wr.MR) fun t => Wr.bindP (Wr.rdG Wr.gR) fun v => Wr.pureP ⟨p, f, t, v⟩) (s.data.toList.drop j) from hRE)
      have HRE := hid hRE
      clear HT HF hRE
      have HK0 := hid (sctxtV (w.heap.size + 1) j s false _ H0.out.sc H0.out.jl HS.out)
      go_wp2_with fail
      refine HK0.out.mono ?_
      intro e w5 hv
      obtain ⟨ep, _, jA, bA, rfl, rfl, pA, hS, hjA, hg, hT, hF⟩ := hv.step (fun h => by cases h) (fun _ => HFE0.out)
      have HA := hid (H0.out.call hg hS hjA)
      have HTA := hid hT
      have HFA := hid hF
      have y0 := HA.out.cC.cell 0 rfl
      have z0 := HA.out.cC.fr 0
      clear hv hS hg hT hF HFE0 HK0 H0 c2
      go_wp2_with fail
      have HKB := hid (scyesV (w.heap.size + 1) jA s bA _ (HA.out.set 0 (.string ep)).sc (HA.out.set 0 (.string ep)).jl HS.out)
      refine HKB.out.mono ?_
      intro e w6 hv
      obtain ⟨ef, _, jB, bB, rfl, rfl, pB, hS, hjB, hg, hT, hF⟩ := hv.step HTA.out HFA.out
      have HB := hid ((HA.out.set 0 (.string ep)).call hg hS hjB)
      have HTB := hid hT
      have HFB := hid hF
      have y1 := HB.out.cC.cell 1 rfl
      have z1 := HB.out.cC.fr 1
      clear hv hS hg hT hF HKB HTA HFA HA y0 z0
      go_wp2_with fail
      have HKC := hid (sctxtV (w.heap.size + 1) jB s bB _ (HB.out.set 1 (.bool ef)).sc (HB.out.set 1 (.bool ef)).jl HS.out)
      refine HKC.out.mono ?_
      intro e w7 hv
      obtain ⟨et, _, jC, bC, rfl, rfl, pC, hS, hjC, hg, hT, hF⟩ := hv.step HTB.out HFB.out
      have HC := hid ((HB.out.set 1 (.bool ef)).call hg hS hjC)
      have HTC := hid hT
      have HFC := hid hF
      have y2 := HC.out.cC.cell 2 rfl
      have z2 := HC.out.cC.fr 2
      clear hv hS hg hT hF HKC HTB HFB HB y1 z1
      go_wp2_with fail
      have HKD := hid (scnumV (w.heap.size + 1) jC s bC _ (HC.out.set 2 (.string et)).sc (HC.out.set 2 (.string et)).jl HS.out)
      refine HKD.out.mono ?_
      intro e w8 hv
      obtain ⟨ev, _, jD, bD, rfl, rfl, pD, hS, hjD, hg, hT, hF⟩ := hv.step HTC.out HFC.out
      have HD := hid ((HC.out.set 2 (.string et)).call hg hS hjD)
      have HTD := hid hT
      have HFD := hid hF
      have y3 := HD.out.cC.cell 3 rfl
      have z3 := HD.out.cC.fr 3
      clear hv hS hg hT hF HKD HTC HFC HC y2 z2
      obtain ⟨wq, hwq⟩ : ∃ wq, wq = w8.setCell ⟨wr.heap.size, 3, none⟩ (.int .i64 ev) := ⟨_, rfl⟩
      have HG := hid (HD.out.set 3 (.int .i64 ev))
      rw [← hwq] at HG
      have y0 := HD.out.cC.cell 0 rfl
      have y1 := HD.out.cC.cell 1 rfl
      have y2 := HD.out.cC.cell 2 rfl
      go_upto_region 15 with fail
      rw [← hwq]
      clear y0 y1 y2 y3 z3
      have y0 := HG.out.cC.cell 0 rfl
      have y1 := HG.out.cC.cell 1 rfl
      have y2 := HG.out.cC.cell 2 rfl
      have y3 := HG.out.cC.cell 3 rfl
      obtain ⟨ax, lx, cx, rfl⟩ := HROW.out.shape
      have hlC : w.heap.size + 1 + 1 < wr.heap.size := HL.out.cC.lt
      have hCC := HL.out.cC.nb HG.out.fr (by omega)
      have x3 := hCC.cell 3 rfl
      have f3 := hCC.fr 3
      obtain ⟨Z, hZ1, hZ2, hZ3⟩ := HROW.out
      have hZl : Z.length = k := by rw [← hxk, ← hZ1, List.length_map]
      have hO2 := ownsRow_nbX hZ2 HG.out.fr (by omega)
      have hsz2 := HG.out.fr.size
      have HFR := hid (nb_tr HL.out.fr HG.out.fr)
      have HCH := hid (show (bD = true → RC = none) ∧ (bD = false → RC = Wr.andT (Wr.repA (Wr.enP Wr.gR Wr.MR) m (xs ++ [⟨ep, ef, et, ev⟩]) (s.data.toList.drop jD)) (F1 qe qn qr)) from ⟨fun h => by rw [HRA.out, Wr.repA_no (by rw [← HRE.out]; exact HTD.out h)]; rfl, fun h => by rw [HRA.out, Wr.repA_yes (by rw [← HRE.out, HFD.out h]; rfl)]⟩)
      have HNW := hid (en_new wq ep ef et ev)
      clear HL HROW HRA HRE HTD HFD HD hwq
      go_wp2_with (at_builtin; refine wpList_append_own _ rfl _ _ 35 rfl (w.heap.size + 1 + 1 + 1) 76 i4 (.agg #[.string ⟨#[]⟩, .bool false, .string ⟨#[]⟩, .int .i64 0]) 4 48 Tryd.underlying35 hi4 hz40 hz41 hz42 rfl (by decide) _ _ _ rfl (hO2.alloc _) ⟨wq.heap.size, 0, none⟩ 1 1 ([.string ep, .bool ef, .string et, .int .i64 ev]) rfl rfl HNW.out (by simp [Value.oneCell']) (by unfold maxLen; omega) (by omega) (by simp; omega) ?_)
      intro v5 w5' ho5 hgr5 hnn5
      have hB5 : Below (w.heap.size + 1 + 1 + 1) wq w5' := ((Below.refl _ wq).alloc (by omega) _).grown hgr5 (by simp; omega) (fun q hq => (hO2.lt q hq).1)
      have hR5 : RowV (w.heap.size + 1 + 1 + 1) 76 4 VEn (xs ++ [⟨ep, ef, et, ev⟩]) v5 w5' := by rw [← hZ1]; exact RowV.snoc (r := [.string ep, .bool ef, .string et, .int .i64 ev]) (by rw [hZl]; exact ho5) (fun z hz => ⟨(hZ3 z hz).1, (hZ3 z hz).2⟩) ⟨rfl, rfl, by simp [Value.oneCell']⟩
      obtain ⟨a5, l5, c5, rfl⟩ := hR5.shape
      have hC5 := hCC.belowAt hB5 (by omega)
      have H5 := hid (show S5 wb (w.heap.size + 1) (w.heap.size + 1 + 1) s jD bD [.int .i64 qe, .int .i64 qn, .bool qr, .slice ax lx cx, .slice none 0 0, .int .i64 0, .bool false] w5' from ⟨(hB5.block _ (by omega)).trans HG.out.sc, HG.out.jl, hC5, nb_then HFR.out (hB5.mono (by have := HSB.out; omega)), by have := HSB.out; omega, by have := HSB.out; omega⟩)
      have u3 := hC5.cell 3 rfl
      have g3 := hC5.fr 3
      have HR6 := hid (hR5.setE (g := w.heap.size + 1 + 1) (by omega) 3 (.slice a5 l5 c5))
      have H6 := hid (H5.out.set 3 (.slice a5 l5 c5))
      have HWF2 := hid (show ∀ e ∈ xs ++ [⟨ep, ef, et, ev⟩], WfE e from fun e he => by
       rcases List.mem_append.1 he with h1 | h1
       · exact HWF.out e h1
       · rw [List.mem_singleton] at h1; rw [h1]; exact ⟨pD, pA, pC⟩)
      clear ho5 hgr5 hnn5 hO2 hZ1 hZ2 hZ3 hB5 hR5 H5 hC5 hCC x3 f3 y0 y1 y2 y3
      go_wp2_with fail
      go_roundw
      case rel => exact ⟨k + 1, jD, bD, xs ++ [⟨ep, ef, et, ev⟩], _, by simp, by omega, by simp [hxk], H6, HR6, HWF2, hid HCH.out.1, hid (fun h => by rw [HCH.out.2 h, show N - (k + 1) = m from by omega])⟩
      case measure => simp [intOf]; omega
   · obtain rfl : k = N := by omega
     go_wp2_with fail
     go_meet
     case rel =>
      refine ⟨j, bd, xs, x, by omega, HL, HROW, HWF, HT, hid (fun h => ?_)⟩
      have h1 := HF.out h
      rw [Nat.sub_self, Wr.repA_zero] at h1
      exact h1
 case rest =>
  obtain ⟨j5, b5, T, x, hTl, HL, HROWT, HWFT, HT5, HF5x⟩ := hcut
  have HF5 := hid (show b5 = false → RC = Wr.bindP (Wr.cntP Wr.gR 10) (fun k2 => Wr.bindP (Wr.repP (Wr.coP Wr.gR Wr.MR) k2.toNat) fun c => F2 qe qn qr T c) (s.data.toList.drop j5) from fun h => by rw [HF5x.out h, HF1F.out])
  obtain ⟨at_, lt_, ct_, rfl⟩ := HROWT.out.shape
  clear H4 HROW0 HT4 HF4 HF5x
  go_wp2_with fail
  refine (sccntV (w.heap.size + 1) j5 10 s b5 _ HL.out.sc HL.out.jl HS.out (by decide)).mono ?_
  intro e w6 hv
  obtain ⟨n6, _, j6, b6, rfl, rfl, ⟨hn0, hn1⟩, hS, hj6, hg, hT, hF⟩ := hv.step HT5.out HF5.out
  obtain ⟨M, rfl⟩ : ∃ M : Nat, n6 = M := ⟨n6.toNat, by omega⟩
  have H6 := hid (HL.out.call hg hS hj6)
  have HRT6 := hid (HROWT.out.nb hg (by omega) (fun _ _ h => h))
  have HT6 := hid hT
  have HF6 := hid (show b6 = false → RC = Wr.andT (Wr.repA (Wr.coP Wr.gR Wr.MR) (M - 0) [] (s.data.toList.drop j6)) (F2 qe qn qr T) from fun h => by rw [hF h, Int.toNat_natCast, Nat.sub_zero, Wr.andT_rep])
  have hM10 : M ≤ 10 := by omega
  have HROW0 := hid (show RowO (w.heap.size + 1 + 1 + 1) [] (.slice none 0 0) w6 from rowV_nil _ _ _ _ _)
  clear hv hS hg hT hF HT5 HF5 HL HROWT hn0 hn1
  go_upto_block 2 with fail
  go_cut [9] from 62 to 90 (fun i W => ∃ (j : Nat) (bd : Bool) (xs : List Co) (x : Value), xs.length ≤ 10 ∧ Hid (S5 wb (w.heap.size + 1) (w.heap.size + 1 + 1) s j bd [.int .i64 qe, .int .i64 qn, .bool qr, .slice at_ lt_ ct_, x, .int .i64 0, .bool false] W) ∧ Hid (RowO (w.heap.size + 1 + 1 + 1) xs x W) ∧ Hid (RowV (w.heap.size + 1 + 1 + 1) 76 4 VEn T (.slice at_ lt_ ct_) W) ∧ Hid (∀ e ∈ xs, WfOX e) ∧ Hid (bd = true → RC = none) ∧ Hid (bd = false → RC = F2 qe qn qr T xs (s.data.toList.drop j)))
  case first =>
   go_wp2_with fail
   go_loopw [9] (fun i wr => ∃ (k j : Nat) (bd : Bool) (xs : List Co) (x : Value), i = .int .i64 k ∧ k ≤ M ∧ xs.length = k ∧ Hid (S5 wb (w.heap.size + 1) (w.heap.size + 1 + 1) s j bd [.int .i64 qe, .int .i64 qn, .bool qr, .slice at_ lt_ ct_, x, .int .i64 0, .bool false] wr) ∧ Hid (RowO (w.heap.size + 1 + 1 + 1) xs x wr) ∧ Hid (RowV (w.heap.size + 1 + 1 + 1) 76 4 VEn T (.slice at_ lt_ ct_) wr) ∧ Hid (∀ e ∈ xs, WfOX e) ∧ Hid (bd = true → RC = none) ∧ Hid (bd = false → RC = Wr.andT (Wr.repA (Wr.coP Wr.gR Wr.MR) (M - k) xs (s.data.toList.drop j)) (F2 qe qn qr T))) (fun i _ => M - (intOf i).toNat)
   case atStart => exact ⟨0, j6, b6, [], .slice none 0 0, rfl, Nat.zero_le _, rfl, H6, HROW0, HRT6, hid (fun e he => by cases he), HT6, HF6⟩
   case round =>
    obtain ⟨k, j, bd, xs, x, rfl, hk, hxk, HL, HROW, HRT, HWF, HT, HF⟩ := hrel
    clear H6 HROW0 HT6 HF6 HRT6
    have c2 := HL.out.sc.cs.cell 2 rfl
    by_cases hlt : k < M
    · cases hbd : bd with
      | true =>
       rw [hbd] at c2
       go_wp2_with fail
       go_meet
       case rel => exact ⟨j, bd, xs, x, by omega, HL, HROW, HRT, HWF, HT, hid (fun h => by rw [hbd] at h; cases h)⟩
      | false =>
       rw [hbd] at c2
       obtain ⟨m, hm⟩ : ∃ m, M - k = m + 1 := ⟨M - k - 1, by omega⟩
       have HRA := hid (HF.out hbd)
       rw [hm] at HRA
       have H0 := hid (s5_new zco 78 HL.out.sc HL.out.jl)
       rw [hbd] at H0
       obtain ⟨RE, hRE⟩ : ∃ y, y = Wr.coP Wr.gR Wr.MR (s.data.toList.drop j) := ⟨_, rfl⟩
       have HFE0 := hid (show RE = Wr.bindP (Wr.rdG Wr.gR) (fun n => Wr.bindP (Wr.txtP Wr.gR Wr.MR) fun k => Wr.bindP (Wr.lstP Wr.gR 20 (Wr.chP Wr.gR Wr.MR)) fun cs => Wr.pureP ⟨n, k, cs⟩) (s.data.toList.drop j) from hRE)
       have HRE := hid hRE
       clear HT HF hRE
       have HK0 := hid (scnumV (w.heap.size + 1) j s false _ H0.out.sc H0.out.jl HS.out)
       go_wp2_with fail
       refine HK0.out.mono ?_
       intro e w7 hv
       obtain ⟨en, _, jA, bA, rfl, rfl, pA, hS, hjA, hg, hT, hF⟩ := hv.step (fun h => by cases h) (fun _ => HFE0.out)
       have HA := hid (H0.out.call hg hS hjA)
       have HTA := hid hT
       have HFA := hid hF
       have y0 := HA.out.cC.cell 0 rfl
       have z0 := HA.out.cC.fr 0
       clear hv hS hg hT hF HFE0 HK0 H0 c2
       go_wp2_with fail
       have HKB := hid (sctxtV (w.heap.size + 1) jA s bA _ (HA.out.set 0 (.int .i64 en)).sc (HA.out.set 0 (.int .i64 en)).jl HS.out)
       refine HKB.out.mono ?_
       intro e w8 hv
       obtain ⟨ek, _, jB, bB, rfl, rfl, pB, hS, hjB, hg, hT, hF⟩ := hv.step HTA.out HFA.out
       have HB := hid ((HA.out.set 0 (.int .i64 en)).call hg hS hjB)
       have HTB := hid hT
       have HFB := hid hF
       have y1 := HB.out.cC.cell 1 rfl
       have z1 := HB.out.cC.fr 1
       clear hv hS hg hT hF HKB HTA HFA HA y0 z0
       go_wp2_with fail
       have HKD := hid (scchsV (w.heap.size + 1) jB s bB _ (HB.out.set 1 (.string ek)).sc (HB.out.set 1 (.string ek)).jl HS.out)
       refine HKD.out.mono ?_
       intro e w9 hv
       obtain ⟨es, vc, jD, bD, rfl, hrow, pD, hS, hjD, hg, hT, hF⟩ := hv.step HTB.out HFB.out
       have HD := hid ((HB.out.set 1 (.string ek)).call hg hS hjD)
       have HTD := hid hT
       have HFD := hid hF
       have y2 := HD.out.cC.cell 2 rfl
       have z2 := HD.out.cC.fr 2
       have hbs := (HB.out.set 1 (.string ek)).cC.lt
       clear hv hS hg hT hF HKD HTB HFB HB y1 z1
       obtain ⟨av, lv, cv, rfl⟩ := hrow.shape
       obtain ⟨wq, hwq⟩ : ∃ wq, wq = w9.setCell ⟨wr.heap.size, 2, none⟩ (.slice av lv cv) := ⟨_, rfl⟩
       have HG := hid (HD.out.set 2 (.slice av lv cv))
       rw [← hwq] at HG
       have hlC : w.heap.size + 1 + 1 < wr.heap.size := HL.out.cC.lt
       have HVC := hid (show VCo (w.heap.size + 1 + 1 + 1) ⟨en, ek, es⟩ [.int .i64 en, .string ek, .slice av lv cv] wq from ⟨_, rfl, by rw [hwq]; exact (hrow.setC hbs 2 (.slice av lv cv)).low (by simp at hbs ⊢; omega)⟩)
       have y0 := HD.out.cC.cell 0 rfl
       have y1 := HD.out.cC.cell 1 rfl
       go_upto_region 24 with fail
       rw [← hwq]
       clear y0 y1 y2 z2 hrow hbs
       have y0 := HG.out.cC.cell 0 rfl
       have y1 := HG.out.cC.cell 1 rfl
       have y2 := HG.out.cC.cell 2 rfl
       obtain ⟨ax, lx, cx, rfl⟩ := HROW.out.shape
       have hCC := HL.out.cC.nb HG.out.fr (by omega)
       have x4 := hCC.cell 4 rfl
       have f4 := hCC.fr 4
       obtain ⟨Z, hZ1, hZ2, hZ3⟩ := HROW.out
       have hZl : Z.length = k := by rw [← hxk, ← hZ1, List.length_map]
       have hO2 := ownsRow_nbX hZ2 HG.out.fr (by omega)
       have hsz2 := HG.out.fr.size
       have HFR := hid (nb_tr HL.out.fr HG.out.fr)
       have HGF := hid HG.out.fr
       have HCH := hid (show (bD = true → RC = none) ∧ (bD = false → RC = Wr.andT (Wr.repA (Wr.coP Wr.gR Wr.MR) m (xs ++ [⟨en, ek, es⟩]) (s.data.toList.drop jD)) (F2 qe qn qr T)) from ⟨fun h => by rw [HRA.out, Wr.repA_no (by rw [← HRE.out]; exact HTD.out h)]; rfl, fun h => by rw [HRA.out, Wr.repA_yes (by rw [← HRE.out, HFD.out h]; rfl)]⟩)
       have HNW := hid (rlo_new wq en ek (.slice av lv cv))
       clear HL HROW HRA HRE HTD HFD HD hwq
       go_wp2_with (at_builtin; refine wpList_append_own _ rfl _ _ 36 rfl (w.heap.size + 1 + 1 + 1) 78 i3 (.agg #[.int .i64 0, .string ⟨#[]⟩, .slice none 0 0]) 3 48 Tryd.underlying36 hi3 hz30 hz31 hz32 rfl (by decide) _ _ _ rfl (hO2.alloc _) ⟨wq.heap.size, 0, none⟩ 1 1 ([.int .i64 en, .string ek, .slice av lv cv]) rfl rfl HNW.out (by simp [Value.oneCell']) (by unfold maxLen; omega) (by omega) (by simp; omega) ?_)
       intro v5 w5' ho5 hgr5 hnn5
       have hB5 : Below (w.heap.size + 1 + 1 + 1) wq w5' := ((Below.refl _ wq).alloc (by omega) _).grown hgr5 (by simp; omega) (fun q hq => (hO2.lt q hq).1)
       have hR5 : RowO (w.heap.size + 1 + 1 + 1) (xs ++ [⟨en, ek, es⟩]) v5 w5' := by rw [← hZ1]; exact RowV.snoc (r := [.int .i64 en, .string ek, .slice av lv cv]) (by rw [hZl]; exact ho5) (fun z hz => ⟨(((hZ3 z hz).1.nb HGF.out (by omega)).below (below_alloc wq _)).apart (hO2.alloc _) (by decide) hgr5, (hZ3 z hz).2⟩) ⟨(HVC.out.below (below_alloc wq _)).apart (hO2.alloc _) (by decide) hgr5, rfl, by simp [Value.oneCell']⟩
       have hT5 := ((rowV_below (HRT.out.nb HGF.out (by omega) (fun _ _ h => h)) (below_alloc wq _) (fun _ _ h => h)).apartE (hO2.alloc _) (by decide) hgr5)
       obtain ⟨a5, l5, c5, rfl⟩ := hR5.shape
       have hC5 := hCC.belowAt hB5 (by omega)
       have H5 := hid (show S5 wb (w.heap.size + 1) (w.heap.size + 1 + 1) s jD bD [.int .i64 qe, .int .i64 qn, .bool qr, .slice at_ lt_ ct_, .slice ax lx cx, .int .i64 0, .bool false] w5' from ⟨(hB5.block _ (by omega)).trans HG.out.sc, HG.out.jl, hC5, nb_then HFR.out (hB5.mono (by have := HSB.out; omega)), by have := HSB.out; omega, by have := HSB.out; omega⟩)
       have u4 := hC5.cell 4 rfl
       have g4 := hC5.fr 4
       have HR6 := hid (hR5.setC (g := w.heap.size + 1 + 1) (by omega) 4 (.slice a5 l5 c5))
       have HRT2 := hid (hT5.setE (g := w.heap.size + 1 + 1) (by omega) 4 (.slice a5 l5 c5))
       have H6 := hid (H5.out.set 4 (.slice a5 l5 c5))
       have HWF2 := hid (show ∀ e ∈ xs ++ [⟨en, ek, es⟩], WfOX e from fun e he => by
        rcases List.mem_append.1 he with h1 | h1
        · exact HWF.out e h1
        · rw [List.mem_singleton] at h1; rw [h1]; exact ⟨⟨pA, pB, pD.2⟩, pD.1⟩)
       clear ho5 hgr5 hnn5 hO2 hZ1 hZ2 hZ3 hB5 hR5 H5 hC5 hCC hT5 x4 f4 y0 y1 y2
       go_wp2_with fail
       go_roundw
       case rel => exact ⟨k + 1, jD, bD, xs ++ [⟨en, ek, es⟩], _, by simp, by omega, by simp [hxk], H6, HR6, HRT2, HWF2, hid HCH.out.1, hid (fun h => by rw [HCH.out.2 h, show M - (k + 1) = m from by omega])⟩
       case measure => simp [intOf]; omega
    · obtain rfl : k = M := by omega
      go_wp2_with fail
      go_meet
      case rel =>
       refine ⟨j, bd, xs, x, by omega, HL, HROW, HRT, HWF, HT, hid (fun h => ?_)⟩
       have h1 := HF.out h
       rw [Nat.sub_self, Wr.repA_zero] at h1
       exact h1
  case rest =>
   obtain ⟨j7, b7, Cs_, x, hCl, HL, HROWC, HROWT, HWFC, HT7, HF7x⟩ := hcut
   have HF7 := hid (show b7 = false → RC = Wr.bindP (Wr.rdG Wr.gR) (fun u => Wr.bindP (Wr.yesP Wr.gR) fun o => Wr.pureP ⟨qe, qn, ⟨qr, T, Cs_, u, o⟩⟩) (s.data.toList.drop j7) from fun h => by rw [HF7x.out h, HF2F.out])
   obtain ⟨ac_, lc_, cc_, rfl⟩ := HROWC.out.shape
   clear H6 HROW0 HT6 HF6 HF7x HRT6
   go_wp2_with fail
   refine (scnumV (w.heap.size + 1) j7 s b7 _ HL.out.sc HL.out.jl HS.out).mono ?_
   intro e w8 hv
   obtain ⟨qu, _, j8, b8, rfl, rfl, p8, hS, hj8, hg, hT, hF⟩ := hv.step HT7.out HF7.out
   have H8 := hid (HL.out.call hg hS hj8)
   have HRT8 := hid ((HROWT.out.nb hg (by omega) (fun _ _ h => h)).setE (g := w.heap.size + 1 + 1) (by omega) 5 (.int .i64 qu))
   have HRC8 := hid ((HROWC.out.nb hg (by omega)).setC (g := w.heap.size + 1 + 1) (by omega) 5 (.int .i64 qu))
   have HT8 := hid hT
   have HF8 := hid hF
   have y5 := H8.out.cC.cell 5 rfl
   have z5 := H8.out.cC.fr 5
   clear hv hS hg hT hF HT7 HF7 HL HROWT HROWC
   go_wp2_with fail
   refine (scyesV (w.heap.size + 1) j8 s b8 _ (H8.out.set 5 (.int .i64 qu)).sc (H8.out.set 5 (.int .i64 qu)).jl HS.out).mono ?_
   intro e w9 hv
   obtain ⟨qo, _, j10, b10, rfl, rfl, p9, hS, hj10, hg, hT, hF⟩ := hv.step HT8.out HF8.out
   have H10 := hid ((H8.out.set 5 (.int .i64 qu)).call hg hS hj10)
   have HRT10 := hid (HRT8.out.nb hg (by omega) (fun _ _ h => h))
   have HRC10 := hid (HRC8.out.nb hg (by omega))
   have HT10 := hid hT
   have HF10 := hid hF
   have y6 := H10.out.cC.cell 6 rfl
   have z6 := H10.out.cC.fr 6
   clear hv hS hg hT hF HT8 HF8 H8 y5 z5 HRT8 HRC8
   obtain ⟨wq, hwq⟩ : ∃ wq, wq = w9.setCell ⟨w.heap.size + 1 + 1, 6, none⟩ (.bool qo) := ⟨_, rfl⟩
   have HG := hid (H10.out.set 6 (.bool qo))
   have HRT := hid (HRT10.out.setE (g := w.heap.size + 1 + 1) (by omega) 6 (.bool qo))
   have HRO := hid (HRC10.out.setC (g := w.heap.size + 1 + 1) (by omega) 6 (.bool qo))
   rw [← hwq] at HG HRT HRO
   clear HRT10 HRC10
   obtain ⟨q, hq⟩ : ∃ q : An, q = ⟨qe, qn, ⟨qr, T, Cs_, qu, qo⟩⟩ := ⟨_, rfl⟩
   have HQQ := hid hq
   have HAV := hid (show AnV (w.heap.size + 1 + 1 + 1) q (.agg #[.int .i64 qe, .int .i64 qn, .bool qr, .slice at_ lt_ ct_, .slice ac_ lc_ cc_, .int .i64 qu, .bool qo]) wq from ⟨_, _, by rw [hq], by rw [hq]; exact HRT.out, by rw [hq]; exact HRO.out⟩)
   have HLA := hid (HAV.out.lies (by rw [hq]; simp only; omega) (by rw [hq]; simp only; omega) (fun c hc => by rw [hq] at hc; have := (HWFC.out c hc).2; omega))
   have HWA := hid (show WfA q from by rw [hq]; exact ⟨p1, p2, p8, HWFT.out, fun c hc => (HWFC.out c hc).1⟩)
   have HQ := hid (And.intro (show b10 = true → RC = none from HT10.out) (show b10 = false → RC = some (q, s.data.toList.drop j10) from fun h => by rw [HF10.out h, hq]; rfl))
   have HAO := hid (tellOf_any q _ wq HLA.out HWA.out)
   have y0 := H10.out.cC.cell 0 rfl
   have y1 := H10.out.cC.cell 1 rfl
   have y2 := H10.out.cC.cell 2 rfl
   have y3 := H10.out.cC.cell 3 rfl
   have y4 := H10.out.cC.cell 4 rfl
   have y5 := H10.out.cC.cell 5 rfl
   clear hq HT10 HF10 H10 HRT HRO HLA HWA
   obtain ⟨tx, htx⟩ : ∃ t, t = (Wr.fin (Wr.run Wr.e0 (Wr.anI q))).1 := ⟨_, rfl⟩
   obtain ⟨er, her⟩ : ∃ e0, e0 = (Wr.fin (Wr.run Wr.e0 (Wr.anI q))).2 := ⟨_, rfl⟩
   rw [← htx, ← her] at HAO
   have HER := hid her
   clear htx her
   go_upto_region 27 with fail
   rw [← hwq]
   clear y0 y1 y2 y3 y4 y5 y6 z6 hwq
   have y0 := HG.out.cC.cell 0 rfl
   have y1 := HG.out.cC.cell 1 rfl
   have y2 := HG.out.cC.cell 2 rfl
   have y3 := HG.out.cC.cell 3 rfl
   have y4 := HG.out.cC.cell 4 rfl
   have y5 := HG.out.cC.cell 5 rfl
   have y6 := HG.out.cC.cell 6 rfl
   go_wp2_with fail
   refine HAO.out.mono ?_
   rintro e w11 ⟨rfl, hb11⟩
   have hsc := HG.out.sc.below hb11
   have hcR := (HCR.out wq HG.out.fr).below hb11
   have HBL := hid ((HLW.out wq HG.out.fr).trans (hb11.mono (HLW.out wq HG.out.fr).size))
   have HRQ := hid ((HAV.out.below hb11).low (B' := w.heap.size + 1 + 1) (by omega))
   have hcC := HG.out.cC.below hb11
   have c1 := hsc.cs.cell 1 rfl
   have c2 := hsc.cs.cell 2 rfl
   have k0 := hcC.cell 0 rfl
   have r0 := hcR.cell 0 rfl
   have x0 := hcR.fr 0
   have k1 := hcC.cell 1 rfl
   have r1 := hcR.cell 1 rfl
   have x1 := hcR.fr 1
   have k2 := hcC.cell 2 rfl
   have r2 := hcR.cell 2 rfl
   have x2 := hcR.fr 2
   have k3 := hcC.cell 3 rfl
   have r3 := hcR.cell 3 rfl
   have x3 := hcR.fr 3
   have k4 := hcC.cell 4 rfl
   have r4 := hcR.cell 4 rfl
   have x4 := hcR.fr 4
   have k5 := hcC.cell 5 rfl
   have r5 := hcR.cell 5 rfl
   have x5 := hcR.fr 5
   have k6 := hcC.cell 6 rfl
   have r6 := hcR.cell 6 rfl
   have x6 := hcR.fr 6
   have e9 := Nat.le_refl w.heap.size
   have hB0 : w.heap.size < w.heap.size + 1 + 1 := by omega
   have HBAD := hid (show (b10 = true ∨ ¬ j10 = s.size ∨ ¬ er = 0) → W0 = none from fun hx => by
    cases hw : W0 with
    | none => rfl
    | some q' =>
     have hw' := HW0.out.symm.trans hw
     obtain ⟨k1, k2⟩ := Wr.toldR_iff hw'
     rw [← HRC.out] at k1
     rcases hx with hx | hx
     · rw [HQ.out.1 hx] at k1; cases k1
     · cases hb : b10 with
       | true => rw [HQ.out.1 hb] at k1; cases k1
       | false =>
        rw [HQ.out.2 hb] at k1
        simp only [Option.some.injEq, Prod.mk.injEq] at k1
        rcases hx with hx | hx
        · have h1 := congrArg List.length k1.2
          rw [List.length_drop, ← Lib.size_eq] at h1
          simp only [List.length_nil] at h1
          have := HG.out.jl
          exact absurd (by omega) hx
        · rw [HER.out, k1.1] at hx; exact absurd k2 hx)
   clear hsc hcR hcC hb11 HAO y0 y1 y2 y3 y4 y5 y6
   cases hb : b10 with
   | true =>
    have HNO := hid (HBAD.out (Or.inl hb))
    rw [hb] at c2
    go_wp2_with fail
    refine bodyPost_ret (v := .tuple #[.agg zan.toArray, .int .i64 1]) (by simp [results, Tryd.results18, go_sem, r0, r1, r2, r3, r4, r5, r6]) rfl ⟨?_, ?_⟩
    · rw [HNO.out]; rfl
    · exact (HBL.out |>.setCell (p := ⟨w.heap.size, 0, none⟩) e9 _ |>.setCell (p := ⟨w.heap.size, 1, none⟩) e9 _ |>.setCell (p := ⟨w.heap.size, 2, none⟩) e9 _ |>.setCell (p := ⟨w.heap.size, 3, none⟩) e9 _ |>.setCell (p := ⟨w.heap.size, 4, none⟩) e9 _ |>.setCell (p := ⟨w.heap.size, 5, none⟩) e9 _ |>.setCell (p := ⟨w.heap.size, 6, none⟩) e9 _)
   | false =>
   rw [hb] at c2
   by_cases hj : j10 = s.size
   · by_cases he : er = 0
     · have n1 : ((j10 : Int) != s.size) = false := by rw [hj]; simp
       have n2 : (er != 0) = false := by rw [he]; rfl
       have HYES := hid (show W0 = some q from by
        rw [HW0.out]
        refine Wr.toldR_some ?_ (by rw [← HER.out]; exact he)
        rw [← HRC.out, HQ.out.2 hb, hj, List.drop_eq_nil_of_le (by rw [← Lib.size_eq]; exact Nat.le_refl _)])
       clear HBAD hj he
       go_wp2_with fail
       refine bodyPost_ret (v := .tuple #[.agg #[.int .i64 qe, .int .i64 qn, .bool qr, .slice at_ lt_ ct_, .slice ac_ lc_ cc_, .int .i64 qu, .bool qo], .int .i64 0]) (by simp [results, Tryd.results18, go_sem, r0, r1, r2, r3, r4, r5, r6]) rfl ⟨?_, ?_⟩
       · rw [HYES.out]
         exact ⟨_, rfl, (HRQ.out |>.set hB0 0 _ |>.set hB0 1 _ |>.set hB0 2 _ |>.set hB0 3 _ |>.set hB0 4 _ |>.set hB0 5 _ |>.set hB0 6 _).low (by omega)⟩
       · exact (HBL.out |>.setCell (p := ⟨w.heap.size, 0, none⟩) e9 _ |>.setCell (p := ⟨w.heap.size, 1, none⟩) e9 _ |>.setCell (p := ⟨w.heap.size, 2, none⟩) e9 _ |>.setCell (p := ⟨w.heap.size, 3, none⟩) e9 _ |>.setCell (p := ⟨w.heap.size, 4, none⟩) e9 _ |>.setCell (p := ⟨w.heap.size, 5, none⟩) e9 _ |>.setCell (p := ⟨w.heap.size, 6, none⟩) e9 _)
     · have n1 : ((j10 : Int) != s.size) = false := by rw [hj]; simp
       have n2 : (er != 0) = true := by simpa using he
       have HNO := hid (HBAD.out (Or.inr (Or.inr he)))
       clear HBAD hj he
       go_wp2_with fail
       refine bodyPost_ret (v := .tuple #[.agg zan.toArray, .int .i64 1]) (by simp [results, Tryd.results18, go_sem, r0, r1, r2, r3, r4, r5, r6]) rfl ⟨?_, ?_⟩
       · rw [HNO.out]; rfl
       · exact (HBL.out |>.setCell (p := ⟨w.heap.size, 0, none⟩) e9 _ |>.setCell (p := ⟨w.heap.size, 1, none⟩) e9 _ |>.setCell (p := ⟨w.heap.size, 2, none⟩) e9 _ |>.setCell (p := ⟨w.heap.size, 3, none⟩) e9 _ |>.setCell (p := ⟨w.heap.size, 4, none⟩) e9 _ |>.setCell (p := ⟨w.heap.size, 5, none⟩) e9 _ |>.setCell (p := ⟨w.heap.size, 6, none⟩) e9 _)
   · have n1 : ((j10 : Int) != s.size) = true := by simp; omega
     have HNO := hid (HBAD.out (Or.inr (Or.inl hj)))
     clear HBAD hj
     go_wp2_with fail
     refine bodyPost_ret (v := .tuple #[.agg zan.toArray, .int .i64 1]) (by simp [results, Tryd.results18, go_sem, r0, r1, r2, r3, r4, r5, r6]) rfl ⟨?_, ?_⟩
     · rw [HNO.out]; rfl
     · exact (HBL.out |>.setCell (p := ⟨w.heap.size, 0, none⟩) e9 _ |>.setCell (p := ⟨w.heap.size, 1, none⟩) e9 _ |>.setCell (p := ⟨w.heap.size, 2, none⟩) e9 _ |>.setCell (p := ⟨w.heap.size, 3, none⟩) e9 _ |>.setCell (p := ⟨w.heap.size, 4, none⟩) e9 _ |>.setCell (p := ⟨w.heap.size, 5, none⟩) e9 _ |>.setCell (p := ⟨w.heap.size, 6, none⟩) e9 _)
end Go.Proofs.YthgjdgpjkcmcdaaDoor
namespace Go.Proofs.YthgjdgpjkcmcdaaDoor
open Go.RowKit

set_option maxHeartbeats 1000000 in
theorem same_yes (L : List En) (v u : Value) (w : World) (hv : Lies w v L) (hu : Lies w u L) :
    Calls Tryd.prog 73 #[v, u] w fun e w' => e = .returned (.bool true) ∧ Below w.heap.size w w' := by
 obtain ⟨a, cap, rfl, hcap, hcap2, hL⟩ := hv
 have HL : Hid (∀ i (h : i < L.length), ∃ b o, a = some ⟨b, o, none⟩ ∧ b < w.heap.size ∧ EnAt w b (o + i * 4) L[i]) := hL
 obtain ⟨a', cap', rfl, hcap', _, hL'⟩ := hu
 have HL' : Hid (∀ i (h : i < L.length), ∃ b o, a' = some ⟨b, o, none⟩ ∧ b < w.heap.size ∧ EnAt w b (o + i * 4) L[i]) := hL'
 clear hL hL'
 go_enter Tryd.func73, Tryd.ntmps73
 go_wp2_with fail
 go_loopw [5] (fun i wr => ∃ k : Nat, k ≤ L.length ∧ i = .int .i64 k ∧ Below w.heap.size w wr) (fun i _ => L.length - (intOf i).toNat)
 case atStart => exact ⟨0, Nat.zero_le _, rfl, Below.refl _ _⟩
 case round =>
  obtain ⟨k, hk, rfl, hbel⟩ := hrel
  by_cases hlt : k < L.length
  · obtain ⟨b, o, rfl, hb, he⟩ := HL.out k hlt
    obtain ⟨b', o', rfl, hb', he'⟩ := HL'.out k hlt
    obtain ⟨c0, c1, c2, c3⟩ := he.below hb hbel
    obtain ⟨d0, d1, d2, d3⟩ := he'.below hb' hbel
    go_wp2_with fail
    go_region
    go_wp2_with fail
    go_roundw
    case rel => exact ⟨k + 1, by omega, by simp, hbel.drew⟩
    case measure => simp [intOf]; omega
  · go_wp2_with fail
    go_ret
    exact ⟨rfl, hbel⟩
--@if tetherpost/tetherpostlaw.treeIs
set_option maxHeartbeats 1000000 in
theorem sameC_yes (L : List Pp.Ch) (v u : Value) (w : World) (hv : LiesC w v L) (hu : LiesC w u L) :
    Calls Tryd.prog 37 #[v, u] w fun e w' => e = .returned (.bool true) ∧ Below w.heap.size w w' := by
 obtain ⟨a, cap, rfl, hcap, hcap2, hL⟩ := hv
 have HL : Hid (∀ i (h : i < L.length), ∃ b o, a = some ⟨b, o, none⟩ ∧ b < w.heap.size ∧ ChAt w b (o + i * 5) L[i]) := hL
 obtain ⟨a', cap', rfl, hcap', _, hL'⟩ := hu
 have HL' : Hid (∀ i (h : i < L.length), ∃ b o, a' = some ⟨b, o, none⟩ ∧ b < w.heap.size ∧ ChAt w b (o + i * 5) L[i]) := hL'
 clear hL hL'
 go_enter Tryd.func37, Tryd.ntmps37
 go_wp2_with fail
 go_loopw [5] (fun i wr => ∃ k : Nat, k ≤ L.length ∧ i = .int .i64 k ∧ Below w.heap.size w wr) (fun i _ => L.length - (intOf i).toNat)
 case atStart => exact ⟨0, Nat.zero_le _, rfl, Below.refl _ _⟩
 case round =>
  obtain ⟨k, hk, rfl, hbel⟩ := hrel
  by_cases hlt : k < L.length
  · obtain ⟨b, o, rfl, hb, he⟩ := HL.out k hlt
    obtain ⟨b', o', rfl, hb', he'⟩ := HL'.out k hlt
    obtain ⟨c0, c1, c2, c3, c4⟩ := he.below hb hbel
    obtain ⟨d0, d1, d2, d3, d4⟩ := he'.below hb' hbel
    go_wp2_with fail
    go_region
    go_wp2_with fail
    go_roundw
    case rel => exact ⟨k + 1, by omega, by simp, hbel.drew⟩
    case measure => simp [intOf]; omega
  · go_wp2_with fail
    go_ret
    exact ⟨rfl, hbel⟩
set_option maxRecDepth 100000 in
set_option maxHeartbeats 4000000 in
theorem sameO_yes (L : List Co) (v u : Value) (w : World) (hv : LiesO w v L) (hu : LiesO w u L) :
    Calls Tryd.prog 74 #[v, u] w fun e w' => e = .returned (.bool true) ∧ Below w.heap.size w w' := by
 obtain ⟨a, cap, rfl, hcap, hcap2, hL⟩ := hv
 have HL : Hid (∀ i (h : i < L.length), ∃ b o, a = some ⟨b, o, none⟩ ∧ b < w.heap.size ∧ CoAt w b (o + i * 3) L[i]) := hL
 obtain ⟨a', cap', rfl, hcap', _, hL'⟩ := hu
 have HL' : Hid (∀ i (h : i < L.length), ∃ b o, a' = some ⟨b, o, none⟩ ∧ b < w.heap.size ∧ CoAt w b (o + i * 3) L[i]) := hL'
 clear hL hL'
 go_enter Tryd.func74, Tryd.ntmps74
 go_wp2_with fail
 go_loopw [5] (fun i wr => ∃ k : Nat, k ≤ L.length ∧ i = .int .i64 k ∧ Below w.heap.size w wr) (fun i _ => L.length - (intOf i).toNat)
 case atStart => exact ⟨0, Nat.zero_le _, rfl, Below.refl _ _⟩
 case round =>
  obtain ⟨k, hk, rfl, hbel⟩ := hrel
  by_cases hlt : k < L.length
  · obtain ⟨b, o, rfl, hb, he⟩ := HL.out k hlt
    obtain ⟨b', o', rfl, hb', he'⟩ := HL'.out k hlt
    obtain ⟨c0, c1, x, c2, hx⟩ := he.below hb hbel
    obtain ⟨d0, d1, y, d2, hy⟩ := he'.below hb' hbel
    have hsz := hbel.size
    have hbl : b < wr.heap.size := by omega
    have hbl' : b' < wr.heap.size := by omega
    generalize L[k] = ck at *
    obtain ⟨nu, ke, ch⟩ := ck
    simp only at c0 c1 hx d0 d1 hy
    have HX := hid hx
    have HY := hid hy
    clear hx hy he he'
    go_wp2_with fail
    go_region_held3 (fun W => W.cell? ⟨b, o + k * 3, none⟩ = some (.int .i64 nu) ∧ W.cell? ⟨b, o + k * 3 + 1, none⟩ = some (.string ke) ∧ W.cell? ⟨b, o + k * 3 + 2, none⟩ = some x ∧ W.cell? ⟨b', o' + k * 3, none⟩ = some (.int .i64 nu) ∧ W.cell? ⟨b', o' + k * 3 + 1, none⟩ = some (.string ke) ∧ W.cell? ⟨b', o' + k * 3 + 2, none⟩ = some y) (go_keep) (first
     | (go_at_call 37; refine (sameC_yes ch x y _ (HX.out.below (Below.refl _ _).drew) (HY.out.below (Below.refl _ _).drew)).mono ?_; rintro e wa ⟨rfl, hba⟩; have hza : Below wr.heap.size wr wa := ((Below.refl _ _).drew).trans hba; have j0 := (hza.cell (p := ⟨b, o + k * 3, none⟩) hbl).trans c0; have j1 := (hza.cell (p := ⟨b, o + k * 3 + 1, none⟩) hbl).trans c1; have j2 := (hza.cell (p := ⟨b, o + k * 3 + 2, none⟩) hbl).trans c2; have i0 := (hza.cell (p := ⟨b', o' + k * 3, none⟩) hbl').trans d0; have i1 := (hza.cell (p := ⟨b', o' + k * 3 + 1, none⟩) hbl').trans d1; have i2 := (hza.cell (p := ⟨b', o' + k * 3 + 2, none⟩) hbl').trans d2))
    have hb2 := below_tr hbel hza
    go_wp2_with fail
    go_roundw
    case rel => exact ⟨k + 1, by omega, by simp, hb2⟩
    case measure => simp [intOf]; omega
  · go_wp2_with fail
    go_ret
    exact ⟨rfl, hbel⟩
set_option maxRecDepth 100000 in
set_option maxHeartbeats 2000000 in
theorem samePg_yes (P : Pg) (v u : Value) (w : World) (hv : LiesPg w v P) (hu : LiesPg w u P) :
    Calls Tryd.prog 45 #[v, u] w fun e w' => e = .returned (.bool true) ∧ Below w.heap.size w w' := by
 obtain ⟨vb, vc, rfl, hvb, hvc⟩ := hv
 obtain ⟨ub, uc, rfl, hub, huc⟩ := hu
 have HVB := hid hvb
 have HVC := hid hvc
 have HUB := hid hub
 have HUC := hid huc
 obtain ⟨a1, b1, rfl, _⟩ := hvb
 obtain ⟨a2, b2, rfl, _⟩ := hvc
 obtain ⟨a3, b3, rfl, _⟩ := hub
 obtain ⟨a4, b4, rfl, _⟩ := huc
 obtain ⟨wz, hwz⟩ : ∃ wz, wz = (w.alloc (.cells #[.bool P.reset, .slice a1 P.tree.length b1, .slice a2 P.cos.length b2, .int .i64 P.cur, .bool P.more] 38)).alloc (.cells #[.bool P.reset, .slice a3 P.tree.length b3, .slice a4 P.cos.length b4, .int .i64 P.cur, .bool P.more] 38) := ⟨_, rfl⟩
 have hbz : Below w.heap.size w wz := by rw [hwz]; exact ((Below.refl _ _).alloc (Nat.le_refl _) _).alloc (by simp) _
 have HBX := hid (show Cs wz w.heap.size [.bool P.reset, .slice a1 P.tree.length b1, .slice a2 P.cos.length b2, .int .i64 P.cur, .bool P.more] from by rw [hwz]; exact (Cs.new w [.bool P.reset, .slice a1 P.tree.length b1, .slice a2 P.cos.length b2, .int .i64 P.cur, .bool P.more] _).below ((Below.refl _ _).alloc (Nat.le_refl _) _))
 have HBY := hid (show Cs wz (w.heap.size + 1) [.bool P.reset, .slice a3 P.tree.length b3, .slice a4 P.cos.length b4, .int .i64 P.cur, .bool P.more] from by
  have := Cs.new (w.alloc (.cells #[.bool P.reset, .slice a1 P.tree.length b1, .slice a2 P.cos.length b2, .int .i64 P.cur, .bool P.more] 38)) [.bool P.reset, .slice a3 P.tree.length b3, .slice a4 P.cos.length b4, .int .i64 P.cur, .bool P.more] 38
  rw [hwz]; simpa using this)
 go_enter Tryd.func45, Tryd.ntmps45
 go_wp2_with fail
 rw [← hwz]
 clear hwz
 refine (same_yes P.tree _ _ _ (HVB.out.below hbz) (HUB.out.below hbz)).mono ?_
 rintro e w1 ⟨rfl, hb1⟩
 have HX1 := hid (HBX.out.below hb1)
 have HY1 := hid (HBY.out.below hb1)
 have x2 := HX1.out.cell 2 rfl
 have y2 := HY1.out.cell 2 rfl
 have hb01 := below_tr hbz hb1
 go_wp2_with fail
 refine (sameO_yes P.cos _ _ _ (HVC.out.below hb01) (HUC.out.below hb01)).mono ?_
 rintro e w2 ⟨rfl, hb2⟩
 have x3 := (HX1.out.below hb2).cell 3 rfl
 have y3 := (HY1.out.below hb2).cell 3 rfl
 have x4 := (HX1.out.below hb2).cell 4 rfl
 have y4 := (HY1.out.below hb2).cell 4 rfl
 have hb02 := below_tr hb01 hb2
 go_wp2_with fail
 go_ret
 exact ⟨rfl, hb02⟩
set_option maxRecDepth 100000 in
set_option maxHeartbeats 4000000 in
theorem sameAnswer_yes (A : An) (v u : Value) (w : World) (hv : LiesA w v A) (hu : LiesA w u A) :
    Calls Tryd.prog 19 #[v, u] w fun e w' => e = .returned (.bool true) ∧ Below w.heap.size w w' := by
 obtain ⟨vt, vc, rfl, lt, lc⟩ := hv
 obtain ⟨ut, uc, rfl, mt, mc⟩ := hu
 have HVT := hid lt
 have HVC := hid lc
 have HUT := hid mt
 have HUC := hid mc
 obtain ⟨a1, b1, rfl, _⟩ := lt
 obtain ⟨a2, b2, rfl, _⟩ := lc
 obtain ⟨a3, b3, rfl, _⟩ := mt
 obtain ⟨a4, b4, rfl, _⟩ := mc
 obtain ⟨wa, hwa⟩ : ∃ wa, wa = w.alloc (.cells #[.int .i64 A.err, .int .i64 A.num, .bool A.pg.reset, .slice a1 A.pg.tree.length b1, .slice a2 A.pg.cos.length b2, .int .i64 A.pg.cur, .bool A.pg.more] 40) := ⟨_, rfl⟩
 obtain ⟨wz, hwz⟩ : ∃ wz, wz = wa.alloc (.cells #[.int .i64 A.err, .int .i64 A.num, .bool A.pg.reset, .slice a3 A.pg.tree.length b3, .slice a4 A.pg.cos.length b4, .int .i64 A.pg.cur, .bool A.pg.more] 40) := ⟨_, rfl⟩
 have sa1 : wa.heap.size = w.heap.size + 1 := by rw [hwa]; simp
 have bwa : Below w.heap.size w wa := by rw [hwa]; exact (Below.refl _ _).alloc (Nat.le_refl _) _
 have bwz : Below wa.heap.size wa wz := by rw [hwz]; exact (Below.refl _ _).alloc (Nat.le_refl _) _
 have hbz : Below w.heap.size w wz := below_tr bwa bwz
 have HBX : Hid (Cs wz w.heap.size [.int .i64 A.err, .int .i64 A.num, .bool A.pg.reset, .slice a1 A.pg.tree.length b1, .slice a2 A.pg.cos.length b2, .int .i64 A.pg.cur, .bool A.pg.more]) := ((by rw [hwa]; exact Cs.new w [.int .i64 A.err, .int .i64 A.num, .bool A.pg.reset, .slice a1 A.pg.tree.length b1, .slice a2 A.pg.cos.length b2, .int .i64 A.pg.cur, .bool A.pg.more] _ : Cs wa w.heap.size [.int .i64 A.err, .int .i64 A.num, .bool A.pg.reset, .slice a1 A.pg.tree.length b1, .slice a2 A.pg.cos.length b2, .int .i64 A.pg.cur, .bool A.pg.more]).below bwz : Cs wz w.heap.size _)
 have HBY : Hid (Cs wz (w.heap.size + 1) [.int .i64 A.err, .int .i64 A.num, .bool A.pg.reset, .slice a3 A.pg.tree.length b3, .slice a4 A.pg.cos.length b4, .int .i64 A.pg.cur, .bool A.pg.more]) := (by rw [← sa1, hwz]; exact Cs.new wa [.int .i64 A.err, .int .i64 A.num, .bool A.pg.reset, .slice a3 A.pg.tree.length b3, .slice a4 A.pg.cos.length b4, .int .i64 A.pg.cur, .bool A.pg.more] _ : Cs wz (w.heap.size + 1) _)
 have hwzz : (w.alloc (.cells #[.int .i64 A.err, .int .i64 A.num, .bool A.pg.reset, .slice a1 A.pg.tree.length b1, .slice a2 A.pg.cos.length b2, .int .i64 A.pg.cur, .bool A.pg.more] 40)).alloc (.cells #[.int .i64 A.err, .int .i64 A.num, .bool A.pg.reset, .slice a3 A.pg.tree.length b3, .slice a4 A.pg.cos.length b4, .int .i64 A.pg.cur, .bool A.pg.more] 40) = wz := by rw [hwz, hwa]
 have HWZ := hid hwzz
 clear hwa hwz bwa bwz sa1 hwzz
 have x0 := HBX.out.cell 0 rfl
 have x1 := HBX.out.cell 1 rfl
 have x2 := HBX.out.cell 2 rfl
 have x3 := HBX.out.cell 3 rfl
 have x4 := HBX.out.cell 4 rfl
 have x5 := HBX.out.cell 5 rfl
 have x6 := HBX.out.cell 6 rfl
 have y0 := HBY.out.cell 0 rfl
 have y1 := HBY.out.cell 1 rfl
 have y2 := HBY.out.cell 2 rfl
 have y3 := HBY.out.cell 3 rfl
 have y4 := HBY.out.cell 4 rfl
 have y5 := HBY.out.cell 5 rfl
 have y6 := HBY.out.cell 6 rfl
 go_enter Tryd.func19, Tryd.ntmps19
 go_upto_region 1 with fail
 rw [HWZ.out]
 clear HWZ
 go_wp2_with fail
 refine (samePg_yes A.pg _ _ _ ⟨_, _, rfl, HVT.out.below hbz, HVC.out.below hbz⟩ ⟨_, _, rfl, HUT.out.below hbz, HUC.out.below hbz⟩).mono ?_
 rintro e w1 ⟨rfl, hb1⟩
 have hb01 := below_tr hbz hb1
 go_wp2_with fail
 go_ret
 exact ⟨rfl, hb01⟩
def zeroAn : An := ⟨0, 0, ⟨false, [], [], 0, false⟩⟩
/-- What was read of a text, as a value that lies there. -/
theorem wha_lies {l : List UInt8} {B : Nat} {e : Ending} {W : World} (h : WhPost (Wr.whole (Wr.anP Wr.gN 1000 l)) (.agg zan.toArray) (AnV B) e W) :
    ∃ a c a2 c2, e = .returned (.tuple #[.agg #[.int .i64 ((Wr.whole (Wr.anP Wr.gN 1000 l)).getD zeroAn).err, .int .i64 ((Wr.whole (Wr.anP Wr.gN 1000 l)).getD zeroAn).num, .bool ((Wr.whole (Wr.anP Wr.gN 1000 l)).getD zeroAn).pg.reset, .slice a ((Wr.whole (Wr.anP Wr.gN 1000 l)).getD zeroAn).pg.tree.length c, .slice a2 ((Wr.whole (Wr.anP Wr.gN 1000 l)).getD zeroAn).pg.cos.length c2, .int .i64 ((Wr.whole (Wr.anP Wr.gN 1000 l)).getD zeroAn).pg.cur, .bool ((Wr.whole (Wr.anP Wr.gN 1000 l)).getD zeroAn).pg.more], .int .i64 (if (Wr.whole (Wr.anP Wr.gN 1000 l)).isSome then 0 else 1)]) ∧ Lies W (.slice a ((Wr.whole (Wr.anP Wr.gN 1000 l)).getD zeroAn).pg.tree.length c) ((Wr.whole (Wr.anP Wr.gN 1000 l)).getD zeroAn).pg.tree ∧ LiesO W (.slice a2 ((Wr.whole (Wr.anP Wr.gN 1000 l)).getD zeroAn).pg.cos.length c2) ((Wr.whole (Wr.anP Wr.gN 1000 l)).getD zeroAn).pg.cos := by
 cases hr : (Wr.whole (Wr.anP Wr.gN 1000 l)) with
 | none =>
  rw [hr] at h
  exact ⟨none, 0, none, 0, h, ⟨none, 0, rfl, Nat.le_refl _, by simp [zeroAn], fun i hi => absurd hi (by simp [zeroAn])⟩, liesO_nil W⟩
 | some q =>
  rw [hr] at h
  obtain ⟨v, rfl, hq⟩ := h
  have hok := (Wr.ok_an q).1 (Wr.whole_an.1 hr).1
  obtain ⟨vt, vc, rfl, hT, hO⟩ := hq.lies (by have := hok.p.t.1; omega) (by have := hok.p.o.1; omega) (fun c hc => by have := (hok.p.o.2 c hc).c.1; omega)
  have hT' := hT
  obtain ⟨a, c, rfl, _⟩ := hT'
  obtain ⟨a2, c2, rfl⟩ := liesO_shape hO
  exact ⟨a, c, a2, c2, rfl, hT, hO⟩
set_option maxHeartbeats 1000000 in
theorem wireTolds_walk (s : ByteArray) (w : World) (hs : s.size ≤ MaxL) (h6 : 5 < w.heap.size) (hv : VarsW w) :
    Calls Tryd.prog 6 #[.string s] w fun e w' => e = .returned (.bool true) ∧ Below w.heap.size w w' := by
 have HA := hid (told_any s w hs h6 hv)
 have HV := hid (fun W (hW : Below w.heap.size w W) => hv.belowB h6 hW)
 have HS := hid hs
 clear hv hs
 go_enter Tryd.func6, Tryd.ntmps6
 go_wp2_with fail
 refine HA.out.mono ?_
 rintro e w1 ⟨hp, hb1⟩
 obtain ⟨a, c, a2, c2, rfl, hL, hM⟩ := wha_lies hp
 obtain ⟨E, hE⟩ : ∃ E : Int, E = if (Wr.whole (Wr.anP Wr.gN 1000 s.data.toList)).isSome then 0 else 1 := ⟨_, rfl⟩
 obtain ⟨q, hq⟩ : ∃ q : An, q = (Wr.whole (Wr.anP Wr.gN 1000 s.data.toList)).getD zeroAn := ⟨_, rfl⟩
 have HE := hid (And.intro hE hq)
 rw [← hE, ← hq]
 rw [← hq] at hL hM
 obtain ⟨wa, hwa⟩ : ∃ wa, wa = w1.alloc (.cells #[.int .i64 q.err, .int .i64 q.num, .bool q.pg.reset, .slice a q.pg.tree.length c, .slice a2 q.pg.cos.length c2, .int .i64 q.pg.cur, .bool q.pg.more] 40) := ⟨_, rfl⟩
 have hba : Below w1.heap.size w1 wa := by rw [hwa]; exact below_alloc _ _
 have HC1 := hid (show Cs wa w1.heap.size [.int .i64 q.err, .int .i64 q.num, .bool q.pg.reset, .slice a q.pg.tree.length c, .slice a2 q.pg.cos.length c2, .int .i64 q.pg.cur, .bool q.pg.more] by rw [hwa]; exact Cs.new w1 _ _)
 have HL1 := hid (And.intro (hL.below hba) (hM.below hba))
 have hB1 := below_tr hb1 hba
 have HB := hid (toldOf_any s wa HS.out)
 rw [hwa] at HB
 have HWA := hid hwa
 clear hp hE hq hwa hL hM HA
 go_wp2_with fail
 refine HB.out.mono ?_
 rintro e w2 ⟨hp, hb2⟩
 rw [← HWA.out] at hp hb2
 obtain ⟨a', c', a2', c2', rfl, hL, hM⟩ := wha_lies hp
 rw [← HE.out.1, ← HE.out.2]
 rw [← HE.out.2] at hL hM
 obtain ⟨wz, hwz⟩ : ∃ wz, wz = w2.alloc (.cells #[.int .i64 q.err, .int .i64 q.num, .bool q.pg.reset, .slice a' q.pg.tree.length c', .slice a2' q.pg.cos.length c2', .int .i64 q.pg.cur, .bool q.pg.more] 40) := ⟨_, rfl⟩
 have hbz : Below w2.heap.size w2 wz := by rw [hwz]; exact below_alloc _ _
 have HC2 := hid (show Cs wz w2.heap.size [.int .i64 q.err, .int .i64 q.num, .bool q.pg.reset, .slice a' q.pg.tree.length c', .slice a2' q.pg.cos.length c2', .int .i64 q.pg.cur, .bool q.pg.more] by rw [hwz]; exact Cs.new w2 _ _)
 have HL2 := hid (And.intro (hL.below hbz) (hM.below hbz))
 have h2z := below_tr hb2 hbz
 have HL1z := hid (And.intro (HL1.out.1.below h2z) (HL1.out.2.below h2z))
 have HC1z := hid (HC1.out.below h2z)
 have hBz := below_tr hB1 h2z
 clear hp hL hM HB HWA HL1 HC1
 go_upto_region 3 with fail
 rw [← hwz]
 clear hwz
 go_wp2_with fail
 refine (wireBegun_yes wz (by have := hBz.size; omega) (HV.out wz hBz)).mono ?_
 rintro e w3 ⟨rfl, hb3⟩
 have hB3 := below_tr hBz hb3
 have HD1 := hid (HC1z.out.below hb3)
 have HD2 := hid (HC2.out.below hb3)
 have x0 := HD1.out.cell 0 rfl
 have x1 := HD1.out.cell 1 rfl
 have x2 := HD1.out.cell 2 rfl
 have x3 := HD1.out.cell 3 rfl
 have x4 := HD1.out.cell 4 rfl
 have x5 := HD1.out.cell 5 rfl
 have x6 := HD1.out.cell 6 rfl
 have y0 := HD2.out.cell 0 rfl
 have y1 := HD2.out.cell 1 rfl
 have y2 := HD2.out.cell 2 rfl
 have y3 := HD2.out.cell 3 rfl
 have y4 := HD2.out.cell 4 rfl
 have y5 := HD2.out.cell 5 rfl
 have y6 := HD2.out.cell 6 rfl
 go_wp2_with fail
 refine (sameAnswer_yes q _ _ w3 ⟨_, _, rfl, HL1z.out.1.below hb3, HL1z.out.2.below hb3⟩ ⟨_, _, rfl, HL2.out.1.below hb3, HL2.out.2.below hb3⟩).mono ?_
 rintro e w4 ⟨rfl, hb4⟩
 go_wp2_with fail
 go_ret
 exact ⟨rfl, below_tr hB3 hb4⟩
end Go.Proofs.YthgjdgpjkcmcdaaDoor
namespace Go.Proofs.YthgjdgpjkcmcdaaDoor
open Go.ChangeShapes Go.WideShapes Go.RowKit

namespace Pp
def lay (cs : List Value) (o : Obj) : Obj := match o with
 | .cells _ t frozen => .cells cs.toArray t frozen
 | o => o
def u8s (l : List Nat) : List Value := l.map fun (n : Nat) => Value.int .u8 (n : Int)
def pows : List Value := [.int .u64 1, .int .u64 10, .int .u64 100, .int .u64 1000, .int .u64 10000, .int .u64 100000, .int .u64 1000000, .int .u64 10000000, .int .u64 100000000, .int .u64 1000000000, .int .u64 10000000000, .int .u64 100000000000, .int .u64 1000000000000, .int .u64 10000000000000, .int .u64 100000000000000, .int .u64 1000000000000000, .int .u64 10000000000000000, .int .u64 100000000000000000, .int .u64 1000000000000000000, .int .u64 10000000000000000000]
def tab32 : List Value := u8s [0, 1, 28, 2, 29, 14, 24, 3, 30, 22, 20, 15, 25, 17, 4, 8, 31, 27, 13, 23, 21, 19, 16, 7, 26, 12, 18, 6, 11, 5, 10, 9]
def tab64 : List Value := u8s [0, 1, 56, 2, 57, 49, 28, 3, 61, 58, 42, 50, 38, 29, 17, 4, 62, 47, 59, 36, 45, 43, 51, 22, 53, 39, 33, 30, 24, 18, 12, 5, 63, 55, 48, 27, 60, 41, 37, 16, 46, 35, 44, 21, 52, 32, 23, 11, 54, 26, 40, 15, 34, 20, 31, 10, 25, 14, 19, 9, 13, 8, 7, 6]
def erAt (b : Nat) : List Value := [.iface 149 (.pointer (some ⟨b, 0, none⟩))]
def tabs (h : Array Obj) : Array Obj := ((((h.modify 3 (lay pows)).modify 4 (lay tab32)).modify 5 (lay tab64)).modify 1 (lay (erAt 11))).modify 2 (lay (erAt 12))
def texts : Array Obj := #[.cells #[.string ⟨#[105, 110, 118, 97, 108, 105, 100, 32, 115, 121, 110, 116, 97, 120]⟩] 151, .cells #[.string ⟨#[118, 97, 108, 117, 101, 32, 111, 117, 116, 32, 111, 102, 32, 114, 97, 110, 103, 101]⟩] 151]
theorem pow_data : (Rows.laid_internal_strconv_uint64pow10 : DataW Unit) = Lib.tabData .u64 Lib.pow10Tab := by kernel_rfl
theorem heap_of_var {W : World} {g : Nat} {s : String} {cs : Array Value} (hg : Tryd.prog.globalNamed s = some g) (h : W.var? Tryd.prog s = some cs) : g < W.heap.size := by
 unfold World.var? at h
 rw [hg] at h
 simp only [Option.bind_some] at h
 rcases Nat.lt_or_ge g W.heap.size with h1 | h1
 · exact h1
 · rw [Array.getElem?_eq_none h1] at h; cases h
abbrev laids : List (String × DataW Unit) := [("math/bits.deBruijn32tab", Rows.laid_math_bits_deBruijn32tab), ("math/bits.deBruijn64tab", Rows.laid_math_bits_deBruijn64tab), ("internal/strconv.uint64pow10", Rows.laid_internal_strconv_uint64pow10), ("strconv.ErrRange", Rows.laid_strconv_ErrRange), ("strconv.ErrSyntax", Rows.laid_strconv_ErrSyntax)]
theorem vars_of_laid {W : World} (h : laidMetH Tryd.prog laids W) : VarsW W ∧ 5 < W.heap.size := by
 have h' : laidMet Tryd.prog laids W := h
 obtain ⟨ps, hl, _⟩ := h'
 obtain ⟨_, _, _, _, _, _, _, _, _, _, hl1, _⟩ := hl
 obtain ⟨g5, _, _, _, _, _, hg5, _, hv5, _, hl2, _⟩ := hl1
 obtain ⟨g, t, cs, fuel, p, q, hg, ht, hvar, hd, hl3, _⟩ := hl2
 obtain ⟨g2, t2, cs2, f2, p2, q2, hg2, ht2, hvar2, hd2, hl4, _⟩ := hl3
 obtain ⟨g1, t1, cs1, f1, p1, q1, hg1, ht1, hvar1, hd1, _, _⟩ := hl4
 refine ⟨⟨?_, ?_, ?_⟩, ?_⟩
 · obtain rfl := Option.some.inj (Tryd.powAt.symm.trans hg)
   obtain rfl : t = 142 := Option.some.inj (ht.symm.trans (show (Tryd.prog.globals[3]?).map (·.type) = some 142 by kernel_rfl))
   rw [pow_data] at hd
   unfold PowTab Lib.TabIs
   rw [hvar, ← Lib.cells_of_tab Tryd.underlying142 (show Tryd.prog.underlying 128 = some (.int .u64) by kernel_rfl) (by kernel_rfl) (by kernel_rfl) hd]
 · obtain rfl := Option.some.inj (Tryd.synAt.symm.trans hg1)
   obtain rfl : t1 = 86 := Option.some.inj (ht1.symm.trans (show (Tryd.prog.globals[1]?).map (·.type) = some 86 by kernel_rfl))
   obtain ⟨_, u, v, hcs, _⟩ := iface_of_trod Tryd.underlying86 hd1
   exact ⟨u, v, by rw [hvar1]; congr 1; exact Array.ext' (by simpa using hcs)⟩
 · obtain rfl := Option.some.inj (Tryd.rngAt.symm.trans hg2)
   obtain rfl : t2 = 86 := Option.some.inj (ht2.symm.trans (show (Tryd.prog.globals[2]?).map (·.type) = some 86 by kernel_rfl))
   obtain ⟨_, u, v, hcs, _⟩ := iface_of_trod Tryd.underlying86 hd2
   exact ⟨u, v, by rw [hvar2]; congr 1; exact Array.ext' (by simpa using hcs)⟩
 · obtain rfl := Option.some.inj ((show Tryd.prog.globalNamed "math/bits.deBruijn64tab" = some 5 by kernel_rfl).symm.trans hg5)
   exact heap_of_var (show Tryd.prog.globalNamed "math/bits.deBruijn64tab" = some 5 by kernel_rfl) hv5
end Pp
end Go.Proofs.YthgjdgpjkcmcdaaDoor
