/- What delta.Diff answers, for every two trees. -/
import Derived.Test.YtogbahkoijkclaaD9
import Derived.Laws.OwnMore
set_option linter.unusedSimpArgs false
set_option linter.unusedVariables false
namespace Go.Proofs.Ytogbahkoijkclaa
open Go.RowKit Go.Maps Go.WideMaps

/-- What may be appended: nil, or so many records that lie at an address. -/
def SrcC (w : World) (sx : Value) (m size : Nat) (news : List Value) : Prop := (sx = .slice none 0 0 ∧ m = 0 ∧ news = []) ∨ ∃ ad c, sx = .slice (some ad) m c ∧ news.length = m * size ∧ (∀ j u, news[j]? = some u → w.cell? (ad.add j) = some u)
theorem SrcC.own {w : World} {B : Nat} {e : TypeId} {size : Nat} {v : Value} {n : Nat} {xs : List Value} (h : w.ownsRow B e size v n xs) : SrcC w v n size xs := by
  have h' := h
  obtain ⟨hl, h2⟩ := h
  rcases h2 with ⟨rfl, rfl⟩ | ⟨g, cap, cur, rfl, hg, hh, hn, hm, hz, htake⟩
  · exact Or.inl ⟨rfl, rfl, List.length_eq_zero_iff.1 (by rw [hl]; simp)⟩
  · refine Or.inr ⟨⟨g, 0, none⟩, cap, rfl, hl, fun j u hj => ?_⟩
    have hadd : (⟨g, 0, none⟩ : Addr).add j = ⟨g, j, none⟩ := by unfold Addr.add; split <;> simp_all
    have hlt : j < n * size := by
      have := (List.getElem?_eq_some_iff.1 hj).1
      omega
    rw [hadd, h'.cellAt j hlt]
    exact hj
theorem wpList_append_may {P : Program} {w : World} {ops : Array Oper} {rest : List Oper} {o : Oper} {a : Act} {Q : Exit → Act → World → Prop} (hgd : o.guard = none)
    (s x : Operand) (t : TypeId) (hop : o.op = Op.call { callee := Callee.builtin Builtin.append, args := #[s, x], argTypes := #[t, t] })
    (base : Nat) (e : TypeId) (i : TypeInfo) (z : Value) (size bytes : Nat) (ht : P.underlying t = some (.slice e)) (hi : P.info? e = some i) (hz : i.zero = some z)
    (hsize : i.size = size) (hby : i.bytes = bytes) (hzs : z.cells.size = size) (hsz : 0 < size)
    (v : Value) (n : Nat) (xs : List Value) (hs : a.eval s = v) (hown : w.ownsRow base e size v n xs)
    (sx : Value) (m : Nat) (news : List Value) (hx : a.eval x = sx) (hsx : SrcC w sx m size news) (h1 : ∀ u ∈ news, u.oneCell' = true)
    (h63 : n + m ≤ maxLen) (hbytes : (n + m) * bytes ≤ 140737488355328) (hbase : base ≤ w.heap.size)
    (h : ∀ v' w', w'.ownsRow base e size v' (n + m) (xs ++ news) → w.grownBy w' v.ownBlock → wpList P ops Q rest (a.put o.dst v') w') :
    wpList P ops Q (o :: rest) a w := by
  rcases hsx with ⟨rfl, rfl, rfl⟩ | ⟨ad, c, rfl, hl, hnews⟩
  · refine wpList_plain hgd fun K hK => ?_
    have hrun := run_append_owned_none (P := P) (w := w) base t o.type e i size ht hi v n xs hown
    unfold Oper.wp
    simp [execOp, hop, resolve, invoke, builtin, hs, hx, hrun, Result.andThen]
    exact hK _ _ (h v w (by simpa using hown) (World.grownBy.refl _ _))
  · exact wpList_append_own w hgd s x t hop base e i z size bytes ht hi hz hsize hby hzs hsz v n xs hs hown ad m c news hx hl hnews h1 h63 hbytes hbase fun v' w' h1 h2 _ => h v' w' h1 h2

namespace Sp
def dfE (A B : List En) : Int := if Pp.treeE A = 0 then Pp.treeE B else Pp.treeE A
def dfL (A B : List En) : List Pp.Ch := if dfE A B = 0 then dels A B ++ mks A B else []
theorem flatC_one (l : List Pp.Ch) : ∀ u ∈ Pp.flatC l, u.oneCell' = true := by
  intro u hu
  obtain ⟨s, _, hs⟩ := List.mem_flatMap.1 hu
  exact Pp.cellsC_one s u hs
theorem flatC_app (a b : List Pp.Ch) : Pp.flatC (a ++ b) = Pp.flatC a ++ Pp.flatC b := by simp [Pp.flatC]
theorem dels_len (A B : List En) : (dels A B).length ≤ A.length := by rw [dels, List.length_map]; exact List.length_filter_le _ _
theorem mks_len (A B : List En) : (mks A B).length ≤ B.length := by rw [mks, List.length_map]; exact List.length_filter_le _ _
theorem par_le {p : List UInt8} : (Pp.par p).length ≤ p.length := Pp.len_par p
end Sp

set_option maxRecDepth 100000 in
set_option maxHeartbeats 2000000 in
theorem diff_any (A B : List En) (va vb : Value) (w : World) (hA : Lies w va A) (hB : Lies w vb B) (hsA : Sized A) (hsB : Sized B) :
    Calls Try.prog 9 #[va, vb] w fun e w' => ∃ u, e = .returned (.tuple #[u, .int .i64 (Sp.dfE A B)]) ∧ w'.ownsRow w.heap.size 38 5 u (Sp.dfL A B).length (Pp.flatC (Sp.dfL A B)) ∧ Below w.heap.size w w' := by
  obtain ⟨i0, hi0, hz0, hz1, hz2⟩ := info_parts Try.infoChg
  have HVA := hid hA
  have HVB := hid hB
  have HSA := hid hsA
  have HSB := hid hsB
  clear hA hB hsA hsB
  by_cases ha : Pp.treeE A = 0
  · by_cases hb : Pp.treeE B = 0
    · have hdz : Sp.dfE A B = 0 := by rw [Sp.dfE, if_pos ha, hb]
      have HDL : Hid (Sp.dfL A B = Sp.dels A B ++ Sp.mks A B) := (by rw [Sp.dfL, if_pos hdz] : Sp.dfL A B = Sp.dels A B ++ Sp.mks A B)
      have HDZ := hid hdz
      have hgA := (Pp.good_iff A).1 ha
      have hgB := (Pp.good_iff B).1 hb
      have HGA := hid hgA
      have HGB := hid hgB
      have hlA := hgA.len
      have hlB := hgB.len
      have hdl := Sp.dels_len A B
      have hml := Sp.mks_len A B
      have HPA : Hid (∀ e ∈ A, e.path.size ≤ 1000000000 ∧ Pp.chk e.path.data.toList = 0 ∧ (Pp.par e.path.data.toList).length ≤ e.path.size) := (fun e he => by
        have h1 := Pp.chk_len (Pp.entE_path (hgA.ents e he))
        have h2 : e.path.data.toList.length = e.path.size := by rw [Lib.size_eq]
        exact ⟨by omega, Pp.entE_path (hgA.ents e he), by rw [← h2]; exact Sp.par_le⟩ : ∀ e ∈ A, e.path.size ≤ 1000000000 ∧ Pp.chk e.path.data.toList = 0 ∧ (Pp.par e.path.data.toList).length ≤ e.path.size)
      have HPB : Hid (∀ e ∈ B, e.path.size ≤ 1000000000) := (fun e he => by
        have h1 := Pp.chk_len (Pp.entE_path (hgB.ents e he))
        have h2 : e.path.data.toList.length = e.path.size := by rw [Lib.size_eq]
        omega : ∀ e ∈ B, e.path.size ≤ 1000000000)
      have HTA := hid ha
      have HTB := hid hb
      clear ha hb hdz hgA hgB
      go_enter Try.func9, Try.ntmps9
      go_wp2_with fail
      refine (tcheck_all A _ _ HVA.out HSA.out).mono ?_
      rintro e w1 ⟨rfl, hb1⟩
      rw [HTA.out]
      go_wp2_with fail
      refine (tcheck_all B _ _ (HVB.out.below hb1) HSB.out).mono ?_
      rintro e w2 ⟨rfl, hb2⟩
      rw [HTB.out]
      have hb02 := below_trans hb1 hb2
      clear hb1 hb2
      go_wp2_with fail
      refine (spotOf_any A _ _ (HVA.out.below hb02) (by omega) (fun e he => by have := (HPA.out e he).1; unfold maxLen; omega)).mono ?_
      rintro e w3 ⟨b, rfl, hbb, hob, hb3⟩
      have HOB := hid hob
      have hb03 := below_trans hb02 hb3
      clear hb3 hob
      go_wp2_with fail
      refine (spotOf_any B _ _ (HVB.out.below hb03) (by omega) (fun e he => by have := HPB.out e he; unfold maxLen; omega)).mono ?_
      rintro e w4 ⟨c, rfl, hcc, hoc, hb4⟩
      have HOC := hid hoc
      have HOB4 := hid (omap_below HOB.out hb4 HOB.out.lt)
      have hb04 := below_trans hb03 hb4
      clear hb4 hoc
      go_wp2_with fail
      refine (deletes_any HOB4.out HOC.out HGA.out.rise (Sp.apart_rise HGB.out.rise) (by omega) HPA.out).mono ?_
      rintro e w5 ⟨v5, rfl, hr5, hb5⟩
      have HOB5 := hid (omap_below HOB4.out hb5 HOB4.out.lt)
      have HOC5 := hid (omap_below HOC.out hb5 HOC.out.lt)
      have HR5 := hid hr5
      have hb05 := below_trans hb04 hb5
      clear hb5 hr5
      go_wp2_with fail
      refine (makes_any HOB5.out HOC5.out HGB.out.rise (Sp.apart_rise HGA.out.rise) (by omega) HPB.out).mono ?_
      rintro e w6 ⟨v6, rfl, hr6, hb6⟩
      have HR56 := hid (HR5.out.kept9 hb6)
      have HR6 := hid (SrcC.own hr6)
      have hb06 := below_trans hb05 hb6
      have hsz6 := hb06.size
      have hsz4 := hb04.size
      clear hb6 hr6
      go_wp2_with (at_builtin; refine wpList_append_may rfl _ _ 29 rfl w.heap.size 38 i0 (.agg #[.int .i64 0, .string ⟨#[]⟩, .string ⟨#[]⟩, .string ⟨#[]⟩, .int .i64 0]) 5 64 Try.underlying29 hi0 hz0 hz1 hz2 rfl (by decide) v5 (Sp.dels A B).length (Pp.flatC (Sp.dels A B)) rfl (ownsRow_low HR56.out hsz4) v6 (Sp.mks A B).length (Pp.flatC (Sp.mks A B)) rfl HR6.out (Sp.flatC_one _) (by unfold maxLen; omega) (by omega) hsz6 ?_)
      intro v7 w7 ho7 hgr7
      have hb07 : Below w.heap.size w w7 := hb06.grown hgr7 hsz6 (fun q hq => Nat.le_trans hsz4 (HR56.out.lt q hq).1)
      rw [← Sp.flatC_app] at ho7
      have HO7 : Hid (w7.ownsRow w.heap.size 38 5 v7 (Sp.dfL A B).length (Pp.flatC (Sp.dfL A B))) := (by rw [HDL.out, List.length_append]; exact ho7 : w7.ownsRow w.heap.size 38 5 v7 (Sp.dfL A B).length (Pp.flatC (Sp.dfL A B)))
      clear ho7 hgr7
      go_wp2_with fail
      go_ret2
      exact ⟨_, by rw [HDZ.out]; rfl, HO7.out, hb07⟩
    · have hE : Sp.dfE A B = Pp.treeE B := by rw [Sp.dfE, if_pos ha]
      have HE := hid hE
      have HL : Hid (Sp.dfL A B = []) := (by rw [Sp.dfL, if_neg (by rw [hE]; exact hb)] : Sp.dfL A B = [])
      have HTA := hid ha
      have hz : (Pp.treeE B == 0) = false := by simpa using hb
      clear ha hb hE
      go_enter Try.func9, Try.ntmps9
      go_wp2_with fail
      refine (tcheck_all A _ _ HVA.out HSA.out).mono ?_
      rintro e w1 ⟨rfl, hb1⟩
      rw [HTA.out]
      go_wp2_with fail
      refine (tcheck_all B _ _ (HVB.out.below hb1) HSB.out).mono ?_
      rintro e w2 ⟨rfl, hb2⟩
      have hb02 := below_trans hb1 hb2
      generalize hy : Pp.treeE B = y at *
      go_wp2_with fail
      go_ret2
      exact ⟨_, by rw [HE.out]; rfl, by rw [HL.out]; exact World.ownsRow_nil _ _ _ _, hb02⟩
  · have hE : Sp.dfE A B = Pp.treeE A := by rw [Sp.dfE, if_neg ha]
    have HE := hid hE
    have HL : Hid (Sp.dfL A B = []) := (by rw [Sp.dfL, if_neg (by rw [hE]; exact ha)] : Sp.dfL A B = [])
    have hz : (Pp.treeE A == 0) = false := by simpa using ha
    clear ha hE
    go_enter Try.func9, Try.ntmps9
    go_wp2_with fail
    refine (tcheck_all A _ _ HVA.out HSA.out).mono ?_
    rintro e w1 ⟨rfl, hb1⟩
    generalize hy : Pp.treeE A = y at *
    go_wp2_with fail
    go_ret2
    exact ⟨_, by rw [HE.out]; rfl, by rw [HL.out]; exact World.ownsRow_nil _ _ _ _, hb1⟩
end Go.Proofs.Ytogbahkoijkclaa
