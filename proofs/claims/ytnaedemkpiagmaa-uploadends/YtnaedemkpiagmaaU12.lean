/- What upload.Append answers. -/
import Derived.Test.YtnaedemkpiagmaaU11
import Derived.Deep.RegionHeld3
set_option linter.unusedSimpArgs false
set_option linter.unusedVariables false
namespace Go.Proofs.Ytnaedemkpiagmaa
open Go.RowKit

namespace Pp
theorem fi_zero {G : List Se} {x l r : Int} {p : ByteArray} {n now : Int} (h : fiE G x l r p n now = 0) : goE G x l r now [p] = 0 := by
  rcases fi_cases G x l r p n now with ⟨h0, hE⟩ | ⟨h0, _, hE⟩ | ⟨h0, _⟩
  · rw [h] at hE; exact hE.symm
  · exact h0
  · exact h0
/-- What Append makes of a session. -/
def moreS (s : Se) (t : ByteArray) (till : Int) : Se := ⟨s.nu, s.wh, s.tx ++ t, s.si, till⟩
end Pp
theorem RowS.set2 {w : World} {g : Nat} {d : List Se} (h : RowS w g d) {i : Nat} (hi : i < d.length) (t : ByteArray) (till : Int) : RowS ((w.setCell ⟨g, i * 5 + 2, none⟩ (.string t)).setCell ⟨g, i * 5 + 4, none⟩ (.int .i64 till)) g (d.set i ⟨(d[i]).nu, (d[i]).wh, t, (d[i]).si, till⟩) := by
  have hs2 : (w.cell? ⟨g, i * 5 + 2, none⟩).isSome = true := by rw [(h.2 i hi 2 (by decide)).1]; rfl
  have hs4 : (w.cell? ⟨g, i * 5 + 4, none⟩).isSome = true := by rw [(h.2 i hi 4 (by decide)).1]; rfl
  refine ⟨by simpa using h.1, fun j hj c hc => ⟨?_, ?_⟩⟩
  · have hj' : j < d.length := by simpa using hj
    by_cases e4 : j * 5 + c = i * 5 + 4
    · obtain ⟨rfl, rfl⟩ : j = i ∧ c = 4 := by omega
      rw [World.cell?_setCell_same' _ _ _ (by rw [World.cell?_setCell_other (h := by simp)]; exact hs4), List.getElem_set_self]
      rfl
    · rw [World.cell?_setCell_other (h := fun e => e4 (by injection e with _ e2; exact e2.symm))]
      by_cases e2 : j * 5 + c = i * 5 + 2
      · obtain ⟨rfl, rfl⟩ : j = i ∧ c = 2 := by omega
        rw [World.cell?_setCell_same' _ _ _ hs2, List.getElem_set_self]
        rfl
      · rw [World.cell?_setCell_other (h := fun e => e2 (by injection e with _ e3; exact e3.symm)), (h.2 j hj' c hc).1]
        by_cases e : j = i
        · subst e
          rw [List.getElem_set_self]
          match c, hc with
          | 0, _ => rfl
          | 1, _ => rfl
          | 2, _ => exact absurd rfl e2
          | 3, _ => rfl
          | 4, _ => exact absurd rfl e4
        · rw [List.getElem_set_ne (fun e' => e e'.symm)]
  · rw [World.frozen?_setCell, World.frozen?_setCell]; exact (h.2 j (by simpa using hj) c hc).2

set_option maxRecDepth 100000 in
set_option maxHeartbeats 4000000 in
theorem append_k (G : List Se) (v : Value) (x l r : Int) (p : ByteArray) (n o : Int) (t : ByteArray) (now : Int) (w : World) (hv : LiesS w v G) (hs : SizedS G) (hp : p.size ≤ 150000000000000) (h0 : Pp.fiE G x l r p n now = 0) (kk : Nat) (hkk : kk < (Pp.swL now G).length) (hidx : Pp.idS (Pp.swL now G) (Pp.mine n p) = (kk : Int)) (ht : t.size ≤ 150000000000000) (he : Pp.enB ((Pp.swL now G)[kk]).tx o t = false) (ho : o = (((Pp.swL now G)[kk]).tx.size : Int)) (hsi : (((Pp.swL now G)[kk]).tx.size : Int) + t.size ≤ ((Pp.swL now G)[kk]).si) :
    Calls Try.prog 11 #[.agg #[v, .int .i64 x, .int .i64 l, .int .i64 r], .string p, .int .i64 n, .int .i64 o, .string t, .int .i64 now] w fun e w' => ∃ u, e = .returned (.tuple #[.agg #[u, .int .i64 x, .int .i64 l, .int .i64 r], .int .i64 ((((Pp.swL now G)[kk]).tx.size : Int) + t.size), .int .i64 0]) ∧ OwnS w.heap.size w' u ((Pp.swL now G).set kk (Pp.moreS (Pp.swL now G)[kk] t (now + l))) ∧ Below w.heap.size w w' := by
  have HV := ghid hv
  have HS := ghid hs
  clear hv hs
  obtain ⟨w3, hw3⟩ : ∃ w3, w3 = (w.alloc (.cells #[v, .int .i64 x, .int .i64 l, .int .i64 r] 24)).alloc (.cells #[.slice none 0 0, .int .i64 0, .int .i64 0, .int .i64 0] 24) := ⟨_, rfl⟩
  have B3 : Hid (Below w.heap.size w w3) := (by rw [hw3]; exact ((Below.refl _ _).alloc (Nat.le_refl _) _).alloc (by simp) _ : Below w.heap.size w w3)
  have HR3 : Hid (Bx w3 (w.heap.size + 1) (.slice none 0 0) (.int .i64 0) (.int .i64 0) (.int .i64 0)) := (by
    have := Bx.new (w.alloc (.cells #[v, .int .i64 x, .int .i64 l, .int .i64 r] 24)) (.slice none 0 0) (.int .i64 0) (.int .i64 0) (.int .i64 0) 24
    rw [hw3]; simpa using this : Bx w3 (w.heap.size + 1) (.slice none 0 0) (.int .i64 0) (.int .i64 0) (.int .i64 0))
  have hsz3 : w3.heap.size = w.heap.size + 2 := by rw [hw3]; simp
  subst ho
  have H0 := ghid h0
  have HI := ghid hidx
  have hgz := Pp.fi_zero h0
  obtain ⟨huc, ⟨hn1, hn2⟩, _⟩ := Pp.go_zero hgz
  obtain ⟨hl20, ⟨hl1, hl2⟩, ⟨hr1, hr2⟩, hx1, hx2⟩ := Pp.bnd_zero (Pp.uch_zero huc).1
  have hsw := Pp.swL_len now G
  have hse := Pp.se_zero (Pp.ses_mem.1 (Pp.uch_zero huc).2.1 _ (List.mem_filter.1 (List.getElem_mem hkk)).1)
  obtain ⟨hsi1, hsi2⟩ := Pp.inR_yes hse.2.1
  have htx := hse.2.2.2.2
  clear h0 hgz huc hse hidx
  go_enter Try.func11, Try.ntmps11
  go_wp2_with fail
  rw [← hw3]
  clear hw3
  refine (find_any G _ x l r p n now _ (HV.out.below B3.out) HS.out hp).mono ?_
  rintro e w4 (⟨hne, _⟩ | ⟨_, u, k, rfl, hk, hid, hown, hb4⟩)
  · exact absurd H0.out hne
  obtain rfl : k = kk := by have := HI.out; rw [hid] at this; omega
  have hb04 := B3.out.trans (hb4.mono B3.out.size)
  have hR4 := HR3.out.below hb4
  have hsz4 := hb4.size
  clear hb4 hid
  rcases hown with ⟨_, hnil⟩ | ⟨g, cap, rfl, hg1, hg2, hrow, hblk, hcm⟩
  · rw [hnil] at hk; simp at hk
  have hglt := hrow.1
  obtain ⟨wz, hwz⟩ : ∃ wz, wz = w4.alloc (.cells #[.slice (some ⟨g, 0, none⟩) (Pp.swL now G).length cap, .int .i64 x, .int .i64 l, .int .i64 r] 24) := ⟨_, rfl⟩
  have hbz : Below w4.heap.size w4 wz := by rw [hwz]; exact (Below.refl _ _).alloc (Nat.le_refl _) _
  have hGz : Bx wz w4.heap.size (.slice (some ⟨g, 0, none⟩) (Pp.swL now G).length cap) (.int .i64 x) (.int .i64 l) (.int .i64 r) := by rw [hwz]; exact Bx.new _ _ _ _ _ _
  have hRz := hR4.below hbz
  have hb0z := hb04.trans (hbz.mono hb04.size)
  have hrz := hrow.below hbz
  have hblz := hblk.below hbz
  have hszz := hbz.size
  have HGZ := ghid hGz
  have HRZ := ghid hRz
  have HROWZ := ghid hrz
  have HBLZ := ghid hblz
  obtain ⟨t0, t1, t2, t3, t4⟩ := hrz.at hk
  clear hR4 hb04 hbz hrow hblk hrz hblz
  obtain ⟨hGb, ⟨q0, q1, q2, q3⟩, k0, k1, k2, k3⟩ := hGz
  have HEN := ghid he
  have hsl : ((Pp.swL now G)[k]).tx.size ≤ 150000000000000 := by omega
  clear he
  generalize hS : (Pp.swL now G)[k] = s at *
  have T2 := ghid t2
  have T3 := ghid t3
  rw [hwz] at t0 t1 t2 t3 t4
  go_wp2_with fail
  rw [← hwz]
  clear hwz t0 t1 t2 t3 t4
  have t2 := T2.out
  have t3 := T3.out
  refine (ends_any s.tx t _ _ hsl).mono ?_
  rintro e w5 ⟨rfl, hw⟩
  rw [hw, HEN.out]
  clear hw w5
  have hF2 := (HROWZ.out.2 k hk 2 (by decide)).2
  have hF4 := (HROWZ.out.2 k hk 4 (by decide)).2
  have hC4 : wz.cell? ⟨g, k * 5 + 4, none⟩ = some (.int .i64 s.ti) := by have := (HROWZ.out.at hk).2.2.2.2; rw [hS] at this; exact this
  have hwr2 : IntKind.i64.wrap ((s.tx.size : Int) + t.size) = (s.tx.size : Int) + t.size := by rw [IntKind.wrap_i64]; omega
  have hwr3 : IntKind.i64.wrap (now + l) = now + l := by rw [IntKind.wrap_i64]; omega
  have hns : ¬ s.si < (s.tx.size : Int) + t.size := by omega
  obtain ⟨wq, hwq⟩ : ∃ wq, wq = ((wz.setCell ⟨g, k * 5 + 2, none⟩ (.string (s.tx ++ t))).setCell ⟨g, k * 5 + 4, none⟩ (.int .i64 (now + l))).drew := ⟨_, rfl⟩
  have hnb0 : wz.grownBy ((wz.setCell ⟨g, k * 5 + 2, none⟩ (.string (s.tx ++ t))).setCell ⟨g, k * 5 + 4, none⟩ (.int .i64 (now + l))) (some g) := Nb.trans (Nb.setCell _ _ _ _) (Nb.setCell _ _ _ _)
  have hnbq : wz.grownBy wq (some g) := by rw [hwq]; exact Nb.trans hnb0 (Nb.below g (Below.refl _ _).drew)
  have hrq : RowS wq g ((Pp.swL now G).set k (Pp.moreS s t (now + l))) := by
    have := (HROWZ.out.set2 hk (s.tx ++ t) (now + l)).below (Below.refl _ _).drew
    rw [hS] at this
    rw [hwq]; exact this
  have hblq : Blk wq g 38 (cap * 5) := by
    rw [hwq]
    exact (KeepB.setCell g _ _ _ _ _ (KeepB.setCell g _ _ _ _ _ HBLZ.out)).below (Below.refl _ _).drew
  have hq2 : wq.cell? ⟨g, k * 5 + 2, none⟩ = some (.string (s.tx ++ t)) := by
    have h9 : k < ((Pp.swL now G).set k (Pp.moreS s t (now + l))).length := by simpa using hk
    have := (hrq.at h9).2.2.1
    rw [List.getElem_set_self] at this
    exact this
  have HRQ := ghid (HRZ.out.nb hnbq (by omega))
  have HGQ := ghid (HGZ.out.nb hnbq (by omega))
  have hb0q : Below w.heap.size w wq := hb0z.trans (Nb.to hnbq hb0z.size (by omega))
  have HROWQ := ghid hrq
  have HBLQ := ghid hblq
  have hszq := hnbq.size
  have hsapp : (s.tx ++ t).size = s.tx.size + t.size := ByteArray.size_append
  have HSA := ghid hsapp
  go_wp2_with fail
  go_region
  go_wp2_with fail
  rw [← hwq]
  clear hwq hnb0 hnbq hrq hblq t2 t3 hF2 hF4 hC4 q0 q1 q2 q3 k0 k1 k2 k3 hwr2 hwr3 hsapp
  obtain ⟨hRb, ⟨c0, c1, c2, c3⟩, f0, f1, f2, f3⟩ := HRQ.out
  obtain ⟨hGb2, ⟨q0, q1, q2, q3⟩, k0, k1, k2, k3⟩ := HGQ.out
  go_region
  go_wp2_with fail
  refine bodyPost_ret (v := .tuple #[.agg #[.slice (some ⟨g, 0, none⟩) (Pp.swL now G).length cap, .int .i64 x, .int .i64 l, .int .i64 r], .int .i64 ((s.tx.size : Int) + t.size), .int .i64 0]) (by simp [results, Try.results11, go_sem, c0, c1, c2, c3, hRb, HSA.out]) rfl ⟨_, by rw [hS], ?_, ?_⟩
  · rw [hS]
    refine Or.inr ⟨g, cap, by simp, by omega, by simpa using hg2, ?_, ?_, hcm⟩
    · exact (HROWQ.out.nb (Nb.set4 _ (w.heap.size + 1) _ _ _ _) (by omega)).below (Below.refl _ _).drew
    · exact (HBLQ.out.nb (Nb.set4 _ (w.heap.size + 1) _ _ _ _) (by omega)).below (Below.refl _ _).drew
  · exact (below_set4 (b := w.heap.size + 1) hb0q (by omega)).drew
end Go.Proofs.Ytnaedemkpiagmaa
