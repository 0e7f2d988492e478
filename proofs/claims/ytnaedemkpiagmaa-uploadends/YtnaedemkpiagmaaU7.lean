/- What slices.DeleteFunc answers of a row of sessions. -/
import Derived.Test.YtnaedemkpiagmaaU6
set_option linter.unusedSimpArgs false
set_option linter.unusedVariables false
namespace Go.Proofs.Ytnaedemkpiagmaa
open Go.RowKit

namespace Pp
def zeS : Se := ⟨0, ⟨#[]⟩, ⟨#[]⟩, 0, 0⟩
theorem at_mid {α : Type} {A B C : List α} {j : Nat} {x : α} (h : (A ++ B).length = j) (hC : C = x :: C.tail) : ∃ hj : j < (A ++ B ++ C).length, (A ++ B ++ C)[j] = x := by
  have hl : j < (A ++ B ++ C).length := by rw [List.length_append, h, hC]; simp
  refine ⟨hl, ?_⟩
  rw [List.getElem_append_right (by omega)]
  subst h
  simp only [Nat.sub_self]
  rw [List.getElem_of_eq hC]; rfl
theorem set_mid {α : Type} {A X C : List α} {a x y : α} : (A ++ (a :: X) ++ (x :: C)).set A.length y = A ++ [y] ++ (X ++ [x]) ++ C := by
  simp
theorem drop_hd {α : Type} {L : List α} {j : Nat} (h : j < L.length) : L.drop j = L[j] :: L.drop (j + 1) := List.drop_eq_getElem_cons h
end Pp

theorem Try.zeroS : ∀ w, (zeroValue 38).run Try.prog w = .ok (.agg #[.int .i64 0, .string ⟨#[]⟩, .string ⟨#[]⟩, .int .i64 0, .int .i64 0]) w := Try.zeroValue38

theorem rowS_some {w : World} {g : Nat} {d : List Se} (h : RowS w g d) {t : Nat} (ht : t < d.length * 5) : (w.cell? ⟨g, t, none⟩).isSome = true ∧ w.frozen? ⟨g, t, none⟩ = false := by
  have h1 : t / 5 < d.length := by omega
  have h2 : t / 5 * 5 + t % 5 = t := by omega
  have h3 := h.2 (t / 5) h1 (t % 5) (by omega)
  rw [h2] at h3
  refine ⟨?_, h3.2⟩
  rw [h3.1]
  have h4 : t % 5 < 5 := by omega
  match t % 5, h4 with
  | 0, _ => rfl
  | 1, _ => rfl
  | 2, _ => rfl
  | 3, _ => rfl
  | 4, _ => rfl
theorem clearS {w : World} {g : Nat} {A X : List Se} (h : RowS w g (A ++ X)) (ty : TypeId) (hX : 0 < X.length) :
    ∃ w', (∀ cap, (Builtin.clear_ #[22] ty #[.slice (some ⟨g, A.length * 5, none⟩) X.length cap]).run Try.prog w = .ok (.tuple #[]) w') ∧ RowS w' g A ∧ w.grownBy w' (some g) ∧ KeepB g w w' := by
  obtain ⟨z, hz⟩ : ∃ z : Value, z = .agg #[.int .i64 0, .string ⟨#[]⟩, .string ⟨#[]⟩, .int .i64 0, .int .i64 0] := ⟨_, rfl⟩
  have hzv : ∀ w, (zeroValue 38).run Try.prog w = .ok z w := by rw [hz]; exact Try.zeroS
  have hzc : z.cells = (Pp.cellsS Pp.zeS).toArray := by rw [hz]; rfl
  obtain ⟨vs, hvs⟩ : ∃ vs, vs = (Builtin.zeroCells z.cells X.length).toList := ⟨_, rfl⟩
  have hl : vs.length = X.length * 5 := by rw [hvs, hzc]; simp [Builtin.zeroCells, Pp.cellsS]
  have h1 : ∀ v ∈ vs, v.oneCell' = true := by
    intro v hv
    rw [hvs, hzc] at hv
    simp [Builtin.zeroCells] at hv
    obtain ⟨i, hi, rfl⟩ := hv
    have h4 : i % (Pp.cellsS Pp.zeS).length < 5 := Nat.mod_lt _ (by decide)
    refine Pp.cellsS_one Pp.zeS _ ?_
    have h5 : i % (Pp.cellsS Pp.zeS).length < (Pp.cellsS Pp.zeS).length := h4
    rw [List.getElem?_eq_getElem h5]
    exact List.getElem_mem h5
  have hst := run_storeCells_cells (P := Try.prog) g (A.length * 5) vs 0 w (fun j hj => by
    rw [Nat.add_zero]; exact (rowS_some h (by rw [List.length_append]; omega)).1) (fun j hj => by
    rw [Nat.add_zero]; exact (rowS_some h (by rw [List.length_append]; omega)).2) h1
  simp only [Nat.add_zero] at hst
  refine ⟨w.setCells g (A.length * 5) vs, ?_, ⟨Nat.lt_of_lt_of_le h.1 (Nb.setCells g _ _ w).size, fun i hi c hc => ⟨?_, ?_⟩⟩, Nb.setCells g _ _ w, KeepB.setCells g _ _ w⟩
  · intro cap
    obtain ⟨m, hm⟩ : ∃ m, X.length = m + 1 := ⟨X.length - 1, by omega⟩
    rw [hm] at hvs ⊢
    simp [Builtin.clear_, run_underlying Try.underlying22, hzv, ← hvs, hst]
  · have hi' : i < (A ++ X).length := by rw [List.length_append]; omega
    rw [World.cell?_setCells_out g _ _ _ _ (fun _ _ => by simp only; omega), (h.2 i hi' c hc).1, List.getElem_append_left hi]
  · rw [World.frozen?_setCells]
    exact (h.2 i (by rw [List.length_append]; omega) c hc).2

set_option maxRecDepth 100000 in
set_option maxHeartbeats 2000000 in
theorem deleteFunc_any (L : List Se) (q cap g : Nat) (cb : Array Value) (pr : Se → Bool) (w : World) (hR : RowS w q L) (hg : TellsS w q g cb pr) (hn : L.length ≤ 1000) (hcap : L.length ≤ cap) :
    Calls Try.prog 31 #[.slice (some ⟨q, 0, none⟩) L.length cap, .func (.func g) #[] cb] w fun e w' => e = .returned (.slice (some ⟨q, 0, none⟩) (L.filter fun x => !pr x).length cap) ∧ RowS w' q (L.filter fun x => !pr x) ∧ w.grownBy w' (some q) ∧ KeepB q w w' := by
  have HR := ghid hR
  have HG := ghid hg
  have eg := hg.1
  have HIX := ghid (fun W (hW : Below w.heap.size w W) => sindexFunc_any L _ q g cb pr W ((hR.lies hcap (by omega)).below hW) ⟨hg.1, fun W' hW' => hg.2 W' (Nb.trans (Nb.below q hW) hW')⟩)
  clear hR hg
  rcases Pp.idS_cases L pr with ⟨hi, hall⟩ | ⟨k0, hk0, hi, hp0, hpre⟩
  · have HI := ghid hi
    have hF : (L.filter fun x => !pr x) = L := by
      rw [List.filter_eq_self]; intro x hx; rw [hall x hx]; rfl
    rw [hF]
    clear hi hF hall
    go_enter Try.func31, Try.ntmps31
    go_wp2_with fail
    refine (HIX.out w (Below.refl _ _)).mono ?_
    rintro e w1 ⟨rfl, hb1⟩
    rw [HI.out]
    go_wp2
    go_ret
    exact ⟨rfl, HR.out.below hb1, Nb.below q hb1, KeepB.below hb1⟩
  · have HI := ghid hi
    have H0 := ghid (show Pp.lf pr L (k0 + 1) = L.take k0 from (Pp.lf_skip hk0 hp0).trans (Pp.lf_all (Nat.le_of_lt hk0) hpre))
    have HF : Hid (Pp.lf pr L L.length = L.filter fun x => !pr x) := (by rw [Pp.lf, List.take_length] : Pp.lf pr L L.length = L.filter fun x => !pr x)
    have hkk : ((k0 : Int) == -1) = false := beq_eq_false_iff_ne.2 (by omega)
    clear hi hp0 hpre
    go_enter Try.func31, Try.ntmps31
    go_wp2_with fail
    refine (HIX.out w (Below.refl _ _)).mono ?_
    rintro e w1 ⟨rfl, hb1⟩
    rw [HI.out]
    have HB1 := ghid hb1
    clear hb1
    go_wp2_with fail
    go_loopw [5, 6] (fun a b wr => ∃ (j : Nat) (X : List Se), j ≤ L.length ∧ a = .int .i64 (Pp.lf pr L j).length ∧ b = .int .i64 j ∧ (Pp.lf pr L j).length + X.length = j ∧ 0 < X.length ∧ Hid (RowS wr q (Pp.lf pr L j ++ X ++ L.drop j)) ∧ w.grownBy wr (some q) ∧ KeepB q w wr) (fun _ b _ => L.length - (intOf b).toNat)
    case atStart =>
      have hlen : (Pp.lf pr L (k0 + 1)).length = k0 := by rw [H0.out, List.length_take]; omega
      refine ⟨k0 + 1, [L[k0]], by omega, by rw [hlen], by simp, by rw [hlen]; simp, by simp, ?_, Nb.below q HB1.out, KeepB.below HB1.out⟩
      have e : Pp.lf pr L (k0 + 1) ++ [L[k0]] ++ L.drop (k0 + 1) = L := by
        rw [H0.out, List.append_assoc, List.singleton_append, ← Pp.drop_hd hk0, List.take_append_drop]
      have : RowS w1 q (Pp.lf pr L (k0 + 1) ++ [L[k0]] ++ L.drop (k0 + 1)) := by rw [e]; exact HR.out.below HB1.out
      exact this
    case round =>
      obtain ⟨j, X, hj, rfl, rfl, hlen, hX, HROW, hnb, hkb⟩ := hrel
      have HNB := ghid hnb
      have HKB := ghid hkb
      clear hnb hkb
      by_cases hlt : j < L.length
      · obtain ⟨hjj, hget⟩ := Pp.at_mid (A := Pp.lf pr L j) (B := X) (C := L.drop j) (j := j) (x := L[j]) (by rw [List.length_append]; exact hlen) (by rw [Pp.drop_hd hlt]; rfl)
        have hat := HROW.out.at hjj
        rw [hget] at hat
        obtain ⟨c0, c1, c2, c3, c4⟩ := hat
        have hqlt := HROW.out.1
        clear hget hjj
        have HKEEP : Hid (pr L[j] = false → Pp.lf pr L (j + 1) = Pp.lf pr L j ++ [L[j]]) := (Pp.lf_keep hlt : pr L[j] = false → Pp.lf pr L (j + 1) = Pp.lf pr L j ++ [L[j]])
        have HSKIP : Hid (pr L[j] = true → Pp.lf pr L (j + 1) = Pp.lf pr L j) := (Pp.lf_skip hlt : pr L[j] = true → Pp.lf pr L (j + 1) = Pp.lf pr L j)
        have HD := ghid (Pp.drop_hd hlt)
        have hil := Pp.lf_len pr L j
        generalize L[j] = s at *
        generalize Pp.lf pr L j = A at *
        cases hp : pr s with
        | false =>
          have HK := ghid (HKEEP.out hp)
          go_wp2_with fail
          refine (HG.out.2 _ (Nb.trans HNB.out (Nb.below q ((Below.refl _ _).alloc (Nat.le_refl _) _))) s).mono ?_
          rintro e w2 ⟨rfl, hb2⟩
          rw [hp]
          obtain ⟨d0, d1, d2, d3, d4, hbw2, hlt2⟩ := bx5 hb2
          have hrow2 := HROW.out.below hbw2
          have hil2 : A.length < (A ++ X ++ L.drop j).length := by simp only [List.length_append]; omega
          obtain ⟨y, hy⟩ : ∃ y, y = (A ++ X ++ L.drop j)[A.length] := ⟨_, rfl⟩
          obtain ⟨t0, t1, t2, t3, t4⟩ := hrow2.at hil2
          rw [← hy] at t0 t1 t2 t3 t4
          have f0 := (hrow2.2 _ hil2 0 (by decide)).2
          have f1 := (hrow2.2 _ hil2 1 (by decide)).2
          have f2 := (hrow2.2 _ hil2 2 (by decide)).2
          have f3 := (hrow2.2 _ hil2 3 (by decide)).2
          have f4 := (hrow2.2 _ hil2 4 (by decide)).2
          rw [Nat.add_zero] at f0
          have hset := hrow2.set hil2 s
          obtain ⟨a0, X', rfl⟩ : ∃ a0 X', X = a0 :: X' := by
            cases X with
            | nil => simp at hX
            | cons a0 X' => exact ⟨a0, X', rfl⟩
          rw [HD.out, Pp.set_mid] at hset
          have HROW2 := ghid hset
          have HNB2 := ghid (Nb.trans (Nb.trans HNB.out (Nb.below q hbw2)) (Nb.setCells q (Pp.cellsS s) (A.length * 5) w2))
          have HKB2 := ghid ((HKB.out.trans (KeepB.below hbw2)).trans (KeepB.setCells q (Pp.cellsS s) (A.length * 5) w2))
          clear hrow2 hb2 hset hy hbw2
          go_wp2_with fail
          go_roundw
          case rel => exact ⟨j + 1, X' ++ [s], by omega, by rw [HK.out, List.length_append]; simp, by simp, by rw [HK.out, List.length_append]; simp at hlen ⊢; omega, by simp, by rw [HK.out]; exact HROW2, HNB2.out, HKB2.out⟩
          case measure => simp [intOf]; omega
        | true =>
          have HK := ghid (HSKIP.out hp)
          go_wp2_with fail
          refine (HG.out.2 _ (Nb.trans HNB.out (Nb.below q ((Below.refl _ _).alloc (Nat.le_refl _) _))) s).mono ?_
          rintro e w2 ⟨rfl, hb2⟩
          rw [hp]
          obtain ⟨d0, d1, d2, d3, d4, hbw2, hlt2⟩ := bx5 hb2
          have hrow2 := HROW.out.below hbw2
          rw [HD.out] at hrow2
          have HROW2 : Hid (RowS w2 q (A ++ (X ++ [s]) ++ L.drop (j + 1))) := (by simpa using hrow2 : RowS w2 q (A ++ (X ++ [s]) ++ L.drop (j + 1)))
          have HNB2 := ghid (Nb.trans HNB.out (Nb.below q hbw2))
          have HKB2 := ghid (HKB.out.trans (KeepB.below hbw2))
          clear hrow2 hb2 hbw2
          go_wp2_with fail
          go_roundw
          case rel => exact ⟨j + 1, X ++ [s], by omega, by rw [HK.out], by simp, by rw [HK.out, List.length_append]; simp; omega, by simp, by rw [HK.out]; exact HROW2, HNB2.out, HKB2.out⟩
          case measure => simp [intOf]; omega
      · obtain rfl : j = L.length := by omega
        have HRW := HROW.out
        rw [List.drop_length, List.append_nil] at HRW
        rw [HF.out] at hlen HRW ⊢
        obtain ⟨wc, hcl0, hrc, hnc, hkc⟩ := clearS HRW 0 hX
        have hcl := hcl0 (cap - (L.filter fun x => !pr x).length)
        clear hcl0
        have hXl : X.length = L.length - (L.filter fun x => !pr x).length := by omega
        rw [hXl] at hcl
        have HRC := ghid hrc
        have HNC := ghid (Nb.trans HNB.out hnc)
        have HKC := ghid (HKB.out.trans hkc)
        have hfl : (L.filter fun x => !pr x).length ≤ L.length := by omega
        clear HRW hrc hnc hkc
        generalize hFF : (L.filter fun x => !pr x) = FF at *
        go_wp2_with fail
        go_ret
        exact ⟨by rw [hFF]; rfl, by rw [hFF]; exact HRC.out, HNC.out, HKC.out⟩

set_option maxHeartbeats 1000000 in
theorem deleteFunc_nil (g : Nat) (cb : Array Value) (w : World) :
    Calls Try.prog 31 #[.slice none 0 0, .func (.func g) #[] cb] w fun e w' => e = .returned (.slice none 0 0) ∧ Below w.heap.size w w' := by
  have hix : ∀ W, Calls Try.prog 35 #[.slice none 0 0, .func (.func g) #[] cb] W fun e w' => e = .returned (.int .i64 (-1)) ∧ w' = W := by
    intro W
    go_enter Try.func35, Try.ntmps35
    go_wp2_with fail
    go_loopw [8] (fun i wr => i = .int .i64 0 ∧ wr = W) (fun i _ => 0)
    case atStart => exact ⟨rfl, rfl⟩
    case round =>
      obtain ⟨rfl, rfl⟩ := hrel
      go_wp2_with fail
      go_ret
      exact ⟨rfl, rfl⟩
  go_enter Try.func31, Try.ntmps31
  go_wp2_with fail
  refine (hix _).mono ?_
  rintro e w1 ⟨rfl, hw⟩
  rw [hw]
  go_wp2
  go_ret
  exact ⟨rfl, Below.refl _ _⟩

theorem Try.infoS : (Try.prog.info? 38).map (fun i => (i.zero, i.size, i.bytes)) = some (some (.agg #[.int .i64 0, .string ⟨#[]⟩, .string ⟨#[]⟩, .int .i64 0, .int .i64 0]), 5, 56) := by kernel_rfl
theorem liesS_cells {w : World} {b o : Nat} {L : List Se} (h : ∀ i (h : i < L.length), SeAt w b (o + i * 5) L[i]) : ∀ j u, (Pp.flatS L)[j]? = some u → w.cell? ((⟨b, o, none⟩ : Addr).add j) = some u := by
  intro j u hj
  have hjl : j < L.length * 5 := by
    have := (List.getElem?_eq_some_iff.1 hj).1
    rw [Pp.flatS_len] at this; exact this
  have h1 : j / 5 < L.length := by omega
  have h2 : j / 5 * 5 + j % 5 = j := by omega
  have h3 := Pp.flatS_get L (j / 5) (j % 5) h1 (by omega)
  rw [h2] at h3
  rw [h3] at hj
  obtain ⟨e0, e1, e2, e3, e4⟩ := h _ h1
  have ha : (⟨b, o, none⟩ : Addr).add j = ⟨b, o + j / 5 * 5 + j % 5, none⟩ := by
    rw [Addr.add_lit, Nat.add_assoc, h2]
  rw [ha]
  have h4 : j % 5 < 5 := by omega
  generalize j % 5 = c at *
  match c, h4, hj with
  | 0, _, hj => simp [Pp.cellsS] at hj; subst hj; exact e0
  | 1, _, hj => simp [Pp.cellsS] at hj; subst hj; exact e1
  | 2, _, hj => simp [Pp.cellsS] at hj; subst hj; exact e2
  | 3, _, hj => simp [Pp.cellsS] at hj; subst hj; exact e3
  | 4, _, hj => simp [Pp.cellsS] at hj; subst hj; exact e4
theorem flatS_one (L : List Se) : ∀ u ∈ Pp.flatS L, u.oneCell' = true := by
  intro u hu
  obtain ⟨s, _, hs⟩ := List.mem_flatMap.1 hu
  exact Pp.cellsS_one s u hs

/-- Nil, and no session; or sessions in memory of their own. -/
def OwnS (base : Nat) (w' : World) (u : Value) (L : List Se) : Prop := (u = .slice none 0 0 ∧ L = []) ∨ ∃ g cap, u = .slice (some ⟨g, 0, none⟩) L.length cap ∧ base ≤ g ∧ L.length ≤ cap ∧ RowS w' g L ∧ Blk w' g 38 (cap * 5) ∧ cap ≤ maxLen

set_option maxHeartbeats 1000000 in
theorem sclone_any (L : List Se) (v : Value) (w : World) (hv : LiesS w v L) (hn : L.length ≤ 1000) :
    Calls Try.prog 32 #[v] w fun e w' => ∃ u, e = .returned u ∧ OwnS w.heap.size w' u L ∧ Below w.heap.size w w' := by
  obtain ⟨i0, hi0, hz0, hz1, hz2⟩ := info_parts Try.infoS
  obtain ⟨a, cap, rfl, hcap, hcap2, hLL⟩ := hv
  have q22 : ∀ (w : World) (a : Option Addr) (n c n' c' : Nat), (binOp .eql 22 (.slice a n c) (.slice none n' c')).run Try.prog w = .ok (.bool a.isNone) w := fun w a n c n' c' => Lib.run_eql_slice_nil w _ _ a n c n' c' Try.underlying22
  cases a with
  | none =>
    have hL : L = [] := by
      cases L with
      | nil => rfl
      | cons s r => obtain ⟨b, o, hb, _⟩ := hLL 0 (by simp); cases hb
    subst hL
    go_enter Try.func32, Try.ntmps32
    go_wp2
    go_ret
    exact ⟨_, rfl, Or.inl ⟨rfl, rfl⟩, Below.refl _ _⟩
  | some ad =>
    have hcells : ∀ j u, (Pp.flatS L)[j]? = some u → w.cell? (ad.add j) = some u := by
      cases L with
      | nil => intro j u hj; simp [Pp.flatS] at hj
      | cons s r =>
        obtain ⟨b, o, hb, _⟩ := hLL 0 (by simp)
        injection hb with hb
        subst hb
        exact liesS_cells fun i hi => by
          obtain ⟨b', o', hb', _, he⟩ := hLL i hi
          injection hb' with hb'
          injection hb' with h1 h2
          subst h1; subst h2
          exact he
    have HC := ghid hcells
    have HFL := ghid (Pp.flatS_len L)
    clear hcells hLL
    go_enter Try.func32, Try.ntmps32
    go_wp2_with (at_builtin; refine wpList_append_own _ rfl _ _ 22 rfl w.heap.size 38 i0 (.agg #[.int .i64 0, .string ⟨#[]⟩, .string ⟨#[]⟩, .int .i64 0, .int .i64 0]) 5 56 Try.underlying22 hi0 hz0 hz1 hz2 rfl (by decide) _ _ _ rfl (World.ownsRow_made w #[] 0 (Nat.le_refl _) (Nat.zero_le _) (by simp)) ad L.length cap (Pp.flatS L) rfl ?qc1 ?qc2 ?qc3 ?qc4 ?qc5 ?qc6 ?_)
    case qc1 => exact HFL.out
    case qc2 => intro j u hj; exact Lib.cell?_alloc_some _ (HC.out j u hj)
    case qc3 => exact flatS_one L
    case qc4 => unfold maxLen; omega
    case qc5 => omega
    case qc6 => simp
    intro v2 w2 ho2 hgr2 hnn2
    have hbel2 : Below w.heap.size w w2 := ((Below.refl _ _).alloc (Nat.le_refl _) _).grown hgr2 (by simp) (fun k hk => by simp [Value.ownBlock] at hk; omega)
    have hcl : OwnS w.heap.size w2 v2 L := by
      have ho3 : w2.ownsRow w.heap.size 38 5 v2 L.length (Pp.flatS L) := by simpa using ho2
      obtain ⟨hl, h2⟩ := ho3
      rcases h2 with ⟨rfl, hz⟩ | ⟨g, cap2, cur, rfl, hg, hh, hn2, hm, hz, htake⟩
      · exact (hnn2 rfl).elim
      · exact Or.inr ⟨g, cap2, rfl, hg, hn2, rowS_own (base := w.heap.size) (T := 38) (cap := cap2) (n := L.length) (by simpa using ho2) rfl, ⟨cur, hh, hz⟩, hm⟩
    have HCL := ghid hcl
    clear ho2 hgr2 hnn2 hcl
    go_wp2_with fail
    go_ret
    exact ⟨_, rfl, HCL.out, hbel2⟩
end Go.Proofs.Ytnaedemkpiagmaa
