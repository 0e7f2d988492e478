/- What slices.Clip at commits answers, and what (*keeper).forget does. What (*keeper).commit does, for every keeper of a journal that passes Check. -/
import Derived.Test.YtchlgpeiombmdaaGreatHN
import Derived.Deep.DeepCutAuto
import Derived.Deep.RegionWith
import Derived.Test.YtchlgpeiombmdaaGreatHK
import Derived.Test.YtchlgpeiombmdaaGreatMB
set_option linter.unusedSimpArgs false
set_option linter.unusedVariables false
namespace Go.Proofs.YtchlgpeiombmdaaGreat
open Go.RowKit

theorem CoAt.ne {W : World} {b o g : Nat} {c : Co} (h : CoAt W b o c) (hn : NoStr W g) : b ≠ g := fun hb => hn (o + 1) c.ke (hb ▸ h.2.1)
theorem LiesO.nb {W W' : World} {v : Value} {L : List Co} {g : Nat} (h : LiesO W v L) (hw : W.grownBy W' (some g)) (hn : NoStr W g) : LiesO W' v L := by
 obtain ⟨a, cap, hv, h1, h2, h3⟩ := h
 refine ⟨a, cap, hv, h1, h2, fun i hi => ?_⟩
 obtain ⟨b, o, ha, hb, he⟩ := h3 i hi
 have c := cell_nb hw hb (he.ne hn)
 obtain ⟨e0, e1, u, e2, hu⟩ := he
 exact ⟨b, o, ha, Nat.lt_of_lt_of_le hb hw.size, (c _).trans e0, (c _).trans e1, u, (c _).trans e2, hu.nb hw hn⟩
theorem liesO_tail {w : World} {g o n cap : Nat} {c : Co} {cs : List Co} (h : LiesO w (.slice (some ⟨g, o, none⟩) n cap) (c :: cs)) : LiesO w (.slice (some ⟨g, o + 3, none⟩) cs.length (cap - 1)) cs := by
 obtain ⟨a, cap', hv, h1, h2, h3⟩ := h
 injection hv with e1 e2 e3
 subst e1; subst e3
 simp only [List.length_cons] at h1 h2
 refine ⟨_, _, rfl, by omega, by omega, fun i hi => ?_⟩
 obtain ⟨b, o', hb, hl, he⟩ := h3 (i + 1) (by simpa using hi)
 injection hb with hb
 injection hb with e4 e5
 subst e4; subst e5
 refine ⟨g, o + 3, rfl, hl, ?_⟩
 rw [show o + 3 + i * 3 = o + (i + 1) * 3 by omega]
 simpa using he
set_option maxHeartbeats 400000 in
theorem clip_any (a : Option Addr) (n cap : Nat) (w : World) (hn : n ≤ cap) :
    Calls Tryz.prog 160 #[.slice a n cap] w fun e w' => e = .returned (.slice a n n) ∧ w' = w := by
 have h1 : (n : Int) ≤ cap := by omega
 go_enter Tryz.func160, Tryz.ntmps160
 go_wp2_with fail
 go_ret
 exact ⟨rfl, rfl⟩
set_option maxRecDepth 100000 in
set_option maxHeartbeats 4000000 in
theorem forget_any (base : List En) (fi : Int) (c : Co) (cs : List Co) (b : Nat) (vb va vt vm : Value) (B : Nat) (w : World) (hk : Cs w b [vb, .int .i64 fi, va, vt, vm]) (hno : ∀ s, Value.string s ∉ [vb, .int .i64 fi, va, vt, vm]) (hvb : Lies w vb base) (hva : LiesO w va (c :: cs)) (h1 : 1 ≤ cs.length) (hs : Sized base) (hcs : SizedC 150000000000000 c.ch) (hfi : 1 ≤ fi) (hfi2 : fi ≤ 1000000) (h0 : Pp.allE base c.ch fi = 0) (hB : B ≤ b) :
    Calls Tryz.prog 161 #[.pointer (some ⟨b, 0, none⟩)] w fun e w' => e = .returned (.tuple #[]) ∧ Below B w w' ∧ ∃ vb' va', Cs w' b [vb', .int .i64 (fi + 1), va', vt, vm] ∧ Lies w' vb' (Pp.allR base c.ch fi) ∧ LiesO w' va' cs := by
 have HK := hid hk
 have HVB := hid hvb
 have HVA := hid hva
 have HS := hid hs
 have HCS := hid hcs
 have H0 := hid h0
 have hbl := hk.lt
 have k0 := hk.cell 0 rfl
 have k1 := hk.cell 1 rfl
 have k2 := hk.cell 2 rfl
 have f0 := hk.fr 0
 have HNO := hid hno
 obtain ⟨ba, bcap, rfl, _⟩ := hvb
 obtain ⟨aa, acap, rfl, hacap, hacap2, hat⟩ := hva
 obtain ⟨g, o, rfl, hg, c0, c1, u, c2, hu⟩ := hat 0 (by simp)
 have HU := hid hu
 obtain ⟨ua, ucap, rfl, _⟩ := hu
 simp only [Nat.zero_mul, Nat.add_zero, List.getElem_cons_zero, List.length_cons] at c0 c1 c2 hacap hacap2 k2 ⊢
 have hlen : (0 : Int) < ((cs.length + 1 : Nat) : Int) := by omega
 clear hk hs hcs h0 hat hno
 go_enter Tryz.func161, Tryz.ntmps161
 go_upto_region 0 with fail
 go_cut [0] (fun x wx => x = .pointer (some ⟨b, 0, none⟩) ∧ ∃ vb', Hid (Cs wx b [vb', .int .i64 fi, .slice (some ⟨g, o, none⟩) (cs.length + 1) acap, vt, vm]) ∧ Hid (Lies wx vb' (Pp.allR base c.ch fi)) ∧ Hid (LiesO wx (.slice (some ⟨g, o, none⟩) (cs.length + 1) acap) (c :: cs)) ∧ Below B w wx)
 case first =>
  go_region_with (go_at_call 122; refine (tall_any base _ c.ch _ fi _ (HVB.out.below (Below.refl _ _).drew) HS.out (HU.out.below (Below.refl _ _).drew) HCS.out).mono ?_; rintro e wa ⟨r, rfl, hli, hba⟩; rw [H0.out]; have hwa : Below w.heap.size w wa := ((Below.refl _ _).drew).trans hba; have d0 := (hwa.cell (p := ⟨b, 0, none⟩) hbl).trans k0; have e0 := (hwa.frozen (p := ⟨b, 0, none⟩) hbl).trans f0; have HLI := hid hli; obtain ⟨ra, rcap, rfl, _⟩ := hli)
  all_goals
   have HKA := HK.out.below hwa
   have HN := HKA.noStr HNO.out
   go_wp2_with fail
   go_meet
   case rel => exact ⟨rfl, _, HKA.set 0 _, HLI.out.nb (nb_set _ _ _ _) HN, (HVA.out.below hwa).nb (nb_set _ _ _ _) HN, (hwa.mono (by omega)).setCell (p := ⟨b, 0, none⟩) hB _⟩
 case rest =>
  obtain ⟨rfl, vb', HC, HL, HO, hbx⟩ := hcut
  have hl := HC.out.lt
  have HL2 := hid HL.out
  obtain ⟨xa, xcap, rfl, _⟩ := HL.out
  have m0 := HC.out.cell 0 rfl
  have m1 := HC.out.cell 1 rfl
  have m2 := HC.out.cell 2 rfl
  have n1 := HC.out.fr 1
  have n2 := HC.out.fr 2
  have hw1 : IntKind.i64.wrap (fi + 1) = fi + 1 := by rw [IntKind.wrap_i64]; omega
  have hcap1 : ¬ acap = 1 := by omega
  have hcap3 : (1 : Int) ≤ acap := by omega
  have hcap4 : (1 : Int) ≤ ((cs.length + 1 : Nat) : Int) := by omega
  have HN0 := hid (show ∀ s, Value.string s ∉ [.slice xa (Pp.allR base c.ch fi).length xcap, .int .i64 fi, .slice (some ⟨g, o, none⟩) (cs.length + 1) acap, vt, vm] from fun s hs => by
   simp only [List.mem_cons, List.not_mem_nil, or_false] at hs
   rcases hs with h | h | h | h | h
   · cases h
   · cases h
   · cases h
   · exact HNO.out s (by simp [h])
   · exact HNO.out s (by simp [h]))
  have HC1 : Hid (Cs (wc.setCell ⟨b, 1, none⟩ (.int .i64 (fi + 1))) b [.slice xa (Pp.allR base c.ch fi).length xcap, .int .i64 (fi + 1), .slice (some ⟨g, o, none⟩) (cs.length + 1) acap, vt, vm]) := HC.out.set 1 _
  have HN1 := hid (show ∀ s, Value.string s ∉ [.slice xa (Pp.allR base c.ch fi).length xcap, .int .i64 (fi + 1), .slice (some ⟨g, o, none⟩) (cs.length + 1) acap, vt, vm] from fun s hs => HN0.out s (by
   simp only [List.mem_cons, List.not_mem_nil, or_false] at hs ⊢
   rcases hs with h | h | h | h | h
   · exact Or.inl h
   · cases h
   · exact Or.inr (Or.inr (Or.inl h))
   · exact Or.inr (Or.inr (Or.inr (Or.inl h)))
   · exact Or.inr (Or.inr (Or.inr (Or.inr h)))))
  have HT := hid (liesO_tail HO.out)
  clear m0
  go_wp2_with fail
  go_end0
  refine ⟨rfl, (hbx.setCell (p := ⟨b, 1, none⟩) hB _).setCell (p := ⟨b, 2, none⟩) hB _, _, _, HC1.out.set 2 _, (HL2.out.nb (nb_set _ _ _ _) (HC.out.noStr HN0.out)).nb (nb_set _ _ _ _) (HC1.out.noStr HN1.out), (HT.out.nb (nb_set _ _ _ _) (HC.out.noStr HN0.out)).nb (nb_set _ _ _ _) (HC1.out.noStr HN1.out)⟩
end Go.Proofs.YtchlgpeiombmdaaGreat
set_option linter.unusedSimpArgs false
set_option linter.unusedVariables false
namespace Go.Proofs.YtchlgpeiombmdaaGreat
open Go.RowKit

theorem Tryz.infoCo : (Tryz.prog.info? 58).map (fun i => (i.zero, i.size, i.bytes)) = some (some (.agg #[.int .i64 0, .string ⟨#[]⟩, .slice none 0 0]), 3, 48) := by kernel_rfl
theorem LiesO.append {w : World} {v : Value} {l : List Co} {us : List Value} {c : Co} {u : Value} (hc : ChsAt w l us) (hu : LiesC w u c.ch) (h : LiesR 3 w v (rowsO l us ++ [rowO c u])) : LiesO w v (l ++ [c]) := by
 have hl := hc.1
 refine liesO_of (us := us ++ [u]) ⟨by simp [hl], ?_⟩ ?_
 · intro i d x hd hx
   by_cases hi : i < l.length
   · rw [List.getElem?_append_left hi] at hd
     rw [List.getElem?_append_left (by omega)] at hx
     exact hc.2 i d x hd hx
   · rw [List.getElem?_append_right (by omega)] at hd hx
     rw [hl] at hx
     have h0 : i - l.length = 0 := by
      rcases Nat.lt_or_ge (i - l.length) 1 with h | h
      · omega
      · rw [List.getElem?_eq_none (by simpa using h)] at hd; cases hd
     rw [h0] at hd hx
     injection hd with hd
     injection hx with hx
     rw [← hd, ← hx]; exact hu
 · have e : rowsO (l ++ [c]) (us ++ [u]) = rowsO l us ++ [rowO c u] := by
    rw [rowsO, rowsO, List.zipWith_append (by omega)]; rfl
   rw [e]; exact h
/-- A keeper whose journal is this one. -/
def Added (w : World) (b : Nat) (J : Jo) : Prop := ∃ vb vc vt vm, Cs w b [vb, .int .i64 J.first, vc, vt, vm] ∧ Lies w vb J.base ∧ LiesO w vc J.cos
set_option maxRecDepth 100000 in
set_option maxHeartbeats 4000000 in
theorem commit_any (J : Jo) (key : ByteArray) (l : List Pp.Ch) (u : Value) (b mb nn : Nat) (vb vc : Value) (w0 w : World) (hJ : Jn.chkE J = 0) (hk : Kp w b mb vb J.first vc (Jn.tree J) nn (Jn.D J.cos)) (hvb : Lies w0 vb J.base) (hvc : LiesO w0 vc J.cos) (hu : LiesC w0 u l) (hw0 : Below w0.heap.size w0 w)
    (hls : SizedC 150000000000000 l) (hke : key.size ≤ maxLen) (hcs : SizedO 150000000000000 J.cos) (hnn : nn ≤ 30) (hb0 : w0.heap.size ≤ b) (hm0 : w0.heap.size ≤ mb) :
    Calls Tryz.prog 132 #[.pointer (some ⟨b, 0, none⟩), .string key, u] w fun e w' => e = .returned (.int .i64 (Jn.newE J l)) ∧ Below w0.heap.size w0 w' ∧ (Jn.newE J l = 0 → Added w' b (Jn.addJ J key l)) := by
 obtain ⟨i0, hi0, hz0, hz1, hz2⟩ := info_parts Tryz.infoCo
 have hpp := Jn.chk_parts hJ
 obtain ⟨f1, f2⟩ := Jn.ver_iff.1 hpp.2.1
 have h30 := hpp.2.2.1
 have HJ := hid hJ
 have HK := hid hk
 have HVB := hid hvb
 have HVC := hid hvc
 have HU := hid hu
 have HLS := hid hls
 have HCS := hid hcs
 obtain ⟨vt, hC, _, _, hne⟩ := hk
 have HC := hid hC
 have hbl := hC.lt
 obtain ⟨ba, bcap, rfl, _⟩ := hvb
 obtain ⟨ca, ccap, rfl, hccap, _⟩ := hvc
 obtain ⟨ua, ucap, rfl, _, hul, _⟩ := hu
 have hs0 := hw0.size
 clear hls hcs hC hpp hJ
 by_cases hl0 : l = []
 · have HE := hid (show Jn.newE J l = 1 from by rw [Jn.newE, if_pos hl0])
   have h0 : ((l.length : Int) == 0) = true := by rw [hl0]; rfl
   clear hl0
   go_enter Tryz.func132, Tryz.ntmps132
   go_wp2_with fail
   go_ret
   exact ⟨by rw [HE.out]; rfl, hw0, fun h => by rw [HE.out] at h; exact absurd h (by decide)⟩
 · have h0 : ((l.length : Int) == 0) = false := by
    rw [beq_eq_false_iff_ne]
    intro h
    exact hl0 (List.length_eq_zero_iff.1 (by omega))
   have hN : J.first - 1 + (J.cos.length : Int) + 1 = Jn.last J + 1 := by rw [Jn.last]
   have hwr : IntKind.i64.wrap (J.first - 1 + (J.cos.length : Int) + 1) = Jn.last J + 1 := by rw [IntKind.wrap_i64, Jn.last]; omega
   by_cases hbig : 1000000 < Jn.last J + 1
   · have HE := hid (show Jn.newE J l = 3 from by rw [Jn.newE, if_neg hl0, if_pos hbig])
     clear hl0 hN
     go_enter Tryz.func132, Tryz.ntmps132
     go_wp2_with fail
     refine (kLast_any J.first J.cos.length ccap b _ _ _ ca _ HC.out f1 (by omega) (by omega)).mono ?_
     rintro e w1 ⟨rfl, hb1⟩
     have hb01 := (hw0.trans (hb1.mono hs0)).alloc (Nat.le_trans hs0 hb1.size) (.cells #[.int .i64 (Jn.last J + 1), .string key, .slice ua l.length ucap] 58)
     go_wp2_with fail
     go_ret
     exact ⟨by rw [HE.out]; rfl, hb01, fun h => by rw [HE.out] at h; exact absurd h (by decide)⟩
   · have HE := hid (show Jn.newE J l = Pp.allE (Jn.tree J) l (Jn.last J + 1) from by rw [Jn.newE, if_neg hl0, if_neg hbig])
     have hlo : 1 ≤ Jn.last J + 1 := by omega
     clear hl0 hN
     go_enter Tryz.func132, Tryz.ntmps132
     go_wp2_with fail
     refine (kLast_any J.first J.cos.length ccap b _ _ _ ca _ HC.out f1 (by omega) (by omega)).mono ?_
     rintro e w1 ⟨rfl, hb1⟩
     obtain ⟨w2, hw2⟩ : ∃ w2, w2 = w1.alloc (.cells #[.int .i64 (Jn.last J + 1), .string key, .slice ua l.length ucap] 58) := ⟨_, rfl⟩
     have hb2 : Below w1.heap.size w1 w2 := by rw [hw2]; exact (Below.refl _ _).alloc (Nat.le_refl _) _
     have HX2 := hid (show Cs w2 w1.heap.size [.int .i64 (Jn.last J + 1), .string key, .slice ua l.length ucap] from by rw [hw2]; exact Cs.new _ [.int .i64 (Jn.last J + 1), .string key, .slice ua l.length ucap] _)
     have hb02 := below_tr hb1 hb2
     have hw2' : Below w0.heap.size w0 w2 := hw0.trans (hb02.mono hs0)
     have HK2 := hid (HK.out.below hb02)
     have hs1 := hb1.size
     have hs2 := hb2.size
     go_wp2_with fail
     rw [← hw2]
     clear hw2
     have hml : mb < w.heap.size := by
      obtain ⟨_, _, _, hM, _⟩ := HK.out
      exact hM.lt
     have HNW : Hid ((Lit.int .i64 (Jn.last J + 1)).wf = true) := Jn.wf_num (by omega) (by omega)
     have HNM := hid (show nn < maxLen from by unfold maxLen; omega)
     refine (take_any ⟨Jn.last J + 1, key, l⟩ (.slice ua l.length ucap) b mb nn (.slice ba J.base.length bcap) (.slice ca J.cos.length ccap) J.first (Jn.tree J) (Jn.D J.cos) _ (HU.out.below hw2') HLS.out hke HNW.out HK2.out (Pp.good_sized (Jn.tree_good HJ.out)) HNM.out nostr_slice nostr_slice).mono ?_
     rintro e w4 ⟨rfl, hn4, hK4⟩
     have hb4 : Below w0.heap.size w0 w4 := hw2'.trans (hn4.to (by omega) hb0 hm0)
     have HK4 := hid hK4
     have HX4 := hid (HX2.out.nb2 hn4 (by omega) (by omega))
     have hs4 := hn4.size
     clear hK4 hn4
     by_cases ha : Pp.allE (Jn.tree J) l (Jn.last J + 1) = 0
     · obtain ⟨vt4, hC4, hT4, hM4, _⟩ := HK4.out ha
       have HC4 := hid hC4
       have HNO4 := hid (show ∀ s, Value.string s ∉ [.slice ba J.base.length bcap, .int .i64 J.first, .slice ca J.cos.length ccap, vt4, .map (some mb)] from by
        obtain ⟨_, _, rfl, _⟩ := hT4
        intro s hs
        simp only [List.mem_cons, List.not_mem_nil, or_false] at hs
        rcases hs with h | h | h | h | h <;> exact Value.noConfusion h)
       have hbl4 := hC4.lt
       have m2 := hC4.cell 2 rfl
       have n2 := hC4.fr 2
       have x0 := HX4.out.cell 0 rfl
       have x1 := HX4.out.cell 1 rfl
       have x2 := HX4.out.cell 2 rfl
       obtain ⟨us, hch, hR⟩ := liesO_rows HVC.out
       have HCH := hid hch
       have HRL := hid (rowsO_len hch.1)
       have HR := hid hR.clip
       have HA := hid ha
       rw [ha]
       have hbn : Below w4.heap.size w4 (w4.drew.alloc (.cells #[.int .i64 (Jn.last J + 1), .string key, .slice ua l.length ucap] 58)) := ((Below.refl _ _).drew).alloc (Nat.le_refl _) _
       have hs04 : w0.heap.size ≤ w4.heap.size := hb4.size
       have HRW := hid (HR.out.below (hb4.trans (hbn.mono hs04)))
       have HRR := hid (show (rowO (Jn.newC J key l) (.slice ua l.length ucap)).length = 3 ∧ ∀ u ∈ rowO (Jn.newC J key l) (.slice ua l.length ucap), u.oneCell' = true from ⟨rfl, fun u hu => by
        simp only [rowO, List.mem_cons, List.not_mem_nil, or_false] at hu
        rcases hu with rfl | rfl | rfl <;> rfl⟩)
       have HNE : Hid (∀ j y, (rowO (Jn.newC J key l) (.slice ua l.length ucap))[j]? = some y → (w4.drew.alloc (.cells #[.int .i64 (Jn.last J + 1), .string key, .slice ua l.length ucap] 58)).cell? ((⟨w4.heap.size, 0, none⟩ : Addr).add j) = some y) := (fun j y hj => by
        rw [Addr.add_lit, Nat.zero_add]
        exact (Cs.new w4.drew [.int .i64 (Jn.last J + 1), .string key, .slice ua l.length ucap] 58).cell j hj : _)
       have HNN := hid (show (rowsO J.cos us).length ≤ 1000000000 from by rw [HRL.out]; omega)
       clear hC4 hT4 hM4 hch hR ha HK4
       go_upto_region 9 with fail
       go_cut [0] (fun x wx => x = .pointer (some ⟨b, 0, none⟩) ∧ ∃ va, Hid (Cs wx b [.slice ba J.base.length bcap, .int .i64 J.first, va, vt4, .map (some mb)]) ∧ Hid (LiesO wx va (J.cos ++ [Jn.newC J key l])) ∧ Below w0.heap.size w0 wx)
       case first =>
        go_region_law (first
         | (refine step_append_full rfl (.tmp 33) (.tmp 35) 35 rfl 58 i0 (.agg #[.int .i64 0, .string ⟨#[]⟩, .slice none 0 0]) 3 48 Tryz.underlying35 hi0 hz0 hz1 hz2 rfl (by decide) ca (rowsO J.cos us) J.cos.length HRL.out (by simp [Act.eval, Act.put]) HRW.out ⟨w4.heap.size, 0, none⟩ 1 (by simp [Act.eval, Act.put]) (rowO (Jn.newC J key l) (.slice ua l.length ucap)) HRR.out HNE.out HNN.out (by decide) ?_; rintro v5 w5 ⟨hR5, hO5, hb5⟩; have HR5 := hid hR5; have HO5 := hid hO5; obtain ⟨xa5, xc5, hv5, _⟩ := hR5; obtain ⟨n5, hn5⟩ : ∃ n5, (rowsO J.cos us ++ [rowO (Jn.newC J key l) (.slice ua l.length ucap)]).length = n5 := ⟨_, rfl⟩; rw [hn5] at hv5; subst hv5; clear hn5; have q5 : Below w4.heap.size w4 w5 := hbn.trans (hb5.mono hbn.size); have d2 := (q5.cell (p := ⟨b, 2, none⟩) hbl4).trans m2; have e2 := (q5.frozen (p := ⟨b, 2, none⟩) hbl4).trans n2)
         | (go_simp; go_at_call 160; refine (clip_any ca J.cos.length ccap _ hccap).mono ?_; rintro e wa ⟨rfl, rfl⟩))
        all_goals
         have hb05 : Below w0.heap.size w0 w5 := hb4.trans (q5.mono hs04)
         have hne5 : ∀ g, (Value.slice xa5 n5 xc5).ownBlock = some g → g ≠ b := fun g hg => by
          have h6 : w4.heap.size ≤ g := Nat.le_trans hbn.size (HO5.out g hg).1
          omega
         go_wp2_with fail
         go_meet
         case rel =>
          have hb06 : Below w0.heap.size w0 (w5.setCell ⟨b, 2, none⟩ (.slice xa5 n5 xc5)) := hb05.setCell (p := ⟨b, 2, none⟩) hb0 _
          exact ⟨rfl, _, (HC4.out.below q5).set 2 _, LiesO.append (HCH.out.below hb06) (HU.out.below hb06) (HR5.out.nbo (nb_set _ _ _ _) hne5), hb06⟩
       case rest =>
        obtain ⟨rfl, va, HCX, HLX, hbx⟩ := hcut
        have HLX2 := hid HLX.out
        obtain ⟨va1, vacap, rfl, _⟩ := HLX.out
        have hlA : (J.cos ++ [Jn.newC J key l]).length = J.cos.length + 1 := by simp
        have y2 := HCX.out.cell 2 rfl
        by_cases h31 : 30 < J.cos.length + 1
        · have h31' : 30 < (((J.cos ++ [Jn.newC J key l]).length : Nat) : Int) := by rw [hlA]; omega
          obtain ⟨c, r, hcr⟩ : ∃ c r, J.cos = c :: r := by
           cases hc : J.cos with
           | nil => rw [hc] at h31; simp at h31
           | cons c r => exact ⟨c, r, rfl⟩
          have hrl : r.length + 1 = J.cos.length := by rw [hcr]; simp
          have hfst := Jn.run_first (n := J.first) (T := J.base) (c := c) (r := r) (by rw [← hcr, (Jn.chk_parts HJ.out).2.2.2.1])
          have hcnu : c.nu = J.first := (Jn.co_zero hfst.1).1
          have HAD := hid (show Jn.addJ J key l = ⟨Pp.allR J.base c.ch J.first, J.first + 1, r ++ [Jn.newC J key l]⟩ from by rw [Jn.addJ, Jn.cutJ, if_pos (by show 30 < (J.cos ++ [Jn.newC J key l]).length; rw [hlA]; exact h31)]; simp only [hcr, List.cons_append])
          have HF0 := hid (show Pp.allE J.base c.ch J.first = 0 from by have := hfst.2; rwa [hcnu] at this)
          have HLX3 := hid (show LiesO wc (.slice va1 (J.cos ++ [Jn.newC J key l]).length vacap) (c :: (r ++ [Jn.newC J key l])) from by have := HLX2.out; rw [hcr] at this ⊢; exact this)
          have HCZ := hid (show SizedC 150000000000000 c.ch from (HCS.out c (by rw [hcr]; simp)).2)
          have HGB := hid (Pp.good_sized ((Pp.good_iff J.base).1 (Jn.chk_parts HJ.out).1))
          have HNO5 : Hid (∀ s, Value.string s ∉ [.slice ba J.base.length bcap, .int .i64 J.first, .slice va1 (J.cos ++ [Jn.newC J key l]).length vacap, vt4, .map (some mb)]) := (fun s hs => by
           simp only [List.mem_cons, List.not_mem_nil, or_false] at hs
           rcases hs with h | h | h | h | h
           · exact Value.noConfusion h
           · exact Value.noConfusion h
           · exact Value.noConfusion h
           · exact HNO4.out s (by simp [h])
           · exact Value.noConfusion h : _)
          clear hcr hfst hcnu
          go_wp2_with fail
          refine (forget_any J.base J.first c (r ++ [Jn.newC J key l]) b _ _ _ _ w0.heap.size _ HCX.out HNO5.out (HVB.out.below hbx) HLX3.out (by simp) HGB.out HCZ.out f1 f2 HF0.out hb0).mono ?_
          rintro e w6 ⟨rfl, hb6, vb6, va6, hC6, hL6, hO6⟩
          have HD := hid (show Added w6 b (Jn.addJ J key l) from by rw [HAD.out]; exact ⟨_, _, _, _, hC6, hL6, hO6⟩)
          have hb06 := hbx.trans hb6
          clear hC6 hL6 hO6
          go_wp2_with fail
          go_ret
          exact ⟨by rw [HE.out, HA.out]; rfl, hb06, fun _ => HD.out⟩
        · have h31' : ¬ 30 < (((J.cos ++ [Jn.newC J key l]).length : Nat) : Int) := by rw [hlA]; omega
          have HAD := hid (show Jn.addJ J key l = ⟨J.base, J.first, J.cos ++ [Jn.newC J key l]⟩ from by rw [Jn.addJ, Jn.cutJ, if_neg (by show ¬ 30 < (J.cos ++ [Jn.newC J key l]).length; rw [hlA]; exact h31)])
          have HVX := hid (HVB.out.below hbx)
          go_wp2_with fail
          go_ret
          refine ⟨by rw [HE.out, HA.out]; rfl, hbx, fun _ => ?_⟩
          rw [HAD.out]
          exact ⟨_, _, _, _, HCX.out, HVX.out, HLX2.out⟩
     · have hz : (Pp.allE (Jn.tree J) l (Jn.last J + 1) == 0) = false := by simpa using ha
       have HA := hid ha
       go_wp2_with fail
       go_ret
       exact ⟨by rw [HE.out]; rfl, hb4, fun h => by rw [HE.out] at h; exact absurd h HA.out⟩
end Go.Proofs.YtchlgpeiombmdaaGreat
