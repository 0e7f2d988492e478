/- What the reference's OpenOf and CheckUploads answer, for every uploads. -/
import Derived.Test.YtmdkecdhgjjceaaGreatUA
set_option linter.unusedSimpArgs false
set_option linter.unusedVariables false
namespace Go.Proofs.YtmdkecdhgjjceaaGreat
open Go.RowKit

set_option maxHeartbeats 1000000 in
theorem openOf_any (G : List Se) (v : Value) (p : ByteArray) (w : World) (hv : LiesS w v G) (hn : G.length ≤ 1000) (hs : ∀ s ∈ G, 0 ≤ s.si ∧ s.si ≤ 300) :
    Calls Tryz.prog 29 #[v, .string p] w fun e w' => e = .returned (.int .i64 (Pp.takS G p)) ∧ Below w.heap.size w w' := by
 obtain ⟨a, cap, rfl, hcap, hcap2, hLL⟩ := hv
 have HL : Hid (∀ i (h : i < G.length), ∃ b o, a = some ⟨b, o, none⟩ ∧ b < w.heap.size ∧ SeAt w b (o + i * 5) G[i]) := hLL
 have HS := hid (show ∀ i (h : i < G.length), 0 ≤ (G[i]).si ∧ (G[i]).si ≤ 300 from fun i h => hs _ (List.getElem_mem h))
 have HT := hid (show ∀ k, 0 ≤ Pp.takS (G.take k) p ∧ Pp.takS (G.take k) p ≤ 300 * G.length from fun k => by
  have h1 := Pp.takS_bound (L := G.take k) p fun s hs' => hs s (List.mem_of_mem_take hs')
  have h2 : (G.take k).length ≤ G.length := by rw [List.length_take]; omega
  omega)
 clear hLL hs
 go_enter Tryz.func29, Tryz.ntmps29
 go_wp2_with fail
 go_loopw [5, 6] (fun t i wr => ∃ k : Nat, k ≤ G.length ∧ i = .int .i64 k ∧ t = .int .i64 (Pp.takS (G.take k) p) ∧ Below w.heap.size w wr) (fun _ i _ => G.length - (intOf i).toNat)
 case atStart => exact ⟨0, Nat.zero_le _, rfl, rfl, Below.refl _ _⟩
 case round =>
  obtain ⟨k, hk, rfl, rfl, hbel⟩ := hrel
  by_cases hlt : k < G.length
  · obtain ⟨b, o, rfl, hb, he⟩ := HL.out k hlt
    obtain ⟨c0, c1, c2, c3, c4⟩ := he.below hb hbel
    obtain ⟨s1, s2⟩ := HS.out k hlt
    obtain ⟨t1, t2⟩ := HT.out k
    have hsn : Pp.takS (G.take (k + 1)) p = Pp.takS (G.take k) p + (if ((G[k]).wh.toList == p.toList) = true then (G[k]).si else 0) := by rw [List.take_succ_eq_append_getElem hlt, Pp.takS_snoc]
    have hsz := hbel.size
    clear he
    generalize G[k] = s at *
    generalize Pp.takS (G.take k) p = T at *
    cases hq : (s.wh.toList == p.toList) with
    | true =>
     have HSN := hid (show Pp.takS (G.take (k + 1)) p = T + s.si from by rw [hsn, hq]; rfl)
     clear hsn
     go_wp2_with fail
     go_roundw
     case rel => exact ⟨k + 1, by omega, by simp, by rw [HSN.out], hbel⟩
     case measure => simp [intOf]; omega
    | false =>
     have HSN := hid (show Pp.takS (G.take (k + 1)) p = T from by rw [hsn, hq]; simp)
     clear hsn
     go_wp2_with fail
     go_roundw
     case rel => exact ⟨k + 1, by omega, by simp, by rw [HSN.out], hbel⟩
     case measure => simp [intOf]; omega
  · have HE := hid (show Pp.takS (G.take k) p = Pp.takS G p from by rw [List.take_of_length_le (by omega)])
    go_wp2_with fail
    go_ret
    exact ⟨Pp.ret_int HE.out, hbel⟩

set_option maxHeartbeats 1000000 in
theorem rin_any (n l m : Int) (w : World) : Calls Tryz.prog 28 #[.int .i64 n, .int .i64 l, .int .i64 m] w fun e w' => e = .returned (.bool (Pp.inR l n m)) ∧ w' = w := by
 by_cases h : l ≤ n
 · have HE := hid (show decide (n ≤ m) = Pp.inR l n m from by rw [Pp.inR, decide_eq_true h]; rfl)
   go_enter Tryz.func28, Tryz.ntmps28
   go_wp2
   go_ret
   exact ⟨Pp.ret_bool HE.out, rfl⟩
 · have HE := hid (show false = Pp.inR l n m from by rw [Pp.inR, decide_eq_false h]; rfl)
   go_enter Tryz.func28, Tryz.ntmps28
   go_wp2
   go_ret
   exact ⟨Pp.ret_bool HE.out, rfl⟩

set_option maxRecDepth 100000 in
set_option maxHeartbeats 4000000 in
theorem rCheckUploads_any (G : List Se) (v : Value) (x l r : Int) (w : World) (hv : LiesS w v G) (hs : SizedS G) :
    Calls Tryz.prog 10 #[.agg #[v, .int .i64 x, .int .i64 l, .int .i64 r]] w fun e w' => e = .returned (.int .i64 (Pp.uchE G x l r)) ∧ Below w.heap.size w w' := by
 have HV := ghid hv
 have HS := ghid hs
 obtain ⟨a, cap, rfl, hcap, hcap2, hLL⟩ := hv
 have HL : Hid (∀ i (h : i < G.length), ∃ b o, a = some ⟨b, o, none⟩ ∧ b < w.heap.size ∧ SeAt w b (o + i * 5) G[i]) := hLL
 have eg : Enters Tryz.prog 28 := enters_of Tryz.func28 (by kernel_rfl) rfl
 clear hLL hs
 have hbw : Below w.heap.size w (w.alloc (.cells #[.slice a G.length cap, .int .i64 x, .int .i64 l, .int .i64 r] 26)) := (Below.refl _ _).alloc (Nat.le_refl _) _
 rcases Pp.bnd_cases G.length x l r with ⟨h1, hE⟩ | ⟨h1, h2, hE⟩ | ⟨h1, h2, h3, hE⟩ | ⟨h1, h2, h3, h4, hE⟩ | ⟨h1, h2, h3, h4, hE⟩
 · have HE := hid (show Pp.uchE G x l r = 3 from (Pp.uch_bnd (by rw [hE]; decide)).trans hE)
   have H1 := ghid h1
   clear hE h1
   go_enter Tryz.func10, Tryz.ntmps10
   go_wp2_with fail
   refine (rin_any l 1 1000000 _).mono ?_
   rintro e w1 ⟨rfl, hw⟩
   rw [hw, H1.out]
   clear hw w1
   go_wp2
   go_ret
   exact ⟨by rw [HE.out]; rfl, hbw⟩
 · have HE := hid (show Pp.uchE G x l r = 3 from (Pp.uch_bnd (by rw [hE]; decide)).trans hE)
   have H1 := ghid h1
   have H2 := ghid h2
   clear hE h1 h2
   go_enter Tryz.func10, Tryz.ntmps10
   go_wp2_with fail
   refine (rin_any l 1 1000000 _).mono ?_
   rintro e w1 ⟨rfl, hw⟩
   rw [hw, H1.out]
   clear hw w1
   go_wp2_with fail
   refine (rin_any r 0 100000 _).mono ?_
   rintro e w1 ⟨rfl, hw⟩
   rw [hw, H2.out]
   clear hw w1
   go_wp2
   go_ret
   exact ⟨by rw [HE.out]; rfl, hbw⟩
 · have HE := hid (show Pp.uchE G x l r = 3 from (Pp.uch_bnd (by rw [hE]; decide)).trans hE)
   have H1 := ghid h1
   have H2 := ghid h2
   have H3 := ghid h3
   clear hE h1 h2 h3
   go_enter Tryz.func10, Tryz.ntmps10
   go_wp2_with fail
   refine (rin_any l 1 1000000 _).mono ?_
   rintro e w1 ⟨rfl, hw⟩
   rw [hw, H1.out]
   clear hw w1
   go_wp2_with fail
   refine (rin_any r 0 100000 _).mono ?_
   rintro e w1 ⟨rfl, hw⟩
   rw [hw, H2.out]
   clear hw w1
   go_wp2_with fail
   refine (rin_any x 1 1099511627776 _).mono ?_
   rintro e w1 ⟨rfl, hw⟩
   rw [hw, H3.out]
   clear hw w1
   go_wp2
   go_ret
   exact ⟨by rw [HE.out]; rfl, hbw⟩
 · have HE := hid (show Pp.uchE G x l r = 2 from (Pp.uch_bnd (by rw [hE]; decide)).trans hE)
   have H1 := ghid h1
   have H2 := ghid h2
   have H3 := ghid h3
   have h20 : 20 < (G.length : Int) := by omega
   clear hE h1 h2 h3
   go_enter Tryz.func10, Tryz.ntmps10
   go_wp2_with fail
   refine (rin_any l 1 1000000 _).mono ?_
   rintro e w1 ⟨rfl, hw⟩
   rw [hw, H1.out]
   clear hw w1
   go_wp2_with fail
   refine (rin_any r 0 100000 _).mono ?_
   rintro e w1 ⟨rfl, hw⟩
   rw [hw, H2.out]
   clear hw w1
   go_wp2_with fail
   refine (rin_any x 1 1099511627776 _).mono ?_
   rintro e w1 ⟨rfl, hw⟩
   rw [hw, H3.out]
   clear hw w1
   go_wp2
   go_ret
   exact ⟨by rw [HE.out]; rfl, hbw⟩
 · have HBD := ghid hE
   obtain ⟨h20n, ⟨hl1, hl2⟩, ⟨hr1, hr2⟩, ⟨hx1, hx2⟩⟩ := Pp.bnd_zero hE
   have H1 := ghid h1
   have H2 := ghid h2
   have H3 := ghid h3
   have h20 : ¬ 20 < (G.length : Int) := by omega
   clear hE h1 h2 h3
   go_enter Tryz.func10, Tryz.ntmps10
   go_wp2_with fail
   refine (rin_any l 1 1000000 _).mono ?_
   rintro e w1 ⟨rfl, hw⟩
   rw [hw, H1.out]
   clear hw w1
   go_wp2_with fail
   refine (rin_any r 0 100000 _).mono ?_
   rintro e w1 ⟨rfl, hw⟩
   rw [hw, H2.out]
   clear hw w1
   go_wp2_with fail
   refine (rin_any x 1 1099511627776 _).mono ?_
   rintro e w1 ⟨rfl, hw⟩
   rw [hw, H3.out]
   clear hw w1
   go_wp2_with fail
   go_loopw [4] (fun i wr => ∃ k : Nat, k ≤ G.length ∧ i = .int .i64 k ∧ Hid (∀ j (h : j < G.length), j < k → Pp.seE x G[j] = 0) ∧ Below (w.alloc (.cells #[.slice a G.length cap, .int .i64 x, .int .i64 l, .int .i64 r] 26)).heap.size (w.alloc (.cells #[.slice a G.length cap, .int .i64 x, .int .i64 l, .int .i64 r] 26)) wr) (fun i _ => G.length - (intOf i).toNat)
   case atStart => exact ⟨0, Nat.zero_le _, rfl, (fun j _ h => absurd h (Nat.not_lt_zero _) : ∀ j (h : j < G.length), j < 0 → Pp.seE x G[j] = 0), Below.refl _ _⟩
   case round =>
    obtain ⟨k, hk, rfl, HP, hbel0⟩ := hrel
    obtain ⟨b0, b1, b2, b3, hbel, hltw⟩ := bx4 hbel0
    have HB0 := ghid hbel0
    clear hbel0
    by_cases hlt : k < G.length
    · obtain ⟨b, o, rfl, hb, he⟩ := HL.out k hlt
      obtain ⟨c0, c1, c2, c3, c4⟩ := he.below hb hbel
      have hsz := hbel.size
      clear he
      have HNO := hid (show ¬ Pp.seE x G[k] = 0 → Pp.seE x G[k] = Pp.uchE G x l r from fun h => by
       have hg := Pp.ses_hit hlt HP.out h
       rw [Pp.uch_ses HBD.out (by rw [hg]; exact h), hg])
      have HYES := hid (show Pp.seE x G[k] = 0 → ∀ j (h : j < G.length), j < k + 1 → Pp.seE x G[j] = 0 from fun hh j h1 h2 => by
       by_cases e : j = k
       · subst e; exact hh
       · exact HP.out j h1 (by omega))
      have hss := (HS.out G[k] (List.getElem_mem hlt)).1
      generalize G[k] = s at *
      obtain ⟨wz, hwz⟩ : ∃ wz, wz = wr.alloc (.cells #[.int .i64 s.nu, .string s.wh, .string s.tx, .int .i64 s.si, .int .i64 s.ti] 70) := ⟨_, rfl⟩
      have hbz0 : Below (w.alloc (.cells #[.slice (some ⟨b, o, none⟩) G.length cap, .int .i64 x, .int .i64 l, .int .i64 r] 26)).heap.size (w.alloc (.cells #[.slice (some ⟨b, o, none⟩) G.length cap, .int .i64 x, .int .i64 l, .int .i64 r] 26)) wz := hwz ▸ HB0.out.alloc HB0.out.size _
      obtain ⟨z0, z1, z2, z3, hbz, hltz⟩ := bx4 hbz0
      have s0 : wz.cell? ⟨wr.heap.size, 0, none⟩ = some (.int .i64 s.nu) := by rw [hwz]; simp
      have s1 : wz.cell? ⟨wr.heap.size, 1, none⟩ = some (.string s.wh) := by rw [hwz]; simp
      have s2 : wz.cell? ⟨wr.heap.size, 2, none⟩ = some (.string s.tx) := by rw [hwz]; simp
      have s3 : wz.cell? ⟨wr.heap.size, 3, none⟩ = some (.int .i64 s.si) := by rw [hwz]; simp
      have s4 : wz.cell? ⟨wr.heap.size, 4, none⟩ = some (.int .i64 s.ti) := by rw [hwz]; simp
      have HBZ0 := ghid hbz0
      have HBZ := ghid hbz
      clear hbz0 hbz HB0 hbel
      rcases Pp.se_cases x s with ⟨i1, iE⟩ | ⟨i1, i2, iE⟩ | ⟨i1, i2, i3, iE⟩ | ⟨i1, i2, i3, i4, iE⟩ | ⟨i1, i2, i3, i4, i5, iE⟩ | ⟨i1, i2, i3, i4, i5, iE⟩
      · have I1 := ghid i1
        have HE : Hid (3 = Pp.uchE G x l r) := (by rw [← HNO.out (by rw [iE]; decide), iE] : (3 : Int) = Pp.uchE G x l r)
        clear iE i1
        go_wp2_with fail
        rw [← hwz]
        clear hwz c0 c1 c2 c3 c4 b0 b1 b2 b3
        refine (rin_any s.nu 1 (x - 1) _).mono ?_
        rintro e w1 ⟨rfl, hw⟩
        rw [hw, I1.out]
        clear hw w1
        go_wp2_with fail
        go_ret
        exact ⟨Pp.ret_int HE.out, HBZ.out⟩
      · have I1 := ghid i1
        have I2 := ghid i2
        have HE : Hid (3 = Pp.uchE G x l r) := (by rw [← HNO.out (by rw [iE]; decide), iE] : (3 : Int) = Pp.uchE G x l r)
        clear iE i1 i2
        go_wp2_with fail
        rw [← hwz]
        clear hwz c0 c1 c2 c3 c4 b0 b1 b2 b3
        refine (rin_any s.nu 1 (x - 1) _).mono ?_
        rintro e w1 ⟨rfl, hw⟩
        rw [hw, I1.out]
        clear hw w1
        go_wp2_with fail
        refine (rin_any s.si 0 300 _).mono ?_
        rintro e w1 ⟨rfl, hw⟩
        rw [hw, I2.out]
        clear hw w1
        go_wp2_with fail
        go_ret
        exact ⟨Pp.ret_int HE.out, HBZ.out⟩
      · have I1 := ghid i1
        have I2 := ghid i2
        have I3 := ghid i3
        have HE : Hid (3 = Pp.uchE G x l r) := (by rw [← HNO.out (by rw [iE]; decide), iE] : (3 : Int) = Pp.uchE G x l r)
        clear iE i1 i2 i3
        go_wp2_with fail
        rw [← hwz]
        clear hwz c0 c1 c2 c3 c4 b0 b1 b2 b3
        refine (rin_any s.nu 1 (x - 1) _).mono ?_
        rintro e w1 ⟨rfl, hw⟩
        rw [hw, I1.out]
        clear hw w1
        go_wp2_with fail
        refine (rin_any s.si 0 300 _).mono ?_
        rintro e w1 ⟨rfl, hw⟩
        rw [hw, I2.out]
        clear hw w1
        go_wp2_with fail
        refine (rin_any s.ti 0 2199023255552 _).mono ?_
        rintro e w1 ⟨rfl, hw⟩
        rw [hw, I3.out]
        clear hw w1
        go_wp2_with fail
        go_ret
        exact ⟨Pp.ret_int HE.out, HBZ.out⟩
      · have I1 := ghid i1
        have I2 := ghid i2
        have I3 := ghid i3
        have I4 := ghid i4
        have HE : Hid (1 = Pp.uchE G x l r) := (by rw [← HNO.out (by rw [iE]; decide), iE] : (1 : Int) = Pp.uchE G x l r)
        clear iE i1 i2 i3 i4
        go_wp2_with fail
        rw [← hwz]
        clear hwz c0 c1 c2 c3 c4 b0 b1 b2 b3
        refine (rin_any s.nu 1 (x - 1) _).mono ?_
        rintro e w1 ⟨rfl, hw⟩
        rw [hw, I1.out]
        clear hw w1
        go_wp2_with fail
        refine (rin_any s.si 0 300 _).mono ?_
        rintro e w1 ⟨rfl, hw⟩
        rw [hw, I2.out]
        clear hw w1
        go_wp2_with fail
        refine (rin_any s.ti 0 2199023255552 _).mono ?_
        rintro e w1 ⟨rfl, hw⟩
        rw [hw, I3.out]
        clear hw w1
        go_wp2_with fail
        refine (rIsName_any s.wh _ hss).mono ?_
        rintro e w1 ⟨rfl, hw⟩
        rw [hw, I4.out]
        clear hw w1
        go_wp2_with fail
        go_ret
        exact ⟨Pp.ret_int HE.out, HBZ.out⟩
      · have I1 := ghid i1
        have I2 := ghid i2
        have I3 := ghid i3
        have I4 := ghid i4
        have HE : Hid (2 = Pp.uchE G x l r) := (by rw [← HNO.out (by rw [iE]; decide), iE] : (2 : Int) = Pp.uchE G x l r)
        clear iE i1 i2 i3 i4
        go_wp2_with fail
        rw [← hwz]
        clear hwz c0 c1 c2 c3 c4 b0 b1 b2 b3
        refine (rin_any s.nu 1 (x - 1) _).mono ?_
        rintro e w1 ⟨rfl, hw⟩
        rw [hw, I1.out]
        clear hw w1
        go_wp2_with fail
        refine (rin_any s.si 0 300 _).mono ?_
        rintro e w1 ⟨rfl, hw⟩
        rw [hw, I2.out]
        clear hw w1
        go_wp2_with fail
        refine (rin_any s.ti 0 2199023255552 _).mono ?_
        rintro e w1 ⟨rfl, hw⟩
        rw [hw, I3.out]
        clear hw w1
        go_wp2_with fail
        refine (rIsName_any s.wh _ hss).mono ?_
        rintro e w1 ⟨rfl, hw⟩
        rw [hw, I4.out]
        clear hw w1
        go_wp2_with fail
        go_ret
        exact ⟨Pp.ret_int HE.out, HBZ.out⟩
      · have I1 := ghid i1
        have I2 := ghid i2
        have I3 := ghid i3
        have I4 := ghid i4
        have HP2 := ghid (HYES.out iE)
        clear iE i1 i2 i3 i4
        go_wp2_with fail
        rw [← hwz]
        clear hwz c0 c1 c2 c3 c4 b0 b1 b2 b3
        refine (rin_any s.nu 1 (x - 1) _).mono ?_
        rintro e w1 ⟨rfl, hw⟩
        rw [hw, I1.out]
        clear hw w1
        go_wp2_with fail
        refine (rin_any s.si 0 300 _).mono ?_
        rintro e w1 ⟨rfl, hw⟩
        rw [hw, I2.out]
        clear hw w1
        go_wp2_with fail
        refine (rin_any s.ti 0 2199023255552 _).mono ?_
        rintro e w1 ⟨rfl, hw⟩
        rw [hw, I3.out]
        clear hw w1
        go_wp2_with fail
        refine (rIsName_any s.wh _ hss).mono ?_
        rintro e w1 ⟨rfl, hw⟩
        rw [hw, I4.out]
        clear hw w1
        go_wp2_with fail
        go_roundw
        case rel => exact ⟨k + 1, by omega, by simp, HP2, HBZ0.out⟩
        case measure => simp [intOf]; omega
    · have HSE := ghid (Pp.ses_all fun j h => HP.out j h (by omega))
      have HSI := ghid (Pp.ses_si HSE.out)
      go_wp2_with fail
      clear hk hlt HP
      go_loopw [6] (fun i wr => ∃ k : Nat, (k ≤ G.length ∨ k = 1) ∧ 1 ≤ k ∧ i = .int .i64 k ∧ Hid (∀ j (h : j + 1 < G.length), j + 1 < k → (G[j]).nu < (G[j + 1]).nu) ∧ Below (w.alloc (.cells #[.slice a G.length cap, .int .i64 x, .int .i64 l, .int .i64 r] 26)).heap.size (w.alloc (.cells #[.slice a G.length cap, .int .i64 x, .int .i64 l, .int .i64 r] 26)) wr) (fun i _ => G.length - (intOf i).toNat)
      case atStart => exact ⟨1, Or.inr rfl, Nat.le_refl _, rfl, (fun j _ h => absurd h (by omega) : ∀ j (h : j + 1 < G.length), j + 1 < 1 → (G[j]).nu < (G[j + 1]).nu), HB0.out⟩
      case round =>
       clear b0 b1 b2 b3 hbel hltw HB0
       obtain ⟨k, hk, hk1, rfl, HP, hbel0⟩ := hrel
       obtain ⟨b0, b1, b2, b3, hbel, hltw⟩ := bx4 hbel0
       have HB0 := ghid hbel0
       clear hbel0
       obtain ⟨m, rfl⟩ : ∃ m, k = m + 1 := ⟨k - 1, by omega⟩
       by_cases hlt : m + 1 < G.length
       · obtain ⟨b, o, rfl, hb, he⟩ := HL.out m (by omega)
         obtain ⟨c0, _⟩ := he.below hb hbel
         obtain ⟨b', o', hbo, hb', he'⟩ := HL.out (m + 1) hlt
         obtain ⟨rfl, rfl⟩ : b' = b ∧ o' = o := by simp at hbo; exact ⟨hbo.1.symm, hbo.2.symm⟩
         obtain ⟨d0, _⟩ := he'.below hb' hbel
         clear he he' hbo
         by_cases hn : (G[m]).nu < (G[m + 1]).nu
         · have HP2 := hid (show ∀ j (h : j + 1 < G.length), j + 1 < m + 1 + 1 → (G[j]).nu < (G[j + 1]).nu from fun j h1 h2 => by
            by_cases e : j = m
            · subst e; exact hn
            · exact HP.out j h1 (by omega))
           generalize (G[m]).nu = p at *
           generalize (G[m + 1]).nu = q at *
           go_wp2_with fail
           go_region
           go_wp2_with fail
           go_roundw
           case rel => exact ⟨m + 1 + 1, by omega, by omega, by simp, HP2, HB0.out.drew⟩
           case measure => simp [intOf]; omega
         · have HE := hid (show 4 = Pp.uchE G x l r from (Pp.uch_ris HBD.out HSE.out (Pp.risS_no hlt hn)).symm)
           generalize (G[m]).nu = p at *
           generalize (G[m + 1]).nu = q at *
           go_wp2_with fail
           go_region
           go_wp2_with fail
           go_ret
           exact ⟨Pp.ret_int HE.out, hbel.drew⟩
       · have HRI := ghid (Pp.risS_yes fun j h => HP.out j h (by omega))
         have HRO := ghid (Pp.uch_ro HBD.out HSE.out HRI.out)
         go_wp2_with fail
         clear hk hk1 hlt HP
         go_loopw [7] (fun i wr => ∃ k : Nat, k ≤ G.length ∧ i = .int .i64 k ∧ Hid (∀ j (h : j < G.length), j < k → Pp.takS G (G[j]).wh ≤ r) ∧ Below (w.alloc (.cells #[.slice a G.length cap, .int .i64 x, .int .i64 l, .int .i64 r] 26)).heap.size (w.alloc (.cells #[.slice a G.length cap, .int .i64 x, .int .i64 l, .int .i64 r] 26)) wr) (fun i _ => G.length - (intOf i).toNat)
         case atStart => exact ⟨0, Nat.zero_le _, rfl, (fun j _ h => absurd h (Nat.not_lt_zero _) : ∀ j (h : j < G.length), j < 0 → Pp.takS G (G[j]).wh ≤ r), HB0.out⟩
         case round =>
          clear b0 b1 b2 b3 hbel hltw HB0
          obtain ⟨k, hk, rfl, HP, hbel0⟩ := hrel
          obtain ⟨b0, b1, b2, b3, hbel, hltw⟩ := bx4 hbel0
          have HB0 := ghid hbel0
          clear hbel0
          by_cases hlt : k < G.length
          · obtain ⟨b, o, rfl, hb, he⟩ := HL.out k hlt
            obtain ⟨c0, c1, c2, c3, c4⟩ := he.below hb hbel
            have hsz := hbel.size
            clear he
            have HNO := hid (show r < Pp.takS G (G[k]).wh → 10 = Pp.uchE G x l r from fun h => by rw [HRO.out]; exact Pp.ro_no hlt h)
            have HYES := hid (show Pp.takS G (G[k]).wh ≤ r → ∀ j (h : j < G.length), j < k + 1 → Pp.takS G (G[j]).wh ≤ r from fun hh j h1 h2 => by
             by_cases e : j = k
             · subst e; exact hh
             · exact HP.out j h1 (by omega))
            generalize G[k] = s at *
            have hbr : b < wr.heap.size := by omega
            go_wp2_with fail
            go_region_held3 (fun W => W.cell? ⟨w.heap.size, 0, none⟩ = some (.slice (some ⟨b, o, none⟩) G.length cap) ∧ W.cell? ⟨w.heap.size, 3, none⟩ = some (.int .i64 r) ∧ W.cell? ⟨b, o + k * 5 + 1, none⟩ = some (.string s.wh)) (go_keep) (first
             | (go_at_call 29; refine (openOf_any G _ s.wh _ (HV.out.below hbel.drew) (by omega) HSI.out).mono ?_; rintro e wa ⟨rfl, hba⟩; have k0 := (hba.cell (p := ⟨w.heap.size, 0, none⟩) hltw).trans b0; have k3 := (hba.cell (p := ⟨w.heap.size, 3, none⟩) hltw).trans b3; have k1 := (hba.cell (p := ⟨b, o + k * 5 + 1, none⟩) hbr).trans c1))
            all_goals
             have hb01 : Below (w.alloc (.cells #[.slice (some ⟨b, o, none⟩) G.length cap, .int .i64 x, .int .i64 l, .int .i64 r] 26)).heap.size (w.alloc (.cells #[.slice (some ⟨b, o, none⟩) G.length cap, .int .i64 x, .int .i64 l, .int .i64 r] 26)) wa := HB0.out.drew.trans (hba.mono HB0.out.drew.size)
             clear hba
             by_cases hr : r < Pp.takS G s.wh
             · have HE := ghid (HNO.out hr)
               generalize Pp.takS G s.wh = T at *
               go_wp2_with fail
               go_ret
               exact ⟨Pp.ret_int HE.out, (bx4 hb01).2.2.2.2.1⟩
             · have HP2 := ghid (HYES.out (by omega))
               generalize Pp.takS G s.wh = T at *
               go_wp2_with fail
               go_roundw
               case rel => exact ⟨k + 1, by omega, by simp, HP2, by simpa using hb01⟩
               case measure => simp [intOf]; omega
          · have HE := hid (show 0 = Pp.uchE G x l r from by rw [HRO.out]; exact Pp.ro_yes fun j h => HP.out j h (by omega))
            go_wp2_with fail
            go_ret
            exact ⟨Pp.ret_int HE.out, hbel⟩
end Go.Proofs.YtmdkecdhgjjceaaGreat
