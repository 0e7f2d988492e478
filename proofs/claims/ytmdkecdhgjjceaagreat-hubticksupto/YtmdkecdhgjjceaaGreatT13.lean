/- What the reference's CheckTree answers, for every tree. -/
import Derived.Test.YtmdkecdhgjjceaaGreatHO
import Derived.Test.YtmdkecdhgjjceaaGreatMA
set_option linter.unusedSimpArgs false
set_option linter.unusedVariables false
namespace Go.Proofs.YtmdkecdhgjjceaaGreat
open Go.RowKit

namespace Pp
theorem ent_cases (e : En) :
    (¬ chk e.path.data.toList = 0 ∧ entE e = chk e.path.data.toList) ∨
    (chk e.path.data.toList = 0 ∧ e.folder = true ∧ e.text.toList.isEmpty = false ∧ entE e = 1) ∨
    (chk e.path.data.toList = 0 ∧ e.folder = false ∧ 300 < (e.text.size : Int) ∧ entE e = 2) ∨
    (chk e.path.data.toList = 0 ∧ e.folder = true ∧ e.text.toList.isEmpty = true ∧ (e.text.size : Int) ≤ 300 ∧ entE e = verE e.ver) ∨
    (chk e.path.data.toList = 0 ∧ e.folder = false ∧ (e.text.size : Int) ≤ 300 ∧ entE e = verE e.ver) := by
 by_cases hz : chk e.path.data.toList = 0
 · refine Or.inr ?_
   have hE : entE e = if e.folder = true ∧ ¬ e.text.data.toList = [] then 1 else if 300 < e.text.size then 2 else verE e.ver := by rw [entE, if_pos hz]
   cases hx : e.folder with
   | true =>
    cases hc : e.text.toList.isEmpty with
    | false => exact Or.inl ⟨hz, rfl, rfl, by rw [hE, if_pos ⟨hx, not_empty hc⟩]⟩
    | true =>
     have ht0 : e.text.size = 0 := by rw [Lib.size_eq, (empty_iff e.text).1 hc]; rfl
     exact Or.inr (Or.inr (Or.inl ⟨hz, rfl, rfl, by omega, by rw [hE, if_neg (fun h => h.2 ((empty_iff e.text).1 hc)), if_neg (by omega)]⟩))
   | false =>
    by_cases hl : 300 < e.text.size
    · exact Or.inr (Or.inl ⟨hz, rfl, by omega, by rw [hE, hx, if_neg (fun h => by cases h.1), if_pos hl]⟩)
    · exact Or.inr (Or.inr (Or.inr ⟨hz, rfl, by omega, by rw [hE, hx, if_neg (fun h => by cases h.1), if_neg hl]⟩))
 · exact Or.inl ⟨hz, by rw [entE, if_neg hz]⟩
theorem pars4 {L : List En} {k : Nat} (hlt : k < L.length) (h : ∀ j (h : j < L.length), parF L L[j] ≠ 5) (hk : parF L L[k] ≠ 0) : 4 = parsE L L := by
 have h4 : parF L L[k] = 4 := by
  rcases foldE_range L (par (L[k]).path.data.toList) with h0 | h0 | h0
  · exact absurd h0 hk
  · exact h0
  · exact absurd h0 (h k hlt)
 have n5 : ¬ L.any (fun e => parF L e == 5) = true := by
  intro h5
  obtain ⟨x, hx, h6⟩ := List.any_eq_true.1 h5
  obtain ⟨j, hj, rfl⟩ := List.getElem_of_mem hx
  exact h j hj (by simpa using h6)
 have y4 : L.any (fun e => parF L e == 4) = true := List.any_eq_true.2 ⟨L[k], List.getElem_mem hlt, by simp [h4]⟩
 rw [parsE, if_neg n5, if_pos y4]
theorem pars0 {L : List En} (h : ∀ j (h : j < L.length), parF L L[j] = 0) : 0 = parsE L L := by
 have n : ∀ c : Int, c ≠ 0 → ¬ L.any (fun e => parF L e == c) = true := by
  intro c hc h5
  obtain ⟨x, hx, h6⟩ := List.any_eq_true.1 h5
  obtain ⟨j, hj, rfl⟩ := List.getElem_of_mem hx
  rw [h j hj] at h6
  exact hc (by simpa using h6 : (0 : Int) = c).symm
 rw [parsE, if_neg (n 5 (by decide)), if_neg (n 4 (by decide))]
theorem lt_flip {x y : En} (h : lt x y = true) : lt y x = false ∧ (y.path.toList == x.path.toList) = false := by
 constructor
 · cases h2 : lt y x with
   | false => rfl
   | true =>
    have := lt_trans _ _ _ h h2
    rw [lt_irrefl] at this
    cases this
 · rw [beq_eq_false_iff_ne]
   intro e
   have e2 : lt x y = lt x x := by rw [lt, lt, e]
   rw [e2, lt_irrefl] at h
   cases h
theorem lt_no {x y : En} (h : lt x y = false) : lt y x = true ∨ (lt y x = false ∧ (y.path.toList == x.path.toList) = true) := by
 cases h2 : lt y x with
 | true => exact Or.inl rfl
 | false =>
  refine Or.inr ⟨rfl, ?_⟩
  rw [Lib.toList_data, Lib.toList_data, lt_same h2 h]
  simp
theorem ver_zero {n : Int} : verE n = 0 ↔ 1 ≤ n ∧ n ≤ 1000000 := by
 unfold verE
 split <;> omega
end Pp

set_option maxHeartbeats 400000 in
theorem isVersion_any (n : Int) (w : World) :
    Calls Tryz.prog 78 #[.int .i64 n] w fun e w' => e = .returned (.bool (Pp.verE n == 0)) ∧ w' = w := by
 by_cases h1 : 1 ≤ n
 · by_cases h2 : n ≤ 1000000
   · have HE := hid (show true = (Pp.verE n == 0) from by rw [Pp.ver_zero.2 ⟨h1, h2⟩]; rfl)
     go_enter Tryz.func78, Tryz.ntmps78
     go_wp2
     go_ret
     exact ⟨Pp.ret_bool HE.out, rfl⟩
   · have HE := hid (show false = (Pp.verE n == 0) from by symm; rw [beq_eq_false_iff_ne]; exact fun h => h2 (Pp.ver_zero.1 h).2)
     go_enter Tryz.func78, Tryz.ntmps78
     go_wp2
     go_ret
     exact ⟨Pp.ret_bool HE.out, rfl⟩
 · have HE := hid (show false = (Pp.verE n == 0) from by symm; rw [beq_eq_false_iff_ne]; exact fun h => h1 (Pp.ver_zero.1 h).1)
   go_enter Tryz.func78, Tryz.ntmps78
   go_wp2
   go_ret
   exact ⟨Pp.ret_bool HE.out, rfl⟩

set_option maxHeartbeats 2000000 in
theorem rCheckTree_any (L : List En) (v : Value) (w : World) (hv : Lies w v L) (hs : ∀ e ∈ L, e.path.size ≤ 1000000000) :
    Calls Tryz.prog 77 #[v] w fun e w' => e = .returned (.int .i64 (Pp.treeE L)) ∧ Below w.heap.size w w' := by
 have HV : Hid (Lies w v L) := hv
 have HS : Hid (∀ e ∈ L, e.path.size ≤ 1000000000) := hs
 obtain ⟨a, cap, rfl, hcap, hcap2, hL⟩ := hv
 have HL : Hid (∀ i (h : i < L.length), ∃ b o, a = some ⟨b, o, none⟩ ∧ b < w.heap.size ∧ EnAt w b (o + i * 4) L[i]) := hL
 clear hL hs
 by_cases h60 : 60 < (L.length : Int)
 · have HE := hid (show 2 = Pp.treeE L from by rw [Pp.treeE, if_pos (by omega)])
   go_enter Tryz.func77, Tryz.ntmps77
   go_wp2_with fail
   go_ret
   exact ⟨Pp.ret_int HE.out, Below.refl _ _⟩
 have HT := hid (show Pp.treeE L = if Pp.entsE L = 0 then (if Pp.risesB L = true then Pp.parsE L L else 4) else Pp.entsE L from by rw [Pp.treeE, if_neg (by omega)])
 go_enter Tryz.func77, Tryz.ntmps77
 go_wp2_with fail
 go_loopw [3] (fun i wr => ∃ k : Nat, k ≤ L.length ∧ i = .int .i64 k ∧ Hid (Pp.entsE L = Pp.entsE (L.drop k)) ∧ Below w.heap.size w wr) (fun i _ => L.length - (intOf i).toNat)
 case atStart => exact ⟨0, Nat.zero_le _, rfl, (rfl : Pp.entsE L = Pp.entsE (L.drop 0)), Below.refl _ _⟩
 case round =>
  obtain ⟨k, hk, rfl, HQ, hbel⟩ := hrel
  by_cases hlt : k < L.length
  · obtain ⟨b, o, rfl, hb, he⟩ := HL.out k hlt
    obtain ⟨c0, c1, c2, c3⟩ := he.below hb hbel
    have HD : Hid (L.drop k = L[k] :: L.drop (k + 1)) := List.drop_eq_getElem_cons hlt
    have hsz := HS.out L[k] (List.getElem_mem hlt)
    have HN := hid (show Pp.entE L[k] ≠ 0 → Pp.entE L[k] = Pp.treeE L from fun hz => by
        have e1 : Pp.entsE L = Pp.entE L[k] := by rw [HQ.out, HD.out, Pp.entsE, if_neg hz]
        rw [HT.out, if_neg (by rw [e1]; exact hz), e1])
    have HG := hid (show Pp.entE L[k] = 0 → Pp.entsE L = Pp.entsE (L.drop (k + 1)) from fun hz => by rw [HQ.out, HD.out, Pp.entsE, if_pos hz])
    rcases Pp.ent_cases L[k] with ⟨hz, hE⟩ | ⟨hz, hx, hc, hE⟩ | ⟨hz, hx, hc, hE⟩ | ⟨hz, hx, hc, hc2, hE⟩ | ⟨hz, hx, hc2, hE⟩
    · have HE := hid (show Pp.chk (L[k]).path.data.toList = Pp.treeE L from by rw [← hE]; exact HN.out (by rw [hE]; exact hz))
      have hz2 : (Pp.chk (L[k]).path.data.toList == 0) = false := by simpa using hz
      clear hE
      go_wp2_with fail
      refine (rCheck_any (L[k]).path _ hsz).mono ?_
      rintro e w1 ⟨rfl, hb1⟩
      have hbel1 := below_trans hbel hb1
      clear c0 c1 c2 c3 hbel hb1
      go_wp2_with fail
      go_ret
      exact ⟨Pp.ret_int HE.out, hbel1⟩
    · have HE := hid (show 1 = Pp.treeE L from by rw [← HN.out (by rw [hE]; decide), hE])
      have HZ : Hid (Pp.chk (L[k]).path.data.toList = 0) := hz
      clear hE hz
      go_wp2_with fail
      refine (rCheck_any (L[k]).path _ hsz).mono ?_
      rintro e w1 ⟨rfl, hb1⟩
      rw [HZ.out]
      have hbel1 := below_trans hbel hb1
      obtain ⟨d0, d1, d2, d3⟩ := he.below hb hbel1
      rw [hx] at d1
      clear c0 c1 c2 c3 hbel hb1 hx
      go_wp2_with fail
      go_ret
      exact ⟨Pp.ret_int HE.out, hbel1⟩
    · have HE := hid (show 2 = Pp.treeE L from by rw [← HN.out (by rw [hE]; decide), hE])
      have HZ : Hid (Pp.chk (L[k]).path.data.toList = 0) := hz
      clear hE hz
      go_wp2_with fail
      refine (rCheck_any (L[k]).path _ hsz).mono ?_
      rintro e w1 ⟨rfl, hb1⟩
      rw [HZ.out]
      have hbel1 := below_trans hbel hb1
      obtain ⟨d0, d1, d2, d3⟩ := he.below hb hbel1
      rw [hx] at d1
      clear c0 c1 c2 c3 hbel hb1 hx
      go_wp2_with fail
      go_ret
      exact ⟨Pp.ret_int HE.out, hbel1⟩
    all_goals
     have HZ : Hid (Pp.chk (L[k]).path.data.toList = 0) := hz
     have HVE : Hid (Pp.entE L[k] = Pp.verE (L[k]).ver) := hE
     clear hE hz
     go_wp2_with fail
     refine (rCheck_any (L[k]).path _ hsz).mono ?_
     rintro e w1 ⟨rfl, hb1⟩
     rw [HZ.out]
     have hbel1 := below_trans hbel hb1
     obtain ⟨d0, d1, d2, d3⟩ := he.below hb hbel1
     rw [hx] at d1
     clear c0 c1 c2 c3 hbel hb1 hx
     go_wp2_with fail
     refine (isVersion_any (L[k]).ver _).mono ?_
     rintro e w2 ⟨rfl, rfl⟩
     cases hq : (Pp.verE (L[k]).ver == 0) with
     | true =>
      have HR := hid (show Pp.entsE L = Pp.entsE (L.drop (k + 1)) from HG.out (by rw [HVE.out]; simpa using hq))
      clear hq
      go_wp2_with fail
      go_roundw
      case rel => exact ⟨k + 1, by omega, by simp, HR, hbel1⟩
      case measure => simp [intOf]; omega
     | false =>
      have HE := hid (show 3 = Pp.treeE L from by
       have h0 : Pp.verE (L[k]).ver ≠ 0 := by simpa using hq
       have h3 : Pp.verE (L[k]).ver = 3 := by unfold Pp.verE at h0 ⊢; split <;> simp_all
       rw [← HN.out (by rw [HVE.out]; exact h0), HVE.out, h3])
      clear hq
      go_wp2_with fail
      go_ret
      exact ⟨Pp.ret_int HE.out, hbel1⟩
  · have HX := hid (show Pp.treeE L = if Pp.risesB L = true then Pp.parsE L L else 4 from by
     have e0 : Pp.entsE L = 0 := by rw [HQ.out, List.drop_eq_nil_of_le (by omega)]; rfl
     rw [HT.out, if_pos e0])
    clear HQ HT
    go_wp2_with fail
    clear hlt hk
    go_loopw [5] (fun i wr => ∃ m : Nat, m ≤ L.length ∧ i = .int .i64 ((m : Int) + 1) ∧ Hid (∀ i (h : i + 1 < L.length), i < m → Pp.lt L[i] L[i + 1] = true) ∧ Below w.heap.size w wr) (fun i _ => L.length + 2 - (intOf i).toNat)
    case atStart => exact ⟨0, Nat.zero_le _, rfl, (fun i _ h => absurd h (Nat.not_lt_zero _) : ∀ i (h : i + 1 < L.length), i < 0 → Pp.lt L[i] L[i + 1] = true), hbel⟩
    case round =>
     clear hbel
     obtain ⟨m, hm, rfl, HP, hbel⟩ := hrel
     by_cases hlt : m + 1 < L.length
     · obtain ⟨b, o, rfl, hb, he⟩ := HL.out m (by omega)
       obtain ⟨c0, c1, c2, c3⟩ := he.below hb hbel
       obtain ⟨b', o', hbo, hb', he'⟩ := HL.out (m + 1) hlt
       obtain ⟨rfl, rfl⟩ : b = b' ∧ o = o' := by simpa using hbo
       obtain ⟨d0, d1, d2, d3⟩ := he'.below hb hbel
       have hlt2 : (m : Int) + 1 < L.length := by omega
       clear c1 c2 c3 d1 d2 d3 hbo
       cases hl : Pp.lt L[m] L[m + 1] with
       | true =>
        have hl2 : Op.bytesLess (L[m + 1]).path.toList (L[m]).path.toList = false := (Pp.lt_flip hl).1
        have hl3 : ((L[m + 1]).path.toList == (L[m]).path.toList) = false := (Pp.lt_flip hl).2
        go_wp2_with fail
        go_region
        go_wp2
        go_roundw
        case rel => exact ⟨m + 1, by omega, by simp, (fun i h1 h2 => by
         by_cases e : i = m
         · subst e; exact hl
         · exact HP.out i h1 (by omega) : ∀ i (h : i + 1 < L.length), i < m + 1 → Pp.lt L[i] L[i + 1] = true), hbel.drew⟩
        case measure => simp [intOf]; omega
       | false =>
        have HE := hid (show 4 = Pp.treeE L from by rw [HX.out, ← Pp.rises_no hlt hl]; rfl)
        rcases Pp.lt_no hl with hl2 | ⟨hl2, hl3⟩
        · have hl4 : Op.bytesLess (L[m + 1]).path.toList (L[m]).path.toList = true := hl2
          go_wp2_with fail
          go_region
          go_wp2
          go_ret
          exact ⟨Pp.ret_int HE.out, hbel.drew⟩
        · have hl4 : Op.bytesLess (L[m + 1]).path.toList (L[m]).path.toList = false := hl2
          go_wp2_with fail
          go_region
          go_wp2
          go_ret
          exact ⟨Pp.ret_int HE.out, hbel.drew⟩
     · have HY := hid (show Pp.treeE L = Pp.parsE L L from by rw [HX.out, ← Pp.rises_yes fun i h => HP.out i h (by omega)]; rfl)
       clear HX HP
       go_wp2_with fail
       clear hlt hm
       go_loopw [6] (fun i wr => ∃ k : Nat, k ≤ L.length ∧ i = .int .i64 k ∧ Hid (∀ j (h : j < L.length), j < k → Pp.parF L L[j] ≠ 5) ∧ Below w.heap.size w wr) (fun i _ => L.length - (intOf i).toNat)
       case atStart => exact ⟨0, Nat.zero_le _, rfl, (fun j _ h => absurd h (Nat.not_lt_zero _) : ∀ j (h : j < L.length), j < 0 → Pp.parF L L[j] ≠ 5), hbel⟩
       case round =>
        clear hbel
        obtain ⟨k, hk, rfl, HP, hbel⟩ := hrel
        by_cases hlt : k < L.length
        · obtain ⟨b, o, rfl, hb, he⟩ := HL.out k hlt
          obtain ⟨c0, c1, c2, c3⟩ := he.below hb hbel
          have hsz := HS.out L[k] (List.getElem_mem hlt)
          go_wp2_with fail
          refine (parentOf_any (L[k]).path _ hsz).mono ?_
          rintro e w1 ⟨rfl, hb1⟩
          have hbel1 := below_trans hbel hb1
          clear c0 c1 c2 c3 hbel hb1
          go_wp2_with fail
          refine (isFolder_any L _ ⟨(Pp.par (L[k]).path.data.toList).toArray⟩ _ (HV.out.below hbel1)).mono ?_
          rintro e w2 ⟨rfl, hb2⟩
          have hbel2 := below_trans hbel1 hb2
          clear hbel1 hb2
          rw [show Pp.foldE L _ = Pp.parF L L[k] from rfl]
          by_cases h5 : Pp.parF L L[k] = 5
          · have H5 : Hid (Pp.parF L L[k] = 5) := h5
            have HE := hid (show 5 = Pp.treeE L from by rw [HY.out]; exact Pp.parsTo_hit hlt h5)
            clear h5
            rw [H5.out]
            go_wp2_with fail
            go_ret
            exact ⟨Pp.ret_int HE.out, hbel2⟩
          · have h52 : (Pp.parF L L[k] == 5) = false := by simpa using h5
            go_wp2_with fail
            go_roundw
            case rel => exact ⟨k + 1, by omega, by simp, (fun j h1 h2 => by
             by_cases e : j = k
             · subst e; exact h5
             · exact HP.out j h1 (by omega) : ∀ j (h : j < L.length), j < k + 1 → Pp.parF L L[j] ≠ 5), hbel2⟩
            case measure => simp [intOf]; omega
        · have H5 := hid (show ∀ j (h : j < L.length), Pp.parF L L[j] ≠ 5 from fun j h => HP.out j h (by omega))
          clear HP
          go_wp2_with fail
          clear hlt hk
          go_loopw [7] (fun i wr => ∃ k : Nat, k ≤ L.length ∧ i = .int .i64 k ∧ Hid (∀ j (h : j < L.length), j < k → Pp.parF L L[j] = 0) ∧ Below w.heap.size w wr) (fun i _ => L.length - (intOf i).toNat)
          case atStart => exact ⟨0, Nat.zero_le _, rfl, (fun j _ h => absurd h (Nat.not_lt_zero _) : ∀ j (h : j < L.length), j < 0 → Pp.parF L L[j] = 0), hbel⟩
          case round =>
           clear hbel
           obtain ⟨k, hk, rfl, HP, hbel⟩ := hrel
           by_cases hlt : k < L.length
           · obtain ⟨b, o, rfl, hb, he⟩ := HL.out k hlt
             obtain ⟨c0, c1, c2, c3⟩ := he.below hb hbel
             have hsz := HS.out L[k] (List.getElem_mem hlt)
             go_wp2_with fail
             refine (parentOf_any (L[k]).path _ hsz).mono ?_
             rintro e w1 ⟨rfl, hb1⟩
             have hbel1 := below_trans hbel hb1
             clear c0 c1 c2 c3 hbel hb1
             go_wp2_with fail
             refine (isFolder_any L _ ⟨(Pp.par (L[k]).path.data.toList).toArray⟩ _ (HV.out.below hbel1)).mono ?_
             rintro e w2 ⟨rfl, hb2⟩
             have hbel2 := below_trans hbel1 hb2
             clear hbel1 hb2
             rw [show Pp.foldE L _ = Pp.parF L L[k] from rfl]
             by_cases h0 : Pp.parF L L[k] = 0
             · have H0 : Hid (Pp.parF L L[k] = 0) := h0
               clear h0
               rw [H0.out]
               go_wp2_with fail
               go_roundw
               case rel => exact ⟨k + 1, by omega, by simp, (fun j h1 h2 => by
                by_cases e : j = k
                · subst e; exact H0.out
                · exact HP.out j h1 (by omega) : ∀ j (h : j < L.length), j < k + 1 → Pp.parF L L[j] = 0), hbel2⟩
               case measure => simp [intOf]; omega
             · have h02 : (Pp.parF L L[k] == 0) = false := by simpa using h0
               have HE := hid (show 4 = Pp.treeE L from by rw [HY.out]; exact Pp.pars4 hlt H5.out h0)
               go_wp2_with fail
               go_ret
               exact ⟨Pp.ret_int HE.out, hbel2⟩
           · have HE := hid (show 0 = Pp.treeE L from by rw [HY.out]; exact Pp.pars0 (fun j h => HP.out j h (by omega)))
             go_wp2_with fail
             go_ret
             exact ⟨Pp.ret_int HE.out, hbel⟩
end Go.Proofs.YtmdkecdhgjjceaaGreat
