/- What upload.rises, taken, checkRoom and Check answer, for every uploads. -/
import Derived.Test.YtnaedemkpiagmaaU1
set_option linter.unusedSimpArgs false
set_option linter.unusedVariables false
namespace Go.Proofs.Ytnaedemkpiagmaa
open Go.RowKit

namespace Pp
def risS : List Se → Bool
  | [] => true
  | [_] => true
  | a :: b :: r => decide (a.nu < b.nu) && risS (b :: r)
theorem risS_no : ∀ {G : List Se} {k : Nat} (h : k + 1 < G.length), ¬ (G[k]).nu < (G[k + 1]).nu → risS G = false
  | [], k, h, _ => absurd h (by simp)
  | [_], k, h, _ => absurd h (by simp)
  | a :: b :: r, 0, h, hk => by
    have hk' : ¬ a.nu < b.nu := hk
    rw [risS, decide_eq_false hk']; rfl
  | a :: b :: r, k + 1, h, hk => by
    have := risS_no (G := b :: r) (k := k) (by simpa using h) hk
    rw [risS, this, Bool.and_false]
theorem risS_yes : ∀ {G : List Se}, (∀ k (h : k + 1 < G.length), (G[k]).nu < (G[k + 1]).nu) → risS G = true
  | [], _ => rfl
  | [_], _ => rfl
  | a :: b :: r, h => by
    have h0 : a.nu < b.nu := h 0 (by simp)
    rw [risS, decide_eq_true h0, risS_yes (G := b :: r) fun k hk => h (k + 1) (by simpa using hk)]; rfl
/-- How many bytes all of somebody's sessions are to have. -/
def takS : List Se → ByteArray → Int
  | [], _ => 0
  | s :: r, p => (if (s.wh.toList == p.toList) = true then s.si else 0) + takS r p
theorem takS_snoc : ∀ (L : List Se) (s : Se) (p : ByteArray), takS (L ++ [s]) p = takS L p + (if (s.wh.toList == p.toList) = true then s.si else 0)
  | [], s, p => by simp [takS]
  | a :: r, s, p => by rw [List.cons_append, takS, takS, takS_snoc r s p]; omega
theorem takS_bound : ∀ {L : List Se} (p : ByteArray), (∀ s ∈ L, 0 ≤ s.si ∧ s.si ≤ 300) → 0 ≤ takS L p ∧ takS L p ≤ 300 * L.length
  | [], p, _ => by simp [takS]
  | a :: r, p, h => by
    have h1 := h a (by simp)
    have h2 := takS_bound (L := r) p fun s hs => h s (by simp [hs])
    rw [takS, List.length_cons]
    split <;> omega
def roE (L : List Se) (room : Int) : Int := if (L.all fun s => decide (takS L s.wh ≤ room)) = true then 0 else 10
theorem ro_no {L : List Se} {room : Int} {k : Nat} (h : k < L.length) (hk : room < takS L (L[k]).wh) : 10 = roE L room := by
  rw [roE, if_neg]
  rw [List.all_eq_true]
  intro hh
  have := of_decide_eq_true (hh L[k] (List.getElem_mem h))
  omega
theorem ro_yes {L : List Se} {room : Int} (h : ∀ j (h : j < L.length), takS L (L[j]).wh ≤ room) : 0 = roE L room := by
  rw [roE, if_pos]
  rw [List.all_eq_true]
  intro x hx
  obtain ⟨j, hj, rfl⟩ := List.getElem_of_mem hx
  exact decide_eq_true (h j hj)
def sesE (x : Int) : List Se → Int
  | [] => 0
  | g :: r => if seE x g = 0 then sesE x r else seE x g
theorem ses_hit {x : Int} : ∀ {G : List Se} {k : Nat} (hlt : k < G.length), (∀ j (h : j < G.length), j < k → seE x G[j] = 0) → ¬ seE x G[k] = 0 → sesE x G = seE x G[k]
  | [], k, hlt, _, _ => absurd hlt (by simp)
  | g :: r, 0, _, _, hk => by rw [sesE, if_neg (show ¬ seE x g = 0 from hk)]; rfl
  | g :: r, k + 1, hlt, h, hk => by
    rw [sesE, if_pos (show seE x g = 0 from h 0 (by simp) (by omega))]
    have := ses_hit (G := r) (k := k) (by simpa using hlt) (fun j hj hjk => h (j + 1) (by simpa using hj) (by omega)) hk
    rw [this]; rfl
theorem ses_all {x : Int} : ∀ {G : List Se}, (∀ j (h : j < G.length), seE x G[j] = 0) → sesE x G = 0
  | [], _ => rfl
  | g :: r, h => by
    rw [sesE, if_pos (show seE x g = 0 from h 0 (by simp))]
    exact ses_all fun j hj => h (j + 1) (by simpa using hj)
theorem ses_mem {x : Int} {G : List Se} : sesE x G = 0 ↔ ∀ g ∈ G, seE x g = 0 := by
  induction G with
  | nil => simp [sesE]
  | cons g r ih =>
    rw [sesE]
    by_cases h : seE x g = 0
    · rw [if_pos h, ih]; simp [h]
    · rw [if_neg h]; simp [h]
theorem se_zero {x : Int} {s : Se} (h : seE x s = 0) : inR 1 s.nu (x - 1) = true ∧ inR 0 s.si 300 = true ∧ inR 0 s.ti 2199023255552 = true ∧ nameB s.wh.data.toList = true ∧ (s.tx.size : Int) ≤ s.si := by
  rcases se_cases x s with ⟨h1, hE⟩ | ⟨h1, h2, hE⟩ | ⟨h1, h2, h3, hE⟩ | ⟨h1, h2, h3, h4, hE⟩ | ⟨h1, h2, h3, h4, h5, hE⟩ | ⟨h1, h2, h3, h4, h5, hE⟩
  · rw [h] at hE; cases hE
  · rw [h] at hE; cases hE
  · rw [h] at hE; cases hE
  · rw [h] at hE; cases hE
  · rw [h] at hE; cases hE
  · exact ⟨h1, h2, h3, h4, by omega⟩
theorem ses_si {x : Int} {G : List Se} (h : sesE x G = 0) : ∀ s ∈ G, 0 ≤ s.si ∧ s.si ≤ 300 := fun s hs => inR_yes (se_zero (ses_mem.1 h s hs)).2.1
/-- Check of uploads. -/
def uchE (G : List Se) (x l r : Int) : Int := if ¬ bndE G.length x l r = 0 then bndE G.length x l r else if ¬ sesE x G = 0 then sesE x G else if risS G = false then 4 else roE G r
theorem uch_bnd {G : List Se} {x l r : Int} (h : ¬ bndE G.length x l r = 0) : uchE G x l r = bndE G.length x l r := if_pos h
theorem uch_ses {G : List Se} {x l r : Int} (h : bndE G.length x l r = 0) (h2 : ¬ sesE x G = 0) : uchE G x l r = sesE x G := by rw [uchE, if_neg (fun k => k h), if_pos h2]
theorem uch_ris {G : List Se} {x l r : Int} (h : bndE G.length x l r = 0) (h2 : sesE x G = 0) (h3 : risS G = false) : uchE G x l r = 4 := by rw [uchE, if_neg (fun k => k h), if_neg (fun k => k h2), if_pos h3]
theorem uch_ro {G : List Se} {x l r : Int} (h : bndE G.length x l r = 0) (h2 : sesE x G = 0) (h3 : risS G = true) : uchE G x l r = roE G r := by rw [uchE, if_neg (fun k => k h), if_neg (fun k => k h2), if_neg (by rw [h3]; decide)]
theorem bnd_zero {n : Nat} {x l r : Int} (h : bndE n x l r = 0) : n ≤ 20 ∧ (1 ≤ l ∧ l ≤ 1000000) ∧ (0 ≤ r ∧ r ≤ 100000) ∧ (1 ≤ x ∧ x ≤ 1099511627776) := by
  rcases bnd_cases n x l r with ⟨h1, hE⟩ | ⟨h1, h2, hE⟩ | ⟨h1, h2, h3, hE⟩ | ⟨h1, h2, h3, h4, hE⟩ | ⟨h1, h2, h3, h4, hE⟩
  · rw [h] at hE; cases hE
  · rw [h] at hE; cases hE
  · rw [h] at hE; cases hE
  · rw [h] at hE; cases hE
  · exact ⟨by omega, inR_yes h1, inR_yes h2, inR_yes h3⟩
end Pp

set_option maxHeartbeats 1000000 in
theorem urises_any (G : List Se) (v : Value) (w : World) (hv : LiesS w v G) :
    Calls Try.prog 39 #[v] w fun e w' => e = .returned (.bool (Pp.risS G)) ∧ Below w.heap.size w w' := by
  obtain ⟨a, cap, rfl, hcap, hcap2, hLL⟩ := hv
  have HL : Hid (∀ i (h : i < G.length), ∃ b o, a = some ⟨b, o, none⟩ ∧ b < w.heap.size ∧ SeAt w b (o + i * 5) G[i]) := hLL
  clear hLL
  obtain ⟨r, hr⟩ : ∃ r, r = Pp.risS G := ⟨_, rfl⟩
  rw [← hr]
  have HR := ghid hr
  clear hr
  go_enter Try.func39, Try.ntmps39
  go_wp2_with fail
  go_loopw [3] (fun i wr => ∃ k : Nat, (k ≤ G.length ∨ k = 1) ∧ 1 ≤ k ∧ i = .int .i64 k ∧ Hid (∀ j (h : j + 1 < G.length), j + 1 < k → (G[j]).nu < (G[j + 1]).nu) ∧ Below w.heap.size w wr) (fun i _ => G.length - (intOf i).toNat)
  case atStart => exact ⟨1, Or.inr rfl, Nat.le_refl _, rfl, (fun j _ h => absurd h (by omega) : ∀ j (h : j + 1 < G.length), j + 1 < 1 → (G[j]).nu < (G[j + 1]).nu), Below.refl _ _⟩
  case round =>
    obtain ⟨k, hk, hk1, rfl, HP, hbel⟩ := hrel
    obtain ⟨m, rfl⟩ : ∃ m, k = m + 1 := ⟨k - 1, by omega⟩
    by_cases hlt : m + 1 < G.length
    · obtain ⟨b, o, rfl, hb, he⟩ := HL.out m (by omega)
      obtain ⟨c0, _⟩ := he.below hb hbel
      obtain ⟨b', o', hbo, hb', he'⟩ := HL.out (m + 1) hlt
      obtain ⟨rfl, rfl⟩ : b' = b ∧ o' = o := by simp at hbo; exact ⟨hbo.1.symm, hbo.2.symm⟩
      obtain ⟨d0, _⟩ := he'.below hb' hbel
      clear he he' hbo
      by_cases hn : (G[m]).nu < (G[m + 1]).nu
      · have HP2 : Hid (∀ j (h : j + 1 < G.length), j + 1 < m + 1 + 1 → (G[j]).nu < (G[j + 1]).nu) := (fun j h1 h2 => by
          by_cases e : j = m
          · subst e; exact hn
          · exact HP.out j h1 (by omega) : ∀ j (h : j + 1 < G.length), j + 1 < m + 1 + 1 → (G[j]).nu < (G[j + 1]).nu)
        generalize (G[m]).nu = p at *
        generalize (G[m + 1]).nu = q at *
        go_wp2_with fail
        go_region
        go_wp2_with fail
        go_roundw
        case rel => exact ⟨m + 1 + 1, by omega, by omega, by simp, HP2, hbel.drew⟩
        case measure => simp [intOf]; omega
      · have HE : Hid (false = r) := (by rw [HR.out]; exact (Pp.risS_no hlt hn).symm : false = r)
        generalize (G[m]).nu = p at *
        generalize (G[m + 1]).nu = q at *
        go_wp2_with fail
        go_region
        go_wp2_with fail
        go_ret
        exact ⟨Pp.ret_bool HE.out, hbel.drew⟩
    · have HE : Hid (true = r) := (by rw [HR.out]; exact (Pp.risS_yes fun j h => HP.out j h (by omega)).symm : true = r)
      go_wp2_with fail
      go_ret
      exact ⟨Pp.ret_bool HE.out, hbel⟩

set_option maxHeartbeats 1000000 in
theorem taken_any (G : List Se) (v : Value) (p : ByteArray) (w : World) (hv : LiesS w v G) (hn : G.length ≤ 1000) (hs : ∀ s ∈ G, 0 ≤ s.si ∧ s.si ≤ 300) :
    Calls Try.prog 20 #[v, .string p] w fun e w' => e = .returned (.int .i64 (Pp.takS G p)) ∧ Below w.heap.size w w' := by
  obtain ⟨a, cap, rfl, hcap, hcap2, hLL⟩ := hv
  have HL : Hid (∀ i (h : i < G.length), ∃ b o, a = some ⟨b, o, none⟩ ∧ b < w.heap.size ∧ SeAt w b (o + i * 5) G[i]) := hLL
  have HS : Hid (∀ i (h : i < G.length), 0 ≤ (G[i]).si ∧ (G[i]).si ≤ 300) := (fun i h => hs _ (List.getElem_mem h) : ∀ i (h : i < G.length), 0 ≤ (G[i]).si ∧ (G[i]).si ≤ 300)
  have HT : Hid (∀ k, 0 ≤ Pp.takS (G.take k) p ∧ Pp.takS (G.take k) p ≤ 300 * G.length) := (fun k => by
    have h1 := Pp.takS_bound (L := G.take k) p fun s hs' => hs s (List.mem_of_mem_take hs')
    have h2 : (G.take k).length ≤ G.length := by rw [List.length_take]; omega
    omega : ∀ k, 0 ≤ Pp.takS (G.take k) p ∧ Pp.takS (G.take k) p ≤ 300 * G.length)
  clear hLL hs
  go_enter Try.func20, Try.ntmps20
  go_wp2_with fail
  go_loopw [5, 10] (fun t i wr => ∃ k : Nat, k ≤ G.length ∧ i = .int .i64 k ∧ t = .int .i64 (Pp.takS (G.take k) p) ∧ Below w.heap.size w wr) (fun _ i _ => G.length - (intOf i).toNat)
  case atStart => exact ⟨0, Nat.zero_le _, rfl, rfl, Below.refl _ _⟩
  case round =>
    obtain ⟨k, hk, rfl, rfl, hbel⟩ := hrel
    by_cases hlt : k < G.length
    · obtain ⟨b, o, rfl, hb, he⟩ := HL.out k hlt
      obtain ⟨c0, c1, c2, c3, c4⟩ := he.below hb hbel
      obtain ⟨s1, s2⟩ := HS.out k hlt
      obtain ⟨t1, t2⟩ := HT.out k
      have hsn : Pp.takS (G.take (k + 1)) p = Pp.takS (G.take k) p + (if ((G[k]).wh.toList == p.toList) = true then (G[k]).si else 0) := by rw [List.take_succ_eq_append_getElem hlt, Pp.takS_snoc]
      have hsz := hbel.size
      clear he
      generalize G[k] = s at *
      generalize Pp.takS (G.take k) p = T at *
      cases hq : (s.wh.toList == p.toList) with
      | true =>
        have HSN : Hid (Pp.takS (G.take (k + 1)) p = T + s.si) := (by rw [hsn, hq]; rfl : Pp.takS (G.take (k + 1)) p = T + s.si)
        clear hsn
        go_wp2_with fail
        go_roundw
        case rel => exact ⟨k + 1, by omega, by simp, by rw [HSN.out], hbel.alloc hbel.size _⟩
        case measure => simp [intOf]; omega
      | false =>
        have HSN : Hid (Pp.takS (G.take (k + 1)) p = T) := (by rw [hsn, hq]; simp : Pp.takS (G.take (k + 1)) p = T)
        clear hsn
        go_wp2_with fail
        go_roundw
        case rel => exact ⟨k + 1, by omega, by simp, by rw [HSN.out], hbel.alloc hbel.size _⟩
        case measure => simp [intOf]; omega
    · have HE : Hid (Pp.takS (G.take k) p = Pp.takS G p) := (by rw [List.take_of_length_le (by omega)] : Pp.takS (G.take k) p = Pp.takS G p)
      go_wp2_with fail
      go_ret
      exact ⟨Pp.ret_int HE.out, hbel⟩
end Go.Proofs.Ytnaedemkpiagmaa
