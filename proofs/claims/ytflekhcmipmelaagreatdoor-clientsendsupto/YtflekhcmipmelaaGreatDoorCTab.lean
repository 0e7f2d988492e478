/- The table of the powers of ten that the library's Itoa reads: it lies in the world; the text of a client's next key. -/
import Derived.Test.YtflekhcmipmelaaGreatDoorShelfI
import Derived.Test.YtflekhcmipmelaaGreatDoorC14
import Derived.Test.YtflekhcmipmelaaGreatDoorPF
import Derived.Lib.LaidTab
set_option linter.unusedSimpArgs false
set_option linter.unusedVariables false
namespace Go.Proofs.YtflekhcmipmelaaGreatDoor
open Go.RowKit

def PowTab (W : World) : Prop := Lib.TabIs Tryz.prog W "internal/strconv.uint64pow10" .u64 Lib.pow10Tab
theorem Tryz.powAt : Tryz.prog.globalNamed "internal/strconv.uint64pow10" = some 0 := by kernel_rfl
theorem PowTab.below {W W' : World} (h : PowTab W) (hb : Below W.heap.size W W') : PowTab W' := by
  unfold PowTab Lib.TabIs World.var? at h ⊢
  rw [Tryz.powAt] at h ⊢
  simp only [Option.bind_some] at h ⊢
  have h0 : 0 < W.heap.size := by
    rcases Nat.lt_or_ge 0 W.heap.size with h1 | h1
    · exact h1
    · rw [Array.getElem?_eq_none h1] at h; cases h
  rw [hb.block 0 h0]
  exact h
theorem itoa_next (c : Cn) (h0 : 0 ≤ c.keys) (h1 : c.keys < 1000000) (W : World) (ht : PowTab W) : Calls Tryz.prog 62 #[.int .i64 (c.keys + 1)] W fun e w' => e = .returned (.string (Cy.num c)) ∧ Below W.heap.size W w' := by
  refine (Tryz.strconv_Itoa (c.keys + 1) (by omega) (by omega) W ht).mono ?_
  rintro e w' ⟨rfl, k, os, rfl⟩
  refine ⟨by rw [Lib.itoa, if_neg (by omega)]; rfl, ?_⟩
  have hd : Below W.heap.size W (W.drewN k) := by
    induction k with
    | zero => exact Below.refl _ _
    | succ k ih => exact ⟨rfl, rfl, rfl, Nat.le_refl _, fun _ _ => rfl⟩
  exact ⟨hd.os, hd.tape, hd.output, by show _ ≤ (_ ++ os).size; rw [Array.size_append]; have := hd.size; omega, fun j hj => by
    show ((W.drewN k).heap ++ os)[j]? = _
    rw [Array.getElem?_append_left (Nat.lt_of_lt_of_le hj hd.size)]
    exact hd.block j hj⟩
namespace Pp
theorem pow_data : (Rows.laid_internal_strconv_uint64pow10 : DataW Unit) = Lib.tabData .u64 Lib.pow10Tab := by kernel_rfl
theorem tab_pow {W : World} (h : laidMetH Tryz.prog [("math/bits.deBruijn32tab", Rows.laid_math_bits_deBruijn32tab), ("math/bits.deBruijn64tab", Rows.laid_math_bits_deBruijn64tab), ("internal/strconv.uint64pow10", Rows.laid_internal_strconv_uint64pow10)] W) : PowTab W := by
  have h' : laidMet Tryz.prog [("math/bits.deBruijn32tab", Rows.laid_math_bits_deBruijn32tab), ("math/bits.deBruijn64tab", Rows.laid_math_bits_deBruijn64tab), ("internal/strconv.uint64pow10", Rows.laid_internal_strconv_uint64pow10)] W := h
  obtain ⟨ps, hl, _⟩ := h'
  obtain ⟨_, _, _, _, _, q1, _, _, _, _, hl1, _⟩ := hl
  obtain ⟨_, _, _, _, _, q2, _, _, _, _, hl2, _⟩ := hl1
  obtain ⟨g, t, cs, fuel, p, q, hg, ht, hvar, hd, _, _⟩ := hl2
  obtain rfl := Option.some.inj (Tryz.powAt.symm.trans hg)
  obtain rfl : t = 135 := Option.some.inj (ht.symm.trans (show (Tryz.prog.globals[0]?).map (·.type) = some 135 by kernel_rfl))
  rw [pow_data] at hd
  unfold PowTab Lib.TabIs
  rw [hvar, ← Lib.cells_of_tab Tryz.underlying135 (show Tryz.prog.underlying 124 = some (.int .u64) by kernel_rfl) (by kernel_rfl) (by kernel_rfl) hd]
end Pp

namespace Cy
def sdE (c : Cn) : Int := if ¬ chE c = 0 then chE c else if c.key.size = 0 ∧ ¬ (Sp.dfL c.base c.mine).length = 0 ∧ ¬ c.keys < 1000000 then 3 else 0
def sdC (c : Cn) : Cn := if ¬ sdE c = 0 then zeroN else if c.key.size = 0 ∧ ¬ (Sp.dfL c.base c.mine).length = 0 then nxt (num c) c else c
def sdB (c : Cn) : Bool := decide (sdE c = 0 ∧ ¬ (c.key.size = 0 ∧ (Sp.dfL c.base c.mine).length = 0))
def sdQ (c : Cn) : Rq := if sdB c = true then rqOf (sdC c) else zeroQ
theorem sd_bad {c : Cn} (h : ¬ chE c = 0) : sdE c = chE c ∧ sdC c = zeroN ∧ sdB c = false ∧ sdQ c = zeroQ := by
  have e : sdE c = chE c := by rw [sdE, if_pos h]
  have b : sdB c = false := by rw [sdB, e]; exact decide_eq_false (fun x => h x.1)
  exact ⟨e, by rw [sdC, e, if_pos h], b, by rw [sdQ, b]; rfl⟩
theorem sd_again {c : Cn} (h : chE c = 0) (hk : ¬ c.key.size = 0) : sdE c = 0 ∧ sdC c = c ∧ sdB c = true ∧ sdQ c = rqOf c := by
  have e : sdE c = 0 := by rw [sdE, if_neg (fun x => x h), if_neg (fun x => hk x.1)]
  have d : sdC c = c := by rw [sdC, e, if_neg (fun x => x rfl), if_neg (fun x => hk x.1)]
  have b : sdB c = true := by rw [sdB, e]; exact decide_eq_true ⟨rfl, fun x => hk x.1⟩
  exact ⟨e, d, b, by rw [sdQ, if_pos b, d]⟩
theorem sd_none {c : Cn} (h : chE c = 0) (hk : c.key.size = 0) (hn : (Sp.dfL c.base c.mine).length = 0) : sdE c = 0 ∧ sdC c = c ∧ sdB c = false ∧ sdQ c = zeroQ := by
  have e : sdE c = 0 := by rw [sdE, if_neg (fun x => x h), if_neg (fun x => x.2.1 hn)]
  have d : sdC c = c := by rw [sdC, e, if_neg (fun x => x rfl), if_neg (fun x => x.2 hn)]
  have b : sdB c = false := by rw [sdB, e]; exact decide_eq_false (fun x => x.2 ⟨hk, hn⟩)
  exact ⟨e, d, b, by rw [sdQ, b]; rfl⟩
theorem sd_full {c : Cn} (h : chE c = 0) (hk : c.key.size = 0) (hn : ¬ (Sp.dfL c.base c.mine).length = 0) (hm : ¬ c.keys < 1000000) : sdE c = 3 ∧ sdC c = zeroN ∧ sdB c = false ∧ sdQ c = zeroQ := by
  have e : sdE c = 3 := by rw [sdE, if_neg (fun x => x h), if_pos ⟨hk, hn, hm⟩]
  have d : sdC c = zeroN := by rw [sdC, e, if_pos (by decide)]
  have b : sdB c = false := by rw [sdB, e]; exact decide_eq_false (fun x => absurd x.1 (by decide))
  exact ⟨e, d, b, by rw [sdQ, b]; rfl⟩
theorem sd_some {c : Cn} (h : chE c = 0) (hk : c.key.size = 0) (hn : ¬ (Sp.dfL c.base c.mine).length = 0) (hm : c.keys < 1000000) : sdE c = 0 ∧ sdC c = nxt (num c) c ∧ sdB c = true ∧ sdQ c = rqOf (nxt (num c) c) := by
  have e : sdE c = 0 := by rw [sdE, if_neg (fun x => x h), if_neg (fun x => x.2.2 hm)]
  have d : sdC c = nxt (num c) c := by rw [sdC, e, if_neg (fun x => x rfl), if_pos ⟨hk, hn⟩]
  have b : sdB c = true := by rw [sdB, e]; exact decide_eq_true ⟨rfl, fun x => hn x.2⟩
  exact ⟨e, d, b, by rw [sdQ, if_pos b, d]⟩
theorem ch_keys {c : Cn} (h : chE c = 0) : 0 ≤ c.keys ∧ c.keys ≤ 1000000 ∧ 0 ≤ c.cur ∧ c.cur ≤ 1000000 := by
  have := (ch_parts h).2.2.2.1
  simp [rgB] at this
  omega
end Cy
theorem num_small (c : Cn) (h0 : 0 ≤ c.keys) (h1 : c.keys < 1000000) : (Cy.num c).size ≤ 7 := by
  show (Lib.decDigits (c.keys + 1).toNat).toArray.size ≤ _
  rw [List.size_toArray]
  have hd : ∀ (m : Nat) (u : Nat), u < 10 ^ (m + 1) → (Lib.decDigits u).length ≤ m + 1 := by
    intro m
    induction m with
    | zero => intro u hu; rw [Pp.dec_small (by simpa using hu)]; simp
    | succ m ih =>
      intro u hu
      by_cases h : u < 10
      · rw [Pp.dec_small h]; simp
      · rw [Pp.dec_more h, List.length_append]
        have := ih (u / 10) (by rw [Nat.div_lt_iff_lt_mul (by decide)]; rw [Nat.pow_succ] at hu; omega)
        simp only [List.length_cons, List.length_nil]
        omega
  exact hd 6 _ (by show _ < 10000000; omega)
theorem send_any (c : Cn) (v : Value) (w : World) (hv : LiesN w v c) (hs : SizedN c) (ht : PowTab w) :
    Calls Tryz.prog 18 #[v] w fun e w' => ∃ u q, e = .returned (.tuple #[u, q, .bool (Cy.sdB c), .int .i64 (Cy.sdE c)]) ∧ LiesN w' u (Cy.sdC c) ∧ LiesQ w' q (Cy.sdQ c) ∧ Below w.heap.size w w' := by
  by_cases h0 : Cy.chE c = 0
  · by_cases hk : c.key.size = 0
    · by_cases hn : (Sp.dfL c.base c.mine).length = 0
      · obtain ⟨e, d, b, q⟩ := Cy.sd_none h0 hk hn
        rw [e, d, b, q]
        exact send_none c v w hv hs h0 hk hn
      · by_cases hm : c.keys < 1000000
        · obtain ⟨e, d, b, q⟩ := Cy.sd_some h0 hk hn hm
          rw [e, d, b, q]
          exact send_some c v w hv hs h0 hk hn hm (Cy.num c) (by have := num_small c (Cy.ch_keys h0).1 hm; omega) (fun W hW => itoa_next c (Cy.ch_keys h0).1 hm W (ht.below hW))
        · obtain ⟨e, d, b, q⟩ := Cy.sd_full h0 hk hn hm
          rw [e, d, b, q]
          exact send_full c v w hv hs h0 hk hn (by omega)
    · obtain ⟨e, d, b, q⟩ := Cy.sd_again h0 hk
      rw [e, d, b, q]
      exact send_again c v w hv hs h0 hk
  · obtain ⟨e, d, b, q⟩ := Cy.sd_bad h0
    rw [e, d, b, q]
    exact send_err c v w hv hs h0
theorem sendOf_any (c : Cn) (v : Value) (w : World) (hv : LiesN w v c) (h0 : Cy.chE c = 0) :
    Calls Tryz.prog 19 #[v] w fun e w' => ∃ u q, e = .returned (.tuple #[u, q, .bool (Cy.sdB c), .int .i64 (Cy.sdE c)]) ∧ LiesN w' u (Cy.sdC c) ∧ LiesQ w' q (Cy.sdQ c) ∧ Below w.heap.size w w' := by
  by_cases hk : c.key.size = 0
  · by_cases hn : (Sp.dfL c.base c.mine).length = 0
    · obtain ⟨e, d, b, q⟩ := Cy.sd_none h0 hk hn
      rw [e, d, b, q]
      exact sendOf_none c v w hv h0 hk hn
    · by_cases hm : c.keys < 1000000
      · obtain ⟨e, d, b, q⟩ := Cy.sd_some h0 hk hn hm
        rw [e, d, b, q]
        by_cases h20 : (Sp.dfL c.base c.mine).length ≤ 20
        · exact sendOf_le c v w hv h0 hk hn hm h20
        · exact sendOf_gt c v w hv h0 hk hn hm (by omega)
      · obtain ⟨e, d, b, q⟩ := Cy.sd_full h0 hk hn hm
        rw [e, d, b, q]
        exact sendOf_full c v w hv h0 hk hn (by have := (Cy.ch_keys h0).2.1; omega)
  · obtain ⟨e, d, b, q⟩ := Cy.sd_again h0 hk
    rw [e, d, b, q]
    exact sendOf_again c v w hv hk
end Go.Proofs.YtflekhcmipmelaaGreatDoor
