/- What the reference's ChangeOf answers, for every change of a tree that passes Check. -/
import Derived.Test.YtagdilnbbepccaaGreatT24a
import Derived.Test.YtagdilnbbepccaaGreatT30a
import Derived.Test.YtagdilnbbepccaaGreatT30b
import Derived.Test.YtagdilnbbepccaaGreatT30c
import Derived.Test.YtagdilnbbepccaaGreatT34
import Derived.Test.YtagdilnbbepccaaGreatT35a
import Derived.Test.YtagdilnbbepccaaGreatT35b
set_option linter.unusedSimpArgs false
set_option linter.unusedVariables false
namespace Go.Proofs.YtagdilnbbepccaaGreat
open Go.RowKit

theorem changeOf_any (L : List En) (v : Value) (k : Int) (p q t : ByteArray) (b n : Int) (w : World) (hv : Lies w v L) (hp : p.size ≤ 1000000000) (hq : q.size ≤ 1000000000) (ht : t.size ≤ 1000000000) (hL : Pp.Good L) (hver : Pp.verE n = 0) :
    Calls Tryz.prog 53 #[v, .agg #[.int .i64 k, .string p, .string q, .string t, .int .i64 b], .int .i64 n] w fun e w' => ∃ u, e = .returned (.tuple #[u, .int .i64 (Pp.appE L ⟨k, p, q, t, b⟩ n)]) ∧ (Pp.appE L ⟨k, p, q, t, b⟩ n = 0 → Lies w' u (Pp.chdR L ⟨k, p, q, t, b⟩ n)) ∧ Below w.heap.size w w' := by
  have hs : ∀ e ∈ L, e.path.size ≤ 1000000000 := fun e he => by
    have := Pp.chk_len (Pp.entE_path (hL.ents e he))
    rw [Lib.size_eq]; omega
  by_cases hc : Pp.chgE ⟨k, p, q, t, b⟩ = 0
  · by_cases hpl : Pp.plcE L ⟨k, p, q, t, b⟩ = 0
    · have hr : Pp.appE L ⟨k, p, q, t, b⟩ n = Pp.rstE L ⟨k, p, q, t, b⟩ n := by
        rw [Pp.appE, if_neg (fun x => x hver), if_neg (fun x => x hc), if_neg (fun x => x hpl)]; rfl
      rw [hr]
      have h4 : 1 ≤ k ∧ k ≤ 4 := Pp.chg_kind hc
      obtain ⟨h0, hcs⟩ := Pp.plc_ok h4 hpl
      have hrest := Pp.chg_rest hc
      rcases hcs with ⟨rfl, hi⟩ | ⟨rfl, hi⟩ | ⟨rfl, j, hj, hi, hx⟩ | ⟨rfl, ⟨j, hj, hi⟩, hx, hi2, hf2⟩ | ⟨rfl, j, hj, hi⟩
      · have ht0 : t = ⟨#[]⟩ := by
          rcases hrest.2.1 with h2 | h2
          · exact absurd (show (1 : Int) = 2 from h2) (by decide)
          · exact Pp.no_text h2
        subst ht0
        exact changeOf_mk L v p q b n w hv hs hp hq hL hc (hid (by simpa [Pp.goal] using h0)) hi
      · exact changeOf_wr L v p q t b n w hv hs hp hq ht hL hc (hid (by simpa [Pp.goal] using h0)) hi
      · exact changeOf_rw L v p q t b n w hv hs hp hq ht hL hc (hid (by simpa [Pp.goal] using h0)) j hj hi hx
      · by_cases hb : b < 0
        · exact changeOf_mv_any L v p q t b n w hv hs hp hq ht hL hc (hid (by simpa [Pp.goal] using h0)) j hj hi hx hi2 hf2 hb
        · exact changeOf_mv_at L v p q t b n w hv hs hp hq ht hL hc (hid (by simpa [Pp.goal] using h0)) j hj hi hx hi2 hf2 (by omega)
      · exact changeOf_del L v p q t b n w hv hs hp hq ht hL hc (hid (by simpa [Pp.goal] using h0)) j hj hi
    · have hr : Pp.appE L ⟨k, p, q, t, b⟩ n = Pp.plcE L ⟨k, p, q, t, b⟩ := Pp.app_plc hver hc hpl
      rw [hr]
      refine (changeOf_place L v k p q t b n w hv hp hq ht hc hpl).mono ?_
      rintro e w1 ⟨rfl, hb⟩
      exact ⟨_, rfl, fun h => absurd h hpl, hb⟩
  · have hr : Pp.appE L ⟨k, p, q, t, b⟩ n = Pp.chgE ⟨k, p, q, t, b⟩ := Pp.app_chg hver hc
    rw [hr]
    refine (changeOf_form L v k p q t b n w hp hq ht hc).mono ?_
    rintro e w1 ⟨rfl, hb⟩
    exact ⟨_, rfl, fun h => absurd h hc, hb⟩
end Go.Proofs.YtagdilnbbepccaaGreat
