/- One piece of a text that is appended, once or again. -/
import Derived.Test.YtnaedemkpiagmaaU26
set_option linter.unusedSimpArgs false
set_option linter.unusedVariables false
namespace Go.Proofs.Ytnaedemkpiagmaa
open Go.RowKit

theorem w1_sized {p t : ByteArray} {a : Nat} {till : Int} (hp : p.size ≤ 1000) (ha : a ≤ t.size) (ht : t.size ≤ 300) : SizedS [Pp.who1 p t a till] := fun g hg => by
  have : g = Pp.who1 p t a till := by simpa using hg
  subst this
  refine ⟨by show p.size ≤ _; omega, ?_⟩
  show (t.extract 0 a).size ≤ _
  rw [Pp.ext_size t ha]; omega
theorem w1_append (p t : ByteArray) (c a b : Nat) (till : Int) (u : Value) (w : World) (hu : LiesS w u [Pp.who1 p t c till]) (hp : Pp.nameB p.data.toList = true) (hps : p.size ≤ 1000) (hab : a ≤ b) (hb : b ≤ t.size) (ht : t.size ≤ 300) (hc : c = a ∨ c = b) (h1 : 13 ≤ till) (h2 : till ≤ 14) :
    Calls Try.prog 11 #[.agg #[u, .int .i64 8, .int .i64 10, .int .i64 1000], .string p, .int .i64 7, .int .i64 (a : Int), .string (t.extract a b), .int .i64 4] w fun e w' => ∃ u' till', e = .returned (.tuple #[.agg #[u', .int .i64 8, .int .i64 10, .int .i64 1000], .int .i64 (b : Int), .int .i64 0]) ∧ OwnS w.heap.size w' u' [Pp.who1 p t b till'] ∧ 13 ≤ till' ∧ till' ≤ 14 ∧ Below w.heap.size w w' := by
  have hca : c ≤ t.size := by rcases hc with rfl | rfl <;> omega
  have hfi := Pp.w1_fi (p := p) (t := t) (a := c) (till := till) (now := 4) hp hca ht (by omega) (by omega) (by omega)
  have hsw : Pp.swL 4 [Pp.who1 p t c till] = [Pp.who1 p t c till] := Pp.w1_sw (by omega)
  have hk : 0 < (Pp.swL 4 [Pp.who1 p t c till]).length := by rw [hsw]; simp
  have hid : Pp.idS (Pp.swL 4 [Pp.who1 p t c till]) (Pp.mine 7 p) = ((0 : Nat) : Int) := by rw [hsw]; exact Pp.w1_id p t c till
  have hts : (t.extract a b).size ≤ 150000000000000 := by rw [ByteArray.size_extract]; omega
  have hs0 : (Pp.swL 4 [Pp.who1 p t c till])[0] = Pp.who1 p t c till := by
    have : ∀ (L : List Se) (h : 0 < L.length), L = [Pp.who1 p t c till] → L[0] = Pp.who1 p t c till := by
      intro L h e; subst e; rfl
    exact this _ hk hsw
  by_cases hcb : c = b
  · subst hcb
    have hen : Pp.enB ((Pp.swL 4 [Pp.who1 p t c till])[0]).tx a (t.extract a c) = true := by
      rw [hs0]; exact Pp.w1_en_yes hab hb
    refine (append_same [Pp.who1 p t c till] u 8 10 1000 p 7 a (t.extract a c) 4 w hu (w1_sized hps hb ht) (by omega) hfi 0 hk hid hts hen).mono ?_
    rintro e w' ⟨u', rfl, ho, hb'⟩
    rw [hsw] at ho
    refine ⟨u', till, ?_, ho, h1, h2, hb'⟩
    rw [hs0]
    show Ending.returned (.tuple #[_, .int .i64 ((t.extract 0 c).size : Int), _]) = _
    rw [Pp.ext_size t hb]
  · have hac : c = a := by omega
    subst hac
    have hlt : c < b := by omega
    have hen : Pp.enB ((Pp.swL 4 [Pp.who1 p t c till])[0]).tx c (t.extract c b) = false := by
      rw [hs0]; exact Pp.w1_en_no hlt hb
    have hsz : ((((Pp.swL 4 [Pp.who1 p t c till])[0]).tx.size : Nat) : Int) = c := by
      rw [hs0]; show ((t.extract 0 c).size : Int) = c; rw [Pp.ext_size t (by omega)]
    have hpz : ((t.extract c b).size : Int) = (b : Int) - c := by rw [ByteArray.size_extract]; omega
    refine (append_k [Pp.who1 p t c till] u 8 10 1000 p 7 c (t.extract c b) 4 w hu (w1_sized hps hca ht) (by omega) hfi 0 hk hid hts hen hsz.symm (by rw [hsz, hpz, hs0]; show (c : Int) + ((b : Int) - c) ≤ (t.size : Int); omega)).mono ?_
    rintro e w' ⟨u', rfl, ho, hb'⟩
    have hlist : (Pp.swL 4 [Pp.who1 p t c till]).set 0 (Pp.moreS (Pp.swL 4 [Pp.who1 p t c till])[0] (t.extract c b) (4 + 10)) = [Pp.who1 p t b 14] := by
      rw [hs0, hsw]
      show [Pp.moreS (Pp.who1 p t c till) (t.extract c b) (4 + 10)] = [Pp.who1 p t b 14]
      rw [Pp.moreS, Pp.who1, Pp.who1]
      simp only [Pp.ext_app t hab]
      rfl
    rw [hlist] at ho
    refine ⟨u', 14, ?_, ho, by omega, by omega, hb'⟩
    rw [hsz, hpz]
    rw [show (c : Int) + ((b : Int) - c) = b by omega]
end Go.Proofs.Ytnaedemkpiagmaa
