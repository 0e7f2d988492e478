/- What the reference's OpenUpload answers, in all cases. -/
import Derived.Test.YtnaedemkpiagmaaU18b
import Derived.Test.YtnaedemkpiagmaaU18c
import Derived.Test.YtnaedemkpiagmaaU29
set_option linter.unusedSimpArgs false
set_option linter.unusedVariables false
namespace Go.Proofs.Ytnaedemkpiagmaa
open Go.RowKit

namespace Pp
theorem op_len {G : List Se} {x l r : Int} {p : ByteArray} {size now : Int} (h : opE G x l r p size now = 0) : (swL now G).length < 20 := by
  rcases op_cases G x l r p size now with ⟨h0, hE⟩ | ⟨h0, h1, hE⟩ | ⟨h0, h1, h2, hE⟩ | ⟨h0, h1, h2, h3, hE⟩ | ⟨h0, h1, h2, h3, h4, hE⟩ | ⟨h0, h1, h2, h3, h4, h5, hE⟩ | ⟨h0, h1, h2, h3, h4, h5, hE⟩
  all_goals first | exact h4 | (rw [h] at hE; first | (cases hE; done) | exact absurd hE.symm h0)
theorem bg_name {G : List Se} {x l r now : Int} {p : ByteArray} : (¬ bgE G x l r now = 0 ∧ goE G x l r now [p] = bgE G x l r now) ∨ (bgE G x l r now = 0 ∧ nameB p.data.toList = false ∧ goE G x l r now [p] = 1) ∨ (bgE G x l r now = 0 ∧ nameB p.data.toList = true ∧ goE G x l r now [p] = 0) := by
  by_cases hu : uchE G x l r = 0
  · cases hi : inR 0 now 1099511627776 with
    | false =>
      left
      rw [bgE, goE, if_pos hu, if_pos hu, hi]; simp
    | true =>
      right
      have hb : bgE G x l r now = 0 := by rw [bgE, if_pos hu, hi, if_pos rfl]
      have hg : goE G x l r now [p] = nmsE [p] := by rw [goE, if_pos hu, hi, if_pos rfl]
      cases hn : nameB p.data.toList with
      | false => left; exact ⟨hb, rfl, by rw [hg, nmsE1 hn]; rfl⟩
      | true => right; exact ⟨hb, rfl, by rw [hg, nmsE1 hn]; rfl⟩
  · left
    rw [bgE, goE, if_neg hu, if_neg hu]; exact ⟨hu, rfl⟩
end Pp
theorem openRef_any (G : List Se) (v : Value) (x l r : Int) (p : ByteArray) (size now : Int) (w : World) (hv : LiesS w v G) (hs : SizedS G) (hp : p.size ≤ 150000000000000) :
    Calls Try.prog 8 #[.agg #[v, .int .i64 x, .int .i64 l, .int .i64 r], .string p, .int .i64 size, .int .i64 now] w fun e w' => (¬ Pp.opE G x l r p size now = 0 ∧ e = .returned (.tuple #[.agg #[.slice none 0 0, .int .i64 0, .int .i64 0, .int .i64 0], .int .i64 0, .int .i64 (Pp.opE G x l r p size now)]) ∧ Below w.heap.size w w') ∨
      (Pp.opE G x l r p size now = 0 ∧ ∃ u, e = .returned (.tuple #[.agg #[u, .int .i64 (x + 1), .int .i64 l, .int .i64 r], .int .i64 x, .int .i64 0]) ∧ OwnS w.heap.size w' u (Pp.swL now G ++ [Pp.newS x p size (now + l)]) ∧ Below w.heap.size w w') := by
  rcases Pp.bg_name (G := G) (x := x) (l := l) (r := r) (now := now) (p := p) with ⟨hb, hg⟩ | ⟨hb, hn, hg⟩ | ⟨hb, hn, hg⟩
  · have hE : Pp.opE G x l r p size now = Pp.bgE G x l r now := by rw [Pp.opE, hg, if_pos hb]
    rw [hE]; exact (openRef_e0 G v x l r p size now w hv hs hp hb).mono fun e w' h => Or.inl ⟨hb, h⟩
  · have hE : Pp.opE G x l r p size now = 1 := by rw [Pp.opE, hg, if_pos (by decide)]
    rw [hE]; exact (openRef_e1 G v x l r p size now w hv hs hp hb hn).mono fun e w' h => Or.inl ⟨by decide, h⟩
  · rcases Pp.op_cases G x l r p size now with ⟨h0, hE⟩ | ⟨h0, h1, hE⟩ | ⟨h0, h1, h2, hE⟩ | ⟨h0, h1, h2, h3, hE⟩ | ⟨h0, h1, h2, h3, h4, hE⟩ | ⟨h0, h1, h2, h3, h4, h5, hE⟩ | ⟨h0, h1, h2, h3, h4, h5, hE⟩
    · exact absurd hg h0
    · rw [hE]; exact (openRef_e2 G v x l r p size now w hv hs hp hb hn h1).mono fun e w' h => Or.inl ⟨by decide, h⟩
    · rw [hE]; exact (openRef_e3 G v x l r p size now w hv hs hp hb hn h1 h2).mono fun e w' h => Or.inl ⟨by decide, h⟩
    · have hx : x = 1099511627776 := by
        have := (Pp.bnd_zero (Pp.uch_zero (Pp.go_zero h0).1).1).2.2.2.2
        omega
      rw [hE]; exact (openRef_e4 G v x l r p size now w hv hs hp hb hn h1 h2 (by simp [hx])).mono fun e w' h => Or.inl ⟨by decide, h⟩
    · have hl20 : (Pp.swL now G).length = 20 := by
        have h8 := (Pp.bnd_zero (Pp.uch_zero (Pp.go_zero h0).1).1).1
        have h9 := Pp.swL_len now G
        omega
      rw [hE]; exact (openRef_e5 G v x l r p size now w hv hs hp hb hn h1 h2 (by omega) hl20).mono fun e w' h => Or.inl ⟨by decide, h⟩
    · rw [hE]; exact (openRef_e6 G v x l r p size now w hv hs hp hb hn h1 h2 (by omega) (by omega) h5).mono fun e w' h => Or.inl ⟨by decide, h⟩
    · rw [hE]; exact (openRef_k G v x l r p size now w hv hs hp hb hn h1 h2 (by omega) (by omega) (by omega)).mono fun e w' h => Or.inr ⟨rfl, h⟩
end Go.Proofs.Ytnaedemkpiagmaa
