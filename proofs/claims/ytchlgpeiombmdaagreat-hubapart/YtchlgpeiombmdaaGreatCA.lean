/- Answers: records that lie in memory. -/
import Derived.Test.YtchlgpeiombmdaaGreatMB
import Derived.Test.YtchlgpeiombmdaaGreatMD
set_option linter.unusedSimpArgs false
set_option linter.unusedVariables false
namespace Go.Proofs.YtchlgpeiombmdaaGreat
open Go.RowKit

structure An where
 err : Int
 num : Int
 pg : Pg
/-- An answer as a value: its page's tree and commits lie in memory. -/
def LiesA (w : World) (v : Value) (a : An) : Prop := ∃ vt vc, v = .agg #[.int .i64 a.err, .int .i64 a.num, .bool a.pg.reset, vt, vc, .int .i64 a.pg.cur, .bool a.pg.more] ∧ Lies w vt a.pg.tree ∧ LiesO w vc a.pg.cos
theorem LiesA.below {w w' : World} {v : Value} {a : An} (h : LiesA w v a) (hw : Below w.heap.size w w') : LiesA w' v a := by
 obtain ⟨vt, vc, e, h1, h2⟩ := h
 exact ⟨vt, vc, e, h1.below hw, h2.below hw⟩
structure SizedA (a : An) : Prop where
 tree : Sized a.pg.tree
 cos : SizedO 150000000000000 a.pg.cos
end Go.Proofs.YtchlgpeiombmdaaGreat
