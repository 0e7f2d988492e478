/- Requests: a record that lies in memory. -/
import Derived.Test.YtchlgpeiombmdaaGreatMA
set_option linter.unusedSimpArgs false
set_option linter.unusedVariables false
namespace Go.Proofs.YtchlgpeiombmdaaGreat
open Go.RowKit

structure Rq where
 kind : Int
 who : ByteArray
 fo : ByteArray
 name : ByteArray
 key : ByteArray
 text : ByteArray
 num : Int
 off : Int
 base : Int
 ch : List Pp.Ch
/-- A request as a value: its changes lie in memory. -/
def LiesQ (w : World) (v : Value) (q : Rq) : Prop := ∃ va, v = .agg #[.int .i64 q.kind, .string q.who, .string q.fo, .string q.name, .string q.key, .string q.text, .int .i64 q.num, .int .i64 q.off, .int .i64 q.base, va] ∧ LiesC w va q.ch
theorem LiesQ.below {w w' : World} {v : Value} {q : Rq} (h : LiesQ w v q) (hw : Below w.heap.size w w') : LiesQ w' v q := by
 obtain ⟨va, e, h1⟩ := h
 exact ⟨va, e, h1.below hw⟩
def zeroQ : Rq := ⟨0, ⟨#[]⟩, ⟨#[]⟩, ⟨#[]⟩, ⟨#[]⟩, ⟨#[]⟩, 0, 0, 0, []⟩
theorem liesC_nil (w : World) : LiesC w (.slice none 0 0) [] := ⟨none, 0, rfl, Nat.le_refl _, Nat.zero_le _, fun i h => absurd h (by simp)⟩
theorem liesQ_zero (w : World) : LiesQ w (.agg #[.int .i64 0, .string ⟨#[]⟩, .string ⟨#[]⟩, .string ⟨#[]⟩, .string ⟨#[]⟩, .string ⟨#[]⟩, .int .i64 0, .int .i64 0, .int .i64 0, .slice none 0 0]) zeroQ := ⟨_, rfl, liesC_nil _⟩
abbrev zq : List Value := [.int .i64 0, .string ⟨#[]⟩, .string ⟨#[]⟩, .string ⟨#[]⟩, .string ⟨#[]⟩, .string ⟨#[]⟩, .int .i64 0, .int .i64 0, .int .i64 0, .slice none 0 0]
end Go.Proofs.YtchlgpeiombmdaaGreat
