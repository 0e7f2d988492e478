/- Trees as lists of entries; how they lie in memory; what Check of a tree answers, as plain mathematics. -/
import Derived.Test.YtogbahkoijkclaaGreatPure3
set_option linter.unusedSimpArgs false
set_option linter.unusedVariables false
namespace Go.Proofs.YtogbahkoijkclaaGreat
open Go.RowKit

structure En where
  path : ByteArray
  folder : Bool
  text : ByteArray
  ver : Int

def EnAt (w : World) (b o : Nat) (e : En) : Prop := w.cell? ⟨b, o, none⟩ = some (.string e.path) ∧ w.cell? ⟨b, o + 1, none⟩ = some (.bool e.folder) ∧ w.cell? ⟨b, o + 2, none⟩ = some (.string e.text) ∧ w.cell? ⟨b, o + 3, none⟩ = some (.int .i64 e.ver)
def Lies (w : World) (v : Value) (L : List En) : Prop := ∃ a cap, v = .slice a L.length cap ∧ L.length ≤ cap ∧ L.length ≤ 1000000000000000 ∧ ∀ i (h : i < L.length), ∃ b o, a = some ⟨b, o, none⟩ ∧ b < w.heap.size ∧ EnAt w b (o + i * 4) L[i]

theorem EnAt.below {w w' : World} {b o : Nat} {e : En} (h : EnAt w b o e) (hb : b < w.heap.size) (hw : Below w.heap.size w w') : EnAt w' b o e :=
  ⟨(hw.cell (p := ⟨b, o, none⟩) hb).trans h.1, (hw.cell (p := ⟨b, o + 1, none⟩) hb).trans h.2.1, (hw.cell (p := ⟨b, o + 2, none⟩) hb).trans h.2.2.1, (hw.cell (p := ⟨b, o + 3, none⟩) hb).trans h.2.2.2⟩
theorem Lies.below {w w' : World} {v : Value} {L : List En} (h : Lies w v L) (hw : Below w.heap.size w w') : Lies w' v L := by
  obtain ⟨a, cap, hv, h1, h2, h3⟩ := h
  refine ⟨a, cap, hv, h1, h2, fun i hi => ?_⟩
  obtain ⟨b, o, ha, hb, he⟩ := h3 i hi
  exact ⟨b, o, ha, Nat.lt_of_lt_of_le hb hw.size, he.below hb hw⟩

theorem box4 {w w1 : World} {a b c d : Value} {T : TypeId} (h : Below (w.alloc (.cells #[a, b, c, d] T)).heap.size (w.alloc (.cells #[a, b, c, d] T)) w1) :
    w1.cell? ⟨w.heap.size, 0, none⟩ = some a ∧ w1.cell? ⟨w.heap.size, 1, none⟩ = some b ∧ w1.cell? ⟨w.heap.size, 2, none⟩ = some c ∧ w1.cell? ⟨w.heap.size, 3, none⟩ = some d ∧ Below w.heap.size w w1 ∧ w.heap.size < w1.heap.size := by
  have hz : w.heap.size < (w.alloc (.cells #[a, b, c, d] T)).heap.size := by simp
  refine ⟨?_, ?_, ?_, ?_, ((Below.refl _ _).alloc (Nat.le_refl _) _).trans (h.mono (Nat.le_of_lt hz)), Nat.lt_of_lt_of_le hz h.size⟩
  · exact (h.cell (p := ⟨w.heap.size, 0, none⟩) hz).trans (by simp)
  · exact (h.cell (p := ⟨w.heap.size, 1, none⟩) hz).trans (by simp)
  · exact (h.cell (p := ⟨w.heap.size, 2, none⟩) hz).trans (by simp)
  · exact (h.cell (p := ⟨w.heap.size, 3, none⟩) hz).trans (by simp)
theorem box4f {w w1 : World} {a b c d : Value} {T : TypeId} (h : Below (w.alloc (.cells #[a, b, c, d] T)).heap.size (w.alloc (.cells #[a, b, c, d] T)) w1) (i : Nat) : w1.frozen? ⟨w.heap.size, i, none⟩ = false :=
  (h.frozen (p := ⟨w.heap.size, i, none⟩) (by simp)).trans (World.frozen?_alloc_at _ _ _ _ rfl)
theorem box1 {w w1 : World} {a : Value} {T : TypeId} (h : Below (w.alloc (.cells #[a] T)).heap.size (w.alloc (.cells #[a] T)) w1) :
    w1.cell? ⟨w.heap.size, 0, none⟩ = some a ∧ Below w.heap.size w w1 ∧ w.heap.size < w1.heap.size := by
  have hz : w.heap.size < (w.alloc (.cells #[a] T)).heap.size := by simp
  refine ⟨?_, ((Below.refl _ _).alloc (Nat.le_refl _) _).trans (h.mono (Nat.le_of_lt hz)), Nat.lt_of_lt_of_le hz h.size⟩
  exact (h.cell (p := ⟨w.heap.size, 0, none⟩) hz).trans (by simp)

namespace Pp
def verE (n : Int) : Int := if n < 1 ∨ 1000000 < n then 3 else 0
def entE (e : En) : Int := if chk e.path.data.toList = 0 then (if e.folder = true ∧ ¬ e.text.data.toList = [] then 1 else if 300 < e.text.size then 2 else verE e.ver) else chk e.path.data.toList
def entsE : List En → Int
  | [] => 0
  | e :: r => if entE e = 0 then entsE r else entE e
def lt (a b : En) : Bool := Op.bytesLess a.path.toList b.path.toList
def risesB : List En → Bool
  | [] => true
  | [_] => true
  | a :: b :: r => lt a b && risesB (b :: r)
def atB (p : List UInt8) (e : En) : Bool := e.path.data.toList == p
def foldE (L : List En) (p : List UInt8) : Int := if p = [] then 0 else match L.find? (atB p) with
  | none => 5
  | some e => if e.folder = true then 0 else 4
def parF (L : List En) (e : En) : Int := foldE L (par e.path.data.toList)
def parsE (L M : List En) : Int := if M.any (fun e => parF L e == 5) = true then 5 else if M.any (fun e => parF L e == 4) = true then 4 else 0
def treeE (L : List En) : Int := if 60 < L.length then 2 else if entsE L = 0 then (if risesB L = true then parsE L L else 4) else entsE L
theorem foldE_range (L : List En) (p : List UInt8) : foldE L p = 0 ∨ foldE L p = 4 ∨ foldE L p = 5 := by
  unfold foldE
  split
  · simp
  · split
    · simp
    · split <;> simp
theorem entE_path {e : En} (h : entE e = 0) : chk e.path.data.toList = 0 := by
  unfold entE at h
  split at h
  · assumption
  · rename_i hz; exact absurd h hz
theorem entsE_all {L : List En} (h : entsE L = 0) : ∀ e ∈ L, entE e = 0 := by
  induction L with
  | nil => intro e he; cases he
  | cons a r ih =>
    unfold entsE at h
    split at h
    · rename_i ha
      intro e he
      rcases List.mem_cons.1 he with rfl | he
      · exact ha
      · exact ih h e he
    · rename_i ha; exact absurd h ha
end Pp
end Go.Proofs.YtogbahkoijkclaaGreat
