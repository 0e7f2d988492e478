/- Plain mathematics of paths: names between slashes, what is a name, what Check answers, parent and last name, what goes aside; lists of bytes alone, no program. -/
import Derived.WalkKit
import Derived.Lib.IndexMore
import Derived.Lib.LastIndexLaws
import Derived.Lib.CutLaws
import Derived.Lib.LastIndexByte
import Derived.Lib.TrimByte
import Derived.Lib.ItoaNum
import Derived.Lib.SmallJoins
import Derived.Lib.Bytealg
import Derived.Test.YthgjdgpjkcmcdaaDoorProg
import Derived.WalkSpells
import Derived.WalkLawsBesides
import Derived.Handy
import Derived.Maps.OwnSet
import Derived.StringKeys
import Derived.Test.YthgjdgpjkcmcdaaDoorShelf
import Derived.Deep.QuietTactic
import Derived.BigQuiet
import Derived.RegionTactic
import Derived.Lib.AtoiAll
import Derived.Lib.AtoiAllCases
import Derived.Lib.ItoaMem
import Derived.Laws.OwnMore
import Derived.Lib.Builder
import Derived.Lib.AppendStr
import Derived.Lib.UnsafeStr
import Derived.Lib.OthersKept
import Derived.Lib.OwnKind
import Derived.Laws.Externs
import Derived.Lib.LaidTab
set_option linter.unusedSimpArgs false
set_option linter.unusedVariables false
namespace Go.Proofs.YthgjdgpjkcmcdaaDoor.Pp

def okB (c : UInt8) : Bool := (97 ≤ c && c ≤ 122) || (65 ≤ c && c ≤ 90) || (48 ≤ c && c ≤ 57) || c == 45 || c == 95 || c == 46 || c == 40 || c == 41 || c == 32
def nameB (l : List UInt8) : Bool := l.all okB && decide (1 ≤ l.length) && decide (l.length ≤ 20) && (l.head? != some 32) && (l.getLast? != some 32) && l != [46] && l != [46, 46]
def nm : List UInt8 → List (List UInt8)
 | [] => [[]]
 | c :: r => if c = 47 then [] :: nm r else match nm r with
  | [] => [[c]]
  | h :: t => (c :: h) :: t
def big (l : List UInt8) : Bool := decide (6 < (nm l).length) || decide (80 < l.length)
def chk (l : List UInt8) : Int := if (nm l).all nameB = true then (if big l = true then 2 else 0) else 1
def join : List (List UInt8) → List UInt8
 | [] => []
 | [a] => a
 | a :: b :: r => a ++ 47 :: join (b :: r)
theorem nm_none : ∀ (a : List UInt8), 47 ∉ a → nm a = [a]
 | [], _ => rfl
 | c :: r, h => by
  have h1 : c ≠ 47 := fun e => h (by simp [e])
  have h2 : 47 ∉ r := fun e => h (by simp [e])
  rw [nm, if_neg h1, nm_none r h2]
/-- Where a byte stands first. -/
theorem idx_one (l : List UInt8) (c : UInt8) : (Lib.indexByte l c = -1 ∧ c ∉ l) ∨ ∃ i : Nat, Lib.indexByte l c = i ∧ i < l.length ∧ c ∉ l.take i ∧ l = l.take i ++ c :: l.drop (i + 1) := by
 induction l with
 | nil => left; simp [Lib.indexByte]
 | cons b r ih =>
  by_cases h : b = c
  · right
    subst h
    exact ⟨0, by simp [Lib.indexByte], by simp, by simp, by simp⟩
  · rcases ih with ⟨e, hn⟩ | ⟨i, e, hi, hn, hl⟩
    · left
      refine ⟨?_, by simp [hn, Ne.symm h]⟩
      simp [Lib.indexByte, e, h]
    · right
      refine ⟨i + 1, ?_, by simp; omega, by simp [hn, Ne.symm h], by simp [← hl]⟩
      have h3 : ¬ ((i : Int) = -1) := by omega
      simp [Lib.indexByte, e, h3, h]
theorem idx_of (a b : List UInt8) (c : UInt8) (h : c ∉ a) : Lib.indexByte (a ++ c :: b) c = a.length := by
 induction a with
 | nil => simp [Lib.indexByte]
 | cons x r ih =>
  have h1 : ¬ x = c := fun e => h (by simp [e])
  have h2 : c ∉ r := fun e => h (by simp [e])
  have h3 : ¬ ((r.length : Int) = -1) := by omega
  simp [Lib.indexByte, h1, ih h2, h3]
theorem idx_none (l : List UInt8) (c : UInt8) (h : c ∉ l) : Lib.indexByte l c = -1 := by
 rcases idx_one l c with ⟨e, _⟩ | ⟨i, _, hi, _, hl⟩
 · exact e
 · exact absurd (by rw [hl]; simp) h
theorem bytes_eq {s : ByteArray} {l : List UInt8} (h : s.data.toList = l) : s = ⟨l.toArray⟩ := by
 cases s; subst h; simp
theorem sz (l : List UInt8) : (⟨l.toArray⟩ : ByteArray).size = l.length := by rw [Lib.size_eq]
def par (l : List UInt8) : List UInt8 := join (nm l).dropLast
def lst (l : List UInt8) : List UInt8 := (nm l).getLastD []
theorem lst_none {l : List UInt8} (h : 47 ∉ l) : lst l = l := by simp [lst, nm_none l h]
def isInB (p q : List UInt8) : Bool := (nm q).isPrefixOf (nm p)
def mvT (p f t : List UInt8) : List UInt8 := t ++ p.drop f.length
end Go.Proofs.YthgjdgpjkcmcdaaDoor.Pp
namespace Go.Proofs.YthgjdgpjkcmcdaaDoor
open Go.RowKit

structure En where
 path : ByteArray
 folder : Bool
 text : ByteArray
 ver : Int
def EnAt (w : World) (b o : Nat) (e : En) : Prop := w.cell? ⟨b, o, none⟩ = some (.string e.path) ∧ w.cell? ⟨b, o + 1, none⟩ = some (.bool e.folder) ∧ w.cell? ⟨b, o + 2, none⟩ = some (.string e.text) ∧ w.cell? ⟨b, o + 3, none⟩ = some (.int .i64 e.ver)
def Lies (w : World) (v : Value) (L : List En) : Prop := ∃ a cap, v = .slice a L.length cap ∧ L.length ≤ cap ∧ L.length ≤ 1000000000000000 ∧ ∀ i (h : i < L.length), ∃ b o, a = some ⟨b, o, none⟩ ∧ b < w.heap.size ∧ EnAt w b (o + i * 4) L[i]
theorem EnAt.below {w w' : World} {b o : Nat} {e : En} (h : EnAt w b o e) (hb : b < w.heap.size) (hw : Below w.heap.size w w') : EnAt w' b o e :=
 ⟨(hw.cell (p := ⟨b, o, none⟩) hb).trans h.1, (hw.cell (p := ⟨b, o + 1, none⟩) hb).trans h.2.1, (hw.cell (p := ⟨b, o + 2, none⟩) hb).trans h.2.2.1, (hw.cell (p := ⟨b, o + 3, none⟩) hb).trans h.2.2.2⟩
theorem Lies.below {w w' : World} {v : Value} {L : List En} (h : Lies w v L) (hw : Below w.heap.size w w') : Lies w' v L := by
 obtain ⟨a, cap, hv, h1, h2, h3⟩ := h
 refine ⟨a, cap, hv, h1, h2, fun i hi => ?_⟩
 obtain ⟨b, o, ha, hb, he⟩ := h3 i hi
 exact ⟨b, o, ha, Nat.lt_of_lt_of_le hb hw.size, he.below hb hw⟩
namespace Pp
def verE (n : Int) : Int := if n < 1 ∨ 1000000 < n then 3 else 0
def entE (e : En) : Int := if chk e.path.data.toList = 0 then (if e.folder = true ∧ ¬ e.text.data.toList = [] then 1 else if 300 < e.text.size then 2 else verE e.ver) else chk e.path.data.toList
def entsE : List En → Int
 | [] => 0
 | e :: r => if entE e = 0 then entsE r else entE e
def lt (a b : En) : Bool := Op.bytesLess a.path.toList b.path.toList
def risesB : List En → Bool
 | [] => true
 | [_] => true
 | a :: b :: r => lt a b && risesB (b :: r)
def atB (p : List UInt8) (e : En) : Bool := e.path.data.toList == p
def foldE (L : List En) (p : List UInt8) : Int := if p = [] then 0 else match L.find? (atB p) with
 | none => 5
 | some e => if e.folder = true then 0 else 4
def parF (L : List En) (e : En) : Int := foldE L (par e.path.data.toList)
def parsE (L M : List En) : Int := if M.any (fun e => parF L e == 5) = true then 5 else if M.any (fun e => parF L e == 4) = true then 4 else 0
def treeE (L : List En) : Int := if 60 < L.length then 2 else if entsE L = 0 then (if risesB L = true then parsE L L else 4) else entsE L
end Pp
end Go.Proofs.YthgjdgpjkcmcdaaDoor
namespace Go.Proofs.YthgjdgpjkcmcdaaDoor.Pp

/-- Where an entry belongs. -/
def ins (x : En) : List En → List En
 | [] => [x]
 | y :: r => if lt y x = true then y :: ins x r else x :: y :: r
/-- A change: its kind, its path, where to, its text, its base. -/
structure Ch where
 k : Int
 p : ByteArray
 q : ByteArray
 t : ByteArray
 b : Int
def chgE (c : Ch) : Int :=
 if c.k < 1 ∨ 4 < c.k then 7 else if ¬ chk c.p.data.toList = 0 then chk c.p.data.toList
 else if c.k = 3 ∧ ¬ chk c.q.data.toList = 0 then chk c.q.data.toList
 else if (¬ c.k = 3 ∧ ¬ c.q.data.toList = []) ∨ (¬ c.k = 2 ∧ ¬ c.t.data.toList = []) then 1
 else if 300 < c.t.size then 2 else if c.b < -1 ∨ 1000000 < c.b then 3 else 0
def goal (c : Ch) : List UInt8 := if c.k = 3 then c.q.data.toList else c.p.data.toList
def plcE (L : List En) (c : Ch) : Int :=
 if ¬ foldE L (par (goal c)) = 0 then foldE L (par (goal c)) else match L.find? (atB c.p.data.toList) with
 | none => if c.k = 3 ∨ c.k = 4 then 5 else 0
 | some x => if c.k = 1 then 6 else if c.k = 2 then (if x.folder = true then 4 else 0)
  else if c.k = 3 then (if isInB c.q.data.toList c.p.data.toList = true then 3 else if (L.find? (atB c.q.data.toList)).isSome = true then 6 else 0) else 0
/-- Is an entry at a path, or within? -/
def wi (q : List UInt8) (e : En) : Bool := isInB e.path.data.toList q
def stW (q : List UInt8) (b : Int) (e : En) : Bool := decide (b < e.ver) && wi q e
def stl (L : List En) (c : Ch) : Bool := !(c.b == -1) && L.any (stW c.p.data.toList c.b)
def newE (c : Ch) (n : Int) : En := ⟨c.p, decide (c.k = 1), c.t, n⟩
def outE (x : En) (L : List En) : List En := L.filter (fun e => !atB x.path.data.toList e)
def keptL (L : List En) (c : Ch) : List En := L.filter (fun e => !wi c.p.data.toList e)
def mvP (c : Ch) (e : En) : List UInt8 := mvT e.path.data.toList c.p.data.toList c.q.data.toList
def mvd (c : Ch) (n : Int) (e : En) : En := ⟨⟨(mvP c e).toArray⟩, e.folder, e.text, if e.path.data.toList = c.p.data.toList then n else e.ver⟩
def goL (L : List En) (c : Ch) : List En := L.filter (wi c.p.data.toList)
def mvL (L : List En) (c : Ch) (n : Int) : List En := (goL L c).map (mvd c n)
def insAll (ms K : List En) : List En := ms.foldl (fun a x => ins x a) K
def chdE (L : List En) (c : Ch) (n : Int) : Int :=
 if c.k = 1 ∨ c.k = 2 then (if 60 < (outE (newE c n) L).length + 1 then 2 else 0)
 else if c.k = 3 then (if (goL L c).any (fun e => big (mvP c e)) = true then 2 else 0) else 0
def chdR (L : List En) (c : Ch) (n : Int) : List En :=
 if c.k = 1 ∨ c.k = 2 then ins (newE c n) (outE (newE c n) L)
 else if c.k = 3 then insAll (mvL L c n) (keptL L c) else keptL L c
def appE (L : List En) (c : Ch) (n : Int) : Int :=
 if ¬ verE n = 0 then verE n else if ¬ chgE c = 0 then chgE c else if ¬ plcE L c = 0 then plcE L c else if stl L c = true then 8 else chdE L c n
end Go.Proofs.YthgjdgpjkcmcdaaDoor.Pp
namespace Go.Proofs.YthgjdgpjkcmcdaaDoor
open Go.RowKit

/-- A change lies at a place: its five cells. -/
def ChAt (w : World) (b o : Nat) (c : Pp.Ch) : Prop := w.cell? ⟨b, o, none⟩ = some (.int .i64 c.k) ∧ w.cell? ⟨b, o + 1, none⟩ = some (.string c.p) ∧ w.cell? ⟨b, o + 2, none⟩ = some (.string c.q) ∧ w.cell? ⟨b, o + 3, none⟩ = some (.string c.t) ∧ w.cell? ⟨b, o + 4, none⟩ = some (.int .i64 c.b)
def LiesC (w : World) (v : Value) (cs : List Pp.Ch) : Prop := ∃ a cap, v = .slice a cs.length cap ∧ cs.length ≤ cap ∧ cs.length ≤ 1000000000000000 ∧ ∀ i (h : i < cs.length), ∃ b o, a = some ⟨b, o, none⟩ ∧ b < w.heap.size ∧ ChAt w b (o + i * 5) cs[i]
theorem ChAt.below {w w' : World} {b o : Nat} {c : Pp.Ch} (h : ChAt w b o c) (hb : b < w.heap.size) (hw : Below w.heap.size w w') : ChAt w' b o c :=
 ⟨(hw.cell (p := ⟨b, o, none⟩) hb).trans h.1, (hw.cell (p := ⟨b, o + 1, none⟩) hb).trans h.2.1, (hw.cell (p := ⟨b, o + 2, none⟩) hb).trans h.2.2.1, (hw.cell (p := ⟨b, o + 3, none⟩) hb).trans h.2.2.2.1, (hw.cell (p := ⟨b, o + 4, none⟩) hb).trans h.2.2.2.2⟩
theorem LiesC.below {w w' : World} {v : Value} {cs : List Pp.Ch} (h : LiesC w v cs) (hw : Below w.heap.size w w') : LiesC w' v cs := by
 obtain ⟨a, cap, hv, h1, h2, h3⟩ := h
 refine ⟨a, cap, hv, h1, h2, fun i hi => ?_⟩
 obtain ⟨b, o, ha, hb, he⟩ := h3 i hi
 exact ⟨b, o, ha, Nat.lt_of_lt_of_le hb hw.size, he.below hb hw⟩
def SizedC (B : Nat) (cs : List Pp.Ch) : Prop := ∀ c ∈ cs, c.p.size ≤ B ∧ c.q.size ≤ B ∧ c.t.size ≤ B
namespace Pp
/-- Change by change: how many were made, the error, and what came. -/
def runF (n : Int) : List En → List Ch → Nat × Int × List En
 | T, [] => (0, 0, T)
 | T, c :: r => if appE T c n = 0 then ((runF n (chdR T c n) r).1 + 1, (runF n (chdR T c n) r).2) else (0, appE T c n, [])
end Pp
end Go.Proofs.YthgjdgpjkcmcdaaDoor
namespace Go.Proofs.YthgjdgpjkcmcdaaDoor
open Go.RowKit

namespace Pp
/-- All: what is wrong with the tree, then how many there are, then change by change. -/
def allE (L : List En) (cs : List Ch) (n : Int) : Int := if ¬ treeE L = 0 then treeE L else if 20 < cs.length then 2 else (runF n L cs).2.1
def allR (L : List En) (cs : List Ch) (n : Int) : List En := if ¬ treeE L = 0 then [] else if 20 < cs.length then [] else (runF n L cs).2.2
end Pp

end Go.Proofs.YthgjdgpjkcmcdaaDoor
namespace Go.Proofs.YthgjdgpjkcmcdaaDoor
open Go.RowKit

namespace Pp
def okK (c : UInt8) : Bool := decide (97 ≤ (c.toNat : Int) ∧ (c.toNat : Int) ≤ 122 ∨ 65 ≤ (c.toNat : Int) ∧ (c.toNat : Int) ≤ 90 ∨ 48 ≤ (c.toNat : Int) ∧ (c.toNat : Int) ≤ 57 ∨ (c.toNat : Int) = 45)
def keyB (l : List UInt8) : Bool := decide (1 ≤ l.length) && decide (l.length ≤ 20) && l.all okK
end Pp

end Go.Proofs.YthgjdgpjkcmcdaaDoor
namespace Go.Proofs.YthgjdgpjkcmcdaaDoor
open Go.RowKit

/-- A commit: its number, its key, its changes. -/
structure Co where
 nu : Int
 ke : ByteArray
 ch : List Pp.Ch
/-- A journal: the tree ahead of its first commit, that one's number, its commits. -/
structure Jo where
 base : List En
 first : Int
 cos : List Co
def CoAt (w : World) (b o : Nat) (c : Co) : Prop := w.cell? ⟨b, o, none⟩ = some (.int .i64 c.nu) ∧ w.cell? ⟨b, o + 1, none⟩ = some (.string c.ke) ∧ ∃ u, w.cell? ⟨b, o + 2, none⟩ = some u ∧ LiesC w u c.ch
def LiesO (w : World) (v : Value) (l : List Co) : Prop := ∃ a cap, v = .slice a l.length cap ∧ l.length ≤ cap ∧ l.length ≤ 1000000000000000 ∧ ∀ i (h : i < l.length), ∃ b o, a = some ⟨b, o, none⟩ ∧ b < w.heap.size ∧ CoAt w b (o + i * 3) l[i]
def LiesJ (w : World) (v : Value) (J : Jo) : Prop := ∃ vb vc, v = .agg #[vb, .int .i64 J.first, vc] ∧ Lies w vb J.base ∧ LiesO w vc J.cos
theorem CoAt.below {w w' : World} {b o : Nat} {c : Co} (h : CoAt w b o c) (hb : b < w.heap.size) (hw : Below w.heap.size w w') : CoAt w' b o c := by
 obtain ⟨h0, h1, u, h2, h3⟩ := h
 exact ⟨(hw.cell (p := ⟨b, o, none⟩) hb).trans h0, (hw.cell (p := ⟨b, o + 1, none⟩) hb).trans h1, u, (hw.cell (p := ⟨b, o + 2, none⟩) hb).trans h2, h3.below hw⟩
theorem LiesO.below {w w' : World} {v : Value} {l : List Co} (h : LiesO w v l) (hw : Below w.heap.size w w') : LiesO w' v l := by
 obtain ⟨a, cap, hv, h1, h2, h3⟩ := h
 refine ⟨a, cap, hv, h1, h2, fun i hi => ?_⟩
 obtain ⟨b, o, ha, hb, he⟩ := h3 i hi
 exact ⟨b, o, ha, Nat.lt_of_lt_of_le hb hw.size, he.below hb hw⟩
theorem LiesJ.below {w w' : World} {v : Value} {J : Jo} (h : LiesJ w v J) (hw : Below w.heap.size w w') : LiesJ w' v J := by
 obtain ⟨vb, vc, rfl, h1, h2⟩ := h
 exact ⟨vb, vc, rfl, h1.below hw, h2.below hw⟩
theorem liesO_nil (w : World) : LiesO w (.slice none 0 0) [] := ⟨none, 0, rfl, Nat.le_refl _, by decide, fun i h => absurd h (by simp)⟩
def SizedO (B : Nat) (l : List Co) : Prop := ∀ c ∈ l, c.ke.size ≤ B ∧ SizedC B c.ch
theorem SizedO.mono {B B' : Nat} {l : List Co} (h : SizedO B l) (hb : B ≤ B') : SizedO B' l := fun c hc => ⟨Nat.le_trans (h c hc).1 hb, fun x hx => ⟨Nat.le_trans ((h c hc).2 x hx).1 hb, Nat.le_trans ((h c hc).2 x hx).2.1 hb, Nat.le_trans ((h c hc).2 x hx).2.2 hb⟩⟩
namespace Jn
/-- Of one commit, but for its changes: its number must be this one. -/
def coE (c : Co) (n : Int) : Int := if ¬ c.nu = n then 4 else if 1000000 < n then 3 else if ¬ Pp.keyB c.ke.data.toList = true then 1 else if c.ch = [] then 1 else 0
/-- Commit by commit. -/
def runJ : Int → List En → List Co → Int × List En
 | _, T, [] => (0, T)
 | n, T, c :: r => if ¬ coE c n = 0 then (coE c n, []) else if ¬ Pp.allE T c.ch c.nu = 0 then (Pp.allE T c.ch c.nu, []) else runJ (n + 1) (Pp.allR T c.ch c.nu) r
def Apart (l : List Co) : Prop := l.Pairwise (fun x y => x.ke.data.toList ≠ y.ke.data.toList)
instance (l : List Co) : Decidable (Apart l) := by unfold Apart; infer_instance
def tree (J : Jo) : List En := (runJ J.first J.base J.cos).2
/-! Numbers by keys. -/
def key (p : ByteArray) : Lit := .string p.data.toList
def num (n : Int) : DataW Unit := .lit (.int .i64 n)
def D (l : List Co) : DataW Unit := l.foldl (fun m c => m.put (key c.ke) (num c.nu)) (.map [])
end Jn
end Go.Proofs.YthgjdgpjkcmcdaaDoor
namespace Go.Proofs.YthgjdgpjkcmcdaaDoor
open Go.RowKit

/-- A page. -/
structure Pg where
 reset : Bool
 tree : List En
 cos : List Co
 cur : Int
 more : Bool
def LiesPg (w : World) (v : Value) (P : Pg) : Prop := ∃ vt vc, v = .agg #[.bool P.reset, vt, vc, .int .i64 P.cur, .bool P.more] ∧ Lies w vt P.tree ∧ LiesO w vc P.cos
theorem LiesPg.below {w w' : World} {v : Value} {P : Pg} (h : LiesPg w v P) (hw : Below w.heap.size w w') : LiesPg w' v P := by
 obtain ⟨vt, vc, h1, h2, h3⟩ := h
 exact ⟨vt, vc, h1, h2.below hw, h3.below hw⟩
theorem liesO_shape {w : World} {v : Value} {l : List Co} (h : LiesO w v l) : ∃ a cap, v = .slice a l.length cap := by
 obtain ⟨a, cap, h, _⟩ := h
 exact ⟨a, cap, h⟩
namespace Pp
theorem own_below {w w' : World} {base : Nat} {e : TypeId} {size : Nat} {v : Value} {n : Nat} {xs : List Value} (h : w.ownsRow base e size v n xs) (hb : Below w.heap.size w w') : w'.ownsRow base e size v n xs := by
 obtain ⟨h1, h2⟩ := h
 refine ⟨h1, ?_⟩
 rcases h2 with h2 | ⟨g, cap, cur, hv, hg, hh, r⟩
 · exact .inl h2
 · refine .inr ⟨g, cap, cur, hv, hg, ?_, r⟩
   have hlt : g < w.heap.size := by
    rcases Nat.lt_or_ge g w.heap.size with h | h
    · exact h
    · rw [Array.getElem?_eq_none h] at hh; cases hh
   rw [hb.block g hlt]; exact hh
end Pp


namespace Pp
end Pp
end Go.Proofs.YthgjdgpjkcmcdaaDoor
namespace Go.Proofs.YthgjdgpjkcmcdaaDoor
open Go.RowKit

namespace Pp
end Pp

/-- A predicate on entries, as a function value. -/
def Tells (w : World) (g : Nat) (cb : Array Value) (pr : En → Bool) : Prop :=
 (∀ args w, (callFunc g args).run Tryd.prog w = .ok (.enter g args) w) ∧
 ∀ (W : World), Below w.heap.size w W → ∀ e : En, e.path.size ≤ 1000000000000000 → Calls Tryd.prog g (#[.agg #[.string e.path, .bool e.folder, .string e.text, .int .i64 e.ver]] ++ cb) W fun r W' => r = .returned (.bool (pr e)) ∧ Below W.heap.size W W'
theorem Tells.below {w w' : World} {g : Nat} {cb : Array Value} {pr : En → Bool} (h : Tells w g cb pr) (hw : Below w.heap.size w w') : Tells w' g cb pr :=
 ⟨h.1, fun W hW => h.2 W (hw.trans (hW.mono hw.size))⟩
end Go.Proofs.YthgjdgpjkcmcdaaDoor
namespace Go.Proofs.YthgjdgpjkcmcdaaDoor
open Go.RowKit

structure An where
 err : Int
 num : Int
 pg : Pg
/-- An answer as a value: its page's tree and commits lie in memory. -/
def LiesA (w : World) (v : Value) (a : An) : Prop := ∃ vt vc, v = .agg #[.int .i64 a.err, .int .i64 a.num, .bool a.pg.reset, vt, vc, .int .i64 a.pg.cur, .bool a.pg.more] ∧ Lies w vt a.pg.tree ∧ LiesO w vc a.pg.cos
theorem LiesA.below {w w' : World} {v : Value} {a : An} (h : LiesA w v a) (hw : Below w.heap.size w w') : LiesA w' v a := by
 obtain ⟨vt, vc, e, h1, h2⟩ := h
 exact ⟨vt, vc, e, h1.below hw, h2.below hw⟩
structure Rq where
 kind : Int
 who : ByteArray
 fo : ByteArray
 name : ByteArray
 key : ByteArray
 text : ByteArray
 num : Int
 off : Int
 base : Int
 ch : List Pp.Ch
/-- A request as a value: its changes lie in memory. -/
def LiesQ (w : World) (v : Value) (q : Rq) : Prop := ∃ va, v = .agg #[.int .i64 q.kind, .string q.who, .string q.fo, .string q.name, .string q.key, .string q.text, .int .i64 q.num, .int .i64 q.off, .int .i64 q.base, va] ∧ LiesC w va q.ch
theorem LiesQ.below {w w' : World} {v : Value} {q : Rq} (h : LiesQ w v q) (hw : Below w.heap.size w w') : LiesQ w' v q := by
 obtain ⟨va, e, h1⟩ := h
 exact ⟨va, e, h1.below hw⟩
def zeroQ : Rq := ⟨0, ⟨#[]⟩, ⟨#[]⟩, ⟨#[]⟩, ⟨#[]⟩, ⟨#[]⟩, 0, 0, 0, []⟩
theorem liesC_nil (w : World) : LiesC w (.slice none 0 0) [] := ⟨none, 0, rfl, Nat.le_refl _, Nat.zero_le _, fun i h => absurd h (by simp)⟩
end Go.Proofs.YthgjdgpjkcmcdaaDoor
namespace Go.Proofs.YthgjdgpjkcmcdaaDoor

/-- What a writer holds: its bytes; whether there is too much; whether a number is too far. -/
structure Ws where
 l : List UInt8
 mn : Bool
 fr : Bool
def I64 (n : Int) : Prop := -9223372036854775808 ≤ n ∧ n ≤ 9223372036854775807
namespace Wr
def near (n : Int) : Bool := decide (-1099511627776 ≤ n) && decide (n ≤ 1099511627776)
theorem near_iff {n : Int} : near n = true ↔ -1099511627776 ≤ n ∧ n ≤ 1099511627776 := by simp [near]
/-- What is written: a number, a text, or a mark that there is too much. -/
inductive It where
 | n (i : Int)
 | t (s : ByteArray)
 | big
def num (s : Ws) (n : Int) : Ws := ⟨s.l ++ (Lib.itoa n ++ [59]), s.mn, s.fr || !near n⟩
def much (s : Ws) : Ws := ⟨s.l, true, s.fr⟩
def txt (s : Ws) (x : ByteArray) : Ws := if 1000 < x.size then much s else ⟨(num s x.size).l ++ x.data.toList, (num s x.size).mn, (num s x.size).fr⟩
def put (s : Ws) : It → Ws
 | .n i => num s i
 | .t x => txt s x
 | .big => much s
def run (s : Ws) (l : List It) : Ws := l.foldl put s
theorem run_app (s : Ws) (a b : List It) : run s (a ++ b) = run (run s a) b := by simp [run]
theorem run_cons (s : Ws) (x : It) (a : List It) : run s (x :: a) = run (put s x) a := rfl
def It.wf : It → Prop
 | .n i => I64 i
 | _ => True
def It.ok : It → Bool
 | .n i => near i
 | .t x => decide (x.size ≤ 1000)
 | .big => false
def It.bytes : It → List UInt8
 | .n i => Lib.itoa i ++ [59]
 | .t x => Lib.itoa x.size ++ [59] ++ x.data.toList
 | .big => []
def bytes (l : List It) : List UInt8 := l.flatMap It.bytes
theorem bytes_app (a b : List It) : bytes (a ++ b) = bytes a ++ bytes b := by simp [bytes]
theorem bytes_cons (x : It) (b : List It) : bytes (x :: b) = x.bytes ++ bytes b := rfl
def ok (l : List It) : Bool := l.all It.ok
/-- What is told in the end. -/
def fin (s : Ws) : ByteArray × Int := if s.mn = true then (⟨#[]⟩, 2) else if s.fr = true then (⟨#[]⟩, 3) else (⟨s.l.toArray⟩, 0)
/-! Digits. -/
theorem dig_b (u : Nat) (h : u < 10) : (UInt8.ofNat (48 + u)).toNat = 48 + u := by rw [UInt8.toNat_ofNat']; omega
theorem dec_digit : ∀ (n u : Nat), u < n → ∀ x ∈ Lib.decDigits u, 48 ≤ x.toNat ∧ x.toNat ≤ 57
 | 0, u, h => absurd h (Nat.not_lt_zero _)
 | n + 1, u, h => by
  intro x hx
  rw [Lib.decDigits] at hx
  split at hx
  · rename_i h1
    simp only [List.mem_singleton] at hx
    subst hx
    rw [dig_b u h1]; omega
  · rename_i h1
    rw [List.mem_append, List.mem_singleton] at hx
    rcases hx with hx | rfl
    · exact dec_digit n (u / 10) (by omega) x hx
    · rw [dig_b _ (by omega)]; omega
theorem dec_ne : ∀ u, Lib.decDigits u ≠ [] := by
 intro u
 rw [Lib.decDigits]
 split <;> simp
theorem dec_lenB : ∀ (k u : Nat), u < 10 ^ (k + 1) → (Lib.decDigits u).length ≤ k + 1
 | 0, u, h => by rw [Lib.decDigits, dif_pos (by omega)]; simp
 | k + 1, u, h => by
  rw [Lib.decDigits]
  split
  · simp
  · have := dec_lenB k (u / 10) (by rw [Nat.pow_succ] at h; omega)
    simp only [List.length_append, List.length_cons, List.length_nil]
    omega
theorem itoa_len {n : Int} (h : I64 n) : (Lib.itoa n).length ≤ 20 := by
 have h1 := dec_lenB 18 n.natAbs (by obtain ⟨h1, h2⟩ := h; have : (10 : Nat) ^ (18 + 1) = 10000000000000000000 := by decide
                                     omega)
 unfold Lib.itoa
 split
 · simp only [List.length_cons]; omega
 · have e : n.toNat = n.natAbs := by omega
   rw [e]; omega
theorem itoa_no (n : Int) : (59 : UInt8) ∉ Lib.itoa n := by
 have hd : ∀ u, (59 : UInt8) ∉ Lib.decDigits u := fun u hx => by
  have := dec_digit (u + 1) u (Nat.lt_succ_self u) 59 hx
  simp at this
 unfold Lib.itoa
 split
 · intro hx
   rw [List.mem_cons] at hx
   rcases hx with hx | hx
   · simp at hx
   · exact hd _ hx
 · exact hd _
theorem pu_app : ∀ (l : List UInt8) (acc : Nat) (c : UInt8), Lib.parseUint10 acc (l ++ [c]) = match Lib.parseUint10 acc l with
    | .ok a => Lib.parseUint10 a [c]
    | .«syntax» => .«syntax»
    | .range => .range
 | [], acc, c => rfl
 | x :: l, acc, c => by
  rw [List.cons_append]
  conv => lhs; unfold Lib.parseUint10
  conv => rhs; unfold Lib.parseUint10
  split
  · split
    · rfl
    · split
      · rfl
      · exact pu_app l _ c
  · rfl
theorem pu_dec : ∀ (n u : Nat), u < n → u < 1000000000000000000 → Lib.parseUint10 0 (Lib.decDigits u) = .ok u
 | 0, u, h, _ => absurd h (Nat.not_lt_zero _)
 | n + 1, u, h, hb => by
  rw [Lib.decDigits]
  split
  · rename_i h1
    have e := dig_b u h1
    simp only [Lib.parseUint10, e]
    rw [if_pos (by omega), if_neg (by omega), if_neg (by omega)]
    congr 1; omega
  · rename_i h1
    have e := dig_b (u % 10) (by omega)
    rw [pu_app, pu_dec n (u / 10) (by omega) (by omega)]
    simp only [Lib.parseUint10, e]
    rw [if_pos (by omega), if_neg (by omega), if_neg (by omega)]
    congr 1; omega
def wide (n : Int) : Prop := n.natAbs < 1000000000000000000
theorem near_wide {n : Int} (h : near n = true) : wide n := by rw [near_iff] at h; unfold wide; omega
theorem atoi_itoa {n : Int} (h : wide n) : Lib.atoiAll (Lib.itoa n) = .ok n := by
 unfold wide at h
 have hm : Lib.parseMag (Lib.decDigits n.natAbs) = .ok n.natAbs := by
  rw [Lib.parseMag, if_neg (dec_ne _), pu_dec _ _ (Nat.lt_succ_self _) h]
 unfold Lib.itoa
 split
 · rename_i h1
   rw [Lib.atoiAll_minus, hm]
   simp only [Lib.signed]
   rw [if_neg (by omega)]
   congr 1; omega
 · rename_i h1
   have e : n.toNat = n.natAbs := by omega
   rw [e]
   obtain ⟨c, r, hc⟩ : ∃ c r, Lib.decDigits n.natAbs = c :: r := List.exists_cons_of_ne_nil (dec_ne _)
   have hd := dec_digit _ _ (Nat.lt_succ_self n.natAbs) c (by rw [hc]; simp)
   rw [hc] at hm ⊢
   rw [Lib.atoiAll_plain c r (by omega) (by omega), hm]
   simp only [Lib.signless]
   rw [if_neg (by omega)]
   congr 1; omega
/-! Numbers, read. -/
def upto (l : List UInt8) : List UInt8 := l.takeWhile (fun x => !(x == 59))
def behind (l : List UInt8) : List UInt8 := (l.dropWhile (fun x => !(x == 59))).drop 1
theorem upto_at {a r : List UInt8} (h : (59 : UInt8) ∉ a) : upto (a ++ 59 :: r) = a := by
 unfold upto
 rw [List.takeWhile_append_of_pos (by intro x hx; simp; intro e; exact h (e ▸ hx))]
 simp
theorem behind_at {a r : List UInt8} (h : (59 : UInt8) ∉ a) : behind (a ++ 59 :: r) = r := by
 unfold behind
 rw [List.dropWhile_append_of_pos (by intro x hx; simp; intro e; exact h (e ▸ hx))]
 simp
theorem upto_behind {l : List UInt8} (h : (59 : UInt8) ∈ l) : l = upto l ++ 59 :: behind l := by
 induction l with
 | nil => cases h
 | cons x l ih =>
  by_cases e : x = 59
  · subst e; simp [upto, behind]
  · have h' : (59 : UInt8) ∈ l := by
     rw [List.mem_cons] at h
     exact h.resolve_left (fun h => e h.symm)
    have := ih h'
    unfold upto behind at this ⊢
    simp only [List.takeWhile_cons, List.dropWhile_cons, beq_iff_eq, e, Bool.not_eq_true', not_false_eq_true, beq_eq_false_iff_ne, ne_eq, if_true, List.cons_append]
    rw [← this]
def rdG (g : Int → Bool) (l : List UInt8) : Option (Int × List UInt8) := match Lib.atoiAll (upto l) with
 | .ok n => if (59 : UInt8) ∈ l ∧ Lib.itoa n = upto l ∧ g n = true then some (n, behind l) else none
 | _ => none
theorem rdG_iff {g : Int → Bool} (hg : ∀ n, g n = true → wide n) {l r : List UInt8} {n : Int} : rdG g l = some (n, r) ↔ g n = true ∧ l = Lib.itoa n ++ 59 :: r := by
 constructor
 · intro h
   unfold rdG at h
   split at h
   · rename_i m hm
     split at h
     · rename_i hc
       simp only [Option.some.injEq, Prod.mk.injEq] at h
       obtain ⟨rfl, rfl⟩ := h
       exact ⟨hc.2.2, by rw [hc.2.1]; exact upto_behind hc.1⟩
     · cases h
   · cases h
 · rintro ⟨h1, rfl⟩
   have e1 := upto_at (r := r) (itoa_no n)
   unfold rdG
   rw [e1, atoi_itoa (hg n h1)]
   simp only
   rw [if_pos (by simp [h1]), behind_at (itoa_no n)]
/-- The program's bound, the document's. -/
def gN : Int → Bool := near
theorem gN_wide (n : Int) (h : gN n = true) : wide n := near_wide h
end Wr
end Go.Proofs.YthgjdgpjkcmcdaaDoor
namespace Go.Proofs.YthgjdgpjkcmcdaaDoor
open Go.RowKit Go.Maps

theorem heap_lt {W : World} {b : Nat} {o : Obj} (h : W.heap[b]? = some o) : b < W.heap.size := by
 rcases Nat.lt_or_ge b W.heap.size with h1 | h1
 · exact h1
 · rw [Array.getElem?_eq_none h1] at h; cases h
/-- A block that holds just these cells, and may be written. -/
def Cs (W : World) (b : Nat) (vs : List Value) : Prop := ∃ T, W.heap[b]? = some (.cells vs.toArray T (0, 0))
theorem Cs.lt {W : World} {b : Nat} {vs : List Value} (h : Cs W b vs) : b < W.heap.size := h.elim fun _ h => heap_lt h
theorem Cs.cell {W : World} {b : Nat} {vs : List Value} (h : Cs W b vs) (i : Nat) {v : Value} (hv : vs[i]? = some v) : W.cell? ⟨b, i, none⟩ = some v := by
 obtain ⟨T, h⟩ := h
 simp [World.cell?, h, hv]
theorem Cs.fr {W : World} {b : Nat} {vs : List Value} (h : Cs W b vs) (i : Nat) : W.frozen? ⟨b, i, none⟩ = false := by
 obtain ⟨T, h⟩ := h
 simp [World.frozen?, h]
theorem Cs.belowAt {W W' : World} {b B : Nat} {vs : List Value} (h : Cs W b vs) (hw : Below B W W') (hb : b < B) : Cs W' b vs := by
 obtain ⟨T, h⟩ := h
 exact ⟨T, (hw.block b hb).trans h⟩
theorem Cs.below {W W' : World} {b : Nat} {vs : List Value} (h : Cs W b vs) (hw : Below W.heap.size W W') : Cs W' b vs := h.belowAt hw h.lt
theorem Cs.nb {W W' : World} {b g : Nat} {vs : List Value} (h : Cs W b vs) (hw : W.grownBy W' (some g)) (hne : b ≠ g) : Cs W' b vs := by
 have hl := h.lt
 obtain ⟨T, h⟩ := h
 exact ⟨T, (hw.block b hl (fun e => hne (by injection e))).trans h⟩
theorem Cs.new (w : World) (vs : List Value) (T : TypeId) : Cs (w.alloc (.cells vs.toArray T)) w.heap.size vs := ⟨T, by show (w.heap.push _)[w.heap.size]? = _; simp⟩
theorem Cs.set {W : World} {b : Nat} {vs : List Value} (h : Cs W b vs) (i : Nat) (u : Value) : Cs (W.setCell ⟨b, i, none⟩ u) b (vs.set i u) := by
 obtain ⟨T, h⟩ := h
 refine ⟨T, ?_⟩
 unfold World.setCell
 simp only [Array.getElem?_modify, h, if_true, Option.map_some]
 simp
theorem nb_set (W : World) (b o : Nat) (u : Value) : W.grownBy (W.setCell ⟨b, o, none⟩ u) (some b) :=
 ⟨rfl, rfl, rfl, by simp, fun k _ hk => Below.heap_setCell W _ u k (fun e => hk (by rw [e]))⟩
theorem Cs.other {W : World} {b b' o : Nat} {vs : List Value} (h : Cs W b vs) (hne : b ≠ b') (u : Value) : Cs (W.setCell ⟨b', o, none⟩ u) b vs := h.nb (nb_set W b' o u) hne
/-- A block without texts. -/
def NoStr (W : World) (g : Nat) : Prop := ∀ o s, W.cell? ⟨g, o, none⟩ ≠ some (.string s)
theorem EnAt.ne {W : World} {b o g : Nat} {e : En} (h : EnAt W b o e) (hn : NoStr W g) : b ≠ g := fun hb => hn o e.path (hb ▸ h.1)
theorem ChAt.ne {W : World} {b o g : Nat} {c : Pp.Ch} (h : ChAt W b o c) (hn : NoStr W g) : b ≠ g := fun hb => hn (o + 1) c.p (hb ▸ h.2.1)
theorem cell_nb {W W' : World} {g b : Nat} (hw : W.grownBy W' (some g)) (hb : b < W.heap.size) (hne : b ≠ g) (o : Nat) : W'.cell? ⟨b, o, none⟩ = W.cell? ⟨b, o, none⟩ :=
 World.cell?_of_block (w := W) (a := ⟨b, o, none⟩) (hw.block b hb (fun e => hne (by injection e)))
theorem Lies.nb {W W' : World} {v : Value} {L : List En} {g : Nat} (h : Lies W v L) (hw : W.grownBy W' (some g)) (hn : NoStr W g) : Lies W' v L := by
 obtain ⟨a, cap, hv, h1, h2, h3⟩ := h
 refine ⟨a, cap, hv, h1, h2, fun i hi => ?_⟩
 obtain ⟨b, o, ha, hb, he⟩ := h3 i hi
 have c := cell_nb hw hb (he.ne hn)
 exact ⟨b, o, ha, Nat.lt_of_lt_of_le hb hw.size, (c _).trans he.1, (c _).trans he.2.1, (c _).trans he.2.2.1, (c _).trans he.2.2.2⟩
theorem LiesC.nb {W W' : World} {v : Value} {L : List Pp.Ch} {g : Nat} (h : LiesC W v L) (hw : W.grownBy W' (some g)) (hn : NoStr W g) : LiesC W' v L := by
 obtain ⟨a, cap, hv, h1, h2, h3⟩ := h
 refine ⟨a, cap, hv, h1, h2, fun i hi => ?_⟩
 obtain ⟨b, o, ha, hb, he⟩ := h3 i hi
 have c := cell_nb hw hb (he.ne hn)
 exact ⟨b, o, ha, Nat.lt_of_lt_of_le hb hw.size, (c _).trans he.1, (c _).trans he.2.1, (c _).trans he.2.2.1, (c _).trans he.2.2.2.1, (c _).trans he.2.2.2.2⟩
/-- Grown, and written in two blocks alone. -/
structure Nb2 (w w' : World) (b m : Nat) : Prop where
 os : w'.os = w.os
 tape : w'.tape = w.tape
 output : w'.output = w.output
 size : w.heap.size ≤ w'.heap.size
 block : ∀ k, k < w.heap.size → k ≠ b → k ≠ m → w'.heap[k]? = w.heap[k]?
theorem Nb2.trans {a c d : World} {b m : Nat} (h : Nb2 a c b m) (k : Nb2 c d b m) : Nb2 a d b m :=
 ⟨k.os.trans h.os, k.tape.trans h.tape, k.output.trans h.output, Nat.le_trans h.size k.size, fun q hq h1 h2 => (k.block q (Nat.lt_of_lt_of_le hq h.size) h1 h2).trans (h.block q hq h1 h2)⟩
theorem Nb2.to {w w' : World} {b m B : Nat} (h : Nb2 w w' b m) (hB : B ≤ w.heap.size) (h1 : B ≤ b) (h2 : B ≤ m) : Below B w w' := ⟨h.os, h.tape, h.output, h.size, fun k hk => h.block k (by omega) (by omega) (by omega)⟩
theorem Nb2.cell {w w' : World} {b m k : Nat} (h : Nb2 w w' b m) (hk : k < w.heap.size) (h1 : k ≠ b) (h2 : k ≠ m) (o : Nat) : w'.cell? ⟨k, o, none⟩ = w.cell? ⟨k, o, none⟩ := World.cell?_of_block (w := w) (a := ⟨k, o, none⟩) (h.block k hk h1 h2)
end Go.Proofs.YthgjdgpjkcmcdaaDoor
namespace Go.Proofs.YthgjdgpjkcmcdaaDoor
open Go.RowKit

def NoStrV (w : World) (v : Value) : Prop := ∀ g, v.ownBlock = some g → NoStr w g
theorem NoStr.keep {w w' : World} {g : Nat} (h : NoStr w g) (hb : w'.heap[g]? = w.heap[g]?) : NoStr w' g := by
 intro o s
 rw [World.cell?_of_block (w := w) (a := ⟨g, o, none⟩) hb]
 exact h o s
theorem NoStrV.below {w w' : World} {v : Value} (h : NoStrV w v) (hl : ∀ g, v.ownBlock = some g → g < w.heap.size) (hw : Below w.heap.size w w') : NoStrV w' v := fun g hg => (h g hg).keep (hw.block g (hl g hg))
theorem Lies.row {w w' : World} {x v : Value} {L : List En} (h : Lies w x L) (hg : w.grownBy w' v.ownBlock) (hn : NoStrV w v) : Lies w' x L := by
 cases hv : v.ownBlock with
 | none =>
  rw [hv] at hg
  exact h.below ⟨hg.os, hg.tape, hg.output, hg.size, fun k hk => hg.block k hk (by simp)⟩
 | some g =>
  rw [hv] at hg
  exact h.nb hg (hn g hv)
/-- A slice whose elements have these cells, n each. -/
def LiesR (n : Nat) (w : World) (v : Value) (R : List (List Value)) : Prop := ∃ a cap, v = .slice a R.length cap ∧ R.length ≤ cap ∧ R.length ≤ 1000000000000000 ∧ (∀ r ∈ R, r.length = n ∧ ∀ u ∈ r, u.oneCell' = true) ∧
 ∀ i (h : i < R.length), ∃ b o, a = some ⟨b, o, none⟩ ∧ b < w.heap.size ∧ ∀ c u, R[i][c]? = some u → w.cell? ⟨b, o + i * n + c, none⟩ = some u
/-- The caller's own: in a block from B on, that may be written. -/
def Own (B : Nat) (w : World) (v : Value) : Prop := ∀ g, v.ownBlock = some g → B ≤ g ∧ ∃ cur T, w.heap[g]? = some (.cells cur T (0, 0))
theorem Own.lt {B : Nat} {w : World} {v : Value} (h : Own B w v) : ∀ g, v.ownBlock = some g → g < w.heap.size := fun g hg => by
 obtain ⟨_, cur, T, hh⟩ := h g hg
 exact heap_lt hh
theorem Own.below {B : Nat} {w w' : World} {v : Value} (h : Own B w v) (hw : Below w.heap.size w w') : Own B w' v := fun g hg => by
 obtain ⟨h1, cur, T, hh⟩ := h g hg
 exact ⟨h1, cur, T, (hw.block g (heap_lt hh)).trans hh⟩
theorem Own.mono {B B' : Nat} {w : World} {v : Value} (h : Own B w v) (hB : B' ≤ B) : Own B' w v := fun g hg => ⟨Nat.le_trans hB (h g hg).1, (h g hg).2⟩
theorem LiesR.below {n : Nat} {w w' : World} {v : Value} {R : List (List Value)} (h : LiesR n w v R) (hw : Below w.heap.size w w') : LiesR n w' v R := by
 obtain ⟨a, cap, hv, h1, h2, h4, h3⟩ := h
 refine ⟨a, cap, hv, h1, h2, h4, fun i hi => ?_⟩
 obtain ⟨b, o, ha, hb, he⟩ := h3 i hi
 exact ⟨b, o, ha, Nat.lt_of_lt_of_le hb hw.size, fun c u hu => (hw.cell (p := ⟨b, o + i * n + c, none⟩) hb).trans (he c u hu)⟩
theorem flatten_at {n : Nat} : ∀ {R : List (List Value)} (i c : Nat) (h : i < R.length), (∀ r ∈ R, r.length = n) → c < n → R.flatten[i * n + c]? = R[i][c]?
 | [], i, c, h, _, _ => absurd h (Nat.not_lt_zero _)
 | r :: R, 0, c, _, hr, hc => by
  rw [List.flatten_cons, Nat.zero_mul, Nat.zero_add, List.getElem?_append_left (by rw [hr r (by simp)]; exact hc)]
  rfl
 | r :: R, i + 1, c, h, hr, hc => by
  have hl := hr r (by simp)
  rw [List.flatten_cons, List.getElem?_append_right (by rw [hl, Nat.add_mul]; omega), hl]
  have e : (i + 1) * n + c - n = i * n + c := by rw [Nat.add_mul]; omega
  rw [e, flatten_at i c (by simpa using h) (fun x hx => hr x (by simp [hx])) hc]
  rfl
theorem liesR_own {n : Nat} {w : World} {base : Nat} {T : TypeId} {v : Value} {R : List (List Value)} (h : w.ownsRow base T n v R.length R.flatten) (hn : R.length ≤ 1000000000000000) (hr : ∀ r ∈ R, r.length = n ∧ ∀ u ∈ r, u.oneCell' = true) : LiesR n w v R := by
 have h' := h
 obtain ⟨_, h2⟩ := h
 rcases h2 with ⟨rfl, hz⟩ | ⟨g, cap, cur, rfl, hg, hh, hc, hm, hz, htake⟩
 · have : R = [] := List.length_eq_zero_iff.1 hz
   subst this
   exact ⟨none, 0, rfl, Nat.le_refl _, by simp, by simp, fun i hi => absurd hi (by simp)⟩
 · refine ⟨some ⟨g, 0, none⟩, cap, rfl, hc, hn, hr, fun i hi => ⟨g, 0, rfl, heap_lt hh, fun c u hu => ?_⟩⟩
   have hc' : c < n := by
    have := (List.getElem?_eq_some_iff.1 hu).1
    rw [(hr _ (List.getElem_mem hi)).1] at this
    exact this
   have hlt : i * n + c < R.length * n := by
    have h5 : (i + 1) * n ≤ R.length * n := Nat.mul_le_mul_right n hi
    rw [Nat.add_mul] at h5
    omega
   rw [Nat.zero_add, h'.cellAt (i * n + c) hlt, flatten_at i c hi (fun r hr' => (hr r hr').1) hc']
   exact hu
theorem hid {p : Prop} (h : p) : Hid p := h
namespace Pp
end Pp
end Go.Proofs.YthgjdgpjkcmcdaaDoor
namespace Go.Proofs.YthgjdgpjkcmcdaaDoor
open Go.RowKit
theorem below_tr {w w1 w2 : World} (h1 : Below w.heap.size w w1) (h2 : Below w1.heap.size w1 w2) : Below w.heap.size w w2 := h1.trans (h2.mono h1.size)
def WtAt (B b : Nat) (p : Value) (s : Ws) (w : World) : Prop :=
 B ≤ b ∧ ∃ v, w.heap[b]? = some (.cells #[p, v, .bool s.mn, .bool s.fr] 53 (0, 0)) ∧ w.ownsRow B 5 1 v s.l.length (Lib.byteCells s.l) ∧ v.ownBlock ≠ some b
/-- A writer in a block of its own. -/
def Wt (B b : Nat) (s : Ws) (w : World) : Prop := WtAt B b (.pointer none) s w ∨ WtAt B b (.pointer (some ⟨b, 0, none⟩)) s w
theorem Wt.at {B b : Nat} {s : Ws} {w : World} (h : Wt B b s w) : ∃ p, WtAt B b p s w := h.elim (fun h => ⟨_, h⟩) (fun h => ⟨_, h⟩)
/-- What stays: all below B, and above it all but the writer and rows of bytes. -/
def Fr (B b : Nat) (w w' : World) : Prop := Below B w w' ∧ Lib.OthersKept 5 (some b) w w'
theorem Fr.refl (B b : Nat) (w : World) : Fr B b w w := ⟨Below.refl _ _, Lib.OthersKept.refl _ _ _⟩
theorem Fr.trans {B b : Nat} {a c d : World} (h : Fr B b a c) (k : Fr B b c d) : Fr B b a d := ⟨h.1.trans k.1, h.2.trans k.2⟩
theorem fr_set {B b : Nat} {a w : World} (h : Fr B b a w) (hB : B ≤ b) (i : Nat) (v : Value) : Fr B b a (w.setCell ⟨b, i, none⟩ v) := ⟨h.1.setCell (p := ⟨b, i, none⟩) hB _, h.2.setCell ⟨b, i, none⟩ rfl _⟩
theorem WtAt.lt {B b : Nat} {p : Value} {s : Ws} {w : World} (h : WtAt B b p s w) : b < w.heap.size := by
 obtain ⟨_, v, hb, _⟩ := h
 exact heap_lt hb
/-- A cell of the writer's is set. -/
theorem own_set {B b : Nat} {w : World} {v : Value} {n : Nat} {xs : List Value} (hown : w.ownsRow B 5 1 v n xs) (hne : v.ownBlock ≠ some b) (i : Nat) (q : Value) : (w.setCell ⟨b, i, none⟩ q).ownsRow B 5 1 v n xs :=
 hown.kept (row := some b) ⟨rfl, rfl, rfl, by simp [World.setCell], fun k _ hk => Below.heap_setCell _ _ _ _ (fun e => hk (by simp [e]))⟩ (Or.inr hne)
theorem WtAt.used {B b : Nat} {p : Value} {s : Ws} {w : World} (h : WtAt B b p s w) (q : Value) : WtAt B b q s (w.setCell ⟨b, 0, none⟩ q) := by
 obtain ⟨hB, v, hb, hown, hne⟩ := h
 exact ⟨hB, v, by simp [World.setCell, Array.getElem?_modify, hb], own_set hown hne _ _, hne⟩
theorem WtAt.far {B b : Nat} {p : Value} {s : Ws} {w : World} (h : WtAt B b p s w) : WtAt B b p { s with fr := true } (w.setCell ⟨b, 3, none⟩ (.bool true)) := by
 obtain ⟨hB, v, hb, hown, hne⟩ := h
 exact ⟨hB, v, by simp [World.setCell, Array.getElem?_modify, hb], own_set hown hne _ _, hne⟩
theorem WtAt.many {B b : Nat} {p : Value} {s : Ws} {w : World} (h : WtAt B b p s w) : WtAt B b p { s with mn := true } (w.setCell ⟨b, 2, none⟩ (.bool true)) := by
 obtain ⟨hB, v, hb, hown, hne⟩ := h
 exact ⟨hB, v, by simp [World.setCell, Array.getElem?_modify, hb], own_set hown hne _ _, hne⟩
theorem WtAt.put {B b : Nat} {p v v' : Value} {l : List UInt8} {m f : Bool} {w : World} (hB : B ≤ b) (hb : w.heap[b]? = some (.cells #[p, v, .bool m, .bool f] 53 (0, 0))) (hown : w.ownsRow B 5 1 v' l.length (Lib.byteCells l)) :
    WtAt B b p ⟨l, m, f⟩ (w.setCell ⟨b, 1, none⟩ v') := by
 have hne := Lib.ownBlock_ne hown hb (by decide)
 exact ⟨hB, v', by simp [World.setCell, Array.getElem?_modify, hb], own_set hown hne _ _, hne⟩
/-- Over a world that leaves b alone, and its bytes. -/
theorem Wt.below {B b : Nat} {s : Ws} {w w' : World} (h : Wt B b s w) (hb : Below w.heap.size w w') : Wt B b s w' := by
 have one : ∀ p, WtAt B b p s w → WtAt B b p s w' := fun p ⟨hB, v, h1, h2, h3⟩ => ⟨hB, v, (hb.block b (heap_lt h1)).trans h1, Pp.own_below h2 hb, h3⟩
 exact h.elim (fun h => Or.inl (one _ h)) (fun h => Or.inr (one _ h))
theorem fr_below {B b : Nat} {w w' : World} (h : Below w.heap.size w w') (hB : B ≤ w.heap.size) : Fr B b w w' :=
 ⟨h.mono hB, fun k o hk _ _ => (h.block k (heap_lt hk)).trans hk⟩
set_option maxHeartbeats 1000000 in
set_option maxRecDepth 100000 in
theorem cc_used (b : Nat) (w : World) (h0 : w.cell? ⟨b, 0, none⟩ = some (.pointer (some ⟨b, 0, none⟩))) :
    Calls Tryd.prog 75 #[.pointer (some ⟨b, 0, none⟩)] w fun e w' => e = .returned (.tuple #[]) ∧ w' = w := by
 obtain ⟨j, hj, _⟩ : ∃ j, Tryd.prog.info? 51 = some j ∧ j.size = 2 := Option.map_eq_some_iff.1 (by kernel_rfl)
 go_enter Tryd.func75, Tryd.ntmps75
 go_wp2
 rw [Lib.run_neq_ptr_same w _ Tryd.underlying48 hj]
 go_wp2
 go_end0
 exact ⟨rfl, rfl⟩
set_option maxHeartbeats 1000000 in
set_option maxRecDepth 100000 in
theorem cc_fresh (b : Nat) (w : World) (h0 : w.cell? ⟨b, 0, none⟩ = some (.pointer none)) (hsh : w.shape? b = some (53, 4)) (hfz : w.frozen? ⟨b, 0, none⟩ = false) :
    Calls Tryd.prog 75 #[.pointer (some ⟨b, 0, none⟩)] w fun e w' => e = .returned (.tuple #[]) ∧ w' = w.setCell ⟨b, 0, none⟩ (.pointer (some ⟨b, 0, none⟩)) := by
 obtain ⟨j, hj, hjs⟩ : ∃ j, Tryd.prog.info? 51 = some j ∧ j.size = 2 := Option.map_eq_some_iff.1 (by kernel_rfl)
 go_enter Tryd.func75, Tryd.ntmps75
 go_wp2
 rw [Lib.run_to_unsafe w ⟨b, 0, none⟩ Tryd.underlying48 Tryd.underlying117 hj (by rw [hjs]; decide) hsh (Nat.zero_lt_succ 3)]
 simp only [Result.andThen]
 rw [Oper.upon_value]
 go_wp2
 rw [run_callFunc_extern Tryd.func81 (by kernel_rfl) (by kernel_rfl) (by kernel_rfl) (e := Extern.AbiNoEscape.same) (by kernel_rfl)]
 rw [Lib.run_noEscape]
 simp only [Result.andThen]
 rw [Oper.upon_value]
 go_wp2
 rw [Lib.run_from_unsafe w ⟨b, 0, none⟩ Tryd.underlying117 Tryd.underlying48 hj hsh (by kernel_rfl)]
 simp only [Result.andThen]
 rw [Oper.upon_value]
 go_wp2
 go_end0
 exact ⟨rfl, rfl⟩
theorem copyCheck_any (B b : Nat) (s : Ws) (w : World) (h : Wt B b s w) :
    Calls Tryd.prog 75 #[.pointer (some ⟨b, 0, none⟩)] w fun e w' => e = .returned (.tuple #[]) ∧ WtAt B b (.pointer (some ⟨b, 0, none⟩)) s w' ∧ Fr B b w w' := by
 rcases h with h | h
 · have h' := h
   obtain ⟨hB, v, hb, _⟩ := h'
   refine (cc_fresh b w (by rw [Lib.cell_of_heap hb]; rfl) (by simp [World.shape?, hb]) (Lib.frozen_of_heap hb 0)).mono ?_
   rintro e w' ⟨rfl, rfl⟩
   exact ⟨rfl, h.used _, fr_set (Fr.refl _ _ _) hB _ _⟩
 · have h' := h
   obtain ⟨hB, v, hb, _⟩ := h'
   refine (cc_used b w (by rw [Lib.cell_of_heap hb]; rfl)).mono ?_
   rintro e w' ⟨rfl, rfl⟩
   exact ⟨rfl, h, Fr.refl _ _ _⟩
set_option maxHeartbeats 2000000 in
theorem writeByte_any (B b : Nat) (s : Ws) (c : UInt8) (w : World) (h : Wt B b s w) (hlen : s.l.length + 1 ≤ 140737488355328) (hBw : B ≤ w.heap.size) :
    Calls Tryd.prog 49 #[.pointer (some ⟨b, 0, none⟩), .int .u8 c.toNat] w fun e w' => e = .returned .nilIface ∧ WtAt B b (.pointer (some ⟨b, 0, none⟩)) { s with l := s.l ++ [c] } w' ∧ Fr B b w w' := by
 obtain ⟨i0, hi, hz0, hz1, hz2⟩ := info_parts (show (Tryd.prog.info? 5).map (fun i => (i.zero, i.size, i.bytes)) = some (some (.int .u8 0), 1, 1) by kernel_rfl)
 have hcc := copyCheck_any B b s w h
 obtain ⟨l, m, f⟩ := s
 go_enter Tryd.func49, Tryd.ntmps49
 go_wp2_with fail
 refine hcc.mono ?_
 rintro e w1 ⟨rfl, h1, hb1, hk1⟩
 obtain ⟨hB, v, hbk, hown, hne⟩ := h1
 have c0 : w1.cell? ⟨b, 0, none⟩ = some (.pointer (some ⟨b, 0, none⟩)) := by rw [Lib.cell_of_heap hbk]; rfl
 have c1 : w1.cell? ⟨b, 1, none⟩ = some v := by rw [Lib.cell_of_heap hbk]; rfl
 go_wp2_with (at_builtin; refine wpList_append_own _ rfl _ _ 49 rfl B 5 i0 (.int .u8 0) 1 1 Tryd.underlying49 hi hz0 hz1 hz2 rfl (by decide) _ _ _ rfl (hown.alloc _) ⟨w1.heap.size, 0, none⟩ 1 1 [.int .u8 c.toNat] rfl rfl ?c1 ?c2 ?c3 ?c4 ?c5 ?_)
 case c1 =>
  intro j u hj
  match j, hj with
  | 0, hj => simp at hj; subst hj; simp [Addr.add]
 case c2 => intro u hu; simp at hu; subst hu; rfl
 case c3 => unfold maxLen; have : l.length + 1 ≤ 140737488355328 := hlen; omega
 case c4 => have : l.length + 1 ≤ 140737488355328 := hlen; omega
 case c5 => have := hb1.size; simp; omega
 intro v' w2 hown' hgrow _
 have hlt : b < w1.heap.size := heap_lt hbk
 have hb2 : w2.heap[b]? = some (.cells #[.pointer (some ⟨b, 0, none⟩), v, .bool m, .bool f] 53 (0, 0)) := by
  rw [hgrow.block b (by simp; omega) (fun e => hne e.symm), Lib.alloc_old w1 _ b hlt]
  exact hbk
 have d0 : w2.cell? ⟨b, 0, none⟩ = some (.pointer (some ⟨b, 0, none⟩)) := by rw [Lib.cell_of_heap hb2]; rfl
 have d1 : w2.cell? ⟨b, 1, none⟩ = some v := by rw [Lib.cell_of_heap hb2]; rfl
 have f1 : w2.frozen? ⟨b, 1, none⟩ = false := Lib.frozen_of_heap hb2 1
 have e1 : (Lib.byteCells l ++ [Value.int .u8 c.toNat]) = Lib.byteCells (l ++ [c]) := by simp [Lib.byteCells]
 obtain ⟨g, cap, rfl⟩ : ∃ g cap, v' = .slice (some ⟨g, 0, none⟩) (l.length + 1) cap := by
  rcases hown'.2 with ⟨_, h0⟩ | ⟨g, cap, cur, hv, _⟩
  · omega
  · exact ⟨g, cap, hv⟩
 go_wp2
 go_ret
 refine ⟨rfl, ?_, ?_, ((hk1.alloc _).grown hgrow (Lib.ownsRow_kind (hown.alloc _))).setCell ⟨b, 1, none⟩ rfl _⟩
 · exact WtAt.put hB hb2 (by rw [← e1]; simpa using hown')
 · exact ((hb1.alloc (by have := hb1.size; omega) _).grown hgrow (by have := hb1.size; simp; omega) (fun k hk => (hown.lt k hk).1)).setCell (p := ⟨b, 1, none⟩) hB _
set_option maxHeartbeats 2000000 in
theorem writeString_any (B b : Nat) (s : Ws) (x : ByteArray) (w : World) (h : Wt B b s w) (hlen : s.l.length + x.size ≤ 140737488355328) (hBw : B ≤ w.heap.size) :
    Calls Tryd.prog 47 #[.pointer (some ⟨b, 0, none⟩), .string x] w fun e w' => e = .returned (.tuple #[.int .i64 x.size, .nilIface]) ∧ WtAt B b (.pointer (some ⟨b, 0, none⟩)) { s with l := s.l ++ x.data.toList } w' ∧ Fr B b w w' := by
 obtain ⟨i0, hi, hz0, hz1, hz2⟩ := info_parts (show (Tryd.prog.info? 5).map (fun i => (i.zero, i.size, i.bytes)) = some (some (.int .u8 0), 1, 1) by kernel_rfl)
 have hcc := copyCheck_any B b s w h
 obtain ⟨l, m, f⟩ := s
 go_enter Tryd.func47, Tryd.ntmps47
 go_wp2_with fail
 refine hcc.mono ?_
 rintro e w1 ⟨rfl, h1, hb1, hk1⟩
 obtain ⟨hB, v, hbk, hown, hne⟩ := h1
 have c0 : w1.cell? ⟨b, 0, none⟩ = some (.pointer (some ⟨b, 0, none⟩)) := by rw [Lib.cell_of_heap hbk]; rfl
 have c1 : w1.cell? ⟨b, 1, none⟩ = some v := by rw [Lib.cell_of_heap hbk]; rfl
 go_wp2_with (at_builtin; refine Lib.wpList_append_own_string _ rfl _ _ 49 9 rfl B 5 i0 Tryd.underlying49 Tryd.underlying9 hi hz0 hz1 hz2 _ _ _ rfl hown x rfl ?c3 ?c4 ?c5 ?_)
 case c3 => unfold maxLen; have : l.length + x.size ≤ 140737488355328 := hlen; omega
 case c4 => have : l.length + x.size ≤ 140737488355328 := hlen; omega
 case c5 => have := hb1.size; omega
 intro v' w2 hown' hgrow _
 have hlt : b < w1.heap.size := heap_lt hbk
 have hb2 : w2.heap[b]? = some (.cells #[.pointer (some ⟨b, 0, none⟩), v, .bool m, .bool f] 53 (0, 0)) := by
  rw [hgrow.block b hlt (fun e => hne e.symm)]
  exact hbk
 have d0 : w2.cell? ⟨b, 0, none⟩ = some (.pointer (some ⟨b, 0, none⟩)) := by rw [Lib.cell_of_heap hb2]; rfl
 have d1 : w2.cell? ⟨b, 1, none⟩ = some v := by rw [Lib.cell_of_heap hb2]; rfl
 have f1 : w2.frozen? ⟨b, 1, none⟩ = false := Lib.frozen_of_heap hb2 1
 have e1 : Lib.byteCells l ++ Lib.strCells x = Lib.byteCells (l ++ x.data.toList) := by simp [Lib.byteCells, Lib.strCells]
 obtain ⟨ao, n', cap, rfl⟩ : ∃ ao n' cap, v' = .slice ao n' cap := by
  rcases hown'.2 with ⟨hv, _⟩ | ⟨g, cap, cur, hv, _⟩
  · exact ⟨_, _, _, hv⟩
  · exact ⟨_, _, _, hv⟩
 go_wp2
 go_ret2
 refine ⟨rfl, ?_, ?_, (hk1.grown hgrow (Lib.ownsRow_kind hown)).setCell ⟨b, 1, none⟩ rfl _⟩
 · exact WtAt.put hB hb2 (by rw [← e1]; simpa [Lib.strCells_length] using hown')
 · exact (hb1.grown hgrow (by have := hb1.size; omega) (fun k hk => (hown.lt k hk).1)).setCell (p := ⟨b, 1, none⟩) hB _
set_option maxHeartbeats 1000000 in
theorem string_any (B b : Nat) (s : Ws) (w : World) (h : Wt B b s w) (h0 : s.l ≠ []) :
    Calls Tryd.prog 53 #[.pointer (some ⟨b, 0, none⟩)] w fun e w' => e = .returned (.string ⟨s.l.toArray⟩) ∧ Below B w w' := by
 obtain ⟨p, hB, v, hbk, hown, hne⟩ := h.at
 obtain ⟨l, m, f⟩ := s
 simp only at hbk hown h0 ⊢
 have hl0 : l.length ≠ 0 := by simpa using h0
 obtain ⟨g, cap, cur, rfl, hbg, hg, hnc, hcm, hcs, htake⟩ : ∃ g cap cur, v = .slice (some ⟨g, 0, none⟩) l.length cap ∧ B ≤ g ∧ w.heap[g]? = some (.cells cur 5 (0, 0)) ∧ l.length ≤ cap ∧ cap ≤ maxLen ∧ cur.size = cap * 1 ∧ cur.toList.take (l.length * 1) = Lib.byteCells l := by
  rcases hown.2 with ⟨_, hz⟩ | ⟨g, cap, cur, hv, r⟩
  · exact absurd hz hl0
  · exact ⟨g, cap, cur, hv, r⟩
 have c1 : w.drew.cell? ⟨b, 1, none⟩ = some (.slice (some ⟨g, 0, none⟩) l.length cap) := by
  have : w.drew.heap[b]? = some (.cells #[p, .slice (some ⟨g, 0, none⟩) l.length cap, .bool m, .bool f] 53 (0, 0)) := hbk
  rw [Lib.cell_of_heap this]; rfl
 have hSD : (Builtin.unsafeSliceData_ #[49] 115 #[.slice (some ⟨g, 0, none⟩) l.length cap]).run Tryd.prog w.drew = .ok (.pointer (some ⟨g, 0, none⟩)) w.drew :=
  Lib.run_unsafeSliceData_row _ _ _ _ _ _ (by omega)
 have hUS : (Builtin.unsafeString_ #[115, 3] 9 #[.pointer (some ⟨g, 0, none⟩), .int .i64 l.length]).run Tryd.prog w.drew = .ok (.string ⟨l.toArray⟩) (w.drew.freeze ⟨g, 0, none⟩ l.length) := by
  refine Lib.run_unsafeString_row w.drew 115 3 9 5 Tryd.underlying115 (by kernel_rfl) g cur.size (by have hg' : w.drew.heap[g]? = some (.cells cur 5 (0, 0)) := hg; simp [World.shape?, hg']) l h0 (by omega) (by unfold maxLen at hcm; omega) ?_
  intro j x hx
  have := hown.cells (g := g) rfl j (.int .u8 x.toNat) (by simp [Lib.byteCells, hx])
  exact this
 go_enter Tryd.func53, Tryd.ntmps53
 go_wp2
 go_region
 all_goals (go_wp2; go_ret; exact ⟨rfl, Lib.below_freeze (Below.drew (Below.refl B w)) (p := ⟨g, 0, none⟩) hbg _⟩)
def PowTab (W : World) : Prop := Lib.TabIs Tryd.prog W "internal/strconv.uint64pow10" .u64 Lib.pow10Tab
theorem Tryd.powAt : Tryd.prog.globalNamed "internal/strconv.uint64pow10" = some 3 := by kernel_rfl
theorem PowTab.belowB {B : Nat} {W W' : World} (h : PowTab W) (h3 : 3 < B) (hb : Below B W W') : PowTab W' := by
 unfold PowTab Lib.TabIs World.var? at h ⊢
 rw [Tryd.powAt] at h ⊢
 simp only [Option.bind_some] at h ⊢
 rw [hb.block 3 h3]
 exact h
theorem below_drewN (W : World) (B k : Nat) : Below B W (W.drewN k) := ⟨rfl, rfl, rfl, Nat.le_refl _, fun _ _ => rfl⟩
theorem itoaX {n : Int} (h : I64 n) (W : World) (ht : PowTab W) : Calls Tryd.prog 48 #[.int .i64 n] W fun e w' => e = .returned (.string ⟨(Lib.itoa n).toArray⟩) ∧ Below W.heap.size W w' := by
 refine (Tryd.strconv_Itoa n h.1 h.2 W ht).mono ?_
 rintro e w' ⟨rfl, k, os, rfl⟩
 have hd := below_drewN W W.heap.size k
 exact ⟨rfl, hd.os, hd.tape, hd.output, by show _ ≤ (_ ++ os).size; rw [Array.size_append]; have := hd.size; omega, fun j hj => by
  show ((W.drewN k).heap ++ os)[j]? = _
  rw [Array.getElem?_append_left (Nat.lt_of_lt_of_le hj hd.size)]
  exact hd.block j hj⟩
theorem isNear_any (n : Int) (w : World) : Calls Tryd.prog 46 #[.int .i64 n] w fun e w' => e = .returned (.bool (Wr.near n)) ∧ w' = w := by
 by_cases h1 : -1099511627776 ≤ n
 · by_cases h2 : n ≤ 1099511627776
   · go_enter Tryd.func46, Tryd.ntmps46
     go_wp2
     go_ret
     exact ⟨by simp [Wr.near, h1, h2], rfl⟩
   · go_enter Tryd.func46, Tryd.ntmps46
     go_wp2
     go_ret
     exact ⟨by simp [Wr.near, h1, h2], rfl⟩
 · go_enter Tryd.func46, Tryd.ntmps46
   go_wp2
   go_ret
   exact ⟨by simp [Wr.near]; intro h; omega, rfl⟩
set_option maxHeartbeats 1000000 in
theorem wnum_any (B b : Nat) (s : Ws) (n : Int) (w : World) (h : Wt B b s w) (hn : I64 n) (hlen : s.l.length ≤ 1000000000) (h3 : 3 < B) (ht : PowTab w) :
    Calls Tryd.prog 20 #[.pointer (some ⟨b, 0, none⟩), .int .i64 n] w fun e w' => e = .returned (.tuple #[]) ∧ Wt B b (Wr.num s n) w' ∧ Fr B b w w' := by
 have hlt : b < w.heap.size := by obtain ⟨p, hp⟩ := h.at; exact hp.lt
 have hB : B ≤ b := by obtain ⟨p, hp, _⟩ := h.at; exact hp
 have hBw : B ≤ w.heap.size := by omega
 have hil := Wr.itoa_len hn
 have hsz : (⟨(Lib.itoa n).toArray⟩ : ByteArray).size = (Lib.itoa n).length := by simp [ByteArray.size]
 cases hq : Wr.near n with
 | true =>
  have hN := isNear_any n w
  rw [hq] at hN
  have e2 : (⟨(s.l ++ Lib.itoa n) ++ [59], s.mn, s.fr⟩ : Ws) = Wr.num s n := by simp [Wr.num, hq]
  have h2 : Wt B b s w := h
  have hf2 : Fr B b w w := Fr.refl _ _ _
  have hlen2 : s.l.length ≤ 1000000000 := hlen
  clear h
  have E2 := hid e2
  clear e2
  go_enter Tryd.func20, Tryd.ntmps20
  go_wp2_with fail
  refine hN.mono ?_
  rintro e w1 ⟨rfl, hw1⟩
  rw [hw1]
  clear hw1
  go_wp2_with fail
  have hB2 : B ≤ w.heap.size := Nat.le_trans hBw hf2.1.size
  have hlt2 : b < w.heap.size := by obtain ⟨p, hp⟩ := h2.at; exact hp.lt
  have hdr : Below w.heap.size w w.drew := (Below.refl _ _).drew
  have ht2 : PowTab w.drew := ht.belowB h3 (hf2.1.drew)
  clear ht
  go_region_with (first
   | (go_at_call 48; refine (itoaX hn _ ht2).mono ?_; rintro e w3 ⟨rfl, hb3⟩)
   | (go_at_call 47; refine (writeString_any B b s ⟨(Lib.itoa n).toArray⟩ w3 ((h2.below hdr).below hb3) (by rw [hsz]; omega) (Nat.le_trans hB2 hb3.size)).mono ?_; rintro e w4 ⟨rfl, h4, hf4⟩))
  all_goals
   go_wp2_with fail
   refine (writeByte_any B b _ 59 _ (Or.inr h4) (by show (s.l ++ (Lib.itoa n)).length + 1 ≤ _; rw [List.length_append]; omega) (Nat.le_trans hB2 (Nat.le_trans hb3.size hf4.1.size))).mono ?_
   rintro e w5 ⟨rfl, h5, hf5⟩
   go_wp2_with fail
   go_end0
   refine ⟨rfl, Or.inr ?_, hf2.trans ((fr_below (below_tr hdr hb3) hB2).trans (hf4.trans hf5))⟩
   rw [← E2.out]
   exact h5
 | false =>
  have hN := isNear_any n w
  rw [hq] at hN
  obtain ⟨p, hp⟩ := h.at
  obtain ⟨s2, hs2⟩ : ∃ s2 : Ws, s2 = { s with fr := true } := ⟨_, rfl⟩
  obtain ⟨w2, hw2⟩ : ∃ w2, w2 = w.setCell ⟨b, 3, none⟩ (.bool true) := ⟨_, rfl⟩
  have HW2 := hid hw2
  have HS2 := hid hs2
  have e2 : (⟨(s2.l ++ Lib.itoa n) ++ [59], s2.mn, s2.fr⟩ : Ws) = Wr.num s n := by rw [hs2]; simp [Wr.num, hq]
  have h2 : Wt B b s2 w2 := by rw [hs2, hw2]; exact h.elim (fun h => Or.inl h.far) (fun h => Or.inr h.far)
  have hf2 : Fr B b w w2 := by rw [hw2]; exact fr_set (Fr.refl _ _ _) hB _ _
  have hlen2 : s2.l.length ≤ 1000000000 := by rw [hs2]; exact hlen
  obtain ⟨_, v, hbk, _, _⟩ := hp
  have c3 : w.cell? ⟨b, 3, none⟩ = some (.bool s.fr) := by rw [Lib.cell_of_heap hbk]; rfl
  have f3 : w.frozen? ⟨b, 3, none⟩ = false := Lib.frozen_of_heap hbk 3
  clear h hbk hw2 hs2
  have E2 := hid e2
  clear e2
  go_enter Tryd.func20, Tryd.ntmps20
  go_wp2_with fail
  refine hN.mono ?_
  rintro e w1 ⟨rfl, hw1⟩
  rw [hw1]
  clear hw1
  go_wp2_with fail
  rw [← HW2.out]
  clear c3 f3
  have hB2 : B ≤ w2.heap.size := Nat.le_trans hBw hf2.1.size
  have hlt2 : b < w2.heap.size := by obtain ⟨p, hp⟩ := h2.at; exact hp.lt
  have hdr : Below w2.heap.size w2 w2.drew := (Below.refl _ _).drew
  have ht2 : PowTab w2.drew := ht.belowB h3 (hf2.1.drew)
  clear ht
  go_region_with (first
   | (go_at_call 48; refine (itoaX hn _ ht2).mono ?_; rintro e w3 ⟨rfl, hb3⟩)
   | (go_at_call 47; refine (writeString_any B b s2 ⟨(Lib.itoa n).toArray⟩ w3 ((h2.below hdr).below hb3) (by rw [hsz]; omega) (Nat.le_trans hB2 hb3.size)).mono ?_; rintro e w4 ⟨rfl, h4, hf4⟩))
  all_goals
   go_wp2_with fail
   refine (writeByte_any B b _ 59 _ (Or.inr h4) (by show (s2.l ++ (Lib.itoa n)).length + 1 ≤ _; rw [List.length_append]; omega) (Nat.le_trans hB2 (Nat.le_trans hb3.size hf4.1.size))).mono ?_
   rintro e w5 ⟨rfl, h5, hf5⟩
   go_wp2_with fail
   go_end0
   refine ⟨rfl, Or.inr ?_, hf2.trans ((fr_below (below_tr hdr hb3) hB2).trans (hf4.trans hf5))⟩
   rw [← E2.out]
   exact h5
/-- What each of the writer's calls needs, and what it keeps. -/
theorem Wt.B {B b : Nat} {s : Ws} {w : World} (h : Wt B b s w) : B ≤ b := by obtain ⟨p, hp, _⟩ := h.at; exact hp
theorem Wt.lt {B b : Nat} {s : Ws} {w : World} (h : Wt B b s w) : b < w.heap.size := by obtain ⟨p, hp⟩ := h.at; exact hp.lt
theorem Wr.num_len {s : Ws} {n : Int} (h : I64 n) : (Wr.num s n).l.length ≤ s.l.length + 21 := by
 have := Wr.itoa_len h
 simp only [Wr.num, List.length_append, List.length_cons, List.length_nil]; omega
theorem Wr.txt_len {s : Ws} {x : ByteArray} : (Wr.txt s x).l.length ≤ s.l.length + 1021 := by
 unfold Wr.txt
 split
 · simp [Wr.much]
 · rename_i h
   have h1 : (Wr.num s x.size).l.length ≤ s.l.length + 21 := Wr.num_len ⟨by omega, by omega⟩
   have h2 : x.data.toList.length = x.size := by rw [Array.length_toList]; rfl
   simp only [List.length_append]; omega
theorem Wr.put_len {s : Ws} {x : Wr.It} (h : x.wf) : (Wr.put s x).l.length ≤ s.l.length + 1021 := by
 cases x with
 | n i => have := Wr.num_len (s := s) h; show (Wr.num s i).l.length ≤ _; omega
 | t x => exact Wr.txt_len
 | big => show s.l.length ≤ _; omega
theorem Wr.run_len : ∀ (l : List Wr.It) (s : Ws), (∀ x ∈ l, x.wf) → (Wr.run s l).l.length ≤ s.l.length + 1021 * l.length
 | [], s, _ => by simp [Wr.run]
 | x :: l, s, h => by
  have h1 := Wr.put_len (s := s) (h x (by simp))
  have h2 := Wr.run_len l (Wr.put s x) (fun y hy => h y (by simp [hy]))
  rw [Wr.run_cons, List.length_cons]; omega
set_option maxHeartbeats 1000000 in
theorem wcount_any (B b : Nat) (s : Ws) (n m : Int) (w : World) (h : Wt B b s w) (hn : I64 n) (hlen : s.l.length ≤ 1000000000) (h3 : 3 < B) (ht : PowTab w) :
    Calls Tryd.prog 77 #[.pointer (some ⟨b, 0, none⟩), .int .i64 n, .int .i64 m] w fun e w' => e = .returned (.bool (decide (n ≤ m))) ∧ Wt B b (if n ≤ m then Wr.num s n else Wr.much s) w' ∧ Fr B b w w' := by
 by_cases hc : n ≤ m
 · rw [if_pos hc]
   have hN := wnum_any B b s n w h hn hlen h3 ht
   have hc' : ¬ n > m := by omega
   go_enter Tryd.func77, Tryd.ntmps77
   go_wp2_with fail
   refine hN.mono ?_
   rintro e w1 ⟨rfl, h1, hf1⟩
   go_wp2_with fail
   go_ret
   exact ⟨by simp [hc], h1, hf1⟩
 · rw [if_neg hc]
   have hB := h.B
   have h2 : Wt B b (Wr.much s) (w.setCell ⟨b, 2, none⟩ (.bool true)) := h.elim (fun h => Or.inl h.many) (fun h => Or.inr h.many)
   obtain ⟨p, _, v, hbk, _, _⟩ := h.at
   have c3 : w.cell? ⟨b, 2, none⟩ = some (.bool s.mn) := by rw [Lib.cell_of_heap hbk]; rfl
   have f3 : w.frozen? ⟨b, 2, none⟩ = false := Lib.frozen_of_heap hbk 2
   have hc' : m < n := by omega
   clear hbk
   go_enter Tryd.func77, Tryd.ntmps77
   go_wp2_with fail
   go_ret
   exact ⟨by simp [hc'], h2, fr_set (Fr.refl _ _ _) hB _ _⟩
theorem PowTab.fr {B b : Nat} {W W' : World} (h : PowTab W) (h3 : 3 < B) (hb : Fr B b W W') : PowTab W' := h.belowB h3 hb.1
set_option maxHeartbeats 1000000 in
theorem wtext_any (B b : Nat) (s : Ws) (x : ByteArray) (w : World) (h : Wt B b s w) (hlen : s.l.length ≤ 1000000000) (h3 : 3 < B) (ht : PowTab w) (hx : (x.size : Int) ≤ 9223372036854775807) :
    Calls Tryd.prog 50 #[.pointer (some ⟨b, 0, none⟩), .string x] w fun e w' => e = .returned (.tuple #[]) ∧ Wt B b (Wr.txt s x) w' ∧ Fr B b w w' := by
 have hB := h.B
 have hlt := h.lt
 have hC := wcount_any B b s x.size 1000 w h ⟨by omega, hx⟩ hlen h3 ht
 by_cases hc : (x.size : Int) ≤ 1000
 · rw [if_pos hc, decide_eq_true hc] at hC
   have hl := Wr.num_len (s := s) (n := x.size) ⟨by omega, hx⟩
   go_enter Tryd.func50, Tryd.ntmps50
   go_wp2_with fail
   refine hC.mono ?_
   rintro e w1 ⟨rfl, h1, hf1⟩
   go_wp2_with fail
   refine (writeString_any B b _ x w1 h1 (by omega) (by have := hf1.1.size; omega)).mono ?_
   rintro e w2 ⟨rfl, h2, hf2⟩
   go_wp2_with fail
   go_end0
   exact ⟨rfl, Or.inr (by rw [Wr.txt, if_neg (by omega)]; exact h2), hf1.trans hf2⟩
 · rw [if_neg hc, decide_eq_false hc] at hC
   go_enter Tryd.func50, Tryd.ntmps50
   go_wp2_with fail
   refine hC.mono ?_
   rintro e w1 ⟨rfl, h1, hf1⟩
   go_wp2_with fail
   go_end0
   exact ⟨rfl, by rw [Wr.txt, if_pos (by omega)]; exact h1, hf1⟩
set_option maxHeartbeats 1000000 in
theorem wyes_any (B b : Nat) (s : Ws) (x : Bool) (w : World) (h : Wt B b s w) (hlen : s.l.length ≤ 1000000000) (h3 : 3 < B) (ht : PowTab w) :
    Calls Tryd.prog 62 #[.pointer (some ⟨b, 0, none⟩), .bool x] w fun e w' => e = .returned (.tuple #[]) ∧ Wt B b (Wr.num s (if x = true then 1 else 0)) w' ∧ Fr B b w w' := by
 cases x with
 | true =>
  have hN := wnum_any B b s 1 w h ⟨by omega, by omega⟩ hlen h3 ht
  go_enter Tryd.func62, Tryd.ntmps62
  go_wp2_with fail
  refine hN.mono ?_
  rintro e w1 ⟨rfl, h1, hf1⟩
  go_wp2_with fail
  go_end0
  exact ⟨rfl, h1, hf1⟩
 | false =>
  have hN := wnum_any B b s 0 w h ⟨by omega, by omega⟩ hlen h3 ht
  go_enter Tryd.func62, Tryd.ntmps62
  go_wp2_with fail
  refine hN.mono ?_
  rintro e w1 ⟨rfl, h1, hf1⟩
  go_wp2_with fail
  go_end0
  exact ⟨rfl, h1, hf1⟩
end Go.Proofs.YthgjdgpjkcmcdaaDoor
