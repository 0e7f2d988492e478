/- What tree.apply answers, where a folder is made or a file is written at a path at which nothing is, and nothing stands against it. -/
import Derived.Test.YtagdilnbbepccabT9
set_option linter.unusedSimpArgs false
set_option linter.unusedVariables false
namespace Go.Proofs.Ytagdilnbbepccab
open Go.RowKit

/-- A change that nothing in a tree stands against. -/
structure Fits (L : List En) (k : Int) (p t : ByteArray) (b n : Int) : Prop where
  kind : Plain k t
  size : p.size ≤ 1000000000000000
  path : Pp.chk p.data.toList = 0
  text : t.size ≤ 300
  base1 : -1 ≤ b
  base2 : b ≤ 1000000
  vers : Pp.verE n = 0
  folder : Pp.foldE L (Pp.par p.data.toList) = 0
  nowhere : L.find? (Pp.atB p.data.toList) = none
  fresh : b = -1 ∨ L.find? (Pp.stB p.data.toList b) = none
  room : L.length ≤ 60
  room2 : ¬ 60 < (Pp.out (made k p t n) L).length + 1
  sorted : L.Pairwise (fun x y => Pp.lt x y = true)

/-- What comes of it. -/
def after (L : List En) (k : Int) (p t : ByteArray) (n : Int) : List En := Pp.ins (made k p t n) (Pp.out (made k p t n) L)

set_option maxHeartbeats 800000 in
theorem apply_ok (L : List En) (v : Value) (k : Int) (p t : ByteArray) (b n : Int) (w : World) (hv : Lies w v L) (hs : Sized L) (h : Fits L k p t b n) :
    Calls Try.prog 38 #[v, .agg #[.int .i64 k, .string p, .string ⟨#[]⟩, .string t, .int .i64 b], .int .i64 n] w fun e w' => ∃ u, e = .returned (.tuple #[u, .int .i64 0]) ∧ Lies w' u (after L k p t n) ∧ Below w.heap.size w w' := by
  have HV : Hid (Lies w v L) := hv
  have HS : Hid (Sized L) := hs
  have HF : Hid (Fits L k p t b n) := h
  clear hv hs h
  go_enter Try.func38, Try.ntmps38
  go_wp2_with fail
  refine (checkVersion_any n _).mono ?_
  rintro e w1 ⟨rfl, rfl⟩
  rw [HF.out.vers]
  go_wp2_with fail
  refine (checkChange_ok k p t b _ HF.out.kind HF.out.size HF.out.path HF.out.text HF.out.base1 HF.out.base2).mono ?_
  rintro e w2 ⟨rfl, hb2⟩
  obtain ⟨c0, c1, c2, c3, c4, hbw2, hlt2⟩ := box5 hb2
  go_wp2_with fail
  refine (checkPlace_ok L v k p t b _ (HV.out.below hbw2) HS.out HF.out.kind HF.out.size HF.out.path HF.out.folder HF.out.nowhere).mono ?_
  rintro e w3 ⟨rfl, hb3⟩
  have hb03 := hb2.trans (hb3.mono hb2.size)
  clear c0 c1 c2 c3 c4 hbw2 hlt2
  obtain ⟨c0, c1, c2, c3, c4, hbw3, hlt3⟩ := box5 hb03
  clear hb3 hb2
  go_wp2_with fail
  refine (isStale_no L v k p ⟨#[]⟩ t b _ (HV.out.below hbw3) HS.out HF.out.size HF.out.fresh).mono ?_
  rintro e w4 ⟨rfl, hb4⟩
  have hb04 := hb03.trans (hb4.mono hb03.size)
  clear c0 c1 c2 c3 c4 hbw3 hlt3
  obtain ⟨c0, c1, c2, c3, c4, hbw4, hlt4⟩ := box5 hb04
  clear hb03 hb4
  go_wp2_with fail
  refine (changed_ok L v k p t b n _ (HV.out.below hbw4) HF.out.room HS.out HF.out.kind HF.out.size HF.out.sorted HF.out.room2).mono ?_
  rintro e w5 ⟨u, rfl, hli, hb5⟩
  have HLI : Hid (Lies w5 u (after L k p t n)) := hli
  have hb05 := hbw4.trans (hb5.mono (Nat.le_of_lt hlt4))
  clear hb04 hb5 hli c0 c1 c2 c3 c4
  go_wp2
  go_ret2
  exact ⟨u, rfl, HLI.out, hb05⟩
end Go.Proofs.Ytagdilnbbepccab
