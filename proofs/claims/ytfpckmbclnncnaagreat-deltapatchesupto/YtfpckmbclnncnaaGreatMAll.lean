/- What All of changes answers, as plain mathematics: where it stops, its error, what came. What Patch answers, as plain mathematics. What slices.Clone answers at entries: the same, in memory of its own. What tree.Check and Apply answer, for a tree of any length. What delta.Patch answers, for every tree and every list of changes. What is at paths: the maps of package spot, and what it tells of no entry and of one. What package delta answers of no tree and of a tree with one file; and how it begins. What delta.Diff answers of no tree and of a tree with one file; and how delta begins. What the reference's ChangeOf answers, for every change of a tree that passes Check. What the reference's SameEntries and the laws' treeIs answer, of the same trees. What the law DeltaPatches answers: true, for every tree, every list of changes and every version. -/
import Derived.Test.YtfpckmbclnncnaaGreatT24
import Derived.Test.YtfpckmbclnncnaaGreatDIter
import Derived.Test.YtfpckmbclnncnaaGreatT11a
import Derived.StringKeys
import Derived.Deep.AppendLies
import Derived.Deep.RegionHeld3
import Derived.Test.YtfpckmbclnncnaaGreatT30a
import Derived.Test.YtfpckmbclnncnaaGreatT30b
import Derived.Test.YtfpckmbclnncnaaGreatT30c
import Derived.Test.YtfpckmbclnncnaaGreatT34
import Derived.Test.YtfpckmbclnncnaaGreatT35a
import Derived.Test.YtfpckmbclnncnaaGreatT35b
import Derived.Test.YtfpckmbclnncnaaGreatT13
set_option linter.unusedSimpArgs false
set_option linter.unusedVariables false
namespace Go.Proofs.YtfpckmbclnncnaaGreat
open Go.RowKit

namespace Pp
/-- Change by change: how many were made, the error, and what came. -/
def runF (n : Int) : List En → List Ch → Nat × Int × List En
  | T, [] => (0, 0, T)
  | T, c :: r => if appE T c n = 0 then ((runF n (chdR T c n) r).1 + 1, (runF n (chdR T c n) r).2) else (0, appE T c n, [])
/-- What is left to do behind the first changes. -/
def Left (n : Int) (L : List En) (cs : List Ch) (S : List En) (k : Nat) : Prop := runF n L cs = ((runF n S (cs.drop k)).1 + k, (runF n S (cs.drop k)).2)
theorem left_zero (n : Int) (L : List En) (cs : List Ch) : Left n L cs L 0 := rfl
theorem left_next {n : Int} {L : List En} {cs : List Ch} {S : List En} {k : Nat} (h : Left n L cs S k) (hk : k < cs.length) (h0 : appE S cs[k] n = 0) : Left n L cs (chdR S cs[k] n) (k + 1) := by
  rw [Left] at h ⊢
  rw [List.drop_eq_getElem_cons hk, runF, if_pos h0] at h
  rw [h]
  simp only [Prod.mk.injEq, and_true]
  omega
theorem left_stop {n : Int} {L : List En} {cs : List Ch} {S : List En} {k : Nat} (h : Left n L cs S k) (hk : k < cs.length) (h0 : ¬ appE S cs[k] n = 0) : runF n L cs = (k, appE S cs[k] n, []) := by
  rw [Left, List.drop_eq_getElem_cons hk, runF, if_neg h0] at h
  rw [h]; simp
theorem left_end {n : Int} {L : List En} {cs : List Ch} {S : List En} (h : Left n L cs S cs.length) : runF n L cs = (cs.length, 0, S) := by
  rw [Left, List.drop_length, runF] at h
  rw [h]; simp
/-- All: what is wrong with the tree, then how many there are, then change by change. -/
def allE (L : List En) (cs : List Ch) (n : Int) : Int := if ¬ treeE L = 0 then treeE L else if 20 < cs.length then 2 else (runF n L cs).2.1
def allN (L : List En) (cs : List Ch) (n : Int) : Nat := if ¬ treeE L = 0 then 0 else if 20 < cs.length then 0 else (runF n L cs).1
def allR (L : List En) (cs : List Ch) (n : Int) : List En := if ¬ treeE L = 0 then [] else if 20 < cs.length then [] else (runF n L cs).2.2
theorem all_no {L : List En} (h : ¬ treeE L = 0) (cs : List Ch) (n : Int) : allE L cs n = treeE L ∧ allN L cs n = 0 ∧ allR L cs n = [] := ⟨if_pos h, if_pos h, if_pos h⟩
theorem all_many {L : List En} (h : treeE L = 0) {cs : List Ch} (hm : 20 < cs.length) (n : Int) : allE L cs n = 2 ∧ allN L cs n = 0 ∧ allR L cs n = [] :=
  ⟨by rw [allE, if_neg (fun x => x h), if_pos hm], by rw [allN, if_neg (fun x => x h), if_pos hm], by rw [allR, if_neg (fun x => x h), if_pos hm]⟩
theorem all_run {L : List En} (h : treeE L = 0) {cs : List Ch} (hm : ¬ 20 < cs.length) {n : Int} {k : Nat} {e : Int} {R : List En} (hr : runF n L cs = (k, e, R)) : allE L cs n = e ∧ allN L cs n = k ∧ allR L cs n = R :=
  ⟨by rw [allE, if_neg (fun x => x h), if_neg hm, hr], by rw [allN, if_neg (fun x => x h), if_neg hm, hr], by rw [allR, if_neg (fun x => x h), if_neg hm, hr]⟩
end Pp

/-- A change lies at a place: its five cells. -/
def ChAt (w : World) (b o : Nat) (c : Pp.Ch) : Prop := w.cell? ⟨b, o, none⟩ = some (.int .i64 c.k) ∧ w.cell? ⟨b, o + 1, none⟩ = some (.string c.p) ∧ w.cell? ⟨b, o + 2, none⟩ = some (.string c.q) ∧ w.cell? ⟨b, o + 3, none⟩ = some (.string c.t) ∧ w.cell? ⟨b, o + 4, none⟩ = some (.int .i64 c.b)
def LiesC (w : World) (v : Value) (cs : List Pp.Ch) : Prop := ∃ a cap, v = .slice a cs.length cap ∧ cs.length ≤ cap ∧ cs.length ≤ 1000000000000000 ∧ ∀ i (h : i < cs.length), ∃ b o, a = some ⟨b, o, none⟩ ∧ b < w.heap.size ∧ ChAt w b (o + i * 5) cs[i]
theorem ChAt.below {w w' : World} {b o : Nat} {c : Pp.Ch} (h : ChAt w b o c) (hb : b < w.heap.size) (hw : Below w.heap.size w w') : ChAt w' b o c :=
  ⟨(hw.cell (p := ⟨b, o, none⟩) hb).trans h.1, (hw.cell (p := ⟨b, o + 1, none⟩) hb).trans h.2.1, (hw.cell (p := ⟨b, o + 2, none⟩) hb).trans h.2.2.1, (hw.cell (p := ⟨b, o + 3, none⟩) hb).trans h.2.2.2.1, (hw.cell (p := ⟨b, o + 4, none⟩) hb).trans h.2.2.2.2⟩
theorem LiesC.below {w w' : World} {v : Value} {cs : List Pp.Ch} (h : LiesC w v cs) (hw : Below w.heap.size w w') : LiesC w' v cs := by
  obtain ⟨a, cap, hv, h1, h2, h3⟩ := h
  refine ⟨a, cap, hv, h1, h2, fun i hi => ?_⟩
  obtain ⟨b, o, ha, hb, he⟩ := h3 i hi
  exact ⟨b, o, ha, Nat.lt_of_lt_of_le hb hw.size, he.below hb hw⟩
def SizedC (B : Nat) (cs : List Pp.Ch) : Prop := ∀ c ∈ cs, c.p.size ≤ B ∧ c.q.size ≤ B ∧ c.t.size ≤ B
theorem runF_nil (n : Int) (L : List En) : Pp.runF n L [] = (0, 0, L) := rfl
end Go.Proofs.YtfpckmbclnncnaaGreat
namespace Go.Proofs.YtfpckmbclnncnaaGreat
open Go.RowKit

namespace Pp
def patE (L : List En) (cs : List Ch) (n : Int) : Int := if ¬ treeE L = 0 then treeE L else if 120 < cs.length then 2 else (runF n L cs).2.1
def patR (L : List En) (cs : List Ch) (n : Int) : List En := if ¬ treeE L = 0 then [] else if 120 < cs.length then [] else (runF n L cs).2.2
theorem pat_no {L : List En} (h : ¬ treeE L = 0) (cs : List Ch) (n : Int) : patE L cs n = treeE L ∧ patR L cs n = [] := ⟨if_pos h, if_pos h⟩
theorem pat_many {L : List En} (h : treeE L = 0) {cs : List Ch} (hm : 120 < cs.length) (n : Int) : patE L cs n = 2 ∧ patR L cs n = [] :=
  ⟨by rw [patE, if_neg (fun x => x h), if_pos hm], by rw [patR, if_neg (fun x => x h), if_pos hm]⟩
theorem pat_run {L : List En} (h : treeE L = 0) {cs : List Ch} (hm : ¬ 120 < cs.length) {n : Int} {k : Nat} {e : Int} {R : List En} (hr : runF n L cs = (k, e, R)) : patE L cs n = e ∧ patR L cs n = R :=
  ⟨by rw [patE, if_neg (fun x => x h), if_neg hm, hr], by rw [patR, if_neg (fun x => x h), if_neg hm, hr]⟩
theorem patR_ifz (L : List En) (cs : List Ch) (n : Int) : patR L cs n = ifz (patE L cs n) (patR L cs n) := by
  by_cases h : patE L cs n = 0
  · rw [ifz_yes h]
  · rw [ifz_no h]
    by_cases ht : treeE L = 0
    · by_cases hm : 120 < cs.length
      · exact (pat_many ht hm n).2
      · rw [patE, if_neg (fun x => x ht), if_neg hm] at h
        rw [patR, if_neg (fun x => x ht), if_neg hm]
        have : ∀ (cs : List Ch) (T : List En), ¬ (runF n T cs).2.1 = 0 → (runF n T cs).2.2 = [] := by
          intro cs
          induction cs with
          | nil => intro T h; exact absurd rfl h
          | cons c r ih =>
            intro T h
            rw [runF] at h ⊢
            by_cases h0 : appE T c n = 0
            · rw [if_pos h0] at h ⊢
              exact ih _ h
            · rw [if_neg h0]
        exact this cs L h
    · exact (pat_no ht cs n).2
theorem good_sizedD {R : List En} (hR : Good R) : Sized R := fun e he => by
  have h1 := chk_len (entE_path (hR.ents e he))
  have h2 := hR.ents e he
  refine ⟨by rw [Lib.size_eq]; omega, ?_⟩
  rw [entE, if_pos (entE_path h2)] at h2
  split at h2
  · cases h2
  · split at h2
    · cases h2
    · omega
end Pp
end Go.Proofs.YtfpckmbclnncnaaGreat
namespace Go.Proofs.YtfpckmbclnncnaaGreat
open Go.RowKit

namespace Pp
theorem flat_one (L : List En) : ∀ u ∈ flat L, u.oneCell' = true := by
  intro u hu
  obtain ⟨s, _, hs⟩ := List.mem_flatMap.1 hu
  exact cells_one s u hs
end Pp
theorem lies_cells {w : World} {b o : Nat} {L : List En} (h : ∀ i (h : i < L.length), EnAt w b (o + i * 4) L[i]) : ∀ j u, (Pp.flat L)[j]? = some u → w.cell? ((⟨b, o, none⟩ : Addr).add j) = some u := by
  intro j u hj
  have hjl : j < L.length * 4 := by
    have := (List.getElem?_eq_some_iff.1 hj).1
    rw [Pp.flat_len] at this; exact this
  have h1 : j / 4 < L.length := by omega
  have h2 : j / 4 * 4 + j % 4 = j := by omega
  have h3 := Pp.flat_get L (j / 4) (j % 4) h1 (by omega)
  rw [h2] at h3
  rw [h3] at hj
  obtain ⟨e0, e1, e2, e3⟩ := h _ h1
  have ha : (⟨b, o, none⟩ : Addr).add j = ⟨b, o + j / 4 * 4 + j % 4, none⟩ := by
    rw [Addr.add_lit, Nat.add_assoc, h2]
  rw [ha]
  have h4 : j % 4 < 4 := by omega
  generalize j % 4 = c at *
  match c, h4, hj with
  | 0, _, hj => simp [Pp.cells] at hj; subst hj; exact e0
  | 1, _, hj => simp [Pp.cells] at hj; subst hj; exact e1
  | 2, _, hj => simp [Pp.cells] at hj; subst hj; exact e2
  | 3, _, hj => simp [Pp.cells] at hj; subst hj; exact e3

set_option maxHeartbeats 1000000 in
theorem eclone_any (L : List En) (v : Value) (w : World) (hv : Lies w v L) (hn : L.length ≤ 1000) :
    Calls Tryz.prog 11 #[v] w fun e w' => ∃ u, e = .returned u ∧ Lies w' u L ∧ Below w.heap.size w w' := by
  obtain ⟨i0, hi0, hz0, hz1, hz2⟩ := info_parts Tryz.infoE
  obtain ⟨a, cap, rfl, hcap, hcap2, hLL⟩ := hv
  have q22 : ∀ (w : World) (a : Option Addr) (n c n' c' : Nat), (binOp .eql 22 (.slice a n c) (.slice none n' c')).run Tryz.prog w = .ok (.bool a.isNone) w := fun w a n c n' c' => Lib.run_eql_slice_nil w _ _ a n c n' c' Tryz.underlying22
  cases a with
  | none =>
    have hL : L = [] := by
      cases L with
      | nil => rfl
      | cons s r => obtain ⟨b, o, hb, _⟩ := hLL 0 (by simp); cases hb
    subst hL
    go_enter Tryz.func11, Tryz.ntmps11
    go_wp2
    go_ret
    exact ⟨_, rfl, lies_nil _, Below.refl _ _⟩
  | some ad =>
    have hcells : ∀ j u, (Pp.flat L)[j]? = some u → w.cell? (ad.add j) = some u := by
      cases L with
      | nil => intro j u hj; simp [Pp.flat] at hj
      | cons s r =>
        obtain ⟨b, o, hb, _⟩ := hLL 0 (by simp)
        injection hb with hb
        subst hb
        exact lies_cells fun i hi => by
          obtain ⟨b', o', hb', _, he⟩ := hLL i hi
          injection hb' with hb'
          injection hb' with h1 h2
          subst h1; subst h2
          exact he
    have HC := hid hcells
    have HFL := hid (Pp.flat_len L)
    clear hcells hLL
    go_enter Tryz.func11, Tryz.ntmps11
    go_wp2_with (at_builtin; refine wpList_append_own _ rfl _ _ 22 rfl w.heap.size 37 i0 (.agg #[.string ⟨#[]⟩, .bool false, .string ⟨#[]⟩, .int .i64 0]) 4 48 Tryz.underlying22 hi0 hz0 hz1 hz2 rfl (by decide) _ _ _ rfl (World.ownsRow_made w #[] 0 (Nat.le_refl _) (Nat.zero_le _) (by simp)) ad L.length cap (Pp.flat L) rfl ?qc1 ?qc2 ?qc3 ?qc4 ?qc5 ?qc6 ?_)
    case qc1 => exact HFL.out
    case qc2 => intro j u hj; exact Lib.cell?_alloc_some _ (HC.out j u hj)
    case qc3 => exact Pp.flat_one L
    case qc4 => unfold maxLen; omega
    case qc5 => omega
    case qc6 => simp
    intro v2 w2 ho2 hgr2 hnn2
    have hbel2 : Below w.heap.size w w2 := ((Below.refl _ _).alloc (Nat.le_refl _) _).grown hgr2 (by simp) (fun k hk => by simp [Value.ownBlock] at hk; omega)
    have ho3 : w2.ownsRow w.heap.size 37 4 v2 L.length (Pp.flat L) := by simpa using ho2
    have HCL : Hid (Lies w2 v2 L) := (lies_own ho3 (by omega) : Lies w2 v2 L)
    obtain ⟨a2, cap2, hv2, _, _, _⟩ := HCL.out
    clear ho2 ho3 hgr2 hnn2
    go_wp2_with fail
    go_ret
    exact ⟨_, rfl, HCL.out, hbel2⟩
end Go.Proofs.YtfpckmbclnncnaaGreat
namespace Go.Proofs.YtfpckmbclnncnaaGreat
open Go.RowKit

set_option maxHeartbeats 1000000 in
theorem tcheck_all (L : List En) (v : Value) (w : World) (hv : Lies w v L) (hs : Sized L) :
    Calls Tryz.prog 10 #[v] w fun e w' => e = .returned (.int .i64 (Pp.treeE L)) ∧ Below w.heap.size w w' := by
  by_cases h60 : L.length ≤ 60
  · exact tcheck_any L v w hv (by omega) hs
  · have HE : Hid (2 = Pp.treeE L) := (by rw [Pp.treeE, if_pos (by omega)] : 2 = Pp.treeE L)
    obtain ⟨a, cap, rfl, hcap, hcap2, hL⟩ := hv
    have hl : 60 < (L.length : Int) := by omega
    clear hL hs
    go_enter Tryz.func10, Tryz.ntmps10
    go_wp2_with fail
    go_ret
    exact ⟨Pp.ret_int HE.out, Below.refl _ _⟩

set_option maxHeartbeats 1000000 in
theorem tapply_all (L : List En) (v : Value) (k : Int) (p q t : ByteArray) (b n : Int) (w : World) (hv : Lies w v L) (hs : Sized L) (hp : p.size ≤ 150000000000000) (hq : q.size ≤ 150000000000000) (ht : t.size ≤ 150000000000000) :
    Calls Tryz.prog 12 #[v, .agg #[.int .i64 k, .string p, .string q, .string t, .int .i64 b], .int .i64 n] w fun e w' => ∃ u, e = .returned (.tuple #[u, .int .i64 (Pp.tapE L ⟨k, p, q, t, b⟩ n)]) ∧ Lies w' u (Pp.tapR L ⟨k, p, q, t, b⟩ n) ∧ Below w.heap.size w w' := by
  by_cases h60 : L.length ≤ 60
  · exact tapply_any L v k p q t b n w hv (by omega) hs hp hq ht
  · have HV : Hid (Lies w v L) := hv
    have HS : Hid (Sized L) := hs
    have htr : ¬ Pp.treeE L = 0 := by rw [Pp.treeE, if_pos (by omega)]; decide
    clear hv hs
    rw [Pp.tapE_no htr, Pp.tapR_no htr]
    have hz : (Pp.treeE L == 0) = false := by simpa using htr
    go_enter Tryz.func12, Tryz.ntmps12
    go_wp2_with fail
    refine (tcheck_all L v _ (HV.out.below ((Below.refl _ _).alloc (Nat.le_refl _) _)) HS.out).mono ?_
    rintro e w1 ⟨rfl, hb1⟩
    obtain ⟨c0, c1, c2, c3, c4, hbw, hlt⟩ := bx5 hb1
    clear hb1
    go_wp2
    go_ret2
    exact ⟨_, rfl, lies_nil _, hbw⟩
end Go.Proofs.YtfpckmbclnncnaaGreat
namespace Go.Proofs.YtfpckmbclnncnaaGreat
open Go.RowKit

set_option maxRecDepth 100000 in
set_option maxHeartbeats 2000000 in
theorem patch_any (L : List En) (v : Value) (cs : List Pp.Ch) (u : Value) (n : Int) (w : World) (hv : Lies w v L) (hs : Sized L) (hu : LiesC w u cs) (hcs : SizedC 150000000000000 cs) :
    Calls Tryz.prog 4 #[v, u, .int .i64 n] w fun e w' => ∃ r, e = .returned (.tuple #[r, .int .i64 (Pp.patE L cs n)]) ∧ Lies w' r (Pp.patR L cs n) ∧ Below w.heap.size w w' := by
  have HV := hid hv
  have HS := hid hs
  have HCS := hid hcs
  obtain ⟨a, cap, rfl, hcap, hcap2, hC⟩ := hu
  have HC : Hid (∀ i (h : i < cs.length), ∃ b o, a = some ⟨b, o, none⟩ ∧ b < w.heap.size ∧ ChAt w b (o + i * 5) cs[i]) := hC
  clear hv hs hcs hC
  by_cases htr : Pp.treeE L = 0
  · have HT := hid htr
    by_cases h120 : 120 < cs.length
    · obtain ⟨hE, hR⟩ := Pp.pat_many htr h120 n
      rw [hE, hR]
      clear hE hR htr
      have h120' : 120 < (cs.length : Int) := by omega
      go_enter Tryz.func4, Tryz.ntmps4
      go_wp2_with fail
      refine (tcheck_all L v _ HV.out HS.out).mono ?_
      rintro e w1 ⟨rfl, hb1⟩
      rw [HT.out]
      go_wp2_with fail
      go_ret2
      exact ⟨_, rfl, lies_nil _, hb1⟩
    · have h120' : ¬ 120 < (cs.length : Int) := by omega
      have hg := (Pp.good_iff L).1 htr
      have HG := hid hg
      have hlen := hg.len
      have HRUN : Hid (∀ k e R, Pp.runF n L cs = (k, e, R) → Pp.patE L cs n = e ∧ Pp.patR L cs n = R) := (fun k e R h => Pp.pat_run htr h120 h : ∀ k e R, Pp.runF n L cs = (k, e, R) → Pp.patE L cs n = e ∧ Pp.patR L cs n = R)
      clear hg htr
      go_enter Tryz.func4, Tryz.ntmps4
      go_wp2_with fail
      refine (tcheck_all L v _ HV.out HS.out).mono ?_
      rintro e w1 ⟨rfl, hb1⟩
      rw [HT.out]
      go_wp2_with fail
      refine (eclone_any L v _ (HV.out.below hb1) (by omega)).mono ?_
      rintro e w2 ⟨u, rfl, hou, hb2⟩
      have HU := hid hou
      have hb02 := hb1.trans (hb2.mono hb1.size)
      clear hou hb1 hb2
      go_wp2_with fail
      go_loopw [9, 26] (fun x i wr => ∃ (k : Nat) (S : List En), k ≤ cs.length ∧ i = .int .i64 k ∧ Hid (Lies wr x S) ∧ Hid (Pp.Good S) ∧ Hid (Pp.Left n L cs S k) ∧ Below w.heap.size w wr) (fun _ i _ => cs.length - (intOf i).toNat)
      case atStart => exact ⟨0, L, Nat.zero_le _, rfl, HU, HG, Pp.left_zero n L cs, hb02⟩
      case round =>
        obtain ⟨k, S, hk, rfl, HX, HGS, HLF, hbel⟩ := hrel
        clear hb02
        by_cases hlt : k < cs.length
        · obtain ⟨b, o, rfl, hb, he⟩ := HC.out k hlt
          obtain ⟨c0, c1, c2, c3, c4⟩ := he.below hb hbel
          have hsz := HCS.out cs[k] (List.getElem_mem hlt)
          have HZ := hid hsz
          have HNX : Hid (Pp.appE S cs[k] n = 0 → Pp.Left n L cs (Pp.chdR S cs[k] n) (k + 1)) := (fun h0 => Pp.left_next HLF.out hlt h0 : Pp.appE S cs[k] n = 0 → Pp.Left n L cs (Pp.chdR S cs[k] n) (k + 1))
          have HST : Hid (¬ Pp.appE S cs[k] n = 0 → Pp.runF n L cs = (k, Pp.appE S cs[k] n, [])) := (fun h0 => Pp.left_stop HLF.out hlt h0 : ¬ Pp.appE S cs[k] n = 0 → Pp.runF n L cs = (k, Pp.appE S cs[k] n, []))
          have HGN : Hid (Pp.appE S cs[k] n = 0 → Pp.Good (Pp.chdR S cs[k] n)) := (fun h0 => Pp.app_good HGS.out h0 : Pp.appE S cs[k] n = 0 → Pp.Good (Pp.chdR S cs[k] n))
          clear he hsz
          generalize cs[k] = ck at *
          obtain ⟨kk, p, q, t, bs⟩ := ck
          simp only at c0 c1 c2 c3 c4
          go_wp2_with fail
          refine (tapply_all S _ kk p q t bs n _ (HX.out.below ((Below.refl _ _).alloc (Nat.le_refl _) _)) (Pp.good_sizedD HGS.out) HZ.out.1 HZ.out.2.1 HZ.out.2.2).mono ?_
          rintro e w3 ⟨u3, rfl, hli, hb3⟩
          rw [Pp.tapE_yes ((Pp.good_iff S).2 HGS.out)]
          rw [Pp.tapR_yes ((Pp.good_iff S).2 HGS.out)] at hli
          obtain ⟨d0, d1, d2, d3, d4, hbw, hlt3⟩ := box5 hb3
          have HLI := hid hli
          have hbel3 := below_trans hbel hbw
          clear hb3 hli d0 d1 d2 d3 d4 c0 c1 c2 c3 c4 hbel hbw
          by_cases h0 : Pp.appE S ⟨kk, p, q, t, bs⟩ n = 0
          · have HN := hid (HNX.out h0)
            have HG3 := hid (HGN.out h0)
            have hR : Pp.appR S ⟨kk, p, q, t, bs⟩ n = Pp.chdR S ⟨kk, p, q, t, bs⟩ n := by rw [Pp.appR, Pp.ifz_yes h0]
            have HL3 : Hid (Lies w3 u3 (Pp.chdR S ⟨kk, p, q, t, bs⟩ n)) := (hR ▸ HLI.out : Lies w3 u3 (Pp.chdR S ⟨kk, p, q, t, bs⟩ n))
            rw [h0]
            clear hR h0 HLI HNX HST HGN
            go_wp2_with fail
            go_roundw
            case rel => exact ⟨k + 1, _, by omega, by simp, HL3, HG3, HN, hbel3⟩
            case measure => simp [intOf]; omega
          · obtain ⟨hE, hR⟩ := HRUN.out _ _ _ (HST.out h0)
            have hz : (Pp.appE S ⟨kk, p, q, t, bs⟩ n == 0) = false := by simpa using h0
            have HE := hid hE
            have HR := hid hR
            clear hE hR h0 HLI HNX HST HGN
            go_wp2_with fail
            go_ret2
            exact ⟨_, by rw [HE.out]; rfl, by rw [HR.out]; exact lies_nil _, hbel3⟩
        · obtain rfl : k = cs.length := by omega
          obtain ⟨hE, hR⟩ := HRUN.out _ _ _ (Pp.left_end HLF.out)
          have HE := hid hE
          have HR := hid hR
          clear hE hR
          go_wp2_with fail
          go_ret2
          exact ⟨_, by rw [HE.out]; rfl, by rw [HR.out]; exact HX.out, hbel⟩
  · obtain ⟨hE, hR⟩ := Pp.pat_no htr cs n
    rw [hE, hR]
    have hz : (Pp.treeE L == 0) = false := by simpa using htr
    clear hE hR
    go_enter Tryz.func4, Tryz.ntmps4
    go_wp2_with fail
    refine (tcheck_all L v _ HV.out HS.out).mono ?_
    rintro e w1 ⟨rfl, hb1⟩
    go_wp2_with fail
    go_ret2
    exact ⟨_, rfl, lies_nil _, hb1⟩
end Go.Proofs.YtfpckmbclnncnaaGreat
namespace Go.Proofs.YtfpckmbclnncnaaGreat
open Go.RowKit Go.Maps Go.WideMaps

namespace Sp
/-- How a spot reads. -/
def rd : Value → Option (DataW Unit × List MemPlace)
  | .agg cs => match cs.toList with
    | [.int .i64 a, .string t, .int .i64 n] => some (.agg [.lit (.int .i64 a), .lit (.string t.data.toList), .lit (.int .i64 n)], [])
    | _ => none
  | _ => none
def dat (a : Int) (t : ByteArray) (n : Int) : DataW Unit := .agg [.lit (.int .i64 a), .lit (.string t.data.toList), .lit (.int .i64 n)]
theorem rd_mk (a : Int) (t : ByteArray) (n : Int) : rd (.agg #[.int .i64 a, .string t, .int .i64 n]) = some (dat a t n, []) := rfl
theorem rd_inv {v : Value} {a : Int} {t : ByteArray} {n : Int} {ps : List MemPlace} (h : rd v = some (dat a t n, ps)) : v = .agg #[.int .i64 a, .string t, .int .i64 n] := by
  unfold rd at h
  split at h
  · rename_i cs
    split at h
    · rename_i a' t' n' hcs
      simp only [dat, Option.some.injEq, Prod.mk.injEq, DataW.agg.injEq, List.cons.injEq, DataW.lit.injEq, Lit.int.injEq, Lit.string.injEq, true_and, and_true] at h
      obtain ⟨⟨h1, h2, h3⟩, _⟩ := h
      have ht : t' = t := by
        cases t'; cases t
        congr 1
        exact Array.toList_inj.1 h2
      have hc : cs = #[.int .i64 a', .string t', .int .i64 n'] := by cases cs; simp at hcs; rw [hcs]
      rw [hc, h1, ht, h3]
    · cases h
  · cases h
def key (p : ByteArray) : Lit := .string p.data.toList
def one (p : ByteArray) (a : Int) (t : ByteArray) (n : Int) : DataW Unit := (DataW.map []).put (key p) (dat a t n)
theorem one_eq (p : ByteArray) (a : Int) (t : ByteArray) (n : Int) : one p a t n = .map [(key p, dat a t n)] := rfl
theorem one_keys (p : ByteArray) (a : Int) (t : ByteArray) (n : Int) : strKeys (one p a t n) = [p.data.toList] := rfl
theorem one_at (p : ByteArray) (a : Int) (t : ByteArray) (n : Int) (z : DataW Unit) : (one p a t n).atKey (key p) z = dat a t n := by
  rw [one_eq]; simp [DataW.atKey, key, Lit.sameKey]
theorem none_at (k : Lit) (z : DataW Unit) : (DataW.map [] : DataW Unit).atKey k z = z := rfl
end Sp
theorem Tryz.zeroSpot (w : World) : (zeroValue 65).run Tryz.prog w = .ok (.agg #[.int .i64 0, .string ⟨#[]⟩, .int .i64 0]) w := by rw [Tryz.zeroValue65]
theorem spotAt_none {b n : Nat} {w : World} (h : w.ownsMap Tryz.prog 9 Sp.rd b n (.map [])) (p : ByteArray) (hp : p.size ≤ maxLen) : (Instr.lookup 55 (.map (some b)) (.string p) false).run Tryz.prog w = .ok (.agg #[.int .i64 0, .string ⟨#[]⟩, .int .i64 0]) w := by
  obtain ⟨v, ps, hrun, hv⟩ := h.lookup (string_keyed Tryz.underlying9) Tryz.underlying55 (Tryz.zeroSpot w) (Sp.rd_mk 0 ⟨#[]⟩ 0) (keyOf_string_mk Tryz.underlying9 hp)
  rw [Sp.none_at] at hv
  rw [Sp.rd_inv hv] at hrun
  exact hrun
theorem spotAt_one {b n : Nat} {w : World} {p t : ByteArray} {a m : Int} (h : w.ownsMap Tryz.prog 9 Sp.rd b n (Sp.one p a t m)) (hp : p.size ≤ maxLen) : (Instr.lookup 55 (.map (some b)) (.string p) false).run Tryz.prog w = .ok (.agg #[.int .i64 a, .string t, .int .i64 m]) w := by
  obtain ⟨v, ps, hrun, hv⟩ := h.lookup (string_keyed Tryz.underlying9) Tryz.underlying55 (Tryz.zeroSpot w) (Sp.rd_mk 0 ⟨#[]⟩ 0) (keyOf_string_mk Tryz.underlying9 hp)
  have e : (Sp.one p a t m).atKey (.string p.data.toList) (Sp.dat 0 ⟨#[]⟩ 0) = Sp.dat a t m := Sp.one_at p a t m _
  rw [e] at hv
  rw [Sp.rd_inv hv] at hrun
  exact hrun

set_option maxHeartbeats 1000000 in
theorem sof_file (p t : ByteArray) (n : Int) (w : World) :
    Calls Tryz.prog 41 #[.agg #[.string p, .bool false, .string t, .int .i64 n]] w fun e w' => e = .returned (.agg #[.int .i64 2, .string t, .int .i64 n]) ∧ Below w.heap.size w w' := by
  go_enter Tryz.func41, Tryz.ntmps41
  go_wp2_with fail
  refine bodyPost_ret (v := .agg #[.int .i64 2, .string t, .int .i64 n]) (by simp [results, Tryz.results41, go_sem]) rfl ⟨rfl, ?_⟩
  first | exact ((Below.refl _ _).alloc (Nat.le_refl _) _).alloc (by simp) _ | (trace_state; fail)

theorem Tryz.makeSpots (n : Int) (w : World) : (Instr.makeMap 55 (some (.int .i64 n))).run Tryz.prog w = .ok (.map (some w.heap.size)) (w.alloc (.map #[] 0)) := by
  simp [Instr.makeMap, run_underlying Tryz.underlying55, asInt, asIntOf, Result.andThen]

set_option maxRecDepth 100000 in
set_option maxHeartbeats 1000000 in
theorem spotOf_nil (w : World) :
    Calls Tryz.prog 30 #[.slice none 0 0] w fun e w' => ∃ b, e = .returned (.map (some b)) ∧ w.heap.size ≤ b ∧ w'.ownsMap Tryz.prog 9 Sp.rd b 0 (.map []) ∧ Below w.heap.size w w' := by
  have hmm := Tryz.makeSpots
  have HO := hid (World.ownsMap_made w Tryz.prog 9 Sp.rd)
  have hbel : Below w.heap.size w (w.alloc (.map #[] 0)) := (Below.refl _ _).alloc (Nat.le_refl _) _
  go_enter Tryz.func30, Tryz.ntmps30
  go_wp2_with fail
  go_loopw [11] (fun i wr => i = .int .i64 0 ∧ wr = w.alloc (.map #[] 0)) (fun _ _ => 0)
  case atStart => exact ⟨rfl, rfl⟩
  case round =>
    obtain ⟨rfl, rfl⟩ := hrel
    go_wp2_with fail
    go_ret
    exact ⟨_, rfl, Nat.le_refl _, HO.out, hbel⟩

set_option maxRecDepth 100000 in
set_option maxHeartbeats 2000000 in
theorem spotOf_one (p t : ByteArray) (n : Int) (v : Value) (w : World) (hv : Lies w v [⟨p, false, t, n⟩]) (hp : p.size ≤ maxLen) :
    Calls Tryz.prog 30 #[v] w fun e w' => ∃ b, e = .returned (.map (some b)) ∧ w.heap.size ≤ b ∧ w'.ownsMap Tryz.prog 9 Sp.rd b 1 (Sp.one p 2 t n) ∧ Below w.heap.size w w' := by
  obtain ⟨a, cap, rfl, hcap, hcap2, hL⟩ := hv
  obtain ⟨b, o, rfl, hb, he⟩ := hL 0 (by simp)
  simp only [Nat.zero_mul, Nat.add_zero, List.getElem_cons_zero] at he
  clear hL
  have hmm := Tryz.makeSpots
  have HO := hid (World.ownsMap_made w Tryz.prog 9 Sp.rd)
  have hbel0 : Below w.heap.size w (w.alloc (.map #[] 0)) := (Below.refl _ _).alloc (Nat.le_refl _) _
  have HE := hid he
  clear he
  simp only [List.length_cons, List.length_nil, Nat.zero_add] at hcap hcap2 ⊢
  go_enter Tryz.func30, Tryz.ntmps30
  go_wp2_with fail
  go_loopw [11] (fun i wr => Below w.heap.size w wr ∧ w.heap.size < wr.heap.size ∧ ((i = .int .i64 0 ∧ Hid (wr.ownsMap Tryz.prog 9 Sp.rd w.heap.size 0 (.map []))) ∨ (i = .int .i64 1 ∧ Hid (wr.ownsMap Tryz.prog 9 Sp.rd w.heap.size 1 (Sp.one p 2 t n))))) (fun i _ => 2 - (intOf i).toNat)
  case atStart => exact ⟨hbel0, by simp, Or.inl ⟨rfl, HO⟩⟩
  case round =>
    obtain ⟨hbel, hszr, ⟨rfl, HM⟩ | ⟨rfl, HM⟩⟩ := hrel
    · obtain ⟨c0, c1, c2, c3⟩ := HE.out.below hb hbel
      simp only at c0 c1 c2 c3
      obtain ⟨wz, hwz⟩ : ∃ wz, wz = wr.alloc (.cells #[.string p, .bool false, .string t, .int .i64 n] 37) := ⟨_, rfl⟩
      have hbz : Below wr.heap.size wr wz := by rw [hwz]; exact (Below.refl _ _).alloc (Nat.le_refl _) _
      have z0 : wz.cell? ⟨wr.heap.size, 0, none⟩ = some (.string p) := by rw [hwz]; simp
      have z1 : wz.cell? ⟨wr.heap.size, 1, none⟩ = some (.bool false) := by rw [hwz]; simp
      have z2 : wz.cell? ⟨wr.heap.size, 2, none⟩ = some (.string t) := by rw [hwz]; simp
      have z3 : wz.cell? ⟨wr.heap.size, 3, none⟩ = some (.int .i64 n) := by rw [hwz]; simp
      have hszz : wz.heap.size = wr.heap.size + 1 := by rw [hwz]; simp
      have HMZ := hid (HM.out.alloc (.cells #[.string p, .bool false, .string t, .int .i64 n] 37))
      rw [← hwz] at HMZ
      have hbel2 := below_trans hbel hbz
      go_wp2_with fail
      rw [← hwz]
      clear hwz c0 c1 c2 c3
      go_region_held3 (fun W => W.cell? ⟨wr.heap.size, 0, none⟩ = some (.string p) ∧ W.cell? ⟨wr.heap.size, 1, none⟩ = some (.bool false) ∧ W.cell? ⟨wr.heap.size, 2, none⟩ = some (.string t) ∧ W.cell? ⟨wr.heap.size, 3, none⟩ = some (.int .i64 n)) (go_keep) (first
        | (go_at_call 41; refine (sof_file p t n _).mono ?_; rintro e wa ⟨rfl, hba⟩; have hza : Below wz.heap.size wz wa := ((Below.refl _ _).drew).trans hba; have hma := hid (HMZ.out.kept (row := none) ⟨hza.os, hza.tape, hza.output, hza.size, fun k hk _ => hza.block k hk⟩ (by simp)); obtain ⟨w6, hrun6, hown6, hgr6⟩ := hma.out.update (string_keyed Tryz.underlying9) Tryz.underlying55 (by unfold maxLen; omega) (keyOf_string_mk Tryz.underlying9 hp) (Sp.rd_mk 2 t n); have HO6 := hid hown6; have j0 := (hza.cell (p := ⟨wr.heap.size, 0, none⟩) (by simp [hszz])).trans z0; have j1 := (hza.cell (p := ⟨wr.heap.size, 1, none⟩) (by simp [hszz])).trans z1; have j2 := (hza.cell (p := ⟨wr.heap.size, 2, none⟩) (by simp [hszz])).trans z2; have j3 := (hza.cell (p := ⟨wr.heap.size, 3, none⟩) (by simp [hszz])).trans z3; have hsza := hza.size; have i0 := (hgr6.cell_far ⟨wr.heap.size, 0, none⟩ (by show wr.heap.size < wa.heap.size; omega) (by simp; omega)).trans j0; have i1 := (hgr6.cell_far ⟨wr.heap.size, 1, none⟩ (by show wr.heap.size < wa.heap.size; omega) (by simp; omega)).trans j1; have i2 := (hgr6.cell_far ⟨wr.heap.size, 2, none⟩ (by show wr.heap.size < wa.heap.size; omega) (by simp; omega)).trans j2; have i3 := (hgr6.cell_far ⟨wr.heap.size, 3, none⟩ (by show wr.heap.size < wa.heap.size; omega) (by simp; omega)).trans j3; clear hown6))
      have hbel6 : Below w.heap.size w w6 := (below_trans hbel2 hza).grown hgr6 (by omega) (fun k hk => by simp at hk; omega)
      have hsz6 := hgr6.size
      go_wp2_with fail
      go_roundw
      case rel => exact ⟨hbel6, by omega, Or.inr ⟨by simp, HO6⟩⟩
      case measure => simp [intOf]
    · go_wp2_with fail
      go_ret
      exact ⟨_, rfl, Nat.le_refl _, HM.out, hbel⟩
end Go.Proofs.YtfpckmbclnncnaaGreat
namespace Go.Proofs.YtfpckmbclnncnaaGreat
open Go.RowKit Go.Maps Go.WideMaps

set_option maxHeartbeats 1000000 in
theorem like_no (a b : Int) (s t : ByteArray) (m n : Int) (h : (a == b) = false) (w : World) :
    Calls Tryz.prog 44 #[.agg #[.int .i64 a, .string s, .int .i64 m], .agg #[.int .i64 b, .string t, .int .i64 n]] w fun e w' => e = .returned (.bool false) ∧ Below w.heap.size w w' := by
  go_enter Tryz.func44, Tryz.ntmps44
  go_wp2
  go_ret
  exact ⟨rfl, ((Below.refl _ _).alloc (Nat.le_refl _) _).alloc (by simp) _⟩
set_option maxHeartbeats 1000000 in
theorem made_file (p t : ByteArray) (n : Int) (w : World) :
    Calls Tryz.prog 45 #[.string p, .agg #[.int .i64 2, .string t, .int .i64 n]] w fun e w' => e = .returned (.agg #[.int .i64 2, .string p, .string ⟨#[]⟩, .string t, .int .i64 (-1)]) ∧ Below w.heap.size w w' := by
  go_enter Tryz.func45, Tryz.ntmps45
  go_wp2_with fail
  refine bodyPost_ret (v := .agg #[.int .i64 2, .string p, .string ⟨#[]⟩, .string t, .int .i64 (-1)]) (by simp [results, Tryz.results45, go_sem]) rfl ⟨rfl, ?_⟩
  exact ((Below.refl _ _).alloc (Nat.le_refl _) _).alloc (by simp) _

/-- No path, where there is none. -/
theorem paths_none {b n : Nat} {w : World} (h : w.ownsMap Tryz.prog 9 Sp.rd b n (.map [])) :
    Calls Tryz.prog 42 #[.map (some b)] w fun e w' => e = .returned (.slice none 0 0) ∧ Below w.heap.size w w' :=
  (Tryz.paths_any b n _ Sp.rd w h (by simp [Maps.size]) (by simp [Maps.size])).mono fun e w' ⟨v, ss, he, hp, _, hnil, hb⟩ => by
    have : ss = [] := List.Perm.eq_nil hp
    exact ⟨by rw [he, hnil.2 this], hb⟩
/-- The path, where there is one. -/
theorem paths_one {b n : Nat} {w : World} {p t : ByteArray} {a m : Int} (h : w.ownsMap Tryz.prog 9 Sp.rd b n (Sp.one p a t m)) :
    Calls Tryz.prog 42 #[.map (some b)] w fun e w' => ∃ g cap, e = .returned (.slice (some ⟨g, 0, none⟩) 1 cap) ∧ w'.cell? ⟨g, 0, none⟩ = some (.string p) ∧ 1 ≤ cap ∧ w.heap.size ≤ g ∧ g < w'.heap.size ∧ Below w.heap.size w w' :=
  (Tryz.paths_any b n _ Sp.rd w h (by rw [Sp.one_eq]; simp [Maps.size, maxLen]) (by rw [Sp.one_eq]; simp [Maps.size])).mono fun e w' ⟨v, ss, he, hp, hrow, hnil, hb⟩ => by
    rw [Sp.one_keys] at hp
    have hs : ss = [p.data.toList] := List.perm_singleton.1 hp
    subst hs
    have hrow' := hrow
    obtain ⟨hl, h2⟩ := hrow
    rcases h2 with ⟨hv, hz⟩ | ⟨g, cap, cur, hv, hg, hh, hn, hm, hz, htake⟩
    · exact absurd (hnil.1 hv) (by simp)
    · subst hv
      have hc := hrow'.cellAt 0 (by simp)
      refine ⟨g, cap, he, ?_, by simpa using hn, hg, ?_, hb⟩
      · rw [hc]; simp [encStr]
      · rcases Nat.lt_or_ge g w'.heap.size with h | h
        · exact h
        · rw [Array.getElem?_eq_none h] at hh; cases hh

theorem omap_below {b n : Nat} {w w' : World} {D : DataW Unit} {B : Nat} (h : w.ownsMap Tryz.prog 9 Sp.rd b n D) (hw : Below B w w') (hb : b < B) : w'.ownsMap Tryz.prog 9 Sp.rd b n D := by
  obtain ⟨es, clock, hh, F, hs, hD⟩ := h
  exact ⟨es, clock, (hw.block b hb).trans hh, F, hs, hD⟩

set_option maxRecDepth 100000 in
set_option maxHeartbeats 1000000 in
theorem deletes_none {b c n : Nat} {w : World} (h : w.ownsMap Tryz.prog 9 Sp.rd b n (.map [])) :
    Calls Tryz.prog 31 #[.map (some b), .map (some c)] w fun e w' => e = .returned (.slice none 0 0) ∧ Below w.heap.size w w' := by
  have HM := hid h
  clear h
  go_enter Tryz.func31, Tryz.ntmps31
  go_wp2_with fail
  refine (paths_none HM.out).mono ?_
  rintro e w1 ⟨rfl, hb1⟩
  go_wp2_with fail
  go_loopw [5, 11] (fun x i wr => x = .slice none 0 0 ∧ i = .int .i64 0 ∧ wr = w1) (fun _ _ _ => 0)
  case atStart => exact ⟨rfl, rfl, rfl⟩
  case round =>
    obtain ⟨rfl, rfl, rfl⟩ := hrel
    go_wp2_with fail
    go_ret
    exact ⟨rfl, hb1⟩

theorem Tryz.infoChg : (Tryz.prog.info? 31).map (fun i => (i.zero, i.size, i.bytes)) = some (some (.agg #[.int .i64 0, .string ⟨#[]⟩, .string ⟨#[]⟩, .string ⟨#[]⟩, .int .i64 0]), 5, 64) := by kernel_rfl
namespace Pp
def cellsC (c : Ch) : List Value := [.int .i64 c.k, .string c.p, .string c.q, .string c.t, .int .i64 c.b]
theorem cellsC_one (c : Ch) : ∀ u ∈ cellsC c, u.oneCell' = true := by
  intro u hu
  simp only [cellsC, List.mem_cons, List.not_mem_nil, or_false] at hu
  rcases hu with rfl | rfl | rfl | rfl | rfl <;> rfl
end Pp
theorem new_cellsC (w : World) (c : Pp.Ch) (T : TypeId) : ∀ j u, (Pp.cellsC c)[j]? = some u → (w.alloc (.cells #[.int .i64 c.k, .string c.p, .string c.q, .string c.t, .int .i64 c.b] T)).cell? ((⟨w.heap.size, 0, none⟩ : Addr).add j) = some u := by
  intro j u hj
  match j, hj with
  | 0, hj => simp [Pp.cellsC] at hj; subst hj; simp [Addr.add]
  | 1, hj => simp [Pp.cellsC] at hj; subst hj; simp [Addr.add]
  | 2, hj => simp [Pp.cellsC] at hj; subst hj; simp [Addr.add]
  | 3, hj => simp [Pp.cellsC] at hj; subst hj; simp [Addr.add]
  | 4, hj => simp [Pp.cellsC] at hj; subst hj; simp [Addr.add]
  | j + 5, hj => simp [Pp.cellsC] at hj

set_option maxRecDepth 100000 in
set_option maxHeartbeats 2000000 in
theorem makes_one {b c n m : Nat} {w : World} {p t : ByteArray} {k : Int} (h : w.ownsMap Tryz.prog 9 Sp.rd b n (.map [])) (ho : w.ownsMap Tryz.prog 9 Sp.rd c m (Sp.one p 2 t k)) (hp : p.size ≤ maxLen) :
    Calls Tryz.prog 32 #[.map (some b), .map (some c)] w fun e w' => ∃ v, e = .returned v ∧ w'.ownsRow w.heap.size 31 5 v 1 (Pp.cellsC ⟨2, p, ⟨#[]⟩, t, -1⟩) ∧ Below w.heap.size w w' := by
  obtain ⟨i0, hi0, hz0, hz1, hz2⟩ := info_parts Tryz.infoChg
  have HB := hid h
  have HC := hid ho
  have hblt := h.lt
  have hclt := ho.lt
  have HLK : Hid (∀ W, Below w.heap.size w W → (Instr.lookup 55 (.map (some b)) (.string p) false).run Tryz.prog W = .ok (.agg #[.int .i64 0, .string ⟨#[]⟩, .int .i64 0]) W ∧ (Instr.lookup 55 (.map (some c)) (.string p) false).run Tryz.prog W = .ok (.agg #[.int .i64 2, .string t, .int .i64 k]) W) := (fun W hW => ⟨spotAt_none (omap_below h hW hblt) p hp, spotAt_one (omap_below ho hW hclt) hp⟩ : ∀ W, Below w.heap.size w W → (Instr.lookup 55 (.map (some b)) (.string p) false).run Tryz.prog W = .ok (.agg #[.int .i64 0, .string ⟨#[]⟩, .int .i64 0]) W ∧ (Instr.lookup 55 (.map (some c)) (.string p) false).run Tryz.prog W = .ok (.agg #[.int .i64 2, .string t, .int .i64 k]) W)
  clear h ho
  go_enter Tryz.func32, Tryz.ntmps32
  go_wp2_with fail
  refine (paths_one HC.out).mono ?_
  rintro e w1 ⟨g, cap, rfl, hcell, hcap, hg1, hg2, hb1⟩
  have hsz1 := hb1.size
  go_wp2_with fail
  go_loopw [5, 11] (fun x i wr => Below w1.heap.size w1 wr ∧ ((x = .slice none 0 0 ∧ i = .int .i64 0) ∨ (i = .int .i64 1 ∧ Hid (wr.ownsRow w.heap.size 31 5 x 1 (Pp.cellsC ⟨2, p, ⟨#[]⟩, t, -1⟩))))) (fun _ i _ => 2 - (intOf i).toNat)
  case atStart => exact ⟨Below.refl _ _, Or.inl ⟨rfl, rfl⟩⟩
  case round =>
    obtain ⟨hbel, ⟨rfl, rfl⟩ | ⟨rfl, HX⟩⟩ := hrel
    · have hb0r : Below w.heap.size w wr := hb1.trans (hbel.mono hsz1)
      have c0 : wr.cell? ⟨g, 0, none⟩ = some (.string p) := (hbel.cell (p := ⟨g, 0, none⟩) hg2).trans hcell
      obtain ⟨hl1, hl2⟩ := HLK.out wr hb0r
      go_wp2_with fail
      refine (like_no 2 0 t ⟨#[]⟩ k 0 (by decide) _).mono ?_
      rintro e w2 ⟨rfl, hb2⟩
      have hb02 := below_trans hb0r hb2
      have hbel2 := below_trans hbel hb2
      clear hl1 hl2
      obtain ⟨hl1, hl2⟩ := HLK.out w2 hb02
      go_wp2_with fail
      refine (made_file p t k _).mono ?_
      rintro e w3 ⟨rfl, hb3⟩
      have hb03 := below_trans hb02 hb3
      have hbel3 := below_trans hbel2 hb3
      have hsz3 := hb03.size
      clear hl1 hl2
      go_wp2_with (at_builtin; refine wpList_append_own _ rfl _ _ 23 rfl w.heap.size 31 i0 (.agg #[.int .i64 0, .string ⟨#[]⟩, .string ⟨#[]⟩, .string ⟨#[]⟩, .int .i64 0]) 5 64 Tryz.underlying23 hi0 hz0 hz1 hz2 rfl (by decide) (.slice none 0 0) 0 [] rfl (World.ownsRow_nil _ _ _ _) ⟨w3.heap.size, 0, none⟩ 1 1 (Pp.cellsC ⟨2, p, ⟨#[]⟩, t, -1⟩) rfl rfl (new_cellsC w3 ⟨2, p, ⟨#[]⟩, t, -1⟩ _) (Pp.cellsC_one _) (by unfold maxLen; omega) (by omega) (by simp; omega) ?_)
      intro v5 w5 ho5 hgr5 hnn5
      have hbel5 : Below w1.heap.size w1 w5 := (hbel3.alloc hbel3.size _).grown hgr5 (by have := hbel3.size; simp; omega) (fun q hq => by simp [Value.ownBlock] at hq)
      have HO5 : Hid (w5.ownsRow w.heap.size 31 5 v5 1 (Pp.cellsC ⟨2, p, ⟨#[]⟩, t, -1⟩)) := (by simpa using ho5 : w5.ownsRow w.heap.size 31 5 v5 1 (Pp.cellsC ⟨2, p, ⟨#[]⟩, t, -1⟩))
      clear ho5 hgr5 hnn5
      go_wp2_with fail
      go_roundw
      case rel => exact ⟨hbel5, Or.inr ⟨by simp, HO5⟩⟩
      case measure => simp [intOf]
    · go_wp2_with fail
      go_ret
      exact ⟨_, rfl, HX.out, hb1.trans (hbel.mono hsz1)⟩
end Go.Proofs.YtfpckmbclnncnaaGreat
namespace Go.Proofs.YtfpckmbclnncnaaGreat
open Go.RowKit Go.Maps Go.WideMaps

set_option maxRecDepth 100000 in
set_option maxHeartbeats 2000000 in
theorem diff_one (p t : ByteArray) (k : Int) (v : Value) (w : World) (hv : Lies w v [⟨p, false, t, k⟩]) (hp : p.size ≤ 1000) (ht : t.size ≤ 1000) (htr : Pp.treeE [⟨p, false, t, k⟩] = 0) :
    Calls Tryz.prog 23 #[.slice none 0 0, v] w fun e w' => ∃ u, e = .returned (.tuple #[u, .int .i64 0]) ∧ w'.ownsRow w.heap.size 31 5 u 1 (Pp.cellsC ⟨2, p, ⟨#[]⟩, t, -1⟩) ∧ Below w.heap.size w w' := by
  obtain ⟨i0, hi0, hz0, hz1, hz2⟩ := info_parts Tryz.infoChg
  have HV := hid hv
  have HT := hid htr
  have HS : Hid (Sized [⟨p, false, t, k⟩]) := (fun e he => by
    have : e = ⟨p, false, t, k⟩ := by simpa using he
    subst this
    exact ⟨by show p.size ≤ _; omega, by show t.size ≤ _; omega⟩ : Sized [⟨p, false, t, k⟩])
  have hpm : p.size ≤ maxLen := by unfold maxLen; omega
  clear hv htr
  go_enter Tryz.func23, Tryz.ntmps23
  go_wp2_with fail
  refine (tcheck_all [] _ _ (lies_nil _) (fun e he => by cases he)).mono ?_
  rintro e w1 ⟨rfl, hb1⟩
  rw [show Pp.treeE [] = 0 from by decide]
  go_wp2_with fail
  refine (tcheck_all _ _ _ (HV.out.below hb1) HS.out).mono ?_
  rintro e w2 ⟨rfl, hb2⟩
  rw [HT.out]
  have hb02 := below_trans hb1 hb2
  clear hb1 hb2
  go_wp2_with fail
  refine (spotOf_nil _).mono ?_
  rintro e w3 ⟨b, rfl, hbb, hob, hb3⟩
  have HOB := hid hob
  have hb03 := below_trans hb02 hb3
  clear hb3 hob
  go_wp2_with fail
  refine (spotOf_one p t k _ _ (HV.out.below hb03) hpm).mono ?_
  rintro e w4 ⟨c, rfl, hcc, hoc, hb4⟩
  have HOC := hid hoc
  have HOB4 := hid (omap_below HOB.out hb4 HOB.out.lt)
  have hb04 := below_trans hb03 hb4
  clear hb4 hoc
  go_wp2_with fail
  refine (deletes_none HOB4.out).mono ?_
  rintro e w5 ⟨rfl, hb5⟩
  have HOB5 := hid (omap_below HOB4.out hb5 HOB4.out.lt)
  have HOC5 := hid (omap_below HOC.out hb5 HOC.out.lt)
  have hb05 := below_trans hb04 hb5
  clear hb5
  go_wp2_with fail
  refine (makes_one HOB5.out HOC5.out hpm).mono ?_
  rintro e w6 ⟨u, rfl, hou, hb6⟩
  have hb06 := below_trans hb05 hb6
  have hsz6 := hb06.size
  have hsz5 := hb05.size
  obtain ⟨g, cap, hu, hgl, hgc⟩ : ∃ g cap, u = .slice (some ⟨g, 0, none⟩) 1 cap ∧ g < w6.heap.size ∧ ∀ j x, (Pp.cellsC ⟨2, p, ⟨#[]⟩, t, -1⟩)[j]? = some x → w6.cell? ((⟨g, 0, none⟩ : Addr).add j) = some x := by
    have hou' := hou
    obtain ⟨hl, h2⟩ := hou
    rcases h2 with ⟨_, hz⟩ | ⟨g, cap, cur, hv, hg, hh, hn, hm, hz, htake⟩
    · cases hz
    · subst hv
      refine ⟨g, cap, rfl, ?_, fun j x hj => ?_⟩
      · rcases Nat.lt_or_ge g w6.heap.size with h | h
        · exact h
        · rw [Array.getElem?_eq_none h] at hh; cases hh
      · have hadd : (⟨g, 0, none⟩ : Addr).add j = ⟨g, j, none⟩ := by unfold Addr.add; split <;> simp_all
        have hlt : j < 1 * 5 := by
          have := (List.getElem?_eq_some_iff.1 hj).1
          simpa [Pp.cellsC] using this
        rw [hadd, hou'.cellAt j hlt]
        exact hj
  subst hu
  have HGC := hid hgc
  clear hou hgc hb6
  go_wp2_with (at_builtin; refine wpList_append_own _ rfl _ _ 23 rfl w.heap.size 31 i0 (.agg #[.int .i64 0, .string ⟨#[]⟩, .string ⟨#[]⟩, .string ⟨#[]⟩, .int .i64 0]) 5 64 Tryz.underlying23 hi0 hz0 hz1 hz2 rfl (by decide) (.slice none 0 0) 0 [] rfl (World.ownsRow_nil _ _ _ _) ⟨g, 0, none⟩ 1 cap (Pp.cellsC ⟨2, p, ⟨#[]⟩, t, -1⟩) rfl rfl HGC.out (Pp.cellsC_one _) (by unfold maxLen; omega) (by omega) (by omega) ?_)
  intro v7 w7 ho7 hgr7 hnn7
  have hb07 : Below w.heap.size w w7 := hb06.grown hgr7 hsz6 (fun q hq => by simp [Value.ownBlock] at hq)
  have HO7 : Hid (w7.ownsRow w.heap.size 31 5 v7 1 (Pp.cellsC ⟨2, p, ⟨#[]⟩, t, -1⟩)) := (by simpa using ho7 : w7.ownsRow w.heap.size 31 5 v7 1 (Pp.cellsC ⟨2, p, ⟨#[]⟩, t, -1⟩))
  clear ho7 hgr7 hnn7
  go_wp2_with fail
  go_ret2
  exact ⟨_, rfl, HO7.out, hb07⟩

set_option maxRecDepth 100000 in
set_option maxHeartbeats 1000000 in
theorem deltaBegun_yes (w : World) : Calls Tryz.prog 8 #[] w fun e w' => e = .returned (.bool true) ∧ Below w.heap.size w w' := by
  have HL : Hid (Lies (w.alloc (.cells #[.string ⟨#[97]⟩, .bool false, .string ⟨#[120]⟩, .int .i64 1] 37)) (.slice (some ⟨w.heap.size, 0, none⟩) 1 1) [⟨⟨#[97]⟩, false, ⟨#[120]⟩, 1⟩]) := (⟨_, 1, rfl, Nat.le_refl _, by simp, fun i hi => by
    have : i = 0 := by simpa using hi
    subst this
    exact ⟨w.heap.size, 0, rfl, by simp, by simp, by simp, by simp, by simp⟩⟩ : Lies (w.alloc (.cells #[.string ⟨#[97]⟩, .bool false, .string ⟨#[120]⟩, .int .i64 1] 37)) (.slice (some ⟨w.heap.size, 0, none⟩) 1 1) [⟨⟨#[97]⟩, false, ⟨#[120]⟩, 1⟩])
  have hbw : Below w.heap.size w (w.alloc (.cells #[.string ⟨#[97]⟩, .bool false, .string ⟨#[120]⟩, .int .i64 1] 37)) := (Below.refl _ _).alloc (Nat.le_refl _) _
  go_enter Tryz.func8, Tryz.ntmps8
  go_wp2_with fail
  refine (diff_one ⟨#[97]⟩ ⟨#[120]⟩ 1 _ _ HL.out (by decide) (by decide) (by decide)).mono ?_
  rintro e w1 ⟨u, rfl, hou, hb1⟩
  have hb01 := hbw.trans (hb1.mono (by simp))
  have hou' := hou
  obtain ⟨hl, h2⟩ := hou
  rcases h2 with ⟨_, hz⟩ | ⟨g, cap, cur, hv, hg, hh, hn, hm, hz, htake⟩
  · cases hz
  subst hv
  have c0 : w1.cell? ⟨g, 0, none⟩ = some (.int .i64 2) := by rw [hou'.cellAt 0 (by decide)]; rfl
  clear hou' hl hh htake hz
  go_wp2_with fail
  go_ret
  exact ⟨rfl, hb01⟩
end Go.Proofs.YtfpckmbclnncnaaGreat
namespace Go.Proofs.YtfpckmbclnncnaaGreat
open Go.RowKit

theorem changeOf_any (L : List En) (v : Value) (k : Int) (p q t : ByteArray) (b n : Int) (w : World) (hv : Lies w v L) (hp : p.size ≤ 1000000000) (hq : q.size ≤ 1000000000) (ht : t.size ≤ 1000000000) (hL : Pp.Good L) (hver : Pp.verE n = 0) :
    Calls Tryz.prog 7 #[v, .agg #[.int .i64 k, .string p, .string q, .string t, .int .i64 b], .int .i64 n] w fun e w' => ∃ u, e = .returned (.tuple #[u, .int .i64 (Pp.appE L ⟨k, p, q, t, b⟩ n)]) ∧ (Pp.appE L ⟨k, p, q, t, b⟩ n = 0 → Lies w' u (Pp.chdR L ⟨k, p, q, t, b⟩ n)) ∧ Below w.heap.size w w' := by
  have hs : ∀ e ∈ L, e.path.size ≤ 1000000000 := fun e he => by
    have := Pp.chk_len (Pp.entE_path (hL.ents e he))
    rw [Lib.size_eq]; omega
  by_cases hc : Pp.chgE ⟨k, p, q, t, b⟩ = 0
  · by_cases hpl : Pp.plcE L ⟨k, p, q, t, b⟩ = 0
    · have hr : Pp.appE L ⟨k, p, q, t, b⟩ n = Pp.rstE L ⟨k, p, q, t, b⟩ n := by
        rw [Pp.appE, if_neg (fun x => x hver), if_neg (fun x => x hc), if_neg (fun x => x hpl)]; rfl
      rw [hr]
      have h4 : 1 ≤ k ∧ k ≤ 4 := Pp.chg_kind hc
      obtain ⟨h0, hcs⟩ := Pp.plc_ok h4 hpl
      have hrest := Pp.chg_rest hc
      rcases hcs with ⟨rfl, hi⟩ | ⟨rfl, hi⟩ | ⟨rfl, j, hj, hi, hx⟩ | ⟨rfl, ⟨j, hj, hi⟩, hx, hi2, hf2⟩ | ⟨rfl, j, hj, hi⟩
      · have ht0 : t = ⟨#[]⟩ := by
          rcases hrest.2.1 with h2 | h2
          · exact absurd (show (1 : Int) = 2 from h2) (by decide)
          · exact Pp.no_text h2
        subst ht0
        exact changeOf_mk L v p q b n w hv hs hp hq hL hc (hid (by simpa [Pp.goal] using h0)) hi
      · exact changeOf_wr L v p q t b n w hv hs hp hq ht hL hc (hid (by simpa [Pp.goal] using h0)) hi
      · exact changeOf_rw L v p q t b n w hv hs hp hq ht hL hc (hid (by simpa [Pp.goal] using h0)) j hj hi hx
      · by_cases hb : b < 0
        · exact changeOf_mv_any L v p q t b n w hv hs hp hq ht hL hc (hid (by simpa [Pp.goal] using h0)) j hj hi hx hi2 hf2 hb
        · exact changeOf_mv_at L v p q t b n w hv hs hp hq ht hL hc (hid (by simpa [Pp.goal] using h0)) j hj hi hx hi2 hf2 (by omega)
      · exact changeOf_del L v p q t b n w hv hs hp hq ht hL hc (hid (by simpa [Pp.goal] using h0)) j hj hi
    · have hr : Pp.appE L ⟨k, p, q, t, b⟩ n = Pp.plcE L ⟨k, p, q, t, b⟩ := Pp.app_plc hver hc hpl
      rw [hr]
      refine (changeOf_place L v k p q t b n w hv hp hq ht hc hpl).mono ?_
      rintro e w1 ⟨rfl, hb⟩
      exact ⟨_, rfl, fun h => absurd h hpl, hb⟩
  · have hr : Pp.appE L ⟨k, p, q, t, b⟩ n = Pp.chgE ⟨k, p, q, t, b⟩ := Pp.app_chg hver hc
    rw [hr]
    refine (changeOf_form L v k p q t b n w hp hq ht hc).mono ?_
    rintro e w1 ⟨rfl, hb⟩
    exact ⟨_, rfl, fun h => absurd h hc, hb⟩
end Go.Proofs.YtfpckmbclnncnaaGreat
namespace Go.Proofs.YtfpckmbclnncnaaGreat
open Go.RowKit

set_option maxHeartbeats 1000000 in
theorem same_yes (L : List En) (v u : Value) (w : World) (hv : Lies w v L) (hu : Lies w u L) :
    Calls Tryz.prog 24 #[v, u] w fun e w' => e = .returned (.bool true) ∧ Below w.heap.size w w' := by
  obtain ⟨a, cap, rfl, hcap, hcap2, hL⟩ := hv
  have HL : Hid (∀ i (h : i < L.length), ∃ b o, a = some ⟨b, o, none⟩ ∧ b < w.heap.size ∧ EnAt w b (o + i * 4) L[i]) := hL
  obtain ⟨a', cap', rfl, hcap', _, hL'⟩ := hu
  have HL' : Hid (∀ i (h : i < L.length), ∃ b o, a' = some ⟨b, o, none⟩ ∧ b < w.heap.size ∧ EnAt w b (o + i * 4) L[i]) := hL'
  clear hL hL'
  go_enter Tryz.func24, Tryz.ntmps24
  go_wp2_with fail
  go_loopw [5] (fun i wr => ∃ k : Nat, k ≤ L.length ∧ i = .int .i64 k ∧ Below w.heap.size w wr) (fun i _ => L.length - (intOf i).toNat)
  case atStart => exact ⟨0, Nat.zero_le _, rfl, Below.refl _ _⟩
  case round =>
    obtain ⟨k, hk, rfl, hbel⟩ := hrel
    by_cases hlt : k < L.length
    · obtain ⟨b, o, rfl, hb, he⟩ := HL.out k hlt
      obtain ⟨b', o', rfl, hb', he'⟩ := HL'.out k hlt
      obtain ⟨c0, c1, c2, c3⟩ := he.below hb hbel
      obtain ⟨d0, d1, d2, d3⟩ := he'.below hb' hbel
      go_wp2_with fail
      go_region
      go_wp2_with fail
      go_roundw
      case rel => exact ⟨k + 1, by omega, by simp, hbel.drew⟩
      case measure => simp [intOf]; omega
    · go_wp2_with fail
      go_ret
      exact ⟨rfl, hbel⟩

set_option maxHeartbeats 1000000 in
theorem treeIs_yes (L M : List En) (v u : Value) (r : Int) (w : World) (hv : Lies w v (Pp.ifz r L)) (hu : r = 0 → Lies w u L) :
    Calls Tryz.prog 9 #[v, .int .i64 r, .int .i64 r, u] w fun e w' => e = .returned (.bool true) ∧ Below w.heap.size w w' := by
  by_cases hr : r = 0
  · rw [Pp.ifz_yes hr] at hv
    have HV := hid hv
    have HU := hid (hu hr)
    clear hv hu
    subst hr
    go_enter Tryz.func9, Tryz.ntmps9
    go_wp2_with fail
    refine (same_yes L v u _ HV.out HU.out).mono ?_
    rintro e w1 ⟨rfl, hb1⟩
    go_wp2
    go_ret
    exact ⟨rfl, hb1⟩
  · rw [Pp.ifz_no hr] at hv
    have HV := hid hv
    have hz : (r == 0) = false := by simpa using hr
    clear hv hu
    go_enter Tryz.func9, Tryz.ntmps9
    go_wp2_with fail
    refine (same_yes [] v _ _ HV.out (lies_nil _)).mono ?_
    rintro e w1 ⟨rfl, hb1⟩
    go_wp2
    go_ret
    exact ⟨rfl, hb1⟩
end Go.Proofs.YtfpckmbclnncnaaGreat
namespace Go.Proofs.YtfpckmbclnncnaaGreat
open Go.RowKit

namespace Pp
theorem run_verP {n : Int} (h : ¬ verE n = 0) (L : List En) {cs : List Ch} (hc : 0 < cs.length) : runF n L cs = (0, 3, []) := by
  cases cs with
  | nil => simp at hc
  | cons c r =>
    have h3 : verE n = 3 := by
      unfold verE at h ⊢
      split
      · rfl
      · rename_i h1; rw [if_neg h1] at h; exact absurd rfl h
    rw [runF, if_neg (by rw [app_ver h]; exact h), app_ver h, h3]
end Pp

set_option maxRecDepth 100000 in
set_option maxHeartbeats 4000000 in
theorem deltaPatches_walk (L : List En) (v : Value) (cs : List Pp.Ch) (u : Value) (n : Int) (w : World) (hv : Lies w v L) (hs : ∀ e ∈ L, e.path.size ≤ 1000000000 ∧ e.text.size ≤ 1000000000) (hu : LiesC w u cs) (hcs : SizedC 1000000000 cs) :
    Calls Tryz.prog 3 #[v, u, .int .i64 n] w fun e w' => e = .returned (.bool true) ∧ Below w.heap.size w w' := by
  have HV := hid hv
  have HU0 := hid hu
  have HCS := hid hcs
  have HCS2 : Hid (SizedC 150000000000000 cs) := (fun c hc => ⟨by have := (hcs c hc).1; omega, by have := (hcs c hc).2.1; omega, by have := (hcs c hc).2.2; omega⟩ : SizedC 150000000000000 cs)
  have HS : Hid (Sized L) := (fun e he => ⟨by have := (hs e he).1; omega, by have := (hs e he).2; omega⟩ : Sized L)
  have HP : Hid (∀ e ∈ L, e.path.size ≤ 1000000000) := (fun e he => (hs e he).1 : ∀ e ∈ L, e.path.size ≤ 1000000000)
  have HRI := hid (Pp.patR_ifz L cs n)
  obtain ⟨a, cap, rfl, hcap, hcap2, hC⟩ := hu
  have HC : Hid (∀ i (h : i < cs.length), ∃ b o, a = some ⟨b, o, none⟩ ∧ b < w.heap.size ∧ ChAt w b (o + i * 5) cs[i]) := hC
  obtain ⟨av, capv, rfl, _⟩ := hv
  clear hs hcs hC
  by_cases htr : Pp.treeE L = 0
  · have HT := hid htr
    by_cases h120 : 120 < cs.length
    · have h120' : 120 < (cs.length : Int) := by omega
      obtain ⟨hE, hR⟩ := Pp.pat_many htr h120 n
      have HE := hid hE
      have HR := hid hR
      clear hE hR htr
      go_enter Tryz.func3, Tryz.ntmps3
      go_wp2_with fail
      refine (patch_any L _ cs _ n _ HV.out HS.out HU0.out HCS2.out).mono ?_
      rintro e w1 ⟨r, rfl, hli, hb1⟩
      rw [HE.out]
      rw [HR.out] at hli
      have HLI := hid hli
      clear hli
      go_wp2_with fail
      refine (rCheckTree_any L _ _ (HV.out.below hb1) HP.out).mono ?_
      rintro e w2 ⟨rfl, hb2⟩
      rw [HT.out]
      have hb02 := below_trans hb1 hb2
      have HLI2 := hid (HLI.out.below hb2)
      clear hb1 hb2
      go_wp2_with fail
      go_loopw [9, 10, 11] (fun y x i wr => y = .int .i64 2 ∧ i = .int .i64 0 ∧ x = .slice av L.length capv ∧ wr = w2) (fun _ _ _ _ => 0)
      case atStart => exact ⟨rfl, rfl, rfl, rfl⟩
      case round =>
        obtain ⟨rfl, rfl, rfl, rfl⟩ := hrel
        go_wp2_with fail
        refine (deltaBegun_yes _).mono ?_
        rintro e w5 ⟨rfl, hb5⟩
        have hb05 := below_trans hb02 hb5
        have HLI5 := hid (HLI2.out.below hb5)
        go_wp2_with fail
        refine (treeIs_yes [] [] r _ 2 _ (by rw [Pp.ifz_no (by decide)]; exact HLI5.out) (fun h => absurd h (by decide))).mono ?_
        rintro e w6 ⟨rfl, hb6⟩
        go_wp2
        go_ret
        exact ⟨rfl, below_trans hb05 hb6⟩
    · have h120' : ¬ 120 < (cs.length : Int) := by omega
      have hg := (Pp.good_iff L).1 htr
      have HG := hid hg
      have HRUN : Hid (∀ k e R, Pp.runF n L cs = (k, e, R) → Pp.patE L cs n = e ∧ Pp.patR L cs n = R) := (fun k e R h => Pp.pat_run htr h120 h : ∀ k e R, Pp.runF n L cs = (k, e, R) → Pp.patE L cs n = e ∧ Pp.patR L cs n = R)
      clear hg htr
      go_enter Tryz.func3, Tryz.ntmps3
      go_wp2_with fail
      refine (patch_any L _ cs _ n _ HV.out HS.out HU0.out HCS2.out).mono ?_
      rintro e w1 ⟨r, rfl, hli, hb1⟩
      rw [HRI.out] at hli
      have HLI := hid hli
      clear hli
      go_wp2_with fail
      refine (rCheckTree_any L _ _ (HV.out.below hb1) HP.out).mono ?_
      rintro e w2 ⟨rfl, hb2⟩
      rw [HT.out]
      have hb02 := below_trans hb1 hb2
      have HLI2 := hid (HLI.out.below hb2)
      clear hb1 hb2
      generalize hyy : Pp.patE L cs n = yy at *
      go_wp2_with fail
      go_loopw [9, 10, 11] (fun y x i wr => Below w2.heap.size w2 wr ∧ ((∃ (k : Nat) (S : List En), k ≤ cs.length ∧ y = .int .i64 0 ∧ i = .int .i64 k ∧ Hid (Lies wr x S) ∧ Hid (Pp.Good S) ∧ Hid (Pp.Left n L cs S k)) ∨ (∃ (k : Nat) (z : Int), k ≤ cs.length ∧ (z == 0) = false ∧ y = .int .i64 z ∧ i = .int .i64 k ∧ Hid (yy = z)))) (fun _ _ i _ => cs.length + 1 - (intOf i).toNat)
      case atStart => exact ⟨Below.refl _ _, Or.inl ⟨0, L, Nat.zero_le _, rfl, rfl, HV.out.below hb02, HG, Pp.left_zero n L cs⟩⟩
      case round =>
        obtain ⟨hbel, ⟨k, S, hk, rfl, rfl, HX, HGS, HLF⟩ | ⟨k, z, hk, hz, rfl, rfl, HZ9⟩⟩ := hrel
        · have hb0r : Below w.heap.size w wr := hb02.trans (hbel.mono hb02.size)
          by_cases hlt : k < cs.length
          · have hlti : (k : Int) < (cs.length : Int) := by omega
            by_cases hver : Pp.verE n = 0
            · have HVE := hid hver
              clear hver
              obtain ⟨b, o, rfl, hb, he⟩ := HC.out k hlt
              have HZ := hid (HCS.out cs[k] (List.getElem_mem hlt))
              have HNX : Hid (Pp.appE S cs[k] n = 0 → Pp.Left n L cs (Pp.chdR S cs[k] n) (k + 1)) := (fun h0 => Pp.left_next HLF.out hlt h0 : Pp.appE S cs[k] n = 0 → Pp.Left n L cs (Pp.chdR S cs[k] n) (k + 1))
              have HST : Hid (¬ Pp.appE S cs[k] n = 0 → Pp.runF n L cs = (k, Pp.appE S cs[k] n, [])) := (fun h0 => Pp.left_stop HLF.out hlt h0 : ¬ Pp.appE S cs[k] n = 0 → Pp.runF n L cs = (k, Pp.appE S cs[k] n, []))
              have HGN : Hid (Pp.appE S cs[k] n = 0 → Pp.Good (Pp.chdR S cs[k] n)) := (fun h0 => Pp.app_good HGS.out h0 : Pp.appE S cs[k] n = 0 → Pp.Good (Pp.chdR S cs[k] n))
              obtain ⟨c0, c1, c2, c3, c4⟩ := he.below hb hb0r
              clear he
              generalize cs[k] = ck at *
              obtain ⟨kk, p, q, t, bs⟩ := ck
              simp only at c0 c1 c2 c3 c4
              go_wp2_with fail
              refine (isVersion_any n _).mono ?_
              rintro e wi ⟨rfl, hw⟩
              rw [hw, HVE.out]
              clear hw wi
              go_wp2_with fail
              refine (changeOf_any S _ kk p q t bs n _ HX.out HZ.out.1 HZ.out.2.1 HZ.out.2.2 HGS.out HVE.out).mono ?_
              rintro e w3 ⟨u3, rfl, hli, hb3⟩
              have HLI3 := hid hli
              have hbel3 := below_trans hbel hb3
              clear hb3 hli c0 c1 c2 c3 c4 hbel
              by_cases h0 : Pp.appE S ⟨kk, p, q, t, bs⟩ n = 0
              · have HN := hid (HNX.out h0)
                have HG3 := hid (HGN.out h0)
                have HL3 := hid (HLI3.out h0)
                rw [h0]
                clear h0 HLI3 HNX HST HGN
                go_wp2_with fail
                go_roundw
                case rel => exact ⟨hbel3, Or.inl ⟨k + 1, _, by omega, rfl, by simp, HL3, HG3, HN⟩⟩
                case measure => simp [intOf]; omega
              · obtain ⟨hE, hR⟩ := HRUN.out _ _ _ (HST.out h0)
                have hzz : (Pp.appE S ⟨kk, p, q, t, bs⟩ n == 0) = false := by simpa using h0
                have HE := hid hE
                clear hE hR h0 HLI3 HNX HST HGN
                go_wp2_with fail
                go_roundw
                case rel => exact ⟨hbel3, Or.inr ⟨k + 1, _, by omega, hzz, rfl, by simp, HE⟩⟩
                case measure => simp [intOf]; omega
            · obtain ⟨hE, hR⟩ := HRUN.out _ _ _ (Pp.run_verP hver L (by omega))
              have hzz : (Pp.verE n == 0) = false := by simpa using hver
              have HE := hid hE
              clear hE hR hver
              go_wp2_with fail
              refine (isVersion_any n _).mono ?_
              rintro e wi ⟨rfl, hw⟩
              rw [hw, hzz]
              clear hw wi
              go_wp2_with fail
              go_roundw
              case rel => exact ⟨hbel, Or.inr ⟨k + 1, 3, by omega, by decide, rfl, by simp, HE⟩⟩
              case measure => simp [intOf]; omega
          · obtain rfl : k = cs.length := by omega
            obtain ⟨hE, hR⟩ := HRUN.out _ _ _ (Pp.left_end HLF.out)
            have hlti : ¬ (cs.length : Int) < (cs.length : Int) := by omega
            subst hE
            have HR := hid hR
            clear hR
            go_wp2_with fail
            refine (deltaBegun_yes _).mono ?_
            rintro e w5 ⟨rfl, hb5⟩
            have hb05 := below_trans hb0r hb5
            have HX5 := hid (HX.out.below hb5)
            have HLI5 : Hid (Lies w5 r (Pp.ifz 0 S)) := (by rw [← HR.out]; exact (HLI2.out.below hbel).below hb5 : Lies w5 r (Pp.ifz 0 S))
            clear hb5
            go_wp2_with fail
            refine (treeIs_yes S [] r _ 0 _ HLI5.out (fun _ => HX5.out)).mono ?_
            rintro e w6 ⟨rfl, hb6⟩
            go_wp2
            go_ret
            exact ⟨rfl, below_trans hb05 hb6⟩
        · have hb0r : Below w.heap.size w wr := hb02.trans (hbel.mono hb02.size)
          have hzn : ¬ z = 0 := by simpa using hz
          have hyz : yy = z := HZ9.out
          subst hyz
          have HZN := hid hzn
          clear hzn HZ9
          by_cases hlt : (k : Int) < (cs.length : Int)
          all_goals
            go_wp2_with fail
            refine (deltaBegun_yes _).mono ?_
            rintro e w5 ⟨rfl, hb5⟩
            have hb05 := below_trans hb0r hb5
            have HLI5 : Hid (Lies w5 r (Pp.ifz yy [])) := (by
              have h := (HLI2.out.below hbel).below hb5
              rw [Pp.ifz_no HZN.out] at h
              rw [Pp.ifz_no HZN.out]
              exact h : Lies w5 r (Pp.ifz yy []))
            clear hb5
            go_wp2_with fail
            refine (treeIs_yes [] [] r _ yy _ HLI5.out (fun h => absurd h HZN.out)).mono ?_
            rintro e w6 ⟨rfl, hb6⟩
            go_wp2
            go_ret
            exact ⟨rfl, below_trans hb05 hb6⟩
  · obtain ⟨hE, hR⟩ := Pp.pat_no htr cs n
    have hz : (Pp.treeE L == 0) = false := by simpa using htr
    have HE := hid hE
    have HR := hid hR
    have HTN := hid htr
    clear hE hR htr
    generalize hyy : Pp.treeE L = yy at *
    go_enter Tryz.func3, Tryz.ntmps3
    go_wp2_with fail
    refine (patch_any L _ cs _ n _ HV.out HS.out HU0.out HCS2.out).mono ?_
    rintro e w1 ⟨r, rfl, hli, hb1⟩
    rw [HE.out]
    rw [HR.out] at hli
    have HLI := hid hli
    clear hli
    go_wp2_with fail
    refine (rCheckTree_any L _ _ (HV.out.below hb1) HP.out).mono ?_
    rintro e w2 ⟨rfl, hb2⟩
    rw [hyy]
    have hb02 := below_trans hb1 hb2
    have HLI2 := hid (HLI.out.below hb2)
    clear hb1 hb2
    go_wp2_with fail
    go_loopw [9, 10, 11] (fun y x i wr => y = .int .i64 yy ∧ i = .int .i64 0 ∧ wr = w2) (fun _ _ _ _ => 0)
    case atStart => exact ⟨rfl, rfl, rfl⟩
    case round =>
      obtain ⟨rfl, rfl, rfl⟩ := hrel
      by_cases hlt : (0 : Int) < (cs.length : Int)
      all_goals
        go_wp2_with fail
        refine (deltaBegun_yes _).mono ?_
        rintro e w5 ⟨rfl, hb5⟩
        have hb05 := below_trans hb02 hb5
        have HLI5 : Hid (Lies w5 r (Pp.ifz yy [])) := (by rw [Pp.ifz_no HTN.out]; exact HLI2.out.below hb5 : Lies w5 r (Pp.ifz yy []))
        clear hb5
        go_wp2_with fail
        refine (treeIs_yes [] [] r _ yy _ HLI5.out (fun h => absurd h HTN.out)).mono ?_
        rintro e w6 ⟨rfl, hb6⟩
        go_wp2
        go_ret
        exact ⟨rfl, below_trans hb05 hb6⟩
end Go.Proofs.YtfpckmbclnncnaaGreat
