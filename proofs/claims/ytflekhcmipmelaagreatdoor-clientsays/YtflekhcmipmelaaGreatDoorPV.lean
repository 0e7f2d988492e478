/- What tree.Apply answers, where a folder is made or a file is written at a path at which nothing is, and nothing stands against it. The function literal of tree.All says yes to all. What tree.All answers of one change, and what the laws' treeBegun answers. What tree.All answers, for every tree and every list of changes. -/
import Derived.Test.YtflekhcmipmelaaGreatDoorPE
import Derived.Test.YtflekhcmipmelaaGreatDoorMA
import Derived.Test.YtflekhcmipmelaaGreatDoorPH
import Derived.Test.YtflekhcmipmelaaGreatDoorPU
set_option linter.unusedSimpArgs false
set_option linter.unusedVariables false
namespace Go.Proofs.YtflekhcmipmelaaGreatDoor
open Go.RowKit

set_option maxHeartbeats 800000 in
theorem tapply_ok (L : List En) (v : Value) (k : Int) (p t : ByteArray) (b n : Int) (w : World) (hv : Lies w v L) (hs : Sized L) (hc : Pp.treeE L = 0) (h : Fits L k p t b n) :
    Calls Tryz.prog 33 #[v, .agg #[.int .i64 k, .string p, .string ⟨#[]⟩, .string t, .int .i64 b], .int .i64 n] w fun e w' => ∃ u, e = .returned (.tuple #[u, .int .i64 0]) ∧ Lies w' u (after L k p t n) ∧ Below w.heap.size w w' := by
  have HV : Hid (Lies w v L) := hv
  have HS : Hid (Sized L) := hs
  have HF : Hid (Fits L k p t b n) := h
  have HC : Hid (Pp.treeE L = 0) := hc
  clear hv hs h hc
  go_enter Tryz.func33, Tryz.ntmps33
  go_wp2_with fail
  refine (tcheck_any L v _ (HV.out.below ((Below.refl _ _).alloc (Nat.le_refl _) _)) (Nat.le_trans HF.out.room (by decide)) HS.out).mono ?_
  rintro e w1 ⟨rfl, hb1⟩
  rw [HC.out]
  obtain ⟨c0, c1, c2, c3, c4, hbw, hlt⟩ := box5 hb1
  go_wp2_with fail
  refine (apply_ok L v k p t b n _ (HV.out.below hbw) HS.out HF.out).mono ?_
  rintro e w5 ⟨u, rfl, hli, hb5⟩
  have HLI : Hid (Lies w5 u (after L k p t n)) := hli
  have hb05 := hbw.trans (hb5.mono (Nat.le_of_lt hlt))
  clear hb1 hb5 hli c0 c1 c2 c3 c4
  go_wp2
  go_ret2
  exact ⟨u, rfl, HLI.out, hb05⟩
end Go.Proofs.YtflekhcmipmelaaGreatDoor
set_option linter.unusedSimpArgs false
set_option linter.unusedVariables false
namespace Go.Proofs.YtflekhcmipmelaaGreatDoor
open Go.RowKit

set_option maxHeartbeats 400000 in
theorem yes1_any (x : En) (w : World) :
    Calls Tryz.prog 42 #[.agg #[.string x.path, .bool x.folder, .string x.text, .int .i64 x.ver]] w fun r w' => r = .returned (.bool true) ∧ Below w.heap.size w w' := by
  go_enter Tryz.func42, Tryz.ntmps42
  go_wp2
  go_ret
  exact ⟨rfl, by first | exact Below.refl _ _ | exact (Below.refl _ _).alloc (Nat.le_refl _) _⟩

theorem yes_tells (w : World) : Tells w 42 #[] (fun _ => true) :=
  ⟨enters_of Tryz.func42 (by kernel_rfl) rfl, fun W hW x hx => yes1_any x W⟩
end Go.Proofs.YtflekhcmipmelaaGreatDoor
set_option linter.unusedSimpArgs false
set_option linter.unusedVariables false
namespace Go.Proofs.YtflekhcmipmelaaGreatDoor
open Go.RowKit

set_option maxHeartbeats 1000000 in
theorem all_one (L : List En) (v : Value) (k : Int) (p t : ByteArray) (b n : Int) (g : Nat) (w : World) (hv : Lies w v L) (hs : Sized L) (hc : Pp.treeE L = 0) (h : Fits L k p t b n) (hg : g < w.heap.size)
    (h0 : w.cell? ⟨g, 0, none⟩ = some (.int .i64 k)) (h1 : w.cell? ⟨g, 1, none⟩ = some (.string p)) (h2 : w.cell? ⟨g, 2, none⟩ = some (.string ⟨#[]⟩)) (h3 : w.cell? ⟨g, 3, none⟩ = some (.string t)) (h4 : w.cell? ⟨g, 4, none⟩ = some (.int .i64 b)) :
    Calls Tryz.prog 22 #[v, .slice (some ⟨g, 0, none⟩) 1 1, .int .i64 n] w fun e w' => ∃ u, e = .returned (.tuple #[u, .int .i64 1, .int .i64 0]) ∧ Lies w' u (after L k p t n) ∧ Below w.heap.size w w' := by
  have HV : Hid (Lies w v L) := hv
  have HS : Hid (Sized L) := hs
  have HF : Hid (Fits L k p t b n) := h
  have HC : Hid (Pp.treeE L = 0) := hc
  have H0 : Hid (w.cell? ⟨g, 0, none⟩ = some (.int .i64 k)) := h0
  have H1 : Hid (w.cell? ⟨g, 1, none⟩ = some (.string p)) := h1
  have H2 : Hid (w.cell? ⟨g, 2, none⟩ = some (.string ⟨#[]⟩)) := h2
  have H3 : Hid (w.cell? ⟨g, 3, none⟩ = some (.string t)) := h3
  have H4 : Hid (w.cell? ⟨g, 4, none⟩ = some (.int .i64 b)) := h4
  clear hv hs h hc h0 h1 h2 h3 h4
  go_enter Tryz.func22, Tryz.ntmps22
  go_wp2_with fail
  refine (tcheck_any L v _ HV.out (Nat.le_trans HF.out.room (by decide)) HS.out).mono ?_
  rintro e w1 ⟨rfl, hb1⟩
  rw [HC.out]
  go_wp2_with fail
  refine (every_any L v _ _ (fun _ => true) _ (HV.out.below hb1) (yes_tells _) (Nat.le_trans HF.out.room (by decide)) HS.out).mono ?_
  rintro e w2 ⟨u, rfl, hou, hnu, hb2⟩
  rw [show L.filter (fun _ => true) = L by simp] at hou
  have HU : Hid (Lies w2 u L) := lies_own hou (Nat.le_trans HF.out.room (by decide))
  have hb02 := hb1.trans (hb2.mono hb1.size)
  clear hou hnu hb1 hb2
  go_wp2_with fail
  go_loopw [10, 26] (fun x i wr => ((i = .int .i64 0 ∧ Hid (Lies wr x L)) ∨ (i = .int .i64 1 ∧ Hid (Lies wr x (after L k p t n)))) ∧ Below w.heap.size w wr) (fun _ i _ => 1 - (intOf i).toNat)
  case atStart => exact ⟨Or.inl ⟨rfl, HU⟩, hb02⟩
  case round =>
    obtain ⟨⟨rfl, HX⟩ | ⟨rfl, HX⟩, hbel⟩ := hrel
    · have c0 := (hbel.cell (p := ⟨g, 0, none⟩) hg).trans H0.out
      have c1 := (hbel.cell (p := ⟨g, 1, none⟩) hg).trans H1.out
      have c2 := (hbel.cell (p := ⟨g, 2, none⟩) hg).trans H2.out
      have c3 := (hbel.cell (p := ⟨g, 3, none⟩) hg).trans H3.out
      have c4 := (hbel.cell (p := ⟨g, 4, none⟩) hg).trans H4.out
      clear hb02
      go_wp2_with fail
      refine (apply_ok L _ k p t b n _ (HX.out.below ((Below.refl _ _).alloc (Nat.le_refl _) _)) HS.out HF.out).mono ?_
      rintro e w3 ⟨u3, rfl, hli, hb3⟩
      obtain ⟨d0, d1, d2, d3, d4, hbw, hlt⟩ := box5 hb3
      have HLI : Hid (Lies w3 u3 (after L k p t n)) := hli
      have hbel3 := below_trans hbel hbw
      clear hb3 hli d0 d1 d2 d3 d4 c0 c1 c2 c3 c4 hbel hbw
      go_wp2_with fail
      go_roundw
      case rel => exact ⟨Or.inr ⟨by simp, HLI⟩, hbel3⟩
      case measure => simp [intOf]
    · clear hb02
      go_wp2_with fail
      go_ret3
      exact ⟨_, rfl, HX.out, hbel⟩

def La : ByteArray := ⟨#[97]⟩
def Lab : ByteArray := ⟨#[97, 47, 98]⟩
def Lx : ByteArray := ⟨#[120]⟩
def T1 : List En := [made 1 La ⟨#[]⟩ 5]
theorem fitsOne1 : Fits [] 1 La ⟨#[]⟩ 0 5 := ⟨Or.inl ⟨rfl, rfl⟩, by decide, by decide, by decide, by decide, by decide, by decide, by decide, rfl, Or.inr rfl, by decide, by decide, List.Pairwise.nil⟩
theorem after1 : after [] 1 La ⟨#[]⟩ 5 = T1 := rfl
theorem fitsOne2 : Fits T1 2 Lab Lx (-1) 6 := ⟨Or.inr rfl, by decide, by decide, by decide, by decide, by decide, by decide, by decide, by decide, Or.inl rfl, by decide, by decide, by simp [T1]⟩
def T2 : List En := [made 1 La ⟨#[]⟩ 5, made 2 Lab Lx 6]
theorem after2 : after T1 2 Lab Lx 6 = T2 := by
  have h1 : Pp.out (made 2 Lab Lx 6) T1 = T1 := by rfl
  have h2 : Pp.lt (made 1 La ⟨#[]⟩ 5) (made 2 Lab Lx 6) = true := by rw [Pp.lt_cfE]; decide
  rw [after, h1, T1, Pp.ins, h2]; rfl
theorem sized0 : Sized [] := fun e he => by cases he
theorem sized1 : Sized T1 := fun e he => by
  rw [T1, List.mem_singleton] at he
  subst he
  exact ⟨by decide, by decide⟩
theorem tree1 : Pp.treeE T1 = 0 := by decide

set_option maxHeartbeats 1000000 in
theorem begun_yes (w : World) : Calls Tryz.prog 20 #[] w fun e w' => e = .returned (.bool true) ∧ Below w.heap.size w w' := by
  go_enter Tryz.func20, Tryz.ntmps20
  go_wp2_with fail
  refine (tapply_ok [] _ 1 La ⟨#[]⟩ 0 5 _ ⟨none, 0, rfl, Nat.le_refl _, by simp, fun i hi => absurd hi (by simp)⟩ sized0 rfl fitsOne1).mono ?_
  rintro e w1 ⟨u, rfl, hli, hb1⟩
  rw [after1] at hli
  have HU : Hid (Lies w1 u T1) := hli
  clear hli
  go_wp2_with fail
  refine (all_one T1 u 2 Lab Lx (-1) 6 w1.heap.size _ (HU.out.below ((Below.refl _ _).alloc (Nat.le_refl _) _)) sized1 tree1 fitsOne2 (by simp) (by simp) (by simp; rfl) (by simp) (by simp; rfl) (by simp)).mono ?_
  rintro e w2 ⟨u2, rfl, hli, hb2⟩
  rw [after2] at hli
  obtain ⟨c0, c1, c2, c3, c4, hbw, hlt⟩ := box5 hb2
  have hbel := hb1.trans (hbw.mono hb1.size)
  obtain ⟨a, cap, rfl, hcap, hcap2, hL⟩ := hli
  obtain ⟨b, o, rfl, hb, he⟩ := hL 0 (by decide)
  obtain ⟨b', o', e', hb', he'⟩ := hL 1 (by decide)
  cases e'
  have k0 : w2.cell? ⟨b, o + 1, none⟩ = some (.bool true) := by have := he.2.1; simpa [T2, made] using this
  have k1 : w2.cell? ⟨b, o + 7, none⟩ = some (.int .i64 6) := by have := he'.2.2.2; simpa [T2, made] using this
  have hlen : T2.length = 2 := rfl
  clear he he' hL hb1 hb2 hbw hlt c0 c1 c2 c3 c4
  rw [hlen] at hcap ⊢
  go_wp2_with fail
  go_ret
  exact ⟨rfl, hbel⟩
end Go.Proofs.YtflekhcmipmelaaGreatDoor
set_option linter.unusedSimpArgs false
set_option linter.unusedVariables false
namespace Go.Proofs.YtflekhcmipmelaaGreatDoor
open Go.RowKit

set_option maxRecDepth 100000 in
set_option maxHeartbeats 2000000 in
theorem tall_any (L : List En) (v : Value) (cs : List Pp.Ch) (u : Value) (n : Int) (w : World) (hv : Lies w v L) (hs : Sized L) (hu : LiesC w u cs) (hcs : SizedC 150000000000000 cs) :
    Calls Tryz.prog 22 #[v, u, .int .i64 n] w fun e w' => ∃ r, e = .returned (.tuple #[r, .int .i64 (Pp.allN L cs n), .int .i64 (Pp.allE L cs n)]) ∧ Lies w' r (Pp.allR L cs n) ∧ Below w.heap.size w w' := by
  have HV := hid hv
  have HS := hid hs
  have HCS := hid hcs
  obtain ⟨a, cap, rfl, hcap, hcap2, hC⟩ := hu
  have HC : Hid (∀ i (h : i < cs.length), ∃ b o, a = some ⟨b, o, none⟩ ∧ b < w.heap.size ∧ ChAt w b (o + i * 5) cs[i]) := hC
  clear hv hs hcs hC
  by_cases htr : Pp.treeE L = 0
  · have HT := hid htr
    by_cases h20 : 20 < cs.length
    · obtain ⟨hE, hN, hR⟩ := Pp.all_many htr h20 n
      rw [hE, hN, hR]
      clear hE hN hR htr
      have h20' : 20 < (cs.length : Int) := by omega
      go_enter Tryz.func22, Tryz.ntmps22
      go_wp2_with fail
      refine (tcheck_all L v _ HV.out HS.out).mono ?_
      rintro e w1 ⟨rfl, hb1⟩
      rw [HT.out]
      go_wp2_with fail
      go_ret3
      exact ⟨_, rfl, lies_nil _, hb1⟩
    · have h20' : ¬ 20 < (cs.length : Int) := by omega
      have hg := (Pp.good_iff L).1 htr
      have HG := hid hg
      have hlen := hg.len
      have HRUN : Hid (∀ k e R, Pp.runF n L cs = (k, e, R) → Pp.allE L cs n = e ∧ Pp.allN L cs n = k ∧ Pp.allR L cs n = R) := (fun k e R h => Pp.all_run htr h20 h : ∀ k e R, Pp.runF n L cs = (k, e, R) → Pp.allE L cs n = e ∧ Pp.allN L cs n = k ∧ Pp.allR L cs n = R)
      clear hg htr
      go_enter Tryz.func22, Tryz.ntmps22
      go_wp2_with fail
      refine (tcheck_all L v _ HV.out HS.out).mono ?_
      rintro e w1 ⟨rfl, hb1⟩
      rw [HT.out]
      go_wp2_with fail
      refine (every_any L v _ _ (fun _ => true) _ (HV.out.below hb1) (yes_tells _) (by omega) HS.out).mono ?_
      rintro e w2 ⟨u, rfl, hou, hnu, hb2⟩
      rw [show L.filter (fun _ => true) = L by simp] at hou
      have HU : Hid (Lies w2 u L) := lies_own hou (by omega)
      have hb02 := hb1.trans (hb2.mono hb1.size)
      clear hou hnu hb1 hb2
      go_wp2_with fail
      go_loopw [10, 26] (fun x i wr => ∃ (k : Nat) (S : List En), k ≤ cs.length ∧ i = .int .i64 k ∧ Hid (Lies wr x S) ∧ Hid (Pp.Good S) ∧ Hid (Pp.Left n L cs S k) ∧ Below w.heap.size w wr) (fun _ i _ => cs.length - (intOf i).toNat)
      case atStart => exact ⟨0, L, Nat.zero_le _, rfl, HU, HG, Pp.left_zero n L cs, hb02⟩
      case round =>
        obtain ⟨k, S, hk, rfl, HX, HGS, HLF, hbel⟩ := hrel
        clear hb02
        by_cases hlt : k < cs.length
        · obtain ⟨b, o, rfl, hb, he⟩ := HC.out k hlt
          obtain ⟨c0, c1, c2, c3, c4⟩ := he.below hb hbel
          have hsz := HCS.out cs[k] (List.getElem_mem hlt)
          have HZ := hid hsz
          have HNX : Hid (Pp.appE S cs[k] n = 0 → Pp.Left n L cs (Pp.chdR S cs[k] n) (k + 1)) := (fun h0 => Pp.left_next HLF.out hlt h0 : Pp.appE S cs[k] n = 0 → Pp.Left n L cs (Pp.chdR S cs[k] n) (k + 1))
          have HST : Hid (¬ Pp.appE S cs[k] n = 0 → Pp.runF n L cs = (k, Pp.appE S cs[k] n, [])) := (fun h0 => Pp.left_stop HLF.out hlt h0 : ¬ Pp.appE S cs[k] n = 0 → Pp.runF n L cs = (k, Pp.appE S cs[k] n, []))
          have HGN : Hid (Pp.appE S cs[k] n = 0 → Pp.Good (Pp.chdR S cs[k] n)) := (fun h0 => Pp.app_good HGS.out h0 : Pp.appE S cs[k] n = 0 → Pp.Good (Pp.chdR S cs[k] n))
          clear he hsz
          generalize cs[k] = ck at *
          obtain ⟨kk, p, q, t, bs⟩ := ck
          simp only at c0 c1 c2 c3 c4
          go_wp2_with fail
          refine (apply_any S _ kk p q t bs n _ (HX.out.below ((Below.refl _ _).alloc (Nat.le_refl _) _)) (Pp.good_sized HGS.out) HZ.out.1 HZ.out.2.1 HZ.out.2.2 HGS.out).mono ?_
          rintro e w3 ⟨u3, rfl, hli, hb3⟩
          obtain ⟨d0, d1, d2, d3, d4, hbw, hlt3⟩ := box5 hb3
          have HLI := hid hli
          have hbel3 := below_trans hbel hbw
          clear hb3 hli d0 d1 d2 d3 d4 c0 c1 c2 c3 c4 hbel hbw
          by_cases h0 : Pp.appE S ⟨kk, p, q, t, bs⟩ n = 0
          · have HN := hid (HNX.out h0)
            have HG3 := hid (HGN.out h0)
            have hR : Pp.appR S ⟨kk, p, q, t, bs⟩ n = Pp.chdR S ⟨kk, p, q, t, bs⟩ n := by rw [Pp.appR, Pp.ifz_yes h0]
            have HL3 : Hid (Lies w3 u3 (Pp.chdR S ⟨kk, p, q, t, bs⟩ n)) := (hR ▸ HLI.out : Lies w3 u3 (Pp.chdR S ⟨kk, p, q, t, bs⟩ n))
            rw [h0]
            clear hR h0 HLI HNX HST HGN
            go_wp2_with fail
            go_roundw
            case rel => exact ⟨k + 1, _, by omega, by simp, HL3, HG3, HN, hbel3⟩
            case measure => simp [intOf]; omega
          · obtain ⟨hE, hN, hR⟩ := HRUN.out _ _ _ (HST.out h0)
            have hz : (Pp.appE S ⟨kk, p, q, t, bs⟩ n == 0) = false := by simpa using h0
            have HE := hid hE
            have HN := hid hN
            have HR := hid hR
            clear hE hN hR h0 HLI HNX HST HGN
            go_wp2_with fail
            go_ret3
            exact ⟨_, by rw [HE.out, HN.out]; rfl, by rw [HR.out]; exact lies_nil _, hbel3⟩
        · obtain rfl : k = cs.length := by omega
          obtain ⟨hE, hN, hR⟩ := HRUN.out _ _ _ (Pp.left_end HLF.out)
          have HE := hid hE
          have HN := hid hN
          have HR := hid hR
          clear hE hN hR
          go_wp2_with fail
          go_ret3
          exact ⟨_, by rw [HE.out, HN.out]; rfl, by rw [HR.out]; exact HX.out, hbel⟩
  · obtain ⟨hE, hN, hR⟩ := Pp.all_no htr cs n
    rw [hE, hN, hR]
    have hz : (Pp.treeE L == 0) = false := by simpa using htr
    clear hE hN hR
    go_enter Tryz.func22, Tryz.ntmps22
    go_wp2_with fail
    refine (tcheck_all L v _ HV.out HS.out).mono ?_
    rintro e w1 ⟨rfl, hb1⟩
    go_wp2_with fail
    go_ret3
    exact ⟨_, rfl, lies_nil _, hb1⟩
end Go.Proofs.YtflekhcmipmelaaGreatDoor
