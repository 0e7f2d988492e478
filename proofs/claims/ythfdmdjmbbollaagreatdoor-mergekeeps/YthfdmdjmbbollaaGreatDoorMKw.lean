/- What the law's kept answers. -/
import Derived.Test.YthfdmdjmbbollaaGreatDoorT12a
import Derived.Test.YthfdmdjmbbollaaGreatDoorPD
import Derived.Deep.DeepCutAuto
set_option linter.unusedSimpArgs false
set_option linter.unusedVariables false
namespace Go.Proofs.YthfdmdjmbbollaaGreatDoor
open Go.RowKit Go.Maps

namespace Mg
/-- The law's look at a path: is there a file with that text? -/
def lookB (L : List En) (p : List UInt8) (t : ByteArray) : Bool := match L.find? (Pp.atB p) with | some x => !x.folder && (x.text.toList == t.toList) | none => false
/-- The three ways of such a look. -/
theorem look_ways (L : List En) (p : List UInt8) (t : ByteArray) : (Pp.idx L p = -1 ∧ lookB L p t = false) ∨ (∃ k, ∃ h : k < L.length, Pp.idx L p = (k : Int) ∧ L[k].folder = true ∧ lookB L p t = false) ∨ ∃ k, ∃ h : k < L.length, Pp.idx L p = (k : Int) ∧ L[k].folder = false ∧ lookB L p t = (L[k].text.toList == t.toList) := by
  rcases Pp.idx_cases L p with ⟨h1, h2⟩ | ⟨k, h, h1, h2⟩
  · exact Or.inl ⟨h1, by rw [lookB, h2]⟩
  · cases hf : L[k].folder with
    | true => exact Or.inr (Or.inl ⟨k, h, h1, hf, by rw [lookB, h2]; simp [hf]⟩)
    | false => exact Or.inr (Or.inr ⟨k, h, h1, hf, by rw [lookB, h2]; simp [hf]⟩)
/-- What the law asks of one entry. -/
def Ask (B X : List En) (C : CC) (e : En) : Prop := e.folder = true ∨ lookB B e.path.data.toList e.text = true ∨ lookB X e.path.data.toList e.text = true ∨ ∃ c ∈ C, c.1.data.toList = e.path.data.toList ∧ lookB X c.2.data.toList e.text = true
end Mg

set_option maxRecDepth 100000 in
set_option maxHeartbeats 4000000 in
theorem kept_any (B S X : List En) (C : Mg.CC) (vb vs vx vc : Value) (w : World) (hB : Lies w vb B) (hS : Lies w vs S) (hX : Lies w vx X) (hC : LiesK w vc C) (hk : ∀ e ∈ S, Mg.Ask B X C e) :
    Calls Tryz.prog 19 #[vb, vs, vx, vc] w fun e w' => e = .returned (.bool true) ∧ Below w.heap.size w w' := by
  have HB := hid hB
  have HS := hid hS
  have HX := hid hX
  have HC := hid hC
  have HK := hid hk
  obtain ⟨ab, cb, rfl, kb1, kb2, hEB⟩ := hB
  obtain ⟨as1, cs, rfl, ks1, ks2, hES⟩ := hS
  obtain ⟨ax, cx, rfl, kx1, kx2, hEX⟩ := hX
  obtain ⟨ac, cc, rfl, kc1, kc2, hEC⟩ := hC
  have HEB := hid hEB
  have HES := hid hES
  have HEX := hid hEX
  have HEC := hid hEC
  clear hEB hES hEX hEC hk
  go_enter Tryz.func19, Tryz.ntmps19
  go_wp2_with fail
  go_loopw [9] (fun x wr => ∃ i : Nat, i ≤ S.length ∧ x = .int .i64 i ∧ Below w.heap.size w wr) (fun x _ => S.length - (intOf x).toNat)
  case atStart => exact ⟨0, Nat.zero_le _, rfl, Below.refl _ _⟩
  case round =>
    obtain ⟨i, hi, rfl, hbel⟩ := hrel
    by_cases hlt : i < S.length
    · have hlt' : (i : Int) < S.length := by omega
      obtain ⟨bs, os, rfl, hbs, he⟩ := HES.out i hlt
      obtain ⟨c0, c1, c2, c3⟩ := he.below hbs hbel
      have HASK := hid (HK.out S[i] (List.getElem_mem hlt))
      clear he
      generalize S[i] = y at *
      obtain ⟨wz, hwz⟩ : ∃ wz, wz = wr.alloc (.cells #[.string y.path, .bool y.folder, .string y.text, .int .i64 y.ver] 49) := ⟨_, rfl⟩
      have hbz : Below wr.heap.size wr wz := by rw [hwz]; exact (Below.refl _ _).alloc (Nat.le_refl _) _
      have HXZ : Hid (Cs wz wr.heap.size [.string y.path, .bool y.folder, .string y.text, .int .i64 y.ver]) := (by rw [hwz]; exact Cs.new _ [.string y.path, .bool y.folder, .string y.text, .int .i64 y.ver] _ : Cs wz wr.heap.size [.string y.path, .bool y.folder, .string y.text, .int .i64 y.ver])
      have hbelz : Below w.heap.size w wz := hbel.trans (hbz.mono hbel.size)
      cases hf : y.folder with
      | true =>
        rw [hf] at c1
        go_wp2_with fail
        go_roundw
        case rel => exact ⟨i + 1, by omega, rfl, (hbel.alloc hbel.size _)⟩
        case measure =>
          simp [intOf]
          omega
      | false =>
        rw [hf] at c1 hwz HXZ
        go_wp2_with fail
        rw [← hwz]
        clear hwz c0 c1 c2 c3
        have HASK2 : Hid (Mg.lookB B y.path.data.toList y.text = false → Mg.lookB X y.path.data.toList y.text = true ∨ ∃ c ∈ C, c.1.data.toList = y.path.data.toList ∧ Mg.lookB X c.2.data.toList y.text = true) := (fun h0 => by
          rcases HASK.out with h | h | h
          · rw [hf] at h; cases h
          · rw [h0] at h; cases h
          · exact h : Mg.lookB B y.path.data.toList y.text = false → Mg.lookB X y.path.data.toList y.text = true ∨ ∃ c ∈ C, c.1.data.toList = y.path.data.toList ∧ Mg.lookB X c.2.data.toList y.text = true)
        refine (entryAt_any B _ y.path _ (HB.out.below hbelz)).mono ?_
        rintro e w2 ⟨rfl, hb2⟩
        have hbel2 := hbelz.trans (hb2.mono hbelz.size)
        have HX2 := hid (HXZ.out.below hb2)
        have HXd := hid (HX2.out.below (Below.refl _ _).drew)
        have hbd := hbel2.drew
        clear HASK
        go_upto_region 7 with fail
        go_cut [0, 11, 51] (fun s0 k t wx => s0 = .slice ab B.length cb ∧ t = .bool (Mg.lookB B y.path.data.toList y.text) ∧ Hid (Cs wx wr.heap.size [.string y.path, .bool false, .string y.text, .int .i64 y.ver]) ∧ Below w.heap.size w wx)
        case first =>
          have x0 := HX2.out.cell 0 rfl
          have x2 := HX2.out.cell 2 rfl
          rcases Mg.look_ways B y.path.data.toList y.text with ⟨z1, z2⟩ | ⟨k, hk1, z1, z2, z3⟩ | ⟨k, hk1, z1, z2, z3⟩
          · have HZ := hid z2
            rw [z1]
            clear z1 z2 HASK2
            go_region
            all_goals
              go_wp2_with fail
              go_meet
              case rel => exact ⟨rfl, by rw [HZ.out], HXd, hbd⟩
          · have HZ := hid z3
            rw [z1]
            obtain ⟨bb, ob, e8, hbb, heb⟩ := HEB.out k hk1
            obtain ⟨d0, d1, d2, d3⟩ := heb.below hbb hbel2
            rw [z2] at d1
            rw [e8]
            have hk2 : (k : Int) < B.length := by omega
            have hk3 : (0 : Int) ≤ k := by omega
            clear z1 z2 z3 heb HASK2
            go_region
            all_goals
              go_wp2_with fail
              go_meet
              case rel => exact ⟨by rw [e8], by rw [HZ.out], HXd, hbd⟩
          · have HZ := hid z3
            obtain ⟨bb, ob, e8, hbb, heb⟩ := HEB.out k hk1
            obtain ⟨d0, d1, d2, d3⟩ := heb.below hbb hbel2
            rw [z2] at d1
            rw [z1]
            rw [e8]
            have hk2 : (k : Int) < B.length := by omega
            have hk3 : (0 : Int) ≤ k := by omega
            clear z1 z2 z3 heb HASK2
            go_region
            all_goals
              go_wp2_with fail
              go_meet
              case rel => exact ⟨by rw [e8], by rw [HZ.out], HXd, hbd⟩
        case rest =>
          obtain ⟨rfl, rfl, HX2, hbel2⟩ := hcut
          cases hZ : Mg.lookB B y.path.data.toList y.text with
          | true =>
            clear HASK2
            go_wp2_with fail
            go_roundw
            case rel => exact ⟨i + 1, by omega, rfl, hbel2⟩
            case measure =>
              simp [intOf]
              omega
          | false =>
            have HNX := hid (HASK2.out hZ)
            clear HASK2 hZ
            have x9 := HX2.out.cell 0 rfl
            go_wp2_with fail
            refine (entryAt_any X _ y.path _ (HX.out.below hbel2)).mono ?_
            rintro e w3 ⟨rfl, hb3⟩
            have hbel3 : Below w.heap.size w w3 := hbel2.trans (hb3.mono hbel2.size)
            have HX3 := hid (HX2.out.below hb3)
            have HXd := hid (HX3.out.below (Below.refl _ _).drew)
            have hbd := hbel3.drew
            clear x9
            go_upto_if 57 with fail
            go_cut [2, 12, 13] (fun s2 f k wx => s2 = .slice ax X.length cx ∧ ∃ b0 : Bool, f = .bool b0 ∧ Hid (Cs wx wr.heap.size [.string y.path, .bool false, .string y.text, .int .i64 y.ver]) ∧ Hid (b0 = false → Mg.lookB X y.path.data.toList y.text = false) ∧ Below w.heap.size w wx)
            case first =>
              have x0 := HX3.out.cell 0 rfl
              have x2 := HX3.out.cell 2 rfl
              rcases Mg.look_ways X y.path.data.toList y.text with ⟨z1, z2⟩ | ⟨m, hm1, z1, z2, z3⟩ | ⟨m, hm1, z1, z2, z3⟩
              · rw [z1]
                have HL1 := hid z2
                clear z1 z2
                go_wp2_with fail
                go_meet
                case rel => exact ⟨rfl, false, rfl, HX3, (fun _ => HL1.out : false = false → _), hbel3⟩
              · rw [z1]
                have HL1 := hid z3
                obtain ⟨bx, ox, e8, hbx, hex⟩ := HEX.out m hm1
                obtain ⟨g0, g1, g2, g3⟩ := hex.below hbx hbel3
                rw [z2] at g1
                rw [e8]
                have hm2 : (m : Int) < X.length := by omega
                have hm3 : (0 : Int) ≤ m := by omega
                clear z1 z2 z3 hex
                go_wp2_with fail
                go_region
                all_goals
                  go_wp2_with fail
                  go_meet
                  case rel => exact ⟨by rw [e8], false, rfl, HXd, (fun _ => HL1.out : false = false → _), hbd⟩
              · rw [z1]
                have HL1 : Hid ((X[m].text.toList == y.text.toList) = false → Mg.lookB X y.path.data.toList y.text = false) := (fun h => z3.trans h : (X[m].text.toList == y.text.toList) = false → Mg.lookB X y.path.data.toList y.text = false)
                obtain ⟨bx, ox, e8, hbx, hex⟩ := HEX.out m hm1
                obtain ⟨g0, g1, g2, g3⟩ := hex.below hbx hbel3
                rw [z2] at g1
                rw [e8]
                have hm2 : (m : Int) < X.length := by omega
                have hm3 : (0 : Int) ≤ m := by omega
                clear z1 z2 z3 hex
                go_wp2_with fail
                go_region
                all_goals
                  go_wp2_with fail
                  go_meet
                  case rel => exact ⟨by rw [e8], _, rfl, HXd, HL1, hbd⟩
            case rest =>
              obtain ⟨rfl, b0, rfl, HXL, HL1, hbL⟩ := hcut
              have x0 := HXL.out.cell 0 rfl
              have x2 := HXL.out.cell 2 rfl
              go_wp2_with fail
              go_loopw [12, 14] (fun f x wi => ∃ (j : Nat) (b : Bool), j ≤ C.length ∧ f = .bool b ∧ x = .int .i64 j ∧ Hid (b = false → Mg.lookB X y.path.data.toList y.text = false ∧ ∀ j' (h : j' < C.length), j' < j → ¬ (C[j'].1.data.toList = y.path.data.toList ∧ Mg.lookB X C[j'].2.data.toList y.text = true)) ∧ Hid (Cs wi wr.heap.size [.string y.path, .bool false, .string y.text, .int .i64 y.ver]) ∧ Below w.heap.size w wi) (fun _ x _ => C.length - (intOf x).toNat)
              case atStart => exact ⟨0, b0, Nat.zero_le _, rfl, rfl, (fun h => ⟨HL1.out h, fun j' _ hj => absurd hj (Nat.not_lt_zero _)⟩ : b0 = false → Mg.lookB X y.path.data.toList y.text = false ∧ ∀ j' (h : j' < C.length), j' < 0 → ¬ (C[j'].1.data.toList = y.path.data.toList ∧ Mg.lookB X C[j'].2.data.toList y.text = true)), HXL, hbL⟩
              case round =>
                obtain ⟨j, b, hj, rfl, rfl, HREL, HXi, hbi⟩ := hrel
                clear x0 x2
                have x0 := HXi.out.cell 0 rfl
                have x2 := HXi.out.cell 2 rfl
                cases b with
                | true =>
                  by_cases hjl : j < C.length
                  · have hjl' : (j : Int) < C.length := by omega
                    go_wp2_with fail
                    go_roundw
                    case rel => exact ⟨i + 1, by omega, rfl, hbi⟩
                    case measure =>
                      simp [intOf]
                      omega
                  · have hjl' : ¬ (j : Int) < C.length := by omega
                    go_wp2_with fail
                    go_roundw
                    case rel => exact ⟨i + 1, by omega, rfl, hbi⟩
                    case measure =>
                      simp [intOf]
                      omega
                | false =>
                  by_cases hjl : j < C.length
                  · have hjl' : (j : Int) < C.length := by omega
                    obtain ⟨bc, oc, rfl, hbc, q0, q1⟩ := HEC.out j hjl
                    have p0 := (hbi.cell (p := ⟨bc, oc + j * 2, none⟩) hbc).trans q0
                    have p1 := (hbi.cell (p := ⟨bc, oc + j * 2 + 1, none⟩) hbc).trans q1
                    have HST : Hid (∀ b' : Bool, (b' = false → ¬ (C[j].1.data.toList = y.path.data.toList ∧ Mg.lookB X C[j].2.data.toList y.text = true)) → b' = false → Mg.lookB X y.path.data.toList y.text = false ∧ ∀ j' (h : j' < C.length), j' < j + 1 → ¬ (C[j'].1.data.toList = y.path.data.toList ∧ Mg.lookB X C[j'].2.data.toList y.text = true)) := (fun b' h1 h2 => ⟨(HREL.out rfl).1, fun j' hj' hlt => by
                      by_cases e : j' = j
                      · subst e; exact h1 h2
                      · exact (HREL.out rfl).2 j' hj' (by omega)⟩ : ∀ b' : Bool, (b' = false → ¬ (C[j].1.data.toList = y.path.data.toList ∧ Mg.lookB X C[j].2.data.toList y.text = true)) → b' = false → Mg.lookB X y.path.data.toList y.text = false ∧ ∀ j' (h : j' < C.length), j' < j + 1 → ¬ (C[j'].1.data.toList = y.path.data.toList ∧ Mg.lookB X C[j'].2.data.toList y.text = true))
                    clear q0 q1
                    generalize C[j] = c at *
                    obtain ⟨cp, ca⟩ := c
                    simp only at p0 p1 HST
                    go_wp2_with fail
                    refine (entryAt_any X _ ca _ (HX.out.below hbi)).mono ?_
                    rintro e w4 ⟨rfl, hb4⟩
                    have hbi4 := hbi.trans (hb4.mono hbi.size)
                    have HX4 := hid (HXi.out.below hb4)
                    have hbcr := Nat.lt_of_lt_of_le hbc hbi.size
                    have p2 := (hb4.cell (p := ⟨bc, oc + j * 2, none⟩) hbcr).trans p0
                    clear x0 x2 p0 p1
                    have x0 := HX4.out.cell 0 rfl
                    have x2 := HX4.out.cell 2 rfl
                    by_cases hpe : cp.data.toList = y.path.data.toList
                    · have hpe' : (cp.toList == y.path.toList) = true := by rw [Lib.toList_data, Lib.toList_data, hpe]; simp
                      rcases Mg.look_ways X ca.data.toList y.text with ⟨z1, z2⟩ | ⟨n, hn1, z1, z2, z3⟩ | ⟨n, hn1, z1, z2, z3⟩
                      · have HR1 := hid (HST.out false (fun _ h => by rw [z2] at h; cases h.2) rfl)
                        rw [z1]
                        clear z1 z2 HST
                        go_wp2_with fail
                        go_region
                        all_goals
                          go_wp2_with fail
                          go_roundw
                          case rel => exact ⟨j + 1, false, by omega, rfl, rfl, (fun _ => HR1.out : false = false → _), hid ((HX4.out.below (Below.refl _ _).drew)), hbi4.drew⟩
                          case measure =>
                            simp [intOf]
                            omega
                      · have HR1 := hid (HST.out false (fun _ h => by rw [z3] at h; cases h.2) rfl)
                        rw [z1]
                        obtain ⟨bx2, ox2, e9, hbx2, hex2⟩ := HEX.out n hn1
                        first | subst e9 | (injection e9 with e9; injection e9 with e9a e9b _; subst e9a e9b)
                        obtain ⟨g0, g1, g2, g3⟩ := hex2.below hbx2 hbi4
                        rw [z2] at g1
                        have hn2 : (n : Int) < X.length := by omega
                        have hn3 : (0 : Int) ≤ n := by omega
                        clear z1 z2 z3 hex2 HST
                        go_wp2_with fail
                        go_region
                        all_goals
                          go_wp2_with fail
                          go_region
                          all_goals
                            go_wp2_with fail
                            go_roundw
                            case rel => exact ⟨j + 1, false, by omega, rfl, rfl, (fun _ => HR1.out : false = false → _), hid (((HX4.out.below (Below.refl _ _).drew).below (Below.refl _ _).drew)), hbi4.drew.drew⟩
                            case measure =>
                              simp [intOf]
                              omega
                      · have HR1 := hid (HST.out (X[n].text.toList == y.text.toList) (fun h0 h => by rw [z3, h0] at h; cases h.2))
                        rw [z1]
                        obtain ⟨bx2, ox2, e9, hbx2, hex2⟩ := HEX.out n hn1
                        first | subst e9 | (injection e9 with e9; injection e9 with e9a e9b _; subst e9a e9b)
                        obtain ⟨g0, g1, g2, g3⟩ := hex2.below hbx2 hbi4
                        rw [z2] at g1
                        have hn2 : (n : Int) < X.length := by omega
                        have hn3 : (0 : Int) ≤ n := by omega
                        clear z1 z2 z3 hex2 HST
                        go_wp2_with fail
                        go_region
                        all_goals
                          go_wp2_with fail
                          go_region
                          all_goals
                            go_wp2_with fail
                            go_roundw
                            case rel => exact ⟨j + 1, _, by omega, rfl, rfl, HR1, hid (((HX4.out.below (Below.refl _ _).drew).below (Below.refl _ _).drew)), hbi4.drew.drew⟩
                            case measure =>
                              simp [intOf]
                              omega
                    · have hpe' : (cp.toList == y.path.toList) = false := by rw [Lib.toList_data, Lib.toList_data]; simpa using hpe
                      have HR1 := hid (HST.out false (fun _ h => hpe h.1) rfl)
                      clear HST
                      generalize Pp.idx X ca.data.toList = ix at *
                      go_wp2_with fail
                      go_region
                      all_goals
                        go_wp2_with fail
                        go_roundw
                        case rel => exact ⟨j + 1, false, by omega, rfl, rfl, (fun _ => HR1.out : false = false → _), hid ((HX4.out.below (Below.refl _ _).drew)), hbi4.drew⟩
                        case measure =>
                          simp [intOf]
                          omega
                  · exfalso
                    obtain ⟨h1, h2⟩ := HREL.out rfl
                    rcases HNX.out with h | ⟨c, hc, h3, h4⟩
                    · rw [h1] at h; cases h
                    · obtain ⟨j', hj', rfl⟩ := List.getElem_of_mem hc
                      exact h2 j' hj' (by omega) ⟨h3, h4⟩
    · have hie : i = S.length := by omega
      subst hie
      go_wp2_with fail
      go_ret
      exact ⟨rfl, hbel⟩
end Go.Proofs.YthfdmdjmbbollaaGreatDoor
