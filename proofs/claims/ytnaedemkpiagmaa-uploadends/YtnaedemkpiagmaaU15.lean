/- How uploads begin: one is opened, a text is appended, and it is finished. -/
import Derived.Test.YtnaedemkpiagmaaU14
set_option linter.unusedSimpArgs false
set_option linter.unusedVariables false
namespace Go.Proofs.Ytnaedemkpiagmaa
open Go.RowKit

namespace Ub
def ba : ByteArray := ⟨#[97]⟩
def bxy : ByteArray := ⟨#[120, 121]⟩
def s1 : Se := Pp.newS 1 ba 2 5
def s2 : Se := Pp.moreS s1 bxy 6
theorem tl (b : ByteArray) : b.toList = b.data.toList := Lib.toList_data b
theorem g0 : Pp.goE [] 1 5 10 0 [ba] = 0 := by decide
theorem sw0 : Pp.swL 0 [] = [] := rfl
theorem tk0 : Pp.takS (Pp.swL 0 []) ba + 2 ≤ 10 := by decide
theorem n1 : Pp.seE 2 s1 = 0 := by decide
theorem own1 : Pp.takS [s1] s1.wh ≤ 10 := by simp [Pp.takS, s1, Pp.newS]
theorem u1 : Pp.uchE [s1] 2 5 10 = 0 := by
  have h1 : Pp.bndE [s1].length 2 5 10 = 0 := by decide
  have h2 : Pp.sesE 2 [s1] = 0 := by rw [Pp.sesE, if_pos n1]; rfl
  rw [Pp.uch_ro h1 h2 rfl]
  exact (Pp.ro_yes fun j hj => by
    have : j = 0 := by simp at hj; exact hj
    subst this
    exact own1).symm
theorem sw1 : Pp.swL 1 [s1] = [s1] := rfl
theorem m1 : Pp.mine 1 ba s1 = true := by simp [Pp.mine, s1, Pp.newS]
theorem i1 : Pp.idS [s1] (Pp.mine 1 ba) = ((0 : Nat) : Int) := (Pp.idS_hit (by decide) (fun j _ h => absurd h (by omega)) m1).symm
theorem go1 : Pp.goE [s1] 2 5 10 1 [ba] = 0 := by
  rw [Pp.goE, if_pos u1]; decide
theorem f1 : Pp.fiE [s1] 2 5 10 ba 1 1 = 0 := by
  rw [Pp.fiE, if_pos go1, sw1, i1]; decide
theorem e1 : Pp.enB s1.tx 0 bxy = false := by
  have : (s1.tx.extract 0 s1.tx.size).toList = [] := by rw [tl]; rfl
  rw [Pp.enB]
  simp only [Int.toNat_zero, this, tl, bxy]
  simp
theorem tx2 : s2.tx = bxy := rfl
theorem n2 : Pp.seE 2 s2 = 0 := by decide
theorem own2 : Pp.takS [s2] s2.wh ≤ 10 := by simp [Pp.takS, s2, s1, Pp.newS, Pp.moreS]
theorem u2 : Pp.uchE [s2] 2 5 10 = 0 := by
  have h1 : Pp.bndE [s2].length 2 5 10 = 0 := by decide
  have h2 : Pp.sesE 2 [s2] = 0 := by rw [Pp.sesE, if_pos n2]; rfl
  rw [Pp.uch_ro h1 h2 rfl]
  exact (Pp.ro_yes fun j hj => by
    have : j = 0 := by simp at hj; exact hj
    subst this
    exact own2).symm
theorem sw2 : Pp.swL 2 [s2] = [s2] := rfl
theorem m2 : Pp.mine 1 ba s2 = true := by simp [Pp.mine, s2, s1, Pp.newS, Pp.moreS]
theorem i2 : Pp.idS [s2] (Pp.mine 1 ba) = ((0 : Nat) : Int) := (Pp.idS_hit (by decide) (fun j _ h => absurd h (by omega)) m2).symm
theorem go2 : Pp.goE [s2] 2 5 10 2 [ba] = 0 := by
  rw [Pp.goE, if_pos u2]; decide
theorem f2 : Pp.fiE [s2] 2 5 10 ba 1 2 = 0 := by
  rw [Pp.fiE, if_pos go2, sw2, i2]; decide
theorem z1 : SizedS [s1] := fun g hg => by
  have : g = s1 := by simpa using hg
  subst this
  exact ⟨by decide, by decide⟩
theorem z2 : SizedS [s2] := fun g hg => by
  have : g = s2 := by simpa using hg
  subst this
  exact ⟨by decide, by decide⟩
end Ub

set_option maxRecDepth 100000 in
set_option maxHeartbeats 2000000 in
theorem uploadBegun_yes (w : World) : Calls Try.prog 9 #[] w fun e w' => e = .returned (.bool true) ∧ Below w.heap.size w w' := by
  go_enter Try.func9, Try.ntmps9
  go_wp2_with fail
  refine (open_k [] _ 1 5 10 Ub.ba 2 0 _ (liesS_nil _) (fun g hg => by cases hg) (by decide) Ub.g0 (by decide) (by decide) (by decide) (by decide) Ub.tk0).mono ?_
  rintro e w1 ⟨u1, rfl, hown1, hb1⟩
  have HO1 : Hid (OwnS w.heap.size w1 u1 [Ub.s1]) := hown1
  clear hown1
  obtain ⟨a1, cap1, rfl, _⟩ := HO1.out.lies (by decide)
  obtain ⟨wz, hwz⟩ : ∃ wz, wz = w1.alloc (.cells #[.slice a1 1 cap1, .int .i64 2, .int .i64 5, .int .i64 10] 24) := ⟨_, rfl⟩
  have hbz : Below w1.heap.size w1 wz := by rw [hwz]; exact (Below.refl _ _).alloc (Nat.le_refl _) _
  have HUZ : Hid (Bx wz w1.heap.size (.slice a1 1 cap1) (.int .i64 2) (.int .i64 5) (.int .i64 10)) := (by rw [hwz]; exact Bx.new _ _ _ _ _ _ : Bx wz w1.heap.size (.slice a1 1 cap1) (.int .i64 2) (.int .i64 5) (.int .i64 10))
  have HOZ := ghid (HO1.out.below hbz)
  have hb0z := below_trans hb1 hbz
  have hszz : wz.heap.size = w1.heap.size + 1 := by rw [hwz]; simp
  clear hbz
  go_wp2_with fail
  rw [← hwz]
  clear hwz
  refine (append_k [Ub.s1] _ 2 5 10 Ub.ba 1 0 Ub.bxy 1 _ (HOZ.out.lies (by decide)) Ub.z1 (by decide) Ub.f1 0 (by decide) Ub.i1 (by decide) Ub.e1 rfl (by decide)).mono ?_
  rintro e w2 ⟨u2, rfl, hown2, hb2⟩
  rw [show ((((Pp.swL 1 [Ub.s1])[0]).tx.size : Int) + Ub.bxy.size) = 2 from rfl]
  have HO2 : Hid (OwnS wz.heap.size w2 u2 [Ub.s2]) := hown2
  clear hown2
  obtain ⟨a2, cap2, rfl, _⟩ := HO2.out.lies (by decide)
  obtain ⟨hUb, ⟨c0, c1, c2, c3⟩, f0, f1, f2, f3⟩ := HUZ.out.below hb2
  have hb02 := below_trans hb0z hb2
  obtain ⟨wq, hwq⟩ : ∃ wq, wq = ((((w2.setCell ⟨w1.heap.size, 0, none⟩ (.slice a2 1 cap2)).setCell ⟨w1.heap.size, 1, none⟩ (.int .i64 2)).setCell ⟨w1.heap.size, 2, none⟩ (.int .i64 5)).setCell ⟨w1.heap.size, 3, none⟩ (.int .i64 10)) := ⟨_, rfl⟩
  have hnbq : w2.grownBy wq (some w1.heap.size) := by rw [hwq]; exact Nb.set4 _ _ _ _ _ _
  have HOQ := ghid (HO2.out.nb hnbq (by omega))
  have hb0q : Below w.heap.size w wq := hb02.trans (Nb.to hnbq hb02.size hb1.size)
  clear hnbq
  go_wp2_with fail
  rw [← hwq]
  clear hwq c0 c1 c2 c3 f0 f1 f2 f3
  refine (finish_k [Ub.s2] _ 2 5 10 Ub.ba 1 2 _ (HOQ.out.lies (by decide)) Ub.z2 (by decide) Ub.f2 0 (by decide) Ub.i2 (by decide)).mono ?_
  rintro e w3 ⟨u3, rfl, hown3, hb3⟩
  rw [show ((Pp.swL 2 [Ub.s2])[0]).tx = Ub.bxy from rfl]
  obtain ⟨a3, cap3, rfl, _⟩ := hown3.lies (by decide)
  have hb03 := below_trans hb0q hb3
  have hxy : (Ub.bxy.toList == (⟨#[120, 121]⟩ : ByteArray).toList) = true := by simp [Ub.bxy]
  clear hown3 hb3
  go_wp2_with fail
  go_ret
  exact ⟨Pp.ret_bool (by first | exact hxy | simp [Ub.bxy, Ub.tl]), hb03.alloc hb03.size _⟩
end Go.Proofs.Ytnaedemkpiagmaa
