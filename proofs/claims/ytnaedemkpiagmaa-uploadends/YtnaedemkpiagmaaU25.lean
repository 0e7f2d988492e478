/- For the law UploadWhole: what the laws' choose answers; what is told of one session whose text comes in pieces. -/
import Derived.Test.YtnaedemkpiagmaaU22
import Derived.Test.YtnaedemkpiagmaaU19
import Derived.Test.YtnaedemkpiagmaaU14
set_option linter.unusedSimpArgs false
set_option linter.unusedVariables false
namespace Go.Proofs.Ytnaedemkpiagmaa
open Go.RowKit

namespace Pp
def chP (c : Int) : Int := if c < 0 then -(c + 1) else c
theorem chP_nonneg (c : Int) : 0 ≤ chP c := by rw [chP]; split <;> omega
def chF (c n : Int) : Int := (chP c).tmod n
theorem chF_lt {c n : Int} (hn : 0 < n) : 0 ≤ chF c n ∧ chF c n < n := by
  have h := chP_nonneg c
  rw [chF]
  exact ⟨Int.tmod_nonneg _ h, Int.tmod_lt_of_pos _ hn⟩
/-- The one session: number 7, so much of the text. -/
def who1 (p t : ByteArray) (at_ : Nat) (till : Int) : Se := ⟨7, p, t.extract 0 at_, t.size, till⟩
theorem ext_app (t : ByteArray) {a b : Nat} (h : a ≤ b) : t.extract 0 a ++ t.extract a b = t.extract 0 b := by
  apply ByteArray.ext
  simp only [ByteArray.data_append, ByteArray.data_extract]
  rw [Array.extract_append_extract]
  simp [Nat.max_eq_right h]
theorem ext_ext (t : ByteArray) {a b : Nat} (h : b ≤ t.size) : (t.extract 0 b).extract a b = t.extract a b := by
  apply ByteArray.ext
  simp only [ByteArray.data_extract, Array.extract_extract]
  congr 1 <;> omega
theorem ext_size (t : ByteArray) {b : Nat} (h : b ≤ t.size) : (t.extract 0 b).size = b := by
  rw [ByteArray.size_extract]; omega
theorem ext_all (t : ByteArray) : t.extract 0 t.size = t := by
  apply ByteArray.ext
  rw [ByteArray.data_extract]
  exact Array.extract_size
end Pp

set_option maxHeartbeats 1000000 in
theorem choose_any (c n : Int) (w : World) (hc1 : -9223372036854775808 ≤ c) (hc2 : c ≤ 9223372036854775807) (hn : 0 < n) (hn2 : n ≤ 1000) :
    Calls Try.prog 18 #[.int .i64 c, .int .i64 n] w fun e w' => e = .returned (.int .i64 (Pp.chF c n)) ∧ w' = w := by
  obtain ⟨h1, h2⟩ := Pp.chF_lt (c := c) hn
  have hnz : ¬ n = 0 := by omega
  by_cases h : c < 0
  · have HE : Hid ((-(c + 1)).tmod n = Pp.chF c n) := (by rw [Pp.chF, Pp.chP, if_pos h] : (-(c + 1)).tmod n = Pp.chF c n)
    have hw1 : IntKind.i64.wrap (c + 1) = c + 1 := by rw [IntKind.wrap_i64]; omega
    have hw2 : IntKind.i64.wrap (-(c + 1)) = -(c + 1) := by rw [IntKind.wrap_i64]; omega
    have hw3 : IntKind.i64.wrap ((-(c + 1)).tmod n) = (-(c + 1)).tmod n := by rw [HE.out, IntKind.wrap_i64]; omega
    go_enter Try.func18, Try.ntmps18
    go_wp2
    go_ret
    exact ⟨Pp.ret_int (by rw [← Int.neg_tmod]; exact HE.out), rfl⟩
  · have HE : Hid (c.tmod n = Pp.chF c n) := (by rw [Pp.chF, Pp.chP, if_neg h] : c.tmod n = Pp.chF c n)
    have hw3 : IntKind.i64.wrap (c.tmod n) = c.tmod n := by rw [HE.out, IntKind.wrap_i64]; omega
    go_enter Try.func18, Try.ntmps18
    go_wp2
    go_ret
    exact ⟨Pp.ret_int (by rw [← Int.tmod_eq_emod_of_nonneg (by omega)]; exact HE.out), rfl⟩

namespace Pp
theorem w1_se {p t : ByteArray} {a : Nat} {till : Int} (hp : nameB p.data.toList = true) (ha : a ≤ t.size) (ht : t.size ≤ 300) (h1 : 0 ≤ till) (h2 : till ≤ 1000) : seE 8 (who1 p t a till) = 0 := by
  have e1 : inR 1 (who1 p t a till).nu (8 - 1) = true := (by decide : inR 1 7 (8 - 1) = true)
  have e2 : inR 0 (who1 p t a till).si 300 = true := by
    have k1 : (0 : Int) ≤ (t.size : Int) := by omega
    have k2 : (t.size : Int) ≤ 300 := by omega
    show inR 0 (t.size : Int) 300 = true
    rw [inR, decide_eq_true k1, decide_eq_true k2]; rfl
  have e3 : inR 0 (who1 p t a till).ti 2199023255552 = true := by
    have k2 : till ≤ 2199023255552 := by omega
    show inR 0 till 2199023255552 = true
    rw [inR, decide_eq_true h1, decide_eq_true k2]; rfl
  have e4 : nameB (who1 p t a till).wh.data.toList = true := hp
  rw [seE, e1, e2, e3, e4, if_pos (by decide), if_pos rfl, if_neg]
  show ¬ (t.size : Int) < ((t.extract 0 a).size : Int)
  rw [ext_size t ha]; omega
theorem w1_uch {p t : ByteArray} {a : Nat} {till : Int} (hp : nameB p.data.toList = true) (ha : a ≤ t.size) (ht : t.size ≤ 300) (h1 : 0 ≤ till) (h2 : till ≤ 1000) : uchE [who1 p t a till] 8 10 1000 = 0 := by
  have hb : bndE [who1 p t a till].length 8 10 1000 = 0 := by simp [bndE, inR]
  have hs : sesE 8 [who1 p t a till] = 0 := by rw [sesE, if_pos (w1_se hp ha ht h1 h2)]; rfl
  rw [uch_ro hb hs rfl]
  refine (ro_yes fun j hj => ?_).symm
  have : j = 0 := by simp at hj; exact hj
  subst this
  simp [takS, who1]; omega
theorem w1_sw {p t : ByteArray} {a : Nat} {till now : Int} (h : now ≤ till) : swL now [who1 p t a till] = [who1 p t a till] := by
  have : ovr now (who1 p t a till) = false := by
    show decide (till < now) = false
    exact decide_eq_false (by omega)
  simp [swL, this]
theorem w1_id (p t : ByteArray) (a : Nat) (till : Int) : idS [who1 p t a till] (mine 7 p) = ((0 : Nat) : Int) := (idS_hit (by simp) (fun j _ h => absurd h (by omega)) (by simp [mine, who1])).symm
theorem w1_fi {p t : ByteArray} {a : Nat} {till now : Int} (hp : nameB p.data.toList = true) (ha : a ≤ t.size) (ht : t.size ≤ 300) (h1 : 0 ≤ now) (h2 : till ≤ 1000) (h : now ≤ till) : fiE [who1 p t a till] 8 10 1000 p 7 now = 0 := by
  have hu := w1_uch hp ha ht (by omega : 0 ≤ till) h2
  have hg : goE [who1 p t a till] 8 10 1000 now [p] = 0 := by
    have e1 : inR 0 now 1099511627776 = true := by simp [inR]; omega
    rw [goE, if_pos hu, e1, if_pos rfl, nmsE1 hp]; rfl
  rw [fiE, if_pos hg, w1_sw h, w1_id]; rfl
/-- A piece, where its text is not there yet. -/
theorem w1_en_no {t : ByteArray} {a b : Nat} (hab : a < b) (hb : b ≤ t.size) : enB (t.extract 0 a) a (t.extract a b) = false := by
  have hsz := ext_size t (b := a) (by omega)
  rw [enB]
  have e : ((t.extract 0 a).extract ((a : Int)).toNat (t.extract 0 a).size).toList ≠ (t.extract a b).toList := by
    intro h
    have h2 := congrArg List.length h
    rw [Lib.toList_data, Lib.toList_data, Array.length_toList, Array.length_toList] at h2
    change ByteArray.size _ = ByteArray.size _ at h2
    simp only [ByteArray.size_extract, Int.toNat_natCast] at h2
    omega
  rw [show (((t.extract 0 a).extract ((a : Int)).toNat (t.extract 0 a).size).toList == (t.extract a b).toList) = false from beq_eq_false_iff_ne.2 e, Bool.and_false]
/-- .. where it is. -/
theorem w1_en_yes {t : ByteArray} {a b : Nat} (hab : a ≤ b) (hb : b ≤ t.size) : enB (t.extract 0 b) a (t.extract a b) = true := by
  have hsz := ext_size t hb
  rw [enB, hsz]
  have e : (t.extract 0 b).extract ((a : Int)).toNat b = t.extract a b := by
    rw [Int.toNat_natCast]; exact ext_ext t hb
  rw [e]
  simp [inR]; omega
end Pp
end Go.Proofs.Ytnaedemkpiagmaa
