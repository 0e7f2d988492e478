/- slices.Insert of a folder behind all others. What Serve answers to requests that make a folder or commit; the law's hubBegun answers true. The law's hubBegun answers true. A box of four cells. -/
import Derived.Test.YtchlgpeiombmdaaGreatQS
import Derived.Test.YtchlgpeiombmdaaGreatQT
import Derived.Test.YtchlgpeiombmdaaGreatQN
set_option linter.unusedSimpArgs false
set_option linter.unusedVariables false
namespace Go.Proofs.YtchlgpeiombmdaaGreat
open Go.RowKit

def newC (na : ByteArray) : List Value := [.string na, .slice none 0 0, .int .i64 1, .slice none 0 0]
theorem newC_one (na : ByteArray) : (newC na).length = 4 ∧ ∀ u ∈ newC na, u.oneCell' = true := by
 refine ⟨rfl, fun u hu => ?_⟩
 simp only [newC, List.mem_cons, List.not_mem_nil, or_false] at hu
 rcases hu with rfl | rfl | rfl | rfl <;> rfl
/-- Rows of folders, one of them new, in a world in which the old journals lie. -/
theorem liesF_new {w : World} {v : Value} {l : List Sh} {us : List (Value × Value)} {na : ByteArray} {i : Nat} (hj : JosAt w l us) (hi : i ≤ l.length) (h : LiesR 4 w v ((rowsF l us).take i ++ newC na :: (rowsF l us).drop i)) : LiesF w v (l.take i ++ ⟨na, ⟨[], 1, []⟩⟩ :: l.drop i) := by
 obtain ⟨hl, hj⟩ := hj
 have e : (rowsF l us).take i ++ newC na :: (rowsF l us).drop i = rowsF (l.take i ++ ⟨na, ⟨[], 1, []⟩⟩ :: l.drop i) (us.take i ++ (.slice none 0 0, .slice none 0 0) :: us.drop i) := by
  rw [rowsF, rowsF, List.zipWith_append (by simp [hl]), List.zipWith_cons_cons, List.take_zipWith, List.drop_zipWith]
  rfl
 rw [e] at h
 refine liesF_of ⟨by simp [hl], fun k c u hc hu => ?_⟩ h
 rcases Nat.lt_trichotomy k i with hk | hk | hk
 · rw [List.getElem?_append_left (by simp; omega), List.getElem?_take, if_pos hk] at hc hu
   exact hj k c u hc hu
 · subst hk
   rw [List.getElem?_append_right (by simp; omega)] at hc hu
   simp [List.length_take, Nat.min_eq_left hi, Nat.min_eq_left (hl ▸ hi)] at hc hu
   subst hc; subst hu
   exact ⟨⟨none, 0, rfl, Nat.le_refl _, Nat.zero_le _, fun i h => absurd h (by simp)⟩, liesO_nil _⟩
 · rw [List.getElem?_append_right (by simp; omega)] at hc hu
   rw [List.length_take, Nat.min_eq_left (by omega)] at hc hu
   obtain ⟨d, rfl⟩ : ∃ d, k = i + 1 + d := ⟨k - i - 1, by omega⟩
   rw [show i + 1 + d - i = d + 1 by omega, List.getElem?_cons_succ, List.getElem?_drop] at hc hu
   exact hj _ c u hc hu
theorem below_none {W W' : World} (h : W.grownBy W' none) : Below W.heap.size W W' := ⟨h.os, h.tape, h.output, h.size, fun k hk => h.block k hk (by simp)⟩
theorem josAt_row {B : Nat} {W W' : World} {v : Value} {l : List Sh} {us : List (Value × Value)} (hj : JosAt W l us) (hx : ∀ (i : Nat) (c : Sh) (u : Value × Value), l[i]? = some c → us[i]? = some u → (Own B W u.1 ∧ OwnO B W u.2 c.jo.cos) ∧ ∀ b, v.ownBlock = some b → Own (b + 1) W u.1 ∧ OwnO (b + 1) W u.2 c.jo.cos) (hg : W.grownBy W' v.ownBlock) : JosAt W' l us := by
 refine ⟨hj.1, fun i c u hc hu => ?_⟩
 have h1 := hj.2 i c u hc hu
 cases hb : v.ownBlock with
 | none => rw [hb] at hg; exact ⟨h1.1.below (below_none hg), h1.2.below (below_none hg)⟩
 | some b =>
  rw [hb] at hg
  obtain ⟨h2, h3⟩ := (hx i c u hc hu).2 b hb
  exact ⟨h1.1.nbo hg (fun x hx => by have := (h2 x hx).1; omega), (h3.nbo hg (Nat.lt_succ_self _)).lies⟩
set_option maxRecDepth 100000 in
set_option maxHeartbeats 4000000 in
theorem insert_end (B : Nat) (v : Value) (L : List Sh) (na : ByteArray) (h8 : L.length ≤ 8) : InsOK B v L L.length na := by
 intro W vb hO hM hc hb
 obtain ⟨i0, hi0, hz0, hz1, hz2⟩ := info_parts Tryz.infoRF
 have HC := hid hc
 have hvl := hc.lt
 obtain ⟨us, hj, hr, ho, hx⟩ := hO
 have hlr := rowsF_len hj.1
 have hrow := own_of_rm hr hM (ho.mono (Nat.zero_le B))
 have HLR := hid hlr
 have HJ := hid hj
 have HROW := hid hrow
 have HX := hid hx
 have HONE := hid (show ∀ r ∈ rowsF L us, r.length = 4 ∧ ∀ u ∈ r, u.oneCell' = true from by obtain ⟨_, _, _, _, _, h4, _⟩ := hr; exact h4)
 have HB := hid hb
 obtain ⟨fa, fc, rfl, hfc, _⟩ := hr
 rw [hlr] at hrow HROW hfc HX HB
 have hfc' : fc ≤ 9223372036854775807 ∧ (fa = none → fc = 0) := by
  rcases hM with h | ⟨g, n, cap, cur, h, _, _, h4, _⟩
  · injection h with e1 e2 e3; subst e3; exact ⟨by omega, fun _ => rfl⟩
  · injection h with e1 e2 e3; subst e3; unfold maxLen at h4; exact ⟨by omega, fun h => by rw [e1] at h; cases h⟩
 rw [hlr]
 clear hc hb hj hx ho hM hrow hlr
 by_cases hq : fc = L.length
 · subst hq
   go_enter Tryz.func108, Tryz.ntmps108
   go_wp2_with (at_builtin; refine wpList_append_own _ rfl _ _ 22 rfl 0 51 i0 (.agg #[.string ⟨#[]⟩, .slice none 0 0, .int .i64 0, .slice none 0 0]) 4 72 Tryz.underlying22 hi0 hz0 hz1 hz2 rfl (by decide) _ _ _ rfl HROW.out ⟨vb, 0, none⟩ 1 1 (newC na) rfl rfl ?qc2 (newC_one na).2 (by unfold maxLen; omega) (by omega) (Nat.zero_le _) ?_)
   case qc2 =>
    intro j u hj
    rw [Addr.add_lit, Nat.zero_add]
    exact HC.out.cell j hj
   intro v2 w2 ho2 hgr2 hnn2
   have HG := hid hgr2
   have ho3 : w2.ownsRow 0 51 4 v2 (rowsF L us ++ [newC na]).length (rowsF L us ++ [newC na]).flatten := by
    have e1 : (rowsF L us ++ [newC na]).length = L.length + 1 := by rw [List.length_append, HLR.out]; rfl
    have e2 : (rowsF L us ++ [newC na]).flatten = (rowsF L us).flatten ++ newC na := by simp
    rw [e1, e2]; exact ho2
   have HL := hid (show LiesF w2 v2 (L.take L.length ++ ⟨na, ⟨[], 1, []⟩⟩ :: L.drop L.length) from liesF_new (josAt_row HJ.out HX.out HG.out) (Nat.le_refl _) (by
    have e3 : (rowsF L us).take L.length = rowsF L us := List.take_of_length_le (by rw [HLR.out]; exact Nat.le_refl _)
    have e4 : (rowsF L us).drop L.length = [] := List.drop_eq_nil_of_le (by rw [HLR.out]; exact Nat.le_refl _)
    rw [e3, e4]
    exact liesR_own ho3 (by rw [List.length_append, HLR.out]; simp; omega) (fun r hr => by
     rcases List.mem_append.1 hr with h | h
     · exact HONE.out r h
     · rw [List.mem_singleton.1 h]; exact newC_one na)))
   obtain ⟨a2, cap2, hv2, _⟩ := id HL.out
   clear ho2 ho3 hgr2 hnn2
   go_wp2_with fail
   go_ret
   exact ⟨_, rfl, HL.out, HG.out⟩
 · skip
   go_enter Tryz.func108, Tryz.ntmps108
   go_wp2_with (at_builtin; refine wpList_append_own _ rfl _ _ 22 rfl 0 51 i0 (.agg #[.string ⟨#[]⟩, .slice none 0 0, .int .i64 0, .slice none 0 0]) 4 72 Tryz.underlying22 hi0 hz0 hz1 hz2 rfl (by decide) _ _ _ rfl HROW.out ⟨vb, 0, none⟩ 1 1 (newC na) rfl rfl ?qc2 (newC_one na).2 (by unfold maxLen; omega) (by omega) (Nat.zero_le _) ?_)
   case qc2 =>
    intro j u hj
    rw [Addr.add_lit, Nat.zero_add]
    exact HC.out.cell j hj
   intro v2 w2 ho2 hgr2 hnn2
   have HG := hid hgr2
   have ho3 : w2.ownsRow 0 51 4 v2 (rowsF L us ++ [newC na]).length (rowsF L us ++ [newC na]).flatten := by
    have e1 : (rowsF L us ++ [newC na]).length = L.length + 1 := by rw [List.length_append, HLR.out]; rfl
    have e2 : (rowsF L us ++ [newC na]).flatten = (rowsF L us).flatten ++ newC na := by simp
    rw [e1, e2]; exact ho2
   have HL := hid (show LiesF w2 v2 (L.take L.length ++ ⟨na, ⟨[], 1, []⟩⟩ :: L.drop L.length) from liesF_new (josAt_row HJ.out HX.out HG.out) (Nat.le_refl _) (by
    have e3 : (rowsF L us).take L.length = rowsF L us := List.take_of_length_le (by rw [HLR.out]; exact Nat.le_refl _)
    have e4 : (rowsF L us).drop L.length = [] := List.drop_eq_nil_of_le (by rw [HLR.out]; exact Nat.le_refl _)
    rw [e3, e4]
    exact liesR_own ho3 (by rw [List.length_append, HLR.out]; simp; omega) (fun r hr => by
     rcases List.mem_append.1 hr with h | h
     · exact HONE.out r h
     · rw [List.mem_singleton.1 h]; exact newC_one na)))
   obtain ⟨a2, cap2, hv2, _⟩ := id HL.out
   clear ho2 ho3 hgr2 hnn2
   go_wp2_with fail
   go_ret
   exact ⟨_, rfl, HL.out, HG.out⟩
end Go.Proofs.YtchlgpeiombmdaaGreat
set_option linter.unusedSimpArgs false
set_option linter.unusedVariables false
namespace Go.Proofs.YtchlgpeiombmdaaGreat
open Go.RowKit

theorem Sv.vlt {B : Nat} {w : World} {g mb : Nat} {vf vg vs : Value} {H : Hb} (h : Sv B w g mb vf vg vs H) : ∀ b, vf.ownBlock = some b → b < w.heap.size := fun b hb => by
 obtain ⟨_, _, _, ho, _⟩ := h.2.1
 exact ho.lt b hb
theorem serve_make (H : Hb) (q : Rq) (v vq : Value) (w : World) (hv : LiesH w v H) (hs : SizedH H) (hq : LiesQ w vq q) (hsq : SizedQ q) (h0 : Hu.hE H = 0) (hk : q.kind = 8) (hck : Hu.ckE H.gs q = 0) (hins : ∀ B v, InsOK B v H.fos (Hu.plc H.fos q.fo) q.fo) :
    Calls Tryz.prog 9 #[v, vq] w fun e w' => ∃ u a, e = .returned (.tuple #[u, a, .int .i64 0]) ∧ LiesH w' u (Hu.mkH H q.fo q.who) ∧ LiesA w' a ⟨Hu.mkE H q.fo q.who, 0, Jn.zeroP⟩ ∧ Below w.heap.size w w' := by
 obtain ⟨_, h1, h2, _⟩ := Hu.h_parts h0
 obtain ⟨h3, _, h4⟩ := Hu.cf_parts h1
 refine serve_ok H (Hu.mkH H q.fo q.who) _ q v vq w hv hs hq h0 ?_
 intro B W g mb vf vg vs vq hsv hm hgB hBW hq
 exact sanswer_num H _ q vq vf g mb 0 _ W hsv.lies hs.gs hq hsq hck (by rw [hk]; decide) (fun W' vq' hW hq' => snum_make H q vq' vf vg vs B g mb W' (hsv.below hW) hgB (Nat.le_trans hBW hW.size) hs.gs h4 h3 hq' hsq (hins B vf) hk) hsv.vlt
theorem serve_commit (H : Hb) (q : Rq) (v vq : Value) (w : World) (hv : LiesH w v H) (hs : SizedH H) (hq : LiesQ w vq q) (hsq : SizedQ q) (h0 : Hu.hE H = 0) (hk : q.kind = 1) (hck : Hu.ckE H.gs q = 0) :
    Calls Tryz.prog 9 #[v, vq] w fun e w' => ∃ u a, e = .returned (.tuple #[u, a, .int .i64 0]) ∧ LiesH w' u (Hu.cmH H (Hu.whr H.fos H.gs q.fo) q.key q.ch) ∧ LiesA w' a ⟨Hu.cmE H (Hu.whr H.fos H.gs q.fo) q.key q.ch, Hu.cmN H (Hu.whr H.fos H.gs q.fo) q.key q.ch, Jn.zeroP⟩ ∧ Below w.heap.size w w' := by
 have hin : Hu.inG H.gs q.fo = true := Hu.rig_in (h := q.who) (by have := (Hu.ck_parts hck).2.2.2; rw [hk] at this; have e : Hu.lst 1 = 2 := rfl; omega)
 have hi : Hu.whr H.fos H.gs q.fo < H.fos.length := (Hu.whr_at h0 hin).elim (fun h _ => h)
 refine serve_ok H _ _ q v vq w hv hs hq h0 ?_
 intro B W g mb vf vg vs vq hsv hm hgB hBW hq
 exact sanswer_num H _ q vq vf g mb _ _ W hsv.lies hs.gs hq hsq hck (by rw [hk]; decide) (fun W' vq' hW hq' => snum_commit H q vq' vf vg vs B g mb _ W' (hsv.below hW) (hm.below hW) hgB hs.fos hq' hsq hi hk) hsv.vlt
namespace Hu
def bA : ByteArray := ⟨#[97]⟩
def bF : ByteArray := ⟨#[102]⟩
def bK : ByteArray := ⟨#[107]⟩
def bL : List Pp.Ch := [⟨2, ⟨#[120]⟩, ⟨#[]⟩, ⟨#[49]⟩, 0⟩]
def b1 : Hb := ⟨[], [], [], 1, 10, 1000, 0⟩
def b2 : Hb := ⟨[⟨bF, ⟨[], 1, []⟩⟩], [⟨bF, bA, 3⟩], [], 1, 10, 1000, 0⟩
def b3 : Hb := ⟨[⟨bF, ⟨[], 1, [⟨1, bK, bL⟩]⟩⟩], [⟨bF, bA, 3⟩], [], 1, 10, 1000, 0⟩
def q1 : Rq := ⟨8, bA, bF, ⟨#[]⟩, ⟨#[]⟩, ⟨#[]⟩, 0, 0, 0, []⟩
def q2 : Rq := ⟨1, bA, bF, ⟨#[]⟩, bK, ⟨#[]⟩, 0, 0, 0, bL⟩
set_option maxRecDepth 100000
theorem uch1 : Pp.uchE [] 1 10 1000 = 0 := by decide
theorem nw1 : nwH 10 1000 = b1 := by rw [nwH, if_pos uch1]; rfl
theorem he1 : hE b1 = 0 := by decide +kernel
theorem ck1 : ckE b1.gs q1 = 0 := by decide +kernel
theorem ma1 : Pp.maE b1.gs bF bA = 0 := by decide +kernel
theorem mk1 : mkE b1 bF bA = 0 ∧ mkH b1 bF bA = b2 := by
 have h := mk_ok (H := b1) (f := bF) (h := bA) ma1 (by decide)
 refine ⟨h.1, ?_⟩
 rw [h.2, Pp.maL_yes ma1]
 rfl
theorem he2 : hE b2 = 0 := by decide +kernel
theorem ck2 : ckE b2.gs q2 = 0 := by decide +kernel
theorem wh2 : whr b2.fos b2.gs bF = 0 := by decide +kernel
theorem jo2 : joAt b2 0 = ⟨[], 1, []⟩ := rfl
theorem jchk : Jn.chkE ⟨[], 1, []⟩ = 0 := by decide
theorem jnew : Jn.newE ⟨[], 1, []⟩ bL = 0 := by decide
theorem jkey : Pp.keyB bK.data.toList = true := by decide
theorem jcom : Jn.comE ⟨[], 1, []⟩ bK bL = 0 ∧ Jn.comN ⟨[], 1, []⟩ bK bL = 1 ∧ Jn.comR ⟨[], 1, []⟩ bK bL = ⟨[], 1, [⟨1, bK, bL⟩]⟩ := by
 obtain ⟨a, b, c⟩ := Jn.com_add (J := ⟨[], 1, []⟩) (key := bK) (l := bL) jchk jkey rfl jnew
 exact ⟨a, b, by rw [c]; rfl⟩
theorem cm2 : cmE b2 0 bK bL = 0 ∧ cmN b2 0 bK bL = 1 ∧ cmH b2 0 bK bL = b3 := by
 have e : cmE b2 0 bK bL = 0 := jcom.1
 refine ⟨e, jcom.2.1, ?_⟩
 rw [cmH, if_pos e, jo2, jcom.2.2]
 rfl
theorem he3 : hE b3 = 0 := by decide +kernel
theorem tr3 : trE b3 bF = 0 := by
 rw [trE, he3]; decide +kernel
theorem tl3 : (trR b3 bF).length = 1 := by
 rw [trR, if_pos tr3]; decide +kernel
theorem sz1 : SizedH b1 := ⟨(fun s hs => by cases hs), (fun s hs => by cases hs), (fun s hs => by cases hs)⟩
theorem sz2 : SizedH b2 := by
 refine ⟨fun s hs => ?_, fun s hs => ?_, fun s hs => by cases hs⟩
 · rw [List.mem_singleton.1 hs]; exact ⟨by decide, (fun e he => by cases he), (fun c hc => by cases hc)⟩
 · rw [List.mem_singleton.1 hs]; exact ⟨by decide, by decide⟩
theorem szL : SizedC 150000000000000 bL := fun c hc => by rw [List.mem_singleton.1 hc]; exact ⟨by decide, by decide, by decide⟩
theorem sz3 : SizedH b3 := by
 refine ⟨fun s hs => ?_, fun s hs => ?_, fun s hs => by cases hs⟩
 · rw [List.mem_singleton.1 hs]; exact ⟨by decide, (fun e he => by cases he), (fun c hc => by rw [List.mem_singleton.1 hc]; exact ⟨by decide, szL⟩)⟩
 · rw [List.mem_singleton.1 hs]; exact ⟨by decide, by decide⟩
theorem szq1 : SizedQ q1 := ⟨by decide, by decide, by decide, by decide, by decide, fun c hc => by cases hc⟩
theorem szq2 : SizedQ q2 := ⟨by decide, by decide, by decide, by decide, by decide, szL⟩
end Hu
end Go.Proofs.YtchlgpeiombmdaaGreat
set_option linter.unusedSimpArgs false
set_option linter.unusedVariables false
namespace Go.Proofs.YtchlgpeiombmdaaGreat
open Go.RowKit

set_option maxRecDepth 100000 in
set_option maxHeartbeats 8000000 in
theorem hubBegun_yes (w : World) : Calls Tryz.prog 8 #[] w fun e w' => e = .returned (.bool true) ∧ Below w.heap.size w w' := by
 obtain ⟨B1, hB1⟩ : ∃ B1, B1 = Hu.b1 := ⟨_, rfl⟩
 obtain ⟨B2, hB2⟩ : ∃ B2, B2 = Hu.b2 := ⟨_, rfl⟩
 obtain ⟨B3, hB3⟩ : ∃ B3, B3 = Hu.b3 := ⟨_, rfl⟩
 have HNW := hid (show Hu.nwH 10 1000 = B1 from by rw [hB1]; exact Hu.nw1)
 have HS1 := hid (show ∀ (W : World) (v vq : Value), LiesH W v B1 → LiesQ W vq Hu.q1 → Calls Tryz.prog 9 #[v, vq] W fun e w' => ∃ u a, e = .returned (.tuple #[u, a, .int .i64 0]) ∧ LiesH w' u B2 ∧ LiesA w' a ⟨0, 0, Jn.zeroP⟩ ∧ Below W.heap.size W w' from fun W v vq hv hq => by
  subst hB1 hB2
  have h := serve_make Hu.b1 Hu.q1 v vq W hv Hu.sz1 hq Hu.szq1 Hu.he1 rfl Hu.ck1 (fun B v => insert_end B v [] Hu.bF (by simp))
  have e1 : Hu.mkE Hu.b1 Hu.q1.fo Hu.q1.who = 0 := Hu.mk1.1
  have e2 : Hu.mkH Hu.b1 Hu.q1.fo Hu.q1.who = Hu.b2 := Hu.mk1.2
  rw [e1, e2] at h
  exact h)
 have HS2 := hid (show ∀ (W : World) (v vq : Value), LiesH W v B2 → LiesQ W vq Hu.q2 → Calls Tryz.prog 9 #[v, vq] W fun e w' => ∃ u a, e = .returned (.tuple #[u, a, .int .i64 0]) ∧ LiesH w' u B3 ∧ LiesA w' a ⟨0, 1, Jn.zeroP⟩ ∧ Below W.heap.size W w' from fun W v vq hv hq => by
  subst hB2 hB3
  have h := serve_commit Hu.b2 Hu.q2 v vq W hv Hu.sz2 hq Hu.szq2 Hu.he2 rfl Hu.ck2
  have e0 : Hu.whr Hu.b2.fos Hu.b2.gs Hu.q2.fo = 0 := Hu.wh2
  have e1 : Hu.cmE Hu.b2 0 Hu.q2.key Hu.q2.ch = 0 := Hu.cm2.1
  have e2 : Hu.cmN Hu.b2 0 Hu.q2.key Hu.q2.ch = 1 := Hu.cm2.2.1
  have e3 : Hu.cmH Hu.b2 0 Hu.q2.key Hu.q2.ch = Hu.b3 := Hu.cm2.2.2
  rw [e0, e1, e2, e3] at h
  exact h)
 have HS3 := hid (show ∀ (W : World) (v : Value), LiesH W v B3 → Calls Tryz.prog 15 #[v, .string ⟨#[102]⟩] W fun e w' => ∃ a c, e = .returned (.tuple #[.slice a 1 c, .int .i64 0]) ∧ Below W.heap.size W w' from fun W v hv => by
  subst hB3
  refine (htree_any Hu.b3 v Hu.bF W hv Hu.sz3 (by decide)).mono ?_
  rintro e w' ⟨u, rfl, ⟨a, c, rfl, _⟩, hb⟩
  rw [Hu.tr3, Hu.tl3]
  exact ⟨a, c, rfl, hb⟩)
 clear hB1 hB2 hB3
 go_enter Tryz.func8, Tryz.ntmps8
 go_wp2_with fail
 refine (hnew_any 10 1000 _).mono ?_
 rintro e w1 ⟨u, rfl, hl, hb1⟩
 rw [Hu.uch1]
 rw [HNW.out] at hl
 have HL1 := hid hl
 obtain ⟨fa, fc, ga, gc, sa, sc, rfl⟩ := hl.shape
 clear hl
 obtain ⟨wa, hwa⟩ : ∃ wa, wa = w1.alloc (.cells #[.slice fa B1.fos.length fc, .slice ga B1.gs.length gc, .slice sa B1.ss.length sc, .int .i64 B1.nx, .int .i64 B1.la, .int .i64 B1.ro, .int .i64 B1.now] 28) := ⟨_, rfl⟩
 have hba : Below w1.heap.size w1 wa := by rw [hwa]; exact (Below.refl _ _).alloc (Nat.le_refl _) _
 have HX : Hid (Cs wa w1.heap.size [.slice fa B1.fos.length fc, .slice ga B1.gs.length gc, .slice sa B1.ss.length sc, .int .i64 B1.nx, .int .i64 B1.la, .int .i64 B1.ro, .int .i64 B1.now]) := (by rw [hwa]; exact Cs.new w1 [.slice fa B1.fos.length fc, .slice ga B1.gs.length gc, .slice sa B1.ss.length sc, .int .i64 B1.nx, .int .i64 B1.la, .int .i64 B1.ro, .int .i64 B1.now] _ : Cs wa w1.heap.size _)
 have hb0a := below_tr hb1 hba
 have x0 := HX.out.cell 0 rfl
 have x1 := HX.out.cell 1 rfl
 have x2 := HX.out.cell 2 rfl
 have x3 := HX.out.cell 3 rfl
 have x4 := HX.out.cell 4 rfl
 have x5 := HX.out.cell 5 rfl
 have x6 := HX.out.cell 6 rfl
 go_upto_region 2 with fail
 rw [← hwa]
 clear hwa
 go_wp2_with fail
 refine (HS1.out wa _ _ (HL1.out.below hba) ⟨_, rfl, liesC_nil _⟩).mono ?_
 rintro e w2 ⟨u2, a2, rfl, hl2, hA2, hb2⟩
 clear x0 x1 x2 x3 x4 x5 x6
 have HL2 := hid hl2
 have HX2 := hid (HX.out.below hb2)
 have hlx := HX.out.lt
 obtain ⟨fb, fd, gb, gd, sb, sd, rfl⟩ := hl2.shape
 obtain ⟨ta, tc, ca, cc, rfl⟩ := hA2.shape
 simp only [Jn.zeroP, List.length_nil]
 have hs2 := hb2.size
 clear hl2 hA2
 have n1 : ¬ w1.heap.size = w2.heap.size := by omega
 have n2 : ¬ w2.heap.size = w1.heap.size := by omega
 have HXb := hid (HX2.out.below ((Below.refl w2.heap.size w2).alloc (Nat.le_refl _) (.cells #[.int .i64 0, .int .i64 0, .bool false, .slice none 0 0, .slice none 0 0, .int .i64 0, .bool false] 39)))
 have p0 := HXb.out.cell 0 rfl
 have f0 := HXb.out.fr 0
 have p1 := HXb.out.cell 1 rfl
 have f1 := HXb.out.fr 1
 have p2 := HXb.out.cell 2 rfl
 have f2 := HXb.out.fr 2
 have p3 := HXb.out.cell 3 rfl
 have f3 := HXb.out.fr 3
 have p4 := HXb.out.cell 4 rfl
 have f4 := HXb.out.fr 4
 have p5 := HXb.out.cell 5 rfl
 have f5 := HXb.out.fr 5
 have p6 := HXb.out.cell 6 rfl
 have f6 := HXb.out.fr 6
 obtain ⟨y2, hy2⟩ : ∃ y2, y2 = w2.alloc (.cells #[.int .i64 0, .int .i64 0, .bool false, .slice none 0 0, .slice none 0 0, .int .i64 0, .bool false] 39) := ⟨_, rfl⟩
 have hby2 : Below w2.heap.size w2 y2 := by rw [hy2]; exact (Below.refl _ _).alloc (Nat.le_refl _) _
 have HAy2 := hid (show Cs y2 w2.heap.size [.int .i64 0, .int .i64 0, .bool false, .slice none 0 0, .slice none 0 0, .int .i64 0, .bool false] from by rw [hy2]; exact Cs.new w2 [.int .i64 0, .int .i64 0, .bool false, .slice none 0 0, .slice none 0 0, .int .i64 0, .bool false] _)
 obtain ⟨z2, hz2⟩ : ∃ z2, z2 = ((((((((((((((y2.setCell ⟨w1.heap.size, 0, none⟩ (.slice fb B2.fos.length fd)).setCell ⟨w1.heap.size, 1, none⟩ (.slice gb B2.gs.length gd)).setCell ⟨w1.heap.size, 2, none⟩ (.slice sb B2.ss.length sd)).setCell ⟨w1.heap.size, 3, none⟩ (.int .i64 B2.nx)).setCell ⟨w1.heap.size, 4, none⟩ (.int .i64 B2.la)).setCell ⟨w1.heap.size, 5, none⟩ (.int .i64 B2.ro)).setCell ⟨w1.heap.size, 6, none⟩ (.int .i64 B2.now)).setCell ⟨w2.heap.size, 0, none⟩ (.int .i64 0)).setCell ⟨w2.heap.size, 1, none⟩ (.int .i64 0)).setCell ⟨w2.heap.size, 2, none⟩ (.bool false)).setCell ⟨w2.heap.size, 3, none⟩ (.slice ta 0 tc)).setCell ⟨w2.heap.size, 4, none⟩ (.slice ca 0 cc)).setCell ⟨w2.heap.size, 5, none⟩ (.int .i64 0)).setCell ⟨w2.heap.size, 6, none⟩ (.bool false)) := ⟨_, rfl⟩
 have HXz2 : Hid (Cs z2 w1.heap.size [.slice fb B2.fos.length fd, .slice gb B2.gs.length gd, .slice sb B2.ss.length sd, .int .i64 B2.nx, .int .i64 B2.la, .int .i64 B2.ro, .int .i64 B2.now]) := (by rw [hz2]; exact (((((((((HX2.out.below hby2).set 0 (.slice fb B2.fos.length fd)).set 1 (.slice gb B2.gs.length gd)).set 2 (.slice sb B2.ss.length sd)).set 3 (.int .i64 B2.nx)).set 4 (.int .i64 B2.la)).set 5 (.int .i64 B2.ro)).set 6 (.int .i64 B2.now))).nb (grown_on (grown_on (grown_on (grown_on (grown_on (grown_on (nb_set _ (w2.heap.size) 0 (.int .i64 0)) (nb_set _ (w2.heap.size) 1 (.int .i64 0))) (nb_set _ (w2.heap.size) 2 (.bool false))) (nb_set _ (w2.heap.size) 3 (.slice ta 0 tc))) (nb_set _ (w2.heap.size) 4 (.slice ca 0 cc))) (nb_set _ (w2.heap.size) 5 (.int .i64 0))) (nb_set _ (w2.heap.size) 6 (.bool false))) (by omega) : Cs z2 w1.heap.size _)
 have HAz2 : Hid (Cs z2 w2.heap.size [.int .i64 0, .int .i64 0, .bool false, .slice ta 0 tc, .slice ca 0 cc, .int .i64 0, .bool false]) := (by rw [hz2]; exact ((((((((HAy2.out.nb (grown_on (grown_on (grown_on (grown_on (grown_on (grown_on (nb_set y2 (w1.heap.size) 0 (.slice fb B2.fos.length fd)) (nb_set _ (w1.heap.size) 1 (.slice gb B2.gs.length gd))) (nb_set _ (w1.heap.size) 2 (.slice sb B2.ss.length sd))) (nb_set _ (w1.heap.size) 3 (.int .i64 B2.nx))) (nb_set _ (w1.heap.size) 4 (.int .i64 B2.la))) (nb_set _ (w1.heap.size) 5 (.int .i64 B2.ro))) (nb_set _ (w1.heap.size) 6 (.int .i64 B2.now))) (by omega)).set 0 (.int .i64 0)).set 1 (.int .i64 0)).set 2 (.bool false)).set 3 (.slice ta 0 tc)).set 4 (.slice ca 0 cc)).set 5 (.int .i64 0)).set 6 (.bool false)) : Cs z2 w2.heap.size _)
 have HLz2 := hid (show LiesH z2 (.agg #[.slice fb B2.fos.length fd, .slice gb B2.gs.length gd, .slice sb B2.ss.length sd, .int .i64 B2.nx, .int .i64 B2.la, .int .i64 B2.ro, .int .i64 B2.now]) B2 from by rw [hz2]; exact ((HL2.out.below hby2).nb (grown_on (grown_on (grown_on (grown_on (grown_on (grown_on (nb_set y2 (w1.heap.size) 0 (.slice fb B2.fos.length fd)) (nb_set _ (w1.heap.size) 1 (.slice gb B2.gs.length gd))) (nb_set _ (w1.heap.size) 2 (.slice sb B2.ss.length sd))) (nb_set _ (w1.heap.size) 3 (.int .i64 B2.nx))) (nb_set _ (w1.heap.size) 4 (.int .i64 B2.la))) (nb_set _ (w1.heap.size) 5 (.int .i64 B2.ro))) (nb_set _ (w1.heap.size) 6 (.int .i64 B2.now))) (noStr_hub (HX2.out.below hby2))).nb (grown_on (grown_on (grown_on (grown_on (grown_on (grown_on (nb_set _ (w2.heap.size) 0 (.int .i64 0)) (nb_set _ (w2.heap.size) 1 (.int .i64 0))) (nb_set _ (w2.heap.size) 2 (.bool false))) (nb_set _ (w2.heap.size) 3 (.slice ta 0 tc))) (nb_set _ (w2.heap.size) 4 (.slice ca 0 cc))) (nb_set _ (w2.heap.size) 5 (.int .i64 0))) (nb_set _ (w2.heap.size) 6 (.bool false))) (noStr_ans (HAy2.out.nb (grown_on (grown_on (grown_on (grown_on (grown_on (grown_on (nb_set y2 (w1.heap.size) 0 (.slice fb B2.fos.length fd)) (nb_set _ (w1.heap.size) 1 (.slice gb B2.gs.length gd))) (nb_set _ (w1.heap.size) 2 (.slice sb B2.ss.length sd))) (nb_set _ (w1.heap.size) 3 (.int .i64 B2.nx))) (nb_set _ (w1.heap.size) 4 (.int .i64 B2.la))) (nb_set _ (w1.heap.size) 5 (.int .i64 B2.ro))) (nb_set _ (w1.heap.size) 6 (.int .i64 B2.now))) (by omega))))
 have hb0y2 := below_tr (below_tr hb0a hb2) hby2
 have hb0z2 : Below w.heap.size w z2 := by rw [hz2]; exact ((((((((((((((hb0y2.setCell (p := ⟨w1.heap.size, 0, none⟩) (hb1.size) _).setCell (p := ⟨w1.heap.size, 1, none⟩) (hb1.size) _).setCell (p := ⟨w1.heap.size, 2, none⟩) (hb1.size) _).setCell (p := ⟨w1.heap.size, 3, none⟩) (hb1.size) _).setCell (p := ⟨w1.heap.size, 4, none⟩) (hb1.size) _).setCell (p := ⟨w1.heap.size, 5, none⟩) (hb1.size) _).setCell (p := ⟨w1.heap.size, 6, none⟩) (hb1.size) _).setCell (p := ⟨w2.heap.size, 0, none⟩) ((by show w.heap.size ≤ w2.heap.size; have := (below_tr hb0a hb2).size; omega)) _).setCell (p := ⟨w2.heap.size, 1, none⟩) ((by show w.heap.size ≤ w2.heap.size; have := (below_tr hb0a hb2).size; omega)) _).setCell (p := ⟨w2.heap.size, 2, none⟩) ((by show w.heap.size ≤ w2.heap.size; have := (below_tr hb0a hb2).size; omega)) _).setCell (p := ⟨w2.heap.size, 3, none⟩) ((by show w.heap.size ≤ w2.heap.size; have := (below_tr hb0a hb2).size; omega)) _).setCell (p := ⟨w2.heap.size, 4, none⟩) ((by show w.heap.size ≤ w2.heap.size; have := (below_tr hb0a hb2).size; omega)) _).setCell (p := ⟨w2.heap.size, 5, none⟩) ((by show w.heap.size ≤ w2.heap.size; have := (below_tr hb0a hb2).size; omega)) _).setCell (p := ⟨w2.heap.size, 6, none⟩) ((by show w.heap.size ≤ w2.heap.size; have := (below_tr hb0a hb2).size; omega)) _)
 go_upto_region 3 with fail
 rw [← hy2, ← hz2]
 clear hz2 hy2 p0 p1 p2 p3 p4 p5 p6 f0 f1 f2 f3 f4 f5 f6 HXb
 have hsz2 : w2.heap.size < z2.heap.size := HAz2.out.lt
 have x0 := HXz2.out.cell 0 rfl
 have x1 := HXz2.out.cell 1 rfl
 have x2 := HXz2.out.cell 2 rfl
 have x3 := HXz2.out.cell 3 rfl
 have x4 := HXz2.out.cell 4 rfl
 have x5 := HXz2.out.cell 5 rfl
 have x6 := HXz2.out.cell 6 rfl
 obtain ⟨wl, hwl⟩ : ∃ wl, wl = z2.alloc (.cells #[.int .i64 2, .string ⟨#[120]⟩, .string ⟨#[]⟩, .string ⟨#[49]⟩, .int .i64 0] 67) := ⟨_, rfl⟩
 have hbl : Below z2.heap.size z2 wl := by rw [hwl]; exact (Below.refl _ _).alloc (Nat.le_refl _) _
 have HCH : Hid (Cs wl z2.heap.size [.int .i64 2, .string ⟨#[120]⟩, .string ⟨#[]⟩, .string ⟨#[49]⟩, .int .i64 0]) := (by rw [hwl]; exact Cs.new z2 [.int .i64 2, .string ⟨#[120]⟩, .string ⟨#[]⟩, .string ⟨#[49]⟩, .int .i64 0] _ : Cs wl z2.heap.size _)
 have hb0l := below_tr hb0z2 hbl
 have HXl := hid (HXz2.out.below hbl)
 have HAl := hid (HAz2.out.below hbl)
 have hsl := hbl.size
 go_wp2_with fail
 rw [← hwl]
 clear hwl x0 x1 x2 x3 x4 x5 x6
 refine (HS2.out wl _ _ (HLz2.out.below hbl) ⟨_, rfl, ⟨some ⟨z2.heap.size, 0, none⟩, 1, rfl, Nat.le_refl _, by decide, fun i hi => ⟨z2.heap.size, 0, rfl, HCH.out.lt, by
  match i, hi with
  | 0, _ => exact ⟨HCH.out.cell 0 rfl, HCH.out.cell 1 rfl, HCH.out.cell 2 rfl, HCH.out.cell 3 rfl, HCH.out.cell 4 rfl⟩⟩⟩⟩).mono ?_
 rintro e w3 ⟨u3, a3, rfl, hl3, hA3, hb3⟩
 have HL3 := hid hl3
 have HX3 := hid (HXl.out.below hb3)
 have HB3 := hid (HAl.out.below hb3)
 obtain ⟨fbq, fdq, gbq, gdq, sbq, sdq, rfl⟩ := hl3.shape
 obtain ⟨taq, tcq, caq, ccq, rfl⟩ := hA3.shape
 simp only [Jn.zeroP, List.length_nil]
 have hs3 := hb3.size
 clear hl3 hA3
 have n1q : ¬ w1.heap.size = w3.heap.size := by omega
 have n2q : ¬ w3.heap.size = w1.heap.size := by omega
 have HXb := hid (HX3.out.below ((Below.refl w3.heap.size w3).alloc (Nat.le_refl _) (.cells #[.int .i64 0, .int .i64 0, .bool false, .slice none 0 0, .slice none 0 0, .int .i64 0, .bool false] 39)))
 have p0 := HXb.out.cell 0 rfl
 have f0 := HXb.out.fr 0
 have p1 := HXb.out.cell 1 rfl
 have f1 := HXb.out.fr 1
 have p2 := HXb.out.cell 2 rfl
 have f2 := HXb.out.fr 2
 have p3 := HXb.out.cell 3 rfl
 have f3 := HXb.out.fr 3
 have p4 := HXb.out.cell 4 rfl
 have f4 := HXb.out.fr 4
 have p5 := HXb.out.cell 5 rfl
 have f5 := HXb.out.fr 5
 have p6 := HXb.out.cell 6 rfl
 have f6 := HXb.out.fr 6
 obtain ⟨y3, hy3⟩ : ∃ y3, y3 = w3.alloc (.cells #[.int .i64 0, .int .i64 0, .bool false, .slice none 0 0, .slice none 0 0, .int .i64 0, .bool false] 39) := ⟨_, rfl⟩
 have hby3 : Below w3.heap.size w3 y3 := by rw [hy3]; exact (Below.refl _ _).alloc (Nat.le_refl _) _
 have HAy3 := hid (show Cs y3 w3.heap.size [.int .i64 0, .int .i64 0, .bool false, .slice none 0 0, .slice none 0 0, .int .i64 0, .bool false] from by rw [hy3]; exact Cs.new w3 [.int .i64 0, .int .i64 0, .bool false, .slice none 0 0, .slice none 0 0, .int .i64 0, .bool false] _)
 obtain ⟨z3, hz3⟩ : ∃ z3, z3 = ((((((((((((((y3.setCell ⟨w1.heap.size, 0, none⟩ (.slice fbq B3.fos.length fdq)).setCell ⟨w1.heap.size, 1, none⟩ (.slice gbq B3.gs.length gdq)).setCell ⟨w1.heap.size, 2, none⟩ (.slice sbq B3.ss.length sdq)).setCell ⟨w1.heap.size, 3, none⟩ (.int .i64 B3.nx)).setCell ⟨w1.heap.size, 4, none⟩ (.int .i64 B3.la)).setCell ⟨w1.heap.size, 5, none⟩ (.int .i64 B3.ro)).setCell ⟨w1.heap.size, 6, none⟩ (.int .i64 B3.now)).setCell ⟨w3.heap.size, 0, none⟩ (.int .i64 0)).setCell ⟨w3.heap.size, 1, none⟩ (.int .i64 1)).setCell ⟨w3.heap.size, 2, none⟩ (.bool false)).setCell ⟨w3.heap.size, 3, none⟩ (.slice taq 0 tcq)).setCell ⟨w3.heap.size, 4, none⟩ (.slice caq 0 ccq)).setCell ⟨w3.heap.size, 5, none⟩ (.int .i64 0)).setCell ⟨w3.heap.size, 6, none⟩ (.bool false)) := ⟨_, rfl⟩
 have HXz3 : Hid (Cs z3 w1.heap.size [.slice fbq B3.fos.length fdq, .slice gbq B3.gs.length gdq, .slice sbq B3.ss.length sdq, .int .i64 B3.nx, .int .i64 B3.la, .int .i64 B3.ro, .int .i64 B3.now]) := (by rw [hz3]; exact (((((((((HX3.out.below hby3).set 0 (.slice fbq B3.fos.length fdq)).set 1 (.slice gbq B3.gs.length gdq)).set 2 (.slice sbq B3.ss.length sdq)).set 3 (.int .i64 B3.nx)).set 4 (.int .i64 B3.la)).set 5 (.int .i64 B3.ro)).set 6 (.int .i64 B3.now))).nb (grown_on (grown_on (grown_on (grown_on (grown_on (grown_on (nb_set _ (w3.heap.size) 0 (.int .i64 0)) (nb_set _ (w3.heap.size) 1 (.int .i64 1))) (nb_set _ (w3.heap.size) 2 (.bool false))) (nb_set _ (w3.heap.size) 3 (.slice taq 0 tcq))) (nb_set _ (w3.heap.size) 4 (.slice caq 0 ccq))) (nb_set _ (w3.heap.size) 5 (.int .i64 0))) (nb_set _ (w3.heap.size) 6 (.bool false))) (by omega) : Cs z3 w1.heap.size _)
 have HAz3 : Hid (Cs z3 w3.heap.size [.int .i64 0, .int .i64 1, .bool false, .slice taq 0 tcq, .slice caq 0 ccq, .int .i64 0, .bool false]) := (by rw [hz3]; exact ((((((((HAy3.out.nb (grown_on (grown_on (grown_on (grown_on (grown_on (grown_on (nb_set y3 (w1.heap.size) 0 (.slice fbq B3.fos.length fdq)) (nb_set _ (w1.heap.size) 1 (.slice gbq B3.gs.length gdq))) (nb_set _ (w1.heap.size) 2 (.slice sbq B3.ss.length sdq))) (nb_set _ (w1.heap.size) 3 (.int .i64 B3.nx))) (nb_set _ (w1.heap.size) 4 (.int .i64 B3.la))) (nb_set _ (w1.heap.size) 5 (.int .i64 B3.ro))) (nb_set _ (w1.heap.size) 6 (.int .i64 B3.now))) (by omega)).set 0 (.int .i64 0)).set 1 (.int .i64 1)).set 2 (.bool false)).set 3 (.slice taq 0 tcq)).set 4 (.slice caq 0 ccq)).set 5 (.int .i64 0)).set 6 (.bool false)) : Cs z3 w3.heap.size _)
 have HLz3 := hid (show LiesH z3 (.agg #[.slice fbq B3.fos.length fdq, .slice gbq B3.gs.length gdq, .slice sbq B3.ss.length sdq, .int .i64 B3.nx, .int .i64 B3.la, .int .i64 B3.ro, .int .i64 B3.now]) B3 from by rw [hz3]; exact ((HL3.out.below hby3).nb (grown_on (grown_on (grown_on (grown_on (grown_on (grown_on (nb_set y3 (w1.heap.size) 0 (.slice fbq B3.fos.length fdq)) (nb_set _ (w1.heap.size) 1 (.slice gbq B3.gs.length gdq))) (nb_set _ (w1.heap.size) 2 (.slice sbq B3.ss.length sdq))) (nb_set _ (w1.heap.size) 3 (.int .i64 B3.nx))) (nb_set _ (w1.heap.size) 4 (.int .i64 B3.la))) (nb_set _ (w1.heap.size) 5 (.int .i64 B3.ro))) (nb_set _ (w1.heap.size) 6 (.int .i64 B3.now))) (noStr_hub (HX3.out.below hby3))).nb (grown_on (grown_on (grown_on (grown_on (grown_on (grown_on (nb_set _ (w3.heap.size) 0 (.int .i64 0)) (nb_set _ (w3.heap.size) 1 (.int .i64 1))) (nb_set _ (w3.heap.size) 2 (.bool false))) (nb_set _ (w3.heap.size) 3 (.slice taq 0 tcq))) (nb_set _ (w3.heap.size) 4 (.slice caq 0 ccq))) (nb_set _ (w3.heap.size) 5 (.int .i64 0))) (nb_set _ (w3.heap.size) 6 (.bool false))) (noStr_ans (HAy3.out.nb (grown_on (grown_on (grown_on (grown_on (grown_on (grown_on (nb_set y3 (w1.heap.size) 0 (.slice fbq B3.fos.length fdq)) (nb_set _ (w1.heap.size) 1 (.slice gbq B3.gs.length gdq))) (nb_set _ (w1.heap.size) 2 (.slice sbq B3.ss.length sdq))) (nb_set _ (w1.heap.size) 3 (.int .i64 B3.nx))) (nb_set _ (w1.heap.size) 4 (.int .i64 B3.la))) (nb_set _ (w1.heap.size) 5 (.int .i64 B3.ro))) (nb_set _ (w1.heap.size) 6 (.int .i64 B3.now))) (by omega))))
 have hb0y3 := below_tr (below_tr hb0l hb3) hby3
 have hb0z3 : Below w.heap.size w z3 := by rw [hz3]; exact ((((((((((((((hb0y3.setCell (p := ⟨w1.heap.size, 0, none⟩) (hb1.size) _).setCell (p := ⟨w1.heap.size, 1, none⟩) (hb1.size) _).setCell (p := ⟨w1.heap.size, 2, none⟩) (hb1.size) _).setCell (p := ⟨w1.heap.size, 3, none⟩) (hb1.size) _).setCell (p := ⟨w1.heap.size, 4, none⟩) (hb1.size) _).setCell (p := ⟨w1.heap.size, 5, none⟩) (hb1.size) _).setCell (p := ⟨w1.heap.size, 6, none⟩) (hb1.size) _).setCell (p := ⟨w3.heap.size, 0, none⟩) ((by show w.heap.size ≤ w3.heap.size; have := (below_tr hb0l hb3).size; omega)) _).setCell (p := ⟨w3.heap.size, 1, none⟩) ((by show w.heap.size ≤ w3.heap.size; have := (below_tr hb0l hb3).size; omega)) _).setCell (p := ⟨w3.heap.size, 2, none⟩) ((by show w.heap.size ≤ w3.heap.size; have := (below_tr hb0l hb3).size; omega)) _).setCell (p := ⟨w3.heap.size, 3, none⟩) ((by show w.heap.size ≤ w3.heap.size; have := (below_tr hb0l hb3).size; omega)) _).setCell (p := ⟨w3.heap.size, 4, none⟩) ((by show w.heap.size ≤ w3.heap.size; have := (below_tr hb0l hb3).size; omega)) _).setCell (p := ⟨w3.heap.size, 5, none⟩) ((by show w.heap.size ≤ w3.heap.size; have := (below_tr hb0l hb3).size; omega)) _).setCell (p := ⟨w3.heap.size, 6, none⟩) ((by show w.heap.size ≤ w3.heap.size; have := (below_tr hb0l hb3).size; omega)) _)
 have HBz3 : Hid (Cs z3 w2.heap.size [.int .i64 0, .int .i64 0, .bool false, .slice ta 0 tc, .slice ca 0 cc, .int .i64 0, .bool false]) := (by rw [hz3]; exact ((HB3.out.below hby3).nb (grown_on (grown_on (grown_on (grown_on (grown_on (grown_on (nb_set y3 (w1.heap.size) 0 (.slice fbq B3.fos.length fdq)) (nb_set _ (w1.heap.size) 1 (.slice gbq B3.gs.length gdq))) (nb_set _ (w1.heap.size) 2 (.slice sbq B3.ss.length sdq))) (nb_set _ (w1.heap.size) 3 (.int .i64 B3.nx))) (nb_set _ (w1.heap.size) 4 (.int .i64 B3.la))) (nb_set _ (w1.heap.size) 5 (.int .i64 B3.ro))) (nb_set _ (w1.heap.size) 6 (.int .i64 B3.now))) (by omega)).nb (grown_on (grown_on (grown_on (grown_on (grown_on (grown_on (nb_set _ (w3.heap.size) 0 (.int .i64 0)) (nb_set _ (w3.heap.size) 1 (.int .i64 1))) (nb_set _ (w3.heap.size) 2 (.bool false))) (nb_set _ (w3.heap.size) 3 (.slice taq 0 tcq))) (nb_set _ (w3.heap.size) 4 (.slice caq 0 ccq))) (nb_set _ (w3.heap.size) 5 (.int .i64 0))) (nb_set _ (w3.heap.size) 6 (.bool false))) (by omega) : Cs z3 w2.heap.size _)
 go_upto_region 4 with fail
 rw [← hy3, ← hz3]
 clear hz3 hy3 p0 p1 p2 p3 p4 p5 p6 f0 f1 f2 f3 f4 f5 f6 HXb
 have hsz3 : w3.heap.size < z3.heap.size := HAz3.out.lt
 have x0 := HXz3.out.cell 0 rfl
 have x1 := HXz3.out.cell 1 rfl
 have x2 := HXz3.out.cell 2 rfl
 have x3 := HXz3.out.cell 3 rfl
 have x4 := HXz3.out.cell 4 rfl
 have x5 := HXz3.out.cell 5 rfl
 have x6 := HXz3.out.cell 6 rfl
 go_wp2_with fail
 refine (HS3.out z3 _ HLz3.out).mono ?_
 rintro e w4 ⟨ta4, tc4, rfl, hb4⟩
 clear x0 x1 x2 x3 x4 x5 x6
 have hb04 := below_tr hb0z3 hb4
 have k0 := (HBz3.out.below hb4).cell 0 rfl
 have m0 := (HAz3.out.below hb4).cell 0 rfl
 have m1 := (HAz3.out.below hb4).cell 1 rfl
 go_wp2_with fail
 go_ret
 exact ⟨rfl, hb04⟩
end Go.Proofs.YtchlgpeiombmdaaGreat
set_option linter.unusedSimpArgs false
set_option linter.unusedVariables false
namespace Go.Proofs.YtchlgpeiombmdaaGreat
open Go.RowKit

def Bx (W : World) (b : Nat) (a0 a1 a2 a3 : Value) : Prop := b < W.heap.size ∧ (W.cell? ⟨b, 0, none⟩ = some a0 ∧ W.cell? ⟨b, 1, none⟩ = some a1 ∧ W.cell? ⟨b, 2, none⟩ = some a2 ∧ W.cell? ⟨b, 3, none⟩ = some a3) ∧ W.frozen? ⟨b, 0, none⟩ = false ∧ W.frozen? ⟨b, 1, none⟩ = false ∧ W.frozen? ⟨b, 2, none⟩ = false ∧ W.frozen? ⟨b, 3, none⟩ = false
theorem Bx.below {W W' : World} {b : Nat} {a0 a1 a2 a3 : Value} (h : Bx W b a0 a1 a2 a3) (hw : Below W.heap.size W W') : Bx W' b a0 a1 a2 a3 := by
 obtain ⟨hb, ⟨c0, c1, c2, c3⟩, f0, f1, f2, f3⟩ := h
 exact ⟨Nat.lt_of_lt_of_le hb hw.size, ⟨(hw.cell (p := ⟨b, 0, none⟩) hb).trans c0, (hw.cell (p := ⟨b, 1, none⟩) hb).trans c1, (hw.cell (p := ⟨b, 2, none⟩) hb).trans c2, (hw.cell (p := ⟨b, 3, none⟩) hb).trans c3⟩, (hw.frozen (p := ⟨b, 0, none⟩) hb).trans f0, (hw.frozen (p := ⟨b, 1, none⟩) hb).trans f1, (hw.frozen (p := ⟨b, 2, none⟩) hb).trans f2, (hw.frozen (p := ⟨b, 3, none⟩) hb).trans f3⟩
theorem Bx.nb {W W' : World} {b g : Nat} {a0 a1 a2 a3 : Value} (h : Bx W b a0 a1 a2 a3) (hw : W.grownBy W' (some g)) (hne : b ≠ g) : Bx W' b a0 a1 a2 a3 := by
 obtain ⟨hb, ⟨c0, c1, c2, c3⟩, f0, f1, f2, f3⟩ := h
 exact ⟨Nat.lt_of_lt_of_le hb hw.size, ⟨(Nb.cell hw (p := ⟨b, 0, none⟩) hb hne).trans c0, (Nb.cell hw (p := ⟨b, 1, none⟩) hb hne).trans c1, (Nb.cell hw (p := ⟨b, 2, none⟩) hb hne).trans c2, (Nb.cell hw (p := ⟨b, 3, none⟩) hb hne).trans c3⟩, (Nb.frozen hw (p := ⟨b, 0, none⟩) hb hne).trans f0, (Nb.frozen hw (p := ⟨b, 1, none⟩) hb hne).trans f1, (Nb.frozen hw (p := ⟨b, 2, none⟩) hb hne).trans f2, (Nb.frozen hw (p := ⟨b, 3, none⟩) hb hne).trans f3⟩
theorem Bx.new (w : World) (a0 a1 a2 a3 : Value) (T : TypeId) : Bx (w.alloc (.cells #[a0, a1, a2, a3] T)) w.heap.size a0 a1 a2 a3 :=
 ⟨by simp, ⟨by simp, by simp, by simp, by simp⟩, World.frozen?_alloc_at _ _ _ _ rfl, World.frozen?_alloc_at _ _ _ _ rfl, World.frozen?_alloc_at _ _ _ _ rfl, World.frozen?_alloc_at _ _ _ _ rfl⟩
theorem Bx.set {W : World} {b b' o : Nat} {a0 a1 a2 a3 u : Value} (h : Bx W b a0 a1 a2 a3) (hne : b' ≠ b) : Bx (W.setCell ⟨b', o, none⟩ u) b a0 a1 a2 a3 := h.nb (Nb.setCell W b' o u) (fun e => hne e.symm)
theorem below_set4 {B b : Nat} {w W : World} {a0 a1 a2 a3 : Value} (h : Below B w W) (hb : B ≤ b) : Below B w ((((W.setCell ⟨b, 0, none⟩ a0).setCell ⟨b, 1, none⟩ a1).setCell ⟨b, 2, none⟩ a2).setCell ⟨b, 3, none⟩ a3) :=
 (((h.setCell (p := ⟨b, 0, none⟩) hb _).setCell (p := ⟨b, 1, none⟩) hb _).setCell (p := ⟨b, 2, none⟩) hb _).setCell (p := ⟨b, 3, none⟩) hb _
end Go.Proofs.YtchlgpeiombmdaaGreat
