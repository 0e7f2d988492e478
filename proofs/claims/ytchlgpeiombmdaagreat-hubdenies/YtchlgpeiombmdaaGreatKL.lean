/- What a commit leaves of a hub passes Check; who commits again by a key commits once (mathematics). Serve of a request for a commit, once and again. -/
import Derived.Test.YtchlgpeiombmdaaGreatKD
import Derived.Test.YtchlgpeiombmdaaGreatJOnc
import Derived.Test.YtchlgpeiombmdaaGreatKG
import Derived.Test.YtchlgpeiombmdaaGreatH12e
set_option linter.unusedSimpArgs false
set_option linter.unusedVariables false
namespace Go.Proofs.YtchlgpeiombmdaaGreat
open Go.RowKit
namespace Hu

theorem na_plc {x : ByteArray} : ∀ {L M : List Sh}, L.map Sh.na = M.map Sh.na → plc L x = plc M x := fun {L M} h => by
 have e : ∀ K : List Sh, plc K x = (K.map Sh.na).findIdx (fun n => decide (0 ≤ Lib.compareBytes n.data.toList x.data.toList)) := fun K => by
  rw [List.findIdx_map]; rfl
 rw [e, e, h]
theorem na_isB {x : ByteArray} : ∀ {L M : List Sh}, L.map Sh.na = M.map Sh.na → isB L x = isB M x := fun {L M} h => by
 have e : ∀ K : List Sh, isB K x = (K.map Sh.na).any (fun n => decide (Lib.compareBytes n.data.toList x.data.toList = 0)) := fun K => by
  rw [List.any_map]; rfl
 rw [e, e, h]
theorem na_ris : ∀ {L M : List Sh}, L.map Sh.na = M.map Sh.na → risB L = risB M
 | [], [], _ => rfl
 | [], _ :: _, h => by simp at h
 | _ :: _, [], h => by simp at h
 | [_], [_], _ => rfl
 | [_], _ :: _ :: _, h => by simp at h
 | _ :: _ :: _, [_], h => by simp at h
 | a :: b :: r, c :: d :: t, h => by
  have h1 : a.na = c.na := by simp at h; exact h.1
  have h2 : b.na = d.na := by simp at h; exact h.2.1
  have h3 : (b :: r).map Sh.na = (d :: t).map Sh.na := by simp at h; simp [h.2.1, h.2.2]
  rw [risB, risB, na_ris h3, lt, lt, h1, h2]
theorem na_told {L M : List Sh} (G : List Gr) (h : L.map Sh.na = M.map Sh.na) : told L G = told M G := by
 unfold told
 refine List.map_congr_left fun g _ => ?_
 rw [na_plc h]
theorem na_tel {L M : List Sh} (G : List Gr) (h : L.map Sh.na = M.map Sh.na) : telE L G = telE M G := by
 have hl : L.length = M.length := by have := congrArg List.length h; simpa using this
 unfold telE
 rw [na_told G h, hl]
 have e : (G.all fun g => isB L g.fo) = (G.all fun g => isB M g.fo) := by
  congr 1; funext g; exact na_isB h
 rw [e]
theorem na_whr {L M : List Sh} (G : List Gr) (x : ByteArray) (h : L.map Sh.na = M.map Sh.na) : whr L G x = whr M G x := by rw [whr, whr, na_plc h]
theorem put_na (H : Hb) (i : Nat) (J : Jo) : (putJ H i J).fos.map Sh.na = H.fos.map Sh.na := by
 rw [putJ]
 apply List.ext_getElem?
 intro j
 simp only [List.getElem?_map, List.getElem?_modify]
 by_cases e : i = j
 · subst e; cases H.fos[i]? <;> simp
 · simp [e]
theorem shs_iff : ∀ {L : List Sh}, shsE L = 0 ↔ ∀ s ∈ L, shE s = 0
 | [] => by simp [shsE]
 | s :: r => by
  rw [shsE]
  by_cases h : shE s = 0
  · rw [if_neg (fun x => x h), shs_iff]; simp [h]
  · rw [if_pos h]; simp [h]
theorem cf_make {L : List Sh} (h1 : L.length ≤ 8) (h2 : shsE L = 0) (h3 : risB L = true) : cfE L = 0 := by
 rw [cfE, if_neg (by omega), if_neg (fun x => x h2), if_pos h3]
theorem h_make {H : Hb} (h0 : ¬ (H.now < 0 ∨ 1099511627776 < H.now)) (h1 : cfE H.fos = 0) (h2 : Pp.gchE H.gs = 0) (h3 : telE H.fos H.gs = 0) (h4 : Pp.uchE H.ss H.nx H.la H.ro = 0) : hE H = 0 := by rw [h_up h0 h1 h2 h3, h4]
/-- A hub that passes Check passes it with another good journal. -/
theorem put_he {H : Hb} {i : Nat} {J : Jo} (h : hE H = 0) (hi : i < H.fos.length) (hj : Jn.chkE J = 0) : hE (putJ H i J) = 0 := by
 obtain ⟨h0, h1, h2, h3, h4⟩ := h_parts h
 obtain ⟨c1, c2, c3⟩ := cf_parts h1
 have hn := put_na H i J
 have hl : (putJ H i J).fos.length = H.fos.length := by rw [putJ_fos hi, List.length_set]
 refine h_make h0 (cf_make (by omega) (shs_iff.2 ?_) (by rw [na_ris hn]; exact c3)) h2 (by rw [show (putJ H i J).gs = H.gs from rfl, na_tel _ hn]; exact h3) h4
 intro s hs
 rw [putJ_fos hi] at hs
 rcases List.mem_or_eq_of_mem_set hs with hs | rfl
 · exact shs_iff.1 c2 s hs
 · obtain ⟨e, _⟩ := sh_parts (shs_iff.1 c2 _ (List.getElem_mem hi))
   show (if ¬ Pp.nmsE [H.fos[i].na] = 0 then _ else Jn.chkE J) = 0
   rw [if_neg (fun x => x e), hj]
theorem joAt_put {H : Hb} {i : Nat} (J : Jo) (hi : i < H.fos.length) : joAt (putJ H i J) i = J := by
 have hl : i < (putJ H i J).fos.length := by rw [putJ_fos hi, List.length_set]; exact hi
 rw [joAt_eq hl]
 simp only [putJ_fos hi, List.getElem_set_self]
theorem put_put {H : Hb} {i : Nat} (J K : Jo) (hi : i < H.fos.length) : putJ (putJ H i J) i K = putJ H i K := by
 have hl : i < (putJ H i J).fos.length := by rw [putJ_fos hi, List.length_set]; exact hi
 have e : (putJ (putJ H i J) i K).fos = (putJ H i K).fos := by
  show (H.fos.modify i _).modify i _ = H.fos.modify i _
  rw [List.modify_modify_eq]
  rfl
 have e1 : putJ (putJ H i J) i K = { (putJ H i K) with fos := (putJ (putJ H i J) i K).fos } := rfl
 rw [e1, e]
theorem cm_ok {H : Hb} {i : Nat} {key : ByteArray} {l : List Pp.Ch} (hi : i < H.fos.length) (h0 : cmE H i key l = 0) : cmH H i key l = putJ H i (Jn.comR (joAt H i) key l) := by rw [cmH, if_pos h0]
/-- Who commits again by a key commits once. -/
theorem cm_again {H : Hb} {i : Nat} {key : ByteArray} {l : List Pp.Ch} (h : hE H = 0) (hi : i < H.fos.length) (h0 : cmE H i key l = 0) (m : List Pp.Ch) :
    hE (cmH H i key l) = 0 ∧ cmE (cmH H i key l) i key m = 0 ∧ cmN (cmH H i key l) i key m = cmN H i key l ∧ cmH (cmH H i key l) i key m = cmH H i key l := by
 obtain ⟨g1, g2, g3, g4⟩ := Jn.com_again (J := joAt H i) h0 m
 rw [cm_ok hi h0]
 have a2 : cmE (putJ H i (Jn.comR (joAt H i) key l)) i key m = 0 := by rw [cmE, joAt_put _ hi]; exact g2
 refine ⟨put_he h hi g1, a2, by rw [cmN, joAt_put _ hi]; exact g3, ?_⟩
 rw [cmH, if_pos a2, joAt_put _ hi, g4, put_put _ _ hi]
theorem cm_gs (H : Hb) (i : Nat) (key : ByteArray) (l : List Pp.Ch) : (cmH H i key l).gs = H.gs := by rw [cmH]; split <;> rfl
theorem cm_whr (H : Hb) (i : Nat) (key : ByteArray) (l : List Pp.Ch) (x : ByteArray) : whr (cmH H i key l).fos (cmH H i key l).gs x = whr H.fos H.gs x := by
 rw [cmH]
 split
 · exact na_whr _ _ (put_na _ _ _)
 · rfl
theorem cm_sized {H : Hb} {i : Nat} {key : ByteArray} {l : List Pp.Ch} (hs : SizedH H) (hi : i < H.fos.length) (h0 : cmE H i key l = 0) (hk : key.size ≤ 150000000000000) (hl : SizedC 150000000000000 l) : SizedH (cmH H i key l) := by
 obtain ⟨g1, _⟩ := Jn.com_again (J := joAt H i) h0 l
 have hj := hs.fos _ (List.getElem_mem hi)
 rw [cm_ok hi h0]
 refine ⟨?_, hs.gs, hs.ss⟩
 intro s h
 rw [putJ_fos hi] at h
 rcases List.mem_or_eq_of_mem_set h with h | rfl
 · exact hs.fos s h
 · refine ⟨hj.1, Pp.good_sized ((Pp.good_iff _).1 (Jn.chk_parts g1).1), Jn.com_sized h0 ?_ hk hl⟩
   rw [joAt_eq hi]; exact hj.2.2
end Hu
end Go.Proofs.YtchlgpeiombmdaaGreat
set_option linter.unusedSimpArgs false
set_option linter.unusedVariables false
namespace Go.Proofs.YtchlgpeiombmdaaGreat
open Go.RowKit
namespace Hu
/-- What a request for a commit leaves, and its answer. -/
def s1H (H : Hb) (q : Rq) : Hb := if ckE H.gs q = 0 then cmH H (whr H.fos H.gs q.fo) q.key q.ch else H
def s1A (H : Hb) (q : Rq) : An := if ckE H.gs q = 0 then ⟨cmE H (whr H.fos H.gs q.fo) q.key q.ch, cmN H (whr H.fos H.gs q.fo) q.key q.ch, Jn.zeroP⟩ else ⟨ckE H.gs q, 0, Jn.zeroP⟩
theorem ck_lt {H : Hb} {q : Rq} (h0 : hE H = 0) (hk : q.kind = 1) (hck : ckE H.gs q = 0) : whr H.fos H.gs q.fo < H.fos.length := by
 have hin : inG H.gs q.fo = true := rig_in (h := q.who) (by have := (ck_parts hck).2.2.2; rw [hk] at this; have e : lst 1 = 2 := rfl; omega)
 exact (whr_at h0 hin).elim (fun h _ => h)
theorem s1_again {H : Hb} {q : Rq} (h0 : hE H = 0) (hs : SizedH H) (hsq : SizedQ q) (hk : q.kind = 1) : hE (s1H H q) = 0 ∧ SizedH (s1H H q) ∧ s1H (s1H H q) q = s1H H q ∧ s1A (s1H H q) q = s1A H q := by
 by_cases hck : ckE H.gs q = 0
 · have hi := ck_lt h0 hk hck
   have e : s1H H q = cmH H (whr H.fos H.gs q.fo) q.key q.ch := by rw [s1H, if_pos hck]
   by_cases hc : cmE H (whr H.fos H.gs q.fo) q.key q.ch = 0
   · obtain ⟨a1, a2, a3, a4⟩ := cm_again h0 hi hc q.ch
     have hg : (s1H H q).gs = H.gs := by rw [e, cm_gs]
     have hw : whr (s1H H q).fos (s1H H q).gs q.fo = whr H.fos H.gs q.fo := by rw [e, cm_whr]
     refine ⟨by rw [e]; exact a1, by rw [e]; exact cm_sized hs hi hc hsq.key hsq.ch, ?_, ?_⟩
     · rw [s1H, hw, hg, if_pos hck, e, a4]
     · rw [s1A, s1A, hw, hg, if_pos hck, if_pos hck, e, a2, a3, hc]
   · have e' : s1H H q = H := by rw [e, cmH, if_neg hc]
     rw [e', e']; exact ⟨h0, hs, rfl, rfl⟩
 · have e : s1H H q = H := by rw [s1H, if_neg hck]
   rw [e, e]; exact ⟨h0, hs, rfl, rfl⟩
end Hu
theorem serve_1 (H : Hb) (q : Rq) (v vq : Value) (w : World) (hv : LiesH w v H) (hs : SizedH H) (hq : LiesQ w vq q) (hsq : SizedQ q) (h0 : Hu.hE H = 0) (hk : q.kind = 1) :
    Calls Tryz.prog 9 #[v, vq] w fun e w' => ∃ u a, e = .returned (.tuple #[u, a, .int .i64 0]) ∧ LiesH w' u (Hu.s1H H q) ∧ LiesA w' a (Hu.s1A H q) ∧ Below w.heap.size w w' := by
 by_cases hck : Hu.ckE H.gs q = 0
 · rw [Hu.s1H, Hu.s1A, if_pos hck, if_pos hck]
   exact serve_commit H q v vq w hv hs hq hsq h0 hk hck
 · rw [Hu.s1H, Hu.s1A, if_neg hck, if_neg hck]
   refine serve_ok H H _ q v vq w hv hs hq h0 ?_
   intro B W g mb vf vg vs vq hsv hm hgB hBW hq
   exact sanswer_err H q vq vf g mb W hsv.lies hs.gs hq hsq hck
end Go.Proofs.YtchlgpeiombmdaaGreat
