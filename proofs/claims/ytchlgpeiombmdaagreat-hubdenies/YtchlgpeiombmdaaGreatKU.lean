/- What the upload calls answer, all cases in one: as the hub uses them. What Serve answers to requests about uploads. What Serve answers to every request, of a hub that passes Check. Uploads that pass Check pass it behind each upload call. A hub that passes Check passes it behind every request; with an error nothing changes. -/
import Derived.Test.YtchlgpeiombmdaaGreatKM
import Derived.Test.YtchlgpeiombmdaaGreatZA
import Derived.Test.YtchlgpeiombmdaaGreatZB
import Derived.Test.YtchlgpeiombmdaaGreatKL
import Derived.Test.YtchlgpeiombmdaaGreatZC
set_option linter.unusedSimpArgs false
set_option linter.unusedVariables false
namespace Go.Proofs.YtchlgpeiombmdaaGreat
open Go.RowKit

namespace Hu
def zU (e : Int) : Ur := ⟨e, [], 0, 0, 0, 0⟩
def opU (H : Hb) (p : ByteArray) (n : Int) : Ur := if Pp.opE H.ss H.nx H.la H.ro p n H.now = 0 then ⟨0, Pp.swL H.now H.ss ++ [Pp.newS H.nx p n (H.now + H.la)], H.nx + 1, H.la, H.ro, H.nx⟩ else zU (Pp.opE H.ss H.nx H.la H.ro p n H.now)
def fiX (H : Hb) (p : ByteArray) (n : Int) : Nat := (Pp.idS (Pp.swL H.now H.ss) (Pp.mine n p)).toNat
def apK (H : Hb) (k : Nat) (s : Se) (o : Int) (t : ByteArray) : Ur :=
 if Pp.enB s.tx o t = true then ⟨0, Pp.swL H.now H.ss, H.nx, H.la, H.ro, (s.tx.size : Int)⟩
 else if o = (s.tx.size : Int) then (if s.si < (s.tx.size : Int) + t.size then zU 2 else ⟨0, (Pp.swL H.now H.ss).set k (Pp.moreS s t (H.now + H.la)), H.nx, H.la, H.ro, (s.tx.size : Int) + t.size⟩)
 else zU 4
def apU (H : Hb) (p : ByteArray) (n o : Int) (t : ByteArray) : Ur := if Pp.fiE H.ss H.nx H.la H.ro p n H.now = 0 then (match (Pp.swL H.now H.ss)[fiX H p n]? with
 | some s => apK H (fiX H p n) s o t
 | none => zU 5) else zU (Pp.fiE H.ss H.nx H.la H.ro p n H.now)
def quE (H : Hb) (p : ByteArray) (n : Int) : Int := Pp.fiE H.ss H.nx H.la H.ro p n H.now
def quN (H : Hb) (p : ByteArray) (n : Int) : Int := if quE H p n = 0 then (match (Pp.swL H.now H.ss)[fiX H p n]? with
 | some s => (s.tx.size : Int)
 | none => 0) else 0
def zF (e : Int) : Fu := ⟨e, [], 0, 0, 0, ⟨#[]⟩⟩
def fnU (H : Hb) (p : ByteArray) (n : Int) : Fu := if quE H p n = 0 then (match (Pp.swL H.now H.ss)[fiX H p n]? with
 | some s => if (s.tx.size : Int) < s.si then zF 4 else ⟨0, (Pp.swL H.now H.ss).take (fiX H p n) ++ (Pp.swL H.now H.ss).drop (fiX H p n + 1), H.nx, H.la, H.ro, s.tx⟩
 | none => zF 5) else zF (quE H p n)
theorem fi_at {H : Hb} {p : ByteArray} {n : Int} (h : Pp.fiE H.ss H.nx H.la H.ro p n H.now = 0) : ∃ (hk : fiX H p n < (Pp.swL H.now H.ss).length), (Pp.swL H.now H.ss)[fiX H p n]? = some (Pp.swL H.now H.ss)[fiX H p n] ∧ Pp.idS (Pp.swL H.now H.ss) (Pp.mine n p) = (fiX H p n : Int) := by
 rcases Pp.fi_cases H.ss H.nx H.la H.ro p n H.now with ⟨h1, h2⟩ | ⟨_, _, h2⟩ | ⟨_, _, k, hk, he⟩
 · rw [h] at h2; exact absurd h2.symm h1
 · rw [h] at h2; cases h2
 · have e : fiX H p n = k := by rw [fiX, he]; rfl
   have hk' : fiX H p n < (Pp.swL H.now H.ss).length := by rw [e]; exact hk
   exact ⟨hk', List.getElem?_eq_getElem hk', by rw [he, e]⟩
theorem sw_len {H : Hb} {p : ByteArray} {n : Int} (h : Pp.fiE H.ss H.nx H.la H.ro p n H.now = 0) : (Pp.swL H.now H.ss).length ≤ 20 := by
 have hg := Pp.fi_zero h
 have := (Pp.bnd_zero (Pp.uch_zero (Pp.go_zero hg).1).1).1
 have := Pp.swL_len H.now H.ss
 omega
end Hu
theorem Fr.ownS {B : Nat} {w : World} {u : Value} {L : List Se} (h : OwnS B w u L) : Fr B u := by
 rcases h with ⟨rfl, _⟩ | ⟨g, cap, rfl, h2, _⟩
 · exact fr_nil _
 · intro b hb; simp [Value.ownBlock] at hb; omega
theorem uopen_all (H : Hb) (v : Value) (p : ByteArray) (n : Int) (w : World) (hs : SizedS H.ss) (hp : p.size ≤ 150000000000000) (hv : LiesS w v H.ss) : UpCall w 81 #[.agg #[v, .int .i64 H.nx, .int .i64 H.la, .int .i64 H.ro], .string p, .int .i64 n, .int .i64 H.now] (Hu.opU H p n) := by
 refine (open_any H.ss v H.nx H.la H.ro p n H.now w hv hs hp).mono ?_
 rintro e w' (⟨h, rfl, hb⟩ | ⟨h, u, rfl, ho, hb⟩)
 · rw [Hu.opU, if_neg h]; exact ⟨_, rfl, liesS_nil _, hb⟩
 · rw [Hu.opU, if_pos h]
   refine ⟨u, rfl, ho.lies ?_, hb⟩
   have : (Pp.swL H.now H.ss).length ≤ 20 := by
    have hl := Pp.swL_len H.now H.ss
    rcases Pp.op_cases H.ss H.nx H.la H.ro p n H.now with ⟨h0, hE⟩ | ⟨h0, h1, hE⟩ | ⟨h0, h1, h2, hE⟩ | ⟨h0, h1, h2, h3, hE⟩ | ⟨h0, h1, h2, h3, h4, hE⟩ | ⟨h0, h1, h2, h3, h4, h5, hE⟩ | ⟨h0, h1, h2, h3, h4, h5, hE⟩
    all_goals first
     | (rw [h] at hE; exact absurd hE.symm h0)
     | (have := (Pp.bnd_zero (Pp.uch_zero (Pp.go_zero h0).1).1).1; omega)
   simp; omega
theorem uappend_all (H : Hb) (v : Value) (p : ByteArray) (n o : Int) (t : ByteArray) (w : World) (hs : SizedS H.ss) (hp : p.size ≤ 150000000000000) (ht : t.size ≤ 150000000000000) (hv : LiesS w v H.ss) : UpCall w 82 #[.agg #[v, .int .i64 H.nx, .int .i64 H.la, .int .i64 H.ro], .string p, .int .i64 n, .int .i64 o, .string t, .int .i64 H.now] (Hu.apU H p n o t) := by
 by_cases h0 : Pp.fiE H.ss H.nx H.la H.ro p n H.now = 0
 · obtain ⟨hk, e1, e2⟩ := Hu.fi_at h0
   have hl := Hu.sw_len h0
   rw [Hu.apU, if_pos h0, e1]
   simp only [Hu.apK]
   cases he : Pp.enB ((Pp.swL H.now H.ss)[Hu.fiX H p n]).tx o t with
   | true =>
    rw [if_pos rfl]
    refine (append_same H.ss v H.nx H.la H.ro p n o t H.now w hv hs hp h0 _ hk e2 ht he).mono ?_
    rintro e w' ⟨u, rfl, ho, hb⟩
    exact ⟨u, rfl, ho.lies (by omega), hb⟩
   | false =>
    rw [if_neg (by decide)]
    by_cases ho : o = ((((Pp.swL H.now H.ss)[Hu.fiX H p n]).tx.size : Nat) : Int)
    · rw [if_pos ho]
      by_cases hsi : ((Pp.swL H.now H.ss)[Hu.fiX H p n]).si < ((((Pp.swL H.now H.ss)[Hu.fiX H p n]).tx.size : Nat) : Int) + t.size
      · rw [if_pos hsi]
        refine (append_e2 H.ss v H.nx H.la H.ro p n o t H.now w hv hs hp h0 _ hk e2 ht he ho hsi).mono ?_
        rintro e w' ⟨rfl, hb⟩
        exact ⟨_, rfl, liesS_nil _, hb⟩
      · rw [if_neg hsi]
        refine (append_k H.ss v H.nx H.la H.ro p n o t H.now w hv hs hp h0 _ hk e2 ht he ho (by omega)).mono ?_
        rintro e w' ⟨u, rfl, ho, hb⟩
        exact ⟨u, rfl, ho.lies (by simp; omega), hb⟩
    · rw [if_neg ho]
      refine (append_e4 H.ss v H.nx H.la H.ro p n o t H.now w hv hs hp h0 _ hk e2 ht he (by simpa using ho)).mono ?_
      rintro e w' ⟨rfl, hb⟩
      exact ⟨_, rfl, liesS_nil _, hb⟩
 · rw [Hu.apU, if_neg h0]
   refine (append_e1 H.ss v H.nx H.la H.ro p n o t H.now w hv hs hp h0).mono ?_
   rintro e w' ⟨rfl, hb⟩
   exact ⟨_, rfl, liesS_nil _, hb⟩
theorem uquery_all (H : Hb) (v : Value) (p : ByteArray) (n : Int) (w : World) (hs : SizedS H.ss) (hp : p.size ≤ 150000000000000) (hv : LiesS w v H.ss) : Calls Tryz.prog 83 #[.agg #[v, .int .i64 H.nx, .int .i64 H.la, .int .i64 H.ro], .string p, .int .i64 n, .int .i64 H.now] w fun z w' => z = .returned (.tuple #[.int .i64 (Hu.quN H p n), .int .i64 (Hu.quE H p n)]) ∧ Below w.heap.size w w' := by
 by_cases h0 : Pp.fiE H.ss H.nx H.la H.ro p n H.now = 0
 · obtain ⟨hk, e1, e2⟩ := Hu.fi_at h0
   have hq : Hu.quE H p n = 0 := h0
   rw [Hu.quN, hq, if_pos rfl, e1]
   exact query_k H.ss v H.nx H.la H.ro p n H.now w hv hs hp h0 _ hk e2
 · have hq : ¬ Hu.quE H p n = 0 := h0
   rw [Hu.quN, if_neg hq]
   exact query_e1 H.ss v H.nx H.la H.ro p n H.now w hv hs hp h0
theorem ufinish_all (H : Hb) (v : Value) (p : ByteArray) (n : Int) (w : World) (hs : SizedS H.ss) (hp : p.size ≤ 150000000000000) (hv : LiesS w v H.ss) : Calls Tryz.prog 113 #[.agg #[v, .int .i64 H.nx, .int .i64 H.la, .int .i64 H.ro], .string p, .int .i64 n, .int .i64 H.now] w fun z w' => ∃ u, z = .returned (.tuple #[.agg #[u, .int .i64 (Hu.fnU H p n).nx, .int .i64 (Hu.fnU H p n).la, .int .i64 (Hu.fnU H p n).ro], .string (Hu.fnU H p n).tx, .int .i64 (Hu.fnU H p n).e]) ∧ LiesS w' u (Hu.fnU H p n).ss ∧ Fr w.heap.size u ∧ Below w.heap.size w w' := by
 by_cases h0 : Pp.fiE H.ss H.nx H.la H.ro p n H.now = 0
 · obtain ⟨hk, e1, e2⟩ := Hu.fi_at h0
   have hl := Hu.sw_len h0
   have hq : Hu.quE H p n = 0 := h0
   by_cases hsi : ((((Pp.swL H.now H.ss)[Hu.fiX H p n]).tx.size : Nat) : Int) < ((Pp.swL H.now H.ss)[Hu.fiX H p n]).si
   · have e : Hu.fnU H p n = Hu.zF 4 := by rw [Hu.fnU, hq, if_pos rfl, e1]; exact if_pos hsi
     rw [e]
     refine (finish_e4 H.ss v H.nx H.la H.ro p n H.now w hv hs hp h0 _ hk e2 hsi).mono ?_
     rintro e w' ⟨rfl, hb⟩
     exact ⟨_, rfl, liesS_nil _, fr_nil _, hb⟩
   · have e : Hu.fnU H p n = ⟨0, (Pp.swL H.now H.ss).take (Hu.fiX H p n) ++ (Pp.swL H.now H.ss).drop (Hu.fiX H p n + 1), H.nx, H.la, H.ro, ((Pp.swL H.now H.ss)[Hu.fiX H p n]).tx⟩ := by rw [Hu.fnU, hq, if_pos rfl, e1]; exact if_neg hsi
     rw [e]
     refine (finish_k H.ss v H.nx H.la H.ro p n H.now w hv hs hp h0 _ hk e2 hsi).mono ?_
     rintro e w' ⟨u, rfl, ho, hb⟩
     exact ⟨u, rfl, ho.lies (by simp; omega), Fr.ownS ho, hb⟩
 · have hq : ¬ Hu.quE H p n = 0 := h0
   rw [Hu.fnU, if_neg hq]
   refine (finish_e1 H.ss v H.nx H.la H.ro p n H.now w hv hs hp h0).mono ?_
   rintro e w' ⟨rfl, hb⟩
   exact ⟨_, rfl, liesS_nil _, fr_nil _, hb⟩
end Go.Proofs.YtchlgpeiombmdaaGreat
set_option linter.unusedSimpArgs false
set_option linter.unusedVariables false
namespace Go.Proofs.YtchlgpeiombmdaaGreat
open Go.RowKit

set_option maxRecDepth 100000 in
set_option maxHeartbeats 4000000 in
theorem snum_finish (H : Hb) (q : Rq) (vq vf vg vs : Value) (B g mb n : Nat) (w : World) (hsv : Sv B w g mb vf vg vs H) (hm : SvM w mb n H) (hgB : g < B) (hBw : B ≤ w.heap.size) (hs : SizedF H.fos) (hss : SizedS H.ss) (hq : LiesQ w vq q) (hsq : SizedQ q) (htx : (Hu.fnU H q.who q.num).tx.size ≤ 150000000000000) (hi : Hu.whr H.fos H.gs q.fo < H.fos.length) (hk : q.kind = 7) :
    Calls Tryz.prog 42 #[.pointer (some ⟨g, 0, none⟩), vq] w fun z w' => z = .returned (.tuple #[.int .i64 (Hu.fnN H q (Hu.fnU H q.who q.num)), .int .i64 (Hu.fnE H q (Hu.fnU H q.who q.num))]) ∧ SvL w' g mb (Hu.fnH H q (Hu.fnU H q.who q.num)) ∧ Nb2 w w' g (bo vf g) := by
 have HSF := hid hs
 have HSS := hid hss
 have HM := hid hm
 have HI := hid hi
 have HTX := hid htx
 have HSV := hid hsv
 have HSQ := hid hsq
 clear hs hm hi htx hss hsv hsq
 obtain ⟨va, rfl, lq⟩ := hq
 have HLQ := hid lq
 obtain ⟨qa, qc, rfl, _⟩ := lq
 obtain ⟨kind, who, fo, name, key, text, num, off, base, ch⟩ := q
 simp only at *
 obtain ⟨wz, hwz⟩ : ∃ wz, wz = w.alloc (.cells #[.int .i64 kind, .string who, .string fo, .string name, .string key, .string text, .int .i64 num, .int .i64 off, .int .i64 base, .slice qa ch.length qc] 31) := ⟨_, rfl⟩
 have hbz : Below w.heap.size w wz := by rw [hwz]; exact (Below.refl _ _).alloc (Nat.le_refl _) _
 have HQX : Hid (Cs wz w.heap.size [.int .i64 kind, .string who, .string fo, .string name, .string key, .string text, .int .i64 num, .int .i64 off, .int .i64 base, .slice qa ch.length qc]) := (by rw [hwz]; exact Cs.new w [.int .i64 kind, .string who, .string fo, .string name, .string key, .string text, .int .i64 num, .int .i64 off, .int .i64 base, .slice qa ch.length qc] _ : Cs wz w.heap.size _)
 subst hk
 have x0 := HQX.out.cell 0 rfl
 have x1 := HQX.out.cell 1 rfl
 have x2 := HQX.out.cell 2 rfl
 have x3 := HQX.out.cell 3 rfl
 have x4 := HQX.out.cell 4 rfl
 have x5 := HQX.out.cell 5 rfl
 have x6 := HQX.out.cell 6 rfl
 have x7 := HQX.out.cell 7 rfl
 have x8 := HQX.out.cell 8 rfl
 have x9 := HQX.out.cell 9 rfl
 have hs01 := hbz.size
 go_enter Tryz.func42, Tryz.ntmps42
 go_upto_region 1 with fail
 rw [← hwz]
 clear hwz
 go_wp2_with fail
 refine (sfinish_any H ⟨7, who, fo, name, key, text, num, off, base, ch⟩ _ vf vg vs B g mb n wz (Hu.fnU H who num) (HSV.out.below hbz) (HM.out.below hbz) hgB (by omega) HSF.out ⟨_, rfl, HLQ.out.below hbz⟩ HSQ.out HTX.out HI.out (fun W v hv => ufinish_all H v who num W HSS.out HSQ.out.who hv)).mono ?_
 rintro z w3 ⟨rfl, hs3, hn3⟩
 have HS3 := hid hs3
 have HN3 := hid (show Nb2 w w3 g (bo vf g) from (Nb2.of_below _ _ hbz).trans hn3)
 clear hs3 hn3
 go_wp2_with fail
 go_ret2
 exact ⟨rfl, HS3.out, HN3.out⟩
namespace Hu
theorem fn_tx {H : Hb} (hs : SizedS H.ss) (p : ByteArray) (n : Int) : (fnU H p n).tx.size ≤ 150000000000000 := by
 rw [fnU]
 split
 · rename_i h0
   obtain ⟨hk, e1, _⟩ := fi_at h0
   rw [e1]
   simp only
   split
   · show (0 : Nat) ≤ _; omega
   · exact (hs _ (List.mem_filter.1 (List.getElem_mem hk)).1).2
 · show (0 : Nat) ≤ _; omega
end Hu
theorem serve_4 (H : Hb) (q : Rq) (v vq : Value) (w : World) (hv : LiesH w v H) (hs : SizedH H) (hq : LiesQ w vq q) (hsq : SizedQ q) (h0 : Hu.hE H = 0) (hk : q.kind = 4) (hck : Hu.ckE H.gs q = 0) :
    Calls Tryz.prog 9 #[v, vq] w fun e w' => ∃ u a, e = .returned (.tuple #[u, a, .int .i64 0]) ∧ LiesH w' u (Hu.upH H (Hu.opU H q.who q.num).e (Hu.opU H q.who q.num).ss (Hu.opU H q.who q.num).nx (Hu.opU H q.who q.num).la (Hu.opU H q.who q.num).ro) ∧ LiesA w' a ⟨(Hu.opU H q.who q.num).e, (Hu.opU H q.who q.num).num, Jn.zeroP⟩ ∧ Below w.heap.size w w' := by
 refine serve_ok H _ _ q v vq w hv hs hq h0 ?_
 intro B W g mb vf vg vs vq hsv hm hgB hBW hq
 exact sanswer_num H _ q vq vf g mb _ _ W hsv.lies hs.gs hq hsq hck (by rw [hk]; decide) (fun W' vq' hW hq' => snum_open H q vq' vf g mb W' _ (hsv.below hW).lies hq' hk (fun W v hv => uopen_all H v q.who q.num W hs.ss hsq.who hv)) hsv.vlt
theorem serve_5 (H : Hb) (q : Rq) (v vq : Value) (w : World) (hv : LiesH w v H) (hs : SizedH H) (hq : LiesQ w vq q) (hsq : SizedQ q) (h0 : Hu.hE H = 0) (hk : q.kind = 5) (hck : Hu.ckE H.gs q = 0) :
    Calls Tryz.prog 9 #[v, vq] w fun e w' => ∃ u a, e = .returned (.tuple #[u, a, .int .i64 0]) ∧ LiesH w' u (Hu.upH H (Hu.apU H q.who q.num q.off q.text).e (Hu.apU H q.who q.num q.off q.text).ss (Hu.apU H q.who q.num q.off q.text).nx (Hu.apU H q.who q.num q.off q.text).la (Hu.apU H q.who q.num q.off q.text).ro) ∧ LiesA w' a ⟨(Hu.apU H q.who q.num q.off q.text).e, (Hu.apU H q.who q.num q.off q.text).num, Jn.zeroP⟩ ∧ Below w.heap.size w w' := by
 refine serve_ok H _ _ q v vq w hv hs hq h0 ?_
 intro B W g mb vf vg vs vq hsv hm hgB hBW hq
 exact sanswer_num H _ q vq vf g mb _ _ W hsv.lies hs.gs hq hsq hck (by rw [hk]; decide) (fun W' vq' hW hq' => snum_append H q vq' vf g mb W' _ (hsv.below hW).lies hq' hk (fun W v hv => uappend_all H v q.who q.num q.off q.text W hs.ss hsq.who hsq.text hv)) hsv.vlt
theorem serve_6 (H : Hb) (q : Rq) (v vq : Value) (w : World) (hv : LiesH w v H) (hs : SizedH H) (hq : LiesQ w vq q) (hsq : SizedQ q) (h0 : Hu.hE H = 0) (hk : q.kind = 6) (hck : Hu.ckE H.gs q = 0) :
    Calls Tryz.prog 9 #[v, vq] w fun e w' => ∃ u a, e = .returned (.tuple #[u, a, .int .i64 0]) ∧ LiesH w' u H ∧ LiesA w' a ⟨Hu.quE H q.who q.num, Hu.quN H q.who q.num, Jn.zeroP⟩ ∧ Below w.heap.size w w' := by
 refine serve_ok H _ _ q v vq w hv hs hq h0 ?_
 intro B W g mb vf vg vs vq hsv hm hgB hBW hq
 exact sanswer_num H _ q vq vf g mb _ _ W hsv.lies hs.gs hq hsq hck (by rw [hk]; decide) (fun W' vq' hW hq' => snum_query H q vq' vf g mb W' _ _ (hsv.below hW).lies hq' hk (fun W v hv => uquery_all H v q.who q.num W hs.ss hsq.who hv)) hsv.vlt
theorem serve_7 (H : Hb) (q : Rq) (v vq : Value) (w : World) (hv : LiesH w v H) (hs : SizedH H) (hq : LiesQ w vq q) (hsq : SizedQ q) (h0 : Hu.hE H = 0) (hk : q.kind = 7) (hck : Hu.ckE H.gs q = 0) :
    Calls Tryz.prog 9 #[v, vq] w fun e w' => ∃ u a, e = .returned (.tuple #[u, a, .int .i64 0]) ∧ LiesH w' u (Hu.fnH H q (Hu.fnU H q.who q.num)) ∧ LiesA w' a ⟨Hu.fnE H q (Hu.fnU H q.who q.num), Hu.fnN H q (Hu.fnU H q.who q.num), Jn.zeroP⟩ ∧ Below w.heap.size w w' := by
 have hin : Hu.inG H.gs q.fo = true := Hu.rig_in (h := q.who) (by have := (Hu.ck_parts hck).2.2.2; rw [hk] at this; have e : Hu.lst 7 = 2 := rfl; omega)
 have hi : Hu.whr H.fos H.gs q.fo < H.fos.length := (Hu.whr_at h0 hin).elim (fun h _ => h)
 refine serve_ok H _ _ q v vq w hv hs hq h0 ?_
 intro B W g mb vf vg vs vq hsv hm hgB hBW hq
 exact sanswer_num H _ q vq vf g mb _ _ W hsv.lies hs.gs hq hsq hck (by rw [hk]; decide) (fun W' vq' hW hq' => snum_finish H q vq' vf vg vs B g mb _ W' (hsv.below hW) (hm.below hW) hgB (Nat.le_trans hBW hW.size) hs.fos hs.ss hq' hsq (Hu.fn_tx hs.ss _ _) hi hk) hsv.vlt
end Go.Proofs.YtchlgpeiombmdaaGreat
set_option linter.unusedSimpArgs false
set_option linter.unusedVariables false
namespace Go.Proofs.YtchlgpeiombmdaaGreat
open Go.RowKit

namespace Hu
theorem plc_le (L : List Sh) (x : ByteArray) : plc L x ≤ L.length := by
 rw [plc]
 exact List.findIdx_le_length
def anU (U : Ur) : An := ⟨U.e, U.num, Jn.zeroP⟩
def upU (H : Hb) (U : Ur) : Hb := upH H U.e U.ss U.nx U.la U.ro
/-- What a request that is not denied leaves, and its answer. -/
def skH (H : Hb) (q : Rq) : Hb :=
 if q.kind = 1 then cmH H (whr H.fos H.gs q.fo) q.key q.ch
 else if q.kind = 2 then H
 else if q.kind = 3 then gsH H (Pp.giE H.gs q.fo q.who q.name q.num) (Pp.giL H.gs q.fo q.who q.name q.num)
 else if q.kind = 4 then upU H (opU H q.who q.num)
 else if q.kind = 5 then upU H (apU H q.who q.num q.off q.text)
 else if q.kind = 6 then H
 else if q.kind = 7 then fnH H q (fnU H q.who q.num)
 else mkH H q.fo q.who
def skA (H : Hb) (q : Rq) : An :=
 if q.kind = 1 then ⟨cmE H (whr H.fos H.gs q.fo) q.key q.ch, cmN H (whr H.fos H.gs q.fo) q.key q.ch, Jn.zeroP⟩
 else if q.kind = 2 then ⟨Jn.rdE (joAt H (whr H.fos H.gs q.fo)) q.num 10, 0, Jn.rdR (joAt H (whr H.fos H.gs q.fo)) q.num 10⟩
 else if q.kind = 3 then ⟨Pp.giE H.gs q.fo q.who q.name q.num, 0, Jn.zeroP⟩
 else if q.kind = 4 then anU (opU H q.who q.num)
 else if q.kind = 5 then anU (apU H q.who q.num q.off q.text)
 else if q.kind = 6 then ⟨quE H q.who q.num, quN H q.who q.num, Jn.zeroP⟩
 else if q.kind = 7 then ⟨fnE H q (fnU H q.who q.num), fnN H q (fnU H q.who q.num), Jn.zeroP⟩
 else ⟨mkE H q.fo q.who, 0, Jn.zeroP⟩
def svH (H : Hb) (q : Rq) : Hb := if ckE H.gs q = 0 then skH H q else H
def svA (H : Hb) (q : Rq) : An := if ckE H.gs q = 0 then skA H q else ⟨ckE H.gs q, 0, Jn.zeroP⟩
theorem kinds {k : Int} (h1 : 1 ≤ k) (h2 : k ≤ 8) : k = 1 ∨ k = 2 ∨ k = 3 ∨ k = 4 ∨ k = 5 ∨ k = 6 ∨ k = 7 ∨ k = 8 := by omega
theorem sk_1 {H : Hb} {q : Rq} (h : q.kind = 1) : skH H q = cmH H (whr H.fos H.gs q.fo) q.key q.ch ∧ skA H q = ⟨cmE H (whr H.fos H.gs q.fo) q.key q.ch, cmN H (whr H.fos H.gs q.fo) q.key q.ch, Jn.zeroP⟩ := by simp [skH, skA, h]
theorem sk_2 {H : Hb} {q : Rq} (h : q.kind = 2) : skH H q = H ∧ skA H q = ⟨Jn.rdE (joAt H (whr H.fos H.gs q.fo)) q.num 10, 0, Jn.rdR (joAt H (whr H.fos H.gs q.fo)) q.num 10⟩ := by simp [skH, skA, h]
theorem sk_3 {H : Hb} {q : Rq} (h : q.kind = 3) : skH H q = gsH H (Pp.giE H.gs q.fo q.who q.name q.num) (Pp.giL H.gs q.fo q.who q.name q.num) ∧ skA H q = ⟨Pp.giE H.gs q.fo q.who q.name q.num, 0, Jn.zeroP⟩ := by simp [skH, skA, h]
theorem sk_4 {H : Hb} {q : Rq} (h : q.kind = 4) : skH H q = upU H (opU H q.who q.num) ∧ skA H q = anU (opU H q.who q.num) := by simp [skH, skA, h]
theorem sk_5 {H : Hb} {q : Rq} (h : q.kind = 5) : skH H q = upU H (apU H q.who q.num q.off q.text) ∧ skA H q = anU (apU H q.who q.num q.off q.text) := by simp [skH, skA, h]
theorem sk_6 {H : Hb} {q : Rq} (h : q.kind = 6) : skH H q = H ∧ skA H q = ⟨quE H q.who q.num, quN H q.who q.num, Jn.zeroP⟩ := by simp [skH, skA, h]
theorem sk_7 {H : Hb} {q : Rq} (h : q.kind = 7) : skH H q = fnH H q (fnU H q.who q.num) ∧ skA H q = ⟨fnE H q (fnU H q.who q.num), fnN H q (fnU H q.who q.num), Jn.zeroP⟩ := by simp [skH, skA, h]
theorem sk_8 {H : Hb} {q : Rq} (h : q.kind = 8) : skH H q = mkH H q.fo q.who ∧ skA H q = ⟨mkE H q.fo q.who, 0, Jn.zeroP⟩ := by simp [skH, skA, h]
end Hu
theorem serve_any (H : Hb) (q : Rq) (v vq : Value) (w : World) (hv : LiesH w v H) (hs : SizedH H) (hq : LiesQ w vq q) (hsq : SizedQ q) (h0 : Hu.hE H = 0) :
    Calls Tryz.prog 9 #[v, vq] w fun e w' => ∃ u a, e = .returned (.tuple #[u, a, .int .i64 0]) ∧ LiesH w' u (Hu.svH H q) ∧ LiesA w' a (Hu.svA H q) ∧ Below w.heap.size w w' := by
 by_cases hck : Hu.ckE H.gs q = 0
 · rw [Hu.svH, Hu.svA, if_pos hck, if_pos hck]
   obtain ⟨k1, k2, _⟩ := Hu.ck_parts hck
   rcases Hu.kinds k1 k2 with hk | hk | hk | hk | hk | hk | hk | hk
   · rw [(Hu.sk_1 hk).1, (Hu.sk_1 hk).2]; exact serve_commit H q v vq w hv hs hq hsq h0 hk hck
   · rw [(Hu.sk_2 hk).1, (Hu.sk_2 hk).2]; exact serve_page H q v vq w hv hs hq hsq h0 hk hck
   · rw [(Hu.sk_3 hk).1, (Hu.sk_3 hk).2]; exact serve_give H q v vq w hv hs hq hsq h0 hk hck
   · rw [(Hu.sk_4 hk).1, (Hu.sk_4 hk).2]; exact serve_4 H q v vq w hv hs hq hsq h0 hk hck
   · rw [(Hu.sk_5 hk).1, (Hu.sk_5 hk).2]; exact serve_5 H q v vq w hv hs hq hsq h0 hk hck
   · rw [(Hu.sk_6 hk).1, (Hu.sk_6 hk).2]; exact serve_6 H q v vq w hv hs hq hsq h0 hk hck
   · rw [(Hu.sk_7 hk).1, (Hu.sk_7 hk).2]; exact serve_7 H q v vq w hv hs hq hsq h0 hk hck
   · rw [(Hu.sk_8 hk).1, (Hu.sk_8 hk).2]
     exact serve_make H q v vq w hv hs hq hsq h0 hk hck (fun B v => insert_any B v H.fos _ q.fo (Hu.cf_parts (Hu.h_parts h0).2.1).1 (Hu.plc_le _ _))
 · rw [Hu.svH, Hu.svA, if_neg hck, if_neg hck]
   exact serve_err H q v vq w hv hs hq hsq h0 hck
end Go.Proofs.YtchlgpeiombmdaaGreat
set_option linter.unusedSimpArgs false
set_option linter.unusedVariables false
namespace Go.Proofs.YtchlgpeiombmdaaGreat
open Go.RowKit
namespace Pp
theorem takS_sub {A B : List Se} (h : A.Sublist B) (p : ByteArray) : (∀ s ∈ B, 0 ≤ s.si) → takS A p ≤ takS B p := by
 induction h with
 | slnil => intro _; exact Int.le_refl _
 | cons a _ ih =>
  intro h
  have i := ih fun s hs => h s (List.mem_cons_of_mem _ hs)
  have h0 := h a (List.mem_cons_self ..)
  rw [takS]
  split <;> omega
 | cons_cons a _ ih =>
  intro h
  have i := ih fun s hs => h s (List.mem_cons_of_mem _ hs)
  rw [takS, takS]
  omega
theorem uch_sub {A B : List Se} {x l r : Int} (h : uchE B x l r = 0) (hs : A.Sublist B) : uchE A x l r = 0 := by
 obtain ⟨h1, h2, h3, h4⟩ := uch_zero h
 have hl := hs.length_le
 have hb := bnd_less h1 (m := A.length) (by have := (bnd_zero h1).1; omega)
 have hse : sesE x A = 0 := ses_mem.2 fun g hg => ses_mem.1 h2 g (hs.subset hg)
 have hr : risS A = true := (risS_pair _).2 (((risS_pair _).1 h3).sublist hs)
 rw [uch_ro hb hse hr, ro_mem]
 intro s hs'
 have h5 := ro_mem.1 h4 s (hs.subset hs')
 have h6 := takS_sub hs s.wh fun s hs => (ses_si h2 s hs).1
 omega
theorem takS_set {s t : Se} (h1 : t.wh = s.wh) (h2 : t.si = s.si) (p : ByteArray) : ∀ {L : List Se} {k : Nat}, L[k]? = some s → takS (L.set k t) p = takS L p
 | [], k, h => by simp at h
 | a :: L, 0, h => by
  simp at h; subst h
  rw [List.set_cons_zero, takS, takS, h1, h2]
 | a :: L, k + 1, h => by
  rw [List.set_cons_succ, takS, takS, takS_set h1 h2 p (by simpa using h)]
theorem pw_set {s t : Se} (h1 : t.nu = s.nu) : ∀ {L : List Se} {k : Nat}, L[k]? = some s → L.Pairwise (fun a b => a.nu < b.nu) → (L.set k t).Pairwise (fun a b => a.nu < b.nu)
 | [], k, h, _ => by simp at h
 | a :: L, 0, h, hp => by
  simp at h; subst h
  rw [List.set_cons_zero]
  refine List.pairwise_cons.2 ⟨fun b hb => ?_, (List.pairwise_cons.1 hp).2⟩
  rw [h1]; exact (List.pairwise_cons.1 hp).1 b hb
 | a :: L, k + 1, h, hp => by
  rw [List.set_cons_succ]
  have h' : L[k]? = some s := by simpa using h
  refine List.pairwise_cons.2 ⟨fun b hb => ?_, pw_set h1 h' (List.pairwise_cons.1 hp).2⟩
  rcases List.mem_or_eq_of_mem_set hb with hb | rfl
  · exact (List.pairwise_cons.1 hp).1 b hb
  · rw [h1]; exact (List.pairwise_cons.1 hp).1 s (List.mem_of_getElem? h')
theorem uch_more {L : List Se} {x l r now : Int} {k : Nat} {s : Se} {t : ByteArray} (h : uchE L x l r = 0) (hk : L[k]? = some s) (hn : 0 ≤ now ∧ now ≤ 1099511627776) (hsi : (s.tx.size : Int) + t.size ≤ s.si) : uchE (L.set k (moreS s t (now + l))) x l r = 0 := by
 obtain ⟨h1, h2, h3, h4⟩ := uch_zero h
 obtain ⟨_, ⟨hl1, hl2⟩, _, _⟩ := bnd_zero h1
 have hb : bndE (L.set k (moreS s t (now + l))).length x l r = 0 := by rw [List.length_set]; exact h1
 have hsm : s ∈ L := List.mem_of_getElem? hk
 have hse : sesE x (L.set k (moreS s t (now + l))) = 0 := ses_mem.2 fun g hg => by
  rcases List.mem_or_eq_of_mem_set hg with hg | rfl
  · exact ses_mem.1 h2 g hg
  · obtain ⟨k1, k2, k3, k4, k5⟩ := se_zero (ses_mem.1 h2 s hsm)
    have e1 : inR 1 (moreS s t (now + l)).nu (x - 1) = true := k1
    have e2 : inR 0 (moreS s t (now + l)).si 300 = true := k2
    have e3 : inR 0 (moreS s t (now + l)).ti 2199023255552 = true := inR_mk (by show 0 ≤ now + l; omega) (by show now + l ≤ 2199023255552; omega)
    have e4 : nameB (moreS s t (now + l)).wh.data.toList = true := k4
    rw [seE, e1, e2, e3, e4, if_pos (by decide), if_pos rfl, if_neg]
    show ¬ s.si < ((s.tx ++ t).size : Int)
    rw [ByteArray.size_append]
    omega
 have hr : risS (L.set k (moreS s t (now + l))) = true := (risS_pair _).2 (pw_set (s := s) (t := moreS s t (now + l)) rfl hk ((risS_pair _).1 h3))
 rw [uch_ro hb hse hr, ro_mem]
 intro g hg
 rw [takS_set (s := s) (t := moreS s t (now + l)) rfl rfl _ hk]
 rcases List.mem_or_eq_of_mem_set hg with hg | rfl
 · exact ro_mem.1 h4 g hg
 · exact ro_mem.1 h4 s hsm
end Pp
namespace Hu
theorem up_he {H : Hb} {U : Ur} (h : hE H = 0) (hu : U.e = 0 → Pp.uchE U.ss U.nx U.la U.ro = 0) : hE (upU H U) = 0 := by
 rw [upU, upH]
 split
 · rename_i h0
   obtain ⟨a, b, c, d, _⟩ := h_parts h
   exact h_make a b c d (hu h0)
 · exact h
theorem now_in {H : Hb} (h : hE H = 0) : 0 ≤ H.now ∧ H.now ≤ 1099511627776 := by have := (h_parts h).1; omega
theorem op_uch {H : Hb} {p : ByteArray} {n : Int} (h : hE H = 0) : (opU H p n).e = 0 → Pp.uchE (opU H p n).ss (opU H p n).nx (opU H p n).la (opU H p n).ro = 0 := by
 intro h0
 by_cases ho : Pp.opE H.ss H.nx H.la H.ro p n H.now = 0
 · rw [opU, if_pos ho]
   have hg : Pp.goE H.ss H.nx H.la H.ro H.now [p] = 0 := Decidable.byContradiction fun hn => by rw [Pp.opE, if_pos hn] at ho; exact hn ho
   rw [Pp.opE, if_neg (fun x => x hg)] at ho
   split at ho
   · cases ho
   · split at ho
     · cases ho
     · split at ho
       · cases ho
       · have := Pp.uch_open hg (size := n) (by omega) (by omega) (by omega) (by omega) (by omega)
         exact this
 · rw [opU, if_neg ho] at h0; exact absurd h0 ho
theorem ap_uch {H : Hb} {p : ByteArray} {n o : Int} {t : ByteArray} (h : hE H = 0) : (apU H p n o t).e = 0 → Pp.uchE (apU H p n o t).ss (apU H p n o t).nx (apU H p n o t).la (apU H p n o t).ro = 0 := by
 intro h0
 have hsw := Pp.uch_sw (h_parts h).2.2.2.2 H.now
 by_cases hf : Pp.fiE H.ss H.nx H.la H.ro p n H.now = 0
 · obtain ⟨hk, e1, e2⟩ := fi_at hf
   rw [apU, if_pos hf, e1] at h0 ⊢
   simp only [apK] at h0 ⊢
   by_cases he : Pp.enB ((Pp.swL H.now H.ss)[fiX H p n]).tx o t = true
   · rw [if_pos he]; exact hsw
   · rw [if_neg he] at h0 ⊢
     by_cases ho : o = ((((Pp.swL H.now H.ss)[fiX H p n]).tx.size : Nat) : Int)
     · rw [if_pos ho] at h0 ⊢
       by_cases hsi : ((Pp.swL H.now H.ss)[fiX H p n]).si < ((((Pp.swL H.now H.ss)[fiX H p n]).tx.size : Nat) : Int) + t.size
       · rw [if_pos hsi] at h0; cases h0
       · rw [if_neg hsi]
         exact Pp.uch_more hsw e1 (now_in h) (by omega)
     · rw [if_neg ho] at h0; cases h0
 · rw [apU, if_neg hf] at h0; exact absurd h0 hf
theorem fn_uch {H : Hb} {p : ByteArray} {n : Int} (h : hE H = 0) : (fnU H p n).e = 0 → Pp.uchE (fnU H p n).ss (fnU H p n).nx (fnU H p n).la (fnU H p n).ro = 0 := by
 intro h0
 have hsw := Pp.uch_sw (h_parts h).2.2.2.2 H.now
 by_cases hf : quE H p n = 0
 · obtain ⟨hk, e1, e2⟩ := fi_at hf
   rw [fnU, if_pos hf, e1] at h0 ⊢
   simp only at h0 ⊢
   split at h0
   · cases h0
   · rename_i hsi
     rw [if_neg hsi]
     refine Pp.uch_sub hsw ?_
     have : (Pp.swL H.now H.ss).take (fiX H p n) ++ (Pp.swL H.now H.ss).drop (fiX H p n + 1) = (Pp.swL H.now H.ss).eraseIdx (fiX H p n) := (List.eraseIdx_eq_take_drop_succ ..).symm
     rw [this]
     exact List.eraseIdx_sublist ..
 · rw [fnU, if_neg hf] at h0; exact absurd h0 hf
theorem sw_sized {H : Hb} (hs : SizedH H) : SizedS (Pp.swL H.now H.ss) := fun g hg => hs.ss g (List.mem_filter.1 hg).1
theorem op_sized {H : Hb} {p : ByteArray} {n : Int} (hs : SizedH H) (hp : p.size ≤ 150000000000000) : SizedS (opU H p n).ss := by
 rw [opU]
 split
 · intro g hg
   rcases List.mem_append.1 hg with hg | hg
   · exact sw_sized hs g hg
   · obtain rfl := List.mem_singleton.1 hg
     exact ⟨hp, by show (0 : Nat) ≤ _; omega⟩
 · intro g hg; cases hg
theorem ap_sized {H : Hb} {p : ByteArray} {n o : Int} {t : ByteArray} (h : hE H = 0) (hs : SizedH H) : SizedS (apU H p n o t).ss := by
 rw [apU]
 split
 · rename_i hf
   obtain ⟨hk, e1, e2⟩ := fi_at hf
   rw [e1]
   simp only [apK]
   split
   · exact sw_sized hs
   · split
     · split
       · intro g hg; cases hg
       · intro g hg
         rename_i hsi
         rcases List.mem_or_eq_of_mem_set hg with hg | rfl
         · exact sw_sized hs g hg
         · have hm := List.getElem_mem hk
           refine ⟨(sw_sized hs _ hm).1, ?_⟩
           show (((Pp.swL H.now H.ss)[fiX H p n]).tx ++ t).size ≤ _
           rw [ByteArray.size_append]
           have := (Pp.ses_si (Pp.uch_zero (Pp.uch_sw (h_parts h).2.2.2.2 H.now)).2.1 _ hm).2
           omega
     · intro g hg; cases hg
 · intro g hg; cases hg
theorem fn_sized {H : Hb} {p : ByteArray} {n : Int} (hs : SizedH H) : SizedS (fnU H p n).ss := by
 rw [fnU]
 split
 · rename_i hf
   obtain ⟨hk, e1, e2⟩ := fi_at hf
   rw [e1]
   simp only
   split
   · intro g hg; cases hg
   · intro g hg
     rcases List.mem_append.1 hg with hg | hg
     · exact sw_sized hs g (List.mem_of_mem_take hg)
     · exact sw_sized hs g (List.mem_of_mem_drop hg)
 · intro g hg; cases hg
end Hu
end Go.Proofs.YtchlgpeiombmdaaGreat
set_option linter.unusedSimpArgs false
set_option linter.unusedVariables false
namespace Go.Proofs.YtchlgpeiombmdaaGreat
open Go.RowKit
namespace Hu
theorem ck_in {H : Hb} {q : Rq} (hck : ckE H.gs q = 0) (hk : q.kind = 1 ∨ q.kind = 2 ∨ q.kind = 3 ∨ q.kind = 7) : inG H.gs q.fo = true := by
 refine rig_in (h := q.who) ?_
 have h := (ck_parts hck).2.2.2
 have e1 : lst 1 = 2 := rfl
 have e2 : lst 2 = 1 := rfl
 have e3 : lst 3 = 1 := rfl
 have e7 : lst 7 = 2 := rfl
 rcases hk with hk | hk | hk | hk <;> rw [hk] at h <;> omega
theorem ck_at {H : Hb} {q : Rq} (h : hE H = 0) (hck : ckE H.gs q = 0) (hk : q.kind = 1 ∨ q.kind = 2 ∨ q.kind = 3 ∨ q.kind = 7) : whr H.fos H.gs q.fo < H.fos.length := (whr_at h (ck_in hck hk)).elim (fun h _ => h)
theorem cm_he {H : Hb} {i : Nat} {key : ByteArray} {l : List Pp.Ch} (h : hE H = 0) (hi : i < H.fos.length) : hE (cmH H i key l) = 0 := by
 by_cases h0 : cmE H i key l = 0
 · exact (cm_again h hi h0 l).1
 · rw [cmH, if_neg h0]; exact h
theorem cm_sz {H : Hb} {i : Nat} {key : ByteArray} {l : List Pp.Ch} (hs : SizedH H) (hi : i < H.fos.length) (hk : key.size ≤ 150000000000000) (hl : SizedC 150000000000000 l) : SizedH (cmH H i key l) := by
 by_cases h0 : cmE H i key l = 0
 · exact cm_sized hs hi h0 hk hl
 · rw [cmH, if_neg h0]; exact hs
theorem up_sized {H : Hb} {U : Ur} (hs : SizedH H) (hu : SizedS U.ss) : SizedH (upU H U) := by
 rw [upU, upH]
 split
 · exact ⟨hs.fos, hs.gs, hu⟩
 · exact hs
theorem fn_he {H : Hb} {q : Rq} (h : hE H = 0) (hi : whr H.fos H.gs q.fo < H.fos.length) : hE (fnH H q (fnU H q.who q.num)) = 0 := by
 rw [fnH]
 split
 · rename_i h0
   have hc := cm_he (key := q.key) (l := fnC q (fnU H q.who q.num).tx) h hi
   exact up_he (U := ⟨cmE H (whr H.fos H.gs q.fo) q.key (fnC q (fnU H q.who q.num).tx), (fnU H q.who q.num).ss, (fnU H q.who q.num).nx, (fnU H q.who q.num).la, (fnU H q.who q.num).ro, 0⟩) hc (fun _ => fn_uch h h0)
 · exact h
theorem fn_c {q : Rq} {tx : ByteArray} (hq : SizedQ q) (ht : tx.size ≤ 150000000000000) : SizedC 150000000000000 (fnC q tx) := fun x hx => by
 obtain rfl := List.mem_singleton.1 hx
 exact ⟨hq.name, by show (0 : Nat) ≤ _; omega, ht⟩
theorem fn_sz {H : Hb} {q : Rq} (hs : SizedH H) (hq : SizedQ q) (hi : whr H.fos H.gs q.fo < H.fos.length) : SizedH (fnH H q (fnU H q.who q.num)) := by
 rw [fnH]
 split
 · exact up_sized (U := ⟨cmE H (whr H.fos H.gs q.fo) q.key (fnC q (fnU H q.who q.num).tx), (fnU H q.who q.num).ss, (fnU H q.who q.num).nx, (fnU H q.who q.num).la, (fnU H q.who q.num).ro, 0⟩) (cm_sz hs hi hq.key (fn_c hq (fn_tx hs.ss _ _))) (fn_sized hs)
 · exact hs
theorem sv_he {H : Hb} {q : Rq} (h : hE H = 0) : hE (svH H q) = 0 := by
 rw [svH]
 split
 · rename_i hck
   obtain ⟨k1, k2, _⟩ := ck_parts hck
   rcases kinds k1 k2 with hk | hk | hk | hk | hk | hk | hk | hk
   · rw [(sk_1 hk).1]; exact cm_he h (ck_at h hck (by omega))
   · rw [(sk_2 hk).1]; exact h
   · rw [(sk_3 hk).1]; exact gi_he h (ck_in hck (by omega))
   · rw [(sk_4 hk).1]; exact up_he h (op_uch h)
   · rw [(sk_5 hk).1]; exact up_he h (ap_uch h)
   · rw [(sk_6 hk).1]; exact h
   · rw [(sk_7 hk).1]; exact fn_he h (ck_at h hck (by omega))
   · rw [(sk_8 hk).1]; exact mk_he h
 · exact h
theorem sv_sized {H : Hb} {q : Rq} (h : hE H = 0) (hs : SizedH H) (hq : SizedQ q) : SizedH (svH H q) := by
 rw [svH]
 split
 · rename_i hck
   obtain ⟨k1, k2, _⟩ := ck_parts hck
   rcases kinds k1 k2 with hk | hk | hk | hk | hk | hk | hk | hk
   · rw [(sk_1 hk).1]; exact cm_sz hs (ck_at h hck (by omega)) hq.key hq.ch
   · rw [(sk_2 hk).1]; exact hs
   · rw [(sk_3 hk).1]; exact gi_sized hs hq.fo hq.name
   · rw [(sk_4 hk).1]; exact up_sized hs (op_sized hs hq.who)
   · rw [(sk_5 hk).1]; exact up_sized hs (ap_sized h hs)
   · rw [(sk_6 hk).1]; exact hs
   · rw [(sk_7 hk).1]; exact fn_sz hs hq (ck_at h hck (by omega))
   · rw [(sk_8 hk).1]; exact mk_sized hs hq.fo hq.who
 · exact hs
theorem up_err {H : Hb} {U : Ur} (h : ¬ U.e = 0) : upU H U = H := by rw [upU, upH, if_neg h]
theorem op_err {H : Hb} {p : ByteArray} {n : Int} (h : ¬ (opU H p n).e = 0) : (opU H p n).num = 0 := by
 rw [opU] at h ⊢
 split at h
 · exact absurd rfl h
 · rename_i h0; rw [if_neg h0]; rfl
theorem ap_err {H : Hb} {p : ByteArray} {n o : Int} {t : ByteArray} (h : ¬ (apU H p n o t).e = 0) : (apU H p n o t).num = 0 := by
 rw [apU] at h ⊢
 by_cases h0 : Pp.fiE H.ss H.nx H.la H.ro p n H.now = 0
 · obtain ⟨hk, e1, e2⟩ := fi_at h0
   rw [if_pos h0, e1] at h ⊢
   simp only [apK] at h ⊢
   by_cases he : Pp.enB ((Pp.swL H.now H.ss)[fiX H p n]).tx o t = true
   · rw [if_pos he] at h; exact absurd rfl h
   · rw [if_neg he] at h ⊢
     by_cases ho : o = ((((Pp.swL H.now H.ss)[fiX H p n]).tx.size : Nat) : Int)
     · rw [if_pos ho] at h ⊢
       by_cases hsi : ((Pp.swL H.now H.ss)[fiX H p n]).si < ((((Pp.swL H.now H.ss)[fiX H p n]).tx.size : Nat) : Int) + t.size
       · rw [if_pos hsi]; rfl
       · rw [if_neg hsi] at h; exact absurd rfl h
     · rw [if_neg ho]; rfl
 · rw [if_neg h0]; rfl
theorem cm_err {H : Hb} {i : Nat} {key : ByteArray} {l : List Pp.Ch} (h : ¬ cmE H i key l = 0) : cmH H i key l = H ∧ cmN H i key l = 0 := ⟨by rw [cmH, if_neg h], (Jn.com_bad (J := joAt H i) h).1⟩
theorem sv_err {H : Hb} {q : Rq} (h : ¬ (svA H q).err = 0) : svH H q = H ∧ svA H q = ⟨(svA H q).err, 0, Jn.zeroP⟩ := by
 rw [svA] at h ⊢
 rw [svH]
 by_cases hck : ckE H.gs q = 0
 · rw [if_pos hck] at h ⊢
   rw [if_pos hck]
   obtain ⟨k1, k2, _⟩ := ck_parts hck
   rcases kinds k1 k2 with hk | hk | hk | hk | hk | hk | hk | hk
   · rw [(sk_1 hk).1, (sk_1 hk).2] at *
     exact ⟨(cm_err h).1, by rw [(cm_err h).2]⟩
   · rw [(sk_2 hk).1, (sk_2 hk).2] at *
     exact ⟨rfl, by rw [Jn.rd_bad rfl h]⟩
   · rw [(sk_3 hk).1, (sk_3 hk).2] at *
     exact ⟨by rw [gsH, if_neg h], rfl⟩
   · rw [(sk_4 hk).1, (sk_4 hk).2] at *
     exact ⟨up_err h, by rw [anU, op_err h]⟩
   · rw [(sk_5 hk).1, (sk_5 hk).2] at *
     exact ⟨up_err h, by rw [anU, ap_err h]⟩
   · rw [(sk_6 hk).1, (sk_6 hk).2] at *
     have h' : ¬ quE H q.who q.num = 0 := h
     exact ⟨rfl, by rw [quN, if_neg h']⟩
   · rw [(sk_7 hk).1, (sk_7 hk).2] at *
     have h' : ¬ fnE H q (fnU H q.who q.num) = 0 := h
     rw [fnE] at h'
     by_cases h0 : (fnU H q.who q.num).e = 0
     · rw [if_pos h0] at h'
       rw [fnH, fnN, fnE, if_pos h0, if_pos h0, if_pos h0, upH, if_neg h', (cm_err h').1, (cm_err h').2]
       exact ⟨rfl, rfl⟩
     · rw [fnH, fnN, fnE, if_neg h0, if_neg h0, if_neg h0]
       exact ⟨rfl, rfl⟩
   · rw [(sk_8 hk).1, (sk_8 hk).2] at *
     have h' : ¬ mkE H q.fo q.who = 0 := h
     exact ⟨by rw [mkH, if_neg h'], rfl⟩
 · rw [if_neg hck] at h ⊢
   rw [if_neg hck]
   exact ⟨rfl, rfl⟩
end Hu
end Go.Proofs.YtchlgpeiombmdaaGreat
