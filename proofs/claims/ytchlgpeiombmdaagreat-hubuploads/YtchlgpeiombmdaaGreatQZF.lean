/- What tree.Find answers, for every tree and every path. A text that is uploaded in two pieces and finished (mathematics). The parts of a hub that lies in memory. -/
import Derived.Test.YtchlgpeiombmdaaGreatQD
import Derived.Test.YtchlgpeiombmdaaGreatQA
import Derived.Test.YtchlgpeiombmdaaGreatQZE
import Derived.Test.YtchlgpeiombmdaaGreatQG
import Derived.Test.YtchlgpeiombmdaaGreatQM
set_option linter.unusedSimpArgs false
set_option linter.unusedVariables false
namespace Go.Proofs.YtchlgpeiombmdaaGreat
open Go.RowKit

namespace Pp
def zE : En := ⟨⟨#[]⟩, false, ⟨#[]⟩, 0⟩
/-- What Find answers: an entry, and an error. -/
def findX (L : List En) (p : List UInt8) : En := if treeE L = 0 then (if chk p = 0 then (match L.find? (atB p) with | some x => x | none => zE) else zE) else zE
def findR (L : List En) (p : List UInt8) : Int := if treeE L = 0 then (if chk p = 0 then (match L.find? (atB p) with | some _ => 0 | none => 5) else chk p) else treeE L
def findV (x : En) (r : Int) : Value := .tuple #[.agg #[.string x.path, .bool x.folder, .string x.text, .int .i64 x.ver], .int .i64 r]
end Pp

set_option maxHeartbeats 1000000 in
theorem tfind_any (L : List En) (v : Value) (p : ByteArray) (w : World) (hv : Lies w v L) (hn : L.length ≤ 1000000000) (hs : Sized L) (hp : p.size ≤ 1000000000000000) :
    Calls Tryz.prog 18 #[v, .string p] w fun e w' => e = .returned (Pp.findV (Pp.findX L p.data.toList) (Pp.findR L p.data.toList)) ∧ Below w.heap.size w w' := by
 have HV : Hid (Lies w v L) := hv
 have HS : Hid (Sized L) := hs
 have HP := hid (show ∀ e ∈ L, e.path.size ≤ 1000000000000000 from fun e he => (hs e he).1)
 clear hv hs
 by_cases ht : Pp.treeE L = 0
 · have HT : Hid (Pp.treeE L = 0) := ht
   by_cases hc : Pp.chk p.data.toList = 0
   · have HC : Hid (Pp.chk p.data.toList = 0) := hc
     cases hf : L.find? (Pp.atB p.data.toList) with
     | none =>
      have HF : Hid (L.find? (Pp.atB p.data.toList) = none) := hf
      have HX := hid (show Pp.findX L p.data.toList = Pp.zE from by rw [Pp.findX, if_pos ht, if_pos hc, hf])
      have HR := hid (show Pp.findR L p.data.toList = 5 from by rw [Pp.findR, if_pos ht, if_pos hc, hf])
      clear hf hc ht
      go_enter Tryz.func18, Tryz.ntmps18
      go_wp2_with fail
      refine (tcheck_any L v _ (HV.out.below ((Below.refl _ _).alloc (Nat.le_refl _) _)) hn HS.out).mono ?_
      rintro e w1 ⟨rfl, hb1⟩
      rw [HT.out]
      go_wp2_with fail
      refine (check_any p _ hp).mono ?_
      rintro e w2 ⟨rfl, hb2⟩
      have hb02 := hb1.trans (hb2.mono hb1.size)
      clear hb1 hb2
      rw [HC.out]
      obtain ⟨c0, c1, c2, c3, hbw, hlt⟩ := box4 hb02
      clear c0 c1 c2 c3
      go_wp2_with fail
      refine (at_any p _).mono ?_
      rintro e w3 ⟨rfl, hta, hb3⟩
      have HTE : Hid (Tells w3 60 #[.pointer (some ⟨w2.heap.size, 0, none⟩)] (Pp.atB p.data.toList)) := hta
      have hb03 := hb02.trans (hb3.mono hb02.size)
      clear hta hb02 hb3 hbw hlt
      obtain ⟨c0, c1, c2, c3, hbw, hlt⟩ := box4 hb03
      clear c0 c1 c2 c3
      go_wp2_with fail
      refine (first_any L v _ _ _ _ (HV.out.below hbw) HTE.out HP.out).mono ?_
      rintro e w4 ⟨rfl, hb4⟩
      rw [HF.out, fnd]
      have hb04 := hb03.trans (hb4.mono hb03.size)
      clear hb03 hb4 hbw hlt
      obtain ⟨c0, c1, c2, c3, hbw, hlt⟩ := box4 hb04
      have f0 := box4f hb04 0
      have f1 := box4f hb04 1
      have f2 := box4f hb04 2
      have f3 := box4f hb04 3
      go_wp2_with fail
      refine bodyPost_ret (v := Pp.findV Pp.zE 5) (by simp [results, Tryz.results18, go_sem, Pp.findV, Pp.zE, c0, c1, c2, c3, hlt]) rfl ⟨by rw [HX.out, HR.out], ?_⟩
      first | exact (((hbw.setCell (p := ⟨w.heap.size, 0, none⟩) (Nat.le_refl _) _).setCell (p := ⟨w.heap.size, 1, none⟩) (Nat.le_refl _) _).setCell (p := ⟨w.heap.size, 2, none⟩) (Nat.le_refl _) _).setCell (p := ⟨w.heap.size, 3, none⟩) (Nat.le_refl _) _ | exact ((((hbw.setCell (p := ⟨w.heap.size, 0, none⟩) (Nat.le_refl _) _).setCell (p := ⟨w.heap.size, 1, none⟩) (Nat.le_refl _) _).setCell (p := ⟨w.heap.size, 2, none⟩) (Nat.le_refl _) _).setCell (p := ⟨w.heap.size, 3, none⟩) (Nat.le_refl _) _).alloc (by simpa using Nat.le_of_lt hlt) _
     | some x =>
      have HF : Hid (L.find? (Pp.atB p.data.toList) = some x) := hf
      have HX := hid (show Pp.findX L p.data.toList = x from by rw [Pp.findX, if_pos ht, if_pos hc, hf])
      have HR := hid (show Pp.findR L p.data.toList = 0 from by rw [Pp.findR, if_pos ht, if_pos hc, hf])
      clear hf hc ht
      go_enter Tryz.func18, Tryz.ntmps18
      go_wp2_with fail
      refine (tcheck_any L v _ (HV.out.below ((Below.refl _ _).alloc (Nat.le_refl _) _)) hn HS.out).mono ?_
      rintro e w1 ⟨rfl, hb1⟩
      rw [HT.out]
      go_wp2_with fail
      refine (check_any p _ hp).mono ?_
      rintro e w2 ⟨rfl, hb2⟩
      have hb02 := hb1.trans (hb2.mono hb1.size)
      clear hb1 hb2
      rw [HC.out]
      obtain ⟨c0, c1, c2, c3, hbw, hlt⟩ := box4 hb02
      clear c0 c1 c2 c3
      go_wp2_with fail
      refine (at_any p _).mono ?_
      rintro e w3 ⟨rfl, hta, hb3⟩
      have HTE : Hid (Tells w3 60 #[.pointer (some ⟨w2.heap.size, 0, none⟩)] (Pp.atB p.data.toList)) := hta
      have hb03 := hb02.trans (hb3.mono hb02.size)
      clear hta hb02 hb3 hbw hlt
      obtain ⟨c0, c1, c2, c3, hbw, hlt⟩ := box4 hb03
      clear c0 c1 c2 c3
      go_wp2_with fail
      refine (first_any L v _ _ _ _ (HV.out.below hbw) HTE.out HP.out).mono ?_
      rintro e w4 ⟨rfl, hb4⟩
      rw [HF.out, fnd]
      have hb04 := hb03.trans (hb4.mono hb03.size)
      clear hb03 hb4 hbw hlt
      obtain ⟨c0, c1, c2, c3, hbw, hlt⟩ := box4 hb04
      have f0 := box4f hb04 0
      have f1 := box4f hb04 1
      have f2 := box4f hb04 2
      have f3 := box4f hb04 3
      go_wp2_with fail
      refine bodyPost_ret (v := Pp.findV x 0) (by simp [results, Tryz.results18, go_sem, Pp.findV, Pp.zE, c0, c1, c2, c3, hlt]) rfl ⟨by rw [HX.out, HR.out], ?_⟩
      first | exact (((hbw.setCell (p := ⟨w.heap.size, 0, none⟩) (Nat.le_refl _) _).setCell (p := ⟨w.heap.size, 1, none⟩) (Nat.le_refl _) _).setCell (p := ⟨w.heap.size, 2, none⟩) (Nat.le_refl _) _).setCell (p := ⟨w.heap.size, 3, none⟩) (Nat.le_refl _) _ | exact ((((hbw.setCell (p := ⟨w.heap.size, 0, none⟩) (Nat.le_refl _) _).setCell (p := ⟨w.heap.size, 1, none⟩) (Nat.le_refl _) _).setCell (p := ⟨w.heap.size, 2, none⟩) (Nat.le_refl _) _).setCell (p := ⟨w.heap.size, 3, none⟩) (Nat.le_refl _) _).alloc (by simpa using Nat.le_of_lt hlt) _
   · have HX := hid (show Pp.findX L p.data.toList = Pp.zE from by rw [Pp.findX, if_pos ht, if_neg hc])
     have HR := hid (show Pp.findR L p.data.toList = Pp.chk p.data.toList from by rw [Pp.findR, if_pos ht, if_neg hc])
     have hc2 : (Pp.chk p.data.toList == 0) = false := by simpa using hc
     clear ht
     go_enter Tryz.func18, Tryz.ntmps18
     go_wp2_with fail
     refine (tcheck_any L v _ (HV.out.below ((Below.refl _ _).alloc (Nat.le_refl _) _)) hn HS.out).mono ?_
     rintro e w1 ⟨rfl, hb1⟩
     rw [HT.out]
     go_wp2_with fail
     refine (check_any p _ hp).mono ?_
     rintro e w2 ⟨rfl, hb2⟩
     have hb02 := hb1.trans (hb2.mono hb1.size)
     clear hb1 hb2
     obtain ⟨c0, c1, c2, c3, hbw, hlt⟩ := box4 hb02
     have f0 := box4f hb02 0
     have f1 := box4f hb02 1
     have f2 := box4f hb02 2
     have f3 := box4f hb02 3
     go_wp2_with fail
     refine bodyPost_ret (v := Pp.findV Pp.zE (Pp.chk p.data.toList)) (by simp [results, Tryz.results18, go_sem, Pp.findV, Pp.zE, c0, c1, c2, c3, hlt]) rfl ⟨by rw [HX.out, HR.out], ?_⟩
     first | exact (((hbw.setCell (p := ⟨w.heap.size, 0, none⟩) (Nat.le_refl _) _).setCell (p := ⟨w.heap.size, 1, none⟩) (Nat.le_refl _) _).setCell (p := ⟨w.heap.size, 2, none⟩) (Nat.le_refl _) _).setCell (p := ⟨w.heap.size, 3, none⟩) (Nat.le_refl _) _ | exact ((((hbw.setCell (p := ⟨w.heap.size, 0, none⟩) (Nat.le_refl _) _).setCell (p := ⟨w.heap.size, 1, none⟩) (Nat.le_refl _) _).setCell (p := ⟨w.heap.size, 2, none⟩) (Nat.le_refl _) _).setCell (p := ⟨w.heap.size, 3, none⟩) (Nat.le_refl _) _).alloc (by simpa using Nat.le_of_lt hlt) _
 · have HX := hid (show Pp.findX L p.data.toList = Pp.zE from by rw [Pp.findX, if_neg ht])
   have HR := hid (show Pp.findR L p.data.toList = Pp.treeE L from by rw [Pp.findR, if_neg ht])
   have ht2 : (Pp.treeE L == 0) = false := by simpa using ht
   go_enter Tryz.func18, Tryz.ntmps18
   go_wp2_with fail
   refine (tcheck_any L v _ (HV.out.below ((Below.refl _ _).alloc (Nat.le_refl _) _)) hn HS.out).mono ?_
   rintro e w1 ⟨rfl, hb1⟩
   obtain ⟨c0, c1, c2, c3, hbw, hlt⟩ := box4 hb1
   have f0 := box4f hb1 0
   have f1 := box4f hb1 1
   have f2 := box4f hb1 2
   have f3 := box4f hb1 3
   go_wp2_with fail
   refine bodyPost_ret (v := Pp.findV Pp.zE (Pp.treeE L)) (by simp [results, Tryz.results18, go_sem, Pp.findV, Pp.zE, c0, c1, c2, c3, hlt]) rfl ⟨by rw [HX.out, HR.out], ?_⟩
   first | exact (((hbw.setCell (p := ⟨w.heap.size, 0, none⟩) (Nat.le_refl _) _).setCell (p := ⟨w.heap.size, 1, none⟩) (Nat.le_refl _) _).setCell (p := ⟨w.heap.size, 2, none⟩) (Nat.le_refl _) _).setCell (p := ⟨w.heap.size, 3, none⟩) (Nat.le_refl _) _ | exact ((((hbw.setCell (p := ⟨w.heap.size, 0, none⟩) (Nat.le_refl _) _).setCell (p := ⟨w.heap.size, 1, none⟩) (Nat.le_refl _) _).setCell (p := ⟨w.heap.size, 2, none⟩) (Nat.le_refl _) _).setCell (p := ⟨w.heap.size, 3, none⟩) (Nat.le_refl _) _).alloc (by simpa using Nat.le_of_lt hlt) _
end Go.Proofs.YtchlgpeiombmdaaGreat
set_option linter.unusedSimpArgs false
set_option linter.unusedVariables false
namespace Go.Proofs.YtchlgpeiombmdaaGreat
open Go.RowKit
namespace Hu
def nob : ByteArray := ⟨#[]⟩
def stS (H : Hb) (p : ByteArray) (sz : Int) (tx : ByteArray) : Se := ⟨H.nx, p, tx, sz, H.now + H.la⟩
/-- The hub while the text comes. -/
def st (H : Hb) (p : ByteArray) (sz : Int) (tx : ByteArray) : Hb := ⟨H.fos, H.gs, Pp.swL H.now H.ss ++ [stS H p sz tx], H.nx + 1, H.la, H.ro, H.now⟩
def qO (p : ByteArray) (sz : Int) : Rq := ⟨4, p, nob, nob, nob, nob, sz, 0, 0, []⟩
def qP (p : ByteArray) (n o : Int) (t : ByteArray) : Rq := ⟨5, p, nob, nob, nob, t, n, o, 0, []⟩
def qF (p fo na key : ByteArray) (n : Int) : Rq := ⟨7, p, fo, na, key, nob, n, 0, -1, []⟩
def qQ (p : ByteArray) (n : Int) : Rq := ⟨6, p, nob, nob, nob, nob, n, 0, 0, []⟩
theorem rig_no (G : List Gr) (p : ByteArray) : Pp.rigR G nob p = 0 := by
 rw [Pp.rigR]
 split
 · rename_i h
   rw [Pp.calE] at h
   split at h
   · rw [Pp.nmsE] at h
     split at h
     · rename_i hn; simp at hn; exact absurd hn.1 (by decide)
     · cases h
   · rename_i hg; exact absurd h hg
 · rfl
theorem ck_no {G : List Gr} {q : Rq} (hf : q.fo = nob) (hk : q.kind = 4 ∨ q.kind = 5 ∨ q.kind = 6) (hn : Pp.nameB q.who.data.toList = true) : ckE G q = 0 := by
 refine ck_ok (by omega) (by rw [nms_one, hn]; rfl) ?_
 rw [hf, rig_no]
 rcases hk with hk | hk | hk <;> rw [hk] <;> decide
theorem st_open {H : Hb} {p : ByteArray} {sz : Int} (h : (svA H (qO p sz)).err = 0) :
    svH H (qO p sz) = st H p sz nob ∧ svA H (qO p sz) = ⟨0, H.nx, Jn.zeroP⟩ ∧ Pp.nameB p.data.toList = true ∧ Pp.goE H.ss H.nx H.la H.ro H.now [p] = 0 := by
 by_cases hck : ckE H.gs (qO p sz) = 0
 · rw [svA, if_pos hck, (sk_4 rfl).2] at h
   rw [svH, svA, if_pos hck, if_pos hck, (sk_4 rfl).1, (sk_4 rfl).2]
   have ho : Pp.opE H.ss H.nx H.la H.ro p sz H.now = 0 := Decidable.byContradiction fun hn => by
    have e : (anU (opU H p sz)).err = Pp.opE H.ss H.nx H.la H.ro p sz H.now := by rw [opU, if_neg hn]; rfl
    exact hn (e.symm.trans h)
   have hg : Pp.goE H.ss H.nx H.la H.ro H.now [p] = 0 := Decidable.byContradiction fun hn => by rw [Pp.opE, if_pos hn] at ho; exact hn ho
   have e : opU H p sz = ⟨0, Pp.swL H.now H.ss ++ [Pp.newS H.nx p sz (H.now + H.la)], H.nx + 1, H.la, H.ro, H.nx⟩ := by rw [opU, if_pos ho]
   have hn := (ck_parts hck).2.2.1
   refine ⟨?_, ?_, ?_, hg⟩
   · show upU H (opU H p sz) = _
     rw [e, upU, upH, if_pos rfl]; rfl
   · show anU (opU H p sz) = _
     rw [e]; rfl
   · have hn' : Pp.nmsE [p] = 0 := hn
     rw [nms_one] at hn'
     split at hn'
     · assumption
     · cases hn'
 · rw [svA, if_neg hck] at h; exact absurd h hck
theorem sw_idem (t : Int) (L : List Se) : Pp.swL t (Pp.swL t L) = Pp.swL t L := by
 rw [Pp.swL, List.filter_eq_self]; intro s hs; exact (List.mem_filter.1 hs).2
theorem st_sw {H : Hb} {p : ByteArray} {sz : Int} {tx : ByteArray} (hl : 0 ≤ H.la) : Pp.swL (st H p sz tx).now (st H p sz tx).ss = (st H p sz tx).ss := by
 have h2 : Pp.ovr H.now (stS H p sz tx) = false := by
  rw [Pp.ovr, decide_eq_false]; show ¬ H.now + H.la < H.now; omega
 show (Pp.swL H.now H.ss ++ [stS H p sz tx]).filter _ = _
 rw [List.filter_append]
 have h1 : (Pp.swL H.now H.ss).filter (fun s => !Pp.ovr (st H p sz tx).now s) = Pp.swL H.now H.ss := sw_idem H.now H.ss
 rw [h1]
 have h3 : [stS H p sz tx].filter (fun s => !Pp.ovr (st H p sz tx).now s) = [stS H p sz tx] := by
  have : Pp.ovr (st H p sz tx).now (stS H p sz tx) = false := h2
  simp [this]
 rw [h3]; rfl
theorem st_find {H : Hb} {p : ByteArray} {sz : Int} {tx : ByteArray} (hg : Pp.goE H.ss H.nx H.la H.ro H.now [p] = 0) (hl : 0 ≤ H.la) :
    Pp.idS (Pp.swL (st H p sz tx).now (st H p sz tx).ss) (Pp.mine H.nx p) = ((Pp.swL H.now H.ss).length : Nat) := by
 rw [st_sw hl]
 have hlast : Pp.mine H.nx p (stS H p sz tx) = true := by simp [Pp.mine, stS]
 have hother : ∀ s ∈ Pp.swL H.now H.ss, Pp.mine H.nx p s = false := fun s hs => by
  have := Pp.nu_less hg s hs
  have hne : (s.nu == H.nx) = false := by simp; omega
  rw [Pp.mine, hne]; rfl
 have hfi : (Pp.swL H.now H.ss ++ [stS H p sz tx]).findIdx? (Pp.mine H.nx p) = some (Pp.swL H.now H.ss).length := by
  refine List.findIdx?_eq_some_iff_getElem.2 ⟨by simp, by simpa using hlast, fun j hj => ?_⟩
  rw [List.getElem_append_left hj, hother _ (List.getElem_mem hj)]; decide
 show Pp.idS (Pp.swL H.now H.ss ++ [stS H p sz tx]) (Pp.mine H.nx p) = _
 rw [Pp.idS, hfi]
structure StOk (H : Hb) (p : ByteArray) (sz : Int) (tx : ByteArray) : Prop where
 he : hE (st H p sz tx) = 0
 go : Pp.goE H.ss H.nx H.la H.ro H.now [p] = 0
 nm : Pp.nameB p.data.toList = true
theorem StOk.la {H : Hb} {p : ByteArray} {sz : Int} {tx : ByteArray} (h : StOk H p sz tx) : 0 ≤ H.la := by
 have := (Pp.bnd_zero (Pp.uch_zero (Pp.go_zero h.go).1).1).2.1
 omega
theorem st_fi {H : Hb} {p : ByteArray} {sz : Int} {tx : ByteArray} (h : StOk H p sz tx) :
    Pp.fiE (st H p sz tx).ss (st H p sz tx).nx (st H p sz tx).la (st H p sz tx).ro p H.nx (st H p sz tx).now = 0 ∧ fiX (st H p sz tx) p H.nx = (Pp.swL H.now H.ss).length ∧ (Pp.swL (st H p sz tx).now (st H p sz tx).ss)[fiX (st H p sz tx) p H.nx]? = some (stS H p sz tx) := by
 have hid := st_find (sz := sz) (tx := tx) h.go h.la
 have hx : fiX (st H p sz tx) p H.nx = (Pp.swL H.now H.ss).length := by rw [fiX, hid]; rfl
 have hn := now_in h.he
 have hu := (h_parts h.he).2.2.2.2
 have hgo : Pp.goE (st H p sz tx).ss (st H p sz tx).nx (st H p sz tx).la (st H p sz tx).ro (st H p sz tx).now [p] = 0 := by
  rw [Pp.goE, if_pos hu, Pp.inR_mk hn.1 hn.2, if_pos rfl, nms_one, h.nm]; rfl
 refine ⟨?_, hx, ?_⟩
 · rw [Pp.fiE, if_pos hgo, hid, if_neg (by omega)]
 · rw [hx, st_sw h.la]
   show (Pp.swL H.now H.ss ++ [stS H p sz tx])[(Pp.swL H.now H.ss).length]? = _
   simp
theorem en_end (tx t : ByteArray) : Pp.enB tx (tx.size : Int) t = decide (t.size = 0) := by
 rw [Pp.enB, Pp.inR_mk (by omega) (Int.le_refl _), Bool.true_and]
 have e : (tx.extract ((tx.size : Int)).toNat tx.size).toList = [] := by
  rw [Lib.toList_data]
  exact List.eq_nil_of_length_eq_zero (by simp)
 rw [e, Lib.toList_data]
 by_cases h : t.size = 0
 · have : t.data.toList = [] := by
    have h' : t.data.size = 0 := h
    exact List.eq_nil_of_length_eq_zero (by simpa using h')
   rw [this]; simp [h]
 · have : t.data.toList ≠ [] := fun e => h (by
    have : t.data.toList.length = 0 := by rw [e]; rfl
    simpa using this)
   have hb : (([] : List UInt8) == t.data.toList) = false := by
    cases ht : t.data.toList with
    | nil => exact absurd ht this
    | cons a r => rfl
   rw [hb]; simp [h]
theorem st_ap {H : Hb} {p : ByteArray} {sz : Int} {tx t : ByteArray} (h : StOk H p sz tx) (hsz : (tx.size : Int) + t.size ≤ sz) :
    svH (st H p sz tx) (qP p H.nx tx.size t) = st H p sz (tx ++ t) ∧ svA (st H p sz tx) (qP p H.nx tx.size t) = ⟨0, (tx.size : Int) + t.size, Jn.zeroP⟩ := by
 have hck : ckE (st H p sz tx).gs (qP p H.nx tx.size t) = 0 := ck_no rfl (Or.inr (Or.inl rfl)) h.nm
 rw [svH, svA, if_pos hck, if_pos hck, (sk_5 rfl).1, (sk_5 rfl).2]
 obtain ⟨f1, f2, f3⟩ := st_fi h
 have hset : (Pp.swL (st H p sz tx).now (st H p sz tx).ss).set (fiX (st H p sz tx) p H.nx) (Pp.moreS (stS H p sz tx) t ((st H p sz tx).now + (st H p sz tx).la)) = (st H p sz (tx ++ t)).ss := by
  rw [st_sw h.la, f2]
  show (Pp.swL H.now H.ss ++ [stS H p sz tx]).set (Pp.swL H.now H.ss).length _ = Pp.swL H.now H.ss ++ [stS H p sz (tx ++ t)]
  simp
  rfl
 have e : apU (st H p sz tx) p H.nx tx.size t = ⟨0, (st H p sz (tx ++ t)).ss, H.nx + 1, H.la, H.ro, (tx.size : Int) + t.size⟩ := by
  rw [apU, if_pos f1, f3]
  simp only [apK]
  have et : (stS H p sz tx).tx = tx := rfl
  rw [et, en_end]
  by_cases h0 : t.size = 0
  · have ee : tx ++ t = tx := by
     apply ba_eq
     have : t.data.toList = [] := by
      have h' : t.data.size = 0 := h0
      exact List.eq_nil_of_length_eq_zero (by simpa using h')
     simp [this]
    rw [if_pos (decide_eq_true h0), ee, st_sw h.la, h0]
    simp
    exact ⟨rfl, rfl, rfl⟩
  · rw [if_neg (by simpa using h0), if_pos rfl, if_neg (by show ¬ sz < _; omega), hset]
    rfl
 constructor
 · show upU (st H p sz tx) (apU (st H p sz tx) p H.nx tx.size t) = _
   rw [e, upU, upH, if_pos rfl]; rfl
 · show anU (apU (st H p sz tx) p H.nx tx.size t) = _
   rw [e]; rfl
theorem st_qu {H : Hb} {p : ByteArray} {sz : Int} {tx : ByteArray} (h : StOk H p sz tx) : svA (st H p sz tx) (qQ p H.nx) = ⟨0, (tx.size : Int), Jn.zeroP⟩ := by
 have hck : ckE (st H p sz tx).gs (qQ p H.nx) = 0 := ck_no rfl (Or.inr (Or.inr rfl)) h.nm
 obtain ⟨f1, f2, f3⟩ := st_fi h
 rw [svA, if_pos hck, (sk_6 rfl).2]
 show (⟨quE (st H p sz tx) p H.nx, quN (st H p sz tx) p H.nx, Jn.zeroP⟩ : An) = _
 have e : quE (st H p sz tx) p H.nx = 0 := f1
 rw [quN, e, if_pos rfl, f3]
 rfl
theorem tree_add {J : Jo} {key : ByteArray} {l : List Pp.Ch} (h : Jn.chkE J = 0) (hk : Pp.keyB key.data.toList = true) (hn : Jn.newE J l = 0) : Jn.tree (Jn.addJ J key l) = Pp.allR (Jn.tree J) l (Jn.last J + 1) := by
 obtain ⟨_, _, _, h4, _⟩ := Jn.chk_parts h
 have hr : Jn.runJ J.first J.base J.cos = (0, Jn.tree J) := by
  rw [Jn.tree]
  exact Prod.ext (by rw [h4]) rfl
 have hs := Jn.run_snoc (c := Jn.newC J key l) hr (Jn.new_co hk hn) (Jn.new_zero hn).2.2
 rw [Jn.addJ, Jn.cutJ]
 split
 · rename_i hc
   cases hcos : J.cos ++ [Jn.newC J key l] with
   | nil => simp at hcos
   | cons c r =>
    rw [hcos] at hs
    obtain ⟨h1, _, h3⟩ := Jn.run_cons hs
    have hnu : c.nu = J.first := Decidable.byContradiction fun hne => by rw [Jn.coE, if_pos hne] at h1; cases h1
    rw [hnu] at h3
    simp only [Jn.tree] at h3 ⊢
    rw [h3]
    rfl
 · show (Jn.runJ J.first J.base (J.cos ++ [Jn.newC J key l])).2 = _
   rw [hs]
   rfl
theorem all_one {T : List En} {c : Pp.Ch} {n : Int} (h : Pp.allE T [c] n = 0) : Pp.appE T c n = 0 ∧ Pp.allR T [c] n = Pp.chdR T c n ∧ Pp.treeE T = 0 := by
 by_cases ht : Pp.treeE T = 0
 · rw [Pp.allE, if_neg (fun x => x ht), if_neg (by simp)] at h
   by_cases ha : Pp.appE T c n = 0
   · refine ⟨ha, ?_, ht⟩
     rw [Pp.allR, if_neg (fun x => x ht), if_neg (by simp), Pp.runF, if_pos ha]
     rfl
   · rw [Pp.runF, if_neg ha] at h; exact absurd h ha
 · rw [Pp.allE, if_pos ht] at h; exact absurd h ht
theorem find_written {T : List En} {c : Pp.Ch} {n : Int} (hT : Pp.Good T) (h : Pp.appE T c n = 0) (h2 : c.k = 2) : Pp.findX (Pp.chdR T c n) c.p.data.toList = Pp.newE c n ∧ Pp.findR (Pp.chdR T c n) c.p.data.toList = 0 := by
 have hG := Pp.app_good hT h
 have hm : Pp.newE c n ∈ Pp.chdR T c n := Pp.written h2
 have hf : (Pp.chdR T c n).find? (Pp.atB c.p.data.toList) = some (Pp.newE c n) := Pp.sorted_find hG.rise hm
 have ht := (Pp.good_iff _).2 hG
 have hc := Pp.chg_path (Pp.app_parts h).2.1
 rw [Pp.findX, Pp.findR, if_pos ht, if_pos ht, if_pos hc, if_pos hc, hf]
 exact ⟨rfl, rfl⟩
/-- A text that was uploaded, and finished, is a file. -/
theorem st_fn {H : Hb} {p : ByteArray} {sz : Int} {tx fo na key : ByteArray} (h : StOk H p sz tx) (hz : ¬ (tx.size : Int) < sz) (hno : ∀ s ∈ H.fos, ∀ c ∈ s.jo.cos, ¬ c.ke.data.toList = key.data.toList) (he : (svA (st H p sz tx) (qF p fo na key H.nx)).err = 0) :
    trE (svH (st H p sz tx) (qF p fo na key H.nx)) fo = 0 ∧ Pp.Good (trR (svH (st H p sz tx) (qF p fo na key H.nx)) fo) ∧ Pp.findR (trR (svH (st H p sz tx) (qF p fo na key H.nx)) fo) na.data.toList = 0 ∧ (Pp.findX (trR (svH (st H p sz tx) (qF p fo na key H.nx)) fo) na.data.toList).text = tx ∧ (Pp.findX (trR (svH (st H p sz tx) (qF p fo na key H.nx)) fo) na.data.toList).ver = (svA (st H p sz tx) (qF p fo na key H.nx)).num := by
 obtain ⟨K, hK⟩ : ∃ K, K = st H p sz tx := ⟨_, rfl⟩
 have hfos : K.fos = H.fos := by rw [hK]; rfl
 have hKe : hE K = 0 := by rw [hK]; exact h.he
 obtain ⟨f1, f2, f3⟩ := st_fi h
 rw [← hK] at f1 f2 f3 he ⊢
 obtain ⟨q, hq⟩ : ∃ q, q = qF p fo na key H.nx := ⟨_, rfl⟩
 have hqf : q.fo = fo := by rw [hq]; rfl
 have hqk : q.kind = 7 := by rw [hq]; rfl
 have hqw : q.who = p := by rw [hq]; rfl
 have hqn : q.num = H.nx := by rw [hq]; rfl
 have hqy : q.key = key := by rw [hq]; rfl
 have hqc : fnC q tx = [⟨2, na, ⟨#[]⟩, tx, -1⟩] := by rw [hq]; rfl
 rw [← hq] at he ⊢
 have hVe := sv_he (q := q) hKe
 by_cases hck : ckE K.gs q = 0
 · have hV : svH K q = fnH K q (fnU K q.who q.num) := by rw [svH, if_pos hck, (sk_7 hqk).1]
   have hA : svA K q = ⟨fnE K q (fnU K q.who q.num), fnN K q (fnU K q.who q.num), Jn.zeroP⟩ := by rw [svA, if_pos hck, (sk_7 hqk).2]
   have hq0 : quE K q.who q.num = 0 := by rw [hqw, hqn]; exact f1
   have hF : (fnU K q.who q.num).e = 0 ∧ (fnU K q.who q.num).tx = tx := by
    rw [fnU, if_pos hq0, hqw, hqn, f3]
    simp only
    rw [if_neg (by exact hz)]
    exact ⟨rfl, rfl⟩
   rw [hA] at he ⊢
   have hin := ck_in hck (Or.inr (Or.inr (Or.inr hqk)))
   rw [fnE, if_pos hF.1, hF.2, hqc, hqy] at he
   rw [fnN, if_pos hF.1, hF.2, hqc, hqy]
   have hVfos : (svH K q).fos = (cmH K (whr K.fos K.gs q.fo) key [⟨2, na, ⟨#[]⟩, tx, -1⟩]).fos ∧ (svH K q).gs = (cmH K (whr K.fos K.gs q.fo) key [⟨2, na, ⟨#[]⟩, tx, -1⟩]).gs := by
    rw [hV, fnH, if_pos hF.1, hF.2, hqc, hqy]
    exact up_fos _ _ _ _ _ _
   have hinV : inG (svH K q).gs fo = true := by rw [hVfos.2, cm_gs, ← hqf]; exact hin
   have hjn : jn (svH K q) fo = Jn.comR (jn K fo) key [⟨2, na, ⟨#[]⟩, tx, -1⟩] := by
    have e : jn (svH K q) fo = jn (cmH K (whr K.fos K.gs q.fo) key [⟨2, na, ⟨#[]⟩, tx, -1⟩]) fo := by
     rw [jn, jn, joAt, joAt, hVfos.1, hVfos.2]
    rw [e, ← hqf]
    exact cm_jn hKe hin he
   have hJ : Jn.comE (jn K fo) key [⟨2, na, ⟨#[]⟩, tx, -1⟩] = 0 := by rw [hqf] at he; exact he
   have hno' : Jn.hasB (jn K fo).cos key.data.toList = false := by
    obtain ⟨s, hs, hsn⟩ := (in_iff hKe fo).1 (by rw [← hqf]; exact hin)
    rw [(jn_mem hKe hs hsn).2]
    rw [Jn.hasB, List.any_eq_false]
    intro c hc hcc
    exact hno s (by rw [← hfos]; exact hs) c hc (by simpa using hcc)
   have hch : Jn.chkE (jn K fo) = 0 := Decidable.byContradiction fun hn => by rw [(Jn.com_chk hn).1] at hJ; exact hn hJ
   have hky : Pp.keyB key.data.toList = true := by
    cases hb : Pp.keyB key.data.toList with
    | true => rfl
    | false => rw [(Jn.com_key hch hb).1] at hJ; cases hJ
   have hnew : Jn.newE (jn K fo) [⟨2, na, ⟨#[]⟩, tx, -1⟩] = 0 := by rw [← Jn.com_new hch hky hno']; exact hJ
   obtain ⟨_, a2, a3⟩ := Jn.com_add hch hky hno' hnew
   obtain ⟨b1, b2, _⟩ := all_one (Jn.new_zero hnew).2.2
   have ht := tr_in hVe hinV
   rw [hjn, a3, tree_add hch hky hnew, b2] at ht
   have hfw := find_written (Jn.tree_good hch) b1 rfl
   have hcn : cmN K (whr K.fos K.gs q.fo) key [⟨2, na, ⟨#[]⟩, tx, -1⟩] = Jn.last (jn K fo) + 1 := by rw [hqf]; exact a2
   refine ⟨ht.1, by rw [ht.2]; exact Pp.app_good (Jn.tree_good hch) b1, by rw [ht.2]; exact hfw.2, by rw [ht.2, hfw.1]; rfl, ?_⟩
   rw [ht.2, hfw.1]
   show Jn.last (jn K fo) + 1 = cmN K (whr K.fos K.gs q.fo) key [⟨2, na, ⟨#[]⟩, tx, -1⟩]
   rw [hcn]
 · rw [svA, if_neg hck] at he; exact absurd he hck
end Hu
end Go.Proofs.YtchlgpeiombmdaaGreat
set_option linter.unusedSimpArgs false
set_option linter.unusedVariables false
namespace Go.Proofs.YtchlgpeiombmdaaGreat
open Go.RowKit

theorem LiesH.parts {w : World} {vf vg vs a b c d : Value} {H : Hb} (h : LiesH w (.agg #[vf, vg, vs, a, b, c, d]) H) : LiesF w vf H.fos ∧ LiesG w vg H.gs ∧ LiesS w vs H.ss := by
 obtain ⟨vf', vg', vs', e, h1, h2, h3⟩ := h
 injection e with e
 simp only [Array.mk.injEq, List.cons.injEq] at e
 obtain ⟨rfl, rfl, rfl, _⟩ := e
 exact ⟨h1, h2, h3⟩
end Go.Proofs.YtchlgpeiombmdaaGreat
