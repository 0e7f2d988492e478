/- What a request leaves of other folders, by their names (mathematics). -/
import Derived.Test.YtchlgpeiombmdaaGreatKU
set_option linter.unusedSimpArgs false
set_option linter.unusedVariables false
namespace Go.Proofs.YtchlgpeiombmdaaGreat
open Go.RowKit
namespace Hu
theorem in_iff {H : Hb} (h : hE H = 0) (x : ByteArray) : inG H.gs x = true ↔ ∃ s ∈ H.fos, s.na.data.toList = x.data.toList := by rw [told_is h, isB_iff]
theorem ba_eq {a b : ByteArray} (h : a.data.toList = b.data.toList) : a = b := by
 cases a; cases b
 simp only at h
 rw [Array.toList_inj] at h
 rw [h]
/-- The journal of a folder, by its name. -/
def jn (H : Hb) (x : ByteArray) : Jo := joAt H (whr H.fos H.gs x)
theorem jn_mem {H : Hb} (h : hE H = 0) {s : Sh} {x : ByteArray} (hs : s ∈ H.fos) (hx : s.na.data.toList = x.data.toList) : inG H.gs x = true ∧ jn H x = s.jo := by
 have hin := (in_iff h x).2 ⟨s, hs, hx⟩
 obtain ⟨hp, he⟩ := whr_at h hin
 refine ⟨hin, ?_⟩
 obtain ⟨k, hk, rfl⟩ := List.getElem_of_mem hs
 have hpw := ris_ne (cf_parts (h_parts h).2.1).2.2
 have hkp : k = whr H.fos H.gs x := by
  rcases Nat.lt_trichotomy k (whr H.fos H.gs x) with hlt | heq | hlt
  · exact absurd (hx.trans he.symm) (List.pairwise_iff_getElem.1 hpw k _ hk hp hlt)
  · exact heq
  · exact absurd (he.trans hx.symm) (List.pairwise_iff_getElem.1 hpw _ k hp hk hlt)
 rw [jn, joAt_eq hp]
 simp only [← hkp]
theorem tr_in {H : Hb} (h : hE H = 0) {x : ByteArray} (hin : inG H.gs x = true) : trE H x = 0 ∧ trR H x = Jn.tree (jn H x) := by
 have e : trE H x = 0 := by rw [trE, if_neg (fun y => y h), if_pos hin]
 exact ⟨e, by rw [trR, if_pos e]; rfl⟩
theorem tr_out {H : Hb} (h : hE H = 0) {x : ByteArray} (hin : ¬ inG H.gs x = true) : trE H x = 5 ∧ trR H x = [] := by
 have e : trE H x = 5 := by rw [trE, if_neg (fun y => y h), if_neg hin]
 exact ⟨e, by rw [trR, e, if_neg (by decide)]⟩
theorem set_mem {L : List Sh} {j : Nat} (hj : j < L.length) {t s : Sh} (h1 : ¬ s.na.data.toList = t.na.data.toList) (h2 : t.na.data.toList = L[j].na.data.toList) : s ∈ L.set j t ↔ s ∈ L := by
 constructor
 · intro h
   rcases List.mem_or_eq_of_mem_set h with h | rfl
   · exact h
   · exact absurd rfl h1
 · intro h
   obtain ⟨k, hk, rfl⟩ := List.getElem_of_mem h
   have hne : ¬ j = k := fun e => by subst e; exact h1 h2.symm
   have : (L.set j t)[k]'(by simpa using hk) = L[k] := by rw [List.getElem_set, if_neg hne]
   rw [← this]
   exact List.getElem_mem _
theorem cm_mem {H : Hb} {x key : ByteArray} {l : List Pp.Ch} (h : hE H = 0) (hin : inG H.gs x = true) {s : Sh} (hs : ¬ s.na.data.toList = x.data.toList) : s ∈ (cmH H (whr H.fos H.gs x) key l).fos ↔ s ∈ H.fos := by
 obtain ⟨hp, he⟩ := whr_at h hin
 by_cases h0 : cmE H (whr H.fos H.gs x) key l = 0
 · rw [cm_ok hp h0, putJ_fos hp]
   exact set_mem hp (by show ¬ s.na.data.toList = H.fos[whr H.fos H.gs x].na.data.toList; rw [he]; exact hs) rfl
 · rw [cmH, if_neg h0]
theorem cm_jn {H : Hb} {x key : ByteArray} {l : List Pp.Ch} (h : hE H = 0) (hin : inG H.gs x = true) (h0 : cmE H (whr H.fos H.gs x) key l = 0) : jn (cmH H (whr H.fos H.gs x) key l) x = Jn.comR (jn H x) key l := by
 obtain ⟨hp, he⟩ := whr_at h hin
 have hh := cm_he (key := key) (l := l) h hp
 rw [cm_ok hp h0] at hh ⊢
 refine (jn_mem hh (s := ⟨H.fos[whr H.fos H.gs x].na, Jn.comR (joAt H (whr H.fos H.gs x)) key l⟩) ?_ he).2
 rw [putJ_fos hp]
 exact List.mem_set hp _
theorem up_fos (H : Hb) (e : Int) (S : List Se) (x l r : Int) : (upH H e S x l r).fos = H.fos ∧ (upH H e S x l r).gs = H.gs := by rw [upH]; split <;> exact ⟨rfl, rfl⟩
theorem gs_fos (H : Hb) (e : Int) (G : List Gr) : (gsH H e G).fos = H.fos := by rw [gsH]; split <;> rfl
theorem fn_mem {H : Hb} {q : Rq} {F : Fu} (h : hE H = 0) (hin : inG H.gs q.fo = true) {s : Sh} (hs : ¬ s.na.data.toList = q.fo.data.toList) : s ∈ (fnH H q F).fos ↔ s ∈ H.fos := by
 rw [fnH]
 split
 · rw [(up_fos _ _ _ _ _ _).1]; exact cm_mem h hin hs
 · exact Iff.rfl
/-- Folders of other names stay, and none of another name comes. -/
theorem sv_mem {H : Hb} {q : Rq} (h : hE H = 0) {s : Sh} (hs : ¬ s.na.data.toList = q.fo.data.toList) : s ∈ (svH H q).fos ↔ s ∈ H.fos := by
 rw [svH]
 split
 · rename_i hck
   obtain ⟨k1, k2, _⟩ := ck_parts hck
   rcases kinds k1 k2 with hk | hk | hk | hk | hk | hk | hk | hk
   · rw [(sk_1 hk).1]; exact cm_mem h (ck_in hck (by omega)) hs
   · rw [(sk_2 hk).1]
   · rw [(sk_3 hk).1, gs_fos]
   · rw [(sk_4 hk).1, upU, (up_fos _ _ _ _ _ _).1]
   · rw [(sk_5 hk).1, upU, (up_fos _ _ _ _ _ _).1]
   · rw [(sk_6 hk).1]
   · rw [(sk_7 hk).1]; exact fn_mem h (ck_in hck (by omega)) hs
   · rw [(sk_8 hk).1, mkH]
     split
     · rw [ins_mem]
       constructor
       · rintro (rfl | h)
         · exact absurd rfl hs
         · exact h
       · exact Or.inr
     · exact Iff.rfl
 · exact Iff.rfl
/-- Requests of these kinds leave the folders as they are. -/
theorem sv_fos {H : Hb} {q : Rq} (h1 : ¬ q.kind = 1) (h7 : ¬ q.kind = 7) (h8 : ¬ q.kind = 8) : (svH H q).fos = H.fos := by
 rw [svH]
 split
 · rename_i hck
   obtain ⟨k1, k2, _⟩ := ck_parts hck
   rcases kinds k1 k2 with hk | hk | hk | hk | hk | hk | hk | hk
   · exact absurd hk h1
   · rw [(sk_2 hk).1]
   · rw [(sk_3 hk).1, gs_fos]
   · rw [(sk_4 hk).1, upU, (up_fos _ _ _ _ _ _).1]
   · rw [(sk_5 hk).1, upU, (up_fos _ _ _ _ _ _).1]
   · rw [(sk_6 hk).1]
   · exact absurd hk h7
   · exact absurd hk h8
 · rfl
theorem jn_same {H K : Hb} (h : hE H = 0) (k : hE K = 0) {x : ByteArray} (hm : ∀ s : Sh, s.na.data.toList = x.data.toList → (s ∈ K.fos ↔ s ∈ H.fos)) : (inG K.gs x = true ↔ inG H.gs x = true) ∧ (inG H.gs x = true → jn K x = jn H x) := by
 constructor
 · rw [in_iff h, in_iff k]
   constructor
   · rintro ⟨s, hs, e⟩; exact ⟨s, (hm s e).1 hs, e⟩
   · rintro ⟨s, hs, e⟩; exact ⟨s, (hm s e).2 hs, e⟩
 · intro hin
   obtain ⟨s, hs, e⟩ := (in_iff h x).1 hin
   rw [(jn_mem h hs e).2, (jn_mem k ((hm s e).2 hs) e).2]
theorem tr_same {H K : Hb} (h : hE H = 0) (k : hE K = 0) {x : ByteArray} (hm : ∀ s : Sh, s.na.data.toList = x.data.toList → (s ∈ K.fos ↔ s ∈ H.fos)) : trE K x = trE H x ∧ trR K x = trR H x := by
 obtain ⟨a, b⟩ := jn_same h k hm
 by_cases hin : inG H.gs x = true
 · rw [(tr_in h hin).1, (tr_in h hin).2, (tr_in k (a.2 hin)).1, (tr_in k (a.2 hin)).2, b hin]; exact ⟨rfl, rfl⟩
 · rw [(tr_out h hin).1, (tr_out h hin).2, (tr_out k (fun y => hin (a.1 y))).1, (tr_out k (fun y => hin (a.1 y))).2]; exact ⟨rfl, rfl⟩
/-- Who may not edit a folder changes nothing in it. -/
theorem den_tree {H : Hb} {q : Rq} (h : hE H = 0) (h8 : ¬ q.kind = 8) {s : Sh} (hs : s ∈ H.fos) (hr : Pp.rigR H.gs s.na q.who < 2) : trE H s.na = 0 ∧ trE (svH H q) s.na = 0 ∧ trR (svH H q) s.na = trR H s.na := by
 have hin := (jn_mem h hs rfl).1
 have hm : ∀ t : Sh, t.na.data.toList = s.na.data.toList → (t ∈ (svH H q).fos ↔ t ∈ H.fos) := by
  intro t ht
  by_cases hf : s.na.data.toList = q.fo.data.toList
  · by_cases hk : q.kind = 1 ∨ q.kind = 7
    · have hck : ¬ ckE H.gs q = 0 := fun hck => by
       have h2 := (ck_parts hck).2.2.2
       rw [← ba_eq hf] at h2
       have e1 : lst 1 = 2 := rfl
       have e7 : lst 7 = 2 := rfl
       rcases hk with hk | hk <;> rw [hk] at h2 <;> omega
      rw [svH, if_neg hck]
    · rw [sv_fos (fun e => hk (Or.inl e)) (fun e => hk (Or.inr e)) h8]
  · exact sv_mem h (by rw [ht]; exact hf)
 obtain ⟨a, b⟩ := tr_same h (sv_he (q := q) h) hm
 exact ⟨(tr_in h hin).1, by rw [a]; exact (tr_in h hin).1, b⟩
theorem nms_one {x : ByteArray} : Pp.nmsE [x] = if Pp.nameB x.data.toList = true then 0 else 1 := by simp [Pp.nmsE]
theorem rig_nm {G : List Gr} {f h : ByteArray} (hr : ¬ Pp.rigR G f h = 0) : Pp.calE G [f, h] = 0 ∧ Pp.nameB h.data.toList = true := by
 rw [Pp.rigR] at hr
 split at hr
 · rename_i hc
   refine ⟨hc, ?_⟩
   rw [Pp.calE] at hc
   split at hc
   · rw [Pp.nmsE] at hc
     split at hc
     · rename_i hn; simp at hn; exact hn.2
     · cases hc
   · rename_i hg; exact absurd hc hg
 · exact absurd rfl hr
/-- What is told to who has no right. -/
theorem den_none {H : Hb} {q : Rq} (hk : q.kind = 2 ∨ q.kind = 1 ∨ q.kind = 3) (hr : Pp.rigR H.gs q.fo q.who = 0) : (svA H q).err = 9 ∨ (Pp.nameB q.who.data.toList = false ∧ (svA H q).err = 1) := by
 have hk' : ¬ (q.kind < 1 ∨ 8 < q.kind) := by omega
 have hl : 0 < lst q.kind := by rcases hk with hk | hk | hk <;> rw [hk] <;> decide
 cases hn : Pp.nameB q.who.data.toList with
 | true =>
  have e : ckE H.gs q = 9 := ck_right hk' (by rw [nms_one, hn]; rfl) (by rw [hr]; exact hl)
  left; rw [svA, e, if_neg (by decide)]
 | false =>
  have e1 : Pp.nmsE [q.who] = 1 := by rw [nms_one, hn]; rfl
  have e : ckE H.gs q = 1 := by rw [ck_who hk' (by rw [e1]; decide), e1]
  right; exact ⟨rfl, by rw [svA, e, if_neg (by decide)]⟩
/-- .. and to who may only look, and asks for a commit. -/
theorem den_look {H : Hb} {q : Rq} (hk : q.kind = 1) (hr : Pp.rigR H.gs q.fo q.who < 2) (h0 : ¬ Pp.rigR H.gs q.fo q.who = 0) : (svA H q).err = 9 := by
 have e : ckE H.gs q = 9 := ck_right (by omega) (by rw [nms_one, (rig_nm h0).2]; rfl) (by rw [hk]; exact hr)
 rw [svA, e, if_neg (by decide)]
end Hu
end Go.Proofs.YtchlgpeiombmdaaGreat
