/- What was asked of another folder does not matter for a page or a commit (mathematics). -/
import Derived.Test.YtchlgpeiombmdaaGreatH38
set_option linter.unusedSimpArgs false
set_option linter.unusedVariables false
namespace Go.Proofs.YtchlgpeiombmdaaGreat
open Go.RowKit
namespace Hu
theorem gs_cases (H : Hb) (o : Rq) : (svH H o).gs = H.gs ∨ ∃ m r, (svH H o).gs = Pp.pgN ⟨o.fo, m, r⟩ H.gs := by
 rw [svH]
 split
 · rename_i hck
   obtain ⟨k1, k2, _⟩ := ck_parts hck
   rcases kinds k1 k2 with hk | hk | hk | hk | hk | hk | hk | hk
   · rw [(sk_1 hk).1, cm_gs]; exact Or.inl rfl
   · rw [(sk_2 hk).1]; exact Or.inl rfl
   · rw [(sk_3 hk).1, gsH]
     split
     · rename_i h0; exact Or.inr ⟨_, _, Pp.giL_yes h0⟩
     · exact Or.inl rfl
   · rw [(sk_4 hk).1, upU, (up_fos _ _ _ _ _ _).2]; exact Or.inl rfl
   · rw [(sk_5 hk).1, upU, (up_fos _ _ _ _ _ _).2]; exact Or.inl rfl
   · rw [(sk_6 hk).1]; exact Or.inl rfl
   · rw [(sk_7 hk).1, fnH]
     split
     · rw [(up_fos _ _ _ _ _ _).2, cm_gs]; exact Or.inl rfl
     · exact Or.inl rfl
   · rw [(sk_8 hk).1, mkH]
     split
     · rename_i h0
       have hm : Pp.maE H.gs o.fo o.who = 0 := Decidable.byContradiction fun hn => by rw [(mk_bad hn).1] at h0; exact hn h0
       exact Or.inr ⟨_, _, Pp.maL_yes hm⟩
     · exact Or.inl rfl
 · exact Or.inl rfl
theorem ap_rig {H : Hb} {o : Rq} (h : hE H = 0) {f : ByteArray} (hf : ¬ f.data.toList = o.fo.data.toList) (p : ByteArray) : Pp.rigR (svH H o).gs f p = Pp.rigR H.gs f p := by
 have hg := (h_parts h).2.2.1
 have hg' := (h_parts (sv_he (q := o) h)).2.2.1
 have hc : Pp.calE (svH H o).gs [f, p] = Pp.calE H.gs [f, p] := by rw [Pp.calE, Pp.calE, if_pos hg, if_pos hg']
 have hr : Pp.rgt (svH H o).gs f p = Pp.rgt H.gs f p := by
  rcases gs_cases H o with e | ⟨m, r, e⟩
  · rw [e]
  · rw [e]
    exact Pp.rgt_other (fun hh => hf (by rw [← Lib.toList_data, ← Lib.toList_data]; exact hh.1)) _
 rw [Pp.rigR, Pp.rigR, hc, hr]
theorem ap_ck {H : Hb} {o q : Rq} (h : hE H = 0) (hf : ¬ q.fo.data.toList = o.fo.data.toList) : ckE (svH H o).gs q = ckE H.gs q := by
 rw [ckE, ckE, ap_rig h hf]
theorem ap_all {H : Hb} {o q : Rq} (h : hE H = 0) (hf : ¬ q.fo.data.toList = o.fo.data.toList) (hk : q.kind = 2 ∨ q.kind = 1) :
    svA (svH H o) q = svA H q ∧ trE (svH (svH H o) q) q.fo = trE (svH H q) q.fo ∧ trR (svH (svH H o) q) q.fo = trR (svH H q) q.fo := by
 have k : hE (svH H o) = 0 := sv_he h
 have hm : ∀ s : Sh, s.na.data.toList = q.fo.data.toList → (s ∈ (svH H o).fos ↔ s ∈ H.fos) := fun s hs => sv_mem h (by rw [hs]; exact hf)
 obtain ⟨a, b⟩ := jn_same h k hm
 by_cases hck : ckE H.gs q = 0
 · have hck' : ckE (svH H o).gs q = 0 := by rw [ap_ck h hf]; exact hck
   have hin := ck_in hck (by omega)
   have hin' := a.2 hin
   have hj : joAt (svH H o) (whr (svH H o).fos (svH H o).gs q.fo) = joAt H (whr H.fos H.gs q.fo) := b hin
   rw [svA, svA, if_pos hck, if_pos hck']
   rw [show svH (svH H o) q = skH (svH H o) q by rw [svH, if_pos hck'], show svH H q = skH H q by rw [svH, if_pos hck]]
   rcases hk with hk | hk
   · rw [(sk_2 hk).1, (sk_2 hk).1, (sk_2 hk).2, (sk_2 hk).2, hj]
     exact ⟨rfl, tr_same h k hm⟩
   · have hE' : cmE (svH H o) (whr (svH H o).fos (svH H o).gs q.fo) q.key q.ch = cmE H (whr H.fos H.gs q.fo) q.key q.ch := by rw [cmE, cmE, hj]
     have hN' : cmN (svH H o) (whr (svH H o).fos (svH H o).gs q.fo) q.key q.ch = cmN H (whr H.fos H.gs q.fo) q.key q.ch := by rw [cmN, cmN, hj]
     rw [(sk_1 hk).1, (sk_1 hk).1, (sk_1 hk).2, (sk_1 hk).2, hE', hN']
     refine ⟨rfl, ?_⟩
     by_cases h0 : cmE H (whr H.fos H.gs q.fo) q.key q.ch = 0
     · have h0' := hE'.trans h0
       have i1 : inG (cmH H (whr H.fos H.gs q.fo) q.key q.ch).gs q.fo = true := by rw [cm_gs]; exact hin
       have i2 : inG (cmH (svH H o) (whr (svH H o).fos (svH H o).gs q.fo) q.key q.ch).gs q.fo = true := by rw [cm_gs]; exact hin'
       obtain ⟨p1, _⟩ := whr_at h hin
       obtain ⟨p2, _⟩ := whr_at k hin'
       have t1 := tr_in (cm_he (key := q.key) (l := q.ch) h p1) i1
       have t2 := tr_in (cm_he (key := q.key) (l := q.ch) k p2) i2
       rw [t1.1, t1.2, t2.1, t2.2, cm_jn h hin h0, cm_jn k hin' h0', b hin]
       exact ⟨rfl, rfl⟩
     · have h0' : ¬ cmE (svH H o) (whr (svH H o).fos (svH H o).gs q.fo) q.key q.ch = 0 := by rw [hE']; exact h0
       rw [(cm_err h0).1, (cm_err h0').1]
       exact tr_same h k hm
 · have hck' : ¬ ckE (svH H o).gs q = 0 := by rw [ap_ck h hf]; exact hck
   rw [svA, svA, if_neg hck, if_neg hck', ap_ck h hf, show svH (svH H o) q = svH H o by rw [svH, if_neg hck'], show svH H q = H by rw [svH, if_neg hck]]
   exact ⟨rfl, tr_same h k hm⟩
end Hu
end Go.Proofs.YtchlgpeiombmdaaGreat
