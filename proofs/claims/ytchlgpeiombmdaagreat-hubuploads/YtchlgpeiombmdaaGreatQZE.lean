/- Uploads that pass Check pass it behind each upload call. What Give leaves: grants that pass Check, the right that was given, and all other rights as they were. Which folders are told of, counted; where a folder is for the reference: FolderAt. What a right that is given leaves of a hub passes Check (mathematics). What a folder that is made leaves of a hub passes Check (mathematics). A hub that passes Check passes it behind every request; with an error nothing changes. What a request leaves of other folders, by their names (mathematics). -/
import Derived.Test.YtchlgpeiombmdaaGreatQZA
import Derived.Test.YtchlgpeiombmdaaGreatQZD
import Derived.Test.YtchlgpeiombmdaaGreatQZC
import Derived.Test.YtchlgpeiombmdaaGreatQS
set_option linter.unusedSimpArgs false
set_option linter.unusedVariables false
namespace Go.Proofs.YtchlgpeiombmdaaGreat
open Go.RowKit
namespace Pp
theorem takS_sub {A B : List Se} (h : A.Sublist B) (p : ByteArray) : (∀ s ∈ B, 0 ≤ s.si) → takS A p ≤ takS B p := by
 induction h with
 | slnil => intro _; exact Int.le_refl _
 | cons a _ ih =>
  intro h
  have i := ih fun s hs => h s (List.mem_cons_of_mem _ hs)
  have h0 := h a (List.mem_cons_self ..)
  rw [takS]
  split <;> omega
 | cons_cons a _ ih =>
  intro h
  have i := ih fun s hs => h s (List.mem_cons_of_mem _ hs)
  rw [takS, takS]
  omega
theorem uch_sub {A B : List Se} {x l r : Int} (h : uchE B x l r = 0) (hs : A.Sublist B) : uchE A x l r = 0 := by
 obtain ⟨h1, h2, h3, h4⟩ := uch_zero h
 have hl := hs.length_le
 have hb := bnd_less h1 (m := A.length) (by have := (bnd_zero h1).1; omega)
 have hse : sesE x A = 0 := ses_mem.2 fun g hg => ses_mem.1 h2 g (hs.subset hg)
 have hr : risS A = true := (risS_pair _).2 (((risS_pair _).1 h3).sublist hs)
 rw [uch_ro hb hse hr, ro_mem]
 intro s hs'
 have h5 := ro_mem.1 h4 s (hs.subset hs')
 have h6 := takS_sub hs s.wh fun s hs => (ses_si h2 s hs).1
 omega
theorem takS_set {s t : Se} (h1 : t.wh = s.wh) (h2 : t.si = s.si) (p : ByteArray) : ∀ {L : List Se} {k : Nat}, L[k]? = some s → takS (L.set k t) p = takS L p
 | [], k, h => by simp at h
 | a :: L, 0, h => by
  simp at h; subst h
  rw [List.set_cons_zero, takS, takS, h1, h2]
 | a :: L, k + 1, h => by
  rw [List.set_cons_succ, takS, takS, takS_set h1 h2 p (by simpa using h)]
theorem pw_set {s t : Se} (h1 : t.nu = s.nu) : ∀ {L : List Se} {k : Nat}, L[k]? = some s → L.Pairwise (fun a b => a.nu < b.nu) → (L.set k t).Pairwise (fun a b => a.nu < b.nu)
 | [], k, h, _ => by simp at h
 | a :: L, 0, h, hp => by
  simp at h; subst h
  rw [List.set_cons_zero]
  refine List.pairwise_cons.2 ⟨fun b hb => ?_, (List.pairwise_cons.1 hp).2⟩
  rw [h1]; exact (List.pairwise_cons.1 hp).1 b hb
 | a :: L, k + 1, h, hp => by
  rw [List.set_cons_succ]
  have h' : L[k]? = some s := by simpa using h
  refine List.pairwise_cons.2 ⟨fun b hb => ?_, pw_set h1 h' (List.pairwise_cons.1 hp).2⟩
  rcases List.mem_or_eq_of_mem_set hb with hb | rfl
  · exact (List.pairwise_cons.1 hp).1 b hb
  · rw [h1]; exact (List.pairwise_cons.1 hp).1 s (List.mem_of_getElem? h')
theorem uch_more {L : List Se} {x l r now : Int} {k : Nat} {s : Se} {t : ByteArray} (h : uchE L x l r = 0) (hk : L[k]? = some s) (hn : 0 ≤ now ∧ now ≤ 1099511627776) (hsi : (s.tx.size : Int) + t.size ≤ s.si) : uchE (L.set k (moreS s t (now + l))) x l r = 0 := by
 obtain ⟨h1, h2, h3, h4⟩ := uch_zero h
 obtain ⟨_, ⟨hl1, hl2⟩, _, _⟩ := bnd_zero h1
 have hb : bndE (L.set k (moreS s t (now + l))).length x l r = 0 := by rw [List.length_set]; exact h1
 have hsm : s ∈ L := List.mem_of_getElem? hk
 have hse : sesE x (L.set k (moreS s t (now + l))) = 0 := ses_mem.2 fun g hg => by
  rcases List.mem_or_eq_of_mem_set hg with hg | rfl
  · exact ses_mem.1 h2 g hg
  · obtain ⟨k1, k2, k3, k4, k5⟩ := se_zero (ses_mem.1 h2 s hsm)
    have e1 : inR 1 (moreS s t (now + l)).nu (x - 1) = true := k1
    have e2 : inR 0 (moreS s t (now + l)).si 300 = true := k2
    have e3 : inR 0 (moreS s t (now + l)).ti 2199023255552 = true := inR_mk (by show 0 ≤ now + l; omega) (by show now + l ≤ 2199023255552; omega)
    have e4 : nameB (moreS s t (now + l)).wh.data.toList = true := k4
    rw [seE, e1, e2, e3, e4, if_pos (by decide), if_pos rfl, if_neg]
    show ¬ s.si < ((s.tx ++ t).size : Int)
    rw [ByteArray.size_append]
    omega
 have hr : risS (L.set k (moreS s t (now + l))) = true := (risS_pair _).2 (pw_set (s := s) (t := moreS s t (now + l)) rfl hk ((risS_pair _).1 h3))
 rw [uch_ro hb hse hr, ro_mem]
 intro g hg
 rw [takS_set (s := s) (t := moreS s t (now + l)) rfl rfl _ hk]
 rcases List.mem_or_eq_of_mem_set hg with hg | rfl
 · exact ro_mem.1 h4 g hg
 · exact ro_mem.1 h4 s hsm
end Pp
namespace Hu
theorem up_he {H : Hb} {U : Ur} (h : hE H = 0) (hu : U.e = 0 → Pp.uchE U.ss U.nx U.la U.ro = 0) : hE (upU H U) = 0 := by
 rw [upU, upH]
 split
 · rename_i h0
   obtain ⟨a, b, c, d, _⟩ := h_parts h
   exact h_make a b c d (hu h0)
 · exact h
theorem now_in {H : Hb} (h : hE H = 0) : 0 ≤ H.now ∧ H.now ≤ 1099511627776 := by have := (h_parts h).1; omega
theorem op_uch {H : Hb} {p : ByteArray} {n : Int} (h : hE H = 0) : (opU H p n).e = 0 → Pp.uchE (opU H p n).ss (opU H p n).nx (opU H p n).la (opU H p n).ro = 0 := by
 intro h0
 by_cases ho : Pp.opE H.ss H.nx H.la H.ro p n H.now = 0
 · rw [opU, if_pos ho]
   have hg : Pp.goE H.ss H.nx H.la H.ro H.now [p] = 0 := Decidable.byContradiction fun hn => by rw [Pp.opE, if_pos hn] at ho; exact hn ho
   rw [Pp.opE, if_neg (fun x => x hg)] at ho
   split at ho
   · cases ho
   · split at ho
     · cases ho
     · split at ho
       · cases ho
       · have := Pp.uch_open hg (size := n) (by omega) (by omega) (by omega) (by omega) (by omega)
         exact this
 · rw [opU, if_neg ho] at h0; exact absurd h0 ho
theorem ap_uch {H : Hb} {p : ByteArray} {n o : Int} {t : ByteArray} (h : hE H = 0) : (apU H p n o t).e = 0 → Pp.uchE (apU H p n o t).ss (apU H p n o t).nx (apU H p n o t).la (apU H p n o t).ro = 0 := by
 intro h0
 have hsw := Pp.uch_sw (h_parts h).2.2.2.2 H.now
 by_cases hf : Pp.fiE H.ss H.nx H.la H.ro p n H.now = 0
 · obtain ⟨hk, e1, e2⟩ := fi_at hf
   rw [apU, if_pos hf, e1] at h0 ⊢
   simp only [apK] at h0 ⊢
   by_cases he : Pp.enB ((Pp.swL H.now H.ss)[fiX H p n]).tx o t = true
   · rw [if_pos he]; exact hsw
   · rw [if_neg he] at h0 ⊢
     by_cases ho : o = ((((Pp.swL H.now H.ss)[fiX H p n]).tx.size : Nat) : Int)
     · rw [if_pos ho] at h0 ⊢
       by_cases hsi : ((Pp.swL H.now H.ss)[fiX H p n]).si < ((((Pp.swL H.now H.ss)[fiX H p n]).tx.size : Nat) : Int) + t.size
       · rw [if_pos hsi] at h0; cases h0
       · rw [if_neg hsi]
         exact Pp.uch_more hsw e1 (now_in h) (by omega)
     · rw [if_neg ho] at h0; cases h0
 · rw [apU, if_neg hf] at h0; exact absurd h0 hf
theorem fn_uch {H : Hb} {p : ByteArray} {n : Int} (h : hE H = 0) : (fnU H p n).e = 0 → Pp.uchE (fnU H p n).ss (fnU H p n).nx (fnU H p n).la (fnU H p n).ro = 0 := by
 intro h0
 have hsw := Pp.uch_sw (h_parts h).2.2.2.2 H.now
 by_cases hf : quE H p n = 0
 · obtain ⟨hk, e1, e2⟩ := fi_at hf
   rw [fnU, if_pos hf, e1] at h0 ⊢
   simp only at h0 ⊢
   split at h0
   · cases h0
   · rename_i hsi
     rw [if_neg hsi]
     refine Pp.uch_sub hsw ?_
     have : (Pp.swL H.now H.ss).take (fiX H p n) ++ (Pp.swL H.now H.ss).drop (fiX H p n + 1) = (Pp.swL H.now H.ss).eraseIdx (fiX H p n) := (List.eraseIdx_eq_take_drop_succ ..).symm
     rw [this]
     exact List.eraseIdx_sublist ..
 · rw [fnU, if_neg hf] at h0; exact absurd h0 hf
theorem sw_sized {H : Hb} (hs : SizedH H) : SizedS (Pp.swL H.now H.ss) := fun g hg => hs.ss g (List.mem_filter.1 hg).1
theorem op_sized {H : Hb} {p : ByteArray} {n : Int} (hs : SizedH H) (hp : p.size ≤ 150000000000000) : SizedS (opU H p n).ss := by
 rw [opU]
 split
 · intro g hg
   rcases List.mem_append.1 hg with hg | hg
   · exact sw_sized hs g hg
   · obtain rfl := List.mem_singleton.1 hg
     exact ⟨hp, by show (0 : Nat) ≤ _; omega⟩
 · intro g hg; cases hg
theorem ap_sized {H : Hb} {p : ByteArray} {n o : Int} {t : ByteArray} (h : hE H = 0) (hs : SizedH H) : SizedS (apU H p n o t).ss := by
 rw [apU]
 split
 · rename_i hf
   obtain ⟨hk, e1, e2⟩ := fi_at hf
   rw [e1]
   simp only [apK]
   split
   · exact sw_sized hs
   · split
     · split
       · intro g hg; cases hg
       · intro g hg
         rename_i hsi
         rcases List.mem_or_eq_of_mem_set hg with hg | rfl
         · exact sw_sized hs g hg
         · have hm := List.getElem_mem hk
           refine ⟨(sw_sized hs _ hm).1, ?_⟩
           show (((Pp.swL H.now H.ss)[fiX H p n]).tx ++ t).size ≤ _
           rw [ByteArray.size_append]
           have := (Pp.ses_si (Pp.uch_zero (Pp.uch_sw (h_parts h).2.2.2.2 H.now)).2.1 _ hm).2
           omega
     · intro g hg; cases hg
 · intro g hg; cases hg
theorem fn_sized {H : Hb} {p : ByteArray} {n : Int} (hs : SizedH H) : SizedS (fnU H p n).ss := by
 rw [fnU]
 split
 · rename_i hf
   obtain ⟨hk, e1, e2⟩ := fi_at hf
   rw [e1]
   simp only
   split
   · intro g hg; cases hg
   · intro g hg
     rcases List.mem_append.1 hg with hg | hg
     · exact sw_sized hs g (List.mem_of_mem_take hg)
     · exact sw_sized hs g (List.mem_of_mem_drop hg)
 · intro g hg; cases hg
end Hu
end Go.Proofs.YtchlgpeiombmdaaGreat
set_option linter.unusedSimpArgs false
set_option linter.unusedVariables false
namespace Go.Proofs.YtchlgpeiombmdaaGreat.Pp

theorem tl_eq {a b : ByteArray} (h : (a.toList == b.toList) = true) : a.toList = b.toList := by simpa using h
theorem ofW_iff {f m : ByteArray} {e : Gr} : ofW f m e = true ↔ e.fo.toList = f.toList ∧ e.wh.toList = m.toList := by simp [ofW]
theorem oth_ofW {x e : Gr} (h : ofW x.fo x.wh e = false) : othG x e = true := by
 cases h1 : (e.fo.toList == x.fo.toList) with
 | false => exact oth_fo h1
 | true =>
  have h2 : (e.wh.toList == x.wh.toList) = false := by rw [ofW, h1] at h; simpa using h
  rcases tri e.fo x.fo with ⟨t1, t2, t3, t4⟩ | ⟨t1, t2, t3, t4⟩ | ⟨t1, t2, t3, t4⟩
  · rw [h1] at t3; cases t3
  · exact oth_wh t1 t3 h2
  · rw [h1] at t3; cases t3
theorem pg_mem {x y : Gr} {G : List Gr} (h : y ∈ pgN x G) : (y = x ∧ ¬ x.ri = 0) ∨ (y ∈ G ∧ othG x y = true) := by
 by_cases h0 : x.ri = 0
 · rw [pgN_no h0] at h; exact Or.inr (List.mem_filter.1 h)
 · rw [pgN_yes h0] at h
   rcases List.mem_cons.1 ((insG_perm x _).mem_iff.1 h) with h | h
   · exact Or.inl ⟨h, h0⟩
   · exact Or.inr (List.mem_filter.1 h)
theorem pg_in {x y : Gr} {G : List Gr} (h : y ∈ G) (ho : othG x y = true) : y ∈ pgN x G := by
 have h1 : y ∈ outG x G := List.mem_filter.2 ⟨h, ho⟩
 by_cases h0 : x.ri = 0
 · rw [pgN_no h0]; exact h1
 · rw [pgN_yes h0]; exact (insG_perm x _).mem_iff.2 (List.mem_cons_of_mem _ h1)
theorem pg_self {x : Gr} {G : List Gr} (h0 : ¬ x.ri = 0) : x ∈ pgN x G := by
 rw [pgN_yes h0]; exact (insG_perm x _).mem_iff.2 (List.mem_cons_self ..)
theorem grs_mem {G : List Gr} : grsE G = 0 ↔ ∀ g ∈ G, grE g = 0 := by
 induction G with
 | nil => simp [grsE]
 | cons g r ih =>
  rw [grsE]
  by_cases h : grE g = 0
  · rw [if_pos h, ih]; simp [h]
  · rw [if_neg h]; simp [h]
theorem owns_mem {G : List Gr} : ownsE G = 0 ↔ ∀ g ∈ G, G.any (ownF g.fo) = true := by
 rw [ownsE]
 constructor
 · intro h
   split at h
   · rename_i h1; exact fun g hg => List.all_eq_true.1 h1 g hg
   · cases h
 · intro h
   rw [if_pos (List.all_eq_true.2 h)]
/-- What Give leaves passes Check. -/
theorem gch_pg {G : List Gr} {f m : ByteArray} {r : Int} (h0 : gchE G = 0) (hf : nameB f.data.toList = true) (hm : nameB m.data.toList = true) (h1 : 0 ≤ r) (h3 : r ≤ 3) (ha : (pgN ⟨f, m, r⟩ G).any (ownF f) = true) (hl : (pgN ⟨f, m, r⟩ G).length ≤ 60) : gchE (pgN ⟨f, m, r⟩ G) = 0 := by
 obtain ⟨_, hg, hris, hown⟩ := gch0 h0
 have hG := (risG_pair G).1 hris
 have hris2 : risG (pgN ⟨f, m, r⟩ G) = true := by
  rw [risG_pair]
  have hF : (outG ⟨f, m, r⟩ G).Pairwise (fun x y => ltG x y = true) := List.Pairwise.filter _ hG
  by_cases hr : r = 0
  · rw [pgN_no hr]; exact hF
  · rw [pgN_yes hr]; exact insG_sorted _ hF fun y hy => (List.mem_filter.1 hy).2
 have hg2 : grsE (pgN ⟨f, m, r⟩ G) = 0 := by
  rw [grs_mem]
  intro g hgm
  rcases pg_mem hgm with ⟨rfl, hr⟩ | ⟨hgm, _⟩
  · have hr' : ¬ r = 0 := hr
    have : nm2 ⟨f, m, r⟩ = true := by simp [nm2, hf, hm]
    rw [grE, if_pos this, if_neg]
    show ¬ (r < 1 ∨ 3 < r)
    omega
  · exact grs_mem.1 hg g hgm
 rw [gch_own (by omega) hg2 hris2, owns_mem]
 intro g hgm
 cases hfo : (g.fo.toList == f.toList) with
 | true =>
  have e := tl_eq hfo
  rw [List.any_eq_true] at ha ⊢
  obtain ⟨y, hy, hy2⟩ := ha
  refine ⟨y, hy, ?_⟩
  rw [ownF] at hy2 ⊢; rw [e]; exact hy2
 | false =>
  rcases pg_mem hgm with ⟨rfl, _⟩ | ⟨hgm, _⟩
  · simp at hfo
  · have := owns_mem.1 hown g hgm
    rw [List.any_eq_true] at this ⊢
    obtain ⟨y, hy, hy2⟩ := this
    refine ⟨y, pg_in hy (oth_fo ?_), hy2⟩
    have h4 : y.fo.toList = g.fo.toList := by rw [ownF] at hy2; simp at hy2; exact hy2.1
    show (y.fo.toList == f.toList) = false
    rw [h4]; exact hfo
end Go.Proofs.YtchlgpeiombmdaaGreat.Pp
set_option linter.unusedSimpArgs false
set_option linter.unusedVariables false
namespace Go.Proofs.YtchlgpeiombmdaaGreat
open Go.RowKit

namespace Hu
theorem isB_iff (L : List Sh) (x : ByteArray) : isB L x = true ↔ ∃ s ∈ L, s.na.data.toList = x.data.toList := by
 rw [isB, List.any_eq_true]
 constructor
 · rintro ⟨s, hs, h⟩
   exact ⟨s, hs, Pp.cmp_zero _ _ (of_decide_eq_true h)⟩
 · rintro ⟨s, hs, h⟩
   refine ⟨s, hs, decide_eq_true ?_⟩
   rw [cm, h]; exact Pp.cmp_self _
theorem ris_ne {L : List Sh} (hr : risB L = true) : L.Pairwise (fun a b => a.na.data.toList ≠ b.na.data.toList) := by
 rw [List.pairwise_iff_getElem]
 intro i j hi hj hij he
 obtain ⟨d, rfl⟩ : ∃ d, j = i + d + 1 := ⟨j - i - 1, by omega⟩
 have h := ris_lt hr d i hj
 rw [he, Pp.cmp_self] at h
 omega
theorem cnt_none {L : List Sh} {x : List UInt8} (h : ∀ s ∈ L, s.na.data.toList ≠ x) : L.filter (fun s => s.na.data.toList == x) = [] := by
 rw [List.filter_eq_nil_iff]
 intro s hs he
 exact h s hs (by simpa using he)
theorem cnt_one : ∀ {L : List Sh} {x : List UInt8}, L.Pairwise (fun a b => a.na.data.toList ≠ b.na.data.toList) → (∃ s ∈ L, s.na.data.toList = x) → (L.filter (fun s => s.na.data.toList == x)).length = 1
 | [], x, _, h => by obtain ⟨s, hs, _⟩ := h; cases hs
 | s :: r, x, hp, h => by
  rw [List.pairwise_cons] at hp
  by_cases e : s.na.data.toList = x
  · rw [List.filter_cons_of_pos (by simpa using e), cnt_none (fun t ht he => hp.1 t ht (by rw [e, he]))]
    rfl
  · rw [List.filter_cons_of_neg (by simpa using e)]
    refine cnt_one hp.2 ?_
    obtain ⟨t, ht, hx⟩ := h
    rcases List.mem_cons.1 ht with rfl | ht
    · exact absurd hx e
    · exact ⟨t, ht, hx⟩
theorem cnt_or {α : Type} (p q : α → Bool) : ∀ (L : List α), (∀ s ∈ L, q s = true → p s = false) → (L.filter (fun s => p s || q s)).length = (L.filter p).length + (L.filter q).length
 | [], _ => rfl
 | s :: r, h => by
  have ih := cnt_or p q r (fun t ht => h t (List.mem_cons_of_mem _ ht))
  cases hq : q s with
  | true =>
   have hp := h s (List.mem_cons_self ..) hq
   rw [List.filter_cons_of_pos (by simp [hq]), List.filter_cons_of_neg (by simp [hp]), List.filter_cons_of_pos hq, List.length_cons, List.length_cons, ih]
   omega
  | false =>
   cases hp : p s with
   | true => rw [List.filter_cons_of_pos (by simp [hp]), List.filter_cons_of_pos hp, List.filter_cons_of_neg (by simp [hq]), List.length_cons, List.length_cons, ih]; omega
   | false => rw [List.filter_cons_of_neg (by simp [hp, hq]), List.filter_cons_of_neg (by simp [hp]), List.filter_cons_of_neg (by simp [hq]), ih]
theorem inG_snoc (G : List Gr) (g : Gr) (x : ByteArray) : inG (G ++ [g]) x = (inG G x || (x.data.toList == g.fo.data.toList)) := by
 rw [inG_any, inG_any, List.any_append]
 simp only [List.any_cons, List.any_nil, Bool.or_false]
 congr 1
 exact Bool.eq_iff_iff.2 ⟨fun h => by rw [beq_iff_eq] at h ⊢; exact h.symm, fun h => by rw [beq_iff_eq] at h ⊢; exact h.symm⟩
theorem size_told {L : List Sh} (hr : risB L = true) : ∀ G : List Gr, (∀ g ∈ G, isB L g.fo = true) → Maps.size (Jn.D (told L G)) = (L.filter (fun s => inG G s.na)).length := by
 intro G
 refine Jn.snoc_ind (P := fun G => (∀ g ∈ G, isB L g.fo = true) → Maps.size (Jn.D (told L G)) = (L.filter (fun s => inG G s.na)).length) ?_ ?_ G
 · intro _
   have : L.filter (fun s => inG [] s.na) = [] := List.filter_eq_nil_iff.2 (fun s _ h => by rw [inG_any] at h; cases h)
   rw [this]; rfl
 · intro G g ih ha
   have ih := ih (fun x hx => ha x (List.mem_append_left _ hx))
   have e : told L (G ++ [g]) = told L G ++ [⟨plc L g.fo, g.fo, []⟩] := by unfold told; simp
   rw [e, Jn.D_snoc, Maps.size_put (Jn.D_tidy _), Jn.D_has]
   have ef : (fun s : Sh => inG (G ++ [g]) s.na) = (fun s : Sh => inG G s.na || (s.na.data.toList == g.fo.data.toList)) := funext fun s => inG_snoc G g s.na
   rw [ef, inG_eq]
   have same : ∀ s : Sh, s.na.data.toList = g.fo.data.toList → inG G s.na = inG G g.fo := fun s hs => by rw [inG_any, inG_any, hs]
   cases hb : inG G g.fo with
   | true =>
    rw [if_pos rfl, ih]
    have : (fun s : Sh => inG G s.na || (s.na.data.toList == g.fo.data.toList)) = (fun s : Sh => inG G s.na) := funext fun s => by
     by_cases hs : s.na.data.toList = g.fo.data.toList
     · rw [same s hs, hb]; rfl
     · rw [show (s.na.data.toList == g.fo.data.toList) = false from by simpa using hs, Bool.or_false]
    rw [this]
   | false =>
    rw [if_neg (by simp), ih, cnt_or (fun s : Sh => inG G s.na) (fun s : Sh => s.na.data.toList == g.fo.data.toList) L (fun s _ hs => by rw [same s (by simpa using hs)]; exact hb), cnt_one (ris_ne hr) ((isB_iff L g.fo).1 (ha g (by simp)))]
theorem tel_told {L : List Sh} {G : List Gr} (hr : risB L = true) (ha : ∀ g ∈ G, isB L g.fo = true) (h : ∀ s ∈ L, inG G s.na = true) : telE L G = 0 := by
 rw [telE, if_pos (List.all_eq_true.2 ha), size_told hr G ha, List.filter_eq_self.2 h, if_neg (Nat.lt_irrefl _)]
theorem tel_not {L : List Sh} {G : List Gr} (hr : risB L = true) (ha : ∀ g ∈ G, isB L g.fo = true) {s : Sh} (hs : s ∈ L) (h : inG G s.na = false) : telE L G = 5 := by
 have hlt : (L.filter (fun s => inG G s.na)).length < L.length := by
  rcases Nat.lt_or_ge (L.filter (fun s => inG G s.na)).length L.length with h1 | h1
  · exact h1
  · have e : L.filter (fun s => inG G s.na) = L := (List.filter_sublist).eq_of_length_le h1
    have := List.filter_eq_self.1 e s hs
    rw [h] at this; cases this
 rw [telE, if_pos (List.all_eq_true.2 ha), size_told hr G ha, if_pos hlt]
/-- Of a hub that is right: a folder is there just if it is told of. -/
theorem told_is {H : Hb} (h : hE H = 0) (x : ByteArray) : inG H.gs x = isB H.fos x := by
 obtain ⟨_, h1, _, h3, _⟩ := h_parts h
 cases hb : isB H.fos x with
 | false =>
  cases hi : inG H.gs x with
  | false => rfl
  | true => rw [tel_is h3 hi] at hb; cases hb
 | true =>
  have ha : ∀ g ∈ H.gs, isB H.fos g.fo = true := fun g hg => tel_is h3 (by rw [inG_any, List.any_eq_true]; exact ⟨g, hg, by simp⟩)
  obtain ⟨s, hs, he⟩ := (isB_iff _ _).1 hb
  cases hi : inG H.gs s.na with
  | false => rw [tel_not (cf_parts h1).2.2 ha hs hi] at h3; cases h3
  | true => rw [inG_any] at hi ⊢; rw [← he]; exact hi
end Hu

end Go.Proofs.YtchlgpeiombmdaaGreat
set_option linter.unusedSimpArgs false
set_option linter.unusedVariables false
namespace Go.Proofs.YtchlgpeiombmdaaGreat
open Go.RowKit
namespace Hu
theorem inG_iff (G : List Gr) (x : ByteArray) : inG G x = true ↔ ∃ g ∈ G, g.fo.data.toList = x.data.toList := by
 rw [inG, has_told]; simp
theorem gi_parts {G : List Gr} {f b m : ByteArray} {r : Int} (h : Pp.gchE G = 0) (h0 : Pp.giE G f b m r = 0) : Pp.nmsE [f, b, m] = 0 ∧ 0 ≤ r ∧ r ≤ 3 ∧ (Pp.pgN ⟨f, m, r⟩ G).any (Pp.ownF f) = true ∧ (Pp.pgN ⟨f, m, r⟩ G).length ≤ 60 := by
 rw [Pp.giE, if_pos h] at h0
 rcases Pp.gv_cases G f b m r with ⟨_, e⟩ | ⟨_, _, e⟩ | ⟨_, _, _, e⟩ | ⟨_, _, _, n, e⟩ | ⟨_, _, _, _, _, e⟩ | ⟨_, _, _, _, _, _, e⟩ | ⟨a, c, d, _, f', g, _⟩
 · rw [h0] at e; cases e
 · rw [h0] at e; cases e
 · rw [h0] at e; cases e
 · rw [h0] at e; exact absurd e.symm n
 · rw [h0] at e; cases e
 · rw [h0] at e; cases e
 · exact ⟨a, c, d, f', g⟩
theorem gi_tel {H : Hb} {f m : ByteArray} {r : Int} (h : hE H = 0) (hin : inG H.gs f = true) (ha : (Pp.pgN ⟨f, m, r⟩ H.gs).any (Pp.ownF f) = true) : telE H.fos (Pp.pgN ⟨f, m, r⟩ H.gs) = 0 := by
 obtain ⟨_, h1, h2, h3, _⟩ := h_parts h
 have hr := (cf_parts h1).2.2
 refine tel_told hr ?_ ?_
 · intro g hg
   rcases Pp.pg_mem hg with ⟨rfl, _⟩ | ⟨hg, _⟩
   · exact tel_is h3 hin
   · exact tel_is h3 ((inG_iff _ _).2 ⟨g, hg, rfl⟩)
 · intro s hs
   have hs' : inG H.gs s.na = true := by
    rw [told_is h]; exact (isB_iff _ _).2 ⟨s, hs, rfl⟩
   obtain ⟨g, hg, e⟩ := (inG_iff _ _).1 hs'
   by_cases hf : g.fo.data.toList = f.data.toList
   · obtain ⟨k, hk, hk2⟩ := List.any_eq_true.1 ha
     refine (inG_iff _ _).2 ⟨k, hk, ?_⟩
     have : k.fo.toList = f.toList := by simp [Pp.ownF] at hk2; exact hk2.1
     rw [← e, hf, ← Lib.toList_data, ← Lib.toList_data, this]
   · refine (inG_iff _ _).2 ⟨g, Pp.pg_in hg (Pp.oth_ofW ?_), e⟩
     cases ho : Pp.ofW (⟨f, m, r⟩ : Gr).fo (⟨f, m, r⟩ : Gr).wh g with
     | false => rfl
     | true =>
      have := (Pp.ofW_iff.1 ho).1
      exact absurd (by rw [← Lib.toList_data, ← Lib.toList_data]; exact this) hf
theorem nm_3 {f b m : ByteArray} (h : Pp.nmsE [f, b, m] = 0) : Pp.nameB f.data.toList = true ∧ Pp.nameB b.data.toList = true ∧ Pp.nameB m.data.toList = true := by
 unfold Pp.nmsE at h
 split at h
 · rename_i h1; simpa [and_assoc] using h1
 · cases h
/-- A hub that passes Check passes it behind any request that gives a right. -/
theorem gi_he {H : Hb} {f b m : ByteArray} {r : Int} (h : hE H = 0) (hin : inG H.gs f = true) : hE (gsH H (Pp.giE H.gs f b m r) (Pp.giL H.gs f b m r)) = 0 := by
 rw [gsH]
 split
 · rename_i h0
   obtain ⟨a0, a1, a2, a3, a4⟩ := h_parts h
   obtain ⟨n, r0, r3, ho, hl⟩ := gi_parts a2 h0
   obtain ⟨nf, nb, nm⟩ := nm_3 n
   rw [Pp.giL_yes h0]
   exact h_make a0 a1 (Pp.gch_pg a2 nf nm r0 r3 ho hl) (gi_tel h hin ho) a4
 · exact h
theorem gi_sized {H : Hb} {f b m : ByteArray} {r : Int} (hs : SizedH H) (hf : f.size ≤ 150000000000000) (hm : m.size ≤ 150000000000000) : SizedH (gsH H (Pp.giE H.gs f b m r) (Pp.giL H.gs f b m r)) := by
 rw [gsH]
 split
 · rename_i h0
   rw [Pp.giL_yes h0]
   refine ⟨hs.fos, ?_, hs.ss⟩
   intro g hg
   rcases Pp.pg_mem hg with ⟨rfl, _⟩ | ⟨hg, _⟩
   · exact ⟨hf, hm⟩
   · exact hs.gs g hg
 · exact hs
end Hu
end Go.Proofs.YtchlgpeiombmdaaGreat
set_option linter.unusedSimpArgs false
set_option linter.unusedVariables false
namespace Go.Proofs.YtchlgpeiombmdaaGreat
open Go.RowKit
namespace Hu
def ltP (a b : Sh) : Prop := Lib.compareBytes a.na.data.toList b.na.data.toList < 0
theorem ris_pw {L : List Sh} (h : risB L = true) : L.Pairwise ltP := by
 rw [List.pairwise_iff_getElem]
 intro i j hi hj hij
 obtain ⟨d, rfl⟩ : ∃ d, j = i + d + 1 := ⟨j - i - 1, by omega⟩
 exact ris_lt h d i hj
theorem pw_ris {L : List Sh} (h : L.Pairwise ltP) : risB L = true := by
 rw [ris_iff]
 intro i hi
 rw [lt_cm]
 exact decide_eq_true (List.pairwise_iff_getElem.1 h i (i + 1) (by omega) hi (by omega))
theorem plc_cons (a : Sh) (r : List Sh) (x : ByteArray) : plc (a :: r) x = if 0 ≤ cm a x then 0 else plc r x + 1 := by
 unfold plc
 rw [List.findIdx_cons]
 by_cases h : 0 ≤ cm a x
 · simp [h]
 · simp [h]
theorem ins_pw {x : ByteArray} {s : Sh} (hs : s.na.data.toList = x.data.toList) : ∀ {L : List Sh}, L.Pairwise ltP → isB L x = false → (L.take (plc L x) ++ s :: L.drop (plc L x)).Pairwise ltP
 | [], _, _ => by simp
 | a :: r, hp, hn => by
  obtain ⟨h1, h2⟩ := List.pairwise_cons.1 hp
  have hn1 : ¬ cm a x = 0 := fun e => by rw [isB, List.any_cons, decide_eq_true e] at hn; cases hn
  have hn2 : isB r x = false := by
   rw [isB, List.any_cons, Bool.or_eq_false_iff] at hn; exact hn.2
  rw [plc_cons]
  by_cases h : 0 ≤ cm a x
  · rw [if_pos h]
    have ha : ltP s a := by
     show Lib.compareBytes s.na.data.toList a.na.data.toList < 0
     rw [hs, Pp.cmp_anti a.na.data.toList x.data.toList]
     have : cm a x = Lib.compareBytes a.na.data.toList x.data.toList := rfl
     omega
    show (s :: a :: r).Pairwise ltP
    refine List.pairwise_cons.2 ⟨?_, hp⟩
    intro b hb
    rcases List.mem_cons.1 hb with rfl | hb
    · exact ha
    · exact Pp.cmp_trans _ _ _ ha (h1 b hb)
  · rw [if_neg h]
    show (a :: (r.take (plc r x) ++ s :: r.drop (plc r x))).Pairwise ltP
    refine List.pairwise_cons.2 ⟨?_, ins_pw hs h2 hn2⟩
    intro b hb
    rcases List.mem_append.1 hb with hb | hb
    · exact h1 b (List.mem_of_mem_take hb)
    · rcases List.mem_cons.1 hb with rfl | hb
      · show Lib.compareBytes a.na.data.toList b.na.data.toList < 0
        rw [hs]
        have : cm a x = Lib.compareBytes a.na.data.toList x.data.toList := rfl
        omega
      · exact h1 b (List.mem_of_mem_drop hb)
theorem ins_mem {L : List Sh} {s t : Sh} {p : Nat} : t ∈ L.take p ++ s :: L.drop p ↔ t = s ∨ t ∈ L := by
 have : t ∈ L ↔ t ∈ L.take p ++ L.drop p := by rw [List.take_append_drop]
 rw [this]; simp only [List.mem_append, List.mem_cons]
 constructor
 · rintro (h | h | h)
   · exact Or.inr (Or.inl h)
   · exact Or.inl h
   · exact Or.inr (Or.inr h)
 · rintro (h | h | h)
   · exact Or.inr (Or.inl h)
   · exact Or.inl h
   · exact Or.inr (Or.inr h)
theorem nm_2 {f m : ByteArray} (h : Pp.nmsE [f, m] = 0) : Pp.nameB f.data.toList = true ∧ Pp.nameB m.data.toList = true := by
 unfold Pp.nmsE at h
 split at h
 · rename_i h1; simpa using h1
 · cases h
theorem ma_parts {G : List Gr} {f m : ByteArray} (h : Pp.gchE G = 0) (h0 : Pp.maE G f m = 0) : Pp.nmsE [f, m] = 0 ∧ G.any (Pp.inF f) = false ∧ G.length < 60 := by
 rw [Pp.maE, if_pos h] at h0
 rcases Pp.mk_cases G f m with ⟨_, e⟩ | ⟨_, _, e⟩ | ⟨_, _, _, e⟩ | ⟨a, b, c, _⟩
 · rw [h0] at e; cases e
 · rw [h0] at e; cases e
 · rw [h0] at e; cases e
 · exact ⟨a, b, c⟩
/-- A hub that passes Check passes it behind any request that makes a folder. -/
theorem mk_he {H : Hb} {f m : ByteArray} (h : hE H = 0) : hE (mkH H f m) = 0 := by
 by_cases hk : mkE H f m = 0
 · obtain ⟨a0, a1, a2, a3, a4⟩ := h_parts h
   obtain ⟨c1, c2, c3⟩ := cf_parts a1
   have hma : Pp.maE H.gs f m = 0 := by
    by_cases e : Pp.maE H.gs f m = 0
    · exact e
    · rw [(mk_bad e).1] at hk; exact absurd hk e
   have h8 : ¬ 8 ≤ H.fos.length := fun e => by rw [(mk_many hma e).1] at hk; cases hk
   obtain ⟨n, hany, h60⟩ := ma_parts a2 hma
   obtain ⟨nf, nm⟩ := nm_2 n
   have hout : ∀ g ∈ H.gs, ¬ g.fo.data.toList = f.data.toList := fun g hg e => by
    have := List.any_eq_false.1 hany g hg
    apply this
    simp only [Pp.inF, Lib.toList_data, e, beq_self_eq_true]
   have hin : inG H.gs f = false := by
    cases e : inG H.gs f with
    | false => rfl
    | true => obtain ⟨g, hg, e⟩ := (inG_iff _ _).1 e; exact absurd e (hout g hg)
   have hisb : isB H.fos f = false := by rw [← told_is h]; exact hin
   have hself : (⟨f, m, 3⟩ : Gr) ∈ Pp.pgN ⟨f, m, 3⟩ H.gs := Pp.pg_self (show ¬ (3 : Int) = 0 by decide)
   have hr := pw_ris (ins_pw (x := f) (s := ⟨f, ⟨[], 1, []⟩⟩) rfl (ris_pw c3) hisb)
   rw [(mk_ok hma h8).2, Pp.maL_yes hma]
   refine h_make a0 (cf_make ?_ (shs_iff.2 ?_) hr) (Pp.gch_pg (G := H.gs) (f := f) (m := m) (r := 3) a2 nf nm (by decide) (by decide) ?_ (by rw [Pp.pg_new hany]; omega)) (tel_told (G := Pp.pgN ⟨f, m, 3⟩ H.gs) hr ?_ ?_) a4
   · show (H.fos.take _ ++ _ :: H.fos.drop _).length ≤ 8
     have hl : (H.fos.take (plc H.fos f)).length + (H.fos.drop (plc H.fos f)).length = H.fos.length := by rw [← List.length_append, List.take_append_drop]
     rw [List.length_append, List.length_cons]; omega
   · intro s hs
     rcases ins_mem.1 hs with rfl | hs
     · show (if ¬ Pp.nmsE [f] = 0 then _ else Jn.chkE ⟨[], 1, []⟩) = 0
       have : Pp.nmsE [f] = 0 := by rw [Pp.nmsE, if_pos (by simp [nf])]
       rw [if_neg (fun x => x this)]; decide
     · exact shs_iff.1 c2 s hs
   · exact List.any_eq_true.2 ⟨_, hself, by simp [Pp.ownF]⟩
   · intro g hg
     rcases Pp.pg_mem hg with ⟨rfl, _⟩ | ⟨hg, _⟩
     · exact (isB_iff _ _).2 ⟨_, ins_mem.2 (Or.inl rfl), rfl⟩
     · obtain ⟨s, hs, e⟩ := (isB_iff _ _).1 (tel_is a3 ((inG_iff _ _).2 ⟨g, hg, rfl⟩))
       exact (isB_iff _ _).2 ⟨s, ins_mem.2 (Or.inr hs), e⟩
   · intro s hs
     rcases ins_mem.1 hs with rfl | hs
     · exact (inG_iff _ _).2 ⟨_, hself, rfl⟩
     · have hs' : inG H.gs s.na = true := by
        rw [told_is h]; exact (isB_iff _ _).2 ⟨s, hs, rfl⟩
       obtain ⟨g, hg, e⟩ := (inG_iff _ _).1 hs'
       refine (inG_iff _ _).2 ⟨g, Pp.pg_in hg (Pp.oth_ofW ?_), e⟩
       cases ho : Pp.ofW (⟨f, m, 3⟩ : Gr).fo (⟨f, m, 3⟩ : Gr).wh g with
       | false => rfl
       | true =>
        have := (Pp.ofW_iff.1 ho).1
        exact absurd (by rw [← Lib.toList_data, ← Lib.toList_data]; exact this) (hout g hg)
 · have e : mkH H f m = H := by rw [mkH, if_neg hk]
   rw [e]; exact h
theorem mk_sized {H : Hb} {f m : ByteArray} (hs : SizedH H) (hf : f.size ≤ 150000000000000) (hm : m.size ≤ 150000000000000) : SizedH (mkH H f m) := by
 by_cases hk : mkE H f m = 0
 · have hma : Pp.maE H.gs f m = 0 := by
    by_cases e : Pp.maE H.gs f m = 0
    · exact e
    · rw [(mk_bad e).1] at hk; exact absurd hk e
   have h8 : ¬ 8 ≤ H.fos.length := fun e => by rw [(mk_many hma e).1] at hk; cases hk
   rw [(mk_ok hma h8).2, Pp.maL_yes hma]
   refine ⟨?_, ?_, hs.ss⟩
   · intro s h
     rcases ins_mem.1 h with rfl | h
     · exact ⟨hf, by intro e he; simp at he, by intro c hc; simp at hc⟩
     · exact hs.fos s h
   · intro g hg
     rcases Pp.pg_mem (x := ⟨f, m, 3⟩) (G := H.gs) hg with ⟨rfl, _⟩ | ⟨hg, _⟩
     · exact ⟨hf, hm⟩
     · exact hs.gs g hg
 · have e : mkH H f m = H := by rw [mkH, if_neg hk]
   rw [e]; exact hs
end Hu
end Go.Proofs.YtchlgpeiombmdaaGreat
set_option linter.unusedSimpArgs false
set_option linter.unusedVariables false
namespace Go.Proofs.YtchlgpeiombmdaaGreat
open Go.RowKit
namespace Hu
theorem ck_in {H : Hb} {q : Rq} (hck : ckE H.gs q = 0) (hk : q.kind = 1 ∨ q.kind = 2 ∨ q.kind = 3 ∨ q.kind = 7) : inG H.gs q.fo = true := by
 refine rig_in (h := q.who) ?_
 have h := (ck_parts hck).2.2.2
 have e1 : lst 1 = 2 := rfl
 have e2 : lst 2 = 1 := rfl
 have e3 : lst 3 = 1 := rfl
 have e7 : lst 7 = 2 := rfl
 rcases hk with hk | hk | hk | hk <;> rw [hk] at h <;> omega
theorem ck_at {H : Hb} {q : Rq} (h : hE H = 0) (hck : ckE H.gs q = 0) (hk : q.kind = 1 ∨ q.kind = 2 ∨ q.kind = 3 ∨ q.kind = 7) : whr H.fos H.gs q.fo < H.fos.length := (whr_at h (ck_in hck hk)).elim (fun h _ => h)
theorem cm_he {H : Hb} {i : Nat} {key : ByteArray} {l : List Pp.Ch} (h : hE H = 0) (hi : i < H.fos.length) : hE (cmH H i key l) = 0 := by
 by_cases h0 : cmE H i key l = 0
 · exact (cm_again h hi h0 l).1
 · rw [cmH, if_neg h0]; exact h
theorem cm_sz {H : Hb} {i : Nat} {key : ByteArray} {l : List Pp.Ch} (hs : SizedH H) (hi : i < H.fos.length) (hk : key.size ≤ 150000000000000) (hl : SizedC 150000000000000 l) : SizedH (cmH H i key l) := by
 by_cases h0 : cmE H i key l = 0
 · exact cm_sized hs hi h0 hk hl
 · rw [cmH, if_neg h0]; exact hs
theorem up_sized {H : Hb} {U : Ur} (hs : SizedH H) (hu : SizedS U.ss) : SizedH (upU H U) := by
 rw [upU, upH]
 split
 · exact ⟨hs.fos, hs.gs, hu⟩
 · exact hs
theorem fn_he {H : Hb} {q : Rq} (h : hE H = 0) (hi : whr H.fos H.gs q.fo < H.fos.length) : hE (fnH H q (fnU H q.who q.num)) = 0 := by
 rw [fnH]
 split
 · rename_i h0
   have hc := cm_he (key := q.key) (l := fnC q (fnU H q.who q.num).tx) h hi
   exact up_he (U := ⟨cmE H (whr H.fos H.gs q.fo) q.key (fnC q (fnU H q.who q.num).tx), (fnU H q.who q.num).ss, (fnU H q.who q.num).nx, (fnU H q.who q.num).la, (fnU H q.who q.num).ro, 0⟩) hc (fun _ => fn_uch h h0)
 · exact h
theorem fn_c {q : Rq} {tx : ByteArray} (hq : SizedQ q) (ht : tx.size ≤ 150000000000000) : SizedC 150000000000000 (fnC q tx) := fun x hx => by
 obtain rfl := List.mem_singleton.1 hx
 exact ⟨hq.name, by show (0 : Nat) ≤ _; omega, ht⟩
theorem fn_sz {H : Hb} {q : Rq} (hs : SizedH H) (hq : SizedQ q) (hi : whr H.fos H.gs q.fo < H.fos.length) : SizedH (fnH H q (fnU H q.who q.num)) := by
 rw [fnH]
 split
 · exact up_sized (U := ⟨cmE H (whr H.fos H.gs q.fo) q.key (fnC q (fnU H q.who q.num).tx), (fnU H q.who q.num).ss, (fnU H q.who q.num).nx, (fnU H q.who q.num).la, (fnU H q.who q.num).ro, 0⟩) (cm_sz hs hi hq.key (fn_c hq (fn_tx hs.ss _ _))) (fn_sized hs)
 · exact hs
theorem sv_he {H : Hb} {q : Rq} (h : hE H = 0) : hE (svH H q) = 0 := by
 rw [svH]
 split
 · rename_i hck
   obtain ⟨k1, k2, _⟩ := ck_parts hck
   rcases kinds k1 k2 with hk | hk | hk | hk | hk | hk | hk | hk
   · rw [(sk_1 hk).1]; exact cm_he h (ck_at h hck (by omega))
   · rw [(sk_2 hk).1]; exact h
   · rw [(sk_3 hk).1]; exact gi_he h (ck_in hck (by omega))
   · rw [(sk_4 hk).1]; exact up_he h (op_uch h)
   · rw [(sk_5 hk).1]; exact up_he h (ap_uch h)
   · rw [(sk_6 hk).1]; exact h
   · rw [(sk_7 hk).1]; exact fn_he h (ck_at h hck (by omega))
   · rw [(sk_8 hk).1]; exact mk_he h
 · exact h
theorem sv_sized {H : Hb} {q : Rq} (h : hE H = 0) (hs : SizedH H) (hq : SizedQ q) : SizedH (svH H q) := by
 rw [svH]
 split
 · rename_i hck
   obtain ⟨k1, k2, _⟩ := ck_parts hck
   rcases kinds k1 k2 with hk | hk | hk | hk | hk | hk | hk | hk
   · rw [(sk_1 hk).1]; exact cm_sz hs (ck_at h hck (by omega)) hq.key hq.ch
   · rw [(sk_2 hk).1]; exact hs
   · rw [(sk_3 hk).1]; exact gi_sized hs hq.fo hq.name
   · rw [(sk_4 hk).1]; exact up_sized hs (op_sized hs hq.who)
   · rw [(sk_5 hk).1]; exact up_sized hs (ap_sized h hs)
   · rw [(sk_6 hk).1]; exact hs
   · rw [(sk_7 hk).1]; exact fn_sz hs hq (ck_at h hck (by omega))
   · rw [(sk_8 hk).1]; exact mk_sized hs hq.fo hq.who
 · exact hs
theorem up_err {H : Hb} {U : Ur} (h : ¬ U.e = 0) : upU H U = H := by rw [upU, upH, if_neg h]
theorem op_err {H : Hb} {p : ByteArray} {n : Int} (h : ¬ (opU H p n).e = 0) : (opU H p n).num = 0 := by
 rw [opU] at h ⊢
 split at h
 · exact absurd rfl h
 · rename_i h0; rw [if_neg h0]; rfl
theorem ap_err {H : Hb} {p : ByteArray} {n o : Int} {t : ByteArray} (h : ¬ (apU H p n o t).e = 0) : (apU H p n o t).num = 0 := by
 rw [apU] at h ⊢
 by_cases h0 : Pp.fiE H.ss H.nx H.la H.ro p n H.now = 0
 · obtain ⟨hk, e1, e2⟩ := fi_at h0
   rw [if_pos h0, e1] at h ⊢
   simp only [apK] at h ⊢
   by_cases he : Pp.enB ((Pp.swL H.now H.ss)[fiX H p n]).tx o t = true
   · rw [if_pos he] at h; exact absurd rfl h
   · rw [if_neg he] at h ⊢
     by_cases ho : o = ((((Pp.swL H.now H.ss)[fiX H p n]).tx.size : Nat) : Int)
     · rw [if_pos ho] at h ⊢
       by_cases hsi : ((Pp.swL H.now H.ss)[fiX H p n]).si < ((((Pp.swL H.now H.ss)[fiX H p n]).tx.size : Nat) : Int) + t.size
       · rw [if_pos hsi]; rfl
       · rw [if_neg hsi] at h; exact absurd rfl h
     · rw [if_neg ho]; rfl
 · rw [if_neg h0]; rfl
theorem cm_err {H : Hb} {i : Nat} {key : ByteArray} {l : List Pp.Ch} (h : ¬ cmE H i key l = 0) : cmH H i key l = H ∧ cmN H i key l = 0 := ⟨by rw [cmH, if_neg h], (Jn.com_bad (J := joAt H i) h).1⟩
theorem sv_err {H : Hb} {q : Rq} (h : ¬ (svA H q).err = 0) : svH H q = H ∧ svA H q = ⟨(svA H q).err, 0, Jn.zeroP⟩ := by
 rw [svA] at h ⊢
 rw [svH]
 by_cases hck : ckE H.gs q = 0
 · rw [if_pos hck] at h ⊢
   rw [if_pos hck]
   obtain ⟨k1, k2, _⟩ := ck_parts hck
   rcases kinds k1 k2 with hk | hk | hk | hk | hk | hk | hk | hk
   · rw [(sk_1 hk).1, (sk_1 hk).2] at *
     exact ⟨(cm_err h).1, by rw [(cm_err h).2]⟩
   · rw [(sk_2 hk).1, (sk_2 hk).2] at *
     exact ⟨rfl, by rw [Jn.rd_bad rfl h]⟩
   · rw [(sk_3 hk).1, (sk_3 hk).2] at *
     exact ⟨by rw [gsH, if_neg h], rfl⟩
   · rw [(sk_4 hk).1, (sk_4 hk).2] at *
     exact ⟨up_err h, by rw [anU, op_err h]⟩
   · rw [(sk_5 hk).1, (sk_5 hk).2] at *
     exact ⟨up_err h, by rw [anU, ap_err h]⟩
   · rw [(sk_6 hk).1, (sk_6 hk).2] at *
     have h' : ¬ quE H q.who q.num = 0 := h
     exact ⟨rfl, by rw [quN, if_neg h']⟩
   · rw [(sk_7 hk).1, (sk_7 hk).2] at *
     have h' : ¬ fnE H q (fnU H q.who q.num) = 0 := h
     rw [fnE] at h'
     by_cases h0 : (fnU H q.who q.num).e = 0
     · rw [if_pos h0] at h'
       rw [fnH, fnN, fnE, if_pos h0, if_pos h0, if_pos h0, upH, if_neg h', (cm_err h').1, (cm_err h').2]
       exact ⟨rfl, rfl⟩
     · rw [fnH, fnN, fnE, if_neg h0, if_neg h0, if_neg h0]
       exact ⟨rfl, rfl⟩
   · rw [(sk_8 hk).1, (sk_8 hk).2] at *
     have h' : ¬ mkE H q.fo q.who = 0 := h
     exact ⟨by rw [mkH, if_neg h'], rfl⟩
 · rw [if_neg hck] at h ⊢
   rw [if_neg hck]
   exact ⟨rfl, rfl⟩
end Hu
end Go.Proofs.YtchlgpeiombmdaaGreat
set_option linter.unusedSimpArgs false
set_option linter.unusedVariables false
namespace Go.Proofs.YtchlgpeiombmdaaGreat
open Go.RowKit
namespace Hu
theorem in_iff {H : Hb} (h : hE H = 0) (x : ByteArray) : inG H.gs x = true ↔ ∃ s ∈ H.fos, s.na.data.toList = x.data.toList := by rw [told_is h, isB_iff]
theorem ba_eq {a b : ByteArray} (h : a.data.toList = b.data.toList) : a = b := by
 cases a; cases b
 simp only at h
 rw [Array.toList_inj] at h
 rw [h]
/-- The journal of a folder, by its name. -/
def jn (H : Hb) (x : ByteArray) : Jo := joAt H (whr H.fos H.gs x)
theorem jn_mem {H : Hb} (h : hE H = 0) {s : Sh} {x : ByteArray} (hs : s ∈ H.fos) (hx : s.na.data.toList = x.data.toList) : inG H.gs x = true ∧ jn H x = s.jo := by
 have hin := (in_iff h x).2 ⟨s, hs, hx⟩
 obtain ⟨hp, he⟩ := whr_at h hin
 refine ⟨hin, ?_⟩
 obtain ⟨k, hk, rfl⟩ := List.getElem_of_mem hs
 have hpw := ris_ne (cf_parts (h_parts h).2.1).2.2
 have hkp : k = whr H.fos H.gs x := by
  rcases Nat.lt_trichotomy k (whr H.fos H.gs x) with hlt | heq | hlt
  · exact absurd (hx.trans he.symm) (List.pairwise_iff_getElem.1 hpw k _ hk hp hlt)
  · exact heq
  · exact absurd (he.trans hx.symm) (List.pairwise_iff_getElem.1 hpw _ k hp hk hlt)
 rw [jn, joAt_eq hp]
 simp only [← hkp]
theorem tr_in {H : Hb} (h : hE H = 0) {x : ByteArray} (hin : inG H.gs x = true) : trE H x = 0 ∧ trR H x = Jn.tree (jn H x) := by
 have e : trE H x = 0 := by rw [trE, if_neg (fun y => y h), if_pos hin]
 exact ⟨e, by rw [trR, if_pos e]; rfl⟩
theorem cm_jn {H : Hb} {x key : ByteArray} {l : List Pp.Ch} (h : hE H = 0) (hin : inG H.gs x = true) (h0 : cmE H (whr H.fos H.gs x) key l = 0) : jn (cmH H (whr H.fos H.gs x) key l) x = Jn.comR (jn H x) key l := by
 obtain ⟨hp, he⟩ := whr_at h hin
 have hh := cm_he (key := key) (l := l) h hp
 rw [cm_ok hp h0] at hh ⊢
 refine (jn_mem hh (s := ⟨H.fos[whr H.fos H.gs x].na, Jn.comR (joAt H (whr H.fos H.gs x)) key l⟩) ?_ he).2
 rw [putJ_fos hp]
 exact List.mem_set hp _
theorem up_fos (H : Hb) (e : Int) (S : List Se) (x l r : Int) : (upH H e S x l r).fos = H.fos ∧ (upH H e S x l r).gs = H.gs := by rw [upH]; split <;> exact ⟨rfl, rfl⟩
theorem nms_one {x : ByteArray} : Pp.nmsE [x] = if Pp.nameB x.data.toList = true then 0 else 1 := by simp [Pp.nmsE]
end Hu
end Go.Proofs.YtchlgpeiombmdaaGreat
