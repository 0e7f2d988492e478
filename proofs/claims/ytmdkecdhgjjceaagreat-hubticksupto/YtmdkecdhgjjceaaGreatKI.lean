/- Which folders are told of, counted; where a folder is for the reference: FolderAt. What the reference's CheckHub answers: the very errno that Check does. -/
import Derived.Test.YtmdkecdhgjjceaaGreatKF
import Derived.Test.YtmdkecdhgjjceaaGreatHY
import Derived.Test.YtmdkecdhgjjceaaGreatGB
import Derived.Test.YtmdkecdhgjjceaaGreatGF
import Derived.Test.YtmdkecdhgjjceaaGreatU4
import Derived.Deep.RegionHeld3
set_option linter.unusedSimpArgs false
set_option linter.unusedVariables false
namespace Go.Proofs.YtmdkecdhgjjceaaGreat
open Go.RowKit

namespace Hu
theorem isB_iff (L : List Sh) (x : ByteArray) : isB L x = true ↔ ∃ s ∈ L, s.na.data.toList = x.data.toList := by
 rw [isB, List.any_eq_true]
 constructor
 · rintro ⟨s, hs, h⟩
   exact ⟨s, hs, Pp.cmp_zero _ _ (of_decide_eq_true h)⟩
 · rintro ⟨s, hs, h⟩
   refine ⟨s, hs, decide_eq_true ?_⟩
   rw [cm, h]; exact Pp.cmp_self _
theorem ris_ne {L : List Sh} (hr : risB L = true) : L.Pairwise (fun a b => a.na.data.toList ≠ b.na.data.toList) := by
 rw [List.pairwise_iff_getElem]
 intro i j hi hj hij he
 obtain ⟨d, rfl⟩ : ∃ d, j = i + d + 1 := ⟨j - i - 1, by omega⟩
 have h := ris_lt hr d i hj
 rw [he, Pp.cmp_self] at h
 omega
theorem cnt_none {L : List Sh} {x : List UInt8} (h : ∀ s ∈ L, s.na.data.toList ≠ x) : L.filter (fun s => s.na.data.toList == x) = [] := by
 rw [List.filter_eq_nil_iff]
 intro s hs he
 exact h s hs (by simpa using he)
theorem cnt_one : ∀ {L : List Sh} {x : List UInt8}, L.Pairwise (fun a b => a.na.data.toList ≠ b.na.data.toList) → (∃ s ∈ L, s.na.data.toList = x) → (L.filter (fun s => s.na.data.toList == x)).length = 1
 | [], x, _, h => by obtain ⟨s, hs, _⟩ := h; cases hs
 | s :: r, x, hp, h => by
  rw [List.pairwise_cons] at hp
  by_cases e : s.na.data.toList = x
  · rw [List.filter_cons_of_pos (by simpa using e), cnt_none (fun t ht he => hp.1 t ht (by rw [e, he]))]
    rfl
  · rw [List.filter_cons_of_neg (by simpa using e)]
    refine cnt_one hp.2 ?_
    obtain ⟨t, ht, hx⟩ := h
    rcases List.mem_cons.1 ht with rfl | ht
    · exact absurd hx e
    · exact ⟨t, ht, hx⟩
theorem cnt_or {α : Type} (p q : α → Bool) : ∀ (L : List α), (∀ s ∈ L, q s = true → p s = false) → (L.filter (fun s => p s || q s)).length = (L.filter p).length + (L.filter q).length
 | [], _ => rfl
 | s :: r, h => by
  have ih := cnt_or p q r (fun t ht => h t (List.mem_cons_of_mem _ ht))
  cases hq : q s with
  | true =>
   have hp := h s (List.mem_cons_self ..) hq
   rw [List.filter_cons_of_pos (by simp [hq]), List.filter_cons_of_neg (by simp [hp]), List.filter_cons_of_pos hq, List.length_cons, List.length_cons, ih]
   omega
  | false =>
   cases hp : p s with
   | true => rw [List.filter_cons_of_pos (by simp [hp]), List.filter_cons_of_pos hp, List.filter_cons_of_neg (by simp [hq]), List.length_cons, List.length_cons, ih]; omega
   | false => rw [List.filter_cons_of_neg (by simp [hp, hq]), List.filter_cons_of_neg (by simp [hp]), List.filter_cons_of_neg (by simp [hq]), ih]
theorem inG_snoc (G : List Gr) (g : Gr) (x : ByteArray) : inG (G ++ [g]) x = (inG G x || (x.data.toList == g.fo.data.toList)) := by
 rw [inG_any, inG_any, List.any_append]
 simp only [List.any_cons, List.any_nil, Bool.or_false]
 congr 1
 exact Bool.eq_iff_iff.2 ⟨fun h => by rw [beq_iff_eq] at h ⊢; exact h.symm, fun h => by rw [beq_iff_eq] at h ⊢; exact h.symm⟩
theorem size_told {L : List Sh} (hr : risB L = true) : ∀ G : List Gr, (∀ g ∈ G, isB L g.fo = true) → Maps.size (Jn.D (told L G)) = (L.filter (fun s => inG G s.na)).length := by
 intro G
 refine Jn.snoc_ind (P := fun G => (∀ g ∈ G, isB L g.fo = true) → Maps.size (Jn.D (told L G)) = (L.filter (fun s => inG G s.na)).length) ?_ ?_ G
 · intro _
   have : L.filter (fun s => inG [] s.na) = [] := List.filter_eq_nil_iff.2 (fun s _ h => by rw [inG_any] at h; cases h)
   rw [this]; rfl
 · intro G g ih ha
   have ih := ih (fun x hx => ha x (List.mem_append_left _ hx))
   have e : told L (G ++ [g]) = told L G ++ [⟨plc L g.fo, g.fo, []⟩] := by unfold told; simp
   rw [e, Jn.D_snoc, Maps.size_put (Jn.D_tidy _), Jn.D_has]
   have ef : (fun s : Sh => inG (G ++ [g]) s.na) = (fun s : Sh => inG G s.na || (s.na.data.toList == g.fo.data.toList)) := funext fun s => inG_snoc G g s.na
   rw [ef, inG_eq]
   have same : ∀ s : Sh, s.na.data.toList = g.fo.data.toList → inG G s.na = inG G g.fo := fun s hs => by rw [inG_any, inG_any, hs]
   cases hb : inG G g.fo with
   | true =>
    rw [if_pos rfl, ih]
    have : (fun s : Sh => inG G s.na || (s.na.data.toList == g.fo.data.toList)) = (fun s : Sh => inG G s.na) := funext fun s => by
     by_cases hs : s.na.data.toList = g.fo.data.toList
     · rw [same s hs, hb]; rfl
     · rw [show (s.na.data.toList == g.fo.data.toList) = false from by simpa using hs, Bool.or_false]
    rw [this]
   | false =>
    rw [if_neg (by simp), ih, cnt_or (fun s : Sh => inG G s.na) (fun s : Sh => s.na.data.toList == g.fo.data.toList) L (fun s _ hs => by rw [same s (by simpa using hs)]; exact hb), cnt_one (ris_ne hr) ((isB_iff L g.fo).1 (ha g (by simp)))]
theorem tel_told {L : List Sh} {G : List Gr} (hr : risB L = true) (ha : ∀ g ∈ G, isB L g.fo = true) (h : ∀ s ∈ L, inG G s.na = true) : telE L G = 0 := by
 rw [telE, if_pos (List.all_eq_true.2 ha), size_told hr G ha, List.filter_eq_self.2 h, if_neg (Nat.lt_irrefl _)]
theorem tel_not {L : List Sh} {G : List Gr} (hr : risB L = true) (ha : ∀ g ∈ G, isB L g.fo = true) {s : Sh} (hs : s ∈ L) (h : inG G s.na = false) : telE L G = 5 := by
 have hlt : (L.filter (fun s => inG G s.na)).length < L.length := by
  rcases Nat.lt_or_ge (L.filter (fun s => inG G s.na)).length L.length with h1 | h1
  · exact h1
  · have e : L.filter (fun s => inG G s.na) = L := (List.filter_sublist).eq_of_length_le h1
    have := List.filter_eq_self.1 e s hs
    rw [h] at this; cases this
 rw [telE, if_pos (List.all_eq_true.2 ha), size_told hr G ha, if_pos hlt]
/-- Where a folder is; -1: there is none. -/
def fat (L : List Sh) (x : ByteArray) : Int := match L.findIdx? (fun s => s.na.toList == x.toList) with
 | some i => i
 | none => -1
theorem fat_hit {L : List Sh} {x : ByteArray} {k : Nat} (hk : k < L.length) (h : ∀ m (h : m < L.length), m < k → (L[m].na.toList == x.toList) = false) (h0 : (L[k].na.toList == x.toList) = true) : fat L x = k := by
 have : L.findIdx? (fun s => s.na.toList == x.toList) = some k := List.findIdx?_eq_some_iff_getElem.2 ⟨hk, h0, fun m hm => by rw [h m (by omega) hm]; decide⟩
 rw [fat, this]
theorem fat_none {L : List Sh} {x : ByteArray} (h : ∀ m (h : m < L.length), (L[m].na.toList == x.toList) = false) : fat L x = -1 := by
 have : L.findIdx? (fun s => s.na.toList == x.toList) = none := List.findIdx?_eq_none_iff.2 fun s hs => by
  obtain ⟨m, hm, rfl⟩ := List.getElem_of_mem hs
  exact h m hm
 rw [fat, this]
theorem fat_neg (L : List Sh) (x : ByteArray) : fat L x < 0 ↔ isB L x = false := by
 rw [fat]
 cases h : L.findIdx? (fun s => s.na.toList == x.toList) with
 | some i =>
  obtain ⟨hi, h0, _⟩ := List.findIdx?_eq_some_iff_getElem.1 h
  have : isB L x = true := (isB_iff L x).2 ⟨L[i], List.getElem_mem hi, by rw [Lib.toList_data, Lib.toList_data] at h0; simpa using h0⟩
  rw [this]; simp
 | none =>
  have : isB L x = false := by
   cases hb : isB L x with
   | false => rfl
   | true =>
    obtain ⟨s, hs, he⟩ := (isB_iff L x).1 hb
    have := List.findIdx?_eq_none_iff.1 h s hs
    rw [Lib.toList_data, Lib.toList_data, he] at this
    simp at this
  rw [this]; simp
/-- Where the map has a folder is where the reference finds it. -/
theorem fat_whr {H : Hb} (h : hE H = 0) {x : ByteArray} (hx : inG H.gs x = true) : fat H.fos x = whr H.fos H.gs x := by
 obtain ⟨hp, he⟩ := whr_at h hx
 refine fat_hit hp (fun m hm hlt => ?_) (by rw [Lib.toList_data, Lib.toList_data, he]; simp)
 obtain ⟨_, h1, _⟩ := h_parts h
 have hne := List.pairwise_iff_getElem.1 (ris_ne (cf_parts h1).2.2) m _ hm hp hlt
 rw [he] at hne
 rw [Lib.toList_data, Lib.toList_data]
 simpa using hne
/-- Of a hub that is right: a folder is there just if it is told of. -/
theorem told_is {H : Hb} (h : hE H = 0) (x : ByteArray) : inG H.gs x = isB H.fos x := by
 obtain ⟨_, h1, _, h3, _⟩ := h_parts h
 cases hb : isB H.fos x with
 | false =>
  cases hi : inG H.gs x with
  | false => rfl
  | true => rw [tel_is h3 hi] at hb; cases hb
 | true =>
  have ha : ∀ g ∈ H.gs, isB H.fos g.fo = true := fun g hg => tel_is h3 (by rw [inG_any, List.any_eq_true]; exact ⟨g, hg, by simp⟩)
  obtain ⟨s, hs, he⟩ := (isB_iff _ _).1 hb
  cases hi : inG H.gs s.na with
  | false => rw [tel_not (cf_parts h1).2.2 ha hs hi] at h3; cases h3
  | true => rw [inG_any] at hi ⊢; rw [← he]; exact hi
end Hu

set_option maxRecDepth 100000 in
set_option maxHeartbeats 4000000 in
theorem folderAt_any (H : Hb) (v : Value) (x : ByteArray) (w : World) (hv : LiesH w v H) :
    Calls Tryz.prog 20 #[v, .string x] w fun e w' => e = .returned (.int .i64 (Hu.fat H.fos x)) ∧ Below w.heap.size w w' := by
 obtain ⟨fos, gs, ss, nx, la, ro, now⟩ := H
 obtain ⟨vf, vg, vs, rfl, lf, lg, ls⟩ := hv
 simp only at *
 obtain ⟨fa, fc, rfl, hcap, _, hL⟩ := lf
 have HL : Hid (∀ i (h : i < fos.length), ∃ b o, fa = some ⟨b, o, none⟩ ∧ b < w.heap.size ∧ ShAt w b (o + i * 4) fos[i]) := hL
 obtain ⟨ga, gc, rfl, _⟩ := lg
 obtain ⟨sa, sc, rfl, _⟩ := ls
 clear hL
 obtain ⟨wz, hwz⟩ : ∃ wz, wz = w.alloc (.cells #[.slice fa fos.length fc, .slice ga gs.length gc, .slice sa ss.length sc, .int .i64 nx, .int .i64 la, .int .i64 ro, .int .i64 now] 28) := ⟨_, rfl⟩
 have hbz : Below w.heap.size w wz := by rw [hwz]; exact (Below.refl _ _).alloc (Nat.le_refl _) _
 have HX : Hid (Cs wz w.heap.size [.slice fa fos.length fc, .slice ga gs.length gc, .slice sa ss.length sc, .int .i64 nx, .int .i64 la, .int .i64 ro, .int .i64 now]) := (by rw [hwz]; exact Cs.new w [.slice fa fos.length fc, .slice ga gs.length gc, .slice sa ss.length sc, .int .i64 nx, .int .i64 la, .int .i64 ro, .int .i64 now] _ : Cs wz w.heap.size _)
 go_enter Tryz.func20, Tryz.ntmps20
 go_upto_region 1 with fail
 rw [← hwz]
 clear hwz
 have x0 := HX.out.cell 0 rfl
 go_wp2_with fail
 go_loopw [5] (fun i wr => ∃ k : Nat, k ≤ fos.length ∧ i = .int .i64 k ∧ Hid (∀ m (h : m < fos.length), m < k → (fos[m].na.toList == x.toList) = false) ∧ wr = wz) (fun i _ => fos.length - (intOf i).toNat)
 case atStart => exact ⟨0, Nat.zero_le _, rfl, (fun m _ h => absurd h (Nat.not_lt_zero _) : ∀ m (h : m < fos.length), m < 0 → (fos[m].na.toList == x.toList) = false), rfl⟩
 case round =>
  obtain ⟨k, hk, rfl, HP, rfl⟩ := hrel
  by_cases hlt : k < fos.length
  · obtain ⟨b, o, rfl, hb, he⟩ := HL.out k hlt
    obtain ⟨c0, _⟩ := he.below hb hbz
    have hkk : (k : Int) < fos.length := by omega
    have HIT := hid (show (fos[k].na.toList == x.toList) = true → Hu.fat fos x = k from fun h => Hu.fat_hit hlt HP.out h)
    have HNX := hid (show (fos[k].na.toList == x.toList) = false → ∀ m (h : m < fos.length), m < k + 1 → (fos[m].na.toList == x.toList) = false from fun h m h1 h2 => by
     by_cases e : m = k
     · subst e; exact h
     · exact HP.out m h1 (by omega))
    clear he
    cases h0 : (fos[k].na.toList == x.toList) with
    | true =>
     have HE := hid (HIT.out h0)
     clear HIT HNX
     go_wp2_with fail
     go_ret
     exact ⟨by rw [HE.out]; rfl, hbz⟩
    | false =>
     have HP2 := hid (HNX.out h0)
     clear HIT HNX
     go_wp2_with fail
     go_roundw
     case rel => exact ⟨k + 1, by omega, by simp, HP2, by simp⟩
     case measure => simp [intOf]; omega
  · have hkk : ¬ (k : Int) < fos.length := by omega
    have HE := hid (show Hu.fat fos x = -1 from Hu.fat_none fun m h => HP.out m h (by omega))
    go_wp2_with fail
    go_ret
    exact ⟨by rw [HE.out]; rfl, hbz⟩
end Go.Proofs.YtmdkecdhgjjceaaGreat
set_option linter.unusedSimpArgs false
set_option linter.unusedVariables false
namespace Go.Proofs.YtmdkecdhgjjceaaGreat
open Go.RowKit

namespace Hu
theorem nms_no {x : ByteArray} (h : Pp.nameB x.data.toList = false) : Pp.nmsE [x] = 1 := by rw [Pp.nmsE]; simp [h]
theorem nms_yes {x : ByteArray} (h : Pp.nameB x.data.toList = true) : Pp.nmsE [x] = 0 := by rw [Pp.nmsE]; simp [h]
theorem lt_flip {s t : Sh} (h : lt s t = true) : Op.bytesLess t.na.toList s.na.toList = false ∧ (t.na.toList == s.na.toList) = false := by
 rw [lt_cm] at h
 have h := of_decide_eq_true h
 rw [Pp.less_cmp, Lib.toList_data, Lib.toList_data, Pp.cmp_anti s.na.data.toList t.na.data.toList]
 refine ⟨decide_eq_false (by omega), ?_⟩
 rw [beq_eq_false_iff_ne]
 intro e
 rw [e, Pp.cmp_self] at h
 omega
theorem not_lt {s t : Sh} (h : lt s t = false) : Op.bytesLess t.na.toList s.na.toList = true ∨ (Op.bytesLess t.na.toList s.na.toList = false ∧ (t.na.toList == s.na.toList) = true) := by
 rw [lt_cm] at h
 have h := of_decide_eq_false h
 rw [Pp.less_cmp, Lib.toList_data, Lib.toList_data, Pp.cmp_anti s.na.data.toList t.na.data.toList]
 by_cases e : Lib.compareBytes s.na.data.toList t.na.data.toList = 0
 · right
   refine ⟨decide_eq_false (by omega), ?_⟩
   rw [beq_iff_eq]
   exact (Pp.cmp_zero _ _ e).symm
 · left; exact decide_eq_true (by omega)
theorem who_len (G : List Gr) (x : ByteArray) : (Pp.whoR G x).length = 0 ↔ inG G x = false := by
 have e : inG G x = G.any (Pp.inF x) := by
  rw [inG_any]
  congr 1
  funext g
  rw [Pp.inF, Lib.toList_data, Lib.toList_data]
 rw [e]
 constructor
 · intro h
   cases hb : G.any (Pp.inF x) with
   | false => rfl
   | true => have := Pp.who_some hb; omega
 · exact Pp.who_none
end Hu

set_option maxRecDepth 100000 in
set_option maxHeartbeats 16000000 in
theorem rCheckHub_any (H : Hb) (v : Value) (w : World) (hv : LiesH w v H) (hs : SizedH H) (hu : ∀ s ∈ H.fos, s.na.size ≤ 1048576 ∧ (∀ e ∈ s.jo.base, e.path.size ≤ 1048576 ∧ e.text.size ≤ 1048576) ∧ SizedO 1048576 s.jo.cos) :
    Calls Tryz.prog 14 #[v] w fun e w' => e = .returned (.int .i64 (Hu.hE H)) ∧ Below w.heap.size w w' := by
 obtain ⟨fos, gs, ss, nx, la, ro, now⟩ := H
 have HV := hid hv
 obtain ⟨vf, vg, vs, rfl, lf, lg, ls⟩ := hv
 simp only at *
 have HU := hid hu
 have HSG := hid hs.gs
 have HSS := hid hs.ss
 have HLG := hid lg
 have HLS := hid ls
 obtain ⟨fa, fc, rfl, hcap, _, hL⟩ := lf
 have HL : Hid (∀ i (h : i < fos.length), ∃ b o, fa = some ⟨b, o, none⟩ ∧ b < w.heap.size ∧ ShAt w b (o + i * 4) fos[i]) := hL
 obtain ⟨ga, gc, rfl, hgcap, _, hLG⟩ := lg
 have HLL : Hid (∀ i (h : i < gs.length), ∃ b o, ga = some ⟨b, o, none⟩ ∧ b < w.heap.size ∧ GrAt w b (o + i * 3) gs[i]) := hLG
 obtain ⟨sa, sc, rfl, _⟩ := ls
 clear hL hLG hs hu
 obtain ⟨wz, hwz⟩ : ∃ wz, wz = w.alloc (.cells #[.slice fa fos.length fc, .slice ga gs.length gc, .slice sa ss.length sc, .int .i64 nx, .int .i64 la, .int .i64 ro, .int .i64 now] 28) := ⟨_, rfl⟩
 have hbz : Below w.heap.size w wz := by rw [hwz]; exact (Below.refl _ _).alloc (Nat.le_refl _) _
 have HX : Hid (Cs wz w.heap.size [.slice fa fos.length fc, .slice ga gs.length gc, .slice sa ss.length sc, .int .i64 nx, .int .i64 la, .int .i64 ro, .int .i64 now]) := (by rw [hwz]; exact Cs.new w [.slice fa fos.length fc, .slice ga gs.length gc, .slice sa ss.length sc, .int .i64 nx, .int .i64 la, .int .i64 ro, .int .i64 now] _ : Cs wz w.heap.size _)
 obtain ⟨E, hE⟩ : ∃ E, E = Hu.hE ⟨fos, gs, ss, nx, la, ro, now⟩ := ⟨_, rfl⟩
 rw [← hE]
 have HE := hid hE
 clear hE
 go_enter Tryz.func14, Tryz.ntmps14
 go_upto_region 1 with fail
 rw [← hwz]
 clear hwz
 have x0 := HX.out.cell 0 rfl
 have x6 := HX.out.cell 6 rfl
 by_cases hn1 : now < 0
 · have HEE := hid (show E = 3 from by rw [HE.out]; exact Hu.h_now (Or.inl hn1))
   go_wp2_with fail
   go_ret
   exact ⟨by rw [HEE.out]; rfl, hbz⟩
 by_cases hn2 : 1099511627776 < now
 · have HEE := hid (show E = 3 from by rw [HE.out]; exact Hu.h_now (Or.inr hn2))
   go_wp2_with fail
   go_ret
   exact ⟨by rw [HEE.out]; rfl, hbz⟩
 have HNW := hid (show ¬ (now < 0 ∨ 1099511627776 < now) from fun x => x.elim hn1 hn2)
 have HFO := hid (show ¬ Hu.cfE fos = 0 → E = Hu.cfE fos from fun h => by rw [HE.out]; exact Hu.h_fos (H := ⟨fos, gs, ss, nx, la, ro, now⟩) HNW.out h)
 by_cases h8 : 8 < fos.length
 · have HEE := hid (show E = 2 from by rw [HFO.out (by rw [Hu.cf_many h8]; decide)]; exact Hu.cf_many h8)
   have h8' : 8 < (fos.length : Int) := by omega
   go_wp2_with fail
   go_ret
   exact ⟨by rw [HEE.out]; rfl, hbz⟩
 have H8 := hid h8
 have h8' : ¬ 8 < (fos.length : Int) := by omega
 go_wp2_with fail
 go_loopw [3] (fun i wr => ∃ k : Nat, k ≤ fos.length ∧ i = .int .i64 k ∧ Hid (∀ i (h : i < fos.length), i < k → Hu.shE fos[i] = 0) ∧ Hid (Cs wr w.heap.size [.slice fa fos.length fc, .slice ga gs.length gc, .slice sa ss.length sc, .int .i64 nx, .int .i64 la, .int .i64 ro, .int .i64 now]) ∧ Below w.heap.size w wr) (fun i _ => fos.length - (intOf i).toNat)
 case atStart => exact ⟨0, Nat.zero_le _, rfl, (fun i _ h => absurd h (Nat.not_lt_zero _) : ∀ i (h : i < fos.length), i < 0 → Hu.shE fos[i] = 0), HX, hbz⟩
 case round =>
  clear x0 x6 HX hbz
  obtain ⟨k, hk, rfl, HP, HXr, hbel⟩ := hrel
  have x0 := HXr.out.cell 0 rfl
  by_cases hlt : k < fos.length
  · obtain ⟨b, o, rfl, hb, he⟩ := HL.out k hlt
    obtain ⟨c0, u, x, c1, c2, c3, hu, hx⟩ := he.below hb hbel
    have HZ := hid (HU.out fos[k] (List.getElem_mem hlt))
    have HBAD := hid (show ¬ Hu.shE fos[k] = 0 → E = Hu.shE fos[k] from fun h0 => by
     have e := Hu.cf_bad H8.out hlt HP.out h0
     rw [HFO.out (by rw [e]; exact h0), e])
    have HNX := hid (show Hu.shE fos[k] = 0 → ∀ i (h : i < fos.length), i < k + 1 → Hu.shE fos[i] = 0 from fun h0 i h1 h2 => by
     by_cases e : i = k
     · subst e; exact h0
     · exact HP.out i h1 (by omega))
    have hkk : (k : Int) < fos.length := by omega
    clear he
    generalize fos[k] = s at *
    obtain ⟨na, ⟨jb, jf, jc⟩⟩ := s
    simp only at c0 c1 c2 c3 hu hx
    have HLU := hid hu
    have HLX := hid hx
    obtain ⟨ua, uc, rfl, _⟩ := hu
    obtain ⟨xa, xc, rfl, _⟩ := hx
    go_wp2_with fail
    refine (rIsName_any na _ (by have : na.size ≤ 1048576 := HZ.out.1; omega)).mono ?_
    rintro e w1 ⟨rfl, rfl⟩
    cases hnm : Pp.nameB na.data.toList with
    | false =>
     have HEE := hid (show E = 1 from by
      have e : Hu.shE ⟨na, ⟨jb, jf, jc⟩⟩ = 1 := by rw [Hu.shE, Hu.nms_no hnm, if_pos (by decide)]
      rw [HBAD.out (by rw [e]; decide), e])
     clear HBAD HNX hnm
     go_wp2_with fail
     go_ret
     exact ⟨by rw [HEE.out]; rfl, hbel⟩
    | true =>
     have HSE := hid (show Hu.shE ⟨na, ⟨jb, jf, jc⟩⟩ = Jn.chkE ⟨jb, jf, jc⟩ from by rw [Hu.shE, Hu.nms_yes hnm, if_neg (by simp)])
     clear hnm
     go_wp2_with fail
     refine (checkJournal_any ⟨jb, jf, jc⟩ _ _ ⟨_, _, rfl, HLU.out, HLX.out⟩ (fun e he => by have := (HZ.out.2.1 e he).1; omega) (HZ.out.2.2.mono (by decide))).mono ?_
     rintro e w2 ⟨rfl, hb2⟩
     have hbel2 := below_tr hbel hb2
     have HX2 := hid (HXr.out.below hb2)
     clear c0 c1 c2 c3
     rw [← HSE.out]
     by_cases h0 : Hu.shE ⟨na, ⟨jb, jf, jc⟩⟩ = 0
     · have HP2 := hid (HNX.out h0)
       rw [h0]
       clear h0 HBAD HNX HSE
       go_wp2_with fail
       go_roundw
       case rel => exact ⟨k + 1, by omega, by simp, HP2, HX2, hbel2⟩
       case measure => simp [intOf]; omega
     · have HEE := hid (HBAD.out h0)
       have hz : (Hu.shE ⟨na, ⟨jb, jf, jc⟩⟩ == 0) = false := by simpa using h0
       have hz2 : (Hu.shE ⟨na, ⟨jb, jf, jc⟩⟩ != 0) = true := by simpa using h0
       clear h0 HBAD HNX HSE
       generalize Hu.shE ⟨na, ⟨jb, jf, jc⟩⟩ = r at *
       go_wp2_with fail
       go_ret
       exact ⟨by rw [HEE.out]; rfl, hbel2⟩
  · have hkk : ¬ (k : Int) < fos.length := by omega
    have HA := hid (show ∀ i (h : i < fos.length), Hu.shE fos[i] = 0 from fun i h => HP.out i h (by omega))
    clear hkk HP
    go_wp2_with fail
    clear hlt hk
    go_loopw [5] (fun i wr => ∃ m : Nat, m ≤ fos.length ∧ i = .int .i64 ((m : Int) + 1) ∧ Hid (∀ i (h : i + 1 < fos.length), i < m → Hu.lt fos[i] fos[i + 1] = true) ∧ Hid (Cs wr w.heap.size [.slice fa fos.length fc, .slice ga gs.length gc, .slice sa ss.length sc, .int .i64 nx, .int .i64 la, .int .i64 ro, .int .i64 now]) ∧ Below w.heap.size w wr) (fun i _ => fos.length + 2 - (intOf i).toNat)
    case atStart => exact ⟨0, Nat.zero_le _, rfl, (fun i _ h => absurd h (Nat.not_lt_zero _) : ∀ i (h : i + 1 < fos.length), i < 0 → Hu.lt fos[i] fos[i + 1] = true), HXr, hbel⟩
    case round =>
     clear hbel HXr x0
     obtain ⟨m, hm, rfl, HR, HXr, hbel⟩ := hrel
     have x0 := HXr.out.cell 0 rfl
     by_cases hlt2 : m + 1 < fos.length
     · obtain ⟨b, o, rfl, hb, he⟩ := HL.out m (by omega)
       obtain ⟨c0, _⟩ := he.below hb hbel
       obtain ⟨b', o', hbo, hb', he'⟩ := HL.out (m + 1) hlt2
       obtain ⟨rfl, rfl⟩ : b = b' ∧ o = o' := by simpa using hbo
       obtain ⟨d0, _⟩ := he'.below hb hbel
       have hlt3 : (m : Int) + 1 < fos.length := by omega
       have hlt4 : (m : Int) < fos.length := by omega
       have hwr : IntKind.i64.wrap ((m : Int) + 1 - 1) = m := by rw [IntKind.wrap_i64]; omega
       have hge : 0 ≤ (m : Int) + 1 := by omega
       clear hbo he he'
       cases hl : Hu.lt fos[m] fos[m + 1] with
       | true =>
        obtain ⟨hl2, hl3⟩ := Hu.lt_flip hl
        have HL2 := hid (show ∀ i (h : i + 1 < fos.length), i < m + 1 → Hu.lt fos[i] fos[i + 1] = true from fun i h1 h2 => by
         by_cases e : i = m
         · subst e; exact hl
         · exact HR.out i h1 (by omega))
        have HXd := hid (HXr.out.below ((Below.refl _ _).drew))
        clear hl
        go_wp2_with fail
        go_region
        go_wp2
        go_roundw
        case rel => exact ⟨m + 1, by omega, by simp, HL2, HXd, hbel.drew⟩
        case measure => simp [intOf]; omega
       | false =>
        have HEE := hid (show E = 4 from by
         have e := Hu.cf_order H8.out HA.out hlt2 hl
         rw [HFO.out (by rw [e]; decide), e])
        rcases Hu.not_lt hl with hl2 | ⟨hl2, hl3⟩
        all_goals
         clear hl
         go_wp2_with fail
         go_region
         go_wp2
         go_ret
         exact ⟨by rw [HEE.out]; rfl, hbel.drew⟩
     · have hlt3 : ¬ (m : Int) + 1 < fos.length := by omega
       have HRR := hid (show Hu.risB fos = true from (Hu.ris_iff fos).2 fun i h => HR.out i h (by omega))
       have HCF := hid (show Hu.cfE fos = 0 from Hu.cf_ok H8.out HA.out fun i h => HR.out i h (by omega))
       have HGR := hid (show ¬ Pp.gchE gs = 0 → E = Pp.gchE gs from fun h => by rw [HE.out]; exact Hu.h_gs (H := ⟨fos, gs, ss, nx, la, ro, now⟩) HNW.out HCF.out h)
       have x1 := HXr.out.cell 1 rfl
       clear HR
       go_wp2_with fail
       refine (rCheckGrants_any gs _ _ (HLG.out.below hbel) HSG.out).mono ?_
       rintro e w3 ⟨rfl, hb3⟩
       have hbel3 := below_tr hbel hb3
       have HX3 := hid (HXr.out.below hb3)
       clear x0 x1
       by_cases h0 : ¬ (Pp.gchE gs = 0)
       · have HEE := hid (HGR.out h0)
         have hz : (Pp.gchE gs == 0) = false := by simpa using h0
         have hz2 : (Pp.gchE gs != 0) = true := by simpa using h0
         clear h0 HGR
         generalize Pp.gchE gs = r at *
         go_wp2_with fail
         go_ret
         exact ⟨by rw [HEE.out]; rfl, hbel3⟩
       replace h0 := Decidable.not_not.1 h0
       have HGC := hid h0
       have h60 : gs.length ≤ 60 := (Pp.gch0 h0).1
       have HTE := hid (show ¬ Hu.telE fos gs = 0 → E = Hu.telE fos gs from fun h => by rw [HE.out]; exact Hu.h_tel (H := ⟨fos, gs, ss, nx, la, ro, now⟩) HNW.out HCF.out HGC.out h)
       rw [h0]
       clear h0 HGR
       have x1 := HX3.out.cell 1 rfl
       go_wp2_with fail
       clear hlt2 hlt3 hm
       go_loopw [7] (fun i wr => ∃ k : Nat, k ≤ gs.length ∧ i = .int .i64 k ∧ Hid (∀ j (h : j < gs.length), j < k → Hu.isB fos gs[j].fo = true) ∧ Hid (Cs wr w.heap.size [.slice fa fos.length fc, .slice ga gs.length gc, .slice sa ss.length sc, .int .i64 nx, .int .i64 la, .int .i64 ro, .int .i64 now]) ∧ Below w.heap.size w wr) (fun i _ => gs.length - (intOf i).toNat)
       case atStart => exact ⟨0, Nat.zero_le _, rfl, (fun j _ h => absurd h (Nat.not_lt_zero _) : ∀ j (h : j < gs.length), j < 0 → Hu.isB fos gs[j].fo = true), HX3, hbel3⟩
       case round =>
        clear hbel hb3 hbel3 HXr HX3 x1
        obtain ⟨k, hk, rfl, HP, HXr, hbel⟩ := hrel
        have x1 := HXr.out.cell 1 rfl
        by_cases hlt : k < gs.length
        · obtain ⟨b, o, rfl, hb, he⟩ := HLL.out k hlt
          obtain ⟨c0, _⟩ := he.below hb hbel
          have hkk : (k : Int) < gs.length := by omega
          have hbl : b < wr.heap.size := Nat.lt_of_lt_of_le hb hbel.size
          have hxl := HXr.out.lt
          have HBAD := hid (show Hu.isB fos gs[k].fo = false → E = 5 from fun h => by
           have e := Hu.tel_bad (L := fos) hlt h
           rw [HTE.out (by rw [e]; decide), e])
          have HNX := hid (show Hu.isB fos gs[k].fo = true → ∀ j (h : j < gs.length), j < k + 1 → Hu.isB fos gs[j].fo = true from fun h0 j h1 h2 => by
           by_cases e : j = k
           · subst e; exact h0
           · exact HP.out j h1 (by omega))
          clear he
          generalize gs[k] = gg at *
          obtain ⟨gf, gw, gr⟩ := gg
          simp only at c0 HBAD HNX
          have z0 := HXr.out.cell 0 rfl
          have z1 := HXr.out.cell 1 rfl
          have z2 := HXr.out.cell 2 rfl
          have z3 := HXr.out.cell 3 rfl
          have z4 := HXr.out.cell 4 rfl
          have z5 := HXr.out.cell 5 rfl
          have z6 := HXr.out.cell 6 rfl
          go_wp2_with fail
          go_region_held3 (fun W => W.cell? ⟨w.heap.size, 0, none⟩ = some (.slice fa fos.length fc) ∧ W.cell? ⟨w.heap.size, 1, none⟩ = some (.slice (some ⟨b, o, none⟩) gs.length gc) ∧ W.cell? ⟨w.heap.size, 2, none⟩ = some (.slice sa ss.length sc) ∧ W.cell? ⟨w.heap.size, 3, none⟩ = some (.int .i64 nx) ∧ W.cell? ⟨w.heap.size, 4, none⟩ = some (.int .i64 la) ∧ W.cell? ⟨w.heap.size, 5, none⟩ = some (.int .i64 ro) ∧ W.cell? ⟨w.heap.size, 6, none⟩ = some (.int .i64 now) ∧ W.cell? ⟨b, o + k * 3, none⟩ = some (.string gf)) (go_keep) (first
           | (go_at_call 20; refine (folderAt_any ⟨fos, gs, ss, nx, la, ro, now⟩ _ gf _ (HV.out.below (below_tr hbel (Below.refl _ _).drew))).mono ?_; rintro e wa ⟨rfl, hba⟩; have hza : Below wr.heap.size wr wa := ((Below.refl _ _).drew).trans hba; have HXa := hid (HXr.out.below hza); have j0 := HXa.out.cell 0 rfl; have j1 := HXa.out.cell 1 rfl; have j2 := HXa.out.cell 2 rfl; have j3 := HXa.out.cell 3 rfl; have j4 := HXa.out.cell 4 rfl; have j5 := HXa.out.cell 5 rfl; have j6 := HXa.out.cell 6 rfl; have j7 := (hza.cell (p := ⟨b, o + k * 3, none⟩) hbl).trans c0))
          have hbela := below_tr hbel hza
          clear j0 j1 j2 j3 j4 j5 j6 j7 z0 z1 z2 z3 z4 z5 z6 c0
          have hfn := Hu.fat_neg fos gf
          cases hi : Hu.isB fos gf with
          | false =>
           have HEE := hid (HBAD.out hi)
           have hneg : Hu.fat fos gf < 0 := hfn.2 hi
           clear HBAD HNX hfn hi
           generalize Hu.fat fos gf = q at *
           go_wp2_with fail
           go_ret
           exact ⟨by rw [HEE.out]; rfl, hbela⟩
          | true =>
           have HP2 := hid (HNX.out hi)
           have hneg : ¬ Hu.fat fos gf < 0 := fun h => by rw [hfn.1 h] at hi; cases hi
           clear HBAD HNX hfn hi
           generalize Hu.fat fos gf = q at *
           go_wp2_with fail
           go_roundw
           case rel => exact ⟨k + 1, by omega, by simp, HP2, HXa, hbela⟩
           case measure => simp [intOf]; omega
        · have hkk : ¬ (k : Int) < gs.length := by omega
          have HAL := hid (show ∀ g ∈ gs, Hu.isB fos g.fo = true from fun g hg => by
           obtain ⟨j, hj, rfl⟩ := List.getElem_of_mem hg
           exact HP.out j hj (by omega))
          have x0 := HXr.out.cell 0 rfl
          clear HP
          go_wp2_with fail
          clear hlt hk hkk
          go_loopw [8] (fun i wr => ∃ k : Nat, k ≤ fos.length ∧ i = .int .i64 k ∧ Hid (∀ j (h : j < fos.length), j < k → Hu.inG gs fos[j].na = true) ∧ Hid (Cs wr w.heap.size [.slice fa fos.length fc, .slice ga gs.length gc, .slice sa ss.length sc, .int .i64 nx, .int .i64 la, .int .i64 ro, .int .i64 now]) ∧ Below w.heap.size w wr) (fun i _ => fos.length - (intOf i).toNat)
          case atStart => exact ⟨0, Nat.zero_le _, rfl, (fun j _ h => absurd h (Nat.not_lt_zero _) : ∀ j (h : j < fos.length), j < 0 → Hu.inG gs fos[j].na = true), HXr, hbel⟩
          case round =>
           clear hbel HXr x0 x1
           obtain ⟨k, hk, rfl, HP, HXr, hbel⟩ := hrel
           have x0 := HXr.out.cell 0 rfl
           have x1 := HXr.out.cell 1 rfl
           by_cases hlt : k < fos.length
           · obtain ⟨b, o, rfl, hb, he⟩ := HL.out k hlt
             obtain ⟨c0, _⟩ := he.below hb hbel
             have hkk : (k : Int) < fos.length := by omega
             have hbl : b < wr.heap.size := Nat.lt_of_lt_of_le hb hbel.size
             have hxl := HXr.out.lt
             have HBAD := hid (show Hu.inG gs fos[k].na = false → E = 5 from fun h => by
              have e := Hu.tel_not HRR.out HAL.out (List.getElem_mem hlt) h
              rw [HTE.out (by rw [e]; decide), e])
             have HNX := hid (show Hu.inG gs fos[k].na = true → ∀ j (h : j < fos.length), j < k + 1 → Hu.inG gs fos[j].na = true from fun h0 j h1 h2 => by
              by_cases e : j = k
              · subst e; exact h0
              · exact HP.out j h1 (by omega))
             clear he
             generalize fos[k] = s at *
             obtain ⟨na, jo⟩ := s
             simp only at c0 HBAD HNX
             go_wp2_with fail
             go_region_held3 (fun W => W.cell? ⟨w.heap.size, 0, none⟩ = some (.slice (some ⟨b, o, none⟩) fos.length fc) ∧ W.cell? ⟨w.heap.size, 1, none⟩ = some (.slice ga gs.length gc) ∧ W.cell? ⟨b, o + k * 4, none⟩ = some (.string na)) (go_keep) (first
              | (go_at_call 36; refine (whoOf_any gs _ na _ (HLG.out.below (below_tr hbel (Below.refl _ _).drew)) (by omega)).mono ?_; rintro e wa ⟨u, rfl, hlu, hba⟩; obtain ⟨ua, uc, rfl, hlr⟩ := hlu; clear hlr; have hza : Below wr.heap.size wr wa := ((Below.refl _ _).drew).trans hba; have HXa := hid (HXr.out.below hza); have j0 := HXa.out.cell 0 rfl; have j1 := HXa.out.cell 1 rfl; have j7 := (hza.cell (p := ⟨b, o + k * 4, none⟩) hbl).trans c0))
             have hbela := below_tr hbel hza
             clear j0 j1 j7 c0 x0 x1
             have hwl := Hu.who_len gs na
             cases hi : Hu.inG gs na with
             | false =>
              have HEE := hid (HBAD.out hi)
              have hz : (((Pp.whoR gs na).length : Int) == 0) = true := by rw [hwl.2 hi]; rfl
              clear HBAD HNX hwl hi
              generalize (Pp.whoR gs na).length = q at *
              go_wp2_with fail
              go_ret
              exact ⟨by rw [HEE.out]; rfl, hbela⟩
             | true =>
              have HP2 := hid (HNX.out hi)
              have hz : (((Pp.whoR gs na).length : Int) == 0) = false := by
               rw [beq_eq_false_iff_ne]
               intro h
               have h0 : (Pp.whoR gs na).length = 0 := by omega
               rw [hwl.1 h0] at hi; cases hi
              clear HBAD HNX hwl hi
              generalize (Pp.whoR gs na).length = q at *
              go_wp2_with fail
              go_roundw
              case rel => exact ⟨k + 1, by omega, by simp, HP2, HXa, hbela⟩
              case measure => simp [intOf]; omega
           · have hkk : ¬ (k : Int) < fos.length := by omega
             have HTZ := hid (show Hu.telE fos gs = 0 from Hu.tel_told HRR.out HAL.out (fun s hs => by
              obtain ⟨j, hj, rfl⟩ := List.getElem_of_mem hs
              exact HP.out j hj (by omega)))
             have HEE := hid (show E = Pp.uchE ss nx la ro from by rw [HE.out]; exact Hu.h_up (H := ⟨fos, gs, ss, nx, la, ro, now⟩) HNW.out HCF.out HGC.out HTZ.out)
             have z0 := HXr.out.cell 0 rfl
             have z1 := HXr.out.cell 1 rfl
             have z2 := HXr.out.cell 2 rfl
             have z3 := HXr.out.cell 3 rfl
             have z4 := HXr.out.cell 4 rfl
             have z5 := HXr.out.cell 5 rfl
             have z6 := HXr.out.cell 6 rfl
             go_wp2_with fail
             refine (rCheckUploads_any ss _ nx la ro _ (HLS.out.below hbel) HSS.out).mono ?_
             rintro e w9 ⟨rfl, hb9⟩
             rw [← HEE.out]
             have hbel9 := below_tr hbel hb9
             go_wp2_with fail
             go_ret
             exact ⟨rfl, hbel9⟩
end Go.Proofs.YtmdkecdhgjjceaaGreat
