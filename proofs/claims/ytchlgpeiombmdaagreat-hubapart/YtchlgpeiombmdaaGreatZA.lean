/- What slices.IndexFunc and slices.DeleteFunc answer of rows of sessions. What slices.DeleteFunc answers of a row of sessions. What upload.going answers, for every uploads, time and names. What upload.Open answers, errors too, for every uploads. What upload.Open answers, where going has an error, or a number is out of its bounds, or there are too many sessions. What upload.Open answers, where there is no room. What upload.Open answers, where all is right; and in all cases. What upload.find answers, errors too, for every uploads. What upload.ends answers, for every two texts and every number. What upload.Append answers. What slices.Delete answers of a row of sessions, one of them. What upload.Sweep and the reference's BeginUpload, SweepOf and SameUploads answer. What upload.Finish answers, where all is right. What upload.Query and the reference's SessionAt answer. What upload.Append answers, where something is wrong, or the text is there already; and in all cases. What opening a session leaves, and what time leaves of it. For the law UploadWhole: what the laws' choose answers; what is told of one session whose text comes in pieces. What upload.Query answers, where all is right; what upload.Finish answers, where something is wrong. What upload.Query and upload.Finish answer, where something is wrong. -/
import Derived.Test.YtchlgpeiombmdaaGreatUB
import Derived.Test.YtchlgpeiombmdaaGreatUA
import Derived.Deep.RegionHeld3
import Derived.Deep.RegionLaw
set_option linter.unusedSimpArgs false
set_option linter.unusedVariables false
namespace Go.Proofs.YtchlgpeiombmdaaGreat
open Go.RowKit

namespace Pp
/-- The place of the first session of which a predicate holds; -1: of none. -/
def idS (G : List Se) (pr : Se → Bool) : Int := match G.findIdx? pr with
 | some i => (i : Int)
 | none => -1
theorem idS_hit {G : List Se} {pr : Se → Bool} {k : Nat} (hlt : k < G.length) (h : ∀ j (h : j < G.length), j < k → pr G[j] = false) (hp : pr G[k] = true) : (k : Int) = idS G pr := by
 have : G.findIdx? pr = some k := List.findIdx?_eq_some_iff_getElem.2 ⟨hlt, hp, fun j hj => by rw [h j (by omega) hj]; simp⟩
 rw [idS, this]
theorem idS_miss {G : List Se} {pr : Se → Bool} (h : ∀ j (h : j < G.length), pr G[j] = false) : -1 = idS G pr := by
 have : G.findIdx? pr = none := List.findIdx?_eq_none_iff.2 fun x hx => by
  obtain ⟨j, hj, rfl⟩ := List.getElem_of_mem hx
  exact h j hj
 rw [idS, this]
theorem idS_cases (G : List Se) (pr : Se → Bool) : (idS G pr = -1 ∧ ∀ x ∈ G, pr x = false) ∨ ∃ k, ∃ h : k < G.length, idS G pr = (k : Int) ∧ pr G[k] = true ∧ ∀ j (hj : j < G.length), j < k → pr G[j] = false := by
 cases hf : G.findIdx? pr with
 | none =>
  have hn := List.findIdx?_eq_none_iff.1 hf
  exact Or.inl ⟨by rw [idS, hf], fun x hx => by simpa using hn x hx⟩
 | some k =>
  obtain ⟨hlt, hp, hmin⟩ := List.findIdx?_eq_some_iff_getElem.1 hf
  exact Or.inr ⟨k, hlt, by rw [idS, hf], hp, fun j hj hjk => by have := hmin j hjk; simpa using this⟩
/-- What is left where j sessions were looked at. -/
def lf (pr : Se → Bool) (L : List Se) (j : Nat) : List Se := (L.take j).filter fun x => !pr x
theorem lf_keep {pr : Se → Bool} {L : List Se} {j : Nat} (h : j < L.length) (hp : pr L[j] = false) : lf pr L (j + 1) = lf pr L j ++ [L[j]] := by
 rw [lf, lf, List.take_succ_eq_append_getElem h, List.filter_append]; simp [hp]
theorem lf_skip {pr : Se → Bool} {L : List Se} {j : Nat} (h : j < L.length) (hp : pr L[j] = true) : lf pr L (j + 1) = lf pr L j := by
 rw [lf, lf, List.take_succ_eq_append_getElem h, List.filter_append]; simp [hp]
theorem lf_all {pr : Se → Bool} {L : List Se} {k : Nat} (hk : k ≤ L.length) (h : ∀ j (hj : j < L.length), j < k → pr L[j] = false) : lf pr L k = L.take k := by
 rw [lf, List.filter_eq_self]
 intro x hx
 obtain ⟨j, hj, rfl⟩ := List.getElem_of_mem hx
 rw [List.length_take] at hj
 rw [List.getElem_take, h j (by omega) (by omega)]; rfl
theorem lf_len (pr : Se → Bool) (L : List Se) (j : Nat) : (lf pr L j).length ≤ j := by
 have h1 := List.length_filter_le (fun x => !pr x) (L.take j)
 have h2 := List.length_take_le j L
 rw [lf]; omega
end Pp

set_option maxHeartbeats 1000000 in
theorem sindexFunc_any (G : List Se) (v : Value) (q g : Nat) (cb : Array Value) (pr : Se → Bool) (w : World) (hv : LiesS w v G) (hg : TellsS w q g cb pr) :
    Calls Tryz.prog 135 #[v, .func (.func g) #[] cb] w fun e w' => e = .returned (.int .i64 (Pp.idS G pr)) ∧ Below w.heap.size w w' := by
 obtain ⟨a, cap, rfl, hcap, hcap2, hLL⟩ := hv
 have HL : Hid (∀ i (h : i < G.length), ∃ b o, a = some ⟨b, o, none⟩ ∧ b < w.heap.size ∧ SeAt w b (o + i * 5) G[i]) := hLL
 have HG := ghid hg
 have eg := hg.1
 clear hLL hg
 go_enter Tryz.func135, Tryz.ntmps135
 go_wp2_with fail
 go_loopw [8] (fun i wr => ∃ k : Nat, k ≤ G.length ∧ i = .int .i64 k ∧ Hid (∀ j (h : j < G.length), j < k → pr G[j] = false) ∧ Below w.heap.size w wr) (fun i _ => G.length - (intOf i).toNat)
 case atStart => exact ⟨0, Nat.zero_le _, rfl, (fun j _ h => absurd h (Nat.not_lt_zero _) : ∀ j (h : j < G.length), j < 0 → pr G[j] = false), Below.refl _ _⟩
 case round =>
  obtain ⟨k, hk, rfl, HP, hbel⟩ := hrel
  by_cases hlt : k < G.length
  · obtain ⟨b, o, rfl, hb, he⟩ := HL.out k hlt
    obtain ⟨c0, c1, c2, c3, c4⟩ := he.below hb hbel
    go_wp2_with fail
    refine (HG.out.2 _ (Nb.below q hbel) G[k]).mono ?_
    rintro e w1 ⟨rfl, hb1⟩
    have hbel1 := below_trans hbel hb1
    clear c0 c1 c2 c3 c4 hbel hb1
    cases hp : pr G[k] with
    | true =>
     have HE := hid (show (k : Int) = Pp.idS G pr from Pp.idS_hit hlt HP.out hp)
     go_wp2_with fail
     go_ret
     exact ⟨Pp.ret_int HE.out, hbel1⟩
    | false =>
     have HP2 := hid (show ∀ j (h : j < G.length), j < k + 1 → pr G[j] = false from fun j h1 h2 => by
      by_cases e : j = k
      · subst e; exact hp
      · exact HP.out j h1 (by omega))
     go_wp2_with fail
     go_roundw
     case rel => exact ⟨k + 1, by omega, by simp, HP2, hbel1⟩
     case measure => simp [intOf]; omega
  · have HE := hid (show -1 = Pp.idS G pr from Pp.idS_miss (fun j h => HP.out j h (by omega)))
    go_wp2_with fail
    go_ret
    exact ⟨Pp.ret_int HE.out, hbel⟩
end Go.Proofs.YtchlgpeiombmdaaGreat
set_option linter.unusedSimpArgs false
set_option linter.unusedVariables false
namespace Go.Proofs.YtchlgpeiombmdaaGreat
open Go.RowKit

namespace Pp
def zeS : Se := ⟨0, ⟨#[]⟩, ⟨#[]⟩, 0, 0⟩
theorem at_mid {α : Type} {A B C : List α} {j : Nat} {x : α} (h : (A ++ B).length = j) (hC : C = x :: C.tail) : ∃ hj : j < (A ++ B ++ C).length, (A ++ B ++ C)[j] = x := by
 have hl : j < (A ++ B ++ C).length := by rw [List.length_append, h, hC]; simp
 refine ⟨hl, ?_⟩
 rw [List.getElem_append_right (by omega)]
 subst h
 simp only [Nat.sub_self]
 rw [List.getElem_of_eq hC]; rfl
theorem set_mid {α : Type} {A X C : List α} {a x y : α} : (A ++ (a :: X) ++ (x :: C)).set A.length y = A ++ [y] ++ (X ++ [x]) ++ C := by
 simp
theorem drop_hd {α : Type} {L : List α} {j : Nat} (h : j < L.length) : L.drop j = L[j] :: L.drop (j + 1) := List.drop_eq_getElem_cons h
end Pp

theorem Tryz.zeroS : ∀ w, (zeroValue 104).run Tryz.prog w = .ok (.agg #[.int .i64 0, .string ⟨#[]⟩, .string ⟨#[]⟩, .int .i64 0, .int .i64 0]) w := Tryz.zeroValue104
theorem rowS_some {w : World} {g : Nat} {d : List Se} (h : RowS w g d) {t : Nat} (ht : t < d.length * 5) : (w.cell? ⟨g, t, none⟩).isSome = true ∧ w.frozen? ⟨g, t, none⟩ = false := by
 have h1 : t / 5 < d.length := by omega
 have h2 : t / 5 * 5 + t % 5 = t := by omega
 have h3 := h.2 (t / 5) h1 (t % 5) (by omega)
 rw [h2] at h3
 refine ⟨?_, h3.2⟩
 rw [h3.1]
 have h4 : t % 5 < 5 := by omega
 match t % 5, h4 with
 | 0, _ => rfl
 | 1, _ => rfl
 | 2, _ => rfl
 | 3, _ => rfl
 | 4, _ => rfl
theorem clearS {w : World} {g : Nat} {A X : List Se} (h : RowS w g (A ++ X)) (ty : TypeId) (hX : 0 < X.length) :
    ∃ w', (∀ cap, (Builtin.clear_ #[24] ty #[.slice (some ⟨g, A.length * 5, none⟩) X.length cap]).run Tryz.prog w = .ok (.tuple #[]) w') ∧ RowS w' g A ∧ w.grownBy w' (some g) ∧ KeepB g w w' := by
 obtain ⟨z, hz⟩ : ∃ z : Value, z = .agg #[.int .i64 0, .string ⟨#[]⟩, .string ⟨#[]⟩, .int .i64 0, .int .i64 0] := ⟨_, rfl⟩
 have hzv : ∀ w, (zeroValue 104).run Tryz.prog w = .ok z w := by rw [hz]; exact Tryz.zeroS
 have hzc : z.cells = (Pp.cellsS Pp.zeS).toArray := by rw [hz]; rfl
 obtain ⟨vs, hvs⟩ : ∃ vs, vs = (Builtin.zeroCells z.cells X.length).toList := ⟨_, rfl⟩
 have hl : vs.length = X.length * 5 := by rw [hvs, hzc]; simp [Builtin.zeroCells, Pp.cellsS]
 have h1 : ∀ v ∈ vs, v.oneCell' = true := by
  intro v hv
  rw [hvs, hzc] at hv
  simp [Builtin.zeroCells] at hv
  obtain ⟨i, hi, rfl⟩ := hv
  have h4 : i % (Pp.cellsS Pp.zeS).length < 5 := Nat.mod_lt _ (by decide)
  refine Pp.cellsS_one Pp.zeS _ ?_
  have h5 : i % (Pp.cellsS Pp.zeS).length < (Pp.cellsS Pp.zeS).length := h4
  rw [List.getElem?_eq_getElem h5]
  exact List.getElem_mem h5
 have hst := run_storeCells_cells (P := Tryz.prog) g (A.length * 5) vs 0 w (fun j hj => by
  rw [Nat.add_zero]; exact (rowS_some h (by rw [List.length_append]; omega)).1) (fun j hj => by
  rw [Nat.add_zero]; exact (rowS_some h (by rw [List.length_append]; omega)).2) h1
 simp only [Nat.add_zero] at hst
 refine ⟨w.setCells g (A.length * 5) vs, ?_, ⟨Nat.lt_of_lt_of_le h.1 (Nb.setCells g _ _ w).size, fun i hi c hc => ⟨?_, ?_⟩⟩, Nb.setCells g _ _ w, KeepB.setCells g _ _ w⟩
 · intro cap
   obtain ⟨m, hm⟩ : ∃ m, X.length = m + 1 := ⟨X.length - 1, by omega⟩
   rw [hm] at hvs ⊢
   simp [Builtin.clear_, run_underlying Tryz.underlying24, hzv, ← hvs, hst]
 · have hi' : i < (A ++ X).length := by rw [List.length_append]; omega
   rw [World.cell?_setCells_out g _ _ _ _ (fun _ _ => by simp only; omega), (h.2 i hi' c hc).1, List.getElem_append_left hi]
 · rw [World.frozen?_setCells]
   exact (h.2 i (by rw [List.length_append]; omega) c hc).2
set_option maxRecDepth 100000 in
set_option maxHeartbeats 2000000 in
theorem deleteFunc_any (L : List Se) (q cap g : Nat) (cb : Array Value) (pr : Se → Bool) (w : World) (hR : RowS w q L) (hg : TellsS w q g cb pr) (hn : L.length ≤ 1000) (hcap : L.length ≤ cap) :
    Calls Tryz.prog 133 #[.slice (some ⟨q, 0, none⟩) L.length cap, .func (.func g) #[] cb] w fun e w' => e = .returned (.slice (some ⟨q, 0, none⟩) (L.filter fun x => !pr x).length cap) ∧ RowS w' q (L.filter fun x => !pr x) ∧ w.grownBy w' (some q) ∧ KeepB q w w' := by
 have HR := ghid hR
 have HG := ghid hg
 have eg := hg.1
 have HIX := ghid (fun W (hW : Below w.heap.size w W) => sindexFunc_any L _ q g cb pr W ((hR.lies hcap (by omega)).below hW) ⟨hg.1, fun W' hW' => hg.2 W' (Nb.trans (Nb.below q hW) hW')⟩)
 clear hR hg
 rcases Pp.idS_cases L pr with ⟨hi, hall⟩ | ⟨k0, hk0, hi, hp0, hpre⟩
 · have HI := ghid hi
   have hF : (L.filter fun x => !pr x) = L := by
    rw [List.filter_eq_self]; intro x hx; rw [hall x hx]; rfl
   rw [hF]
   clear hi hF hall
   go_enter Tryz.func133, Tryz.ntmps133
   go_wp2_with fail
   refine (HIX.out w (Below.refl _ _)).mono ?_
   rintro e w1 ⟨rfl, hb1⟩
   rw [HI.out]
   go_wp2
   go_ret
   exact ⟨rfl, HR.out.below hb1, Nb.below q hb1, KeepB.below hb1⟩
 · have HI := ghid hi
   have H0 := ghid (show Pp.lf pr L (k0 + 1) = L.take k0 from (Pp.lf_skip hk0 hp0).trans (Pp.lf_all (Nat.le_of_lt hk0) hpre))
   have HF := hid (show Pp.lf pr L L.length = L.filter fun x => !pr x from by rw [Pp.lf, List.take_length])
   have hkk : ((k0 : Int) == -1) = false := beq_eq_false_iff_ne.2 (by omega)
   clear hi hp0 hpre
   go_enter Tryz.func133, Tryz.ntmps133
   go_wp2_with fail
   refine (HIX.out w (Below.refl _ _)).mono ?_
   rintro e w1 ⟨rfl, hb1⟩
   rw [HI.out]
   have HB1 := ghid hb1
   clear hb1
   go_wp2_with fail
   go_loopw [5, 6] (fun a b wr => ∃ (j : Nat) (X : List Se), j ≤ L.length ∧ a = .int .i64 (Pp.lf pr L j).length ∧ b = .int .i64 j ∧ (Pp.lf pr L j).length + X.length = j ∧ 0 < X.length ∧ Hid (RowS wr q (Pp.lf pr L j ++ X ++ L.drop j)) ∧ w.grownBy wr (some q) ∧ KeepB q w wr) (fun _ b _ => L.length - (intOf b).toNat)
   case atStart =>
    have hlen : (Pp.lf pr L (k0 + 1)).length = k0 := by rw [H0.out, List.length_take]; omega
    refine ⟨k0 + 1, [L[k0]], by omega, by rw [hlen], by simp, by rw [hlen]; simp, by simp, ?_, Nb.below q HB1.out, KeepB.below HB1.out⟩
    have e : Pp.lf pr L (k0 + 1) ++ [L[k0]] ++ L.drop (k0 + 1) = L := by
     rw [H0.out, List.append_assoc, List.singleton_append, ← Pp.drop_hd hk0, List.take_append_drop]
    have : RowS w1 q (Pp.lf pr L (k0 + 1) ++ [L[k0]] ++ L.drop (k0 + 1)) := by rw [e]; exact HR.out.below HB1.out
    exact this
   case round =>
    obtain ⟨j, X, hj, rfl, rfl, hlen, hX, HROW, hnb, hkb⟩ := hrel
    have HNB := ghid hnb
    have HKB := ghid hkb
    clear hnb hkb
    by_cases hlt : j < L.length
    · obtain ⟨hjj, hget⟩ := Pp.at_mid (A := Pp.lf pr L j) (B := X) (C := L.drop j) (j := j) (x := L[j]) (by rw [List.length_append]; exact hlen) (by rw [Pp.drop_hd hlt]; rfl)
      have hat := HROW.out.at hjj
      rw [hget] at hat
      obtain ⟨c0, c1, c2, c3, c4⟩ := hat
      have hqlt := HROW.out.1
      clear hget hjj
      have HKEEP := hid (show pr L[j] = false → Pp.lf pr L (j + 1) = Pp.lf pr L j ++ [L[j]] from Pp.lf_keep hlt)
      have HSKIP := hid (show pr L[j] = true → Pp.lf pr L (j + 1) = Pp.lf pr L j from Pp.lf_skip hlt)
      have HD := ghid (Pp.drop_hd hlt)
      have hil := Pp.lf_len pr L j
      generalize L[j] = s at *
      generalize Pp.lf pr L j = A at *
      cases hp : pr s with
      | false =>
       have HK := ghid (HKEEP.out hp)
       go_wp2_with fail
       refine (HG.out.2 _ (Nb.trans HNB.out (Nb.below q ((Below.refl _ _).alloc (Nat.le_refl _) _))) s).mono ?_
       rintro e w2 ⟨rfl, hb2⟩
       rw [hp]
       obtain ⟨d0, d1, d2, d3, d4, hbw2, hlt2⟩ := bxU5 hb2
       have hrow2 := HROW.out.below hbw2
       have hil2 : A.length < (A ++ X ++ L.drop j).length := by simp only [List.length_append]; omega
       obtain ⟨y, hy⟩ : ∃ y, y = (A ++ X ++ L.drop j)[A.length] := ⟨_, rfl⟩
       obtain ⟨t0, t1, t2, t3, t4⟩ := hrow2.at hil2
       rw [← hy] at t0 t1 t2 t3 t4
       have f0 := (hrow2.2 _ hil2 0 (by decide)).2
       have f1 := (hrow2.2 _ hil2 1 (by decide)).2
       have f2 := (hrow2.2 _ hil2 2 (by decide)).2
       have f3 := (hrow2.2 _ hil2 3 (by decide)).2
       have f4 := (hrow2.2 _ hil2 4 (by decide)).2
       rw [Nat.add_zero] at f0
       have hset := hrow2.set hil2 s
       obtain ⟨a0, X', rfl⟩ : ∃ a0 X', X = a0 :: X' := by
        cases X with
        | nil => simp at hX
        | cons a0 X' => exact ⟨a0, X', rfl⟩
       rw [HD.out, Pp.set_mid] at hset
       have HROW2 := ghid hset
       have HNB2 := ghid (Nb.trans (Nb.trans HNB.out (Nb.below q hbw2)) (Nb.setCells q (Pp.cellsS s) (A.length * 5) w2))
       have HKB2 := ghid ((HKB.out.trans (KeepB.below hbw2)).trans (KeepB.setCells q (Pp.cellsS s) (A.length * 5) w2))
       clear hrow2 hb2 hset hy hbw2
       go_wp2_with fail
       go_roundw
       case rel => exact ⟨j + 1, X' ++ [s], by omega, by rw [HK.out, List.length_append]; simp, by simp, by rw [HK.out, List.length_append]; simp at hlen ⊢; omega, by simp, by rw [HK.out]; exact HROW2, HNB2.out, HKB2.out⟩
       case measure => simp [intOf]; omega
      | true =>
       have HK := ghid (HSKIP.out hp)
       go_wp2_with fail
       refine (HG.out.2 _ (Nb.trans HNB.out (Nb.below q ((Below.refl _ _).alloc (Nat.le_refl _) _))) s).mono ?_
       rintro e w2 ⟨rfl, hb2⟩
       rw [hp]
       obtain ⟨d0, d1, d2, d3, d4, hbw2, hlt2⟩ := bxU5 hb2
       have hrow2 := HROW.out.below hbw2
       rw [HD.out] at hrow2
       have HROW2 := hid (show RowS w2 q (A ++ (X ++ [s]) ++ L.drop (j + 1)) from by simpa using hrow2)
       have HNB2 := ghid (Nb.trans HNB.out (Nb.below q hbw2))
       have HKB2 := ghid (HKB.out.trans (KeepB.below hbw2))
       clear hrow2 hb2 hbw2
       go_wp2_with fail
       go_roundw
       case rel => exact ⟨j + 1, X ++ [s], by omega, by rw [HK.out], by simp, by rw [HK.out, List.length_append]; simp; omega, by simp, by rw [HK.out]; exact HROW2, HNB2.out, HKB2.out⟩
       case measure => simp [intOf]; omega
    · obtain rfl : j = L.length := by omega
      have HRW := HROW.out
      rw [List.drop_length, List.append_nil] at HRW
      rw [HF.out] at hlen HRW ⊢
      obtain ⟨wc, hcl0, hrc, hnc, hkc⟩ := clearS HRW 0 hX
      have hcl := hcl0 (cap - (L.filter fun x => !pr x).length)
      clear hcl0
      have hXl : X.length = L.length - (L.filter fun x => !pr x).length := by omega
      rw [hXl] at hcl
      have HRC := ghid hrc
      have HNC := ghid (Nb.trans HNB.out hnc)
      have HKC := ghid (HKB.out.trans hkc)
      have hfl : (L.filter fun x => !pr x).length ≤ L.length := by omega
      clear HRW hrc hnc hkc
      generalize hFF : (L.filter fun x => !pr x) = FF at *
      go_wp2_with fail
      go_ret
      exact ⟨by rw [hFF]; rfl, by rw [hFF]; exact HRC.out, HNC.out, HKC.out⟩
set_option maxHeartbeats 1000000 in
theorem deleteFunc_nil (g : Nat) (cb : Array Value) (w : World) :
    Calls Tryz.prog 133 #[.slice none 0 0, .func (.func g) #[] cb] w fun e w' => e = .returned (.slice none 0 0) ∧ Below w.heap.size w w' := by
 have hix : ∀ W, Calls Tryz.prog 135 #[.slice none 0 0, .func (.func g) #[] cb] W fun e w' => e = .returned (.int .i64 (-1)) ∧ w' = W := by
  intro W
  go_enter Tryz.func135, Tryz.ntmps135
  go_wp2_with fail
  go_loopw [8] (fun i wr => i = .int .i64 0 ∧ wr = W) (fun i _ => 0)
  case atStart => exact ⟨rfl, rfl⟩
  case round =>
   obtain ⟨rfl, rfl⟩ := hrel
   go_wp2_with fail
   go_ret
   exact ⟨rfl, rfl⟩
 go_enter Tryz.func133, Tryz.ntmps133
 go_wp2_with fail
 refine (hix _).mono ?_
 rintro e w1 ⟨rfl, hw⟩
 rw [hw]
 go_wp2
 go_ret
 exact ⟨rfl, Below.refl _ _⟩
theorem Tryz.infoSe : (Tryz.prog.info? 104).map (fun i => (i.zero, i.size, i.bytes)) = some (some (.agg #[.int .i64 0, .string ⟨#[]⟩, .string ⟨#[]⟩, .int .i64 0, .int .i64 0]), 5, 56) := by kernel_rfl
theorem liesS_cells {w : World} {b o : Nat} {L : List Se} (h : ∀ i (h : i < L.length), SeAt w b (o + i * 5) L[i]) : ∀ j u, (Pp.flatS L)[j]? = some u → w.cell? ((⟨b, o, none⟩ : Addr).add j) = some u := by
 intro j u hj
 have hjl : j < L.length * 5 := by
  have := (List.getElem?_eq_some_iff.1 hj).1
  rw [Pp.flatS_len] at this; exact this
 have h1 : j / 5 < L.length := by omega
 have h2 : j / 5 * 5 + j % 5 = j := by omega
 have h3 := Pp.flatS_get L (j / 5) (j % 5) h1 (by omega)
 rw [h2] at h3
 rw [h3] at hj
 obtain ⟨e0, e1, e2, e3, e4⟩ := h _ h1
 have ha : (⟨b, o, none⟩ : Addr).add j = ⟨b, o + j / 5 * 5 + j % 5, none⟩ := by
  rw [Addr.add_lit, Nat.add_assoc, h2]
 rw [ha]
 have h4 : j % 5 < 5 := by omega
 generalize j % 5 = c at *
 match c, h4, hj with
 | 0, _, hj => simp [Pp.cellsS] at hj; subst hj; exact e0
 | 1, _, hj => simp [Pp.cellsS] at hj; subst hj; exact e1
 | 2, _, hj => simp [Pp.cellsS] at hj; subst hj; exact e2
 | 3, _, hj => simp [Pp.cellsS] at hj; subst hj; exact e3
 | 4, _, hj => simp [Pp.cellsS] at hj; subst hj; exact e4
theorem flatS_one (L : List Se) : ∀ u ∈ Pp.flatS L, u.oneCell' = true := by
 intro u hu
 obtain ⟨s, _, hs⟩ := List.mem_flatMap.1 hu
 exact Pp.cellsS_one s u hs
/-- Nil, and no session; or sessions in memory of their own. -/
def OwnS (base : Nat) (w' : World) (u : Value) (L : List Se) : Prop := (u = .slice none 0 0 ∧ L = []) ∨ ∃ g cap, u = .slice (some ⟨g, 0, none⟩) L.length cap ∧ base ≤ g ∧ L.length ≤ cap ∧ RowS w' g L ∧ Blk w' g 104 (cap * 5) ∧ cap ≤ maxLen
set_option maxHeartbeats 1000000 in
theorem sclone_any (L : List Se) (v : Value) (w : World) (hv : LiesS w v L) (hn : L.length ≤ 1000) :
    Calls Tryz.prog 73 #[v] w fun e w' => ∃ u, e = .returned u ∧ OwnS w.heap.size w' u L ∧ Below w.heap.size w w' := by
 obtain ⟨i0, hi0, hz0, hz1, hz2⟩ := info_parts Tryz.infoSe
 obtain ⟨a, cap, rfl, hcap, hcap2, hLL⟩ := hv
 have q22 : ∀ (w : World) (a : Option Addr) (n c n' c' : Nat), (binOp .eql 24 (.slice a n c) (.slice none n' c')).run Tryz.prog w = .ok (.bool a.isNone) w := fun w a n c n' c' => Lib.run_eql_slice_nil w _ _ a n c n' c' Tryz.underlying24
 cases a with
 | none =>
  have hL : L = [] := by
   cases L with
   | nil => rfl
   | cons s r => obtain ⟨b, o, hb, _⟩ := hLL 0 (by simp); cases hb
  subst hL
  go_enter Tryz.func73, Tryz.ntmps73
  go_wp2
  go_ret
  exact ⟨_, rfl, Or.inl ⟨rfl, rfl⟩, Below.refl _ _⟩
 | some ad =>
  have hcells : ∀ j u, (Pp.flatS L)[j]? = some u → w.cell? (ad.add j) = some u := by
   cases L with
   | nil => intro j u hj; simp [Pp.flatS] at hj
   | cons s r =>
    obtain ⟨b, o, hb, _⟩ := hLL 0 (by simp)
    injection hb with hb
    subst hb
    exact liesS_cells fun i hi => by
     obtain ⟨b', o', hb', _, he⟩ := hLL i hi
     injection hb' with hb'
     injection hb' with h1 h2
     subst h1; subst h2
     exact he
  have HC := ghid hcells
  have HFL := ghid (Pp.flatS_len L)
  clear hcells hLL
  go_enter Tryz.func73, Tryz.ntmps73
  go_wp2_with (at_builtin; refine wpList_append_own _ rfl _ _ 24 rfl w.heap.size 104 i0 (.agg #[.int .i64 0, .string ⟨#[]⟩, .string ⟨#[]⟩, .int .i64 0, .int .i64 0]) 5 56 Tryz.underlying24 hi0 hz0 hz1 hz2 rfl (by decide) _ _ _ rfl (World.ownsRow_made w #[] 0 (Nat.le_refl _) (Nat.zero_le _) (by simp)) ad L.length cap (Pp.flatS L) rfl ?qc1 ?qc2 ?qc3 ?qc4 ?qc5 ?qc6 ?_)
  case qc1 => exact HFL.out
  case qc2 => intro j u hj; exact Lib.cell?_alloc_some _ (HC.out j u hj)
  case qc3 => exact flatS_one L
  case qc4 => unfold maxLen; omega
  case qc5 => omega
  case qc6 => simp
  intro v2 w2 ho2 hgr2 hnn2
  have hbel2 : Below w.heap.size w w2 := ((Below.refl _ _).alloc (Nat.le_refl _) _).grown hgr2 (by simp) (fun k hk => by simp [Value.ownBlock] at hk; omega)
  have hcl : OwnS w.heap.size w2 v2 L := by
   have ho3 : w2.ownsRow w.heap.size 104 5 v2 L.length (Pp.flatS L) := by simpa using ho2
   obtain ⟨hl, h2⟩ := ho3
   rcases h2 with ⟨rfl, hz⟩ | ⟨g, cap2, cur, rfl, hg, hh, hn2, hm, hz, htake⟩
   · exact (hnn2 rfl).elim
   · exact Or.inr ⟨g, cap2, rfl, hg, hn2, rowS_own (base := w.heap.size) (T := 104) (cap := cap2) (n := L.length) (by simpa using ho2) rfl, ⟨cur, hh, hz⟩, hm⟩
  have HCL := ghid hcl
  clear ho2 hgr2 hnn2 hcl
  go_wp2_with fail
  go_ret
  exact ⟨_, rfl, HCL.out, hbel2⟩
end Go.Proofs.YtchlgpeiombmdaaGreat
set_option linter.unusedSimpArgs false
set_option linter.unusedVariables false
namespace Go.Proofs.YtchlgpeiombmdaaGreat
open Go.RowKit

theorem OwnS.below {B : Nat} {w w' : World} {u : Value} {L : List Se} (h : OwnS B w u L) (hw : Below w.heap.size w w') : OwnS B w' u L := by
 rcases h with h | ⟨g, cap, h1, h2, h3, h4⟩
 · exact Or.inl h
 · exact Or.inr ⟨g, cap, h1, h2, h3, h4.1.below hw, h4.2.1.below hw, h4.2.2⟩
theorem OwnS.lies {B : Nat} {w : World} {u : Value} {L : List Se} (h : OwnS B w u L) (hn : L.length ≤ 1000) : LiesS w u L := by
 rcases h with ⟨rfl, rfl⟩ | ⟨g, cap, rfl, h2, h3, h4⟩
 · exact liesS_nil _
 · exact h4.1.lies h3 (by omega)
theorem OwnS.mono {B B' : Nat} {w : World} {u : Value} {L : List Se} (h : OwnS B w u L) (hB : B' ≤ B) : OwnS B' w u L := by
 rcases h with h | ⟨g, cap, h1, h2, h3, h4⟩
 · exact Or.inl h
 · exact Or.inr ⟨g, cap, h1, Nat.le_trans hB h2, h3, h4⟩
namespace Pp
/-- Is a session over? -/
def ovr (now : Int) (s : Se) : Bool := decide (s.ti < now)
/-- Those that are not over. -/
def swL (now : Int) (G : List Se) : List Se := G.filter fun s => !ovr now s
def goE (G : List Se) (x l r now : Int) (ns : List ByteArray) : Int := if uchE G x l r = 0 then (if inR 0 now 1099511627776 = true then nmsE ns else 3) else uchE G x l r
theorem go_cases (G : List Se) (x l r now : Int) (ns : List ByteArray) : (¬ uchE G x l r = 0 ∧ goE G x l r now ns = uchE G x l r) ∨ (uchE G x l r = 0 ∧ inR 0 now 1099511627776 = false ∧ goE G x l r now ns = 3) ∨ (uchE G x l r = 0 ∧ inR 0 now 1099511627776 = true ∧ nmsE ns = 1 ∧ goE G x l r now ns = 1) ∨ (uchE G x l r = 0 ∧ inR 0 now 1099511627776 = true ∧ nmsE ns = 0 ∧ goE G x l r now ns = 0) := by
 by_cases h : uchE G x l r = 0
 · right
   cases h2 : inR 0 now 1099511627776 with
   | false => left; exact ⟨h, rfl, by rw [goE, if_pos h, h2]; rfl⟩
   | true =>
    right
    have h3 : nmsE ns = 0 ∨ nmsE ns = 1 := by
     rw [nmsE]; split
     · exact Or.inl rfl
     · exact Or.inr rfl
    rcases h3 with h3 | h3
    · right; exact ⟨h, rfl, h3, by rw [goE, if_pos h, h2, if_pos rfl, h3]⟩
    · left; exact ⟨h, rfl, h3, by rw [goE, if_pos h, h2, if_pos rfl, h3]⟩
 · left; exact ⟨h, by rw [goE, if_neg h]⟩
theorem swL_len (now : Int) (G : List Se) : (swL now G).length ≤ G.length := List.length_filter_le _ _
end Pp

set_option maxHeartbeats 1000000 in
theorem names_nil (w : World) : Calls Tryz.prog 50 #[.slice none 0 0] w fun e w' => e = .returned (.int .i64 (Pp.nmsE [])) ∧ Below w.heap.size w w' := by
 go_enter Tryz.func50, Tryz.ntmps50
 go_wp2_with fail
 go_loopw [9] (fun i wr => i = .int .i64 0 ∧ wr = w) (fun i _ => 0)
 case atStart => exact ⟨rfl, rfl⟩
 case round =>
  obtain ⟨rfl, rfl⟩ := hrel
  go_wp2_with fail
  go_ret
  exact ⟨rfl, Below.refl _ _⟩
set_option maxHeartbeats 1000000 in
theorem going1_any (s : Se) (now : Int) (b : Nat) (w : World) (hb : b < w.heap.size) (hc : w.cell? ⟨b, 0, none⟩ = some (.int .i64 now)) :
    Calls Tryz.prog 134 #[.agg #[.int .i64 s.nu, .string s.wh, .string s.tx, .int .i64 s.si, .int .i64 s.ti], .pointer (some ⟨b, 0, none⟩)] w fun r w' => r = .returned (.bool (Pp.ovr now s)) ∧ Below w.heap.size w w' := by
 have hc2 : ∀ o, (w.alloc o).cell? ⟨b, 0, none⟩ = some (.int .i64 now) := fun o => (((Below.refl w.heap.size w).alloc (Nat.le_refl _) o).cell (p := ⟨b, 0, none⟩) hb).trans hc
 have HE : Hid (decide (s.ti < now) = Pp.ovr now s) := rfl
 go_enter Tryz.func134, Tryz.ntmps134
 go_wp2
 go_ret
 exact ⟨Pp.ret_bool HE.out, (Below.refl _ _).alloc (Nat.le_refl _) _⟩
/-- A row of names that is handed to a variadic function: nil, or in a block. -/
def Nms (w : World) (v : Value) (ns : List ByteArray) : Prop := (v = .slice none 0 0 ∧ ns = []) ∨ ∃ g cap, v = .slice (some ⟨g, 0, none⟩) ns.length cap ∧ g < w.heap.size ∧ ∀ i (h : i < ns.length), w.cell? ⟨g, 0 + i, none⟩ = some (.string ns[i])
theorem Nms.below {w w' : World} {v : Value} {ns : List ByteArray} (h : Nms w v ns) (hw : Below w.heap.size w w') : Nms w' v ns := by
 rcases h with h | ⟨g, cap, h1, h2, h3⟩
 · exact Or.inl h
 · exact Or.inr ⟨g, cap, h1, Nat.lt_of_lt_of_le h2 hw.size, fun i hi => (hw.cell (p := ⟨g, 0 + i, none⟩) h2).trans (h3 i hi)⟩
theorem unames_any (ns : List ByteArray) (v : Value) (w : World) (hv : Nms w v ns) (hs : ∀ s ∈ ns, s.size ≤ 150000000000000) (hl : ns.length ≤ 1000) :
    Calls Tryz.prog 50 #[v] w fun e w' => e = .returned (.int .i64 (Pp.nmsE ns)) ∧ Below w.heap.size w w' := by
 rcases hv with ⟨rfl, rfl⟩ | ⟨g, cap, rfl, h2, h3⟩
 · exact names_nil w
 · exact names_any ns g 0 cap w h2 (fun i h => Nat.le_trans (hs _ (List.getElem_mem h)) (by decide)) hl h3
/-- A box of four cells that may be written. -/
theorem RowS.nb {W W' : World} {g b : Nat} {d : List Se} (h : RowS W g d) (hw : W.grownBy W' (some b)) (hne : g ≠ b) : RowS W' g d :=
 ⟨Nat.lt_of_lt_of_le h.1 hw.size, fun i hi c hc => ⟨(Nb.cell hw (p := ⟨g, i * 5 + c, none⟩) h.1 hne).trans (h.2 i hi c hc).1, (Nb.frozen hw (p := ⟨g, i * 5 + c, none⟩) h.1 hne).trans (h.2 i hi c hc).2⟩⟩
theorem Nb.set4 (W : World) (b : Nat) (a0 a1 a2 a3 : Value) : W.grownBy ((((W.setCell ⟨b, 0, none⟩ a0).setCell ⟨b, 1, none⟩ a1).setCell ⟨b, 2, none⟩ a2).setCell ⟨b, 3, none⟩ a3) (some b) :=
 Nb.trans (Nb.trans (Nb.trans (Nb.setCell W b 0 a0) (Nb.setCell _ b 1 a1)) (Nb.setCell _ b 2 a2)) (Nb.setCell _ b 3 a3)
set_option maxRecDepth 100000 in
set_option maxHeartbeats 2000000 in
theorem going_any (G : List Se) (v : Value) (x l r now : Int) (ns : List ByteArray) (nv : Value) (w : World) (hv : LiesS w v G) (hs : SizedS G) (hnv : Nms w nv ns) (hns : ∀ s ∈ ns, s.size ≤ 150000000000000) (hnl : ns.length ≤ 1000) :
    Calls Tryz.prog 110 #[.agg #[v, .int .i64 x, .int .i64 l, .int .i64 r], .int .i64 now, nv] w fun e w' => (¬ Pp.goE G x l r now ns = 0 ∧ e = .returned (.tuple #[.agg #[.slice none 0 0, .int .i64 0, .int .i64 0, .int .i64 0], .int .i64 (Pp.goE G x l r now ns)]) ∧ Below w.heap.size w w') ∨
     (Pp.goE G x l r now ns = 0 ∧ ∃ u, e = .returned (.tuple #[.agg #[u, .int .i64 x, .int .i64 l, .int .i64 r], .int .i64 0]) ∧ OwnS w.heap.size w' u (Pp.swL now G) ∧ Below w.heap.size w w') := by
 have HV := ghid hv
 have HS := ghid hs
 have HN := ghid hnv
 clear hv hs hnv
 obtain ⟨w3, hw3⟩ : ∃ w3, w3 = ((w.alloc (.cells #[v, .int .i64 x, .int .i64 l, .int .i64 r] 26)).alloc (.cells #[.int .i64 now] 3)).alloc (.cells #[.slice none 0 0, .int .i64 0, .int .i64 0, .int .i64 0] 26) := ⟨_, rfl⟩
 have B3 := hid (show Below w.heap.size w w3 from by rw [hw3]; exact (((Below.refl _ _).alloc (Nat.le_refl _) _).alloc (by simp) _).alloc (by simp; omega) _)
 have HU3 := hid (show Bx w3 w.heap.size v (.int .i64 x) (.int .i64 l) (.int .i64 r) from by rw [hw3]; exact ((Bx.new w _ _ _ _ _).below ((Below.refl _ _).alloc (Nat.le_refl _) _)).below ((Below.refl _ _).alloc (Nat.le_refl _) _))
 have HR3 := hid (show Bx w3 (w.heap.size + 2) (.slice none 0 0) (.int .i64 0) (.int .i64 0) (.int .i64 0) from by
  have := Bx.new ((w.alloc (.cells #[v, .int .i64 x, .int .i64 l, .int .i64 r] 26)).alloc (.cells #[.int .i64 now] 3)) (.slice none 0 0) (.int .i64 0) (.int .i64 0) (.int .i64 0) 26
  rw [hw3]; simpa using this)
 have HN3 := hid (show w3.cell? ⟨w.heap.size + 1, 0, none⟩ = some (.int .i64 now) from by rw [hw3]; simp [go_sem])
 have hsz3 : w3.heap.size = w.heap.size + 3 := by rw [hw3]; simp
 rcases Pp.go_cases G x l r now ns with ⟨h0, hE⟩ | ⟨h0, h1, hE⟩ | ⟨h0, h1, h2, hE⟩ | ⟨h0, h1, h2, hE⟩
 · have HE := ghid hE
   have hz : (Pp.uchE G x l r == 0) = false := by simpa using h0
   have HNZ := ghid h0
   clear hE h0
   go_enter Tryz.func110, Tryz.ntmps110
   go_wp2_with fail
   rw [← hw3]
   clear hw3
   refine (ucheck_any G _ x l r _ (HV.out.below B3.out) HS.out).mono ?_
   rintro e w4 ⟨rfl, hb4⟩
   have hR := HR3.out.below hb4
   have hb04 := B3.out.trans (hb4.mono B3.out.size)
   obtain ⟨hRb, ⟨c0, c1, c2, c3⟩, f0, f1, f2, f3⟩ := hR
   clear hb4
   generalize Pp.uchE G x l r = y at *
   go_wp2_with fail
   refine bodyPost_ret (v := .tuple #[.agg #[.slice none 0 0, .int .i64 0, .int .i64 0, .int .i64 0], .int .i64 y]) (by simp [results, Tryz.results110, go_sem, c0, c1, c2, c3, hRb]) rfl (Or.inl ⟨by rw [HE.out]; exact HNZ.out, by rw [HE.out], ?_⟩)
   exact below_set4 hb04 (by omega)
 · have HE := ghid hE
   have H0 := ghid h0
   have H1 := ghid h1
   clear hE h0 h1
   go_enter Tryz.func110, Tryz.ntmps110
   go_wp2_with fail
   rw [← hw3]
   clear hw3
   refine (ucheck_any G _ x l r _ (HV.out.below B3.out) HS.out).mono ?_
   rintro e w4 ⟨rfl, hb4⟩
   rw [H0.out]
   have hR := HR3.out.below hb4
   have hU := HU3.out.below hb4
   have hb04 := B3.out.trans (hb4.mono B3.out.size)
   have n4 := (hb4.cell (p := ⟨w.heap.size + 1, 0, none⟩) (by show w.heap.size + 1 < w3.heap.size; omega)).trans HN3.out
   have hsz4 := hb4.size
   clear hb4
   go_wp2_with fail
   refine (isFrom_any 0 now 1099511627776 _).mono ?_
   rintro e w5 ⟨rfl, hw⟩
   rw [hw, H1.out]
   clear hw w5
   obtain ⟨hRb, ⟨c0, c1, c2, c3⟩, f0, f1, f2, f3⟩ := hR
   go_wp2_with fail
   refine bodyPost_ret (v := .tuple #[.agg #[.slice none 0 0, .int .i64 0, .int .i64 0, .int .i64 0], .int .i64 3]) (by simp [results, Tryz.results110, go_sem, c0, c1, c2, c3, hRb]) rfl (Or.inl ⟨by rw [HE.out]; decide, by rw [HE.out], ?_⟩)
   exact below_set4 hb04 (by omega)
 · have HE := ghid hE
   have H0 := ghid h0
   have H1 := ghid h1
   have H2 := ghid h2
   clear hE h0 h1 h2
   go_enter Tryz.func110, Tryz.ntmps110
   go_wp2_with fail
   rw [← hw3]
   clear hw3
   refine (ucheck_any G _ x l r _ (HV.out.below B3.out) HS.out).mono ?_
   rintro e w4 ⟨rfl, hb4⟩
   rw [H0.out]
   have hR := HR3.out.below hb4
   have hU := HU3.out.below hb4
   have hb04 := B3.out.trans (hb4.mono B3.out.size)
   have n4 := (hb4.cell (p := ⟨w.heap.size + 1, 0, none⟩) (by show w.heap.size + 1 < w3.heap.size; omega)).trans HN3.out
   have hsz4 := hb4.size
   clear hb4
   go_wp2_with fail
   refine (isFrom_any 0 now 1099511627776 _).mono ?_
   rintro e w5 ⟨rfl, hw⟩
   rw [hw, H1.out]
   clear hw w5
   go_wp2_with fail
   refine (unames_any ns nv _ (HN.out.below hb04) hns hnl).mono ?_
   rintro e w5 ⟨rfl, hb5⟩
   rw [H2.out]
   have hR5 := hR.below hb5
   have hU5 := hU.below hb5
   have hb05 := below_trans hb04 hb5
   have n5 := (hb5.cell (p := ⟨w.heap.size + 1, 0, none⟩) (by show w.heap.size + 1 < w4.heap.size; omega)).trans n4
   have hsz5 := hb5.size
   clear hb5 hR hU n4 hb04
   obtain ⟨hRb, ⟨c0, c1, c2, c3⟩, f0, f1, f2, f3⟩ := hR5
   go_wp2_with fail
   refine bodyPost_ret (v := .tuple #[.agg #[.slice none 0 0, .int .i64 0, .int .i64 0, .int .i64 0], .int .i64 1]) (by simp [results, Tryz.results110, go_sem, c0, c1, c2, c3, hRb]) rfl (Or.inl ⟨by rw [HE.out]; decide, by rw [HE.out], ?_⟩)
   exact below_set4 hb05 (by omega)
 · have HE := ghid hE
   have H0 := ghid h0
   have H1 := ghid h1
   have H2 := ghid h2
   obtain ⟨hl20, _⟩ := Pp.bnd_zero (Pp.uch_zero h0).1
   clear hE h0 h1 h2
   go_enter Tryz.func110, Tryz.ntmps110
   go_wp2_with fail
   rw [← hw3]
   clear hw3
   refine (ucheck_any G _ x l r _ (HV.out.below B3.out) HS.out).mono ?_
   rintro e w4 ⟨rfl, hb4⟩
   rw [H0.out]
   have hR := HR3.out.below hb4
   have hU := HU3.out.below hb4
   have hb04 := B3.out.trans (hb4.mono B3.out.size)
   have n4 := (hb4.cell (p := ⟨w.heap.size + 1, 0, none⟩) (by show w.heap.size + 1 < w3.heap.size; omega)).trans HN3.out
   have hsz4 := hb4.size
   clear hb4
   go_wp2_with fail
   refine (isFrom_any 0 now 1099511627776 _).mono ?_
   rintro e w5 ⟨rfl, hw⟩
   rw [hw, H1.out]
   clear hw w5
   go_wp2_with fail
   refine (unames_any ns nv _ (HN.out.below hb04) hns hnl).mono ?_
   rintro e w5 ⟨rfl, hb5⟩
   rw [H2.out]
   have hR5 := hR.below hb5
   have hU5 := hU.below hb5
   have hb05 := below_trans hb04 hb5
   have n5 := (hb5.cell (p := ⟨w.heap.size + 1, 0, none⟩) (by show w.heap.size + 1 < w4.heap.size; omega)).trans n4
   have hsz5 := hb5.size
   clear hb5 hR hU n4 hb04
   have hU5k := hU5
   obtain ⟨hUb, ⟨u0, u1, u2, u3⟩, g0, g1, g2, g3⟩ := hU5
   go_wp2_with fail
   refine (sclone_any G _ _ (HV.out.below hb05) (by omega)).mono ?_
   rintro e w6 ⟨uc, rfl, hown, hb6⟩
   have hR6 := hR5.below hb6
   have hU6 := hU5k.below hb6
   have hb06 := below_trans hb05 hb6
   have n6 := (hb6.cell (p := ⟨w.heap.size + 1, 0, none⟩) (by show w.heap.size + 1 < w5.heap.size; omega)).trans n5
   have hsz6 := hb6.size
   have HOWN := ghid hown
   clear hb6 hR5 hU5k n5 hb05 hUb u0 u1 u2 u3 g0 g1 g2 g3 hown
   rcases HOWN.out with ⟨rfl, hG⟩ | ⟨g, cap, rfl, hgb, hgc, hrow, hblk, hcm⟩
   · have HSW := hid (show Pp.swL now G = [] from by rw [hG]; rfl)
     clear hG HOWN
     go_wp2_with fail
     refine (deleteFunc_nil _ _ _).mono ?_
     rintro e w7 ⟨rfl, hb7⟩
     have hR7 := hR6.below hb7
     have hU7 := hU6.below hb7
     have hb07 := below_trans hb06 hb7
     clear hb7 hR6 hU6 hb06
     obtain ⟨hUb, ⟨u0, u1, u2, u3⟩, g0, g1, g2, g3⟩ := hU7
     obtain ⟨hRb, ⟨c0, c1, c2, c3⟩, f0, f1, f2, f3⟩ := hR7
     go_wp2_with fail
     refine bodyPost_ret (v := .tuple #[.agg #[.slice none 0 0, .int .i64 x, .int .i64 l, .int .i64 r], .int .i64 0]) (by simp [results, Tryz.results110, go_sem, c0, c1, c2, c3, u0, u1, u2, u3, hRb, hUb]) rfl (Or.inr ⟨HE.out, _, rfl, ?_, ?_⟩)
     · rw [HSW.out]; exact Or.inl ⟨rfl, rfl⟩
     · exact below_set4 (hb07.setCell (p := ⟨w.heap.size, 0, none⟩) (Nat.le_refl _) _) (by omega)
   · have hTell : TellsS w6 g 134 #[.pointer (some ⟨w.heap.size + 1, 0, none⟩)] (Pp.ovr now) :=
      ⟨enters_of Tryz.func134 (by kernel_rfl) rfl, fun W hW s => going1_any s now (w.heap.size + 1) W (Nat.lt_of_lt_of_le (by omega) hW.size) ((Nb.cell hW (p := ⟨w.heap.size + 1, 0, none⟩) (by show w.heap.size + 1 < w6.heap.size; omega) (by show w.heap.size + 1 ≠ g; omega)).trans n6)⟩
     have HT := ghid hTell
     have HROW := ghid hrow
     clear hTell hrow HOWN
     go_wp2_with fail
     refine (deleteFunc_any G g cap _ _ (Pp.ovr now) _ HROW.out HT.out (by omega) hgc).mono ?_
     rintro e w7 ⟨rfl, hrow7, hnb7, hkb7⟩
     have hblk7 := hkb7 _ _ hblk
     have hR7 := hR6.nb hnb7 (by omega)
     have hU7 := hU6.nb hnb7 (by omega)
     have hb07 : Below w.heap.size w w7 := hb06.trans (Nb.to hnb7 hb06.size (by omega))
     have HROW7 := ghid hrow7
     have hfl : (G.filter fun s => !Pp.ovr now s).length ≤ G.length := List.length_filter_le _ _
     have HBLK7 := ghid hblk7
     clear hnb7 hR6 hU6 hb06 hrow7 hkb7 hblk hblk7
     obtain ⟨hUb, ⟨u0, u1, u2, u3⟩, g0, g1, g2, g3⟩ := hU7
     obtain ⟨hRb, ⟨c0, c1, c2, c3⟩, f0, f1, f2, f3⟩ := hR7
     go_wp2_with fail
     refine bodyPost_ret (v := .tuple #[.agg #[.slice (some ⟨g, 0, none⟩) (G.filter fun s => !Pp.ovr now s).length cap, .int .i64 x, .int .i64 l, .int .i64 r], .int .i64 0]) (by simp [results, Tryz.results110, go_sem, c0, c1, c2, c3, u0, u1, u2, u3, hRb, hUb]) rfl (Or.inr ⟨HE.out, _, rfl, ?_, ?_⟩)
     · exact Or.inr ⟨g, cap, rfl, by omega, Nat.le_trans hfl hgc, (HROW7.out.nb (Nb.setCell w7 w.heap.size 0 _) (by omega)).nb (Nb.set4 _ (w.heap.size + 2) _ _ _ _) (by omega), (HBLK7.out.nb (Nb.setCell w7 w.heap.size 0 _) (by omega)).nb (Nb.set4 _ (w.heap.size + 2) _ _ _ _) (by omega), hcm⟩
     · exact below_set4 (hb07.setCell (p := ⟨w.heap.size, 0, none⟩) (Nat.le_refl _) _) (by omega)
end Go.Proofs.YtchlgpeiombmdaaGreat
set_option linter.unusedSimpArgs false
set_option linter.unusedVariables false
namespace Go.Proofs.YtchlgpeiombmdaaGreat
open Go.RowKit

namespace Pp
/-- Open, where going has no error. -/
def opE (G : List Se) (x l r : Int) (p : ByteArray) (size now : Int) : Int := if ¬ goE G x l r now [p] = 0 then goE G x l r now [p] else if size < 0 ∨ 300 < size ∨ 1099511627776 ≤ x then 3 else if 20 ≤ (swL now G).length then 2 else if r < takS (swL now G) p + size then 10 else 0
theorem op_cases (G : List Se) (x l r : Int) (p : ByteArray) (size now : Int) : (¬ goE G x l r now [p] = 0 ∧ opE G x l r p size now = goE G x l r now [p]) ∨
    (goE G x l r now [p] = 0 ∧ size < 0 ∧ opE G x l r p size now = 3) ∨ (goE G x l r now [p] = 0 ∧ 0 ≤ size ∧ 300 < size ∧ opE G x l r p size now = 3) ∨ (goE G x l r now [p] = 0 ∧ 0 ≤ size ∧ size ≤ 300 ∧ 1099511627776 ≤ x ∧ opE G x l r p size now = 3) ∨
    (goE G x l r now [p] = 0 ∧ 0 ≤ size ∧ size ≤ 300 ∧ x < 1099511627776 ∧ 20 ≤ (swL now G).length ∧ opE G x l r p size now = 2) ∨ (goE G x l r now [p] = 0 ∧ 0 ≤ size ∧ size ≤ 300 ∧ x < 1099511627776 ∧ (swL now G).length < 20 ∧ r < takS (swL now G) p + size ∧ opE G x l r p size now = 10) ∨
    (goE G x l r now [p] = 0 ∧ 0 ≤ size ∧ size ≤ 300 ∧ x < 1099511627776 ∧ (swL now G).length < 20 ∧ takS (swL now G) p + size ≤ r ∧ opE G x l r p size now = 0) := by
 by_cases h0 : goE G x l r now [p] = 0
 · right
   have e : opE G x l r p size now = if size < 0 ∨ 300 < size ∨ 1099511627776 ≤ x then 3 else if 20 ≤ (swL now G).length then 2 else if r < takS (swL now G) p + size then 10 else 0 := by rw [opE, if_neg (fun k => k h0)]
   by_cases h1 : size < 0
   · left; exact ⟨h0, h1, by rw [e, if_pos (Or.inl h1)]⟩
   · right
     by_cases h2 : 300 < size
     · left; exact ⟨h0, by omega, h2, by rw [e, if_pos (Or.inr (Or.inl h2))]⟩
     · right
       by_cases h3 : 1099511627776 ≤ x
       · left; exact ⟨h0, by omega, by omega, h3, by rw [e, if_pos (Or.inr (Or.inr h3))]⟩
       · right
         rw [if_neg (by omega)] at e
         by_cases h4 : 20 ≤ (swL now G).length
         · left; exact ⟨h0, by omega, by omega, by omega, h4, by rw [e, if_pos h4]⟩
         · right
           rw [if_neg h4] at e
           by_cases h5 : r < takS (swL now G) p + size
           · left; exact ⟨h0, by omega, by omega, by omega, by omega, h5, by rw [e, if_pos h5]⟩
           · right; exact ⟨h0, by omega, by omega, by omega, by omega, by omega, by rw [e, if_neg h5]⟩
 · left; exact ⟨h0, by rw [opE, if_pos h0]⟩
theorem go_zero {G : List Se} {x l r now : Int} {ns : List ByteArray} (h : goE G x l r now ns = 0) : uchE G x l r = 0 ∧ (0 ≤ now ∧ now ≤ 1099511627776) ∧ nmsE ns = 0 := by
 rcases go_cases G x l r now ns with ⟨h0, hE⟩ | ⟨h0, h1, hE⟩ | ⟨h0, h1, h2, hE⟩ | ⟨h0, h1, h2, hE⟩
 · rw [h] at hE; exact absurd hE.symm h0
 · rw [h] at hE; cases hE
 · rw [h] at hE; cases hE
 · exact ⟨h0, inR_yes h1, h2⟩
def newS (x : Int) (p : ByteArray) (size till : Int) : Se := ⟨x, p, ⟨#[]⟩, size, till⟩
end Pp
end Go.Proofs.YtchlgpeiombmdaaGreat
set_option linter.unusedSimpArgs false
set_option linter.unusedVariables false
namespace Go.Proofs.YtchlgpeiombmdaaGreat
open Go.RowKit

set_option maxRecDepth 100000 in
set_option maxHeartbeats 4000000 in
theorem open_e1 (G : List Se) (v : Value) (x l r : Int) (p : ByteArray) (size now : Int) (w : World) (hv : LiesS w v G) (hs : SizedS G) (hp : p.size ≤ 150000000000000) (h0 : ¬ Pp.goE G x l r now [p] = 0) :
    Calls Tryz.prog 81 #[.agg #[v, .int .i64 x, .int .i64 l, .int .i64 r], .string p, .int .i64 size, .int .i64 now] w fun e w' => e = .returned (.tuple #[.agg #[.slice none 0 0, .int .i64 0, .int .i64 0, .int .i64 0], .int .i64 0, .int .i64 (Pp.goE G x l r now [p])]) ∧ Below w.heap.size w w' := by
 have HV := ghid hv
 have HS := ghid hs
 clear hv hs
 obtain ⟨w3, hw3⟩ : ∃ w3, w3 = ((w.alloc (.cells #[v, .int .i64 x, .int .i64 l, .int .i64 r] 26)).alloc (.cells #[.slice none 0 0, .int .i64 0, .int .i64 0, .int .i64 0] 26)).alloc (.cells #[.string p] 9) := ⟨_, rfl⟩
 have B3 := hid (show Below w.heap.size w w3 from by rw [hw3]; exact (((Below.refl _ _).alloc (Nat.le_refl _) _).alloc (by simp) _).alloc (by simp; omega) _)
 have HR3 := hid (show Bx w3 (w.heap.size + 1) (.slice none 0 0) (.int .i64 0) (.int .i64 0) (.int .i64 0) from by
  have := (Bx.new (w.alloc (.cells #[v, .int .i64 x, .int .i64 l, .int .i64 r] 26)) (.slice none 0 0) (.int .i64 0) (.int .i64 0) (.int .i64 0) 26).below ((Below.refl _ _).alloc (Nat.le_refl _) (.cells #[.string p] 9))
  rw [hw3]; simpa using this)
 have HN3 := hid (show Nms w3 (.slice (some ⟨w.heap.size + 2, 0, none⟩) 1 1) [p] from Or.inr ⟨w.heap.size + 2, 1, rfl, by rw [hw3]; simp, fun i hi => by
  match i, hi with
  | 0, _ => rw [hw3]; simp [go_sem]⟩)
 have hsz3 : w3.heap.size = w.heap.size + 3 := by rw [hw3]; simp
 have hns : ∀ s ∈ [p], s.size ≤ 150000000000000 := fun s h => by rw [List.mem_singleton.1 h]; exact hp
 have HNZ := ghid h0
 have hz : (Pp.goE G x l r now [p] == 0) = false := by simpa using h0
 clear h0
 go_enter Tryz.func81, Tryz.ntmps81
 go_wp2_with fail
 rw [← hw3]
 clear hw3
 refine (going_any G _ x l r now [p] _ _ (HV.out.below B3.out) HS.out HN3.out hns (by simp)).mono ?_
 rintro e w4 (⟨_, rfl, hb4⟩ | ⟨hh, _⟩)
 rotate_left
 · exact absurd hh HNZ.out
 have hb04 := B3.out.trans (hb4.mono B3.out.size)
 obtain ⟨hRb, ⟨c0, c1, c2, c3⟩, f0, f1, f2, f3⟩ := HR3.out.below hb4
 have hsz4 := hb4.size
 clear hb4
 generalize hy : Pp.goE G x l r now [p] = y at *
 go_wp2_with fail
 refine bodyPost_ret (v := .tuple #[.agg #[.slice none 0 0, .int .i64 0, .int .i64 0, .int .i64 0], .int .i64 0, .int .i64 y]) (by simp [results, Tryz.results81, go_sem, c0, c1, c2, c3, hRb]) rfl ⟨by rw [hy], ?_⟩
 exact (below_set4 (b := w.heap.size + 1) (hb04) (by omega)).alloc (by simp; omega) _
set_option maxRecDepth 100000 in
set_option maxHeartbeats 4000000 in
theorem open_e2 (G : List Se) (v : Value) (x l r : Int) (p : ByteArray) (size now : Int) (w : World) (hv : LiesS w v G) (hs : SizedS G) (hp : p.size ≤ 150000000000000) (h0 : Pp.goE G x l r now [p] = 0) (h1 : size < 0) :
    Calls Tryz.prog 81 #[.agg #[v, .int .i64 x, .int .i64 l, .int .i64 r], .string p, .int .i64 size, .int .i64 now] w fun e w' => e = .returned (.tuple #[.agg #[.slice none 0 0, .int .i64 0, .int .i64 0, .int .i64 0], .int .i64 0, .int .i64 3]) ∧ Below w.heap.size w w' := by
 have HV := ghid hv
 have HS := ghid hs
 clear hv hs
 obtain ⟨w3, hw3⟩ : ∃ w3, w3 = ((w.alloc (.cells #[v, .int .i64 x, .int .i64 l, .int .i64 r] 26)).alloc (.cells #[.slice none 0 0, .int .i64 0, .int .i64 0, .int .i64 0] 26)).alloc (.cells #[.string p] 9) := ⟨_, rfl⟩
 have B3 := hid (show Below w.heap.size w w3 from by rw [hw3]; exact (((Below.refl _ _).alloc (Nat.le_refl _) _).alloc (by simp) _).alloc (by simp; omega) _)
 have HR3 := hid (show Bx w3 (w.heap.size + 1) (.slice none 0 0) (.int .i64 0) (.int .i64 0) (.int .i64 0) from by
  have := (Bx.new (w.alloc (.cells #[v, .int .i64 x, .int .i64 l, .int .i64 r] 26)) (.slice none 0 0) (.int .i64 0) (.int .i64 0) (.int .i64 0) 26).below ((Below.refl _ _).alloc (Nat.le_refl _) (.cells #[.string p] 9))
  rw [hw3]; simpa using this)
 have HN3 := hid (show Nms w3 (.slice (some ⟨w.heap.size + 2, 0, none⟩) 1 1) [p] from Or.inr ⟨w.heap.size + 2, 1, rfl, by rw [hw3]; simp, fun i hi => by
  match i, hi with
  | 0, _ => rw [hw3]; simp [go_sem]⟩)
 have hsz3 : w3.heap.size = w.heap.size + 3 := by rw [hw3]; simp
 have hns : ∀ s ∈ [p], s.size ≤ 150000000000000 := fun s h => by rw [List.mem_singleton.1 h]; exact hp
 have H0 := ghid h0
 obtain ⟨huc, ⟨hn1, hn2⟩, _⟩ := Pp.go_zero h0
 obtain ⟨hl20, ⟨hl1, hl2⟩, ⟨hr1, hr2⟩, hx1, hx2⟩ := Pp.bnd_zero (Pp.uch_zero huc).1
 have hsw := Pp.swL_len now G
 have HSI := hid (show ∀ s ∈ Pp.swL now G, 0 ≤ s.si ∧ s.si ≤ 300 from fun s h => Pp.ses_si (Pp.uch_zero huc).2.1 s (List.mem_filter.1 h).1)
 clear h0 huc
 go_enter Tryz.func81, Tryz.ntmps81
 go_wp2_with fail
 rw [← hw3]
 clear hw3
 refine (going_any G _ x l r now [p] _ _ (HV.out.below B3.out) HS.out HN3.out hns (by simp)).mono ?_
 rintro e w4 (⟨hne, _⟩ | ⟨_, u, rfl, hown, hb4⟩)
 · exact absurd H0.out hne
 have hb04 := B3.out.trans (hb4.mono B3.out.size)
 have hR4 := HR3.out.below hb4
 have hsz4 := hb4.size
 have HOWN := ghid hown
 clear hb4 hown
 obtain ⟨a4, cap4, rfl, hc4, _, _⟩ := HOWN.out.lies (by omega)
 obtain ⟨hRb, ⟨c0, c1, c2, c3⟩, f0, f1, f2, f3⟩ := hR4
 go_wp2_with fail
 refine bodyPost_ret (v := .tuple #[.agg #[.slice none 0 0, .int .i64 0, .int .i64 0, .int .i64 0], .int .i64 0, .int .i64 3]) (by simp [results, Tryz.results81, go_sem, c0, c1, c2, c3, hRb]) rfl ⟨rfl, ?_⟩
 exact (below_set4 (b := w.heap.size + 1) (hb04) (by omega)).alloc (by simp; omega) _
set_option maxRecDepth 100000 in
set_option maxHeartbeats 4000000 in
theorem open_e3 (G : List Se) (v : Value) (x l r : Int) (p : ByteArray) (size now : Int) (w : World) (hv : LiesS w v G) (hs : SizedS G) (hp : p.size ≤ 150000000000000) (h0 : Pp.goE G x l r now [p] = 0) (h1 : 0 ≤ size) (h2 : 300 < size) :
    Calls Tryz.prog 81 #[.agg #[v, .int .i64 x, .int .i64 l, .int .i64 r], .string p, .int .i64 size, .int .i64 now] w fun e w' => e = .returned (.tuple #[.agg #[.slice none 0 0, .int .i64 0, .int .i64 0, .int .i64 0], .int .i64 0, .int .i64 3]) ∧ Below w.heap.size w w' := by
 have HV := ghid hv
 have HS := ghid hs
 clear hv hs
 obtain ⟨w3, hw3⟩ : ∃ w3, w3 = ((w.alloc (.cells #[v, .int .i64 x, .int .i64 l, .int .i64 r] 26)).alloc (.cells #[.slice none 0 0, .int .i64 0, .int .i64 0, .int .i64 0] 26)).alloc (.cells #[.string p] 9) := ⟨_, rfl⟩
 have B3 := hid (show Below w.heap.size w w3 from by rw [hw3]; exact (((Below.refl _ _).alloc (Nat.le_refl _) _).alloc (by simp) _).alloc (by simp; omega) _)
 have HR3 := hid (show Bx w3 (w.heap.size + 1) (.slice none 0 0) (.int .i64 0) (.int .i64 0) (.int .i64 0) from by
  have := (Bx.new (w.alloc (.cells #[v, .int .i64 x, .int .i64 l, .int .i64 r] 26)) (.slice none 0 0) (.int .i64 0) (.int .i64 0) (.int .i64 0) 26).below ((Below.refl _ _).alloc (Nat.le_refl _) (.cells #[.string p] 9))
  rw [hw3]; simpa using this)
 have HN3 := hid (show Nms w3 (.slice (some ⟨w.heap.size + 2, 0, none⟩) 1 1) [p] from Or.inr ⟨w.heap.size + 2, 1, rfl, by rw [hw3]; simp, fun i hi => by
  match i, hi with
  | 0, _ => rw [hw3]; simp [go_sem]⟩)
 have hsz3 : w3.heap.size = w.heap.size + 3 := by rw [hw3]; simp
 have hns : ∀ s ∈ [p], s.size ≤ 150000000000000 := fun s h => by rw [List.mem_singleton.1 h]; exact hp
 have H0 := ghid h0
 obtain ⟨huc, ⟨hn1, hn2⟩, _⟩ := Pp.go_zero h0
 obtain ⟨hl20, ⟨hl1, hl2⟩, ⟨hr1, hr2⟩, hx1, hx2⟩ := Pp.bnd_zero (Pp.uch_zero huc).1
 have hsw := Pp.swL_len now G
 have HSI := hid (show ∀ s ∈ Pp.swL now G, 0 ≤ s.si ∧ s.si ≤ 300 from fun s h => Pp.ses_si (Pp.uch_zero huc).2.1 s (List.mem_filter.1 h).1)
 clear h0 huc
 go_enter Tryz.func81, Tryz.ntmps81
 go_wp2_with fail
 rw [← hw3]
 clear hw3
 refine (going_any G _ x l r now [p] _ _ (HV.out.below B3.out) HS.out HN3.out hns (by simp)).mono ?_
 rintro e w4 (⟨hne, _⟩ | ⟨_, u, rfl, hown, hb4⟩)
 · exact absurd H0.out hne
 have hb04 := B3.out.trans (hb4.mono B3.out.size)
 have hR4 := HR3.out.below hb4
 have hsz4 := hb4.size
 have HOWN := ghid hown
 clear hb4 hown
 obtain ⟨a4, cap4, rfl, hc4, _, _⟩ := HOWN.out.lies (by omega)
 obtain ⟨hRb, ⟨c0, c1, c2, c3⟩, f0, f1, f2, f3⟩ := hR4
 go_wp2_with fail
 refine bodyPost_ret (v := .tuple #[.agg #[.slice none 0 0, .int .i64 0, .int .i64 0, .int .i64 0], .int .i64 0, .int .i64 3]) (by simp [results, Tryz.results81, go_sem, c0, c1, c2, c3, hRb]) rfl ⟨rfl, ?_⟩
 exact (below_set4 (b := w.heap.size + 1) (hb04) (by omega)).alloc (by simp; omega) _
set_option maxRecDepth 100000 in
set_option maxHeartbeats 4000000 in
theorem open_e4 (G : List Se) (v : Value) (x l r : Int) (p : ByteArray) (size now : Int) (w : World) (hv : LiesS w v G) (hs : SizedS G) (hp : p.size ≤ 150000000000000) (h0 : Pp.goE G x l r now [p] = 0) (h1 : 0 ≤ size) (h2 : size ≤ 300) (h3 : 1099511627776 ≤ x) :
    Calls Tryz.prog 81 #[.agg #[v, .int .i64 x, .int .i64 l, .int .i64 r], .string p, .int .i64 size, .int .i64 now] w fun e w' => e = .returned (.tuple #[.agg #[.slice none 0 0, .int .i64 0, .int .i64 0, .int .i64 0], .int .i64 0, .int .i64 3]) ∧ Below w.heap.size w w' := by
 have HV := ghid hv
 have HS := ghid hs
 clear hv hs
 obtain ⟨w3, hw3⟩ : ∃ w3, w3 = ((w.alloc (.cells #[v, .int .i64 x, .int .i64 l, .int .i64 r] 26)).alloc (.cells #[.slice none 0 0, .int .i64 0, .int .i64 0, .int .i64 0] 26)).alloc (.cells #[.string p] 9) := ⟨_, rfl⟩
 have B3 := hid (show Below w.heap.size w w3 from by rw [hw3]; exact (((Below.refl _ _).alloc (Nat.le_refl _) _).alloc (by simp) _).alloc (by simp; omega) _)
 have HR3 := hid (show Bx w3 (w.heap.size + 1) (.slice none 0 0) (.int .i64 0) (.int .i64 0) (.int .i64 0) from by
  have := (Bx.new (w.alloc (.cells #[v, .int .i64 x, .int .i64 l, .int .i64 r] 26)) (.slice none 0 0) (.int .i64 0) (.int .i64 0) (.int .i64 0) 26).below ((Below.refl _ _).alloc (Nat.le_refl _) (.cells #[.string p] 9))
  rw [hw3]; simpa using this)
 have HN3 := hid (show Nms w3 (.slice (some ⟨w.heap.size + 2, 0, none⟩) 1 1) [p] from Or.inr ⟨w.heap.size + 2, 1, rfl, by rw [hw3]; simp, fun i hi => by
  match i, hi with
  | 0, _ => rw [hw3]; simp [go_sem]⟩)
 have hsz3 : w3.heap.size = w.heap.size + 3 := by rw [hw3]; simp
 have hns : ∀ s ∈ [p], s.size ≤ 150000000000000 := fun s h => by rw [List.mem_singleton.1 h]; exact hp
 have H0 := ghid h0
 obtain ⟨huc, ⟨hn1, hn2⟩, _⟩ := Pp.go_zero h0
 obtain ⟨hl20, ⟨hl1, hl2⟩, ⟨hr1, hr2⟩, hx1, hx2⟩ := Pp.bnd_zero (Pp.uch_zero huc).1
 have hsw := Pp.swL_len now G
 have HSI := hid (show ∀ s ∈ Pp.swL now G, 0 ≤ s.si ∧ s.si ≤ 300 from fun s h => Pp.ses_si (Pp.uch_zero huc).2.1 s (List.mem_filter.1 h).1)
 clear h0 huc
 go_enter Tryz.func81, Tryz.ntmps81
 go_wp2_with fail
 rw [← hw3]
 clear hw3
 refine (going_any G _ x l r now [p] _ _ (HV.out.below B3.out) HS.out HN3.out hns (by simp)).mono ?_
 rintro e w4 (⟨hne, _⟩ | ⟨_, u, rfl, hown, hb4⟩)
 · exact absurd H0.out hne
 have hb04 := B3.out.trans (hb4.mono B3.out.size)
 have hR4 := HR3.out.below hb4
 have hsz4 := hb4.size
 have HOWN := ghid hown
 clear hb4 hown
 obtain ⟨a4, cap4, rfl, hc4, _, _⟩ := HOWN.out.lies (by omega)
 obtain ⟨hRb, ⟨c0, c1, c2, c3⟩, f0, f1, f2, f3⟩ := hR4
 go_wp2_with fail
 refine bodyPost_ret (v := .tuple #[.agg #[.slice none 0 0, .int .i64 0, .int .i64 0, .int .i64 0], .int .i64 0, .int .i64 3]) (by simp [results, Tryz.results81, go_sem, c0, c1, c2, c3, hRb]) rfl ⟨rfl, ?_⟩
 exact (below_set4 (b := w.heap.size + 1) (hb04) (by omega)).alloc (by simp; omega) _
set_option maxRecDepth 100000 in
set_option maxHeartbeats 4000000 in
theorem open_e5 (G : List Se) (v : Value) (x l r : Int) (p : ByteArray) (size now : Int) (w : World) (hv : LiesS w v G) (hs : SizedS G) (hp : p.size ≤ 150000000000000) (h0 : Pp.goE G x l r now [p] = 0) (h1 : 0 ≤ size) (h2 : size ≤ 300) (h3 : x < 1099511627776) (h4 : 20 ≤ (Pp.swL now G).length) :
    Calls Tryz.prog 81 #[.agg #[v, .int .i64 x, .int .i64 l, .int .i64 r], .string p, .int .i64 size, .int .i64 now] w fun e w' => e = .returned (.tuple #[.agg #[.slice none 0 0, .int .i64 0, .int .i64 0, .int .i64 0], .int .i64 0, .int .i64 2]) ∧ Below w.heap.size w w' := by
 have HV := ghid hv
 have HS := ghid hs
 clear hv hs
 obtain ⟨w3, hw3⟩ : ∃ w3, w3 = ((w.alloc (.cells #[v, .int .i64 x, .int .i64 l, .int .i64 r] 26)).alloc (.cells #[.slice none 0 0, .int .i64 0, .int .i64 0, .int .i64 0] 26)).alloc (.cells #[.string p] 9) := ⟨_, rfl⟩
 have B3 := hid (show Below w.heap.size w w3 from by rw [hw3]; exact (((Below.refl _ _).alloc (Nat.le_refl _) _).alloc (by simp) _).alloc (by simp; omega) _)
 have HR3 := hid (show Bx w3 (w.heap.size + 1) (.slice none 0 0) (.int .i64 0) (.int .i64 0) (.int .i64 0) from by
  have := (Bx.new (w.alloc (.cells #[v, .int .i64 x, .int .i64 l, .int .i64 r] 26)) (.slice none 0 0) (.int .i64 0) (.int .i64 0) (.int .i64 0) 26).below ((Below.refl _ _).alloc (Nat.le_refl _) (.cells #[.string p] 9))
  rw [hw3]; simpa using this)
 have HN3 := hid (show Nms w3 (.slice (some ⟨w.heap.size + 2, 0, none⟩) 1 1) [p] from Or.inr ⟨w.heap.size + 2, 1, rfl, by rw [hw3]; simp, fun i hi => by
  match i, hi with
  | 0, _ => rw [hw3]; simp [go_sem]⟩)
 have hsz3 : w3.heap.size = w.heap.size + 3 := by rw [hw3]; simp
 have hns : ∀ s ∈ [p], s.size ≤ 150000000000000 := fun s h => by rw [List.mem_singleton.1 h]; exact hp
 have H0 := ghid h0
 obtain ⟨huc, ⟨hn1, hn2⟩, _⟩ := Pp.go_zero h0
 obtain ⟨hl20, ⟨hl1, hl2⟩, ⟨hr1, hr2⟩, hx1, hx2⟩ := Pp.bnd_zero (Pp.uch_zero huc).1
 have hsw := Pp.swL_len now G
 have HSI := hid (show ∀ s ∈ Pp.swL now G, 0 ≤ s.si ∧ s.si ≤ 300 from fun s h => Pp.ses_si (Pp.uch_zero huc).2.1 s (List.mem_filter.1 h).1)
 clear h0 huc
 have h20 : 20 ≤ ((Pp.swL now G).length : Int) := by omega
 go_enter Tryz.func81, Tryz.ntmps81
 go_wp2_with fail
 rw [← hw3]
 clear hw3
 refine (going_any G _ x l r now [p] _ _ (HV.out.below B3.out) HS.out HN3.out hns (by simp)).mono ?_
 rintro e w4 (⟨hne, _⟩ | ⟨_, u, rfl, hown, hb4⟩)
 · exact absurd H0.out hne
 have hb04 := B3.out.trans (hb4.mono B3.out.size)
 have hR4 := HR3.out.below hb4
 have hsz4 := hb4.size
 have HOWN := ghid hown
 clear hb4 hown
 obtain ⟨a4, cap4, rfl, hc4, _, _⟩ := HOWN.out.lies (by omega)
 obtain ⟨hRb, ⟨c0, c1, c2, c3⟩, f0, f1, f2, f3⟩ := hR4
 go_wp2_with fail
 refine bodyPost_ret (v := .tuple #[.agg #[.slice none 0 0, .int .i64 0, .int .i64 0, .int .i64 0], .int .i64 0, .int .i64 2]) (by simp [results, Tryz.results81, go_sem, c0, c1, c2, c3, hRb]) rfl ⟨rfl, ?_⟩
 exact (below_set4 (b := w.heap.size + 1) (hb04) (by omega)).alloc (by simp; omega) _
end Go.Proofs.YtchlgpeiombmdaaGreat
set_option linter.unusedSimpArgs false
set_option linter.unusedVariables false
namespace Go.Proofs.YtchlgpeiombmdaaGreat
open Go.RowKit

set_option maxRecDepth 100000 in
set_option maxHeartbeats 4000000 in
theorem open_e6 (G : List Se) (v : Value) (x l r : Int) (p : ByteArray) (size now : Int) (w : World) (hv : LiesS w v G) (hs : SizedS G) (hp : p.size ≤ 150000000000000) (h0 : Pp.goE G x l r now [p] = 0) (h1 : 0 ≤ size) (h2 : size ≤ 300) (h3 : x < 1099511627776) (h4 : (Pp.swL now G).length < 20) (h5 : r < Pp.takS (Pp.swL now G) p + size) :
    Calls Tryz.prog 81 #[.agg #[v, .int .i64 x, .int .i64 l, .int .i64 r], .string p, .int .i64 size, .int .i64 now] w fun e w' => e = .returned (.tuple #[.agg #[.slice none 0 0, .int .i64 0, .int .i64 0, .int .i64 0], .int .i64 0, .int .i64 10]) ∧ Below w.heap.size w w' := by
 have HV := ghid hv
 have HS := ghid hs
 clear hv hs
 obtain ⟨w3, hw3⟩ : ∃ w3, w3 = ((w.alloc (.cells #[v, .int .i64 x, .int .i64 l, .int .i64 r] 26)).alloc (.cells #[.slice none 0 0, .int .i64 0, .int .i64 0, .int .i64 0] 26)).alloc (.cells #[.string p] 9) := ⟨_, rfl⟩
 have B3 := hid (show Below w.heap.size w w3 from by rw [hw3]; exact (((Below.refl _ _).alloc (Nat.le_refl _) _).alloc (by simp) _).alloc (by simp; omega) _)
 have HR3 := hid (show Bx w3 (w.heap.size + 1) (.slice none 0 0) (.int .i64 0) (.int .i64 0) (.int .i64 0) from by
  have := (Bx.new (w.alloc (.cells #[v, .int .i64 x, .int .i64 l, .int .i64 r] 26)) (.slice none 0 0) (.int .i64 0) (.int .i64 0) (.int .i64 0) 26).below ((Below.refl _ _).alloc (Nat.le_refl _) (.cells #[.string p] 9))
  rw [hw3]; simpa using this)
 have HN3 := hid (show Nms w3 (.slice (some ⟨w.heap.size + 2, 0, none⟩) 1 1) [p] from Or.inr ⟨w.heap.size + 2, 1, rfl, by rw [hw3]; simp, fun i hi => by
  match i, hi with
  | 0, _ => rw [hw3]; simp [go_sem]⟩)
 have hsz3 : w3.heap.size = w.heap.size + 3 := by rw [hw3]; simp
 have hns : ∀ s ∈ [p], s.size ≤ 150000000000000 := fun s h => by rw [List.mem_singleton.1 h]; exact hp
 have H0 := ghid h0
 obtain ⟨huc, ⟨hn1, hn2⟩, _⟩ := Pp.go_zero h0
 obtain ⟨hl20, ⟨hl1, hl2⟩, ⟨hr1, hr2⟩, hx1, hx2⟩ := Pp.bnd_zero (Pp.uch_zero huc).1
 have hsw := Pp.swL_len now G
 have HSI := hid (show ∀ s ∈ Pp.swL now G, 0 ≤ s.si ∧ s.si ≤ 300 from fun s h => Pp.ses_si (Pp.uch_zero huc).2.1 s (List.mem_filter.1 h).1)
 clear h0 huc
 have h20 : ¬ 20 ≤ ((Pp.swL now G).length : Int) := by omega
 go_enter Tryz.func81, Tryz.ntmps81
 go_wp2_with fail
 rw [← hw3]
 clear hw3
 refine (going_any G _ x l r now [p] _ _ (HV.out.below B3.out) HS.out HN3.out hns (by simp)).mono ?_
 rintro e w4 (⟨hne, _⟩ | ⟨_, u, rfl, hown, hb4⟩)
 · exact absurd H0.out hne
 have hb04 := B3.out.trans (hb4.mono B3.out.size)
 have hR4 := HR3.out.below hb4
 have hsz4 := hb4.size
 have HOWN := ghid hown
 clear hb4 hown
 obtain ⟨a4, cap4, rfl, hc4, _, _⟩ := HOWN.out.lies (by omega)
 have htk := Pp.takS_bound p HSI.out
 obtain ⟨M, hM⟩ : ∃ M, M = Pp.swL now G := ⟨_, rfl⟩
 rw [← hM] at HSI HOWN h20 h5 hsw htk hc4 h4
 have hMl : M.length ≤ 1000 := by omega
 have hT1 : 0 ≤ Pp.takS M p := htk.1
 have hT2 : Pp.takS M p ≤ 6000 := by have := htk.2; omega
 have hwr : IntKind.i64.wrap (Pp.takS M p + size) = Pp.takS M p + size := by rw [IntKind.wrap_i64]; omega
 clear htk
 obtain ⟨wz, hwz⟩ : ∃ wz, wz = w4.alloc (.cells #[.slice a4 M.length cap4, .int .i64 x, .int .i64 l, .int .i64 r] 26) := ⟨_, rfl⟩
 have hbz : Below w4.heap.size w4 wz := by rw [hwz]; exact (Below.refl _ _).alloc (Nat.le_refl _) _
 have hGz : Bx wz w4.heap.size (.slice a4 M.length cap4) (.int .i64 x) (.int .i64 l) (.int .i64 r) := by rw [hwz]; exact Bx.new _ _ _ _ _ _
 have hRz := hR4.below hbz
 have hb0z := hb04.trans (hbz.mono hb04.size)
 have HOZ := ghid (HOWN.out.below hbz)
 have hszz := hbz.size
 rw [← hM]
 clear hM HOWN hR4 hb04 hbz
 have HGZ := ghid hGz
 obtain ⟨hGb, ⟨q0, q1, q2, q3⟩, k0, k1, k2, k3⟩ := hGz
 have hGb0 := hGb
 go_wp2_with fail
 rw [← hwz]
 clear hwz
 go_region_held3 (fun W => W.cell? ⟨w4.heap.size, 0, none⟩ = some (.slice a4 M.length cap4) ∧ W.cell? ⟨w4.heap.size, 3, none⟩ = some (.int .i64 r)) (go_keep) (first
  | (go_at_call 102; refine (taken_any M _ p _ ((HOZ.out.lies hMl).below (Below.refl _ _).drew) hMl HSI.out).mono ?_; rintro e wa ⟨rfl, hba⟩; have j0 := (hba.cell (p := ⟨w4.heap.size, 0, none⟩) hGb).trans q0; have j3 := (hba.cell (p := ⟨w4.heap.size, 3, none⟩) hGb).trans q3))
 all_goals
  have hbza : Below wz.heap.size wz wa := (Below.refl _ _).drew.trans hba
  have hb0a := hb0z.trans (hbza.mono hb0z.size)
  obtain ⟨hRb, ⟨c0, c1, c2, c3⟩, f0, f1, f2, f3⟩ := hRz.below hbza
  have hsza := hbza.size
  clear hba hbza hRz q0 q1 q2 q3
  generalize Pp.takS M p = T at *
  go_wp2_with fail
  refine bodyPost_ret (v := .tuple #[.agg #[.slice none 0 0, .int .i64 0, .int .i64 0, .int .i64 0], .int .i64 0, .int .i64 10]) (by simp [results, Tryz.results81, go_sem, c0, c1, c2, c3, hRb]) rfl ⟨rfl, ?_⟩
  exact below_set4 (b := w.heap.size + 1) (hb0a) (by omega)
end Go.Proofs.YtchlgpeiombmdaaGreat
set_option linter.unusedSimpArgs false
set_option linter.unusedVariables false
namespace Go.Proofs.YtchlgpeiombmdaaGreat
open Go.RowKit

theorem OwnS.row {B : Nat} {w : World} {u : Value} {L : List Se} (h : OwnS B w u L) : w.ownsRow B 104 5 u L.length (Pp.flatS L) := by
 rcases h with ⟨rfl, rfl⟩ | ⟨g, cap, rfl, h2, h3, h4, h5, h6⟩
 · exact World.ownsRow_nil _ _ _ _
 · exact own_rowS h4 h5 h3 h6 h2
theorem OwnS.nb {B b : Nat} {w w' : World} {u : Value} {L : List Se} (h : OwnS B w u L) (hw : w.grownBy w' (some b)) (hb : b < B) : OwnS B w' u L := by
 rcases h with h | ⟨g, cap, h1, h2, h3, h4, h5, h6⟩
 · exact Or.inl h
 · exact Or.inr ⟨g, cap, h1, h2, h3, h4.nb hw (by omega), h5.nb hw (by omega), h6⟩
theorem ownS_of {B : Nat} {w : World} {u : Value} {L : List Se} (h : w.ownsRow B 104 5 u L.length (Pp.flatS L)) : OwnS B w u L := by
 have h' := h
 obtain ⟨_, h2⟩ := h
 rcases h2 with ⟨rfl, hz⟩ | ⟨g, cap, cur, rfl, hg, hh, hn2, hm, hz, htake⟩
 · exact Or.inl ⟨rfl, List.length_eq_zero_iff.1 hz⟩
 · exact Or.inr ⟨g, cap, rfl, hg, hn2, rowS_own h' rfl, ⟨cur, hh, hz⟩, hm⟩
theorem new_cellsS (w : World) (e : Se) (T : TypeId) : ∀ j u, (Pp.cellsS e)[j]? = some u → (w.alloc (.cells #[.int .i64 e.nu, .string e.wh, .string e.tx, .int .i64 e.si, .int .i64 e.ti] T)).cell? ((⟨w.heap.size, 0, none⟩ : Addr).add j) = some u := by
 intro j u hj
 match j, hj with
 | 0, hj => simp [Pp.cellsS] at hj; subst hj; simp [Addr.add]
 | 1, hj => simp [Pp.cellsS] at hj; subst hj; simp [Addr.add]
 | 2, hj => simp [Pp.cellsS] at hj; subst hj; simp [Addr.add]
 | 3, hj => simp [Pp.cellsS] at hj; subst hj; simp [Addr.add]
 | 4, hj => simp [Pp.cellsS] at hj; subst hj; simp [Addr.add]
 | j + 5, hj => simp [Pp.cellsS] at hj
theorem Bx.gr {W W' : World} {b : Nat} {row : Option Nat} {a0 a1 a2 a3 : Value} (h : Bx W b a0 a1 a2 a3) (hw : W.grownBy W' row) (hne : row ≠ some b) : Bx W' b a0 a1 a2 a3 := by
 obtain ⟨hb, ⟨c0, c1, c2, c3⟩, f0, f1, f2, f3⟩ := h
 have k : W'.heap[b]? = W.heap[b]? := hw.block b hb (fun e => hne e.symm)
 exact ⟨Nat.lt_of_lt_of_le hb hw.size, ⟨(World.cell?_of_block (a := ⟨b, 0, none⟩) k).trans c0, (World.cell?_of_block (a := ⟨b, 1, none⟩) k).trans c1, (World.cell?_of_block (a := ⟨b, 2, none⟩) k).trans c2, (World.cell?_of_block (a := ⟨b, 3, none⟩) k).trans c3⟩, (World.frozen?_of_block (a := ⟨b, 0, none⟩) k).trans f0, (World.frozen?_of_block (a := ⟨b, 1, none⟩) k).trans f1, (World.frozen?_of_block (a := ⟨b, 2, none⟩) k).trans f2, (World.frozen?_of_block (a := ⟨b, 3, none⟩) k).trans f3⟩
set_option maxRecDepth 100000 in
set_option maxHeartbeats 4000000 in
theorem open_k (G : List Se) (v : Value) (x l r : Int) (p : ByteArray) (size now : Int) (w : World) (hv : LiesS w v G) (hs : SizedS G) (hp : p.size ≤ 150000000000000) (h0 : Pp.goE G x l r now [p] = 0) (h1 : 0 ≤ size) (h2 : size ≤ 300) (h3 : x < 1099511627776) (h4 : (Pp.swL now G).length < 20) (h5 : Pp.takS (Pp.swL now G) p + size ≤ r) :
    Calls Tryz.prog 81 #[.agg #[v, .int .i64 x, .int .i64 l, .int .i64 r], .string p, .int .i64 size, .int .i64 now] w fun e w' => ∃ u, e = .returned (.tuple #[.agg #[u, .int .i64 (x + 1), .int .i64 l, .int .i64 r], .int .i64 x, .int .i64 0]) ∧ OwnS w.heap.size w' u (Pp.swL now G ++ [Pp.newS x p size (now + l)]) ∧ Below w.heap.size w w' := by
 have HV := ghid hv
 have HS := ghid hs
 clear hv hs
 obtain ⟨w3, hw3⟩ : ∃ w3, w3 = ((w.alloc (.cells #[v, .int .i64 x, .int .i64 l, .int .i64 r] 26)).alloc (.cells #[.slice none 0 0, .int .i64 0, .int .i64 0, .int .i64 0] 26)).alloc (.cells #[.string p] 9) := ⟨_, rfl⟩
 have B3 := hid (show Below w.heap.size w w3 from by rw [hw3]; exact (((Below.refl _ _).alloc (Nat.le_refl _) _).alloc (by simp) _).alloc (by simp; omega) _)
 have HR3 := hid (show Bx w3 (w.heap.size + 1) (.slice none 0 0) (.int .i64 0) (.int .i64 0) (.int .i64 0) from by
  have := (Bx.new (w.alloc (.cells #[v, .int .i64 x, .int .i64 l, .int .i64 r] 26)) (.slice none 0 0) (.int .i64 0) (.int .i64 0) (.int .i64 0) 26).below ((Below.refl _ _).alloc (Nat.le_refl _) (.cells #[.string p] 9))
  rw [hw3]; simpa using this)
 have HN3 := hid (show Nms w3 (.slice (some ⟨w.heap.size + 2, 0, none⟩) 1 1) [p] from Or.inr ⟨w.heap.size + 2, 1, rfl, by rw [hw3]; simp, fun i hi => by
  match i, hi with
  | 0, _ => rw [hw3]; simp [go_sem]⟩)
 have hsz3 : w3.heap.size = w.heap.size + 3 := by rw [hw3]; simp
 have hns : ∀ s ∈ [p], s.size ≤ 150000000000000 := fun s h => by rw [List.mem_singleton.1 h]; exact hp
 obtain ⟨i0, hi0, hz0, hz1, hz2⟩ := info_parts Tryz.infoSe
 have H0 := ghid h0
 obtain ⟨huc, ⟨hn1, hn2⟩, _⟩ := Pp.go_zero h0
 obtain ⟨hl20, ⟨hl1, hl2⟩, ⟨hr1, hr2⟩, hx1, hx2⟩ := Pp.bnd_zero (Pp.uch_zero huc).1
 have hsw := Pp.swL_len now G
 have HSI := hid (show ∀ s ∈ Pp.swL now G, 0 ≤ s.si ∧ s.si ≤ 300 from fun s h => Pp.ses_si (Pp.uch_zero huc).2.1 s (List.mem_filter.1 h).1)
 clear h0 huc
 have h20 : ¬ 20 ≤ ((Pp.swL now G).length : Int) := by omega
 go_enter Tryz.func81, Tryz.ntmps81
 go_wp2_with fail
 rw [← hw3]
 clear hw3
 refine (going_any G _ x l r now [p] _ _ (HV.out.below B3.out) HS.out HN3.out hns (by simp)).mono ?_
 rintro e w4 (⟨hne, _⟩ | ⟨_, u, rfl, hown, hb4⟩)
 · exact absurd H0.out hne
 have hb04 := B3.out.trans (hb4.mono B3.out.size)
 have hR4 := HR3.out.below hb4
 have hsz4 := hb4.size
 have HOWN := ghid hown
 clear hb4 hown
 obtain ⟨a4, cap4, rfl, hc4, _, _⟩ := HOWN.out.lies (by omega)
 have htk := Pp.takS_bound p HSI.out
 obtain ⟨M, hM⟩ : ∃ M, M = Pp.swL now G := ⟨_, rfl⟩
 rw [← hM] at HSI HOWN h20 h5 hsw htk hc4 h4
 have hMl : M.length ≤ 1000 := by omega
 have hT1 : 0 ≤ Pp.takS M p := htk.1
 have hT2 : Pp.takS M p ≤ 6000 := by have := htk.2; omega
 have hwr : IntKind.i64.wrap (Pp.takS M p + size) = Pp.takS M p + size := by rw [IntKind.wrap_i64]; omega
 clear htk
 obtain ⟨wz, hwz⟩ : ∃ wz, wz = w4.alloc (.cells #[.slice a4 M.length cap4, .int .i64 x, .int .i64 l, .int .i64 r] 26) := ⟨_, rfl⟩
 have hbz : Below w4.heap.size w4 wz := by rw [hwz]; exact (Below.refl _ _).alloc (Nat.le_refl _) _
 have hGz : Bx wz w4.heap.size (.slice a4 M.length cap4) (.int .i64 x) (.int .i64 l) (.int .i64 r) := by rw [hwz]; exact Bx.new _ _ _ _ _ _
 have hRz := hR4.below hbz
 have hb0z := hb04.trans (hbz.mono hb04.size)
 have HOZ := ghid (HOWN.out.below hbz)
 have hszz := hbz.size
 have hOB : ∀ q, (Value.slice a4 M.length cap4).ownBlock = some q → w3.heap.size ≤ q ∧ q < w4.heap.size := fun q hq => HOWN.out.row.lt q hq
 have HOB := ghid hOB
 have HMM := ghid hM
 rw [← hM]
 clear hM HOWN hR4 hb04 hbz hOB
 have HGZ := ghid hGz
 obtain ⟨hGb, ⟨q0, q1, q2, q3⟩, k0, k1, k2, k3⟩ := hGz
 have hGb0 := hGb
 go_wp2_with fail
 rw [← hwz]
 clear hwz
 go_region_held3 (fun W => W.cell? ⟨w4.heap.size, 0, none⟩ = some (.slice a4 M.length cap4) ∧ W.cell? ⟨w4.heap.size, 3, none⟩ = some (.int .i64 r)) (go_keep) (first
  | (go_at_call 102; refine (taken_any M _ p _ ((HOZ.out.lies hMl).below (Below.refl _ _).drew) hMl HSI.out).mono ?_; rintro e wa ⟨rfl, hba⟩; have j0 := (hba.cell (p := ⟨w4.heap.size, 0, none⟩) hGb).trans q0; have j3 := (hba.cell (p := ⟨w4.heap.size, 3, none⟩) hGb).trans q3))
 all_goals
  have hbza : Below wz.heap.size wz wa := (Below.refl _ _).drew.trans hba
  have hb0a := hb0z.trans (hbza.mono hb0z.size)
  have HRA := ghid (hRz.below hbza)
  have HGA := ghid (HGZ.out.below hbza)
  have HOA := ghid (HOZ.out.below hbza)
  have hsza := hbza.size
  clear hba hbza hRz q0 q1 q2 q3
  generalize Pp.takS M p = T at *
  obtain ⟨hGb2, ⟨q0, q1, q2, q3⟩, _⟩ := HGA.out
  obtain ⟨wt, hwt⟩ : ∃ wt, wt = (wa.alloc (.cells #[.int .i64 x, .string p, .string ⟨#[]⟩, .int .i64 size, .int .i64 (now + l)] 104)).alloc (.cells #[.int .i64 x, .string p, .string ⟨#[]⟩, .int .i64 size, .int .i64 (now + l)] 104) := ⟨_, rfl⟩
  have hbt : Below wa.heap.size wa wt := by rw [hwt]; exact ((Below.refl _ _).alloc (Nat.le_refl _) _).alloc (by simp) _
  have hrow : wt.ownsRow w3.heap.size 104 5 (.slice a4 M.length cap4) M.length (Pp.flatS M) := by rw [hwt]; exact (HOA.out.row.alloc _).alloc _
  have hnews : ∀ j u, (Pp.cellsS (Pp.newS x p size (now + l)))[j]? = some u → wt.cell? ((⟨wa.heap.size + 1, 0, none⟩ : Addr).add j) = some u := by
   intro j u hj
   have := new_cellsS (wa.alloc (.cells #[.int .i64 x, .string p, .string ⟨#[]⟩, .int .i64 size, .int .i64 (now + l)] 104)) (Pp.newS x p size (now + l)) 104 j u hj
   rw [hwt]
   simpa [Pp.newS] using this
  have s0 : wt.cell? ⟨wa.heap.size, 0, none⟩ = some (.int .i64 x) := by rw [hwt]; simp [go_sem]
  have hszt : wt.heap.size = wa.heap.size + 2 := by rw [hwt]; simp
  have HRT := ghid (HRA.out.below hbt)
  have HGT := ghid (HGA.out.below hbt)
  have hb0t := hb0a.trans (hbt.mono hb0a.size)
  have HROWT := ghid hrow
  have HNEWS := ghid hnews
  clear hnews hrow HRA HOA hbt
  go_wp2_with (at_builtin; rw [← hwt]; refine wpList_append_own _ rfl _ _ 24 rfl w3.heap.size 104 i0 (.agg #[.int .i64 0, .string ⟨#[]⟩, .string ⟨#[]⟩, .int .i64 0, .int .i64 0]) 5 56 Tryz.underlying24 hi0 hz0 hz1 hz2 rfl (by decide) _ _ _ rfl HROWT.out ⟨wa.heap.size + 1, 0, none⟩ 1 1 (Pp.cellsS (Pp.newS x p size (now + l))) rfl rfl HNEWS.out (Pp.cellsS_one _) (by unfold maxLen; omega) (by omega) (by omega) ?_)
  intro v2 w2 ho2 hgr2 hnn2
  rw [← hwt] at hgr2
  have hne : ∀ b, b < w3.heap.size ∨ w4.heap.size ≤ b → (Value.slice a4 M.length cap4).ownBlock ≠ some b := fun b hb e => by
   have := HOB.out b e
   omega
  have HR2 := ghid (HRT.out.gr hgr2 (hne _ (Or.inl (by omega))))
  have HG2 := ghid (HGT.out.gr hgr2 (hne _ (Or.inr (Nat.le_refl _))))
  have s2 : w2.cell? ⟨wa.heap.size, 0, none⟩ = some (.int .i64 x) := (World.cell?_of_block (w := wt) (a := ⟨wa.heap.size, 0, none⟩) (hgr2.block _ (by show wa.heap.size < wt.heap.size; omega) (fun e => hne wa.heap.size (Or.inr (by omega)) e.symm))).trans s0
  have hb02 : Below w.heap.size w w2 := hb0t.grown hgr2 hb0t.size (fun k hk => by have := (HOB.out k hk).1; omega)
  rw [Pp.flatS_snoc] at ho2
  have ho3 : w2.ownsRow w3.heap.size 104 5 v2 (M ++ [Pp.newS x p size (now + l)]).length (Pp.flatS (M ++ [Pp.newS x p size (now + l)])) := by rw [List.length_append, hsz3]; exact ho2
  have HO2 := ghid (ownS_of ho3)
  obtain ⟨g5, cap5, hv2⟩ : ∃ g5 cap5, v2 = .slice (some ⟨g5, 0, none⟩) (M ++ [Pp.newS x p size (now + l)]).length cap5 := by
   rcases HO2.out with ⟨_, hnil⟩ | ⟨g5, cap5, h5, _⟩
   · simp at hnil
   · exact ⟨g5, cap5, h5⟩
  subst hv2
  have hgne : g5 ≠ w4.heap.size := fun e => by
   have h9 := (rowS_own ho3 rfl).2 0 (by simp) 0 (by decide)
   have h10 := HG2.out.2.1.1
   rw [← e] at h10
   have h11 := h9.1
   rw [show (0 * 5 + 0 : Nat) = 0 from rfl, h10] at h11
   simp [Pp.cellsS] at h11
  have HGNE := ghid hgne
  have hsz2 := hgr2.size
  clear ho2 ho3 hgr2 hnn2 s0 hwt q0 q1 q2 q3 hGb hGb2 k0 k1 k2 k3
  obtain ⟨g5lt, g5ne⟩ : w3.heap.size ≤ g5 ∧ g5 < w2.heap.size ∧ OwnS w3.heap.size w2 (.slice (some ⟨g5, 0, none⟩) (M ++ [Pp.newS x p size (now + l)]).length cap5) (M ++ [Pp.newS x p size (now + l)]) := ⟨(HO2.out.row.lt g5 rfl).1, (HO2.out.row.lt g5 rfl).2, HO2.out⟩
  obtain ⟨hRb, ⟨c0, c1, c2, c3⟩, f0, f1, f2, f3⟩ := HR2.out
  obtain ⟨hGb, ⟨q0, q1, q2, q3⟩, k0, k1, k2, k3⟩ := HG2.out
  obtain ⟨wq, hwq⟩ : ∃ wq, wq = (w2.setCell ⟨w4.heap.size, 0, none⟩ (.slice (some ⟨g5, 0, none⟩) (M.length + 1) cap5)).setCell ⟨w4.heap.size, 1, none⟩ (.int .i64 (x + 1)) := ⟨_, rfl⟩
  have hnbq : w2.grownBy wq (some w4.heap.size) := by rw [hwq]; exact Nb.trans (Nb.setCell _ _ _ _) (Nb.setCell _ _ _ _)
  have HRQ := ghid (HR2.out.nb hnbq (by omega))
  have y0 : wq.cell? ⟨w4.heap.size, 0, none⟩ = some (.slice (some ⟨g5, 0, none⟩) (M.length + 1) cap5) := by rw [hwq]; simp [go_sem, q0, q1]
  have y1 : wq.cell? ⟨w4.heap.size, 1, none⟩ = some (.int .i64 (x + 1)) := by rw [hwq]; simp [go_sem, q0, q1]
  have y2 : wq.cell? ⟨w4.heap.size, 2, none⟩ = some (.int .i64 l) := by rw [hwq]; simp [go_sem, q2]
  have y3 : wq.cell? ⟨w4.heap.size, 3, none⟩ = some (.int .i64 r) := by rw [hwq]; simp [go_sem, q3]
  have sq : wq.cell? ⟨wa.heap.size, 0, none⟩ = some (.int .i64 x) := (Nb.cell hnbq (p := ⟨wa.heap.size, 0, none⟩) (by show wa.heap.size < w2.heap.size; omega) (by show wa.heap.size ≠ w4.heap.size; omega)).trans s2
  have hb0q : Below w.heap.size w wq := hb02.trans (Nb.to hnbq hb02.size (by omega))
  have hoq : OwnS w3.heap.size wq (.slice (some ⟨g5, 0, none⟩) (M.length + 1) cap5) (M ++ [Pp.newS x p size (now + l)]) := by
   rcases HO2.out with ⟨h5, _⟩ | ⟨g6, cap6, h5, h6, h7, h8, h9, h10⟩
   · cases h5
   · injection h5 with h5a h5b h5c
     injection h5a with h5a
     injection h5a with h5d
     subst h5d; subst h5c
     have hgne : g5 ≠ w4.heap.size := HGNE.out
     exact Or.inr ⟨g5, cap5, by simp, h6, h7, h8.nb hnbq hgne, h9.nb hnbq hgne, h10⟩
  have HOQ := ghid hoq
  have hszq := hnbq.size
  go_wp2_with fail
  rw [← hwq]
  clear hwq hnbq q0 q1 q2 q3 k0 k1 k2 k3 c0 c1 c2 c3 f0 f1 f2 f3 s2 hoq hRb hb02
  obtain ⟨hRb, ⟨c0, c1, c2, c3⟩, f0, f1, f2, f3⟩ := HRQ.out
  go_region
  go_wp2_with fail
  refine bodyPost_ret (v := .tuple #[.agg #[.slice (some ⟨g5, 0, none⟩) (M.length + 1) cap5, .int .i64 (x + 1), .int .i64 l, .int .i64 r], .int .i64 x, .int .i64 0]) (by simp [results, Tryz.results81, go_sem, c0, c1, c2, c3, hRb]) rfl ⟨_, rfl, ?_, ?_⟩
  · rw [← HMM.out]
    exact ((HOQ.out.nb (Nb.set4 _ (w.heap.size + 1) _ _ _ _) (by omega)).below (Below.refl _ _).drew).mono (by omega)
  · exact (below_set4 (b := w.heap.size + 1) hb0q (by omega)).drew
theorem open_any (G : List Se) (v : Value) (x l r : Int) (p : ByteArray) (size now : Int) (w : World) (hv : LiesS w v G) (hs : SizedS G) (hp : p.size ≤ 150000000000000) :
    Calls Tryz.prog 81 #[.agg #[v, .int .i64 x, .int .i64 l, .int .i64 r], .string p, .int .i64 size, .int .i64 now] w fun e w' => (¬ Pp.opE G x l r p size now = 0 ∧ e = .returned (.tuple #[.agg #[.slice none 0 0, .int .i64 0, .int .i64 0, .int .i64 0], .int .i64 0, .int .i64 (Pp.opE G x l r p size now)]) ∧ Below w.heap.size w w') ∨
     (Pp.opE G x l r p size now = 0 ∧ ∃ u, e = .returned (.tuple #[.agg #[u, .int .i64 (x + 1), .int .i64 l, .int .i64 r], .int .i64 x, .int .i64 0]) ∧ OwnS w.heap.size w' u (Pp.swL now G ++ [Pp.newS x p size (now + l)]) ∧ Below w.heap.size w w') := by
 rcases Pp.op_cases G x l r p size now with ⟨h0, hE⟩ | ⟨h0, h1, hE⟩ | ⟨h0, h1, h2, hE⟩ | ⟨h0, h1, h2, h3, hE⟩ | ⟨h0, h1, h2, h3, h4, hE⟩ | ⟨h0, h1, h2, h3, h4, h5, hE⟩ | ⟨h0, h1, h2, h3, h4, h5, hE⟩
 · rw [hE]; exact (open_e1 G v x l r p size now w hv hs hp h0).mono fun e w' h => Or.inl ⟨h0, h⟩
 · rw [hE]; exact (open_e2 G v x l r p size now w hv hs hp h0 h1).mono fun e w' h => Or.inl ⟨by decide, h⟩
 · rw [hE]; exact (open_e3 G v x l r p size now w hv hs hp h0 h1 h2).mono fun e w' h => Or.inl ⟨by decide, h⟩
 · rw [hE]; exact (open_e4 G v x l r p size now w hv hs hp h0 h1 h2 h3).mono fun e w' h => Or.inl ⟨by decide, h⟩
 · rw [hE]; exact (open_e5 G v x l r p size now w hv hs hp h0 h1 h2 h3 h4).mono fun e w' h => Or.inl ⟨by decide, h⟩
 · rw [hE]; exact (open_e6 G v x l r p size now w hv hs hp h0 h1 h2 h3 h4 h5).mono fun e w' h => Or.inl ⟨by decide, h⟩
 · rw [hE]; exact (open_k G v x l r p size now w hv hs hp h0 h1 h2 h3 h4 h5).mono fun e w' h => Or.inr ⟨rfl, h⟩
end Go.Proofs.YtchlgpeiombmdaaGreat
set_option linter.unusedSimpArgs false
set_option linter.unusedVariables false
namespace Go.Proofs.YtchlgpeiombmdaaGreat
open Go.RowKit

namespace Pp
/-- Is a session somebody's, by a number? -/
def mine (n : Int) (p : ByteArray) (s : Se) : Bool := (s.nu == n) && (s.wh.toList == p.toList)
def fiE (G : List Se) (x l r : Int) (p : ByteArray) (n now : Int) : Int := if goE G x l r now [p] = 0 then (if idS (swL now G) (mine n p) < 0 then 5 else 0) else goE G x l r now [p]
theorem fi_cases (G : List Se) (x l r : Int) (p : ByteArray) (n now : Int) : (¬ goE G x l r now [p] = 0 ∧ fiE G x l r p n now = goE G x l r now [p]) ∨ (goE G x l r now [p] = 0 ∧ idS (swL now G) (mine n p) = -1 ∧ fiE G x l r p n now = 5) ∨ (goE G x l r now [p] = 0 ∧ fiE G x l r p n now = 0 ∧ ∃ k, k < (swL now G).length ∧ idS (swL now G) (mine n p) = (k : Int)) := by
 by_cases h0 : goE G x l r now [p] = 0
 · right
   have e : fiE G x l r p n now = if idS (swL now G) (mine n p) < 0 then 5 else 0 := if_pos h0
   rcases idS_cases (swL now G) (mine n p) with ⟨h1, _⟩ | ⟨k, hk, h1, _⟩
   · left; exact ⟨h0, h1, by rw [e, h1]; rfl⟩
   · right; exact ⟨h0, by rw [e, h1, if_neg (by omega)], k, hk, h1⟩
 · left; exact ⟨h0, if_neg h0⟩
end Pp

set_option maxHeartbeats 1000000 in
theorem find1_any (s : Se) (n : Int) (p : ByteArray) (b1 b2 : Nat) (w : World) (hb1 : b1 < w.heap.size) (hb2 : b2 < w.heap.size) (hc1 : w.cell? ⟨b1, 0, none⟩ = some (.int .i64 n)) (hc2 : w.cell? ⟨b2, 0, none⟩ = some (.string p)) :
    Calls Tryz.prog 136 #[.agg #[.int .i64 s.nu, .string s.wh, .string s.tx, .int .i64 s.si, .int .i64 s.ti], .pointer (some ⟨b1, 0, none⟩), .pointer (some ⟨b2, 0, none⟩)] w fun r w' => r = .returned (.bool (Pp.mine n p s)) ∧ Below w.heap.size w w' := by
 have k0 : ∀ o, (w.alloc o).cell? ⟨b1, 0, none⟩ = some (.int .i64 n) := fun o => (((Below.refl w.heap.size w).alloc (Nat.le_refl _) o).cell (p := ⟨b1, 0, none⟩) hb1).trans hc1
 have k1 : ∀ o, (w.alloc o).cell? ⟨b2, 0, none⟩ = some (.string p) := fun o => (((Below.refl w.heap.size w).alloc (Nat.le_refl _) o).cell (p := ⟨b2, 0, none⟩) hb2).trans hc2
 cases h1 : (s.nu == n) with
 | true =>
  have HE := hid (show (s.wh.toList == p.toList) = Pp.mine n p s from by rw [Pp.mine, h1]; rfl)
  go_enter Tryz.func136, Tryz.ntmps136
  go_wp2
  go_ret
  exact ⟨Pp.ret_bool HE.out, (Below.refl _ _).alloc (Nat.le_refl _) _⟩
 | false =>
  have HE := hid (show false = Pp.mine n p s from by rw [Pp.mine, h1]; rfl)
  go_enter Tryz.func136, Tryz.ntmps136
  go_wp2
  go_ret
  exact ⟨Pp.ret_bool HE.out, (Below.refl _ _).alloc (Nat.le_refl _) _⟩
set_option maxRecDepth 100000 in
set_option maxHeartbeats 4000000 in
theorem find_any (G : List Se) (v : Value) (x l r : Int) (p : ByteArray) (n now : Int) (w : World) (hv : LiesS w v G) (hs : SizedS G) (hp : p.size ≤ 150000000000000) :
    Calls Tryz.prog 111 #[.agg #[v, .int .i64 x, .int .i64 l, .int .i64 r], .string p, .int .i64 n, .int .i64 now] w fun e w' => (¬ Pp.fiE G x l r p n now = 0 ∧ e = .returned (.tuple #[.agg #[.slice none 0 0, .int .i64 0, .int .i64 0, .int .i64 0], .int .i64 0, .int .i64 (Pp.fiE G x l r p n now)]) ∧ Below w.heap.size w w') ∨
     (Pp.fiE G x l r p n now = 0 ∧ ∃ u k, e = .returned (.tuple #[.agg #[u, .int .i64 x, .int .i64 l, .int .i64 r], .int .i64 (k : Nat), .int .i64 0]) ∧ k < (Pp.swL now G).length ∧ Pp.idS (Pp.swL now G) (Pp.mine n p) = k ∧ OwnS w.heap.size w' u (Pp.swL now G) ∧ Below w.heap.size w w') := by
 have HV := ghid hv
 have HS := ghid hs
 clear hv hs
 obtain ⟨w2, hw2⟩ : ∃ w2, w2 = ((w.alloc (.cells #[v, .int .i64 x, .int .i64 l, .int .i64 r] 26)).alloc (.cells #[.string p] 9)).alloc (.cells #[.int .i64 n] 3) := ⟨_, rfl⟩
 have hb2 : Below w.heap.size w w2 := by rw [hw2]; exact (((Below.refl _ _).alloc (Nat.le_refl _) _).alloc (by simp) _).alloc (by simp; omega) _
 have hsz2 : w2.heap.size = w.heap.size + 3 := by rw [hw2]; simp
 have p2 : w2.cell? ⟨w.heap.size + 1, 0, none⟩ = some (.string p) := by rw [hw2]; simp [go_sem]
 have n2 : w2.cell? ⟨w.heap.size + 2, 0, none⟩ = some (.int .i64 n) := by rw [hw2]; simp [go_sem]
 obtain ⟨w3, hw3⟩ : ∃ w3, w3 = (w2.alloc (.cells #[.slice none 0 0, .int .i64 0, .int .i64 0, .int .i64 0] 26)).alloc (.cells #[.string p] 9) := ⟨_, rfl⟩
 have hb23 : Below w2.heap.size w2 w3 := by rw [hw3]; exact ((Below.refl _ _).alloc (Nat.le_refl _) _).alloc (by simp) _
 have B3 := ghid (hb2.trans (hb23.mono hb2.size))
 have HR3 := hid (show Bx w3 (w.heap.size + 3) (.slice none 0 0) (.int .i64 0) (.int .i64 0) (.int .i64 0) from by
  have := (Bx.new w2 (.slice none 0 0) (.int .i64 0) (.int .i64 0) (.int .i64 0) 26).below ((Below.refl _ _).alloc (Nat.le_refl _) (.cells #[.string p] 9))
  rw [hw3]; rw [hsz2] at this; exact this)
 have hsz3 : w3.heap.size = w.heap.size + 5 := by rw [hw3]; simp [hsz2]
 have P3 := ghid ((hb23.cell (p := ⟨w.heap.size + 1, 0, none⟩) (by show w.heap.size + 1 < w2.heap.size; omega)).trans p2)
 have N3 := ghid ((hb23.cell (p := ⟨w.heap.size + 2, 0, none⟩) (by show w.heap.size + 2 < w2.heap.size; omega)).trans n2)
 have HN3 := hid (show Nms w3 (.slice (some ⟨w.heap.size + 4, 0, none⟩) 1 1) [p] from Or.inr ⟨w.heap.size + 4, 1, rfl, by omega, fun i hi => by
  match i, hi with
  | 0, _ =>
   have : ((w2.alloc (.cells #[.slice none 0 0, .int .i64 0, .int .i64 0, .int .i64 0] 26)).alloc (.cells #[.string p] 9)).cell? ⟨(w2.alloc (.cells #[.slice none 0 0, .int .i64 0, .int .i64 0, .int .i64 0] 26)).heap.size, 0, none⟩ = some (.string p) := by simp
   rw [hw3]
   simpa [hsz2] using this⟩)
 have hns : ∀ s ∈ [p], s.size ≤ 150000000000000 := fun s h => by rw [List.mem_singleton.1 h]; exact hp
 rw [hw2] at hw3
 clear hb2 hb23 p2 n2 hsz2 hw2
 rcases Pp.fi_cases G x l r p n now with ⟨h0, hE⟩ | ⟨h0, h1, hE⟩ | ⟨h0, hE, k, hk, h1⟩
 · have HE := ghid hE
   have HNZ := ghid h0
   have hz : (Pp.goE G x l r now [p] == 0) = false := by simpa using h0
   clear hE h0
   go_enter Tryz.func111, Tryz.ntmps111
   go_wp2_with fail
   rw [← hw3]
   clear hw3
   refine (going_any G _ x l r now [p] _ _ (HV.out.below B3.out) HS.out HN3.out hns (by simp)).mono ?_
   rintro e w4 (⟨_, rfl, hb4⟩ | ⟨hh, _⟩)
   rotate_left
   · exact absurd hh HNZ.out
   have hb04 := B3.out.trans (hb4.mono B3.out.size)
   obtain ⟨hRb, ⟨c0, c1, c2, c3⟩, f0, f1, f2, f3⟩ := HR3.out.below hb4
   have hsz4 := hb4.size
   clear hb4
   generalize hy : Pp.goE G x l r now [p] = y at *
   go_wp2_with fail
   refine bodyPost_ret (v := .tuple #[.agg #[.slice none 0 0, .int .i64 0, .int .i64 0, .int .i64 0], .int .i64 0, .int .i64 y]) (by simp [results, Tryz.results111, go_sem, c0, c1, c2, c3, hRb]) rfl (Or.inl ⟨by rw [HE.out]; exact HNZ.out, by rw [HE.out], ?_⟩)
   exact (below_set4 (b := w.heap.size + 3) hb04 (by omega)).alloc (by simp; omega) _
 · have HE := ghid hE
   have H0 := ghid h0
   have HI := ghid h1
   have hl20 := (Pp.bnd_zero (Pp.uch_zero (Pp.go_zero h0).1).1).1
   have hsw := Pp.swL_len now G
   clear hE h0 h1
   go_enter Tryz.func111, Tryz.ntmps111
   go_wp2_with fail
   rw [← hw3]
   clear hw3
   refine (going_any G _ x l r now [p] _ _ (HV.out.below B3.out) HS.out HN3.out hns (by simp)).mono ?_
   rintro e w4 (⟨hne, _⟩ | ⟨_, u, rfl, hown, hb4⟩)
   · exact absurd H0.out hne
   have hb04 := B3.out.trans (hb4.mono B3.out.size)
   have hR4 := HR3.out.below hb4
   have P4 := ghid ((hb4.cell (p := ⟨w.heap.size + 1, 0, none⟩) (by show w.heap.size + 1 < w3.heap.size; omega)).trans P3.out)
   have N4 := ghid ((hb4.cell (p := ⟨w.heap.size + 2, 0, none⟩) (by show w.heap.size + 2 < w3.heap.size; omega)).trans N3.out)
   have hsz4 := hb4.size
   have HOWN := ghid hown
   clear hb4 hown
   obtain ⟨a5, cap5, hu5, _, _, _⟩ := HOWN.out.lies (by omega)
   subst hu5
   obtain ⟨wz, hwz⟩ : ∃ wz, wz = w4.alloc (.cells #[.slice a5 (Pp.swL now G).length cap5, .int .i64 x, .int .i64 l, .int .i64 r] 26) := ⟨_, rfl⟩
   have hbz : Below w4.heap.size w4 wz := by rw [hwz]; exact (Below.refl _ _).alloc (Nat.le_refl _) _
   have hGz : Bx wz w4.heap.size (.slice a5 (Pp.swL now G).length cap5) (.int .i64 x) (.int .i64 l) (.int .i64 r) := by rw [hwz]; exact Bx.new _ _ _ _ _ _
   have hRz := hR4.below hbz
   have hb0z := hb04.trans (hbz.mono hb04.size)
   have hOz := HOWN.out.below hbz
   have pz := (hbz.cell (p := ⟨w.heap.size + 1, 0, none⟩) (by show w.heap.size + 1 < w4.heap.size; omega)).trans P4.out
   have nz := (hbz.cell (p := ⟨w.heap.size + 2, 0, none⟩) (by show w.heap.size + 2 < w4.heap.size; omega)).trans N4.out
   have hszz := hbz.size
   have hTell : TellsS wz 0 136 #[.pointer (some ⟨w.heap.size + 2, 0, none⟩), .pointer (some ⟨w.heap.size + 1, 0, none⟩)] (Pp.mine n p) :=
    ⟨enters_of Tryz.func136 (by kernel_rfl) rfl, fun W hW s => find1_any s n p (w.heap.size + 2) (w.heap.size + 1) W (Nat.lt_of_lt_of_le (by omega) hW.size) (Nat.lt_of_lt_of_le (by omega) hW.size) ((Nb.cell hW (p := ⟨w.heap.size + 2, 0, none⟩) (by show w.heap.size + 2 < wz.heap.size; omega) (by show w.heap.size + 2 ≠ 0; omega)).trans nz) ((Nb.cell hW (p := ⟨w.heap.size + 1, 0, none⟩) (by show w.heap.size + 1 < wz.heap.size; omega) (by show w.heap.size + 1 ≠ 0; omega)).trans pz)⟩
   have HT := ghid hTell
   have HOZ := ghid hOz
   have HGZ := ghid hGz
   clear hTell hR4 hb04 hbz HOWN hOz
   obtain ⟨hGb, ⟨q0, q1, q2, q3⟩, k0, k1, k2, k3⟩ := hGz
   go_wp2_with fail
   rw [← hwz]
   clear hwz
   refine (sindexFunc_any (Pp.swL now G) _ 0 _ _ (Pp.mine n p) _ (HOZ.out.lies (by omega)) HT.out).mono ?_
   rintro e w5 ⟨rfl, hb5⟩
   rw [HI.out]
   have hb05 := hb0z.trans (hb5.mono hb0z.size)
   have hR5 := hRz.below hb5
   have HG5 := ghid (HGZ.out.below hb5)
   have HO5 := ghid (HOZ.out.below hb5)
   have hsz5 := hb5.size
   clear hb5 hRz hb0z q0 q1 q2 q3 k0 k1 k2 k3
   obtain ⟨hRb, ⟨c0, c1, c2, c3⟩, f0, f1, f2, f3⟩ := hR5
   obtain ⟨hGb5, ⟨q0, q1, q2, q3⟩, k0, k1, k2, k3⟩ := HG5.out
   go_wp2_with fail
   refine bodyPost_ret (v := .tuple #[.agg #[.slice none 0 0, .int .i64 0, .int .i64 0, .int .i64 0], .int .i64 0, .int .i64 5]) (by simp [results, Tryz.results111, go_sem, c0, c1, c2, c3, hRb]) rfl (Or.inl ⟨by rw [HE.out]; decide, by rw [HE.out], ?_⟩)
   exact below_set4 (b := w.heap.size + 3) hb05 (by omega)
 · have HE := ghid hE
   have HI1 := ghid h1
   have hkk : ¬ (k : Int) < 0 := by omega
   have H0 := ghid h0
   have HI := ghid h1
   have hl20 := (Pp.bnd_zero (Pp.uch_zero (Pp.go_zero h0).1).1).1
   have hsw := Pp.swL_len now G
   clear hE h0 h1
   go_enter Tryz.func111, Tryz.ntmps111
   go_wp2_with fail
   rw [← hw3]
   clear hw3
   refine (going_any G _ x l r now [p] _ _ (HV.out.below B3.out) HS.out HN3.out hns (by simp)).mono ?_
   rintro e w4 (⟨hne, _⟩ | ⟨_, u, rfl, hown, hb4⟩)
   · exact absurd H0.out hne
   have hb04 := B3.out.trans (hb4.mono B3.out.size)
   have hR4 := HR3.out.below hb4
   have P4 := ghid ((hb4.cell (p := ⟨w.heap.size + 1, 0, none⟩) (by show w.heap.size + 1 < w3.heap.size; omega)).trans P3.out)
   have N4 := ghid ((hb4.cell (p := ⟨w.heap.size + 2, 0, none⟩) (by show w.heap.size + 2 < w3.heap.size; omega)).trans N3.out)
   have hsz4 := hb4.size
   have HOWN := ghid hown
   clear hb4 hown
   obtain ⟨a5, cap5, hu5, _, _, _⟩ := HOWN.out.lies (by omega)
   subst hu5
   obtain ⟨wz, hwz⟩ : ∃ wz, wz = w4.alloc (.cells #[.slice a5 (Pp.swL now G).length cap5, .int .i64 x, .int .i64 l, .int .i64 r] 26) := ⟨_, rfl⟩
   have hbz : Below w4.heap.size w4 wz := by rw [hwz]; exact (Below.refl _ _).alloc (Nat.le_refl _) _
   have hGz : Bx wz w4.heap.size (.slice a5 (Pp.swL now G).length cap5) (.int .i64 x) (.int .i64 l) (.int .i64 r) := by rw [hwz]; exact Bx.new _ _ _ _ _ _
   have hRz := hR4.below hbz
   have hb0z := hb04.trans (hbz.mono hb04.size)
   have hOz := HOWN.out.below hbz
   have pz := (hbz.cell (p := ⟨w.heap.size + 1, 0, none⟩) (by show w.heap.size + 1 < w4.heap.size; omega)).trans P4.out
   have nz := (hbz.cell (p := ⟨w.heap.size + 2, 0, none⟩) (by show w.heap.size + 2 < w4.heap.size; omega)).trans N4.out
   have hszz := hbz.size
   have hTell : TellsS wz 0 136 #[.pointer (some ⟨w.heap.size + 2, 0, none⟩), .pointer (some ⟨w.heap.size + 1, 0, none⟩)] (Pp.mine n p) :=
    ⟨enters_of Tryz.func136 (by kernel_rfl) rfl, fun W hW s => find1_any s n p (w.heap.size + 2) (w.heap.size + 1) W (Nat.lt_of_lt_of_le (by omega) hW.size) (Nat.lt_of_lt_of_le (by omega) hW.size) ((Nb.cell hW (p := ⟨w.heap.size + 2, 0, none⟩) (by show w.heap.size + 2 < wz.heap.size; omega) (by show w.heap.size + 2 ≠ 0; omega)).trans nz) ((Nb.cell hW (p := ⟨w.heap.size + 1, 0, none⟩) (by show w.heap.size + 1 < wz.heap.size; omega) (by show w.heap.size + 1 ≠ 0; omega)).trans pz)⟩
   have HT := ghid hTell
   have HOZ := ghid hOz
   have HGZ := ghid hGz
   clear hTell hR4 hb04 hbz HOWN hOz
   obtain ⟨hGb, ⟨q0, q1, q2, q3⟩, k0, k1, k2, k3⟩ := hGz
   go_wp2_with fail
   rw [← hwz]
   clear hwz
   refine (sindexFunc_any (Pp.swL now G) _ 0 _ _ (Pp.mine n p) _ (HOZ.out.lies (by omega)) HT.out).mono ?_
   rintro e w5 ⟨rfl, hb5⟩
   rw [HI.out]
   have hb05 := hb0z.trans (hb5.mono hb0z.size)
   have hR5 := hRz.below hb5
   have HG5 := ghid (HGZ.out.below hb5)
   have HO5 := ghid (HOZ.out.below hb5)
   have hsz5 := hb5.size
   clear hb5 hRz hb0z q0 q1 q2 q3 k0 k1 k2 k3
   obtain ⟨hRb, ⟨c0, c1, c2, c3⟩, f0, f1, f2, f3⟩ := hR5
   obtain ⟨hGb5, ⟨q0, q1, q2, q3⟩, k0, k1, k2, k3⟩ := HG5.out
   go_wp2_with fail
   refine bodyPost_ret (v := .tuple #[.agg #[.slice a5 (Pp.swL now G).length cap5, .int .i64 x, .int .i64 l, .int .i64 r], .int .i64 k, .int .i64 0]) (by simp [results, Tryz.results111, go_sem, c0, c1, c2, c3, hRb]) rfl (Or.inr ⟨HE.out, _, k, rfl, hk, HI1.out, ?_, ?_⟩)
   · exact (HO5.out.nb (Nb.set4 _ (w.heap.size + 3) _ _ _ _) (by omega)).mono (by omega)
   · exact below_set4 (b := w.heap.size + 3) hb05 (by omega)
end Go.Proofs.YtchlgpeiombmdaaGreat
set_option linter.unusedSimpArgs false
set_option linter.unusedVariables false
namespace Go.Proofs.YtchlgpeiombmdaaGreat
open Go.RowKit

namespace Pp
/-- Is a piece just what a text has from an offset on? -/
def enB (t : ByteArray) (o : Int) (p : ByteArray) : Bool := inR 0 o t.size && ((t.extract o.toNat t.size).toList == p.toList)
end Pp

set_option maxHeartbeats 1000000 in
theorem ends_any (t p : ByteArray) (o : Int) (w : World) (ht : t.size ≤ 150000000000000) :
    Calls Tryz.prog 112 #[.string t, .int .i64 o, .string p] w fun e w' => e = .returned (.bool (Pp.enB t o p)) ∧ w' = w := by
 cases h1 : Pp.inR 0 o t.size with
 | false =>
  have H1 := ghid h1
  have HE := hid (show false = Pp.enB t o p from by rw [Pp.enB, h1]; rfl)
  clear h1
  go_enter Tryz.func112, Tryz.ntmps112
  go_wp2_with fail
  refine (isFrom_any 0 o t.size _).mono ?_
  rintro e w1 ⟨rfl, hw⟩
  rw [hw, H1.out]
  clear hw w1
  go_wp2
  go_ret
  exact ⟨Pp.ret_bool HE.out, rfl⟩
 | true =>
  have H1 := ghid h1
  obtain ⟨ho1, ho2⟩ := Pp.inR_yes h1
  obtain ⟨k, rfl⟩ : ∃ k : Nat, o = (k : Int) := ⟨o.toNat, by omega⟩
  have hk : k ≤ t.size := by omega
  have HE := hid (show ((t.extract k t.size).toList == p.toList) = Pp.enB t k p from by rw [Pp.enB, h1]; rfl)
  clear h1
  go_enter Tryz.func112, Tryz.ntmps112
  go_wp2_with fail
  refine (isFrom_any 0 k t.size _).mono ?_
  rintro e w1 ⟨rfl, hw⟩
  rw [hw, H1.out]
  clear hw w1
  go_wp2
  go_ret
  exact ⟨Pp.ret_bool HE.out, rfl⟩
end Go.Proofs.YtchlgpeiombmdaaGreat
set_option linter.unusedSimpArgs false
set_option linter.unusedVariables false
namespace Go.Proofs.YtchlgpeiombmdaaGreat
open Go.RowKit

namespace Pp
theorem fi_zero {G : List Se} {x l r : Int} {p : ByteArray} {n now : Int} (h : fiE G x l r p n now = 0) : goE G x l r now [p] = 0 := by
 rcases fi_cases G x l r p n now with ⟨h0, hE⟩ | ⟨h0, _, hE⟩ | ⟨h0, _⟩
 · rw [h] at hE; exact hE.symm
 · exact h0
 · exact h0
/-- What Append makes of a session. -/
def moreS (s : Se) (t : ByteArray) (till : Int) : Se := ⟨s.nu, s.wh, s.tx ++ t, s.si, till⟩
end Pp
theorem RowS.set2 {w : World} {g : Nat} {d : List Se} (h : RowS w g d) {i : Nat} (hi : i < d.length) (t : ByteArray) (till : Int) : RowS ((w.setCell ⟨g, i * 5 + 2, none⟩ (.string t)).setCell ⟨g, i * 5 + 4, none⟩ (.int .i64 till)) g (d.set i ⟨(d[i]).nu, (d[i]).wh, t, (d[i]).si, till⟩) := by
 have hs2 : (w.cell? ⟨g, i * 5 + 2, none⟩).isSome = true := by rw [(h.2 i hi 2 (by decide)).1]; rfl
 have hs4 : (w.cell? ⟨g, i * 5 + 4, none⟩).isSome = true := by rw [(h.2 i hi 4 (by decide)).1]; rfl
 refine ⟨by simpa using h.1, fun j hj c hc => ⟨?_, ?_⟩⟩
 · have hj' : j < d.length := by simpa using hj
   by_cases e4 : j * 5 + c = i * 5 + 4
   · obtain ⟨rfl, rfl⟩ : j = i ∧ c = 4 := by omega
     rw [World.cell?_setCell_same' _ _ _ (by rw [World.cell?_setCell_other (h := by simp)]; exact hs4), List.getElem_set_self]
     rfl
   · rw [World.cell?_setCell_other (h := fun e => e4 (by injection e with _ e2; exact e2.symm))]
     by_cases e2 : j * 5 + c = i * 5 + 2
     · obtain ⟨rfl, rfl⟩ : j = i ∧ c = 2 := by omega
       rw [World.cell?_setCell_same' _ _ _ hs2, List.getElem_set_self]
       rfl
     · rw [World.cell?_setCell_other (h := fun e => e2 (by injection e with _ e3; exact e3.symm)), (h.2 j hj' c hc).1]
       by_cases e : j = i
       · subst e
         rw [List.getElem_set_self]
         match c, hc with
         | 0, _ => rfl
         | 1, _ => rfl
         | 2, _ => exact absurd rfl e2
         | 3, _ => rfl
         | 4, _ => exact absurd rfl e4
       · rw [List.getElem_set_ne (fun e' => e e'.symm)]
 · rw [World.frozen?_setCell, World.frozen?_setCell]; exact (h.2 j (by simpa using hj) c hc).2
set_option maxRecDepth 100000 in
set_option maxHeartbeats 4000000 in
theorem append_k (G : List Se) (v : Value) (x l r : Int) (p : ByteArray) (n o : Int) (t : ByteArray) (now : Int) (w : World) (hv : LiesS w v G) (hs : SizedS G) (hp : p.size ≤ 150000000000000) (h0 : Pp.fiE G x l r p n now = 0) (kk : Nat) (hkk : kk < (Pp.swL now G).length) (hidx : Pp.idS (Pp.swL now G) (Pp.mine n p) = (kk : Int)) (ht : t.size ≤ 150000000000000) (he : Pp.enB ((Pp.swL now G)[kk]).tx o t = false) (ho : o = (((Pp.swL now G)[kk]).tx.size : Int)) (hsi : (((Pp.swL now G)[kk]).tx.size : Int) + t.size ≤ ((Pp.swL now G)[kk]).si) :
    Calls Tryz.prog 82 #[.agg #[v, .int .i64 x, .int .i64 l, .int .i64 r], .string p, .int .i64 n, .int .i64 o, .string t, .int .i64 now] w fun e w' => ∃ u, e = .returned (.tuple #[.agg #[u, .int .i64 x, .int .i64 l, .int .i64 r], .int .i64 ((((Pp.swL now G)[kk]).tx.size : Int) + t.size), .int .i64 0]) ∧ OwnS w.heap.size w' u ((Pp.swL now G).set kk (Pp.moreS (Pp.swL now G)[kk] t (now + l))) ∧ Below w.heap.size w w' := by
 have HV := ghid hv
 have HS := ghid hs
 clear hv hs
 obtain ⟨w3, hw3⟩ : ∃ w3, w3 = (w.alloc (.cells #[v, .int .i64 x, .int .i64 l, .int .i64 r] 26)).alloc (.cells #[.slice none 0 0, .int .i64 0, .int .i64 0, .int .i64 0] 26) := ⟨_, rfl⟩
 have B3 := hid (show Below w.heap.size w w3 from by rw [hw3]; exact ((Below.refl _ _).alloc (Nat.le_refl _) _).alloc (by simp) _)
 have HR3 := hid (show Bx w3 (w.heap.size + 1) (.slice none 0 0) (.int .i64 0) (.int .i64 0) (.int .i64 0) from by
  have := Bx.new (w.alloc (.cells #[v, .int .i64 x, .int .i64 l, .int .i64 r] 26)) (.slice none 0 0) (.int .i64 0) (.int .i64 0) (.int .i64 0) 26
  rw [hw3]; simpa using this)
 have hsz3 : w3.heap.size = w.heap.size + 2 := by rw [hw3]; simp
 subst ho
 have H0 := ghid h0
 have HI := ghid hidx
 have hgz := Pp.fi_zero h0
 obtain ⟨huc, ⟨hn1, hn2⟩, _⟩ := Pp.go_zero hgz
 obtain ⟨hl20, ⟨hl1, hl2⟩, ⟨hr1, hr2⟩, hx1, hx2⟩ := Pp.bnd_zero (Pp.uch_zero huc).1
 have hsw := Pp.swL_len now G
 have hse := Pp.se_zero (Pp.ses_mem.1 (Pp.uch_zero huc).2.1 _ (List.mem_filter.1 (List.getElem_mem hkk)).1)
 obtain ⟨hsi1, hsi2⟩ := Pp.inR_yes hse.2.1
 have htx := hse.2.2.2.2
 clear h0 hgz huc hse hidx
 go_enter Tryz.func82, Tryz.ntmps82
 go_wp2_with fail
 rw [← hw3]
 clear hw3
 refine (find_any G _ x l r p n now _ (HV.out.below B3.out) HS.out hp).mono ?_
 rintro e w4 (⟨hne, _⟩ | ⟨_, u, k, rfl, hk, hid, hown, hb4⟩)
 · exact absurd H0.out hne
 obtain rfl : k = kk := by have := HI.out; rw [hid] at this; omega
 have hb04 := B3.out.trans (hb4.mono B3.out.size)
 have hR4 := HR3.out.below hb4
 have hsz4 := hb4.size
 clear hb4 hid
 rcases hown with ⟨_, hnil⟩ | ⟨g, cap, rfl, hg1, hg2, hrow, hblk, hcm⟩
 · rw [hnil] at hk; simp at hk
 have hglt := hrow.1
 obtain ⟨wz, hwz⟩ : ∃ wz, wz = w4.alloc (.cells #[.slice (some ⟨g, 0, none⟩) (Pp.swL now G).length cap, .int .i64 x, .int .i64 l, .int .i64 r] 26) := ⟨_, rfl⟩
 have hbz : Below w4.heap.size w4 wz := by rw [hwz]; exact (Below.refl _ _).alloc (Nat.le_refl _) _
 have hGz : Bx wz w4.heap.size (.slice (some ⟨g, 0, none⟩) (Pp.swL now G).length cap) (.int .i64 x) (.int .i64 l) (.int .i64 r) := by rw [hwz]; exact Bx.new _ _ _ _ _ _
 have hRz := hR4.below hbz
 have hb0z := hb04.trans (hbz.mono hb04.size)
 have hrz := hrow.below hbz
 have hblz := hblk.below hbz
 have hszz := hbz.size
 have HGZ := ghid hGz
 have HRZ := ghid hRz
 have HROWZ := ghid hrz
 have HBLZ := ghid hblz
 obtain ⟨t0, t1, t2, t3, t4⟩ := hrz.at hk
 clear hR4 hb04 hbz hrow hblk hrz hblz
 obtain ⟨hGb, ⟨q0, q1, q2, q3⟩, k0, k1, k2, k3⟩ := hGz
 have HEN := ghid he
 have hsl : ((Pp.swL now G)[k]).tx.size ≤ 150000000000000 := by omega
 clear he
 generalize hS : (Pp.swL now G)[k] = s at *
 have T2 := ghid t2
 have T3 := ghid t3
 rw [hwz] at t0 t1 t2 t3 t4
 go_wp2_with fail
 rw [← hwz]
 clear hwz t0 t1 t2 t3 t4
 have t2 := T2.out
 have t3 := T3.out
 refine (ends_any s.tx t _ _ hsl).mono ?_
 rintro e w5 ⟨rfl, hw⟩
 rw [hw, HEN.out]
 clear hw w5
 have hF2 := (HROWZ.out.2 k hk 2 (by decide)).2
 have hF4 := (HROWZ.out.2 k hk 4 (by decide)).2
 have hC4 : wz.cell? ⟨g, k * 5 + 4, none⟩ = some (.int .i64 s.ti) := by have := (HROWZ.out.at hk).2.2.2.2; rw [hS] at this; exact this
 have hwr2 : IntKind.i64.wrap ((s.tx.size : Int) + t.size) = (s.tx.size : Int) + t.size := by rw [IntKind.wrap_i64]; omega
 have hwr3 : IntKind.i64.wrap (now + l) = now + l := by rw [IntKind.wrap_i64]; omega
 have hns : ¬ s.si < (s.tx.size : Int) + t.size := by omega
 obtain ⟨wq, hwq⟩ : ∃ wq, wq = ((wz.setCell ⟨g, k * 5 + 2, none⟩ (.string (s.tx ++ t))).setCell ⟨g, k * 5 + 4, none⟩ (.int .i64 (now + l))).drew := ⟨_, rfl⟩
 have hnb0 : wz.grownBy ((wz.setCell ⟨g, k * 5 + 2, none⟩ (.string (s.tx ++ t))).setCell ⟨g, k * 5 + 4, none⟩ (.int .i64 (now + l))) (some g) := Nb.trans (Nb.setCell _ _ _ _) (Nb.setCell _ _ _ _)
 have hnbq : wz.grownBy wq (some g) := by rw [hwq]; exact Nb.trans hnb0 (Nb.below g (Below.refl _ _).drew)
 have hrq : RowS wq g ((Pp.swL now G).set k (Pp.moreS s t (now + l))) := by
  have := (HROWZ.out.set2 hk (s.tx ++ t) (now + l)).below (Below.refl _ _).drew
  rw [hS] at this
  rw [hwq]; exact this
 have hblq : Blk wq g 104 (cap * 5) := by
  rw [hwq]
  exact (KeepB.setCell g _ _ _ _ _ (KeepB.setCell g _ _ _ _ _ HBLZ.out)).below (Below.refl _ _).drew
 have hq2 : wq.cell? ⟨g, k * 5 + 2, none⟩ = some (.string (s.tx ++ t)) := by
  have h9 : k < ((Pp.swL now G).set k (Pp.moreS s t (now + l))).length := by simpa using hk
  have := (hrq.at h9).2.2.1
  rw [List.getElem_set_self] at this
  exact this
 have HRQ := ghid (HRZ.out.nb hnbq (by omega))
 have HGQ := ghid (HGZ.out.nb hnbq (by omega))
 have hb0q : Below w.heap.size w wq := hb0z.trans (Nb.to hnbq hb0z.size (by omega))
 have HROWQ := ghid hrq
 have HBLQ := ghid hblq
 have hszq := hnbq.size
 have hsapp : (s.tx ++ t).size = s.tx.size + t.size := ByteArray.size_append
 have HSA := ghid hsapp
 go_wp2_with fail
 go_region
 go_wp2_with fail
 rw [← hwq]
 clear hwq hnb0 hnbq hrq hblq t2 t3 hF2 hF4 hC4 q0 q1 q2 q3 k0 k1 k2 k3 hwr2 hwr3 hsapp
 obtain ⟨hRb, ⟨c0, c1, c2, c3⟩, f0, f1, f2, f3⟩ := HRQ.out
 obtain ⟨hGb2, ⟨q0, q1, q2, q3⟩, k0, k1, k2, k3⟩ := HGQ.out
 go_region
 go_wp2_with fail
 refine bodyPost_ret (v := .tuple #[.agg #[.slice (some ⟨g, 0, none⟩) (Pp.swL now G).length cap, .int .i64 x, .int .i64 l, .int .i64 r], .int .i64 ((s.tx.size : Int) + t.size), .int .i64 0]) (by simp [results, Tryz.results82, go_sem, c0, c1, c2, c3, hRb, HSA.out]) rfl ⟨_, by rw [hS], ?_, ?_⟩
 · rw [hS]
   refine Or.inr ⟨g, cap, by simp, by omega, by simpa using hg2, ?_, ?_, hcm⟩
   · exact (HROWQ.out.nb (Nb.set4 _ (w.heap.size + 1) _ _ _ _) (by omega)).below (Below.refl _ _).drew
   · exact (HBLQ.out.nb (Nb.set4 _ (w.heap.size + 1) _ _ _ _) (by omega)).below (Below.refl _ _).drew
 · exact (below_set4 (b := w.heap.size + 1) hb0q (by omega)).drew
end Go.Proofs.YtchlgpeiombmdaaGreat
set_option linter.unusedSimpArgs false
set_option linter.unusedVariables false
namespace Go.Proofs.YtchlgpeiombmdaaGreat
open Go.RowKit

theorem RowS.setMany {w : World} {g : Nat} {A B C B' : List Se} (h : RowS w g (A ++ B ++ C)) (hl : B'.length = B.length) : RowS (w.setCells g (A.length * 5) (Pp.flatS B')) g (A ++ B' ++ C) := by
 have hfl := Pp.flatS_len B'
 refine ⟨Nat.lt_of_lt_of_le h.1 (Nb.setCells g _ _ w).size, fun j hj c hc => ⟨?_, ?_⟩⟩
 · have hj' : j < (A ++ B ++ C).length := by simp only [List.length_append] at hj ⊢; omega
   by_cases h1 : j < A.length
   · rw [World.cell?_setCells_out g _ _ _ _ (fun _ _ => by simp only; omega), (h.2 j hj' c hc).1]
     simp only [List.append_assoc]
     rw [List.getElem_append_left h1, List.getElem_append_left h1]
   · by_cases h2 : j < A.length + B'.length
     · have ht : (j - A.length) * 5 + c < (Pp.flatS B').length := by rw [hfl]; omega
       have hin := World.cell?_setCells_in g (Pp.flatS B') (A.length * 5) w (fun t ht' => by
        rw [hfl] at ht'
        exact (rowS_some h (by simp only [List.length_append]; omega)).1) _ ht
       rw [show A.length * 5 + ((j - A.length) * 5 + c) = j * 5 + c by omega] at hin
       rw [hin]
       have hg := Pp.flatS_get B' (j - A.length) c (by omega) hc
       rw [List.getElem?_eq_getElem ht] at hg
       rw [hg]
       have e : (A ++ B' ++ C)[j] = B'[j - A.length] := by
        simp only [List.append_assoc]
        rw [List.getElem_append_right (by omega), List.getElem_append_left (by omega)]
       rw [e]
     · rw [World.cell?_setCells_out g _ _ _ _ (fun _ _ => by simp only; rw [hfl]; omega), (h.2 j hj' c hc).1]
       have e : (A ++ B' ++ C)[j] = (A ++ B ++ C)[j] := by
        simp only [List.append_assoc]
        rw [List.getElem_append_right (by omega), List.getElem_append_right (by omega), List.getElem_append_right (by omega), List.getElem_append_right (by omega)]
        congr 1
        omega
       rw [e]
 · rw [World.frozen?_setCells]; exact (h.2 j (by simp only [List.length_append] at hj ⊢; omega) c hc).2
set_option maxRecDepth 100000 in
set_option maxHeartbeats 4000000 in
theorem sdelete_any (A C : List Se) (y : Se) (q cap : Nat) (w : World) (hR : RowS w q (A ++ y :: C)) (hcap : (A ++ y :: C).length ≤ cap) (hm : cap ≤ maxLen) :
    Calls Tryz.prog 137 #[.slice (some ⟨q, 0, none⟩) (A ++ y :: C).length cap, .int .i64 A.length, .int .i64 ((A.length : Int) + 1)] w fun e w' => e = .returned (.slice (some ⟨q, 0, none⟩) (A ++ C).length cap) ∧ RowS w' q (A ++ C) ∧ w.grownBy w' (some q) ∧ KeepB q w w' := by
 obtain ⟨i0, hi0, hz0, hz1, hz2⟩ := info_parts Tryz.infoSe
 have hmx : cap ≤ 9223372036854775807 := by unfold maxLen at hm; omega
 have hlen : (A ++ y :: C).length = A.length + C.length + 1 := by simp; omega
 obtain ⟨B, z, hBz⟩ : ∃ B z, y :: C = B ++ [z] := ⟨(y :: C).dropLast, (y :: C).getLast (by simp), (List.dropLast_concat_getLast (by simp)).symm⟩
 have hBl : C.length = B.length := by have := congrArg List.length hBz; simp at this; omega
 have hR2 : RowS w q (A ++ B ++ [z]) := by rw [List.append_assoc, ← hBz]; exact hR
 have hm1 : A.length + C.length + 1 - (A.length + 1) = C.length := by omega
 obtain ⟨W1, hW1⟩ : ∃ W1, W1 = w.drew.setCells q (0 + A.length * 5) (Pp.flatS C) := ⟨_, rfl⟩
 have hRd : RowS w.drew q (A ++ B ++ [z]) := hR2.below (Below.refl _ _).drew
 have hR1 : RowS W1 q (A ++ C ++ [z]) := by rw [hW1, Nat.zero_add]; exact hRd.setMany hBl
 have hnb1 : w.grownBy W1 (some q) := by rw [hW1]; exact Nb.trans (Nb.below q (Below.refl _ _).drew) (Nb.setCells q _ _ _)
 have hkb1 : KeepB q w W1 := by rw [hW1]; exact (KeepB.below (Below.refl _ _).drew).trans (KeepB.setCells q _ _ _)
 obtain ⟨wc, hcl, hrc, hnc, hkc⟩ := clearS (A := A ++ C) (X := [z]) hR1 0 (by simp)
 have s1 := hid (show (Pp.flatS C).length = C.length * 5 from Pp.flatS_len C)
 have s3 := hid (show ∀ t, t < (Pp.flatS C).length → (w.drew.cell? ⟨q, 0 + A.length * 5 + t, none⟩).isSome = true ∧ w.drew.frozen? ⟨q, 0 + A.length * 5 + t, none⟩ = false from fun t ht => by
  rw [Pp.flatS_len] at ht
  rw [Nat.zero_add]
  exact rowS_some hRd (by simp only [List.length_append, List.length_singleton]; omega))
 have hsrc : C ≠ [] → ∀ t u, (Pp.flatS C)[t]? = some u → w.drew.cell? ((⟨q, (A.length + 1) * 5, none⟩ : Addr).add t) = some u := fun _ => liesS_cells fun i hi => by
  have hi2 : A.length + 1 + i < (A ++ y :: C).length := by omega
  have := (hR.below (Below.refl _ _).drew).at hi2
  rw [show (A.length + 1 + i) * 5 = (A.length + 1) * 5 + i * 5 by omega] at this
  have e : (A ++ y :: C)[A.length + 1 + i] = C[i] := by
   rw [List.getElem_append_right (by omega)]
   simp [show A.length + 1 + i - A.length = i + 1 by omega]
  rw [e] at this
  exact this
 have hACl : (A ++ C).length = A.length + C.length := List.length_append
 rw [hACl] at hcl ⊢
 simp only [List.length_singleton] at hcl
 have HRC := ghid hrc
 have HNC := ghid (Nb.trans hnb1 hnc)
 have HKC := ghid (hkb1.trans hkc)
 have HW := ghid hW1
 have HSRC := ghid hsrc
 clear hrc hnc hkc hnb1 hkb1 hW1 hR1 hRd hR2 hR hsrc hBz hBl
 have hA0 : A.length ≤ cap := by omega
 have hN1 : (0 : Int) ≤ (A.length : Int) + 1 := by omega
 have hN2 : (A.length : Int) ≤ (A.length : Int) + C.length := by omega
 have hA1 : A.length + 1 ≤ cap := by omega
 rw [hlen] at hcap ⊢
 by_cases hcj : cap = A.length + 1
 · have hC0 : C = [] := List.length_eq_zero_iff.1 (by omega)
   subst hC0
   subst hcj
   have hM1 : A.length ≤ A.length + 1 := by omega
   have hM2 : (A.length : Int) ≤ (A.length : Int) + 1 := by omega
   have hM3 : (0 : Int) ≤ (A.length : Int) + 1 := by omega
   simp only [List.length_nil, Nat.add_zero] at *
   go_enter Tryz.func137, Tryz.ntmps137
   go_wp2_with fail
   go_region_law (refine step_append_room rfl (.tmp 22) (.tmp 25) 24 rfl 104 i0 5 Tryz.underlying24 hi0 hz1 q 0 A.length (A.length + 1) (by simp [Act.eval, Act.put]) ⟨q, 0, none⟩ 0 0 (Pp.flatS []) (by simp [Act.eval, Act.put]) rfl (by intro t u hu; simp [Pp.flatS] at hu) (flatS_one []) (by omega) s3.out ?_; rw [← HW.out])
   go_wp2_with fail
   go_ret
   exact ⟨rfl, HRC.out, HNC.out, HKC.out⟩
 · have hsrc2 := hid (show ∀ t u, (Pp.flatS C)[t]? = some u → w.drew.cell? ((⟨q, (A.length + 1) * 5, none⟩ : Addr).add t) = some u from by
    by_cases hC0 : C = []
    · subst hC0; intro t u hu; simp [Pp.flatS] at hu
    · exact HSRC.out hC0)
   go_enter Tryz.func137, Tryz.ntmps137
   go_wp2_with fail
   go_region_law (refine step_append_room rfl (.tmp 22) (.tmp 25) 24 rfl 104 i0 5 Tryz.underlying24 hi0 hz1 q 0 A.length cap (by simp [Act.eval, Act.put]) ⟨q, (A.length + 1) * 5, none⟩ C.length (cap - (A.length + 1)) (Pp.flatS C) (by simp [Act.eval, Act.put, hcj]) s1.out hsrc2.out (flatS_one C) (by omega) s3.out ?_; rw [← HW.out])
   go_wp2_with fail
   go_ret
   exact ⟨rfl, HRC.out, HNC.out, HKC.out⟩
end Go.Proofs.YtchlgpeiombmdaaGreat
set_option linter.unusedSimpArgs false
set_option linter.unusedVariables false
namespace Go.Proofs.YtchlgpeiombmdaaGreat
open Go.RowKit

namespace Pp
/-- What all calls tell first, but for names. -/
def bgE (G : List Se) (x l r now : Int) : Int := if uchE G x l r = 0 then (if inR 0 now 1099511627776 = true then 0 else 3) else uchE G x l r
theorem go_bg (G : List Se) (x l r now : Int) : goE G x l r now [] = bgE G x l r now := by
 have h : nmsE [] = 0 := rfl
 rw [goE, bgE, h]
theorem swL_snoc {now : Int} {G : List Se} {k : Nat} (h : k < G.length) : swL now (G.take (k + 1)) = if ovr now G[k] = true then swL now (G.take k) else swL now (G.take k) ++ [G[k]] := by
 rw [swL, swL, List.take_succ_eq_append_getElem h, List.filter_append]
 cases hh : ovr now G[k] <;> simp [hh]
end Pp

end Go.Proofs.YtchlgpeiombmdaaGreat
set_option linter.unusedSimpArgs false
set_option linter.unusedVariables false
namespace Go.Proofs.YtchlgpeiombmdaaGreat
open Go.RowKit

set_option maxRecDepth 100000 in
set_option maxHeartbeats 4000000 in
theorem finish_k (G : List Se) (v : Value) (x l r : Int) (p : ByteArray) (n : Int) (now : Int) (w : World) (hv : LiesS w v G) (hs : SizedS G) (hp : p.size ≤ 150000000000000) (h0 : Pp.fiE G x l r p n now = 0) (kk : Nat) (hkk : kk < (Pp.swL now G).length) (hidx : Pp.idS (Pp.swL now G) (Pp.mine n p) = (kk : Int)) (hsi : ¬ (((Pp.swL now G)[kk]).tx.size : Int) < ((Pp.swL now G)[kk]).si) :
    Calls Tryz.prog 113 #[.agg #[v, .int .i64 x, .int .i64 l, .int .i64 r], .string p, .int .i64 n, .int .i64 now] w fun e w' => ∃ u, e = .returned (.tuple #[.agg #[u, .int .i64 x, .int .i64 l, .int .i64 r], .string ((Pp.swL now G)[kk]).tx, .int .i64 0]) ∧ OwnS w.heap.size w' u ((Pp.swL now G).take kk ++ (Pp.swL now G).drop (kk + 1)) ∧ Below w.heap.size w w' := by
 have HV := ghid hv
 have HS := ghid hs
 clear hv hs
 obtain ⟨w3, hw3⟩ : ∃ w3, w3 = (w.alloc (.cells #[v, .int .i64 x, .int .i64 l, .int .i64 r] 26)).alloc (.cells #[.slice none 0 0, .int .i64 0, .int .i64 0, .int .i64 0] 26) := ⟨_, rfl⟩
 have B3 := hid (show Below w.heap.size w w3 from by rw [hw3]; exact ((Below.refl _ _).alloc (Nat.le_refl _) _).alloc (by simp) _)
 have HR3 := hid (show Bx w3 (w.heap.size + 1) (.slice none 0 0) (.int .i64 0) (.int .i64 0) (.int .i64 0) from by
  have := Bx.new (w.alloc (.cells #[v, .int .i64 x, .int .i64 l, .int .i64 r] 26)) (.slice none 0 0) (.int .i64 0) (.int .i64 0) (.int .i64 0) 26
  rw [hw3]; simpa using this)
 have hsz3 : w3.heap.size = w.heap.size + 2 := by rw [hw3]; simp
 have H0 := ghid h0
 have HI := ghid hidx
 have hgz := Pp.fi_zero h0
 obtain ⟨huc, ⟨hn1, hn2⟩, _⟩ := Pp.go_zero hgz
 obtain ⟨hl20, ⟨hl1, hl2⟩, ⟨hr1, hr2⟩, hx1, hx2⟩ := Pp.bnd_zero (Pp.uch_zero huc).1
 have hsw := Pp.swL_len now G
 have hse := Pp.se_zero (Pp.ses_mem.1 (Pp.uch_zero huc).2.1 _ (List.mem_filter.1 (List.getElem_mem hkk)).1)
 obtain ⟨hsi1, hsi2⟩ := Pp.inR_yes hse.2.1
 have htx := hse.2.2.2.2
 clear h0 hgz huc hse hidx
 go_enter Tryz.func113, Tryz.ntmps113
 go_wp2_with fail
 rw [← hw3]
 clear hw3
 refine (find_any G _ x l r p n now _ (HV.out.below B3.out) HS.out hp).mono ?_
 rintro e w4 (⟨hne, _⟩ | ⟨_, u, k, rfl, hk, hid, hown, hb4⟩)
 · exact absurd H0.out hne
 obtain rfl : k = kk := by have := HI.out; rw [hid] at this; omega
 have hb04 := B3.out.trans (hb4.mono B3.out.size)
 have hR4 := HR3.out.below hb4
 have hsz4 := hb4.size
 clear hb4 hid
 rcases hown with ⟨_, hnil⟩ | ⟨g, cap, rfl, hg1, hg2, hrow, hblk, hcm⟩
 · rw [hnil] at hk; simp at hk
 have hglt := hrow.1
 obtain ⟨wz, hwz⟩ : ∃ wz, wz = w4.alloc (.cells #[.slice (some ⟨g, 0, none⟩) (Pp.swL now G).length cap, .int .i64 x, .int .i64 l, .int .i64 r] 26) := ⟨_, rfl⟩
 have hbz : Below w4.heap.size w4 wz := by rw [hwz]; exact (Below.refl _ _).alloc (Nat.le_refl _) _
 have hGz : Bx wz w4.heap.size (.slice (some ⟨g, 0, none⟩) (Pp.swL now G).length cap) (.int .i64 x) (.int .i64 l) (.int .i64 r) := by rw [hwz]; exact Bx.new _ _ _ _ _ _
 have hRz := hR4.below hbz
 have hb0z := hb04.trans (hbz.mono hb04.size)
 have hrz := hrow.below hbz
 have hblz := hblk.below hbz
 have hszz := hbz.size
 have HGZ := ghid hGz
 have HRZ := ghid hRz
 have HROWZ := ghid hrz
 have HBLZ := ghid hblz
 obtain ⟨t0, t1, t2, t3, t4⟩ := hrz.at hk
 clear hR4 hb04 hbz hrow hblk hrz hblz
 obtain ⟨hGb, ⟨q0, q1, q2, q3⟩, k0, k1, k2, k3⟩ := hGz
 have hM : Pp.swL now G = (Pp.swL now G).take k ++ (Pp.swL now G)[k] :: (Pp.swL now G).drop (k + 1) := by rw [← List.drop_eq_getElem_cons hk, List.take_append_drop]
 have hAl : ((Pp.swL now G).take k).length = k := by rw [List.length_take]; omega
 generalize hS : (Pp.swL now G)[k] = s at *
 obtain ⟨A, hA⟩ : ∃ A, A = (Pp.swL now G).take k := ⟨_, rfl⟩
 obtain ⟨C, hC⟩ : ∃ C, C = (Pp.swL now G).drop (k + 1) := ⟨_, rfl⟩
 rw [← hA, ← hC] at hM
 rw [← hA] at hAl
 have HROWA := hid (show RowS wz g (A ++ s :: C) from by rw [← hM]; exact HROWZ.out)
 have HMM := ghid hM
 have HML := hid (show (Pp.swL now G).length = (A ++ s :: C).length from by rw [← hM])
 have HAC := hid (show (Pp.swL now G).take k ++ (Pp.swL now G).drop (k + 1) = A ++ C from by rw [hA, hC])
 obtain ⟨ws, hws⟩ : ∃ ws, ws = wz.alloc (.cells #[.int .i64 s.nu, .string s.wh, .string s.tx, .int .i64 s.si, .int .i64 s.ti] 104) := ⟨_, rfl⟩
 have hbs : Below wz.heap.size wz ws := by rw [hws]; exact (Below.refl _ _).alloc (Nat.le_refl _) _
 have hz2 : ws.cell? ⟨wz.heap.size, 2, none⟩ = some (.string s.tx) := by rw [hws]; simp
 have hszs : ws.heap.size = wz.heap.size + 1 := by rw [hws]; simp
 have HGS := ghid (HGZ.out.below hbs)
 have HRS := ghid (HRZ.out.below hbs)
 have HROWS := ghid (HROWA.out.below hbs)
 have HBLS := ghid (HBLZ.out.below hbs)
 have hb0s := hb0z.trans (hbs.mono hb0z.size)
 have hszz1 : wz.heap.size = w4.heap.size + 1 := by rw [hwz]; simp
 obtain ⟨hGs, ⟨y0, y1, y2, y3⟩, _⟩ := HGS.out
 rw [hws, hwz] at y0 y1 y2 y3
 rw [hwz] at t0 t1 t2 t3 t4 q0
 clear hA hC hM
 have hdel := sdelete_any A C s g cap ws HROWS.out (by rw [← HML.out]; exact hg2) hcm
 rw [hAl, ← HML.out] at hdel
 have HAL := ghid hAl
 clear hAl
 go_wp2_with fail
 rw [← hwz, ← hws]
 refine hdel.mono ?_
 rintro e w5 ⟨rfl, hr5, hnb5, hkb5⟩
 have HG5 := ghid (HGS.out.nb hnb5 (by omega))
 have HR5 := ghid (HRS.out.nb hnb5 (by omega))
 have z5 : w5.cell? ⟨w4.heap.size + 1, 2, none⟩ = some (.string s.tx) := by
  rw [← hszz1]
  exact (Nb.cell hnb5 (p := ⟨wz.heap.size, 2, none⟩) (by show wz.heap.size < ws.heap.size; omega) (by show wz.heap.size ≠ g; omega)).trans hz2
 have hb05 : Below w.heap.size w w5 := hb0s.trans (Nb.to hnb5 hb0s.size (by omega))
 have hsz5 := hnb5.size
 have hbl5 := hkb5 _ _ HBLS.out
 clear hnb5 hkb5 hdel t0 t1 t2 t3 t4 q0 q1 q2 q3 k0 k1 k2 k3 y0 y1 y2 y3 hz2 hwz hws hbs
 obtain ⟨hGb5, ⟨q0, q1, q2, q3⟩, k0, k1, k2, k3⟩ := HG5.out
 obtain ⟨wq, hwq⟩ : ∃ wq, wq = w5.setCell ⟨w4.heap.size, 0, none⟩ (.slice (some ⟨g, 0, none⟩) (A.length + C.length) cap) := ⟨_, rfl⟩
 have hnbq : w5.grownBy wq (some w4.heap.size) := by rw [hwq]; exact Nb.setCell _ _ _ _
 have HRQ := ghid (HR5.out.nb hnbq (by omega))
 have u0 : wq.cell? ⟨w4.heap.size, 0, none⟩ = some (.slice (some ⟨g, 0, none⟩) (A.length + C.length) cap) := by rw [hwq]; simp [go_sem, q0]
 have u1 : wq.cell? ⟨w4.heap.size, 1, none⟩ = some (.int .i64 x) := by rw [hwq]; simp [go_sem, q1]
 have u2 : wq.cell? ⟨w4.heap.size, 2, none⟩ = some (.int .i64 l) := by rw [hwq]; simp [go_sem, q2]
 have u3 : wq.cell? ⟨w4.heap.size, 3, none⟩ = some (.int .i64 r) := by rw [hwq]; simp [go_sem, q3]
 have zq : wq.cell? ⟨w4.heap.size + 1, 2, none⟩ = some (.string s.tx) := (Nb.cell hnbq (p := ⟨w4.heap.size + 1, 2, none⟩) (by show w4.heap.size + 1 < w5.heap.size; omega) (by show w4.heap.size + 1 ≠ w4.heap.size; omega)).trans z5
 have HROWQ := ghid (hr5.nb hnbq (by omega))
 have HBLQ := ghid (hbl5.nb hnbq (by omega))
 have hb0q : Below w.heap.size w wq := hb05.trans (Nb.to hnbq hb05.size (by omega))
 have hszq := hnbq.size
 have hACle : (A ++ C).length ≤ cap := by have := HML.out; simp only [List.length_append, List.length_cons] at this ⊢; omega
 clear hr5 hbl5
 go_wp2_with fail
 rw [← hwq]
 clear hwq hnbq q0 q1 q2 q3 k0 k1 k2 k3 z5 hb05
 obtain ⟨hRb, ⟨c0, c1, c2, c3⟩, f0, f1, f2, f3⟩ := HRQ.out
 go_region
 go_wp2_with fail
 refine bodyPost_ret (v := .tuple #[.agg #[.slice (some ⟨g, 0, none⟩) (A.length + C.length) cap, .int .i64 x, .int .i64 l, .int .i64 r], .string s.tx, .int .i64 0]) (by simp [results, Tryz.results113, go_sem, c0, c1, c2, c3, hRb]) rfl ⟨_, by rw [hS], ?_, ?_⟩
 · rw [HAC.out]
   refine Or.inr ⟨g, cap, by simp, by omega, hACle, ?_, ?_, hcm⟩
   · exact (HROWQ.out.nb (Nb.set4 _ (w.heap.size + 1) _ _ _ _) (by omega)).below (Below.refl _ _).drew
   · exact (HBLQ.out.nb (Nb.set4 _ (w.heap.size + 1) _ _ _ _) (by omega)).below (Below.refl _ _).drew
 · exact (below_set4 (b := w.heap.size + 1) hb0q (by omega)).drew
end Go.Proofs.YtchlgpeiombmdaaGreat
set_option linter.unusedSimpArgs false
set_option linter.unusedVariables false
namespace Go.Proofs.YtchlgpeiombmdaaGreat
open Go.RowKit

set_option maxRecDepth 100000 in
set_option maxHeartbeats 2000000 in
theorem query_any (G : List Se) (v : Value) (x l r : Int) (p : ByteArray) (n now : Int) (w : World) (hv : LiesS w v G) (hs : SizedS G) (hp : p.size ≤ 150000000000000) :
    Calls Tryz.prog 83 #[.agg #[v, .int .i64 x, .int .i64 l, .int .i64 r], .string p, .int .i64 n, .int .i64 now] w fun e w' => ∃ q, e = .returned (.tuple #[.int .i64 q, .int .i64 (Pp.fiE G x l r p n now)]) ∧ Below w.heap.size w w' := by
 have HV := ghid hv
 have HS := ghid hs
 clear hv hs
 have hb3 : Below w.heap.size w (w.alloc (.cells #[v, .int .i64 x, .int .i64 l, .int .i64 r] 26)) := (Below.refl _ _).alloc (Nat.le_refl _) _
 have hsw : Pp.fiE G x l r p n now = 0 → (Pp.swL now G).length ≤ 1000 := fun h => by
  have h2 := Pp.swL_len now G
  have hg : Pp.goE G x l r now [p] = 0 := by
   rcases Pp.fi_cases G x l r p n now with ⟨h0, hE⟩ | ⟨h0, _⟩ | ⟨h0, _⟩
   · rw [h] at hE; exact hE.symm
   · exact h0
   · exact h0
  have := (Pp.bnd_zero (Pp.uch_zero (Pp.go_zero hg).1).1).1
  omega
 have HSW := ghid hsw
 clear hsw
 go_enter Tryz.func83, Tryz.ntmps83
 go_wp2_with fail
 refine (find_any G _ x l r p n now _ (HV.out.below hb3) HS.out hp).mono ?_
 rintro e w4 (⟨hne, rfl, hb4⟩ | ⟨hz, u, k, rfl, hk, _, hown, hb4⟩)
 · have hb04 : Below w.heap.size w w4 := hb3.trans (hb4.mono (by simp))
   have hz : (Pp.fiE G x l r p n now == 0) = false := by simpa using hne
   clear hb4 hne
   generalize hy : Pp.fiE G x l r p n now = y at *
   go_wp2_with fail
   go_ret2
   exact ⟨_, by rw [hy]; rfl, hb04.alloc hb04.size _⟩
 · have HZ := ghid hz
   have hb04 : Below w.heap.size w w4 := hb3.trans (hb4.mono (by simp))
   have hsw2 := HSW.out hz
   clear hb4 hz
   rcases hown with ⟨_, hnil⟩ | ⟨g, cap, rfl, hg1, hg2, hrow, _⟩
   · rw [hnil] at hk; simp at hk
   have hglt := hrow.1
   obtain ⟨t0, t1, t2, t3, t4⟩ := (hrow.below ((Below.refl _ _).alloc (Nat.le_refl _) (.cells #[.slice (some ⟨g, 0, none⟩) (Pp.swL now G).length cap, .int .i64 x, .int .i64 l, .int .i64 r] 26))).at hk
   clear hrow
   go_wp2_with fail
   go_ret2
   exact ⟨_, by rw [HZ.out]; rfl, hb04.alloc hb04.size _⟩
namespace Pp
def mine2 (p : ByteArray) (n : Int) (s : Se) : Bool := (s.wh.toList == p.toList) && (s.nu == n)
end Pp

end Go.Proofs.YtchlgpeiombmdaaGreat
set_option linter.unusedSimpArgs false
set_option linter.unusedVariables false
namespace Go.Proofs.YtchlgpeiombmdaaGreat
open Go.RowKit

set_option maxRecDepth 100000 in
set_option maxHeartbeats 4000000 in
theorem append_e1 (G : List Se) (v : Value) (x l r : Int) (p : ByteArray) (n o : Int) (t : ByteArray) (now : Int) (w : World) (hv : LiesS w v G) (hs : SizedS G) (hp : p.size ≤ 150000000000000) (h0 : ¬ Pp.fiE G x l r p n now = 0) :
    Calls Tryz.prog 82 #[.agg #[v, .int .i64 x, .int .i64 l, .int .i64 r], .string p, .int .i64 n, .int .i64 o, .string t, .int .i64 now] w fun e w' => e = .returned (.tuple #[.agg #[.slice none 0 0, .int .i64 0, .int .i64 0, .int .i64 0], .int .i64 0, .int .i64 (Pp.fiE G x l r p n now)]) ∧ Below w.heap.size w w' := by
 have HV := ghid hv
 have HS := ghid hs
 clear hv hs
 obtain ⟨w3, hw3⟩ : ∃ w3, w3 = (w.alloc (.cells #[v, .int .i64 x, .int .i64 l, .int .i64 r] 26)).alloc (.cells #[.slice none 0 0, .int .i64 0, .int .i64 0, .int .i64 0] 26) := ⟨_, rfl⟩
 have B3 := hid (show Below w.heap.size w w3 from by rw [hw3]; exact ((Below.refl _ _).alloc (Nat.le_refl _) _).alloc (by simp) _)
 have HR3 := hid (show Bx w3 (w.heap.size + 1) (.slice none 0 0) (.int .i64 0) (.int .i64 0) (.int .i64 0) from by
  have := Bx.new (w.alloc (.cells #[v, .int .i64 x, .int .i64 l, .int .i64 r] 26)) (.slice none 0 0) (.int .i64 0) (.int .i64 0) (.int .i64 0) 26
  rw [hw3]; simpa using this)
 have hsz3 : w3.heap.size = w.heap.size + 2 := by rw [hw3]; simp
 have HNZ := ghid h0
 have hz : (Pp.fiE G x l r p n now == 0) = false := by simpa using h0
 clear h0
 go_enter Tryz.func82, Tryz.ntmps82
 go_wp2_with fail
 rw [← hw3]
 clear hw3
 refine (find_any G _ x l r p n now _ (HV.out.below B3.out) HS.out hp).mono ?_
 rintro e w4 (⟨_, rfl, hb4⟩ | ⟨hh, _⟩)
 rotate_left
 · exact absurd hh HNZ.out
 have hb04 := B3.out.trans (hb4.mono B3.out.size)
 obtain ⟨hRb, ⟨c0, c1, c2, c3⟩, f0, f1, f2, f3⟩ := HR3.out.below hb4
 have hsz4 := hb4.size
 clear hb4
 generalize hy : Pp.fiE G x l r p n now = y at *
 go_wp2_with fail
 refine bodyPost_ret (v := .tuple #[.agg #[.slice none 0 0, .int .i64 0, .int .i64 0, .int .i64 0], .int .i64 0, .int .i64 y]) (by simp [results, Tryz.results82, go_sem, c0, c1, c2, c3, hRb]) rfl ⟨by rw [hy], ?_⟩
 exact (below_set4 (b := w.heap.size + 1) hb04 (by omega)).alloc (by simp; omega) _
set_option maxRecDepth 100000 in
set_option maxHeartbeats 4000000 in
theorem append_same (G : List Se) (v : Value) (x l r : Int) (p : ByteArray) (n o : Int) (t : ByteArray) (now : Int) (w : World) (hv : LiesS w v G) (hs : SizedS G) (hp : p.size ≤ 150000000000000) (h0 : Pp.fiE G x l r p n now = 0) (kk : Nat) (hkk : kk < (Pp.swL now G).length) (hidx : Pp.idS (Pp.swL now G) (Pp.mine n p) = (kk : Int)) (ht : t.size ≤ 150000000000000) (he : Pp.enB ((Pp.swL now G)[kk]).tx o t = true) :
    Calls Tryz.prog 82 #[.agg #[v, .int .i64 x, .int .i64 l, .int .i64 r], .string p, .int .i64 n, .int .i64 o, .string t, .int .i64 now] w fun e w' => ∃ u, e = .returned (.tuple #[.agg #[u, .int .i64 x, .int .i64 l, .int .i64 r], .int .i64 (((Pp.swL now G)[kk]).tx.size : Int), .int .i64 0]) ∧ OwnS w.heap.size w' u (Pp.swL now G) ∧ Below w.heap.size w w' := by
 have HV := ghid hv
 have HS := ghid hs
 clear hv hs
 obtain ⟨w3, hw3⟩ : ∃ w3, w3 = (w.alloc (.cells #[v, .int .i64 x, .int .i64 l, .int .i64 r] 26)).alloc (.cells #[.slice none 0 0, .int .i64 0, .int .i64 0, .int .i64 0] 26) := ⟨_, rfl⟩
 have B3 := hid (show Below w.heap.size w w3 from by rw [hw3]; exact ((Below.refl _ _).alloc (Nat.le_refl _) _).alloc (by simp) _)
 have HR3 := hid (show Bx w3 (w.heap.size + 1) (.slice none 0 0) (.int .i64 0) (.int .i64 0) (.int .i64 0) from by
  have := Bx.new (w.alloc (.cells #[v, .int .i64 x, .int .i64 l, .int .i64 r] 26)) (.slice none 0 0) (.int .i64 0) (.int .i64 0) (.int .i64 0) 26
  rw [hw3]; simpa using this)
 have hsz3 : w3.heap.size = w.heap.size + 2 := by rw [hw3]; simp
 have H0 := ghid h0
 have HI := ghid hidx
 have hgz := Pp.fi_zero h0
 obtain ⟨huc, ⟨hn1, hn2⟩, _⟩ := Pp.go_zero hgz
 obtain ⟨hl20, ⟨hl1, hl2⟩, ⟨hr1, hr2⟩, hx1, hx2⟩ := Pp.bnd_zero (Pp.uch_zero huc).1
 have hsw := Pp.swL_len now G
 have hse := Pp.se_zero (Pp.ses_mem.1 (Pp.uch_zero huc).2.1 _ (List.mem_filter.1 (List.getElem_mem hkk)).1)
 obtain ⟨hsi1, hsi2⟩ := Pp.inR_yes hse.2.1
 have htx := hse.2.2.2.2
 clear h0 hgz huc hse hidx
 go_enter Tryz.func82, Tryz.ntmps82
 go_wp2_with fail
 rw [← hw3]
 clear hw3
 refine (find_any G _ x l r p n now _ (HV.out.below B3.out) HS.out hp).mono ?_
 rintro e w4 (⟨hne, _⟩ | ⟨_, u, k, rfl, hk, hid, hown, hb4⟩)
 · exact absurd H0.out hne
 obtain rfl : k = kk := by have := HI.out; rw [hid] at this; omega
 have hb04 := B3.out.trans (hb4.mono B3.out.size)
 have hR4 := HR3.out.below hb4
 have hsz4 := hb4.size
 clear hb4 hid
 rcases hown with ⟨_, hnil⟩ | ⟨g, cap, rfl, hg1, hg2, hrow, hblk, hcm⟩
 · rw [hnil] at hk; simp at hk
 have hglt := hrow.1
 obtain ⟨wz, hwz⟩ : ∃ wz, wz = w4.alloc (.cells #[.slice (some ⟨g, 0, none⟩) (Pp.swL now G).length cap, .int .i64 x, .int .i64 l, .int .i64 r] 26) := ⟨_, rfl⟩
 have hbz : Below w4.heap.size w4 wz := by rw [hwz]; exact (Below.refl _ _).alloc (Nat.le_refl _) _
 have hGz : Bx wz w4.heap.size (.slice (some ⟨g, 0, none⟩) (Pp.swL now G).length cap) (.int .i64 x) (.int .i64 l) (.int .i64 r) := by rw [hwz]; exact Bx.new _ _ _ _ _ _
 have hRz := hR4.below hbz
 have hb0z := hb04.trans (hbz.mono hb04.size)
 have hrz := hrow.below hbz
 have hblz := hblk.below hbz
 have hszz := hbz.size
 have HGZ := ghid hGz
 have HRZ := ghid hRz
 have HROWZ := ghid hrz
 have HBLZ := ghid hblz
 obtain ⟨t0, t1, t2, t3, t4⟩ := hrz.at hk
 clear hR4 hb04 hbz hrow hblk hrz hblz
 obtain ⟨hGb, ⟨q0, q1, q2, q3⟩, k0, k1, k2, k3⟩ := hGz
 have HEN := ghid he
 have hsl : ((Pp.swL now G)[k]).tx.size ≤ 150000000000000 := by omega
 clear he
 generalize hS : (Pp.swL now G)[k] = s at *
 have T2 := ghid t2
 have T3 := ghid t3
 rw [hwz] at t0 t1 t2 t3 t4
 go_wp2_with fail
 rw [← hwz]
 clear hwz t0 t1 t2 t3 t4
 have t2 := T2.out
 have t3 := T3.out
 refine (ends_any s.tx t _ _ hsl).mono ?_
 rintro e w5 ⟨rfl, hw⟩
 rw [hw, HEN.out]
 clear hw w5
 obtain ⟨hRb, ⟨c0, c1, c2, c3⟩, f0, f1, f2, f3⟩ := HRZ.out
 go_wp2_with fail
 go_region
 go_wp2_with fail
 refine bodyPost_ret (v := .tuple #[.agg #[.slice (some ⟨g, 0, none⟩) (Pp.swL now G).length cap, .int .i64 x, .int .i64 l, .int .i64 r], .int .i64 (s.tx.size : Int), .int .i64 0]) (by simp [results, Tryz.results82, go_sem, c0, c1, c2, c3, hRb]) rfl ⟨_, by rw [hS], ?_, ?_⟩
 · refine Or.inr ⟨g, cap, rfl, by omega, hg2, ?_, ?_, hcm⟩
   · exact (HROWZ.out.nb (Nb.set4 _ (w.heap.size + 1) _ _ _ _) (by omega)).below (Below.refl _ _).drew
   · exact (HBLZ.out.nb (Nb.set4 _ (w.heap.size + 1) _ _ _ _) (by omega)).below (Below.refl _ _).drew
 · exact (below_set4 (b := w.heap.size + 1) hb0z (by omega)).drew
set_option maxRecDepth 100000 in
set_option maxHeartbeats 4000000 in
theorem append_e4 (G : List Se) (v : Value) (x l r : Int) (p : ByteArray) (n o : Int) (t : ByteArray) (now : Int) (w : World) (hv : LiesS w v G) (hs : SizedS G) (hp : p.size ≤ 150000000000000) (h0 : Pp.fiE G x l r p n now = 0) (kk : Nat) (hkk : kk < (Pp.swL now G).length) (hidx : Pp.idS (Pp.swL now G) (Pp.mine n p) = (kk : Int)) (ht : t.size ≤ 150000000000000) (he : Pp.enB ((Pp.swL now G)[kk]).tx o t = false) (ho : (o != (((Pp.swL now G)[kk]).tx.size : Int)) = true) :
    Calls Tryz.prog 82 #[.agg #[v, .int .i64 x, .int .i64 l, .int .i64 r], .string p, .int .i64 n, .int .i64 o, .string t, .int .i64 now] w fun e w' => e = .returned (.tuple #[.agg #[.slice none 0 0, .int .i64 0, .int .i64 0, .int .i64 0], .int .i64 0, .int .i64 4]) ∧ Below w.heap.size w w' := by
 have HV := ghid hv
 have HS := ghid hs
 clear hv hs
 obtain ⟨w3, hw3⟩ : ∃ w3, w3 = (w.alloc (.cells #[v, .int .i64 x, .int .i64 l, .int .i64 r] 26)).alloc (.cells #[.slice none 0 0, .int .i64 0, .int .i64 0, .int .i64 0] 26) := ⟨_, rfl⟩
 have B3 := hid (show Below w.heap.size w w3 from by rw [hw3]; exact ((Below.refl _ _).alloc (Nat.le_refl _) _).alloc (by simp) _)
 have HR3 := hid (show Bx w3 (w.heap.size + 1) (.slice none 0 0) (.int .i64 0) (.int .i64 0) (.int .i64 0) from by
  have := Bx.new (w.alloc (.cells #[v, .int .i64 x, .int .i64 l, .int .i64 r] 26)) (.slice none 0 0) (.int .i64 0) (.int .i64 0) (.int .i64 0) 26
  rw [hw3]; simpa using this)
 have hsz3 : w3.heap.size = w.heap.size + 2 := by rw [hw3]; simp
 have H0 := ghid h0
 have HI := ghid hidx
 have hgz := Pp.fi_zero h0
 obtain ⟨huc, ⟨hn1, hn2⟩, _⟩ := Pp.go_zero hgz
 obtain ⟨hl20, ⟨hl1, hl2⟩, ⟨hr1, hr2⟩, hx1, hx2⟩ := Pp.bnd_zero (Pp.uch_zero huc).1
 have hsw := Pp.swL_len now G
 have hse := Pp.se_zero (Pp.ses_mem.1 (Pp.uch_zero huc).2.1 _ (List.mem_filter.1 (List.getElem_mem hkk)).1)
 obtain ⟨hsi1, hsi2⟩ := Pp.inR_yes hse.2.1
 have htx := hse.2.2.2.2
 clear h0 hgz huc hse hidx
 go_enter Tryz.func82, Tryz.ntmps82
 go_wp2_with fail
 rw [← hw3]
 clear hw3
 refine (find_any G _ x l r p n now _ (HV.out.below B3.out) HS.out hp).mono ?_
 rintro e w4 (⟨hne, _⟩ | ⟨_, u, k, rfl, hk, hid, hown, hb4⟩)
 · exact absurd H0.out hne
 obtain rfl : k = kk := by have := HI.out; rw [hid] at this; omega
 have hb04 := B3.out.trans (hb4.mono B3.out.size)
 have hR4 := HR3.out.below hb4
 have hsz4 := hb4.size
 clear hb4 hid
 rcases hown with ⟨_, hnil⟩ | ⟨g, cap, rfl, hg1, hg2, hrow, hblk, hcm⟩
 · rw [hnil] at hk; simp at hk
 have hglt := hrow.1
 obtain ⟨wz, hwz⟩ : ∃ wz, wz = w4.alloc (.cells #[.slice (some ⟨g, 0, none⟩) (Pp.swL now G).length cap, .int .i64 x, .int .i64 l, .int .i64 r] 26) := ⟨_, rfl⟩
 have hbz : Below w4.heap.size w4 wz := by rw [hwz]; exact (Below.refl _ _).alloc (Nat.le_refl _) _
 have hGz : Bx wz w4.heap.size (.slice (some ⟨g, 0, none⟩) (Pp.swL now G).length cap) (.int .i64 x) (.int .i64 l) (.int .i64 r) := by rw [hwz]; exact Bx.new _ _ _ _ _ _
 have hRz := hR4.below hbz
 have hb0z := hb04.trans (hbz.mono hb04.size)
 have hrz := hrow.below hbz
 have hblz := hblk.below hbz
 have hszz := hbz.size
 have HGZ := ghid hGz
 have HRZ := ghid hRz
 have HROWZ := ghid hrz
 have HBLZ := ghid hblz
 obtain ⟨t0, t1, t2, t3, t4⟩ := hrz.at hk
 clear hR4 hb04 hbz hrow hblk hrz hblz
 obtain ⟨hGb, ⟨q0, q1, q2, q3⟩, k0, k1, k2, k3⟩ := hGz
 have HEN := ghid he
 have hsl : ((Pp.swL now G)[k]).tx.size ≤ 150000000000000 := by omega
 clear he
 generalize hS : (Pp.swL now G)[k] = s at *
 have T2 := ghid t2
 have T3 := ghid t3
 rw [hwz] at t0 t1 t2 t3 t4
 go_wp2_with fail
 rw [← hwz]
 clear hwz t0 t1 t2 t3 t4
 have t2 := T2.out
 have t3 := T3.out
 refine (ends_any s.tx t _ _ hsl).mono ?_
 rintro e w5 ⟨rfl, hw⟩
 rw [hw, HEN.out]
 clear hw w5
 obtain ⟨hRb, ⟨c0, c1, c2, c3⟩, f0, f1, f2, f3⟩ := HRZ.out
 go_wp2_with fail
 refine bodyPost_ret (v := .tuple #[.agg #[.slice none 0 0, .int .i64 0, .int .i64 0, .int .i64 0], .int .i64 0, .int .i64 4]) (by simp [results, Tryz.results82, go_sem, c0, c1, c2, c3, hRb]) rfl ⟨rfl, ?_⟩
 exact below_set4 (b := w.heap.size + 1) hb0z (by omega)
set_option maxRecDepth 100000 in
set_option maxHeartbeats 4000000 in
theorem append_e2 (G : List Se) (v : Value) (x l r : Int) (p : ByteArray) (n o : Int) (t : ByteArray) (now : Int) (w : World) (hv : LiesS w v G) (hs : SizedS G) (hp : p.size ≤ 150000000000000) (h0 : Pp.fiE G x l r p n now = 0) (kk : Nat) (hkk : kk < (Pp.swL now G).length) (hidx : Pp.idS (Pp.swL now G) (Pp.mine n p) = (kk : Int)) (ht : t.size ≤ 150000000000000) (he : Pp.enB ((Pp.swL now G)[kk]).tx o t = false) (ho : o = (((Pp.swL now G)[kk]).tx.size : Int)) (hsi : ((Pp.swL now G)[kk]).si < (((Pp.swL now G)[kk]).tx.size : Int) + t.size) :
    Calls Tryz.prog 82 #[.agg #[v, .int .i64 x, .int .i64 l, .int .i64 r], .string p, .int .i64 n, .int .i64 o, .string t, .int .i64 now] w fun e w' => e = .returned (.tuple #[.agg #[.slice none 0 0, .int .i64 0, .int .i64 0, .int .i64 0], .int .i64 0, .int .i64 2]) ∧ Below w.heap.size w w' := by
 have HV := ghid hv
 have HS := ghid hs
 clear hv hs
 obtain ⟨w3, hw3⟩ : ∃ w3, w3 = (w.alloc (.cells #[v, .int .i64 x, .int .i64 l, .int .i64 r] 26)).alloc (.cells #[.slice none 0 0, .int .i64 0, .int .i64 0, .int .i64 0] 26) := ⟨_, rfl⟩
 have B3 := hid (show Below w.heap.size w w3 from by rw [hw3]; exact ((Below.refl _ _).alloc (Nat.le_refl _) _).alloc (by simp) _)
 have HR3 := hid (show Bx w3 (w.heap.size + 1) (.slice none 0 0) (.int .i64 0) (.int .i64 0) (.int .i64 0) from by
  have := Bx.new (w.alloc (.cells #[v, .int .i64 x, .int .i64 l, .int .i64 r] 26)) (.slice none 0 0) (.int .i64 0) (.int .i64 0) (.int .i64 0) 26
  rw [hw3]; simpa using this)
 have hsz3 : w3.heap.size = w.heap.size + 2 := by rw [hw3]; simp
 subst ho
 have H0 := ghid h0
 have HI := ghid hidx
 have hgz := Pp.fi_zero h0
 obtain ⟨huc, ⟨hn1, hn2⟩, _⟩ := Pp.go_zero hgz
 obtain ⟨hl20, ⟨hl1, hl2⟩, ⟨hr1, hr2⟩, hx1, hx2⟩ := Pp.bnd_zero (Pp.uch_zero huc).1
 have hsw := Pp.swL_len now G
 have hse := Pp.se_zero (Pp.ses_mem.1 (Pp.uch_zero huc).2.1 _ (List.mem_filter.1 (List.getElem_mem hkk)).1)
 obtain ⟨hsi1, hsi2⟩ := Pp.inR_yes hse.2.1
 have htx := hse.2.2.2.2
 clear h0 hgz huc hse hidx
 go_enter Tryz.func82, Tryz.ntmps82
 go_wp2_with fail
 rw [← hw3]
 clear hw3
 refine (find_any G _ x l r p n now _ (HV.out.below B3.out) HS.out hp).mono ?_
 rintro e w4 (⟨hne, _⟩ | ⟨_, u, k, rfl, hk, hid, hown, hb4⟩)
 · exact absurd H0.out hne
 obtain rfl : k = kk := by have := HI.out; rw [hid] at this; omega
 have hb04 := B3.out.trans (hb4.mono B3.out.size)
 have hR4 := HR3.out.below hb4
 have hsz4 := hb4.size
 clear hb4 hid
 rcases hown with ⟨_, hnil⟩ | ⟨g, cap, rfl, hg1, hg2, hrow, hblk, hcm⟩
 · rw [hnil] at hk; simp at hk
 have hglt := hrow.1
 obtain ⟨wz, hwz⟩ : ∃ wz, wz = w4.alloc (.cells #[.slice (some ⟨g, 0, none⟩) (Pp.swL now G).length cap, .int .i64 x, .int .i64 l, .int .i64 r] 26) := ⟨_, rfl⟩
 have hbz : Below w4.heap.size w4 wz := by rw [hwz]; exact (Below.refl _ _).alloc (Nat.le_refl _) _
 have hGz : Bx wz w4.heap.size (.slice (some ⟨g, 0, none⟩) (Pp.swL now G).length cap) (.int .i64 x) (.int .i64 l) (.int .i64 r) := by rw [hwz]; exact Bx.new _ _ _ _ _ _
 have hRz := hR4.below hbz
 have hb0z := hb04.trans (hbz.mono hb04.size)
 have hrz := hrow.below hbz
 have hblz := hblk.below hbz
 have hszz := hbz.size
 have HGZ := ghid hGz
 have HRZ := ghid hRz
 have HROWZ := ghid hrz
 have HBLZ := ghid hblz
 obtain ⟨t0, t1, t2, t3, t4⟩ := hrz.at hk
 clear hR4 hb04 hbz hrow hblk hrz hblz
 obtain ⟨hGb, ⟨q0, q1, q2, q3⟩, k0, k1, k2, k3⟩ := hGz
 have HEN := ghid he
 have hsl : ((Pp.swL now G)[k]).tx.size ≤ 150000000000000 := by omega
 clear he
 generalize hS : (Pp.swL now G)[k] = s at *
 have T2 := ghid t2
 have T3 := ghid t3
 rw [hwz] at t0 t1 t2 t3 t4
 go_wp2_with fail
 rw [← hwz]
 clear hwz t0 t1 t2 t3 t4
 have t2 := T2.out
 have t3 := T3.out
 refine (ends_any s.tx t _ _ hsl).mono ?_
 rintro e w5 ⟨rfl, hw⟩
 rw [hw, HEN.out]
 clear hw w5
 obtain ⟨hRb, ⟨c0, c1, c2, c3⟩, f0, f1, f2, f3⟩ := HRZ.out
 have hwr2 : IntKind.i64.wrap ((s.tx.size : Int) + t.size) = (s.tx.size : Int) + t.size := by rw [IntKind.wrap_i64]; omega
 go_wp2_with fail
 go_region
 go_wp2_with fail
 refine bodyPost_ret (v := .tuple #[.agg #[.slice none 0 0, .int .i64 0, .int .i64 0, .int .i64 0], .int .i64 0, .int .i64 2]) (by simp [results, Tryz.results82, go_sem, c0, c1, c2, c3, hRb]) rfl ⟨rfl, ?_⟩
 first | exact (below_set4 (b := w.heap.size + 1) hb0z (by omega)).drew | exact below_set4 (b := w.heap.size + 1) hb0z.drew (by omega)
end Go.Proofs.YtchlgpeiombmdaaGreat
set_option linter.unusedSimpArgs false
set_option linter.unusedVariables false
namespace Go.Proofs.YtchlgpeiombmdaaGreat.Pp

theorem risS_pair : ∀ (L : List Se), risS L = true ↔ L.Pairwise (fun a b => a.nu < b.nu)
 | [] => by simp [risS]
 | [_] => by simp [risS]
 | a :: b :: r => by
  rw [risS, Bool.and_eq_true, risS_pair (b :: r), decide_eq_true_eq]
  constructor
  · rintro ⟨h1, h2⟩
    refine List.pairwise_cons.2 ⟨fun x hx => ?_, h2⟩
    rcases List.mem_cons.1 hx with rfl | hx
    · exact h1
    · exact Int.lt_trans h1 ((List.pairwise_cons.1 h2).1 x hx)
  · intro h
    exact ⟨(List.pairwise_cons.1 h).1 b (by simp), (List.pairwise_cons.1 h).2⟩
theorem takS_filter {f : Se → Bool} : ∀ {L : List Se} (p : ByteArray), (∀ s ∈ L, 0 ≤ s.si) → takS (L.filter f) p ≤ takS L p
 | [], p, _ => by simp [takS]
 | a :: r, p, h => by
  have ih := takS_filter (f := f) (L := r) p fun s hs => h s (by simp [hs])
  have h0 := h a (by simp)
  rw [List.filter_cons, takS]
  split
  · rw [takS]; omega
  · split <;> omega
theorem ro_mem {L : List Se} {room : Int} : roE L room = 0 ↔ ∀ s ∈ L, takS L s.wh ≤ room := by
 rw [roE]
 constructor
 · intro h
   split at h
   · rename_i h1; exact fun s hs => of_decide_eq_true (List.all_eq_true.1 h1 s hs)
   · cases h
 · intro h
   rw [if_pos (List.all_eq_true.2 fun s hs => decide_eq_true (h s hs))]
theorem bnd_less {n m : Nat} {x l r : Int} (h : bndE n x l r = 0) (hm : m ≤ 20) : bndE m x l r = 0 := by
 rcases bnd_cases n x l r with ⟨h1, hE⟩ | ⟨h1, h2, hE⟩ | ⟨h1, h2, h3, hE⟩ | ⟨h1, h2, h3, h4, hE⟩ | ⟨h1, h2, h3, h4, hE⟩
 · rw [h] at hE; cases hE
 · rw [h] at hE; cases hE
 · rw [h] at hE; cases hE
 · rw [h] at hE; cases hE
 · rw [bndE, h1, h2, h3]; simp; omega
/-- What is left of uploads that pass Check passes it. -/
theorem uch_sw {G : List Se} {x l r : Int} (h : uchE G x l r = 0) (t : Int) : uchE (swL t G) x l r = 0 := by
 obtain ⟨h1, h2, h3, h4⟩ := uch_zero h
 have hl := swL_len t G
 have hb := bnd_less h1 (m := (swL t G).length) (by have := (bnd_zero h1).1; omega)
 have hs : sesE x (swL t G) = 0 := ses_mem.2 fun g hg => ses_mem.1 h2 g (List.mem_filter.1 hg).1
 have hr : risS (swL t G) = true := (risS_pair _).2 (List.Pairwise.filter _ ((risS_pair _).1 h3))
 rw [uch_ro hb hs hr, ro_mem]
 intro s hs'
 have h5 := ro_mem.1 h4 s (List.mem_filter.1 hs').1
 have h6 := takS_filter (f := fun s => !ovr t s) (L := G) s.wh fun s hs => (ses_si h2 s hs).1
 have : takS (swL t G) s.wh = takS (G.filter fun s => !ovr t s) s.wh := rfl
 omega
theorem inR_mk {a b c : Int} (h1 : a ≤ b) (h2 : b ≤ c) : inR a b c = true := by simp [inR, h1, h2]
/-- What Open leaves passes Check. -/
theorem uch_open {G : List Se} {x l r : Int} {p : ByteArray} {size now : Int} (h0 : goE G x l r now [p] = 0) (h1 : 0 ≤ size) (h2 : size ≤ 300) (h3 : x < 1099511627776) (h4 : (swL now G).length < 20) (h5 : takS (swL now G) p + size ≤ r) : uchE (swL now G ++ [newS x p size (now + l)]) (x + 1) l r = 0 := by
 obtain ⟨hu, ⟨hn1, hn2⟩, hnm⟩ := go_zero h0
 obtain ⟨g1, g2, g3, g4⟩ := uch_zero (uch_sw hu now)
 obtain ⟨_, ⟨hl1, hl2⟩, ⟨hr1, hr2⟩, hx1, hx2⟩ := bnd_zero g1
 have hpn : nameB p.data.toList = true := by
  cases hh : nameB p.data.toList with
  | true => rfl
  | false => rw [nmsE1 hh] at hnm; cases hnm
 have hb : bndE (swL now G ++ [newS x p size (now + l)]).length (x + 1) l r = 0 := by
  rw [bndE, inR_mk hl1 hl2, inR_mk hr1 hr2, inR_mk (by omega) (by omega)]
  simp; omega
 have hs : sesE (x + 1) (swL now G ++ [newS x p size (now + l)]) = 0 := ses_mem.2 fun g hg => by
  rcases List.mem_append.1 hg with hg | hg
  · obtain ⟨k1, k2, k3, k4, k5⟩ := se_zero (ses_mem.1 g2 g hg)
    obtain ⟨k6, k7⟩ := inR_yes k1
    rw [seE, inR_mk k6 (by omega), k2, k3, k4, if_pos (by decide), if_pos rfl, if_neg (by omega)]
  · have : g = newS x p size (now + l) := by simpa using hg
    subst this
    have e1 : inR 1 (newS x p size (now + l)).nu (x + 1 - 1) = true := inR_mk hx1 (by show x ≤ x + 1 - 1; omega)
    have e2 : inR 0 (newS x p size (now + l)).si 300 = true := inR_mk h1 h2
    have e3 : inR 0 (newS x p size (now + l)).ti 2199023255552 = true := inR_mk (by show 0 ≤ now + l; omega) (by show now + l ≤ 2199023255552; omega)
    have e4 : nameB (newS x p size (now + l)).wh.data.toList = true := hpn
    rw [seE, e1, e2, e3, e4, if_pos (by decide), if_pos rfl, if_neg]
    show ¬ size < ((0 : Nat) : Int)
    omega
 have hr : risS (swL now G ++ [newS x p size (now + l)]) = true := by
  rw [risS_pair, List.pairwise_append]
  refine ⟨(risS_pair _).1 g3, by simp, fun a ha b hb => ?_⟩
  have : b = newS x p size (now + l) := by simpa using hb
  subst this
  have := (inR_yes (se_zero (ses_mem.1 g2 a ha)).1).2
  show a.nu < x
  omega
 rw [uch_ro hb hs hr, ro_mem]
 intro s hs'
 rw [takS_snoc]
 cases hq : ((newS x p size (now + l)).wh.toList == s.wh.toList) with
 | true =>
  have e : takS (swL now G) s.wh = takS (swL now G) p := by
   have hq2 : p.toList = s.wh.toList := by simpa [newS] using hq
   have key : ∀ L : List Se, takS L s.wh = takS L p := by
    intro L
    induction L with
    | nil => rfl
    | cons a t ih => rw [takS, takS, ih, hq2]
   exact key _
  rw [if_pos rfl, e]
  show takS (swL now G) p + size ≤ r
  exact h5
 | false =>
  rw [if_neg (by decide)]
  rcases List.mem_append.1 hs' with hs' | hs'
  · have := ro_mem.1 g4 s hs'; omega
  · have : s = newS x p size (now + l) := by simpa using hs'
    subst this
    simp at hq
theorem nu_less {G : List Se} {x l r now : Int} {p : ByteArray} (h0 : goE G x l r now [p] = 0) : ∀ s ∈ swL now G, s.nu < x := fun s hs => by
 have h2 := (uch_zero (uch_sw (go_zero h0).1 now)).2.1
 have := (inR_yes (se_zero (ses_mem.1 h2 s hs)).1).2
 omega
theorem idS_none {L : List Se} {f : Se → Bool} (h : ∀ s ∈ L, f s = false) : idS L f = -1 := by
 rcases idS_cases L f with ⟨h1, _⟩ | ⟨k, hk, _, h2, _⟩
 · exact h1
 · rw [h _ (List.getElem_mem hk)] at h2; cases h2
theorem sw_open {G : List Se} {x now l : Int} {p : ByteArray} {size : Int} (hl : 0 ≤ l) : swL now (swL now G ++ [newS x p size (now + l)]) = swL now G ++ [newS x p size (now + l)] := by
 rw [swL, List.filter_append]
 have h1 : (swL now G).filter (fun s => !ovr now s) = swL now G := by
  rw [List.filter_eq_self]; intro s hs; exact (List.mem_filter.1 hs).2
 have h2 : ovr now (newS x p size (now + l)) = false := by
  rw [ovr, decide_eq_false]; show ¬ now + l < now; omega
 rw [h1]; simp [h2]
end Go.Proofs.YtchlgpeiombmdaaGreat.Pp
set_option linter.unusedSimpArgs false
set_option linter.unusedVariables false
namespace Go.Proofs.YtchlgpeiombmdaaGreat
open Go.RowKit

namespace Pp
def chP (c : Int) : Int := if c < 0 then -(c + 1) else c
theorem chP_nonneg (c : Int) : 0 ≤ chP c := by rw [chP]; split <;> omega
def chF (c n : Int) : Int := (chP c).tmod n
theorem chF_lt {c n : Int} (hn : 0 < n) : 0 ≤ chF c n ∧ chF c n < n := by
 have h := chP_nonneg c
 rw [chF]
 exact ⟨Int.tmod_nonneg _ h, Int.tmod_lt_of_pos _ hn⟩
/-- The one session: number 7, so much of the text. -/
def who1 (p t : ByteArray) (at_ : Nat) (till : Int) : Se := ⟨7, p, t.extract 0 at_, t.size, till⟩
theorem ext_app (t : ByteArray) {a b : Nat} (h : a ≤ b) : t.extract 0 a ++ t.extract a b = t.extract 0 b := by
 apply ByteArray.ext
 simp only [ByteArray.data_append, ByteArray.data_extract]
 rw [Array.extract_append_extract]
 simp [Nat.max_eq_right h]
theorem ext_ext (t : ByteArray) {a b : Nat} (h : b ≤ t.size) : (t.extract 0 b).extract a b = t.extract a b := by
 apply ByteArray.ext
 simp only [ByteArray.data_extract, Array.extract_extract]
 congr 1 <;> omega
theorem ext_size (t : ByteArray) {b : Nat} (h : b ≤ t.size) : (t.extract 0 b).size = b := by
 rw [ByteArray.size_extract]; omega
theorem ext_all (t : ByteArray) : t.extract 0 t.size = t := by
 apply ByteArray.ext
 rw [ByteArray.data_extract]
 exact Array.extract_size
end Pp

namespace Pp
theorem w1_se {p t : ByteArray} {a : Nat} {till : Int} (hp : nameB p.data.toList = true) (ha : a ≤ t.size) (ht : t.size ≤ 300) (h1 : 0 ≤ till) (h2 : till ≤ 1000) : seE 8 (who1 p t a till) = 0 := by
 have e1 : inR 1 (who1 p t a till).nu (8 - 1) = true := (by decide : inR 1 7 (8 - 1) = true)
 have e2 : inR 0 (who1 p t a till).si 300 = true := by
  have k1 : (0 : Int) ≤ (t.size : Int) := by omega
  have k2 : (t.size : Int) ≤ 300 := by omega
  show inR 0 (t.size : Int) 300 = true
  rw [inR, decide_eq_true k1, decide_eq_true k2]; rfl
 have e3 : inR 0 (who1 p t a till).ti 2199023255552 = true := by
  have k2 : till ≤ 2199023255552 := by omega
  show inR 0 till 2199023255552 = true
  rw [inR, decide_eq_true h1, decide_eq_true k2]; rfl
 have e4 : nameB (who1 p t a till).wh.data.toList = true := hp
 rw [seE, e1, e2, e3, e4, if_pos (by decide), if_pos rfl, if_neg]
 show ¬ (t.size : Int) < ((t.extract 0 a).size : Int)
 rw [ext_size t ha]; omega
theorem w1_uch {p t : ByteArray} {a : Nat} {till : Int} (hp : nameB p.data.toList = true) (ha : a ≤ t.size) (ht : t.size ≤ 300) (h1 : 0 ≤ till) (h2 : till ≤ 1000) : uchE [who1 p t a till] 8 10 1000 = 0 := by
 have hb : bndE [who1 p t a till].length 8 10 1000 = 0 := by simp [bndE, inR]
 have hs : sesE 8 [who1 p t a till] = 0 := by rw [sesE, if_pos (w1_se hp ha ht h1 h2)]; rfl
 rw [uch_ro hb hs rfl]
 refine (ro_yes fun j hj => ?_).symm
 have : j = 0 := by simp at hj; exact hj
 subst this
 simp [takS, who1]; omega
theorem w1_sw {p t : ByteArray} {a : Nat} {till now : Int} (h : now ≤ till) : swL now [who1 p t a till] = [who1 p t a till] := by
 have : ovr now (who1 p t a till) = false := by
  show decide (till < now) = false
  exact decide_eq_false (by omega)
 simp [swL, this]
theorem w1_id (p t : ByteArray) (a : Nat) (till : Int) : idS [who1 p t a till] (mine 7 p) = ((0 : Nat) : Int) := (idS_hit (by simp) (fun j _ h => absurd h (by omega)) (by simp [mine, who1])).symm
theorem w1_fi {p t : ByteArray} {a : Nat} {till now : Int} (hp : nameB p.data.toList = true) (ha : a ≤ t.size) (ht : t.size ≤ 300) (h1 : 0 ≤ now) (h2 : till ≤ 1000) (h : now ≤ till) : fiE [who1 p t a till] 8 10 1000 p 7 now = 0 := by
 have hu := w1_uch hp ha ht (by omega : 0 ≤ till) h2
 have hg : goE [who1 p t a till] 8 10 1000 now [p] = 0 := by
  have e1 : inR 0 now 1099511627776 = true := by simp [inR]; omega
  rw [goE, if_pos hu, e1, if_pos rfl, nmsE1 hp]; rfl
 rw [fiE, if_pos hg, w1_sw h, w1_id]; rfl
/-- A piece, where its text is not there yet. -/
theorem w1_en_no {t : ByteArray} {a b : Nat} (hab : a < b) (hb : b ≤ t.size) : enB (t.extract 0 a) a (t.extract a b) = false := by
 have hsz := ext_size t (b := a) (by omega)
 rw [enB]
 have e : ((t.extract 0 a).extract ((a : Int)).toNat (t.extract 0 a).size).toList ≠ (t.extract a b).toList := by
  intro h
  have h2 := congrArg List.length h
  rw [Lib.toList_data, Lib.toList_data, Array.length_toList, Array.length_toList] at h2
  change ByteArray.size _ = ByteArray.size _ at h2
  simp only [ByteArray.size_extract, Int.toNat_natCast] at h2
  omega
 rw [show (((t.extract 0 a).extract ((a : Int)).toNat (t.extract 0 a).size).toList == (t.extract a b).toList) = false from beq_eq_false_iff_ne.2 e, Bool.and_false]
/-- .. where it is. -/
theorem w1_en_yes {t : ByteArray} {a b : Nat} (hab : a ≤ b) (hb : b ≤ t.size) : enB (t.extract 0 b) a (t.extract a b) = true := by
 have hsz := ext_size t hb
 rw [enB, hsz]
 have e : (t.extract 0 b).extract ((a : Int)).toNat b = t.extract a b := by
  rw [Int.toNat_natCast]; exact ext_ext t hb
 rw [e]
 simp [inR]; omega
end Pp
end Go.Proofs.YtchlgpeiombmdaaGreat
set_option linter.unusedSimpArgs false
set_option linter.unusedVariables false
namespace Go.Proofs.YtchlgpeiombmdaaGreat
open Go.RowKit

set_option maxRecDepth 100000 in
set_option maxHeartbeats 2000000 in
theorem query_k (G : List Se) (v : Value) (x l r : Int) (p : ByteArray) (n now : Int) (w : World) (hv : LiesS w v G) (hs : SizedS G) (hp : p.size ≤ 150000000000000) (h0 : Pp.fiE G x l r p n now = 0) (kk : Nat) (hkk : kk < (Pp.swL now G).length) (hidx : Pp.idS (Pp.swL now G) (Pp.mine n p) = (kk : Int)) :
    Calls Tryz.prog 83 #[.agg #[v, .int .i64 x, .int .i64 l, .int .i64 r], .string p, .int .i64 n, .int .i64 now] w fun e w' => e = .returned (.tuple #[.int .i64 (((Pp.swL now G)[kk]).tx.size : Int), .int .i64 0]) ∧ Below w.heap.size w w' := by
 have HV := ghid hv
 have HS := ghid hs
 have H0 := ghid h0
 have HI := ghid hidx
 have hb3 : Below w.heap.size w (w.alloc (.cells #[v, .int .i64 x, .int .i64 l, .int .i64 r] 26)) := (Below.refl _ _).alloc (Nat.le_refl _) _
 have hsw2 : (Pp.swL now G).length ≤ 1000 := by
  have h2 := Pp.swL_len now G
  have := (Pp.bnd_zero (Pp.uch_zero (Pp.go_zero (Pp.fi_zero h0)).1).1).1
  omega
 clear hv hs h0 hidx
 go_enter Tryz.func83, Tryz.ntmps83
 go_wp2_with fail
 refine (find_any G _ x l r p n now _ (HV.out.below hb3) HS.out hp).mono ?_
 rintro e w4 (⟨hne, _⟩ | ⟨_, u, k, rfl, hk, hid, hown, hb4⟩)
 · exact absurd H0.out hne
 obtain rfl : k = kk := by have := HI.out; rw [hid] at this; omega
 have hb04 : Below w.heap.size w w4 := hb3.trans (hb4.mono (by simp))
 clear hb4 hid
 rcases hown with ⟨_, hnil⟩ | ⟨g, cap, rfl, hg1, hg2, hrow, _⟩
 · rw [hnil] at hk; simp at hk
 have hglt := hrow.1
 obtain ⟨t0, t1, t2, t3, t4⟩ := (hrow.below ((Below.refl _ _).alloc (Nat.le_refl _) (.cells #[.slice (some ⟨g, 0, none⟩) (Pp.swL now G).length cap, .int .i64 x, .int .i64 l, .int .i64 r] 26))).at hk
 clear hrow
 go_wp2_with fail
 go_ret2
 exact ⟨rfl, hb04.alloc hb04.size _⟩
end Go.Proofs.YtchlgpeiombmdaaGreat
set_option linter.unusedSimpArgs false
set_option linter.unusedVariables false
namespace Go.Proofs.YtchlgpeiombmdaaGreat
open Go.RowKit

set_option maxRecDepth 100000 in
set_option maxHeartbeats 2000000 in
theorem query_e1 (G : List Se) (v : Value) (x l r : Int) (p : ByteArray) (n now : Int) (w : World) (hv : LiesS w v G) (hs : SizedS G) (hp : p.size ≤ 150000000000000) (h0 : ¬ Pp.fiE G x l r p n now = 0) :
    Calls Tryz.prog 83 #[.agg #[v, .int .i64 x, .int .i64 l, .int .i64 r], .string p, .int .i64 n, .int .i64 now] w fun e w' => e = .returned (.tuple #[.int .i64 0, .int .i64 (Pp.fiE G x l r p n now)]) ∧ Below w.heap.size w w' := by
 have HV := ghid hv
 have HS := ghid hs
 have H0 := ghid h0
 have hz : (Pp.fiE G x l r p n now == 0) = false := by simpa using h0
 have hb3 : Below w.heap.size w (w.alloc (.cells #[v, .int .i64 x, .int .i64 l, .int .i64 r] 26)) := (Below.refl _ _).alloc (Nat.le_refl _) _
 clear hv hs h0
 go_enter Tryz.func83, Tryz.ntmps83
 go_wp2_with fail
 refine (find_any G _ x l r p n now _ (HV.out.below hb3) HS.out hp).mono ?_
 rintro e w4 (⟨_, rfl, hb4⟩ | ⟨hh, _⟩)
 rotate_left
 · exact absurd hh H0.out
 have hb04 : Below w.heap.size w w4 := hb3.trans (hb4.mono (by simp))
 clear hb4
 generalize hy : Pp.fiE G x l r p n now = y at *
 go_wp2_with fail
 go_ret2
 exact ⟨by rw [hy]; rfl, hb04.alloc hb04.size _⟩
set_option maxRecDepth 100000 in
set_option maxHeartbeats 4000000 in
theorem finish_e1 (G : List Se) (v : Value) (x l r : Int) (p : ByteArray) (n now : Int) (w : World) (hv : LiesS w v G) (hs : SizedS G) (hp : p.size ≤ 150000000000000) (h0 : ¬ Pp.fiE G x l r p n now = 0) :
    Calls Tryz.prog 113 #[.agg #[v, .int .i64 x, .int .i64 l, .int .i64 r], .string p, .int .i64 n, .int .i64 now] w fun e w' => e = .returned (.tuple #[.agg #[.slice none 0 0, .int .i64 0, .int .i64 0, .int .i64 0], .string ⟨#[]⟩, .int .i64 (Pp.fiE G x l r p n now)]) ∧ Below w.heap.size w w' := by
 have HV := ghid hv
 have HS := ghid hs
 clear hv hs
 obtain ⟨w3, hw3⟩ : ∃ w3, w3 = (w.alloc (.cells #[v, .int .i64 x, .int .i64 l, .int .i64 r] 26)).alloc (.cells #[.slice none 0 0, .int .i64 0, .int .i64 0, .int .i64 0] 26) := ⟨_, rfl⟩
 have B3 := hid (show Below w.heap.size w w3 from by rw [hw3]; exact ((Below.refl _ _).alloc (Nat.le_refl _) _).alloc (by simp) _)
 have HR3 := hid (show Bx w3 (w.heap.size + 1) (.slice none 0 0) (.int .i64 0) (.int .i64 0) (.int .i64 0) from by
  have := Bx.new (w.alloc (.cells #[v, .int .i64 x, .int .i64 l, .int .i64 r] 26)) (.slice none 0 0) (.int .i64 0) (.int .i64 0) (.int .i64 0) 26
  rw [hw3]; simpa using this)
 have hsz3 : w3.heap.size = w.heap.size + 2 := by rw [hw3]; simp
 have HNZ := ghid h0
 have hz : (Pp.fiE G x l r p n now == 0) = false := by simpa using h0
 clear h0
 go_enter Tryz.func113, Tryz.ntmps113
 go_wp2_with fail
 rw [← hw3]
 clear hw3
 refine (find_any G _ x l r p n now _ (HV.out.below B3.out) HS.out hp).mono ?_
 rintro e w4 (⟨_, rfl, hb4⟩ | ⟨hh, _⟩)
 rotate_left
 · exact absurd hh HNZ.out
 have hb04 := B3.out.trans (hb4.mono B3.out.size)
 obtain ⟨hRb, ⟨c0, c1, c2, c3⟩, f0, f1, f2, f3⟩ := HR3.out.below hb4
 have hsz4 := hb4.size
 clear hb4
 generalize hy : Pp.fiE G x l r p n now = y at *
 go_wp2_with fail
 refine bodyPost_ret (v := .tuple #[.agg #[.slice none 0 0, .int .i64 0, .int .i64 0, .int .i64 0], .string ⟨#[]⟩, .int .i64 y]) (by simp [results, Tryz.results113, go_sem, c0, c1, c2, c3, hRb]) rfl ⟨by rw [hy], ?_⟩
 exact (below_set4 (b := w.heap.size + 1) hb04 (by omega)).alloc (by simp; omega) _
set_option maxRecDepth 100000 in
set_option maxHeartbeats 4000000 in
theorem finish_e4 (G : List Se) (v : Value) (x l r : Int) (p : ByteArray) (n : Int) (now : Int) (w : World) (hv : LiesS w v G) (hs : SizedS G) (hp : p.size ≤ 150000000000000) (h0 : Pp.fiE G x l r p n now = 0) (kk : Nat) (hkk : kk < (Pp.swL now G).length) (hidx : Pp.idS (Pp.swL now G) (Pp.mine n p) = (kk : Int)) (hsi : (((Pp.swL now G)[kk]).tx.size : Int) < ((Pp.swL now G)[kk]).si) :
    Calls Tryz.prog 113 #[.agg #[v, .int .i64 x, .int .i64 l, .int .i64 r], .string p, .int .i64 n, .int .i64 now] w fun e w' => e = .returned (.tuple #[.agg #[.slice none 0 0, .int .i64 0, .int .i64 0, .int .i64 0], .string ⟨#[]⟩, .int .i64 4]) ∧ Below w.heap.size w w' := by
 have HV := ghid hv
 have HS := ghid hs
 clear hv hs
 obtain ⟨w3, hw3⟩ : ∃ w3, w3 = (w.alloc (.cells #[v, .int .i64 x, .int .i64 l, .int .i64 r] 26)).alloc (.cells #[.slice none 0 0, .int .i64 0, .int .i64 0, .int .i64 0] 26) := ⟨_, rfl⟩
 have B3 := hid (show Below w.heap.size w w3 from by rw [hw3]; exact ((Below.refl _ _).alloc (Nat.le_refl _) _).alloc (by simp) _)
 have HR3 := hid (show Bx w3 (w.heap.size + 1) (.slice none 0 0) (.int .i64 0) (.int .i64 0) (.int .i64 0) from by
  have := Bx.new (w.alloc (.cells #[v, .int .i64 x, .int .i64 l, .int .i64 r] 26)) (.slice none 0 0) (.int .i64 0) (.int .i64 0) (.int .i64 0) 26
  rw [hw3]; simpa using this)
 have hsz3 : w3.heap.size = w.heap.size + 2 := by rw [hw3]; simp
 have H0 := ghid h0
 have HI := ghid hidx
 have hgz := Pp.fi_zero h0
 obtain ⟨huc, ⟨hn1, hn2⟩, _⟩ := Pp.go_zero hgz
 obtain ⟨hl20, ⟨hl1, hl2⟩, ⟨hr1, hr2⟩, hx1, hx2⟩ := Pp.bnd_zero (Pp.uch_zero huc).1
 have hsw := Pp.swL_len now G
 have hse := Pp.se_zero (Pp.ses_mem.1 (Pp.uch_zero huc).2.1 _ (List.mem_filter.1 (List.getElem_mem hkk)).1)
 obtain ⟨hsi1, hsi2⟩ := Pp.inR_yes hse.2.1
 have htx := hse.2.2.2.2
 clear h0 hgz huc hse hidx
 go_enter Tryz.func113, Tryz.ntmps113
 go_wp2_with fail
 rw [← hw3]
 clear hw3
 refine (find_any G _ x l r p n now _ (HV.out.below B3.out) HS.out hp).mono ?_
 rintro e w4 (⟨hne, _⟩ | ⟨_, u, k, rfl, hk, hid, hown, hb4⟩)
 · exact absurd H0.out hne
 obtain rfl : k = kk := by have := HI.out; rw [hid] at this; omega
 have hb04 := B3.out.trans (hb4.mono B3.out.size)
 have hR4 := HR3.out.below hb4
 have hsz4 := hb4.size
 clear hb4 hid
 rcases hown with ⟨_, hnil⟩ | ⟨g, cap, rfl, hg1, hg2, hrow, hblk, hcm⟩
 · rw [hnil] at hk; simp at hk
 have hglt := hrow.1
 obtain ⟨wz, hwz⟩ : ∃ wz, wz = w4.alloc (.cells #[.slice (some ⟨g, 0, none⟩) (Pp.swL now G).length cap, .int .i64 x, .int .i64 l, .int .i64 r] 26) := ⟨_, rfl⟩
 have hbz : Below w4.heap.size w4 wz := by rw [hwz]; exact (Below.refl _ _).alloc (Nat.le_refl _) _
 have hGz : Bx wz w4.heap.size (.slice (some ⟨g, 0, none⟩) (Pp.swL now G).length cap) (.int .i64 x) (.int .i64 l) (.int .i64 r) := by rw [hwz]; exact Bx.new _ _ _ _ _ _
 have hRz := hR4.below hbz
 have hb0z := hb04.trans (hbz.mono hb04.size)
 have hrz := hrow.below hbz
 have hblz := hblk.below hbz
 have hszz := hbz.size
 have HGZ := ghid hGz
 have HRZ := ghid hRz
 have HROWZ := ghid hrz
 have HBLZ := ghid hblz
 obtain ⟨t0, t1, t2, t3, t4⟩ := hrz.at hk
 clear hR4 hb04 hbz hrow hblk hrz hblz
 obtain ⟨hGb, ⟨q0, q1, q2, q3⟩, k0, k1, k2, k3⟩ := hGz
 generalize hS : (Pp.swL now G)[k] = s at *
 obtain ⟨ws, hws⟩ : ∃ ws, ws = wz.alloc (.cells #[.int .i64 s.nu, .string s.wh, .string s.tx, .int .i64 s.si, .int .i64 s.ti] 104) := ⟨_, rfl⟩
 have hbs : Below wz.heap.size wz ws := by rw [hws]; exact (Below.refl _ _).alloc (Nat.le_refl _) _
 have hb0s := hb0z.trans (hbs.mono hb0z.size)
 obtain ⟨hRb, ⟨c0, c1, c2, c3⟩, f0, f1, f2, f3⟩ := HRZ.out.below hbs
 clear HGZ HROWZ HBLZ hbs q0 q1 q2 q3 k0 k1 k2 k3 hGb
 rw [hwz] at t0 t1 t2 t3 t4
 rw [hws, hwz] at c0 c1 c2 c3 f0 f1 f2 f3 hRb
 go_wp2_with fail
 refine bodyPost_ret (v := .tuple #[.agg #[.slice none 0 0, .int .i64 0, .int .i64 0, .int .i64 0], .string ⟨#[]⟩, .int .i64 4]) (by simp [results, Tryz.results113, go_sem, c0, c1, c2, c3, hRb]) rfl ⟨rfl, ?_⟩
 rw [← hwz, ← hws]
 exact below_set4 (b := w.heap.size + 1) hb0s (by omega)
end Go.Proofs.YtchlgpeiombmdaaGreat
