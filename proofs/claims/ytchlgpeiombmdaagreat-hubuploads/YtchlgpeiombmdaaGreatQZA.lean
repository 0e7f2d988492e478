/- What opening a session leaves, and what time leaves of it. What the upload calls answer, all cases in one: as the hub uses them. What the server's number answers to requests that ask after an upload. What journal.Read answers, for every journal, cursor and number. -/
import Derived.Test.YtchlgpeiombmdaaGreatQL
import Derived.Test.YtchlgpeiombmdaaGreatQY
import Derived.Test.YtchlgpeiombmdaaGreatQU
import Derived.Test.YtchlgpeiombmdaaGreatQW
import Derived.Test.YtchlgpeiombmdaaGreatQZ
import Derived.Test.YtchlgpeiombmdaaGreatQV
import Derived.Test.YtchlgpeiombmdaaGreatQK
import Derived.Test.YtchlgpeiombmdaaGreatQQ
set_option linter.unusedSimpArgs false
set_option linter.unusedVariables false
namespace Go.Proofs.YtchlgpeiombmdaaGreat.Pp

theorem risS_pair : ∀ (L : List Se), risS L = true ↔ L.Pairwise (fun a b => a.nu < b.nu)
 | [] => by simp [risS]
 | [_] => by simp [risS]
 | a :: b :: r => by
  rw [risS, Bool.and_eq_true, risS_pair (b :: r), decide_eq_true_eq]
  constructor
  · rintro ⟨h1, h2⟩
    refine List.pairwise_cons.2 ⟨fun x hx => ?_, h2⟩
    rcases List.mem_cons.1 hx with rfl | hx
    · exact h1
    · exact Int.lt_trans h1 ((List.pairwise_cons.1 h2).1 x hx)
  · intro h
    exact ⟨(List.pairwise_cons.1 h).1 b (by simp), (List.pairwise_cons.1 h).2⟩
theorem takS_filter {f : Se → Bool} : ∀ {L : List Se} (p : ByteArray), (∀ s ∈ L, 0 ≤ s.si) → takS (L.filter f) p ≤ takS L p
 | [], p, _ => by simp [takS]
 | a :: r, p, h => by
  have ih := takS_filter (f := f) (L := r) p fun s hs => h s (by simp [hs])
  have h0 := h a (by simp)
  rw [List.filter_cons, takS]
  split
  · rw [takS]; omega
  · split <;> omega
theorem ro_mem {L : List Se} {room : Int} : roE L room = 0 ↔ ∀ s ∈ L, takS L s.wh ≤ room := by
 rw [roE]
 constructor
 · intro h
   split at h
   · rename_i h1; exact fun s hs => of_decide_eq_true (List.all_eq_true.1 h1 s hs)
   · cases h
 · intro h
   rw [if_pos (List.all_eq_true.2 fun s hs => decide_eq_true (h s hs))]
theorem bnd_less {n m : Nat} {x l r : Int} (h : bndE n x l r = 0) (hm : m ≤ 20) : bndE m x l r = 0 := by
 rcases bnd_cases n x l r with ⟨h1, hE⟩ | ⟨h1, h2, hE⟩ | ⟨h1, h2, h3, hE⟩ | ⟨h1, h2, h3, h4, hE⟩ | ⟨h1, h2, h3, h4, hE⟩
 · rw [h] at hE; cases hE
 · rw [h] at hE; cases hE
 · rw [h] at hE; cases hE
 · rw [h] at hE; cases hE
 · rw [bndE, h1, h2, h3]; simp; omega
/-- What is left of uploads that pass Check passes it. -/
theorem uch_sw {G : List Se} {x l r : Int} (h : uchE G x l r = 0) (t : Int) : uchE (swL t G) x l r = 0 := by
 obtain ⟨h1, h2, h3, h4⟩ := uch_zero h
 have hl := swL_len t G
 have hb := bnd_less h1 (m := (swL t G).length) (by have := (bnd_zero h1).1; omega)
 have hs : sesE x (swL t G) = 0 := ses_mem.2 fun g hg => ses_mem.1 h2 g (List.mem_filter.1 hg).1
 have hr : risS (swL t G) = true := (risS_pair _).2 (List.Pairwise.filter _ ((risS_pair _).1 h3))
 rw [uch_ro hb hs hr, ro_mem]
 intro s hs'
 have h5 := ro_mem.1 h4 s (List.mem_filter.1 hs').1
 have h6 := takS_filter (f := fun s => !ovr t s) (L := G) s.wh fun s hs => (ses_si h2 s hs).1
 have : takS (swL t G) s.wh = takS (G.filter fun s => !ovr t s) s.wh := rfl
 omega
theorem inR_mk {a b c : Int} (h1 : a ≤ b) (h2 : b ≤ c) : inR a b c = true := by simp [inR, h1, h2]
/-- What Open leaves passes Check. -/
theorem uch_open {G : List Se} {x l r : Int} {p : ByteArray} {size now : Int} (h0 : goE G x l r now [p] = 0) (h1 : 0 ≤ size) (h2 : size ≤ 300) (h3 : x < 1099511627776) (h4 : (swL now G).length < 20) (h5 : takS (swL now G) p + size ≤ r) : uchE (swL now G ++ [newS x p size (now + l)]) (x + 1) l r = 0 := by
 obtain ⟨hu, ⟨hn1, hn2⟩, hnm⟩ := go_zero h0
 obtain ⟨g1, g2, g3, g4⟩ := uch_zero (uch_sw hu now)
 obtain ⟨_, ⟨hl1, hl2⟩, ⟨hr1, hr2⟩, hx1, hx2⟩ := bnd_zero g1
 have hpn : nameB p.data.toList = true := by
  cases hh : nameB p.data.toList with
  | true => rfl
  | false => rw [nmsE1 hh] at hnm; cases hnm
 have hb : bndE (swL now G ++ [newS x p size (now + l)]).length (x + 1) l r = 0 := by
  rw [bndE, inR_mk hl1 hl2, inR_mk hr1 hr2, inR_mk (by omega) (by omega)]
  simp; omega
 have hs : sesE (x + 1) (swL now G ++ [newS x p size (now + l)]) = 0 := ses_mem.2 fun g hg => by
  rcases List.mem_append.1 hg with hg | hg
  · obtain ⟨k1, k2, k3, k4, k5⟩ := se_zero (ses_mem.1 g2 g hg)
    obtain ⟨k6, k7⟩ := inR_yes k1
    rw [seE, inR_mk k6 (by omega), k2, k3, k4, if_pos (by decide), if_pos rfl, if_neg (by omega)]
  · have : g = newS x p size (now + l) := by simpa using hg
    subst this
    have e1 : inR 1 (newS x p size (now + l)).nu (x + 1 - 1) = true := inR_mk hx1 (by show x ≤ x + 1 - 1; omega)
    have e2 : inR 0 (newS x p size (now + l)).si 300 = true := inR_mk h1 h2
    have e3 : inR 0 (newS x p size (now + l)).ti 2199023255552 = true := inR_mk (by show 0 ≤ now + l; omega) (by show now + l ≤ 2199023255552; omega)
    have e4 : nameB (newS x p size (now + l)).wh.data.toList = true := hpn
    rw [seE, e1, e2, e3, e4, if_pos (by decide), if_pos rfl, if_neg]
    show ¬ size < ((0 : Nat) : Int)
    omega
 have hr : risS (swL now G ++ [newS x p size (now + l)]) = true := by
  rw [risS_pair, List.pairwise_append]
  refine ⟨(risS_pair _).1 g3, by simp, fun a ha b hb => ?_⟩
  have : b = newS x p size (now + l) := by simpa using hb
  subst this
  have := (inR_yes (se_zero (ses_mem.1 g2 a ha)).1).2
  show a.nu < x
  omega
 rw [uch_ro hb hs hr, ro_mem]
 intro s hs'
 rw [takS_snoc]
 cases hq : ((newS x p size (now + l)).wh.toList == s.wh.toList) with
 | true =>
  have e : takS (swL now G) s.wh = takS (swL now G) p := by
   have hq2 : p.toList = s.wh.toList := by simpa [newS] using hq
   have key : ∀ L : List Se, takS L s.wh = takS L p := by
    intro L
    induction L with
    | nil => rfl
    | cons a t ih => rw [takS, takS, ih, hq2]
   exact key _
  rw [if_pos rfl, e]
  show takS (swL now G) p + size ≤ r
  exact h5
 | false =>
  rw [if_neg (by decide)]
  rcases List.mem_append.1 hs' with hs' | hs'
  · have := ro_mem.1 g4 s hs'; omega
  · have : s = newS x p size (now + l) := by simpa using hs'
    subst this
    simp at hq
theorem nu_less {G : List Se} {x l r now : Int} {p : ByteArray} (h0 : goE G x l r now [p] = 0) : ∀ s ∈ swL now G, s.nu < x := fun s hs => by
 have h2 := (uch_zero (uch_sw (go_zero h0).1 now)).2.1
 have := (inR_yes (se_zero (ses_mem.1 h2 s hs)).1).2
 omega
end Go.Proofs.YtchlgpeiombmdaaGreat.Pp
set_option linter.unusedSimpArgs false
set_option linter.unusedVariables false
namespace Go.Proofs.YtchlgpeiombmdaaGreat
open Go.RowKit

namespace Hu
def zU (e : Int) : Ur := ⟨e, [], 0, 0, 0, 0⟩
def opU (H : Hb) (p : ByteArray) (n : Int) : Ur := if Pp.opE H.ss H.nx H.la H.ro p n H.now = 0 then ⟨0, Pp.swL H.now H.ss ++ [Pp.newS H.nx p n (H.now + H.la)], H.nx + 1, H.la, H.ro, H.nx⟩ else zU (Pp.opE H.ss H.nx H.la H.ro p n H.now)
def fiX (H : Hb) (p : ByteArray) (n : Int) : Nat := (Pp.idS (Pp.swL H.now H.ss) (Pp.mine n p)).toNat
def apK (H : Hb) (k : Nat) (s : Se) (o : Int) (t : ByteArray) : Ur :=
 if Pp.enB s.tx o t = true then ⟨0, Pp.swL H.now H.ss, H.nx, H.la, H.ro, (s.tx.size : Int)⟩
 else if o = (s.tx.size : Int) then (if s.si < (s.tx.size : Int) + t.size then zU 2 else ⟨0, (Pp.swL H.now H.ss).set k (Pp.moreS s t (H.now + H.la)), H.nx, H.la, H.ro, (s.tx.size : Int) + t.size⟩)
 else zU 4
def apU (H : Hb) (p : ByteArray) (n o : Int) (t : ByteArray) : Ur := if Pp.fiE H.ss H.nx H.la H.ro p n H.now = 0 then (match (Pp.swL H.now H.ss)[fiX H p n]? with
 | some s => apK H (fiX H p n) s o t
 | none => zU 5) else zU (Pp.fiE H.ss H.nx H.la H.ro p n H.now)
def quE (H : Hb) (p : ByteArray) (n : Int) : Int := Pp.fiE H.ss H.nx H.la H.ro p n H.now
def quN (H : Hb) (p : ByteArray) (n : Int) : Int := if quE H p n = 0 then (match (Pp.swL H.now H.ss)[fiX H p n]? with
 | some s => (s.tx.size : Int)
 | none => 0) else 0
def zF (e : Int) : Fu := ⟨e, [], 0, 0, 0, ⟨#[]⟩⟩
def fnU (H : Hb) (p : ByteArray) (n : Int) : Fu := if quE H p n = 0 then (match (Pp.swL H.now H.ss)[fiX H p n]? with
 | some s => if (s.tx.size : Int) < s.si then zF 4 else ⟨0, (Pp.swL H.now H.ss).take (fiX H p n) ++ (Pp.swL H.now H.ss).drop (fiX H p n + 1), H.nx, H.la, H.ro, s.tx⟩
 | none => zF 5) else zF (quE H p n)
theorem fi_at {H : Hb} {p : ByteArray} {n : Int} (h : Pp.fiE H.ss H.nx H.la H.ro p n H.now = 0) : ∃ (hk : fiX H p n < (Pp.swL H.now H.ss).length), (Pp.swL H.now H.ss)[fiX H p n]? = some (Pp.swL H.now H.ss)[fiX H p n] ∧ Pp.idS (Pp.swL H.now H.ss) (Pp.mine n p) = (fiX H p n : Int) := by
 rcases Pp.fi_cases H.ss H.nx H.la H.ro p n H.now with ⟨h1, h2⟩ | ⟨_, _, h2⟩ | ⟨_, _, k, hk, he⟩
 · rw [h] at h2; exact absurd h2.symm h1
 · rw [h] at h2; cases h2
 · have e : fiX H p n = k := by rw [fiX, he]; rfl
   have hk' : fiX H p n < (Pp.swL H.now H.ss).length := by rw [e]; exact hk
   exact ⟨hk', List.getElem?_eq_getElem hk', by rw [he, e]⟩
theorem sw_len {H : Hb} {p : ByteArray} {n : Int} (h : Pp.fiE H.ss H.nx H.la H.ro p n H.now = 0) : (Pp.swL H.now H.ss).length ≤ 20 := by
 have hg := Pp.fi_zero h
 have := (Pp.bnd_zero (Pp.uch_zero (Pp.go_zero hg).1).1).1
 have := Pp.swL_len H.now H.ss
 omega
end Hu
theorem Fr.ownS {B : Nat} {w : World} {u : Value} {L : List Se} (h : OwnS B w u L) : Fr B u := by
 rcases h with ⟨rfl, _⟩ | ⟨g, cap, rfl, h2, _⟩
 · exact fr_nil _
 · intro b hb; simp [Value.ownBlock] at hb; omega
theorem uopen_all (H : Hb) (v : Value) (p : ByteArray) (n : Int) (w : World) (hs : SizedS H.ss) (hp : p.size ≤ 150000000000000) (hv : LiesS w v H.ss) : UpCall w 81 #[.agg #[v, .int .i64 H.nx, .int .i64 H.la, .int .i64 H.ro], .string p, .int .i64 n, .int .i64 H.now] (Hu.opU H p n) := by
 refine (open_any H.ss v H.nx H.la H.ro p n H.now w hv hs hp).mono ?_
 rintro e w' (⟨h, rfl, hb⟩ | ⟨h, u, rfl, ho, hb⟩)
 · rw [Hu.opU, if_neg h]; exact ⟨_, rfl, liesS_nil _, hb⟩
 · rw [Hu.opU, if_pos h]
   refine ⟨u, rfl, ho.lies ?_, hb⟩
   have : (Pp.swL H.now H.ss).length ≤ 20 := by
    have hl := Pp.swL_len H.now H.ss
    rcases Pp.op_cases H.ss H.nx H.la H.ro p n H.now with ⟨h0, hE⟩ | ⟨h0, h1, hE⟩ | ⟨h0, h1, h2, hE⟩ | ⟨h0, h1, h2, h3, hE⟩ | ⟨h0, h1, h2, h3, h4, hE⟩ | ⟨h0, h1, h2, h3, h4, h5, hE⟩ | ⟨h0, h1, h2, h3, h4, h5, hE⟩
    all_goals first
     | (rw [h] at hE; exact absurd hE.symm h0)
     | (have := (Pp.bnd_zero (Pp.uch_zero (Pp.go_zero h0).1).1).1; omega)
   simp; omega
theorem uappend_all (H : Hb) (v : Value) (p : ByteArray) (n o : Int) (t : ByteArray) (w : World) (hs : SizedS H.ss) (hp : p.size ≤ 150000000000000) (ht : t.size ≤ 150000000000000) (hv : LiesS w v H.ss) : UpCall w 82 #[.agg #[v, .int .i64 H.nx, .int .i64 H.la, .int .i64 H.ro], .string p, .int .i64 n, .int .i64 o, .string t, .int .i64 H.now] (Hu.apU H p n o t) := by
 by_cases h0 : Pp.fiE H.ss H.nx H.la H.ro p n H.now = 0
 · obtain ⟨hk, e1, e2⟩ := Hu.fi_at h0
   have hl := Hu.sw_len h0
   rw [Hu.apU, if_pos h0, e1]
   simp only [Hu.apK]
   cases he : Pp.enB ((Pp.swL H.now H.ss)[Hu.fiX H p n]).tx o t with
   | true =>
    rw [if_pos rfl]
    refine (append_same H.ss v H.nx H.la H.ro p n o t H.now w hv hs hp h0 _ hk e2 ht he).mono ?_
    rintro e w' ⟨u, rfl, ho, hb⟩
    exact ⟨u, rfl, ho.lies (by omega), hb⟩
   | false =>
    rw [if_neg (by decide)]
    by_cases ho : o = ((((Pp.swL H.now H.ss)[Hu.fiX H p n]).tx.size : Nat) : Int)
    · rw [if_pos ho]
      by_cases hsi : ((Pp.swL H.now H.ss)[Hu.fiX H p n]).si < ((((Pp.swL H.now H.ss)[Hu.fiX H p n]).tx.size : Nat) : Int) + t.size
      · rw [if_pos hsi]
        refine (append_e2 H.ss v H.nx H.la H.ro p n o t H.now w hv hs hp h0 _ hk e2 ht he ho hsi).mono ?_
        rintro e w' ⟨rfl, hb⟩
        exact ⟨_, rfl, liesS_nil _, hb⟩
      · rw [if_neg hsi]
        refine (append_k H.ss v H.nx H.la H.ro p n o t H.now w hv hs hp h0 _ hk e2 ht he ho (by omega)).mono ?_
        rintro e w' ⟨u, rfl, ho, hb⟩
        exact ⟨u, rfl, ho.lies (by simp; omega), hb⟩
    · rw [if_neg ho]
      refine (append_e4 H.ss v H.nx H.la H.ro p n o t H.now w hv hs hp h0 _ hk e2 ht he (by simpa using ho)).mono ?_
      rintro e w' ⟨rfl, hb⟩
      exact ⟨_, rfl, liesS_nil _, hb⟩
 · rw [Hu.apU, if_neg h0]
   refine (append_e1 H.ss v H.nx H.la H.ro p n o t H.now w hv hs hp h0).mono ?_
   rintro e w' ⟨rfl, hb⟩
   exact ⟨_, rfl, liesS_nil _, hb⟩
theorem uquery_all (H : Hb) (v : Value) (p : ByteArray) (n : Int) (w : World) (hs : SizedS H.ss) (hp : p.size ≤ 150000000000000) (hv : LiesS w v H.ss) : Calls Tryz.prog 83 #[.agg #[v, .int .i64 H.nx, .int .i64 H.la, .int .i64 H.ro], .string p, .int .i64 n, .int .i64 H.now] w fun z w' => z = .returned (.tuple #[.int .i64 (Hu.quN H p n), .int .i64 (Hu.quE H p n)]) ∧ Below w.heap.size w w' := by
 by_cases h0 : Pp.fiE H.ss H.nx H.la H.ro p n H.now = 0
 · obtain ⟨hk, e1, e2⟩ := Hu.fi_at h0
   have hq : Hu.quE H p n = 0 := h0
   rw [Hu.quN, hq, if_pos rfl, e1]
   exact query_k H.ss v H.nx H.la H.ro p n H.now w hv hs hp h0 _ hk e2
 · have hq : ¬ Hu.quE H p n = 0 := h0
   rw [Hu.quN, if_neg hq]
   exact query_e1 H.ss v H.nx H.la H.ro p n H.now w hv hs hp h0
theorem ufinish_all (H : Hb) (v : Value) (p : ByteArray) (n : Int) (w : World) (hs : SizedS H.ss) (hp : p.size ≤ 150000000000000) (hv : LiesS w v H.ss) : Calls Tryz.prog 113 #[.agg #[v, .int .i64 H.nx, .int .i64 H.la, .int .i64 H.ro], .string p, .int .i64 n, .int .i64 H.now] w fun z w' => ∃ u, z = .returned (.tuple #[.agg #[u, .int .i64 (Hu.fnU H p n).nx, .int .i64 (Hu.fnU H p n).la, .int .i64 (Hu.fnU H p n).ro], .string (Hu.fnU H p n).tx, .int .i64 (Hu.fnU H p n).e]) ∧ LiesS w' u (Hu.fnU H p n).ss ∧ Fr w.heap.size u ∧ Below w.heap.size w w' := by
 by_cases h0 : Pp.fiE H.ss H.nx H.la H.ro p n H.now = 0
 · obtain ⟨hk, e1, e2⟩ := Hu.fi_at h0
   have hl := Hu.sw_len h0
   have hq : Hu.quE H p n = 0 := h0
   by_cases hsi : ((((Pp.swL H.now H.ss)[Hu.fiX H p n]).tx.size : Nat) : Int) < ((Pp.swL H.now H.ss)[Hu.fiX H p n]).si
   · have e : Hu.fnU H p n = Hu.zF 4 := by rw [Hu.fnU, hq, if_pos rfl, e1]; exact if_pos hsi
     rw [e]
     refine (finish_e4 H.ss v H.nx H.la H.ro p n H.now w hv hs hp h0 _ hk e2 hsi).mono ?_
     rintro e w' ⟨rfl, hb⟩
     exact ⟨_, rfl, liesS_nil _, fr_nil _, hb⟩
   · have e : Hu.fnU H p n = ⟨0, (Pp.swL H.now H.ss).take (Hu.fiX H p n) ++ (Pp.swL H.now H.ss).drop (Hu.fiX H p n + 1), H.nx, H.la, H.ro, ((Pp.swL H.now H.ss)[Hu.fiX H p n]).tx⟩ := by rw [Hu.fnU, hq, if_pos rfl, e1]; exact if_neg hsi
     rw [e]
     refine (finish_k H.ss v H.nx H.la H.ro p n H.now w hv hs hp h0 _ hk e2 hsi).mono ?_
     rintro e w' ⟨u, rfl, ho, hb⟩
     exact ⟨u, rfl, ho.lies (by simp; omega), Fr.ownS ho, hb⟩
 · have hq : ¬ Hu.quE H p n = 0 := h0
   rw [Hu.fnU, if_neg hq]
   refine (finish_e1 H.ss v H.nx H.la H.ro p n H.now w hv hs hp h0).mono ?_
   rintro e w' ⟨rfl, hb⟩
   exact ⟨_, rfl, liesS_nil _, fr_nil _, hb⟩
end Go.Proofs.YtchlgpeiombmdaaGreat
set_option linter.unusedSimpArgs false
set_option linter.unusedVariables false
namespace Go.Proofs.YtchlgpeiombmdaaGreat
open Go.RowKit

set_option maxRecDepth 100000 in
set_option maxHeartbeats 8000000 in
theorem snum_query (H : Hb) (q : Rq) (vq vf : Value) (g mb : Nat) (w : World) (n e : Int) (hsv : SvL w g mb H) (hq : LiesQ w vq q) (hk : q.kind = 6)
    (hop : ∀ (W : World) (v : Value), LiesS W v H.ss → Calls Tryz.prog 83 #[.agg #[v, .int .i64 H.nx, .int .i64 H.la, .int .i64 H.ro], .string q.who, .int .i64 q.num, .int .i64 H.now] W fun z w' => z = .returned (.tuple #[.int .i64 n, .int .i64 e]) ∧ Below W.heap.size W w') :
    Calls Tryz.prog 42 #[.pointer (some ⟨g, 0, none⟩), vq] w fun z w' => z = .returned (.tuple #[.int .i64 n, .int .i64 e]) ∧ SvL w' g mb H ∧ Nb2 w w' g (bo vf g) := by
 have HOP := hid hop
 clear hop
 obtain ⟨va, rfl, lq⟩ := hq
 have HLQ := hid lq
 obtain ⟨qa, qc, rfl, _⟩ := lq
 obtain ⟨kind, who, fo, name, key, text, num, off, base, ch⟩ := q
 simp only at *
 obtain ⟨wz, hwz⟩ : ∃ wz, wz = w.alloc (.cells #[.int .i64 kind, .string who, .string fo, .string name, .string key, .string text, .int .i64 num, .int .i64 off, .int .i64 base, .slice qa ch.length qc] 31) := ⟨_, rfl⟩
 have hbz : Below w.heap.size w wz := by rw [hwz]; exact (Below.refl _ _).alloc (Nat.le_refl _) _
 have HQX : Hid (Cs wz w.heap.size [.int .i64 kind, .string who, .string fo, .string name, .string key, .string text, .int .i64 num, .int .i64 off, .int .i64 base, .slice qa ch.length qc]) := (by rw [hwz]; exact Cs.new w [.int .i64 kind, .string who, .string fo, .string name, .string key, .string text, .int .i64 num, .int .i64 off, .int .i64 base, .slice qa ch.length qc] _ : Cs wz w.heap.size _)
 subst hk
 obtain ⟨fa, fc, ga, gc, sa, sc, hC, hF, hG, hS⟩ := hsv.shape
 have HC := hid (hC.below hbz)
 have HLS := hid (hS.below hbz)
 have HSZ := hid (hsv.below hbz)
 have hgz := HC.out.lt
 have hql := HQX.out.lt
 clear hsv hC hF hG hS
 have x0 := HQX.out.cell 0 rfl
 have x1 := HQX.out.cell 1 rfl
 have x6 := HQX.out.cell 6 rfl
 go_enter Tryz.func42, Tryz.ntmps42
 go_upto_region 1 with fail
 rw [← hwz]
 clear hwz
 go_wp2_with fail
 clear x0
 have p2 := HC.out.cell 2 rfl
 have p3 := HC.out.cell 3 rfl
 have p4 := HC.out.cell 4 rfl
 have p5 := HC.out.cell 5 rfl
 have p6 := HC.out.cell 6 rfl
 go_region_held3 (fun W => W.cell? ⟨w.heap.size, 1, none⟩ = some (.string who) ∧ W.cell? ⟨w.heap.size, 6, none⟩ = some (.int .i64 num) ∧ W.cell? ⟨g, 2, none⟩ = some (.slice sa H.ss.length sc) ∧ W.cell? ⟨g, 3, none⟩ = some (.int .i64 H.nx) ∧ W.cell? ⟨g, 4, none⟩ = some (.int .i64 H.la) ∧ W.cell? ⟨g, 5, none⟩ = some (.int .i64 H.ro) ∧ W.cell? ⟨g, 6, none⟩ = some (.int .i64 H.now)) (go_keep) (
  (go_at_call 83; refine (HOP.out _ _ (HLS.out.below ((Below.refl _ _).drew))).mono ?_; rintro z wa ⟨rfl, hba⟩; have hya := below_tr ((Below.refl wz.heap.size wz).drew) hba; have q1 := (HQX.out.below hya).cell 1 rfl; have q6 := (HQX.out.below hya).cell 6 rfl; have c2 := (HC.out.below hya).cell 2 rfl; have c3 := (HC.out.below hya).cell 3 rfl; have c4 := (HC.out.below hya).cell 4 rfl; have c5 := (HC.out.below hya).cell 5 rfl; have c6 := (HC.out.below hya).cell 6 rfl))
 all_goals
  go_wp2_with fail
  go_ret2
  exact ⟨rfl, HSZ.out.below hya, Nb2.of_below _ _ (below_tr hbz hya)⟩
end Go.Proofs.YtchlgpeiombmdaaGreat
set_option linter.unusedSimpArgs false
set_option linter.unusedVariables false
namespace Go.Proofs.YtchlgpeiombmdaaGreat
open Go.RowKit

theorem ownP_zero (B : Nat) (w : World) : OwnP B w (.agg #[.bool false, .slice none 0 0, .slice none 0 0, .int .i64 0, .bool false]) Jn.zeroP := ⟨_, _, rfl, lies_nil _, own_nil _ _, ownO_nil _ _⟩
set_option maxRecDepth 100000 in
set_option maxHeartbeats 4000000 in
theorem jread_any (J : Jo) (v : Value) (c m : Int) (w : World) (hv : LiesJ w v J) (hs : Sized J.base) (hcs : SizedO 150000000000000 J.cos) :
    Calls Tryz.prog 75 #[v, .int .i64 c, .int .i64 m] w fun e w' => ∃ r, e = .returned (.tuple #[r, .int .i64 (Jn.rdE J c m)]) ∧ OwnP w.heap.size w' r (Jn.rdR J c m) ∧ Below w.heap.size w w' := by
 have HV := hid hv
 have HS := hid hs
 have HCS := hid hcs
 obtain ⟨vb, vc, rfl, hvb, hvc⟩ := hv
 have HVB := hid hvb
 have HVC := hid hvc
 obtain ⟨ba, bcap, rfl, _⟩ := hvb
 obtain ⟨ca, ccap, rfl, hccap, hccap2, _⟩ := hvc
 clear hs hcs
 obtain ⟨wz, hwz⟩ : ∃ wz, wz = (w.alloc (.cells #[.slice ba J.base.length bcap, .int .i64 J.first, .slice ca J.cos.length ccap] 49)).alloc (.cells #[.bool false, .slice none 0 0, .slice none 0 0, .int .i64 0, .bool false] 37) := ⟨_, rfl⟩
 have hbz : Below w.heap.size w wz := by rw [hwz]; exact ((Below.refl _ _).alloc (Nat.le_refl _) _).alloc (by simp) _
 have HBY := hid (show Cs wz (w.heap.size + 1) [.bool false, .slice none 0 0, .slice none 0 0, .int .i64 0, .bool false] from by
  have := Cs.new (w.alloc (.cells #[.slice ba J.base.length bcap, .int .i64 J.first, .slice ca J.cos.length ccap] 49)) [.bool false, .slice none 0 0, .slice none 0 0, .int .i64 0, .bool false] 37
  rw [hwz]; simpa using this)
 have hNz := HBY.out.lt
 by_cases h0 : Jn.chkE J = 0
 · have H0 := hid h0
   have hpp := Jn.chk_parts h0
   obtain ⟨f1, f2⟩ := Jn.ver_iff.1 hpp.2.1
   have h30 := hpp.2.2.1
   have HFW := hid (show ∀ c ∈ J.cos, c.ch.length ≤ 1000000000 from fun c hc => Nat.le_trans (Jn.chk_few h0 c hc) (by decide))
   have HG := hid (Jn.tree_good h0)
   have hlj : Jn.last J = J.first - 1 + J.cos.length := rfl
   clear hpp
   by_cases m1 : m < 1
   · have hE := Jn.rd_range (c := c) h0 (Or.inl m1)
     have HE := hid hE
     have HR := hid (Jn.rd_bad hE (by decide))
     clear hE h0
     go_enter Tryz.func75, Tryz.ntmps75
     go_wp2_with fail
     rw [← hwz]
     clear hwz
     refine (keep_any J _ _ (HV.out.below hbz) HS.out HCS.out).mono ?_
     rintro e w1 ⟨p, rfl, hK, _, hb1⟩
     obtain ⟨b, mb, vb2, vc2, nn, rfl, hv2, hb, hmb, hKp, hnn⟩ := hK H0.out
     simp only [Value.agg.injEq, Array.mk.injEq, List.cons.injEq, true_and, and_true] at hv2
     obtain ⟨rfl, rfl⟩ := hv2
     rw [H0.out]
     obtain ⟨vt, hC, hT, hM, hne⟩ := hKp
     have HC := hid hC
     have HT := hid hT
     have k1 := hC.cell 1 rfl
     have k2 := hC.cell 2 rfl
     have k3 := hC.cell 3 rfl
     obtain ⟨ta, tcap, rfl, _⟩ := hT
     have hb01 := below_tr hbz hb1
     have HY1 := hid (HBY.out.below hb1)
     clear hK hC hM
     have y0 := HY1.out.cell 0 rfl
     have y1 := HY1.out.cell 1 rfl
     have y2 := HY1.out.cell 2 rfl
     have y3 := HY1.out.cell 3 rfl
     have y4 := HY1.out.cell 4 rfl
     have g0 := HY1.out.fr 0
     have g1 := HY1.out.fr 1
     have g2 := HY1.out.fr 2
     have g3 := HY1.out.fr 3
     have g4 := HY1.out.fr 4
     go_wp2_with fail
     refine bodyPost_ret (v := .tuple #[.agg #[.bool false, .slice none 0 0, .slice none 0 0, .int .i64 0, .bool false], .int .i64 3]) (by simp [results, Tryz.results75, go_sem, y0, y1, y2, y3, y4]) rfl ⟨_, by rw [HE.out], ?_, ?_⟩
     · rw [HR.out]
       exact ownP_zero _ _
     · exact (((((hb01.setCell (p := ⟨w.heap.size + 1, 0, none⟩) (Nat.le_succ _) _).setCell (p := ⟨w.heap.size + 1, 1, none⟩) (Nat.le_succ _) _).setCell (p := ⟨w.heap.size + 1, 2, none⟩) (Nat.le_succ _) _).setCell (p := ⟨w.heap.size + 1, 3, none⟩) (Nat.le_succ _) _).setCell (p := ⟨w.heap.size + 1, 4, none⟩) (Nat.le_succ _) _)
   by_cases m2 : 10 < m
   · have hE := Jn.rd_range (c := c) h0 (Or.inr (Or.inl m2))
     have HE := hid hE
     have HR := hid (Jn.rd_bad hE (by decide))
     clear hE h0
     go_enter Tryz.func75, Tryz.ntmps75
     go_wp2_with fail
     rw [← hwz]
     clear hwz
     refine (keep_any J _ _ (HV.out.below hbz) HS.out HCS.out).mono ?_
     rintro e w1 ⟨p, rfl, hK, _, hb1⟩
     obtain ⟨b, mb, vb2, vc2, nn, rfl, hv2, hb, hmb, hKp, hnn⟩ := hK H0.out
     simp only [Value.agg.injEq, Array.mk.injEq, List.cons.injEq, true_and, and_true] at hv2
     obtain ⟨rfl, rfl⟩ := hv2
     rw [H0.out]
     obtain ⟨vt, hC, hT, hM, hne⟩ := hKp
     have HC := hid hC
     have HT := hid hT
     have k1 := hC.cell 1 rfl
     have k2 := hC.cell 2 rfl
     have k3 := hC.cell 3 rfl
     obtain ⟨ta, tcap, rfl, _⟩ := hT
     have hb01 := below_tr hbz hb1
     have HY1 := hid (HBY.out.below hb1)
     clear hK hC hM
     have y0 := HY1.out.cell 0 rfl
     have y1 := HY1.out.cell 1 rfl
     have y2 := HY1.out.cell 2 rfl
     have y3 := HY1.out.cell 3 rfl
     have y4 := HY1.out.cell 4 rfl
     have g0 := HY1.out.fr 0
     have g1 := HY1.out.fr 1
     have g2 := HY1.out.fr 2
     have g3 := HY1.out.fr 3
     have g4 := HY1.out.fr 4
     go_wp2_with fail
     refine bodyPost_ret (v := .tuple #[.agg #[.bool false, .slice none 0 0, .slice none 0 0, .int .i64 0, .bool false], .int .i64 3]) (by simp [results, Tryz.results75, go_sem, y0, y1, y2, y3, y4]) rfl ⟨_, by rw [HE.out], ?_, ?_⟩
     · rw [HR.out]
       exact ownP_zero _ _
     · exact (((((hb01.setCell (p := ⟨w.heap.size + 1, 0, none⟩) (Nat.le_succ _) _).setCell (p := ⟨w.heap.size + 1, 1, none⟩) (Nat.le_succ _) _).setCell (p := ⟨w.heap.size + 1, 2, none⟩) (Nat.le_succ _) _).setCell (p := ⟨w.heap.size + 1, 3, none⟩) (Nat.le_succ _) _).setCell (p := ⟨w.heap.size + 1, 4, none⟩) (Nat.le_succ _) _)
   by_cases c1 : c < 0
   · have hE := Jn.rd_range (m := m) h0 (Or.inr (Or.inr c1))
     have HE := hid hE
     have HR := hid (Jn.rd_bad hE (by decide))
     clear hE h0
     go_enter Tryz.func75, Tryz.ntmps75
     go_wp2_with fail
     rw [← hwz]
     clear hwz
     refine (keep_any J _ _ (HV.out.below hbz) HS.out HCS.out).mono ?_
     rintro e w1 ⟨p, rfl, hK, _, hb1⟩
     obtain ⟨b, mb, vb2, vc2, nn, rfl, hv2, hb, hmb, hKp, hnn⟩ := hK H0.out
     simp only [Value.agg.injEq, Array.mk.injEq, List.cons.injEq, true_and, and_true] at hv2
     obtain ⟨rfl, rfl⟩ := hv2
     rw [H0.out]
     obtain ⟨vt, hC, hT, hM, hne⟩ := hKp
     have HC := hid hC
     have HT := hid hT
     have k1 := hC.cell 1 rfl
     have k2 := hC.cell 2 rfl
     have k3 := hC.cell 3 rfl
     obtain ⟨ta, tcap, rfl, _⟩ := hT
     have hb01 := below_tr hbz hb1
     have HY1 := hid (HBY.out.below hb1)
     clear hK hC hM
     have y0 := HY1.out.cell 0 rfl
     have y1 := HY1.out.cell 1 rfl
     have y2 := HY1.out.cell 2 rfl
     have y3 := HY1.out.cell 3 rfl
     have y4 := HY1.out.cell 4 rfl
     have g0 := HY1.out.fr 0
     have g1 := HY1.out.fr 1
     have g2 := HY1.out.fr 2
     have g3 := HY1.out.fr 3
     have g4 := HY1.out.fr 4
     go_wp2_with fail
     refine bodyPost_ret (v := .tuple #[.agg #[.bool false, .slice none 0 0, .slice none 0 0, .int .i64 0, .bool false], .int .i64 3]) (by simp [results, Tryz.results75, go_sem, y0, y1, y2, y3, y4]) rfl ⟨_, by rw [HE.out], ?_, ?_⟩
     · rw [HR.out]
       exact ownP_zero _ _
     · exact (((((hb01.setCell (p := ⟨w.heap.size + 1, 0, none⟩) (Nat.le_succ _) _).setCell (p := ⟨w.heap.size + 1, 1, none⟩) (Nat.le_succ _) _).setCell (p := ⟨w.heap.size + 1, 2, none⟩) (Nat.le_succ _) _).setCell (p := ⟨w.heap.size + 1, 3, none⟩) (Nat.le_succ _) _).setCell (p := ⟨w.heap.size + 1, 4, none⟩) (Nat.le_succ _) _)
   have hok : ¬ (m < 1 ∨ 10 < m ∨ c < 0) := by omega
   by_cases c2 : Jn.last J < c
   · have hE := Jn.rd_none h0 hok c2
     have c2' : J.first - 1 + (J.cos.length : Int) < c := by omega
     have HE := hid hE
     have HR := hid (Jn.rd_bad hE (by decide))
     clear hE h0 hok
     go_enter Tryz.func75, Tryz.ntmps75
     go_wp2_with fail
     rw [← hwz]
     clear hwz
     refine (keep_any J _ _ (HV.out.below hbz) HS.out HCS.out).mono ?_
     rintro e w1 ⟨p, rfl, hK, _, hb1⟩
     obtain ⟨b, mb, vb2, vc2, nn, rfl, hv2, hb, hmb, hKp, hnn⟩ := hK H0.out
     simp only [Value.agg.injEq, Array.mk.injEq, List.cons.injEq, true_and, and_true] at hv2
     obtain ⟨rfl, rfl⟩ := hv2
     rw [H0.out]
     obtain ⟨vt, hC, hT, hM, hne⟩ := hKp
     have HC := hid hC
     have HT := hid hT
     have k1 := hC.cell 1 rfl
     have k2 := hC.cell 2 rfl
     have k3 := hC.cell 3 rfl
     obtain ⟨ta, tcap, rfl, _⟩ := hT
     have hb01 := below_tr hbz hb1
     have HY1 := hid (HBY.out.below hb1)
     clear hK hC hM
     go_wp2_with fail
     refine (kLast_any J.first J.cos.length _ b _ _ _ ca _ HC.out f1 (by omega) (by omega)).mono ?_
     rintro e w2 ⟨rfl, hb2⟩
     have HC2 := hid (HC.out.below hb2)
     have HY2 := hid (HY1.out.below hb2)
     have hb02 := below_tr hb01 hb2
     have HT2 := hid (HT.out.below hb2)
     clear k1 k2 k3
     have k1 := HC2.out.cell 1 rfl
     have k2 := HC2.out.cell 2 rfl
     have k3 := HC2.out.cell 3 rfl
     have y0 := HY2.out.cell 0 rfl
     have y1 := HY2.out.cell 1 rfl
     have y2 := HY2.out.cell 2 rfl
     have y3 := HY2.out.cell 3 rfl
     have y4 := HY2.out.cell 4 rfl
     have g0 := HY2.out.fr 0
     have g1 := HY2.out.fr 1
     have g2 := HY2.out.fr 2
     have g3 := HY2.out.fr 3
     have g4 := HY2.out.fr 4
     go_wp2_with fail
     refine bodyPost_ret (v := .tuple #[.agg #[.bool false, .slice none 0 0, .slice none 0 0, .int .i64 0, .bool false], .int .i64 5]) (by simp [results, Tryz.results75, go_sem, y0, y1, y2, y3, y4]) rfl ⟨_, by rw [HE.out], ?_, ?_⟩
     · rw [HR.out]
       exact ownP_zero _ _
     · exact (((((hb02.setCell (p := ⟨w.heap.size + 1, 0, none⟩) (Nat.le_succ _) _).setCell (p := ⟨w.heap.size + 1, 1, none⟩) (Nat.le_succ _) _).setCell (p := ⟨w.heap.size + 1, 2, none⟩) (Nat.le_succ _) _).setCell (p := ⟨w.heap.size + 1, 3, none⟩) (Nat.le_succ _) _).setCell (p := ⟨w.heap.size + 1, 4, none⟩) (Nat.le_succ _) _)
   have hE := Jn.rd_ok h0 hok c2
   have c2' : ¬ J.first - 1 + (J.cos.length : Int) < c := by omega
   have e1 : IntKind.i64.wrap (J.first - 1) = J.first - 1 := by rw [IntKind.wrap_i64]; omega
   by_cases c3 : c < J.first - 1
   · have HE := hid hE
     have HR := hid (Jn.rd_reset hE c3)
     clear hE h0 hok
     go_enter Tryz.func75, Tryz.ntmps75
     go_wp2_with fail
     rw [← hwz]
     clear hwz
     refine (keep_any J _ _ (HV.out.below hbz) HS.out HCS.out).mono ?_
     rintro e w1 ⟨p, rfl, hK, _, hb1⟩
     obtain ⟨b, mb, vb2, vc2, nn, rfl, hv2, hb, hmb, hKp, hnn⟩ := hK H0.out
     simp only [Value.agg.injEq, Array.mk.injEq, List.cons.injEq, true_and, and_true] at hv2
     obtain ⟨rfl, rfl⟩ := hv2
     rw [H0.out]
     obtain ⟨vt, hC, hT, hM, hne⟩ := hKp
     have HC := hid hC
     have HT := hid hT
     have k1 := hC.cell 1 rfl
     have k2 := hC.cell 2 rfl
     have k3 := hC.cell 3 rfl
     obtain ⟨ta, tcap, rfl, _⟩ := hT
     have hb01 := below_tr hbz hb1
     have HY1 := hid (HBY.out.below hb1)
     clear hK hC hM
     go_wp2_with fail
     refine (kLast_any J.first J.cos.length _ b _ _ _ ca _ HC.out f1 (by omega) (by omega)).mono ?_
     rintro e w2 ⟨rfl, hb2⟩
     have HC2 := hid (HC.out.below hb2)
     have HY2 := hid (HY1.out.below hb2)
     have hb02 := below_tr hb01 hb2
     have HT2 := hid (HT.out.below hb2)
     clear k1 k2 k3
     have k1 := HC2.out.cell 1 rfl
     have k2 := HC2.out.cell 2 rfl
     have k3 := HC2.out.cell 3 rfl
     go_wp2_with fail
     refine (cloneE ((Jn.tree J).map Pp.cells) _ _ (liesR_en.1 HT2.out) (by rw [List.length_map]; have := HG.out.len; omega)).mono ?_
     rintro e w3 ⟨u, rfl, hR, hO, hb3⟩
     have HL3 := hid (liesR_en.2 hR)
     have HO3 := hid (hO.mono hb02.size)
     obtain ⟨xa, xcap, rfl, _⟩ := HL3.out
     have HC3 := hid (HC2.out.below hb3)
     have HY3 := hid (HY2.out.below hb3)
     have hb03 := below_tr hb02 hb3
     have HOX := hid hO
     have hs12 := hb1.size
     have hs2 := hb2.size
     clear hR hO k1 k2 k3
     go_wp2_with fail
     refine (kLast_any J.first J.cos.length _ b _ _ _ ca _ HC3.out f1 (by omega) (by omega)).mono ?_
     rintro e w4 ⟨rfl, hb4⟩
     have HL4 := hid (HL3.out.below hb4)
     have HO4 := hid (HO3.out.below hb4)
     have HX4 := hid (HOX.out.below hb4)
     have HY4 := hid (HY3.out.below hb4)
     have hb04 := below_tr hb03 hb4
     have y0 := HY4.out.cell 0 rfl
     have y1 := HY4.out.cell 1 rfl
     have y2 := HY4.out.cell 2 rfl
     have y3 := HY4.out.cell 3 rfl
     have y4 := HY4.out.cell 4 rfl
     have g0 := HY4.out.fr 0
     have g1 := HY4.out.fr 1
     have g2 := HY4.out.fr 2
     have g3 := HY4.out.fr 3
     have g4 := HY4.out.fr 4
     go_wp2_with fail
     refine bodyPost_ret (v := .tuple #[.agg #[.bool true, .slice xa (Jn.tree J).length xcap, .slice none 0 0, .int .i64 (J.first - 1 + J.cos.length), .bool false], .int .i64 0]) (by simp [results, Tryz.results75, go_sem, y0, y1, y2, y3, y4]) rfl ⟨_, by rw [HE.out], ?_, ?_⟩
     · rw [HR.out]
       have k0 : ∀ g, (Value.slice xa (Jn.tree J).length xcap).ownBlock = some g → g ≠ w.heap.size + 1 := fun g hg => by have := (HX4.out g hg).1; omega
       refine ⟨_, _, rfl, ((((HL4.out.nbo (nb_set _ _ _ _) k0).nbo (nb_set _ _ _ _) k0).nbo (nb_set _ _ _ _) k0).nbo (nb_set _ _ _ _) k0).nbo (nb_set _ _ _ _) k0, ((((HO4.out.setCell _ _ _).setCell _ _ _).setCell _ _ _).setCell _ _ _).setCell _ _ _, ownO_nil _ _⟩
     · exact (((((hb04.setCell (p := ⟨w.heap.size + 1, 0, none⟩) (Nat.le_succ _) _).setCell (p := ⟨w.heap.size + 1, 1, none⟩) (Nat.le_succ _) _).setCell (p := ⟨w.heap.size + 1, 2, none⟩) (Nat.le_succ _) _).setCell (p := ⟨w.heap.size + 1, 3, none⟩) (Nat.le_succ _) _).setCell (p := ⟨w.heap.size + 1, 4, none⟩) (Nat.le_succ _) _)
   have HE := hid hE
   have HR := hid (Jn.rd_page hE c3)
   obtain ⟨i, hi⟩ : ∃ i : Nat, c = J.first - 1 + i := ⟨(c - (J.first - 1)).toNat, by omega⟩
   have hil : i ≤ J.cos.length := by omega
   have hbe : Jn.behind J c = J.cos.drop i := by rw [Jn.behind]; congr 1; omega
   have HBE := hid hbe
   have e2 : IntKind.i64.wrap (c - (J.first - 1)) = (i : Int) := by rw [IntKind.wrap_i64]; omega
   have hiz : (i : Int) ≤ J.cos.length := by omega
   have hiz2 : (i : Int) ≤ ccap := by omega
   obtain ⟨kk, hkk⟩ : ∃ kk : Nat, min m ((J.cos.length - i : Nat) : Int) = (kk : Int) := ⟨(min m ((J.cos.length - i : Nat) : Int)).toNat, by omega⟩
   have hkl : kk ≤ J.cos.length - i := by omega
   have hkl2 : (kk : Int) ≤ ((ccap - i : Nat) : Int) := by omega
   have e3 : IntKind.i64.wrap (c + (kk : Int)) = c + kk := by rw [IntKind.wrap_i64]; omega
   have HFK := hid (show Jn.few m (J.cos.drop i).length = kk from by rw [Jn.few, List.length_drop]; omega)
   have HLD : Hid ((J.cos.drop i).length = J.cos.length - i) := List.length_drop
   have HFP := hid (show ∀ x ∈ (J.cos.drop i).take kk, x.ch.length ≤ 1000000000 from fun x hx => HFW.out x (List.mem_of_mem_drop (List.mem_of_mem_take hx)))
   have HTK := hid (show ((J.cos.drop i).take kk).length = kk from by rw [List.length_take, List.length_drop]; omega)
   have HI := hid hi
   clear hE h0 hok hbe hi
   by_cases hci : ccap = i
   · have hci2 : i = ccap := hci.symm
     clear hci
     subst hci2
     have hk0 : kk = 0 := by omega
     subst hk0
     have hm0 : min m (0 : Int) = 0 := by omega
     have e4 : IntKind.i64.wrap c = c := by rw [IntKind.wrap_i64]; omega
     have hlz : J.cos.length - i = 0 := by omega
     clear hkk
     go_enter Tryz.func75, Tryz.ntmps75
     go_wp2_with fail
     rw [← hwz]
     clear hwz
     refine (keep_any J _ _ (HV.out.below hbz) HS.out HCS.out).mono ?_
     rintro e w1 ⟨p, rfl, hK, _, hb1⟩
     obtain ⟨b, mb, vb2, vc2, nn, rfl, hv2, hb, hmb, hKp, hnn⟩ := hK H0.out
     simp only [Value.agg.injEq, Array.mk.injEq, List.cons.injEq, true_and, and_true] at hv2
     obtain ⟨rfl, rfl⟩ := hv2
     rw [H0.out]
     obtain ⟨vt, hC, hT, hM, hne⟩ := hKp
     have HC := hid hC
     have HT := hid hT
     have k1 := hC.cell 1 rfl
     have k2 := hC.cell 2 rfl
     have k3 := hC.cell 3 rfl
     obtain ⟨ta, tcap, rfl, _⟩ := hT
     have hb01 := below_tr hbz hb1
     have HY1 := hid (HBY.out.below hb1)
     clear hK hC hM
     go_wp2_with fail
     refine (kLast_any J.first J.cos.length _ b _ _ _ ca _ HC.out f1 (by omega) (by omega)).mono ?_
     rintro e w2 ⟨rfl, hb2⟩
     have HC2 := hid (HC.out.below hb2)
     have HY2 := hid (HY1.out.below hb2)
     have hb02 := below_tr hb01 hb2
     have HT2 := hid (HT.out.below hb2)
     clear k1 k2 k3
     have k1 := HC2.out.cell 1 rfl
     have k2 := HC2.out.cell 2 rfl
     have k3 := HC2.out.cell 3 rfl
     clear k3
     have HVC2 := hid (HVC.out.below hb02)
     have hb2d : Below w.heap.size w w2.drew := below_tr hb02 (Below.refl _ _).drew
     have HY2d := hid (HY2.out.below (Below.refl _ _).drew)
     have hs12 := hb1.size
     have hs2 := hb2.size
     go_wp2_with fail
     go_region
     go_wp2_with fail
     refine (ownCommits_any ((J.cos.drop i).take 0) (.slice ca 0 0) _ (liesO_part (HVC2.out.below (Below.refl _ _).drew) hil (Nat.zero_le _) (Nat.zero_le _) (fun _ _ _ h => absurd h (by decide))) (by rw [HTK.out]; omega) HFP.out).mono ?_
     rintro e w3 ⟨u, rfl, hO3, hb3⟩
     have HO3 := hid hO3
     obtain ⟨xa, xcap, rfl⟩ := liesO_shape hO3.lies
     rw [HTK.out] at HO3 ⊢
     have HY3 := hid (HY2d.out.below hb3)
     have hb03 := below_tr hb2d hb3
     clear hO3
     have y0 := HY3.out.cell 0 rfl
     have y1 := HY3.out.cell 1 rfl
     have y2 := HY3.out.cell 2 rfl
     have y3 := HY3.out.cell 3 rfl
     have y4 := HY3.out.cell 4 rfl
     have g0 := HY3.out.fr 0
     have g1 := HY3.out.fr 1
     have g2 := HY3.out.fr 2
     have g3 := HY3.out.fr 3
     have g4 := HY3.out.fr 4
     go_wp2_with fail
     refine bodyPost_ret (v := .tuple #[.agg #[.bool false, .slice none 0 0, .slice xa 0 xcap, .int .i64 c, .bool false], .int .i64 0]) (by simp [results, Tryz.results75, go_sem, y0, y1, y2, y3, y4]) rfl ⟨_, by rw [HE.out], ?_, ?_⟩
     · rw [HR.out, HBE.out, HFK.out, HLD.out, hlz]
       refine ⟨.slice none 0 0, .slice xa 0 xcap, by simp, lies_nil _, own_nil _ _, ?_⟩
       exact (((((HO3.out.nbo (nb_set _ _ _ _) (by simp; omega)).nbo (nb_set _ _ _ _) (by simp; omega)).nbo (nb_set _ _ _ _) (by simp; omega)).nbo (nb_set _ _ _ _) (by simp; omega)).nbo (nb_set _ _ _ _) (by simp; omega)).mono (by simp; omega)
     · exact (((((hb03.setCell (p := ⟨w.heap.size + 1, 0, none⟩) (Nat.le_succ _) _).setCell (p := ⟨w.heap.size + 1, 1, none⟩) (Nat.le_succ _) _).setCell (p := ⟨w.heap.size + 1, 2, none⟩) (Nat.le_succ _) _).setCell (p := ⟨w.heap.size + 1, 3, none⟩) (Nat.le_succ _) _).setCell (p := ⟨w.heap.size + 1, 4, none⟩) (Nat.le_succ _) _)
   · skip
     go_enter Tryz.func75, Tryz.ntmps75
     go_wp2_with fail
     rw [← hwz]
     clear hwz
     refine (keep_any J _ _ (HV.out.below hbz) HS.out HCS.out).mono ?_
     rintro e w1 ⟨p, rfl, hK, _, hb1⟩
     obtain ⟨b, mb, vb2, vc2, nn, rfl, hv2, hb, hmb, hKp, hnn⟩ := hK H0.out
     simp only [Value.agg.injEq, Array.mk.injEq, List.cons.injEq, true_and, and_true] at hv2
     obtain ⟨rfl, rfl⟩ := hv2
     rw [H0.out]
     obtain ⟨vt, hC, hT, hM, hne⟩ := hKp
     have HC := hid hC
     have HT := hid hT
     have k1 := hC.cell 1 rfl
     have k2 := hC.cell 2 rfl
     have k3 := hC.cell 3 rfl
     obtain ⟨ta, tcap, rfl, _⟩ := hT
     have hb01 := below_tr hbz hb1
     have HY1 := hid (HBY.out.below hb1)
     clear hK hC hM
     go_wp2_with fail
     refine (kLast_any J.first J.cos.length _ b _ _ _ ca _ HC.out f1 (by omega) (by omega)).mono ?_
     rintro e w2 ⟨rfl, hb2⟩
     have HC2 := hid (HC.out.below hb2)
     have HY2 := hid (HY1.out.below hb2)
     have hb02 := below_tr hb01 hb2
     have HT2 := hid (HT.out.below hb2)
     clear k1 k2 k3
     have k1 := HC2.out.cell 1 rfl
     have k2 := HC2.out.cell 2 rfl
     have k3 := HC2.out.cell 3 rfl
     clear k3
     have HVC2 := hid (HVC.out.below hb02)
     have hb2d : Below w.heap.size w w2.drew := below_tr hb02 (Below.refl _ _).drew
     have HY2d := hid (HY2.out.below (Below.refl _ _).drew)
     have hs12 := hb1.size
     have hs2 := hb2.size
     go_wp2_with fail
     go_region
     go_wp2_with fail
     refine (ownCommits_any ((J.cos.drop i).take kk) _ _ (liesO_part (HVC2.out.below (Below.refl _ _).drew) hil (by rw [HLD.out]; exact hkl) (by omega) ?adr) (by rw [HTK.out]; omega) HFP.out).mono ?_
     case adr =>
      intro b' o' hab hk0
      subst hab
      simp [Addr.add]
     rintro e w3 ⟨u, rfl, hO3, hb3⟩
     have HO3 := hid hO3
     obtain ⟨xa, xcap, rfl⟩ := liesO_shape hO3.lies
     rw [HTK.out] at HO3 ⊢
     have HY3 := hid (HY2d.out.below hb3)
     have hb03 := below_tr hb2d hb3
     clear hO3
     have y0 := HY3.out.cell 0 rfl
     have y1 := HY3.out.cell 1 rfl
     have y2 := HY3.out.cell 2 rfl
     have y3 := HY3.out.cell 3 rfl
     have y4 := HY3.out.cell 4 rfl
     have g0 := HY3.out.fr 0
     have g1 := HY3.out.fr 1
     have g2 := HY3.out.fr 2
     have g3 := HY3.out.fr 3
     have g4 := HY3.out.fr 4
     go_wp2_with fail
     refine bodyPost_ret (v := .tuple #[.agg #[.bool false, .slice none 0 0, .slice xa kk xcap, .int .i64 (c + kk), .bool (decide ((kk : Int) < ((J.cos.length - i : Nat) : Int)))], .int .i64 0]) (by simp [results, Tryz.results75, go_sem, y0, y1, y2, y3, y4]) rfl ⟨_, by rw [HE.out], ?_, ?_⟩
     · rw [HR.out, HBE.out, HFK.out, HLD.out]
       refine ⟨.slice none 0 0, .slice xa kk xcap, by simp, lies_nil _, own_nil _ _, ?_⟩
       exact (((((HO3.out.nbo (nb_set _ _ _ _) (by simp; omega)).nbo (nb_set _ _ _ _) (by simp; omega)).nbo (nb_set _ _ _ _) (by simp; omega)).nbo (nb_set _ _ _ _) (by simp; omega)).nbo (nb_set _ _ _ _) (by simp; omega)).mono (by simp; omega)
     · exact (((((hb03.setCell (p := ⟨w.heap.size + 1, 0, none⟩) (Nat.le_succ _) _).setCell (p := ⟨w.heap.size + 1, 1, none⟩) (Nat.le_succ _) _).setCell (p := ⟨w.heap.size + 1, 2, none⟩) (Nat.le_succ _) _).setCell (p := ⟨w.heap.size + 1, 3, none⟩) (Nat.le_succ _) _).setCell (p := ⟨w.heap.size + 1, 4, none⟩) (Nat.le_succ _) _)
 · have hE := Jn.rd_chk (c := c) (m := m) h0
   have HE := hid hE
   have HR := hid (Jn.rd_bad hE h0)
   have hz : (Jn.chkE J == 0) = false := by simpa using h0
   clear hE
   go_enter Tryz.func75, Tryz.ntmps75
   go_wp2_with fail
   rw [← hwz]
   clear hwz
   refine (keep_any J _ _ (HV.out.below hbz) HS.out HCS.out).mono ?_
   rintro e w1 ⟨p, rfl, _, _, hb1⟩
   have HY1 := hid (HBY.out.below hb1)
   have hb01 := below_tr hbz hb1
   have y0 := HY1.out.cell 0 rfl
   have y1 := HY1.out.cell 1 rfl
   have y2 := HY1.out.cell 2 rfl
   have y3 := HY1.out.cell 3 rfl
   have y4 := HY1.out.cell 4 rfl
   have g0 := HY1.out.fr 0
   have g1 := HY1.out.fr 1
   have g2 := HY1.out.fr 2
   have g3 := HY1.out.fr 3
   have g4 := HY1.out.fr 4
   go_wp2_with fail
   refine bodyPost_ret (v := .tuple #[.agg #[.bool false, .slice none 0 0, .slice none 0 0, .int .i64 0, .bool false], .int .i64 (Jn.chkE J)]) (by simp [results, Tryz.results75, go_sem, y0, y1, y2, y3, y4]) rfl ⟨_, by rw [HE.out], ?_, ?_⟩
   · rw [HR.out]
     exact ownP_zero _ _
   · exact (((((hb01.setCell (p := ⟨w.heap.size + 1, 0, none⟩) (Nat.le_succ _) _).setCell (p := ⟨w.heap.size + 1, 1, none⟩) (Nat.le_succ _) _).setCell (p := ⟨w.heap.size + 1, 2, none⟩) (Nat.le_succ _) _).setCell (p := ⟨w.heap.size + 1, 3, none⟩) (Nat.le_succ _) _).setCell (p := ⟨w.heap.size + 1, 4, none⟩) (Nat.le_succ _) _)
end Go.Proofs.YtchlgpeiombmdaaGreat
