/- What the reference's LastOf answers, for every text. What the document's own Joined answers, for every two texts; the law on Join. The law on Moved. What the document's own Decimal answers, for every number that is not negative. What the document's own AsideOf answers, for every path and every number from 1 to 99; the law on Aside. -/
import Derived.Test.YtlllcifehellpaaGreatDoorPP
import Derived.Test.YtlllcifehellpaaGreatDoorQF
set_option linter.unusedSimpArgs false
set_option linter.unusedVariables false
namespace Go.Proofs.YtlllcifehellpaaGreatDoor
open Go.RowKit

set_option maxHeartbeats 400000 in
theorem lastOf_any (s : ByteArray) (w : World) (hs : s.size ≤ 1000000000) :
    Calls Tryz.prog 60 #[.string s] w fun e w' => e = .returned (.string ⟨(Pp.lst s.data.toList).toArray⟩) ∧ Below w.heap.size w w' := by
  have hn : (Pp.nm s.data.toList).length ≤ s.size + 1 := by have := Pp.nm_len_le s.data.toList; rwa [← Lib.size_eq] at this
  have h1 : 1 ≤ (Pp.nm s.data.toList).length := Nat.pos_of_ne_zero (fun e => Pp.nm_ne _ (List.length_eq_zero_iff.1 e))
  have h3 : (Pp.nm s.data.toList).length - 1 < (Pp.nm s.data.toList).length := by omega
  have HP : Hid ((Pp.nm s.data.toList)[(Pp.nm s.data.toList).length - 1] = Pp.lst s.data.toList) := (by
    rw [Pp.lst, List.getLastD_eq_getLast?, List.getLast?_eq_getElem?, List.getElem?_eq_getElem h3]; rfl : (Pp.nm s.data.toList)[(Pp.nm s.data.toList).length - 1] = Pp.lst s.data.toList)
  go_enter Tryz.func60, Tryz.ntmps60
  go_wp2_with fail
  refine (rNames_at s _ hs).mono ?_
  rintro e w1 ⟨g, cap, rfl, hc1, hc2, hg1, hg2, hcell, hb⟩
  have hce := hcell _ h3
  rw [HP.out] at hce
  clear hcell
  go_wp2
  go_ret
  exact ⟨rfl, hb⟩

end Go.Proofs.YtlllcifehellpaaGreatDoor
set_option linter.unusedSimpArgs false
set_option linter.unusedVariables false
namespace Go.Proofs.YtlllcifehellpaaGreatDoor
open Go.RowKit

set_option maxHeartbeats 400000 in
theorem rJoined_any (s t : ByteArray) (w : World) (hs : s.size ≤ 1000000000) (ht : t.size ≤ 1000000000) :
    Calls Tryz.prog 62 #[.string s, .string t] w fun e w' => e = .returned (.string ⟨(Pp.jn s.data.toList t.data.toList).toArray⟩) ∧ w' = w := by
  cases hc : s.toList.isEmpty with
  | true =>
    have HP : Hid (⟨(Pp.jn s.data.toList t.data.toList).toArray⟩ = t) := (by rw [Lib.toList_data, List.isEmpty_iff] at hc; rw [Pp.jn, if_pos hc] : ⟨(Pp.jn s.data.toList t.data.toList).toArray⟩ = t)
    go_enter Tryz.func62, Tryz.ntmps62
    go_wp2
    go_ret
    exact ⟨by rw [HP.out]; rfl, rfl⟩
  | false =>
    have HP : Hid (s ++ ⟨#[47]⟩ ++ t = ⟨(Pp.jn s.data.toList t.data.toList).toArray⟩) := (Pp.bytes_eq (by
      rw [Lib.toList_data] at hc
      rw [Joins.data_append, Joins.data_append, Pp.jn, if_neg (by intro h; rw [h] at hc; cases hc)]; simp) : s ++ ⟨#[47]⟩ ++ t = ⟨(Pp.jn s.data.toList t.data.toList).toArray⟩)
    go_enter Tryz.func62, Tryz.ntmps62
    go_wp2
    go_ret
    exact ⟨by rw [← HP.out]; rfl, rfl⟩

end Go.Proofs.YtlllcifehellpaaGreatDoor
set_option linter.unusedSimpArgs false
set_option linter.unusedVariables false
namespace Go.Proofs.YtlllcifehellpaaGreatDoor
open Go.RowKit

namespace Pp
theorem own_atW {w : World} {base : Nat} {v : Value} {L : List (List UInt8)} (h : w.ownsRow base 9 1 v L.length (vs L)) (h0 : L ≠ []) :
    ∃ g cap, v = .slice (some ⟨g, 0, none⟩) L.length cap ∧ base ≤ g ∧ g < w.heap.size ∧ ∀ i (h : i < L.length), w.cell? ⟨g, i, none⟩ = some (.string ⟨(L[i]).toArray⟩) := by
  have hcopy := h
  obtain ⟨hl, h2⟩ := h
  rcases h2 with ⟨_, hz⟩ | ⟨g, cap, cur, rfl, hg, hh, hn, hm, hz, htake⟩
  · exact absurd (List.length_eq_zero_iff.1 hz) h0
  · have hlt : g < w.heap.size := by
      rcases Nat.lt_or_ge g w.heap.size with h | h
      · exact h
      · rw [Array.getElem?_eq_none h] at hh; cases hh
    refine ⟨g, cap, rfl, hg, hlt, fun i h => ?_⟩
    rw [hcopy.cellAt i (by omega)]
    simp [vs, h]
theorem vs_appW (a b : List (List UInt8)) : vs a ++ vs b = vs (a ++ b) := by simp [vs]
theorem vs_cellsW {w : World} {g : Nat} {L : List (List UInt8)} (h : ∀ i (h : i < L.length), w.cell? ⟨g, i, none⟩ = some (.string ⟨(L[i]).toArray⟩)) (o : Nat) : ∀ j u, (vs (L.drop o))[j]? = some u → w.cell? ((⟨g, o, none⟩ : Addr).add j) = some u := by
  intro j u hu
  simp only [vs, List.getElem?_map, List.getElem?_drop, Option.map_eq_some_iff] at hu
  obtain ⟨x, hx, rfl⟩ := hu
  obtain ⟨hlt, rfl⟩ := List.getElem?_eq_some_iff.1 hx
  have e := h (o + j) hlt
  by_cases hj : j = 0
  · subst hj; simpa [Addr.add] using e
  · simpa [Addr.add, hj] using e
theorem vs_oneW (L : List (List UInt8)) : ∀ u ∈ vs L, u.oneCell' = true := by
  intro u hu
  simp only [vs, List.mem_map] at hu
  obtain ⟨x, _, rfl⟩ := hu
  rfl
end Pp

theorem pathOf_nW (L : List (List UInt8)) (n g o cap : Nat) (w : World) (he : n = L.length) (hL : (Pp.join L).length ≤ 1000000000) (hn : L.length ≤ 1000000000) (hcell : ∀ i (h : i < L.length), w.cell? ⟨g, o + i, none⟩ = some (.string ⟨(L[i]).toArray⟩)) :
    Calls Tryz.prog 40 #[.slice (some ⟨g, o, none⟩) n cap] w fun e w' => e = .returned (.string ⟨(Pp.join L).toArray⟩) ∧ w' = w := by
  subst he
  exact pathOf_any L g o cap w hL hn hcell

end Go.Proofs.YtlllcifehellpaaGreatDoor
set_option linter.unusedSimpArgs false
set_option linter.unusedVariables false
namespace Go.Proofs.YtlllcifehellpaaGreatDoor
open Go.RowKit

namespace Pp
theorem dec_le : ∀ (n u : Nat), u < n → (Lib.decDigits u).length ≤ u + 1
  | 0, u, h => absurd h (Nat.not_lt_zero _)
  | n + 1, u, h => by
    rw [Lib.decDigits]
    split
    · simp
    · rename_i h1
      have := dec_le n (u / 10) (by omega)
      simp only [List.length_append, List.length_cons, List.length_nil]
      omega
theorem dec_small {u : Nat} (h : u < 10) : Lib.decDigits u = [UInt8.ofNat (48 + u)] := by rw [Lib.decDigits, dif_pos h]
theorem dec_more {u : Nat} (h : ¬ u < 10) : Lib.decDigits u = Lib.decDigits (u / 10) ++ [UInt8.ofNat (48 + u % 10)] := by rw [Lib.decDigits, dif_neg h]
def dg (u : Nat) : UInt8 := UInt8.ofNat (48 + u % 10)
theorem dig_toNat (u : Nat) : (dg u).toNat = 48 + u % 10 := by
  rw [dg, UInt8.toNat_ofNat']; omega
theorem dec_one {u : Nat} (h : u < 10) : Lib.decDigits u = [dg u] := by rw [dec_small h, dg, Nat.mod_eq_of_lt h]
theorem dec_two {u : Nat} (h : ¬ u < 10) : Lib.decDigits u = Lib.decDigits (u / 10) ++ [dg u] := dec_more h
end Pp

theorem conv_one (u : Nat) (w : World) (ty : TypeId) :
    (convert 123 9 (.slice (some ⟨w.heap.size, 0, none⟩) 1 1)).run Tryz.prog (w.alloc (.cells #[.int .u8 (48 + (u : Int) % 10)] ty)) = .ok (.string ⟨#[Pp.dg u]⟩) (w.alloc (.cells #[.int .u8 (48 + (u : Int) % 10)] ty)) := by
  refine run_convert_bytes_back (P := Tryz.prog) (w.alloc (.cells #[.int .u8 (48 + (u : Int) % 10)] ty)) 123 9 5 ⟨w.heap.size, 0, none⟩ 1 [Pp.dg u] Tryz.underlying123 Tryz.underlying5 Tryz.underlying9 ?_
  intro j hj
  match j, hj with
  | 0, _ =>
    have e : ((Pp.dg u).toNat : Int) = 48 + (u : Int) % 10 := by rw [Pp.dig_toNat]; omega
    simp only [List.getElem_cons_zero]
    rw [e]
    simp [Addr.add]

set_option maxHeartbeats 600000 in
theorem decimal_any (n : Nat) (w : World) (hn : n ≤ 1000000000) :
    Calls Tryz.prog 61 #[.int .i64 n] w fun e w' => e = .returned (.string ⟨(Lib.decDigits n).toArray⟩) ∧ Below w.heap.size w w' := by
  have hlen := Pp.dec_le (n + 1) n (Nat.lt_succ_self n)
  have h0 : ¬ (n : Int) < 0 := by omega
  go_enter Tryz.func61, Tryz.ntmps61
  go_wp2_with fail
  go_loopw [0, 3] (fun m r wr => ∃ (u : Nat) (l : List UInt8), m = .int .i64 u ∧ r = .string ⟨l.toArray⟩ ∧ u ≤ n ∧ l.length ≤ n + 1 ∧ Hid (Lib.decDigits n = Lib.decDigits u ++ l) ∧ Below w.heap.size w wr) (fun m _ _ => (intOf m).toNat)
  case atStart => exact ⟨n, [], rfl, rfl, Nat.le_refl _, by simp, (by simp : Lib.decDigits n = Lib.decDigits n ++ []), Below.refl _ _⟩
  case round =>
    obtain ⟨u, l, rfl, rfl, hu, hl, HD, hbel⟩ := hrel
    have hcv := fun ty => conv_one u wr ty
    by_cases hlt : u < 10
    · have HR : Hid ((⟨#[Pp.dg u]⟩ : ByteArray) ++ ⟨l.toArray⟩ = ⟨(Lib.decDigits n).toArray⟩) := (Pp.bytes_eq (by
        rw [Joins.data_append, HD.out, Pp.dec_one hlt]) : (⟨#[Pp.dg u]⟩ : ByteArray) ++ ⟨l.toArray⟩ = ⟨(Lib.decDigits n).toArray⟩)
      have hq : ((u : Int) / 10 == 0) = true := by rw [beq_iff_eq]; omega
      go_wp2_with fail
      go_ret
      exact ⟨by rw [← HR.out]; rfl, hbel.alloc hbel.size _⟩
    · have HR : Hid ((⟨#[Pp.dg u]⟩ : ByteArray) ++ ⟨l.toArray⟩ = ⟨(Pp.dg u :: l).toArray⟩) := (Pp.bytes_eq (by rw [Joins.data_append]; rfl) : (⟨#[Pp.dg u]⟩ : ByteArray) ++ ⟨l.toArray⟩ = ⟨(Pp.dg u :: l).toArray⟩)
      have HD2 : Hid (Lib.decDigits n = Lib.decDigits (u / 10) ++ (Pp.dg u :: l)) := (by rw [HD.out, Pp.dec_two hlt]; simp : Lib.decDigits n = Lib.decDigits (u / 10) ++ (Pp.dg u :: l))
      have hl2 : (Pp.dg u :: l).length ≤ n + 1 := by
        have := congrArg List.length HD2.out
        rw [List.length_append] at this
        omega
      have hq : ((u : Int) / 10 == 0) = false := by rw [beq_eq_false_iff_ne]; omega
      go_wp2_with fail
      go_roundw
      case rel => exact ⟨u / 10, Pp.dg u :: l, by simp, by rw [HR.out], by omega, hl2, HD2.out, hbel.alloc hbel.size _⟩
      case measure => simp [intOf]; omega
end Go.Proofs.YtlllcifehellpaaGreatDoor
set_option linter.unusedSimpArgs false
set_option linter.unusedVariables false
namespace Go.Proofs.YtlllcifehellpaaGreatDoor
open Go.RowKit

namespace Pp
theorem ifc_twice (e : Int) (x : List UInt8) : ifc e (ifc e x) = ifc e x := by
  unfold ifc; split <;> rfl
theorem dot_hit_step (l : List UInt8) (k : Nat) (h1 : 1 ≤ k) (h : l[k]? = some 46) : dot l (k + 1) = k := by rw [dot, if_pos ⟨h1, h⟩]
theorem dot_miss_step (l : List UInt8) (k : Nat) (h : ¬ l[k]? = some 46) : dot l (k + 1) = dot l k := by rw [dot, if_neg (fun e => h e.2)]
theorem dot_le (l : List UInt8) : ∀ k, k ≤ l.length → dot l k ≤ l.length
  | 0, _ => Nat.le_refl _
  | k + 1, h => by
    rw [dot]; split
    · omega
    · exact dot_le l k (by omega)
theorem dot_one (l : List UInt8) : dot l 1 = l.length := by rw [dot, if_neg (by omega), dot]
theorem get_byte (s : ByteArray) (k : Nat) (hk : k < s.size) : s.data.toList[k]? = some s[k] := by
  have hl : k < s.data.toList.length := by simpa using hk
  rw [List.getElem?_eq_getElem hl, byte_at' s k hk hl]
theorem is46 (c : UInt8) : (c.toNat : Int) = 46 ↔ c = 46 := by
  constructor
  · intro h; exact UInt8.toNat_inj.1 (by simpa using Int.ofNat.inj h)
  · intro h; rw [h]; rfl

/-- The stem, shortened from its end: byte by byte. -/
theorem trim_eq (l : List UInt8) : Lib.trimRightB l 32 = if l.getLast? = some 32 then Lib.trimRightB l.dropLast 32 else l := by
  rcases List.eq_nil_or_concat l with rfl | ⟨r, c, rfl⟩
  · simp [Lib.trimRightB]
  · rw [List.concat_eq_append]
    simp only [Lib.trimRightB, List.reverse_append, List.reverse_cons, List.reverse_nil, List.nil_append, List.singleton_append, List.dropWhile_cons, List.getLast?_append, List.getLast?_singleton, List.dropLast_concat]
    by_cases h : c = 32
    · subst h; simp
    · simp [h]
/-- What the loop keeps: what is left of the stem comes to R. -/
def leads (room : Int) (R x : List UInt8) : Prop := Lib.trimRightB (x.take room.toNat) 32 = R
theorem leads_start {l : List UInt8} {room : Int} (h : room < l.length) : leads room (short l room) l := by
  rw [leads, short, if_neg (by omega)]
theorem leads_long {room : Int} {R x : List UInt8} (h : leads room R x) (hl : room < x.length) : leads room R x.dropLast := by
  unfold leads at h ⊢
  rw [List.dropLast_eq_take, List.take_take, show min room.toNat (x.length - 1) = room.toNat by omega]
  exact h
theorem leads_blank {room : Int} {R x : List UInt8} (h : leads room R x) (hl : (x.length : Int) ≤ room) (hb : x.getLast? = some 32) : leads room R x.dropLast := by
  unfold leads at h ⊢
  rw [List.take_of_length_le (by omega), trim_eq, if_pos hb] at h
  rw [List.take_of_length_le (by rw [List.length_dropLast]; omega)]
  exact h
theorem leads_nil {room : Int} {R : List UInt8} (h : leads room R []) : R = [] := by
  unfold leads at h; rw [← h]; simp [Lib.trimRightB]
theorem leads_end {room : Int} {R x : List UInt8} (h : leads room R x) (hl : (x.length : Int) ≤ room) (hb : ¬ x.getLast? = some 32) : R = x := by
  unfold leads at h
  rw [List.take_of_length_le (by omega), trim_eq, if_neg hb] at h
  exact h.symm
theorem cut_last (X : ByteArray) : (X.extract 0 (X.size - 1)).data.toList = X.data.toList.dropLast := by
  rw [Lib.extract_data, List.dropLast_eq_take, Lib.size_eq]; simp
theorem last_byte (X : ByteArray) (h : X.size - 1 < X.size) : X.data.toList.getLast? = some X[X.size - 1] := by
  have hl2 : X.size - 1 < X.data.toList.length := by simpa using h
  rw [List.getLast?_eq_getElem?, ← Lib.size_eq, List.getElem?_eq_getElem hl2, byte_at' X _ h hl2]
theorem is32 (c : UInt8) : (c.toNat : Int) = 32 ↔ c = 32 := by
  constructor
  · intro h; exact UInt8.toNat_inj.1 (by simpa using Int.ofNat.inj h)
  · intro h; rw [h]; rfl
def strLen (v : Value) : Nat := match v with
  | .string s => s.size
  | _ => 0
theorem lst_long {l : List UInt8} (h : chk l = 0) : 1 ≤ (lst l).length := by
  have h1 := chk_names h
  have hm : lst l ∈ nm l := by
    rw [lst, List.getLastD_eq_getLast?]
    cases e : (nm l).getLast? with
    | none => exact absurd (List.getLast?_eq_none_iff.1 e) (nm_ne l)
    | some x => exact List.mem_of_getLast? e
  have := (List.all_eq_true.1 h1) _ hm
  simp only [nameB, Bool.and_eq_true, decide_eq_true_eq] at this
  omega
end Pp

set_option maxRecDepth 100000 in
set_option maxHeartbeats 1000000 in
theorem asideOf_any (s : ByteArray) (n : Nat) (w : World) (hs : s.size ≤ 1048576) (hn1 : 1 ≤ (n : Int)) (hn2 : (n : Int) ≤ 99) (hz : Pp.chk s.data.toList = 0) :
    Calls Tryz.prog 35 #[.string s, .int .i64 n] w fun e w' => e = .returned (.tuple #[.string ⟨(Pp.ifc (Pp.asideE s.data.toList n) (Pp.asideT s.data.toList n)).toArray⟩, .int .i64 (Pp.asideE s.data.toList n)]) ∧ Below w.heap.size w w' := by
  have hM1 := Pp.lst_long hz
  have b0 := Pp.dec_len n (by omega)
  have b1 := Pp.len_par s.data.toList
  have b2 := Pp.len_lst s.data.toList
  rw [← Lib.size_eq] at b1 b2
  obtain ⟨M, hM⟩ : ∃ M : ByteArray, M = ⟨(Pp.lst s.data.toList).toArray⟩ := ⟨_, rfl⟩
  have HM : Hid ((⟨(Pp.lst s.data.toList).toArray⟩ : ByteArray) = M) := hM.symm
  have HML : Hid (M.data.toList = Pp.lst s.data.toList) := (by rw [hM] : M.data.toList = Pp.lst s.data.toList)
  have hMs : M.size = (Pp.lst s.data.toList).length := by rw [hM, Pp.sz]
  have hM1' : 1 ≤ M.size := by omega
  have hM2 : M.size ≤ 1048576 := by omega
  clear hM hMs
  have HZ : Hid (Pp.chk s.data.toList = 0) := hz
  clear hz
  go_enter Tryz.func35, Tryz.ntmps35
  go_wp2_with fail
  refine (lastOf_any s _ (by omega)).mono ?_
  rintro e w1 ⟨rfl, hb1⟩
  rw [HM.out]
  go_wp2_with fail
  go_loop [7, 8] (fun a i => ∃ k : Nat, 1 ≤ k ∧ k ≤ M.size ∧ i = .int .i64 k ∧ a = .int .i64 (Pp.dot M.data.toList k)) (fun _ i => M.size - (intOf i).toNat)
  case atStart => exact ⟨1, Nat.le_refl _, hM1', rfl, by rw [Pp.dot_one, ← Lib.size_eq]⟩
  case round =>
    obtain ⟨k, hk1, hk, rfl, rfl⟩ := hrel
    by_cases hlt : k < M.size
    · cases hc : ((M[k].toNat : Int) == 46) with
      | true =>
        have HD : Hid (Pp.dot M.data.toList (k + 1) = k) := (Pp.dot_hit_step _ k hk1 (by rw [Pp.get_byte M k hlt, (Pp.is46 M[k]).1 (by simpa using hc)]) : Pp.dot M.data.toList (k + 1) = k)
        go_wp2_with fail
        go_round
        case rel => exact ⟨k + 1, by omega, by omega, by go_num, by rw [HD.out]⟩
        case measure => simp [intOf]; omega
      | false =>
        have HD : Hid (Pp.dot M.data.toList (k + 1) = Pp.dot M.data.toList k) := (Pp.dot_miss_step _ k (by rw [Pp.get_byte M k hlt]; intro e; rw [Option.some.injEq] at e; have := (Pp.is46 M[k]).2 e; simp at hc; exact hc this) : Pp.dot M.data.toList (k + 1) = Pp.dot M.data.toList k)
        go_wp2_with fail
        go_round
        case rel => exact ⟨k + 1, by omega, by omega, by go_num, by rw [HD.out]⟩
        case measure => simp [intOf]; omega
    · obtain rfl : k = M.size := by omega
      have hdle := Pp.dot_le M.data.toList M.size (by rw [Lib.size_eq]; exact Nat.le_refl _)
      rw [← Lib.size_eq] at hdle
      have hd2 : (Pp.dot M.data.toList M.size : Int) ≤ M.size := by omega
      obtain ⟨X0, hX0⟩ : ∃ X : ByteArray, X = ⟨(Pp.stem (Pp.lst s.data.toList)).toArray⟩ := ⟨_, rfl⟩
      have HX0 : Hid (X0.data.toList = Pp.stem (Pp.lst s.data.toList)) := (by rw [hX0] : X0.data.toList = Pp.stem (Pp.lst s.data.toList))
      have b3 : X0.size ≤ M.size := by rw [Lib.size_eq, HX0.out, Lib.size_eq, HML.out]; exact Pp.len_stem _
      have b4 : (Pp.ending (Pp.lst s.data.toList)).length ≤ M.size := by rw [Lib.size_eq, HML.out]; exact Pp.len_ending _
      have HS : Hid (M.extract 0 (Pp.dot M.data.toList M.size) = X0) := (by rw [hX0]; exact Pp.bytes_eq (by rw [Lib.extract_data, ← HML.out, Pp.stem, Lib.size_eq]; simp) : M.extract 0 (Pp.dot M.data.toList M.size) = X0)
      have HT : Hid (M.extract (Pp.dot M.data.toList M.size) M.size = ⟨(Pp.ending (Pp.lst s.data.toList)).toArray⟩) := (by rw [Pp.piece_end, HML.out, Pp.ending]; rw [← HML.out, Lib.size_eq] : M.extract (Pp.dot M.data.toList M.size) M.size = ⟨(Pp.ending (Pp.lst s.data.toList)).toArray⟩)
      clear hX0
      go_wp2_with fail
      go_region
      rw [HS.out, HT.out]
      go_wp2_with fail
      refine (decimal_any n _ (by omega)).mono ?_
      rintro e w2 ⟨rfl, hb2⟩
      have hbb : Below w.heap.size w w2 := below_trans hb1.drew hb2
      clear hb1 hb2
      have HA : Hid (Pp.asideS s.data.toList n = Pp.short X0.data.toList (20 - (2 + ((Lib.decDigits n).length : Int) + 1) - (Pp.ending (Pp.lst s.data.toList)).length)) := (by rw [HX0.out, Pp.aside_room] : Pp.asideS s.data.toList n = Pp.short X0.data.toList (20 - (2 + ((Lib.decDigits n).length : Int) + 1) - (Pp.ending (Pp.lst s.data.toList)).length))
      by_cases hroom : 20 < (X0.size : Int) + (2 + ((Lib.decDigits n).length : Int) + 1) + (Pp.ending (Pp.lst s.data.toList)).length
      · go_wp2_with fail
        go_loop [9] (fun st => ∃ X : ByteArray, st = .string X ∧ X.size ≤ X0.size ∧ Hid (Pp.leads (20 - (2 + ((Lib.decDigits n).length : Int) + 1) - (Pp.ending (Pp.lst s.data.toList)).length) (Pp.asideS s.data.toList n) X.data.toList)) (fun st => Pp.strLen st)
        case atStart => exact ⟨X0, rfl, Nat.le_refl _, (by rw [HA.out]; exact Pp.leads_start (by rw [← Lib.size_eq]; omega) : Pp.leads (20 - (2 + ((Lib.decDigits n).length : Int) + 1) - (Pp.ending (Pp.lst s.data.toList)).length) (Pp.asideS s.data.toList n) X0.data.toList)⟩
        case round =>
          obtain ⟨X, rfl, hX, HLD⟩ := hrel
          cases hemp : X.toList.isEmpty with
          | true =>
            have HX : Hid (X.data.toList = Pp.asideS s.data.toList n) := (by have e := (Pp.empty_iff X).1 hemp; have h := HLD.out; rw [e] at h ⊢; exact (Pp.leads_nil h).symm : X.data.toList = Pp.asideS s.data.toList n)
            have b6 := Pp.mark_len n
            have b7 := Pp.len_jn (Pp.par s.data.toList) (X.data.toList ++ Pp.mark n ++ Pp.ending (Pp.lst s.data.toList))
            rw [List.length_append, List.length_append, b6, ← Lib.size_eq] at b7
            have HTT : Hid (Pp.jn (Pp.par s.data.toList) (X.data.toList ++ Pp.mark n ++ Pp.ending (Pp.lst s.data.toList)) = Pp.asideT s.data.toList n) := (by rw [Pp.asideT_eq, HX.out] : Pp.jn (Pp.par s.data.toList) (X.data.toList ++ Pp.mark n ++ Pp.ending (Pp.lst s.data.toList)) = Pp.asideT s.data.toList n)
            rw [HTT.out] at b7
            have B8 : Hid ((X.data.toList ++ Pp.mark n ++ Pp.ending (Pp.lst s.data.toList)).length ≤ 1000000000) := (by rw [List.length_append, List.length_append, b6, ← Lib.size_eq]; omega : (X.data.toList ++ Pp.mark n ++ Pp.ending (Pp.lst s.data.toList)).length ≤ 1000000000)
            clear b6
            have HB : Hid (X ++ (⟨#[32, 40]⟩ ++ ⟨(Lib.decDigits n).toArray⟩ ++ ⟨#[41]⟩) ++ ⟨(Pp.ending (Pp.lst s.data.toList)).toArray⟩ = ⟨(X.data.toList ++ Pp.mark n ++ Pp.ending (Pp.lst s.data.toList)).toArray⟩) :=
              (Pp.bytes_eq (by rw [Joins.data_append, Joins.data_append, Joins.data_append, Joins.data_append]; simp [Pp.mark]) : X ++ (⟨#[32, 40]⟩ ++ ⟨(Lib.decDigits n).toArray⟩ ++ ⟨#[41]⟩) ++ ⟨(Pp.ending (Pp.lst s.data.toList)).toArray⟩ = ⟨(X.data.toList ++ Pp.mark n ++ Pp.ending (Pp.lst s.data.toList)).toArray⟩)
            go_wp2_with fail
            refine (parentOf_any s _ (by omega)).mono ?_
            rintro e w3 ⟨rfl, hb3⟩
            go_wp2_with fail
            rw [HB.out]
            refine (rJoined_any _ ⟨(X.data.toList ++ Pp.mark n ++ Pp.ending (Pp.lst s.data.toList)).toArray⟩ _ (by rw [Pp.sz]; omega) (by rw [Pp.sz]; exact B8.out)).mono ?_
            rintro e w4 ⟨rfl, rfl⟩
            rw [show Pp.jn _ _ = Pp.asideT s.data.toList n from HTT.out]
            have HE : Hid (Pp.asideE s.data.toList n = 2) := (by rw [Pp.asideE_in _ n HZ.out hn1 hn2, if_pos (by rw [← HX.out]; exact (Pp.empty_iff X).1 hemp)] : Pp.asideE s.data.toList n = 2)
            go_wp2_with fail
            go_ret2
            exact ⟨by rw [HE.out, Pp.ifc_no (by decide)]; rfl, below_trans hbb hb3⟩
          | false =>
            have hx1 : 1 ≤ X.size := by
              rw [Lib.size_eq]
              exact Nat.pos_of_ne_zero (fun e => Pp.not_empty hemp (List.length_eq_zero_iff.1 e))
            have hx2 : X.size - 1 < X.size := by omega
            by_cases hlong : 20 < (X.size : Int) + (2 + ((Lib.decDigits n).length : Int) + 1) + (Pp.ending (Pp.lst s.data.toList)).length
            · have HN : Hid (Pp.leads (20 - (2 + ((Lib.decDigits n).length : Int) + 1) - (Pp.ending (Pp.lst s.data.toList)).length) (Pp.asideS s.data.toList n) (X.extract 0 (X.size - 1)).data.toList) := (by rw [Pp.cut_last]; exact Pp.leads_long HLD.out (by rw [← Lib.size_eq]; omega) : Pp.leads (20 - (2 + ((Lib.decDigits n).length : Int) + 1) - (Pp.ending (Pp.lst s.data.toList)).length) (Pp.asideS s.data.toList n) (X.extract 0 (X.size - 1)).data.toList)
              have hsz : (X.extract 0 (X.size - 1)).size = X.size - 1 := by rw [Lib.size_eq, Pp.cut_last, List.length_dropLast, ← Lib.size_eq]
              have HSZ : Hid ((X.extract 0 (X.size - 1)).size = X.size - 1) := hsz
              clear hsz
              go_wp2_with fail
              go_round
              case rel => exact ⟨X.extract 0 (X.size - 1), rfl, by rw [HSZ.out]; omega, HN.out⟩
              case measure => simp only [Pp.strLen]; rw [HSZ.out]; omega
            · cases hbl : ((X[X.size - 1].toNat : Int) == 32) with
              | true =>
                have HN : Hid (Pp.leads (20 - (2 + ((Lib.decDigits n).length : Int) + 1) - (Pp.ending (Pp.lst s.data.toList)).length) (Pp.asideS s.data.toList n) (X.extract 0 (X.size - 1)).data.toList) := (by rw [Pp.cut_last]; exact Pp.leads_blank HLD.out (by rw [← Lib.size_eq]; omega) (by rw [Pp.last_byte X hx2, (Pp.is32 X[X.size - 1]).1 (by simpa using hbl)]) : Pp.leads (20 - (2 + ((Lib.decDigits n).length : Int) + 1) - (Pp.ending (Pp.lst s.data.toList)).length) (Pp.asideS s.data.toList n) (X.extract 0 (X.size - 1)).data.toList)
                have hsz : (X.extract 0 (X.size - 1)).size = X.size - 1 := by rw [Lib.size_eq, Pp.cut_last, List.length_dropLast, ← Lib.size_eq]
                have HSZ : Hid ((X.extract 0 (X.size - 1)).size = X.size - 1) := hsz
                clear hsz
                go_wp2_with fail
                go_round
                case rel => exact ⟨X.extract 0 (X.size - 1), rfl, by rw [HSZ.out]; omega, HN.out⟩
                case measure => simp only [Pp.strLen]; rw [HSZ.out]; omega
              | false =>
                have HX : Hid (X.data.toList = Pp.asideS s.data.toList n) := ((Pp.leads_end HLD.out (by rw [← Lib.size_eq]; omega) (by rw [Pp.last_byte X hx2]; intro e; rw [Option.some.injEq] at e; have := (Pp.is32 X[X.size - 1]).2 e; simp at hbl; exact hbl this)).symm : X.data.toList = Pp.asideS s.data.toList n)
                have b6 := Pp.mark_len n
                have b7 := Pp.len_jn (Pp.par s.data.toList) (X.data.toList ++ Pp.mark n ++ Pp.ending (Pp.lst s.data.toList))
                rw [List.length_append, List.length_append, b6, ← Lib.size_eq] at b7
                have HTT : Hid (Pp.jn (Pp.par s.data.toList) (X.data.toList ++ Pp.mark n ++ Pp.ending (Pp.lst s.data.toList)) = Pp.asideT s.data.toList n) := (by rw [Pp.asideT_eq, HX.out] : Pp.jn (Pp.par s.data.toList) (X.data.toList ++ Pp.mark n ++ Pp.ending (Pp.lst s.data.toList)) = Pp.asideT s.data.toList n)
                rw [HTT.out] at b7
                have B8 : Hid ((X.data.toList ++ Pp.mark n ++ Pp.ending (Pp.lst s.data.toList)).length ≤ 1000000000) := (by rw [List.length_append, List.length_append, b6, ← Lib.size_eq]; omega : (X.data.toList ++ Pp.mark n ++ Pp.ending (Pp.lst s.data.toList)).length ≤ 1000000000)
                clear b6
                have HB : Hid (X ++ (⟨#[32, 40]⟩ ++ ⟨(Lib.decDigits n).toArray⟩ ++ ⟨#[41]⟩) ++ ⟨(Pp.ending (Pp.lst s.data.toList)).toArray⟩ = ⟨(X.data.toList ++ Pp.mark n ++ Pp.ending (Pp.lst s.data.toList)).toArray⟩) :=
                  (Pp.bytes_eq (by rw [Joins.data_append, Joins.data_append, Joins.data_append, Joins.data_append]; simp [Pp.mark]) : X ++ (⟨#[32, 40]⟩ ++ ⟨(Lib.decDigits n).toArray⟩ ++ ⟨#[41]⟩) ++ ⟨(Pp.ending (Pp.lst s.data.toList)).toArray⟩ = ⟨(X.data.toList ++ Pp.mark n ++ Pp.ending (Pp.lst s.data.toList)).toArray⟩)
                go_wp2_with fail
                refine (parentOf_any s _ (by omega)).mono ?_
                rintro e w3 ⟨rfl, hb3⟩
                go_wp2_with fail
                rw [HB.out]
                refine (rJoined_any _ ⟨(X.data.toList ++ Pp.mark n ++ Pp.ending (Pp.lst s.data.toList)).toArray⟩ _ (by rw [Pp.sz]; omega) (by rw [Pp.sz]; exact B8.out)).mono ?_
                rintro e w4 ⟨rfl, rfl⟩
                rw [show Pp.jn _ _ = Pp.asideT s.data.toList n from HTT.out]
                have hne : Pp.asideS s.data.toList n ≠ [] := by rw [← HX.out]; exact Pp.not_empty hemp
                have hE : Pp.asideE s.data.toList n = if Pp.big (Pp.asideT s.data.toList n) = true then 2 else 0 := by
                  rw [Pp.asideE_in _ n HZ.out hn1 hn2, if_neg hne, Pp.asideT_chk n HZ.out hne]
                clear hne
                cases hbig : Pp.big (Pp.asideT s.data.toList n) with
                | true =>
                  have HBG : Hid (Pp.big (Pp.asideT s.data.toList n) = true) := hbig
                  have HE : Hid (Pp.asideE s.data.toList n = 2) := (by rw [hE, hbig]; rfl : Pp.asideE s.data.toList n = 2)
                  clear hbig hE
                  go_wp2_with fail
                  refine (rTooGreat_any ⟨(Pp.asideT s.data.toList n).toArray⟩ _ (by rw [Pp.sz]; omega)).mono ?_
                  rintro e w5 ⟨rfl, hb5⟩
                  rw [show Pp.big _ = _ from HBG.out]
                  go_wp2_with fail
                  go_ret2
                  exact ⟨by rw [HE.out, Pp.ifc_no (by decide)]; rfl, below_trans (below_trans hbb hb3) hb5⟩
                | false =>
                  have HBG : Hid (Pp.big (Pp.asideT s.data.toList n) = false) := hbig
                  have HE : Hid (Pp.asideE s.data.toList n = 0) := (by rw [hE, hbig]; rfl : Pp.asideE s.data.toList n = 0)
                  clear hbig hE
                  go_wp2_with fail
                  refine (rTooGreat_any ⟨(Pp.asideT s.data.toList n).toArray⟩ _ (by rw [Pp.sz]; omega)).mono ?_
                  rintro e w5 ⟨rfl, hb5⟩
                  rw [show Pp.big _ = _ from HBG.out]
                  go_wp2_with fail
                  go_ret2
                  exact ⟨by rw [HE.out, Pp.ifc_yes rfl]; rfl, below_trans (below_trans hbb hb3) hb5⟩
      · obtain ⟨X, hXe⟩ : ∃ X : ByteArray, X = X0 := ⟨_, rfl⟩
        subst hXe
        have HX : Hid (X.data.toList = Pp.asideS s.data.toList n) := (by rw [HA.out, Pp.short, if_pos (by rw [← Lib.size_eq]; omega)] : X.data.toList = Pp.asideS s.data.toList n)
        have b6 := Pp.mark_len n
        have b7 := Pp.len_jn (Pp.par s.data.toList) (X.data.toList ++ Pp.mark n ++ Pp.ending (Pp.lst s.data.toList))
        rw [List.length_append, List.length_append, b6, ← Lib.size_eq] at b7
        have HTT : Hid (Pp.jn (Pp.par s.data.toList) (X.data.toList ++ Pp.mark n ++ Pp.ending (Pp.lst s.data.toList)) = Pp.asideT s.data.toList n) := (by rw [Pp.asideT_eq, HX.out] : Pp.jn (Pp.par s.data.toList) (X.data.toList ++ Pp.mark n ++ Pp.ending (Pp.lst s.data.toList)) = Pp.asideT s.data.toList n)
        rw [HTT.out] at b7
        have B8 : Hid ((X.data.toList ++ Pp.mark n ++ Pp.ending (Pp.lst s.data.toList)).length ≤ 1000000000) := (by rw [List.length_append, List.length_append, b6, ← Lib.size_eq]; omega : (X.data.toList ++ Pp.mark n ++ Pp.ending (Pp.lst s.data.toList)).length ≤ 1000000000)
        clear b6
        have HB : Hid (X ++ (⟨#[32, 40]⟩ ++ ⟨(Lib.decDigits n).toArray⟩ ++ ⟨#[41]⟩) ++ ⟨(Pp.ending (Pp.lst s.data.toList)).toArray⟩ = ⟨(X.data.toList ++ Pp.mark n ++ Pp.ending (Pp.lst s.data.toList)).toArray⟩) :=
          (Pp.bytes_eq (by rw [Joins.data_append, Joins.data_append, Joins.data_append, Joins.data_append]; simp [Pp.mark]) : X ++ (⟨#[32, 40]⟩ ++ ⟨(Lib.decDigits n).toArray⟩ ++ ⟨#[41]⟩) ++ ⟨(Pp.ending (Pp.lst s.data.toList)).toArray⟩ = ⟨(X.data.toList ++ Pp.mark n ++ Pp.ending (Pp.lst s.data.toList)).toArray⟩)
        go_wp2_with fail
        refine (parentOf_any s _ (by omega)).mono ?_
        rintro e w3 ⟨rfl, hb3⟩
        go_wp2_with fail
        rw [HB.out]
        refine (rJoined_any _ ⟨(X.data.toList ++ Pp.mark n ++ Pp.ending (Pp.lst s.data.toList)).toArray⟩ _ (by rw [Pp.sz]; omega) (by rw [Pp.sz]; exact B8.out)).mono ?_
        rintro e w4 ⟨rfl, rfl⟩
        rw [show Pp.jn _ _ = Pp.asideT s.data.toList n from HTT.out]
        cases hq : X.toList.isEmpty with
        | true =>
          have HE : Hid (Pp.asideE s.data.toList n = 2) := (by rw [Pp.asideE_in _ n HZ.out hn1 hn2, if_pos (by rw [← HX.out]; exact (Pp.empty_iff X).1 hq)] : Pp.asideE s.data.toList n = 2)
          go_wp2_with fail
          go_ret2
          exact ⟨by rw [HE.out, Pp.ifc_no (by decide)]; rfl, below_trans hbb hb3⟩
        | false =>
          have hne : Pp.asideS s.data.toList n ≠ [] := by rw [← HX.out]; exact Pp.not_empty hq
          have hE : Pp.asideE s.data.toList n = if Pp.big (Pp.asideT s.data.toList n) = true then 2 else 0 := by
            rw [Pp.asideE_in _ n HZ.out hn1 hn2, if_neg hne, Pp.asideT_chk n HZ.out hne]
          clear hne
          cases hbig : Pp.big (Pp.asideT s.data.toList n) with
          | true =>
            have HBG : Hid (Pp.big (Pp.asideT s.data.toList n) = true) := hbig
            have HE : Hid (Pp.asideE s.data.toList n = 2) := (by rw [hE, hbig]; rfl : Pp.asideE s.data.toList n = 2)
            clear hbig hE
            go_wp2_with fail
            refine (rTooGreat_any ⟨(Pp.asideT s.data.toList n).toArray⟩ _ (by rw [Pp.sz]; omega)).mono ?_
            rintro e w5 ⟨rfl, hb5⟩
            rw [show Pp.big _ = _ from HBG.out]
            go_wp2_with fail
            go_ret2
            exact ⟨by rw [HE.out, Pp.ifc_no (by decide)]; rfl, below_trans (below_trans hbb hb3) hb5⟩
          | false =>
            have HBG : Hid (Pp.big (Pp.asideT s.data.toList n) = false) := hbig
            have HE : Hid (Pp.asideE s.data.toList n = 0) := (by rw [hE, hbig]; rfl : Pp.asideE s.data.toList n = 0)
            clear hbig hE
            go_wp2_with fail
            refine (rTooGreat_any ⟨(Pp.asideT s.data.toList n).toArray⟩ _ (by rw [Pp.sz]; omega)).mono ?_
            rintro e w5 ⟨rfl, hb5⟩
            rw [show Pp.big _ = _ from HBG.out]
            go_wp2_with fail
            go_ret2
            exact ⟨by rw [HE.out, Pp.ifc_yes rfl]; rfl, below_trans (below_trans hbb hb3) hb5⟩

end Go.Proofs.YtlllcifehellpaaGreatDoor
