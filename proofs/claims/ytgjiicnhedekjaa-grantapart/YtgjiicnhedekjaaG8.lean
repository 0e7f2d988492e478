/- What slices.SortFunc of grants by grant.compare does. -/
import Derived.Test.YtgjiicnhedekjaaG7
set_option linter.unusedSimpArgs false
set_option linter.unusedVariables false
namespace Go.Proofs.Ytgjiicnhedekjaa
open Go.RowKit

theorem below_growG {B : Nat} {w0 w : World} (h : Below B w0 w) (hB : B ≤ w.heap.size) (os : Array Obj) : Below B w0 (Sort.grow w os) :=
  h.trans ⟨rfl, rfl, rfl, by simp [Sort.grow], fun k hk => by simp [Sort.grow, Array.getElem?_append_left (show k < w.heap.size by omega)]⟩

set_option maxHeartbeats 1000000 in
theorem or2_same (a b : Int) (g : Nat) (w : World) (h0 : w.cell? ⟨g, 0, none⟩ = some (.int .i64 a)) (h1 : w.cell? ⟨g, 1, none⟩ = some (.int .i64 b)) :
    Calls Try.prog 43 #[.slice (some ⟨g, 0, none⟩) 2 2] w fun e w' => e = .returned (.int .i64 (if a = 0 then b else a)) ∧ w' = w := by
  have H0 := ghid h0
  have H1 := ghid h1
  clear h0 h1
  obtain ⟨r, hr⟩ : ∃ r, r = if a = 0 then b else a := ⟨_, rfl⟩
  rw [← hr]
  have HR := ghid hr
  clear hr
  go_enter Try.func43, Try.ntmps43
  go_wp2_with fail
  go_loopw [8] (fun i wr => (i = .int .i64 0 ∨ (i = .int .i64 1 ∧ a = 0) ∨ (i = .int .i64 2 ∧ a = 0 ∧ b = 0)) ∧ wr = w) (fun i _ => 2 - (intOf i).toNat)
  case atStart => exact ⟨Or.inl rfl, rfl⟩
  case round =>
    obtain ⟨hi, hbel⟩ := hrel
    have c0 : wr.cell? ⟨g, 0, none⟩ = some (.int .i64 a) := hbel ▸ H0.out
    have c1 : wr.cell? ⟨g, 1, none⟩ = some (.int .i64 b) := hbel ▸ H1.out
    have HB := ghid hbel
    clear hbel
    rcases hi with rfl | ⟨rfl, ha⟩ | ⟨rfl, ha, hb⟩
    · by_cases ha : a = 0
      · subst ha
        go_wp2_with fail
        go_roundw
        case rel => exact ⟨by simp, HB.out⟩
        case measure => simp [intOf]
      · have HE : Hid (a = r) := (by rw [HR.out, if_neg ha] : a = r)
        have hz : (a == 0) = false := by simpa using ha
        go_wp2_with fail
        go_ret
        exact ⟨Pp.ret_int HE.out, HB.out⟩
    · subst ha
      by_cases hb : b = 0
      · subst hb
        go_wp2_with fail
        go_roundw
        case rel => exact ⟨by simp, HB.out⟩
        case measure => simp [intOf]
      · have HE : Hid (b = r) := (by rw [HR.out, if_pos rfl] : b = r)
        have hz : (b == 0) = false := by simpa using hb
        go_wp2_with fail
        go_ret
        exact ⟨Pp.ret_int HE.out, HB.out⟩
    · subst ha
      subst hb
      have HE : Hid ((0 : Int) = r) := (by rw [HR.out, if_pos rfl] : (0 : Int) = r)
      go_wp2_with fail
      go_ret
      exact ⟨Pp.ret_int HE.out, HB.out⟩

set_option maxHeartbeats 1000000 in
theorem compare_grow (a b : Gr) (w : World) :
    Calls Try.prog 35 #[.agg #[.string a.fo, .string a.wh, .int .i64 a.ri], .agg #[.string b.fo, .string b.wh, .int .i64 b.ri]] w fun e w' => e = .returned (.int .i64 (Pp.cG a b)) ∧ ∃ q os', w' = Sort.grow (w.drewN q) os' := by
  have HE : Hid ((if Pp.cS a.fo b.fo = 0 then Pp.cS a.wh b.wh else Pp.cS a.fo b.fo) = Pp.cG a b) := rfl
  go_enter Try.func35, Try.ntmps35
  go_wp2_with fail
  go_region_held3 (fun W => W.cell? ⟨w.heap.size, 0, none⟩ = some (.string a.fo) ∧ W.cell? ⟨w.heap.size, 1, none⟩ = some (.string a.wh) ∧ W.cell? ⟨w.heap.size + 1, 0, none⟩ = some (.string b.fo) ∧ W.cell? ⟨w.heap.size + 1, 1, none⟩ = some (.string b.wh)) (go_keep) (first
    | (go_at_call 44; refine (cmpS_any _ _ _).mono ?_; rintro e wa ⟨rfl, rfl⟩)
    | (go_at_call 43; refine (or2_same (Pp.cS a.fo b.fo) (Pp.cS a.wh b.wh) _ _ (by simp [go_sem]) (by simp [go_sem])).mono ?_; rintro e wb ⟨rfl, rfl⟩; rw [HE.out]))
  all_goals
    go_wp2
    go_ret
    exact ⟨rfl, 1, _, by rw [Sort.alloc_eq_grow, Sort.alloc_eq_grow, Sort.alloc_eq_grow, Sort.grow_grow, Sort.grow_grow]; rfl⟩

set_option maxHeartbeats 1000000 in
theorem sortG_any (G : List Gr) (base g cap : Nat) (w : World) (ho : w.ownsRow base 33 3 (.slice (some ⟨g, 0, none⟩) G.length cap) G.length (Pp.flatG G)) (hn : G.length ≤ 1000000000) (hc1 : G.length ≤ cap) (hb : base ≤ g) (hg : g < w.heap.size) :
    Calls Try.prog 36 #[.slice (some ⟨g, 0, none⟩) G.length cap, .func (.func 35) #[] #[]] w fun e w' => e = .returned (.tuple #[]) ∧ ∃ M : List Gr, M.Perm G ∧ M.Pairwise (fun a b => Pp.ltG b a = false) ∧ LiesG w' (.slice (some ⟨g, 0, none⟩) G.length cap) M ∧ Below base w w' := by
  have inst : Inhabited Gr := ⟨⟨⟨#[]⟩, ⟨#[]⟩, 0⟩⟩
  have hH := Pp.holdsG_own ho rfl
  have eg : ∀ args w, (callFunc 35 args).run Try.prog w = .ok (.enter 35 args) w := enters_of Try.func35 (by kernel_rfl) rfl
  have hcon := AnyQ.slices_SortFunc Try.sortG 3 Try.isAgg33 Try.sizeOf33 Pp.cellsG (fun _ => rfl) (fun x => Pp.cellsG_one x) Pp.cG Pp.swoG 35 #[] g 0 cap G.toArray w eg (fun _ _ _ _ x y => compare_grow x y _) hH hg (by simp; omega)
  change Calls Try.prog 36 _ _ _ at hcon
  rw [List.size_toArray] at hcon
  refine hcon.mono ?_
  rintro e w' ⟨rfl, d', n, os, hp, hsrt, rfl⟩
  have hsz : d'.size = G.length := by have := hp.1; simpa using this
  refine ⟨rfl, d'.toList, ?_, ?_, ?_, ?_⟩
  · have := hp.2.2
    rw [← hsz] at this
    simp only [Array.extract_size] at this
    rw [hsz, ← List.size_toArray, Array.extract_size] at this
    exact this
  · rw [List.pairwise_iff_getElem]
    intro i j hi hj hij
    have hj' : j < d'.size := by simpa using hj
    have hi' : i < d'.size := by simpa using hi
    have := hsrt i j (Nat.zero_le _) hij (by omega)
    rw [Pp.ltOfG, getElem!_pos d' i hi', getElem!_pos d' j hj'] at this
    simpa using this
  · rw [← hsz]
    exact Pp.liesG_holds (by rw [sortWorldK]; simp [Sort.grow, Sort.size_putRowK, Sort.ahead]; omega) (holdsK_sortWorldK_c Pp.cellsG 3 w g 0 G.toArray d' n os hH hg (by rw [hsz]; simp)) (by omega) (by omega)
  · exact below_growG (Lib.below_putRow (Below.refl base w) hb) (by simp [Sort.putRow, Sort.mapBlock, Sort.ahead]; omega) os
end Go.Proofs.Ytgjiicnhedekjaa
