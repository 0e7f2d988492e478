/- What merge.settled answers. Maps of spots and the lists that they read as: laying one more spot, and laying all spots of another map. Plain mathematics. -/
import Derived.Test.YtlllcifehellpaaGreatDoorPG
import Derived.Test.YtlllcifehellpaaGreatDoorPI
import Derived.Test.YtlllcifehellpaaGreatDoorPH
import Derived.Lib.SlMapMerge
set_option linter.unusedSimpArgs false
set_option linter.unusedVariables false
namespace Go.Proofs.YtlllcifehellpaaGreatDoor
open Go.RowKit

/-- What is at a path. -/
structure Spo where
  w : Int
  t : ByteArray
  v : Int
def Spo.val (s : Spo) : Value := .agg #[.int .i64 s.w, .string s.t, .int .i64 s.v]
namespace Mg
def zero : Spo := ⟨0, ⟨#[]⟩, 0⟩
def lk (a b : Spo) : Bool := (a.w == b.w) && (a.t.toList == b.t.toList)
def stays (b m t : Spo) : Spo := if lk m t = true ∨ lk m b = true then t else if lk t b = true then m else if m.w = 1 ∨ t.w = 0 then m else t
def goes (b m t : Spo) : Spo := if lk m t = true ∨ lk m b = true then zero else if lk t b = true then zero else if m.w = 1 ∨ t.w = 0 then t else m
end Mg

set_option maxRecDepth 100000 in
set_option maxHeartbeats 4000000 in
theorem settled_any (b m t : Spo) (w : World) :
    Calls Tryz.prog 95 #[b.val, m.val, t.val] w fun e w' => e = .returned (.tuple #[(Mg.stays b m t).val, (Mg.goes b m t).val]) ∧ Below w.heap.size w w' := by
  obtain ⟨bw, bt, bv⟩ := b
  obtain ⟨mw, mt, mv⟩ := m
  obtain ⟨tw, tt, tv⟩ := t
  simp only [Spo.val]
  obtain ⟨wz, hwz⟩ : ∃ wz, wz = (((((w.alloc (.cells #[.int .i64 bw, .string bt, .int .i64 bv] 114)).alloc (.cells #[.int .i64 mw, .string mt, .int .i64 mv] 114)).alloc (.cells #[.int .i64 tw, .string tt, .int .i64 tv] 114)).alloc (.cells #[.int .i64 0, .string ⟨#[]⟩, .int .i64 0] 114)).alloc (.cells #[.int .i64 0, .string ⟨#[]⟩, .int .i64 0] 114)) := ⟨_, rfl⟩
  have hbz : Below w.heap.size w wz := by rw [hwz]; exact (((((Below.refl _ _).alloc (Nat.le_refl _) _).alloc (by simp) _).alloc (by simp; omega) _).alloc (by simp; omega) _).alloc (by simp; omega) _
  have HX0 : Hid (Cs wz (w.heap.size) [.int .i64 bw, .string bt, .int .i64 bv]) := (by
    have := Cs.new w [.int .i64 bw, .string bt, .int .i64 bv] 114
    have e : w.heap.size = w.heap.size := by simp
    rw [e] at this
    rw [hwz]; exact ((((this.below ((Below.refl _ _).alloc (Nat.le_refl _) _)).below ((Below.refl _ _).alloc (Nat.le_refl _) _)).below ((Below.refl _ _).alloc (Nat.le_refl _) _)).below ((Below.refl _ _).alloc (Nat.le_refl _) _)) : Cs wz (w.heap.size) [.int .i64 bw, .string bt, .int .i64 bv])
  have HX1 : Hid (Cs wz (w.heap.size + 1) [.int .i64 mw, .string mt, .int .i64 mv]) := (by
    have := Cs.new (w.alloc (.cells #[.int .i64 bw, .string bt, .int .i64 bv] 114)) [.int .i64 mw, .string mt, .int .i64 mv] 114
    have e : (w.alloc (.cells #[.int .i64 bw, .string bt, .int .i64 bv] 114)).heap.size = w.heap.size + 1 := by simp
    rw [e] at this
    rw [hwz]; exact (((this.below ((Below.refl _ _).alloc (Nat.le_refl _) _)).below ((Below.refl _ _).alloc (Nat.le_refl _) _)).below ((Below.refl _ _).alloc (Nat.le_refl _) _)) : Cs wz (w.heap.size + 1) [.int .i64 mw, .string mt, .int .i64 mv])
  have HX2 : Hid (Cs wz (w.heap.size + 1 + 1) [.int .i64 tw, .string tt, .int .i64 tv]) := (by
    have := Cs.new ((w.alloc (.cells #[.int .i64 bw, .string bt, .int .i64 bv] 114)).alloc (.cells #[.int .i64 mw, .string mt, .int .i64 mv] 114)) [.int .i64 tw, .string tt, .int .i64 tv] 114
    have e : ((w.alloc (.cells #[.int .i64 bw, .string bt, .int .i64 bv] 114)).alloc (.cells #[.int .i64 mw, .string mt, .int .i64 mv] 114)).heap.size = w.heap.size + 1 + 1 := by simp
    rw [e] at this
    rw [hwz]; exact ((this.below ((Below.refl _ _).alloc (Nat.le_refl _) _)).below ((Below.refl _ _).alloc (Nat.le_refl _) _)) : Cs wz (w.heap.size + 1 + 1) [.int .i64 tw, .string tt, .int .i64 tv])
  have HX3 : Hid (Cs wz (w.heap.size + 1 + 1 + 1) [.int .i64 0, .string ⟨#[]⟩, .int .i64 0]) := (by
    have := Cs.new (((w.alloc (.cells #[.int .i64 bw, .string bt, .int .i64 bv] 114)).alloc (.cells #[.int .i64 mw, .string mt, .int .i64 mv] 114)).alloc (.cells #[.int .i64 tw, .string tt, .int .i64 tv] 114)) [.int .i64 0, .string ⟨#[]⟩, .int .i64 0] 114
    have e : (((w.alloc (.cells #[.int .i64 bw, .string bt, .int .i64 bv] 114)).alloc (.cells #[.int .i64 mw, .string mt, .int .i64 mv] 114)).alloc (.cells #[.int .i64 tw, .string tt, .int .i64 tv] 114)).heap.size = w.heap.size + 1 + 1 + 1 := by simp
    rw [e] at this
    rw [hwz]; exact (this.below ((Below.refl _ _).alloc (Nat.le_refl _) _)) : Cs wz (w.heap.size + 1 + 1 + 1) [.int .i64 0, .string ⟨#[]⟩, .int .i64 0])
  have HX4 : Hid (Cs wz (w.heap.size + 1 + 1 + 1 + 1) [.int .i64 0, .string ⟨#[]⟩, .int .i64 0]) := (by
    have := Cs.new ((((w.alloc (.cells #[.int .i64 bw, .string bt, .int .i64 bv] 114)).alloc (.cells #[.int .i64 mw, .string mt, .int .i64 mv] 114)).alloc (.cells #[.int .i64 tw, .string tt, .int .i64 tv] 114)).alloc (.cells #[.int .i64 0, .string ⟨#[]⟩, .int .i64 0] 114)) [.int .i64 0, .string ⟨#[]⟩, .int .i64 0] 114
    have e : ((((w.alloc (.cells #[.int .i64 bw, .string bt, .int .i64 bv] 114)).alloc (.cells #[.int .i64 mw, .string mt, .int .i64 mv] 114)).alloc (.cells #[.int .i64 tw, .string tt, .int .i64 tv] 114)).alloc (.cells #[.int .i64 0, .string ⟨#[]⟩, .int .i64 0] 114)).heap.size = w.heap.size + 1 + 1 + 1 + 1 := by simp
    rw [e] at this
    rw [hwz]; exact this : Cs wz (w.heap.size + 1 + 1 + 1 + 1) [.int .i64 0, .string ⟨#[]⟩, .int .i64 0])
  cases hmt : Mg.lk ⟨mw, mt, mv⟩ ⟨tw, tt, tv⟩ with
  | true =>
    have HS : Hid (Mg.stays ⟨bw, bt, bv⟩ ⟨mw, mt, mv⟩ ⟨tw, tt, tv⟩ = ⟨tw, tt, tv⟩) := (by rw [Mg.stays, if_pos (Or.inl hmt)] : Mg.stays ⟨bw, bt, bv⟩ ⟨mw, mt, mv⟩ ⟨tw, tt, tv⟩ = ⟨tw, tt, tv⟩)
    have HGO : Hid (Mg.goes ⟨bw, bt, bv⟩ ⟨mw, mt, mv⟩ ⟨tw, tt, tv⟩ = Mg.zero) := (by rw [Mg.goes, if_pos (Or.inl hmt)] : Mg.goes ⟨bw, bt, bv⟩ ⟨mw, mt, mv⟩ ⟨tw, tt, tv⟩ = Mg.zero)
    have Hmt : Hid (((mw == tw) && (mt.toList == tt.toList)) = true) := hmt
    clear hmt
    go_enter Tryz.func95, Tryz.ntmps95
    go_wp2_with fail
    rw [← hwz]
    clear hwz
    refine (like_any mw tw mt tt mv tv _).mono ?_
    rintro e w1 ⟨rfl, hb1⟩
    rw [Hmt.out]
    have hb01 := below_tr hbz hb1
    replace HX0 := hid (HX0.out.below hb1)
    replace HX1 := hid (HX1.out.below hb1)
    replace HX2 := hid (HX2.out.below hb1)
    replace HX3 := hid (HX3.out.below hb1)
    replace HX4 := hid (HX4.out.below hb1)
    try clear x00
    try clear x01
    try clear x02
    try clear x10
    try clear x11
    try clear x12
    try clear x20
    try clear x21
    try clear x22
    have x00 := HX0.out.cell 0 rfl
    have x01 := HX0.out.cell 1 rfl
    have x02 := HX0.out.cell 2 rfl
    have x10 := HX1.out.cell 0 rfl
    have x11 := HX1.out.cell 1 rfl
    have x12 := HX1.out.cell 2 rfl
    have x20 := HX2.out.cell 0 rfl
    have x21 := HX2.out.cell 1 rfl
    have x22 := HX2.out.cell 2 rfl
    have y30 := HX3.out.cell 0 rfl
    have g30 := HX3.out.fr 0
    have y31 := HX3.out.cell 1 rfl
    have g31 := HX3.out.fr 1
    have y32 := HX3.out.cell 2 rfl
    have g32 := HX3.out.fr 2
    have y40 := HX4.out.cell 0 rfl
    have g40 := HX4.out.fr 0
    have y41 := HX4.out.cell 1 rfl
    have g41 := HX4.out.fr 1
    have y42 := HX4.out.cell 2 rfl
    have g42 := HX4.out.fr 2
    go_wp2_with fail
    refine bodyPost_ret (v := .tuple #[.agg #[.int .i64 tw, .string tt, .int .i64 tv], .agg #[.int .i64 0, .string ⟨#[]⟩, .int .i64 0]]) (by simp [results, Tryz.results95, go_sem, y30, y31, y32, y40, y41, y42]) rfl ⟨by rw [HS.out, HGO.out] <;> rfl, ?_⟩
    exact ((((((hb01.setCell (p := ⟨w.heap.size + 1 + 1 + 1, 0, none⟩) (by show w.heap.size ≤ w.heap.size + 1 + 1 + 1; omega) _).setCell (p := ⟨w.heap.size + 1 + 1 + 1, 1, none⟩) (by show w.heap.size ≤ w.heap.size + 1 + 1 + 1; omega) _).setCell (p := ⟨w.heap.size + 1 + 1 + 1, 2, none⟩) (by show w.heap.size ≤ w.heap.size + 1 + 1 + 1; omega) _).setCell (p := ⟨w.heap.size + 1 + 1 + 1 + 1, 0, none⟩) (by show w.heap.size ≤ w.heap.size + 1 + 1 + 1 + 1; omega) _).setCell (p := ⟨w.heap.size + 1 + 1 + 1 + 1, 1, none⟩) (by show w.heap.size ≤ w.heap.size + 1 + 1 + 1 + 1; omega) _).setCell (p := ⟨w.heap.size + 1 + 1 + 1 + 1, 2, none⟩) (by show w.heap.size ≤ w.heap.size + 1 + 1 + 1 + 1; omega) _)
  | false =>
    cases hmb : Mg.lk ⟨mw, mt, mv⟩ ⟨bw, bt, bv⟩ with
    | true =>
      have HS : Hid (Mg.stays ⟨bw, bt, bv⟩ ⟨mw, mt, mv⟩ ⟨tw, tt, tv⟩ = ⟨tw, tt, tv⟩) := (by rw [Mg.stays, if_pos (Or.inr hmb)] : Mg.stays ⟨bw, bt, bv⟩ ⟨mw, mt, mv⟩ ⟨tw, tt, tv⟩ = ⟨tw, tt, tv⟩)
      have HGO : Hid (Mg.goes ⟨bw, bt, bv⟩ ⟨mw, mt, mv⟩ ⟨tw, tt, tv⟩ = Mg.zero) := (by rw [Mg.goes, if_pos (Or.inr hmb)] : Mg.goes ⟨bw, bt, bv⟩ ⟨mw, mt, mv⟩ ⟨tw, tt, tv⟩ = Mg.zero)
      have Hmt : Hid (((mw == tw) && (mt.toList == tt.toList)) = false) := hmt
      have Hmb : Hid (((mw == bw) && (mt.toList == bt.toList)) = true) := hmb
      clear hmt hmb
      go_enter Tryz.func95, Tryz.ntmps95
      go_wp2_with fail
      rw [← hwz]
      clear hwz
      refine (like_any mw tw mt tt mv tv _).mono ?_
      rintro e w1 ⟨rfl, hb1⟩
      rw [Hmt.out]
      have hb01 := below_tr hbz hb1
      replace HX0 := hid (HX0.out.below hb1)
      replace HX1 := hid (HX1.out.below hb1)
      replace HX2 := hid (HX2.out.below hb1)
      replace HX3 := hid (HX3.out.below hb1)
      replace HX4 := hid (HX4.out.below hb1)
      try clear x00
      try clear x01
      try clear x02
      try clear x10
      try clear x11
      try clear x12
      try clear x20
      try clear x21
      try clear x22
      have x00 := HX0.out.cell 0 rfl
      have x01 := HX0.out.cell 1 rfl
      have x02 := HX0.out.cell 2 rfl
      have x10 := HX1.out.cell 0 rfl
      have x11 := HX1.out.cell 1 rfl
      have x12 := HX1.out.cell 2 rfl
      have x20 := HX2.out.cell 0 rfl
      have x21 := HX2.out.cell 1 rfl
      have x22 := HX2.out.cell 2 rfl
      go_wp2_with fail
      refine (like_any mw bw mt bt mv bv _).mono ?_
      rintro e w2 ⟨rfl, hb2⟩
      rw [Hmb.out]
      have hb02 := below_tr hb01 hb2
      replace HX0 := hid (HX0.out.below hb2)
      replace HX1 := hid (HX1.out.below hb2)
      replace HX2 := hid (HX2.out.below hb2)
      replace HX3 := hid (HX3.out.below hb2)
      replace HX4 := hid (HX4.out.below hb2)
      try clear x00
      try clear x01
      try clear x02
      try clear x10
      try clear x11
      try clear x12
      try clear x20
      try clear x21
      try clear x22
      have x00 := HX0.out.cell 0 rfl
      have x01 := HX0.out.cell 1 rfl
      have x02 := HX0.out.cell 2 rfl
      have x10 := HX1.out.cell 0 rfl
      have x11 := HX1.out.cell 1 rfl
      have x12 := HX1.out.cell 2 rfl
      have x20 := HX2.out.cell 0 rfl
      have x21 := HX2.out.cell 1 rfl
      have x22 := HX2.out.cell 2 rfl
      have y30 := HX3.out.cell 0 rfl
      have g30 := HX3.out.fr 0
      have y31 := HX3.out.cell 1 rfl
      have g31 := HX3.out.fr 1
      have y32 := HX3.out.cell 2 rfl
      have g32 := HX3.out.fr 2
      have y40 := HX4.out.cell 0 rfl
      have g40 := HX4.out.fr 0
      have y41 := HX4.out.cell 1 rfl
      have g41 := HX4.out.fr 1
      have y42 := HX4.out.cell 2 rfl
      have g42 := HX4.out.fr 2
      go_wp2_with fail
      refine bodyPost_ret (v := .tuple #[.agg #[.int .i64 tw, .string tt, .int .i64 tv], .agg #[.int .i64 0, .string ⟨#[]⟩, .int .i64 0]]) (by simp [results, Tryz.results95, go_sem, y30, y31, y32, y40, y41, y42]) rfl ⟨by rw [HS.out, HGO.out] <;> rfl, ?_⟩
      exact ((((((hb02.setCell (p := ⟨w.heap.size + 1 + 1 + 1, 0, none⟩) (by show w.heap.size ≤ w.heap.size + 1 + 1 + 1; omega) _).setCell (p := ⟨w.heap.size + 1 + 1 + 1, 1, none⟩) (by show w.heap.size ≤ w.heap.size + 1 + 1 + 1; omega) _).setCell (p := ⟨w.heap.size + 1 + 1 + 1, 2, none⟩) (by show w.heap.size ≤ w.heap.size + 1 + 1 + 1; omega) _).setCell (p := ⟨w.heap.size + 1 + 1 + 1 + 1, 0, none⟩) (by show w.heap.size ≤ w.heap.size + 1 + 1 + 1 + 1; omega) _).setCell (p := ⟨w.heap.size + 1 + 1 + 1 + 1, 1, none⟩) (by show w.heap.size ≤ w.heap.size + 1 + 1 + 1 + 1; omega) _).setCell (p := ⟨w.heap.size + 1 + 1 + 1 + 1, 2, none⟩) (by show w.heap.size ≤ w.heap.size + 1 + 1 + 1 + 1; omega) _)
    | false =>
      have hno : ¬ (Mg.lk ⟨mw, mt, mv⟩ ⟨tw, tt, tv⟩ = true ∨ Mg.lk ⟨mw, mt, mv⟩ ⟨bw, bt, bv⟩ = true) := by simp [hmt, hmb]
      cases htb : Mg.lk ⟨tw, tt, tv⟩ ⟨bw, bt, bv⟩ with
      | true =>
        have HS : Hid (Mg.stays ⟨bw, bt, bv⟩ ⟨mw, mt, mv⟩ ⟨tw, tt, tv⟩ = ⟨mw, mt, mv⟩) := (by rw [Mg.stays, if_neg hno, if_pos htb] : Mg.stays ⟨bw, bt, bv⟩ ⟨mw, mt, mv⟩ ⟨tw, tt, tv⟩ = ⟨mw, mt, mv⟩)
        have HGO : Hid (Mg.goes ⟨bw, bt, bv⟩ ⟨mw, mt, mv⟩ ⟨tw, tt, tv⟩ = Mg.zero) := (by rw [Mg.goes, if_neg hno, if_pos htb] : Mg.goes ⟨bw, bt, bv⟩ ⟨mw, mt, mv⟩ ⟨tw, tt, tv⟩ = Mg.zero)
        have Hmt : Hid (((mw == tw) && (mt.toList == tt.toList)) = false) := hmt
        have Hmb : Hid (((mw == bw) && (mt.toList == bt.toList)) = false) := hmb
        have Htb : Hid (((tw == bw) && (tt.toList == bt.toList)) = true) := htb
        clear hmt hmb htb hno
        go_enter Tryz.func95, Tryz.ntmps95
        go_wp2_with fail
        rw [← hwz]
        clear hwz
        refine (like_any mw tw mt tt mv tv _).mono ?_
        rintro e w1 ⟨rfl, hb1⟩
        rw [Hmt.out]
        have hb01 := below_tr hbz hb1
        replace HX0 := hid (HX0.out.below hb1)
        replace HX1 := hid (HX1.out.below hb1)
        replace HX2 := hid (HX2.out.below hb1)
        replace HX3 := hid (HX3.out.below hb1)
        replace HX4 := hid (HX4.out.below hb1)
        try clear x00
        try clear x01
        try clear x02
        try clear x10
        try clear x11
        try clear x12
        try clear x20
        try clear x21
        try clear x22
        have x00 := HX0.out.cell 0 rfl
        have x01 := HX0.out.cell 1 rfl
        have x02 := HX0.out.cell 2 rfl
        have x10 := HX1.out.cell 0 rfl
        have x11 := HX1.out.cell 1 rfl
        have x12 := HX1.out.cell 2 rfl
        have x20 := HX2.out.cell 0 rfl
        have x21 := HX2.out.cell 1 rfl
        have x22 := HX2.out.cell 2 rfl
        go_wp2_with fail
        refine (like_any mw bw mt bt mv bv _).mono ?_
        rintro e w2 ⟨rfl, hb2⟩
        rw [Hmb.out]
        have hb02 := below_tr hb01 hb2
        replace HX0 := hid (HX0.out.below hb2)
        replace HX1 := hid (HX1.out.below hb2)
        replace HX2 := hid (HX2.out.below hb2)
        replace HX3 := hid (HX3.out.below hb2)
        replace HX4 := hid (HX4.out.below hb2)
        try clear x00
        try clear x01
        try clear x02
        try clear x10
        try clear x11
        try clear x12
        try clear x20
        try clear x21
        try clear x22
        have x00 := HX0.out.cell 0 rfl
        have x01 := HX0.out.cell 1 rfl
        have x02 := HX0.out.cell 2 rfl
        have x10 := HX1.out.cell 0 rfl
        have x11 := HX1.out.cell 1 rfl
        have x12 := HX1.out.cell 2 rfl
        have x20 := HX2.out.cell 0 rfl
        have x21 := HX2.out.cell 1 rfl
        have x22 := HX2.out.cell 2 rfl
        go_wp2_with fail
        refine (like_any tw bw tt bt tv bv _).mono ?_
        rintro e w3 ⟨rfl, hb3⟩
        rw [Htb.out]
        have hb03 := below_tr hb02 hb3
        replace HX0 := hid (HX0.out.below hb3)
        replace HX1 := hid (HX1.out.below hb3)
        replace HX2 := hid (HX2.out.below hb3)
        replace HX3 := hid (HX3.out.below hb3)
        replace HX4 := hid (HX4.out.below hb3)
        try clear x00
        try clear x01
        try clear x02
        try clear x10
        try clear x11
        try clear x12
        try clear x20
        try clear x21
        try clear x22
        have x00 := HX0.out.cell 0 rfl
        have x01 := HX0.out.cell 1 rfl
        have x02 := HX0.out.cell 2 rfl
        have x10 := HX1.out.cell 0 rfl
        have x11 := HX1.out.cell 1 rfl
        have x12 := HX1.out.cell 2 rfl
        have x20 := HX2.out.cell 0 rfl
        have x21 := HX2.out.cell 1 rfl
        have x22 := HX2.out.cell 2 rfl
        have y30 := HX3.out.cell 0 rfl
        have g30 := HX3.out.fr 0
        have y31 := HX3.out.cell 1 rfl
        have g31 := HX3.out.fr 1
        have y32 := HX3.out.cell 2 rfl
        have g32 := HX3.out.fr 2
        have y40 := HX4.out.cell 0 rfl
        have g40 := HX4.out.fr 0
        have y41 := HX4.out.cell 1 rfl
        have g41 := HX4.out.fr 1
        have y42 := HX4.out.cell 2 rfl
        have g42 := HX4.out.fr 2
        go_wp2_with fail
        refine bodyPost_ret (v := .tuple #[.agg #[.int .i64 mw, .string mt, .int .i64 mv], .agg #[.int .i64 0, .string ⟨#[]⟩, .int .i64 0]]) (by simp [results, Tryz.results95, go_sem, y30, y31, y32, y40, y41, y42]) rfl ⟨by rw [HS.out, HGO.out] <;> rfl, ?_⟩
        exact ((((((hb03.setCell (p := ⟨w.heap.size + 1 + 1 + 1, 0, none⟩) (by show w.heap.size ≤ w.heap.size + 1 + 1 + 1; omega) _).setCell (p := ⟨w.heap.size + 1 + 1 + 1, 1, none⟩) (by show w.heap.size ≤ w.heap.size + 1 + 1 + 1; omega) _).setCell (p := ⟨w.heap.size + 1 + 1 + 1, 2, none⟩) (by show w.heap.size ≤ w.heap.size + 1 + 1 + 1; omega) _).setCell (p := ⟨w.heap.size + 1 + 1 + 1 + 1, 0, none⟩) (by show w.heap.size ≤ w.heap.size + 1 + 1 + 1 + 1; omega) _).setCell (p := ⟨w.heap.size + 1 + 1 + 1 + 1, 1, none⟩) (by show w.heap.size ≤ w.heap.size + 1 + 1 + 1 + 1; omega) _).setCell (p := ⟨w.heap.size + 1 + 1 + 1 + 1, 2, none⟩) (by show w.heap.size ≤ w.heap.size + 1 + 1 + 1 + 1; omega) _)
      | false =>
        have hnt : ¬ Mg.lk ⟨tw, tt, tv⟩ ⟨bw, bt, bv⟩ = true := by simp [htb]
        by_cases hm1 : mw = 1
        · have HS : Hid (Mg.stays ⟨bw, bt, bv⟩ ⟨mw, mt, mv⟩ ⟨tw, tt, tv⟩ = ⟨mw, mt, mv⟩) := (by rw [Mg.stays, if_neg hno, if_neg hnt, if_pos (Or.inl hm1)] : Mg.stays ⟨bw, bt, bv⟩ ⟨mw, mt, mv⟩ ⟨tw, tt, tv⟩ = ⟨mw, mt, mv⟩)
          have HGO : Hid (Mg.goes ⟨bw, bt, bv⟩ ⟨mw, mt, mv⟩ ⟨tw, tt, tv⟩ = ⟨tw, tt, tv⟩) := (by rw [Mg.goes, if_neg hno, if_neg hnt, if_pos (Or.inl hm1)] : Mg.goes ⟨bw, bt, bv⟩ ⟨mw, mt, mv⟩ ⟨tw, tt, tv⟩ = ⟨tw, tt, tv⟩)
          have Hmt : Hid (((mw == tw) && (mt.toList == tt.toList)) = false) := hmt
          have Hmb : Hid (((mw == bw) && (mt.toList == bt.toList)) = false) := hmb
          have Htb : Hid (((tw == bw) && (tt.toList == bt.toList)) = false) := htb
          clear hmt hmb htb hno
          have hm1' : (mw == 1) = true := by simpa using hm1
          clear hm1 hnt
          go_enter Tryz.func95, Tryz.ntmps95
          go_wp2_with fail
          rw [← hwz]
          clear hwz
          refine (like_any mw tw mt tt mv tv _).mono ?_
          rintro e w1 ⟨rfl, hb1⟩
          rw [Hmt.out]
          have hb01 := below_tr hbz hb1
          replace HX0 := hid (HX0.out.below hb1)
          replace HX1 := hid (HX1.out.below hb1)
          replace HX2 := hid (HX2.out.below hb1)
          replace HX3 := hid (HX3.out.below hb1)
          replace HX4 := hid (HX4.out.below hb1)
          try clear x00
          try clear x01
          try clear x02
          try clear x10
          try clear x11
          try clear x12
          try clear x20
          try clear x21
          try clear x22
          have x00 := HX0.out.cell 0 rfl
          have x01 := HX0.out.cell 1 rfl
          have x02 := HX0.out.cell 2 rfl
          have x10 := HX1.out.cell 0 rfl
          have x11 := HX1.out.cell 1 rfl
          have x12 := HX1.out.cell 2 rfl
          have x20 := HX2.out.cell 0 rfl
          have x21 := HX2.out.cell 1 rfl
          have x22 := HX2.out.cell 2 rfl
          go_wp2_with fail
          refine (like_any mw bw mt bt mv bv _).mono ?_
          rintro e w2 ⟨rfl, hb2⟩
          rw [Hmb.out]
          have hb02 := below_tr hb01 hb2
          replace HX0 := hid (HX0.out.below hb2)
          replace HX1 := hid (HX1.out.below hb2)
          replace HX2 := hid (HX2.out.below hb2)
          replace HX3 := hid (HX3.out.below hb2)
          replace HX4 := hid (HX4.out.below hb2)
          try clear x00
          try clear x01
          try clear x02
          try clear x10
          try clear x11
          try clear x12
          try clear x20
          try clear x21
          try clear x22
          have x00 := HX0.out.cell 0 rfl
          have x01 := HX0.out.cell 1 rfl
          have x02 := HX0.out.cell 2 rfl
          have x10 := HX1.out.cell 0 rfl
          have x11 := HX1.out.cell 1 rfl
          have x12 := HX1.out.cell 2 rfl
          have x20 := HX2.out.cell 0 rfl
          have x21 := HX2.out.cell 1 rfl
          have x22 := HX2.out.cell 2 rfl
          go_wp2_with fail
          refine (like_any tw bw tt bt tv bv _).mono ?_
          rintro e w3 ⟨rfl, hb3⟩
          rw [Htb.out]
          have hb03 := below_tr hb02 hb3
          replace HX0 := hid (HX0.out.below hb3)
          replace HX1 := hid (HX1.out.below hb3)
          replace HX2 := hid (HX2.out.below hb3)
          replace HX3 := hid (HX3.out.below hb3)
          replace HX4 := hid (HX4.out.below hb3)
          try clear x00
          try clear x01
          try clear x02
          try clear x10
          try clear x11
          try clear x12
          try clear x20
          try clear x21
          try clear x22
          have x00 := HX0.out.cell 0 rfl
          have x01 := HX0.out.cell 1 rfl
          have x02 := HX0.out.cell 2 rfl
          have x10 := HX1.out.cell 0 rfl
          have x11 := HX1.out.cell 1 rfl
          have x12 := HX1.out.cell 2 rfl
          have x20 := HX2.out.cell 0 rfl
          have x21 := HX2.out.cell 1 rfl
          have x22 := HX2.out.cell 2 rfl
          have y30 := HX3.out.cell 0 rfl
          have g30 := HX3.out.fr 0
          have y31 := HX3.out.cell 1 rfl
          have g31 := HX3.out.fr 1
          have y32 := HX3.out.cell 2 rfl
          have g32 := HX3.out.fr 2
          have y40 := HX4.out.cell 0 rfl
          have g40 := HX4.out.fr 0
          have y41 := HX4.out.cell 1 rfl
          have g41 := HX4.out.fr 1
          have y42 := HX4.out.cell 2 rfl
          have g42 := HX4.out.fr 2
          go_wp2_with fail
          go_region
          go_wp2_with fail
          refine bodyPost_ret (v := .tuple #[.agg #[.int .i64 mw, .string mt, .int .i64 mv], .agg #[.int .i64 tw, .string tt, .int .i64 tv]]) (by simp [results, Tryz.results95, go_sem, y30, y31, y32, y40, y41, y42]) rfl ⟨by rw [HS.out, HGO.out] <;> rfl, ?_⟩
          exact ((((((hb03.setCell (p := ⟨w.heap.size + 1 + 1 + 1, 0, none⟩) (by show w.heap.size ≤ w.heap.size + 1 + 1 + 1; omega) _).setCell (p := ⟨w.heap.size + 1 + 1 + 1, 1, none⟩) (by show w.heap.size ≤ w.heap.size + 1 + 1 + 1; omega) _).setCell (p := ⟨w.heap.size + 1 + 1 + 1, 2, none⟩) (by show w.heap.size ≤ w.heap.size + 1 + 1 + 1; omega) _).setCell (p := ⟨w.heap.size + 1 + 1 + 1 + 1, 0, none⟩) (by show w.heap.size ≤ w.heap.size + 1 + 1 + 1 + 1; omega) _).setCell (p := ⟨w.heap.size + 1 + 1 + 1 + 1, 1, none⟩) (by show w.heap.size ≤ w.heap.size + 1 + 1 + 1 + 1; omega) _).setCell (p := ⟨w.heap.size + 1 + 1 + 1 + 1, 2, none⟩) (by show w.heap.size ≤ w.heap.size + 1 + 1 + 1 + 1; omega) _).drew
        · have hm1' : (mw == 1) = false := by simpa using hm1
          by_cases ht0 : tw = 0
          · have HS : Hid (Mg.stays ⟨bw, bt, bv⟩ ⟨mw, mt, mv⟩ ⟨tw, tt, tv⟩ = ⟨mw, mt, mv⟩) := (by rw [Mg.stays, if_neg hno, if_neg hnt, if_pos (Or.inr ht0)] : Mg.stays ⟨bw, bt, bv⟩ ⟨mw, mt, mv⟩ ⟨tw, tt, tv⟩ = ⟨mw, mt, mv⟩)
            have HGO : Hid (Mg.goes ⟨bw, bt, bv⟩ ⟨mw, mt, mv⟩ ⟨tw, tt, tv⟩ = ⟨tw, tt, tv⟩) := (by rw [Mg.goes, if_neg hno, if_neg hnt, if_pos (Or.inr ht0)] : Mg.goes ⟨bw, bt, bv⟩ ⟨mw, mt, mv⟩ ⟨tw, tt, tv⟩ = ⟨tw, tt, tv⟩)
            have Hmt : Hid (((mw == tw) && (mt.toList == tt.toList)) = false) := hmt
            have Hmb : Hid (((mw == bw) && (mt.toList == bt.toList)) = false) := hmb
            have Htb : Hid (((tw == bw) && (tt.toList == bt.toList)) = false) := htb
            clear hmt hmb htb hno
            have ht0' : (tw == 0) = true := by simpa using ht0
            clear hm1 hnt ht0
            go_enter Tryz.func95, Tryz.ntmps95
            go_wp2_with fail
            rw [← hwz]
            clear hwz
            refine (like_any mw tw mt tt mv tv _).mono ?_
            rintro e w1 ⟨rfl, hb1⟩
            rw [Hmt.out]
            have hb01 := below_tr hbz hb1
            replace HX0 := hid (HX0.out.below hb1)
            replace HX1 := hid (HX1.out.below hb1)
            replace HX2 := hid (HX2.out.below hb1)
            replace HX3 := hid (HX3.out.below hb1)
            replace HX4 := hid (HX4.out.below hb1)
            try clear x00
            try clear x01
            try clear x02
            try clear x10
            try clear x11
            try clear x12
            try clear x20
            try clear x21
            try clear x22
            have x00 := HX0.out.cell 0 rfl
            have x01 := HX0.out.cell 1 rfl
            have x02 := HX0.out.cell 2 rfl
            have x10 := HX1.out.cell 0 rfl
            have x11 := HX1.out.cell 1 rfl
            have x12 := HX1.out.cell 2 rfl
            have x20 := HX2.out.cell 0 rfl
            have x21 := HX2.out.cell 1 rfl
            have x22 := HX2.out.cell 2 rfl
            go_wp2_with fail
            refine (like_any mw bw mt bt mv bv _).mono ?_
            rintro e w2 ⟨rfl, hb2⟩
            rw [Hmb.out]
            have hb02 := below_tr hb01 hb2
            replace HX0 := hid (HX0.out.below hb2)
            replace HX1 := hid (HX1.out.below hb2)
            replace HX2 := hid (HX2.out.below hb2)
            replace HX3 := hid (HX3.out.below hb2)
            replace HX4 := hid (HX4.out.below hb2)
            try clear x00
            try clear x01
            try clear x02
            try clear x10
            try clear x11
            try clear x12
            try clear x20
            try clear x21
            try clear x22
            have x00 := HX0.out.cell 0 rfl
            have x01 := HX0.out.cell 1 rfl
            have x02 := HX0.out.cell 2 rfl
            have x10 := HX1.out.cell 0 rfl
            have x11 := HX1.out.cell 1 rfl
            have x12 := HX1.out.cell 2 rfl
            have x20 := HX2.out.cell 0 rfl
            have x21 := HX2.out.cell 1 rfl
            have x22 := HX2.out.cell 2 rfl
            go_wp2_with fail
            refine (like_any tw bw tt bt tv bv _).mono ?_
            rintro e w3 ⟨rfl, hb3⟩
            rw [Htb.out]
            have hb03 := below_tr hb02 hb3
            replace HX0 := hid (HX0.out.below hb3)
            replace HX1 := hid (HX1.out.below hb3)
            replace HX2 := hid (HX2.out.below hb3)
            replace HX3 := hid (HX3.out.below hb3)
            replace HX4 := hid (HX4.out.below hb3)
            try clear x00
            try clear x01
            try clear x02
            try clear x10
            try clear x11
            try clear x12
            try clear x20
            try clear x21
            try clear x22
            have x00 := HX0.out.cell 0 rfl
            have x01 := HX0.out.cell 1 rfl
            have x02 := HX0.out.cell 2 rfl
            have x10 := HX1.out.cell 0 rfl
            have x11 := HX1.out.cell 1 rfl
            have x12 := HX1.out.cell 2 rfl
            have x20 := HX2.out.cell 0 rfl
            have x21 := HX2.out.cell 1 rfl
            have x22 := HX2.out.cell 2 rfl
            have y30 := HX3.out.cell 0 rfl
            have g30 := HX3.out.fr 0
            have y31 := HX3.out.cell 1 rfl
            have g31 := HX3.out.fr 1
            have y32 := HX3.out.cell 2 rfl
            have g32 := HX3.out.fr 2
            have y40 := HX4.out.cell 0 rfl
            have g40 := HX4.out.fr 0
            have y41 := HX4.out.cell 1 rfl
            have g41 := HX4.out.fr 1
            have y42 := HX4.out.cell 2 rfl
            have g42 := HX4.out.fr 2
            go_wp2_with fail
            go_region
            go_wp2_with fail
            refine bodyPost_ret (v := .tuple #[.agg #[.int .i64 mw, .string mt, .int .i64 mv], .agg #[.int .i64 tw, .string tt, .int .i64 tv]]) (by simp [results, Tryz.results95, go_sem, y30, y31, y32, y40, y41, y42]) rfl ⟨by rw [HS.out, HGO.out] <;> rfl, ?_⟩
            exact ((((((hb03.setCell (p := ⟨w.heap.size + 1 + 1 + 1, 0, none⟩) (by show w.heap.size ≤ w.heap.size + 1 + 1 + 1; omega) _).setCell (p := ⟨w.heap.size + 1 + 1 + 1, 1, none⟩) (by show w.heap.size ≤ w.heap.size + 1 + 1 + 1; omega) _).setCell (p := ⟨w.heap.size + 1 + 1 + 1, 2, none⟩) (by show w.heap.size ≤ w.heap.size + 1 + 1 + 1; omega) _).setCell (p := ⟨w.heap.size + 1 + 1 + 1 + 1, 0, none⟩) (by show w.heap.size ≤ w.heap.size + 1 + 1 + 1 + 1; omega) _).setCell (p := ⟨w.heap.size + 1 + 1 + 1 + 1, 1, none⟩) (by show w.heap.size ≤ w.heap.size + 1 + 1 + 1 + 1; omega) _).setCell (p := ⟨w.heap.size + 1 + 1 + 1 + 1, 2, none⟩) (by show w.heap.size ≤ w.heap.size + 1 + 1 + 1 + 1; omega) _).drew
          · have hnn : ¬ (mw = 1 ∨ tw = 0) := by omega
            have HS : Hid (Mg.stays ⟨bw, bt, bv⟩ ⟨mw, mt, mv⟩ ⟨tw, tt, tv⟩ = ⟨tw, tt, tv⟩) := (by rw [Mg.stays, if_neg hno, if_neg hnt, if_neg hnn] : Mg.stays ⟨bw, bt, bv⟩ ⟨mw, mt, mv⟩ ⟨tw, tt, tv⟩ = ⟨tw, tt, tv⟩)
            have HGO : Hid (Mg.goes ⟨bw, bt, bv⟩ ⟨mw, mt, mv⟩ ⟨tw, tt, tv⟩ = ⟨mw, mt, mv⟩) := (by rw [Mg.goes, if_neg hno, if_neg hnt, if_neg hnn] : Mg.goes ⟨bw, bt, bv⟩ ⟨mw, mt, mv⟩ ⟨tw, tt, tv⟩ = ⟨mw, mt, mv⟩)
            have Hmt : Hid (((mw == tw) && (mt.toList == tt.toList)) = false) := hmt
            have Hmb : Hid (((mw == bw) && (mt.toList == bt.toList)) = false) := hmb
            have Htb : Hid (((tw == bw) && (tt.toList == bt.toList)) = false) := htb
            clear hmt hmb htb hno
            have ht0' : (tw == 0) = false := by simpa using ht0
            clear hm1 hnt ht0 hnn
            go_enter Tryz.func95, Tryz.ntmps95
            go_wp2_with fail
            rw [← hwz]
            clear hwz
            refine (like_any mw tw mt tt mv tv _).mono ?_
            rintro e w1 ⟨rfl, hb1⟩
            rw [Hmt.out]
            have hb01 := below_tr hbz hb1
            replace HX0 := hid (HX0.out.below hb1)
            replace HX1 := hid (HX1.out.below hb1)
            replace HX2 := hid (HX2.out.below hb1)
            replace HX3 := hid (HX3.out.below hb1)
            replace HX4 := hid (HX4.out.below hb1)
            try clear x00
            try clear x01
            try clear x02
            try clear x10
            try clear x11
            try clear x12
            try clear x20
            try clear x21
            try clear x22
            have x00 := HX0.out.cell 0 rfl
            have x01 := HX0.out.cell 1 rfl
            have x02 := HX0.out.cell 2 rfl
            have x10 := HX1.out.cell 0 rfl
            have x11 := HX1.out.cell 1 rfl
            have x12 := HX1.out.cell 2 rfl
            have x20 := HX2.out.cell 0 rfl
            have x21 := HX2.out.cell 1 rfl
            have x22 := HX2.out.cell 2 rfl
            go_wp2_with fail
            refine (like_any mw bw mt bt mv bv _).mono ?_
            rintro e w2 ⟨rfl, hb2⟩
            rw [Hmb.out]
            have hb02 := below_tr hb01 hb2
            replace HX0 := hid (HX0.out.below hb2)
            replace HX1 := hid (HX1.out.below hb2)
            replace HX2 := hid (HX2.out.below hb2)
            replace HX3 := hid (HX3.out.below hb2)
            replace HX4 := hid (HX4.out.below hb2)
            try clear x00
            try clear x01
            try clear x02
            try clear x10
            try clear x11
            try clear x12
            try clear x20
            try clear x21
            try clear x22
            have x00 := HX0.out.cell 0 rfl
            have x01 := HX0.out.cell 1 rfl
            have x02 := HX0.out.cell 2 rfl
            have x10 := HX1.out.cell 0 rfl
            have x11 := HX1.out.cell 1 rfl
            have x12 := HX1.out.cell 2 rfl
            have x20 := HX2.out.cell 0 rfl
            have x21 := HX2.out.cell 1 rfl
            have x22 := HX2.out.cell 2 rfl
            go_wp2_with fail
            refine (like_any tw bw tt bt tv bv _).mono ?_
            rintro e w3 ⟨rfl, hb3⟩
            rw [Htb.out]
            have hb03 := below_tr hb02 hb3
            replace HX0 := hid (HX0.out.below hb3)
            replace HX1 := hid (HX1.out.below hb3)
            replace HX2 := hid (HX2.out.below hb3)
            replace HX3 := hid (HX3.out.below hb3)
            replace HX4 := hid (HX4.out.below hb3)
            try clear x00
            try clear x01
            try clear x02
            try clear x10
            try clear x11
            try clear x12
            try clear x20
            try clear x21
            try clear x22
            have x00 := HX0.out.cell 0 rfl
            have x01 := HX0.out.cell 1 rfl
            have x02 := HX0.out.cell 2 rfl
            have x10 := HX1.out.cell 0 rfl
            have x11 := HX1.out.cell 1 rfl
            have x12 := HX1.out.cell 2 rfl
            have x20 := HX2.out.cell 0 rfl
            have x21 := HX2.out.cell 1 rfl
            have x22 := HX2.out.cell 2 rfl
            have y30 := HX3.out.cell 0 rfl
            have g30 := HX3.out.fr 0
            have y31 := HX3.out.cell 1 rfl
            have g31 := HX3.out.fr 1
            have y32 := HX3.out.cell 2 rfl
            have g32 := HX3.out.fr 2
            have y40 := HX4.out.cell 0 rfl
            have g40 := HX4.out.fr 0
            have y41 := HX4.out.cell 1 rfl
            have g41 := HX4.out.fr 1
            have y42 := HX4.out.cell 2 rfl
            have g42 := HX4.out.fr 2
            go_wp2_with fail
            go_region
            go_wp2_with fail
            refine bodyPost_ret (v := .tuple #[.agg #[.int .i64 tw, .string tt, .int .i64 tv], .agg #[.int .i64 mw, .string mt, .int .i64 mv]]) (by simp [results, Tryz.results95, go_sem, y30, y31, y32, y40, y41, y42]) rfl ⟨by rw [HS.out, HGO.out] <;> rfl, ?_⟩
            exact ((((((hb03.setCell (p := ⟨w.heap.size + 1 + 1 + 1, 0, none⟩) (by show w.heap.size ≤ w.heap.size + 1 + 1 + 1; omega) _).setCell (p := ⟨w.heap.size + 1 + 1 + 1, 1, none⟩) (by show w.heap.size ≤ w.heap.size + 1 + 1 + 1; omega) _).setCell (p := ⟨w.heap.size + 1 + 1 + 1, 2, none⟩) (by show w.heap.size ≤ w.heap.size + 1 + 1 + 1; omega) _).setCell (p := ⟨w.heap.size + 1 + 1 + 1 + 1, 0, none⟩) (by show w.heap.size ≤ w.heap.size + 1 + 1 + 1 + 1; omega) _).setCell (p := ⟨w.heap.size + 1 + 1 + 1 + 1, 1, none⟩) (by show w.heap.size ≤ w.heap.size + 1 + 1 + 1 + 1; omega) _).setCell (p := ⟨w.heap.size + 1 + 1 + 1 + 1, 2, none⟩) (by show w.heap.size ≤ w.heap.size + 1 + 1 + 1 + 1; omega) _).drew
end Go.Proofs.YtlllcifehellpaaGreatDoor
set_option linter.unusedSimpArgs false
set_option linter.unusedVariables false
namespace Go.Proofs.YtlllcifehellpaaGreatDoor
open Go.RowKit Go.Maps

namespace Sp
/-- Keys that are texts. -/
def Kd (l : Lit) : Prop := ∃ b, l = .string b
theorem oneKind : OneKind Kd := ⟨fun ⟨b, h⟩ => by rw [h]; trivial, fun ha hb hne => ChangeMaps.before_total ha hb hne⟩
theorem key_kd (p : ByteArray) : Kd (key p) := ⟨_, rfl⟩
theorem canonD (L : List En) : CanonK Kd (D L) := by
  refine snoc_ind (P := fun L => CanonK Kd (D L)) ⟨[], rfl, List.Pairwise.nil, fun p hp => by cases hp⟩ ?_ L
  intro L e ih
  rw [D_snoc]
  exact canonK_put oneKind (key_kd _) _ ih
theorem D_has (L : List En) (k : Lit) : has (D L) k = true ↔ ∃ e ∈ L, key e.path = k := by
  refine snoc_ind (P := fun L => has (D L) k = true ↔ ∃ e ∈ L, key e.path = k) ⟨(fun h => by cases h), fun ⟨e, he, _⟩ => by cases he⟩ ?_ L
  intro L e ih
  rw [D_snoc, put]
  by_cases hk : key e.path = k
  · subst hk
    rw [has_put_same (D_map L) (oneKind.key (key_kd _))]
    exact ⟨fun _ => ⟨e, by simp, rfl⟩, fun _ => rfl⟩
  · rw [has_put_other (fun h => hk h.symm), ih]
    constructor
    · rintro ⟨x, hx, hxk⟩
      exact ⟨x, by simp [hx], hxk⟩
    · rintro ⟨x, hx, hxk⟩
      rcases List.mem_append.1 hx with h | h
      · exact ⟨x, h, hxk⟩
      · rw [List.mem_singleton] at h
        exact absurd (h ▸ hxk) hk
/-- Two lists with the same spots give the same map. -/
theorem D_ext {L M : List En} (hL : Apart L) (hM : Apart M) (h : ∀ p : List UInt8, at_ L p = at_ M p) : D L = D M := by
  have hh : ∀ k, has (D L) k = true ↔ has (D M) k = true := by
    have one : ∀ {L M : List En}, (∀ p : List UInt8, at_ L p = at_ M p) → ∀ k, has (D L) k = true → has (D M) k = true := by
      intro L M h k hk
      obtain ⟨e, he, hek⟩ := (D_has L k).1 hk
      have h1 : (at_ L e.path.data.toList).isSome := by
        rw [at_, List.find?_isSome]
        exact ⟨e, he, atB_iff.2 rfl⟩
      rw [h] at h1
      obtain ⟨x, hx⟩ := Option.isSome_iff_exists.1 h1
      have hp := atB_iff.1 (List.find?_some hx)
      exact (D_has M k).2 ⟨x, List.mem_of_find?_eq_some hx, by rw [← hek, key, key, hp]⟩
    exact fun k => ⟨one h k, one (fun p => (h p).symm) k⟩
  refine ext ((canonD L).canon oneKind) ((canonD M).canon oneKind) (fun k => Bool.eq_iff_iff.2 (hh k)) (fun k z hk => ?_)
  obtain ⟨e, he, hek⟩ := (D_has L k).1 hk
  rw [← hek, D_at hL, D_at hM, h]
/-- A list with a spot in its place. -/
def put1 (e : En) (L : List En) : List En := Pp.ins e (L.filter (fun x => !Pp.atB e.path.data.toList x))
abbrev Rise (L : List En) : Prop := L.Pairwise (fun x y => Pp.lt x y = true)
theorem put1_rise {e : En} {L : List En} (h : Rise L) : Rise (put1 e L) := by
  refine Pp.ins_sorted e (h.filter _) ?_
  intro y hy he
  have := (List.mem_filter.1 hy).2
  rw [Pp.atB] at this
  simp [he] at this
theorem mem_put1 {e x : En} {L : List En} : x ∈ put1 e L ↔ x = e ∨ (x ∈ L ∧ x.path.data.toList ≠ e.path.data.toList) := by
  rw [put1, (Pp.ins_perm e _).mem_iff, List.mem_cons, List.mem_filter, Bool.not_eq_true', ← Bool.not_eq_true, atB_iff]
theorem at_iff {L : List En} (h : Apart L) {p : List UInt8} {e : En} : at_ L p = some e ↔ e ∈ L ∧ e.path.data.toList = p := by
  constructor
  · intro he
    exact ⟨List.mem_of_find?_eq_some he, atB_iff.1 (List.find?_some he)⟩
  · rintro ⟨he, rfl⟩
    have h1 : (at_ L e.path.data.toList).isSome := by
      rw [at_, List.find?_isSome]
      exact ⟨e, he, atB_iff.2 rfl⟩
    obtain ⟨x, hx⟩ := Option.isSome_iff_exists.1 h1
    have hp := atB_iff.1 (List.find?_some hx)
    have hm := List.mem_of_find?_eq_some hx
    rw [hx]
    by_cases hxe : x = e
    · rw [hxe]
    · exfalso
      rcases List.mem_iff_getElem.1 hm with ⟨i, hi, rfl⟩
      rcases List.mem_iff_getElem.1 he with ⟨j, hj, rfl⟩
      have hij : i ≠ j := fun e => hxe (by subst e; rfl)
      rcases Nat.lt_or_ge i j with hlt | hge
      · exact List.pairwise_iff_getElem.1 h i j hi hj hlt hp
      · exact List.pairwise_iff_getElem.1 h j i hj hi (by omega) hp.symm
theorem at_none {L : List En} {p : List UInt8} : at_ L p = none ↔ ∀ e ∈ L, e.path.data.toList ≠ p := by
  rw [at_, List.find?_eq_none]
  exact ⟨fun h e he hp => h e he (atB_iff.2 hp), fun h e he hb => h e he (atB_iff.1 hb)⟩
theorem at_put1 {e : En} {L : List En} (h : Rise L) (p : List UInt8) : at_ (put1 e L) p = if e.path.data.toList = p then some e else at_ L p := by
  have ha := apart_rise h
  have hb := apart_rise (put1_rise (e := e) h)
  by_cases hp : e.path.data.toList = p
  · rw [if_pos hp]
    exact (at_iff hb).2 ⟨mem_put1.2 (Or.inl rfl), hp⟩
  · rw [if_neg hp]
    cases hx : at_ L p with
    | none =>
      rw [at_none] at hx ⊢
      intro x hxm
      rcases mem_put1.1 hxm with rfl | ⟨hxl, _⟩
      · exact hp
      · exact hx x hxl
    | some x =>
      obtain ⟨h1, h2⟩ := (at_iff ha).1 hx
      exact (at_iff hb).2 ⟨mem_put1.2 (Or.inr ⟨h1, fun e' => hp (by rw [← e', h2])⟩), h2⟩
theorem D_put {L : List En} (h : Rise L) (e : En) : put (D L) e = D (put1 e L) := by
  have ha := apart_rise h
  have hc : CanonK Kd (put (D L) e) := canonK_put oneKind (key_kd _) _ (canonD L)
  refine ext (hc.canon oneKind) ((canonD _).canon oneKind) (fun k => Bool.eq_iff_iff.2 ?_) (fun k z hin => ?_)
  · by_cases hk : k = key e.path
    · subst hk
      rw [put, has_put_same (D_map L) (oneKind.key (key_kd _)), D_has]
      exact ⟨fun _ => ⟨e, mem_put1.2 (Or.inl rfl), rfl⟩, fun _ => rfl⟩
    · rw [put, has_put_other hk, D_has, D_has]
      constructor
      · rintro ⟨x, hx, hxk⟩
        exact ⟨x, mem_put1.2 (Or.inr ⟨hx, fun e' => hk (by rw [← hxk, key, key, e'])⟩), hxk⟩
      · rintro ⟨x, hx, hxk⟩
        rcases mem_put1.1 hx with rfl | ⟨hxl, _⟩
        · exact absurd hxk.symm hk
        · exact ⟨x, hxl, hxk⟩
  · by_cases hk : k = key e.path
    · subst hk
      rw [put, atKey_put_same (D_map L) (oneKind.key (key_kd _)), D_at (apart_rise (put1_rise h)), at_put1 h, if_pos rfl]
    · rw [put, has_put_other hk] at hin
      obtain ⟨x, _, hxk⟩ := (D_has L k).1 hin
      subst hxk
      rw [put, atKey_put_other hk, D_at ha, D_at (apart_rise (put1_rise h)), at_put1 h, if_neg (fun e' => hk (by rw [key, key, e']))]
end Sp
end Go.Proofs.YtlllcifehellpaaGreatDoor
