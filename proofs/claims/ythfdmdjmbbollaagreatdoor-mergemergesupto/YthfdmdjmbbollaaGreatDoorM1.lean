/- What merge.settled answers. -/
import Derived.Test.YthfdmdjmbbollaaGreatDoorPG
import Derived.Test.YthfdmdjmbbollaaGreatDoorJBox
import Derived.Test.YthfdmdjmbbollaaGreatDoorMBel
set_option linter.unusedSimpArgs false
set_option linter.unusedVariables false
namespace Go.Proofs.YthfdmdjmbbollaaGreatDoor
open Go.RowKit

/-- What is at a path. -/
structure Spo where
  w : Int
  t : ByteArray
  v : Int
def Spo.val (s : Spo) : Value := .agg #[.int .i64 s.w, .string s.t, .int .i64 s.v]
namespace Mg
def zero : Spo := ⟨0, ⟨#[]⟩, 0⟩
def lk (a b : Spo) : Bool := (a.w == b.w) && (a.t.toList == b.t.toList)
def stays (b m t : Spo) : Spo := if lk m t = true ∨ lk m b = true then t else if lk t b = true then m else if m.w = 1 ∨ t.w = 0 then m else t
def goes (b m t : Spo) : Spo := if lk m t = true ∨ lk m b = true then zero else if lk t b = true then zero else if m.w = 1 ∨ t.w = 0 then t else m
end Mg

set_option maxRecDepth 100000 in
set_option maxHeartbeats 4000000 in
theorem settled_any (b m t : Spo) (w : World) :
    Calls Tryz.prog 63 #[b.val, m.val, t.val] w fun e w' => e = .returned (.tuple #[(Mg.stays b m t).val, (Mg.goes b m t).val]) ∧ Below w.heap.size w w' := by
  obtain ⟨bw, bt, bv⟩ := b
  obtain ⟨mw, mt, mv⟩ := m
  obtain ⟨tw, tt, tv⟩ := t
  simp only [Spo.val]
  obtain ⟨wz, hwz⟩ : ∃ wz, wz = (((((w.alloc (.cells #[.int .i64 bw, .string bt, .int .i64 bv] 74)).alloc (.cells #[.int .i64 mw, .string mt, .int .i64 mv] 74)).alloc (.cells #[.int .i64 tw, .string tt, .int .i64 tv] 74)).alloc (.cells #[.int .i64 0, .string ⟨#[]⟩, .int .i64 0] 74)).alloc (.cells #[.int .i64 0, .string ⟨#[]⟩, .int .i64 0] 74)) := ⟨_, rfl⟩
  have hbz : Below w.heap.size w wz := by rw [hwz]; exact (((((Below.refl _ _).alloc (Nat.le_refl _) _).alloc (by simp) _).alloc (by simp; omega) _).alloc (by simp; omega) _).alloc (by simp; omega) _
  have HX0 : Hid (Cs wz (w.heap.size) [.int .i64 bw, .string bt, .int .i64 bv]) := (by
    have := Cs.new w [.int .i64 bw, .string bt, .int .i64 bv] 74
    have e : w.heap.size = w.heap.size := by simp
    rw [e] at this
    rw [hwz]; exact ((((this.below ((Below.refl _ _).alloc (Nat.le_refl _) _)).below ((Below.refl _ _).alloc (Nat.le_refl _) _)).below ((Below.refl _ _).alloc (Nat.le_refl _) _)).below ((Below.refl _ _).alloc (Nat.le_refl _) _)) : Cs wz (w.heap.size) [.int .i64 bw, .string bt, .int .i64 bv])
  have HX1 : Hid (Cs wz (w.heap.size + 1) [.int .i64 mw, .string mt, .int .i64 mv]) := (by
    have := Cs.new (w.alloc (.cells #[.int .i64 bw, .string bt, .int .i64 bv] 74)) [.int .i64 mw, .string mt, .int .i64 mv] 74
    have e : (w.alloc (.cells #[.int .i64 bw, .string bt, .int .i64 bv] 74)).heap.size = w.heap.size + 1 := by simp
    rw [e] at this
    rw [hwz]; exact (((this.below ((Below.refl _ _).alloc (Nat.le_refl _) _)).below ((Below.refl _ _).alloc (Nat.le_refl _) _)).below ((Below.refl _ _).alloc (Nat.le_refl _) _)) : Cs wz (w.heap.size + 1) [.int .i64 mw, .string mt, .int .i64 mv])
  have HX2 : Hid (Cs wz (w.heap.size + 1 + 1) [.int .i64 tw, .string tt, .int .i64 tv]) := (by
    have := Cs.new ((w.alloc (.cells #[.int .i64 bw, .string bt, .int .i64 bv] 74)).alloc (.cells #[.int .i64 mw, .string mt, .int .i64 mv] 74)) [.int .i64 tw, .string tt, .int .i64 tv] 74
    have e : ((w.alloc (.cells #[.int .i64 bw, .string bt, .int .i64 bv] 74)).alloc (.cells #[.int .i64 mw, .string mt, .int .i64 mv] 74)).heap.size = w.heap.size + 1 + 1 := by simp
    rw [e] at this
    rw [hwz]; exact ((this.below ((Below.refl _ _).alloc (Nat.le_refl _) _)).below ((Below.refl _ _).alloc (Nat.le_refl _) _)) : Cs wz (w.heap.size + 1 + 1) [.int .i64 tw, .string tt, .int .i64 tv])
  have HX3 : Hid (Cs wz (w.heap.size + 1 + 1 + 1) [.int .i64 0, .string ⟨#[]⟩, .int .i64 0]) := (by
    have := Cs.new (((w.alloc (.cells #[.int .i64 bw, .string bt, .int .i64 bv] 74)).alloc (.cells #[.int .i64 mw, .string mt, .int .i64 mv] 74)).alloc (.cells #[.int .i64 tw, .string tt, .int .i64 tv] 74)) [.int .i64 0, .string ⟨#[]⟩, .int .i64 0] 74
    have e : (((w.alloc (.cells #[.int .i64 bw, .string bt, .int .i64 bv] 74)).alloc (.cells #[.int .i64 mw, .string mt, .int .i64 mv] 74)).alloc (.cells #[.int .i64 tw, .string tt, .int .i64 tv] 74)).heap.size = w.heap.size + 1 + 1 + 1 := by simp
    rw [e] at this
    rw [hwz]; exact (this.below ((Below.refl _ _).alloc (Nat.le_refl _) _)) : Cs wz (w.heap.size + 1 + 1 + 1) [.int .i64 0, .string ⟨#[]⟩, .int .i64 0])
  have HX4 : Hid (Cs wz (w.heap.size + 1 + 1 + 1 + 1) [.int .i64 0, .string ⟨#[]⟩, .int .i64 0]) := (by
    have := Cs.new ((((w.alloc (.cells #[.int .i64 bw, .string bt, .int .i64 bv] 74)).alloc (.cells #[.int .i64 mw, .string mt, .int .i64 mv] 74)).alloc (.cells #[.int .i64 tw, .string tt, .int .i64 tv] 74)).alloc (.cells #[.int .i64 0, .string ⟨#[]⟩, .int .i64 0] 74)) [.int .i64 0, .string ⟨#[]⟩, .int .i64 0] 74
    have e : ((((w.alloc (.cells #[.int .i64 bw, .string bt, .int .i64 bv] 74)).alloc (.cells #[.int .i64 mw, .string mt, .int .i64 mv] 74)).alloc (.cells #[.int .i64 tw, .string tt, .int .i64 tv] 74)).alloc (.cells #[.int .i64 0, .string ⟨#[]⟩, .int .i64 0] 74)).heap.size = w.heap.size + 1 + 1 + 1 + 1 := by simp
    rw [e] at this
    rw [hwz]; exact this : Cs wz (w.heap.size + 1 + 1 + 1 + 1) [.int .i64 0, .string ⟨#[]⟩, .int .i64 0])
  cases hmt : Mg.lk ⟨mw, mt, mv⟩ ⟨tw, tt, tv⟩ with
  | true =>
    have HS : Hid (Mg.stays ⟨bw, bt, bv⟩ ⟨mw, mt, mv⟩ ⟨tw, tt, tv⟩ = ⟨tw, tt, tv⟩) := (by rw [Mg.stays, if_pos (Or.inl hmt)] : Mg.stays ⟨bw, bt, bv⟩ ⟨mw, mt, mv⟩ ⟨tw, tt, tv⟩ = ⟨tw, tt, tv⟩)
    have HGO : Hid (Mg.goes ⟨bw, bt, bv⟩ ⟨mw, mt, mv⟩ ⟨tw, tt, tv⟩ = Mg.zero) := (by rw [Mg.goes, if_pos (Or.inl hmt)] : Mg.goes ⟨bw, bt, bv⟩ ⟨mw, mt, mv⟩ ⟨tw, tt, tv⟩ = Mg.zero)
    have Hmt : Hid (((mw == tw) && (mt.toList == tt.toList)) = true) := hmt
    clear hmt
    go_enter Tryz.func63, Tryz.ntmps63
    go_wp2_with fail
    rw [← hwz]
    clear hwz
    refine (like_any mw tw mt tt mv tv _).mono ?_
    rintro e w1 ⟨rfl, hb1⟩
    rw [Hmt.out]
    have hb01 := below_tr hbz hb1
    replace HX0 := hid (HX0.out.below hb1)
    replace HX1 := hid (HX1.out.below hb1)
    replace HX2 := hid (HX2.out.below hb1)
    replace HX3 := hid (HX3.out.below hb1)
    replace HX4 := hid (HX4.out.below hb1)
    try clear x00
    try clear x01
    try clear x02
    try clear x10
    try clear x11
    try clear x12
    try clear x20
    try clear x21
    try clear x22
    have x00 := HX0.out.cell 0 rfl
    have x01 := HX0.out.cell 1 rfl
    have x02 := HX0.out.cell 2 rfl
    have x10 := HX1.out.cell 0 rfl
    have x11 := HX1.out.cell 1 rfl
    have x12 := HX1.out.cell 2 rfl
    have x20 := HX2.out.cell 0 rfl
    have x21 := HX2.out.cell 1 rfl
    have x22 := HX2.out.cell 2 rfl
    have y30 := HX3.out.cell 0 rfl
    have g30 := HX3.out.fr 0
    have y31 := HX3.out.cell 1 rfl
    have g31 := HX3.out.fr 1
    have y32 := HX3.out.cell 2 rfl
    have g32 := HX3.out.fr 2
    have y40 := HX4.out.cell 0 rfl
    have g40 := HX4.out.fr 0
    have y41 := HX4.out.cell 1 rfl
    have g41 := HX4.out.fr 1
    have y42 := HX4.out.cell 2 rfl
    have g42 := HX4.out.fr 2
    go_wp2_with fail
    refine bodyPost_ret (v := .tuple #[.agg #[.int .i64 tw, .string tt, .int .i64 tv], .agg #[.int .i64 0, .string ⟨#[]⟩, .int .i64 0]]) (by simp [results, Tryz.results63, go_sem, y30, y31, y32, y40, y41, y42]) rfl ⟨by rw [HS.out, HGO.out] <;> rfl, ?_⟩
    exact ((((((hb01.setCell (p := ⟨w.heap.size + 1 + 1 + 1, 0, none⟩) (by show w.heap.size ≤ w.heap.size + 1 + 1 + 1; omega) _).setCell (p := ⟨w.heap.size + 1 + 1 + 1, 1, none⟩) (by show w.heap.size ≤ w.heap.size + 1 + 1 + 1; omega) _).setCell (p := ⟨w.heap.size + 1 + 1 + 1, 2, none⟩) (by show w.heap.size ≤ w.heap.size + 1 + 1 + 1; omega) _).setCell (p := ⟨w.heap.size + 1 + 1 + 1 + 1, 0, none⟩) (by show w.heap.size ≤ w.heap.size + 1 + 1 + 1 + 1; omega) _).setCell (p := ⟨w.heap.size + 1 + 1 + 1 + 1, 1, none⟩) (by show w.heap.size ≤ w.heap.size + 1 + 1 + 1 + 1; omega) _).setCell (p := ⟨w.heap.size + 1 + 1 + 1 + 1, 2, none⟩) (by show w.heap.size ≤ w.heap.size + 1 + 1 + 1 + 1; omega) _)
  | false =>
    cases hmb : Mg.lk ⟨mw, mt, mv⟩ ⟨bw, bt, bv⟩ with
    | true =>
      have HS : Hid (Mg.stays ⟨bw, bt, bv⟩ ⟨mw, mt, mv⟩ ⟨tw, tt, tv⟩ = ⟨tw, tt, tv⟩) := (by rw [Mg.stays, if_pos (Or.inr hmb)] : Mg.stays ⟨bw, bt, bv⟩ ⟨mw, mt, mv⟩ ⟨tw, tt, tv⟩ = ⟨tw, tt, tv⟩)
      have HGO : Hid (Mg.goes ⟨bw, bt, bv⟩ ⟨mw, mt, mv⟩ ⟨tw, tt, tv⟩ = Mg.zero) := (by rw [Mg.goes, if_pos (Or.inr hmb)] : Mg.goes ⟨bw, bt, bv⟩ ⟨mw, mt, mv⟩ ⟨tw, tt, tv⟩ = Mg.zero)
      have Hmt : Hid (((mw == tw) && (mt.toList == tt.toList)) = false) := hmt
      have Hmb : Hid (((mw == bw) && (mt.toList == bt.toList)) = true) := hmb
      clear hmt hmb
      go_enter Tryz.func63, Tryz.ntmps63
      go_wp2_with fail
      rw [← hwz]
      clear hwz
      refine (like_any mw tw mt tt mv tv _).mono ?_
      rintro e w1 ⟨rfl, hb1⟩
      rw [Hmt.out]
      have hb01 := below_tr hbz hb1
      replace HX0 := hid (HX0.out.below hb1)
      replace HX1 := hid (HX1.out.below hb1)
      replace HX2 := hid (HX2.out.below hb1)
      replace HX3 := hid (HX3.out.below hb1)
      replace HX4 := hid (HX4.out.below hb1)
      try clear x00
      try clear x01
      try clear x02
      try clear x10
      try clear x11
      try clear x12
      try clear x20
      try clear x21
      try clear x22
      have x00 := HX0.out.cell 0 rfl
      have x01 := HX0.out.cell 1 rfl
      have x02 := HX0.out.cell 2 rfl
      have x10 := HX1.out.cell 0 rfl
      have x11 := HX1.out.cell 1 rfl
      have x12 := HX1.out.cell 2 rfl
      have x20 := HX2.out.cell 0 rfl
      have x21 := HX2.out.cell 1 rfl
      have x22 := HX2.out.cell 2 rfl
      go_wp2_with fail
      refine (like_any mw bw mt bt mv bv _).mono ?_
      rintro e w2 ⟨rfl, hb2⟩
      rw [Hmb.out]
      have hb02 := below_tr hb01 hb2
      replace HX0 := hid (HX0.out.below hb2)
      replace HX1 := hid (HX1.out.below hb2)
      replace HX2 := hid (HX2.out.below hb2)
      replace HX3 := hid (HX3.out.below hb2)
      replace HX4 := hid (HX4.out.below hb2)
      try clear x00
      try clear x01
      try clear x02
      try clear x10
      try clear x11
      try clear x12
      try clear x20
      try clear x21
      try clear x22
      have x00 := HX0.out.cell 0 rfl
      have x01 := HX0.out.cell 1 rfl
      have x02 := HX0.out.cell 2 rfl
      have x10 := HX1.out.cell 0 rfl
      have x11 := HX1.out.cell 1 rfl
      have x12 := HX1.out.cell 2 rfl
      have x20 := HX2.out.cell 0 rfl
      have x21 := HX2.out.cell 1 rfl
      have x22 := HX2.out.cell 2 rfl
      have y30 := HX3.out.cell 0 rfl
      have g30 := HX3.out.fr 0
      have y31 := HX3.out.cell 1 rfl
      have g31 := HX3.out.fr 1
      have y32 := HX3.out.cell 2 rfl
      have g32 := HX3.out.fr 2
      have y40 := HX4.out.cell 0 rfl
      have g40 := HX4.out.fr 0
      have y41 := HX4.out.cell 1 rfl
      have g41 := HX4.out.fr 1
      have y42 := HX4.out.cell 2 rfl
      have g42 := HX4.out.fr 2
      go_wp2_with fail
      refine bodyPost_ret (v := .tuple #[.agg #[.int .i64 tw, .string tt, .int .i64 tv], .agg #[.int .i64 0, .string ⟨#[]⟩, .int .i64 0]]) (by simp [results, Tryz.results63, go_sem, y30, y31, y32, y40, y41, y42]) rfl ⟨by rw [HS.out, HGO.out] <;> rfl, ?_⟩
      exact ((((((hb02.setCell (p := ⟨w.heap.size + 1 + 1 + 1, 0, none⟩) (by show w.heap.size ≤ w.heap.size + 1 + 1 + 1; omega) _).setCell (p := ⟨w.heap.size + 1 + 1 + 1, 1, none⟩) (by show w.heap.size ≤ w.heap.size + 1 + 1 + 1; omega) _).setCell (p := ⟨w.heap.size + 1 + 1 + 1, 2, none⟩) (by show w.heap.size ≤ w.heap.size + 1 + 1 + 1; omega) _).setCell (p := ⟨w.heap.size + 1 + 1 + 1 + 1, 0, none⟩) (by show w.heap.size ≤ w.heap.size + 1 + 1 + 1 + 1; omega) _).setCell (p := ⟨w.heap.size + 1 + 1 + 1 + 1, 1, none⟩) (by show w.heap.size ≤ w.heap.size + 1 + 1 + 1 + 1; omega) _).setCell (p := ⟨w.heap.size + 1 + 1 + 1 + 1, 2, none⟩) (by show w.heap.size ≤ w.heap.size + 1 + 1 + 1 + 1; omega) _)
    | false =>
      have hno : ¬ (Mg.lk ⟨mw, mt, mv⟩ ⟨tw, tt, tv⟩ = true ∨ Mg.lk ⟨mw, mt, mv⟩ ⟨bw, bt, bv⟩ = true) := by simp [hmt, hmb]
      cases htb : Mg.lk ⟨tw, tt, tv⟩ ⟨bw, bt, bv⟩ with
      | true =>
        have HS : Hid (Mg.stays ⟨bw, bt, bv⟩ ⟨mw, mt, mv⟩ ⟨tw, tt, tv⟩ = ⟨mw, mt, mv⟩) := (by rw [Mg.stays, if_neg hno, if_pos htb] : Mg.stays ⟨bw, bt, bv⟩ ⟨mw, mt, mv⟩ ⟨tw, tt, tv⟩ = ⟨mw, mt, mv⟩)
        have HGO : Hid (Mg.goes ⟨bw, bt, bv⟩ ⟨mw, mt, mv⟩ ⟨tw, tt, tv⟩ = Mg.zero) := (by rw [Mg.goes, if_neg hno, if_pos htb] : Mg.goes ⟨bw, bt, bv⟩ ⟨mw, mt, mv⟩ ⟨tw, tt, tv⟩ = Mg.zero)
        have Hmt : Hid (((mw == tw) && (mt.toList == tt.toList)) = false) := hmt
        have Hmb : Hid (((mw == bw) && (mt.toList == bt.toList)) = false) := hmb
        have Htb : Hid (((tw == bw) && (tt.toList == bt.toList)) = true) := htb
        clear hmt hmb htb hno
        go_enter Tryz.func63, Tryz.ntmps63
        go_wp2_with fail
        rw [← hwz]
        clear hwz
        refine (like_any mw tw mt tt mv tv _).mono ?_
        rintro e w1 ⟨rfl, hb1⟩
        rw [Hmt.out]
        have hb01 := below_tr hbz hb1
        replace HX0 := hid (HX0.out.below hb1)
        replace HX1 := hid (HX1.out.below hb1)
        replace HX2 := hid (HX2.out.below hb1)
        replace HX3 := hid (HX3.out.below hb1)
        replace HX4 := hid (HX4.out.below hb1)
        try clear x00
        try clear x01
        try clear x02
        try clear x10
        try clear x11
        try clear x12
        try clear x20
        try clear x21
        try clear x22
        have x00 := HX0.out.cell 0 rfl
        have x01 := HX0.out.cell 1 rfl
        have x02 := HX0.out.cell 2 rfl
        have x10 := HX1.out.cell 0 rfl
        have x11 := HX1.out.cell 1 rfl
        have x12 := HX1.out.cell 2 rfl
        have x20 := HX2.out.cell 0 rfl
        have x21 := HX2.out.cell 1 rfl
        have x22 := HX2.out.cell 2 rfl
        go_wp2_with fail
        refine (like_any mw bw mt bt mv bv _).mono ?_
        rintro e w2 ⟨rfl, hb2⟩
        rw [Hmb.out]
        have hb02 := below_tr hb01 hb2
        replace HX0 := hid (HX0.out.below hb2)
        replace HX1 := hid (HX1.out.below hb2)
        replace HX2 := hid (HX2.out.below hb2)
        replace HX3 := hid (HX3.out.below hb2)
        replace HX4 := hid (HX4.out.below hb2)
        try clear x00
        try clear x01
        try clear x02
        try clear x10
        try clear x11
        try clear x12
        try clear x20
        try clear x21
        try clear x22
        have x00 := HX0.out.cell 0 rfl
        have x01 := HX0.out.cell 1 rfl
        have x02 := HX0.out.cell 2 rfl
        have x10 := HX1.out.cell 0 rfl
        have x11 := HX1.out.cell 1 rfl
        have x12 := HX1.out.cell 2 rfl
        have x20 := HX2.out.cell 0 rfl
        have x21 := HX2.out.cell 1 rfl
        have x22 := HX2.out.cell 2 rfl
        go_wp2_with fail
        refine (like_any tw bw tt bt tv bv _).mono ?_
        rintro e w3 ⟨rfl, hb3⟩
        rw [Htb.out]
        have hb03 := below_tr hb02 hb3
        replace HX0 := hid (HX0.out.below hb3)
        replace HX1 := hid (HX1.out.below hb3)
        replace HX2 := hid (HX2.out.below hb3)
        replace HX3 := hid (HX3.out.below hb3)
        replace HX4 := hid (HX4.out.below hb3)
        try clear x00
        try clear x01
        try clear x02
        try clear x10
        try clear x11
        try clear x12
        try clear x20
        try clear x21
        try clear x22
        have x00 := HX0.out.cell 0 rfl
        have x01 := HX0.out.cell 1 rfl
        have x02 := HX0.out.cell 2 rfl
        have x10 := HX1.out.cell 0 rfl
        have x11 := HX1.out.cell 1 rfl
        have x12 := HX1.out.cell 2 rfl
        have x20 := HX2.out.cell 0 rfl
        have x21 := HX2.out.cell 1 rfl
        have x22 := HX2.out.cell 2 rfl
        have y30 := HX3.out.cell 0 rfl
        have g30 := HX3.out.fr 0
        have y31 := HX3.out.cell 1 rfl
        have g31 := HX3.out.fr 1
        have y32 := HX3.out.cell 2 rfl
        have g32 := HX3.out.fr 2
        have y40 := HX4.out.cell 0 rfl
        have g40 := HX4.out.fr 0
        have y41 := HX4.out.cell 1 rfl
        have g41 := HX4.out.fr 1
        have y42 := HX4.out.cell 2 rfl
        have g42 := HX4.out.fr 2
        go_wp2_with fail
        refine bodyPost_ret (v := .tuple #[.agg #[.int .i64 mw, .string mt, .int .i64 mv], .agg #[.int .i64 0, .string ⟨#[]⟩, .int .i64 0]]) (by simp [results, Tryz.results63, go_sem, y30, y31, y32, y40, y41, y42]) rfl ⟨by rw [HS.out, HGO.out] <;> rfl, ?_⟩
        exact ((((((hb03.setCell (p := ⟨w.heap.size + 1 + 1 + 1, 0, none⟩) (by show w.heap.size ≤ w.heap.size + 1 + 1 + 1; omega) _).setCell (p := ⟨w.heap.size + 1 + 1 + 1, 1, none⟩) (by show w.heap.size ≤ w.heap.size + 1 + 1 + 1; omega) _).setCell (p := ⟨w.heap.size + 1 + 1 + 1, 2, none⟩) (by show w.heap.size ≤ w.heap.size + 1 + 1 + 1; omega) _).setCell (p := ⟨w.heap.size + 1 + 1 + 1 + 1, 0, none⟩) (by show w.heap.size ≤ w.heap.size + 1 + 1 + 1 + 1; omega) _).setCell (p := ⟨w.heap.size + 1 + 1 + 1 + 1, 1, none⟩) (by show w.heap.size ≤ w.heap.size + 1 + 1 + 1 + 1; omega) _).setCell (p := ⟨w.heap.size + 1 + 1 + 1 + 1, 2, none⟩) (by show w.heap.size ≤ w.heap.size + 1 + 1 + 1 + 1; omega) _)
      | false =>
        have hnt : ¬ Mg.lk ⟨tw, tt, tv⟩ ⟨bw, bt, bv⟩ = true := by simp [htb]
        by_cases hm1 : mw = 1
        · have HS : Hid (Mg.stays ⟨bw, bt, bv⟩ ⟨mw, mt, mv⟩ ⟨tw, tt, tv⟩ = ⟨mw, mt, mv⟩) := (by rw [Mg.stays, if_neg hno, if_neg hnt, if_pos (Or.inl hm1)] : Mg.stays ⟨bw, bt, bv⟩ ⟨mw, mt, mv⟩ ⟨tw, tt, tv⟩ = ⟨mw, mt, mv⟩)
          have HGO : Hid (Mg.goes ⟨bw, bt, bv⟩ ⟨mw, mt, mv⟩ ⟨tw, tt, tv⟩ = ⟨tw, tt, tv⟩) := (by rw [Mg.goes, if_neg hno, if_neg hnt, if_pos (Or.inl hm1)] : Mg.goes ⟨bw, bt, bv⟩ ⟨mw, mt, mv⟩ ⟨tw, tt, tv⟩ = ⟨tw, tt, tv⟩)
          have Hmt : Hid (((mw == tw) && (mt.toList == tt.toList)) = false) := hmt
          have Hmb : Hid (((mw == bw) && (mt.toList == bt.toList)) = false) := hmb
          have Htb : Hid (((tw == bw) && (tt.toList == bt.toList)) = false) := htb
          clear hmt hmb htb hno
          have hm1' : (mw == 1) = true := by simpa using hm1
          clear hm1 hnt
          go_enter Tryz.func63, Tryz.ntmps63
          go_wp2_with fail
          rw [← hwz]
          clear hwz
          refine (like_any mw tw mt tt mv tv _).mono ?_
          rintro e w1 ⟨rfl, hb1⟩
          rw [Hmt.out]
          have hb01 := below_tr hbz hb1
          replace HX0 := hid (HX0.out.below hb1)
          replace HX1 := hid (HX1.out.below hb1)
          replace HX2 := hid (HX2.out.below hb1)
          replace HX3 := hid (HX3.out.below hb1)
          replace HX4 := hid (HX4.out.below hb1)
          try clear x00
          try clear x01
          try clear x02
          try clear x10
          try clear x11
          try clear x12
          try clear x20
          try clear x21
          try clear x22
          have x00 := HX0.out.cell 0 rfl
          have x01 := HX0.out.cell 1 rfl
          have x02 := HX0.out.cell 2 rfl
          have x10 := HX1.out.cell 0 rfl
          have x11 := HX1.out.cell 1 rfl
          have x12 := HX1.out.cell 2 rfl
          have x20 := HX2.out.cell 0 rfl
          have x21 := HX2.out.cell 1 rfl
          have x22 := HX2.out.cell 2 rfl
          go_wp2_with fail
          refine (like_any mw bw mt bt mv bv _).mono ?_
          rintro e w2 ⟨rfl, hb2⟩
          rw [Hmb.out]
          have hb02 := below_tr hb01 hb2
          replace HX0 := hid (HX0.out.below hb2)
          replace HX1 := hid (HX1.out.below hb2)
          replace HX2 := hid (HX2.out.below hb2)
          replace HX3 := hid (HX3.out.below hb2)
          replace HX4 := hid (HX4.out.below hb2)
          try clear x00
          try clear x01
          try clear x02
          try clear x10
          try clear x11
          try clear x12
          try clear x20
          try clear x21
          try clear x22
          have x00 := HX0.out.cell 0 rfl
          have x01 := HX0.out.cell 1 rfl
          have x02 := HX0.out.cell 2 rfl
          have x10 := HX1.out.cell 0 rfl
          have x11 := HX1.out.cell 1 rfl
          have x12 := HX1.out.cell 2 rfl
          have x20 := HX2.out.cell 0 rfl
          have x21 := HX2.out.cell 1 rfl
          have x22 := HX2.out.cell 2 rfl
          go_wp2_with fail
          refine (like_any tw bw tt bt tv bv _).mono ?_
          rintro e w3 ⟨rfl, hb3⟩
          rw [Htb.out]
          have hb03 := below_tr hb02 hb3
          replace HX0 := hid (HX0.out.below hb3)
          replace HX1 := hid (HX1.out.below hb3)
          replace HX2 := hid (HX2.out.below hb3)
          replace HX3 := hid (HX3.out.below hb3)
          replace HX4 := hid (HX4.out.below hb3)
          try clear x00
          try clear x01
          try clear x02
          try clear x10
          try clear x11
          try clear x12
          try clear x20
          try clear x21
          try clear x22
          have x00 := HX0.out.cell 0 rfl
          have x01 := HX0.out.cell 1 rfl
          have x02 := HX0.out.cell 2 rfl
          have x10 := HX1.out.cell 0 rfl
          have x11 := HX1.out.cell 1 rfl
          have x12 := HX1.out.cell 2 rfl
          have x20 := HX2.out.cell 0 rfl
          have x21 := HX2.out.cell 1 rfl
          have x22 := HX2.out.cell 2 rfl
          have y30 := HX3.out.cell 0 rfl
          have g30 := HX3.out.fr 0
          have y31 := HX3.out.cell 1 rfl
          have g31 := HX3.out.fr 1
          have y32 := HX3.out.cell 2 rfl
          have g32 := HX3.out.fr 2
          have y40 := HX4.out.cell 0 rfl
          have g40 := HX4.out.fr 0
          have y41 := HX4.out.cell 1 rfl
          have g41 := HX4.out.fr 1
          have y42 := HX4.out.cell 2 rfl
          have g42 := HX4.out.fr 2
          go_wp2_with fail
          go_region
          go_wp2_with fail
          refine bodyPost_ret (v := .tuple #[.agg #[.int .i64 mw, .string mt, .int .i64 mv], .agg #[.int .i64 tw, .string tt, .int .i64 tv]]) (by simp [results, Tryz.results63, go_sem, y30, y31, y32, y40, y41, y42]) rfl ⟨by rw [HS.out, HGO.out] <;> rfl, ?_⟩
          exact ((((((hb03.setCell (p := ⟨w.heap.size + 1 + 1 + 1, 0, none⟩) (by show w.heap.size ≤ w.heap.size + 1 + 1 + 1; omega) _).setCell (p := ⟨w.heap.size + 1 + 1 + 1, 1, none⟩) (by show w.heap.size ≤ w.heap.size + 1 + 1 + 1; omega) _).setCell (p := ⟨w.heap.size + 1 + 1 + 1, 2, none⟩) (by show w.heap.size ≤ w.heap.size + 1 + 1 + 1; omega) _).setCell (p := ⟨w.heap.size + 1 + 1 + 1 + 1, 0, none⟩) (by show w.heap.size ≤ w.heap.size + 1 + 1 + 1 + 1; omega) _).setCell (p := ⟨w.heap.size + 1 + 1 + 1 + 1, 1, none⟩) (by show w.heap.size ≤ w.heap.size + 1 + 1 + 1 + 1; omega) _).setCell (p := ⟨w.heap.size + 1 + 1 + 1 + 1, 2, none⟩) (by show w.heap.size ≤ w.heap.size + 1 + 1 + 1 + 1; omega) _).drew
        · have hm1' : (mw == 1) = false := by simpa using hm1
          by_cases ht0 : tw = 0
          · have HS : Hid (Mg.stays ⟨bw, bt, bv⟩ ⟨mw, mt, mv⟩ ⟨tw, tt, tv⟩ = ⟨mw, mt, mv⟩) := (by rw [Mg.stays, if_neg hno, if_neg hnt, if_pos (Or.inr ht0)] : Mg.stays ⟨bw, bt, bv⟩ ⟨mw, mt, mv⟩ ⟨tw, tt, tv⟩ = ⟨mw, mt, mv⟩)
            have HGO : Hid (Mg.goes ⟨bw, bt, bv⟩ ⟨mw, mt, mv⟩ ⟨tw, tt, tv⟩ = ⟨tw, tt, tv⟩) := (by rw [Mg.goes, if_neg hno, if_neg hnt, if_pos (Or.inr ht0)] : Mg.goes ⟨bw, bt, bv⟩ ⟨mw, mt, mv⟩ ⟨tw, tt, tv⟩ = ⟨tw, tt, tv⟩)
            have Hmt : Hid (((mw == tw) && (mt.toList == tt.toList)) = false) := hmt
            have Hmb : Hid (((mw == bw) && (mt.toList == bt.toList)) = false) := hmb
            have Htb : Hid (((tw == bw) && (tt.toList == bt.toList)) = false) := htb
            clear hmt hmb htb hno
            have ht0' : (tw == 0) = true := by simpa using ht0
            clear hm1 hnt ht0
            go_enter Tryz.func63, Tryz.ntmps63
            go_wp2_with fail
            rw [← hwz]
            clear hwz
            refine (like_any mw tw mt tt mv tv _).mono ?_
            rintro e w1 ⟨rfl, hb1⟩
            rw [Hmt.out]
            have hb01 := below_tr hbz hb1
            replace HX0 := hid (HX0.out.below hb1)
            replace HX1 := hid (HX1.out.below hb1)
            replace HX2 := hid (HX2.out.below hb1)
            replace HX3 := hid (HX3.out.below hb1)
            replace HX4 := hid (HX4.out.below hb1)
            try clear x00
            try clear x01
            try clear x02
            try clear x10
            try clear x11
            try clear x12
            try clear x20
            try clear x21
            try clear x22
            have x00 := HX0.out.cell 0 rfl
            have x01 := HX0.out.cell 1 rfl
            have x02 := HX0.out.cell 2 rfl
            have x10 := HX1.out.cell 0 rfl
            have x11 := HX1.out.cell 1 rfl
            have x12 := HX1.out.cell 2 rfl
            have x20 := HX2.out.cell 0 rfl
            have x21 := HX2.out.cell 1 rfl
            have x22 := HX2.out.cell 2 rfl
            go_wp2_with fail
            refine (like_any mw bw mt bt mv bv _).mono ?_
            rintro e w2 ⟨rfl, hb2⟩
            rw [Hmb.out]
            have hb02 := below_tr hb01 hb2
            replace HX0 := hid (HX0.out.below hb2)
            replace HX1 := hid (HX1.out.below hb2)
            replace HX2 := hid (HX2.out.below hb2)
            replace HX3 := hid (HX3.out.below hb2)
            replace HX4 := hid (HX4.out.below hb2)
            try clear x00
            try clear x01
            try clear x02
            try clear x10
            try clear x11
            try clear x12
            try clear x20
            try clear x21
            try clear x22
            have x00 := HX0.out.cell 0 rfl
            have x01 := HX0.out.cell 1 rfl
            have x02 := HX0.out.cell 2 rfl
            have x10 := HX1.out.cell 0 rfl
            have x11 := HX1.out.cell 1 rfl
            have x12 := HX1.out.cell 2 rfl
            have x20 := HX2.out.cell 0 rfl
            have x21 := HX2.out.cell 1 rfl
            have x22 := HX2.out.cell 2 rfl
            go_wp2_with fail
            refine (like_any tw bw tt bt tv bv _).mono ?_
            rintro e w3 ⟨rfl, hb3⟩
            rw [Htb.out]
            have hb03 := below_tr hb02 hb3
            replace HX0 := hid (HX0.out.below hb3)
            replace HX1 := hid (HX1.out.below hb3)
            replace HX2 := hid (HX2.out.below hb3)
            replace HX3 := hid (HX3.out.below hb3)
            replace HX4 := hid (HX4.out.below hb3)
            try clear x00
            try clear x01
            try clear x02
            try clear x10
            try clear x11
            try clear x12
            try clear x20
            try clear x21
            try clear x22
            have x00 := HX0.out.cell 0 rfl
            have x01 := HX0.out.cell 1 rfl
            have x02 := HX0.out.cell 2 rfl
            have x10 := HX1.out.cell 0 rfl
            have x11 := HX1.out.cell 1 rfl
            have x12 := HX1.out.cell 2 rfl
            have x20 := HX2.out.cell 0 rfl
            have x21 := HX2.out.cell 1 rfl
            have x22 := HX2.out.cell 2 rfl
            have y30 := HX3.out.cell 0 rfl
            have g30 := HX3.out.fr 0
            have y31 := HX3.out.cell 1 rfl
            have g31 := HX3.out.fr 1
            have y32 := HX3.out.cell 2 rfl
            have g32 := HX3.out.fr 2
            have y40 := HX4.out.cell 0 rfl
            have g40 := HX4.out.fr 0
            have y41 := HX4.out.cell 1 rfl
            have g41 := HX4.out.fr 1
            have y42 := HX4.out.cell 2 rfl
            have g42 := HX4.out.fr 2
            go_wp2_with fail
            go_region
            go_wp2_with fail
            refine bodyPost_ret (v := .tuple #[.agg #[.int .i64 mw, .string mt, .int .i64 mv], .agg #[.int .i64 tw, .string tt, .int .i64 tv]]) (by simp [results, Tryz.results63, go_sem, y30, y31, y32, y40, y41, y42]) rfl ⟨by rw [HS.out, HGO.out] <;> rfl, ?_⟩
            exact ((((((hb03.setCell (p := ⟨w.heap.size + 1 + 1 + 1, 0, none⟩) (by show w.heap.size ≤ w.heap.size + 1 + 1 + 1; omega) _).setCell (p := ⟨w.heap.size + 1 + 1 + 1, 1, none⟩) (by show w.heap.size ≤ w.heap.size + 1 + 1 + 1; omega) _).setCell (p := ⟨w.heap.size + 1 + 1 + 1, 2, none⟩) (by show w.heap.size ≤ w.heap.size + 1 + 1 + 1; omega) _).setCell (p := ⟨w.heap.size + 1 + 1 + 1 + 1, 0, none⟩) (by show w.heap.size ≤ w.heap.size + 1 + 1 + 1 + 1; omega) _).setCell (p := ⟨w.heap.size + 1 + 1 + 1 + 1, 1, none⟩) (by show w.heap.size ≤ w.heap.size + 1 + 1 + 1 + 1; omega) _).setCell (p := ⟨w.heap.size + 1 + 1 + 1 + 1, 2, none⟩) (by show w.heap.size ≤ w.heap.size + 1 + 1 + 1 + 1; omega) _).drew
          · have hnn : ¬ (mw = 1 ∨ tw = 0) := by omega
            have HS : Hid (Mg.stays ⟨bw, bt, bv⟩ ⟨mw, mt, mv⟩ ⟨tw, tt, tv⟩ = ⟨tw, tt, tv⟩) := (by rw [Mg.stays, if_neg hno, if_neg hnt, if_neg hnn] : Mg.stays ⟨bw, bt, bv⟩ ⟨mw, mt, mv⟩ ⟨tw, tt, tv⟩ = ⟨tw, tt, tv⟩)
            have HGO : Hid (Mg.goes ⟨bw, bt, bv⟩ ⟨mw, mt, mv⟩ ⟨tw, tt, tv⟩ = ⟨mw, mt, mv⟩) := (by rw [Mg.goes, if_neg hno, if_neg hnt, if_neg hnn] : Mg.goes ⟨bw, bt, bv⟩ ⟨mw, mt, mv⟩ ⟨tw, tt, tv⟩ = ⟨mw, mt, mv⟩)
            have Hmt : Hid (((mw == tw) && (mt.toList == tt.toList)) = false) := hmt
            have Hmb : Hid (((mw == bw) && (mt.toList == bt.toList)) = false) := hmb
            have Htb : Hid (((tw == bw) && (tt.toList == bt.toList)) = false) := htb
            clear hmt hmb htb hno
            have ht0' : (tw == 0) = false := by simpa using ht0
            clear hm1 hnt ht0 hnn
            go_enter Tryz.func63, Tryz.ntmps63
            go_wp2_with fail
            rw [← hwz]
            clear hwz
            refine (like_any mw tw mt tt mv tv _).mono ?_
            rintro e w1 ⟨rfl, hb1⟩
            rw [Hmt.out]
            have hb01 := below_tr hbz hb1
            replace HX0 := hid (HX0.out.below hb1)
            replace HX1 := hid (HX1.out.below hb1)
            replace HX2 := hid (HX2.out.below hb1)
            replace HX3 := hid (HX3.out.below hb1)
            replace HX4 := hid (HX4.out.below hb1)
            try clear x00
            try clear x01
            try clear x02
            try clear x10
            try clear x11
            try clear x12
            try clear x20
            try clear x21
            try clear x22
            have x00 := HX0.out.cell 0 rfl
            have x01 := HX0.out.cell 1 rfl
            have x02 := HX0.out.cell 2 rfl
            have x10 := HX1.out.cell 0 rfl
            have x11 := HX1.out.cell 1 rfl
            have x12 := HX1.out.cell 2 rfl
            have x20 := HX2.out.cell 0 rfl
            have x21 := HX2.out.cell 1 rfl
            have x22 := HX2.out.cell 2 rfl
            go_wp2_with fail
            refine (like_any mw bw mt bt mv bv _).mono ?_
            rintro e w2 ⟨rfl, hb2⟩
            rw [Hmb.out]
            have hb02 := below_tr hb01 hb2
            replace HX0 := hid (HX0.out.below hb2)
            replace HX1 := hid (HX1.out.below hb2)
            replace HX2 := hid (HX2.out.below hb2)
            replace HX3 := hid (HX3.out.below hb2)
            replace HX4 := hid (HX4.out.below hb2)
            try clear x00
            try clear x01
            try clear x02
            try clear x10
            try clear x11
            try clear x12
            try clear x20
            try clear x21
            try clear x22
            have x00 := HX0.out.cell 0 rfl
            have x01 := HX0.out.cell 1 rfl
            have x02 := HX0.out.cell 2 rfl
            have x10 := HX1.out.cell 0 rfl
            have x11 := HX1.out.cell 1 rfl
            have x12 := HX1.out.cell 2 rfl
            have x20 := HX2.out.cell 0 rfl
            have x21 := HX2.out.cell 1 rfl
            have x22 := HX2.out.cell 2 rfl
            go_wp2_with fail
            refine (like_any tw bw tt bt tv bv _).mono ?_
            rintro e w3 ⟨rfl, hb3⟩
            rw [Htb.out]
            have hb03 := below_tr hb02 hb3
            replace HX0 := hid (HX0.out.below hb3)
            replace HX1 := hid (HX1.out.below hb3)
            replace HX2 := hid (HX2.out.below hb3)
            replace HX3 := hid (HX3.out.below hb3)
            replace HX4 := hid (HX4.out.below hb3)
            try clear x00
            try clear x01
            try clear x02
            try clear x10
            try clear x11
            try clear x12
            try clear x20
            try clear x21
            try clear x22
            have x00 := HX0.out.cell 0 rfl
            have x01 := HX0.out.cell 1 rfl
            have x02 := HX0.out.cell 2 rfl
            have x10 := HX1.out.cell 0 rfl
            have x11 := HX1.out.cell 1 rfl
            have x12 := HX1.out.cell 2 rfl
            have x20 := HX2.out.cell 0 rfl
            have x21 := HX2.out.cell 1 rfl
            have x22 := HX2.out.cell 2 rfl
            have y30 := HX3.out.cell 0 rfl
            have g30 := HX3.out.fr 0
            have y31 := HX3.out.cell 1 rfl
            have g31 := HX3.out.fr 1
            have y32 := HX3.out.cell 2 rfl
            have g32 := HX3.out.fr 2
            have y40 := HX4.out.cell 0 rfl
            have g40 := HX4.out.fr 0
            have y41 := HX4.out.cell 1 rfl
            have g41 := HX4.out.fr 1
            have y42 := HX4.out.cell 2 rfl
            have g42 := HX4.out.fr 2
            go_wp2_with fail
            go_region
            go_wp2_with fail
            refine bodyPost_ret (v := .tuple #[.agg #[.int .i64 tw, .string tt, .int .i64 tv], .agg #[.int .i64 mw, .string mt, .int .i64 mv]]) (by simp [results, Tryz.results63, go_sem, y30, y31, y32, y40, y41, y42]) rfl ⟨by rw [HS.out, HGO.out] <;> rfl, ?_⟩
            exact ((((((hb03.setCell (p := ⟨w.heap.size + 1 + 1 + 1, 0, none⟩) (by show w.heap.size ≤ w.heap.size + 1 + 1 + 1; omega) _).setCell (p := ⟨w.heap.size + 1 + 1 + 1, 1, none⟩) (by show w.heap.size ≤ w.heap.size + 1 + 1 + 1; omega) _).setCell (p := ⟨w.heap.size + 1 + 1 + 1, 2, none⟩) (by show w.heap.size ≤ w.heap.size + 1 + 1 + 1; omega) _).setCell (p := ⟨w.heap.size + 1 + 1 + 1 + 1, 0, none⟩) (by show w.heap.size ≤ w.heap.size + 1 + 1 + 1 + 1; omega) _).setCell (p := ⟨w.heap.size + 1 + 1 + 1 + 1, 1, none⟩) (by show w.heap.size ≤ w.heap.size + 1 + 1 + 1 + 1; omega) _).setCell (p := ⟨w.heap.size + 1 + 1 + 1 + 1, 2, none⟩) (by show w.heap.size ≤ w.heap.size + 1 + 1 + 1 + 1; omega) _).drew
end Go.Proofs.YthfdmdjmbbollaaGreatDoor
