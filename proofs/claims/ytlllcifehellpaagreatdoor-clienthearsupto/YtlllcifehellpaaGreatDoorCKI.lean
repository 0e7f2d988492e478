/- What merge.settled answers. -/
import Derived.Test.YtlllcifehellpaaGreatDoorCKD
import Derived.Test.YtlllcifehellpaaGreatDoorCKC
import Derived.Lib.SlMapMerge
import Derived.Test.YtlllcifehellpaaGreatDoorCKB
import Derived.Test.YtlllcifehellpaaGreatDoorCKA
set_option linter.unusedSimpArgs false
set_option linter.unusedVariables false
namespace Go.Proofs.YtlllcifehellpaaGreatDoor
open Go.RowKit

/-- What is at a path. -/
structure Spo where
 w:Int
 t:ByteArray
 v:Int
def Spo.val (s:Spo):Value:= .agg #[.int .i64 s.w,.string s.t,.int .i64 s.v]
namespace Mg
def zero:Spo:=⟨0,⟨#[]⟩,0⟩
def lk (a b:Spo):Bool:=(a.w==b.w) && (a.t.toList==b.t.toList)
def stays (b m t:Spo):Spo:=if lk m t=true∨lk m b=true then t else if lk t b=true then m else if m.w=1∨t.w=0 then m else t
def goes (b m t:Spo):Spo:=if lk m t=true∨lk m b=true then zero else if lk t b=true then zero else if m.w=1∨t.w=0 then t else m
end Mg

set_option maxRecDepth 100000 in
set_option maxHeartbeats 4000000 in
theorem settled_any (b m t:Spo) (w:World):
    Calls Tryz.prog 95 #[b.val,m.val,t.val] w fun e w'=>e= .returned (.tuple #[(Mg.stays b m t).val,(Mg.goes b m t).val])∧Below w.heap.size w w':=by
 obtain⟨bw,bt,bv⟩:=b
 obtain⟨mw,mt,mv⟩:=m
 obtain⟨tw,tt,tv⟩:=t
 simp only[Spo.val];obtain⟨wz,hwz⟩: ∃wz,wz=(((((w.alloc (.cells #[.int .i64 bw,.string bt,.int .i64 bv] 114)).alloc (.cells #[.int .i64 mw,.string mt,.int .i64 mv] 114)).alloc (.cells #[.int .i64 tw,.string tt,.int .i64 tv] 114)).alloc (.cells #[.int .i64 0,.string ⟨#[]⟩,.int .i64 0] 114)).alloc (.cells #[.int .i64 0,.string ⟨#[]⟩,.int .i64 0] 114)):=⟨_,rfl⟩
 have hbz:Below w.heap.size w wz:=by rw[hwz];exact(((((Below.refl _ _).alloc (Nat.le_refl _) _).alloc (by simp) _).alloc (by simp;omega) _).alloc (by simp;omega) _).alloc (by simp;omega) _
 have HX0:=hid (show Cs wz (w.heap.size) [.int .i64 bw,.string bt,.int .i64 bv]from by
  have:=Cs.new w [.int .i64 bw,.string bt,.int .i64 bv] 114
  have e:w.heap.size=w.heap.size:=by simp
  rw[e]at this;rw[hwz];exact((((this.below ((Below.refl _ _).alloc (Nat.le_refl _) _)).below ((Below.refl _ _).alloc (Nat.le_refl _) _)).below ((Below.refl _ _).alloc (Nat.le_refl _) _)).below ((Below.refl _ _).alloc (Nat.le_refl _) _)))
 have HX1:=hid (show Cs wz (w.heap.size+1) [.int .i64 mw,.string mt,.int .i64 mv]from by
  have:=Cs.new (w.alloc (.cells #[.int .i64 bw,.string bt,.int .i64 bv] 114)) [.int .i64 mw,.string mt,.int .i64 mv] 114
  have e:(w.alloc (.cells #[.int .i64 bw,.string bt,.int .i64 bv] 114)).heap.size=w.heap.size+1:=by simp
  rw[e]at this;rw[hwz];exact(((this.below ((Below.refl _ _).alloc (Nat.le_refl _) _)).below ((Below.refl _ _).alloc (Nat.le_refl _) _)).below ((Below.refl _ _).alloc (Nat.le_refl _) _)))
 have HX2:=hid (show Cs wz (w.heap.size+1+1) [.int .i64 tw,.string tt,.int .i64 tv]from by
  have:=Cs.new ((w.alloc (.cells #[.int .i64 bw,.string bt,.int .i64 bv] 114)).alloc (.cells #[.int .i64 mw,.string mt,.int .i64 mv] 114)) [.int .i64 tw,.string tt,.int .i64 tv] 114
  have e:((w.alloc (.cells #[.int .i64 bw,.string bt,.int .i64 bv] 114)).alloc (.cells #[.int .i64 mw,.string mt,.int .i64 mv] 114)).heap.size=w.heap.size+1+1:=by simp
  rw[e]at this;rw[hwz];exact((this.below ((Below.refl _ _).alloc (Nat.le_refl _) _)).below ((Below.refl _ _).alloc (Nat.le_refl _) _)))
 have HX3:=hid (show Cs wz (w.heap.size+1+1+1) [.int .i64 0,.string ⟨#[]⟩,.int .i64 0]from by
  have:=Cs.new (((w.alloc (.cells #[.int .i64 bw,.string bt,.int .i64 bv] 114)).alloc (.cells #[.int .i64 mw,.string mt,.int .i64 mv] 114)).alloc (.cells #[.int .i64 tw,.string tt,.int .i64 tv] 114)) [.int .i64 0,.string ⟨#[]⟩,.int .i64 0] 114
  have e:(((w.alloc (.cells #[.int .i64 bw,.string bt,.int .i64 bv] 114)).alloc (.cells #[.int .i64 mw,.string mt,.int .i64 mv] 114)).alloc (.cells #[.int .i64 tw,.string tt,.int .i64 tv] 114)).heap.size=w.heap.size+1+1+1:=by simp
  rw[e]at this;rw[hwz];exact(this.below ((Below.refl _ _).alloc (Nat.le_refl _) _)))
 have HX4:=hid (show Cs wz (w.heap.size+1+1+1+1) [.int .i64 0,.string ⟨#[]⟩,.int .i64 0]from by
  have:=Cs.new ((((w.alloc (.cells #[.int .i64 bw,.string bt,.int .i64 bv] 114)).alloc (.cells #[.int .i64 mw,.string mt,.int .i64 mv] 114)).alloc (.cells #[.int .i64 tw,.string tt,.int .i64 tv] 114)).alloc (.cells #[.int .i64 0,.string ⟨#[]⟩,.int .i64 0] 114)) [.int .i64 0,.string ⟨#[]⟩,.int .i64 0] 114
  have e:((((w.alloc (.cells #[.int .i64 bw,.string bt,.int .i64 bv] 114)).alloc (.cells #[.int .i64 mw,.string mt,.int .i64 mv] 114)).alloc (.cells #[.int .i64 tw,.string tt,.int .i64 tv] 114)).alloc (.cells #[.int .i64 0,.string ⟨#[]⟩,.int .i64 0] 114)).heap.size=w.heap.size+1+1+1+1:=by simp
  rw[e]at this;rw[hwz];exact this)
 cases hmt:Mg.lk ⟨mw,mt,mv⟩ ⟨tw,tt,tv⟩with
 |true=>
  have HS:=hid (show Mg.stays ⟨bw,bt,bv⟩ ⟨mw,mt,mv⟩ ⟨tw,tt,tv⟩=⟨tw,tt,tv⟩from by rw[Mg.stays,if_pos (Or.inl hmt)]);have HGO:=hid (show Mg.goes ⟨bw,bt,bv⟩ ⟨mw,mt,mv⟩ ⟨tw,tt,tv⟩=Mg.zero from by rw[Mg.goes,if_pos (Or.inl hmt)]);have Hmt:Hid (((mw==tw) && (mt.toList==tt.toList))=true):=hmt;clear hmt;go_enter Tryz.func95,Tryz.ntmps95
  go_wp2_with fail;rw[←hwz];clear hwz;refine(like_any mw tw mt tt mv tv _).mono ?_
  rintro e w1 ⟨rfl,hb1⟩;rw[Hmt.out];have hb01:=below_tr hbz hb1;replace HX0:=hid (HX0.out.below hb1);replace HX1:=hid (HX1.out.below hb1);replace HX2:=hid (HX2.out.below hb1);replace HX3:=hid (HX3.out.below hb1);replace HX4:=hid (HX4.out.below hb1);try clear x00
  try clear x01
  try clear x02
  try clear x10
  try clear x11
  try clear x12
  try clear x20
  try clear x21
  try clear x22
  have x00:=HX0.out.cell 0 rfl;have x01:=HX0.out.cell 1 rfl;have x02:=HX0.out.cell 2 rfl;have x10:=HX1.out.cell 0 rfl;have x11:=HX1.out.cell 1 rfl;have x12:=HX1.out.cell 2 rfl;have x20:=HX2.out.cell 0 rfl;have x21:=HX2.out.cell 1 rfl;have x22:=HX2.out.cell 2 rfl;have y30:=HX3.out.cell 0 rfl;have g30:=HX3.out.fr 0;have y31:=HX3.out.cell 1 rfl;have g31:=HX3.out.fr 1;have y32:=HX3.out.cell 2 rfl;have g32:=HX3.out.fr 2;have y40:=HX4.out.cell 0 rfl;have g40:=HX4.out.fr 0;have y41:=HX4.out.cell 1 rfl;have g41:=HX4.out.fr 1;have y42:=HX4.out.cell 2 rfl;have g42:=HX4.out.fr 2;go_wp2_with fail;refine bodyPost_ret (v:= .tuple #[.agg #[.int .i64 tw,.string tt,.int .i64 tv],.agg #[.int .i64 0,.string ⟨#[]⟩,.int .i64 0]]) (by simp[results,Tryz.results95,go_sem,y30,y31,y32,y40,y41,y42]) rfl ⟨by rw[HS.out,HGO.out]<;>rfl,?_⟩
  exact((((((hb01.setCell (p:=⟨w.heap.size+1+1+1,0,none⟩) (by show w.heap.size≤w.heap.size+1+1+1;omega) _).setCell (p:=⟨w.heap.size+1+1+1,1,none⟩) (by show w.heap.size≤w.heap.size+1+1+1;omega) _).setCell (p:=⟨w.heap.size+1+1+1,2,none⟩) (by show w.heap.size≤w.heap.size+1+1+1;omega) _).setCell (p:=⟨w.heap.size+1+1+1+1,0,none⟩) (by show w.heap.size≤w.heap.size+1+1+1+1;omega) _).setCell (p:=⟨w.heap.size+1+1+1+1,1,none⟩) (by show w.heap.size≤w.heap.size+1+1+1+1;omega) _).setCell (p:=⟨w.heap.size+1+1+1+1,2,none⟩) (by show w.heap.size≤w.heap.size+1+1+1+1;omega) _)
 |false=>
  cases hmb:Mg.lk ⟨mw,mt,mv⟩ ⟨bw,bt,bv⟩with
  |true=>
   have HS:=hid (show Mg.stays ⟨bw,bt,bv⟩ ⟨mw,mt,mv⟩ ⟨tw,tt,tv⟩=⟨tw,tt,tv⟩from by rw[Mg.stays,if_pos (Or.inr hmb)]);have HGO:=hid (show Mg.goes ⟨bw,bt,bv⟩ ⟨mw,mt,mv⟩ ⟨tw,tt,tv⟩=Mg.zero from by rw[Mg.goes,if_pos (Or.inr hmb)]);have Hmt:Hid (((mw==tw) && (mt.toList==tt.toList))=false):=hmt;have Hmb:Hid (((mw==bw) && (mt.toList==bt.toList))=true):=hmb;clear hmt hmb;go_enter Tryz.func95,Tryz.ntmps95
   go_wp2_with fail;rw[←hwz];clear hwz;refine(like_any mw tw mt tt mv tv _).mono ?_
   rintro e w1 ⟨rfl,hb1⟩;rw[Hmt.out];have hb01:=below_tr hbz hb1;replace HX0:=hid (HX0.out.below hb1);replace HX1:=hid (HX1.out.below hb1);replace HX2:=hid (HX2.out.below hb1);replace HX3:=hid (HX3.out.below hb1);replace HX4:=hid (HX4.out.below hb1);try clear x00
   try clear x01
   try clear x02
   try clear x10
   try clear x11
   try clear x12
   try clear x20
   try clear x21
   try clear x22
   have x00:=HX0.out.cell 0 rfl;have x01:=HX0.out.cell 1 rfl;have x02:=HX0.out.cell 2 rfl;have x10:=HX1.out.cell 0 rfl;have x11:=HX1.out.cell 1 rfl;have x12:=HX1.out.cell 2 rfl;have x20:=HX2.out.cell 0 rfl;have x21:=HX2.out.cell 1 rfl;have x22:=HX2.out.cell 2 rfl;go_wp2_with fail;refine(like_any mw bw mt bt mv bv _).mono ?_
   rintro e w2 ⟨rfl,hb2⟩;rw[Hmb.out];have hb02:=below_tr hb01 hb2;replace HX0:=hid (HX0.out.below hb2);replace HX1:=hid (HX1.out.below hb2);replace HX2:=hid (HX2.out.below hb2);replace HX3:=hid (HX3.out.below hb2);replace HX4:=hid (HX4.out.below hb2);try clear x00
   try clear x01
   try clear x02
   try clear x10
   try clear x11
   try clear x12
   try clear x20
   try clear x21
   try clear x22
   have x00:=HX0.out.cell 0 rfl;have x01:=HX0.out.cell 1 rfl;have x02:=HX0.out.cell 2 rfl;have x10:=HX1.out.cell 0 rfl;have x11:=HX1.out.cell 1 rfl;have x12:=HX1.out.cell 2 rfl;have x20:=HX2.out.cell 0 rfl;have x21:=HX2.out.cell 1 rfl;have x22:=HX2.out.cell 2 rfl;have y30:=HX3.out.cell 0 rfl;have g30:=HX3.out.fr 0;have y31:=HX3.out.cell 1 rfl;have g31:=HX3.out.fr 1;have y32:=HX3.out.cell 2 rfl;have g32:=HX3.out.fr 2;have y40:=HX4.out.cell 0 rfl;have g40:=HX4.out.fr 0;have y41:=HX4.out.cell 1 rfl;have g41:=HX4.out.fr 1;have y42:=HX4.out.cell 2 rfl;have g42:=HX4.out.fr 2;go_wp2_with fail;refine bodyPost_ret (v:= .tuple #[.agg #[.int .i64 tw,.string tt,.int .i64 tv],.agg #[.int .i64 0,.string ⟨#[]⟩,.int .i64 0]]) (by simp[results,Tryz.results95,go_sem,y30,y31,y32,y40,y41,y42]) rfl ⟨by rw[HS.out,HGO.out]<;>rfl,?_⟩
   exact((((((hb02.setCell (p:=⟨w.heap.size+1+1+1,0,none⟩) (by show w.heap.size≤w.heap.size+1+1+1;omega) _).setCell (p:=⟨w.heap.size+1+1+1,1,none⟩) (by show w.heap.size≤w.heap.size+1+1+1;omega) _).setCell (p:=⟨w.heap.size+1+1+1,2,none⟩) (by show w.heap.size≤w.heap.size+1+1+1;omega) _).setCell (p:=⟨w.heap.size+1+1+1+1,0,none⟩) (by show w.heap.size≤w.heap.size+1+1+1+1;omega) _).setCell (p:=⟨w.heap.size+1+1+1+1,1,none⟩) (by show w.heap.size≤w.heap.size+1+1+1+1;omega) _).setCell (p:=⟨w.heap.size+1+1+1+1,2,none⟩) (by show w.heap.size≤w.heap.size+1+1+1+1;omega) _)
  |false=>
   have hno: ¬(Mg.lk ⟨mw,mt,mv⟩ ⟨tw,tt,tv⟩=true∨Mg.lk ⟨mw,mt,mv⟩ ⟨bw,bt,bv⟩=true):=by simp[hmt,hmb]
   cases htb:Mg.lk ⟨tw,tt,tv⟩ ⟨bw,bt,bv⟩with
   |true=>
    have HS:=hid (show Mg.stays ⟨bw,bt,bv⟩ ⟨mw,mt,mv⟩ ⟨tw,tt,tv⟩=⟨mw,mt,mv⟩from by rw[Mg.stays,if_neg hno,if_pos htb]);have HGO:=hid (show Mg.goes ⟨bw,bt,bv⟩ ⟨mw,mt,mv⟩ ⟨tw,tt,tv⟩=Mg.zero from by rw[Mg.goes,if_neg hno,if_pos htb]);have Hmt:Hid (((mw==tw) && (mt.toList==tt.toList))=false):=hmt;have Hmb:Hid (((mw==bw) && (mt.toList==bt.toList))=false):=hmb;have Htb:Hid (((tw==bw) && (tt.toList==bt.toList))=true):=htb;clear hmt hmb htb hno;go_enter Tryz.func95,Tryz.ntmps95
    go_wp2_with fail;rw[←hwz];clear hwz;refine(like_any mw tw mt tt mv tv _).mono ?_
    rintro e w1 ⟨rfl,hb1⟩;rw[Hmt.out];have hb01:=below_tr hbz hb1;replace HX0:=hid (HX0.out.below hb1);replace HX1:=hid (HX1.out.below hb1);replace HX2:=hid (HX2.out.below hb1);replace HX3:=hid (HX3.out.below hb1);replace HX4:=hid (HX4.out.below hb1);try clear x00
    try clear x01
    try clear x02
    try clear x10
    try clear x11
    try clear x12
    try clear x20
    try clear x21
    try clear x22
    have x00:=HX0.out.cell 0 rfl;have x01:=HX0.out.cell 1 rfl;have x02:=HX0.out.cell 2 rfl;have x10:=HX1.out.cell 0 rfl;have x11:=HX1.out.cell 1 rfl;have x12:=HX1.out.cell 2 rfl;have x20:=HX2.out.cell 0 rfl;have x21:=HX2.out.cell 1 rfl;have x22:=HX2.out.cell 2 rfl;go_wp2_with fail;refine(like_any mw bw mt bt mv bv _).mono ?_
    rintro e w2 ⟨rfl,hb2⟩;rw[Hmb.out];have hb02:=below_tr hb01 hb2;replace HX0:=hid (HX0.out.below hb2);replace HX1:=hid (HX1.out.below hb2);replace HX2:=hid (HX2.out.below hb2);replace HX3:=hid (HX3.out.below hb2);replace HX4:=hid (HX4.out.below hb2);try clear x00
    try clear x01
    try clear x02
    try clear x10
    try clear x11
    try clear x12
    try clear x20
    try clear x21
    try clear x22
    have x00:=HX0.out.cell 0 rfl;have x01:=HX0.out.cell 1 rfl;have x02:=HX0.out.cell 2 rfl;have x10:=HX1.out.cell 0 rfl;have x11:=HX1.out.cell 1 rfl;have x12:=HX1.out.cell 2 rfl;have x20:=HX2.out.cell 0 rfl;have x21:=HX2.out.cell 1 rfl;have x22:=HX2.out.cell 2 rfl;go_wp2_with fail;refine(like_any tw bw tt bt tv bv _).mono ?_
    rintro e w3 ⟨rfl,hb3⟩;rw[Htb.out];have hb03:=below_tr hb02 hb3;replace HX0:=hid (HX0.out.below hb3);replace HX1:=hid (HX1.out.below hb3);replace HX2:=hid (HX2.out.below hb3);replace HX3:=hid (HX3.out.below hb3);replace HX4:=hid (HX4.out.below hb3);try clear x00
    try clear x01
    try clear x02
    try clear x10
    try clear x11
    try clear x12
    try clear x20
    try clear x21
    try clear x22
    have x00:=HX0.out.cell 0 rfl;have x01:=HX0.out.cell 1 rfl;have x02:=HX0.out.cell 2 rfl;have x10:=HX1.out.cell 0 rfl;have x11:=HX1.out.cell 1 rfl;have x12:=HX1.out.cell 2 rfl;have x20:=HX2.out.cell 0 rfl;have x21:=HX2.out.cell 1 rfl;have x22:=HX2.out.cell 2 rfl;have y30:=HX3.out.cell 0 rfl;have g30:=HX3.out.fr 0;have y31:=HX3.out.cell 1 rfl;have g31:=HX3.out.fr 1;have y32:=HX3.out.cell 2 rfl;have g32:=HX3.out.fr 2;have y40:=HX4.out.cell 0 rfl;have g40:=HX4.out.fr 0;have y41:=HX4.out.cell 1 rfl;have g41:=HX4.out.fr 1;have y42:=HX4.out.cell 2 rfl;have g42:=HX4.out.fr 2;go_wp2_with fail;refine bodyPost_ret (v:= .tuple #[.agg #[.int .i64 mw,.string mt,.int .i64 mv],.agg #[.int .i64 0,.string ⟨#[]⟩,.int .i64 0]]) (by simp[results,Tryz.results95,go_sem,y30,y31,y32,y40,y41,y42]) rfl ⟨by rw[HS.out,HGO.out]<;>rfl,?_⟩
    exact((((((hb03.setCell (p:=⟨w.heap.size+1+1+1,0,none⟩) (by show w.heap.size≤w.heap.size+1+1+1;omega) _).setCell (p:=⟨w.heap.size+1+1+1,1,none⟩) (by show w.heap.size≤w.heap.size+1+1+1;omega) _).setCell (p:=⟨w.heap.size+1+1+1,2,none⟩) (by show w.heap.size≤w.heap.size+1+1+1;omega) _).setCell (p:=⟨w.heap.size+1+1+1+1,0,none⟩) (by show w.heap.size≤w.heap.size+1+1+1+1;omega) _).setCell (p:=⟨w.heap.size+1+1+1+1,1,none⟩) (by show w.heap.size≤w.heap.size+1+1+1+1;omega) _).setCell (p:=⟨w.heap.size+1+1+1+1,2,none⟩) (by show w.heap.size≤w.heap.size+1+1+1+1;omega) _)
   |false=>
    have hnt: ¬Mg.lk ⟨tw,tt,tv⟩ ⟨bw,bt,bv⟩=true:=by simp[htb]
    by_cases hm1:mw=1
    · have HS:=hid (show Mg.stays ⟨bw,bt,bv⟩ ⟨mw,mt,mv⟩ ⟨tw,tt,tv⟩=⟨mw,mt,mv⟩from by rw[Mg.stays,if_neg hno,if_neg hnt,if_pos (Or.inl hm1)])
      have HGO:=hid (show Mg.goes ⟨bw,bt,bv⟩ ⟨mw,mt,mv⟩ ⟨tw,tt,tv⟩=⟨tw,tt,tv⟩from by rw[Mg.goes,if_neg hno,if_neg hnt,if_pos (Or.inl hm1)]);have Hmt:Hid (((mw==tw) && (mt.toList==tt.toList))=false):=hmt;have Hmb:Hid (((mw==bw) && (mt.toList==bt.toList))=false):=hmb;have Htb:Hid (((tw==bw) && (tt.toList==bt.toList))=false):=htb;clear hmt hmb htb hno;have hm1':(mw==1)=true:=by simpa using hm1
      clear hm1 hnt;go_enter Tryz.func95,Tryz.ntmps95
      go_wp2_with fail;rw[←hwz];clear hwz;refine(like_any mw tw mt tt mv tv _).mono ?_
      rintro e w1 ⟨rfl,hb1⟩;rw[Hmt.out];have hb01:=below_tr hbz hb1;replace HX0:=hid (HX0.out.below hb1);replace HX1:=hid (HX1.out.below hb1);replace HX2:=hid (HX2.out.below hb1);replace HX3:=hid (HX3.out.below hb1);replace HX4:=hid (HX4.out.below hb1);try clear x00
      try clear x01
      try clear x02
      try clear x10
      try clear x11
      try clear x12
      try clear x20
      try clear x21
      try clear x22
      have x00:=HX0.out.cell 0 rfl;have x01:=HX0.out.cell 1 rfl;have x02:=HX0.out.cell 2 rfl;have x10:=HX1.out.cell 0 rfl;have x11:=HX1.out.cell 1 rfl;have x12:=HX1.out.cell 2 rfl;have x20:=HX2.out.cell 0 rfl;have x21:=HX2.out.cell 1 rfl;have x22:=HX2.out.cell 2 rfl;go_wp2_with fail;refine(like_any mw bw mt bt mv bv _).mono ?_
      rintro e w2 ⟨rfl,hb2⟩;rw[Hmb.out];have hb02:=below_tr hb01 hb2;replace HX0:=hid (HX0.out.below hb2);replace HX1:=hid (HX1.out.below hb2);replace HX2:=hid (HX2.out.below hb2);replace HX3:=hid (HX3.out.below hb2);replace HX4:=hid (HX4.out.below hb2);try clear x00
      try clear x01
      try clear x02
      try clear x10
      try clear x11
      try clear x12
      try clear x20
      try clear x21
      try clear x22
      have x00:=HX0.out.cell 0 rfl;have x01:=HX0.out.cell 1 rfl;have x02:=HX0.out.cell 2 rfl;have x10:=HX1.out.cell 0 rfl;have x11:=HX1.out.cell 1 rfl;have x12:=HX1.out.cell 2 rfl;have x20:=HX2.out.cell 0 rfl;have x21:=HX2.out.cell 1 rfl;have x22:=HX2.out.cell 2 rfl;go_wp2_with fail;refine(like_any tw bw tt bt tv bv _).mono ?_
      rintro e w3 ⟨rfl,hb3⟩;rw[Htb.out];have hb03:=below_tr hb02 hb3;replace HX0:=hid (HX0.out.below hb3);replace HX1:=hid (HX1.out.below hb3);replace HX2:=hid (HX2.out.below hb3);replace HX3:=hid (HX3.out.below hb3);replace HX4:=hid (HX4.out.below hb3);try clear x00
      try clear x01
      try clear x02
      try clear x10
      try clear x11
      try clear x12
      try clear x20
      try clear x21
      try clear x22
      have x00:=HX0.out.cell 0 rfl;have x01:=HX0.out.cell 1 rfl;have x02:=HX0.out.cell 2 rfl;have x10:=HX1.out.cell 0 rfl;have x11:=HX1.out.cell 1 rfl;have x12:=HX1.out.cell 2 rfl;have x20:=HX2.out.cell 0 rfl;have x21:=HX2.out.cell 1 rfl;have x22:=HX2.out.cell 2 rfl;have y30:=HX3.out.cell 0 rfl;have g30:=HX3.out.fr 0;have y31:=HX3.out.cell 1 rfl;have g31:=HX3.out.fr 1;have y32:=HX3.out.cell 2 rfl;have g32:=HX3.out.fr 2;have y40:=HX4.out.cell 0 rfl;have g40:=HX4.out.fr 0;have y41:=HX4.out.cell 1 rfl;have g41:=HX4.out.fr 1;have y42:=HX4.out.cell 2 rfl;have g42:=HX4.out.fr 2;go_wp2_with fail;go_region
      go_wp2_with fail;refine bodyPost_ret (v:= .tuple #[.agg #[.int .i64 mw,.string mt,.int .i64 mv],.agg #[.int .i64 tw,.string tt,.int .i64 tv]]) (by simp[results,Tryz.results95,go_sem,y30,y31,y32,y40,y41,y42]) rfl ⟨by rw[HS.out,HGO.out]<;>rfl,?_⟩
      exact((((((hb03.setCell (p:=⟨w.heap.size+1+1+1,0,none⟩) (by show w.heap.size≤w.heap.size+1+1+1;omega) _).setCell (p:=⟨w.heap.size+1+1+1,1,none⟩) (by show w.heap.size≤w.heap.size+1+1+1;omega) _).setCell (p:=⟨w.heap.size+1+1+1,2,none⟩) (by show w.heap.size≤w.heap.size+1+1+1;omega) _).setCell (p:=⟨w.heap.size+1+1+1+1,0,none⟩) (by show w.heap.size≤w.heap.size+1+1+1+1;omega) _).setCell (p:=⟨w.heap.size+1+1+1+1,1,none⟩) (by show w.heap.size≤w.heap.size+1+1+1+1;omega) _).setCell (p:=⟨w.heap.size+1+1+1+1,2,none⟩) (by show w.heap.size≤w.heap.size+1+1+1+1;omega) _).drew
    · have hm1':(mw==1)=false:=by simpa using hm1
      by_cases ht0:tw=0
      · have HS:=hid (show Mg.stays ⟨bw,bt,bv⟩ ⟨mw,mt,mv⟩ ⟨tw,tt,tv⟩=⟨mw,mt,mv⟩from by rw[Mg.stays,if_neg hno,if_neg hnt,if_pos (Or.inr ht0)])
        have HGO:=hid (show Mg.goes ⟨bw,bt,bv⟩ ⟨mw,mt,mv⟩ ⟨tw,tt,tv⟩=⟨tw,tt,tv⟩from by rw[Mg.goes,if_neg hno,if_neg hnt,if_pos (Or.inr ht0)]);have Hmt:Hid (((mw==tw) && (mt.toList==tt.toList))=false):=hmt;have Hmb:Hid (((mw==bw) && (mt.toList==bt.toList))=false):=hmb;have Htb:Hid (((tw==bw) && (tt.toList==bt.toList))=false):=htb;clear hmt hmb htb hno;have ht0':(tw==0)=true:=by simpa using ht0
        clear hm1 hnt ht0;go_enter Tryz.func95,Tryz.ntmps95
        go_wp2_with fail;rw[←hwz];clear hwz;refine(like_any mw tw mt tt mv tv _).mono ?_
        rintro e w1 ⟨rfl,hb1⟩;rw[Hmt.out];have hb01:=below_tr hbz hb1;replace HX0:=hid (HX0.out.below hb1);replace HX1:=hid (HX1.out.below hb1);replace HX2:=hid (HX2.out.below hb1);replace HX3:=hid (HX3.out.below hb1);replace HX4:=hid (HX4.out.below hb1);try clear x00
        try clear x01
        try clear x02
        try clear x10
        try clear x11
        try clear x12
        try clear x20
        try clear x21
        try clear x22
        have x00:=HX0.out.cell 0 rfl;have x01:=HX0.out.cell 1 rfl;have x02:=HX0.out.cell 2 rfl;have x10:=HX1.out.cell 0 rfl;have x11:=HX1.out.cell 1 rfl;have x12:=HX1.out.cell 2 rfl;have x20:=HX2.out.cell 0 rfl;have x21:=HX2.out.cell 1 rfl;have x22:=HX2.out.cell 2 rfl;go_wp2_with fail;refine(like_any mw bw mt bt mv bv _).mono ?_
        rintro e w2 ⟨rfl,hb2⟩;rw[Hmb.out];have hb02:=below_tr hb01 hb2;replace HX0:=hid (HX0.out.below hb2);replace HX1:=hid (HX1.out.below hb2);replace HX2:=hid (HX2.out.below hb2);replace HX3:=hid (HX3.out.below hb2);replace HX4:=hid (HX4.out.below hb2);try clear x00
        try clear x01
        try clear x02
        try clear x10
        try clear x11
        try clear x12
        try clear x20
        try clear x21
        try clear x22
        have x00:=HX0.out.cell 0 rfl;have x01:=HX0.out.cell 1 rfl;have x02:=HX0.out.cell 2 rfl;have x10:=HX1.out.cell 0 rfl;have x11:=HX1.out.cell 1 rfl;have x12:=HX1.out.cell 2 rfl;have x20:=HX2.out.cell 0 rfl;have x21:=HX2.out.cell 1 rfl;have x22:=HX2.out.cell 2 rfl;go_wp2_with fail;refine(like_any tw bw tt bt tv bv _).mono ?_
        rintro e w3 ⟨rfl,hb3⟩;rw[Htb.out];have hb03:=below_tr hb02 hb3;replace HX0:=hid (HX0.out.below hb3);replace HX1:=hid (HX1.out.below hb3);replace HX2:=hid (HX2.out.below hb3);replace HX3:=hid (HX3.out.below hb3);replace HX4:=hid (HX4.out.below hb3);try clear x00
        try clear x01
        try clear x02
        try clear x10
        try clear x11
        try clear x12
        try clear x20
        try clear x21
        try clear x22
        have x00:=HX0.out.cell 0 rfl;have x01:=HX0.out.cell 1 rfl;have x02:=HX0.out.cell 2 rfl;have x10:=HX1.out.cell 0 rfl;have x11:=HX1.out.cell 1 rfl;have x12:=HX1.out.cell 2 rfl;have x20:=HX2.out.cell 0 rfl;have x21:=HX2.out.cell 1 rfl;have x22:=HX2.out.cell 2 rfl;have y30:=HX3.out.cell 0 rfl;have g30:=HX3.out.fr 0;have y31:=HX3.out.cell 1 rfl;have g31:=HX3.out.fr 1;have y32:=HX3.out.cell 2 rfl;have g32:=HX3.out.fr 2;have y40:=HX4.out.cell 0 rfl;have g40:=HX4.out.fr 0;have y41:=HX4.out.cell 1 rfl;have g41:=HX4.out.fr 1;have y42:=HX4.out.cell 2 rfl;have g42:=HX4.out.fr 2;go_wp2_with fail;go_region
        go_wp2_with fail;refine bodyPost_ret (v:= .tuple #[.agg #[.int .i64 mw,.string mt,.int .i64 mv],.agg #[.int .i64 tw,.string tt,.int .i64 tv]]) (by simp[results,Tryz.results95,go_sem,y30,y31,y32,y40,y41,y42]) rfl ⟨by rw[HS.out,HGO.out]<;>rfl,?_⟩
        exact((((((hb03.setCell (p:=⟨w.heap.size+1+1+1,0,none⟩) (by show w.heap.size≤w.heap.size+1+1+1;omega) _).setCell (p:=⟨w.heap.size+1+1+1,1,none⟩) (by show w.heap.size≤w.heap.size+1+1+1;omega) _).setCell (p:=⟨w.heap.size+1+1+1,2,none⟩) (by show w.heap.size≤w.heap.size+1+1+1;omega) _).setCell (p:=⟨w.heap.size+1+1+1+1,0,none⟩) (by show w.heap.size≤w.heap.size+1+1+1+1;omega) _).setCell (p:=⟨w.heap.size+1+1+1+1,1,none⟩) (by show w.heap.size≤w.heap.size+1+1+1+1;omega) _).setCell (p:=⟨w.heap.size+1+1+1+1,2,none⟩) (by show w.heap.size≤w.heap.size+1+1+1+1;omega) _).drew
      · have hnn: ¬(mw=1∨tw=0):=by omega
        have HS:=hid (show Mg.stays ⟨bw,bt,bv⟩ ⟨mw,mt,mv⟩ ⟨tw,tt,tv⟩=⟨tw,tt,tv⟩from by rw[Mg.stays,if_neg hno,if_neg hnt,if_neg hnn]);have HGO:=hid (show Mg.goes ⟨bw,bt,bv⟩ ⟨mw,mt,mv⟩ ⟨tw,tt,tv⟩=⟨mw,mt,mv⟩from by rw[Mg.goes,if_neg hno,if_neg hnt,if_neg hnn]);have Hmt:Hid (((mw==tw) && (mt.toList==tt.toList))=false):=hmt;have Hmb:Hid (((mw==bw) && (mt.toList==bt.toList))=false):=hmb;have Htb:Hid (((tw==bw) && (tt.toList==bt.toList))=false):=htb;clear hmt hmb htb hno;have ht0':(tw==0)=false:=by simpa using ht0
        clear hm1 hnt ht0 hnn;go_enter Tryz.func95,Tryz.ntmps95
        go_wp2_with fail;rw[←hwz];clear hwz;refine(like_any mw tw mt tt mv tv _).mono ?_
        rintro e w1 ⟨rfl,hb1⟩;rw[Hmt.out];have hb01:=below_tr hbz hb1;replace HX0:=hid (HX0.out.below hb1);replace HX1:=hid (HX1.out.below hb1);replace HX2:=hid (HX2.out.below hb1);replace HX3:=hid (HX3.out.below hb1);replace HX4:=hid (HX4.out.below hb1);try clear x00
        try clear x01
        try clear x02
        try clear x10
        try clear x11
        try clear x12
        try clear x20
        try clear x21
        try clear x22
        have x00:=HX0.out.cell 0 rfl;have x01:=HX0.out.cell 1 rfl;have x02:=HX0.out.cell 2 rfl;have x10:=HX1.out.cell 0 rfl;have x11:=HX1.out.cell 1 rfl;have x12:=HX1.out.cell 2 rfl;have x20:=HX2.out.cell 0 rfl;have x21:=HX2.out.cell 1 rfl;have x22:=HX2.out.cell 2 rfl;go_wp2_with fail;refine(like_any mw bw mt bt mv bv _).mono ?_
        rintro e w2 ⟨rfl,hb2⟩;rw[Hmb.out];have hb02:=below_tr hb01 hb2;replace HX0:=hid (HX0.out.below hb2);replace HX1:=hid (HX1.out.below hb2);replace HX2:=hid (HX2.out.below hb2);replace HX3:=hid (HX3.out.below hb2);replace HX4:=hid (HX4.out.below hb2);try clear x00
        try clear x01
        try clear x02
        try clear x10
        try clear x11
        try clear x12
        try clear x20
        try clear x21
        try clear x22
        have x00:=HX0.out.cell 0 rfl;have x01:=HX0.out.cell 1 rfl;have x02:=HX0.out.cell 2 rfl;have x10:=HX1.out.cell 0 rfl;have x11:=HX1.out.cell 1 rfl;have x12:=HX1.out.cell 2 rfl;have x20:=HX2.out.cell 0 rfl;have x21:=HX2.out.cell 1 rfl;have x22:=HX2.out.cell 2 rfl;go_wp2_with fail;refine(like_any tw bw tt bt tv bv _).mono ?_
        rintro e w3 ⟨rfl,hb3⟩;rw[Htb.out];have hb03:=below_tr hb02 hb3;replace HX0:=hid (HX0.out.below hb3);replace HX1:=hid (HX1.out.below hb3);replace HX2:=hid (HX2.out.below hb3);replace HX3:=hid (HX3.out.below hb3);replace HX4:=hid (HX4.out.below hb3);try clear x00
        try clear x01
        try clear x02
        try clear x10
        try clear x11
        try clear x12
        try clear x20
        try clear x21
        try clear x22
        have x00:=HX0.out.cell 0 rfl;have x01:=HX0.out.cell 1 rfl;have x02:=HX0.out.cell 2 rfl;have x10:=HX1.out.cell 0 rfl;have x11:=HX1.out.cell 1 rfl;have x12:=HX1.out.cell 2 rfl;have x20:=HX2.out.cell 0 rfl;have x21:=HX2.out.cell 1 rfl;have x22:=HX2.out.cell 2 rfl;have y30:=HX3.out.cell 0 rfl;have g30:=HX3.out.fr 0;have y31:=HX3.out.cell 1 rfl;have g31:=HX3.out.fr 1;have y32:=HX3.out.cell 2 rfl;have g32:=HX3.out.fr 2;have y40:=HX4.out.cell 0 rfl;have g40:=HX4.out.fr 0;have y41:=HX4.out.cell 1 rfl;have g41:=HX4.out.fr 1;have y42:=HX4.out.cell 2 rfl;have g42:=HX4.out.fr 2;go_wp2_with fail;go_region
        go_wp2_with fail;refine bodyPost_ret (v:= .tuple #[.agg #[.int .i64 tw,.string tt,.int .i64 tv],.agg #[.int .i64 mw,.string mt,.int .i64 mv]]) (by simp[results,Tryz.results95,go_sem,y30,y31,y32,y40,y41,y42]) rfl ⟨by rw[HS.out,HGO.out]<;>rfl,?_⟩
        exact((((((hb03.setCell (p:=⟨w.heap.size+1+1+1,0,none⟩) (by show w.heap.size≤w.heap.size+1+1+1;omega) _).setCell (p:=⟨w.heap.size+1+1+1,1,none⟩) (by show w.heap.size≤w.heap.size+1+1+1;omega) _).setCell (p:=⟨w.heap.size+1+1+1,2,none⟩) (by show w.heap.size≤w.heap.size+1+1+1;omega) _).setCell (p:=⟨w.heap.size+1+1+1+1,0,none⟩) (by show w.heap.size≤w.heap.size+1+1+1+1;omega) _).setCell (p:=⟨w.heap.size+1+1+1+1,1,none⟩) (by show w.heap.size≤w.heap.size+1+1+1+1;omega) _).setCell (p:=⟨w.heap.size+1+1+1+1,2,none⟩) (by show w.heap.size≤w.heap.size+1+1+1+1;omega) _).drew
end Go.Proofs.YtlllcifehellpaaGreatDoor
namespace Go.Proofs.YtlllcifehellpaaGreatDoor
open Go.RowKit Go.Maps

namespace Sp
/-- Keys that are texts. -/
def Kd (l:Lit):Prop:= ∃b,l= .string b
theorem oneKind:OneKind Kd:=⟨fun⟨b,h⟩=>by rw[h];trivial,fun ha hb hne=>ChangeMaps.before_total ha hb hne⟩
theorem key_kd (p:ByteArray):Kd (key p):=⟨_,rfl⟩
theorem canonD (L:List En):CanonK Kd (D L):=by
 refine snoc_ind (P:=fun L=>CanonK Kd (D L)) ⟨[],rfl,List.Pairwise.nil,fun p hp=>by cases hp⟩ ?_ L
 intro L e ih;rw[D_snoc];exact canonK_put oneKind (key_kd _) _ ih
theorem D_has (L:List En) (k:Lit):has (D L) k=true↔ ∃e∈L,key e.path=k:=by
 refine snoc_ind (P:=fun L=>has (D L) k=true↔ ∃e∈L,key e.path=k) ⟨(fun h=>by cases h),fun⟨e,he,_⟩=>by cases he⟩ ?_ L
 intro L e ih;rw[D_snoc,put];by_cases hk:key e.path=k
 · subst hk
   rw[has_put_same (D_map L) (oneKind.key (key_kd _))];exact⟨fun _=>⟨e,by simp,rfl⟩,fun _=>rfl⟩
 · rw[has_put_other (fun h=>hk h.symm),ih]
   constructor
   · rintro ⟨x,hx,hxk⟩
     exact⟨x,by simp[hx],hxk⟩
   · rintro ⟨x,hx,hxk⟩
     rcases List.mem_append.1 hx with h|h
     · exact⟨x,h,hxk⟩
     · rw[List.mem_singleton]at h
       exact absurd (h▸hxk) hk
/-- A list with a spot in its place. -/
def put1 (e:En) (L:List En):List En:=Pp.ins e (L.filter (fun x=> !Pp.atB e.path.data.toList x))
abbrev Rise (L:List En):Prop:=L.Pairwise (fun x y=>Pp.lt x y=true)
theorem put1_rise {e:En} {L:List En} (h:Rise L):Rise (put1 e L):=by
 refine Pp.ins_sorted e (h.filter _) ?_
 intro y hy he;have:=(List.mem_filter.1 hy).2
 rw[Pp.atB]at this;simp[he]at this
theorem mem_put1 {e x:En} {L:List En}:x∈put1 e L↔x=e∨(x∈L∧x.path.data.toList≠e.path.data.toList):=by
 rw[put1,(Pp.ins_perm e _).mem_iff,List.mem_cons,List.mem_filter,Bool.not_eq_true',←Bool.not_eq_true,atB_iff]
theorem at_iff {L:List En} (h:Apart L) {p:List UInt8} {e:En}:at_ L p=some e↔e∈L∧e.path.data.toList=p:=by
 constructor
 · intro he
   exact⟨List.mem_of_find?_eq_some he,atB_iff.1 (List.find?_some he)⟩
 · rintro ⟨he,rfl⟩
   have h1:(at_ L e.path.data.toList).isSome:=by
    rw[at_,List.find?_isSome];exact⟨e,he,atB_iff.2 rfl⟩
   obtain⟨x,hx⟩:=Option.isSome_iff_exists.1 h1
   have hp:=atB_iff.1 (List.find?_some hx);have hm:=List.mem_of_find?_eq_some hx;rw[hx];by_cases hxe:x=e
   · rw[hxe]
   · exfalso
     rcases List.mem_iff_getElem.1 hm with⟨i,hi,rfl⟩
     rcases List.mem_iff_getElem.1 he with⟨j,hj,rfl⟩
     have hij:i≠j:=fun e=>hxe (by subst e;rfl)
     rcases Nat.lt_or_ge i j with hlt|hge
     · exact List.pairwise_iff_getElem.1 h i j hi hj hlt hp
     · exact List.pairwise_iff_getElem.1 h j i hj hi (by omega) hp.symm
theorem at_none {L:List En} {p:List UInt8}:at_ L p=none↔ ∀e∈L,e.path.data.toList≠p:=by
 rw[at_,List.find?_eq_none];exact⟨fun h e he hp=>h e he (atB_iff.2 hp),fun h e he hb=>h e he (atB_iff.1 hb)⟩
theorem at_put1 {e:En} {L:List En} (h:Rise L) (p:List UInt8):at_ (put1 e L) p=if e.path.data.toList=p then some e else at_ L p:=by
 have ha:=apart_rise h;have hb:=apart_rise (put1_rise (e:=e) h);by_cases hp:e.path.data.toList=p
 · rw[if_pos hp]
   exact(at_iff hb).2 ⟨mem_put1.2 (Or.inl rfl),hp⟩
 · rw[if_neg hp]
   cases hx:at_ L p with
   |none=>
    rw[at_none]at hx⊢;intro x hxm;rcases mem_put1.1 hxm with rfl|⟨hxl,_⟩
    · exact hp
    · exact hx x hxl
   |some x=>
    obtain⟨h1,h2⟩:=(at_iff ha).1 hx
    exact(at_iff hb).2 ⟨mem_put1.2 (Or.inr ⟨h1,fun e'=>hp (by rw[←e',h2])⟩),h2⟩
theorem D_put {L:List En} (h:Rise L) (e:En):put (D L) e=D (put1 e L):=by
 have ha:=apart_rise h;have hc:CanonK Kd (put (D L) e):=canonK_put oneKind (key_kd _) _ (canonD L);refine ext (hc.canon oneKind) ((canonD _).canon oneKind) (fun k=>Bool.eq_iff_iff.2 ?_) (fun k z hin=>?_)
 · by_cases hk:k=key e.path
   · subst hk
     rw[put,has_put_same (D_map L) (oneKind.key (key_kd _)),D_has];exact⟨fun _=>⟨e,mem_put1.2 (Or.inl rfl),rfl⟩,fun _=>rfl⟩
   · rw[put,has_put_other hk,D_has,D_has]
     constructor
     · rintro ⟨x,hx,hxk⟩
       exact⟨x,mem_put1.2 (Or.inr ⟨hx,fun e'=>hk (by rw[←hxk,key,key,e'])⟩),hxk⟩
     · rintro ⟨x,hx,hxk⟩
       rcases mem_put1.1 hx with rfl|⟨hxl,_⟩
       · exact absurd hxk.symm hk
       · exact⟨x,hxl,hxk⟩
 · by_cases hk:k=key e.path
   · subst hk
     rw[put,atKey_put_same (D_map L) (oneKind.key (key_kd _)),D_at (apart_rise (put1_rise h)),at_put1 h,if_pos rfl]
   · rw[put,has_put_other hk]at hin
     obtain⟨x,_,hxk⟩:=(D_has L k).1 hin
     subst hxk;rw[put,atKey_put_other hk,D_at ha,D_at (apart_rise (put1_rise h)),at_put1 h,if_neg (fun e'=>hk (by rw[key,key,e']))]
end Sp
end Go.Proofs.YtlllcifehellpaaGreatDoor
namespace Go.Proofs.YtlllcifehellpaaGreatDoor
open Go.RowKit Go.Maps Go.WideMaps

/-- What is at a path of a list, as a spot. -/
def Mg.st (L:List En) (p:List UInt8):Spo:=⟨Sp.wAt L p,Sp.tAt L p,Sp.vAt L p⟩
theorem spotSt {b n:Nat} {w:World} {L:List En} (h:w.ownsMap Tryz.prog 9 Sp.rd b n (Sp.D L)) (hL:Sp.Apart L) (p:ByteArray) (hp:p.size≤maxLen):(Instr.lookup 96 (.map (some b)) (.string p) false).run Tryz.prog w= .ok (.agg #[.int .i64 (Mg.st L p.data.toList).w,.string (Mg.st L p.data.toList).t,.int .i64 (Mg.st L p.data.toList).v]) w:=by
 have:=spotAt_any h hL p hp
 rw[Sp.val_eq]at this;exact this
/-- A joining: its box, and what its three maps hold. -/
structure Join (w:World) (j bm bt bn:Nat) (vc:Value) (M T N:List En):Prop where
 box:Cs w j [.map (some bm),.map (some bt),.map (some bn),vc]
 mine: ∃n,n≤1000000∧w.ownsMap Tryz.prog 9 Sp.rd bm n (Sp.D M)
 theirs: ∃n,n≤1000000∧w.ownsMap Tryz.prog 9 Sp.rd bt n (Sp.D T)
 now: ∃n,n≤1000000∧w.ownsMap Tryz.prog 9 Sp.rd bn n (Sp.D N)
theorem Join.below {w w':World} {j bm bt bn:Nat} {vc:Value} {M T N:List En} (h:Join w j bm bt bn vc M T N) (hw:Below w.heap.size w w'):Join w' j bm bt bn vc M T N:=by
 obtain⟨h1,⟨n1,l1,m1⟩,⟨n2,l2,m2⟩,⟨n3,l3,m3⟩⟩:=h
 exact⟨h1.below hw,⟨n1,l1,omap_below m1 hw m1.lt⟩,⟨n2,l2,omap_below m2 hw m2.lt⟩,⟨n3,l3,omap_below m3 hw m3.lt⟩⟩
namespace Mg
def free (M T N:List En) (p:List UInt8):Bool:=((st M p).w==0) && ((st T p).w==0) && ((st N p).w==0)
def ver (M T N:List En) (p:List UInt8):Int:=if lk (st N p) (st T p)=true then(st T p).v else if lk (st N p) (st M p)=true then(st M p).v else 1
end Mg
theorem Tryz.fieldVer (a:Int) (s:ByteArray) (n:Int) (W:World):(Instr.field 114 (.agg #[.int .i64 a,.string s,.int .i64 n]) 2).run Tryz.prog W= .ok (.int .i64 n) W:=by
 have h:(Instr.field 114 (.agg #[.int .i64 a,.string s,.int .i64 n]) 2).run Tryz.prog W= .ok (#[Value.int .i64 a,Value.string s,Value.int .i64 n][2]) W:=by
  simp[Instr.field,run_underlying Tryz.underlying114,asAgg,part,go_sem]
  try rfl
 exact h
set_option maxRecDepth 100000 in
set_option maxHeartbeats 2000000 in
theorem isFree_any {w:World} {j bm bt bn:Nat} {vc:Value} {M T N:List En} (h:Join w j bm bt bn vc M T N) (hM:Sp.Apart M) (hT:Sp.Apart T) (hN:Sp.Apart N) (p:ByteArray) (hp:p.size≤maxLen):
    Calls Tryz.prog 99 #[.pointer (some ⟨j,0,none⟩),.string p] w fun e w'=>e= .returned (.bool (Mg.free M T N p.data.toList))∧Below w.heap.size w w':=by
 obtain⟨h1,⟨n1,_,m1⟩,⟨n2,_,m2⟩,⟨n3,_,m3⟩⟩:=h
 have k1:=spotSt m1 hM p hp;have k2:=spotSt m2 hT p hp;have k3:=spotSt m3 hN p hp;have c0:=h1.cell 0 rfl;have c1:=h1.cell 1 rfl;have c2:=h1.cell 2 rfl;have HF:=hid (show Mg.free M T N p.data.toList=(((Mg.st M p.data.toList).w==0) && ((Mg.st T p.data.toList).w==0) && ((Mg.st N p.data.toList).w==0))from rfl);generalize Mg.st M p.data.toList=x at*;generalize Mg.st T p.data.toList=y at*;generalize Mg.st N p.data.toList=z at*;have hfd:=Tryz.fieldWhat;clear h1 m1 m2 m3;cases hx:(x.w==0)with
 |false=>
  go_enter Tryz.func99,Tryz.ntmps99
  go_wp2;go_ret;exact⟨by rw[HF.out,hx];rfl,Below.refl _ _⟩
 |true=>
  cases hy:(y.w==0)with
  |false=>
   go_enter Tryz.func99,Tryz.ntmps99
   go_wp2;go_ret;exact⟨by rw[HF.out,hx,hy];rfl,Below.refl _ _⟩
  |true=>
   go_enter Tryz.func99,Tryz.ntmps99
   go_wp2;go_ret;exact⟨by rw[HF.out,hx,hy];simp,Below.refl _ _⟩
set_option maxRecDepth 100000 in
set_option maxHeartbeats 2000000 in
theorem version_any {w:World} {j bm bt bn:Nat} {vc:Value} {M T N:List En} (h:Join w j bm bt bn vc M T N) (hM:Sp.Apart M) (hT:Sp.Apart T) (hN:Sp.Apart N) (p:ByteArray) (hp:p.size≤maxLen):
    Calls Tryz.prog 78 #[.pointer (some ⟨j,0,none⟩),.string p] w fun e w'=>e= .returned (.int .i64 (Mg.ver M T N p.data.toList))∧Below w.heap.size w w':=by
 have HJ:=hid h
 have HK:Hid (∀W,Below w.heap.size w W→(Instr.lookup 96 (.map (some bm)) (.string p) false).run Tryz.prog W= .ok (.agg #[.int .i64 (Mg.st M p.data.toList).w,.string (Mg.st M p.data.toList).t,.int .i64 (Mg.st M p.data.toList).v]) W∧(Instr.lookup 96 (.map (some bt)) (.string p) false).run Tryz.prog W= .ok (.agg #[.int .i64 (Mg.st T p.data.toList).w,.string (Mg.st T p.data.toList).t,.int .i64 (Mg.st T p.data.toList).v]) W∧(Instr.lookup 96 (.map (some bn)) (.string p) false).run Tryz.prog W= .ok (.agg #[.int .i64 (Mg.st N p.data.toList).w,.string (Mg.st N p.data.toList).t,.int .i64 (Mg.st N p.data.toList).v]) W):=(fun W hW=>by
  obtain⟨_,⟨_,_,m1⟩,⟨_,_,m2⟩,⟨_,_,m3⟩⟩:=HJ.out.below hW
  exact⟨spotSt m1 hM p hp,spotSt m2 hT p hp,spotSt m3 hN p hp⟩:_)
 have HBX:=hid h.box;obtain⟨k1,k2,k3⟩:=HK.out w (Below.refl _ _)
 have c0:=h.box.cell 0 rfl;have c1:=h.box.cell 1 rfl;have c2:=h.box.cell 2 rfl;have hfd:=Tryz.fieldVer;have HV:Hid (Mg.ver M T N p.data.toList=if Mg.lk (Mg.st N p.data.toList) (Mg.st T p.data.toList)=true then(Mg.st T p.data.toList).v else if Mg.lk (Mg.st N p.data.toList) (Mg.st M p.data.toList)=true then(Mg.st M p.data.toList).v else 1):=(rfl:_)
 generalize Mg.st M p.data.toList=x at*;generalize Mg.st T p.data.toList=y at*;generalize Mg.st N p.data.toList=z at*;clear h hM hT hN;obtain⟨wz,hwz⟩: ∃wz,wz=w.alloc (.cells #[.int .i64 z.w,.string z.t,.int .i64 z.v] 114):=⟨_,rfl⟩
 have hbz:Below w.heap.size w wz:=by rw[hwz];exact(Below.refl _ _).alloc (Nat.le_refl _) _
 have hjl:=HBX.out.lt;have HX:=hid (show Cs wz w.heap.size [.int .i64 z.w,.string z.t,.int .i64 z.v]from by rw[hwz];exact Cs.new _ [.int .i64 z.w,.string z.t,.int .i64 z.v] _);cases h1:Mg.lk z y with
 |true=>
  have HE:=hid (show Mg.ver M T N p.data.toList=y.v from by rw[HV.out,if_pos h1]);have H1:Hid (((z.w==y.w) && (z.t.toList==y.t.toList))=true):=h1;clear h1 HV;have c0':=c0;go_enter Tryz.func78,Tryz.ntmps78
  go_wp2_with fail;rw[←hwz];clear hwz k1 k2 k3 c0 c1 c2 c0';obtain⟨q1,q2,q3⟩:=HK.out wz.drew hbz.drew
  have x0:=(HX.out).cell 0 rfl;have x1:=(HX.out).cell 1 rfl;have x2:=(HX.out).cell 2 rfl;have d0:=(HBX.out.below hbz).cell 0 rfl;have d1:=(HBX.out.below hbz).cell 1 rfl;go_region_with (go_at_call 101;refine(like_any z.w y.w z.t y.t z.v y.v _).mono ?_;rintro e w1 ⟨rfl,hb1⟩;rw[H1.out])
  all_goals
   have hb01:=below_tr hbz.drew hb1;obtain⟨r1,r2,r3⟩:=HK.out w1 hb01
   have f0:=(HBX.out.below hb01).cell 0 rfl;have f1:=(HBX.out.below hb01).cell 1 rfl;go_wp2_with fail;go_ret;exact⟨by rw[HE.out]<;>rfl,hb01⟩
 |false=>
  cases h2:Mg.lk z x with
  |true=>
   have HE:=hid (show Mg.ver M T N p.data.toList=x.v from by rw[HV.out,if_neg (by simp[h1]),if_pos h2]);have H1:Hid (((z.w==y.w) && (z.t.toList==y.t.toList))=false):=h1;have H2:Hid (((z.w==x.w) && (z.t.toList==x.t.toList))=true):=h2;clear h1 h2 HV;have c0':=c0;go_enter Tryz.func78,Tryz.ntmps78
   go_wp2_with fail;rw[←hwz];clear hwz k1 k2 k3 c0 c1 c2 c0';obtain⟨q1,q2,q3⟩:=HK.out wz.drew hbz.drew
   have x0:=(HX.out).cell 0 rfl;have x1:=(HX.out).cell 1 rfl;have x2:=(HX.out).cell 2 rfl;have d0:=(HBX.out.below hbz).cell 0 rfl;have d1:=(HBX.out.below hbz).cell 1 rfl;go_region_with (go_at_call 101;refine(like_any z.w y.w z.t y.t z.v y.v _).mono ?_;rintro e w1 ⟨rfl,hb1⟩;rw[H1.out])
   all_goals
    have hb01:=below_tr hbz.drew hb1;clear q1 q2 q3 x0 x1 x2 d0 d1;have HX1:=hid (HX.out.below ((Below.refl _ _).drew.trans hb1));go_wp2_with fail;obtain⟨q1,q2,q3⟩:=HK.out w1.drew hb01.drew
    have x0:=(HX1.out).cell 0 rfl;have x1:=(HX1.out).cell 1 rfl;have x2:=(HX1.out).cell 2 rfl;have d0:=(HBX.out.below hb01).cell 0 rfl;have d1:=(HBX.out.below hb01).cell 1 rfl;go_region_with (go_at_call 101;refine(like_any z.w x.w z.t x.t z.v x.v _).mono ?_;rintro e w2 ⟨rfl,hb2⟩;rw[H2.out])
    all_goals
     have hb02:=below_tr hb01.drew hb2;obtain⟨r1,r2,r3⟩:=HK.out w2 hb02
     have f0:=(HBX.out.below hb02).cell 0 rfl;have f1:=(HBX.out.below hb02).cell 1 rfl;go_wp2_with fail;go_ret;exact⟨by rw[HE.out]<;>rfl,hb02⟩
  |false=>
   have HE:=hid (show Mg.ver M T N p.data.toList=1 from by rw[HV.out,if_neg (by simp[h1]),if_neg (by simp[h2])]);have H1:Hid (((z.w==y.w) && (z.t.toList==y.t.toList))=false):=h1;have H2:Hid (((z.w==x.w) && (z.t.toList==x.t.toList))=false):=h2;clear h1 h2 HV;have c0':=c0;go_enter Tryz.func78,Tryz.ntmps78
   go_wp2_with fail;rw[←hwz];clear hwz k1 k2 k3 c0 c1 c2 c0';obtain⟨q1,q2,q3⟩:=HK.out wz.drew hbz.drew
   have x0:=(HX.out).cell 0 rfl;have x1:=(HX.out).cell 1 rfl;have x2:=(HX.out).cell 2 rfl;have d0:=(HBX.out.below hbz).cell 0 rfl;have d1:=(HBX.out.below hbz).cell 1 rfl;go_region_with (go_at_call 101;refine(like_any z.w y.w z.t y.t z.v y.v _).mono ?_;rintro e w1 ⟨rfl,hb1⟩;rw[H1.out])
   all_goals
    have hb01:=below_tr hbz.drew hb1;clear q1 q2 q3 x0 x1 x2 d0 d1;have HX1:=hid (HX.out.below ((Below.refl _ _).drew.trans hb1));go_wp2_with fail;obtain⟨q1,q2,q3⟩:=HK.out w1.drew hb01.drew
    have x0:=(HX1.out).cell 0 rfl;have x1:=(HX1.out).cell 1 rfl;have x2:=(HX1.out).cell 2 rfl;have d0:=(HBX.out.below hb01).cell 0 rfl;have d1:=(HBX.out.below hb01).cell 1 rfl;go_region_with (go_at_call 101;refine(like_any z.w x.w z.t x.t z.v x.v _).mono ?_;rintro e w2 ⟨rfl,hb2⟩;rw[H2.out])
    all_goals
     have hb02:=below_tr hb01.drew hb2;go_wp2_with fail;go_ret;exact⟨by rw[HE.out]<;>rfl,hb02⟩
end Go.Proofs.YtlllcifehellpaaGreatDoor
namespace Go.Proofs.YtlllcifehellpaaGreatDoor
open Go.RowKit

set_option maxHeartbeats 400000 in
theorem parts_any (s:ByteArray) (w:World) (hs:s.size≤1000000000000000):
    Calls Tryz.prog 124 #[.string s] w fun e w'=>e= .returned (.tuple #[.string ⟨(Pp.stem s.data.toList).toArray⟩,.string ⟨(Pp.ending s.data.toList).toArray⟩])∧Below w.heap.size w w':=by
 have go1 : ∀ i : Int, Lib.lastIndexByte s ((46 : UInt8).toNat : Int) = i → i ≤ 0 → Pp.stem s.data.toList = s.data.toList → Pp.ending s.data.toList = [] →
     Calls Tryz.prog 124 #[.string s] w fun e w'=>e= .returned (.tuple #[.string ⟨(Pp.stem s.data.toList).toArray⟩,.string ⟨(Pp.ending s.data.toList).toArray⟩])∧Below w.heap.size w w':=by
  intro i e hi h1 h2;have HE:Hid (Lib.lastIndexByte s ((46:UInt8).toNat:Int)=i):=e;have HP:=hid (show⟨(Pp.stem s.data.toList).toArray⟩=s from by rw[h1]);have HL:Hid (Pp.ending s.data.toList=[]):=h2;clear e h1 h2;go_enter Tryz.func124,Tryz.ntmps124
  go_wp2_with fail;refine(lastIdx_any s 46 _ hs).mono ?_
  rintro e w' ⟨rfl,rfl⟩;rw[HE.out];go_wp2;go_ret2;exact⟨by rw[HP.out,HL.out];rfl,Below.refl _ _⟩
 rcases Pp.last_cases s 46 with⟨e,hn⟩|⟨a,b,e,hn,hl⟩
 · exact go1 _ e (by omega) (Pp.parts_none hn).1 (Pp.parts_none hn).2
 · cases a with
   |nil=>exact go1 _ e (by simp) (by rw[hl];exact(Pp.parts_first hn).1) (by rw[hl];exact(Pp.parts_first hn).2)
   |cons a0 r=>
    have ha:1≤(a0::r).length:=by simp
    generalize a0::r=a at*;have HE:Hid (Lib.lastIndexByte s ((46:UInt8).toNat:Int)=a.length):=e;have hz:s.size=a.length+b.length+1:=by rw[Lib.size_eq,hl];simp;try omega
    have l1:(a.length:Int)≤s.size:=by omega
    have l3:0<(a.length:Int):=by omega
    have l4: ¬a=[]:=by intro h;rw[h]at ha;simp at ha
    have HP:=hid (show s.extract 0 a.length=⟨(Pp.stem s.data.toList).toArray⟩from Pp.bytes_eq (by rw[Lib.extract_data,hl,(Pp.parts_cut ha hn).1];simp));have HL:=hid (show s.extract a.length s.size=⟨(Pp.ending s.data.toList).toArray⟩from Pp.bytes_eq (by rw[Lib.extract_data,hl,(Pp.parts_cut ha hn).2,hz,List.drop_left];exact List.take_of_length_le (by simp;omega)));clear e hn hl hz go1;go_enter Tryz.func124,Tryz.ntmps124
    go_wp2_with fail;refine(lastIdx_any s 46 _ hs).mono ?_
    rintro e w' ⟨rfl,rfl⟩;rw[HE.out];go_wp2;go_region
    go_wp2;go_ret2;exact⟨by rw[HP.out,HL.out];rfl,(Below.refl _ _).drew⟩
set_option maxHeartbeats 400000 in
theorem shortened_any (s:ByteArray) (room:Int) (w:World) (hs:s.size≤1000000000000000) (h1: -1000000000000000≤room) (h2:room≤1000000000000000):
    Calls Tryz.prog 125 #[.string s,.int .i64 room] w fun e w'=>e= .returned (.string ⟨(Pp.short s.data.toList room).toArray⟩)∧Below w.heap.size w w':=by
 by_cases hr:(s.size:Int)≤room
 · have HP:=hid (show⟨(Pp.short s.data.toList room).toArray⟩=s from by rw[Pp.short,if_pos (by rw[←Lib.size_eq];exact hr)])
   go_enter Tryz.func125,Tryz.ntmps125
   go_wp2;go_ret;exact⟨by rw[HP.out];rfl,Below.refl _ _⟩
 · obtain⟨m,hm⟩: ∃m:Int,m=max room 0:=⟨_,rfl⟩
   have HP:Hid (Lib.trimRightB (s.extract 0 (max room 0).toNat).data.toList 32=Pp.short s.data.toList room):=
    (by rw[Pp.short,if_neg (by rw[←Lib.size_eq];exact hr),Lib.extract_data];simp[show(max room 0).toNat=room.toNat by omega]:Lib.trimRightB (s.extract 0 (max room 0).toNat).data.toList 32=Pp.short s.data.toList room)
   have l1:0≤max room 0:=by omega
   have l2:max room 0≤s.size:=by omega
   go_enter Tryz.func125,Tryz.ntmps125
   go_wp2_with fail;refine(Tryz.strings_TrimRight_one _ 32 (by decide) _ (by rw[Lib.size_eq,Lib.extract_data];simp;omega)).mono ?_
   rintro e w' ⟨rfl,rfl⟩;rw[HP.out];go_wp2;go_ret;exact⟨rfl,Below.refl _ _⟩
set_option maxHeartbeats 1000000 in
theorem aside_any (s:ByteArray) (n:Int) (w:World) (hs:s.size≤200000000000000):
    Calls Tryz.prog 98 #[.string s,.int .i64 n] w fun e w'=>e= .returned (.tuple #[.string ⟨(Pp.ifc (Pp.asideE s.data.toList n) (Pp.asideT s.data.toList n.toNat)).toArray⟩,.int .i64 (Pp.asideE s.data.toList n)])∧Below w.heap.size w w':=by
 by_cases hz:Pp.chk s.data.toList=0
 · have HZ:Hid (Pp.chk s.data.toList=0):=hz
   by_cases hn:n<1∨99<n
   · have HE:=hid (show Pp.asideE s.data.toList n=3 from by rw[Pp.asideE,if_pos hz,if_pos hn])
     have HR:Hid (Pp.ifc 3 (Pp.asideT s.data.toList n.toNat)=[]):=Pp.ifc_no (by decide) _;clear hz;rcases hn with hn|hn
     · go_enter Tryz.func98,Tryz.ntmps98
       go_wp2_with fail;refine(checkAll1 s _ _ (by omega)).mono ?_
       rintro e w1 ⟨rfl,hb1⟩;rw[HZ.out];go_wp2_with fail;go_ret2;exact⟨by rw[HE.out,HR.out];rfl,hb1⟩
     · go_enter Tryz.func98,Tryz.ntmps98
       go_wp2_with fail;refine(checkAll1 s _ _ (by omega)).mono ?_
       rintro e w1 ⟨rfl,hb1⟩;rw[HZ.out];go_wp2_with fail;go_ret2;exact⟨by rw[HE.out,HR.out];rfl,hb1⟩
   · obtain⟨i,rfl⟩:=Int.eq_ofNat_of_zero_le (show 0≤n by omega)
     have hi1:1≤(i:Int):=by omega
     have hi2:(i:Int)≤99:=by omega
     have b0:=Pp.dec_len i (by omega);have b1:=Pp.len_par s.data.toList;have b2:=Pp.len_lst s.data.toList;have b3:=Pp.len_stem (Pp.lst s.data.toList);have b4:=Pp.len_ending (Pp.lst s.data.toList);rw[←Lib.size_eq]at b1 b2;have hes:=Pp.asideE_in s.data.toList i hz hi1 hi2;have b5:=Pp.len_asideS s.data.toList i;have hT:=Pp.asideT_eq s.data.toList i;have hSq:=Pp.aside_room s.data.toList i;generalize Pp.asideS s.data.toList i=S at*;have HS:Hid (Pp.short (Pp.stem (Pp.lst s.data.toList)) (20-(2+((Lib.decDigits i).length:Int)+1)-(Pp.ending (Pp.lst s.data.toList)).length)=S):=hSq;have HES:Hid (Pp.asideE s.data.toList i=if S=[]then 2 else Pp.chk (Pp.asideT s.data.toList i)):=hes;have HT:Hid (Pp.asideT s.data.toList i=Pp.jn (Pp.par s.data.toList) (S++Pp.mark i++Pp.ending (Pp.lst s.data.toList))):=hT;clear hz hn hes hT hSq;go_enter Tryz.func98,Tryz.ntmps98
     go_wp2_with fail;refine(checkAll1 s _ _ (by omega)).mono ?_
     rintro e w1 ⟨rfl,hb1⟩;rw[HZ.out];go_wp2_with fail;refine(split_any s _ (by omega)).mono ?_
     rintro e w2 ⟨rfl,hb2⟩;go_wp2_with fail;refine(parts_any ⟨(Pp.lst s.data.toList).toArray⟩ _ (by rw[Pp.sz];omega)).mono ?_
     rintro e w3 ⟨rfl,hb3⟩;go_wp2_with fail;refine(Tryz.strconv_Itoa_small i (by omega) _).mono ?_
     rintro e w4 ⟨rfl,rfl⟩;go_wp2_with fail;refine(shortened_any _ _ _ (by rw[Pp.sz];omega) (by omega) (by omega)).mono ?_
     rintro e w5 ⟨rfl,hb5⟩;rw[show Pp.short _ _=S from HS.out];have hbb:Below w.heap.size w w5:=((hb1.trans (hb2.mono hb1.size)).trans (hb3.mono (Nat.le_trans hb1.size hb2.size))).trans (hb5.mono (Nat.le_trans hb1.size (Nat.le_trans hb2.size hb3.size)));clear hb1 hb2 hb3 hb5 HS;cases hq:S.isEmpty with
     |true=>
      have HE:=hid (show Pp.asideE s.data.toList i=2 from by rw[HES.out,if_pos (List.isEmpty_iff.1 hq)]);have HR:Hid (Pp.ifc 2 (Pp.asideT s.data.toList (i:Int).toNat)=[]):=Pp.ifc_no (by decide) _;go_wp2_with fail;go_ret2;exact⟨by rw[HE.out,HR.out];rfl,hbb⟩
     |false=>
      have HE:=hid (show Pp.asideE s.data.toList i=Pp.chk (Pp.asideT s.data.toList i)from by rw[HES.out,if_neg (by intro h;rw[h]at hq;cases hq)])
      have HB:Hid ((⟨S.toArray⟩:ByteArray)++(⟨#[32,40]⟩++⟨(Lib.decDigits i).toArray⟩++⟨#[41]⟩)++⟨(Pp.ending (Pp.lst s.data.toList)).toArray⟩=⟨(S++Pp.mark i++Pp.ending (Pp.lst s.data.toList)).toArray⟩):=
       (Pp.bytes_eq (by rw[Joins.data_append,Joins.data_append,Joins.data_append,Joins.data_append];simp[Pp.mark]):(⟨S.toArray⟩:ByteArray)++(⟨#[32,40]⟩++⟨(Lib.decDigits i).toArray⟩++⟨#[41]⟩)++⟨(Pp.ending (Pp.lst s.data.toList)).toArray⟩=⟨(S++Pp.mark i++Pp.ending (Pp.lst s.data.toList)).toArray⟩)
      have b6:=Pp.mark_len i;have b7:=Pp.len_jn (Pp.par s.data.toList) (S++Pp.mark i++Pp.ending (Pp.lst s.data.toList));rw[List.length_append,List.length_append,b6,←HT.out]at b7;have B8:=hid (show(S++Pp.mark i++Pp.ending (Pp.lst s.data.toList)).length≤1000000000000000 from by rw[List.length_append,List.length_append,b6];omega);clear b6;go_wp2_with fail;rw[HB.out];refine(joined_any _ ⟨(S++Pp.mark i++Pp.ending (Pp.lst s.data.toList)).toArray⟩ _ (by rw[Pp.sz];omega) (by rw[Pp.sz];exact B8.out)).mono ?_
      rintro e w6 ⟨rfl,rfl⟩;rw[show Pp.jn _ _=Pp.asideT s.data.toList i from HT.out.symm];by_cases hz:Pp.chk (Pp.asideT s.data.toList i)=0
      · have HZ2:Hid (Pp.chk (Pp.asideT s.data.toList i)=0):=hz
        have HR:Hid (Pp.ifc 0 (Pp.asideT s.data.toList (i:Int).toNat)=Pp.asideT s.data.toList i):=Pp.ifc_yes rfl _;clear hz;go_wp2_with fail;refine(checked_ok ⟨(Pp.asideT s.data.toList i).toArray⟩ _ (by rw[Pp.sz];omega) HZ2.out).mono ?_
        rintro e w7 ⟨rfl,hb7⟩;go_wp2;go_ret2;exact⟨by rw[HE.out,HZ2.out,HR.out];rfl,hbb.trans (hb7.mono hbb.size)⟩
      · have HR:Hid (Pp.ifc (Pp.chk (Pp.asideT s.data.toList i)) (Pp.asideT s.data.toList (i:Int).toNat)=[]):=Pp.ifc_no hz _
        have HZ2:Hid (¬Pp.chk (Pp.asideT s.data.toList i)=0):=hz;clear hz;go_wp2_with fail;refine(checked_no ⟨(Pp.asideT s.data.toList i).toArray⟩ _ (by rw[Pp.sz];omega) HZ2.out).mono ?_
        rintro e w7 ⟨rfl,hb7⟩;go_wp2;go_ret2;exact⟨by rw[HE.out,HR.out];rfl,hbb.trans (hb7.mono hbb.size)⟩
 · have hz2:(Pp.chk s.data.toList==0)=false:=by simpa using hz
   have HE:=hid (show Pp.asideE s.data.toList n=Pp.chk s.data.toList from by rw[Pp.asideE,if_neg hz]);have HR:Hid (Pp.ifc (Pp.chk s.data.toList) (Pp.asideT s.data.toList n.toNat)=[]):=Pp.ifc_no hz _;clear hz;go_enter Tryz.func98,Tryz.ntmps98
   go_wp2_with fail;refine(checkAll1 s _ _ (by omega)).mono ?_
   rintro e w1 ⟨rfl,hb1⟩;go_wp2;go_ret2;exact⟨by rw[HE.out,HR.out];rfl,hb1⟩
end Go.Proofs.YtlllcifehellpaaGreatDoor
