/- Boxes of some cells in memory, and what is stored in them; what lies elsewhere stays. -/
import Derived.Test.YtppdfeehhnofaaaGreatDoorHAB
import Derived.Maps.OwnSet
import Derived.Test.YtppdfeehhnofaaaGreatDoorHAA
import Derived.Test.YtppdfeehhnofaaaGreatDoorShelf
import Derived.WalkKit
import Derived.WalkSpells
import Derived.WalkLawsBesides
import Derived.Handy
import Derived.Deep.QuietTactic
import Derived.BigQuiet
import Derived.RegionTactic
import Derived.Lib.SmallJoins
import Derived.Deep.RegionHeld3
set_option linter.unusedSimpArgs false
set_option linter.unusedVariables false
namespace Go.Proofs.YtppdfeehhnofaaaGreatDoor
open Go.RowKit Go.Maps

theorem heap_lt {W:World} {b:Nat} {o:Obj} (h:W.heap[b]?=some o):b<W.heap.size:=by
 rcases Nat.lt_or_ge b W.heap.size with h1|h1
 · exact h1
 · rw[Array.getElem?_eq_none h1]at h;cases h
/-- A block that holds just these cells, and may be written. -/
def Cs (W:World) (b:Nat) (vs:List Value):Prop:= ∃T,W.heap[b]?=some (.cells vs.toArray T (0,0))
theorem Cs.lt {W:World} {b:Nat} {vs:List Value} (h:Cs W b vs):b<W.heap.size:=h.elim fun _ h=>heap_lt h
theorem Cs.cell {W:World} {b:Nat} {vs:List Value} (h:Cs W b vs) (i:Nat) {v:Value} (hv:vs[i]?=some v):W.cell? ⟨b,i,none⟩=some v:=by
 obtain⟨T,h⟩:=h
 simp[World.cell?,h,hv]
theorem Cs.fr {W:World} {b:Nat} {vs:List Value} (h:Cs W b vs) (i:Nat):W.frozen? ⟨b,i,none⟩=false:=by
 obtain⟨T,h⟩:=h
 simp[World.frozen?,h]
theorem Cs.belowAt {W W':World} {b B:Nat} {vs:List Value} (h:Cs W b vs) (hw:Below B W W') (hb:b<B):Cs W' b vs:=by
 obtain⟨T,h⟩:=h
 exact⟨T,(hw.block b hb).trans h⟩
theorem Cs.below {W W':World} {b:Nat} {vs:List Value} (h:Cs W b vs) (hw:Below W.heap.size W W'):Cs W' b vs:=h.belowAt hw h.lt
theorem Cs.nb {W W':World} {b g:Nat} {vs:List Value} (h:Cs W b vs) (hw:W.grownBy W' (some g)) (hne:b≠g):Cs W' b vs:=by
 have hl:=h.lt;obtain⟨T,h⟩:=h
 exact⟨T,(hw.block b hl (fun e=>hne (by injection e))).trans h⟩
theorem Cs.new (w:World) (vs:List Value) (T:TypeId):Cs (w.alloc (.cells vs.toArray T)) w.heap.size vs:=⟨T,by show(w.heap.push _)[w.heap.size]?=_;simp⟩
theorem Cs.set {W:World} {b:Nat} {vs:List Value} (h:Cs W b vs) (i:Nat) (u:Value):Cs (W.setCell ⟨b,i,none⟩ u) b (vs.set i u):=by
 obtain⟨T,h⟩:=h
 refine⟨T,?_⟩
 unfold World.setCell;simp only[Array.getElem?_modify,h,if_true,Option.map_some];simp
theorem nb_set (W:World) (b o:Nat) (u:Value):W.grownBy (W.setCell ⟨b,o,none⟩ u) (some b):=
 ⟨rfl,rfl,rfl,by simp,fun k _ hk=>Below.heap_setCell W _ u k (fun e=>hk (by rw[e]))⟩
theorem Cs.other {W:World} {b b' o:Nat} {vs:List Value} (h:Cs W b vs) (hne:b≠b') (u:Value):Cs (W.setCell ⟨b',o,none⟩ u) b vs:=h.nb (nb_set W b' o u) hne
/-- A block without texts. -/
def NoStr (W:World) (g:Nat):Prop:= ∀o s,W.cell? ⟨g,o,none⟩≠some (.string s)
theorem Cs.noStr {W:World} {b:Nat} {vs:List Value} (h:Cs W b vs) (hv: ∀s,Value.string s∉vs):NoStr W b:=by
 obtain⟨T,h⟩:=h
 intro o s;simp only[World.cell?,h];intro he;have:vs[o]?=some (.string s):=by simpa using he
 exact hv s (List.mem_of_getElem? this)
theorem noStr_map {W:World} {P:Program} {k:TypeId} {R:Value→Option (DataW Unit×List MemPlace)} {b n:Nat} {D:DataW Unit} (h:W.ownsMap P k R b n D):NoStr W b:=by
 obtain⟨es,clock,hb,_⟩:=h
 intro o s;simp[World.cell?,hb]
theorem EnAt.ne {W:World} {b o g:Nat} {e:En} (h:EnAt W b o e) (hn:NoStr W g):b≠g:=fun hb=>hn o e.path (hb▸h.1)
theorem ChAt.ne {W:World} {b o g:Nat} {c:Pp.Ch} (h:ChAt W b o c) (hn:NoStr W g):b≠g:=fun hb=>hn (o+1) c.p (hb▸h.2.1)
theorem cell_nb {W W':World} {g b:Nat} (hw:W.grownBy W' (some g)) (hb:b<W.heap.size) (hne:b≠g) (o:Nat):W'.cell? ⟨b,o,none⟩=W.cell? ⟨b,o,none⟩:=
 World.cell?_of_block (w:=W) (a:=⟨b,o,none⟩) (hw.block b hb (fun e=>hne (by injection e)))
theorem Lies.nb {W W':World} {v:Value} {L:List En} {g:Nat} (h:Lies W v L) (hw:W.grownBy W' (some g)) (hn:NoStr W g):Lies W' v L:=by
 obtain⟨a,cap,hv,h1,h2,h3⟩:=h
 refine⟨a,cap,hv,h1,h2,fun i hi=>?_⟩
 obtain⟨b,o,ha,hb,he⟩:=h3 i hi
 have c:=cell_nb hw hb (he.ne hn);exact⟨b,o,ha,Nat.lt_of_lt_of_le hb hw.size,(c _).trans he.1,(c _).trans he.2.1,(c _).trans he.2.2.1,(c _).trans he.2.2.2⟩
theorem LiesC.nb {W W':World} {v:Value} {L:List Pp.Ch} {g:Nat} (h:LiesC W v L) (hw:W.grownBy W' (some g)) (hn:NoStr W g):LiesC W' v L:=by
 obtain⟨a,cap,hv,h1,h2,h3⟩:=h
 refine⟨a,cap,hv,h1,h2,fun i hi=>?_⟩
 obtain⟨b,o,ha,hb,he⟩:=h3 i hi
 have c:=cell_nb hw hb (he.ne hn);exact⟨b,o,ha,Nat.lt_of_lt_of_le hb hw.size,(c _).trans he.1,(c _).trans he.2.1,(c _).trans he.2.2.1,(c _).trans he.2.2.2.1,(c _).trans he.2.2.2.2⟩
/-- Grown, and written in two blocks alone. -/
structure Nb2 (w w':World) (b m:Nat):Prop where
 os:w'.os=w.os
 tape:w'.tape=w.tape
 output:w'.output=w.output
 size:w.heap.size≤w'.heap.size
 block: ∀k,k<w.heap.size→k≠b→k≠m→w'.heap[k]?=w.heap[k]?
theorem Nb2.of_below {w w':World} (b m:Nat) (h:Below w.heap.size w w'):Nb2 w w' b m:=⟨h.os,h.tape,h.output,h.size,fun k hk _ _=>h.block k hk⟩
theorem Nb2.of_left {w w':World} {b:Nat} (m:Nat) (h:w.grownBy w' (some b)):Nb2 w w' b m:=⟨h.os,h.tape,h.output,h.size,fun k hk hb _=>h.block k hk (fun e=>hb (by injection e))⟩
theorem Nb2.of_right {w w':World} {m:Nat} (b:Nat) (h:w.grownBy w' (some m)):Nb2 w w' b m:=⟨h.os,h.tape,h.output,h.size,fun k hk _ hm=>h.block k hk (fun e=>hm (by injection e))⟩
theorem Nb2.trans {a c d:World} {b m:Nat} (h:Nb2 a c b m) (k:Nb2 c d b m):Nb2 a d b m:=
 ⟨k.os.trans h.os,k.tape.trans h.tape,k.output.trans h.output,Nat.le_trans h.size k.size,fun q hq h1 h2=>(k.block q (Nat.lt_of_lt_of_le hq h.size) h1 h2).trans (h.block q hq h1 h2)⟩
theorem Nb2.to {w w':World} {b m B:Nat} (h:Nb2 w w' b m) (hB:B≤w.heap.size) (h1:B≤b) (h2:B≤m):Below B w w':=⟨h.os,h.tape,h.output,h.size,fun k hk=>h.block k (by omega) (by omega) (by omega)⟩
theorem Nb2.cell {w w':World} {b m k:Nat} (h:Nb2 w w' b m) (hk:k<w.heap.size) (h1:k≠b) (h2:k≠m) (o:Nat):w'.cell? ⟨k,o,none⟩=w.cell? ⟨k,o,none⟩:=World.cell?_of_block (w:=w) (a:=⟨k,o,none⟩) (h.block k hk h1 h2)
theorem Cs.nb2 {w w':World} {b m k:Nat} {vs:List Value} (h:Cs w k vs) (hn:Nb2 w w' b m) (h1:k≠b) (h2:k≠m):Cs w' k vs:=by
 have hl:=h.lt;obtain⟨T,h⟩:=h
 exact⟨T,(hn.block k hl h1 h2).trans h⟩
theorem bs3 {B b:Nat} {w0 W:World} {v0 v1 v2:Value} (h:Below B w0 W) (hb:B≤b):Below B w0 (((W.setCell ⟨b,0,none⟩ v0).setCell ⟨b,1,none⟩ v1).setCell ⟨b,2,none⟩ v2):=(((h.setCell (p:=⟨b,0,none⟩) hb _).setCell (p:=⟨b,1,none⟩) hb _).setCell (p:=⟨b,2,none⟩) hb _)
theorem bs4 {B b:Nat} {w0 W:World} {v0 v1 v2 v3:Value} (h:Below B w0 W) (hb:B≤b):Below B w0 ((((W.setCell ⟨b,0,none⟩ v0).setCell ⟨b,1,none⟩ v1).setCell ⟨b,2,none⟩ v2).setCell ⟨b,3,none⟩ v3):=((((h.setCell (p:=⟨b,0,none⟩) hb _).setCell (p:=⟨b,1,none⟩) hb _).setCell (p:=⟨b,2,none⟩) hb _).setCell (p:=⟨b,3,none⟩) hb _)
theorem bs5 {B b:Nat} {w0 W:World} {v0 v1 v2 v3 v4:Value} (h:Below B w0 W) (hb:B≤b):Below B w0 (((((W.setCell ⟨b,0,none⟩ v0).setCell ⟨b,1,none⟩ v1).setCell ⟨b,2,none⟩ v2).setCell ⟨b,3,none⟩ v3).setCell ⟨b,4,none⟩ v4):=(((((h.setCell (p:=⟨b,0,none⟩) hb _).setCell (p:=⟨b,1,none⟩) hb _).setCell (p:=⟨b,2,none⟩) hb _).setCell (p:=⟨b,3,none⟩) hb _).setCell (p:=⟨b,4,none⟩) hb _)
theorem bs7 {B b:Nat} {w0 W:World} {v0 v1 v2 v3 v4 v5 v6:Value} (h:Below B w0 W) (hb:B≤b):Below B w0 (((((((W.setCell ⟨b,0,none⟩ v0).setCell ⟨b,1,none⟩ v1).setCell ⟨b,2,none⟩ v2).setCell ⟨b,3,none⟩ v3).setCell ⟨b,4,none⟩ v4).setCell ⟨b,5,none⟩ v5).setCell ⟨b,6,none⟩ v6):=(((((((h.setCell (p:=⟨b,0,none⟩) hb _).setCell (p:=⟨b,1,none⟩) hb _).setCell (p:=⟨b,2,none⟩) hb _).setCell (p:=⟨b,3,none⟩) hb _).setCell (p:=⟨b,4,none⟩) hb _).setCell (p:=⟨b,5,none⟩) hb _).setCell (p:=⟨b,6,none⟩) hb _)
end Go.Proofs.YtppdfeehhnofaaaGreatDoor
namespace Go.Proofs.YtppdfeehhnofaaaGreatDoor
open Go.RowKit

theorem hid {p:Prop} (h:p):Hid p:=h
theorem lies_nil (w:World):Lies w (.slice none 0 0) []:=⟨none,0,rfl,Nat.le_refl _,by simp,fun i hi=>absurd hi (by simp)⟩
namespace Pp
theorem chk_len {l:List UInt8} (h:chk l=0):l.length≤80:=by
 have h1:=chk_not_big h;rw[big,Bool.or_eq_false_iff]at h1;have:=of_decide_eq_false h1.2
 omega
end Pp
end Go.Proofs.YtppdfeehhnofaaaGreatDoor
namespace Go.Proofs.YtppdfeehhnofaaaGreatDoor
open Go.RowKit

set_option maxHeartbeats 400000 in
theorem inNames_any (c:UInt8) (w:World):
    Calls Tryz.prog 194 #[.int .u8 (c.toNat:Int)] w fun e w'=>e= .returned (.bool (Pp.okB c))∧w'=w:=by
 go_enter Tryz.func194,Tryz.ntmps194
 go_wp2_with (go_at_call 218;refine(Tryz.strings_IndexByte _ _ _).mono ?_;rintro e w' ⟨rfl,rfl⟩)
 all_goals go_ret
 all_goals first
  |exact⟨Pp.ret_bool (Pp.okB_l c (by omega)),rfl⟩
  |exact⟨Pp.ret_bool (Pp.okB_o c (by omega) (by omega) (by omega)),rfl⟩
set_option maxHeartbeats 800000 in
theorem isName_any (s:ByteArray) (w:World) (hs:s.size≤maxLen):
    Calls Tryz.prog 149 #[.string s] w fun e w'=>e= .returned (.bool (Pp.nameB s.data.toList))∧w'=w:=by
 unfold maxLen at hs;by_cases c1:(s.size:Int)<1
 · go_enter Tryz.func149,Tryz.ntmps149
   go_wp2_with fail;go_ret;exact⟨Pp.ret_bool (Pp.nameB_no s (Or.inl (by omega))),rfl⟩
 by_cases c2:20<(s.size:Int)
 · go_enter Tryz.func149,Tryz.ntmps149
   go_wp2_with fail;go_ret;exact⟨Pp.ret_bool (Pp.nameB_no s (Or.inr (Or.inl (by omega)))),rfl⟩
 cases c3:(s.toList==[46])with
 |true=>
  have HN:=hid (show s.toList=[46]from by simpa using c3);go_enter Tryz.func149,Tryz.ntmps149
  go_wp2_with fail;go_ret;exact⟨Pp.ret_bool (Pp.nameB_no s (Or.inr (Or.inr (Or.inl HN.out)))),rfl⟩
 |false=>
 cases c4:(s.toList==[46,46])with
 |true=>
  have HN:=hid (show s.toList=[46,46]from by simpa using c4);go_enter Tryz.func149,Tryz.ntmps149
  go_wp2_with fail;go_ret;exact⟨Pp.ret_bool (Pp.nameB_no s (Or.inr (Or.inr (Or.inr HN.out)))),rfl⟩
 |false=>
 have h0:0<s.size:=by omega
 have h6:s.size-1<s.size:=by omega
 cases c5:((s[0].toNat:Int)==32)with
 |true=>
  have HN:=hid (show(s[0].toNat:Int)=32 from by simpa using c5);go_enter Tryz.func149,Tryz.ntmps149
  go_wp2_with fail;go_ret;exact⟨Pp.ret_bool (Pp.nameB_head s h0 HN.out),rfl⟩
 |false=>
 cases c6:((s[s.size-1].toNat:Int)==32)with
 |true=>
  have HN:=hid (show(s[s.size-1].toNat:Int)=32 from by simpa using c6);go_enter Tryz.func149,Tryz.ntmps149
  go_wp2_with fail;go_ret;exact⟨Pp.ret_bool (Pp.nameB_last s h6 HN.out),rfl⟩
 |false=>
 have HY:Hid (s.data.toList.all Pp.okB=true→true=Pp.nameB s.data.toList):=fun h8=>
  Pp.nameB_yes s (by omega) (by omega) (by simpa using c3) (by simpa using c4) h0 (by simpa using c5) h6 (by simpa using c6) h8
 go_enter Tryz.func149,Tryz.ntmps149
 go_wp2_with fail;go_loop [33] (fun i=> ∃k:Nat,k≤s.size∧i= .int .i64 k∧(s.data.toList.take k).all Pp.okB=true) (fun i=>s.size-(intOf i).toNat)
 case atStart=>exact⟨0,Nat.zero_le _,rfl,by simp⟩
 case round=>
  obtain⟨k,hk,rfl,hall⟩:=hrel
  have HA:Hid ((s.data.toList.take k).all Pp.okB=true):=hall;clear hall;by_cases hlt:k<s.size
  · cases hok:Pp.okB s[k]with
    |true=>
     go_wp2_with (go_at_call 194;refine(inNames_any _ _).mono ?_;rintro e w' ⟨rfl,rfl⟩)
     go_round
     case rel=>exact⟨k+1,by omega,by go_num,Pp.all_snoc s k hlt HA.out hok⟩
     case measure=>simp[intOf];omega
    |false=>
     go_wp2_with (go_at_call 194;refine(inNames_any _ _).mono ?_;rintro e w' ⟨rfl,rfl⟩)
     go_ret;exact⟨Pp.ret_bool (Pp.nameB_bad s k hlt hok),rfl⟩
  · go_wp2_with fail
    go_ret;exact⟨Pp.ret_bool (HY.out (by have:=HA.out;rwa [List.take_of_length_le (by simp;omega)]at this)),rfl⟩
set_option maxHeartbeats 400000 in
theorem scut_miss (s:ByteArray) (w:World) (hs:s.size≤maxLen) (h:47∉s.data.toList):
    Calls Tryz.prog 104 #[.string s,.string ⟨#[47]⟩] w fun e w'=>e= .returned (.tuple #[.string s,.string ⟨#[]⟩,.bool false])∧Below w.heap.size w w':=by
 unfold maxLen at hs;have HI:Hid (Lib.indexByte s.data.toList 47= -1):=Pp.idx_none _ _ h;clear h;go_enter Tryz.func104,Tryz.ntmps104
 go_wp2_with (go_at_call 133;refine(Tryz.stringslite_Index_one _ _ _).mono ?_;rintro e w' ⟨rfl,rfl⟩;rw[HI.out])
 go_ret3;exact⟨rfl,Below.refl _ _⟩
set_option maxHeartbeats 400000 in
theorem scut_hit (s:ByteArray) (a b:List UInt8) (w:World) (hs:s.size≤maxLen) (h:47∉a) (hab:s.data.toList=a++47::b):
    Calls Tryz.prog 104 #[.string s,.string ⟨#[47]⟩] w fun e w'=>e= .returned (.tuple #[.string ⟨a.toArray⟩,.string ⟨b.toArray⟩,.bool true])∧Below w.heap.size w w':=by
 unfold maxLen at hs;have HI:=hid (show Lib.indexByte s.data.toList 47=a.length from by rw[hab];exact Pp.idx_of a b 47 h);have hz:s.size=a.length+b.length+1:=by rw[Lib.size_eq,hab];simp;try omega
 have l1:(a.length:Int)≤s.size:=by omega
 have l2:(a.length:Int)+1≤s.size:=by omega
 have HA:=hid (show s.extract 0 a.length=⟨a.toArray⟩from Pp.bytes_eq (by rw[Lib.extract_data,hab];simp));have HB:=hid (show s.extract (a.length+1) s.size=⟨b.toArray⟩from Pp.bytes_eq (by rw[Lib.extract_data,hab,hz];simp));clear h hab hz;go_enter Tryz.func104,Tryz.ntmps104
 go_wp2_with (go_at_call 133;refine(Tryz.stringslite_Index_one _ _ _).mono ?_;rintro e w' ⟨rfl,rfl⟩;rw[HI.out])
 go_region
 go_wp2;go_ret3;exact⟨by rw[HA.out,HB.out];rfl,(Below.refl _ _).drew⟩
set_option maxHeartbeats 400000 in
theorem cut_miss (s:ByteArray) (w:World) (hs:s.size≤maxLen) (h:47∉s.data.toList):
    Calls Tryz.prog 55 #[.string s,.string ⟨#[47]⟩] w fun e w'=>e= .returned (.tuple #[.string s,.string ⟨#[]⟩,.bool false])∧Below w.heap.size w w':=by
 go_enter Tryz.func55,Tryz.ntmps55
 go_wp2_with fail;refine(scut_miss s _ hs h).mono ?_
 rintro e w' ⟨rfl,hb⟩;clear hs h;go_wp2;go_ret3;exact⟨rfl,hb⟩
set_option maxHeartbeats 400000 in
theorem cut_hit (s:ByteArray) (a b:List UInt8) (w:World) (hs:s.size≤maxLen) (h:47∉a) (hab:s.data.toList=a++47::b):
    Calls Tryz.prog 55 #[.string s,.string ⟨#[47]⟩] w fun e w'=>e= .returned (.tuple #[.string ⟨a.toArray⟩,.string ⟨b.toArray⟩,.bool true])∧Below w.heap.size w w':=by
 have HAB:Hid (s.data.toList=a++47::b):=hab;clear hab;go_enter Tryz.func55,Tryz.ntmps55
 go_wp2_with fail;refine(scut_hit s a b _ hs h HAB.out).mono ?_
 rintro e w' ⟨rfl,hb⟩;clear hs h;go_wp2;go_ret3;exact⟨rfl,hb⟩
def msr (r m:Value):Nat:=match m,r with
 | .bool true,.string s=>s.size+1
 |_,_=>0
set_option maxHeartbeats 800000 in
theorem check_any (s:ByteArray) (w:World) (hs:s.size≤1000000000000000):
    Calls Tryz.prog 181 #[.string s] w fun e w'=>e= .returned (.int .i64 (Pp.chk s.data.toList))∧Below w.heap.size w w':=by
 go_enter Tryz.func181,Tryz.ntmps181
 go_wp2_with fail
 go_loopw [3, 4, 5] (fun d r m wr => ∃ (dn : List (List UInt8)) (t : ByteArray) (b : Bool), d = .int .i64 dn.length ∧ r = .string t ∧ m = .bool b ∧ dn.all Pp.nameB = true ∧ t.size ≤ s.size ∧ dn.length ≤ s.size + 1 ∧
     (b=true→Pp.nm s.data.toList=dn++Pp.nm t.data.toList)∧(b=false→Pp.nm s.data.toList=dn)∧Below w.heap.size w wr) (fun _ r m _=>msr r m)
 case atStart=>exact⟨[],s,true,rfl,rfl,rfl,rfl,Nat.le_refl _,by simp,fun _=>rfl,(fun h=>by cases h),Below.refl _ _⟩
 case round=>
  obtain⟨dn,t,b,rfl,rfl,rfl,hall,hts,hdn,h1,h2,hbel⟩:=hrel
  have HA:Hid (dn.all Pp.nameB=true):=hall;clear hall;cases b with
  |false=>
   have HN:Hid (Pp.nm s.data.toList=dn):=h2 rfl;clear h1 h2;by_cases hd:6<(dn.length:Int)
   · go_wp2_with fail
     go_ret;exact⟨Pp.ret_int (Pp.chk_two s HN.out HA.out (Or.inl hd)),hbel⟩
   by_cases hz:80<(s.size:Int)
   · go_wp2_with fail
     go_ret;exact⟨Pp.ret_int (Pp.chk_two s HN.out HA.out (Or.inr hz)),hbel⟩
   go_wp2_with fail;go_ret;exact⟨Pp.ret_int (Pp.chk_zero s HN.out HA.out (by omega) (by omega)),hbel⟩
  |true=>
   have HN:Hid (Pp.nm s.data.toList=dn++Pp.nm t.data.toList):=h1 rfl;clear h1 h2;have hlen:=Pp.len_add s t HN.out;by_cases h47:47∈t.data.toList
   · obtain⟨a,b,ha,hab⟩:=Pp.split_at _ _ h47
     have HAB:Hid (t.data.toList=a++47::b):=hab;have hz:t.size=a.length+b.length+1:=by rw[Lib.size_eq,hab];simp;try omega
     have HN2:=hid (show Pp.nm s.data.toList=dn++a::Pp.nm b from by rw[HN.out,hab,Pp.nm_cut a b ha]);clear h47 hab;cases hn:Pp.nameB a with
     |true=>
      have HM:Hid (Pp.nameB a=true):=hn;clear hn;go_wp2_with fail;refine(cut_hit t a b _ (by unfold maxLen;omega) ha HAB.out).mono ?_
      rintro e w1 ⟨rfl,hb1⟩;go_wp2_with fail;refine(isName_any ⟨a.toArray⟩ _ (by unfold maxLen;rw[Pp.sz];omega)).mono ?_
      rintro e w2 ⟨rfl,rfl⟩;simp only[HM.out];go_wp2_with fail;go_roundw
      case rel=>exact⟨dn++[a],⟨b.toArray⟩,true,by simp,rfl,rfl,Pp.all_add HA.out HM.out,by rw[Pp.sz];omega,by simp;omega,(fun _=>by rw[HN2.out];simp),(fun h=>by cases h),hbel.trans (hb1.mono hbel.size)⟩
      case measure=>simp only[msr,Pp.sz];omega
     |false=>
      have HM:Hid (Pp.nameB a=false):=hn;clear hn;go_wp2_with fail;refine(cut_hit t a b _ (by unfold maxLen;omega) ha HAB.out).mono ?_
      rintro e w1 ⟨rfl,hb1⟩;go_wp2_with fail;refine(isName_any ⟨a.toArray⟩ _ (by unfold maxLen;rw[Pp.sz];omega)).mono ?_
      rintro e w2 ⟨rfl,rfl⟩;simp only[HM.out];go_wp2_with fail;go_ret;exact⟨Pp.ret_int (Pp.chk_one s HN2.out HM.out),hbel.trans (hb1.mono hbel.size)⟩
   · have HN2:=hid (show Pp.nm s.data.toList=dn++[t.data.toList]from by rw[HN.out,Pp.nm_none _ h47])
     cases hn:Pp.nameB t.data.toList with
     |true=>
      have HM:Hid (Pp.nameB t.data.toList=true):=hn;clear hn;go_wp2_with fail;refine(cut_miss t _ (by unfold maxLen;omega) h47).mono ?_
      rintro e w1 ⟨rfl,hb1⟩;go_wp2_with fail;refine(isName_any t _ (by unfold maxLen;omega)).mono ?_
      rintro e w2 ⟨rfl,rfl⟩;simp only[HM.out];go_wp2_with fail;go_roundw
      case rel=>exact⟨dn++[t.data.toList],⟨#[]⟩,false,by simp,rfl,rfl,Pp.all_add HA.out HM.out,by rw[Lib.size_eq];simp,by simp;omega,(fun h=>by cases h),(fun _=>HN2.out),hbel.trans (hb1.mono hbel.size)⟩
      case measure=>simp only[msr];omega
     |false=>
      have HM:Hid (Pp.nameB t.data.toList=false):=hn;clear hn;go_wp2_with fail;refine(cut_miss t _ (by unfold maxLen;omega) h47).mono ?_
      rintro e w1 ⟨rfl,hb1⟩;go_wp2_with fail;refine(isName_any t _ (by unfold maxLen;omega)).mono ?_
      rintro e w2 ⟨rfl,rfl⟩;simp only[HM.out];go_wp2_with fail;go_ret;exact⟨Pp.ret_int (Pp.chk_one s HN2.out HM.out),hbel.trans (hb1.mono hbel.size)⟩
set_option maxHeartbeats 400000 in
theorem checkAll_any (ls:List ByteArray) (b cap:Nat) (w:World) (hb:b<w.heap.size) (hn:ls.length≤1000) (hs: ∀i (h:i<ls.length),(ls[i]).size≤1000000000000000)
    (hc: ∀i (h:i<ls.length),w.cell? ⟨b,i,none⟩=some (.string ls[i])):
    Calls Tryz.prog 148 #[.slice (some ⟨b,0,none⟩) ls.length cap] w fun e w'=>e= .returned (.int .i64 (Pp.chks (ls.map fun s=>s.data.toList)))∧Below w.heap.size w w':=by
 have HS:Hid (∀i (h:i<ls.length),(ls[i]).size≤1000000000000000):=hs;have HC:Hid (∀i (h:i<ls.length),w.cell? ⟨b,i,none⟩=some (.string ls[i])):=hc;clear hs hc;go_enter Tryz.func148,Tryz.ntmps148
 go_wp2_with fail;go_loopw [8] (fun i wr=> ∃k:Nat,k≤ls.length∧i= .int .i64 k∧Pp.chks (ls.map fun s=>s.data.toList)=Pp.chks ((ls.drop k).map fun s=>s.data.toList)∧Below w.heap.size w wr) (fun i _=>ls.length-(intOf i).toNat)
 case atStart=>exact⟨0,Nat.zero_le _,rfl,rfl,Below.refl _ _⟩
 case round=>
  obtain⟨k,hk,rfl,heq,hbel⟩:=hrel
  have HE:Hid (Pp.chks (ls.map fun s=>s.data.toList)=Pp.chks ((ls.drop k).map fun s=>s.data.toList)):=heq;clear heq;by_cases hlt:k<ls.length
  · have hcell:wr.cell? ⟨b,k,none⟩=some (.string ls[k]):=(hbel.cell (p:=⟨b,k,none⟩) hb).trans (HC.out k hlt)
    have HD:Hid (ls.drop k=ls[k]::ls.drop (k+1)):=List.drop_eq_getElem_cons hlt;cases hz:(Pp.chk (ls[k]).data.toList==0)with
    |true=>
     have HZ:=hid (show Pp.chk (ls[k]).data.toList=0 from by simpa using hz);clear hz;go_wp2_with fail;refine(check_any _ _ (HS.out k hlt)).mono ?_
     rintro e w1 ⟨rfl,hb1⟩;rw[HZ.out];go_wp2_with fail;go_roundw
     case rel=>exact⟨k+1,by omega,by simp,by rw[HE.out,HD.out,List.map_cons,Pp.chks,if_pos HZ.out],hbel.trans (hb1.mono hbel.size)⟩
     case measure=>simp[intOf];omega
    |false=>
     have HZ:=hid (show¬Pp.chk (ls[k]).data.toList=0 from by simpa using hz);go_wp2_with fail;refine(check_any _ _ (HS.out k hlt)).mono ?_
     rintro e w1 ⟨rfl,hb1⟩;go_wp2_with fail;go_ret;exact⟨Pp.ret_int (by rw[HE.out,HD.out,List.map_cons,Pp.chks,if_neg HZ.out]),hbel.trans (hb1.mono hbel.size)⟩
  · go_wp2_with fail
    go_ret;exact⟨Pp.ret_int (by rw[HE.out,List.drop_of_length_le (by omega)];rfl),hbel⟩
theorem below_trans {a b c:World} (h1:Below a.heap.size a b) (h2:Below b.heap.size b c):Below a.heap.size a c:=h1.trans (h2.mono h1.size)
theorem lastIdx_any (s:ByteArray) (c:UInt8) (w:World) (hs:s.size≤1000000000000000):
    Calls Tryz.prog 222 #[.string s,.string ⟨#[c]⟩] w fun e w'=>e= .returned (.int .i64 (Lib.lastIndexByte s (c.toNat:Int)))∧w'=w:=
 Tryz.strings_LastIndex_one s ⟨#[c]⟩ rfl (by omega) w
set_option maxHeartbeats 400000 in
theorem split_any (s:ByteArray) (w:World) (hs:s.size≤1000000000000000):
    Calls Tryz.prog 209 #[.string s] w fun e w'=>e= .returned (.tuple #[.string ⟨(Pp.par s.data.toList).toArray⟩,.string ⟨(Pp.lst s.data.toList).toArray⟩])∧Below w.heap.size w w':=by
 rcases Pp.last_cases s 47 with⟨e,hn⟩|⟨a,b,e,hn,hl⟩
 · have HE:Hid (Lib.lastIndexByte s ((47:UInt8).toNat:Int)= -1):=e
   have HP:=hid (show s.extract 0 0=⟨(Pp.par s.data.toList).toArray⟩from Pp.bytes_eq (by rw[Lib.extract_data,Pp.par_none hn];simp));have HL:=hid (show⟨(Pp.lst s.data.toList).toArray⟩=s from by rw[Pp.lst_none hn]);clear e hn;go_enter Tryz.func209,Tryz.ntmps209
   go_wp2_with fail;refine(lastIdx_any s 47 _ hs).mono ?_
   rintro e w' ⟨rfl,rfl⟩;rw[HE.out];go_wp2_with fail;go_region
   go_wp2;go_ret2;exact⟨by rw[show(max (-1:Int) 0).toNat=0 from rfl,HP.out,HL.out];rfl,(Below.refl _ _).drew⟩
 · have HE:Hid (Lib.lastIndexByte s ((47:UInt8).toNat:Int)=a.length):=e
   have hz:s.size=a.length+b.length+1:=by rw[Lib.size_eq,hl];simp;try omega
   have l1:(a.length:Int)≤s.size:=by omega
   have l2:(a.length:Int)+1≤s.size:=by omega
   have HP:=hid (show s.extract 0 a.length=⟨(Pp.par s.data.toList).toArray⟩from Pp.bytes_eq (by rw[Lib.extract_data,hl,Pp.par_cut a hn];simp));have HL:=hid (show s.extract (a.length+1) s.size=⟨(Pp.lst s.data.toList).toArray⟩from Pp.bytes_eq (by rw[Lib.extract_data,hl,Pp.lst_cut a hn,hz];simp));clear e hn hl hz;go_enter Tryz.func209,Tryz.ntmps209
   go_wp2_with fail;refine(lastIdx_any s 47 _ hs).mono ?_
   rintro e w' ⟨rfl,rfl⟩;rw[HE.out];go_wp2_with fail;go_region
   go_wp2;go_ret2;exact⟨by rw[HP.out,HL.out];rfl,(Below.refl _ _).drew⟩
theorem checkAll1 (s:ByteArray) (ty:TypeId) (w:World) (hs:s.size≤1000000000000000):
    Calls Tryz.prog 148 #[.slice (some ⟨w.heap.size,0,none⟩) 1 1] (w.alloc (.cells #[.string s] ty)) fun e w'=>e= .returned (.int .i64 (Pp.chk s.data.toList))∧Below w.heap.size w w':=by
 refine(checkAll_any [s] w.heap.size 1 _ (by simp) (by simp) (fun i h=>?_) (fun i h=>?_)).mono ?_
 · obtain rfl:i=0:=by simpa using h
   exact hs
 · obtain rfl:i=0:=by simpa using h
   simp
 · rintro e w' ⟨rfl,hb⟩
   refine⟨Pp.ret_int ?_,((Below.refl _ _).alloc (Nat.le_refl _) _).trans (hb.mono (by simp))⟩
   simp only[List.map,Pp.chks];split
   · rename_i h;exact h.symm
   · rfl
set_option maxHeartbeats 400000 in
theorem parent_any (s:ByteArray) (w:World) (hs:s.size≤1000000000000000):
    Calls Tryz.prog 183 #[.string s] w fun e w'=>e= .returned (.tuple #[.string ⟨(Pp.ifc (Pp.chk s.data.toList) (Pp.par s.data.toList)).toArray⟩,.int .i64 (Pp.chk s.data.toList)])∧Below w.heap.size w w':=by
 by_cases hz:Pp.chk s.data.toList=0
 · have HZ:Hid (Pp.chk s.data.toList=0):=hz
   have HR:Hid (Pp.ifc 0 (Pp.par s.data.toList)=Pp.par s.data.toList):=Pp.ifc_yes rfl _;clear hz;go_enter Tryz.func183,Tryz.ntmps183
   go_wp2_with fail;refine(checkAll1 s _ _ hs).mono ?_
   rintro e w1 ⟨rfl,hb1⟩;rw[HZ.out];go_wp2_with fail;refine(split_any s _ hs).mono ?_
   rintro e w2 ⟨rfl,hb2⟩;go_wp2;go_ret2;exact⟨by rw[HZ.out,HR.out];rfl,hb1.trans (hb2.mono hb1.size)⟩
 · have hz2:(Pp.chk s.data.toList==0)=false:=by simpa using hz
   have HR:Hid (Pp.ifc (Pp.chk s.data.toList) (Pp.par s.data.toList)=[]):=Pp.ifc_no hz _;clear hz;go_enter Tryz.func183,Tryz.ntmps183
   go_wp2_with fail;refine(checkAll1 s _ _ hs).mono ?_
   rintro e w1 ⟨rfl,hb1⟩;go_wp2;go_ret2;exact⟨by rw[HR.out];rfl,hb1⟩
namespace Pp
theorem own_below {w w':World} {base:Nat} {e:TypeId} {size:Nat} {v:Value} {n:Nat} {xs:List Value} (h:w.ownsRow base e size v n xs) (hb:Below w.heap.size w w'):w'.ownsRow base e size v n xs:=by
 obtain⟨h1,h2⟩:=h
 refine⟨h1,?_⟩
 rcases h2 with h2|⟨g,cap,cur,hv,hg,hh,r⟩
 · exact .inl h2
 · refine .inr ⟨g,cap,cur,hv,hg,?_,r⟩
   have hlt:g<w.heap.size:=by
    rcases Nat.lt_or_ge g w.heap.size with h|h
    · exact h
    · rw[Array.getElem?_eq_none h]at hh;cases hh
   rw[hb.block g hlt];exact hh
theorem empty_iff (s:ByteArray):s.toList.isEmpty=true↔s.data.toList=[]:=by rw[Lib.toList_data,List.isEmpty_iff]
theorem not_empty {s:ByteArray} (h:s.toList.isEmpty=false): ¬s.data.toList=[]:=by
 intro e;rw[←empty_iff,h]at e;cases e
end Pp


namespace Pp
end Pp
end Go.Proofs.YtppdfeehhnofaaaGreatDoor
namespace Go.Proofs.YtppdfeehhnofaaaGreatDoor
open Go.RowKit

theorem bx5 {w w1:World} {a b c d e:Value} {T:TypeId} (h:Below (w.alloc (.cells #[a,b,c,d,e] T)).heap.size (w.alloc (.cells #[a,b,c,d,e] T)) w1):
    w1.cell? ⟨w.heap.size,0,none⟩=some a∧w1.cell? ⟨w.heap.size,1,none⟩=some b∧w1.cell? ⟨w.heap.size,2,none⟩=some c∧w1.cell? ⟨w.heap.size,3,none⟩=some d∧w1.cell? ⟨w.heap.size,4,none⟩=some e∧Below w.heap.size w w1∧w.heap.size<w1.heap.size:=by
 have hz:w.heap.size<(w.alloc (.cells #[a,b,c,d,e] T)).heap.size:=by simp
 refine⟨?_,?_,?_,?_,?_,((Below.refl _ _).alloc (Nat.le_refl _) _).trans (h.mono (Nat.le_of_lt hz)),Nat.lt_of_lt_of_le hz h.size⟩
 · exact(h.cell (p:=⟨w.heap.size,0,none⟩) hz).trans (by simp)
 · exact(h.cell (p:=⟨w.heap.size,1,none⟩) hz).trans (by simp)
 · exact(h.cell (p:=⟨w.heap.size,2,none⟩) hz).trans (by simp)
 · exact(h.cell (p:=⟨w.heap.size,3,none⟩) hz).trans (by simp)
 · exact(h.cell (p:=⟨w.heap.size,4,none⟩) hz).trans (by simp)
namespace Pp
theorem cc14 {k:Int} (hk:k=1∨k=4) (p q t:ByteArray) (b:Int) (hz:chk p.data.toList=0):
    (q.toList.isEmpty=false∧Hid (1=chgE ⟨k,p,q,t,b⟩))∨(q.toList.isEmpty=true∧t.toList.isEmpty=false∧Hid (1=chgE ⟨k,p,q,t,b⟩))∨
    (q.toList.isEmpty=true∧t.toList.isEmpty=true∧(t.size:Int)≤300∧b< -1∧Hid (3=chgE ⟨k,p,q,t,b⟩))∨
    (q.toList.isEmpty=true∧t.toList.isEmpty=true∧(t.size:Int)≤300∧1000000<b∧Hid (3=chgE ⟨k,p,q,t,b⟩))∨
    (q.toList.isEmpty=true∧t.toList.isEmpty=true∧(t.size:Int)≤300∧ -1≤b∧b≤1000000∧Hid (0=chgE ⟨k,p,q,t,b⟩)):=by
 have h3: ¬k=3:=by omega
 have h2: ¬k=2:=by omega
 have hkk: ¬(k<1∨4<k):=by omega
 have hE:chgE ⟨k,p,q,t,b⟩=if(¬q.data.toList=[])∨(¬t.data.toList=[])then 1 else if 300<t.size then 2 else if b< -1∨1000000<b then 3 else 0:=by
  simp only[chgE,hkk,if_false,hz,not_true,h3,h2,false_and,not_false_iff,true_and]
 cases hq:q.toList.isEmpty with
 |false=>exact Or.inl ⟨rfl,(by rw[hE,if_pos (Or.inl (not_empty hq))]:1=chgE ⟨k,p,q,t,b⟩)⟩
 |true=>
  have hq':=(empty_iff q).1 hq;cases ht:t.toList.isEmpty with
  |false=>exact Or.inr (Or.inl ⟨rfl,rfl,(by rw[hE,if_pos (Or.inr (not_empty ht))]:1=chgE ⟨k,p,q,t,b⟩)⟩)
  |true=>
   have ht':=(empty_iff t).1 ht;have hs:t.size=0:=by rw[Lib.size_eq,ht'];rfl
   rw[if_neg (by simp[hq',ht']),if_neg (by omega)]at hE;by_cases h1:b< -1
   · exact Or.inr (Or.inr (Or.inl ⟨rfl,rfl,by omega,h1,(by rw[hE,if_pos (Or.inl h1)]:3=chgE ⟨k,p,q,t,b⟩)⟩))
   · by_cases h5:1000000<b
     · exact Or.inr (Or.inr (Or.inr (Or.inl ⟨rfl,rfl,by omega,h5,(by rw[hE,if_pos (Or.inr h5)]:3=chgE ⟨k,p,q,t,b⟩)⟩)))
     · exact Or.inr (Or.inr (Or.inr (Or.inr ⟨rfl,rfl,by omega,by omega,by omega,(by rw[hE,if_neg (by omega)]:0=chgE ⟨k,p,q,t,b⟩)⟩)))
theorem cc2 (p q t:ByteArray) (b:Int) (hz:chk p.data.toList=0):
    (q.toList.isEmpty=false∧Hid (1=chgE ⟨2,p,q,t,b⟩))∨(q.toList.isEmpty=true∧300<(t.size:Int)∧Hid (2=chgE ⟨2,p,q,t,b⟩))∨
    (q.toList.isEmpty=true∧(t.size:Int)≤300∧b< -1∧Hid (3=chgE ⟨2,p,q,t,b⟩))∨
    (q.toList.isEmpty=true∧(t.size:Int)≤300∧1000000<b∧Hid (3=chgE ⟨2,p,q,t,b⟩))∨
    (q.toList.isEmpty=true∧(t.size:Int)≤300∧ -1≤b∧b≤1000000∧Hid (0=chgE ⟨2,p,q,t,b⟩)):=by
 have hE:chgE ⟨2,p,q,t,b⟩=if(¬q.data.toList=[])then 1 else if 300<t.size then 2 else if b< -1∨1000000<b then 3 else 0:=by
  simp[chgE,hz]
 cases hq:q.toList.isEmpty with
 |false=>exact Or.inl ⟨rfl,(by rw[hE,if_pos (not_empty hq)]:1=chgE ⟨2,p,q,t,b⟩)⟩
 |true=>
  have hq':=(empty_iff q).1 hq;rw[if_neg (by simp[hq'])]at hE;by_cases hs:300<(t.size:Int)
  · exact Or.inr (Or.inl ⟨rfl,hs,(by rw[hE,if_pos (by omega)]:2=chgE ⟨2,p,q,t,b⟩)⟩)
  · rw[if_neg (by omega)]at hE
    by_cases h1:b< -1
    · exact Or.inr (Or.inr (Or.inl ⟨rfl,by omega,h1,(by rw[hE,if_pos (Or.inl h1)]:3=chgE ⟨2,p,q,t,b⟩)⟩))
    · by_cases h5:1000000<b
      · exact Or.inr (Or.inr (Or.inr (Or.inl ⟨rfl,by omega,h5,(by rw[hE,if_pos (Or.inr h5)]:3=chgE ⟨2,p,q,t,b⟩)⟩)))
      · exact Or.inr (Or.inr (Or.inr (Or.inr ⟨rfl,by omega,by omega,by omega,(by rw[hE,if_neg (by omega)]:0=chgE ⟨2,p,q,t,b⟩)⟩)))
theorem cc3 (p q t:ByteArray) (b:Int) (hz:chk p.data.toList=0) (hy:chk q.data.toList=0):
    (t.toList.isEmpty=false∧Hid (1=chgE ⟨3,p,q,t,b⟩))∨
    (t.toList.isEmpty=true∧(t.size:Int)≤300∧b< -1∧Hid (3=chgE ⟨3,p,q,t,b⟩))∨
    (t.toList.isEmpty=true∧(t.size:Int)≤300∧1000000<b∧Hid (3=chgE ⟨3,p,q,t,b⟩))∨
    (t.toList.isEmpty=true∧(t.size:Int)≤300∧ -1≤b∧b≤1000000∧Hid (0=chgE ⟨3,p,q,t,b⟩)):=by
 have hE:chgE ⟨3,p,q,t,b⟩=if(¬t.data.toList=[])then 1 else if 300<t.size then 2 else if b< -1∨1000000<b then 3 else 0:=by
  simp[chgE,hz,hy]
 cases ht:t.toList.isEmpty with
 |false=>exact Or.inl ⟨rfl,(by rw[hE,if_pos (not_empty ht)]:1=chgE ⟨3,p,q,t,b⟩)⟩
 |true=>
  have ht':=(empty_iff t).1 ht;have hs:t.size=0:=by rw[Lib.size_eq,ht'];rfl
  rw[if_neg (by simp[ht']),if_neg (by omega)]at hE;by_cases h1:b< -1
  · exact Or.inr (Or.inl ⟨rfl,by omega,h1,(by rw[hE,if_pos (Or.inl h1)]:3=chgE ⟨3,p,q,t,b⟩)⟩)
  · by_cases h5:1000000<b
    · exact Or.inr (Or.inr (Or.inl ⟨rfl,by omega,h5,(by rw[hE,if_pos (Or.inr h5)]:3=chgE ⟨3,p,q,t,b⟩)⟩))
    · exact Or.inr (Or.inr (Or.inr ⟨rfl,by omega,by omega,by omega,(by rw[hE,if_neg (by omega)]:0=chgE ⟨3,p,q,t,b⟩)⟩))
end Pp
end Go.Proofs.YtppdfeehhnofaaaGreatDoor
namespace Go.Proofs.YtppdfeehhnofaaaGreatDoor
open Go.RowKit

namespace Jn
theorem co_cases (c:Co) (n:Int):((c.nu==n)=false∧coE c n=4)∨(c.nu=n∧1000000<n∧coE c n=3)∨(c.nu=n∧ ¬1000000<n∧Pp.keyE c.ke.data.toList=1∧coE c n=1)∨
    (c.nu=n∧ ¬1000000<n∧Pp.keyE c.ke.data.toList=0∧c.ch.length=0∧coE c n=1)∨(c.nu=n∧ ¬1000000<n∧Pp.keyE c.ke.data.toList=0∧0<c.ch.length∧coE c n=0):=by
 by_cases h1:c.nu=n
 · by_cases h2:1000000<n
   · exact Or.inr (Or.inl ⟨h1,h2,by rw[coE,if_neg (fun x=>x h1),if_pos h2]⟩)
   · cases h3:Pp.keyB c.ke.data.toList with
     |false=>exact Or.inr (Or.inr (Or.inl ⟨h1,h2,Pp.keyE_no h3,by rw[coE,if_neg (fun x=>x h1),if_neg h2,if_pos (by simp[h3])]⟩))
     |true=>
      by_cases h4:c.ch=[]
      · exact Or.inr (Or.inr (Or.inr (Or.inl ⟨h1,h2,Pp.keyE_yes h3,by rw[h4];rfl,by rw[coE,if_neg (fun x=>x h1),if_neg h2,if_neg (fun x=>x h3),if_pos h4]⟩)))
      · exact Or.inr (Or.inr (Or.inr (Or.inr ⟨h1,h2,Pp.keyE_yes h3,List.length_pos_iff.2 h4,by rw[coE,if_neg (fun x=>x h1),if_neg h2,if_neg (fun x=>x h3),if_neg h4]⟩)))
 · exact Or.inl ⟨by simpa using h1,by rw[coE,if_pos h1]⟩
end Jn

set_option maxRecDepth 100000 in
set_option maxHeartbeats 1000000 in
theorem checkCommit_any (c:Co) (u:Value) (n:Int) (w:World) (hu:LiesC w u c.ch) (hke:c.ke.size≤maxLen):
    Calls Tryz.prog 111 #[.agg #[.int .i64 c.nu,.string c.ke,u],.int .i64 n] w fun e w'=>e= .returned (.int .i64 (Jn.coE c n))∧Below w.heap.size w w':=by
 obtain⟨a,cap,rfl,hcap,hcap2,_⟩:=hu
 have hbw:Below w.heap.size w (w.alloc (.cells #[.int .i64 c.nu,.string c.ke,.slice a c.ch.length cap] 132)):=(Below.refl _ _).alloc (Nat.le_refl _) _;rcases Jn.co_cases c n with⟨h1,hE⟩|⟨h1,h2,hE⟩|⟨h1,h2,h3,hE⟩|⟨h1,h2,h3,h4,hE⟩|⟨h1,h2,h3,h4,hE⟩
 · have HE:=hid hE
   clear hE;go_enter Tryz.func111,Tryz.ntmps111
   go_wp2;go_ret;exact⟨by rw[HE.out];rfl,hbw⟩
 · have HE:=hid hE
   clear hE;obtain⟨nu,ke,ch⟩:=c
   simp only at h1 h2 hbw hke⊢;subst h1;go_enter Tryz.func111,Tryz.ntmps111
   go_wp2;go_ret;exact⟨by rw[HE.out];rfl,hbw⟩
 all_goals
  have HE:=hid hE;have H3:=hid h3;clear hE h3;try (have h4':((c.ch.length:Int)==0)=true:=by rw[beq_iff_eq];omega)
  try (have h4':((c.ch.length:Int)==0)=false:=by rw[beq_eq_false_iff_ne];omega)
  try clear h4
  obtain⟨nu,ke,ch⟩:=c
  simp only at h1 h2 hbw hke hcap hcap2⊢;try simp only at h4'
  subst h1;go_enter Tryz.func111,Tryz.ntmps111
  go_wp2_with fail;refine(key_any ke _ hke).mono ?_
  rintro e w1 ⟨rfl,hw⟩;rw[hw,H3.out];clear hw w1;go_wp2;go_ret;exact⟨by rw[HE.out];rfl,hbw⟩
end Go.Proofs.YtppdfeehhnofaaaGreatDoor
