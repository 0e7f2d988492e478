/- Boxes of some cells in memory, and what is stored in them; what lies elsewhere stays. -/
import Derived.Test.YtlllcifehellpaaGreatDoorCKB
import Derived.Maps.OwnSet
import Derived.Test.YtlllcifehellpaaGreatDoorCKA
import Derived.Laws.OwnMore
set_option linter.unusedSimpArgs false
set_option linter.unusedVariables false
namespace Go.Proofs.YtlllcifehellpaaGreatDoor
open Go.RowKit Go.Maps

theorem heap_lt {W:World} {b:Nat} {o:Obj} (h:W.heap[b]?=some o):b<W.heap.size:=by
 rcases Nat.lt_or_ge b W.heap.size with h1|h1
 · exact h1
 · rw[Array.getElem?_eq_none h1]at h;cases h
/-- A block that holds just these cells, and may be written. -/
def Cs (W:World) (b:Nat) (vs:List Value):Prop:= ∃T,W.heap[b]?=some (.cells vs.toArray T (0,0))
theorem Cs.lt {W:World} {b:Nat} {vs:List Value} (h:Cs W b vs):b<W.heap.size:=h.elim fun _ h=>heap_lt h
theorem Cs.cell {W:World} {b:Nat} {vs:List Value} (h:Cs W b vs) (i:Nat) {v:Value} (hv:vs[i]?=some v):W.cell? ⟨b,i,none⟩=some v:=by
 obtain⟨T,h⟩:=h
 simp[World.cell?,h,hv]
theorem Cs.fr {W:World} {b:Nat} {vs:List Value} (h:Cs W b vs) (i:Nat):W.frozen? ⟨b,i,none⟩=false:=by
 obtain⟨T,h⟩:=h
 simp[World.frozen?,h]
theorem Cs.belowAt {W W':World} {b B:Nat} {vs:List Value} (h:Cs W b vs) (hw:Below B W W') (hb:b<B):Cs W' b vs:=by
 obtain⟨T,h⟩:=h
 exact⟨T,(hw.block b hb).trans h⟩
theorem Cs.below {W W':World} {b:Nat} {vs:List Value} (h:Cs W b vs) (hw:Below W.heap.size W W'):Cs W' b vs:=h.belowAt hw h.lt
theorem Cs.nb {W W':World} {b g:Nat} {vs:List Value} (h:Cs W b vs) (hw:W.grownBy W' (some g)) (hne:b≠g):Cs W' b vs:=by
 have hl:=h.lt;obtain⟨T,h⟩:=h
 exact⟨T,(hw.block b hl (fun e=>hne (by injection e))).trans h⟩
theorem Cs.new (w:World) (vs:List Value) (T:TypeId):Cs (w.alloc (.cells vs.toArray T)) w.heap.size vs:=⟨T,by show(w.heap.push _)[w.heap.size]?=_;simp⟩
theorem Cs.set {W:World} {b:Nat} {vs:List Value} (h:Cs W b vs) (i:Nat) (u:Value):Cs (W.setCell ⟨b,i,none⟩ u) b (vs.set i u):=by
 obtain⟨T,h⟩:=h
 refine⟨T,?_⟩
 unfold World.setCell;simp only[Array.getElem?_modify,h,if_true,Option.map_some];simp
theorem nb_set (W:World) (b o:Nat) (u:Value):W.grownBy (W.setCell ⟨b,o,none⟩ u) (some b):=
 ⟨rfl,rfl,rfl,by simp,fun k _ hk=>Below.heap_setCell W _ u k (fun e=>hk (by rw[e]))⟩
theorem Cs.other {W:World} {b b' o:Nat} {vs:List Value} (h:Cs W b vs) (hne:b≠b') (u:Value):Cs (W.setCell ⟨b',o,none⟩ u) b vs:=h.nb (nb_set W b' o u) hne
/-- A block without texts. -/
def NoStr (W:World) (g:Nat):Prop:= ∀o s,W.cell? ⟨g,o,none⟩≠some (.string s)
theorem EnAt.ne {W:World} {b o g:Nat} {e:En} (h:EnAt W b o e) (hn:NoStr W g):b≠g:=fun hb=>hn o e.path (hb▸h.1)
theorem ChAt.ne {W:World} {b o g:Nat} {c:Pp.Ch} (h:ChAt W b o c) (hn:NoStr W g):b≠g:=fun hb=>hn (o+1) c.p (hb▸h.2.1)
theorem cell_nb {W W':World} {g b:Nat} (hw:W.grownBy W' (some g)) (hb:b<W.heap.size) (hne:b≠g) (o:Nat):W'.cell? ⟨b,o,none⟩=W.cell? ⟨b,o,none⟩:=
 World.cell?_of_block (w:=W) (a:=⟨b,o,none⟩) (hw.block b hb (fun e=>hne (by injection e)))
theorem Lies.nb {W W':World} {v:Value} {L:List En} {g:Nat} (h:Lies W v L) (hw:W.grownBy W' (some g)) (hn:NoStr W g):Lies W' v L:=by
 obtain⟨a,cap,hv,h1,h2,h3⟩:=h
 refine⟨a,cap,hv,h1,h2,fun i hi=>?_⟩
 obtain⟨b,o,ha,hb,he⟩:=h3 i hi
 have c:=cell_nb hw hb (he.ne hn);exact⟨b,o,ha,Nat.lt_of_lt_of_le hb hw.size,(c _).trans he.1,(c _).trans he.2.1,(c _).trans he.2.2.1,(c _).trans he.2.2.2⟩
theorem LiesC.nb {W W':World} {v:Value} {L:List Pp.Ch} {g:Nat} (h:LiesC W v L) (hw:W.grownBy W' (some g)) (hn:NoStr W g):LiesC W' v L:=by
 obtain⟨a,cap,hv,h1,h2,h3⟩:=h
 refine⟨a,cap,hv,h1,h2,fun i hi=>?_⟩
 obtain⟨b,o,ha,hb,he⟩:=h3 i hi
 have c:=cell_nb hw hb (he.ne hn);exact⟨b,o,ha,Nat.lt_of_lt_of_le hb hw.size,(c _).trans he.1,(c _).trans he.2.1,(c _).trans he.2.2.1,(c _).trans he.2.2.2.1,(c _).trans he.2.2.2.2⟩
/-- Grown, and written in two blocks alone. -/
structure Nb2 (w w':World) (b m:Nat):Prop where
 os:w'.os=w.os
 tape:w'.tape=w.tape
 output:w'.output=w.output
 size:w.heap.size≤w'.heap.size
 block: ∀k,k<w.heap.size→k≠b→k≠m→w'.heap[k]?=w.heap[k]?
theorem Nb2.of_below {w w':World} (b m:Nat) (h:Below w.heap.size w w'):Nb2 w w' b m:=⟨h.os,h.tape,h.output,h.size,fun k hk _ _=>h.block k hk⟩
theorem Nb2.trans {a c d:World} {b m:Nat} (h:Nb2 a c b m) (k:Nb2 c d b m):Nb2 a d b m:=
 ⟨k.os.trans h.os,k.tape.trans h.tape,k.output.trans h.output,Nat.le_trans h.size k.size,fun q hq h1 h2=>(k.block q (Nat.lt_of_lt_of_le hq h.size) h1 h2).trans (h.block q hq h1 h2)⟩
theorem Nb2.cell {w w':World} {b m k:Nat} (h:Nb2 w w' b m) (hk:k<w.heap.size) (h1:k≠b) (h2:k≠m) (o:Nat):w'.cell? ⟨k,o,none⟩=w.cell? ⟨k,o,none⟩:=World.cell?_of_block (w:=w) (a:=⟨k,o,none⟩) (h.block k hk h1 h2)
theorem bs8 {B b:Nat} {w0 W:World} {v0 v1 v2 v3 v4 v5 v6 v7:Value} (h:Below B w0 W) (hb:B≤b):Below B w0 ((((((((W.setCell ⟨b,0,none⟩ v0).setCell ⟨b,1,none⟩ v1).setCell ⟨b,2,none⟩ v2).setCell ⟨b,3,none⟩ v3).setCell ⟨b,4,none⟩ v4).setCell ⟨b,5,none⟩ v5).setCell ⟨b,6,none⟩ v6).setCell ⟨b,7,none⟩ v7):=((((((((h.setCell (p:=⟨b,0,none⟩) hb _).setCell (p:=⟨b,1,none⟩) hb _).setCell (p:=⟨b,2,none⟩) hb _).setCell (p:=⟨b,3,none⟩) hb _).setCell (p:=⟨b,4,none⟩) hb _).setCell (p:=⟨b,5,none⟩) hb _).setCell (p:=⟨b,6,none⟩) hb _).setCell (p:=⟨b,7,none⟩) hb _)
theorem bs10 {B b:Nat} {w0 W:World} {v0 v1 v2 v3 v4 v5 v6 v7 v8 v9:Value} (h:Below B w0 W) (hb:B≤b):Below B w0 ((((((((((W.setCell ⟨b,0,none⟩ v0).setCell ⟨b,1,none⟩ v1).setCell ⟨b,2,none⟩ v2).setCell ⟨b,3,none⟩ v3).setCell ⟨b,4,none⟩ v4).setCell ⟨b,5,none⟩ v5).setCell ⟨b,6,none⟩ v6).setCell ⟨b,7,none⟩ v7).setCell ⟨b,8,none⟩ v8).setCell ⟨b,9,none⟩ v9):=((((((((((h.setCell (p:=⟨b,0,none⟩) hb _).setCell (p:=⟨b,1,none⟩) hb _).setCell (p:=⟨b,2,none⟩) hb _).setCell (p:=⟨b,3,none⟩) hb _).setCell (p:=⟨b,4,none⟩) hb _).setCell (p:=⟨b,5,none⟩) hb _).setCell (p:=⟨b,6,none⟩) hb _).setCell (p:=⟨b,7,none⟩) hb _).setCell (p:=⟨b,8,none⟩) hb _).setCell (p:=⟨b,9,none⟩) hb _)
end Go.Proofs.YtlllcifehellpaaGreatDoor
namespace Go.Proofs.YtlllcifehellpaaGreatDoor
open Go.RowKit
theorem below_tr {w w1 w2:World} (h1:Below w.heap.size w w1) (h2:Below w1.heap.size w1 w2):Below w.heap.size w w2:=h1.trans (h2.mono h1.size)
structure Cn where
 who:ByteArray
 fo:ByteArray
 base:List En
 cur:Int
 mine:List En
 key:ByteArray
 ask:List Pp.Ch
 keys:Int
/-- A client as a value: its trees and changes lie in memory. -/
def LiesN (w:World) (v:Value) (c:Cn):Prop:= ∃vb vm va,v= .agg #[.string c.who,.string c.fo,vb,.int .i64 c.cur,vm,.string c.key,va,.int .i64 c.keys]∧Lies w vb c.base∧Lies w vm c.mine∧LiesC w va c.ask
theorem LiesN.below {w w':World} {v:Value} {c:Cn} (h:LiesN w v c) (hw:Below w.heap.size w w'):LiesN w' v c:=by
 obtain⟨vb,vm,va,e,h1,h2,h3⟩:=h
 exact⟨vb,vm,va,e,h1.below hw,h2.below hw,h3.below hw⟩
structure SizedN (c:Cn):Prop where
 who:c.who.size≤150000000000000
 fo:c.fo.size≤150000000000000
 key:c.key.size≤150000000000000
 base:Sized c.base
 mine:Sized c.mine
namespace Cy
def cnE (who fo:ByteArray):Int:=if¬Pp.nmsE [who,fo]=0 then Pp.nmsE [who,fo]else if 10<who.size then 1 else Pp.keyE who.data.toList
def caE (key:ByteArray) (n:Nat):Int:=if¬key.size=0∧ ¬Pp.keyE key.data.toList=0 then 1 else if decide (key.size=0)≠decide (n=0)then 4 else if 20<n then 2 else 0
def rgB (c:Cn):Bool:=decide (c.cur<0)||decide (1000000<c.cur)||decide (c.keys<0)||decide (1000000<c.keys)
def chE (c:Cn):Int:=if¬cnE c.who c.fo=0 then cnE c.who c.fo else if¬Pp.treeE c.base=0 then Pp.treeE c.base else if¬Pp.treeE c.mine=0 then Pp.treeE c.mine else if rgB c=true then 3 else caE c.key c.ask.length
end Cy

set_option maxRecDepth 100000 in
set_option maxHeartbeats 1000000 in
theorem cNames_any (who fo:ByteArray) (w:World) (hw:who.size≤150000000000000) (hf:fo.size≤150000000000000):
    Calls Tryz.prog 46 #[.string who,.string fo] w fun e w'=>e= .returned (.int .i64 (Cy.cnE who fo))∧Below w.heap.size w w':=by
 obtain⟨wz,hwz⟩: ∃wz,wz=w.alloc (.cells #[.string who,.string fo] 9):=⟨_,rfl⟩
 have hbz:Below w.heap.size w wz:=by rw[hwz];exact(Below.refl _ _).alloc (Nat.le_refl _) _
 have HX:=hid (show Cs wz w.heap.size [.string who,.string fo]from by rw[hwz];exact Cs.new _ [.string who,.string fo] _);obtain⟨r,hr⟩: ∃r,r=Cy.cnE who fo:=⟨_,rfl⟩
 rw[←hr];have HR:=hid hr;clear hr;go_enter Tryz.func46,Tryz.ntmps46
 go_wp2_with fail;rw[←hwz]
 refine(names_any [who,fo] w.heap.size 0 2 wz HX.out.lt (fun i hi=>by
  match i,hi with
  |0,_=>show who.size≤_;omega
  |1,_=>show fo.size≤_;omega) (by simp) (fun i hi=>by
  match i,hi with
  |0,_=>exact HX.out.cell 0 rfl
  |1,_=>exact HX.out.cell 1 rfl)).mono ?_
 rintro e w1 ⟨rfl,hb1⟩;have hb01:=below_tr hbz hb1;by_cases hn:Pp.nmsE [who,fo]=0
 · by_cases h10:10<who.size
   · have HE:=hid (show r=1 from by rw[HR.out,Cy.cnE,if_neg (fun x=>x hn),if_pos h10])
     have h10':10<(who.size:Int):=by omega
     rw[hn];go_wp2_with fail;go_ret;exact⟨by rw[HE.out];rfl,hb01⟩
   · have HE:=hid (show r=Pp.keyE who.data.toList from by rw[HR.out,Cy.cnE,if_neg (fun x=>x hn),if_neg h10])
     have h10': ¬10<(who.size:Int):=by omega
     rw[hn];go_wp2_with fail;refine(key_any who _ (by unfold maxLen;omega)).mono ?_
     rintro e w2 ⟨rfl,rfl⟩;go_wp2_with fail;go_ret;exact⟨by rw[HE.out];rfl,hb01⟩
 · have HE:=hid (show r=Pp.nmsE [who,fo]from by rw[HR.out,Cy.cnE,if_pos hn])
   have hn':(Pp.nmsE [who,fo] !=0)=true:=by simpa using hn
   generalize Pp.nmsE [who,fo]=n at*;clear hn;go_wp2_with fail;go_ret;exact⟨by rw[HE.out];rfl,hb01⟩
set_option maxRecDepth 100000 in
set_option maxHeartbeats 1000000 in
theorem cAsked_any (key:ByteArray) (a:Option Addr) (n cap:Nat) (w:World) (hk:key.size≤150000000000000) (hn:n≤1000000000000000):
    Calls Tryz.prog 48 #[.string key,.slice a n cap] w fun e w'=>e= .returned (.int .i64 (Cy.caE key n))∧w'=w:=by
 obtain⟨r,hr⟩: ∃r,r=Cy.caE key n:=⟨_,rfl⟩
 rw[←hr];have HR:=hid hr;clear hr;by_cases k0:key.size=0
 · have ke:key=⟨#[]⟩:=by
    cases key with
    |mk d=>have h:d.size=0:=k0;rw[Array.size_eq_zero_iff.1 h]
   subst ke;by_cases n0:n=0
   · subst n0
     have HE:=hid (show r=0 from HR.out);go_enter Tryz.func48,Tryz.ntmps48
     go_wp2_with fail;go_ret;exact⟨by rw[HE.out];rfl,rfl⟩
   · have HE:=hid (show r=4 from by rw[HR.out,Cy.caE,if_neg (fun h=>h.1 k0),if_pos (by rw[decide_eq_true k0];simp[n0])])
     have n1:((n:Int)==0)=false:=by simpa using (by omega: ¬(n:Int)=0)
     clear n0 k0;go_enter Tryz.func48,Tryz.ntmps48
     go_wp2_with fail;go_ret;exact⟨by rw[HE.out];rfl,rfl⟩
 · have kl: ¬key.toList=[]:=by
    rw[Lib.toList_data];intro e;have:key.data.toList.length=key.size:=Array.length_toList
    rw[e]at this;exact k0 this.symm
   have kb:(key.toList==([]:List UInt8))=false:=beq_eq_false_iff_ne.2 kl;have kb2:(key.toList==(⟨#[]⟩:ByteArray).toList)=false:=by rw[Lib.toList_data ⟨#[]⟩];exact kb
   by_cases hK:Pp.keyE key.data.toList=0
   · have hc: ¬(¬key.size=0∧ ¬Pp.keyE key.data.toList=0):=fun h=>h.2 hK
     by_cases n0:n=0
     · subst n0
       have HE:=hid (show r=4 from by rw[HR.out,Cy.caE,if_neg hc,if_pos (by simp[k0])]);clear hc;go_enter Tryz.func48,Tryz.ntmps48
       go_wp2_with fail;refine(key_any key _ (by unfold maxLen;omega)).mono ?_
       rintro e w2 ⟨rfl,rfl⟩;rw[hK];go_wp2_with fail;go_ret;exact⟨by rw[HE.out];rfl,rfl⟩
     · have n1:((n:Int)==0)=false:=by simpa using (by omega: ¬(n:Int)=0)
       have hd: ¬decide (key.size=0)≠decide (n=0):=by simp[k0,n0]
       by_cases h20:20<n
       · have HE:=hid (show r=2 from by rw[HR.out,Cy.caE,if_neg hc,if_neg hd,if_pos h20])
         have h20':20<(n:Int):=by omega
         clear hc hd n0;go_enter Tryz.func48,Tryz.ntmps48
         go_wp2_with fail;refine(key_any key _ (by unfold maxLen;omega)).mono ?_
         rintro e w2 ⟨rfl,rfl⟩;rw[hK];go_wp2_with fail;go_ret;exact⟨by rw[HE.out];rfl,rfl⟩
       · have HE:=hid (show r=0 from by rw[HR.out,Cy.caE,if_neg hc,if_neg hd,if_neg h20])
         have h20': ¬20<(n:Int):=by omega
         clear hc hd n0;go_enter Tryz.func48,Tryz.ntmps48
         go_wp2_with fail;refine(key_any key _ (by unfold maxLen;omega)).mono ?_
         rintro e w2 ⟨rfl,rfl⟩;rw[hK];go_wp2_with fail;go_ret;exact⟨by rw[HE.out];rfl,rfl⟩
   · have HE:=hid (show r=1 from by rw[HR.out,Cy.caE,if_pos ⟨k0,hK⟩])
     have hK1:Pp.keyE key.data.toList=1:=by
      rw[Pp.keyE]at hK⊢;split
      · rename_i h;rw[if_pos h]at hK;exact absurd rfl hK
      · rfl
     go_enter Tryz.func48,Tryz.ntmps48
     go_wp2_with fail;refine(key_any key _ (by unfold maxLen;omega)).mono ?_
     rintro e w2 ⟨rfl,rfl⟩;rw[hK1];clear hK hK1;go_wp2_with fail;go_ret;exact⟨by rw[HE.out];rfl,rfl⟩
set_option maxRecDepth 100000 in
set_option maxHeartbeats 2000000 in
theorem ccheck_any (c:Cn) (v:Value) (w:World) (hv:LiesN w v c) (hs:SizedN c):
    Calls Tryz.prog 22 #[v] w fun e w'=>e= .returned (.int .i64 (Cy.chE c))∧Below w.heap.size w w':=by
 obtain⟨vb,vm,va,rfl,hb,hm,ha⟩:=hv
 have HB:=hid hb;have HM:=hid hm;have HS:=hid hs;obtain⟨ab,cb,rfl,_⟩:=hb
 obtain⟨am,cm,rfl,_⟩:=hm
 obtain⟨aa,ca,rfl,_,hal,_⟩:=ha
 obtain⟨r,hr⟩: ∃r,r=Cy.chE c:=⟨_,rfl⟩
 rw[←hr];have HR:=hid hr;have hwho:=hs.who;have hfo:=hs.fo;have hkey:=hs.key;clear hr hs;obtain⟨wz,hwz⟩: ∃wz,wz=w.alloc (.cells #[.string c.who,.string c.fo,.slice ab c.base.length cb,.int .i64 c.cur,.slice am c.mine.length cm,.string c.key,.slice aa c.ask.length ca,.int .i64 c.keys] 25):=⟨_,rfl⟩
 have hbz:Below w.heap.size w wz:=by rw[hwz];exact(Below.refl _ _).alloc (Nat.le_refl _) _
 have HX:=hid (show Cs wz w.heap.size [.string c.who,.string c.fo,.slice ab c.base.length cb,.int .i64 c.cur,.slice am c.mine.length cm,.string c.key,.slice aa c.ask.length ca,.int .i64 c.keys]from by rw[hwz];exact Cs.new _ [.string c.who,.string c.fo,.slice ab c.base.length cb,.int .i64 c.cur,.slice am c.mine.length cm,.string c.key,.slice aa c.ask.length ca,.int .i64 c.keys] _);go_enter Tryz.func22,Tryz.ntmps22
 go_wp2_with fail;rw[←hwz];clear hwz;refine(cNames_any c.who c.fo _ hwho hfo).mono ?_
 rintro e w1 ⟨rfl,hb1⟩;have hb01:=below_tr hbz hb1;have HX1:=hid (HX.out.below hb1);by_cases hn:Cy.cnE c.who c.fo=0
 · have HN:=hid hn
   rw[hn];clear hn;have x2:=HX1.out.cell 2 rfl;have x4:=HX1.out.cell 4 rfl;have hlx:=HX1.out.lt;have hne: ¬w.heap.size=w1.heap.size:=by omega
   obtain⟨wy,hwy⟩: ∃wy,wy=w1.alloc (.cells #[.slice ab c.base.length cb,.slice am c.mine.length cm] 22):=⟨_,rfl⟩
   have hby:Below w1.heap.size w1 wy:=by rw[hwy];exact(Below.refl _ _).alloc (Nat.le_refl _) _
   have HY:=hid (show Cs wy w1.heap.size [.slice ab c.base.length cb,.slice am c.mine.length cm]from by rw[hwy];exact Cs.new _ [.slice ab c.base.length cb,.slice am c.mine.length cm] _);have HXy:=hid (HX1.out.below hby);have hb0y:=below_tr hb01 hby;go_wp2_with fail;rw[←hwy];clear hwy x2 x4;go_loopw [21] (fun x wr=> ∃k:Nat,k≤2∧x= .int .i64 k∧Hid (1≤k→Pp.treeE c.base=0)∧Hid (2≤k→Pp.treeE c.mine=0)∧Below wy.heap.size wy wr) (fun x _=>2-(intOf x).toNat)
   case atStart=>exact⟨0,by omega,rfl,(fun h=>absurd h (by omega):1≤0→Pp.treeE c.base=0),(fun h=>absurd h (by omega):2≤0→Pp.treeE c.mine=0),Below.refl _ _⟩
   case round=>
    obtain⟨k,hk,rfl,H1,H2,hbr⟩:=hrel
    have hbel:=below_tr hb0y hbr;have HYr:=hid (HY.out.below hbr);have HXr:=hid (HXy.out.below hbr);have y0:=HYr.out.cell 0 rfl;have y1:=HYr.out.cell 1 rfl;rcases(by omega:k=0∨k=1∨k=2)with rfl|rfl|rfl
    · go_wp2_with fail
      refine(tcheck_all c.base _ _ (HB.out.below hbel) HS.out.base).mono ?_
      rintro e w2 ⟨rfl,hb2⟩;have hbr2:=below_tr hbr hb2;have hbel2:=below_tr hbel hb2;by_cases hE:Pp.treeE c.base=0
      · have HE:=hid hE
        rw[hE];clear hE y0 y1;go_wp2_with fail;go_roundw
        case rel=>exact⟨1,by omega,rfl,(fun _=>HE.out:1≤1→Pp.treeE c.base=0),(fun h=>absurd h (by omega):2≤1→Pp.treeE c.mine=0),hbr2⟩
        case measure=>simp[intOf]
      · have HE:=hid (show r=Pp.treeE c.base from by rw[HR.out,Cy.chE,if_neg (fun x=>x HN.out),if_pos hE])
        have hE':(Pp.treeE c.base !=0)=true:=by simpa using hE
        clear y0 y1 hE;go_wp2_with fail;go_ret;exact⟨by rw[HE.out];rfl,hbel2⟩
    · go_wp2_with fail
      refine(tcheck_all c.mine _ _ (HM.out.below hbel) HS.out.mine).mono ?_
      rintro e w2 ⟨rfl,hb2⟩;have hbr2:=below_tr hbr hb2;have hbel2:=below_tr hbel hb2;by_cases hE:Pp.treeE c.mine=0
      · have HE:=hid hE
        have HE0:=hid (H1.out (by omega));rw[hE];clear hE y0 y1;go_wp2_with fail;go_roundw
        case rel=>exact⟨2,by omega,rfl,(fun _=>HE0.out:1≤2→Pp.treeE c.base=0),(fun _=>HE.out:2≤2→Pp.treeE c.mine=0),hbr2⟩
        case measure=>simp[intOf]
      · have HE:=hid (show r=Pp.treeE c.mine from by rw[HR.out,Cy.chE,if_neg (fun x=>x HN.out),if_neg (fun x=>x (H1.out (by omega))),if_pos hE])
        have hE':(Pp.treeE c.mine !=0)=true:=by simpa using hE
        clear y0 y1 hE;go_wp2_with fail;go_ret;exact⟨by rw[HE.out];rfl,hbel2⟩
    · have HRR:=hid (show r=if Cy.rgB c=true then 3 else Cy.caE c.key c.ask.length from by rw[HR.out,Cy.chE,if_neg (fun x=>x HN.out),if_neg (fun x=>x (H1.out (by omega))),if_neg (fun x=>x (H2.out (by omega)))])
      have x3:=HXr.out.cell 3 rfl;have x7:=HXr.out.cell 7 rfl;have x5:=HXr.out.cell 5 rfl;have x6:=HXr.out.cell 6 rfl;clear y0 y1 H1 H2;have stop:Cy.rgB c=true→Hid (r=3):=fun h=>(by rw[HRR.out,if_pos h]:r=3)
      by_cases g1:c.cur<0
      · have HE:=stop (by simp[Cy.rgB,g1])
        clear stop;go_wp2_with fail;go_ret;exact⟨by rw[HE.out];rfl,hbel⟩
      · have g1':decide (c.cur<0)=false:=decide_eq_false g1
        by_cases g2:1000000<c.cur
        · have HE:=stop (by simp[Cy.rgB,g2])
          clear stop;go_wp2_with fail;go_ret;exact⟨by rw[HE.out];rfl,hbel⟩
        · have g2':decide (1000000<c.cur)=false:=decide_eq_false g2
          by_cases g3:c.keys<0
          · have HE:=stop (by simp[Cy.rgB,g3])
            clear stop;go_wp2_with fail;go_ret;exact⟨by rw[HE.out];rfl,hbel⟩
          · have g3':decide (c.keys<0)=false:=decide_eq_false g3
            by_cases g4:1000000<c.keys
            · have HE:=stop (by simp[Cy.rgB,g4])
              clear stop;go_wp2_with fail;go_ret;exact⟨by rw[HE.out];rfl,hbel⟩
            · have g4':decide (1000000<c.keys)=false:=decide_eq_false g4
              have HE:=hid (show r=Cy.caE c.key c.ask.length from by rw[HRR.out,if_neg (by rw[Cy.rgB,g1',g2',g3',g4'];decide)]);clear stop;go_wp2_with fail;refine(cAsked_any c.key aa c.ask.length ca _ hkey hal).mono ?_
              rintro e w2 ⟨rfl,rfl⟩;rw[←HE.out];go_wp2_with fail;go_ret;exact⟨rfl,hbel⟩
 · have HE:=hid (show r=Cy.cnE c.who c.fo from by rw[HR.out,Cy.chE,if_pos hn])
   have hn':(Cy.cnE c.who c.fo !=0)=true:=by simpa using hn
   generalize Cy.cnE c.who c.fo=n at*;clear hn;go_wp2_with fail;go_ret;exact⟨by rw[HE.out];rfl,hb01⟩
end Go.Proofs.YtlllcifehellpaaGreatDoor
namespace Go.Proofs.YtlllcifehellpaaGreatDoor
open Go.RowKit

def NoStrV (w:World) (v:Value):Prop:= ∀g,v.ownBlock=some g→NoStr w g
theorem NoStr.keep {w w':World} {g:Nat} (h:NoStr w g) (hb:w'.heap[g]?=w.heap[g]?):NoStr w' g:=by
 intro o s;rw[World.cell?_of_block (w:=w) (a:=⟨g,o,none⟩) hb];exact h o s
theorem NoStrV.below {w w':World} {v:Value} (h:NoStrV w v) (hl: ∀g,v.ownBlock=some g→g<w.heap.size) (hw:Below w.heap.size w w'):NoStrV w' v:=fun g hg=>(h g hg).keep (hw.block g (hl g hg))
theorem Lies.row {w w':World} {x v:Value} {L:List En} (h:Lies w x L) (hg:w.grownBy w' v.ownBlock) (hn:NoStrV w v):Lies w' x L:=by
 cases hv:v.ownBlock with
 |none=>
  rw[hv]at hg;exact h.below ⟨hg.os,hg.tape,hg.output,hg.size,fun k hk=>hg.block k hk (by simp)⟩
 |some g=>
  rw[hv]at hg;exact h.nb hg (hn g hv)
/-- A slice whose elements have these cells, n each. -/
def LiesR (n:Nat) (w:World) (v:Value) (R:List (List Value)):Prop:= ∃a cap,v= .slice a R.length cap∧R.length≤cap∧R.length≤1000000000000000∧(∀r∈R,r.length=n∧ ∀u∈r,u.oneCell'=true)∧
 ∀i (h:i<R.length),∃b o,a=some ⟨b,o,none⟩∧b<w.heap.size∧ ∀c u,R[i][c]?=some u→w.cell? ⟨b,o+i*n+c,none⟩=some u
/-- The caller's own: in a block from B on, that may be written. -/
def Own (B:Nat) (w:World) (v:Value):Prop:= ∀g,v.ownBlock=some g→B≤g∧ ∃cur T,w.heap[g]?=some (.cells cur T (0,0))
theorem own_nil (B:Nat) (w:World):Own B w (.slice none 0 0):=fun g h=>by simp[Value.ownBlock]at h
theorem Own.lt {B:Nat} {w:World} {v:Value} (h:Own B w v): ∀g,v.ownBlock=some g→g<w.heap.size:=fun g hg=>by
 obtain⟨_,cur,T,hh⟩:=h g hg
 exact heap_lt hh
theorem Own.below {B:Nat} {w w':World} {v:Value} (h:Own B w v) (hw:Below w.heap.size w w'):Own B w' v:=fun g hg=>by
 obtain⟨h1,cur,T,hh⟩:=h g hg
 exact⟨h1,cur,T,(hw.block g (heap_lt hh)).trans hh⟩
theorem Own.mono {B B':Nat} {w:World} {v:Value} (h:Own B w v) (hB:B'≤B):Own B' w v:=fun g hg=>⟨Nat.le_trans hB (h g hg).1,(h g hg).2⟩
theorem own_row {w:World} {base:Nat} {e:TypeId} {size:Nat} {v:Value} {n:Nat} {xs:List Value} (h:w.ownsRow base e size v n xs):Own base w v:=by
 obtain⟨_,h2⟩:=h
 rcases h2 with⟨rfl,_⟩|⟨g,cap,cur,rfl,hg,hh,_⟩
 · exact own_nil _ _
 · intro g' hg'
   simp only[Value.ownBlock,Option.some.injEq]at hg';subst hg';exact⟨hg,cur,e,hh⟩
theorem LiesR.below {n:Nat} {w w':World} {v:Value} {R:List (List Value)} (h:LiesR n w v R) (hw:Below w.heap.size w w'):LiesR n w' v R:=by
 obtain⟨a,cap,hv,h1,h2,h4,h3⟩:=h
 refine⟨a,cap,hv,h1,h2,h4,fun i hi=>?_⟩
 obtain⟨b,o,ha,hb,he⟩:=h3 i hi
 exact⟨b,o,ha,Nat.lt_of_lt_of_le hb hw.size,fun c u hu=>(hw.cell (p:=⟨b,o+i*n+c,none⟩) hb).trans (he c u hu)⟩
theorem flatten_len {n:Nat}: ∀{R:List (List Value)},(∀r∈R,r.length=n)→R.flatten.length=R.length*n
 |[],_=>by simp
 |r::R,h=>by
  rw[List.flatten_cons,List.length_append,h r (by simp),flatten_len (fun x hx=>h x (by simp[hx])),List.length_cons,Nat.add_mul];omega
theorem flatten_at {n:Nat}: ∀{R:List (List Value)} (i c:Nat) (h:i<R.length),(∀r∈R,r.length=n)→c<n→R.flatten[i*n+c]?=R[i][c]?
 |[],i,c,h,_,_=>absurd h (Nat.not_lt_zero _)
 |r::R,0,c,_,hr,hc=>by
  rw[List.flatten_cons,Nat.zero_mul,Nat.zero_add,List.getElem?_append_left (by rw[hr r (by simp)];exact hc)];rfl
 |r::R,i+1,c,h,hr,hc=>by
  have hl:=hr r (by simp);rw[List.flatten_cons,List.getElem?_append_right (by rw[hl,Nat.add_mul];omega),hl];have e:(i+1)*n+c-n=i*n+c:=by rw[Nat.add_mul];omega
  rw[e,flatten_at i c (by simpa using h) (fun x hx=>hr x (by simp[hx])) hc];rfl
theorem liesR_cells {n:Nat} (hn:0<n) {w:World} {b o:Nat} {R:List (List Value)} (hr: ∀r∈R,r.length=n) (h: ∀i (h:i<R.length),∀c u,R[i][c]?=some u→w.cell? ⟨b,o+i*n+c,none⟩=some u): ∀j u,R.flatten[j]?=some u→w.cell? ((⟨b,o,none⟩:Addr).add j)=some u:=by
 intro j u hj
 have hjl:j<R.length*n:=by
  have:=(List.getElem?_eq_some_iff.1 hj).1
  rw[flatten_len hr]at this;exact this
 have h1:j/n<R.length:=(Nat.div_lt_iff_lt_mul hn).2 hjl;have h2:j/n*n+j % n=j:=Nat.div_add_mod' j n;have h3:=flatten_at (j/n) (j % n) h1 hr (Nat.mod_lt _ hn);rw[h2,hj]at h3;have h4:=h _ h1 _ u h3.symm;rw[Addr.add_lit];rw[Nat.add_assoc,h2]at h4;exact h4
theorem liesR_own {n:Nat} {w:World} {base:Nat} {T:TypeId} {v:Value} {R:List (List Value)} (h:w.ownsRow base T n v R.length R.flatten) (hn:R.length≤1000000000000000) (hr: ∀r∈R,r.length=n∧ ∀u∈r,u.oneCell'=true):LiesR n w v R:=by
 have h':=h;obtain⟨_,h2⟩:=h
 rcases h2 with⟨rfl,hz⟩|⟨g,cap,cur,rfl,hg,hh,hc,hm,hz,htake⟩
 · have:R=[]:=List.length_eq_zero_iff.1 hz
   subst this;exact⟨none,0,rfl,Nat.le_refl _,by simp,by simp,fun i hi=>absurd hi (by simp)⟩
 · refine⟨some ⟨g,0,none⟩,cap,rfl,hc,hn,hr,fun i hi=>⟨g,0,rfl,heap_lt hh,fun c u hu=>?_⟩⟩
   have hc':c<n:=by
    have:=(List.getElem?_eq_some_iff.1 hu).1
    rw[(hr _ (List.getElem_mem hi)).1]at this;exact this
   have hlt:i*n+c<R.length*n:=by
    have h5:(i+1)*n≤R.length*n:=Nat.mul_le_mul_right n hi;rw[Nat.add_mul]at h5;omega
   rw[Nat.zero_add,h'.cellAt (i*n+c) hlt,flatten_at i c hi (fun r hr'=>(hr r hr').1) hc'];exact hu
theorem flatten_one {n:Nat} {R:List (List Value)} (hr: ∀r∈R,r.length=n∧ ∀u∈r,u.oneCell'=true): ∀u∈R.flatten,u.oneCell'=true:=by
 intro u hu;obtain⟨r,h1,h2⟩:=List.mem_flatten.1 hu
 exact(hr r h1).2 u h2
namespace Pp
def cells (e:En):List Value:=[.string e.path,.bool e.folder,.string e.text,.int .i64 e.ver]
def flat (L:List En):List Value:=L.flatMap cells
theorem flat_snoc (L:List En) (e:En):flat L++cells e=flat (L++[e]):=by simp[flat]
theorem cells_one (e:En): ∀u∈cells e,u.oneCell'=true:=by
 intro u hu;simp only[cells,List.mem_cons,List.not_mem_nil,or_false]at hu;rcases hu with rfl|rfl|rfl|rfl<;>rfl
theorem new_cells (w:World) (e:En) (T:TypeId): ∀j u,(cells e)[j]?=some u→(w.alloc (.cells #[.string e.path,.bool e.folder,.string e.text,.int .i64 e.ver] T)).cell? ((⟨w.heap.size,0,none⟩:Addr).add j)=some u:=by
 intro j u hj;match j,hj with
 |0,hj=>simp[cells]at hj;subst hj;simp[Addr.add]
 |1,hj=>simp[cells]at hj;subst hj;simp[Addr.add]
 |2,hj=>simp[cells]at hj;subst hj;simp[Addr.add]
 |3,hj=>simp[cells]at hj;subst hj;simp[Addr.add]
 |j+4,hj=>simp[cells]at hj
theorem filter_hit {L:List En} {k:Nat} (h:k<L.length) {pr:En→Bool} (hp:pr L[k]=true):(L.take (k+1)).filter pr=(L.take k).filter pr++[L[k]]:=by
 rw[List.take_succ_eq_append_getElem h,List.filter_append];simp[hp]
theorem filter_miss {L:List En} {k:Nat} (h:k<L.length) {pr:En→Bool} (hp:pr L[k]=false):(L.take (k+1)).filter pr=(L.take k).filter pr:=by
 rw[List.take_succ_eq_append_getElem h,List.filter_append];simp[hp]
end Pp

theorem Tryz.infoE:(Tryz.prog.info? 64).map (fun i=>(i.zero,i.size,i.bytes))=some (some (.agg #[.string ⟨#[]⟩,.bool false,.string ⟨#[]⟩,.int .i64 0]),4,48):=by kernel_rfl
namespace Pp
theorem flat_at: ∀(L:List En) (i:Nat) (h:i<L.length) (c:Nat),c<4→(flat L)[i*4+c]?=(cells L[i])[c]?
 |[],i,h,_,_=>absurd h (by simp)
 |a::r,0,_,c,hc=>by
  show(cells a++flat r)[0*4+c]?=_
  rw[List.getElem?_append_left (by simp[cells];omega)];simp
 |a::r,i+1,h,c,hc=>by
  show(cells a++flat r)[(i+1)*4+c]?=_
  rw[List.getElem?_append_right (by simp[cells];omega)];have e:(i+1)*4+c-(cells a).length=i*4+c:=by simp[cells];omega
  rw[e,flat_at r i (by simpa using h) c hc];simp
end Pp
end Go.Proofs.YtlllcifehellpaaGreatDoor
namespace Go.Proofs.YtlllcifehellpaaGreatDoor
open Go.RowKit

namespace Pp
def chC (c:Ch):List Value:=[.int .i64 c.k,.string c.p,.string c.q,.string c.t,.int .i64 c.b]
end Pp
theorem liesR_en {w:World} {v:Value} {L:List En}:Lies w v L↔LiesR 4 w v (L.map Pp.cells):=by
 constructor
 · rintro ⟨a,cap,hv,h1,h2,h3⟩
   refine⟨a,cap,by simpa using hv,by simpa using h1,by simpa using h2,?_,fun i hi=>?_⟩
   · intro r hr
     obtain⟨e,_,rfl⟩:=List.mem_map.1 hr
     exact⟨rfl,Pp.cells_one e⟩
   · obtain⟨b,o,ha,hb,he⟩:=h3 i (by simpa using hi)
     refine⟨b,o,ha,hb,fun c u hu=>?_⟩
     rw[List.getElem_map]at hu;obtain⟨e0,e1,e2,e3⟩:=he
     match c,hu with
     |0,hu=>simp[Pp.cells]at hu;subst hu;exact e0
     |1,hu=>simp[Pp.cells]at hu;subst hu;exact e1
     |2,hu=>simp[Pp.cells]at hu;subst hu;exact e2
     |3,hu=>simp[Pp.cells]at hu;subst hu;exact e3
     |c+4,hu=>simp[Pp.cells]at hu
 · rintro ⟨a,cap,hv,h1,h2,_,h3⟩
   refine⟨a,cap,by simpa using hv,by simpa using h1,by simpa using h2,fun i hi=>?_⟩
   obtain⟨b,o,ha,hb,he⟩:=h3 i (by simpa using hi)
   rw[List.getElem_map]at he;exact⟨b,o,ha,hb,he 0 _ rfl,he 1 _ rfl,he 2 _ rfl,he 3 _ rfl⟩
theorem liesR_ch {w:World} {v:Value} {L:List Pp.Ch}:LiesC w v L↔LiesR 5 w v (L.map Pp.chC):=by
 constructor
 · rintro ⟨a,cap,hv,h1,h2,h3⟩
   refine⟨a,cap,by simpa using hv,by simpa using h1,by simpa using h2,?_,fun i hi=>?_⟩
   · intro r hr
     obtain⟨e,_,rfl⟩:=List.mem_map.1 hr
     refine⟨rfl,fun u hu=>?_⟩
     simp only[Pp.chC,List.mem_cons,List.not_mem_nil,or_false]at hu;rcases hu with rfl|rfl|rfl|rfl|rfl<;>rfl
   · obtain⟨b,o,ha,hb,he⟩:=h3 i (by simpa using hi)
     refine⟨b,o,ha,hb,fun c u hu=>?_⟩
     rw[List.getElem_map]at hu;obtain⟨e0,e1,e2,e3,e4⟩:=he
     match c,hu with
     |0,hu=>simp[Pp.chC]at hu;subst hu;exact e0
     |1,hu=>simp[Pp.chC]at hu;subst hu;exact e1
     |2,hu=>simp[Pp.chC]at hu;subst hu;exact e2
     |3,hu=>simp[Pp.chC]at hu;subst hu;exact e3
     |4,hu=>simp[Pp.chC]at hu;subst hu;exact e4
     |c+5,hu=>simp[Pp.chC]at hu
 · rintro ⟨a,cap,hv,h1,h2,_,h3⟩
   refine⟨a,cap,by simpa using hv,by simpa using h1,by simpa using h2,fun i hi=>?_⟩
   obtain⟨b,o,ha,hb,he⟩:=h3 i (by simpa using hi)
   rw[List.getElem_map]at he;exact⟨b,o,ha,hb,he 0 _ rfl,he 1 _ rfl,he 2 _ rfl,he 3 _ rfl,he 4 _ rfl⟩
theorem Tryz.infoRE:(Tryz.prog.info? 64).map (fun i=>(i.zero,i.size,i.bytes))=some (some (.agg #[.string ⟨#[]⟩,.bool false,.string ⟨#[]⟩,.int .i64 0]),4,48):=by kernel_rfl
set_option maxHeartbeats 1000000 in
theorem cloneE (R:List (List Value)) (v:Value) (w:World) (hv:LiesR 4 w v R) (hn:R.length≤1000000000000):
    Calls Tryz.prog 49 #[v] w fun e w'=> ∃u,e= .returned u∧LiesR 4 w' u R∧Own w.heap.size w' u∧Below w.heap.size w w':=by
 obtain⟨i0,hi0,hz0,hz1,hz2⟩:=info_parts Tryz.infoRE
 obtain⟨a,cap,rfl,hcap,hcap2,hR,hLL⟩:=hv
 have HR:=hid hR;have q22: ∀(w:World) (a:Option Addr) (n c n' c':Nat),(binOp .eql 22 (.slice a n c) (.slice none n' c')).run Tryz.prog w= .ok (.bool a.isNone) w:=fun w a n c n' c'=>Lib.run_eql_slice_nil w _ _ a n c n' c' Tryz.underlying22
 cases a with
 |none=>
  have hL:R=[]:=by
   cases R with
   |nil=>rfl
   |cons s r=>obtain⟨b,o,hb,_⟩:=hLL 0 (by simp);cases hb
  subst hL;clear hR;go_enter Tryz.func49,Tryz.ntmps49
  go_wp2;go_ret;exact⟨_,rfl,⟨none,0,rfl,Nat.le_refl _,by simp,HR.out,fun i h=>absurd h (by simp)⟩,own_nil _ _,Below.refl _ _⟩
 |some ad=>
  have hcells: ∀j u,R.flatten[j]?=some u→w.cell? (ad.add j)=some u:=by
   cases R with
   |nil=>intro j u hj;simp at hj
   |cons s r=>
    obtain⟨b,o,hb,_⟩:=hLL 0 (by simp)
    injection hb with hb
    subst hb
    exact liesR_cells (by decide) (fun r hr=>(hR r hr).1) fun i hi=>by
     obtain⟨b',o',hb',_,he⟩:=hLL i hi
     injection hb' with hb'
     injection hb' with h1 h2
     subst h1;subst h2;exact he
  have HC:=hid hcells;have HFL:=hid (flatten_len (fun r hr=>(hR r hr).1):R.flatten.length=R.length*4);clear hcells hLL hR;go_enter Tryz.func49,Tryz.ntmps49
  go_wp2_with (at_builtin;refine wpList_append_own _ rfl _ _ 22 rfl w.heap.size 64 i0 (.agg #[.string ⟨#[]⟩,.bool false,.string ⟨#[]⟩,.int .i64 0]) 4 48 Tryz.underlying22 hi0 hz0 hz1 hz2 rfl (by decide) _ _ _ rfl (World.ownsRow_made w #[] 0 (Nat.le_refl _) (Nat.zero_le _) (by simp)) ad R.length cap R.flatten rfl ?qc1 ?qc2 ?qc3 ?qc4 ?qc5 ?qc6 ?_)
  case qc1=>exact HFL.out
  case qc2=>intro j u hj;exact Lib.cell?_alloc_some _ (HC.out j u hj)
  case qc3=>exact flatten_one HR.out
  case qc4=>unfold maxLen;omega
  case qc5=>omega
  case qc6=>simp
  intro v2 w2 ho2 hgr2 hnn2;have hbel2:Below w.heap.size w w2:=((Below.refl _ _).alloc (Nat.le_refl _) _).grown hgr2 (by simp) (fun k hk=>by simp[Value.ownBlock]at hk;omega);have ho3:w2.ownsRow w.heap.size 64 4 v2 R.length R.flatten:=by simpa using ho2
  have HCL:=hid (liesR_own ho3 (by omega) HR.out);have HOW:=hid (own_row ho3);obtain⟨a2,cap2,hv2,_,_,_⟩:=HCL.out
  clear ho2 ho3 hgr2 hnn2;go_wp2_with fail;go_ret;exact⟨_,rfl,HCL.out,HOW.out,hbel2⟩
theorem Tryz.infoRC:(Tryz.prog.info? 53).map (fun i=>(i.zero,i.size,i.bytes))=some (some (.agg #[.int .i64 0,.string ⟨#[]⟩,.string ⟨#[]⟩,.string ⟨#[]⟩,.int .i64 0]),5,64):=by kernel_rfl
set_option maxHeartbeats 1000000 in
theorem cloneC (R:List (List Value)) (v:Value) (w:World) (hv:LiesR 5 w v R) (hn:R.length≤1000000000000):
    Calls Tryz.prog 43 #[v] w fun e w'=> ∃u,e= .returned u∧LiesR 5 w' u R∧Own w.heap.size w' u∧Below w.heap.size w w':=by
 obtain⟨i0,hi0,hz0,hz1,hz2⟩:=info_parts Tryz.infoRC
 obtain⟨a,cap,rfl,hcap,hcap2,hR,hLL⟩:=hv
 have HR:=hid hR;have q22: ∀(w:World) (a:Option Addr) (n c n' c':Nat),(binOp .eql 23 (.slice a n c) (.slice none n' c')).run Tryz.prog w= .ok (.bool a.isNone) w:=fun w a n c n' c'=>Lib.run_eql_slice_nil w _ _ a n c n' c' Tryz.underlying23
 cases a with
 |none=>
  have hL:R=[]:=by
   cases R with
   |nil=>rfl
   |cons s r=>obtain⟨b,o,hb,_⟩:=hLL 0 (by simp);cases hb
  subst hL;clear hR;go_enter Tryz.func43,Tryz.ntmps43
  go_wp2;go_ret;exact⟨_,rfl,⟨none,0,rfl,Nat.le_refl _,by simp,HR.out,fun i h=>absurd h (by simp)⟩,own_nil _ _,Below.refl _ _⟩
 |some ad=>
  have hcells: ∀j u,R.flatten[j]?=some u→w.cell? (ad.add j)=some u:=by
   cases R with
   |nil=>intro j u hj;simp at hj
   |cons s r=>
    obtain⟨b,o,hb,_⟩:=hLL 0 (by simp)
    injection hb with hb
    subst hb
    exact liesR_cells (by decide) (fun r hr=>(hR r hr).1) fun i hi=>by
     obtain⟨b',o',hb',_,he⟩:=hLL i hi
     injection hb' with hb'
     injection hb' with h1 h2
     subst h1;subst h2;exact he
  have HC:=hid hcells;have HFL:=hid (flatten_len (fun r hr=>(hR r hr).1):R.flatten.length=R.length*5);clear hcells hLL hR;go_enter Tryz.func43,Tryz.ntmps43
  go_wp2_with (at_builtin;refine wpList_append_own _ rfl _ _ 23 rfl w.heap.size 53 i0 (.agg #[.int .i64 0,.string ⟨#[]⟩,.string ⟨#[]⟩,.string ⟨#[]⟩,.int .i64 0]) 5 64 Tryz.underlying23 hi0 hz0 hz1 hz2 rfl (by decide) _ _ _ rfl (World.ownsRow_made w #[] 0 (Nat.le_refl _) (Nat.zero_le _) (by simp)) ad R.length cap R.flatten rfl ?qc1 ?qc2 ?qc3 ?qc4 ?qc5 ?qc6 ?_)
  case qc1=>exact HFL.out
  case qc2=>intro j u hj;exact Lib.cell?_alloc_some _ (HC.out j u hj)
  case qc3=>exact flatten_one HR.out
  case qc4=>unfold maxLen;omega
  case qc5=>omega
  case qc6=>simp
  intro v2 w2 ho2 hgr2 hnn2;have hbel2:Below w.heap.size w w2:=((Below.refl _ _).alloc (Nat.le_refl _) _).grown hgr2 (by simp) (fun k hk=>by simp[Value.ownBlock]at hk;omega);have ho3:w2.ownsRow w.heap.size 53 5 v2 R.length R.flatten:=by simpa using ho2
  have HCL:=hid (liesR_own ho3 (by omega) HR.out);have HOW:=hid (own_row ho3);obtain⟨a2,cap2,hv2,_,_,_⟩:=HCL.out
  clear ho2 ho3 hgr2 hnn2;go_wp2_with fail;go_ret;exact⟨_,rfl,HCL.out,HOW.out,hbel2⟩
theorem LiesC.nbo {W W':World} {v:Value} {L:List Pp.Ch} {g:Nat} (h:LiesC W v L) (hw:W.grownBy W' (some g)) (hn: ∀b,v.ownBlock=some b→b≠g):LiesC W' v L:=by
 obtain⟨a,cap,rfl,h1,h2,h3⟩:=h
 refine⟨a,cap,rfl,h1,h2,fun i hi=>?_⟩
 obtain⟨b,o,rfl,hb,he⟩:=h3 i hi
 have c:=cell_nb hw hb (hn b rfl);exact⟨b,o,rfl,Nat.lt_of_lt_of_le hb hw.size,(c _).trans he.1,(c _).trans he.2.1,(c _).trans he.2.2.1,(c _).trans he.2.2.2.1,(c _).trans he.2.2.2.2⟩
theorem Own.nb {B:Nat} {w w':World} {v:Value} {g:Nat} (h:Own B w v) (hw:w.grownBy w' (some g)) (hn: ∀b,v.ownBlock=some b→b≠g):Own B w' v:=fun b hb=>by
 obtain⟨h1,cur,T,hh⟩:=h b hb
 exact⟨h1,cur,T,(hw.block b (heap_lt hh) (fun e=>hn b hb (by injection e))).trans hh⟩
theorem Own.setCell {B:Nat} {w:World} {v:Value} (h:Own B w v) (b o:Nat) (u:Value):Own B (w.setCell ⟨b,o,none⟩ u) v:=fun g hg=>by
 obtain⟨h1,cur,T,hh⟩:=h g hg
 by_cases hb:b=g
 · subst hb
   refine⟨h1,cur.setIfInBounds o u,T,?_⟩
   unfold World.setCell;simp only[Array.getElem?_modify,hh,if_true,Option.map_some];rfl
 · exact⟨h1,cur,T,((nb_set w b o u).block g (heap_lt hh) (fun e=>hb (by injection e with e;exact e.symm))).trans hh⟩
theorem Lies.nbo {W W':World} {v:Value} {L:List En} {g:Nat} (h:Lies W v L) (hw:W.grownBy W' (some g)) (hn: ∀b,v.ownBlock=some b→b≠g):Lies W' v L:=by
 obtain⟨a,cap,rfl,h1,h2,h3⟩:=h
 refine⟨a,cap,rfl,h1,h2,fun i hi=>?_⟩
 obtain⟨b,o,rfl,hb,he⟩:=h3 i hi
 have c:=cell_nb hw hb (hn b rfl);exact⟨b,o,rfl,Nat.lt_of_lt_of_le hb hw.size,(c _).trans he.1,(c _).trans he.2.1,(c _).trans he.2.2.1,(c _).trans he.2.2.2⟩
theorem LiesR.nbo {n:Nat} {W W':World} {v:Value} {R:List (List Value)} {g:Nat} (h:LiesR n W v R) (hw:W.grownBy W' (some g)) (hn: ∀b,v.ownBlock=some b→b≠g):LiesR n W' v R:=by
 obtain⟨a,cap,rfl,h1,h2,h4,h3⟩:=h
 refine⟨a,cap,rfl,h1,h2,h4,fun i hi=>?_⟩
 obtain⟨b,o,rfl,hb,he⟩:=h3 i hi
 have c:=cell_nb hw hb (hn b rfl);exact⟨b,o,rfl,Nat.lt_of_lt_of_le hb hw.size,fun d u hu=>(c _).trans (he d u hu)⟩
theorem grown_on {a b c:World} {g:Nat} (h:a.grownBy b (some g)) (k:b.grownBy c (some g)):a.grownBy c (some g):=⟨k.os.trans h.os,k.tape.trans h.tape,k.output.trans h.output,Nat.le_trans h.size k.size,fun x hx hn=>(k.block x (Nat.lt_of_lt_of_le hx h.size) hn).trans (h.block x hx hn)⟩
end Go.Proofs.YtlllcifehellpaaGreatDoor
namespace Go.Proofs.YtlllcifehellpaaGreatDoor
open Go.RowKit

/-- A client whose trees and changes are the caller's own. -/
def OwnN (B:Nat) (w:World) (v:Value) (c:Cn):Prop:= ∃vb vm va,v= .agg #[.string c.who,.string c.fo,vb,.int .i64 c.cur,vm,.string c.key,va,.int .i64 c.keys]∧(Lies w vb c.base∧Own B w vb)∧(Lies w vm c.mine∧Own B w vm)∧LiesC w va c.ask∧Own B w va
theorem OwnN.lies {B:Nat} {w:World} {v:Value} {c:Cn} (h:OwnN B w v c):LiesN w v c:=by
 obtain⟨vb,vm,va,e,h1,h2,h3,_⟩:=h
 exact⟨vb,vm,va,e,h1.1,h2.1,h3⟩
theorem OwnN.below {B:Nat} {w w':World} {v:Value} {c:Cn} (h:OwnN B w v c) (hw:Below w.heap.size w w'):OwnN B w' v c:=by
 obtain⟨vb,vm,va,e,h1,h2,h3,h4⟩:=h
 exact⟨vb,vm,va,e,⟨h1.1.below hw,h1.2.below hw⟩,⟨h2.1.below hw,h2.2.below hw⟩,h3.below hw,h4.below hw⟩
theorem OwnN.mono {B B':Nat} {w:World} {v:Value} {c:Cn} (h:OwnN B w v c) (hB:B'≤B):OwnN B' w v c:=by
 obtain⟨vb,vm,va,e,h1,h2,h3,h4⟩:=h
 exact⟨vb,vm,va,e,⟨h1.1,h1.2.mono hB⟩,⟨h2.1,h2.2.mono hB⟩,h3,h4.mono hB⟩
theorem OwnN.nbo {B g:Nat} {w w':World} {v:Value} {c:Cn} (h:OwnN B w v c) (hw:w.grownBy w' (some g)) (hg:g<B):OwnN B w' v c:=by
 obtain⟨vb,vm,va,e,h1,h2,h3,h4⟩:=h
 have k: ∀{u:Value},Own B w u→ ∀b,u.ownBlock=some b→b≠g:=fun h b hb=>by have:=(h b hb).1;omega
 exact⟨vb,vm,va,e,⟨h1.1.nbo hw (k h1.2),h1.2.nb hw (k h1.2)⟩,⟨h2.1.nbo hw (k h2.2),h2.2.nb hw (k h2.2)⟩,h3.nbo hw (k h4),h4.nb hw (k h4)⟩
def zeroN:Cn:=⟨⟨#[]⟩,⟨#[]⟩,[],0,[],⟨#[]⟩,[],0⟩
theorem ownN_zero (B:Nat) (w:World):OwnN B w (.agg #[.string ⟨#[]⟩,.string ⟨#[]⟩,.slice none 0 0,.int .i64 0,.slice none 0 0,.string ⟨#[]⟩,.slice none 0 0,.int .i64 0]) zeroN:=
 ⟨_,_,_,rfl,⟨lies_nil _,own_nil _ _⟩,⟨lies_nil _,own_nil _ _⟩,⟨none,0,rfl,Nat.le_refl _,by decide,fun i h=>absurd h (by simp[zeroN])⟩,own_nil _ _⟩
abbrev zs:List Value:=[.string ⟨#[]⟩,.string ⟨#[]⟩,.slice none 0 0,.int .i64 0,.slice none 0 0,.string ⟨#[]⟩,.slice none 0 0,.int .i64 0]
set_option maxRecDepth 100000 in
set_option maxHeartbeats 4000000 in
theorem ownClient_any (c:Cn) (v:Value) (w:World) (hv:LiesN w v c) (hb:c.base.length≤1000000) (hm:c.mine.length≤1000000) (ha:c.ask.length≤1000000):
    Calls Tryz.prog 23 #[v] w fun e w'=> ∃u,e= .returned u∧OwnN w.heap.size w' u c∧Below w.heap.size w w':=by
 obtain⟨vb,vm,va,rfl,lb,lm,la⟩:=hv
 have HVB:=hid lb;have HVM:=hid lm;have HVA:=hid la;obtain⟨ab,cb,rfl,_⟩:=lb
 obtain⟨am,cm,rfl,_⟩:=lm
 obtain⟨aa,ca,rfl,_⟩:=la
 obtain⟨wz,hwz⟩: ∃wz,wz=(w.alloc (.cells #[.string c.who,.string c.fo,.slice ab c.base.length cb,.int .i64 c.cur,.slice am c.mine.length cm,.string c.key,.slice aa c.ask.length ca,.int .i64 c.keys] 25)).alloc (.cells #[.string ⟨#[]⟩,.string ⟨#[]⟩,.slice none 0 0,.int .i64 0,.slice none 0 0,.string ⟨#[]⟩,.slice none 0 0,.int .i64 0] 25):=⟨_,rfl⟩
 have hbz:Below w.heap.size w wz:=by rw[hwz];exact((Below.refl _ _).alloc (Nat.le_refl _) _).alloc (by simp) _
 have HBX:Hid (Cs wz w.heap.size [.string c.who,.string c.fo,.slice ab c.base.length cb,.int .i64 c.cur,.slice am c.mine.length cm,.string c.key,.slice aa c.ask.length ca,.int .i64 c.keys]):=(by rw[hwz];exact(Cs.new w [.string c.who,.string c.fo,.slice ab c.base.length cb,.int .i64 c.cur,.slice am c.mine.length cm,.string c.key,.slice aa c.ask.length ca,.int .i64 c.keys] _).below ((Below.refl _ _).alloc (Nat.le_refl _) _):Cs wz w.heap.size _)
 have HBY:=hid (show Cs wz (w.heap.size+1) zs from by
  have:=Cs.new (w.alloc (.cells #[.string c.who,.string c.fo,.slice ab c.base.length cb,.int .i64 c.cur,.slice am c.mine.length cm,.string c.key,.slice aa c.ask.length ca,.int .i64 c.keys] 25)) zs 25
  rw[hwz];simpa using this)
 have hNz:w.heap.size+1<wz.heap.size:=HBY.out.lt;go_enter Tryz.func23,Tryz.ntmps23
 go_wp2_with fail;rw[←hwz];clear hwz;refine(cloneE (c.base.map Pp.cells) _ _ (liesR_en.1 (HVB.out.below hbz)) (by simp;omega)).mono ?_
 rintro e w1 ⟨u1,rfl,hR1,hO1,hb1⟩;have HL1:=hid (liesR_en.2 hR1);have HO1:=hid hO1;obtain⟨xa,xc,rfl,_⟩:=HL1.out
 have hs1:=hb1.size;have HB1:=hid (HBX.out.below hb1);have c0:=HB1.out.cell 2 rfl;have f0:=HB1.out.fr 2;have d4:=HB1.out.cell 4 rfl;obtain⟨w2,hw2⟩: ∃w2,w2=w1.setCell ⟨w.heap.size,2,none⟩ (.slice xa c.base.length xc):=⟨_,rfl⟩
 have HB2:Hid (Cs w2 w.heap.size [.string c.who,.string c.fo,.slice xa c.base.length xc,.int .i64 c.cur,.slice am c.mine.length cm,.string c.key,.slice aa c.ask.length ca,.int .i64 c.keys]):=(by rw[hw2];exact HB1.out.set 2 _:Cs w2 w.heap.size _)
 have HY2:=hid (show Cs w2 (w.heap.size+1) zs from by rw[hw2];exact(HBY.out.below hb1).other (by omega) _);have hs2:w2.heap.size=w1.heap.size:=by rw[hw2];simp
 have HL2:=hid (show Lies w2 (.slice xa c.base.length xc) c.base∧Own wz.heap.size w2 (.slice xa c.base.length xc)from by rw[hw2];exact⟨HL1.out.nbo (nb_set _ _ _ _) (fun b hb=>by have:=(HO1.out b hb).1;omega),HO1.out.setCell _ _ _⟩);have hb2:Below w.heap.size w w2:=by rw[hw2];exact(below_tr hbz hb1).setCell (p:=⟨w.heap.size,2,none⟩) (Nat.le_refl _) _
 clear hR1 hO1;go_wp2_with fail;rw[←hw2];clear hw2 c0 f0 d4;refine(cloneE (c.mine.map Pp.cells) _ _ (liesR_en.1 (HVM.out.below hb2)) (by simp;omega)).mono ?_
 rintro e w3 ⟨u3,rfl,hR3,hO3,hb3⟩;have HL3:=hid (liesR_en.2 hR3);have HO3:=hid hO3;obtain⟨ya,yc,rfl,_⟩:=HL3.out
 have hs3:=hb3.size;have HB3:=hid (HB2.out.below hb3);have c0:=HB3.out.cell 4 rfl;have f0:=HB3.out.fr 4;have d6:=HB3.out.cell 6 rfl;obtain⟨w4,hw4⟩: ∃w4,w4=w3.setCell ⟨w.heap.size,4,none⟩ (.slice ya c.mine.length yc):=⟨_,rfl⟩
 have HB4:Hid (Cs w4 w.heap.size [.string c.who,.string c.fo,.slice xa c.base.length xc,.int .i64 c.cur,.slice ya c.mine.length yc,.string c.key,.slice aa c.ask.length ca,.int .i64 c.keys]):=(by rw[hw4];exact HB3.out.set 4 _:Cs w4 w.heap.size _)
 have HY4:=hid (show Cs w4 (w.heap.size+1) zs from by rw[hw4];exact(HY2.out.below hb3).other (by omega) _);have hs4:w4.heap.size=w3.heap.size:=by rw[hw4];simp
 have HL4:=hid (show Lies w4 (.slice xa c.base.length xc) c.base∧Own wz.heap.size w4 (.slice xa c.base.length xc)from by rw[hw4];exact⟨(HL2.out.1.below hb3).nbo (nb_set _ _ _ _) (fun b hb=>by have:=(HL2.out.2 b hb).1;omega),(HL2.out.2.below hb3).setCell _ _ _⟩);have HM4:=hid (show Lies w4 (.slice ya c.mine.length yc) c.mine∧Own wz.heap.size w4 (.slice ya c.mine.length yc)from by rw[hw4];exact⟨HL3.out.nbo (nb_set _ _ _ _) (fun b hb=>by have:=(HO3.out b hb).1;omega),(HO3.out.setCell _ _ _).mono (by omega)⟩);have hb4:Below w.heap.size w w4:=by rw[hw4];exact(below_tr hb2 hb3).setCell (p:=⟨w.heap.size,4,none⟩) (Nat.le_refl _) _
 clear hR3 hO3;go_wp2_with fail;rw[←hw4];clear hw4 c0 f0 d6;refine(cloneC (c.ask.map Pp.chC) _ _ (liesR_ch.1 (HVA.out.below hb4)) (by simp;omega)).mono ?_
 rintro e w5 ⟨u5,rfl,hR5,hO5,hb5⟩;have HL5:=hid (liesR_ch.2 hR5);have HO5:=hid hO5;obtain⟨za,zc,rfl,_⟩:=HL5.out
 have hs5:=hb5.size;have HB5:=hid (HB4.out.below hb5);have c0:=HB5.out.cell 6 rfl;have f0:=HB5.out.fr 6;obtain⟨w6,hw6⟩: ∃w6,w6=w5.setCell ⟨w.heap.size,6,none⟩ (.slice za c.ask.length zc):=⟨_,rfl⟩
 have HB6:Hid (Cs w6 w.heap.size [.string c.who,.string c.fo,.slice xa c.base.length xc,.int .i64 c.cur,.slice ya c.mine.length yc,.string c.key,.slice za c.ask.length zc,.int .i64 c.keys]):=(by rw[hw6];exact HB5.out.set 6 _:Cs w6 w.heap.size _)
 have HY6:=hid (show Cs w6 (w.heap.size+1) zs from by rw[hw6];exact(HY4.out.below hb5).other (by omega) _)
 have HN6:Hid (OwnN wz.heap.size w6 (.agg #[.string c.who,.string c.fo,.slice xa c.base.length xc,.int .i64 c.cur,.slice ya c.mine.length yc,.string c.key,.slice za c.ask.length zc,.int .i64 c.keys]) c):=(by
  rw[hw6];have k: ∀{W:World} {u:Value},Own wz.heap.size W u→ ∀b,u.ownBlock=some b→b≠w.heap.size:=fun h b hb=>by have:=(h b hb).1;omega
  exact⟨_,_,_,rfl,⟨(HL4.out.1.below hb5).nbo (nb_set _ _ _ _) (k HL4.out.2),(HL4.out.2.below hb5).setCell _ _ _⟩,⟨(HM4.out.1.below hb5).nbo (nb_set _ _ _ _) (k HM4.out.2),(HM4.out.2.below hb5).setCell _ _ _⟩,HL5.out.nbo (nb_set _ _ _ _) (fun b hb=>by have:=(HO5.out b hb).1;omega),(HO5.out.setCell _ _ _).mono (by omega)⟩:OwnN wz.heap.size w6 _ c)
 have hb6:Below w.heap.size w w6:=by rw[hw6];exact(below_tr hb4 hb5).setCell (p:=⟨w.heap.size,6,none⟩) (Nat.le_refl _) _
 clear hR5 hO5;go_upto_region 4 with fail;rw[←hw6];clear hw6 c0 f0;have a0:=HB6.out.cell 0 rfl;have a1:=HB6.out.cell 1 rfl;have a2:=HB6.out.cell 2 rfl;have a3:=HB6.out.cell 3 rfl;have a4:=HB6.out.cell 4 rfl;have a5:=HB6.out.cell 5 rfl;have a6:=HB6.out.cell 6 rfl;have a7:=HB6.out.cell 7 rfl;have y0:=HY6.out.cell 0 rfl;have y1:=HY6.out.cell 1 rfl;have y2:=HY6.out.cell 2 rfl;have y3:=HY6.out.cell 3 rfl;have y4:=HY6.out.cell 4 rfl;have y5:=HY6.out.cell 5 rfl;have y6:=HY6.out.cell 6 rfl;have y7:=HY6.out.cell 7 rfl;have g0:=HY6.out.fr 0;have g1:=HY6.out.fr 1;have g2:=HY6.out.fr 2;have g3:=HY6.out.fr 3;have g4:=HY6.out.fr 4;have g5:=HY6.out.fr 5;have g6:=HY6.out.fr 6;have g7:=HY6.out.fr 7;have hne: ¬w.heap.size=w.heap.size+1:=by omega
 go_wp2_with fail;refine bodyPost_ret (v:= .agg #[.string c.who,.string c.fo,.slice xa c.base.length xc,.int .i64 c.cur,.slice ya c.mine.length yc,.string c.key,.slice za c.ask.length zc,.int .i64 c.keys]) (by simp[results,Tryz.results23,go_sem,y0,y1,y2,y3,y4,y5,y6,y7]) rfl ⟨_,rfl,?_,?_⟩
 · exact(HN6.out.nbo (grown_on (grown_on (grown_on (grown_on (grown_on (grown_on (grown_on (nb_set w6 (w.heap.size+1) 0 (.string c.who)) (nb_set _ (w.heap.size+1) 1 (.string c.fo))) (nb_set _ (w.heap.size+1) 2 (.slice xa c.base.length xc))) (nb_set _ (w.heap.size+1) 3 (.int .i64 c.cur))) (nb_set _ (w.heap.size+1) 4 (.slice ya c.mine.length yc))) (nb_set _ (w.heap.size+1) 5 (.string c.key))) (nb_set _ (w.heap.size+1) 6 (.slice za c.ask.length zc))) (nb_set _ (w.heap.size+1) 7 (.int .i64 c.keys))) hNz).mono (by omega)
 · exact((((((((hb6.setCell (p:=⟨w.heap.size+1,0,none⟩) (Nat.le_succ _) _).setCell (p:=⟨w.heap.size+1,1,none⟩) (Nat.le_succ _) _).setCell (p:=⟨w.heap.size+1,2,none⟩) (Nat.le_succ _) _).setCell (p:=⟨w.heap.size+1,3,none⟩) (Nat.le_succ _) _).setCell (p:=⟨w.heap.size+1,4,none⟩) (Nat.le_succ _) _).setCell (p:=⟨w.heap.size+1,5,none⟩) (Nat.le_succ _) _).setCell (p:=⟨w.heap.size+1,6,none⟩) (Nat.le_succ _) _).setCell (p:=⟨w.heap.size+1,7,none⟩) (Nat.le_succ _) _)
end Go.Proofs.YtlllcifehellpaaGreatDoor
