/- Where a folder is among folders that rise, or would be: hub.place, over slices.BinarySearchFunc. -/
import Derived.Test.YtppdfeehhnofaaaGreatDoorHAM
import Derived.Test.YtppdfeehhnofaaaGreatDoorHAA
import Derived.Test.YtppdfeehhnofaaaGreatDoorHAL
import Derived.Lib.SliceRun
import Derived.Test.YtppdfeehhnofaaaGreatDoorHAH
import Derived.Test.YtppdfeehhnofaaaGreatDoorHAI
set_option linter.unusedSimpArgs false
set_option linter.unusedVariables false
namespace Go.Proofs.YtppdfeehhnofaaaGreatDoor
open Go.RowKit

namespace Hu
def cm (s:Sh) (x:ByteArray):Int:=Lib.compareBytes s.na.data.toList x.data.toList
theorem lt_cm (s t:Sh):lt s t=decide (Lib.compareBytes s.na.data.toList t.na.data.toList<0):=by rw[lt,Pp.less_cmp,Lib.toList_data,Lib.toList_data]
theorem ris_lt {L:List Sh} (hr:risB L=true): ∀(d i:Nat) (h:i+d+1<L.length),Lib.compareBytes (L[i]'(by omega)).na.data.toList (L[i+d+1]).na.data.toList<0
 |0,i,h=>by
  have:=(ris_iff L).1 hr i h
  rw[lt_cm]at this;exact of_decide_eq_true this
 |d+1,i,h=>by
  have h1:=ris_lt hr d i (by omega);have h2:=(ris_iff L).1 hr (i+d+1) (by omega);rw[lt_cm]at h2;exact Pp.cmp_trans _ _ _ h1 (of_decide_eq_true h2)
theorem cm_mono {L:List Sh} (hr:risB L=true) {x:ByteArray} {i j:Nat} (hij:i≤j) (hj:j<L.length) (h:cm L[j] x<0):cm (L[i]'(by omega)) x<0:=by
 by_cases e:i=j
 · subst e;exact h
 · obtain⟨d,rfl⟩: ∃d,j=i+d+1:=⟨j-i-1,by omega⟩
   exact Pp.cmp_trans _ _ _ (ris_lt hr d i hj) h
/-- Where one of this name is, or would be; whether there is one. -/
def plc (L:List Sh) (x:ByteArray):Nat:=L.findIdx (fun s=>decide (0≤cm s x))
def isB (L:List Sh) (x:ByteArray):Bool:=L.any (fun s=>decide (cm s x=0))
theorem plc_of {L:List Sh} {x:ByteArray} {p:Nat} (hp:p≤L.length) (hlo: ∀m (h:m<L.length),m<p→cm L[m] x<0) (hhi: ∀m (h:m<L.length),p≤m→0≤cm L[m] x):plc L x=p:=by
 by_cases h:p<L.length
 · exact(List.findIdx_eq h).2 ⟨decide_eq_true (hhi p h (Nat.le_refl _)),fun m hm=>by have:=hlo m (by omega) hm;simp;omega⟩
 · obtain rfl:p=L.length:=by omega
   exact List.findIdx_eq_length.2 fun s hs=>by
    obtain⟨m,hm,rfl⟩:=List.getElem_of_mem hs
    have:=hlo m hm hm;simp;omega
theorem is_of {L:List Sh} {x:ByteArray} {p:Nat} (hr:risB L=true) (h:p<L.length) (hlo: ∀m (h:m<L.length),m<p→cm L[m] x<0) (hhi: ∀m (h:m<L.length),p≤m→0≤cm L[m] x):isB L x=decide (cm L[p] x=0):=by
 by_cases e:cm L[p] x=0
 · rw[decide_eq_true e]
   exact List.any_eq_true.2 ⟨L[p],List.getElem_mem h,decide_eq_true e⟩
 · rw[decide_eq_false e]
   refine List.any_eq_false.2 fun s hs=>?_
   obtain⟨m,hm,rfl⟩:=List.getElem_of_mem hs
   simp only[decide_eq_true_eq];intro hz;by_cases h1:m<p
   · have:=hlo m hm h1;omega
   · by_cases h2:m=p
     · subst h2;exact e hz
     · obtain⟨d,rfl⟩: ∃d,m=p+d+1:=⟨m-p-1,by omega⟩
       have h3:=ris_lt hr d p hm;have h4:L[p+d+1].na.data.toList=x.data.toList:=Pp.cmp_zero _ _ hz;rw[h4]at h3;have h5:=hhi p h (Nat.le_refl _);have h6:cm L[p] x<0:=h3;omega
theorem is_none {L:List Sh} {x:ByteArray} (hlo: ∀m (h:m<L.length),cm L[m] x<0):isB L x=false:=by
 refine List.any_eq_false.2 fun s hs=>?_
 obtain⟨m,hm,rfl⟩:=List.getElem_of_mem hs
 have:=hlo m hm
 simp;omega
end Hu

set_option maxRecDepth 100000 in
theorem place1_any (na y:ByteArray) (ua xa:Option Addr) (n1 c1 n2 c2:Nat) (f:Int) (w:World):
    Calls Tryz.prog 119 #[.agg #[.string na,.slice ua n1 c1,.int .i64 f,.slice xa n2 c2],.string y] w fun e w'=>e= .returned (.int .i64 (Lib.compareBytes na.data.toList y.data.toList))∧Below w.heap.size w w':=by
 have hbz:Below w.heap.size w (w.alloc (.cells #[.string na,.slice ua n1 c1,.int .i64 f,.slice xa n2 c2] 90)):=(Below.refl _ _).alloc (Nat.le_refl _) _;go_enter Tryz.func119,Tryz.ntmps119
 go_wp2_with fail;refine(Tryz.strings_Compare _ _ _).mono ?_
 rintro e w1 ⟨rfl,rfl⟩;go_wp2_with fail;go_ret;exact⟨rfl,hbz⟩
set_option maxRecDepth 100000 in
set_option maxHeartbeats 2000000 in
theorem bsearch_any (L:List Sh) (v:Value) (x:ByteArray) (w:World) (hv:LiesF w v L) (hr:Hu.risB L=true) (h8:L.length≤8):
    Calls Tryz.prog 118 #[v,.string x,.func (.func 119) #[] #[]] w fun e w'=>e= .returned (.tuple #[.int .i64 (Hu.plc L x),.bool (Hu.isB L x)])∧Below w.heap.size w w':=by
 have HR:=hid hr;obtain⟨a,cap,rfl,hcap,hcap2,hLL⟩:=hv
 have HL:Hid (∀i (h:i<L.length),∃b o,a=some ⟨b,o,none⟩∧b<w.heap.size∧ShAt w b (o+i*4) L[i]):=hLL;clear hLL hr;go_enter Tryz.func118,Tryz.ntmps118
 go_wp2_with fail;go_loopw [9,10] (fun vi vj wr=> ∃i j:Nat,i≤j∧j≤L.length∧vi= .int .i64 i∧vj= .int .i64 j∧Hid (∀m (h:m<L.length),m<i→Hu.cm L[m] x<0)∧Hid (∀m (h:m<L.length),j≤m→0≤Hu.cm L[m] x)∧Below w.heap.size w wr) (fun vi vj _=>(intOf vj-intOf vi).toNat)
 case atStart=>exact⟨0,L.length,Nat.zero_le _,Nat.le_refl _,rfl,rfl,(fun m _ h=>absurd h (Nat.not_lt_zero _): ∀m (h:m<L.length),m<0→Hu.cm L[m] x<0),(fun m h h2=>absurd h (by omega): ∀m (h:m<L.length),L.length≤m→0≤Hu.cm L[m] x),Below.refl _ _⟩
 case round=>
  obtain⟨i,j,hij,hj,rfl,rfl,HA,HB,hbel⟩:=hrel
  by_cases hlt:i<j
  · obtain⟨k,hk⟩: ∃k:Nat,k=(i+j)/2:=⟨_,rfl⟩
    have hlt':(i:Int)<j:=by omega
    have hk1:i≤k:=by omega
    have hk2:k<j:=by omega
    have hkL:k<L.length:=by omega
    obtain⟨b,o,rfl,hb,he⟩:=HL.out k hkL
    obtain⟨c0,u,z,c1,c2,c3,hu,hz⟩:=he.below hb hbel
    have HLO:=hid (show Hu.cm L[k] x<0→ ∀m (h:m<L.length),m<k+1→Hu.cm L[m] x<0 from fun h m h1 h2=>Hu.cm_mono HR.out (by omega) hkL h)
    have HHI:=hid (show¬Hu.cm L[k] x<0→ ∀m (h:m<L.length),k≤m→0≤Hu.cm L[m] x from fun h m h1 h2=>by
     by_cases e:Hu.cm L[m] x<0
     · exact absurd (Hu.cm_mono HR.out h2 h1 e) h
     · omega)
    clear he;have HC:=hid (show Lib.compareBytes L[k].na.data.toList x.data.toList=Hu.cm L[k] x from rfl);generalize L[k]=s at*;obtain⟨na,⟨jb,jf,jc⟩⟩:=s
    simp only at c0 c1 c2 c3 hu hz;obtain⟨ua,uc,rfl,_⟩:=hu
    obtain⟨xa,xc,rfl,_⟩:=hz
    have hmid:((i:Int)+j)/2=(k:Int):=by omega
    have hsh:Op.shift .shr .u64 ((i:Int)+j) .u64 1=pure (.int .u64 (k:Int)):=by rw[shift_shr_any _ _ _ _ (by decide),←hmid];rfl
    have hw1:IntKind.i64.wrap (k:Int)=k:=by rw[IntKind.wrap_i64];omega
    clear hmid hk;go_wp2_with fail;refine(place1_any na x ua xa _ uc _ xc jf _).mono ?_
    rintro e w1 ⟨rfl,hb1⟩;rw[HC.out];have hbel1:=below_tr hbel hb1;by_cases hc:Hu.cm ⟨na,⟨jb,jf,jc⟩⟩ x<0
    · have HA2:=hid (HLO.out hc)
      go_wp2_with fail;go_roundw
      case rel=>exact⟨k+1,j,by omega,hj,by simp,rfl,HA2,HB,hbel1⟩
      case measure=>simp[intOf];omega
    · have HB2:=hid (HHI.out (by omega))
      go_wp2_with fail;go_roundw
      case rel=>exact⟨i,k,hk1,by omega,rfl,by simp,HA,HB2,hbel1⟩
      case measure=>simp[intOf];omega
  · obtain rfl:i=j:=by omega
    by_cases hn:i<L.length
    · have hn':(i:Int)<L.length:=by omega
      obtain⟨b,o,rfl,hb,he⟩:=HL.out i hn
      obtain⟨c0,u,z,c1,c2,c3,hu,hz⟩:=he.below hb hbel
      have HC:=hid (show Lib.compareBytes L[i].na.data.toList x.data.toList=Hu.cm L[i] x from rfl);have HF:=hid (show Hu.plc L x=i∧Hu.isB L x=decide (Hu.cm L[i] x=0)from⟨Hu.plc_of hj HA.out HB.out,Hu.is_of HR.out hn HA.out HB.out⟩);clear he;generalize L[i]=s at*;obtain⟨na,⟨jb,jf,jc⟩⟩:=s
      simp only at c0 c1 c2 c3 hu hz;obtain⟨ua,uc,rfl,_⟩:=hu
      obtain⟨xa,xc,rfl,_⟩:=hz
      go_wp2_with fail;refine(place1_any na x ua xa _ uc _ xc jf _).mono ?_
      rintro e w1 ⟨rfl,hb1⟩;rw[HC.out];have hbel1:=below_tr hbel hb1;go_wp2_with fail;go_ret2;exact⟨by rw[HF.out.1,HF.out.2];rfl,hbel1⟩
    · have hn': ¬(i:Int)<L.length:=by omega
      obtain rfl:i=L.length:=by omega
      have HF:=hid (show Hu.plc L x=L.length∧Hu.isB L x=false from⟨Hu.plc_of hj HA.out HB.out,Hu.is_none fun m h=>HA.out m h h⟩);go_wp2_with fail;go_ret2;exact⟨by rw[HF.out.1,HF.out.2];rfl,hbel⟩
set_option maxRecDepth 100000 in
/-- The server's box lies at g, its folders first. -/
theorem place_any (L:List Sh) (v:Value) (x:ByteArray) (g:Nat) (w:World) (hc:w.cell? ⟨g,0,none⟩=some v) (hv:LiesF w v L) (hr:Hu.risB L=true) (h8:L.length≤8):
    Calls Tryz.prog 82 #[.pointer (some ⟨g,0,none⟩),.string x] w fun e w'=>e= .returned (.tuple #[.int .i64 (Hu.plc L x),.bool (Hu.isB L x)])∧Below w.heap.size w w':=by
 have HV:=hid hv;obtain⟨a,cap,rfl,_⟩:=hv
 go_enter Tryz.func82,Tryz.ntmps82
 go_wp2_with fail;refine(bsearch_any L _ x _ HV.out hr h8).mono ?_
 rintro e w1 ⟨rfl,hb⟩;go_wp2_with fail;go_ret2;exact⟨rfl,hb⟩
end Go.Proofs.YtppdfeehhnofaaaGreatDoor
namespace Go.Proofs.YtppdfeehhnofaaaGreatDoor
open Go.RowKit

/-- A function value that answers a predicate, in every world that has grown, or was written in one block since. -/
def TellsS (w:World) (q:Nat) (g:Nat) (cb:Array Value) (pr:Se→Bool):Prop:=
 (∀args w,(callFunc g args).run Tryz.prog w= .ok (.enter g args) w)∧ ∀W,w.grownBy W (some q)→ ∀s:Se,Calls Tryz.prog g (#[.agg #[.int .i64 s.nu,.string s.wh,.string s.tx,.int .i64 s.si,.int .i64 s.ti]]++cb) W fun e w'=>e= .returned (.bool (pr s))∧Below W.heap.size W w'
namespace Nb
theorem refl (w:World) (g:Nat):w.grownBy w (some g):=⟨rfl,rfl,rfl,Nat.le_refl _,fun _ _ _=>rfl⟩
theorem trans {a b c:World} {g:Nat} (h:a.grownBy b (some g)) (k:b.grownBy c (some g)):a.grownBy c (some g):=
 ⟨k.os.trans h.os,k.tape.trans h.tape,k.output.trans h.output,Nat.le_trans h.size k.size,fun q hq hne=>(k.block q (Nat.lt_of_lt_of_le hq h.size) hne).trans (h.block q hq hne)⟩
theorem below {a b:World} (g:Nat) (h:Below a.heap.size a b):a.grownBy b (some g):=
 ⟨h.os,h.tape,h.output,h.size,fun q hq _=>h.block q hq⟩
theorem «to» {B:Nat} {w w':World} {g:Nat} (h:w.grownBy w' (some g)) (hB:B≤w.heap.size) (hg:B≤g):Below B w w':=
 ⟨h.os,h.tape,h.output,h.size,fun k hk=>h.block k (Nat.lt_of_lt_of_le hk hB) (fun e=>by injection e with e;omega)⟩
theorem cell {w w':World} {g:Nat} (h:w.grownBy w' (some g)) {p:Addr} (hp:p.block<w.heap.size) (hg:p.block≠g):w'.cell? p=w.cell? p:=
 World.cell?_of_block (w:=w) (h.block p.block hp (fun e=>hg (by injection e)))
theorem frozen {w w':World} {g:Nat} (h:w.grownBy w' (some g)) {p:Addr} (hp:p.block<w.heap.size) (hg:p.block≠g):w'.frozen? p=w.frozen? p:=
 World.frozen?_of_block (w:=w) (h.block p.block hp (fun e=>hg (by injection e)))
theorem setCell (w:World) (g o:Nat) (v:Value):w.grownBy (w.setCell ⟨g,o,none⟩ v) (some g):=by
 exact⟨rfl,rfl,rfl,by simp,fun k _ hne=>Below.heap_setCell w _ v k (fun e=>hne (by rw[e]))⟩
theorem setCells (g:Nat): ∀(vs:List Value) (o:Nat) (w:World),w.grownBy (w.setCells g o vs) (some g)
 |[],_,w=>refl w g
 |v::r,o,w=>trans (setCell w g o v) (setCells g r (o+1) (w.setCell ⟨g,o,none⟩ v))
end Nb

/-- A block that is the program's own, of so many cells. -/
def Blk (W:World) (g:Nat) (T:TypeId) (n:Nat):Prop:= ∃cur,W.heap[g]?=some (.cells cur T (0,0))∧cur.size=n
def KeepB (g:Nat) (w W:World):Prop:= ∀T n,Blk w g T n→Blk W g T n
theorem Blk.lt {W:World} {g n:Nat} {T:TypeId} (h:Blk W g T n):g<W.heap.size:=by
 obtain⟨cur,hh,_⟩:=h
 rcases Nat.lt_or_ge g W.heap.size with h|h
 · exact h
 · rw[Array.getElem?_eq_none h]at hh;cases hh
theorem Blk.below {W W':World} {g n:Nat} {T:TypeId} (h:Blk W g T n) (hw:Below W.heap.size W W'):Blk W' g T n:=by
 have hlt:=h.lt;obtain⟨cur,hh,hs⟩:=h
 exact⟨cur,(hw.block g hlt).trans hh,hs⟩
theorem Blk.nb {W W':World} {g b n:Nat} {T:TypeId} (h:Blk W g T n) (hw:W.grownBy W' (some b)) (hne:g≠b):Blk W' g T n:=by
 have hlt:=h.lt;obtain⟨cur,hh,hs⟩:=h
 exact⟨cur,(hw.block g hlt (fun e=>hne (by injection e))).trans hh,hs⟩
theorem KeepB.refl (g:Nat) (w:World):KeepB g w w:=fun _ _ h=>h
theorem KeepB.trans {g:Nat} {a b c:World} (h:KeepB g a b) (k:KeepB g b c):KeepB g a c:=fun T n x=>k T n (h T n x)
theorem KeepB.below {g:Nat} {a b:World} (h:Below a.heap.size a b):KeepB g a b:=fun _ _ x=>x.below h
theorem KeepB.setCell (g o:Nat) (v:Value) (w:World):KeepB g w (w.setCell ⟨g,o,none⟩ v):=by
 intro T n h;obtain⟨cur,hh,hs⟩:=h
 refine⟨cur.setIfInBounds o v,?_,by simpa using hs⟩
 unfold World.setCell;simp only[Array.getElem?_modify,hh,if_true,Option.map_some];rfl
theorem KeepB.setCells (g:Nat): ∀(vs:List Value) (o:Nat) (w:World),KeepB g w (w.setCells g o vs)
 |[],_,w=>KeepB.refl g w
 |v::r,o,w=>(KeepB.setCell g o v w).trans (KeepB.setCells g r (o+1) (w.setCell ⟨g,o,none⟩ v))
namespace Pp
def cellsS (s:Se):List Value:=[.int .i64 s.nu,.string s.wh,.string s.tx,.int .i64 s.si,.int .i64 s.ti]
def flatS (G:List Se):List Value:=G.flatMap cellsS
theorem cellsS_one (s:Se): ∀u∈cellsS s,u.oneCell'=true:=by
 intro u hu;simp only[cellsS,List.mem_cons,List.not_mem_nil,or_false]at hu;rcases hu with rfl|rfl|rfl|rfl|rfl<;>rfl
theorem flatS_get: ∀(L:List Se) (i c:Nat) (h:i<L.length),c<5→(flatS L)[i*5+c]?=(cellsS L[i])[c]?
 |[],i,c,h,_=>absurd h (Nat.not_lt_zero _)
 |a::r,0,c,_,hc=>by
  rw[flatS,List.flatMap_cons,Nat.zero_mul,Nat.zero_add,List.getElem?_append_left (by simpa[cellsS]using hc)];rfl
 |a::r,i+1,c,h,hc=>by
  have ih:=flatS_get r i c (by simpa using h) hc;rw[flatS,List.flatMap_cons,List.getElem?_append_right (by simp[cellsS];omega)];rw[show(cellsS a).length=5 from rfl,show(i+1)*5+c-5=i*5+c from by omega];exact ih
theorem flatS_len (L:List Se):(flatS L).length=L.length*5:=by
 induction L with
 |nil=>rfl
 |cons a r ih=>rw[flatS,List.flatMap_cons,List.length_append];rw[show(List.flatMap cellsS r)=flatS r from rfl,ih];simp[cellsS];omega
theorem flatS_snoc (L:List Se) (e:Se):flatS L++cellsS e=flatS (L++[e]):=by simp[flatS]
end Pp

/-- A row of sessions at a block's beginning, that may be written. -/
def RowS (w:World) (g:Nat) (d:List Se):Prop:=g<w.heap.size∧ ∀i (h:i<d.length),∀c,c<5→w.cell? ⟨g,i*5+c,none⟩=(Pp.cellsS d[i])[c]?∧w.frozen? ⟨g,i*5+c,none⟩=false
theorem RowS.at {w:World} {g:Nat} {d:List Se} (h:RowS w g d) {i:Nat} (hi:i<d.length):SeAt w g (i*5) d[i]:=
 ⟨by have:=(h.2 i hi 0 (by decide)).1;simpa[Pp.cellsS]using this,by have:=(h.2 i hi 1 (by decide)).1;simpa[Pp.cellsS]using this,by have:=(h.2 i hi 2 (by decide)).1;simpa[Pp.cellsS]using this,by have:=(h.2 i hi 3 (by decide)).1;simpa[Pp.cellsS]using this,by have:=(h.2 i hi 4 (by decide)).1;simpa[Pp.cellsS]using this⟩
theorem RowS.below {w w':World} {g:Nat} {d:List Se} (h:RowS w g d) (hw:Below w.heap.size w w'):RowS w' g d:=
 ⟨Nat.lt_of_lt_of_le h.1 hw.size,fun i hi c hc=>⟨(hw.cell (p:=⟨g,i*5+c,none⟩) h.1).trans (h.2 i hi c hc).1,(hw.frozen (p:=⟨g,i*5+c,none⟩) h.1).trans (h.2 i hi c hc).2⟩⟩
theorem RowS.lies {w:World} {g cap:Nat} {d:List Se} (h:RowS w g d) (hc:d.length≤cap) (hn:d.length≤1000000000000000):LiesS w (.slice (some ⟨g,0,none⟩) d.length cap) d:=
 ⟨_,cap,rfl,hc,hn,fun i hi=>⟨g,0,rfl,h.1,by rw[Nat.zero_add];exact h.at hi⟩⟩
theorem RowS.take {w:World} {g:Nat} {d:List Se} (h:RowS w g d) (k:Nat):RowS w g (d.take k):=
 ⟨h.1,fun i hi c hc=>by
  have hi':i<d.length:=by rw[List.length_take]at hi;omega
  have:=h.2 i hi' c hc
  rw[List.getElem_take];exact this⟩
theorem rowS_own {w:World} {base:Nat} {T:TypeId} {g n cap:Nat} {d:List Se} (h:w.ownsRow base T 5 (.slice (some ⟨g,0,none⟩) n cap) n (Pp.flatS d)) (hn:n=d.length):RowS w g d:=by
 subst hn;have hlt:=(h.lt g rfl).2;refine⟨hlt,fun i hi c hc=>⟨?_,h.frozenAt _⟩⟩
 have hz:i*5+c<d.length*5:=by omega
 rw[h.cellAt (i*5+c) hz];exact Pp.flatS_get d i c hi hc
theorem own_rowS {w:World} {base g cap:Nat} {T:TypeId} {d:List Se} (h:RowS w g d) (hB:Blk w g T (cap*5)) (hc:d.length≤cap) (hm:cap≤maxLen) (hb:base≤g):w.ownsRow base T 5 (.slice (some ⟨g,0,none⟩) d.length cap) d.length (Pp.flatS d):=by
 obtain⟨cur,hh,hs⟩:=hB
 refine⟨Pp.flatS_len d,Or.inr ⟨g,cap,cur,rfl,hb,hh,hc,hm,hs,?_⟩⟩
 apply List.ext_getElem?
 intro t;by_cases ht:t<d.length*5
 · have h1:t/5<d.length:=by omega
   have h2:t/5*5+t % 5=t:=by omega
   have h3:=(h.2 (t/5) h1 (t % 5) (by omega)).1;rw[h2]at h3;have h4:=Pp.flatS_get d (t/5) (t % 5) h1 (by omega);rw[h2]at h4;rw[h4,←h3,List.getElem?_take_of_lt ht];simp[World.cell?,hh]
 · rw[List.getElem?_eq_none (by rw[List.length_take];omega),List.getElem?_eq_none (by rw[Pp.flatS_len];omega)]
theorem RowS.set {w:World} {g:Nat} {d:List Se} (h:RowS w g d) {i:Nat} (hi:i<d.length) (s:Se):RowS (w.setCells g (i*5) (Pp.cellsS s)) g (d.set i s):=by
 refine⟨Nat.lt_of_lt_of_le h.1 (Nb.setCells g _ _ w).size,fun j hj c hc=>⟨?_,?_⟩⟩
 · have hj':j<d.length:=by simpa using hj
   by_cases e:j=i
   · subst e
     have:=World.cell?_setCells_in g (Pp.cellsS s) (j*5) w (fun c' hc'=>by
      have hc'':c'<5:=hc';rw[(h.2 j hi c' hc'').1];match c',hc'' with
      |0,_=>rfl
      |1,_=>rfl
      |2,_=>rfl
      |3,_=>rfl
      |4,_=>rfl) c hc
     rw[this];simp only[List.getElem_set_self];exact(List.getElem?_eq_getElem (show c<(Pp.cellsS s).length from hc)).symm
   · rw[World.cell?_setCells_out g _ _ _ _ (fun _ _=>by simp only[show(Pp.cellsS s).length=5 from rfl];omega),(h.2 j hj' c hc).1]
     rw[List.getElem_set_ne (fun e'=>e e'.symm)]
 · rw[World.frozen?_setCells];exact(h.2 j (by simpa using hj) c hc).2
end Go.Proofs.YtppdfeehhnofaaaGreatDoor
namespace Go.Proofs.YtppdfeehhnofaaaGreatDoor
open Go.RowKit Go.Maps Go.WideMaps

theorem LiesG.nb {W W':World} {v:Value} {L:List Gr} {g:Nat} (h:LiesG W v L) (hw:W.grownBy W' (some g)) (hn:NoStr W g):LiesG W' v L:=by
 obtain⟨a,cap,hv,h1,h2,h3⟩:=h
 refine⟨a,cap,hv,h1,h2,fun i hi=>?_⟩
 obtain⟨b,o,ha,hb,he⟩:=h3 i hi
 have hne:b≠g:=fun e=>hn _ _ (e▸he.1)
 have c:=cell_nb hw hb hne;exact⟨b,o,ha,Nat.lt_of_lt_of_le hb hw.size,(c _).trans he.1,(c _).trans he.2.1,(c _).trans he.2.2⟩
theorem LiesF.nb {W W':World} {v:Value} {L:List Sh} {g:Nat} (h:LiesF W v L) (hw:W.grownBy W' (some g)) (hn:NoStr W g):LiesF W' v L:=by
 obtain⟨a,cap,hv,h1,h2,h3⟩:=h
 refine⟨a,cap,hv,h1,h2,fun i hi=>?_⟩
 obtain⟨b,o,ha,hb,e0,u,x,e1,e2,e3,e4,e5⟩:=h3 i hi
 have hne:b≠g:=fun e=>hn _ _ (e▸e0)
 have c:=cell_nb hw hb hne;exact⟨b,o,ha,Nat.lt_of_lt_of_le hb hw.size,(c _).trans e0,u,x,(c _).trans e1,(c _).trans e2,(c _).trans e3,e4.nb hw hn,e5.nb hw hn⟩
namespace Hu
/-- What the grants tell of, with where that is. -/
def told (L:List Sh) (G:List Gr):List Co:=G.map fun g=>⟨plc L g.fo,g.fo,[]⟩
def telE (L:List Sh) (G:List Gr):Int:=if(G.all fun g=>isB L g.fo)=true then(if Maps.size (Jn.D (told L G))<L.length then 5 else 0)else 5
theorem tel_bad {L:List Sh} {G:List Gr} {k:Nat} (hk:k<G.length) (h:isB L G[k].fo=false):telE L G=5:=by
 rw[telE,if_neg];intro ha;have:=List.all_eq_true.1 ha G[k] (List.getElem_mem hk)
 rw[h]at this;cases this
theorem tel_all {L:List Sh} {G:List Gr} (h: ∀m (h:m<G.length),isB L G[m].fo=true):telE L G=if Maps.size (Jn.D (told L G))<L.length then 5 else 0:=by
 rw[telE,if_pos];refine List.all_eq_true.2 fun g hg=>?_
 obtain⟨m,hm,rfl⟩:=List.getElem_of_mem hg
 exact h m hm
theorem told_take {L:List Sh} {G:List Gr} {k:Nat} (hk:k<G.length):Jn.D ((told L G).take (k+1))=(Jn.D ((told L G).take k)).put (Jn.key G[k].fo) (Jn.num (plc L G[k].fo)):=by
 have h:=Jn.D_take (l:=told L G) (k:=k) (by simpa[told]using hk);simpa[told]using h
end Hu

set_option maxRecDepth 100000 in
set_option maxHeartbeats 2000000 in
theorem tell_any (L:List Sh) (G:List Gr) (vf vg vs:Value) (nx la ro now:Int) (g mb:Nat) (w:World) (hbx:Cs w g [vf,vg,vs,.int .i64 nx,.int .i64 la,.int .i64 ro,.int .i64 now,.map (some mb)]) (hm:w.ownsMap Tryz.prog 9 (plainElem Tryz.prog 3) mb 0 (.map []:DataW Unit)) (hne:g≠mb)
    (hf:LiesF w vf L) (hg:LiesG w vg G) (hs:SizedG G) (hr:Hu.risB L=true) (h8:L.length≤8) (h60:G.length≤60):
    Calls Tryz.prog 47 #[.pointer (some ⟨g,0,none⟩)] w fun e w'=>e= .returned (.int .i64 (Hu.telE L G))∧w.grownBy w' (some mb)∧(Hu.telE L G=0→w'.ownsMap Tryz.prog 9 (plainElem Tryz.prog 3) mb G.length (Jn.D (Hu.told L G))):=by
 have HX:=hid hbx;have HF:=hid hf;have HS:=hid hs;have HR:=hid hr;have HM:=hid hm;have HNS:Hid (NoStr w mb):=noStr_map hm;have hgl:=hbx.lt;have hml:=hm.lt;obtain⟨fa,fc,rfl,_⟩:=hf
 obtain⟨a,cap,rfl,hcap,hcap2,hLL⟩:=hg
 have HL:Hid (∀i (h:i<G.length),∃b o,a=some ⟨b,o,none⟩∧b<w.heap.size∧GrAt w b (o+i*3) G[i]):=hLL;have p1:=hbx.cell 1 rfl;clear hLL hbx hs hr hm;go_enter Tryz.func47,Tryz.ntmps47
 go_wp2_with fail;go_loopw [13] (fun i wr=> ∃k:Nat,k≤G.length∧i= .int .i64 k∧Hid (wr.ownsMap Tryz.prog 9 (plainElem Tryz.prog 3) mb k (Jn.D ((Hu.told L G).take k)))∧Hid (∀m (h:m<G.length),m<k→Hu.isB L G[m].fo=true)∧Hid (w.grownBy wr (some mb))) (fun i _=>G.length-(intOf i).toNat)
 case atStart=>exact⟨0,Nat.zero_le _,rfl,HM,(fun m _ h=>absurd h (Nat.not_lt_zero _): ∀m (h:m<G.length),m<0→Hu.isB L G[m].fo=true),Nb.refl w mb⟩
 case round=>
  obtain⟨k,hk,rfl,HD,HP,HN⟩:=hrel
  clear p1;by_cases hlt:k<G.length
  · obtain⟨b,o,rfl,hb,he⟩:=HL.out k hlt
    have hbne:b≠mb:=fun e=>HNS.out _ _ (e▸he.1)
    have cc:=cell_nb HN.out hb hbne;have c0:=(cc _).trans he.1;have c1:=(cc _).trans he.2.1;have c2:=(cc _).trans he.2.2;have HZ:=hid (HS.out G[k] (List.getElem_mem hlt));have HBAD:=hid (show Hu.isB L G[k].fo=false→Hu.telE L G=5 from fun h=>Hu.tel_bad hlt h)
    have HNX:=hid (show Hu.isB L G[k].fo=true→ ∀m (h:m<G.length),m<k+1→Hu.isB L G[m].fo=true from fun h0 m h1 h2=>by
     by_cases e:m=k
     · subst e;exact h0
     · exact HP.out m h1 (by omega))
    have HTK:=hid (Hu.told_take (L:=L) hlt);have HPL:=hid (show Hu.plc L G[k].fo≤L.length from List.findIdx_le_length);clear he cc;generalize G[k]=x at*;obtain⟨fo,wh,ri⟩:=x
    simp only at c0 c1 c2;have hsr:=HN.out.size;obtain⟨wy,hwy⟩: ∃wy,wy=wr.alloc (.cells #[.string fo,.string wh,.int .i64 ri] 137):=⟨_,rfl⟩
    have hby:Below wr.heap.size wr wy:=by rw[hwy];exact(Below.refl _ _).alloc (Nat.le_refl _) _
    have HB:=hid (show Cs wy wr.heap.size [.string fo,.string wh,.int .i64 ri]from by rw[hwy];exact Cs.new wr [.string fo,.string wh,.int .i64 ri] _);have HNY:=hid (show w.grownBy wy (some mb)from Nb.trans HN.out (Nb.below mb hby));have HXY:=hid (HX.out.nb HNY.out hne);have HFY:=hid (HF.out.nb HNY.out HNS.out);have y0:=HB.out.cell 0 rfl;go_wp2_with fail;rw[←hwy];clear hwy c0 c1 c2;refine(place_any L _ fo g wy (HXY.out.cell 0 rfl) HFY.out HR.out h8).mono ?_
    rintro e w1 ⟨rfl,hb1⟩;have HN1:=hid (show w.grownBy w1 (some mb)from Nb.trans HNY.out (Nb.below mb hb1));have HX1:=hid (HXY.out.below hb1);have HB1:=hid (HB.out.below hb1);have hbr1:=below_tr hby hb1;have HD1:=hid (show w1.ownsMap Tryz.prog 9 (plainElem Tryz.prog 3) mb k (Jn.D ((Hu.told L G).take k))from HD.out.kept (row:=none) ⟨hbr1.os,hbr1.tape,hbr1.output,hbr1.size,fun k hk _=>hbr1.block k hk⟩ (by simp));clear y0;cases hi:Hu.isB L fo with
    |false=>
     have HE:=hid (HBAD.out hi);clear hi HBAD HNX;go_wp2_with fail;go_ret;exact⟨by rw[HE.out];rfl,HN1.out,fun h=>by rw[HE.out]at h;cases h⟩
    |true=>
     have HP2:=hid (HNX.out hi);obtain⟨p,hp⟩: ∃p,p=Hu.plc L fo:=⟨_,rfl⟩
     rw[←hp];have HTK2:=hid (show Jn.D ((Hu.told L G).take (k+1))=(Jn.D ((Hu.told L G).take k)).put (Jn.key fo) (Jn.num p)from by rw[hp];exact HTK.out);have hp8:p≤L.length:=by rw[hp];exact HPL.out
     have hnu:(Lit.int .i64 (p:Int)).wf=true:=Jn.wf_num (by omega) (by omega);have hke:fo.size≤maxLen:=by have:fo.size≤150000000000000:=HZ.out.1;unfold maxLen;omega
     have hkm:k<maxLen:=by unfold maxLen;omega
     obtain⟨w6,hrun6,hown6,hgr6⟩:=HD1.out.drew.update (string_keyed Tryz.underlying9) Tryz.underlying76 hkm (keyOf_string_mk Tryz.underlying9 hke) (plainElem_int Tryz.underlying3 hnu)
     have HO6:=hid hown6;have HGR:=hid hgr6;have y0:=HB1.out.cell 0 rfl;have x7:=HX1.out.cell 7 rfl;clear hown6 hgr6 hp hi HBAD HNX HTK;go_wp2_with fail;go_region
     have HN6:=hid (show w.grownBy w6 (some mb)from Nb.trans (Nb.trans HN1.out (Nb.below mb (Below.refl _ _).drew)) HGR.out);have HO7:=hid (show w6.ownsMap Tryz.prog 9 (plainElem Tryz.prog 3) mb (k+1) (Jn.D ((Hu.told L G).take (k+1)))from by rw[HTK2.out];exact HO6.out);go_wp2_with fail;go_roundw
     case rel=>exact⟨k+1,by omega,by simp,HO7,HP2,HN6⟩
     case measure=>simp[intOf];omega
  · obtain rfl:k=G.length:=by omega
    have HA:=hid (Hu.tel_all fun m h=>HP.out m h h);have hT:(Hu.told L G).take G.length=Hu.told L G:=List.take_of_length_le (by simp[Hu.told]);rw[hT]at HD;clear hT;have HX1:=hid (HX.out.nb HN.out hne);have x7:=HX1.out.cell 7 rfl;have x0:=HX1.out.cell 0 rfl;have hlen:=fun ty=>HD.out.drew.len Tryz.underlying76 ty
    have HNd:=hid (show w.grownBy _ (some mb)from Nb.trans HN.out (Nb.below mb (Below.refl _ _).drew));have HDd:=hid HD.out.drew;by_cases hz:Maps.size (Jn.D (Hu.told L G))<L.length
    · have HE:=hid (show Hu.telE L G=5 from by rw[HA.out,if_pos hz])
      have hz':(Maps.size (Jn.D (Hu.told L G)):Int)<L.length:=by omega
      generalize Maps.size (Jn.D (Hu.told L G))=q at*;go_wp2_with fail;go_region
      go_wp2_with fail;go_ret;exact⟨by rw[HE.out];rfl,HNd.out,fun h=>by rw[HE.out]at h;cases h⟩
    · have HE:=hid (show Hu.telE L G=0 from by rw[HA.out,if_neg hz])
      have hz': ¬(Maps.size (Jn.D (Hu.told L G)):Int)<L.length:=by omega
      generalize Maps.size (Jn.D (Hu.told L G))=q at*;go_wp2_with fail;go_region
      go_wp2_with fail;go_ret;exact⟨by rw[HE.out];rfl,HNd.out,fun _=>HDd.out⟩
end Go.Proofs.YtppdfeehhnofaaaGreatDoor
namespace Go.Proofs.YtppdfeehhnofaaaGreatDoor
open Go.RowKit

theorem Tryz.infoRF:(Tryz.prog.info? 90).map (fun i=>(i.zero,i.size,i.bytes))=some (some (.agg #[.string ⟨#[]⟩,.slice none 0 0,.int .i64 0,.slice none 0 0]),4,72):=by kernel_rfl
/-- A row of folders with all its room: a block of its own, from its beginning on. -/
def Rm (w:World) (v:Value):Prop:=v= .slice none 0 0∨ ∃g n cap cur,v= .slice (some ⟨g,0,none⟩) n cap∧w.heap[g]?=some (.cells cur 90 (0,0))∧n≤cap∧cap≤maxLen∧cur.size=cap*4
theorem rm_row {w:World} {base:Nat} {v:Value} {n:Nat} {xs:List Value} (h:w.ownsRow base 90 4 v n xs):Rm w v:=by
 obtain⟨_,h2⟩:=h
 rcases h2 with⟨rfl,_⟩|⟨g,cap,cur,rfl,_,hh,hc,hm,hz,_⟩
 · exact Or.inl rfl
 · exact Or.inr ⟨g,n,cap,cur,rfl,hh,hc,hm,hz⟩
theorem Rm.below {w w':World} {v:Value} (h:Rm w v) (hw:Below w.heap.size w w'):Rm w' v:=by
 rcases h with h|⟨g,n,cap,cur,h1,h2,h3⟩
 · exact Or.inl h
 · exact Or.inr ⟨g,n,cap,cur,h1,(hw.block g (heap_lt h2)).trans h2,h3⟩
theorem Rm.nb {w w':World} {v:Value} {g:Nat} (h:Rm w v) (hw:w.grownBy w' (some g)) (hn: ∀b,v.ownBlock=some b→b≠g):Rm w' v:=by
 rcases h with h|⟨b,n,cap,cur,h1,h2,h3⟩
 · exact Or.inl h
 · exact Or.inr ⟨b,n,cap,cur,h1,(hw.block b (heap_lt h2) (fun e=>hn b (by rw[h1];rfl) (by injection e))).trans h2,h3⟩
theorem Rm.setCell {w:World} {v:Value} (h:Rm w v) (b o:Nat) (u:Value):Rm (w.setCell ⟨b,o,none⟩ u) v:=by
 rcases h with h|⟨g,n,cap,cur,h1,h2,h3,h4,h5⟩
 · exact Or.inl h
 · by_cases hb:b=g
   · subst hb
     refine Or.inr ⟨b,n,cap,cur.setIfInBounds o u,h1,?_,h3,h4,by simpa using h5⟩
     unfold World.setCell;simp only[Array.getElem?_modify,h2,if_true,Option.map_some];rfl
   · exact Or.inr ⟨g,n,cap,cur,h1,((nb_set w b o u).block g (heap_lt h2) (fun e=>hb (by injection e with e;exact e.symm))).trans h2,h3,h4,h5⟩
theorem own_of_rm {B:Nat} {w:World} {v:Value} {R:List (List Value)} (hr:LiesR 4 w v R) (hm:Rm w v) (ho:Own B w v):w.ownsRow B 90 4 v R.length R.flatten:=by
 obtain⟨a,cap,rfl,h1,h2,h4,h3⟩:=hr
 have hfl:=flatten_len (n:=4) (fun r hr=>(h4 r hr).1);rcases hm with h|⟨g,n,cap',cur,h,hh,hc,hmx,hz⟩
 · injection h with e1 e2 e3
   exact⟨hfl,Or.inl ⟨by rw[e1,e2,e3],e2⟩⟩
 · injection h with e1 e2 e3
   subst e1 e2 e3;refine⟨hfl,Or.inr ⟨g,cap,cur,rfl,(ho g rfl).1,hh,hc,hmx,hz,?_⟩⟩
   apply List.ext_getElem?
   intro j;rw[List.getElem?_take];by_cases hj:j<R.length*4
   · have hjl:j<R.flatten.length:=by rw[hfl];exact hj
     rw[if_pos hj,show R.flatten[j]?=some R.flatten[j]from List.getElem?_eq_getElem hjl]
     have hcell:=liesR_cells (n:=4) (by decide) (w:=w) (b:=g) (o:=0) (fun r hr=>(h4 r hr).1) (fun i hi=>by
      obtain⟨b',o',hb',_,he⟩:=h3 i hi
      injection hb' with hb'
      injection hb' with e1 e2
      subst e1;subst e2;exact he) j _ (List.getElem?_eq_getElem hjl)
     rw[Addr.add_lit,Nat.zero_add]at hcell;unfold World.cell? at hcell;simp only[hh]at hcell;simpa using hcell
   · rw[if_neg hj,List.getElem?_eq_none (by rw[hfl];omega)]
set_option maxHeartbeats 1000000 in
theorem cloneF (R:List (List Value)) (v:Value) (w:World) (hv:LiesR 4 w v R) (hn:R.length≤1000000000000):
    Calls Tryz.prog 83 #[v] w fun e w'=> ∃u,e= .returned u∧LiesR 4 w' u R∧Own w.heap.size w' u∧Rm w' u∧Below w.heap.size w w':=by
 obtain⟨i0,hi0,hz0,hz1,hz2⟩:=info_parts Tryz.infoRF
 obtain⟨a,cap,rfl,hcap,hcap2,hR,hLL⟩:=hv
 have HR:=hid hR;have q22: ∀(w:World) (a:Option Addr) (n c n' c':Nat),(binOp .eql 22 (.slice a n c) (.slice none n' c')).run Tryz.prog w= .ok (.bool a.isNone) w:=fun w a n c n' c'=>Lib.run_eql_slice_nil w _ _ a n c n' c' Tryz.underlying22
 cases a with
 |none=>
  have hL:R=[]:=by
   cases R with
   |nil=>rfl
   |cons s r=>obtain⟨b,o,hb,_⟩:=hLL 0 (by simp);cases hb
  subst hL;clear hR;go_enter Tryz.func83,Tryz.ntmps83
  go_wp2;go_ret;exact⟨_,rfl,⟨none,0,rfl,Nat.le_refl _,by simp,HR.out,fun i h=>absurd h (by simp)⟩,own_nil _ _,Or.inl rfl,Below.refl _ _⟩
 |some ad=>
  have hcells: ∀j u,R.flatten[j]?=some u→w.cell? (ad.add j)=some u:=by
   cases R with
   |nil=>intro j u hj;simp at hj
   |cons s r=>
    obtain⟨b,o,hb,_⟩:=hLL 0 (by simp)
    injection hb with hb
    subst hb
    exact liesR_cells (by decide) (fun r hr=>(hR r hr).1) fun i hi=>by
     obtain⟨b',o',hb',_,he⟩:=hLL i hi
     injection hb' with hb'
     injection hb' with h1 h2
     subst h1;subst h2;exact he
  have HC:=hid hcells;have HFL:=hid (flatten_len (fun r hr=>(hR r hr).1):R.flatten.length=R.length*4);clear hcells hLL hR;go_enter Tryz.func83,Tryz.ntmps83
  go_wp2_with (at_builtin;refine wpList_append_own _ rfl _ _ 22 rfl w.heap.size 90 i0 (.agg #[.string ⟨#[]⟩,.slice none 0 0,.int .i64 0,.slice none 0 0]) 4 72 Tryz.underlying22 hi0 hz0 hz1 hz2 rfl (by decide) _ _ _ rfl (World.ownsRow_made w #[] 0 (Nat.le_refl _) (Nat.zero_le _) (by simp)) ad R.length cap R.flatten rfl ?qc1 ?qc2 ?qc3 ?qc4 ?qc5 ?qc6 ?_)
  case qc1=>exact HFL.out
  case qc2=>intro j u hj;exact Lib.cell?_alloc_some _ (HC.out j u hj)
  case qc3=>exact flatten_one HR.out
  case qc4=>unfold maxLen;omega
  case qc5=>omega
  case qc6=>simp
  intro v2 w2 ho2 hgr2 hnn2;have hbel2:Below w.heap.size w w2:=((Below.refl _ _).alloc (Nat.le_refl _) _).grown hgr2 (by simp) (fun k hk=>by simp[Value.ownBlock]at hk;omega);have ho3:w2.ownsRow w.heap.size 90 4 v2 R.length R.flatten:=by simpa using ho2
  have HCL:=hid (liesR_own ho3 (by omega) HR.out);have HOW:=hid (own_row ho3);have HRM:=hid (rm_row ho3);obtain⟨a2,cap2,hv2,_,_,_⟩:=HCL.out
  clear ho2 ho3 hgr2 hnn2;go_wp2_with fail;go_ret;exact⟨_,rfl,HCL.out,HOW.out,HRM.out,hbel2⟩
theorem Tryz.infoRG:(Tryz.prog.info? 137).map (fun i=>(i.zero,i.size,i.bytes))=some (some (.agg #[.string ⟨#[]⟩,.string ⟨#[]⟩,.int .i64 0]),3,40):=by kernel_rfl
set_option maxHeartbeats 1000000 in
theorem cloneG (R:List (List Value)) (v:Value) (w:World) (hv:LiesR 3 w v R) (hn:R.length≤1000000000000):
    Calls Tryz.prog 85 #[v] w fun e w'=> ∃u,e= .returned u∧LiesR 3 w' u R∧Own w.heap.size w' u∧Below w.heap.size w w':=by
 obtain⟨i0,hi0,hz0,hz1,hz2⟩:=info_parts Tryz.infoRG
 obtain⟨a,cap,rfl,hcap,hcap2,hR,hLL⟩:=hv
 have HR:=hid hR;have q22: ∀(w:World) (a:Option Addr) (n c n' c':Nat),(binOp .eql 23 (.slice a n c) (.slice none n' c')).run Tryz.prog w= .ok (.bool a.isNone) w:=fun w a n c n' c'=>Lib.run_eql_slice_nil w _ _ a n c n' c' Tryz.underlying23
 cases a with
 |none=>
  have hL:R=[]:=by
   cases R with
   |nil=>rfl
   |cons s r=>obtain⟨b,o,hb,_⟩:=hLL 0 (by simp);cases hb
  subst hL;clear hR;go_enter Tryz.func85,Tryz.ntmps85
  go_wp2;go_ret;exact⟨_,rfl,⟨none,0,rfl,Nat.le_refl _,by simp,HR.out,fun i h=>absurd h (by simp)⟩,own_nil _ _,Below.refl _ _⟩
 |some ad=>
  have hcells: ∀j u,R.flatten[j]?=some u→w.cell? (ad.add j)=some u:=by
   cases R with
   |nil=>intro j u hj;simp at hj
   |cons s r=>
    obtain⟨b,o,hb,_⟩:=hLL 0 (by simp)
    injection hb with hb
    subst hb
    exact liesR_cells (by decide) (fun r hr=>(hR r hr).1) fun i hi=>by
     obtain⟨b',o',hb',_,he⟩:=hLL i hi
     injection hb' with hb'
     injection hb' with h1 h2
     subst h1;subst h2;exact he
  have HC:=hid hcells;have HFL:=hid (flatten_len (fun r hr=>(hR r hr).1):R.flatten.length=R.length*3);clear hcells hLL hR;go_enter Tryz.func85,Tryz.ntmps85
  go_wp2_with (at_builtin;refine wpList_append_own _ rfl _ _ 23 rfl w.heap.size 137 i0 (.agg #[.string ⟨#[]⟩,.string ⟨#[]⟩,.int .i64 0]) 3 40 Tryz.underlying23 hi0 hz0 hz1 hz2 rfl (by decide) _ _ _ rfl (World.ownsRow_made w #[] 0 (Nat.le_refl _) (Nat.zero_le _) (by simp)) ad R.length cap R.flatten rfl ?qc1 ?qc2 ?qc3 ?qc4 ?qc5 ?qc6 ?_)
  case qc1=>exact HFL.out
  case qc2=>intro j u hj;exact Lib.cell?_alloc_some _ (HC.out j u hj)
  case qc3=>exact flatten_one HR.out
  case qc4=>unfold maxLen;omega
  case qc5=>omega
  case qc6=>simp
  intro v2 w2 ho2 hgr2 hnn2;have hbel2:Below w.heap.size w w2:=((Below.refl _ _).alloc (Nat.le_refl _) _).grown hgr2 (by simp) (fun k hk=>by simp[Value.ownBlock]at hk;omega);have ho3:w2.ownsRow w.heap.size 137 3 v2 R.length R.flatten:=by simpa using ho2
  have HCL:=hid (liesR_own ho3 (by omega) HR.out);have HOW:=hid (own_row ho3);obtain⟨a2,cap2,hv2,_,_,_⟩:=HCL.out
  clear ho2 ho3 hgr2 hnn2;go_wp2_with fail;go_ret;exact⟨_,rfl,HCL.out,HOW.out,hbel2⟩
theorem Tryz.infoRS:(Tryz.prog.info? 139).map (fun i=>(i.zero,i.size,i.bytes))=some (some (.agg #[.int .i64 0,.string ⟨#[]⟩,.string ⟨#[]⟩,.int .i64 0,.int .i64 0]),5,56):=by kernel_rfl
set_option maxHeartbeats 1000000 in
theorem cloneS (R:List (List Value)) (v:Value) (w:World) (hv:LiesR 5 w v R) (hn:R.length≤1000000000000):
    Calls Tryz.prog 86 #[v] w fun e w'=> ∃u,e= .returned u∧LiesR 5 w' u R∧Own w.heap.size w' u∧Below w.heap.size w w':=by
 obtain⟨i0,hi0,hz0,hz1,hz2⟩:=info_parts Tryz.infoRS
 obtain⟨a,cap,rfl,hcap,hcap2,hR,hLL⟩:=hv
 have HR:=hid hR;have q22: ∀(w:World) (a:Option Addr) (n c n' c':Nat),(binOp .eql 24 (.slice a n c) (.slice none n' c')).run Tryz.prog w= .ok (.bool a.isNone) w:=fun w a n c n' c'=>Lib.run_eql_slice_nil w _ _ a n c n' c' Tryz.underlying24
 cases a with
 |none=>
  have hL:R=[]:=by
   cases R with
   |nil=>rfl
   |cons s r=>obtain⟨b,o,hb,_⟩:=hLL 0 (by simp);cases hb
  subst hL;clear hR;go_enter Tryz.func86,Tryz.ntmps86
  go_wp2;go_ret;exact⟨_,rfl,⟨none,0,rfl,Nat.le_refl _,by simp,HR.out,fun i h=>absurd h (by simp)⟩,own_nil _ _,Below.refl _ _⟩
 |some ad=>
  have hcells: ∀j u,R.flatten[j]?=some u→w.cell? (ad.add j)=some u:=by
   cases R with
   |nil=>intro j u hj;simp at hj
   |cons s r=>
    obtain⟨b,o,hb,_⟩:=hLL 0 (by simp)
    injection hb with hb
    subst hb
    exact liesR_cells (by decide) (fun r hr=>(hR r hr).1) fun i hi=>by
     obtain⟨b',o',hb',_,he⟩:=hLL i hi
     injection hb' with hb'
     injection hb' with h1 h2
     subst h1;subst h2;exact he
  have HC:=hid hcells;have HFL:=hid (flatten_len (fun r hr=>(hR r hr).1):R.flatten.length=R.length*5);clear hcells hLL hR;go_enter Tryz.func86,Tryz.ntmps86
  go_wp2_with (at_builtin;refine wpList_append_own _ rfl _ _ 24 rfl w.heap.size 139 i0 (.agg #[.int .i64 0,.string ⟨#[]⟩,.string ⟨#[]⟩,.int .i64 0,.int .i64 0]) 5 56 Tryz.underlying24 hi0 hz0 hz1 hz2 rfl (by decide) _ _ _ rfl (World.ownsRow_made w #[] 0 (Nat.le_refl _) (Nat.zero_le _) (by simp)) ad R.length cap R.flatten rfl ?qc1 ?qc2 ?qc3 ?qc4 ?qc5 ?qc6 ?_)
  case qc1=>exact HFL.out
  case qc2=>intro j u hj;exact Lib.cell?_alloc_some _ (HC.out j u hj)
  case qc3=>exact flatten_one HR.out
  case qc4=>unfold maxLen;omega
  case qc5=>omega
  case qc6=>simp
  intro v2 w2 ho2 hgr2 hnn2;have hbel2:Below w.heap.size w w2:=((Below.refl _ _).alloc (Nat.le_refl _) _).grown hgr2 (by simp) (fun k hk=>by simp[Value.ownBlock]at hk;omega);have ho3:w2.ownsRow w.heap.size 139 5 v2 R.length R.flatten:=by simpa using ho2
  have HCL:=hid (liesR_own ho3 (by omega) HR.out);have HOW:=hid (own_row ho3);obtain⟨a2,cap2,hv2,_,_,_⟩:=HCL.out
  clear ho2 ho3 hgr2 hnn2;go_wp2_with fail;go_ret;exact⟨_,rfl,HCL.out,HOW.out,hbel2⟩
end Go.Proofs.YtppdfeehhnofaaaGreatDoor
