/- What makeFolder does. -/
import Derived.Test.YtagibnejodgeeaaGreatDoorRUJ
import Derived.Test.YtagibnejodgeeaaGreatDoorShelfC
import Derived.Shelf.SlMaps.Clone
import Derived.Lib.SlMapMerge
import Derived.Maps.Ext
import Derived.Maps.RangeWalk
import Derived.Laws.IdiomRangeMap
set_option linter.unusedSimpArgs false
set_option linter.unusedVariables false
namespace Go.Proofs.YtagibnejodgeeaaGreatDoor
open Go.RowKit Go.Maps Go.WideMaps

namespace Mg
def fold (p:ByteArray):En:=⟨p,true,⟨#[]⟩,0⟩
/-- A folder is made at a path; a file that is there goes aside. -/
def mkf (M T N:List En) (C:List (ByteArray×ByteArray)) (p:ByteArray):Option (List En×List (ByteArray×ByteArray)):=
 if(st N p.data.toList).w=2 then match asd M T N p.data.toList with
  |none=>none
  |some q=>some (Sp.put1 (fold p) (Sp.put1 (file q (st N p.data.toList)) N),C++[(p,⟨q.toArray⟩)])
 else some (Sp.put1 (fold p) N,C)
theorem mkf_no {M T N:List En} {C:List (ByteArray×ByteArray)} {p:ByteArray} (h:(st N p.data.toList).w=2) (h1:asd M T N p.data.toList=none):mkf M T N C p=none:=by rw[mkf,if_pos h,h1]
theorem mkf_some {M T N:List En} {C:List (ByteArray×ByteArray)} {p:ByteArray} {q:List UInt8} (h:(st N p.data.toList).w=2) (h1:asd M T N p.data.toList=some q):mkf M T N C p=some (Sp.put1 (fold p) (Sp.put1 (file q (st N p.data.toList)) N),C++[(p,⟨q.toArray⟩)]):=by rw[mkf,if_pos h,h1]
theorem mkf_else {M T N:List En} {C:List (ByteArray×ByteArray)} {p:ByteArray} (h: ¬(st N p.data.toList).w=2):mkf M T N C p=some (Sp.put1 (fold p) N,C):=by rw[mkf,if_neg h]
end Mg

set_option maxRecDepth 100000 in
set_option maxHeartbeats 4000000 in
theorem makeFolder_any {B c:Nat} {w:World} {j bm bt bn:Nat} {vc:Value} {M T N:List En} {C:List (ByteArray×ByteArray)} (h:JoinM B c w j bm bt bn vc M T N C) (hM:Sp.Apart M) (hT:Sp.Apart T) (hN:Sp.Rise N) (hc:c≤90000) (hC:C.length≤90000) (p:ByteArray) (hp:p.size≤1000):
    Calls Tryz.prog 88 #[.pointer (some ⟨j,0,none⟩),.string p] w fun e w'=>
     (Mg.mkf M T N C p=none→e= .returned (.int .i64 2)∧Below B w w')∧
     (∀N' C',Mg.mkf M T N C p=some (N',C')→e= .returned (.int .i64 0)∧Below B w w'∧Fr bn w w'∧ ∃vc',JoinM B (c+2) w' j bm bt bn vc' M T N' C'):=by
 have HJ:=hid h;have HM:=hid hM;have HT:=hid hT;have HN:=hid hN;have hjl:=heap_lt h.box;have HJB:=hid (show B≤w.heap.size from by have:=h.lej;omega);have HP:=hid (show p.size≤maxLen from by unfold maxLen;omega);obtain⟨n3,l3,m3⟩:=h.now
 have k3:=spotSt m3 (Sp.apart_rise hN) p HP.out;have hbx:Cs w j [.map (some bm),.map (some bt),.map (some bn),vc]:=⟨_,h.box⟩
 have c2:=hbx.cell 2 rfl;have HK1:Hid ((Mg.st N p.data.toList).w=2→Mg.asd M T N p.data.toList=none→Mg.mkf M T N C p=none):=Mg.mkf_no;have HK2:=hid (show∀q,(Mg.st N p.data.toList).w=2→Mg.asd M T N p.data.toList=some q→Mg.mkf M T N C p=some (Sp.put1 (Mg.fold p) (Sp.put1 (Mg.file q (Mg.st N p.data.toList)) N),C++[(p,⟨q.toArray⟩)])from fun q h1 h2=>Mg.mkf_some h1 h2);have HK3:Hid (¬(Mg.st N p.data.toList).w=2→Mg.mkf M T N C p=some (Sp.put1 (Mg.fold p) N,C)):=Mg.mkf_else;generalize Mg.st N p.data.toList=x at*;obtain⟨xw,xt,xv⟩:=x
 simp only at k3 HK1 HK2 HK3;clear h hM hT hN hbx m3;obtain⟨wz,hwz⟩: ∃wz,wz=w.alloc (.cells #[.int .i64 xw,.string xt,.int .i64 xv] 89):=⟨_,rfl⟩
 have hbz:Below w.heap.size w wz:=by rw[hwz];exact(Below.refl _ _).alloc (Nat.le_refl _) _
 have HJZ:=hid (HJ.out.below hbz);by_cases h2:xw=2
 · subst h2
   go_enter Tryz.func88,Tryz.ntmps88
   go_wp2_with fail;rw[←hwz];clear hwz k3 c2;refine(goAside_any HJZ.out HM.out HT.out HN.out (by omega) (by omega) p hp ⟨2,xt,xv⟩ rfl).mono ?_
   intro e w1 he;cases ha:Mg.asd M T N p.data.toList with
   |none=>
    obtain⟨rfl,hb1⟩:=he.1 ha
    have HR:=hid (HK1.out trivial ha);have hb01:Below B w w1:=(below_tr hbz hb1).mono HJB.out;clear he ha;go_wp2_with fail;go_ret;refine⟨fun _=>⟨rfl,hb01⟩,?_⟩
    intro N' C' hh;rw[HR.out]at hh;cases hh
   |some q=>
    obtain⟨rfl,hb1,hf1,vc',hJ1⟩:=he.2 q ha
    have HR:=hid (HK2.out q trivial ha);have hb01:Below B w w1:=(hbz.mono HJB.out).trans hb1;have HJ1:=hid hJ1;have HN1:=hid (Sp.put1_rise (e:=Mg.file q ⟨2,xt,xv⟩) HN.out);clear he ha;have hbx:Cs w1 j [.map (some bm),.map (some bt),.map (some bn),vc']:=⟨_,hJ1.box⟩
    have c2:=hbx.cell 2 rfl;obtain⟨n4,l4,m4⟩:=hJ1.now
    obtain⟨w3,hrun3,hown3,hgr3⟩:=m4.update (string_keyed Tryz.underlying9) Tryz.underlying52 (by unfold maxLen;omega) (keyOf_string_mk Tryz.underlying9 HP.out) (Sp.rd_mk 1 ⟨#[]⟩ 0)
    have HO3:=hid hown3
    have HJ3:=hid (show JoinM B (c+2) w3 j bm bt bn vc' M T (Sp.put1 (Mg.fold p) (Sp.put1 (Mg.file q ⟨2,xt,xv⟩) N)) (C++[(p,⟨q.toArray⟩)])from HJ1.out.upd hgr3 ⟨n4+1,by omega,by
     rw[←Sp.D_put HN1.out];exact HO3.out⟩)
    have hlen:=HJ1.out.len;have HFR:=hid (show Fr bn w w3 from((Fr.of_below hbz).trans hf1).trans (Fr.upd hgr3));have hszB:B≤w1.heap.size:=Nat.le_trans HJB.out hb01.size;have hb03:Below B w w3:=hb01.grown hgr3 hszB (fun k hk=>by injection hk with hk;omega);clear hown3 hJ1 hbx m4;go_wp2_with fail;go_ret;refine⟨?_,?_⟩
    · intro hh
      rw[HR.out]at hh;cases hh
    · intro N' C' hh
      rw[HR.out]at hh;injection hh with hh
      injection hh with e1 e2
      rw[←e1,←e2];exact⟨rfl,hb03,HFR.out,_,HJ3.out⟩
 · have HR:=hid (HK3.out h2)
   have h2':(xw==2)=false:=by simpa using h2
   have HJZ2:=HJZ.out;have hbx:Cs wz j [.map (some bm),.map (some bt),.map (some bn),vc]:=⟨_,HJZ2.box⟩
   have d2:=hbx.cell 2 rfl;obtain⟨n4,l4,m4⟩:=HJZ2.now
   obtain⟨w3,hrun3,hown3,hgr3⟩:=m4.update (string_keyed Tryz.underlying9) Tryz.underlying52 (by unfold maxLen;omega) (keyOf_string_mk Tryz.underlying9 HP.out) (Sp.rd_mk 1 ⟨#[]⟩ 0)
   have HO3:=hid hown3
   have HJ3:=hid (show JoinM B (c+1) w3 j bm bt bn vc M T (Sp.put1 (Mg.fold p) N) C from HJZ.out.upd hgr3 ⟨n4+1,by omega,by
    rw[←Sp.D_put HN.out];exact HO3.out⟩)
   have hlen:=HJZ.out.len;have HFR:=hid (show Fr bn w w3 from(Fr.of_below hbz).trans (Fr.upd hgr3));have hb03:Below B w w3:=(hbz.mono HJB.out).grown hgr3 (Nat.le_trans HJB.out hbz.size) (fun k hk=>by injection hk with hk;omega);clear hown3 hbx m4 HJZ2 HK1 HK2 HK3;rw[hwz]at hrun3 d2;go_enter Tryz.func88,Tryz.ntmps88
   go_wp2_with fail;go_ret;refine⟨?_,?_⟩
   · intro hh
     rw[HR.out]at hh;cases hh
   · intro N' C' hh
     rw[HR.out]at hh;injection hh with hh
     injection hh with e1 e2
     rw[←e1,←e2];obtain⟨nx,lx,mx⟩:=HJ3.out.now
     exact⟨rfl,hb03,HFR.out,_,⟨HJ3.out.box,HJ3.out.mine,HJ3.out.theirs,⟨nx,by omega,mx⟩,HJ3.out.row,HJ3.out.ne1,HJ3.out.ne2,HJ3.out.lej,HJ3.out.len⟩⟩
end Go.Proofs.YtagibnejodgeeaaGreatDoor
namespace Go.Proofs.YtagibnejodgeeaaGreatDoor
open Go.RowKit Go.Maps Go.WideMaps

namespace Mg
abbrev CC:=List (ByteArray×ByteArray)
/-- The folders of a path, up to one of its bytes. -/
def pres (p:ByteArray) (k:Nat):List ByteArray:=(List.range k).filterMap (fun i=>if p.data.toList[i]?=some 47 then some (p.extract 0 i)else none)
theorem pres_hit {p:ByteArray} {k:Nat} (h:p.data.toList[k]?=some 47):pres p (k+1)=pres p k++[p.extract 0 k]:=by
 have h':p.data[k]?=some 47:=by simpa using h
 rw[pres,pres,List.range_succ,List.filterMap_append];simp[List.filterMap_cons,h']
theorem pres_miss {p:ByteArray} {k:Nat} (h: ¬p.data.toList[k]?=some 47):pres p (k+1)=pres p k:=by
 have h': ¬p.data[k]?=some 47:=by simpa using h
 rw[pres,pres,List.range_succ,List.filterMap_append];simp[List.filterMap_cons,h']
theorem pres_len (p:ByteArray): ∀k,(pres p k).length≤k:=fun k=>by
 have:=List.length_filterMap_le (fun i=>if p.data.toList[i]?=some 47 then some (p.extract 0 i)else none) (List.range k)
 rw[List.length_range]at this;exact this
/-- Folders that are made, one after the other. -/
def mks (M T:List En):List ByteArray→List En×CC→Option (List En×CC)
 |[],s=>some s
 |q::r,s=>(mkf M T s.1 s.2 q).bind (mks M T r)
theorem mks_app (M T:List En): ∀(a b:List ByteArray) (s:List En×CC),mks M T (a++b) s=(mks M T a s).bind (mks M T b)
 |[],b,s=>rfl
 |q::r,b,s=>by
  rw[List.cons_append,mks,mks,Option.bind_assoc];congr 1
  funext t
  exact mks_app M T r b t
theorem mks_none {M T:List En} {a b:List ByteArray} {q:ByteArray} {s:List En×CC} {N:List En} {C:CC} (h:mks M T a s=some (N,C)) (h1:mkf M T N C q=none):mks M T (a++[q]++b) s=none:=by
 rw[mks_app,mks_app,h];simp[mks,h1]
theorem mks_some {M T:List En} {a:List ByteArray} {q:ByteArray} {s t:List En×CC} {N:List En} {C:CC} (h:mks M T a s=some (N,C)) (h1:mkf M T N C q=some t):mks M T (a++[q]) s=some t:=by
 rw[mks_app,h];simp[mks,h1]
theorem mkf_rise {M T N:List En} {C:CC} {p:ByteArray} {N':List En} {C':CC} (h:mkf M T N C p=some (N',C')) (hN:Sp.Rise N):Sp.Rise N'∧C'.length≤C.length+1:=by
 by_cases h2:(st N p.data.toList).w=2
 · cases ha:asd M T N p.data.toList with
   |none=>rw[mkf_no h2 ha]at h;cases h
   |some q=>
    rw[mkf_some h2 ha]at h;injection h with h
    injection h with e1 e2
    rw[←e1,←e2];exact⟨Sp.put1_rise (Sp.put1_rise hN),by simp⟩
 · rw[mkf_else h2]at h
   injection h with h
   injection h with e1 e2
   rw[←e1,←e2];exact⟨Sp.put1_rise hN,by simp⟩
/-- All folders of all paths. -/
def allP (N:List En) (k:Nat):List ByteArray:=(N.take k).flatMap (fun e=>pres e.path e.path.size)
theorem allP_succ {N:List En} {k:Nat} (hk:k<N.length):allP N (k+1)=allP N k++pres N[k].path N[k].path.size:=by
 rw[allP,allP,List.take_succ_eq_append_getElem hk,List.flatMap_append];simp
theorem allP_len {N:List En} (h: ∀e∈N,e.path.size≤80): ∀k,(allP N k).length≤80*k
 |0=>by simp[allP]
 |k+1=>by
  by_cases hk:k<N.length
  · rw[allP_succ hk,List.length_append]
    have:=allP_len h k
    have h1:=pres_len N[k].path N[k].path.size;have h2:=h _ (List.getElem_mem hk);omega
  · have:allP N (k+1)=allP N k:=by rw[allP,allP,List.take_of_length_le (by omega),List.take_of_length_le (by omega)]
    rw[this];have:=allP_len h k
    omega
theorem pres_more (p:ByteArray) {k:Nat} (h:k<p.size): ∃r,pres p p.size=pres p (k+1)++r:=by
 have: ∀d k,∃r,pres p (k+d)=pres p k++r:=by
  intro d;induction d with
  |zero=>intro k;exact⟨[],by simp⟩
  |succ d ih=>
   intro k;obtain⟨r,hr⟩:=ih k
   by_cases h:p.data.toList[k+d]?=some 47
   · exact⟨r++[p.extract 0 (k+d)],by rw[←Nat.add_assoc,pres_hit h,hr,List.append_assoc]⟩
   · exact⟨r,by rw[←Nat.add_assoc,pres_miss h,hr]⟩
 obtain⟨r,hr⟩:=this (p.size-(k+1)) (k+1)
 rw[show k+1+(p.size-(k+1))=p.size by omega]at hr;exact⟨r,hr⟩
theorem allP_more (N:List En) {k:Nat} (h:k≤N.length): ∃r,allP N N.length=allP N k++r:=by
 refine⟨(N.drop k).flatMap (fun e=>pres e.path e.path.size),?_⟩
 rw[allP,allP,←List.flatMap_append,List.take_length,List.take_append_drop]
end Mg
end Go.Proofs.YtagibnejodgeeaaGreatDoor
namespace Go.Proofs.YtagibnejodgeeaaGreatDoor
open Go.RowKit Go.Maps Go.WideMaps


theorem row_some {w:World} {B n k:Nat} {e:TypeId} {size:Nat} {a:Option Addr} {cap:Nat} {xs:List Value} (h:w.ownsRow B e size (.slice a n cap) k xs) (hn:0<n): ∃g,a=some ⟨g,0,none⟩:=by
 obtain⟨_,h2⟩:=h
 rcases h2 with⟨h2,_⟩|⟨g,cap',cur,h2,_⟩
 · injection h2 with _ h3 _
   omega
 · injection h2 with h3 _ _
   exact⟨g,h3⟩
theorem text_types:(9:TypeId)≠55∧(9:TypeId)≠46:=by decide
theorem Fr.row {bn B n k:Nat} {w w':World} {v:Value} {xs:List Value} {D:DataW Unit} (hf:Fr bn w w') (hm:w.ownsMap Tryz.prog 9 Sp.rd bn k D) (h:w.ownsRow B 9 1 v n xs):w'.ownsRow B 9 1 v n xs:=by
 have hne:=own_ne_map h hm;obtain⟨h1,h2⟩:=h
 refine⟨h1,?_⟩
 rcases h2 with h2|⟨g,cap,cur,rfl,hg,hh,r⟩
 · exact .inl h2
 · refine .inr ⟨g,cap,cur,rfl,hg,hf g _ hh (fun e=>hne (by rw[e];rfl)) ?_ ?_,r⟩
   · intro cs fz e
     injection e with _ e
     exact text_types.1 e
   · intro cs fz e
     injection e with _ e
     exact text_types.2 e
/-- The paths of a map, in a row of one's own. -/
theorem paths_own {b n:Nat} {w:World} {L:List En} (h:w.ownsMap Tryz.prog 9 Sp.rd b n (Sp.D L)) (hr:Sp.Rise L) (hn:L.length≤1000):
    Calls Tryz.prog 59 #[.map (some b)] w fun e w'=> ∃v,e= .returned v∧w'.ownsRow w.heap.size 9 1 v L.length (L.map (fun e=>Value.string e.path))∧Below w.heap.size w w':=by
 have hsz:=Sp.D_size (Sp.apart_rise hr);refine(Tryz.paths_any b n _ Sp.rd w h (by rw[hsz];unfold maxLen;omega) (by rw[hsz];omega)).mono fun e w' ⟨v,ss,he,hp,hrow,hnil,hb⟩=>?_
 have hl:ss.length=L.length:=by
  have h1:=hp.length_eq;have h2:=(Sp.D_keys (Sp.apart_rise hr)).length_eq;rw[List.length_map]at h2;omega
 rw[Sp.D_sorted hr hp,hl]at hrow;refine⟨v,he,?_,hb⟩
 rw[List.map_map]at hrow;exact hrow
set_option maxRecDepth 100000 in
set_option maxHeartbeats 4000000 in
theorem makeParents_any {B c:Nat} {w:World} {j bm bt bn:Nat} {vc:Value} {M T N:List En} {C:Mg.CC} (h:JoinM B c w j bm bt bn vc M T N C) (hM:Sp.Apart M) (hT:Sp.Apart T) (hN:Sp.Rise N) (hc:c≤1000) (hC:C.length≤1000) (hn:N.length≤400) (hp: ∀e∈N,e.path.size≤80):
    Calls Tryz.prog 61 #[.pointer (some ⟨j,0,none⟩)] w fun e w'=>
     (Mg.mks M T (Mg.allP N N.length) (N,C)=none→e= .returned (.int .i64 2)∧Below B w w')∧
     (∀N' C',Mg.mks M T (Mg.allP N N.length) (N,C)=some (N',C')→e= .returned (.int .i64 0)∧Below B w w'∧Fr bn w w'∧ ∃vc' c',c'≤100000∧JoinM B c' w' j bm bt bn vc' M T N' C'):=by
 have HJ:=hid h;have HM:=hid hM;have HT:=hid hT;have HN:=hid hN;have HPS:=hid hp;have HJB:=hid (show B≤w.heap.size from by have:=h.lej;have:=heap_lt h.box;omega);obtain⟨n3,l3,m3⟩:=h.now
 have hbx:Cs w j [.map (some bm),.map (some bt),.map (some bn),vc]:=⟨_,h.box⟩
 have c2:=hbx.cell 2 rfl;clear h hM hT hp hbx;go_enter Tryz.func61,Tryz.ntmps61
 go_wp2_with fail;refine(paths_own m3 hN (by omega)).mono ?_
 rintro e w1 ⟨v,rfl,hl,hb1⟩;have HL:=hid hl;have HJ1:=hid (HJ.out.below hb1);have hb01:Below B w w1:=hb1.mono HJB.out;have HF1:=hid (show Fr bn w w1 from Fr.of_below hb1);obtain⟨a,cap,rfl⟩:=ownsRow_shape hl
 clear m3 hl c2;go_wp2_with fail;go_loopw [13] (fun x wr=> ∃(k:Nat) (N':List En) (C':Mg.CC) (vc':Value) (c':Nat),k≤N.length∧x= .int .i64 k∧c'≤c+160*k∧C'.length≤C.length+80*k∧Hid (Mg.mks M T (Mg.allP N k) (N,C)=some (N',C'))∧Hid (JoinM B c' wr j bm bt bn vc' M T N' C')∧Hid (Sp.Rise N')∧Hid (wr.ownsRow w.heap.size 9 1 (.slice a N.length cap) N.length (N.map (fun e=>Value.string e.path)))∧Hid (Fr bn w wr)∧Below B w wr) (fun x _=>N.length-(intOf x).toNat)
 case atStart=>exact⟨0,N,C,vc,c,Nat.zero_le _,rfl,by omega,by omega,(rfl:Mg.mks M T (Mg.allP N 0) (N,C)=some (N,C)),HJ1,HN,HL,HF1,hb01⟩
 case round=>
  obtain⟨k,N',C',vc',c',hk,rfl,hcc,hCC,HK,HJK,HNK,HLK,HFK,hbel⟩:=hrel
  by_cases hlt:k<N.length
  · obtain⟨g,rfl⟩:=row_some HLK.out (by omega)
    have hcell:=HLK.out.cellAt k (by rw[Nat.mul_one];omega);rw[List.getElem?_map,List.getElem?_eq_getElem hlt,Option.map_some]at hcell;have hlt':(k:Int)<N.length:=by omega
    have hps:N[k].path.size≤80:=HPS.out _ (List.getElem_mem hlt);have HAS:Hid (Mg.allP N (k+1)=Mg.allP N k++Mg.pres N[k].path N[k].path.size):=Mg.allP_succ hlt;generalize N[k].path=p at*;go_wp2_with fail;go_loopw [19] (fun x wi=> ∃(i:Nat) (N2:List En) (C2:Mg.CC) (vc2:Value) (c2:Nat),i≤p.size∧x= .int .i64 i∧c2≤c'+2*i∧C2.length≤C'.length+i∧Hid (Mg.mks M T (Mg.allP N k++Mg.pres p i) (N,C)=some (N2,C2))∧Hid (JoinM B c2 wi j bm bt bn vc2 M T N2 C2)∧Hid (Sp.Rise N2)∧Hid (wi.ownsRow w.heap.size 9 1 (.slice (some ⟨g,0,none⟩) N.length cap) N.length (N.map (fun e=>Value.string e.path)))∧Hid (Fr bn w wi)∧Below B w wi) (fun x _=>p.size-(intOf x).toNat)
    case atStart=>exact⟨0,N',C',vc',c',Nat.zero_le _,rfl,by omega,by omega,(by rw[show Mg.pres p 0=[]from rfl,List.append_nil];exact HK.out:Mg.mks M T (Mg.allP N k++Mg.pres p 0) (N,C)=some (N',C')),HJK,HNK,HLK,HFK,hbel⟩
    case round=>
     obtain⟨i,N2,C2,vc2,c2,hi,rfl,hc2,hC2,HK2,HJ2,HN2,HL2,HF2,hbi⟩:=hrel
     by_cases hil:i<p.size
     · have hil':(i:Int)<p.size:=by omega
       have hget:p.data.toList[i]?=some p[i]:=by
        rw[Array.getElem?_toList];exact Array.getElem?_eq_getElem hil
       by_cases h47:p[i]=47
       · have HPH:Hid (Mg.pres p (i+1)=Mg.pres p i++[p.extract 0 i]):=Mg.pres_hit (by rw[hget,h47])
         have HPT:Hid (∃r,Mg.pres p p.size=Mg.pres p (i+1)++r):=Mg.pres_more p hil;have hbv:((p[i].toNat:Int) !=47)=false:=by rw[h47];rfl
         have hex:(p.extract 0 i).size≤1000:=by rw[ByteArray.size_extract];omega
         clear hget h47;go_wp2_with fail;refine(makeFolder_any HJ2.out HM.out HT.out HN2.out (by omega) (by omega) (p.extract 0 i) hex).mono ?_
         intro e w2 he;cases hm:Mg.mkf M T N2 C2 (p.extract 0 i)with
         |none=>
          obtain⟨rfl,hb2⟩:=he.1 hm
          have HR:=hid (show Mg.mks M T (Mg.allP N N.length) (N,C)=none from by
           obtain⟨r,hr⟩:=HPT.out
           obtain⟨r2,hr2⟩:=Mg.allP_more N (Nat.succ_le_of_lt hlt)
           rw[hr2,HAS.out,hr,HPH.out];have:=Mg.mks_none (b:=r++r2) HK2.out hm
           simpa[List.append_assoc]using this)
          have hbw:=hbi.trans hb2;clear he hm;go_wp2_with fail;go_ret;refine⟨fun _=>⟨rfl,hbw⟩,?_⟩
          intro N9 C9 hh;rw[HR.out]at hh;cases hh
         |some x=>
          obtain⟨N3,C3⟩:=x
          obtain⟨rfl,hb2,hf2,vc3,hJ3⟩:=he.2 N3 C3 hm
          obtain⟨hr3,hl3⟩:=Mg.mkf_rise hm HN2.out
          have HK3:=hid (show Mg.mks M T (Mg.allP N k++Mg.pres p (i+1)) (N,C)=some (N3,C3)from by
           rw[HPH.out,←List.append_assoc];exact Mg.mks_some HK2.out hm)
          obtain⟨n9,_,m9⟩:=HJ2.out.now
          have HL3:=hid (hf2.row m9 HL2.out);have HF3:=hid (show Fr bn w w2 from HF2.out.trans hf2);have HN3:=hid hr3;have HJ3:=hid hJ3;have hbw:=hbi.trans hb2;clear he hm hf2 hJ3 hr3 m9;go_wp2_with fail;go_roundw
          case rel=>exact⟨i+1,N3,C3,vc3,_,by omega,rfl,by omega,by omega,HK3,HJ3,HN3,HL3,HF3,hbw⟩
          case measure=>
           simp[intOf]
           omega
       · have HPM:=hid (show Mg.mks M T (Mg.allP N k++Mg.pres p (i+1)) (N,C)=some (N2,C2)from by
          rw[Mg.pres_miss (by rw[hget];exact fun e=>h47 (by injection e))];exact HK2.out)
         have hbv:((p[i].toNat:Int) !=47)=true:=by
          rw[bne_iff_ne];intro e;exact h47 (UInt8.toNat_inj.1 (by show p[i].toNat=47;omega))
         clear hget h47;go_wp2_with fail;go_roundw
         case rel=>exact⟨i+1,N2,C2,vc2,c2,by omega,rfl,by omega,by omega,HPM,HJ2,HN2,HL2,HF2,hbi⟩
         case measure=>
          simp[intOf]
          omega
     · have hie:i=p.size:=by omega
       subst hie;have HK3:=hid (show Mg.mks M T (Mg.allP N (k+1)) (N,C)=some (N2,C2)from by rw[HAS.out];exact HK2.out);go_wp2_with fail;go_roundw
       case rel=>exact⟨k+1,N2,C2,vc2,c2,by omega,rfl,by omega,by omega,HK3,HJ2,HN2,HL2,HF2,hbi⟩
       case measure=>
        simp[intOf]
        omega
  · have hke:k=N.length:=by omega
    subst hke;go_wp2_with fail;go_ret;refine⟨?_,?_⟩
    · intro hh
      rw[HK.out]at hh;cases hh
    · intro N9 C9 hh
      rw[HK.out]at hh;injection hh with hh
      injection hh with e1 e2
      rw[←e1,←e2];exact⟨rfl,hbel,HFK.out,vc',c',by omega,HJK.out⟩
end Go.Proofs.YtagibnejodgeeaaGreatDoor
namespace Go.Proofs.YtagibnejodgeeaaGreatDoor
open Go.RowKit Go.Maps

namespace Mg
theorem ba_ext {a b:ByteArray} (h:a.data.toList=b.data.toList):a=b:=by
 cases a;cases b
 simp only at h;congr 1
 exact Array.toList_inj.1 h
def spo (e:En):Spo:=⟨Sp.wh e,Sp.tx e,e.ver⟩
theorem st_some {L:List En} {p:List UInt8} {e:En} (h:Sp.at_ L p=some e):st L p=spo e:=by rw[st,Sp.wAt,Sp.tAt,Sp.vAt,h];rfl
theorem st_none {L:List En} {p:List UInt8} (h:Sp.at_ L p=none):st L p=zero:=by rw[st,Sp.wAt,Sp.tAt,Sp.vAt,h];rfl
theorem wh_12 (e:En):Sp.wh e=1∨Sp.wh e=2:=by
 rw[Sp.wh];split
 · exact Or.inl rfl
 · exact Or.inr rfl
theorem st_w0 {L:List En} {p:List UInt8}:(st L p).w=0↔Sp.at_ L p=none:=by
 cases h:Sp.at_ L p with
 |none=>rw[st_none h];exact⟨fun _=>rfl,fun _=>rfl⟩
 |some e=>
  rw[st_some h];constructor
  · intro h0
    have:=wh_12 e
    have h0:Sp.wh e=0:=h0;omega
  · intro h0;cases h0
/-- What may be at a path. -/
def Ok (s:Spo):Prop:=s=zero∨(s.w=1∧s.t=⟨#[]⟩)∨s.w=2
theorem ok_spo (e:En):Ok (spo e):=by
 rcases wh_12 e with h|h
 · refine Or.inr (Or.inl ⟨h,?_⟩)
   show Sp.tx e=_
   rw[Sp.tx];rw[Sp.wh]at h;split at h
   · rename_i hf;rw[if_pos hf]
   · simp at h
 · exact Or.inr (Or.inr h)
theorem ok_st (L:List En) (p:List UInt8):Ok (st L p):=by
 cases h:Sp.at_ L p with
 |none=>rw[st_none h];exact Or.inl rfl
 |some e=>rw[st_some h];exact ok_spo e
theorem Ok.w {s:Spo} (h:Ok s):s.w=0∨s.w=1∨s.w=2:=by
 rcases h with h|h|h
 · rw[h];exact Or.inl rfl
 · exact Or.inr (Or.inl h.1)
 · exact Or.inr (Or.inr h)
theorem Ok.zero {s:Spo} (h:Ok s) (h0:s.w=0):s=Mg.zero:=by
 rcases h with h|h|h
 · exact h
 · omega
 · omega
theorem Ok.fold {s:Spo} (h:Ok s) (h0:s.w=1):s.t=⟨#[]⟩:=by
 rcases h with h|h|h
 · rw[h]at h0;cases h0
 · exact h.2
 · omega
theorem st_put1 {e:En} {L:List En} (h:Sp.Rise L) (p:List UInt8):st (Sp.put1 e L) p=if e.path.data.toList=p then spo e else st L p:=by
 have ha:=Sp.at_put1 (e:=e) h p;by_cases hp:e.path.data.toList=p
 · rw[if_pos hp]at ha⊢
   exact st_some ha
 · rw[if_neg hp]at ha⊢
   rw[st,st,Sp.wAt,Sp.tAt,Sp.vAt,Sp.wAt,Sp.tAt,Sp.vAt,ha]
theorem spo_fold (p:ByteArray):spo (fold p)=⟨1,⟨#[]⟩,0⟩:=rfl
theorem lk_iff {a b:Spo}:lk a b=true↔a.w=b.w∧a.t=b.t:=by
 rw[lk,Bool.and_eq_true,beq_iff_eq,beq_iff_eq,Lib.toList_data,Lib.toList_data];exact⟨fun⟨h1,h2⟩=>⟨h1,ba_ext h2⟩,fun⟨h1,h2⟩=>⟨h1,by rw[h2]⟩⟩
theorem lk_refl (a:Spo):lk a a=true:=lk_iff.2 ⟨rfl,rfl⟩
theorem lk_symm {a b:Spo} (h:lk a b=true):lk b a=true:=lk_iff.2 ⟨(lk_iff.1 h).1.symm,(lk_iff.1 h).2.symm⟩
theorem lk_trans {a b c:Spo} (h:lk a b=true) (h1:lk b c=true):lk a c=true:=lk_iff.2 ⟨(lk_iff.1 h).1.trans (lk_iff.1 h1).1,(lk_iff.1 h).2.trans (lk_iff.1 h1).2⟩
theorem lk_fold {a b:Spo} (ha:Ok a) (hb:Ok b) (h:a.w=b.w) (h2:a.w≠2):lk a b=true:=by
 refine lk_iff.2 ⟨h,?_⟩
 rcases ha.w with h0|h0|h0
 · rw[ha.zero h0,hb.zero (by omega)]
 · rw[ha.fold h0,hb.fold (by omega)]
 · omega
theorem stays_mem (b m t:Spo):stays b m t=m∨stays b m t=t:=by
 rw[stays];split
 · exact Or.inr rfl
 · split
   · exact Or.inl rfl
   · split
     · exact Or.inl rfl
     · exact Or.inr rfl
theorem goes_mem (b m t:Spo):goes b m t=zero∨goes b m t=m∨goes b m t=t:=by
 rw[goes];split
 · exact Or.inl rfl
 · split
   · exact Or.inl rfl
   · split
     · exact Or.inr (Or.inr rfl)
     · exact Or.inr (Or.inl rfl)
theorem goes_ok {b m t:Spo} (hm:Ok m) (ht:Ok t):Ok (goes b m t):=by
 rcases goes_mem b m t with h|h|h
 · rw[h];exact Or.inl rfl
 · rw[h];exact hm
 · rw[h];exact ht
theorem stays_ok {b m t:Spo} (hm:Ok m) (ht:Ok t):Ok (stays b m t):=by
 rcases stays_mem b m t with h|h
 · rw[h];exact hm
 · rw[h];exact ht
theorem goes_file {b m t:Spo} (hm:Ok m) (ht:Ok t) (h:(goes b m t).w≠0):(goes b m t).w=2:=by
 have hz:zero.w=0:=rfl;rw[goes]at h⊢;split at h
 · exact absurd hz h
 · rename_i h1
   rw[if_neg h1];split at h
   · exact absurd hz h
   · rename_i h2
     rw[if_neg h2];split at h
     · rename_i h3
       rw[if_pos h3];rcases ht.w with h0|h0|h0
       · exact absurd h0 h
       · rcases h3 with h3|h3
         · exact absurd (Or.inl (lk_fold hm ht (by omega) (by omega))) h1
         · omega
       · exact h0
     · rename_i h3
       rw[if_neg h3];rcases hm.w with h0|h0|h0
       · exact absurd h0 h
       · exact absurd (Or.inl h0) h3
       · exact h0
/-- A list with all spots of another one laid into it. -/
def over (L M:List En):List En:=M.foldl (fun X e=>Sp.put1 e X) L
theorem over_snoc (L M:List En) (e:En):over L (M++[e])=Sp.put1 e (over L M):=by simp[over]
theorem over_rise {L:List En} (h:Sp.Rise L) (M:List En):Sp.Rise (over L M):=by
 refine snoc_ind (P:=fun M=>Sp.Rise (over L M)) h ?_ M
 intro M e ih;rw[over_snoc];exact Sp.put1_rise ih
theorem at_over {L:List En} (h:Sp.Rise L) (M:List En) (hM:Sp.Apart M) (p:List UInt8):Sp.at_ (over L M) p=match Sp.at_ M p with|some e=>some e|none=>Sp.at_ L p:=by
 revert hM
 refine snoc_ind (P:=fun M=>Sp.Apart M→Sp.at_ (over L M) p=match Sp.at_ M p with|some e=>some e|none=>Sp.at_ L p) (fun _=>rfl) ?_ M
 intro M e ih hM;obtain⟨h1,h2⟩:=hM.snoc
 rw[over_snoc,Sp.at_put1 (over_rise h M),ih h1];by_cases hp:e.path.data.toList=p
 · rw[if_pos hp]
   have:Sp.at_ (M++[e]) p=some e:=(Sp.at_iff hM).2 ⟨by simp,hp⟩
   rw[this]
 · rw[if_neg hp]
   have:Sp.at_ (M++[e]) p=Sp.at_ M p:=by
    rw[Sp.at_,Sp.at_,List.find?_append]
    have:[e].find? (Pp.atB p)=none:=by
     rw[List.find?_eq_none];intro x hx hb;rw[List.mem_singleton]at hx;exact hp (hx▸Sp.atB_iff.1 hb)
    rw[this,Option.or_none]
   rw[this]
def uni (B M T:List En):List En:=over (over B M) T
theorem uni_rise {B:List En} (h:Sp.Rise B) (M T:List En):Sp.Rise (uni B M T):=over_rise (over_rise h M) T
theorem uni_none {B M T:List En} (h:Sp.Rise B) (hM:Sp.Apart M) (hT:Sp.Apart T) {p:List UInt8} (hp:Sp.at_ (uni B M T) p=none):Sp.at_ B p=none∧Sp.at_ M p=none∧Sp.at_ T p=none:=by
 rw[uni,at_over (over_rise h M) T hT,at_over h M hM]at hp;cases h1:Sp.at_ T p with
 |some e=>rw[h1]at hp;cases hp
 |none=>
  rw[h1]at hp;cases h2:Sp.at_ M p with
  |some e=>rw[h2]at hp;cases hp
  |none=>rw[h2]at hp;exact⟨hp,rfl,rfl⟩
theorem put1_len (e:En) (L:List En):(Sp.put1 e L).length≤L.length+1:=by
 rw[Sp.put1,(Pp.ins_perm e _).length_eq,List.length_cons];have:=List.length_filter_le (fun x=> !Pp.atB e.path.data.toList x) L
 omega
theorem over_len (L M:List En):(over L M).length≤L.length+M.length:=by
 refine snoc_ind (P:=fun M=>(over L M).length≤L.length+M.length) (by simp[over]) ?_ M
 intro M e ih;rw[over_snoc];have:=put1_len e (over L M)
 simp only[List.length_append,List.length_singleton];omega
theorem over_mem {L M:List En} {x:En} (h:x∈over L M):x∈L∨x∈M:=by
 revert h
 refine snoc_ind (P:=fun M=>x∈over L M→x∈L∨x∈M) (fun h=>Or.inl h) ?_ M
 intro M e ih h;rw[over_snoc]at h;rcases Sp.mem_put1.1 h with rfl|⟨h,_⟩
 · exact Or.inr (by simp)
 · rcases ih h with h|h
   · exact Or.inl h
   · exact Or.inr (by simp[h])
theorem uni_mem {B M T:List En} {x:En} (h:x∈uni B M T):x∈B∨x∈M∨x∈T:=by
 rcases over_mem h with h|h
 · rcases over_mem h with h|h
   · exact Or.inl h
   · exact Or.inr (Or.inl h)
 · exact Or.inr (Or.inr h)
theorem good_len {L:List En} (h:Pp.Good L) {x:En} (hx:x∈L):x.path.size≤80:=by
 have:=Pp.chk_len (Pp.entE_path (h.ents x hx))
 rw[Array.length_toList]at this;exact this
theorem uni_len80 {B M T:List En} (gB:Pp.Good B) (gM:Pp.Good M) (gT:Pp.Good T) {x:En} (h:x∈uni B M T):x.path.size≤80:=by
 rcases uni_mem h with h|h|h
 · exact good_len gB h
 · exact good_len gM h
 · exact good_len gT h
theorem uni_len (B M T:List En):(uni B M T).length≤B.length+M.length+T.length:=by
 have h1:=over_len (over B M) T;have h2:=over_len B M;rw[uni];omega
def enOf (p:ByteArray) (s:Spo):En:=⟨p,s.w==1,s.t,s.v⟩
theorem spo_enOf {p:ByteArray} {s:Spo} (h:Ok s) (h0:s.w≠0):spo (enOf p s)=s:=by
 obtain⟨sw,st,sv⟩:=s
 rcases h.w with h1|h1|h1
 · exact absurd h1 h0
 · have h2:=h.fold h1
   simp only at h1 h2;subst h1 h2;rfl
 · simp only at h1
   subst h1;rfl
def set1 (f:List UInt8→Spo) (e:En):Option En:=if(f e.path.data.toList).w=0 then none else some (enOf e.path (f e.path.data.toList))
/-- What is settled at the paths of a list. -/
def sets (f:List UInt8→Spo) (U:List En):List En:=U.filterMap (set1 f)
theorem set1_path {f:List UInt8→Spo} {e x:En} (h:set1 f e=some x):x.path=e.path∧x=enOf e.path (f e.path.data.toList)∧(f e.path.data.toList).w≠0:=by
 rw[set1]at h;split at h
 · cases h
 · rename_i h0
   injection h with h
   subst h;exact⟨rfl,rfl,h0⟩
theorem mem_sets {f:List UInt8→Spo} {U:List En} {x:En}:x∈sets f U↔ ∃e∈U,set1 f e=some x:=by rw[sets,List.mem_filterMap]
theorem sets_rise {f:List UInt8→Spo} {U:List En} (h:Sp.Rise U):Sp.Rise (sets f U):=by
 refine List.Pairwise.filterMap (set1 f) ?_ h
 intro a a' ha b hb b' hb';rw[Pp.lt,(set1_path hb).1,(set1_path hb').1];exact ha
theorem sets_len (f:List UInt8→Spo) (U:List En):(sets f U).length≤U.length:=List.length_filterMap_le _ _
theorem st_sets {f:List UInt8→Spo} {U:List En} (h:Sp.Rise U) (hok: ∀p,Ok (f p)) (hn: ∀p,Sp.at_ U p=none→f p=zero) (p:List UInt8):st (sets f U) p=f p:=by
 have hr:=sets_rise (f:=f) h;by_cases h0:(f p).w=0
 · rw[(hok p).zero h0]
   refine st_none (Sp.at_none.2 ?_)
   intro x hx hxp;obtain⟨e,he,hs⟩:=mem_sets.1 hx
   obtain⟨h1,_,h3⟩:=set1_path hs
   rw[h1]at hxp;rw[hxp]at h3;exact h3 h0
 · cases hu:Sp.at_ U p with
   |none=>rw[hn p hu]at h0;exact absurd rfl h0
   |some e=>
    obtain⟨h1,h2⟩:=(Sp.at_iff (Sp.apart_rise h)).1 hu
    have hs:set1 f e=some (enOf e.path (f p)):=by rw[set1,h2,if_neg h0]
    have:Sp.at_ (sets f U) p=some (enOf e.path (f p)):=(Sp.at_iff (Sp.apart_rise hr)).2 ⟨mem_sets.2 ⟨e,h1,hs⟩,h2⟩
    rw[st_some this,spo_enOf (hok p) h0]
def fS (B M T:List En) (p:List UInt8):Spo:=stays (st B p) (st M p) (st T p)
def fG (B M T:List En) (p:List UInt8):Spo:=goes (st B p) (st M p) (st T p)
theorem fS_ok (B M T:List En) (p:List UInt8):Ok (fS B M T p):=stays_ok (ok_st _ _) (ok_st _ _)
theorem fG_ok (B M T:List En) (p:List UInt8):Ok (fG B M T p):=goes_ok (ok_st _ _) (ok_st _ _)
theorem fS_none {B M T:List En} (h:Sp.Rise B) (hM:Sp.Apart M) (hT:Sp.Apart T) (p:List UInt8) (hp:Sp.at_ (uni B M T) p=none):fS B M T p=zero:=by
 obtain⟨h1,h2,h3⟩:=uni_none h hM hT hp
 rw[fS,st_none h1,st_none h2,st_none h3];rcases stays_mem zero zero zero with h|h<;>exact h
theorem fG_none {B M T:List En} (h:Sp.Rise B) (hM:Sp.Apart M) (hT:Sp.Apart T) (p:List UInt8) (hp:Sp.at_ (uni B M T) p=none):fG B M T p=zero:=by
 obtain⟨h1,h2,h3⟩:=uni_none h hM hT hp
 rw[fG,st_none h1,st_none h2,st_none h3];rcases goes_mem zero zero zero with h|h|h<;>exact h
def now0 (B M T:List En):List En:=sets (fS B M T) (uni B M T)
def asi0 (B M T:List En):List En:=sets (fG B M T) (uni B M T)
theorem st_now0 {B M T:List En} (h:Sp.Rise B) (hM:Sp.Apart M) (hT:Sp.Apart T) (p:List UInt8):st (now0 B M T) p=fS B M T p:=st_sets (uni_rise h M T) (fS_ok B M T) (fS_none h hM hT) p
theorem st_asi0 {B M T:List En} (h:Sp.Rise B) (hM:Sp.Apart M) (hT:Sp.Apart T) (p:List UInt8):st (asi0 B M T) p=fG B M T p:=st_sets (uni_rise h M T) (fG_ok B M T) (fG_none h hM hT) p
/-- Files that go aside, one after the other. -/
def asds (M T:List En):List En→List En×CC→Option (List En×CC)
 |[],s=>some s
 |a::r,s=>(asd M T s.1 a.path.data.toList).bind (fun q=>asds M T r (Sp.put1 (file q (spo a)) s.1,s.2++[(a.path,⟨q.toArray⟩)]))
theorem asds_app (M T:List En): ∀(a b:List En) (s:List En×CC),asds M T (a++b) s=(asds M T a s).bind (asds M T b)
 |[],b,s=>rfl
 |x::r,b,s=>by
  rw[List.cons_append,asds,asds,Option.bind_assoc];congr 1
  funext t
  exact asds_app M T r b _
theorem asds_none {M T:List En} {a b:List En} {x:En} {s:List En×CC} {N:List En} {C:CC} (h:asds M T a s=some (N,C)) (h1:asd M T N x.path.data.toList=none):asds M T (a++[x]++b) s=none:=by
 rw[asds_app,asds_app,h];simp[asds,h1]
theorem asds_some {M T:List En} {a:List En} {x:En} {s:List En×CC} {N:List En} {C:CC} {q:List UInt8} (h:asds M T a s=some (N,C)) (h1:asd M T N x.path.data.toList=some q):asds M T (a++[x]) s=some (Sp.put1 (file q (spo x)) N,C++[(x.path,⟨q.toArray⟩)]):=by
 rw[asds_app,h];simp[asds,h1]
def run (B M T:List En):Option (List En×CC):=(asds M T (asi0 B M T) (now0 B M T,[])).bind (fun s=>mks M T (allP s.1 s.1.length) s)
def out1 (M T N:List En) (e:En):En:=⟨e.path,Sp.wh e==1,Sp.tx e,ver M T N e.path.data.toList⟩
def outs (M T N:List En):List En:=N.map (out1 M T N)
def mrg (B M T:List En):Option (List En×CC):=(run B M T).bind (fun s=>if 60<s.1.length then none else some (outs M T s.1,s.2))
end Mg
end Go.Proofs.YtagibnejodgeeaaGreatDoor
namespace Go.Proofs.YtagibnejodgeeaaGreatDoor
open Go.RowKit Go.Maps Go.WideMaps Go.Shelf

theorem Sp.rd_shape {v:Value} {y:DataW Unit×List MemPlace} (h:Sp.rd v=some y): ∃c:Spo,v=c.val:=by
 unfold Sp.rd at h;split at h
 · rename_i cs
   split at h
   · rename_i a t n hcs
     refine⟨⟨a,t,n⟩,?_⟩
     cases cs
     simp at hcs
     rw[hcs];rfl
   · cases h
 · cases h
theorem own_down {w:World} {B B':Nat} {e:TypeId} {size:Nat} {v:Value} {n:Nat} {xs:List Value} (h:w.ownsRow B e size v n xs) (hb:B'≤B):w.ownsRow B' e size v n xs:=by
 obtain⟨h1,h2⟩:=h
 refine⟨h1,?_⟩
 rcases h2 with h2|⟨g,cap,cur,rfl,hg,r⟩
 · exact .inl h2
 · exact .inr ⟨g,cap,cur,rfl,Nat.le_trans hb hg,r⟩
theorem merged_over {L M:List En} (hL:Sp.Rise L) (hM:Sp.Rise M) {Dout:DataW Unit} {left:Lit→Bool} (h:Merged Dout (Sp.D L) (Sp.D M) left) (hl: ∀k,left k=false) (hc:Canon Dout):Dout=Sp.D (Mg.over L M):=by
 have hr:=Mg.over_rise hL M;have aO:=Sp.apart_rise hr;have aL:=Sp.apart_rise hL;have aM:=Sp.apart_rise hM;have hat:=fun p=>Mg.at_over hL M aM p
 have hiff: ∀k,has (Sp.D (Mg.over L M)) k=true↔(has (Sp.D L) k=true∨has (Sp.D M) k=true):=by
  intro k;rw[Sp.D_has,Sp.D_has,Sp.D_has];constructor
  · rintro ⟨e,he,hk⟩
    have h1:=(Sp.at_iff aO).2 ⟨he,rfl⟩;rw[hat]at h1;cases h2:Sp.at_ M e.path.data.toList with
    |some x=>
     obtain⟨h3,h4⟩:=(Sp.at_iff aM).1 h2
     exact Or.inr ⟨x,h3,by rw[←hk,Sp.key,Sp.key,h4]⟩
    |none=>
     rw[h2]at h1;exact Or.inl ⟨e,((Sp.at_iff aL).1 h1).1,hk⟩
  · intro hh
    have: ∃p:ByteArray,Sp.key p=k∧(Sp.at_ (Mg.over L M) p.data.toList).isSome:=by
     rcases hh with⟨e,he,hk⟩|⟨e,he,hk⟩
     · refine⟨e.path,hk,?_⟩
       rw[hat];split
       · rfl
       · rw[(Sp.at_iff aL).2 ⟨he,rfl⟩];rfl
     · refine⟨e.path,hk,?_⟩
       rw[hat,(Sp.at_iff aM).2 ⟨he,rfl⟩];rfl
    obtain⟨p,hp,hs⟩:=this
    obtain⟨x,hx⟩:=Option.isSome_iff_exists.1 hs
    obtain⟨h3,h4⟩:=(Sp.at_iff aO).1 hx
    exact⟨x,h3,by rw[←hp,Sp.key,Sp.key,h4]⟩
 refine ext hc ((Sp.canonD _).canon Sp.oneKind) (fun k=>?_) (fun k z hk=>?_)
 · rw[h.1 k,hl k]
   have:=hiff k
   cases h1:has (Sp.D L) k<;>cases h2:has (Sp.D M) k<;>simp[h1,h2]at this⊢ <;>simp[this]
 · have h0:=h.1 k
   rw[hk,hl k]at h0;have h1:has (Sp.D (Mg.over L M)) k=true:=(hiff k).2 (by simpa using h0.symm);obtain⟨e,he,rfl⟩:=(Sp.D_has _ k).1 h1
   rw[h.2,hl,Sp.D_at aO,Sp.D_at aL,Sp.D_at aM,hat];cases h2:Sp.at_ M e.path.data.toList with
   |some x=>
    obtain⟨h3,h4⟩:=(Sp.at_iff aM).1 h2
    have:has (Sp.D M) (Sp.key e.path)=true:=(Sp.D_has M _).2 ⟨x,h3,by rw[Sp.key,Sp.key,h4]⟩
    rw[this];rfl
   |none=>
    have:has (Sp.D M) (Sp.key e.path)=false:=by
     rw[←Bool.not_eq_true];intro h5;obtain⟨x,hx,hxk⟩:=(Sp.D_has M _).1 h5
     exact(Sp.at_none.1 h2) x hx (Sp.key_inj hxk)
    rw[this];rfl
set_option maxRecDepth 100000 in
set_option maxHeartbeats 4000000 in
theorem copy_any {bd bs nd ns:Nat} {X Y:List En} {w:World} (hX:Sp.Rise X) (hY:Sp.Rise Y) (hd:w.ownsMap Tryz.prog 9 Sp.rd bd nd (Sp.D X)) (hs:w.ownsMap Tryz.prog 9 Sp.rd bs ns (Sp.D Y)) (hne:bd≠bs) (hroom:nd+Y.length≤1000000):
    Calls Tryz.prog 100 #[.map (some bd),.map (some bs)] w fun e w'=>e= .returned (.tuple #[])∧w'.ownsMap Tryz.prog 9 Sp.rd bd (nd+Y.length) (Sp.D (Mg.over X Y))∧w.grownBy w' (some bd):=by
 have hbd:=hd.lt;have hbs:=hs.lt;have hsz:=Sp.D_size (Sp.apart_rise hY);have hroom:nd+Maps.size (Sp.D Y)≤maxLen:=by rw[hsz];unfold maxLen;omega
 rw[←hsz];clear hsz;have HE:=hid (show∀Dout left,Merged Dout (Sp.D X) (Sp.D Y) left→(∀k,left k=false)→Canon Dout→Dout=Sp.D (Mg.over X Y)from fun Dout left h1 h2 h3=>merged_over hX hY h1 h2 h3);generalize Sp.D (Mg.over X Y)=DO at*;generalize Sp.D X=Dd at*;generalize Sp.D Y=Ds at*;have K:Keyed Tryz.prog 9:=string_keyed Tryz.underlying9;go_enter Tryz.func100,Tryz.ntmps100
 go_wp2_with (first
  |(at_range;refine wpList_range_own _ rfl _ 52 rfl 9 89 K Tryz.underlying52 Sp.rd bs ns _ rfl hs ?_;intro w0 hrg0 hg0 hs0)
  |fail)
 go_frame
 go_loopw [8] (fun _ wr => ∃ (left : Lit → Bool) (cnt : Nat) (Dout : DataW Unit), wr.ranges Tryz.prog 9 Sp.rd bs w.heap.size ns Ds left cnt ∧ cnt ≤ Maps.size Ds ∧
     wr.ownsMap Tryz.prog 9 Sp.rd bd (nd+(Maps.size Ds-cnt)) Dout∧Merged Dout Dd Ds left∧w.grownBy wr (some bd))
  (fun _ wr=>wr.rangeLeft bs w.heap.size)
 case atStart=>
  exact⟨_,_,Dd,hrg0,Nat.le_refl _,(hd.kept hg0 (by simp)).mono (by omega),merged_start Dd Ds,hg0.but _⟩
 case round=>
  obtain⟨left,cnt,Dout,hrg,hcs,hout,hM,hgw⟩:=hrel
  go_wp2_with (first
   |(at_next;refine wpList_next_ranges _ rfl _ rfl 9 K Sp.rd id Spo.val (fun key _ _=>⟨key,rfl⟩) (fun v _ h=>Sp.rd_shape h) bs w.heap.size ns _ _ _ rfl hrg ?_ ?_)
   |fail)
  · intro hc0 hl0
    go_wp2_with fail;go_end0
    subst hc0;have e:=HE.out _ _ hM hl0 (hout.canon K);subst e;exact⟨rfl,by simpa using hout,hgw⟩
  · intro x c kl yd yp w1 cnt1 hkey hlx hv hat hrg1 hlt hg1 hs1 hen
    have hout1:=hout.kept hg1 (fun e=>by have:=Option.some.inj e;omega);obtain⟨ca,ct,cv⟩:=c
    simp only[Spo.val]at hv hen⊢;have hga:=World.grownBy_alloc w1 (.cells #[.int .i64 ca,.string ct,.int .i64 cv] 89) none;obtain⟨w2,hrun2,hout2,hg2⟩:=(hout1.alloc (.cells #[.int .i64 ca,.string ct,.int .i64 cv] 89)).update K Tryz.underlying52 (by omega) hkey hv
    have hsz1:(w1.alloc (.cells #[.int .i64 ca,.string ct,.int .i64 cv] 89)).heap.size=w1.heap.size+1:=by simp
    have hrg2:=(hrg1.kept hga (fun e=>by cases e) (fun e=>by cases e)).kept hg2 (fun e=>hne (Option.some.inj e).symm) (fun e=>by have:=Option.some.inj e;omega);go_wp2_with fail;go_roundw
    case rel=>
     exact⟨_,cnt1,_,hrg2,by omega,hout2.mono (by omega),merged_step hM hout.isMap (K.key hkey) hat,((hgw.andThen hg1 (fun j hj=> .inl (by cases hj;exact Nat.le_refl _))).andThen hga (fun j hj=>by cases hj)).andThen hg2 (fun j hj=> .inr hj)⟩
    case measure=>rw[hrg2.left_eq,hrg.left_eq];exact hlt
set_option maxRecDepth 100000 in
set_option maxHeartbeats 4000000 in
theorem jpaths_any {w:World} {j bm bt bn bb nb:Nat} {vc:Value} {M T N B:List En} (h:Join w j bm bt bn vc M T N) (hb:w.ownsMap Tryz.prog 9 Sp.rd bb nb (Sp.D B)) (hB:Sp.Rise B) (hM:Sp.Rise M) (hT:Sp.Rise T) (hnb:nb≤1000) (lB:B.length≤60) (lM:M.length≤60) (lT:T.length≤60):
    Calls Tryz.prog 82 #[.pointer (some ⟨j,0,none⟩),.map (some bb)] w fun e w'=> ∃v,e= .returned v∧w'.ownsRow w.heap.size 9 1 v (Mg.uni B M T).length ((Mg.uni B M T).map (fun e=>Value.string e.path))∧Below w.heap.size w w':=by
 obtain⟨n1,l1,m1⟩:=h.mine
 obtain⟨n2,l2,m2⟩:=h.theirs
 have hbx:Cs w j [.map (some bm),.map (some bt),.map (some bn),vc]:=h.box;have c0:=hbx.cell 0 rfl;have c1:=hbx.cell 1 rfl;have HB:=hid hB;have HM:=hid hM;have HT:=hid hT;have hjl:=hbx.lt;have HX:=hid hbx;go_enter Tryz.func82,Tryz.ntmps82
 go_wp2_with fail;refine(AnyW.maps_Clone_owns Tryz.cloneK 9 Sp.rd bb nb _ w hb).mono ?_
 rintro e w1 ⟨rfl,hc1,_,hb1⟩;replace HX:=hid (HX.out.below hb1);have d0:=HX.out.cell 0 rfl;have d1:=HX.out.cell 1 rfl;have m11:=omap_below m1 hb1 m1.lt;have m21:=omap_below m2 hb1 m2.lt;have q1:=m1.lt;have q2:=m2.lt;clear c0 c1 hbx;go_wp2_with fail;refine(copy_any HB.out HM.out hc1 m11 (by omega) (by omega)).mono ?_
 rintro e w2 ⟨rfl,hc2,hg2⟩;have hb2:Below w.heap.size w w2:=hb1.grown hg2 hb1.size (fun k hk=>by injection hk with hk;omega);replace HX:=hid (HX.out.nb hg2 (by omega));have m22:=m21.kept hg2 (fun e=>by injection e with e;omega);clear d0 d1;have d1:=HX.out.cell 1 rfl;go_wp2_with fail;refine(copy_any (Mg.over_rise HB.out M) HT.out hc2 m22 (by omega) (by omega)).mono ?_
 rintro e w3 ⟨rfl,hc3,hg3⟩;have hb3:Below w.heap.size w w3:=hb2.grown hg3 hb2.size (fun k hk=>by injection hk with hk;omega);have hul:=Mg.uni_len B M T;clear d1;go_wp2_with fail;refine(paths_own hc3 (Mg.uni_rise HB.out M T) (by show(Mg.uni B M T).length≤1000;omega)).mono ?_
 rintro e w4 ⟨v,rfl,hrow,hb4⟩;go_wp2_with fail;go_ret;exact⟨v,rfl,own_down hrow hb3.size,hb3.trans (hb4.mono hb3.size)⟩
end Go.Proofs.YtagibnejodgeeaaGreatDoor
