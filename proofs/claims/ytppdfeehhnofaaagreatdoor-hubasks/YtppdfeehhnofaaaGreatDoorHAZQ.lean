/- Requests that are handed in: what lies there, how great it is, and the bounds of their numbers. -/
import Derived.Test.YtppdfeehhnofaaaGreatDoorHAZO
import Derived.Test.YtppdfeehhnofaaaGreatDoorHAZI
import Derived.Test.YtppdfeehhnofaaaGreatDoorRows
import Derived.Test.YtppdfeehhnofaaaGreatDoorHAZE
import Derived.LaidLaws
set_option linter.unusedSimpArgs false
set_option linter.unusedVariables false
namespace Go.Proofs.YtppdfeehhnofaaaGreatDoor
open Go.ChangeShapes Go.WideShapes Go.ChangeAt Go.RowKit

theorem i64_wf {n:Int} (h:(Lit.int .i64 n).wf=true):I64 n:=by
 simp only[Lit.wf,Bool.and_eq_true,decide_eq_true_eq]at h;exact h
theorem open_chX {H:Type} {enc:TypeId×Value→H} {W:World} {n i:Nat} {a:Addr} {x:DataW H} {pl:List MemPlace} {cs':List Value} (ha:a.spot=none)
    (h1:W.cells? 0 (a.add (i*Tryz.prog.cellsOf 54)) (Tryz.prog.cellsOf 54)=some cs') (h2:DataW.trod enc Tryz.prog W 0 (fun _=>true) true n 54 cs'=some (x,pl)):
    ∃c:Pp.Ch,x=datC c∧a.spot=none∧ChAt W a.block (a.off+i*5) c∧I64 c.k∧I64 c.b:=by
 rw[Tryz.cellsC]at h1;obtain⟨_,hlen,hc⟩:=World.cells?_some h1
 obtain⟨y0,y1,y2,y3,y4,n',hx',_,t0,t1,t2,t3,t4⟩:=fields5 Tryz.underlying54 h2
 obtain⟨c0,c1,c2,c3,c4,rfl⟩:=list5 hlen
 have t0':DataW.trod enc Tryz.prog W 0 (fun _=>true) true n' 3 [c0]=some y0:=by simpa[Tryz.cells3]using t0
 have t1':DataW.trod enc Tryz.prog W 0 (fun _=>true) true n' 9 [c1]=some y1:=by simpa[Tryz.cells9]using t1
 have t2':DataW.trod enc Tryz.prog W 0 (fun _=>true) true n' 9 [c2]=some y2:=by simpa[Tryz.cells9]using t2
 have t3':DataW.trod enc Tryz.prog W 0 (fun _=>true) true n' 9 [c3]=some y3:=by simpa[Tryz.cells9]using t3
 have t4':DataW.trod enc Tryz.prog W 0 (fun _=>true) true n' 3 [c4]=some y4:=by simpa[Tryz.cells3]using t4
 obtain⟨s0,e0,g0,u0⟩:=DataW.trod_int Tryz.underlying3 t0'
 obtain⟨s1,e1,g1,_⟩:=DataW.trod_string Tryz.underlying9 t1'
 obtain⟨s2,e2,g2,_⟩:=DataW.trod_string Tryz.underlying9 t2'
 obtain⟨s3,e3,g3,_⟩:=DataW.trod_string Tryz.underlying9 t3'
 obtain⟨s4,e4,g4,u4⟩:=DataW.trod_int Tryz.underlying3 t4'
 obtain rfl:c0= .int .i64 s0:=by simpa using e0
 obtain rfl:c1= .string s1:=by simpa using e1
 obtain rfl:c2= .string s2:=by simpa using e2
 obtain rfl:c3= .string s3:=by simpa using e3
 obtain rfl:c4= .int .i64 s4:=by simpa using e4
 subst g0;subst g1;subst g2;subst g3;subst g4;simp only[Prod.mk.injEq]at hx';have k0:=hc 0 (by omega);have k1:=hc 1 (by omega);have k2:=hc 2 (by omega);have k3:=hc 3 (by omega);have k4:=hc 4 (by omega);obtain⟨ab,ao,asp⟩:=a
 obtain rfl:asp=none:=ha;refine⟨⟨s0,s1,s2,s3,s4⟩,hx'.1,rfl,⟨?_,?_,?_,?_,?_⟩,i64_wf u0,i64_wf u4⟩
 · by_cases hi0:i=0
   · subst hi0;simpa[Addr.add]using k0
   · have hi4:i*5≠0:=by omega
     simpa[Addr.add,hi4]using k0
 · by_cases hi0:i=0
   · subst hi0;simpa[Addr.add]using k1
   · have hi4:i*5≠0:=by omega
     simpa[Addr.add,hi4,Nat.add_assoc]using k1
 · by_cases hi0:i=0
   · subst hi0;simpa[Addr.add]using k2
   · have hi4:i*5≠0:=by omega
     simpa[Addr.add,hi4,Nat.add_assoc]using k2
 · by_cases hi0:i=0
   · subst hi0;simpa[Addr.add]using k3
   · have hi4:i*5≠0:=by omega
     simpa[Addr.add,hi4,Nat.add_assoc]using k3
 · by_cases hi0:i=0
   · subst hi0;simpa[Addr.add]using k4
   · have hi4:i*5≠0:=by omega
     simpa[Addr.add,hi4,Nat.add_assoc]using k4
set_option maxRecDepth 100000 in
theorem open_changes_wX {H:Type} {enc:TypeId×Value→H} {W:World} {v:Value} {d:DataW H} {p:List MemPlace} {fuel:Nat} (hf:DataW.trod enc Tryz.prog W 0 (fun _=>true) true fuel 29 [v]=some (d,p)) (hk: ∀n∈d.weights Tryz.prog 29,n≤reachBytes):
    ∃cs:List Pp.Ch,LiesC W v cs∧SizedC reachBytes cs∧ ∀c∈cs,WfC c:=by
 haveI:Inhabited Pp.Ch:=⟨⟨0,⟨#[]⟩,⟨#[]⟩,⟨#[]⟩,0⟩⟩
 rcases Go.Deep.open_slice Tryz.underlying29 hf with⟨hcs,hx⟩|⟨a,len,cap,m,n,D,Pl,hcs,hb,hl,hm,hmm,hx,hel⟩
 · obtain rfl:v= .slice none 0 0:=by simpa using hcs
   exact⟨[],⟨none,0,rfl,Nat.le_refl _,by simp,fun i hi=>absurd hi (by simp)⟩,(fun e he=>by cases he),fun e he=>by cases he⟩
 obtain rfl:v= .slice (some a) len cap:=by simpa using hcs
 have hm2:m=cap:=hmm.trans (if_pos rfl);clear hmm;have hd:=(Prod.mk.inj hx).1;clear hx;subst hm2
 have hsp:0<len→a.spot=none:=fun h=>by
  obtain⟨cs',h1,_⟩:=hel 0 (by omega)
  rw[Tryz.cellsC]at h1;obtain⟨_,hlen,hc⟩:=World.cells?_some h1
  obtain⟨c0,c1,c2,c3,c4,rfl⟩:=list5 hlen
  have k0:=hc 0 (by omega);exact spot_none (v:=c0) (by simpa[Addr.add]using k0)
 have each: ∀i,i<len→ ∃e:Pp.Ch,D i=datC e∧a.spot=none∧ChAt W a.block (a.off+i*5) e∧I64 e.k∧I64 e.b:=fun i hi=>by
  obtain⟨cs',h1,h2⟩:=hel i (by omega)
  exact open_chX (hsp (by omega)) h1 h2
 obtain⟨E,hE⟩:=Go.Deep.choose_lt each
 obtain⟨sp,hd'⟩: ∃sp,d= .slice ((List.range len).map D) sp:=⟨_,hd⟩
 have hlen64:(len+sp.length)*64≤reachBytes:=by
  have:=hk ((len+sp.length)*64) (by
   rw[hd',DataW.weights];simp only[Tryz.underlying29,Tryz.bytesCh,List.length_map,List.length_range];exact List.mem_cons_self ..)
  exact this
 have hel2: ∀i,i<len→ ∀n∈(D i).weights Tryz.prog 54,n≤reachBytes:=fun i hi n hn=>hk n (by
  rw[hd',DataW.weights];simp only[Tryz.underlying29];refine List.mem_cons_of_mem _ (List.mem_append_left _ (all_mem (List.mem_map.2 ⟨i,List.mem_range.2 hi,rfl⟩) n hn)))
 have hrb:reachBytes=140737488351232:=by decide
 have hsz:SizedC reachBytes ((List.range len).map E):=by
  intro e he;obtain⟨i,hi,rfl⟩:=List.mem_map.1 he
  have h1:=hel2 i (List.mem_range.1 hi);rw[(hE i (List.mem_range.1 hi)).1]at h1
  have hw:DataW.weights Tryz.prog 54 (datC (H:=H) (E i))=[(E i).p.data.toList.length,(E i).q.data.toList.length,(E i).t.data.toList.length]:=by
   rw[datC,DataW.weights];simp only[Tryz.underlying54];simp[DataW.weightsEach,DataW.weights]
  rw[hw]at h1;rw[Lib.size_eq,Lib.size_eq,Lib.size_eq];exact⟨h1 _ (by simp),h1 _ (by simp),h1 _ (by simp)⟩
 refine⟨(List.range len).map E,⟨some a,_,by simp;rfl,by simpa using hl,?_,fun i hi=>?_⟩,hsz,fun e he=>?_⟩
 · rw[hrb]at hlen64
   simp only[List.length_map,List.length_range];omega
 · have hi':i<len:=by simpa using hi
   obtain⟨h1,h2,h3,_⟩:=hE i hi'
   have hlt:a.block<W.heap.size:=by
    have k:=h3.1;rcases Nat.lt_or_ge a.block W.heap.size with h|h
    · exact h
    · unfold World.cell? at k;rw[Array.getElem?_eq_none h]at k;cases k
   refine⟨a.block,a.off,?_,hlt,by simpa using h3⟩
   rw[←h2]
 · obtain⟨h1,h2,h3⟩:=hsz e he
   obtain⟨i,hi,rfl⟩:=List.mem_map.1 he
   obtain⟨_,_,_,k1,k2⟩:=hE i (List.mem_range.1 hi)
   rw[hrb]at h1 h2 h3;exact⟨k1,k2,by unfold TxB;omega,by unfold TxB;omega,by unfold TxB;omega⟩
theorem listX10 {α:Type} {l:List α} (h:l.length=10): ∃x0 x1 x2 x3 x4 x5 x6 x7 x8 x9,l=[x0,x1,x2,x3,x4,x5,x6,x7,x8,x9]:=by
 rcases l with _|⟨x0,_|⟨x1,_|⟨x2,_|⟨x3,_|⟨x4,_|⟨x5,_|⟨x6,_|⟨x7,_|⟨x8,_|⟨x9,_|⟨d,r⟩⟩⟩⟩⟩⟩⟩⟩⟩⟩⟩
 all_goals first|exact⟨x0,x1,x2,x3,x4,x5,x6,x7,x8,x9,rfl⟩|(simp at h)
theorem fieldsX10 {H:Type} {enc:TypeId×Value→H} {P:Program} {w:World} {base:Nat} {spare:Nat→Bool} {held:Bool} {t:TypeId} {f0 f1 f2 f3 f4 f5 f6 f7 f8 f9:Field} {fuel:Nat} {cs:List Value} {x:DataW H×List MemPlace} (ht:P.underlying t=some (.struct #[f0,f1,f2,f3,f4,f5,f6,f7,f8,f9])) (h:DataW.trod enc P w base spare held fuel t cs=some x):
    ∃y0 y1 y2 y3 y4 y5 y6 y7 y8 y9 n pl,x=(.agg [y0.1,y1.1,y2.1,y3.1,y4.1,y5.1,y6.1,y7.1,y8.1,y9.1],pl)∧cs.length=P.cellsOf t∧DataW.trod enc P w base spare held n f0.type ((cs.drop f0.offset).take (P.cellsOf f0.type))=some y0∧DataW.trod enc P w base spare held n f1.type ((cs.drop f1.offset).take (P.cellsOf f1.type))=some y1∧DataW.trod enc P w base spare held n f2.type ((cs.drop f2.offset).take (P.cellsOf f2.type))=some y2∧DataW.trod enc P w base spare held n f3.type ((cs.drop f3.offset).take (P.cellsOf f3.type))=some y3∧DataW.trod enc P w base spare held n f4.type ((cs.drop f4.offset).take (P.cellsOf f4.type))=some y4∧DataW.trod enc P w base spare held n f5.type ((cs.drop f5.offset).take (P.cellsOf f5.type))=some y5∧DataW.trod enc P w base spare held n f6.type ((cs.drop f6.offset).take (P.cellsOf f6.type))=some y6∧DataW.trod enc P w base spare held n f7.type ((cs.drop f7.offset).take (P.cellsOf f7.type))=some y7∧DataW.trod enc P w base spare held n f8.type ((cs.drop f8.offset).take (P.cellsOf f8.type))=some y8∧DataW.trod enc P w base spare held n f9.type ((cs.drop f9.offset).take (P.cellsOf f9.type))=some y9:=by
 obtain⟨xs,n,_,rfl,hl,hlen,hf⟩:=DataW.trod_struct ht h
 match xs,hlen with
 |[y0,y1,y2,y3,y4,y5,y6,y7,y8,y9],_=>exact⟨y0,y1,y2,y3,y4,y5,y6,y7,y8,y9,n,_,rfl,hl,by simpa using hf 0 f0 rfl,by simpa using hf 1 f1 rfl,by simpa using hf 2 f2 rfl,by simpa using hf 3 f3 rfl,by simpa using hf 4 f4 rfl,by simpa using hf 5 f5 rfl,by simpa using hf 6 f6 rfl,by simpa using hf 7 f7 rfl,by simpa using hf 8 f8 rfl,by simpa using hf 9 f9 rfl⟩
theorem Tryz.cellsSCX:Tryz.prog.cellsOf 29=1:=by kernel_rfl
theorem Tryz.cellsRqX:Tryz.prog.cellsOf 31=10:=by kernel_rfl
set_option maxRecDepth 100000 in
theorem open_requestX {H:Type} {enc:TypeId×Value→H} {W:World} {r:Reach} {b0:Nat} {v:Value} {d:DataW H} {pl:List MemPlace} (hv:Value.okWide Tryz.prog W r b0 31 v) (h:DataW.Trod enc Tryz.prog W 0 (fun _=>true) true 31 v d pl) (hk: ∀n∈d.weights Tryz.prog 31,n≤reachBytes):
    ∃q:Rq,LiesQ W v q∧WfQ q∧(q.who.size≤140737488351232∧q.fo.size≤140737488351232∧q.name.size≤140737488351232∧q.key.size≤140737488351232∧q.text.size≤140737488351232)∧SizedC reachBytes q.ch:=by
 obtain⟨cs,rfl,hsz⟩:=okWide_struct Tryz.underlying31 hv
 obtain⟨fuel,hf⟩:=h
 have hf':DataW.trod enc Tryz.prog W 0 (fun _=>true) true fuel 31 cs.toList=some (d,pl):=by simpa[Value.cells]using hf
 obtain⟨y0,y1,y2,y3,y4,y5,y6,y7,y8,y9,n',pl',hx,hlen,t0,t1,t2,t3,t4,t5,t6,t7,t8,t9⟩:=fieldsX10 Tryz.underlying31 hf'
 rw[Tryz.cellsRqX]at hlen;obtain⟨c0,c1,c2,c3,c4,c5,c6,c7,c8,c9,hcs⟩:=listX10 hlen
 rw[hcs]at t0 t1 t2 t3 t4 t5 t6 t7 t8 t9;have q0:DataW.trod enc Tryz.prog W 0 (fun _=>true) true n' 3 [c0]=some y0:=by simpa[Tryz.cells3]using t0
 have q1:DataW.trod enc Tryz.prog W 0 (fun _=>true) true n' 9 [c1]=some y1:=by simpa[Tryz.cells9]using t1
 have q2:DataW.trod enc Tryz.prog W 0 (fun _=>true) true n' 9 [c2]=some y2:=by simpa[Tryz.cells9]using t2
 have q3:DataW.trod enc Tryz.prog W 0 (fun _=>true) true n' 9 [c3]=some y3:=by simpa[Tryz.cells9]using t3
 have q4:DataW.trod enc Tryz.prog W 0 (fun _=>true) true n' 9 [c4]=some y4:=by simpa[Tryz.cells9]using t4
 have q5:DataW.trod enc Tryz.prog W 0 (fun _=>true) true n' 9 [c5]=some y5:=by simpa[Tryz.cells9]using t5
 have q6:DataW.trod enc Tryz.prog W 0 (fun _=>true) true n' 3 [c6]=some y6:=by simpa[Tryz.cells3]using t6
 have q7:DataW.trod enc Tryz.prog W 0 (fun _=>true) true n' 3 [c7]=some y7:=by simpa[Tryz.cells3]using t7
 have q8:DataW.trod enc Tryz.prog W 0 (fun _=>true) true n' 3 [c8]=some y8:=by simpa[Tryz.cells3]using t8
 have q9:DataW.trod enc Tryz.prog W 0 (fun _=>true) true n' 29 [c9]=some y9:=by simpa[Tryz.cellsSCX]using t9
 obtain⟨s0,e0,g0,u0⟩:=DataW.trod_int Tryz.underlying3 q0
 obtain rfl:c0= .int .i64 s0:=by simpa using e0
 subst g0;obtain⟨s1,e1,g1,_⟩:=DataW.trod_string Tryz.underlying9 q1
 obtain rfl:c1= .string s1:=by simpa using e1
 subst g1;obtain⟨s2,e2,g2,_⟩:=DataW.trod_string Tryz.underlying9 q2
 obtain rfl:c2= .string s2:=by simpa using e2
 subst g2;obtain⟨s3,e3,g3,_⟩:=DataW.trod_string Tryz.underlying9 q3
 obtain rfl:c3= .string s3:=by simpa using e3
 subst g3;obtain⟨s4,e4,g4,_⟩:=DataW.trod_string Tryz.underlying9 q4
 obtain rfl:c4= .string s4:=by simpa using e4
 subst g4;obtain⟨s5,e5,g5,_⟩:=DataW.trod_string Tryz.underlying9 q5
 obtain rfl:c5= .string s5:=by simpa using e5
 subst g5;obtain⟨s6,e6,g6,u6⟩:=DataW.trod_int Tryz.underlying3 q6
 obtain rfl:c6= .int .i64 s6:=by simpa using e6
 subst g6;obtain⟨s7,e7,g7,u7⟩:=DataW.trod_int Tryz.underlying3 q7
 obtain rfl:c7= .int .i64 s7:=by simpa using e7
 subst g7;obtain⟨s8,e8,g8,u8⟩:=DataW.trod_int Tryz.underlying3 q8
 obtain rfl:c8= .int .i64 s8:=by simpa using e8
 subst g8;obtain⟨d9,p9⟩:=y9
 simp only[Prod.mk.injEq]at hx
 have hw:d.weights Tryz.prog 31=s1.data.toList.length::s2.data.toList.length::s3.data.toList.length::s4.data.toList.length::s5.data.toList.length::d9.weights Tryz.prog 29:=by
  rw[hx.1,DataW.weights];simp only[Tryz.underlying31];simp[DataW.weightsEach,DataW.weights]
 rw[hw]at hk;obtain⟨l,hl,hls,hlw⟩:=open_changes_wX q9 (fun n hn=>hk n (by simp[hn]))
 have z1:s1.size≤reachBytes:=by rw[Lib.size_eq];exact hk _ (by simp)
 have z2:s2.size≤reachBytes:=by rw[Lib.size_eq];exact hk _ (by simp)
 have z3:s3.size≤reachBytes:=by rw[Lib.size_eq];exact hk _ (by simp)
 have z4:s4.size≤reachBytes:=by rw[Lib.size_eq];exact hk _ (by simp)
 have z5:s5.size≤reachBytes:=by rw[Lib.size_eq];exact hk _ (by simp)
 have hag:cs= #[.int .i64 s0,.string s1,.string s2,.string s3,.string s4,.string s5,.int .i64 s6,.int .i64 s7,.int .i64 s8,c9]:=Array.ext' (by simpa using hcs);have hrb:reachBytes=140737488351232:=by decide
 rw[hrb]at z1 z2 z3 z4 z5;exact⟨⟨s0,s1,s2,s3,s4,s5,s6,s7,s8,l⟩,⟨c9,by rw[hag],hl⟩,⟨i64_wf u0,i64_wf u6,i64_wf u7,i64_wf u8,by unfold TxB;simp only;omega,by unfold TxB;simp only;omega,by unfold TxB;simp only;omega,by unfold TxB;simp only;omega,by unfold TxB;simp only;omega,hlw⟩,⟨z1,z2,z3,z4,z5⟩,hls⟩
end Go.Proofs.YtppdfeehhnofaaaGreatDoor
namespace Go.Proofs.YtppdfeehhnofaaaGreatDoor
open Go.ChangeShapes Go.WideShapes Go.RowKit

namespace Pp
def lay (cs:List Value) (o:Obj):Obj:=match o with
 | .cells _ t frozen=> .cells cs.toArray t frozen
 |o=>o
def u8s (l:List Nat):List Value:=l.map fun(n:Nat)=>Value.int .u8 (n:Int)
def pows:List Value:=[.int .u64 1,.int .u64 10,.int .u64 100,.int .u64 1000,.int .u64 10000,.int .u64 100000,.int .u64 1000000,.int .u64 10000000,.int .u64 100000000,.int .u64 1000000000,.int .u64 10000000000,.int .u64 100000000000,.int .u64 1000000000000,.int .u64 10000000000000,.int .u64 100000000000000,.int .u64 1000000000000000,.int .u64 10000000000000000,.int .u64 100000000000000000,.int .u64 1000000000000000000,.int .u64 10000000000000000000]
def tab32:List Value:=u8s [0,1,28,2,29,14,24,3,30,22,20,15,25,17,4,8,31,27,13,23,21,19,16,7,26,12,18,6,11,5,10,9]
def tab64:List Value:=u8s [0,1,56,2,57,49,28,3,61,58,42,50,38,29,17,4,62,47,59,36,45,43,51,22,53,39,33,30,24,18,12,5,63,55,48,27,60,41,37,16,46,35,44,21,52,32,23,11,54,26,40,15,34,20,31,10,25,14,19,9,13,8,7,6]
def erAt (b:Nat):List Value:=[.iface 268 (.pointer (some ⟨b,0,none⟩))]
def tabs (h:Array Obj):Array Obj:=((((h.modify 3 (lay pows)).modify 4 (lay tab32)).modify 5 (lay tab64)).modify 1 (lay (erAt 11))).modify 2 (lay (erAt 12))
def texts:Array Obj:= #[.cells #[.string ⟨#[105,110,118,97,108,105,100,32,115,121,110,116,97,120]⟩] 270,.cells #[.string ⟨#[118,97,108,117,101,32,111,117,116,32,111,102,32,114,97,110,103,101]⟩] 270]
theorem pow_data:(Rows.laid_internal_strconv_uint64pow10:DataW Unit)=Lib.tabData .u64 Lib.pow10Tab:=by kernel_rfl
theorem heap_of_var {W:World} {g:Nat} {s:String} {cs:Array Value} (hg:Tryz.prog.globalNamed s=some g) (h:W.var? Tryz.prog s=some cs):g<W.heap.size:=by
 unfold World.var? at h;rw[hg]at h;simp only[Option.bind_some]at h;rcases Nat.lt_or_ge g W.heap.size with h1|h1
 · exact h1
 · rw[Array.getElem?_eq_none h1]at h;cases h
abbrev laids : List (String × DataW Unit) := [("math/bits.deBruijn32tab", Rows.laid_math_bits_deBruijn32tab), ("math/bits.deBruijn64tab", Rows.laid_math_bits_deBruijn64tab), ("internal/strconv.uint64pow10", Rows.laid_internal_strconv_uint64pow10), ("strconv.ErrRange", Rows.laid_strconv_ErrRange), ("strconv.ErrSyntax", Rows.laid_strconv_ErrSyntax)]
theorem vars_of_laid {W:World} (h:laidMetH Tryz.prog laids W):VarsW W∧5<W.heap.size:=by
 have h':laidMet Tryz.prog laids W:=h;obtain⟨ps,hl,_⟩:=h'
 obtain⟨_,_,_,_,_,_,_,_,_,_,hl1,_⟩:=hl
 obtain⟨g5,_,_,_,_,_,hg5,_,hv5,_,hl2,_⟩:=hl1
 obtain⟨g,t,cs,fuel,p,q,hg,ht,hvar,hd,hl3,_⟩:=hl2
 obtain⟨g2,t2,cs2,f2,p2,q2,hg2,ht2,hvar2,hd2,hl4,_⟩:=hl3
 obtain⟨g1,t1,cs1,f1,p1,q1,hg1,ht1,hvar1,hd1,_,_⟩:=hl4
 refine⟨⟨?_,?_,?_⟩,?_⟩
 · obtain rfl:=Option.some.inj (Tryz.powAt.symm.trans hg)
   obtain rfl:t=259:=Option.some.inj (ht.symm.trans (show(Tryz.prog.globals[3]?).map (·.type)=some 259 by kernel_rfl));rw[pow_data]at hd;unfold PowTab Lib.TabIs;rw[hvar,←Lib.cells_of_tab Tryz.underlying259 (show Tryz.prog.underlying 219=some (.int .u64) by kernel_rfl) (by kernel_rfl) (by kernel_rfl) hd]
 · obtain rfl:=Option.some.inj (Tryz.synAt.symm.trans hg1)
   obtain rfl:t1=101:=Option.some.inj (ht1.symm.trans (show(Tryz.prog.globals[1]?).map (·.type)=some 101 by kernel_rfl));obtain⟨_,u,v,hcs,_⟩:=iface_of_trod Tryz.underlying101 hd1
   exact⟨u,v,by rw[hvar1];congr 1;exact Array.ext' (by simpa using hcs)⟩
 · obtain rfl:=Option.some.inj (Tryz.rngAt.symm.trans hg2)
   obtain rfl:t2=101:=Option.some.inj (ht2.symm.trans (show(Tryz.prog.globals[2]?).map (·.type)=some 101 by kernel_rfl));obtain⟨_,u,v,hcs,_⟩:=iface_of_trod Tryz.underlying101 hd2
   exact⟨u,v,by rw[hvar2];congr 1;exact Array.ext' (by simpa using hcs)⟩
 · obtain rfl := Option.some.inj ((show Tryz.prog.globalNamed "math/bits.deBruijn64tab" = some 5 by kernel_rfl).symm.trans hg5)
   exact heap_of_var (show Tryz.prog.globalNamed "math/bits.deBruijn64tab" = some 5 by kernel_rfl) hv5
end Pp
end Go.Proofs.YtppdfeehhnofaaaGreatDoor
