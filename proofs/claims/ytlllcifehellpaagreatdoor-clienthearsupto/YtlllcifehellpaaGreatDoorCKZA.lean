/- A change that is handed in: its fields, and how great they are. -/
import Derived.Test.YtlllcifehellpaaGreatDoorCKZ
import Derived.Test.YtlllcifehellpaaGreatDoorCKE
import Derived.Test.YtlllcifehellpaaGreatDoorCKH
import Derived.Test.YtlllcifehellpaaGreatDoorCKC
import Derived.Test.YtlllcifehellpaaGreatDoorCKN
import Derived.Test.YtlllcifehellpaaGreatDoorRows
set_option linter.unusedSimpArgs false
set_option linter.unusedVariables false
namespace Go.Proofs.YtlllcifehellpaaGreatDoor
open Go.ChangeShapes Go.WideShapes Go.ChangeAt Go.RowKit

theorem Tryz.cellsC:Tryz.prog.cellsOf 53=5:=by kernel_rfl
theorem list5 {α:Type} {l:List α} (h:l.length=5): ∃a b c d e,l=[a,b,c,d,e]:=by
 rcases l with _|⟨a,_|⟨b,_|⟨c,_|⟨d,_|⟨e,_|⟨f,r⟩⟩⟩⟩⟩⟩
 all_goals first|exact⟨a,b,c,d,e,rfl⟩|(simp at h)
theorem fields5 {H:Type} {enc:TypeId×Value→H} {P:Program} {w:World} {base:Nat} {spare:Nat→Bool} {held:Bool} {t:TypeId} {f0 f1 f2 f3 f4:Field} {fuel:Nat} {cs:List Value} {x:DataW H×List MemPlace} (ht:P.underlying t=some (.struct #[f0,f1,f2,f3,f4])) (h:DataW.trod enc P w base spare held fuel t cs=some x):
    ∃y0 y1 y2 y3 y4 n,x=(.agg [y0.1,y1.1,y2.1,y3.1,y4.1],y0.2++(y1.2++(y2.2++(y3.2++y4.2))))∧cs.length=P.cellsOf t∧DataW.trod enc P w base spare held n f0.type ((cs.drop f0.offset).take (P.cellsOf f0.type))=some y0∧
     DataW.trod enc P w base spare held n f1.type ((cs.drop f1.offset).take (P.cellsOf f1.type))=some y1∧DataW.trod enc P w base spare held n f2.type ((cs.drop f2.offset).take (P.cellsOf f2.type))=some y2∧
     DataW.trod enc P w base spare held n f3.type ((cs.drop f3.offset).take (P.cellsOf f3.type))=some y3∧DataW.trod enc P w base spare held n f4.type ((cs.drop f4.offset).take (P.cellsOf f4.type))=some y4:=by
 obtain⟨xs,n,_,rfl,hl,hlen,hf⟩:=DataW.trod_struct ht h
 match xs,hlen with
 |[y0,y1,y2,y3,y4],_=>exact⟨y0,y1,y2,y3,y4,n,by simp,hl,by simpa using hf 0 f0 rfl,by simpa using hf 1 f1 rfl,by simpa using hf 2 f2 rfl,by simpa using hf 3 f3 rfl,by simpa using hf 4 f4 rfl⟩
def datC {H:Type} (c:Pp.Ch):DataW H:= .agg [.lit (.int .i64 c.k),.lit (.string c.p.data.toList),.lit (.string c.q.data.toList),.lit (.string c.t.data.toList),.lit (.int .i64 c.b)]
theorem bulkC {H:Type} (c:Pp.Ch):Rows.uptoBulk (datC (H:=H) c)=c.p.size+c.q.size+c.t.size+6:=by
 rw[datC,Rows.uptoBulk,Rows.uptoBulkAll,Rows.uptoBulkAll,Rows.uptoBulkAll,Rows.uptoBulkAll,Rows.uptoBulkAll,Rows.uptoBulkAll,Rows.uptoBulk,Rows.uptoBulk,Rows.uptoBulk,Rows.uptoBulk,Rows.uptoBulk,Lib.size_eq,Lib.size_eq,Lib.size_eq]
 · omega
 · intro b h;cases h
 · intro b h;cases h
/-- One change of a list that is handed in. -/
theorem open_ch {H:Type} {enc:TypeId×Value→H} {W:World} {n i:Nat} {a:Addr} {x:DataW H} {pl:List MemPlace} {cs':List Value} (ha:a.spot=none)
    (h1:W.cells? 0 (a.add (i*Tryz.prog.cellsOf 53)) (Tryz.prog.cellsOf 53)=some cs') (h2:DataW.trod enc Tryz.prog W 0 (fun _=>true) true n 53 cs'=some (x,pl)):
    ∃c:Pp.Ch,x=datC c∧a.spot=none∧ChAt W a.block (a.off+i*5) c:=by
 rw[Tryz.cellsC]at h1;obtain⟨_,hlen,hc⟩:=World.cells?_some h1
 obtain⟨y0,y1,y2,y3,y4,n',hx',_,t0,t1,t2,t3,t4⟩:=fields5 Tryz.underlying53 h2
 obtain⟨c0,c1,c2,c3,c4,rfl⟩:=list5 hlen
 have t0':DataW.trod enc Tryz.prog W 0 (fun _=>true) true n' 3 [c0]=some y0:=by simpa[Tryz.cells3]using t0
 have t1':DataW.trod enc Tryz.prog W 0 (fun _=>true) true n' 9 [c1]=some y1:=by simpa[Tryz.cells9]using t1
 have t2':DataW.trod enc Tryz.prog W 0 (fun _=>true) true n' 9 [c2]=some y2:=by simpa[Tryz.cells9]using t2
 have t3':DataW.trod enc Tryz.prog W 0 (fun _=>true) true n' 9 [c3]=some y3:=by simpa[Tryz.cells9]using t3
 have t4':DataW.trod enc Tryz.prog W 0 (fun _=>true) true n' 3 [c4]=some y4:=by simpa[Tryz.cells3]using t4
 obtain⟨s0,e0,g0,_⟩:=DataW.trod_int Tryz.underlying3 t0'
 obtain⟨s1,e1,g1,_⟩:=DataW.trod_string Tryz.underlying9 t1'
 obtain⟨s2,e2,g2,_⟩:=DataW.trod_string Tryz.underlying9 t2'
 obtain⟨s3,e3,g3,_⟩:=DataW.trod_string Tryz.underlying9 t3'
 obtain⟨s4,e4,g4,_⟩:=DataW.trod_int Tryz.underlying3 t4'
 obtain rfl:c0= .int .i64 s0:=by simpa using e0
 obtain rfl:c1= .string s1:=by simpa using e1
 obtain rfl:c2= .string s2:=by simpa using e2
 obtain rfl:c3= .string s3:=by simpa using e3
 obtain rfl:c4= .int .i64 s4:=by simpa using e4
 subst g0;subst g1;subst g2;subst g3;subst g4;simp only[Prod.mk.injEq]at hx';have k0:=hc 0 (by omega);have k1:=hc 1 (by omega);have k2:=hc 2 (by omega);have k3:=hc 3 (by omega);have k4:=hc 4 (by omega);obtain⟨ab,ao,asp⟩:=a
 obtain rfl:asp=none:=ha;refine⟨⟨s0,s1,s2,s3,s4⟩,hx'.1,rfl,?_,?_,?_,?_,?_⟩
 · by_cases hi0:i=0
   · subst hi0;simpa[Addr.add]using k0
   · have hi4:i*5≠0:=by omega
     simpa[Addr.add,hi4]using k0
 · by_cases hi0:i=0
   · subst hi0;simpa[Addr.add]using k1
   · have hi4:i*5≠0:=by omega
     simpa[Addr.add,hi4,Nat.add_assoc]using k1
 · by_cases hi0:i=0
   · subst hi0;simpa[Addr.add]using k2
   · have hi4:i*5≠0:=by omega
     simpa[Addr.add,hi4,Nat.add_assoc]using k2
 · by_cases hi0:i=0
   · subst hi0;simpa[Addr.add]using k3
   · have hi4:i*5≠0:=by omega
     simpa[Addr.add,hi4,Nat.add_assoc]using k3
 · by_cases hi0:i=0
   · subst hi0;simpa[Addr.add]using k4
   · have hi4:i*5≠0:=by omega
     simpa[Addr.add,hi4,Nat.add_assoc]using k4
set_option maxRecDepth 100000 in
theorem open_changes {B:Nat} (hB:B≤1000000000) {H:Type} {enc:TypeId×Value→H} {W:World} {v:Value} {d:DataW H} {p:List MemPlace} {fuel:Nat} (hf:DataW.trod enc Tryz.prog W 0 (fun _=>true) true fuel 23 [v]=some (d,p)) (hk:Rows.uptoBulk d≤B):
    ∃cs:List Pp.Ch,LiesC W v cs∧cs.length≤B∧SizedC B cs:=by
 haveI:Inhabited Pp.Ch:=⟨⟨0,⟨#[]⟩,⟨#[]⟩,⟨#[]⟩,0⟩⟩
 rcases Go.Deep.open_slice Tryz.underlying23 hf with⟨hcs,hx⟩|⟨a,len,cap,m,n,D,Pl,hcs,hb,hl,hm,hmm,hx,hel⟩
 · obtain rfl:v= .slice none 0 0:=by simpa using hcs
   exact⟨[],⟨none,0,rfl,Nat.le_refl _,by simp,fun i hi=>absurd hi (by simp)⟩,by simp,fun e he=>by cases he⟩
 obtain rfl:v= .slice (some a) len cap:=by simpa using hcs
 have hm2:m=cap:=hmm.trans (if_pos rfl);clear hmm;have hd:=(Prod.mk.inj hx).1;clear hx;subst hm2
 have hsp:0<len→a.spot=none:=fun h=>by
  obtain⟨cs',h1,_⟩:=hel 0 (by omega)
  rw[Tryz.cellsC]at h1;obtain⟨_,hlen,hc⟩:=World.cells?_some h1
  obtain⟨c0,c1,c2,c3,c4,rfl⟩:=list5 hlen
  have k0:=hc 0 (by omega);exact spot_none (v:=c0) (by simpa[Addr.add]using k0)
 have each: ∀i,i<len→ ∃e:Pp.Ch,D i=datC e∧a.spot=none∧ChAt W a.block (a.off+i*5) e:=fun i hi=>by
  obtain⟨cs',h1,h2⟩:=hel i (by omega)
  exact open_ch (hsp (by omega)) h1 h2
 obtain⟨E,hE⟩:=Go.Deep.choose_lt each
 have hbk:Rows.uptoBulkAll ((List.range len).map D)≤B:=by
  rw[hd,Rows.uptoBulk]at hk;omega
 refine⟨(List.range len).map E,⟨some a,_,by simp;rfl,by simpa using hl,?_,fun i hi=>?_⟩,?_,fun e he=>?_⟩
 · have:=Bk.len (l:=(List.range len).map D) (fun d hd=>by
    obtain⟨i,hi,rfl⟩:=List.mem_map.1 hd
    rw[(hE i (List.mem_range.1 hi)).1,bulkC];omega)
   simp at this⊢
   omega
 · have hi':i<len:=by simpa using hi
   obtain⟨h1,h2,h3⟩:=hE i hi'
   have hlt:a.block<W.heap.size:=by
    have k:=h3.1;rcases Nat.lt_or_ge a.block W.heap.size with h|h
    · exact h
    · unfold World.cell? at k;rw[Array.getElem?_eq_none h]at k;cases k
   refine⟨a.block,a.off,?_,hlt,by simpa using h3⟩
   rw[←h2]
 · have:=Bk.len (l:=(List.range len).map D) (fun d hd=>by
    obtain⟨i,hi,rfl⟩:=List.mem_map.1 hd
    rw[(hE i (List.mem_range.1 hi)).1,bulkC];omega)
   simp at this⊢
   omega
 · obtain⟨i,hi,rfl⟩:=List.mem_map.1 he
   have h1:=Bk.mem (List.mem_map.2 ⟨i,hi,rfl⟩:D i∈(List.range len).map D);rw[(hE i (List.mem_range.1 hi)).1,bulkC]at h1;refine⟨?_,?_,?_⟩<;>omega
theorem Tryz.cellsCl:Tryz.prog.cellsOf 25=8:=by kernel_rfl
theorem Tryz.cellsClC:Tryz.prog.cellsOf 23=1:=by kernel_rfl
theorem Tryz.cellsClE:Tryz.prog.cellsOf 22=1:=by kernel_rfl
theorem list8 {α:Type} {l:List α} (h:l.length=8): ∃x0 x1 x2 x3 x4 x5 x6 x7,l=[x0,x1,x2,x3,x4,x5,x6,x7]:=by
 rcases l with _|⟨x0,_|⟨x1,_|⟨x2,_|⟨x3,_|⟨x4,_|⟨x5,_|⟨x6,_|⟨x7,_|⟨d,r⟩⟩⟩⟩⟩⟩⟩⟩⟩
 all_goals first|exact⟨x0,x1,x2,x3,x4,x5,x6,x7,rfl⟩|(simp at h)
theorem fields8 {H:Type} {enc:TypeId×Value→H} {P:Program} {w:World} {base:Nat} {spare:Nat→Bool} {held:Bool} {t:TypeId} {f0 f1 f2 f3 f4 f5 f6 f7:Field} {fuel:Nat} {cs:List Value} {x:DataW H×List MemPlace} (ht:P.underlying t=some (.struct #[f0,f1,f2,f3,f4,f5,f6,f7])) (h:DataW.trod enc P w base spare held fuel t cs=some x):
    ∃y0 y1 y2 y3 y4 y5 y6 y7 n pl,x=(.agg [y0.1,y1.1,y2.1,y3.1,y4.1,y5.1,y6.1,y7.1],pl)∧cs.length=P.cellsOf t∧DataW.trod enc P w base spare held n f0.type ((cs.drop f0.offset).take (P.cellsOf f0.type))=some y0∧DataW.trod enc P w base spare held n f1.type ((cs.drop f1.offset).take (P.cellsOf f1.type))=some y1∧DataW.trod enc P w base spare held n f2.type ((cs.drop f2.offset).take (P.cellsOf f2.type))=some y2∧DataW.trod enc P w base spare held n f3.type ((cs.drop f3.offset).take (P.cellsOf f3.type))=some y3∧DataW.trod enc P w base spare held n f4.type ((cs.drop f4.offset).take (P.cellsOf f4.type))=some y4∧DataW.trod enc P w base spare held n f5.type ((cs.drop f5.offset).take (P.cellsOf f5.type))=some y5∧DataW.trod enc P w base spare held n f6.type ((cs.drop f6.offset).take (P.cellsOf f6.type))=some y6∧DataW.trod enc P w base spare held n f7.type ((cs.drop f7.offset).take (P.cellsOf f7.type))=some y7:=by
 obtain⟨xs,n,_,rfl,hl,hlen,hf⟩:=DataW.trod_struct ht h
 match xs,hlen with
 |[y0,y1,y2,y3,y4,y5,y6,y7],_=>exact⟨y0,y1,y2,y3,y4,y5,y6,y7,n,_,rfl,hl,by simpa using hf 0 f0 rfl,by simpa using hf 1 f1 rfl,by simpa using hf 2 f2 rfl,by simpa using hf 3 f3 rfl,by simpa using hf 4 f4 rfl,by simpa using hf 5 f5 rfl,by simpa using hf 6 f6 rfl,by simpa using hf 7 f7 rfl⟩
theorem bulk8 {H:Type} (x0 x1 x2 x3 x4 x5 x6 x7:DataW H):Rows.uptoBulk (.agg [x0,x1,x2,x3,x4,x5,x6,x7])=1+(Rows.uptoBulk x0+(Rows.uptoBulk x1+(Rows.uptoBulk x2+(Rows.uptoBulk x3+(Rows.uptoBulk x4+(Rows.uptoBulk x5+(Rows.uptoBulk x6+(Rows.uptoBulk x7)))))))):=by
 rw[Rows.uptoBulk,Rows.uptoBulkAll,Rows.uptoBulkAll,Rows.uptoBulkAll,Rows.uptoBulkAll,Rows.uptoBulkAll,Rows.uptoBulkAll,Rows.uptoBulkAll,Rows.uptoBulkAll,Rows.uptoBulkAll];omega
set_option maxRecDepth 100000 in
theorem open_client {B:Nat} (hB:B≤1000000000) {H:Type} {enc:TypeId×Value→H} {W:World} {r:Reach} {b0:Nat} {v:Value} {d:DataW H} {pl:List MemPlace} (hv:Value.okWide Tryz.prog W r b0 25 v) (h:DataW.Trod enc Tryz.prog W 0 (fun _=>true) true 25 v d pl) (hk:Rows.uptoBulk d≤B):
    ∃c:Cn,LiesN W v c∧(c.who.size≤B∧c.fo.size≤B∧c.key.size≤B)∧(∀e∈c.base,e.path.size≤B∧e.text.size≤B)∧(∀e∈c.mine,e.path.size≤B∧e.text.size≤B)∧(c.base.length≤B∧c.mine.length≤B):=by
 obtain⟨cs,rfl,hsz⟩:=okWide_struct Tryz.underlying25 hv
 obtain⟨fuel,hf⟩:=h
 have hf':DataW.trod enc Tryz.prog W 0 (fun _=>true) true fuel 25 cs.toList=some (d,pl):=by simpa[Value.cells]using hf
 obtain⟨y0,y1,y2,y3,y4,y5,y6,y7,n',pl',hx,hlen,t0,t1,t2,t3,t4,t5,t6,t7⟩:=fields8 Tryz.underlying25 hf'
 rw[Tryz.cellsCl]at hlen;obtain⟨c0,c1,c2,c3,c4,c5,c6,c7,hcs⟩:=list8 hlen
 rw[hcs]at t0 t1 t2 t3 t4 t5 t6 t7;have q0:DataW.trod enc Tryz.prog W 0 (fun _=>true) true n' 9 [c0]=some y0:=by simpa[Tryz.cells9]using t0
 have q1:DataW.trod enc Tryz.prog W 0 (fun _=>true) true n' 9 [c1]=some y1:=by simpa[Tryz.cells9]using t1
 have q2:DataW.trod enc Tryz.prog W 0 (fun _=>true) true n' 22 [c2]=some y2:=by simpa[Tryz.cellsClE]using t2
 have q3:DataW.trod enc Tryz.prog W 0 (fun _=>true) true n' 3 [c3]=some y3:=by simpa[Tryz.cells3]using t3
 have q4:DataW.trod enc Tryz.prog W 0 (fun _=>true) true n' 22 [c4]=some y4:=by simpa[Tryz.cellsClE]using t4
 have q5:DataW.trod enc Tryz.prog W 0 (fun _=>true) true n' 9 [c5]=some y5:=by simpa[Tryz.cells9]using t5
 have q6:DataW.trod enc Tryz.prog W 0 (fun _=>true) true n' 23 [c6]=some y6:=by simpa[Tryz.cellsClC]using t6
 have q7:DataW.trod enc Tryz.prog W 0 (fun _=>true) true n' 3 [c7]=some y7:=by simpa[Tryz.cells3]using t7
 obtain⟨s0,e0,g0,_⟩:=DataW.trod_string Tryz.underlying9 q0
 obtain rfl:c0= .string s0:=by simpa using e0
 subst g0;obtain⟨s1,e1,g1,_⟩:=DataW.trod_string Tryz.underlying9 q1
 obtain rfl:c1= .string s1:=by simpa using e1
 subst g1;obtain⟨d2,p2⟩:=y2
 obtain⟨s3,e3,g3,_⟩:=DataW.trod_int Tryz.underlying3 q3
 obtain rfl:c3= .int .i64 s3:=by simpa using e3
 subst g3;obtain⟨d4,p4⟩:=y4
 obtain⟨s5,e5,g5,_⟩:=DataW.trod_string Tryz.underlying9 q5
 obtain rfl:c5= .string s5:=by simpa using e5
 subst g5;obtain⟨d6,p6⟩:=y6
 obtain⟨s7,e7,g7,_⟩:=DataW.trod_int Tryz.underlying3 q7
 obtain rfl:c7= .int .i64 s7:=by simpa using e7
 subst g7;simp only[Prod.mk.injEq]at hx;rw[hx.1,bulk8]at hk
 have hb0:Rows.uptoBulk (.lit (.string s0.data.toList):DataW H)=s0.size+1:=by
  rw[Rows.uptoBulk,Lib.size_eq]
 rw[hb0]at hk
 have hb1:Rows.uptoBulk (.lit (.string s1.data.toList):DataW H)=s1.size+1:=by
  rw[Rows.uptoBulk,Lib.size_eq]
 rw[hb1]at hk
 have hb5:Rows.uptoBulk (.lit (.string s5.data.toList):DataW H)=s5.size+1:=by
  rw[Rows.uptoBulk,Lib.size_eq]
 rw[hb5]at hk;obtain⟨L2,hL2,hn2,hs2⟩:=open_tree (B:=B) hB (fuel:=n') q2 (by omega)
 obtain⟨L4,hL4,hn4,hs4⟩:=open_tree (B:=B) hB (fuel:=n') q4 (by omega)
 obtain⟨L6,hL6,hn6,hs6⟩:=open_changes (B:=B) hB q6 (by omega)
 have hag:cs= #[.string s0,.string s1,c2,.int .i64 s3,c4,.string s5,c6,.int .i64 s7]:=Array.ext' (by simpa using hcs);exact⟨⟨s0,s1,L2,s3,L4,s5,L6,s7⟩,⟨c2,c4,c6,by rw[hag],hL2,hL4,hL6⟩,⟨by show s0.size≤B;omega,by show s1.size≤B;omega,by show s5.size≤B;omega⟩,hs2,hs4,⟨by first|exact hn2|omega,by first|exact hn4|omega⟩⟩
theorem Tryz.cellsCo:Tryz.prog.cellsOf 68=3:=by kernel_rfl
theorem Tryz.cellsSC:Tryz.prog.cellsOf 23=1:=by kernel_rfl
theorem Tryz.cellsSO:Tryz.prog.cellsOf 27=1:=by kernel_rfl
theorem Tryz.cellsSE:Tryz.prog.cellsOf 22=1:=by kernel_rfl
theorem list3 {α:Type} {l:List α} (h:l.length=3): ∃a b c,l=[a,b,c]:=by
 rcases l with _|⟨a,_|⟨b,_|⟨c,_|⟨d,r⟩⟩⟩⟩
 all_goals first|exact⟨a,b,c,rfl⟩|(simp at h)
theorem fields3 {H:Type} {enc:TypeId×Value→H} {P:Program} {w:World} {base:Nat} {spare:Nat→Bool} {held:Bool} {t:TypeId} {f0 f1 f2:Field} {fuel:Nat} {cs:List Value} {x:DataW H×List MemPlace} (ht:P.underlying t=some (.struct #[f0,f1,f2])) (h:DataW.trod enc P w base spare held fuel t cs=some x):
    ∃y0 y1 y2 n,x=(.agg [y0.1,y1.1,y2.1],y0.2++(y1.2++y2.2))∧cs.length=P.cellsOf t∧DataW.trod enc P w base spare held n f0.type ((cs.drop f0.offset).take (P.cellsOf f0.type))=some y0∧
     DataW.trod enc P w base spare held n f1.type ((cs.drop f1.offset).take (P.cellsOf f1.type))=some y1∧DataW.trod enc P w base spare held n f2.type ((cs.drop f2.offset).take (P.cellsOf f2.type))=some y2:=by
 obtain⟨xs,n,_,rfl,hl,hlen,hf⟩:=DataW.trod_struct ht h
 match xs,hlen with
 |[y0,y1,y2],_=>exact⟨y0,y1,y2,n,by simp,hl,by simpa using hf 0 f0 rfl,by simpa using hf 1 f1 rfl,by simpa using hf 2 f2 rfl⟩
theorem bulk3 {H:Type} (a b c:DataW H):Rows.uptoBulk (.agg [a,b,c])=1+(Rows.uptoBulk a+(Rows.uptoBulk b+Rows.uptoBulk c)):=by
 rw[Rows.uptoBulk,Rows.uptoBulkAll,Rows.uptoBulkAll,Rows.uptoBulkAll,Rows.uptoBulkAll];omega
set_option maxRecDepth 100000 in
theorem open_co {B:Nat} (hB:B≤1000000000) {H:Type} {enc:TypeId×Value→H} {W:World} {n i:Nat} {a:Addr} {x:DataW H} {pl:List MemPlace} {cs':List Value} (ha:a.spot=none)
    (h1:W.cells? 0 (a.add (i*Tryz.prog.cellsOf 68)) (Tryz.prog.cellsOf 68)=some cs') (h2:DataW.trod enc Tryz.prog W 0 (fun _=>true) true n 68 cs'=some (x,pl)) (hk:Rows.uptoBulk x≤B):
    ∃c:Co,(1≤Rows.uptoBulk x∧c.ke.size≤B∧SizedC B c.ch)∧a.spot=none∧CoAt W a.block (a.off+i*3) c:=by
 rw[Tryz.cellsCo]at h1;obtain⟨_,hlen,hc⟩:=World.cells?_some h1
 obtain⟨y0,y1,y2,n',hx',_,t0,t1,t2⟩:=fields3 Tryz.underlying68 h2
 obtain⟨c0,c1,c2,rfl⟩:=list3 hlen
 have t0':DataW.trod enc Tryz.prog W 0 (fun _=>true) true n' 3 [c0]=some y0:=by simpa[Tryz.cells3]using t0
 have t1':DataW.trod enc Tryz.prog W 0 (fun _=>true) true n' 9 [c1]=some y1:=by simpa[Tryz.cells9]using t1
 have t2':DataW.trod enc Tryz.prog W 0 (fun _=>true) true n' 23 [c2]=some y2:=by simpa[Tryz.cellsSC]using t2
 obtain⟨s0,e0,g0,_⟩:=DataW.trod_int Tryz.underlying3 t0'
 obtain⟨s1,e1,g1,_⟩:=DataW.trod_string Tryz.underlying9 t1'
 obtain rfl:c0= .int .i64 s0:=by simpa using e0
 obtain rfl:c1= .string s1:=by simpa using e1
 subst g0;subst g1;obtain⟨d2,p2⟩:=y2
 simp only[Prod.mk.injEq]at hx';have hbx:=hk;rw[hx'.1,bulk3]at hk
 have hb1:Rows.uptoBulk (.lit (.string s1.data.toList):DataW H)=s1.size+1:=by
  rw[Rows.uptoBulk,Lib.size_eq]
 rw[hb1]at hk;obtain⟨l,hl,_,hls⟩:=open_changes (B:=B) hB t2' (by omega)
 have k0:=hc 0 (by omega);have k1:=hc 1 (by omega);have k2:=hc 2 (by omega);obtain⟨ab,ao,asp⟩:=a
 obtain rfl:asp=none:=ha;refine⟨⟨s0,s1,l⟩,⟨by rw[hx'.1,bulk3];omega,by show s1.size≤B;omega,hls⟩,rfl,?_,?_,c2,?_,hl⟩
 · by_cases hi0:i=0
   · subst hi0;simpa[Addr.add]using k0
   · have hi4:i*3≠0:=by omega
     simpa[Addr.add,hi4]using k0
 · by_cases hi0:i=0
   · subst hi0;simpa[Addr.add]using k1
   · have hi4:i*3≠0:=by omega
     simpa[Addr.add,hi4,Nat.add_assoc]using k1
 · by_cases hi0:i=0
   · subst hi0;simpa[Addr.add]using k2
   · have hi4:i*3≠0:=by omega
     simpa[Addr.add,hi4,Nat.add_assoc]using k2
set_option maxRecDepth 100000 in
theorem open_commits {B:Nat} (hB:B≤1000000000) {H:Type} {enc:TypeId×Value→H} {W:World} {v:Value} {d:DataW H} {p:List MemPlace} {fuel:Nat} (hf:DataW.trod enc Tryz.prog W 0 (fun _=>true) true fuel 27 [v]=some (d,p)) (hk:Rows.uptoBulk d≤B):
    ∃l:List Co,LiesO W v l∧l.length≤B∧SizedO B l:=by
 haveI:Inhabited Co:=⟨⟨0,⟨#[]⟩,[]⟩⟩
 rcases Go.Deep.open_slice Tryz.underlying27 hf with⟨hcs,hx⟩|⟨a,len,cap,m,n,D,Pl,hcs,hb,hl,hm,hmm,hx,hel⟩
 · obtain rfl:v= .slice none 0 0:=by simpa using hcs
   exact⟨[],liesO_nil _,by simp,fun e he=>by cases he⟩
 obtain rfl:v= .slice (some a) len cap:=by simpa using hcs
 have hm2:m=cap:=hmm.trans (if_pos rfl);clear hmm;have hd:=(Prod.mk.inj hx).1;clear hx;subst hm2
 have hbk:Rows.uptoBulkAll ((List.range len).map D)≤B:=by
  rw[hd,Rows.uptoBulk]at hk;omega
 have hsp:0<len→a.spot=none:=fun h=>by
  obtain⟨cs',h1,_⟩:=hel 0 (by omega)
  rw[Tryz.cellsCo]at h1;obtain⟨_,hlen,hc⟩:=World.cells?_some h1
  obtain⟨c0,c1,c2,rfl⟩:=list3 hlen
  have k0:=hc 0 (by omega);exact spot_none (v:=c0) (by simpa[Addr.add]using k0)
 have each: ∀i,i<len→ ∃e:Co,(1≤Rows.uptoBulk (D i)∧e.ke.size≤B∧SizedC B e.ch)∧a.spot=none∧CoAt W a.block (a.off+i*3) e:=fun i hi=>by
  obtain⟨cs',h1,h2⟩:=hel i (by omega)
  exact open_co hB (hsp (by omega)) h1 h2 (Nat.le_trans (Bk.mem (List.mem_map.2 ⟨i,List.mem_range.2 hi,rfl⟩)) hbk)
 obtain⟨E,hE⟩:=Go.Deep.choose_lt each
 have hlb:=Bk.len (l:=(List.range len).map D) (fun d hd=>by
  obtain⟨i,hi,rfl⟩:=List.mem_map.1 hd
  exact(hE i (List.mem_range.1 hi)).1.1)
 simp only[List.length_map,List.length_range]at hlb;refine⟨(List.range len).map E,⟨some a,_,by simp;rfl,by simpa using hl,by simp;omega,fun i hi=>?_⟩,by simp;omega,fun e he=>?_⟩
 · have hi':i<len:=by simpa using hi
   obtain⟨h1,h2,h3⟩:=hE i hi'
   have hlt:a.block<W.heap.size:=by
    have k:=h3.1;rcases Nat.lt_or_ge a.block W.heap.size with h|h
    · exact h
    · unfold World.cell? at k;rw[Array.getElem?_eq_none h]at k;cases k
   refine⟨a.block,a.off,?_,hlt,by simpa using h3⟩
   rw[←h2]
 · obtain⟨i,hi,rfl⟩:=List.mem_map.1 he
   exact(hE i (List.mem_range.1 hi)).1.2
theorem Tryz.cellsPg:Tryz.prog.cellsOf 29=5:=by kernel_rfl
theorem bulk5 {H:Type} (a b c d e:DataW H):Rows.uptoBulk (.agg [a,b,c,d,e])=1+(Rows.uptoBulk a+(Rows.uptoBulk b+(Rows.uptoBulk c+(Rows.uptoBulk d+Rows.uptoBulk e)))):=by
 rw[Rows.uptoBulk,Rows.uptoBulkAll,Rows.uptoBulkAll,Rows.uptoBulkAll,Rows.uptoBulkAll,Rows.uptoBulkAll,Rows.uptoBulkAll];omega
set_option maxRecDepth 100000 in
theorem open_page_at {B:Nat} (hB:B≤1000000000) {H:Type} {enc:TypeId×Value→H} {W:World} {cs:List Value} {d:DataW H} {pl:List MemPlace} {fuel:Nat} (hf':DataW.trod enc Tryz.prog W 0 (fun _=>true) true fuel 29 cs=some (d,pl)) (hk:Rows.uptoBulk d≤B):
    ∃(P:Pg) (vt vc:Value),cs=[.bool P.reset,vt,vc,.int .i64 P.cur,.bool P.more]∧Lies W vt P.tree∧LiesO W vc P.cos∧P.cos.length≤B∧SizedO B P.cos∧ ∀e∈P.tree,e.path.size≤B∧e.text.size≤B:=by
 obtain⟨y0,y1,y2,y3,y4,n',hx,hlen,t0,t1,t2,t3,t4⟩:=fields5 Tryz.underlying29 hf'
 rw[Tryz.cellsPg]at hlen;obtain⟨c0,c1,c2,c3,c4,hcs⟩:=list5 hlen
 rw[hcs]at t0 t1 t2 t3 t4;have t0':DataW.trod enc Tryz.prog W 0 (fun _=>true) true n' 4 [c0]=some y0:=by simpa[Tryz.cells4]using t0
 have t1':DataW.trod enc Tryz.prog W 0 (fun _=>true) true n' 22 [c1]=some y1:=by simpa[Tryz.cellsSE]using t1
 have t2':DataW.trod enc Tryz.prog W 0 (fun _=>true) true n' 27 [c2]=some y2:=by simpa[Tryz.cellsSO]using t2
 have t3':DataW.trod enc Tryz.prog W 0 (fun _=>true) true n' 3 [c3]=some y3:=by simpa[Tryz.cells3]using t3
 have t4':DataW.trod enc Tryz.prog W 0 (fun _=>true) true n' 4 [c4]=some y4:=by simpa[Tryz.cells4]using t4
 obtain⟨s0,e0,g0⟩:=DataW.trod_bool Tryz.underlying4 t0'
 obtain⟨s3,e3,g3,_⟩:=DataW.trod_int Tryz.underlying3 t3'
 obtain⟨s4,e4,g4⟩:=DataW.trod_bool Tryz.underlying4 t4'
 obtain rfl:c0= .bool s0:=by simpa using e0
 obtain rfl:c3= .int .i64 s3:=by simpa using e3
 obtain rfl:c4= .bool s4:=by simpa using e4
 subst g0;subst g3;subst g4;obtain⟨d1,p1⟩:=y1
 obtain⟨d2,p2⟩:=y2
 simp only[Prod.mk.injEq]at hx;rw[hx.1,bulk5]at hk;obtain⟨L,hL,_,hLs⟩:=open_tree (B:=B) hB (fuel:=n') t1' (by omega)
 obtain⟨l,hl,hll,hls⟩:=open_commits (B:=B) hB t2' (by omega)
 exact⟨⟨s0,L,l,s3,s4⟩,c1,c2,hcs,hL,hl,hll,hls,hLs⟩
theorem Tryz.cellsAn:Tryz.prog.cellsOf 31=7:=by kernel_rfl
theorem Tryz.cellsEr:Tryz.prog.cellsOf 26=1:=by kernel_rfl
theorem Tryz.undEr:Tryz.prog.underlying 26=some (.int .i64):=by kernel_rfl
set_option maxRecDepth 100000 in
theorem open_answer {B:Nat} (hB:B≤1000000000) {H:Type} {enc:TypeId×Value→H} {W:World} {r:Reach} {b0:Nat} {v:Value} {d:DataW H} {pl:List MemPlace} (hv:Value.okWide Tryz.prog W r b0 31 v) (h:DataW.Trod enc Tryz.prog W 0 (fun _=>true) true 31 v d pl) (hk:Rows.uptoBulk d≤B):
    ∃a:An,LiesA W v a∧SizedO B a.pg.cos∧ ∀e∈a.pg.tree,e.path.size≤B∧e.text.size≤B:=by
 obtain⟨cs,rfl,hsz⟩:=okWide_struct Tryz.underlying31 hv
 obtain⟨fuel,hf⟩:=h
 have hf':DataW.trod enc Tryz.prog W 0 (fun _=>true) true fuel 31 cs.toList=some (d,pl):=by simpa[Value.cells]using hf
 obtain⟨y0,y1,y2,n',hx,hlen,t0,t1,t2⟩:=fields3 Tryz.underlying31 hf'
 rw[Tryz.cellsAn]at hlen
 obtain⟨c0,c1,rest,hcs⟩: ∃c0 c1 rest,cs.toList=c0::c1::rest:=by
  rcases hl:cs.toList with _|⟨a,_|⟨b,r⟩⟩
  · rw[hl]at hlen;simp at hlen
  · rw[hl]at hlen;simp at hlen
  · exact⟨a,b,r,rfl⟩
 rw[hcs]at t0 t1 t2 hlen;have hr5:rest.length=5:=by simpa using hlen
 have t0':DataW.trod enc Tryz.prog W 0 (fun _=>true) true n' 26 [c0]=some y0:=by simpa[Tryz.cellsEr]using t0
 have t1':DataW.trod enc Tryz.prog W 0 (fun _=>true) true n' 3 [c1]=some y1:=by simpa[Tryz.cells3]using t1
 have t2':DataW.trod enc Tryz.prog W 0 (fun _=>true) true n' 29 rest=some y2:=by simpa[Tryz.cellsPg,List.take_of_length_le,hr5]using t2
 obtain⟨s0,e0,g0,_⟩:=DataW.trod_int Tryz.undEr t0'
 obtain⟨s1,e1,g1,_⟩:=DataW.trod_int Tryz.underlying3 t1'
 obtain rfl:c0= .int .i64 s0:=by simpa using e0
 obtain rfl:c1= .int .i64 s1:=by simpa using e1
 subst g0;subst g1;obtain⟨d2,p2⟩:=y2
 simp only[Prod.mk.injEq]at hx;rw[hx.1,bulk3]at hk;obtain⟨P,vt,vc,hps,h1,h2,_,h4,h5⟩:=open_page_at (B:=B) hB t2' (by omega)
 have hag:cs= #[.int .i64 s0,.int .i64 s1,.bool P.reset,vt,vc,.int .i64 P.cur,.bool P.more]:=Array.ext' (by rw[hcs,hps]);exact⟨⟨s0,s1,P⟩,⟨vt,vc,by rw[hag],h1,h2⟩,h4,h5⟩
end Go.Proofs.YtlllcifehellpaaGreatDoor
namespace Go.Proofs.YtlllcifehellpaaGreatDoor.Pp
def lay (cs:List Value) (o:Obj):Obj:=match o with
 | .cells _ t frozen=> .cells cs.toArray t frozen
 |o=>o
def u8s (l:List Nat):List Value:=l.map fun(n:Nat)=>Value.int .u8 (n:Int)
def pows:List Value:=[.int .u64 1,.int .u64 10,.int .u64 100,.int .u64 1000,.int .u64 10000,.int .u64 100000,.int .u64 1000000,.int .u64 10000000,.int .u64 100000000,.int .u64 1000000000,.int .u64 10000000000,.int .u64 100000000000,.int .u64 1000000000000,.int .u64 10000000000000,.int .u64 100000000000000,.int .u64 1000000000000000,.int .u64 10000000000000000,.int .u64 100000000000000000,.int .u64 1000000000000000000,.int .u64 10000000000000000000]
def tab32:List Value:=u8s [0,1,28,2,29,14,24,3,30,22,20,15,25,17,4,8,31,27,13,23,21,19,16,7,26,12,18,6,11,5,10,9]
def tab64:List Value:=u8s [0,1,56,2,57,49,28,3,61,58,42,50,38,29,17,4,62,47,59,36,45,43,51,22,53,39,33,30,24,18,12,5,63,55,48,27,60,41,37,16,46,35,44,21,52,32,23,11,54,26,40,15,34,20,31,10,25,14,19,9,13,8,7,6]
def ranges:List Value:=u8s [128,191,160,191,128,159,144,191,128,143,0,0,0,0,0,0,0,0,0,0,0,0,0,0,0,0,0,0,0,0,0,0]
def tabs (h:Array Obj):Array Obj:=((((h.modify 0 (lay pows)).modify 2 (lay tab32)).modify 3 (lay tab64)).modify 4 (lay (u8s Go.Pinned.utf8FirstZ))).modify 5 (lay ranges)
end Go.Proofs.YtlllcifehellpaaGreatDoor.Pp
