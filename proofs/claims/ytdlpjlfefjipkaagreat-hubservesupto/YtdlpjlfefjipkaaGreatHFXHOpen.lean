/- Hubs and requests that are handed in: what lies there, and how great it is. -/
import Derived.Test.YtdlpjlfefjipkaaGreatHFZQ
set_option linter.unusedSimpArgs false
set_option linter.unusedVariables false
namespace Go.Proofs.YtdlpjlfefjipkaaGreat
open Go.ChangeShapes Go.WideShapes Go.ChangeAt Go.RowKit Go.Proofs.Tryz
set_option maxRecDepth 100000
theorem Tryz.cellsSh:prog.cellsOf 59=4:=by kernel_rfl
theorem Tryz.cellsHub:prog.cellsOf 28=7:=by kernel_rfl
theorem Tryz.cellsHJo:prog.cellsOf 57=3:=by kernel_rfl
theorem Tryz.cellsHUp:prog.cellsOf 26=4:=by kernel_rfl
theorem Tryz.cellsRq:prog.cellsOf 31=10:=by kernel_rfl
theorem Tryz.cellsLF:prog.cellsOf 22=1:=by kernel_rfl
theorem Tryz.cellsLG:prog.cellsOf 23=1:=by kernel_rfl
theorem Tryz.cellsLSe:prog.cellsOf 24=1:=by kernel_rfl
theorem wT {a:Type} {l:List a} (h:l.length=4): ∃c f g i,l=[c,f,g,i]:=by
 rcases l with _|⟨c,_|⟨f,_|⟨g,_|⟨i,_|⟨d,r⟩⟩⟩⟩⟩
 all_goals first|exact⟨c,f,g,i,rfl⟩|(simp at h)
theorem Ep {a:Type} {l:List a} (h:l.length=7): ∃c f g i j o s,l=[c,f,g,i,j,o,s]:=by
 rcases l with _|⟨c,_|⟨f,_|⟨g,_|⟨i,_|⟨j,_|⟨o,_|⟨s,_|⟨d,r⟩⟩⟩⟩⟩⟩⟩⟩
 all_goals first|exact⟨c,f,g,i,j,o,s,rfl⟩|(simp at h)
theorem Er {a:Type} {l:List a} (h:l.length=10): ∃c f g i j o s u v x,l=[c,f,g,i,j,o,s,u,v,x]:=by
 rcases l with _|⟨c,_|⟨f,_|⟨g,_|⟨i,_|⟨j,_|⟨o,_|⟨s,_|⟨u,_|⟨v,_|⟨x,_|⟨d,r⟩⟩⟩⟩⟩⟩⟩⟩⟩⟩⟩
 all_goals first|exact⟨c,f,g,i,j,o,s,u,v,x,rfl⟩|(simp at h)
theorem Es {H:Type} {enc:TypeId×Value→H} {P:Program} {w:World} {base:Nat} {a:Nat→Bool} {c:Bool} {t:TypeId} {d f:Field} {fuel:Nat} {cs:List Value} {x:DataW H×List MemPlace} (u:P.underlying t=some (.struct #[d,f])) (h:DataW.trod enc P w base a c fuel t cs=some x):
    ∃i j n v,x=(.agg [i.1,j.1],v)∧cs.length=P.cellsOf t∧DataW.trod enc P w base a c n d.type ((cs.drop d.offset).take (P.cellsOf d.type))=some i∧DataW.trod enc P w base a c n f.type ((cs.drop f.offset).take (P.cellsOf f.type))=some j:=by
 obtain⟨z,n,_,rfl,s,g,o⟩:=DataW.trod_struct u h
 match z,g with
 |[i,j],_=>exact⟨i,j,n,_,rfl,s,by simpa using o 0 d rfl,by simpa using o 1 f rfl⟩
theorem wU {H:Type} (a c:DataW H):Rows.uptoBulk (.agg [a,c])=1+(Rows.uptoBulk a+(Rows.uptoBulk c)):=by
 rw[Rows.uptoBulk,Rows.uptoBulkAll,Rows.uptoBulkAll,Rows.uptoBulkAll];omega
theorem Et {H:Type} {enc:TypeId×Value→H} {P:Program} {w:World} {base:Nat} {a:Nat→Bool} {c:Bool} {t:TypeId} {d f f2:Field} {fuel:Nat} {cs:List Value} {x:DataW H×List MemPlace} (v:P.underlying t=some (.struct #[d,f,f2])) (h:DataW.trod enc P w base a c fuel t cs=some x):
    ∃i j o n z,x=(.agg [i.1,j.1,o.1],z)∧cs.length=P.cellsOf t∧DataW.trod enc P w base a c n d.type ((cs.drop d.offset).take (P.cellsOf d.type))=some i∧DataW.trod enc P w base a c n f.type ((cs.drop f.offset).take (P.cellsOf f.type))=some j∧DataW.trod enc P w base a c n f2.type ((cs.drop f2.offset).take (P.cellsOf f2.type))=some o:=by
 obtain⟨A,n,_,rfl,u,g,s⟩:=DataW.trod_struct v h
 match A,g with
 |[i,j,o],_=>exact⟨i,j,o,n,_,rfl,u,by simpa using s 0 d rfl,by simpa using s 1 f rfl,by simpa using s 2 f2 rfl⟩
theorem Eu {H:Type} (a c d:DataW H):Rows.uptoBulk (.agg [a,c,d])=1+(Rows.uptoBulk a+(Rows.uptoBulk c+(Rows.uptoBulk d))):=by
 rw[Rows.uptoBulk,Rows.uptoBulkAll,Rows.uptoBulkAll,Rows.uptoBulkAll,Rows.uptoBulkAll];omega
theorem wV {H:Type} {enc:TypeId×Value→H} {P:Program} {w:World} {base:Nat} {a:Nat→Bool} {c:Bool} {t:TypeId} {d f f2 g:Field} {fuel:Nat} {cs:List Value} {x:DataW H×List MemPlace} (A:P.underlying t=some (.struct #[d,f,f2,g])) (h:DataW.trod enc P w base a c fuel t cs=some x):
    ∃o s u v n B,x=(.agg [o.1,s.1,u.1,v.1],B)∧cs.length=P.cellsOf t∧DataW.trod enc P w base a c n d.type ((cs.drop d.offset).take (P.cellsOf d.type))=some o∧DataW.trod enc P w base a c n f.type ((cs.drop f.offset).take (P.cellsOf f.type))=some s∧DataW.trod enc P w base a c n f2.type ((cs.drop f2.offset).take (P.cellsOf f2.type))=some u∧DataW.trod enc P w base a c n g.type ((cs.drop g.offset).take (P.cellsOf g.type))=some v:=by
 obtain⟨C,n,_,rfl,z,i,j⟩:=DataW.trod_struct A h
 match C,i with
 |[o,s,u,v],_=>exact⟨o,s,u,v,n,_,rfl,z,by simpa using j 0 d rfl,by simpa using j 1 f rfl,by simpa using j 2 f2 rfl,by simpa using j 3 g rfl⟩
theorem wW {H:Type} (a c d f:DataW H):Rows.uptoBulk (.agg [a,c,d,f])=1+(Rows.uptoBulk a+(Rows.uptoBulk c+(Rows.uptoBulk d+(Rows.uptoBulk f)))):=by
 rw[Rows.uptoBulk,Rows.uptoBulkAll,Rows.uptoBulkAll,Rows.uptoBulkAll,Rows.uptoBulkAll,Rows.uptoBulkAll];omega
theorem Ev {H:Type} {enc:TypeId×Value→H} {P:Program} {w:World} {base:Nat} {a:Nat→Bool} {c:Bool} {t:TypeId} {f g f2 i f4 j o f7 s u:Field} {fuel:Nat} {cs:List Value} {x:DataW H×List MemPlace} (N:P.underlying t=some (.struct #[f,g,f2,i,f4,j,o,f7,s,u])) (h:DataW.trod enc P w base a c fuel t cs=some x):
    ∃z A B C E F G I J K n O,x=(.agg [z.1,A.1,B.1,C.1,E.1,F.1,G.1,I.1,J.1,K.1],O)∧cs.length=P.cellsOf t∧DataW.trod enc P w base a c n f.type ((cs.drop f.offset).take (P.cellsOf f.type))=some z∧DataW.trod enc P w base a c n g.type ((cs.drop g.offset).take (P.cellsOf g.type))=some A∧DataW.trod enc P w base a c n f2.type ((cs.drop f2.offset).take (P.cellsOf f2.type))=some B∧DataW.trod enc P w base a c n i.type ((cs.drop i.offset).take (P.cellsOf i.type))=some C∧DataW.trod enc P w base a c n f4.type ((cs.drop f4.offset).take (P.cellsOf f4.type))=some E∧DataW.trod enc P w base a c n j.type ((cs.drop j.offset).take (P.cellsOf j.type))=some F∧DataW.trod enc P w base a c n o.type ((cs.drop o.offset).take (P.cellsOf o.type))=some G∧DataW.trod enc P w base a c n f7.type ((cs.drop f7.offset).take (P.cellsOf f7.type))=some I∧DataW.trod enc P w base a c n s.type ((cs.drop s.offset).take (P.cellsOf s.type))=some J∧DataW.trod enc P w base a c n u.type ((cs.drop u.offset).take (P.cellsOf u.type))=some K:=by
 obtain⟨Q,n,_,rfl,M,v,d⟩:=DataW.trod_struct N h
 match Q,v with
 |[z,A,B,C,E,F,G,I,J,K],_=>exact⟨z,A,B,C,E,F,G,I,J,K,n,_,rfl,M,by simpa using d 0 f rfl,by simpa using d 1 g rfl,by simpa using d 2 f2 rfl,by simpa using d 3 i rfl,by simpa using d 4 f4 rfl,by simpa using d 5 j rfl,by simpa using d 6 o rfl,by simpa using d 7 f7 rfl,by simpa using d 8 s rfl,by simpa using d 9 u rfl⟩
theorem Ew {H:Type} (a c d f g i j o s u:DataW H):Rows.uptoBulk (.agg [a,c,d,f,g,i,j,o,s,u])=1+(Rows.uptoBulk a+(Rows.uptoBulk c+(Rows.uptoBulk d+(Rows.uptoBulk f+(Rows.uptoBulk g+(Rows.uptoBulk i+(Rows.uptoBulk j+(Rows.uptoBulk o+(Rows.uptoBulk s+(Rows.uptoBulk u)))))))))):=by
 rw[Rows.uptoBulk,Rows.uptoBulkAll,Rows.uptoBulkAll,Rows.uptoBulkAll,Rows.uptoBulkAll,Rows.uptoBulkAll,Rows.uptoBulkAll,Rows.uptoBulkAll,Rows.uptoBulkAll,Rows.uptoBulkAll,Rows.uptoBulkAll,Rows.uptoBulkAll];omega
theorem lF {H:Type} (s:ByteArray):Rows.uptoBulk (.lit (.string s.data.toList):DataW H)=s.size+1:=by rw[Rows.uptoBulk,Lib.size_eq]
theorem Ex {B:Nat} (Q:B≤1000000000) {H:Type} {enc:TypeId×Value→H} {W:World} {n i:Nat} {a:Addr} {x:DataW H} {pl:List MemPlace} {j:List Value} (ha:a.spot=none)
    (P:W.cells? 0 (a.add (i*prog.cellsOf 59)) (prog.cellsOf 59)=some j) (h2:DataW.trod enc prog W 0 (fun _=>true) true n 59 j=some (x,pl)) (R:Rows.uptoBulk x≤B):
    ∃s:Sh,(1≤Rows.uptoBulk x∧s.na.size≤B∧(∀e∈s.jo.base,e.path.size≤B∧e.text.size≤B)∧dm B s.jo.cos)∧a.spot=none∧gQ W a.block (a.off+i*4) s:=by
 rw[Tryz.cellsSh]at P;obtain⟨_,o,u⟩:=World.cells?_some P
 obtain⟨y0,y1,X,E1,g,_,t0,t1⟩:=Es underlying59 h2
 obtain⟨O,z,c2,c3,rfl⟩:=wT o
 have I:DataW.trod enc prog W 0 (fun _=>true) true X 9 [O]=some y0:=by simpa[Tryz.cells9]using t0
 have J:DataW.trod enc prog W 0 (fun _=>true) true X 57 [z,c2,c3]=some y1:=by simpa[Tryz.cellsHJo]using t1
 obtain⟨G,e0,g0,_⟩:=DataW.trod_string underlying9 I
 obtain rfl:O= .string G:=by simpa using e0
 subst g0;obtain⟨z0,z1,z2,f,Y,F,_,u0,u1,u2⟩:=Et underlying57 J
 have K:DataW.trod enc prog W 0 (fun _=>true) true f 33 [z]=some z0:=by simpa[Tryz.cellsSE]using u0
 have M:DataW.trod enc prog W 0 (fun _=>true) true f 3 [c2]=some z1:=by simpa[Tryz.cells3]using u1
 have N:DataW.trod enc prog W 0 (fun _=>true) true f 34 [c3]=some z2:=by simpa[Tryz.cellsSO]using u2
 obtain⟨Z,e2,g2,_⟩:=DataW.trod_int underlying3 M
 obtain rfl:c2= .int .i64 Z:=by simpa using e2
 subst g2;obtain⟨d0,p0⟩:=z0
 obtain⟨d2,p2⟩:=z2
 subst F;simp only[Prod.mk.injEq]at g;have E0:=R;rw[g.1,wU,lF,Eu]at R;obtain⟨L,hL,_,A⟩:=yt (B:=B) Q (fuel:=f) K (by omega)
 obtain⟨l,hl,_,C⟩:=Di (B:=B) Q N (by omega)
 have E:G.size≤B:=by omega
 have S:=u 0 (by omega);have T:=u 1 (by omega);have U:=u 2 (by omega);have V:=u 3 (by omega);obtain⟨ab,ao,v⟩:=a
 obtain rfl:v=none:=ha;refine⟨⟨G,⟨L,Z,l⟩⟩,⟨by rw[g.1,wU];omega,E,A,C⟩,rfl,?_,z,c3,?_,?_,?_,hL,hl⟩
 · by_cases c:i=0
   · subst c;simpa[Addr.add]using S
   · have d:i*4≠0:=by omega
     simpa[Addr.add,d]using S
 · by_cases c:i=0
   · subst c;simpa[Addr.add]using T
   · have d:i*4≠0:=by omega
     simpa[Addr.add,d,Nat.add_assoc]using T
 · by_cases c:i=0
   · subst c;simpa[Addr.add]using U
   · have d:i*4≠0:=by omega
     simpa[Addr.add,d,Nat.add_assoc]using U
 · by_cases c:i=0
   · subst c;simpa[Addr.add]using V
   · have d:i*4≠0:=by omega
     simpa[Addr.add,d,Nat.add_assoc]using V
theorem Ey {B:Nat} (T:B≤1000000000) {H:Type} {enc:TypeId×Value→H} {W:World} {v:Value} {d:DataW H} {p:List MemPlace} {fuel:Nat} (V:DataW.trod enc prog W 0 (fun _=>true) true fuel 22 [v]=some (d,p)) (X:Rows.uptoBulk d≤B):
    ∃l:List Sh,cR W v l∧ ∀s∈l,s.na.size≤B∧(∀e∈s.jo.base,e.path.size≤B∧e.text.size≤B)∧dm B s.jo.cos:=by
 haveI:Inhabited Sh:=⟨⟨⟨#[]⟩,⟨[],0,[]⟩⟩⟩
 rcases Go.Deep.open_slice underlying22 V with⟨c,Q⟩|⟨a,len,g,m,n,D,Pl,c,hb,Y,hm,z,Q,u⟩
 · obtain rfl:v= .slice none 0 0:=by simpa using c
   exact⟨[],qj _,fun e I=>by cases I⟩
 obtain rfl:v= .slice (some a) len g:=by simpa using c
 have O:m=g:=z.trans (if_pos rfl);clear z;have G:=(Prod.mk.inj Q).1;clear Q;subst O
 have P:0<len→a.spot=none:=fun h=>by
  obtain⟨A,o,_⟩:=u 0 (by omega)
  rw[Tryz.cellsSh]at o;obtain⟨_,x,U⟩:=World.cells?_some o
  obtain⟨S,c1,c2,c3,rfl⟩:=wT x
  have Z:=U 0 (by omega);exact nf (v:=S) (by simpa[Addr.add]using Z)
 have F:Rows.uptoBulkAll ((List.range len).map D)≤B:=by
  rw[G,Rows.uptoBulk]at X;omega
 have j: ∀i,i<len→ ∃s:Sh,(1≤Rows.uptoBulk (D i)∧s.na.size≤B∧(∀e∈s.jo.base,e.path.size≤B∧e.text.size≤B)∧dm B s.jo.cos)∧a.spot=none∧gQ W a.block (a.off+i*4) s:=fun i f=>by
  obtain⟨A,o,C⟩:=u i (by omega)
  exact Ex T (P (by omega)) o C (Nat.le_trans (Bk.mem (List.mem_map.2 ⟨i,List.mem_range.2 f,rfl⟩)) F)
 obtain⟨E,hE⟩:=Go.Deep.choose_lt j
 have K:=Bk.len (l:=(List.range len).map D) (fun d G=>by
  obtain⟨i,f,rfl⟩:=List.mem_map.1 G
  exact(hE i (List.mem_range.1 f)).1.1)
 simp only[List.length_map,List.length_range]at K;have M:len≤1000000000000000:=by omega
 refine⟨(List.range len).map E,⟨some a,_,by simp;rfl,by simpa using Y,by simpa using M,fun i f=>?_⟩,fun e I=>?_⟩
 · have J:i<len:=by simpa using f
   obtain⟨o,C,R⟩:=hE i J
   have N:a.block<W.heap.size:=by
    have k:=R.1;rcases Nat.lt_or_ge a.block W.heap.size with h|h
    · exact h
    · unfold World.cell? at k;rw[Array.getElem?_eq_none h]at k;cases k
   refine⟨a.block,a.off,?_,N,by simpa using R⟩
   rw[←C]
 · obtain⟨i,f,rfl⟩:=List.mem_map.1 I
   exact(hE i (List.mem_range.1 f)).1.2
theorem Ez {B:Nat} (hB:B≤1000000000) {H:Type} {enc:TypeId×Value→H} {W:World} {cs:Array Value} {d:DataW H} {pl:List MemPlace} {fuel:Nat} (z:DataW.trod enc prog W 0 (fun _=>true) true fuel 28 cs.toList=some (d,pl)) (hk:Rows.uptoBulk d≤B) (f: ∀n∈d.weights prog 28,n≤reachBytes):
    ∃h:Hb,aX W (.agg cs) h∧(∀s∈h.fos,s.na.size≤B∧(∀e∈s.jo.base,e.path.size≤B∧e.text.size≤B)∧dm B s.jo.cos)∧eu h.gs∧bq h.ss:=by
 obtain⟨U,V,y2,y3,i,E0,C,c,P,Q,R,T⟩:=wV underlying28 z
 rw[Tryz.cellsHub]at c;obtain⟨j,o,c2,c3,c4,c5,N,g⟩:=Ep c
 rw[g]at P Q R T;have q0:DataW.trod enc prog W 0 (fun _=>true) true i 22 [j]=some U:=by simpa[Tryz.cellsLF]using P
 have q1:DataW.trod enc prog W 0 (fun _=>true) true i 23 [o]=some V:=by simpa[Tryz.cellsLG]using Q
 have q2:DataW.trod enc prog W 0 (fun _=>true) true i 26 [c2,c3,c4,c5]=some y2:=by simpa[Tryz.cellsHUp]using R
 have q3:DataW.trod enc prog W 0 (fun _=>true) true i 3 [N]=some y3:=by simpa[Tryz.cells3]using T
 obtain⟨X,z1,z2,z3,a,O,E,_,u0,u1,u2,u3⟩:=wV underlying26 q2
 have v0:DataW.trod enc prog W 0 (fun _=>true) true a 24 [c2]=some X:=by simpa[Tryz.cellsLSe]using u0
 have v1:DataW.trod enc prog W 0 (fun _=>true) true a 3 [c3]=some z1:=by simpa[Tryz.cells3]using u1
 have v2:DataW.trod enc prog W 0 (fun _=>true) true a 3 [c4]=some z2:=by simpa[Tryz.cells3]using u2
 have v3:DataW.trod enc prog W 0 (fun _=>true) true a 3 [c5]=some z3:=by simpa[Tryz.cells3]using u3
 obtain⟨M,e6,g6,_⟩:=DataW.trod_int underlying3 q3
 obtain rfl:N= .int .i64 M:=by simpa using e6
 subst g6;obtain⟨I,e3,g3,_⟩:=DataW.trod_int underlying3 v1
 obtain rfl:c3= .int .i64 I:=by simpa using e3
 subst g3;obtain⟨J,e4,g4,_⟩:=DataW.trod_int underlying3 v2
 obtain rfl:c4= .int .i64 J:=by simpa using e4
 subst g4;obtain⟨K,e5,g5,_⟩:=DataW.trod_int underlying3 v3
 obtain rfl:c5= .int .i64 K:=by simpa using e5
 subst g5;obtain⟨Y,p0⟩:=U
 obtain⟨Z,p1⟩:=V
 obtain⟨d2,p2⟩:=X
 subst E;simp only[Prod.mk.injEq]at C
 have hw:d.weights prog 28=Y.weights prog 22++(Z.weights prog 23++d2.weights prog 24):=by
  rw[C.1,DataW.weights];simp only[underlying28];simp[DataW.weightsEach,DataW.weights,underlying26]
 rw[hw]at f;rw[C.1,wW,wW]at hk;obtain⟨F,hF,hFs⟩:=Ey (B:=B) hB q0 (by omega)
 obtain⟨G,hG,u⟩:=Dk q1 (fun n A=>f n (List.mem_append_right _ (List.mem_append_left _ A)))
 obtain⟨S,hS,v⟩:=DP v0 (fun n A=>f n (List.mem_append_right _ (List.mem_append_right _ A)))
 have x:cs= #[j,o,c2,I,J,K,M]:=Array.ext' (by simpa using g);exact⟨⟨F,G,S,I,J,K,M⟩,⟨j,o,c2,by rw[x],hF,hG,hS⟩,hFs,u,v⟩
theorem EA {B:Nat} (g:B≤1000000000) {H:Type} {enc:TypeId×Value→H} {W:World} {r:Reach} {f:Nat} {v:Value} {d:DataW H} {x:List MemPlace} (u:Value.okWide prog W r f 28 v) (h:DataW.Trod enc prog W 0 (fun _=>true) true 28 v d x) (j:Rows.uptoBulk d≤B) (a: ∀n∈d.weights prog 28,n≤reachBytes):
    ∃h:Hb,aX W v h∧(∀s∈h.fos,s.na.size≤B∧(∀e∈s.jo.base,e.path.size≤B∧e.text.size≤B)∧dm B s.jo.cos)∧eu h.gs∧bq h.ss:=by
 obtain⟨cs,rfl,o⟩:=okWide_struct underlying28 u
 obtain⟨c,i⟩:=h
 exact Ez g (by simpa[Value.cells]using i) j a
end Go.Proofs.YtdlpjlfefjipkaaGreat
