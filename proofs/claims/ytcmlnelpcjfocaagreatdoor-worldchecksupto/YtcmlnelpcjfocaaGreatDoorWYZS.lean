/- Hubs and requests that are handed in: what lies there, and how great it is. -/
import Derived.Test.YtcmlnelpcjfocaaGreatDoorWYZR
set_option linter.unusedSimpArgs false
set_option linter.unusedVariables false
namespace Go.Proofs.YtcmlnelpcjfocaaGreatDoor
open Go.ChangeShapes Go.WideShapes Go.ChangeAt Go.RowKit Go.Proofs.Tryz
set_option maxRecDepth 100000
theorem Tryz.cellsSh:prog.cellsOf 81=4:=by kernel_rfl
theorem Tryz.cellsHub:prog.cellsOf 28=7:=by kernel_rfl
theorem Tryz.cellsHJo:prog.cellsOf 79=3:=by kernel_rfl
theorem Tryz.cellsHUp:prog.cellsOf 26=4:=by kernel_rfl
theorem Tryz.cellsLF:prog.cellsOf 22=1:=by kernel_rfl
theorem Tryz.cellsLG:prog.cellsOf 23=1:=by kernel_rfl
theorem Tryz.cellsLSe:prog.cellsOf 24=1:=by kernel_rfl
theorem pG {d:Type} {l:List d} (h:l.length=4): ∃y z aY A,l=[y,z,aY,A]:=by
 rcases l with _|⟨y,_|⟨z,_|⟨aY,_|⟨A,_|⟨f,r⟩⟩⟩⟩⟩
 all_goals first|exact⟨y,z,aY,A,rfl⟩|(simp at h)
theorem Ij {d:Type} {l:List d} (h:l.length=7): ∃y z aY A E F G,l=[y,z,aY,A,E,F,G]:=by
 rcases l with _|⟨y,_|⟨z,_|⟨aY,_|⟨A,_|⟨E,_|⟨F,_|⟨G,_|⟨f,r⟩⟩⟩⟩⟩⟩⟩⟩
 all_goals first|exact⟨y,z,aY,A,E,F,G,rfl⟩|(simp at h)
theorem Ik {H:Type} {enc:TypeId×Value→H} {P:Program} {w:World} {base:Nat} {d:Nat→Bool} {f:Bool} {t:TypeId} {y z:Field} {fuel:Nat} {cs:List Value} {x:DataW H×List MemPlace} (J:P.underlying t=some (.struct #[y,z])) (h:DataW.trod enc P w base d f fuel t cs=some x):
    ∃E F n K,x=(.agg [E.1,F.1],K)∧cs.length=P.cellsOf t∧DataW.trod enc P w base d f n y.type ((cs.drop y.offset).take (P.cellsOf y.type))=some E∧DataW.trod enc P w base d f n z.type ((cs.drop z.offset).take (P.cellsOf z.type))=some F:=by
 obtain⟨xs,n,_,rfl,I,A,G⟩:=DataW.trod_struct J h
 match xs,A with
 |[E,F],_=>exact⟨E,F,n,_,rfl,I,by simpa using G 0 y rfl,by simpa using G 1 z rfl⟩
theorem zt {H:Type} (d f:DataW H):Rows.uptoBulk (.agg [d,f])=1+(Rows.uptoBulk d+(Rows.uptoBulk f)):=by
 rw[Rows.uptoBulk,Rows.uptoBulkAll,Rows.uptoBulkAll,Rows.uptoBulkAll];omega
theorem zu {H:Type} {enc:TypeId×Value→H} {P:Program} {w:World} {base:Nat} {d:Nat→Bool} {f:Bool} {t:TypeId} {y z A:Field} {fuel:Nat} {cs:List Value} {x:DataW H×List MemPlace} (K:P.underlying t=some (.struct #[y,z,A])) (h:DataW.trod enc P w base d f fuel t cs=some x):
    ∃F G al n M,x=(.agg [F.1,G.1,al.1],M)∧cs.length=P.cellsOf t∧DataW.trod enc P w base d f n y.type ((cs.drop y.offset).take (P.cellsOf y.type))=some F∧DataW.trod enc P w base d f n z.type ((cs.drop z.offset).take (P.cellsOf z.type))=some G∧DataW.trod enc P w base d f n A.type ((cs.drop A.offset).take (P.cellsOf A.type))=some al:=by
 obtain⟨xs,n,_,rfl,J,E,I⟩:=DataW.trod_struct K h
 match xs,E with
 |[F,G,al],_=>exact⟨F,G,al,n,_,rfl,J,by simpa using I 0 y rfl,by simpa using I 1 z rfl,by simpa using I 2 A rfl⟩
theorem zv {H:Type} (d f aY:DataW H):Rows.uptoBulk (.agg [d,f,aY])=1+(Rows.uptoBulk d+(Rows.uptoBulk f+(Rows.uptoBulk aY))):=by
 rw[Rows.uptoBulk,Rows.uptoBulkAll,Rows.uptoBulkAll,Rows.uptoBulkAll,Rows.uptoBulkAll];omega
theorem tv {H:Type} {enc:TypeId×Value→H} {P:Program} {w:World} {base:Nat} {d:Nat→Bool} {f:Bool} {t:TypeId} {y z A E:Field} {fuel:Nat} {cs:List Value} {x:DataW H×List MemPlace} (N:P.underlying t=some (.struct #[y,z,A,E])) (h:DataW.trod enc P w base d f fuel t cs=some x):
    ∃I J al K n O,x=(.agg [I.1,J.1,al.1,K.1],O)∧cs.length=P.cellsOf t∧DataW.trod enc P w base d f n y.type ((cs.drop y.offset).take (P.cellsOf y.type))=some I∧DataW.trod enc P w base d f n z.type ((cs.drop z.offset).take (P.cellsOf z.type))=some J∧DataW.trod enc P w base d f n A.type ((cs.drop A.offset).take (P.cellsOf A.type))=some al∧DataW.trod enc P w base d f n E.type ((cs.drop E.offset).take (P.cellsOf E.type))=some K:=by
 obtain⟨xs,n,_,rfl,M,F,G⟩:=DataW.trod_struct N h
 match xs,F with
 |[I,J,al,K],_=>exact⟨I,J,al,K,n,_,rfl,M,by simpa using G 0 y rfl,by simpa using G 1 z rfl,by simpa using G 2 A rfl,by simpa using G 3 E rfl⟩
theorem pH {H:Type} (d f aY y:DataW H):Rows.uptoBulk (.agg [d,f,aY,y])=1+(Rows.uptoBulk d+(Rows.uptoBulk f+(Rows.uptoBulk aY+(Rows.uptoBulk y)))):=by
 rw[Rows.uptoBulk,Rows.uptoBulkAll,Rows.uptoBulkAll,Rows.uptoBulkAll,Rows.uptoBulkAll,Rows.uptoBulkAll];omega
theorem zw {H:Type} (s:ByteArray):Rows.uptoBulk (.lit (.string s.data.toList):DataW H)=s.size+1:=by rw[Rows.uptoBulk,Lib.size_eq]
theorem Il {B:Nat} (hB:B≤1000000000) {H:Type} {enc:TypeId×Value→H} {W:World} {n i:Nat} {a:Addr} {x:DataW H} {pl:List MemPlace} {A:List Value} (ha:a.spot=none)
    (Z:W.cells? 0 (a.add (i*prog.cellsOf 81)) (prog.cellsOf 81)=some A) (h2:DataW.trod enc prog W 0 (fun _=>true) true n 81 A=some (x,pl)) (hk:Rows.uptoBulk x≤B):
    ∃s:Sh,(1≤Rows.uptoBulk x∧s.na.size≤B∧(∀e∈s.jo.base,e.path.size≤B∧e.text.size≤B)∧eO B s.jo.cos)∧a.spot=none∧i7 W a.block (a.off+i*4) s:=by
 rw[Tryz.cellsSh]at Z;obtain⟨_,E,F⟩:=World.cells?_some Z
 obtain⟨y0,y1,n',I6,z,_,bV,t1⟩:=Ik underlying81 h2
 obtain⟨Y,I,J,K,rfl⟩:=pG E
 have S:DataW.trod enc prog W 0 (fun _=>true) true n' 9 [Y]=some y0:=by simpa[Tryz.cells9]using bV
 have T:DataW.trod enc prog W 0 (fun _=>true) true n' 79 [I,J,K]=some y1:=by simpa[Tryz.cellsHJo]using t1
 obtain⟨Q,aL,g0,_⟩:=DataW.trod_string underlying9 S
 obtain rfl:Y= .string Q:=by simpa using aL
 subst g0;obtain⟨z0,z1,z2,y,I0,P,_,u0,u1,u2⟩:=zu underlying79 T
 have U:DataW.trod enc prog W 0 (fun _=>true) true y 44 [I]=some z0:=by simpa[Tryz.cellsSE]using u0
 have V:DataW.trod enc prog W 0 (fun _=>true) true y 3 [J]=some z1:=by simpa[Tryz.cells3]using u1
 have X:DataW.trod enc prog W 0 (fun _=>true) true y 53 [K]=some z2:=by simpa[Tryz.cellsSO]using u2
 obtain⟨s2,aE,g2,_⟩:=DataW.trod_int underlying3 V
 obtain rfl:J= .int .i64 s2:=by simpa using aE
 subst g2;obtain⟨d0,p0⟩:=z0
 obtain⟨d2,p2⟩:=z2
 subst P;simp only[Prod.mk.injEq]at z;have I5:=hk;rw[z.1,zt,zw,zv]at hk;obtain⟨L,hL,_,M⟩:=qQ (B:=B) hB (fuel:=y) U (by omega)
 obtain⟨l,hl,_,N⟩:=G4 (B:=B) hB X (by omega)
 have O:Q.size≤B:=by omega
 have k0:=F 0 (by omega);have k1:=F 1 (by omega);have k2:=F 2 (by omega);have k3:=F 3 (by omega);obtain⟨ab,ao,G⟩:=a
 obtain rfl:G=none:=ha;refine⟨⟨Q,⟨L,s2,l⟩⟩,⟨by rw[z.1,zt];omega,O,M,N⟩,rfl,?_,I,K,?_,?_,?_,hL,hl⟩
 · by_cases d:i=0
   · subst d;simpa[Addr.add]using k0
   · have f:i*4≠0:=by omega
     simpa[Addr.add,f]using k0
 · by_cases d:i=0
   · subst d;simpa[Addr.add]using k1
   · have f:i*4≠0:=by omega
     simpa[Addr.add,f,Nat.add_assoc]using k1
 · by_cases d:i=0
   · subst d;simpa[Addr.add]using k2
   · have f:i*4≠0:=by omega
     simpa[Addr.add,f,Nat.add_assoc]using k2
 · by_cases d:i=0
   · subst d;simpa[Addr.add]using k3
   · have f:i*4≠0:=by omega
     simpa[Addr.add,f,Nat.add_assoc]using k3
theorem Im {B:Nat} (hB:B≤1000000000) {H:Type} {enc:TypeId×Value→H} {W:World} {v:Value} {d:DataW H} {p:List MemPlace} {fuel:Nat} (hf:DataW.trod enc prog W 0 (fun _=>true) true fuel 22 [v]=some (d,p)) (hk:Rows.uptoBulk d≤B):
    ∃l:List Sh,eP W v l∧ ∀s∈l,s.na.size≤B∧(∀e∈s.jo.base,e.path.size≤B∧e.text.size≤B)∧eO B s.jo.cos:=by
 haveI:Inhabited Sh:=⟨⟨⟨#[]⟩,⟨[],0,[]⟩⟩⟩
 rcases Go.Deep.open_slice underlying22 hf with⟨f,Y⟩|⟨a,len,z,m,n,D,Pl,f,hb,hl,hm,J,Y,G⟩
 · obtain rfl:v= .slice none 0 0:=by simpa using f
   exact⟨[],oL _,fun e P=>by cases P⟩
 obtain rfl:v= .slice (some a) len z:=by simpa using f
 have V:m=z:=J.trans (if_pos rfl);clear J;have O:=(Prod.mk.inj Y).1;clear Y;subst V
 have X:0<len→a.spot=none:=fun h=>by
  obtain⟨K,F,_⟩:=G 0 (by omega)
  rw[Tryz.cellsSh]at F;obtain⟨_,I,hc⟩:=World.cells?_some F
  obtain⟨c0,c1,c2,c3,rfl⟩:=pG I
  have k0:=hc 0 (by omega);exact mj (v:=c0) (by simpa[Addr.add]using k0)
 have N:Rows.uptoBulkAll ((List.range len).map D)≤B:=by
  rw[O,Rows.uptoBulk]at hk;omega
 have A: ∀i,i<len→ ∃s:Sh,(1≤Rows.uptoBulk (D i)∧s.na.size≤B∧(∀e∈s.jo.base,e.path.size≤B∧e.text.size≤B)∧eO B s.jo.cos)∧a.spot=none∧i7 W a.block (a.off+i*4) s:=fun i y=>by
  obtain⟨K,F,M⟩:=G i (by omega)
  exact Il hB (X (by omega)) F M (Nat.le_trans (Bk.mem (List.mem_map.2 ⟨i,List.mem_range.2 y,rfl⟩)) N)
 obtain⟨E,ae⟩:=Go.Deep.choose_lt A
 have S:=Bk.len (l:=(List.range len).map D) (fun d O=>by
  obtain⟨i,y,rfl⟩:=List.mem_map.1 O
  exact(ae i (List.mem_range.1 y)).1.1)
 simp only[List.length_map,List.length_range]at S;have T:len≤1000000000000000:=by omega
 refine⟨(List.range len).map E,⟨some a,_,by simp;rfl,by simpa using hl,by simpa using T,fun i y=>?_⟩,fun e P=>?_⟩
 · have Q:i<len:=by simpa using y
   obtain⟨F,M,Z⟩:=ae i Q
   have U:a.block<W.heap.size:=by
    have k:=Z.1;rcases Nat.lt_or_ge a.block W.heap.size with h|h
    · exact h
    · unfold World.cell? at k;rw[Array.getElem?_eq_none h]at k;cases k
   refine⟨a.block,a.off,?_,U,by simpa using Z⟩
   rw[←M]
 · obtain⟨i,y,rfl⟩:=List.mem_map.1 P
   exact(ae i (List.mem_range.1 y)).1.2
theorem In {B:Nat} (hB:B≤1000000000) {H:Type} {enc:TypeId×Value→H} {W:World} {cs:Array Value} {d:DataW H} {pl:List MemPlace} {fuel:Nat} (U:DataW.trod enc prog W 0 (fun _=>true) true fuel 28 cs.toList=some (d,pl)) (hk:Rows.uptoBulk d≤B) (z: ∀n∈d.weights prog 28,n≤reachBytes):
    ∃h:Hb,dC W (.agg cs) h∧(∀s∈h.fos,s.na.size≤B∧(∀e∈s.jo.base,e.path.size≤B∧e.text.size≤B)∧eO B s.jo.cos)∧jY h.gs∧mg h.ss:=by
 obtain⟨y0,y1,al,y3,I,I5,X,y,bV,t1,t2,t3⟩:=tv underlying28 U
 rw[Tryz.cellsHub]at y;obtain⟨J,K,E,M,N,O,c6,A⟩:=Ij y
 rw[A]at bV t1 t2 t3;have br:DataW.trod enc prog W 0 (fun _=>true) true I 22 [J]=some y0:=by simpa[Tryz.cellsLF]using bV
 have q1:DataW.trod enc prog W 0 (fun _=>true) true I 23 [K]=some y1:=by simpa[Tryz.cellsLG]using t1
 have bZ:DataW.trod enc prog W 0 (fun _=>true) true I 26 [E,M,N,O]=some al:=by simpa[Tryz.cellsHUp]using t2
 have q3:DataW.trod enc prog W 0 (fun _=>true) true I 3 [c6]=some y3:=by simpa[Tryz.cells3]using t3
 obtain⟨z0,z1,z2,z3,f,I0,Y,_,u0,u1,u2,u3⟩:=tv underlying26 bZ
 have v0:DataW.trod enc prog W 0 (fun _=>true) true f 24 [E]=some z0:=by simpa[Tryz.cellsLSe]using u0
 have v1:DataW.trod enc prog W 0 (fun _=>true) true f 3 [M]=some z1:=by simpa[Tryz.cells3]using u1
 have v2:DataW.trod enc prog W 0 (fun _=>true) true f 3 [N]=some z2:=by simpa[Tryz.cells3]using u2
 have v3:DataW.trod enc prog W 0 (fun _=>true) true f 3 [O]=some z3:=by simpa[Tryz.cells3]using u3
 obtain⟨s6,e6,g6,_⟩:=DataW.trod_int underlying3 q3
 obtain rfl:c6= .int .i64 s6:=by simpa using e6
 subst g6;obtain⟨Z,e3,g3,_⟩:=DataW.trod_int underlying3 v1
 obtain rfl:M= .int .i64 Z:=by simpa using e3
 subst g3;obtain⟨s4,e4,g4,_⟩:=DataW.trod_int underlying3 v2
 obtain rfl:N= .int .i64 s4:=by simpa using e4
 subst g4;obtain⟨s5,e5,g5,_⟩:=DataW.trod_int underlying3 v3
 obtain rfl:O= .int .i64 s5:=by simpa using e5
 subst g5;obtain⟨d0,p0⟩:=y0
 obtain⟨d1,p1⟩:=y1
 obtain⟨d2,p2⟩:=z0
 subst Y;simp only[Prod.mk.injEq]at X
 have hw:d.weights prog 28=d0.weights prog 22++(d1.weights prog 23++d2.weights prog 24):=by
  rw[X.1,DataW.weights];simp only[underlying28];simp[DataW.weightsEach,DataW.weights,underlying26]
 rw[hw]at z;rw[X.1,pH,pH]at hk;obtain⟨F,hF,hFs⟩:=Im (B:=B) hB br (by omega)
 obtain⟨G,hG,P⟩:=DJ q1 (fun n V=>z n (List.mem_append_right _ (List.mem_append_left _ V)))
 obtain⟨S,hS,Q⟩:=CG v0 (fun n V=>z n (List.mem_append_right _ (List.mem_append_right _ V)))
 have T:cs= #[J,K,E,.int .i64 Z,.int .i64 s4,.int .i64 s5,.int .i64 s6]:=Array.ext' (by simpa using A);exact⟨⟨F,G,S,Z,s4,s5,s6⟩,⟨J,K,E,by rw[T],hF,hG,hS⟩,hFs,P,Q⟩
theorem Io {B:Nat} (N:B≤1000000000) {H:Type} {enc:TypeId×Value→H} {W:World} {n i:Nat} {a:Addr} {x:DataW H} {pl:List MemPlace} {E:List Value} (ha:a.spot=none)
    (h1:W.cells? 0 (a.add (i*prog.cellsOf 47)) (prog.cellsOf 47)=some E) (h2:DataW.trod enc prog W 0 (fun _=>true) true n 47 E=some (x,pl)) (F:Rows.uptoBulk x≤B):
    ∃c:Cn,(1≤Rows.uptoBulk x∧c.who.size≤B∧c.fo.size≤B∧c.key.size≤B∧(∀e∈c.base,e.path.size≤B∧e.text.size≤B)∧(∀e∈c.mine,e.path.size≤B∧e.text.size≤B))∧a.spot=none∧f9 W a.block (a.off+i*8) c:=by
 rw[Tryz.cellsCl]at h1;obtain⟨_,G,z⟩:=World.cells?_some h1
 obtain⟨y0,y1,al,y3,y4,y5,y6,y7,y,Iv,A,_,bV,t1,t2,t3,t4,t5,dj,t7⟩:=GC underlying47 h2
 obtain⟨c0,c1,c2,c3,c4,c5,c6,c7,rfl⟩:=yY G
 have br:DataW.trod enc prog W 0 (fun _=>true) true y 9 [c0]=some y0:=by simpa[Tryz.cells9]using bV
 have q1:DataW.trod enc prog W 0 (fun _=>true) true y 9 [c1]=some y1:=by simpa[Tryz.cells9]using t1
 have bZ:DataW.trod enc prog W 0 (fun _=>true) true y 44 [c2]=some al:=by simpa[Tryz.cellsClE]using t2
 have q3:DataW.trod enc prog W 0 (fun _=>true) true y 3 [c3]=some y3:=by simpa[Tryz.cells3]using t3
 have q4:DataW.trod enc prog W 0 (fun _=>true) true y 44 [c4]=some y4:=by simpa[Tryz.cellsClE]using t4
 have q5:DataW.trod enc prog W 0 (fun _=>true) true y 9 [c5]=some y5:=by simpa[Tryz.cells9]using t5
 have q6:DataW.trod enc prog W 0 (fun _=>true) true y 45 [c6]=some y6:=by simpa[Tryz.cellsClC]using dj
 have q7:DataW.trod enc prog W 0 (fun _=>true) true y 3 [c7]=some y7:=by simpa[Tryz.cells3]using t7
 obtain⟨I,aL,g0,_⟩:=DataW.trod_string underlying9 br
 obtain rfl:c0= .string I:=by simpa using aL
 subst g0;obtain⟨J,e1,g1,_⟩:=DataW.trod_string underlying9 q1
 obtain rfl:c1= .string J:=by simpa using e1
 subst g1;obtain⟨d2,p2⟩:=al
 obtain⟨s3,e3,g3,_⟩:=DataW.trod_int underlying3 q3
 obtain rfl:c3= .int .i64 s3:=by simpa using e3
 subst g3;obtain⟨d4,p4⟩:=y4
 obtain⟨K,e5,g5,_⟩:=DataW.trod_string underlying9 q5
 obtain rfl:c5= .string K:=by simpa using e5
 subst g5;obtain⟨d6,p6⟩:=y6
 obtain⟨s7,e7,g7,_⟩:=DataW.trod_int underlying3 q7
 obtain rfl:c7= .int .i64 s7:=by simpa using e7
 subst g7;simp only[Prod.mk.injEq]at A;have I5:=F;rw[A.1,yZ]at F
 have S:Rows.uptoBulk (.lit (.string I.data.toList):DataW H)=I.size+1:=by
  rw[Rows.uptoBulk,Lib.size_eq]
 rw[S]at F
 have T:Rows.uptoBulk (.lit (.string J.data.toList):DataW H)=J.size+1:=by
  rw[Rows.uptoBulk,Lib.size_eq]
 rw[T]at F
 have U:Rows.uptoBulk (.lit (.string K.data.toList):DataW H)=K.size+1:=by
  rw[Rows.uptoBulk,Lib.size_eq]
 rw[U]at F;obtain⟨L2,O,I6,V⟩:=qQ (B:=B) N (fuel:=y) bZ (by omega)
 obtain⟨L4,P,I7,X⟩:=qQ (B:=B) N (fuel:=y) q4 (by omega)
 obtain⟨L6,Q,I8,I9⟩:=yX (B:=B) N q6 (by omega)
 have Y:I.size≤B:=by omega
 have Z:J.size≤B:=by omega
 have I0:K.size≤B:=by omega
 have k0:=z 0 (by omega);have k1:=z 1 (by omega);have k2:=z 2 (by omega);have k3:=z 3 (by omega);have k4:=z 4 (by omega);have k5:=z 5 (by omega);have k6:=z 6 (by omega);have k7:=z 7 (by omega);obtain⟨ab,ao,M⟩:=a
 obtain rfl:M=none:=ha;refine⟨⟨I,J,L2,s3,L4,K,L6,s7⟩,⟨by rw[A.1,yZ];omega,Y,Z,I0,V,X⟩,rfl,c2,c4,c6,?_,?_,?_,?_,?_,?_,?_,?_,O,P,Q⟩
 · by_cases d:i=0
   · subst d;simpa[Addr.add]using k0
   · have f:i*8≠0:=by omega
     simpa[Addr.add,f]using k0
 · by_cases d:i=0
   · subst d;simpa[Addr.add]using k1
   · have f:i*8≠0:=by omega
     simpa[Addr.add,f,Nat.add_assoc]using k1
 · by_cases d:i=0
   · subst d;simpa[Addr.add]using k2
   · have f:i*8≠0:=by omega
     simpa[Addr.add,f,Nat.add_assoc]using k2
 · by_cases d:i=0
   · subst d;simpa[Addr.add]using k3
   · have f:i*8≠0:=by omega
     simpa[Addr.add,f,Nat.add_assoc]using k3
 · by_cases d:i=0
   · subst d;simpa[Addr.add]using k4
   · have f:i*8≠0:=by omega
     simpa[Addr.add,f,Nat.add_assoc]using k4
 · by_cases d:i=0
   · subst d;simpa[Addr.add]using k5
   · have f:i*8≠0:=by omega
     simpa[Addr.add,f,Nat.add_assoc]using k5
 · by_cases d:i=0
   · subst d;simpa[Addr.add]using k6
   · have f:i*8≠0:=by omega
     simpa[Addr.add,f,Nat.add_assoc]using k6
 · by_cases d:i=0
   · subst d;simpa[Addr.add]using k7
   · have f:i*8≠0:=by omega
     simpa[Addr.add,f,Nat.add_assoc]using k7
theorem Ip {B:Nat} (hB:B≤1000000000) {H:Type} {enc:TypeId×Value→H} {W:World} {v:Value} {d:DataW H} {p:List MemPlace} {fuel:Nat} (hf:DataW.trod enc prog W 0 (fun _=>true) true fuel 29 [v]=some (d,p)) (hk:Rows.uptoBulk d≤B):
    ∃l:List Cn,eH W v l∧ ∀c∈l,c.who.size≤B∧c.fo.size≤B∧c.key.size≤B∧(∀e∈c.base,e.path.size≤B∧e.text.size≤B)∧(∀e∈c.mine,e.path.size≤B∧e.text.size≤B):=by
 haveI:Inhabited Cn:=⟨⟨⟨#[]⟩,⟨#[]⟩,[],0,[],⟨#[]⟩,[],0⟩⟩
 rcases Go.Deep.open_slice underlying29 hf with⟨f,Y⟩|⟨a,len,z,m,n,D,Pl,f,hb,hl,hm,J,Y,G⟩
 · obtain rfl:v= .slice none 0 0:=by simpa using f
   exact⟨[],xr _,fun e P=>by cases P⟩
 obtain rfl:v= .slice (some a) len z:=by simpa using f
 have V:m=z:=J.trans (if_pos rfl);clear J;have O:=(Prod.mk.inj Y).1;clear Y;subst V
 have X:0<len→a.spot=none:=fun h=>by
  obtain⟨K,F,_⟩:=G 0 (by omega)
  rw[Tryz.cellsCl]at F;obtain⟨_,I,hc⟩:=World.cells?_some F
  obtain⟨c0,c1,c2,c3,c4,c5,c6,c7,rfl⟩:=yY I
  have k0:=hc 0 (by omega);exact mj (v:=c0) (by simpa[Addr.add]using k0)
 have N:Rows.uptoBulkAll ((List.range len).map D)≤B:=by
  rw[O,Rows.uptoBulk]at hk;omega
 have A: ∀i,i<len→ ∃c:Cn,(1≤Rows.uptoBulk (D i)∧c.who.size≤B∧c.fo.size≤B∧c.key.size≤B∧(∀e∈c.base,e.path.size≤B∧e.text.size≤B)∧(∀e∈c.mine,e.path.size≤B∧e.text.size≤B))∧a.spot=none∧f9 W a.block (a.off+i*8) c:=fun i y=>by
  obtain⟨K,F,M⟩:=G i (by omega)
  exact Io hB (X (by omega)) F M (Nat.le_trans (Bk.mem (List.mem_map.2 ⟨i,List.mem_range.2 y,rfl⟩)) N)
 obtain⟨E,ae⟩:=Go.Deep.choose_lt A
 have S:=Bk.len (l:=(List.range len).map D) (fun d O=>by
  obtain⟨i,y,rfl⟩:=List.mem_map.1 O
  exact(ae i (List.mem_range.1 y)).1.1)
 simp only[List.length_map,List.length_range]at S;have T:len≤1000000000000000:=by omega
 refine⟨(List.range len).map E,⟨some a,_,by simp;rfl,by simpa using hl,by simpa using T,fun i y=>?_⟩,fun e P=>?_⟩
 · have Q:i<len:=by simpa using y
   obtain⟨F,M,Z⟩:=ae i Q
   have U:a.block<W.heap.size:=by
    obtain⟨_,_,_,k,_⟩:=Z
    rcases Nat.lt_or_ge a.block W.heap.size with h|h
    · exact h
    · unfold World.cell? at k;rw[Array.getElem?_eq_none h]at k;cases k
   refine⟨a.block,a.off,?_,U,by simpa using Z⟩
   rw[←M]
 · obtain⟨i,y,rfl⟩:=List.mem_map.1 P
   exact(ae i (List.mem_range.1 y)).1.2
theorem Tryz.cellsLt:prog.cellsOf 52=4:=by kernel_rfl
theorem Tryz.cellsLLt:prog.cellsOf 30=1:=by kernel_rfl
theorem Tryz.cellsLCl:prog.cellsOf 29=1:=by kernel_rfl
theorem Tryz.cellsWd:prog.cellsOf 32=9:=by kernel_rfl
theorem Iq {d:Type} {l:List d} (h:l.length=9): ∃f y aY z A E F G H,l=[f,y,aY,z,A,E,F,G,H]:=by
 match l,h with
 |[f,y,aY,z,A,E,F,G,H],_=>exact⟨_,_,_,_,_,_,_,_,_,rfl⟩
theorem Ir {B:Nat} {H:Type} {enc:TypeId×Value→H} {W:World} {n i:Nat} {a:Addr} {x:DataW H} {pl:List MemPlace} {z:List Value} (ha:a.spot=none)
    (P:W.cells? 0 (a.add (i*prog.cellsOf 52)) (prog.cellsOf 52)=some z) (h2:DataW.trod enc prog W 0 (fun _=>true) true n 52 z=some (x,pl)) (hk:Rows.uptoBulk x≤B):
    ∃l:Lr,(1≤Rows.uptoBulk x∧l.tx.size≤B)∧a.spot=none∧kW W a.block (a.off+i*4) l:=by
 rw[Tryz.cellsLt]at P;obtain⟨_,A,E⟩:=World.cells?_some P
 obtain⟨y0,y1,al,y3,F,I0,y,_,bV,t1,t2,t3⟩:=tv underlying52 h2
 obtain⟨K,M,N,O,rfl⟩:=pG A
 have br:DataW.trod enc prog W 0 (fun _=>true) true F 3 [K]=some y0:=by simpa[Tryz.cells3]using bV
 have q1:DataW.trod enc prog W 0 (fun _=>true) true F 3 [M]=some y1:=by simpa[Tryz.cells3]using t1
 have bZ:DataW.trod enc prog W 0 (fun _=>true) true F 4 [N]=some al:=by simpa[Tryz.cells4]using t2
 have q3:DataW.trod enc prog W 0 (fun _=>true) true F 9 [O]=some y3:=by simpa[Tryz.cells9]using t3
 obtain⟨V,aL,g0,_⟩:=DataW.trod_int underlying3 br
 obtain rfl:K= .int .i64 V:=by simpa using aL
 subst g0;obtain⟨X,Z,g1,_⟩:=DataW.trod_int underlying3 q1
 obtain rfl:M= .int .i64 X:=by simpa using Z
 subst g1;obtain⟨Y,aE,g2⟩:=DataW.trod_bool underlying4 bZ
 obtain rfl:N= .bool Y:=by simpa using aE
 subst g2;obtain⟨J,e3,g3,_⟩:=DataW.trod_string underlying9 q3
 obtain rfl:O= .string J:=by simpa using e3
 subst g3;simp only[Prod.mk.injEq]at y;rw[y.1,pH,zw]at hk;have I:J.size≤B:=by omega
 have Q:=E 0 (by omega);have S:=E 1 (by omega);have T:=E 2 (by omega);have U:=E 3 (by omega);obtain⟨ab,ao,G⟩:=a
 obtain rfl:G=none:=ha;refine⟨⟨V,X,Y,J⟩,⟨by rw[y.1,pH];omega,I⟩,rfl,?_,?_,?_,?_⟩
 · by_cases d:i=0
   · subst d;simpa[Addr.add]using Q
   · have f:i*4≠0:=by omega
     simpa[Addr.add,f]using Q
 · by_cases d:i=0
   · subst d;simpa[Addr.add]using S
   · have f:i*4≠0:=by omega
     simpa[Addr.add,f,Nat.add_assoc]using S
 · by_cases d:i=0
   · subst d;simpa[Addr.add]using T
   · have f:i*4≠0:=by omega
     simpa[Addr.add,f,Nat.add_assoc]using T
 · by_cases d:i=0
   · subst d;simpa[Addr.add]using U
   · have f:i*4≠0:=by omega
     simpa[Addr.add,f,Nat.add_assoc]using U
theorem Is {B:Nat} (hB:B≤1000000000) {H:Type} {enc:TypeId×Value→H} {W:World} {v:Value} {d:DataW H} {p:List MemPlace} {fuel:Nat} (hf:DataW.trod enc prog W 0 (fun _=>true) true fuel 30 [v]=some (d,p)) (hk:Rows.uptoBulk d≤B):
    ∃l:List Lr,gV W v l∧ ∀x∈l,x.tx.size≤B:=by
 haveI:Inhabited Lr:=⟨⟨0,0,false,⟨#[]⟩⟩⟩
 rcases Go.Deep.open_slice underlying30 hf with⟨f,Y⟩|⟨a,len,z,m,n,D,Pl,f,hb,hl,hm,J,Y,G⟩
 · obtain rfl:v= .slice none 0 0:=by simpa using f
   exact⟨[],rY _,fun e P=>by cases P⟩
 obtain rfl:v= .slice (some a) len z:=by simpa using f
 have V:m=z:=J.trans (if_pos rfl);clear J;have O:=(Prod.mk.inj Y).1;clear Y;subst V
 have X:0<len→a.spot=none:=fun h=>by
  obtain⟨K,F,_⟩:=G 0 (by omega)
  rw[Tryz.cellsLt]at F;obtain⟨_,I,hc⟩:=World.cells?_some F
  obtain⟨c0,c1,c2,c3,rfl⟩:=pG I
  have k0:=hc 0 (by omega);exact mj (v:=c0) (by simpa[Addr.add]using k0)
 have N:Rows.uptoBulkAll ((List.range len).map D)≤B:=by
  rw[O,Rows.uptoBulk]at hk;omega
 have A: ∀i,i<len→ ∃l:Lr,(1≤Rows.uptoBulk (D i)∧l.tx.size≤B)∧a.spot=none∧kW W a.block (a.off+i*4) l:=fun i y=>by
  obtain⟨K,F,M⟩:=G i (by omega)
  exact Ir (X (by omega)) F M (Nat.le_trans (Bk.mem (List.mem_map.2 ⟨i,List.mem_range.2 y,rfl⟩)) N)
 obtain⟨E,ae⟩:=Go.Deep.choose_lt A
 have S:=Bk.len (l:=(List.range len).map D) (fun d O=>by
  obtain⟨i,y,rfl⟩:=List.mem_map.1 O
  exact(ae i (List.mem_range.1 y)).1.1)
 simp only[List.length_map,List.length_range]at S;have T:len≤1000000000000000:=by omega
 refine⟨(List.range len).map E,⟨some a,_,by simp;rfl,by simpa using hl,by simpa using T,fun i y=>?_⟩,fun e P=>?_⟩
 · have Q:i<len:=by simpa using y
   obtain⟨F,M,Z⟩:=ae i Q
   have U:a.block<W.heap.size:=by
    have k:=Z.1;rcases Nat.lt_or_ge a.block W.heap.size with h|h
    · exact h
    · unfold World.cell? at k;rw[Array.getElem?_eq_none h]at k;cases k
   refine⟨a.block,a.off,?_,U,by simpa using Z⟩
   rw[←M]
 · obtain⟨i,y,rfl⟩:=List.mem_map.1 P
   exact(ae i (List.mem_range.1 y)).1.2
theorem Iu {B:Nat} (J:B≤1000000000) {H:Type} {enc:TypeId×Value→H} {W:World} {r:Reach} {aR:Nat} {v:Value} {d:DataW H} {pl:List MemPlace} (hv:Value.okWide prog W r aR 32 v) (h:DataW.Trod enc prog W 0 (fun _=>true) true 32 v d pl) (hk:Rows.uptoBulk d≤B) (T: ∀n∈d.weights prog 32,n≤reachBytes):
    ∃X:Wd,eI W v X∧((∀s∈X.hb.fos,s.na.size≤B∧(∀e∈s.jo.base,e.path.size≤B∧e.text.size≤B)∧eO B s.jo.cos)∧jY X.hb.gs∧mg X.hb.ss)∧(∀c∈X.cls,c.who.size≤B∧c.fo.size≤B∧c.key.size≤B∧(∀e∈c.base,e.path.size≤B∧e.text.size≤B)∧(∀e∈c.mine,e.path.size≤B∧e.text.size≤B))∧ ∀x∈X.les,x.tx.size≤B:=by
 obtain⟨cs,rfl,I0⟩:=okWide_struct underlying32 hv
 obtain⟨y,hf⟩:=h
 have S:DataW.trod enc prog W 0 (fun _=>true) true y 32 cs.toList=some (d,pl):=by simpa[Value.cells]using hf
 obtain⟨y0,y1,al,Y,I5,V,f,bV,t1,t2⟩:=zu underlying32 S
 rw[Tryz.cellsWd]at f;obtain⟨A,E,F,c3,c4,c5,c6,G,I,z⟩:=Iq f
 rw[z]at bV t1 t2;have br:DataW.trod enc prog W 0 (fun _=>true) true Y 28 (#[A,E,F,c3,c4,c5,c6]:Array Value).toList=some y0:=by simpa[Tryz.cellsHub]using bV
 have q1:DataW.trod enc prog W 0 (fun _=>true) true Y 29 [G]=some y1:=by simpa[Tryz.cellsLCl,Tryz.cellsHub]using t1
 have bZ:DataW.trod enc prog W 0 (fun _=>true) true Y 30 [I]=some al:=by simpa[Tryz.cellsLLt,Tryz.cellsLCl,Tryz.cellsHub]using t2
 obtain⟨Z,p0⟩:=y0
 obtain⟨d1,p1⟩:=y1
 obtain⟨d2,p2⟩:=al
 simp only[Prod.mk.injEq]at V
 have U:d.weights prog 32=Z.weights prog 28++(d1.weights prog 29++d2.weights prog 30):=by
  rw[V.1,DataW.weights];simp only[underlying32];simp[DataW.weightsEach]
 have hw: ∀n∈Z.weights prog 28,n≤reachBytes:=fun n hn=>T n (by rw[U];exact List.mem_append_left _ hn)
 rw[V.1,zv]at hk;obtain⟨X,hX,N,O,P⟩:=In (B:=B) J br (by omega) hw
 obtain⟨C,hC,K⟩:=Ip (B:=B) J q1 (by omega)
 obtain⟨L,hL,M⟩:=Is (B:=B) J bZ (by omega)
 obtain⟨vf,vg,ai,e,h1,h2,h3⟩:=hX
 simp only[Value.agg.injEq]at e;have g0:=congrArg (fun a=>a.getD 0 .nilFunc) e;have g1:=congrArg (fun a=>a.getD 1 .nilFunc) e;have g2:=congrArg (fun a=>a.getD 2 .nilFunc) e;have g3:=congrArg (fun a=>a.getD 3 .nilFunc) e;have g4:=congrArg (fun a=>a.getD 4 .nilFunc) e;have g5:=congrArg (fun a=>a.getD 5 .nilFunc) e;have g6:=congrArg (fun a=>a.getD 6 .nilFunc) e;simp at g0 g1 g2 g3 g4 g5 g6
 subst g0 g1 g2 g3 g4 g5 g6;have Q:cs= #[A,E,F,.int .i64 X.nx,.int .i64 X.la,.int .i64 X.ro,.int .i64 X.now,G,I]:=Array.ext' (by simpa using z);exact⟨⟨X,C,L⟩,⟨A,E,F,G,I,by rw[Q],⟨h1,h2,h3⟩,hC,hL⟩,⟨N,O,P⟩,K,M⟩
end Go.Proofs.YtcmlnelpcjfocaaGreatDoor
