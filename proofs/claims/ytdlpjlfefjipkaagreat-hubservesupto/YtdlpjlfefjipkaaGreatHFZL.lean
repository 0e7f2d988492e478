/- What Serve answers to requests that make a folder or commit; the law's hubBegun answers true. -/
import Derived.Test.YtdlpjlfefjipkaaGreatHFZI
set_option linter.unusedSimpArgs false
set_option linter.unusedVariables false
namespace Go.Proofs.YtdlpjlfefjipkaaGreat
open Go.RowKit
theorem Sv.vlt {B:Nat} {w:World} {g f:Nat} {a i vs:Value} {H:Hb} (h:Sv B w g f a i vs H): ∀b,a.ownBlock=some b→b<w.heap.size:=fun b c=>by
 obtain⟨_,_,_,d,_⟩:=h.2.1
 exact d.lt b c
theorem vN (H:Hb) (q:Rq) (v i:Value) (w:World) (P:aX w v H) (A:dd H) (x:bH w i q) (f:cE q) (F:ae H=0) (I:q.kind=8) (o:cD H.gs q=0) (d: ∀B v,mB B v H.fos (cj H.fos q.fo) q.fo):
    Calls Tryz.prog 4 #[v,i] w fun e w'=> ∃u a,e= .returned (.tuple #[u,a,ah])∧aX w' u (eT H q.fo q.who)∧bX w' a ⟨Hu.mkE H q.fo q.who,0,bt⟩∧Below w.heap.size w w':=by
 obtain⟨_,M,R,_⟩:=ff F
 obtain⟨N,_,O⟩:=iv M
 refine jA H (eT H q.fo q.who) _ q v i w P A x F ?_
 intro B W g J C Q vs i c S s j x;exact kB H _ q i C g J 0 _ W c.lies A.gs x f o (by rw[I];decide) (fun K E G z=>Cw H q E C Q vs B g J K (c.below G) s (Nat.le_trans j G.size) A.gs O N z f (d B C) I) c.vlt
theorem vO (H:Hb) (q:Rq) (v i:Value) (w:World) (O:aX w v H) (A:dd H) (x:bH w i q) (f:cE q) (E:ae H=0) (s:q.kind=1) (d:cD H.gs q=0):
    Calls Tryz.prog 4 #[v,i] w fun e w'=> ∃u a,e= .returned (.tuple #[u,a,ah])∧aX w' u (eS H (aV H.fos H.gs q.fo) q.key q.ch)∧bX w' a ⟨ew H (aV H.fos H.gs q.fo) q.key q.ch,gx H (aV H.fos H.gs q.fo) q.key q.ch,bt⟩∧Below w.heap.size w w':=by
 have o:bJ H.gs q.fo=true:=qJ (h:=q.who) (by have:=(nR d).2.2.2;rw[s]at this;have e:Hu.lst 1=2:=rfl;omega);have M:aV H.fos H.gs q.fo<H.fos.length:=(lu E o).elim (fun h _=>h);refine jA H _ _ q v i w O A x E ?_
 intro B W g G I P vs i c N j K x;exact kB H _ q i I g G _ _ W c.lies A.gs x f d (by rw[s];decide) (fun J C F z=>Cx H q C I P vs B g G _ J (c.below F) (N.below F) j A.fos z f M s) c.vlt
def jU:ByteArray:=⟨#[97]⟩
def fB:ByteArray:=⟨#[102]⟩
def gU:ByteArray:=⟨#[107]⟩
def gC:List aE:=[⟨2,⟨#[120]⟩,⟨#[]⟩,⟨#[49]⟩,0⟩]
def ay:Hb:=⟨[],[],[],1,10,1000,0⟩
def aH:Hb:=⟨[⟨fB,⟨[],1,[]⟩⟩],[⟨fB,jU,3⟩],[],1,10,1000,0⟩
def aY:Hb:=⟨[⟨fB,⟨[],1,[⟨1,gU,gC⟩]⟩⟩],[⟨fB,jU,3⟩],[],1,10,1000,0⟩
def Hu.q1:Rq:=⟨8,jU,fB,⟨#[]⟩,⟨#[]⟩,⟨#[]⟩,0,0,0,[]⟩
def aP:Rq:=⟨1,jU,fB,⟨#[]⟩,gU,⟨#[]⟩,0,0,0,gC⟩
set_option maxRecDepth 100000
theorem vP:be [] 1 10 1000=0:=by decide
theorem CC:jS 10 1000=ay:=by rw[jS,if_pos vP];rfl
theorem qX:ae ay=0:=by decide+kernel
theorem CD:cD ay.gs Hu.q1=0:=by decide+kernel
theorem vQ:eD ay.gs fB jU=0:=by decide+kernel
theorem vR:Hu.mkE ay fB jU=0∧eT ay fB jU=aH:=by
 have h:=qP (H:=ay) (f:=fB) (h:=jU) vQ (by decide);refine⟨h.1,?_⟩
 rw[h.2,qz vQ];rfl
theorem kD:ae aH=0:=by decide+kernel
theorem CE:cD aH.gs aP=0:=by decide+kernel
theorem CF:aV aH.fos aH.gs fB=0:=by decide+kernel
theorem CG:dB aH 0=⟨[],1,[]⟩:=rfl
theorem CH:aT ⟨[],1,[]⟩=0:=by decide
theorem CI:Jn.newE ⟨[],1,[]⟩ gC=0:=by decide
theorem CJ:cK gU.data.toList=true:=by decide
theorem qY:cY ⟨[],1,[]⟩ gU gC=0∧dM ⟨[],1,[]⟩ gU gC=1∧dW ⟨[],1,[]⟩ gU gC=⟨[],1,[⟨1,gU,gC⟩]⟩:=by
 obtain⟨a,b,c⟩:=pq (J:=⟨[],1,[]⟩) (key:=gU) (l:=gC) CH CJ rfl CI
 exact⟨a,b,by rw[c];rfl⟩
theorem qZ:ew aH 0 gU gC=0∧gx aH 0 gU gC=1∧eS aH 0 gU gC=aY:=by
 have e:ew aH 0 gU gC=0:=qY.1;refine⟨e,qY.2.1,?_⟩
 rw[eS,if_pos e,CG,qY.2.2];rfl
theorem CK:ae aY=0:=by decide+kernel
theorem vS:gA aY fB=0:=by
 rw[gA,CK];decide+kernel
theorem CL:(jz aY fB).length=1:=by
 rw[jz,if_pos vS];decide+kernel
theorem CM:dd ay:=⟨(fun s a=>by cases a),(fun s a=>by cases a),(fun s a=>by cases a)⟩
theorem CN:dd aH:=by
 refine⟨fun s a=>?_,fun s a=>?_,fun s a=>by cases a⟩
 · rw[List.mem_singleton.1 a];exact⟨by decide,(fun e f=>by cases f),(fun c d=>by cases d)⟩
 · rw[List.mem_singleton.1 a];exact⟨by decide,by decide⟩
theorem vT:dV 150000000000000 gC:=fun c a=>by rw[List.mem_singleton.1 a];exact⟨by decide,by decide,by decide⟩
theorem CO:dd aY:=by
 refine⟨fun s a=>?_,fun s a=>?_,fun s a=>by cases a⟩
 · rw[List.mem_singleton.1 a];exact⟨by decide,(fun e f=>by cases f),(fun c d=>by rw[List.mem_singleton.1 d];exact⟨by decide,vT⟩)⟩
 · rw[List.mem_singleton.1 a];exact⟨by decide,by decide⟩
theorem CP:cE Hu.q1:=⟨by decide,by decide,by decide,by decide,by decide,fun c a=>by cases a⟩
theorem CQ:cE aP:=⟨by decide,by decide,by decide,by decide,by decide,vT⟩
end Go.Proofs.YtdlpjlfefjipkaaGreat
namespace Go.Proofs.YtdlpjlfefjipkaaGreat
open Go.RowKit
set_option maxRecDepth 100000 in
set_option maxHeartbeats 4000000 in
theorem CR (H:Hb) (q:Rq) (vq vf:Value) (g mb:Nat) (w:World) (Q:bU w g mb H) (hs:eu H.gs) (hq:bH w vq q) (P:cE q) (N: ¬cD H.gs q=0):kA w g mb vf vq ⟨cD H.gs q,0,bt⟩ H:=by
 have Z:=hid hs;have E0:=hid P;have A:=hid N;clear hs P N;unfold kA;obtain⟨va,rfl,lq⟩:=hq
 have X:=hid lq;obtain⟨R,S,rfl,_⟩:=lq
 obtain⟨kind,who,fo,name,key,text,num,off,base,ch⟩:=q
 simp only at*;obtain⟨x,j⟩: ∃x,x=w.alloc (.cells #[kind,who,fo,name,key,text,num,off,base,.slice R ch.length S] 31):=⟨_,rfl⟩
 obtain⟨o,u⟩: ∃o,o=x.alloc (.cells  bC  38):=⟨_,rfl⟩
 have T:x.heap.size=w.heap.size+1:=by rw[j];simp
 have K:Below w.heap.size w x:=by rw[j];exact ak
 have B:Below x.heap.size x o:=by rw[u];exact ak
 have f:Below w.heap.size w o:=an K B;have c:Hid (Cs o w.heap.size [kind,who,fo,name,key,text,num,off,base,.slice R ch.length S]):=((by rw[j];exact Cs.new w [kind,who,fo,name,key,text,num,off,base,.slice R ch.length S] _:Cs x w.heap.size [kind,who,fo,name,key,text,num,off,base,.slice R ch.length S]).below B:Cs o w.heap.size _)
 have E:=hid (show Cs o (w.heap.size+1)  bC from by rw[←T,u];exact Cs.new x  bC  _);have z:(w.alloc (.cells #[kind,who,fo,name,key,text,num,off,base,.slice R ch.length S] 31)).alloc (.cells  bC  38)=o:=by rw[u,j]
 have J:=hid z;have E5:w.heap.size+1<o.heap.size:=E.out.lt;clear j u K B T z;obtain⟨fa,fc,ga,gc,sa,sc,hC,hF,hG,hS⟩:=Q.shape
 have I:=hid (Q.below f);have U:=hid (hC.below f);have V:=hid (hG.below f);have E3:=hC.lt;have E4:g<o.heap.size:=Nat.lt_of_lt_of_le E3 f.size;clear hC hF hG hS;have x0:=c.out.cell 0 rfl;have x1:=c.out.cell 1 rfl;have x2:=c.out.cell 2 rfl;have x3:=c.out.cell 3 rfl;have x4:=c.out.cell 4 rfl;have x5:=c.out.cell 5 rfl;have x6:=c.out.cell 6 rfl;have x7:=c.out.cell 7 rfl;have x8:=c.out.cell 8 rfl;have x9:=c.out.cell 9 rfl;go_enter Tryz.func11,Tryz.ntmps11
 go_upto_region 1 with fail;rw[J.out];clear J;go_wp2_with fail;refine(qK H.gs ⟨kind,who,fo,name,key,text,num,off,base,ch⟩ _ _ g o E4 (U.out.cell 1 rfl) V.out Z.out ⟨_,rfl,X.out.below f⟩ E0.out).mono ?_
 rintro e w1 ⟨rfl,i⟩;clear x0 x1 x2 x3 x4 x5 x6 x7 x8 x9;have M:=an f i;have F:=hid (I.out.below i);have E6:=hid (c.out.below i);have a:=hid (E.out.below i);have E7:=i.size;obtain⟨r,O⟩: ∃r,r=cD H.gs ⟨kind,who,fo,name,key,text,num,off,base,ch⟩:=⟨_,rfl⟩
 have hz:(r==0)=false:=by rw[O];simpa using A.out
 have E8:(r !=0)=true:=by rw[O];simpa using A.out
 rw[←O];have Y:=hid O;clear O A;obtain⟨C,s⟩: ∃C,C=(((((((w1.setCell ⟨w.heap.size+1,0,none⟩ (.int .i64 r)).setCell ⟨w.heap.size+1,1,none⟩ ah).setCell ⟨w.heap.size+1,2,none⟩ false).setCell ⟨w.heap.size+1,3,none⟩ al).setCell ⟨w.heap.size+1,4,none⟩ al).setCell ⟨w.heap.size+1,5,none⟩ ah).setCell ⟨w.heap.size+1,6,none⟩ false):=⟨_,rfl⟩
 have E2:w1.grownBy C (some (w.heap.size+1)):=by rw[s];exact(ar (ar (ar (ar (ar (ar (aj w1 (w.heap.size+1) 0 (.int .i64 r)) (aj _ (w.heap.size+1) 1 ah)) (aj _ (w.heap.size+1) 2 false)) (aj _ (w.heap.size+1) 3 al)) (aj _ (w.heap.size+1) 4 al)) (aj _ (w.heap.size+1) 5 ah)) (aj _ (w.heap.size+1) 6 false))
 have d:Hid (Cs C (w.heap.size+1) [.int .i64 r,ah,false,al,al,ah,false]):=(by rw[s];exact(((((((a.out.set 0 (.int .i64 r)).set 1 ah).set 2 false).set 3 al).set 4 al).set 5 ah).set 6 false):Cs C (w.heap.size+1) _)
 have E1:Below w.heap.size w C:=by rw[s];exact(ei (b:=w.heap.size+1) M (Nat.le_succ _))
 have G:=hid (F.out.nb E2 (iz a.out) (by omega));have p0:=a.out.cell 0 rfl;have f0:=a.out.fr 0;have p1:=a.out.cell 1 rfl;have f1:=a.out.fr 1;have p2:=a.out.cell 2 rfl;have f2:=a.out.fr 2;have p3:=a.out.cell 3 rfl;have f3:=a.out.fr 3;have p4:=a.out.cell 4 rfl;have f4:=a.out.fr 4;have p5:=a.out.cell 5 rfl;have f5:=a.out.fr 5;have p6:=a.out.cell 6 rfl;have f6:=a.out.fr 6;go_wp2_with fail;rw[←s];have y0:=d.out.cell 0 rfl;have y1:=d.out.cell 1 rfl;have y2:=d.out.cell 2 rfl;have y3:=d.out.cell 3 rfl;have y4:=d.out.cell 4 rfl;have y5:=d.out.cell 5 rfl;have y6:=d.out.cell 6 rfl;refine bodyPost_ret (v:= .agg #[.int .i64 r,ah,false,al,al,ah,false]) (by simp[results,Tryz.results11,go_sem,y0,y1,y2,y3,y4,y5,y6]) rfl ⟨_,rfl,by rw[←Y.out];exact iy _ _ _,G.out,aZ.of_below _ _ E1⟩
end Go.Proofs.YtdlpjlfefjipkaaGreat
namespace Go.Proofs.YtdlpjlfefjipkaaGreat
open Go.ChangeShapes Go.WideShapes Go.ChangeAt Go.RowKit
def nZ {H:Type} (c:aE):DataW H:= .agg [.lit (.int .i64 c.k),.lit (.string c.p.data.toList),.lit (.string c.q.data.toList),.lit (.string c.t.data.toList),.lit (.int .i64 c.b)]
theorem rb {H:Type} (c:aE):Rows.uptoBulk (nZ (H:=H) c)=c.p.size+c.q.size+c.t.size+6:=by
 rw[nZ,Rows.uptoBulk,Rows.uptoBulkAll,Rows.uptoBulkAll,Rows.uptoBulkAll,Rows.uptoBulkAll,Rows.uptoBulkAll,Rows.uptoBulkAll,Rows.uptoBulk,Rows.uptoBulk,Rows.uptoBulk,Rows.uptoBulk,Rows.uptoBulk,Lib.size_eq,Lib.size_eq,Lib.size_eq]
 · omega
 · intro b h;cases h
 · intro b h;cases h
theorem CS {H:Type} {enc:TypeId×Value→H} {W:World} {n i:Nat} {a:Addr} {x:DataW H} {pl:List MemPlace} {g:List Value} (ha:a.spot=none)
    (I:W.cells? 0 (a.add (i*Tryz.prog.cellsOf 83)) (Tryz.prog.cellsOf 83)=some g) (h2:DataW.trod enc Tryz.prog W 0 (fun _=>true) true n 83 g=some (x,pl)):
    ∃c:aE,x=nZ c∧a.spot=none∧gI W a.block (a.off+i*5) c:=by
 rw[Tryz.cellsC]at I;obtain⟨_,o,j⟩:=World.cells?_some I
 obtain⟨y0,y1,y2,y3,y4,u,s,_,t0,t1,t2,t3,t4⟩:=Bu Tryz.underlying83 h2
 obtain⟨F,G,c2,c3,c4,rfl⟩:=uR o
 have z:DataW.trod enc Tryz.prog W 0 (fun _=>true) true u 3 [F]=some y0:=by simpa[Tryz.cells3]using t0
 have A:DataW.trod enc Tryz.prog W 0 (fun _=>true) true u 9 [G]=some y1:=by simpa[Tryz.cells9]using t1
 have B:DataW.trod enc Tryz.prog W 0 (fun _=>true) true u 9 [c2]=some y2:=by simpa[Tryz.cells9]using t2
 have C:DataW.trod enc Tryz.prog W 0 (fun _=>true) true u 9 [c3]=some y3:=by simpa[Tryz.cells9]using t3
 have E:DataW.trod enc Tryz.prog W 0 (fun _=>true) true u 3 [c4]=some y4:=by simpa[Tryz.cells3]using t4
 obtain⟨P,U,Y,_⟩:=DataW.trod_int Tryz.underlying3 z
 obtain⟨Q,V,Z,_⟩:=DataW.trod_string Tryz.underlying9 A
 obtain⟨R,e2,g2,_⟩:=DataW.trod_string Tryz.underlying9 B
 obtain⟨S,X,g3,_⟩:=DataW.trod_string Tryz.underlying9 C
 obtain⟨T,e4,g4,_⟩:=DataW.trod_int Tryz.underlying3 E
 obtain rfl:F= .int .i64 P:=by simpa using U
 obtain rfl:G= .string Q:=by simpa using V
 obtain rfl:c2= .string R:=by simpa using e2
 obtain rfl:c3= .string S:=by simpa using X
 obtain rfl:c4= .int .i64 T:=by simpa using e4
 subst Y;subst Z;subst g2;subst g3;subst g4;simp only[Prod.mk.injEq]at s;have J:=j 0 (by omega);have K:=j 1 (by omega);have M:=j 2 (by omega);have N:=j 3 (by omega);have O:=j 4 (by omega);obtain⟨ab,ao,v⟩:=a
 obtain rfl:v=none:=ha;refine⟨⟨P,Q,R,S,T⟩,s.1,rfl,?_,?_,?_,?_,?_⟩
 · by_cases d:i=0
   · subst d;simpa[Addr.add]using J
   · have f:i*5≠0:=by omega
     simpa[Addr.add,f]using J
 · by_cases d:i=0
   · subst d;simpa[Addr.add]using K
   · have f:i*5≠0:=by omega
     simpa[Addr.add,f,Nat.add_assoc]using K
 · by_cases d:i=0
   · subst d;simpa[Addr.add]using M
   · have f:i*5≠0:=by omega
     simpa[Addr.add,f,Nat.add_assoc]using M
 · by_cases d:i=0
   · subst d;simpa[Addr.add]using N
   · have f:i*5≠0:=by omega
     simpa[Addr.add,f,Nat.add_assoc]using N
 · by_cases d:i=0
   · subst d;simpa[Addr.add]using O
   · have f:i*5≠0:=by omega
     simpa[Addr.add,f,Nat.add_assoc]using O
set_option maxRecDepth 100000 in
theorem vU {B:Nat} (Y:B≤1000000000) {H:Type} {enc:TypeId×Value→H} {W:World} {v:Value} {d:DataW H} {p:List MemPlace} {fuel:Nat} (R:DataW.trod enc Tryz.prog W 0 (fun _=>true) true fuel 29 [v]=some (d,p)) (S:Rows.uptoBulk d≤B):
    ∃cs:List aE,cP W v cs∧cs.length≤B∧dV B cs:=by
 haveI:Inhabited aE:=⟨⟨0,⟨#[]⟩,⟨#[]⟩,⟨#[]⟩,0⟩⟩
 rcases Go.Deep.open_slice Tryz.underlying29 R with⟨g,M⟩|⟨a,len,j,m,n,D,V,g,Z,T,hm,z,M,u⟩
 · obtain rfl:v= .slice none 0 0:=by simpa using g
   exact⟨[],⟨none,0,rfl,ax,by simp,fun i c=>absurd c (by simp)⟩,by simp,fun e F=>by cases F⟩
 obtain rfl:v= .slice (some a) len j:=by simpa using g
 have J:m=j:=z.trans (if_pos rfl);clear z;have s:=(Prod.mk.inj M).1;clear M;subst J
 have K:0<len→a.spot=none:=fun h=>by
  obtain⟨A,f,_⟩:=u 0 (by omega)
  rw[Tryz.cellsC]at f;obtain⟨_,x,Q⟩:=World.cells?_some f
  obtain⟨O,X,c2,c3,c4,rfl⟩:=uR x
  have U:=Q 0 (by omega);exact nf (v:=O) (by simpa[Addr.add]using U)
 have o: ∀i,i<len→ ∃e:aE,D i=nZ e∧a.spot=none∧gI W a.block (a.off+i*5) e:=fun i c=>by
  obtain⟨A,f,C⟩:=u i (by omega)
  exact CS (K (by omega)) f C
 obtain⟨E,hE⟩:=Go.Deep.choose_lt o
 have P:Rows.uptoBulkAll ((List.range len).map D)≤B:=by
  rw[s,Rows.uptoBulk]at S;omega
 refine⟨(List.range len).map E,⟨some a,_,by simp;rfl,by simpa using T,?_,fun i c=>?_⟩,?_,fun e F=>?_⟩
 · have:=Bk.len (l:=(List.range len).map D) (fun d s=>by
    obtain⟨i,c,rfl⟩:=List.mem_map.1 s
    rw[(hE i (List.mem_range.1 c)).1,rb];omega)
   simp at this⊢
   omega
 · have G:i<len:=by simpa using c
   obtain⟨f,C,N⟩:=hE i G
   have I:a.block<W.heap.size:=by
    have k:=N.1;rcases Nat.lt_or_ge a.block W.heap.size with h|h
    · exact h
    · unfold World.cell? at k;rw[Array.getElem?_eq_none h]at k;cases k
   refine⟨a.block,a.off,?_,I,by simpa using N⟩
   rw[←C]
 · have:=Bk.len (l:=(List.range len).map D) (fun d s=>by
    obtain⟨i,c,rfl⟩:=List.mem_map.1 s
    rw[(hE i (List.mem_range.1 c)).1,rb];omega)
   simp at this⊢
   omega
 · obtain⟨i,c,rfl⟩:=List.mem_map.1 F
   have f:=Bk.mem (List.mem_map.2 ⟨i,c,rfl⟩:D i∈(List.range len).map D);rw[(hE i (List.mem_range.1 c)).1,rb]at f;refine⟨?_,?_,?_⟩<;>omega
end Go.Proofs.YtdlpjlfefjipkaaGreat
namespace Go.Proofs.YtdlpjlfefjipkaaGreat
open Go.RowKit
set_option maxRecDepth 100000 in
set_option maxHeartbeats 4000000 in
theorem CT (G:List Se) (v:Value) (x l r:Int) (p:ByteArray) (size now:Int) (w:World) (hv:aK w v G) (hs:bq G) (hp:p.size≤150000000000000) (h0:bB G x l r now=0) (hn:aA p.data.toList=true) (h1:0≤size) (h2:size≤300) (h3:x<1099511627776) (h4:(aq now G).length<20) (h5:r<aW (aq now G) p+size):
    Calls Tryz.prog 23 #[.agg #[v,x,l,r],p,size,.int .i64 now] w fun e w'=>e= .returned (.tuple #[.agg  aJ ,ah,.int .i64 10])∧Below w.heap.size w w':=by
 have HV:=ac hv;have HS:=ac hs;obtain⟨av,i,rfl,_⟩:=hv
 clear hs;obtain⟨S,d⟩: ∃S,S=(w.alloc (.cells #[.slice av G.length i,x,l,r] 26)).alloc (.cells  aJ  26):=⟨_,rfl⟩
 have B3:=hid (show Below w.heap.size w S from by rw[d];exact ak.alloc (by simp) _);have E8:=hid (show Bx S w.heap.size (.slice av G.length i) x (.int .i64 l) r from by rw[d];exact(Bx.new w _ _ _ _ _).below ak)
 have E5:=hid (show Bx S (w.heap.size+1) al ah ah ah from by
  have:=Bx.new (w.alloc (.cells #[.slice av G.length i,x,l,r] 26)) al ah ah ah 26
  rw[d];simpa using this)
 have EP:S.heap.size=w.heap.size+2:=by rw[d];simp
 have H0:=ac h0;have E3:=ac hn;have E1:bl G x l r now []=0:=by rw[mE];exact h0
 obtain⟨K,⟨EY,EZ⟩,_⟩:=dz E1
 obtain⟨EO,⟨EW,EX⟩,⟨F0,F1⟩,F3,F4⟩:=cQ (bu K).1
 have EL:=de now G;have H:=hid (show∀s∈aq now G,0≤s.si∧s.si≤300 from fun s h=>ik (bu K).2.1 s (List.mem_filter.1 h).1);have F5:(x==1099511627776)=false:=beq_eq_false_iff_ne.2 (by omega);clear h0 hn E1 K;go_enter Tryz.func23,Tryz.ntmps23
 go_wp2_with fail;rw[←d];clear d;refine(gS G _ x l r now _ (HV.out.below B3.out) HS.out).mono ?_
 rintro e w4 ⟨rfl,j⟩;have B:=B3.out.trans (j.mono B3.out.size);have V:=ac (E8.out.below j);have U:=ac (E5.out.below j);have EQ:=j.size;clear j;obtain⟨c,⟨u0,u1,u2,u3⟩,g0,g1,g2,g3⟩:=V.out
 obtain⟨I,⟨c0,c1,c2,c3⟩,f0,f1,f2,f3⟩:=U.out
 rw[H0.out];go_wp2_with fail;refine(aM p _ hp).mono ?_
 rintro e wn ⟨rfl,hw⟩;rw[hw,E3.out];clear hw wn;go_wp2_with fail;refine(mG G _ x l r now _ (HV.out.below B) (by omega)).mono ?_
 rintro e w5 ⟨u5,rfl,F,o⟩;have C:=aG B o;have X:=ac (V.out.below o);have E6:=ac (U.out.below o);have ER:=o.size;have f:=ac F;clear o F u0 u1 u2 u3 g0 g1 g2 g3 c0 c1 c2 c3 f0 f1 f2 f3 c I;obtain⟨a5,g,EM,EK,_,_⟩:=f.out.lies (by omega)
 subst EM;obtain⟨M,hM⟩: ∃M,M=aq now G:=⟨_,rfl⟩
 rw[←hM]at H f EL EK h4⊢;have E2:=ac hM;clear hM;have Y:M.length≤1000:=by omega
 obtain⟨N,z⟩: ∃N,N=((((w5.setCell ⟨w.heap.size,0,none⟩ (.slice a5 M.length g)).setCell ⟨w.heap.size,1,none⟩ x).setCell ⟨w.heap.size,2,none⟩ l).setCell ⟨w.heap.size,3,none⟩ r):=⟨_,rfl⟩
 have a:w5.grownBy N (some w.heap.size):=by rw[z];exact Nb.set4 _ _ _ _ _ _
 have Z:Bx N w.heap.size (.slice a5 M.length g) x (.int .i64 l) r:=by
  obtain⟨EJ,⟨O,P,Q,R⟩,e0,e1,e2,e3⟩:=X.out
  rw[z];exact⟨by simpa using EJ,⟨by simp[go_sem,O,P,Q,R],by simp[go_sem,O,P,Q,R],by simp[go_sem,O,P,Q,R],by simp[go_sem,O,P,Q,R]⟩,by simpa using e0,by simpa using e1,by simpa using e2,by simpa using e3⟩
 have E9:=ac Z;have E7:=ac (E6.out.nb a (by omega));have E4:=ac (f.out.nb a (by omega));have E:Below w.heap.size w N:=C.trans (Nb.to a C.size ax);have ES:=a.size;obtain⟨c,⟨O,P,Q,R⟩,e0,e1,e2,e3⟩:=X.out
 obtain⟨EN,⟨y0,y1,y2,y3⟩,y4,y5,y6,y7⟩:=Z
 rw[z]at y0 y1 y2 y3;have ET:((M.length:Int)==20)=false:=beq_eq_false_iff_ne.2 (by omega);have J:=ko p H.out;have EU:0≤aW M p:=J.1;have EV:aW M p≤6000:=by have:=J.2;omega
 have F2:IntKind.i64.wrap (aW M p+size)=aW M p+size:=by rw[IntKind.wrap_i64];omega
 rw[←E2.out]at h5;clear J;go_wp2_with fail;rw[←z];clear z a O P Q R e0 e1 e2 e3 c y0 y1 y2 y3 y4 y5 y6 y7;obtain⟨c,⟨y0,y1,y2,y3⟩,y4,y5,y6,y7⟩:=E9.out
 go_region_held3 (fun W=>W.cell? ⟨w.heap.size,0,none⟩=some (.slice a5 M.length g)∧W.cell? ⟨w.heap.size,3,none⟩=some (.int .i64 r)) (go_keep) (first
  |(go_at_call 46;refine(qS M _ p _ ((E4.out.lies Y).below aw.drew) Y H.out).mono ?_;rintro e wa ⟨rfl,A⟩;have j0:=(A.cell (p:=⟨w.heap.size,0,none⟩) c).trans y0;have j3:=(A.cell (p:=⟨w.heap.size,3,none⟩) c).trans y3))
 all_goals
  have u:Below N.heap.size N wa:= aw.drew.trans A;have E0:=E.trans (u.mono E.size);obtain⟨I,⟨c0,c1,c2,c3⟩,f0,f1,f2,f3⟩:=E7.out.below u
  clear A u y0 y1 y2 y3 y4 y5 y6 y7;generalize aW M p=T at*;go_wp2;refine bodyPost_ret (v:= .tuple #[.agg  aJ ,ah,.int .i64 10]) (by simp[results,Tryz.results23,go_sem,c0,c1,c2,c3,I]) rfl ⟨rfl,?_⟩
  exact bz (b:=w.heap.size+1) E0 (by omega)
end Go.Proofs.YtdlpjlfefjipkaaGreat
