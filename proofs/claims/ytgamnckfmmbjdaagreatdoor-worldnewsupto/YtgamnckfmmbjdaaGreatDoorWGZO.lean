/- What Serve answers to requests that make a folder or commit; the law's hubBegun answers true. -/
import Derived.Test.YtgamnckfmmbjdaaGreatDoorWGZK
import Derived.Test.YtgamnckfmmbjdaaGreatDoorWGZL
import Derived.LaidLaws
set_option linter.unusedSimpArgs false
set_option linter.unusedVariables false
namespace Go.Proofs.YtgamnckfmmbjdaaGreatDoor
open Go.RowKit
def mh:ByteArray:=⟨#[97]⟩
def jO:ByteArray:=⟨#[102]⟩
def sS:ByteArray:=⟨#[107]⟩
def sT:List ar:=[⟨2,⟨#[120]⟩,⟨#[]⟩,⟨#[49]⟩,0⟩]
def Hu.b1:Hb:=⟨[],[],[],1,10,1000,0⟩
def Hu.b2:Hb:=⟨[⟨jO,⟨[],1,[]⟩⟩],[⟨jO,mh,3⟩],[],1,10,1000,0⟩
def cg:Hb:=⟨[⟨jO,⟨[],1,[⟨1,sS,sT⟩]⟩⟩],[⟨jO,mh,3⟩],[],1,10,1000,0⟩
def Hu.q1:Rq:=⟨8,mh,jO,⟨#[]⟩,⟨#[]⟩,⟨#[]⟩,0,0,0,[]⟩
def bP:Rq:=⟨1,mh,jO,⟨#[]⟩,sS,⟨#[]⟩,0,0,0,sT⟩
set_option maxRecDepth 100000
theorem sU:aZ [] 1 10 1000=0:=by decide
theorem BC:iI 10 1000=Hu.b1:=by rw[iI,if_pos sU];rfl
theorem mi:ae Hu.b1=0:=by decide+kernel
theorem fG:ae Hu.b2=0:=by decide+kernel
theorem sV:hU Hu.b1:=⟨(fun s a=>by cases a),(fun s a=>by cases a),(fun s a=>by cases a)⟩
end Go.Proofs.YtgamnckfmmbjdaaGreatDoor
namespace Go.Proofs.YtgamnckfmmbjdaaGreatDoor
open Go.RowKit
set_option maxHeartbeats 1000000 in
theorem BD (L:List ar) (v u:Value) (w:World) (P:bk w v L) (O:bk w u L):
    Calls Tryz.prog 73 #[v,u] w fun e w'=>e= .returned (.bool true)∧Below w.heap.size w w':=by
 obtain⟨a,M,rfl,I,E,H⟩:=P
 have J:Hid (∀i (h:i<L.length),∃b o,a=some ⟨b,o,none⟩∧b<w.heap.size∧eJ w b (o+i*5) L[i]):=H;obtain⟨K,G,rfl,A,_,f⟩:=O
 have y:Hid (∀i (h:i<L.length),∃b o,K=some ⟨b,o,none⟩∧b<w.heap.size∧eJ w b (o+i*5) L[i]):=f;clear H f;go_enter Tryz.func73,Tryz.ntmps73
 go_wp2_with fail;go_loopw [5] (fun i wr=> ∃k:Nat,k≤L.length∧i= .int .i64 k∧Below w.heap.size w wr) (fun i _=>L.length-(intOf i).toNat)
 case atStart=>exact⟨0,Nat.zero_le _,rfl,Below.refl _ _⟩
 case round=>
  obtain⟨k,hk,rfl,d⟩:=hrel
  by_cases j:k<L.length
  · obtain⟨b,o,rfl,hb,N⟩:=J.out k j
    obtain⟨Q,o',rfl,z,F⟩:=y.out k j
    obtain⟨S,T,U,V,X⟩:=N.below hb d
    obtain⟨Y,Z,d2,d3,d4⟩:=F.below z d
    go_wp2_with fail;go_region
    go_wp2_with fail;go_roundw
    case rel=>exact⟨k+1,by omega,by simp,d.drew⟩
    case measure=>simp[intOf];omega
  · go_wp2_with fail
    go_ret;exact⟨rfl,d⟩
set_option maxRecDepth 100000 in
set_option maxHeartbeats 4000000 in
theorem BE (L:List Co) (v u:Value) (w:World) (hv:dd w v L) (hu:dd w u L):
    Calls Tryz.prog 122 #[v,u] w fun e w'=>e= .returned (.bool true)∧Below w.heap.size w w':=by
 obtain⟨a,C3,rfl,Z,O,Y⟩:=hv
 have HL:Hid (∀i (h:i<L.length),∃b o,a=some ⟨b,o,none⟩∧b<w.heap.size∧fB w b (o+i*3) L[i]):=Y;obtain⟨a',U,rfl,N,_,F⟩:=hu
 have I:Hid (∀i (h:i<L.length),∃b o,a'=some ⟨b,o,none⟩∧b<w.heap.size∧fB w b (o+i*3) L[i]):=F;clear Y F;go_enter Tryz.func122,Tryz.ntmps122
 go_wp2_with fail;go_loopw [5] (fun i wr=> ∃k:Nat,k≤L.length∧i= .int .i64 k∧Below w.heap.size w wr) (fun i _=>L.length-(intOf i).toNat)
 case atStart=>exact⟨0,Nat.zero_le _,rfl,Below.refl _ _⟩
 case round=>
  obtain⟨k,hk,rfl,d⟩:=hrel
  by_cases H:k<L.length
  · obtain⟨b,o,rfl,hb,he⟩:=HL.out k H
    obtain⟨z,E,rfl,J,G⟩:=I.out k H
    obtain⟨S,T,x,c2,P⟩:=he.below hb d
    obtain⟨V,X,y,d2,Q⟩:=G.below J d
    have C4:=d.size;have A:b<wr.heap.size:=by omega
    have j:z<wr.heap.size:=by omega
    generalize L[k]=ck at*;obtain⟨nu,ke,ch⟩:=ck
    simp only at S T P V X Q;have HX:=hid P;have HY:=hid Q;clear P Q he G;go_wp2_with fail
    go_region_held3 (fun W=>W.cell? ⟨b,o+k*3,none⟩=some (.int .i64 nu)∧W.cell? ⟨b,o+k*3+1,none⟩=some (.string ke)∧W.cell? ⟨b,o+k*3+2,none⟩=some x∧W.cell? ⟨z,E+k*3,none⟩=some (.int .i64 nu)∧W.cell? ⟨z,E+k*3+1,none⟩=some (.string ke)∧W.cell? ⟨z,E+k*3+2,none⟩=some y) (go_keep) (first
     |(go_at_call 73;refine(BD ch x y _ (HX.out.below (Below.refl _ _).drew) (HY.out.below (Below.refl _ _).drew)).mono ?_;rintro e wa ⟨rfl,M⟩;have f:Below wr.heap.size wr wa:=((Below.refl _ _).drew).trans M;have j0:=(f.cell (p:=⟨b,o+k*3,none⟩) A).trans S;have j1:=(f.cell (p:=⟨b,o+k*3+1,none⟩) A).trans T;have j2:=(f.cell (p:=⟨b,o+k*3+2,none⟩) A).trans c2;have aQ:=(f.cell (p:=⟨z,E+k*3,none⟩) j).trans V;have b8:=(f.cell (p:=⟨z,E+k*3+1,none⟩) j).trans X;have dY:=(f.cell (p:=⟨z,E+k*3+2,none⟩) j).trans d2))
    have K:=af d f;go_wp2_with fail;go_roundw
    case rel=>exact⟨k+1,by omega,by simp,K⟩
    case measure=>simp[intOf];omega
  · go_wp2_with fail
    go_ret;exact⟨rfl,d⟩
set_option maxRecDepth 100000 in
set_option maxHeartbeats 2000000 in
theorem BF (J:Jo) (v u:Value) (w:World) (V:fV w v J) (U:fV w u J):
    Calls Tryz.prog 71 #[v,u] w fun e w'=>e= .returned (.bool true)∧Below w.heap.size w w':=by
 obtain⟨Z,vc,rfl,E,F⟩:=V
 obtain⟨X,Y,rfl,hub,A⟩:=U
 have N:=hid E;have O:=hid F;have K:=hid hub;have M:=hid A;obtain⟨H,b1,rfl,_⟩:=E
 obtain⟨I,b2,rfl,_⟩:=F
 obtain⟨P,cg,rfl,_⟩:=hub
 obtain⟨Q,S,rfl,_⟩:=A
 obtain⟨G,f⟩: ∃G,G=(w.alloc (.cells #[.slice H J.base.length b1,.int .i64 J.first,.slice I J.cos.length b2] 90)).alloc (.cells #[.slice P J.base.length cg,.int .i64 J.first,.slice Q J.cos.length S] 90):=⟨_,rfl⟩
 have j:Below w.heap.size w G:=by rw[f];exact((Below.refl _ _).alloc (Nat.le_refl _) _).alloc (by simp) _
 have o:=hid (show Cs G w.heap.size [.slice H J.base.length b1,.int .i64 J.first,.slice I J.cos.length b2]from by rw[f];exact(Cs.new w [.slice H J.base.length b1,.int .i64 J.first,.slice I J.cos.length b2] _).below ((Below.refl _ _).alloc (Nat.le_refl _) _))
 have y:=hid (show Cs G (w.heap.size+1) [.slice P J.base.length cg,.int .i64 J.first,.slice Q J.cos.length S]from by
  have:=Cs.new (w.alloc (.cells #[.slice H J.base.length b1,.int .i64 J.first,.slice I J.cos.length b2] 90)) [.slice P J.base.length cg,.int .i64 J.first,.slice Q J.cos.length S] 90
  rw[f];simpa using this)
 go_enter Tryz.func71,Tryz.ntmps71
 go_wp2_with fail;rw[←f];clear f;refine(mX J.base _ _ _ (N.out.below j) (K.out.below j)).mono ?_
 rintro e w1 ⟨rfl,d⟩;have aD:=(o.out.below d).cell 1 rfl;have x2:=(o.out.below d).cell 2 rfl;have y1:=(y.out.below d).cell 1 rfl;have y2:=(y.out.below d).cell 2 rfl;have a:=af j d;go_wp2_with fail;refine(BE J.cos _ _ _ (O.out.below a) (M.out.below a)).mono ?_
 rintro e w2 ⟨rfl,T⟩;have z:=af a T;go_wp2_with fail;go_ret;exact⟨rfl,z⟩
set_option maxRecDepth 100000 in
set_option maxHeartbeats 2000000 in
theorem BG (G:List Se) (v u:Value) (x l r:Int) (w:World) (hv:bR w v G) (hu:bR w u G):
    Calls Tryz.prog 70 #[.agg #[v,.int .i64 x,.int .i64 l,.int .i64 r],.agg #[u,.int .i64 x,.int .i64 l,.int .i64 r]] w fun e w'=>e= .returned (.bool true)∧Below w.heap.size w w':=by
 obtain⟨a,A,rfl,U,Q,T⟩:=hv
 have X:Hid (∀i (h:i<G.length),∃b o,a=some ⟨b,o,none⟩∧b<w.heap.size∧eu w b (o+i*5) G[i]):=T;obtain⟨I,j,rfl,P,_,E⟩:=hu
 have M:Hid (∀i (h:i<G.length),∃b o,I=some ⟨b,o,none⟩∧b<w.heap.size∧eu w b (o+i*5) G[i]):=E;clear T E;obtain⟨z,f⟩: ∃z,z=(w.alloc (.cells #[.slice a G.length A,.int .i64 x,.int .i64 l,.int .i64 r] 26)).alloc (.cells #[.slice I G.length j,.int .i64 x,.int .i64 l,.int .i64 r] 26):=⟨_,rfl⟩
 have F:Below w.heap.size w z:=by rw[f];exact((Below.refl _ _).alloc (Nat.le_refl _) _).alloc (by simp) _
 have J:=hid (show Bx z w.heap.size (.slice a G.length A) (.int .i64 x) (.int .i64 l) (.int .i64 r)from by rw[f];exact(Bx.new w _ _ _ _ _).below ((Below.refl _ _).alloc (Nat.le_refl _) _))
 have K:=hid (show Bx z (w.heap.size+1) (.slice I G.length j) (.int .i64 x) (.int .i64 l) (.int .i64 r)from by
  have:=Bx.new (w.alloc (.cells #[.slice a G.length A,.int .i64 x,.int .i64 l,.int .i64 r] 26)) (.slice I G.length j) (.int .i64 x) (.int .i64 l) (.int .i64 r) 26
  rw[f];simpa using this)
 have V:z.heap.size=w.heap.size+2:=by rw[f];simp
 have N:=ai f;go_enter Tryz.func70,Tryz.ntmps70
 go_wp2_with fail;rw[←f];clear f N;go_loopw [5] (fun i wr=> ∃k:Nat,k≤G.length∧i= .int .i64 k∧Below z.heap.size z wr) (fun i _=>G.length-(intOf i).toNat)
 case atStart=>exact⟨0,Nat.zero_le _,rfl,Below.refl _ _⟩
 case round=>
  obtain⟨k,hk,rfl,d⟩:=hrel
  have y:Below w.heap.size w wr:=F.trans (d.mono F.size);obtain⟨Y,⟨a0,a1,a2,a3⟩,_⟩:=J.out.below d
  obtain⟨Z,⟨aH,b1,b2,cg⟩,_⟩:=K.out.below d
  by_cases H:k<G.length
  · obtain⟨b,o,rfl,hb,he⟩:=X.out k H
    obtain⟨b',o',rfl,O,S⟩:=M.out k H
    obtain⟨c0,c1,c2,c3,c4⟩:=he.below hb y
    obtain⟨d0,d1,d2,d3,d4⟩:=S.below O y
    generalize G[k]=s at*;go_wp2_with fail;go_region
    go_wp2_with fail;go_roundw
    case rel=>exact⟨k+1,by omega,by simp,d.drew⟩
    case measure=>simp[intOf];omega
  · go_wp2_with fail
    go_ret;exact⟨rfl,y⟩
end Go.Proofs.YtgamnckfmmbjdaaGreatDoor
namespace Go.Proofs.YtgamnckfmmbjdaaGreatDoor
open Go.ChangeShapes Go.WideShapes Go.ChangeAt Go.RowKit
theorem Tryz.cellsSh:Tryz.prog.cellsOf 92=4:=by kernel_rfl
theorem Tryz.cellsHub:Tryz.prog.cellsOf 28=7:=by kernel_rfl
theorem Tryz.cellsHJo:Tryz.prog.cellsOf 90=3:=by kernel_rfl
theorem Tryz.cellsHUp:Tryz.prog.cellsOf 26=4:=by kernel_rfl
theorem Tryz.cellsLF:Tryz.prog.cellsOf 22=1:=by kernel_rfl
theorem Tryz.cellsLG:Tryz.prog.cellsOf 23=1:=by kernel_rfl
theorem Tryz.cellsLSe:Tryz.prog.cellsOf 24=1:=by kernel_rfl
theorem sW {a:Type} {l:List a} (h:l.length=4): ∃e aD f j,l=[e,aD,f,j]:=by
 rcases l with _|⟨e,_|⟨aD,_|⟨f,_|⟨j,_|⟨d,r⟩⟩⟩⟩⟩
 all_goals first|exact⟨e,aD,f,j,rfl⟩|(simp at h)
theorem BH {a:Type} {l:List a} (h:l.length=7): ∃e aD f j o u y,l=[e,aD,f,j,o,u,y]:=by
 rcases l with _|⟨e,_|⟨aD,_|⟨f,_|⟨j,_|⟨o,_|⟨u,_|⟨y,_|⟨d,r⟩⟩⟩⟩⟩⟩⟩⟩
 all_goals first|exact⟨e,aD,f,j,o,u,y,rfl⟩|(simp at h)
theorem BI {H:Type} {enc:TypeId×Value→H} {P:Program} {w:World} {base:Nat} {a:Nat→Bool} {d:Bool} {t:TypeId} {e f:Field} {fuel:Nat} {cs:List Value} {x:DataW H×List MemPlace} (A:P.underlying t=some (.struct #[e,f])) (h:DataW.trod enc P w base a d fuel t cs=some x):
    ∃o u n E,x=(.agg [o.1,u.1],E)∧cs.length=P.cellsOf t∧DataW.trod enc P w base a d n e.type ((cs.drop e.offset).take (P.cellsOf e.type))=some o∧DataW.trod enc P w base a d n f.type ((cs.drop f.offset).take (P.cellsOf f.type))=some u:=by
 obtain⟨xs,n,_,rfl,z,j,y⟩:=DataW.trod_struct A h
 match xs,j with
 |[o,u],_=>exact⟨o,u,n,_,rfl,z,by simpa using y 0 e rfl,by simpa using y 1 f rfl⟩
theorem sX {H:Type} (a aD:DataW H):Rows.uptoBulk (.agg [a,aD])=1+(Rows.uptoBulk a+(Rows.uptoBulk aD)):=by
 rw[Rows.uptoBulk,Rows.uptoBulkAll,Rows.uptoBulkAll,Rows.uptoBulkAll];omega
theorem BJ {H:Type} {enc:TypeId×Value→H} {P:Program} {w:World} {base:Nat} {a:Nat→Bool} {d:Bool} {t:TypeId} {e f j:Field} {fuel:Nat} {cs:List Value} {x:DataW H×List MemPlace} (F:P.underlying t=some (.struct #[e,f,j])) (h:DataW.trod enc P w base a d fuel t cs=some x):
    ∃u y z n G,x=(.agg [u.1,y.1,z.1],G)∧cs.length=P.cellsOf t∧DataW.trod enc P w base a d n e.type ((cs.drop e.offset).take (P.cellsOf e.type))=some u∧DataW.trod enc P w base a d n f.type ((cs.drop f.offset).take (P.cellsOf f.type))=some y∧DataW.trod enc P w base a d n j.type ((cs.drop j.offset).take (P.cellsOf j.type))=some z:=by
 obtain⟨xs,n,_,rfl,E,o,A⟩:=DataW.trod_struct F h
 match xs,o with
 |[u,y,z],_=>exact⟨u,y,z,n,_,rfl,E,by simpa using A 0 e rfl,by simpa using A 1 f rfl,by simpa using A 2 j rfl⟩
theorem BK {H:Type} (a aD d:DataW H):Rows.uptoBulk (.agg [a,aD,d])=1+(Rows.uptoBulk a+(Rows.uptoBulk aD+(Rows.uptoBulk d))):=by
 rw[Rows.uptoBulk,Rows.uptoBulkAll,Rows.uptoBulkAll,Rows.uptoBulkAll,Rows.uptoBulkAll];omega
theorem sY {H:Type} {enc:TypeId×Value→H} {P:Program} {w:World} {base:Nat} {a:Nat→Bool} {d:Bool} {t:TypeId} {e f j o:Field} {fuel:Nat} {cs:List Value} {x:DataW H×List MemPlace} (I:P.underlying t=some (.struct #[e,f,j,o])) (h:DataW.trod enc P w base a d fuel t cs=some x):
    ∃z A E F n J,x=(.agg [z.1,A.1,E.1,F.1],J)∧cs.length=P.cellsOf t∧DataW.trod enc P w base a d n e.type ((cs.drop e.offset).take (P.cellsOf e.type))=some z∧DataW.trod enc P w base a d n f.type ((cs.drop f.offset).take (P.cellsOf f.type))=some A∧DataW.trod enc P w base a d n j.type ((cs.drop j.offset).take (P.cellsOf j.type))=some E∧DataW.trod enc P w base a d n o.type ((cs.drop o.offset).take (P.cellsOf o.type))=some F:=by
 obtain⟨xs,n,_,rfl,G,u,y⟩:=DataW.trod_struct I h
 match xs,u with
 |[z,A,E,F],_=>exact⟨z,A,E,F,n,_,rfl,G,by simpa using y 0 e rfl,by simpa using y 1 f rfl,by simpa using y 2 j rfl,by simpa using y 3 o rfl⟩
theorem sZ {H:Type} (a aD d e:DataW H):Rows.uptoBulk (.agg [a,aD,d,e])=1+(Rows.uptoBulk a+(Rows.uptoBulk aD+(Rows.uptoBulk d+(Rows.uptoBulk e)))):=by
 rw[Rows.uptoBulk,Rows.uptoBulkAll,Rows.uptoBulkAll,Rows.uptoBulkAll,Rows.uptoBulkAll,Rows.uptoBulkAll];omega
theorem BL {H:Type} (s:ByteArray):Rows.uptoBulk (.lit (.string s.data.toList):DataW H)=s.size+1:=by rw[Rows.uptoBulk,Lib.size_eq]
set_option maxRecDepth 100000 in
theorem BM {B:Nat} (X:B≤1000000000) {H:Type} {enc:TypeId×Value→H} {W:World} {n i:Nat} {a:Addr} {x:DataW H} {pl:List MemPlace} {u:List Value} (ha:a.spot=none)
    (V:W.cells? 0 (a.add (i*Tryz.prog.cellsOf 92)) (Tryz.prog.cellsOf 92)=some u) (h2:DataW.trod enc Tryz.prog W 0 (fun _=>true) true n 92 u=some (x,pl)) (Y:Rows.uptoBulk x≤B):
    ∃s:Sh,(1≤Rows.uptoBulk x∧s.na.size≤B∧(∀e∈s.jo.base,e.path.size≤B∧e.text.size≤B)∧dR B s.jo.cos)∧a.spot=none∧fD W a.block (a.off+i*4) s:=by
 rw[Tryz.cellsSh]at V;obtain⟨_,y,z⟩:=World.cells?_some V
 obtain⟨y0,y1,n',C5,o,_,cI,t1⟩:=BI Tryz.underlying92 h2
 obtain⟨U,E,F,G,rfl⟩:=sW y
 have O:DataW.trod enc Tryz.prog W 0 (fun _=>true) true n' 9 [U]=some y0:=by simpa[Tryz.cells9]using cI
 have P:DataW.trod enc Tryz.prog W 0 (fun _=>true) true n' 90 [E,F,G]=some y1:=by simpa[Tryz.cellsHJo]using t1
 obtain⟨N,aP,g0,_⟩:=DataW.trod_string Tryz.underlying9 O
 obtain rfl:U= .string N:=by simpa using aP
 subst g0;obtain⟨z0,z1,z2,j,C3,M,_,u0,u1,u2⟩:=BJ Tryz.underlying90 P
 have Q:DataW.trod enc Tryz.prog W 0 (fun _=>true) true j 47 [E]=some z0:=by simpa[Tryz.cellsSE]using u0
 have S:DataW.trod enc Tryz.prog W 0 (fun _=>true) true j 3 [F]=some z1:=by simpa[Tryz.cells3]using u1
 have T:DataW.trod enc Tryz.prog W 0 (fun _=>true) true j 67 [G]=some z2:=by simpa[Tryz.cellsSO]using u2
 obtain⟨s2,e2,g2,_⟩:=DataW.trod_int Tryz.underlying3 S
 obtain rfl:F= .int .i64 s2:=by simpa using e2
 subst g2;obtain⟨d0,p0⟩:=z0
 obtain⟨d2,p2⟩:=z2
 subst M;simp only[Prod.mk.injEq]at o;have C4:=Y;rw[o.1,sX,BL,BK]at Y;obtain⟨L,hL,_,I⟩:=mT (B:=B) X (fuel:=j) Q (by omega)
 obtain⟨l,hl,_,J⟩:=BA (B:=B) X T (by omega)
 have K:N.size≤B:=by omega
 have Z:=z 0 (by omega);have k1:=z 1 (by omega);have k2:=z 2 (by omega);have k3:=z 3 (by omega);obtain⟨ab,ao,A⟩:=a
 obtain rfl:A=none:=ha;refine⟨⟨N,⟨L,s2,l⟩⟩,⟨by rw[o.1,sX];omega,K,I,J⟩,rfl,?_,E,G,?_,?_,?_,hL,hl⟩
 · by_cases d:i=0
   · subst d;simpa[Addr.add]using Z
   · have f:i*4≠0:=by omega
     simpa[Addr.add,f]using Z
 · by_cases d:i=0
   · subst d;simpa[Addr.add]using k1
   · have f:i*4≠0:=by omega
     simpa[Addr.add,f,Nat.add_assoc]using k1
 · by_cases d:i=0
   · subst d;simpa[Addr.add]using k2
   · have f:i*4≠0:=by omega
     simpa[Addr.add,f,Nat.add_assoc]using k2
 · by_cases d:i=0
   · subst d;simpa[Addr.add]using k3
   · have f:i*4≠0:=by omega
     simpa[Addr.add,f,Nat.add_assoc]using k3
set_option maxRecDepth 100000 in
theorem BN {B:Nat} (Y:B≤1000000000) {H:Type} {enc:TypeId×Value→H} {W:World} {v:Value} {d:DataW H} {p:List MemPlace} {fuel:Nat} (hf:DataW.trod enc Tryz.prog W 0 (fun _=>true) true fuel 22 [v]=some (d,p)) (hk:Rows.uptoBulk d≤B):
    ∃l:List Sh,dt W v l∧ ∀s∈l,s.na.size≤B∧(∀e∈s.jo.base,e.path.size≤B∧e.text.size≤B)∧dR B s.jo.cos:=by
 haveI:Inhabited Sh:=⟨⟨⟨#[]⟩,⟨[],0,[]⟩⟩⟩
 rcases Go.Deep.open_slice Tryz.underlying22 hf with⟨f,U⟩|⟨a,len,o,m,n,D,Pl,f,hb,hl,hm,F,U,z⟩
 · obtain rfl:v= .slice none 0 0:=by simpa using f
   exact⟨[],lE _,fun e M=>by cases M⟩
 obtain rfl:v= .slice (some a) len o:=by simpa using f
 have S:m=o:=F.trans (if_pos rfl);clear F;have K:=(Prod.mk.inj U).1;clear U;subst S
 have T:0<len→a.spot=none:=fun h=>by
  obtain⟨G,y,_⟩:=z 0 (by omega)
  rw[Tryz.cellsSh]at y;obtain⟨_,A,Z⟩:=World.cells?_some y
  obtain⟨X,c1,c2,c3,rfl⟩:=sW A
  have k0:=Z 0 (by omega);exact kh (v:=X) (by simpa[Addr.add]using k0)
 have J:Rows.uptoBulkAll ((List.range len).map D)≤B:=by
  rw[K,Rows.uptoBulk]at hk;omega
 have u: ∀i,i<len→ ∃s:Sh,(1≤Rows.uptoBulk (D i)∧s.na.size≤B∧(∀e∈s.jo.base,e.path.size≤B∧e.text.size≤B)∧dR B s.jo.cos)∧a.spot=none∧fD W a.block (a.off+i*4) s:=fun i j=>by
  obtain⟨G,y,I⟩:=z i (by omega)
  exact BM Y (T (by omega)) y I (Nat.le_trans (Bk.mem (List.mem_map.2 ⟨i,List.mem_range.2 j,rfl⟩)) J)
 obtain⟨E,ae⟩:=Go.Deep.choose_lt u
 have O:=Bk.len (l:=(List.range len).map D) (fun d K=>by
  obtain⟨i,j,rfl⟩:=List.mem_map.1 K
  exact(ae i (List.mem_range.1 j)).1.1)
 simp only[List.length_map,List.length_range]at O;have P:len≤1000000000000000:=by omega
 refine⟨(List.range len).map E,⟨some a,_,by simp;rfl,by simpa using hl,by simpa using P,fun i j=>?_⟩,fun e M=>?_⟩
 · have N:i<len:=by simpa using j
   obtain⟨y,I,V⟩:=ae i N
   have Q:a.block<W.heap.size:=by
    have k:=V.1;rcases Nat.lt_or_ge a.block W.heap.size with h|h
    · exact h
    · unfold World.cell? at k;rw[Array.getElem?_eq_none h]at k;cases k
   refine⟨a.block,a.off,?_,Q,by simpa using V⟩
   rw[←I]
 · obtain⟨i,j,rfl⟩:=List.mem_map.1 M
   exact(ae i (List.mem_range.1 j)).1.2
set_option maxRecDepth 100000 in
theorem BO {B:Nat} (hB:B≤1000000000) {H:Type} {enc:TypeId×Value→H} {W:World} {cs:Array Value} {d:DataW H} {pl:List MemPlace} {fuel:Nat} (O:DataW.trod enc Tryz.prog W 0 (fun _=>true) true fuel 28 cs.toList=some (d,pl)) (hk:Rows.uptoBulk d≤B) (j: ∀n∈d.weights Tryz.prog 28,n≤reachBytes):
    ∃h:Hb,cp W (.agg cs) h∧(∀s∈h.fos,s.na.size≤B∧(∀e∈s.jo.base,e.path.size≤B∧e.text.size≤B)∧dR B s.jo.cos)∧gZ h.gs∧jv h.ss:=by
 obtain⟨y0,y1,y2,y3,y,C4,Q,f,cI,t1,t2,t3⟩:=sY Tryz.underlying28 O
 rw[Tryz.cellsHub]at f;obtain⟨z,A,u,E,I,J,Z,o⟩:=BH f
 rw[o]at cI t1 t2 t3;have bD:DataW.trod enc Tryz.prog W 0 (fun _=>true) true y 22 [z]=some y0:=by simpa[Tryz.cellsLF]using cI
 have q1:DataW.trod enc Tryz.prog W 0 (fun _=>true) true y 23 [A]=some y1:=by simpa[Tryz.cellsLG]using t1
 have bP:DataW.trod enc Tryz.prog W 0 (fun _=>true) true y 26 [u,E,I,J]=some y2:=by simpa[Tryz.cellsHUp]using t2
 have q3:DataW.trod enc Tryz.prog W 0 (fun _=>true) true y 3 [Z]=some y3:=by simpa[Tryz.cells3]using t3
 obtain⟨z0,z1,z2,z3,a,C3,T,_,u0,u1,u2,u3⟩:=sY Tryz.underlying26 bP
 have v0:DataW.trod enc Tryz.prog W 0 (fun _=>true) true a 24 [u]=some z0:=by simpa[Tryz.cellsLSe]using u0
 have v1:DataW.trod enc Tryz.prog W 0 (fun _=>true) true a 3 [E]=some z1:=by simpa[Tryz.cells3]using u1
 have v2:DataW.trod enc Tryz.prog W 0 (fun _=>true) true a 3 [I]=some z2:=by simpa[Tryz.cells3]using u2
 have v3:DataW.trod enc Tryz.prog W 0 (fun _=>true) true a 3 [J]=some z3:=by simpa[Tryz.cells3]using u3
 obtain⟨Y,e6,g6,_⟩:=DataW.trod_int Tryz.underlying3 q3
 obtain rfl:Z= .int .i64 Y:=by simpa using e6
 subst g6;obtain⟨U,e3,g3,_⟩:=DataW.trod_int Tryz.underlying3 v1
 obtain rfl:E= .int .i64 U:=by simpa using e3
 subst g3;obtain⟨V,e4,g4,_⟩:=DataW.trod_int Tryz.underlying3 v2
 obtain rfl:I= .int .i64 V:=by simpa using e4
 subst g4;obtain⟨X,e5,g5,_⟩:=DataW.trod_int Tryz.underlying3 v3
 obtain rfl:J= .int .i64 X:=by simpa using e5
 subst g5;obtain⟨d0,p0⟩:=y0
 obtain⟨d1,p1⟩:=y1
 obtain⟨d2,p2⟩:=z0
 subst T;simp only[Prod.mk.injEq]at Q
 have hw:d.weights Tryz.prog 28=d0.weights Tryz.prog 22++(d1.weights Tryz.prog 23++d2.weights Tryz.prog 24):=by
  rw[Q.1,DataW.weights];simp only[Tryz.underlying28];simp[DataW.weightsEach,DataW.weights,Tryz.underlying26]
 rw[hw]at j;rw[Q.1,sZ,sZ]at hk;obtain⟨F,hF,hFs⟩:=BN (B:=B) hB bD (by omega)
 obtain⟨G,hG,K⟩:=AZ q1 (fun n P=>j n (List.mem_append_right _ (List.mem_append_left _ P)))
 obtain⟨S,hS,M⟩:=zF v0 (fun n P=>j n (List.mem_append_right _ (List.mem_append_right _ P)))
 have N:cs= #[z,A,u,.int .i64 U,.int .i64 V,.int .i64 X,.int .i64 Y]:=Array.ext' (by simpa using o);exact⟨⟨F,G,S,U,V,X,Y⟩,⟨z,A,u,by rw[N],hF,hG,hS⟩,hFs,K,M⟩
set_option maxRecDepth 100000 in
theorem BP {B:Nat} (j:B≤1000000000) {H:Type} {enc:TypeId×Value→H} {W:World} {r:Reach} {aH:Nat} {v:Value} {d:DataW H} {A:List MemPlace} (z:Value.okWide Tryz.prog W r aH 28 v) (h:DataW.Trod enc Tryz.prog W 0 (fun _=>true) true 28 v d A) (u:Rows.uptoBulk d≤B) (a: ∀n∈d.weights Tryz.prog 28,n≤reachBytes):
    ∃h:Hb,cp W v h∧(∀s∈h.fos,s.na.size≤B∧(∀e∈s.jo.base,e.path.size≤B∧e.text.size≤B)∧dR B s.jo.cos)∧gZ h.gs∧jv h.ss:=by
 obtain⟨cs,rfl,y⟩:=okWide_struct Tryz.underlying28 z
 obtain⟨f,o⟩:=h
 exact BO j (by simpa[Value.cells]using o) u a
set_option maxRecDepth 100000 in
theorem BQ {B:Nat} (J:B≤1000000000) {H:Type} {enc:TypeId×Value→H} {W:World} {n i:Nat} {a:Addr} {x:DataW H} {pl:List MemPlace} {y:List Value} (ha:a.spot=none)
    (h1:W.cells? 0 (a.add (i*Tryz.prog.cellsOf 50)) (Tryz.prog.cellsOf 50)=some y) (h2:DataW.trod enc Tryz.prog W 0 (fun _=>true) true n 50 y=some (x,pl)) (z:Rows.uptoBulk x≤B):
    ∃c:Cn,(1≤Rows.uptoBulk x∧c.who.size≤B∧c.fo.size≤B∧c.key.size≤B∧(∀e∈c.base,e.path.size≤B∧e.text.size≤B)∧(∀e∈c.mine,e.path.size≤B∧e.text.size≤B))∧a.spot=none∧en W a.block (a.off+i*8) c:=by
 rw[Tryz.cellsCl]at h1;obtain⟨_,A,o⟩:=World.cells?_some h1
 obtain⟨y0,y1,y2,y3,y4,y5,y6,y7,j,C8,u,_,cI,t1,t2,t3,t4,t5,ep,t7⟩:=zB Tryz.underlying50 h2
 obtain⟨Y,Z,c2,c3,c4,c5,c6,c7,rfl⟩:=sh A
 have bD:DataW.trod enc Tryz.prog W 0 (fun _=>true) true j 9 [Y]=some y0:=by simpa[Tryz.cells9]using cI
 have q1:DataW.trod enc Tryz.prog W 0 (fun _=>true) true j 9 [Z]=some y1:=by simpa[Tryz.cells9]using t1
 have bP:DataW.trod enc Tryz.prog W 0 (fun _=>true) true j 47 [c2]=some y2:=by simpa[Tryz.cellsClE]using t2
 have q3:DataW.trod enc Tryz.prog W 0 (fun _=>true) true j 3 [c3]=some y3:=by simpa[Tryz.cells3]using t3
 have q4:DataW.trod enc Tryz.prog W 0 (fun _=>true) true j 47 [c4]=some y4:=by simpa[Tryz.cellsClE]using t4
 have q5:DataW.trod enc Tryz.prog W 0 (fun _=>true) true j 9 [c5]=some y5:=by simpa[Tryz.cells9]using t5
 have q6:DataW.trod enc Tryz.prog W 0 (fun _=>true) true j 48 [c6]=some y6:=by simpa[Tryz.cellsClC]using ep
 have q7:DataW.trod enc Tryz.prog W 0 (fun _=>true) true j 3 [c7]=some y7:=by simpa[Tryz.cells3]using t7
 obtain⟨E,aP,g0,_⟩:=DataW.trod_string Tryz.underlying9 bD
 obtain rfl:Y= .string E:=by simpa using aP
 subst g0;obtain⟨F,ay,g1,_⟩:=DataW.trod_string Tryz.underlying9 q1
 obtain rfl:Z= .string F:=by simpa using ay
 subst g1;obtain⟨d2,p2⟩:=y2
 obtain⟨s3,e3,g3,_⟩:=DataW.trod_int Tryz.underlying3 q3
 obtain rfl:c3= .int .i64 s3:=by simpa using e3
 subst g3;obtain⟨d4,p4⟩:=y4
 obtain⟨G,e5,g5,_⟩:=DataW.trod_string Tryz.underlying9 q5
 obtain rfl:c5= .string G:=by simpa using e5
 subst g5;obtain⟨d6,p6⟩:=y6
 obtain⟨s7,e7,g7,_⟩:=DataW.trod_int Tryz.underlying3 q7
 obtain rfl:c7= .int .i64 s7:=by simpa using e7
 subst g7;simp only[Prod.mk.injEq]at u;have C3:=z;rw[u.1,sj]at z
 have O:Rows.uptoBulk (.lit (.string E.data.toList):DataW H)=E.size+1:=by
  rw[Rows.uptoBulk,Lib.size_eq]
 rw[O]at z
 have P:Rows.uptoBulk (.lit (.string F.data.toList):DataW H)=F.size+1:=by
  rw[Rows.uptoBulk,Lib.size_eq]
 rw[P]at z
 have Q:Rows.uptoBulk (.lit (.string G.data.toList):DataW H)=G.size+1:=by
  rw[Rows.uptoBulk,Lib.size_eq]
 rw[Q]at z;obtain⟨L2,K,C4,S⟩:=mT (B:=B) J (fuel:=j) bP (by omega)
 obtain⟨L4,M,C5,T⟩:=mT (B:=B) J (fuel:=j) q4 (by omega)
 obtain⟨L6,N,C6,C7⟩:=rM (B:=B) J q6 (by omega)
 have U:E.size≤B:=by omega
 have V:F.size≤B:=by omega
 have X:G.size≤B:=by omega
 have k0:=o 0 (by omega);have k1:=o 1 (by omega);have k2:=o 2 (by omega);have k3:=o 3 (by omega);have k4:=o 4 (by omega);have k5:=o 5 (by omega);have k6:=o 6 (by omega);have k7:=o 7 (by omega);obtain⟨ab,ao,I⟩:=a
 obtain rfl:I=none:=ha;refine⟨⟨E,F,L2,s3,L4,G,L6,s7⟩,⟨by rw[u.1,sj];omega,U,V,X,S,T⟩,rfl,c2,c4,c6,?_,?_,?_,?_,?_,?_,?_,?_,K,M,N⟩
 · by_cases d:i=0
   · subst d;simpa[Addr.add]using k0
   · have f:i*8≠0:=by omega
     simpa[Addr.add,f]using k0
 · by_cases d:i=0
   · subst d;simpa[Addr.add]using k1
   · have f:i*8≠0:=by omega
     simpa[Addr.add,f,Nat.add_assoc]using k1
 · by_cases d:i=0
   · subst d;simpa[Addr.add]using k2
   · have f:i*8≠0:=by omega
     simpa[Addr.add,f,Nat.add_assoc]using k2
 · by_cases d:i=0
   · subst d;simpa[Addr.add]using k3
   · have f:i*8≠0:=by omega
     simpa[Addr.add,f,Nat.add_assoc]using k3
 · by_cases d:i=0
   · subst d;simpa[Addr.add]using k4
   · have f:i*8≠0:=by omega
     simpa[Addr.add,f,Nat.add_assoc]using k4
 · by_cases d:i=0
   · subst d;simpa[Addr.add]using k5
   · have f:i*8≠0:=by omega
     simpa[Addr.add,f,Nat.add_assoc]using k5
 · by_cases d:i=0
   · subst d;simpa[Addr.add]using k6
   · have f:i*8≠0:=by omega
     simpa[Addr.add,f,Nat.add_assoc]using k6
 · by_cases d:i=0
   · subst d;simpa[Addr.add]using k7
   · have f:i*8≠0:=by omega
     simpa[Addr.add,f,Nat.add_assoc]using k7
set_option maxRecDepth 100000 in
theorem BR {B:Nat} (Y:B≤1000000000) {H:Type} {enc:TypeId×Value→H} {W:World} {v:Value} {d:DataW H} {p:List MemPlace} {fuel:Nat} (hf:DataW.trod enc Tryz.prog W 0 (fun _=>true) true fuel 29 [v]=some (d,p)) (hk:Rows.uptoBulk d≤B):
    ∃l:List Cn,dh W v l∧ ∀c∈l,c.who.size≤B∧c.fo.size≤B∧c.key.size≤B∧(∀e∈c.base,e.path.size≤B∧e.text.size≤B)∧(∀e∈c.mine,e.path.size≤B∧e.text.size≤B):=by
 haveI:Inhabited Cn:=⟨⟨⟨#[]⟩,⟨#[]⟩,[],0,[],⟨#[]⟩,[],0⟩⟩
 rcases Go.Deep.open_slice Tryz.underlying29 hf with⟨f,U⟩|⟨a,len,o,m,n,D,Pl,f,hb,hl,hm,F,U,z⟩
 · obtain rfl:v= .slice none 0 0:=by simpa using f
   exact⟨[],rV _,fun e M=>by cases M⟩
 obtain rfl:v= .slice (some a) len o:=by simpa using f
 have S:m=o:=F.trans (if_pos rfl);clear F;have K:=(Prod.mk.inj U).1;clear U;subst S
 have T:0<len→a.spot=none:=fun h=>by
  obtain⟨G,y,_⟩:=z 0 (by omega)
  rw[Tryz.cellsCl]at y;obtain⟨_,A,Z⟩:=World.cells?_some y
  obtain⟨X,c1,c2,c3,c4,c5,c6,c7,rfl⟩:=sh A
  have k0:=Z 0 (by omega);exact kh (v:=X) (by simpa[Addr.add]using k0)
 have J:Rows.uptoBulkAll ((List.range len).map D)≤B:=by
  rw[K,Rows.uptoBulk]at hk;omega
 have u: ∀i,i<len→ ∃c:Cn,(1≤Rows.uptoBulk (D i)∧c.who.size≤B∧c.fo.size≤B∧c.key.size≤B∧(∀e∈c.base,e.path.size≤B∧e.text.size≤B)∧(∀e∈c.mine,e.path.size≤B∧e.text.size≤B))∧a.spot=none∧en W a.block (a.off+i*8) c:=fun i j=>by
  obtain⟨G,y,I⟩:=z i (by omega)
  exact BQ Y (T (by omega)) y I (Nat.le_trans (Bk.mem (List.mem_map.2 ⟨i,List.mem_range.2 j,rfl⟩)) J)
 obtain⟨E,ae⟩:=Go.Deep.choose_lt u
 have O:=Bk.len (l:=(List.range len).map D) (fun d K=>by
  obtain⟨i,j,rfl⟩:=List.mem_map.1 K
  exact(ae i (List.mem_range.1 j)).1.1)
 simp only[List.length_map,List.length_range]at O;have P:len≤1000000000000000:=by omega
 refine⟨(List.range len).map E,⟨some a,_,by simp;rfl,by simpa using hl,by simpa using P,fun i j=>?_⟩,fun e M=>?_⟩
 · have N:i<len:=by simpa using j
   obtain⟨y,I,V⟩:=ae i N
   have Q:a.block<W.heap.size:=by
    obtain⟨_,_,_,k,_⟩:=V
    rcases Nat.lt_or_ge a.block W.heap.size with h|h
    · exact h
    · unfold World.cell? at k;rw[Array.getElem?_eq_none h]at k;cases k
   refine⟨a.block,a.off,?_,Q,by simpa using V⟩
   rw[←I]
 · obtain⟨i,j,rfl⟩:=List.mem_map.1 M
   exact(ae i (List.mem_range.1 j)).1.2
end Go.Proofs.YtgamnckfmmbjdaaGreatDoor
namespace Go.Proofs.YtgamnckfmmbjdaaGreatDoor
open Go.ChangeShapes Go.WideShapes Go.RowKit
def Pp.lay (cs:List Value) (o:Obj):Obj:=match o with
 | .cells _ t frozen=> .cells cs.toArray t frozen
 |o=>o
def mj (l:List Nat):List Value:=l.map fun(n:Nat)=>Value.int .u8 (n:Int)
def BS:List Value:=[.int .u64 1,.int .u64 10,.int .u64 100,.int .u64 1000,.int .u64 10000,.int .u64 100000,.int .u64 1000000,.int .u64 10000000,.int .u64 100000000,.int .u64 1000000000,.int .u64 10000000000,.int .u64 100000000000,.int .u64 1000000000000,.int .u64 10000000000000,.int .u64 100000000000000,.int .u64 1000000000000000,.int .u64 10000000000000000,.int .u64 100000000000000000,.int .u64 1000000000000000000,.int .u64 10000000000000000000]
def BT:List Value:=mj [0,1,28,2,29,14,24,3,30,22,20,15,25,17,4,8,31,27,13,23,21,19,16,7,26,12,18,6,11,5,10,9]
def BU:List Value:=mj [0,1,56,2,57,49,28,3,61,58,42,50,38,29,17,4,62,47,59,36,45,43,51,22,53,39,33,30,24,18,12,5,63,55,48,27,60,41,37,16,46,35,44,21,52,32,23,11,54,26,40,15,34,20,31,10,25,14,19,9,13,8,7,6]
def tf (b:Nat):List Value:=[.iface 392 (.pointer (some ⟨b,0,none⟩))]
def tg:Array Obj:= #[.cells #[.string ⟨#[105,110,118,97,108,105,100,32,115,121,110,116,97,120]⟩] 394,.cells #[.string ⟨#[118,97,108,117,101,32,111,117,116,32,111,102,32,114,97,110,103,101]⟩] 394]
theorem BV:(Rows.laid_internal_strconv_uint64pow10:DataW Unit)=Lib.tabData .u64 Lib.pow10Tab:=by kernel_rfl
theorem BW {W:World} {g:Nat} {s:String} {cs:Array Value} (d:Tryz.prog.globalNamed s=some g) (h:W.var? Tryz.prog s=some cs):g<W.heap.size:=by
 unfold World.var? at h;rw[d]at h;simp only[Option.bind_some]at h;rcases Nat.lt_or_ge g W.heap.size with a|a
 · exact a
 · rw[Array.getElem?_eq_none a]at h;cases h
end Go.Proofs.YtgamnckfmmbjdaaGreatDoor
namespace Go.Proofs.YtgamnckfmmbjdaaGreatDoor
open Go.ChangeShapes Go.WideShapes Go.RowKit
def BX:List Value:=mj [128,191,160,191,128,159,144,191,128,143,0,0,0,0,0,0,0,0,0,0,0,0,0,0,0,0,0,0,0,0,0,0]
def BY (h:Array Obj):Array Obj:=((((((h.modify 3 (Pp.lay BS)).modify 4 (Pp.lay BT)).modify 5 (Pp.lay BU)).modify 1 (Pp.lay (tf 13))).modify 2 (Pp.lay (tf 14))).modify 6 (Pp.lay (mj Go.Pinned.utf8FirstZ))).modify 7 (Pp.lay BX)
abbrev th : List (String × DataW Unit) := [("math/bits.deBruijn32tab", Rows.laid_math_bits_deBruijn32tab), ("math/bits.deBruijn64tab", Rows.laid_math_bits_deBruijn64tab), ("internal/strconv.uint64pow10", Rows.laid_internal_strconv_uint64pow10), ("unicode/utf8.acceptRanges", Rows.laid_unicode_utf8_acceptRanges), ("strconv.ErrRange", Rows.laid_strconv_ErrRange), ("strconv.ErrSyntax", Rows.laid_strconv_ErrSyntax), ("unicode/utf8.first", Rows.laid_unicode_utf8_first)]
theorem BZ {W:World} (h:laidMetH Tryz.prog th W):aR W∧5<W.heap.size:=by
 have S:laidMet Tryz.prog th W:=h;obtain⟨ps,U,_⟩:=S
 obtain⟨_,_,_,_,_,_,_,_,_,_,F,_⟩:=U
 obtain⟨g5,_,_,_,_,_,E,_,M,_,G,_⟩:=F
 obtain⟨g,t,cs,N,p,q,T,V,j,O,H,_⟩:=G
 obtain⟨_,_,_,_,_,_,_,_,_,_,f,_⟩:=H
 obtain⟨g2,Y,Q,f2,p2,bP,A,K,e,y,I,_⟩:=f
 obtain⟨g1,X,P,Z,p1,q1,z,J,d,o,_,_⟩:=I
 refine⟨⟨?_,?_,?_⟩,?_⟩
 · obtain rfl:=Option.some.inj (Tryz.powAt.symm.trans T)
   obtain rfl:t=396:=Option.some.inj (V.symm.trans (show(Tryz.prog.globals[3]?).map (·.type)=some 396 by kernel_rfl));rw[BV]at O;unfold df Lib.TabIs;rw[j,←Lib.cells_of_tab Tryz.underlying396 (show Tryz.prog.underlying 352=some (.int .u64) by kernel_rfl) (by kernel_rfl) (by kernel_rfl) O]
 · obtain rfl:=Option.some.inj (Tryz.synAt.symm.trans z)
   obtain rfl:X=244:=Option.some.inj (J.symm.trans (show(Tryz.prog.globals[1]?).map (·.type)=some 244 by kernel_rfl));obtain⟨_,u,v,a,_⟩:=iface_of_trod Tryz.underlying244 o
   exact⟨u,v,by rw[d];congr 1;exact Array.ext' (by simpa using a)⟩
 · obtain rfl:=Option.some.inj (Tryz.rngAt.symm.trans A)
   obtain rfl:Y=244:=Option.some.inj (K.symm.trans (show(Tryz.prog.globals[2]?).map (·.type)=some 244 by kernel_rfl));obtain⟨_,u,v,a,_⟩:=iface_of_trod Tryz.underlying244 y
   exact⟨u,v,by rw[e];congr 1;exact Array.ext' (by simpa using a)⟩
 · obtain rfl := Option.some.inj ((show Tryz.prog.globalNamed "math/bits.deBruijn64tab" = some 5 by kernel_rfl).symm.trans E)
   exact BW (show Tryz.prog.globalNamed "math/bits.deBruijn64tab" = some 5 by kernel_rfl) M
end Go.Proofs.YtgamnckfmmbjdaaGreatDoor
