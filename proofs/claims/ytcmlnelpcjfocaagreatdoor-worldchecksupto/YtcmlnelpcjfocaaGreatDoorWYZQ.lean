/- What Serve answers to requests that make a folder or commit; the law's hubBegun answers true. -/
import Derived.Test.YtcmlnelpcjfocaaGreatDoorWYZP
import Derived.Test.YtcmlnelpcjfocaaGreatDoorWYZN
import Derived.Deep.CutBlock
import Derived.Test.YtcmlnelpcjfocaaGreatDoorWYZO
set_option linter.unusedSimpArgs false
set_option linter.unusedVariables false
namespace Go.Proofs.YtcmlnelpcjfocaaGreatDoor
open Go.RowKit
def jO:ByteArray:=⟨#[97]⟩
def mZ:ByteArray:=⟨#[102]⟩
def zi:ByteArray:=⟨#[107]⟩
def zj:List ay:=[⟨2,⟨#[120]⟩,⟨#[]⟩,⟨#[49]⟩,0⟩]
def Hu.b1:Hb:=⟨[],[],[],1,10,1000,0⟩
def Hu.b2:Hb:=⟨[⟨mZ,⟨[],1,[]⟩⟩],[⟨mZ,jO,3⟩],[],1,10,1000,0⟩
def dF:Hb:=⟨[⟨mZ,⟨[],1,[⟨1,zi,zj⟩]⟩⟩],[⟨mZ,jO,3⟩],[],1,10,1000,0⟩
def Hu.q1:Rq:=⟨8,jO,mZ,⟨#[]⟩,⟨#[]⟩,⟨#[]⟩,0,0,0,[]⟩
def bZ:Rq:=⟨1,jO,mZ,⟨#[]⟩,zi,⟨#[]⟩,0,0,0,zj⟩
set_option maxRecDepth 100000
theorem zl:bJ [] 1 10 1000=0:=by decide
theorem Hi:ld 10 1000=Hu.b1:=by rw[ld,if_pos zl];rfl
theorem pF:ae Hu.b1=0:=by decide+kernel
theorem gm:ae Hu.b2=0:=by decide+kernel
theorem zm:kd Hu.b1:=⟨(fun s d=>by cases d),(fun s d=>by cases d),(fun s d=>by cases d)⟩
end Go.Proofs.YtcmlnelpcjfocaaGreatDoor
namespace Go.Proofs.YtcmlnelpcjfocaaGreatDoor
open Go.RowKit
set_option maxRecDepth 100000 in
set_option maxHeartbeats 4000000 in
theorem zp (A B:List En) (va vb:Value) (w:World) (hA:an w va A) (hB:an w vb B) (r:Bool) (hr:r=true↔nD A B):
    Calls Tryz.prog 22 #[va,vb] w fun e w'=>e= .returned (.bool r)∧Below w.heap.size w w':=by
 have K:=hid hr;clear hr;obtain⟨a,I0,rfl,Z,T,P⟩:=hA
 have HA:Hid (∀i (h:i<A.length),∃b o,a=some ⟨b,o,none⟩∧b<w.heap.size∧dp w b (o+i*4) A[i]):=P;obtain⟨a2,I5,rfl,M,G,Q⟩:=hB
 have HB:Hid (∀i (h:i<B.length),∃b o,a2=some ⟨b,o,none⟩∧b<w.heap.size∧dp w b (o+i*4) B[i]):=Q;clear P Q;by_cases U:A.length=B.length
 · rw[←U]at M G⊢
   have HL:=hid U;clear U;go_enter Tryz.func22,Tryz.ntmps22
   go_wp2_with fail;go_loopw [5] (fun i wr=> ∃k:Nat,k≤A.length∧i= .int .i64 k∧Hid (∀j (h:j<A.length) (E:j<B.length),j<k→ix A[j] B[j]=true)∧Below w.heap.size w wr) (fun i _=>A.length-(intOf i).toNat)
   case atStart=>exact⟨0,Nat.zero_le _,rfl,(fun j _ _ h=>absurd h (Nat.not_lt_zero _): ∀j (h:j<A.length) (E:j<B.length),j<0→ix A[j] B[j]=true),Below.refl _ _⟩
   case round=>
    obtain⟨k,hk,rfl,HP,d⟩:=hrel
    by_cases S:k<A.length
    · have I:k<B.length:=by have:=HL.out;omega
      obtain⟨b,o,rfl,hb,he⟩:=HA.out k S
      obtain⟨c0,c1,c2,c3⟩:=he.below hb d
      obtain⟨b2,o2,rfl,Y,gm⟩:=HB.out k I
      obtain⟨d0,d1,d2,d3⟩:=gm.below Y d
      have J:=hid (show ix A[k] B[k]=false→(r=false)from fun h=>Bool.eq_false_iff.2 fun x=>by have:=(K.out.1 x).2 k S I;rw[h]at this;exact Bool.noConfusion this)
      have O:=hid (show ix A[k] B[k]=true→ ∀j (h:j<A.length) (E:j<B.length),j<k+1→ix A[j] B[j]=true from fun hp j H E X=>by
       by_cases e:j=k
       · subst e;exact hp
       · exact HP.out j H E (by omega))
      clear he gm;generalize A[k]=x at*;generalize B[k]=y at*;cases H:(x.path.toList==y.path.toList)with
      |false=>
       have F:=hid (J.out (by rw[ix,H];rfl));clear J O;go_wp2_with fail;go_quiet (fail)
       generalize f:World.drewN wr _=N;have z:Below w.heap.size w N:=f▸⟨d.os,d.tape,d.output,d.size,d.block⟩;clear f;go_wp2_with fail;go_ret;exact⟨by rw[F.out];rfl,z⟩
      |true=>
       cases E:(x.folder==y.folder)with
       |false=>
        have F:=hid (J.out (by rw[ix,H,E];rfl));clear J O;go_wp2_with fail;go_quiet (fail)
        generalize f:World.drewN wr _=N;have z:Below w.heap.size w N:=f▸⟨d.os,d.tape,d.output,d.size,d.block⟩;clear f;go_wp2_with fail;go_ret;exact⟨by rw[F.out];rfl,z⟩
       |true=>
        cases X:(x.text.toList==y.text.toList)with
        |false=>
         have F:=hid (J.out (by rw[ix,H,E,X];rfl));clear J O;go_wp2_with fail;go_quiet (fail)
         generalize f:World.drewN wr _=N;have z:Below w.heap.size w N:=f▸⟨d.os,d.tape,d.output,d.size,d.block⟩;clear f;go_wp2_with fail;go_ret;exact⟨by rw[F.out];rfl,z⟩
        |true=>
         have V:=hid (O.out (by rw[ix,H,E,X];rfl));clear J O;go_wp2_with fail;go_quiet (fail)
         generalize f:World.drewN wr _=N;have z:Below w.heap.size w N:=f▸⟨d.os,d.tape,d.output,d.size,d.block⟩;clear f;go_wp2_with fail;go_roundw
         case rel=>exact⟨k+1,by omega,by simp,V,z⟩
         case measure=>simp[intOf];omega
    · have F:=hid (show r=true from K.out.2 ⟨HL.out,fun j H E=>HP.out j H E (by omega)⟩)
      go_wp2_with fail;go_ret;exact⟨by rw[F.out];rfl,d⟩
 · have F:=hid (show r=false from Bool.eq_false_iff.2 fun x=>U (K.out.1 x).1)
   have I6: ¬(A.length:Int)=B.length:=by omega
   go_enter Tryz.func22,Tryz.ntmps22
   go_wp2_with fail;go_ret;exact⟨by rw[F.out];rfl,Below.refl _ _⟩
theorem Hj {d y A:Type} (p:bk d) (f:d→bk y) (g:y→bk A):aJ (aJ p f) g=aJ p fun x=>aJ (f x) g:=by
 funext l
 unfold aJ;cases p l with
 |none=>rfl
 |some z=>rfl
theorem Hk {d y:Type} (x:d) (f:d→bk y):aJ (dJ x) f=f x:=rfl
theorem Hl (g:Int→Bool) (m:Int):ei g m=aJ (aS g) fun e=>aJ (aS g) fun n=>aJ (eB g) fun r=>aJ (cO g 60) fun k=>aJ (eC (dW g m) k.toNat) fun t=>aJ (cO g 10) fun d=>aJ (eC (dL g m) d.toNat) fun c=>aJ (aS g) fun u=>aJ (eB g) fun o=>dJ ⟨e,n,⟨r,t,c,u,o⟩⟩:=by
 unfold ei jk dr;simp only[Hj,Hk]
def lV {α β:Type} (o:Option (α×List UInt8)) (f:α→bk β):Option (β×List UInt8):=match o with
 |none=>none
 |some (x,r)=>f x r
theorem zr {d y:Type} (p:bk d) (n:Nat) (f:List d→bk y) (l:List UInt8):aJ (eC p n) f l=lV (ed p n [] l) f:=by
 rw[←sv];rfl
theorem aV.apartE {B B':Nat} {xs:List En} {x:Value} {W d:World} {T:TypeId} {n k:Nat} {v:Value} {I:List Value} (h:aV B 107 4 ff xs x W) (A:W.ownsRow B' T n v k I) (G:107≠T) (H:W.grownBy d v.ownBlock):aV B 107 4 ff xs x d:=by
 obtain⟨Z,E,F,f⟩:=h
 exact⟨Z,E,yF F A G H,fun z y=>⟨(f z y).1,(f z y).2⟩⟩
theorem Hm (W:World) (p:ByteArray) (f:Bool) (t:ByteArray) (v:Int): ∀j u,([.string p,.bool f,.string t,.int .i64 v]:List Value)[j]?=some u→(W.alloc (.cells #[.string p,.bool f,.string t,.int .i64 v] 107)).cell? ((⟨W.heap.size,0,none⟩:Addr).add j)=some u:=by
 intro j u y;have d:=(Cs.new W ([.string p,.bool f,.string t,.int .i64 v]) 107).cell j y;rw[Addr.add_lit,Nat.zero_add];exact d
def tn (c:Co):Prop:=pj c∧c.ch.length≤20
set_option maxHeartbeats 8000000 in
set_option maxRecDepth 8000 in
theorem Hn (s:ByteArray) (w:World) (hs:s.size≤140737488351232):
    Calls Tryz.prog 13 #[.string s] w fun e w'=>lR (Wr.whole (ei ah 1000 s.data.toList)) (.agg cY.toArray) (fO w.heap.size) e w'∧Below w.heap.size w w':=by
 obtain⟨wa,IQ⟩: ∃wa,wa=w.alloc (.cells cY.toArray 57):=⟨_,rfl⟩
 obtain⟨wb,IR⟩: ∃wb,wb=wa.alloc (.cells #[.string s,.int .i64 0,.bool false] 103):=⟨_,rfl⟩
 have sa:wa.heap.size=w.heap.size+1:=by rw[IQ];simp
 have sb:wb.heap.size=w.heap.size+1+1:=by rw[IR];simp[sa]
 have Ki:Below w.heap.size w wa:=by rw[IQ];exact bO _ _
 have JB:Below wa.heap.size wa wb:=by rw[IR];exact bO _ _
 have JA:Below w.heap.size w wb:=Ki.trans (JB.mono (by omega));have Kf:Cs wb w.heap.size cY:=Cs.below (show Cs wa w.heap.size cY by rw[IQ];exact Cs.new w cY _) JB;have IP:Sc (w.heap.size+1) s 0 false wb:=by unfold Sc;rw[←sa,IR];exact heap_alloc_new wa _
 have H0:=hid (nX cY 57 IP (Nat.zero_le _));have Ku:=hid (show∀W,wb.grownBy W (some (w.heap.size+1))→Cs W w.heap.size cY from fun W d=>Kf.nb d (by omega));have JZ:=hid (show∀W,wb.grownBy W (some (w.heap.size+1))→Below w.heap.size w W from fun W d=>JA.trans (lS d (by omega) JA.size));have HS:=hid hs;obtain⟨RC,Jx⟩: ∃x,x=ei aF bf s.data.toList:=⟨_,rfl⟩
 have K0:=hid Jx;obtain⟨F2,Jw⟩: ∃F2:Int→Int→Bool→List En→List Co→bk An,F2=fun e n r t c=>aJ (aS aF) fun u=>aJ (eB aF) fun o=>dJ ⟨e,n,⟨r,t,c,u,o⟩⟩:=⟨_,rfl⟩
 obtain⟨F1,Jv⟩: ∃F1:Int→Int→Bool→List En→bk An,F1=fun e n r t=>aJ (cO aF 10) fun k2=>aJ (eC (dL aF bf) k2.toNat) fun c=>F2 e n r t c:=⟨_,rfl⟩
 have JM:=hid (show RC=aJ (aS aF) (fun e=>aJ (aS aF) fun n=>aJ (eB aF) fun r=>aJ (cO aF 60) fun k=>aJ (eC (dW aF bf) k.toNat) fun t=>F1 e n r t) (s.data.toList.drop 0)from by rw[Jx,Hl,Jv,Jw,List.drop_zero]);have JO:=hid Jv;have JQ:=hid Jw;have I8:=hid (im (w.heap.size+1) 0 s false _ H0.out.sc H0.out.jl hs);rw[IR,IQ]at I8;have Kb:=hid (show wb.alloc (.cells cY.toArray 57)=((w.alloc (.cells cY.toArray 57)).alloc (.cells #[.string s,.int .i64 0,.bool false] 103)).alloc (.cells cY.toArray 57)from by rw[IR,IQ]);rw[sb]at H0;have IN:=hid sb;obtain⟨W0,Jy⟩: ∃x,x=Wr.whole (ei ah 1000 s.data.toList):=⟨_,rfl⟩
 rw[←Jy];have K9:=hid Jy;clear IR IQ sa sb JB Ki Kf IP JA Jx hs Jy Jv Jw;go_enter Tryz.func13,Tryz.ntmps13
 go_wp2_with fail;refine I8.out.mono ?_
 intro e w1 A;rw[←Kb.out]at A;obtain⟨X,_,j1,b1,rfl,rfl,p1,E,Kz,d,F,hF⟩:=A.step (fun h=>by cases h) (fun _=>JM.out)
 have H1:=hid (H0.out.call d E Kz);have K2:=hid F;have JN:=hid hF;have y0:=H1.out.cC.cell 0 rfl;have z0:=H1.out.cC.fr 0;clear A E d F hF JM I8 H0 Kb;go_wp2_with fail;refine(im (w.heap.size+1) j1 s b1 _ (H1.out.set 0 (.int .i64 X)).sc (H1.out.set 0 (.int .i64 X)).jl HS.out).mono ?_
 intro e w2 A;obtain⟨Y,_,j2,b2,rfl,rfl,p2,E,KA,d,F,hF⟩:=A.step K2.out JN.out
 have H2:=hid ((H1.out.set 0 (.int .i64 X)).call d E KA);have K3:=hid F;have JP:=hid hF;clear A E d F hF K2 JN H1 y0 z0;have y1:=H2.out.cC.cell 1 rfl;have z1:=H2.out.cC.fr 1;go_wp2_with fail;refine(tf (w.heap.size+1) j2 s b2 _ (H2.out.set 1 (.int .i64 Y)).sc (H2.out.set 1 (.int .i64 Y)).jl HS.out).mono ?_
 intro e w3 A;obtain⟨qr,_,j3,dF,rfl,rfl,p3,E,KB,d,F,hF⟩:=A.step K3.out JP.out
 have H3:=hid ((H2.out.set 1 (.int .i64 Y)).call d E KB);have K4:=hid F;have JR:=hid hF;clear A E d F hF K3 JP H2 y1 z1;have al:=H3.out.cC.cell 2 rfl;have z2:=H3.out.cC.fr 2;go_wp2_with fail;refine(sQ (w.heap.size+1) j3 60 s dF _ (H3.out.set 2 (.bool qr)).sc (H3.out.set 2 (.bool qr)).jl HS.out (by decide)).mono ?_
 intro e w4 A;obtain⟨n4,_,j4,b4,rfl,rfl,⟨JH,JI⟩,E,KC,d,F,hF⟩:=A.step K4.out JR.out
 obtain⟨N,rfl⟩: ∃N:Nat,n4=N:=⟨n4.toNat,by omega⟩
 have H4:=hid ((H3.out.set 2 (.bool qr)).call d E KC);have Jt:=hid F;have Jl:=hid (show b4=false→RC=lV (ed (dW aF bf) (N-0) [] (s.data.toList.drop j4)) (F1 X Y qr)from fun h=>by rw[hF h,Int.toNat_natCast,Nat.sub_zero,zr]);have KK:N≤60:=by omega
 have I:=hid (show aV (w.heap.size+1+1+1) 107 4 ff [] (.slice none 0 0) w4 from mM _ _ _ _ _);clear A E d F hF K4 JR H3 al z2 JH JI;obtain⟨i4,Ky,Kq,Kr,Ks⟩:=info_parts Tryz.infoW4
 obtain⟨i3,Kx,Km,Kn,Ko⟩:=info_parts Tryz.infoW3
 go_upto_block 0 with fail
 go_cut [7]from 28 to 59 (fun i W=> ∃(j:Nat) (bd:Bool) (xs:List En) (x:Value),xs.length≤60∧Hid (S5 wb (w.heap.size+1) (w.heap.size+1+1) s j bd [.int .i64 X,.int .i64 Y,.bool qr,x,.slice none 0 0,.int .i64 0,.bool false] W)∧Hid (aV (w.heap.size+1+1+1) 107 4 ff xs x W)∧Hid (∀e∈xs,mO e)∧Hid (bd=true→RC=none)∧Hid (bd=false→RC=F1 X Y qr xs (s.data.toList.drop j)))
 case first=>
  go_wp2_with fail;go_loopw [7] (fun i wr=> ∃(k j:Nat) (bd:Bool) (xs:List En) (x:Value),i= .int .i64 k∧k≤N∧xs.length=k∧Hid (S5 wb (w.heap.size+1) (w.heap.size+1+1) s j bd [.int .i64 X,.int .i64 Y,.bool qr,x,.slice none 0 0,.int .i64 0,.bool false] wr)∧Hid (aV (w.heap.size+1+1+1) 107 4 ff xs x wr)∧Hid (∀e∈xs,mO e)∧Hid (bd=true→RC=none)∧Hid (bd=false→RC=lV (ed (dW aF bf) (N-k) xs (s.data.toList.drop j)) (F1 X Y qr))) (fun i _=>N-(intOf i).toNat)
  case atStart=>exact⟨0,j4,b4,[],.slice none 0 0,rfl,Nat.zero_le _,rfl,H4,I,hid (fun e he=>by cases he),Jt,Jl⟩
  case round=>
   obtain⟨k,j,bd,xs,x,rfl,hk,Jb,K,H,ID,HT,HF⟩:=hrel
   clear H4 I Jt Jl;have c2:=K.out.sc.cs.cell 2 rfl;by_cases KH:k<N
   · cases S:bd with
     |true=>
      rw[S]at c2;have IM:=hid (HT.out S);go_wp2_with fail;go_meet
      case rel=>exact⟨j,bd,xs,x,by omega,K,H,ID,HT,hid (fun h=>by rw[S]at h;cases h)⟩
     |false=>
      rw[S]at c2;obtain⟨m,hm⟩: ∃m,N-k=m+1:=⟨N-k-1,by omega⟩
      have I9:=hid (HF.out S);rw[hm]at I9;have H0:=hid (nX lQ 107 K.out.sc K.out.jl);rw[S]at H0;obtain⟨RE,IH⟩: ∃y,y=dW aF bf (s.data.toList.drop j):=⟨_,rfl⟩
      have Iy:=hid (show RE=aJ (bg aF bf) (fun p=>aJ (eB aF) fun f=>aJ (bg aF bf) fun t=>aJ (aS aF) fun v=>dJ ⟨p,f,t,v⟩) (s.data.toList.drop j)from IH);have IA:=hid IH;clear HT HF IH;have I8:=hid (jq (w.heap.size+1) j s false _ H0.out.sc H0.out.jl HS.out);go_wp2_with fail;refine I8.out.mono ?_
      intro e w5 A;obtain⟨ep,_,jA,jO,rfl,rfl,pA,E,JE,d,F,hF⟩:=A.step (fun h=>by cases h) (fun _=>Iy.out)
      have HA:=hid (H0.out.call d E JE);have J2:=hid F;have IU:=hid hF;have y0:=HA.out.cC.cell 0 rfl;have z0:=HA.out.cC.fr 0;clear A E d F hF Iy I8 H0 c2;go_wp2_with fail;have IX:=hid (tf (w.heap.size+1) jA s jO _ (HA.out.set 0 (.string ep)).sc (HA.out.set 0 (.string ep)).jl HS.out);refine IX.out.mono ?_
      intro e w6 A;obtain⟨ef,_,jB,bB,rfl,rfl,pB,E,JF,d,F,hF⟩:=A.step J2.out IU.out
      have HB:=hid ((HA.out.set 0 (.string ep)).call d E JF);have J3:=hid F;have IV:=hid hF;have y1:=HB.out.cC.cell 1 rfl;have z1:=HB.out.cC.fr 1;clear A E d F hF IX J2 IU HA y0 z0;go_wp2_with fail;have JX:=hid (jq (w.heap.size+1) jB s bB _ (HB.out.set 1 (.bool ef)).sc (HB.out.set 1 (.bool ef)).jl HS.out);refine JX.out.mono ?_
      intro e w7 A;obtain⟨et,_,jC,bC,rfl,rfl,pC,E,KF,d,F,hF⟩:=A.step J3.out IV.out
      have HC:=hid ((HB.out.set 1 (.bool ef)).call d E KF);have K8:=hid F;have JV:=hid hF;have al:=HC.out.cC.cell 2 rfl;have z2:=HC.out.cC.fr 2;clear A E d F hF JX J3 IV HB y1 z1;go_wp2_with fail;have IY:=hid (im (w.heap.size+1) jC s bC _ (HC.out.set 2 (.string et)).sc (HC.out.set 2 (.string et)).jl HS.out);refine IY.out.mono ?_
      intro e w8 A;obtain⟨ev,_,jD,bD,rfl,rfl,pD,E,JG,d,F,hF⟩:=A.step K8.out JV.out
      have HD:=hid ((HC.out.set 2 (.string et)).call d E JG);have J4:=hid F;have IW:=hid hF;have y3:=HD.out.cC.cell 3 rfl;have z3:=HD.out.cC.fr 3;clear A E d F hF IY K8 JV HC al z2;obtain⟨V,U⟩: ∃V,V=w8.setCell ⟨wr.heap.size,3,none⟩ (.int .i64 ev):=⟨_,rfl⟩
      have G:=hid (HD.out.set 3 (.int .i64 ev));rw[←U]at G;have y0:=HD.out.cC.cell 0 rfl;have y1:=HD.out.cC.cell 1 rfl;have al:=HD.out.cC.cell 2 rfl;go_upto_region 15 with fail;rw[←U];clear y0 y1 al y3 z3;have y0:=G.out.cC.cell 0 rfl;have y1:=G.out.cC.cell 1 rfl;have al:=G.out.cC.cell 2 rfl;have y3:=G.out.cC.cell 3 rfl;obtain⟨ax,lx,cx,rfl⟩:=H.out.shape
      have KG:w.heap.size+1+1<wr.heap.size:=K.out.cC.lt;have Ix:=K.out.cC.nb G.out.fr (by omega);have x3:=Ix.cell 3 rfl;have f3:=Ix.fr 3;obtain⟨Z,II,J7,IJ⟩:=H.out
      have Jz:Z.length=k:=by rw[←Jb,←II,List.length_map]
      have I5:=lN J7 G.out.fr (by omega);have Kk:=G.out.fr.size;have Jp:=hid (aG K.out.fr G.out.fr);have IT:=hid (show(bD=true→RC=none)∧(bD=false→RC=lV (ed (dW aF bf) m (xs++[⟨ep,ef,et,ev⟩]) (s.data.toList.drop jD)) (F1 X Y qr))from⟨fun h=>by rw[I9.out,mJ (by rw[←IA.out];exact J4.out h)];rfl,fun h=>by rw[I9.out,mK (by rw[←IA.out,IW.out h];rfl)]⟩);have Jq:=hid (Hm V ep ef et ev);clear K H I9 IA J4 IW HD U;go_wp2_with (at_builtin;refine wpList_append_own _ rfl _ _ 44 rfl (w.heap.size+1+1+1) 107 i4 (.agg #[.string ⟨#[]⟩,.bool false,.string ⟨#[]⟩,.int .i64 0]) 4 48 Tryz.underlying44 Ky Kq Kr Ks rfl (by decide) _ _ _ rfl (I5.alloc _) ⟨V.heap.size,0,none⟩ 1 1 ([.string ep,.bool ef,.string et,.int .i64 ev]) rfl rfl Jq.out (by simp[Value.oneCell']) (by unfold maxLen;omega) (by omega) (by simp;omega) ?_)
      intro v5 IL J9 Q J8;have Iv:Below (w.heap.size+1+1+1) V IL:=((Below.refl _ V).alloc (by omega) _).grown Q (by simp;omega) (fun q hq=>(I5.lt q hq).1);have IG:aV (w.heap.size+1+1+1) 107 4 ff (xs++[⟨ep,ef,et,ev⟩]) v5 IL:=by rw[←II];exact aV.snoc (r:=[.string ep,.bool ef,.string et,.int .i64 ev]) (by rw[Jz];exact J9) (fun z hz=>⟨(IJ z hz).1,(IJ z hz).2⟩) ⟨rfl,rfl,by simp[Value.oneCell']⟩
      obtain⟨a5,l5,c5,rfl⟩:=IG.shape
      have Iw:=Ix.belowAt Iv (by omega);have H5:=hid (show S5 wb (w.heap.size+1) (w.heap.size+1+1) s jD bD [.int .i64 X,.int .i64 Y,.bool qr,.slice ax lx cx,.slice none 0 0,.int .i64 0,.bool false] IL from⟨(Iv.block _ (by omega)).trans G.out.sc,G.out.jl,Iw,mN Jp.out (Iv.mono (by have:=IN.out;omega)),by have:=IN.out;omega,by have:=IN.out;omega⟩);have u3:=Iw.cell 3 rfl;have g3:=Iw.fr 3;have Jr:=hid (IG.setE (g:=w.heap.size+1+1) (by omega) 3 (.slice a5 l5 c5));have H6:=hid (H5.out.set 3 (.slice a5 l5 c5))
      have J5:=hid (show∀e∈xs++[⟨ep,ef,et,ev⟩],mO e from fun e he=>by
       rcases List.mem_append.1 he with h1|h1
       · exact ID.out e h1
       · rw[List.mem_singleton]at h1;rw[h1];exact⟨pD,pA,pC⟩)
      clear J9 Q J8 I5 II J7 IJ Iv IG H5 Iw Ix x3 f3 y0 y1 al y3;go_wp2_with fail;go_roundw
      case rel=>exact⟨k+1,jD,bD,xs++[⟨ep,ef,et,ev⟩],_,by simp,by omega,by simp[Jb],H6,Jr,J5,hid IT.out.1,hid (fun h=>by rw[IT.out.2 h,show N-(k+1)=m from by omega])⟩
      case measure=>simp[intOf];omega
   · obtain rfl:k=N:=by omega
     go_wp2_with fail;go_meet
     case rel=>
      refine⟨j,bd,xs,x,by omega,K,H,ID,HT,hid (fun h=>?_)⟩
      have h1:=HF.out h;rw[Nat.sub_self,mI]at h1;exact h1
 case rest=>
  obtain⟨j5,b5,T,x,KN,K,P,Kc,K5,Je⟩:=hcut
  have JS:=hid (show b5=false→RC=aJ (cO aF 10) (fun k2=>aJ (eC (dL aF bf) k2.toNat) fun c=>F2 X Y qr T c) (s.data.toList.drop j5)from fun h=>by rw[Je.out h,JO.out]);obtain⟨at_,IK,IE,rfl⟩:=P.out.shape
  clear H4 I Jt Jl Je;go_wp2_with fail;refine(sQ (w.heap.size+1) j5 10 s b5 _ K.out.sc K.out.jl HS.out (by decide)).mono ?_
  intro e w6 A;obtain⟨n6,_,j6,b6,rfl,rfl,⟨JH,JI⟩,E,KD,d,F,hF⟩:=A.step K5.out JS.out
  obtain⟨M,rfl⟩: ∃M:Nat,n6=M:=⟨n6.toNat,by omega⟩
  have H6:=hid (K.out.call d E KD);have J1:=hid (P.out.nb d (by omega) (fun _ _ h=>h));have Ju:=hid F;have Jm:=hid (show b6=false→RC=lV (ed (dL aF bf) (M-0) [] (s.data.toList.drop j6)) (F2 X Y qr T)from fun h=>by rw[hF h,Int.toNat_natCast,Nat.sub_zero,zr]);have KJ:M≤10:=by omega
  have I:=hid (show dM (w.heap.size+1+1+1) [] (.slice none 0 0) w6 from mM _ _ _ _ _);clear A E d F hF K5 JS K P JH JI;go_upto_block 2 with fail
  go_cut [9]from 62 to 90 (fun i W=> ∃(j:Nat) (bd:Bool) (xs:List Co) (x:Value),xs.length≤10∧Hid (S5 wb (w.heap.size+1) (w.heap.size+1+1) s j bd [.int .i64 X,.int .i64 Y,.bool qr,.slice at_ IK IE,x,.int .i64 0,.bool false] W)∧Hid (dM (w.heap.size+1+1+1) xs x W)∧Hid (aV (w.heap.size+1+1+1) 107 4 ff T (.slice at_ IK IE) W)∧Hid (∀e∈xs,tn e)∧Hid (bd=true→RC=none)∧Hid (bd=false→RC=F2 X Y qr T xs (s.data.toList.drop j)))
  case first=>
   go_wp2_with fail;go_loopw [9] (fun i wr=> ∃(k j:Nat) (bd:Bool) (xs:List Co) (x:Value),i= .int .i64 k∧k≤M∧xs.length=k∧Hid (S5 wb (w.heap.size+1) (w.heap.size+1+1) s j bd [.int .i64 X,.int .i64 Y,.bool qr,.slice at_ IK IE,x,.int .i64 0,.bool false] wr)∧Hid (dM (w.heap.size+1+1+1) xs x wr)∧Hid (aV (w.heap.size+1+1+1) 107 4 ff T (.slice at_ IK IE) wr)∧Hid (∀e∈xs,tn e)∧Hid (bd=true→RC=none)∧Hid (bd=false→RC=lV (ed (dL aF bf) (M-k) xs (s.data.toList.drop j)) (F2 X Y qr T))) (fun i _=>M-(intOf i).toNat)
   case atStart=>exact⟨0,j6,b6,[],.slice none 0 0,rfl,Nat.zero_le _,rfl,H6,I,J1,hid (fun e he=>by cases he),Ju,Jm⟩
   case round=>
    obtain⟨k,j,bd,xs,x,rfl,hk,Jb,K,H,IC,ID,HT,HF⟩:=hrel
    clear H6 I Ju Jm J1;have c2:=K.out.sc.cs.cell 2 rfl;by_cases KH:k<M
    · cases S:bd with
      |true=>
       rw[S]at c2;go_wp2_with fail;go_meet
       case rel=>exact⟨j,bd,xs,x,by omega,K,H,IC,ID,HT,hid (fun h=>by rw[S]at h;cases h)⟩
      |false=>
       rw[S]at c2;obtain⟨m,hm⟩: ∃m,M-k=m+1:=⟨M-k-1,by omega⟩
       have I9:=hid (HF.out S);rw[hm]at I9;have H0:=hid (nX lU 110 K.out.sc K.out.jl);rw[S]at H0;obtain⟨RE,IH⟩: ∃y,y=dL aF bf (s.data.toList.drop j):=⟨_,rfl⟩
       have Iy:=hid (show RE=aJ (aS aF) (fun n=>aJ (bg aF bf) fun k=>aJ (dr aF 20 (dt aF bf)) fun cs=>dJ ⟨n,k,cs⟩) (s.data.toList.drop j)from IH);have IA:=hid IH;clear HT HF IH;have I8:=hid (im (w.heap.size+1) j s false _ H0.out.sc H0.out.jl HS.out);go_wp2_with fail;refine I8.out.mono ?_
       intro e w7 A;obtain⟨en,_,jA,jO,rfl,rfl,pA,E,JE,d,F,hF⟩:=A.step (fun h=>by cases h) (fun _=>Iy.out)
       have HA:=hid (H0.out.call d E JE);have J2:=hid F;have IU:=hid hF;have y0:=HA.out.cC.cell 0 rfl;have z0:=HA.out.cC.fr 0;clear A E d F hF Iy I8 H0 c2;go_wp2_with fail;have IX:=hid (jq (w.heap.size+1) jA s jO _ (HA.out.set 0 (.int .i64 en)).sc (HA.out.set 0 (.int .i64 en)).jl HS.out);refine IX.out.mono ?_
       intro e w8 A;obtain⟨ek,_,jB,bB,rfl,rfl,pB,E,JF,d,F,hF⟩:=A.step J2.out IU.out
       have HB:=hid ((HA.out.set 0 (.int .i64 en)).call d E JF);have J3:=hid F;have IV:=hid hF;have y1:=HB.out.cC.cell 1 rfl;have z1:=HB.out.cC.fr 1;clear A E d F hF IX J2 IU HA y0 z0;go_wp2_with fail;have IY:=hid (yv (w.heap.size+1) jB s bB _ (HB.out.set 1 (.string ek)).sc (HB.out.set 1 (.string ek)).jl HS.out);refine IY.out.mono ?_
       intro e w9 A;obtain⟨es,vc,jD,bD,rfl,Ja,pD,E,JG,d,F,hF⟩:=A.step J3.out IV.out
       have HD:=hid ((HB.out.set 1 (.string ek)).call d E JG);have J4:=hid F;have IW:=hid hF;have al:=HD.out.cC.cell 2 rfl;have z2:=HD.out.cC.fr 2;have JC:=(HB.out.set 1 (.string ek)).cC.lt;clear A E d F hF IY J3 IV HB y1 z1;obtain⟨av,lv,cv,rfl⟩:=Ja.shape
       obtain⟨V,U⟩: ∃V,V=w9.setCell ⟨wr.heap.size,2,none⟩ (.slice av lv cv):=⟨_,rfl⟩
       have G:=hid (HD.out.set 2 (.slice av lv cv));rw[←U]at G;have KG:w.heap.size+1+1<wr.heap.size:=K.out.cC.lt;have Kw:=hid (show fw (w.heap.size+1+1+1) ⟨en,ek,es⟩ [.int .i64 en,.string ek,.slice av lv cv] V from⟨_,rfl,by rw[U];exact(Ja.setC JC 2 (.slice av lv cv)).low (by simp at JC⊢;omega)⟩);have y0:=HD.out.cC.cell 0 rfl;have y1:=HD.out.cC.cell 1 rfl;go_upto_region 24 with fail;rw[←U];clear y0 y1 al z2 Ja JC;have y0:=G.out.cC.cell 0 rfl;have y1:=G.out.cC.cell 1 rfl;have al:=G.out.cC.cell 2 rfl;obtain⟨ax,lx,cx,rfl⟩:=H.out.shape
       have Ix:=K.out.cC.nb G.out.fr (by omega);have x4:=Ix.cell 4 rfl;have f4:=Ix.fr 4;obtain⟨Z,II,J7,IJ⟩:=H.out
       have Jz:Z.length=k:=by rw[←Jb,←II,List.length_map]
       have I5:=lN J7 G.out.fr (by omega);have Kk:=G.out.fr.size;have Jp:=hid (aG K.out.fr G.out.fr);have JW:=hid G.out.fr;have IT:=hid (show(bD=true→RC=none)∧(bD=false→RC=lV (ed (dL aF bf) m (xs++[⟨en,ek,es⟩]) (s.data.toList.drop jD)) (F2 X Y qr T))from⟨fun h=>by rw[I9.out,mJ (by rw[←IA.out];exact J4.out h)];rfl,fun h=>by rw[I9.out,mK (by rw[←IA.out,IW.out h];rfl)]⟩);have Jq:=hid (yG V en ek (.slice av lv cv));clear K H I9 IA J4 IW HD U;go_wp2_with (at_builtin;refine wpList_append_own _ rfl _ _ 53 rfl (w.heap.size+1+1+1) 110 i3 (.agg #[.int .i64 0,.string ⟨#[]⟩,.slice none 0 0]) 3 48 Tryz.underlying53 Kx Km Kn Ko rfl (by decide) _ _ _ rfl (I5.alloc _) ⟨V.heap.size,0,none⟩ 1 1 ([.int .i64 en,.string ek,.slice av lv cv]) rfl rfl Jq.out (by simp[Value.oneCell']) (by unfold maxLen;omega) (by omega) (by simp;omega) ?_)
       intro v5 IL J9 Q J8;have Iv:Below (w.heap.size+1+1+1) V IL:=((Below.refl _ V).alloc (by omega) _).grown Q (by simp;omega) (fun q hq=>(I5.lt q hq).1);have IG:dM (w.heap.size+1+1+1) (xs++[⟨en,ek,es⟩]) v5 IL:=by rw[←II];exact aV.snoc (r:=[.int .i64 en,.string ek,.slice av lv cv]) (by rw[Jz];exact J9) (fun z hz=>⟨(((IJ z hz).1.nb JW.out (by omega)).below (bO V _)).apart (I5.alloc _) (by decide) Q,(IJ z hz).2⟩) ⟨(Kw.out.below (bO V _)).apart (I5.alloc _) (by decide) Q,rfl,by simp[Value.oneCell']⟩
       have Kh:=((px (IC.out.nb JW.out (by omega) (fun _ _ h=>h)) (bO V _) (fun _ _ h=>h)).apartE (I5.alloc _) (by decide) Q)
       obtain⟨a5,l5,c5,rfl⟩:=IG.shape
       have Iw:=Ix.belowAt Iv (by omega);have H5:=hid (show S5 wb (w.heap.size+1) (w.heap.size+1+1) s jD bD [.int .i64 X,.int .i64 Y,.bool qr,.slice at_ IK IE,.slice ax lx cx,.int .i64 0,.bool false] IL from⟨(Iv.block _ (by omega)).trans G.out.sc,G.out.jl,Iw,mN Jp.out (Iv.mono (by have:=IN.out;omega)),by have:=IN.out;omega,by have:=IN.out;omega⟩);have u4:=Iw.cell 4 rfl;have g4:=Iw.fr 4;have Jr:=hid (IG.setC (g:=w.heap.size+1+1) (by omega) 4 (.slice a5 l5 c5));have K1:=hid (Kh.setE (g:=w.heap.size+1+1) (by omega) 4 (.slice a5 l5 c5));have H6:=hid (H5.out.set 4 (.slice a5 l5 c5))
       have J5:=hid (show∀e∈xs++[⟨en,ek,es⟩],tn e from fun e he=>by
        rcases List.mem_append.1 he with h1|h1
        · exact ID.out e h1
        · rw[List.mem_singleton]at h1;rw[h1];exact⟨⟨pA,pB,pD.2⟩,pD.1⟩)
       clear J9 Q J8 I5 II J7 IJ Iv IG H5 Iw Ix Kh x4 f4 y0 y1 al;go_wp2_with fail;go_roundw
       case rel=>exact⟨k+1,jD,bD,xs++[⟨en,ek,es⟩],_,by simp,by omega,by simp[Jb],H6,Jr,K1,J5,hid IT.out.1,hid (fun h=>by rw[IT.out.2 h,show M-(k+1)=m from by omega])⟩
       case measure=>simp[intOf];omega
    · obtain rfl:k=M:=by omega
      go_wp2_with fail;go_meet
      case rel=>
       refine⟨j,bd,xs,x,by omega,K,H,IC,ID,HT,hid (fun h=>?_)⟩
       have h1:=HF.out h;rw[Nat.sub_self,mI]at h1;exact h1
  case rest=>
   obtain⟨j7,b7,JJ,x,KM,K,IB,P,Jj,K6,Jf⟩:=hcut
   have JT:=hid (show b7=false→RC=aJ (aS aF) (fun u=>aJ (eB aF) fun o=>dJ ⟨X,Y,⟨qr,T,JJ,u,o⟩⟩) (s.data.toList.drop j7)from fun h=>by rw[Jf.out h,JQ.out]);obtain⟨Ke,Kt,Kg,rfl⟩:=IB.out.shape
   clear H6 I Ju Jm Jf J1;go_wp2_with fail;refine(im (w.heap.size+1) j7 s b7 _ K.out.sc K.out.jl HS.out).mono ?_
   intro e w8 A;obtain⟨qu,_,j8,b8,rfl,rfl,p8,E,KE,d,F,hF⟩:=A.step K6.out JT.out
   have H8:=hid (K.out.call d E KE);have Jh:=hid ((P.out.nb d (by omega) (fun _ _ h=>h)).setE (g:=w.heap.size+1+1) (by omega) 5 (.int .i64 qu));have Jg:=hid ((IB.out.nb d (by omega)).setC (g:=w.heap.size+1+1) (by omega) 5 (.int .i64 qu));have K7:=hid F;have JU:=hid hF;have y5:=H8.out.cC.cell 5 rfl;have z5:=H8.out.cC.fr 5;clear A E d F hF K6 JT K P IB;go_wp2_with fail;refine(tf (w.heap.size+1) j8 s b8 _ (H8.out.set 5 (.int .i64 qu)).sc (H8.out.set 5 (.int .i64 qu)).jl HS.out).mono ?_
   intro e w9 A;obtain⟨qo,_,IS,J6,rfl,rfl,p9,E,Kj,d,F,hF⟩:=A.step K7.out JU.out
   have I0:=hid ((H8.out.set 5 (.int .i64 qu)).call d E Kj);have J0:=hid (Jh.out.nb d (by omega) (fun _ _ h=>h));have IZ:=hid (Jg.out.nb d (by omega));have Ji:=hid F;have Jd:=hid hF;have y6:=I0.out.cC.cell 6 rfl;have z6:=I0.out.cC.fr 6;clear A E d F hF K7 JU H8 y5 z5 Jh Jg;obtain⟨V,U⟩: ∃V,V=w9.setCell ⟨w.heap.size+1+1,6,none⟩ (.bool qo):=⟨_,rfl⟩
   have G:=hid (I0.out.set 6 (.bool qo));have IC:=hid (J0.out.setE (g:=w.heap.size+1+1) (by omega) 6 (.bool qo));have Js:=hid (IZ.out.setC (g:=w.heap.size+1+1) (by omega) 6 (.bool qo));rw[←U]at G IC Js;clear J0 IZ;obtain⟨q,hq⟩: ∃q:An,q=⟨X,Y,⟨qr,T,JJ,qu,qo⟩⟩:=⟨_,rfl⟩
   have KL:=hid hq;have JK:=hid (show fO (w.heap.size+1+1+1) q (.agg #[.int .i64 X,.int .i64 Y,.bool qr,.slice at_ IK IE,.slice Ke Kt Kg,.int .i64 qu,.bool qo]) V from⟨_,_,by rw[hq],by rw[hq];exact IC.out,by rw[hq];exact Js.out⟩);have JY:=hid (JK.out.lies (by rw[hq];simp only;omega) (by rw[hq];simp only;omega) (fun c hc=>by rw[hq]at hc;have:=(Jj.out c hc).2;omega));have Ka:=hid (show xM q from by rw[hq];exact⟨p1,p2,p8,Kc.out,fun c hc=>(Jj.out c hc).1⟩);have HQ:=hid (And.intro (show J6=true→RC=none from Ji.out) (show J6=false→RC=some (q,s.data.toList.drop IS)from fun h=>by rw[Jd.out h,hq];rfl));have Jk:=hid (GA q _ V JY.out Ka.out);have y0:=I0.out.cC.cell 0 rfl;have y1:=I0.out.cC.cell 1 rfl;have al:=I0.out.cC.cell 2 rfl;have y3:=I0.out.cC.cell 3 rfl;have y4:=I0.out.cC.cell 4 rfl;have y5:=I0.out.cC.cell 5 rfl;clear hq Ji Jd I0 IC Js JY Ka;obtain⟨tx,Kl⟩: ∃t,t=(cI (Wr.run aL (ee q))).1:=⟨_,rfl⟩
   obtain⟨er,JD⟩: ∃e0,e0=(cI (Wr.run aL (ee q))).2:=⟨_,rfl⟩
   rw[←Kl,←JD]at Jk;have JL:=hid JD;clear Kl JD;go_upto_region 27 with fail;rw[←U];clear y0 y1 al y3 y4 y5 y6 z6 U;have y0:=G.out.cC.cell 0 rfl;have y1:=G.out.cC.cell 1 rfl;have al:=G.out.cC.cell 2 rfl;have y3:=G.out.cC.cell 3 rfl;have y4:=G.out.cC.cell 4 rfl;have y5:=G.out.cC.cell 5 rfl;have y6:=G.out.cC.cell 6 rfl;go_wp2_with fail;refine Jk.out.mono ?_
   rintro e KO ⟨rfl,I7⟩;have IP:=G.out.sc.below I7;have J:=(Ku.out V G.out.fr).below I7;have Jc:=hid ((JZ.out V G.out.fr).trans (I7.mono (JZ.out V G.out.fr).size));have Kv:=hid ((JK.out.below I7).low (B':=w.heap.size+1+1) (by omega));have Iz:=G.out.cC.below I7;have c1:=IP.cs.cell 1 rfl;have c2:=IP.cs.cell 2 rfl;have k0:=Iz.cell 0 rfl;have r0:=J.cell 0 rfl;have x0:=J.fr 0;have k1:=Iz.cell 1 rfl;have r1:=J.cell 1 rfl;have x1:=J.fr 1;have k2:=Iz.cell 2 rfl;have r2:=J.cell 2 rfl;have aY:=J.fr 2;have k3:=Iz.cell 3 rfl;have r3:=J.cell 3 rfl;have x3:=J.fr 3;have k4:=Iz.cell 4 rfl;have r4:=J.cell 4 rfl;have x4:=J.fr 4;have k5:=Iz.cell 5 rfl;have r5:=J.cell 5 rfl;have x5:=J.fr 5;have k6:=Iz.cell 6 rfl;have r6:=J.cell 6 rfl;have x6:=J.fr 6;have O:=Nat.le_refl w.heap.size;have IF:w.heap.size<w.heap.size+1+1:=by omega
   have I6:=hid (show(J6=true∨ ¬IS=s.size∨ ¬er=0)→W0=none from fun hx=>by
    cases hw:W0 with
    |none=>rfl
    |some q'=>
     have KI:=K9.out.symm.trans hw;obtain⟨k1,k2⟩:=Gy KI
     rw[←K0.out]at k1;rcases hx with hx|hx
     · rw[HQ.out.1 hx]at k1;cases k1
     · cases hb:J6 with
       |true=>rw[HQ.out.1 hb]at k1;cases k1
       |false=>
        rw[HQ.out.2 hb]at k1;simp only[Option.some.injEq,Prod.mk.injEq]at k1;rcases hx with hx|hx
        · have h1:=congrArg List.length k1.2
          rw[List.length_drop,←Lib.size_eq]at h1;simp only[List.length_nil]at h1;have:=G.out.jl
          exact absurd (by omega) hx
        · rw[JL.out,k1.1]at hx;exact absurd k2 hx)
   clear IP J Iz I7 Jk y0 y1 al y3 y4 y5 y6;cases hb:J6 with
   |true=>
    have IM:=hid (I6.out (Or.inl hb));rw[hb]at c2;go_wp2_with fail;refine bodyPost_ret (v:= .tuple #[.agg cY.toArray,.int .i64 1]) (by simp[results,Tryz.results13,go_sem,r0,r1,r2,r3,r4,r5,r6]) rfl ⟨?_,?_⟩
    · rw[IM.out];rfl
    · exact(Jc.out|>.setCell (p:=⟨w.heap.size,0,none⟩) O _|>.setCell (p:=⟨w.heap.size,1,none⟩) O _|>.setCell (p:=⟨w.heap.size,2,none⟩) O _|>.setCell (p:=⟨w.heap.size,3,none⟩) O _|>.setCell (p:=⟨w.heap.size,4,none⟩) O _|>.setCell (p:=⟨w.heap.size,5,none⟩) O _|>.setCell (p:=⟨w.heap.size,6,none⟩) O _)
   |false=>
   rw[hb]at c2;by_cases hj:IS=s.size
   · by_cases he:er=0
     · have n1:((IS:Int) !=s.size)=false:=by rw[hj];simp
       have n2:(er !=0)=false:=by rw[he];rfl
       have Kd:=hid (show W0=some q from by
        rw[K9.out];refine Gx ?_ (by rw[←JL.out];exact he)
        rw[←K0.out,HQ.out.2 hb,hj,List.drop_eq_nil_of_le (by rw[←Lib.size_eq];exact Nat.le_refl _)])
       clear I6 hj he;go_wp2_with fail;refine bodyPost_ret (v:= .tuple #[.agg #[.int .i64 X,.int .i64 Y,.bool qr,.slice at_ IK IE,.slice Ke Kt Kg,.int .i64 qu,.bool qo],.int .i64 0]) (by simp[results,Tryz.results13,go_sem,r0,r1,r2,r3,r4,r5,r6]) rfl ⟨?_,?_⟩
       · rw[Kd.out]
         exact⟨_,rfl,(Kv.out|>.set IF 0 _|>.set IF 1 _|>.set IF 2 _|>.set IF 3 _|>.set IF 4 _|>.set IF 5 _|>.set IF 6 _).low (by omega)⟩
       · exact(Jc.out|>.setCell (p:=⟨w.heap.size,0,none⟩) O _|>.setCell (p:=⟨w.heap.size,1,none⟩) O _|>.setCell (p:=⟨w.heap.size,2,none⟩) O _|>.setCell (p:=⟨w.heap.size,3,none⟩) O _|>.setCell (p:=⟨w.heap.size,4,none⟩) O _|>.setCell (p:=⟨w.heap.size,5,none⟩) O _|>.setCell (p:=⟨w.heap.size,6,none⟩) O _)
     · have n1:((IS:Int) !=s.size)=false:=by rw[hj];simp
       have n2:(er !=0)=true:=by simpa using he
       have IM:=hid (I6.out (Or.inr (Or.inr he)));clear I6 hj he;go_wp2_with fail;refine bodyPost_ret (v:= .tuple #[.agg cY.toArray,.int .i64 1]) (by simp[results,Tryz.results13,go_sem,r0,r1,r2,r3,r4,r5,r6]) rfl ⟨?_,?_⟩
       · rw[IM.out];rfl
       · exact(Jc.out|>.setCell (p:=⟨w.heap.size,0,none⟩) O _|>.setCell (p:=⟨w.heap.size,1,none⟩) O _|>.setCell (p:=⟨w.heap.size,2,none⟩) O _|>.setCell (p:=⟨w.heap.size,3,none⟩) O _|>.setCell (p:=⟨w.heap.size,4,none⟩) O _|>.setCell (p:=⟨w.heap.size,5,none⟩) O _|>.setCell (p:=⟨w.heap.size,6,none⟩) O _)
   · have n1:((IS:Int) !=s.size)=true:=by simp;omega
     have IM:=hid (I6.out (Or.inr (Or.inl hj)));clear I6 hj;go_wp2_with fail;refine bodyPost_ret (v:= .tuple #[.agg cY.toArray,.int .i64 1]) (by simp[results,Tryz.results13,go_sem,r0,r1,r2,r3,r4,r5,r6]) rfl ⟨?_,?_⟩
     · rw[IM.out];rfl
     · exact(Jc.out|>.setCell (p:=⟨w.heap.size,0,none⟩) O _|>.setCell (p:=⟨w.heap.size,1,none⟩) O _|>.setCell (p:=⟨w.heap.size,2,none⟩) O _|>.setCell (p:=⟨w.heap.size,3,none⟩) O _|>.setCell (p:=⟨w.heap.size,4,none⟩) O _|>.setCell (p:=⟨w.heap.size,5,none⟩) O _|>.setCell (p:=⟨w.heap.size,6,none⟩) O _)
end Go.Proofs.YtcmlnelpcjfocaaGreatDoor
namespace Go.Proofs.YtcmlnelpcjfocaaGreatDoor
open Go.RowKit
def fx (s:ByteArray):Int:=if(Wr.whole (ei ah 1000 s.data.toList)).isSome then 0 else 1
theorem tu {d:Type} {r:Option d} {z:Value} {V:d→Value→World→Prop} {e:Ending} {w:World} (h:lR r z V e w): ∃v,e= .returned (.tuple #[v,.int .i64 (if r.isSome then 0 else 1)]):=by
 cases r with
 |none=>exact⟨z,h⟩
 |some x=>obtain⟨v,h,_⟩:=h;exact⟨v,h⟩
theorem Ho:mT fx:=fun s w f d y=>(Gq s w f d y).mono fun _ _ h=>⟨tu h.1,h.2⟩
theorem Hp (s:ByteArray) (w:World) (d:s.size≤140737488351232):Calls Tryz.prog 13 #[.string s] w fun e w'=>(∃v,e= .returned (.tuple #[v,.int .i64 (fx s)]))∧Below w.heap.size w w':=(Hn s w d).mono fun _ _ h=>⟨tu h.1,h.2⟩
theorem Hq (s:ByteArray) (w:World) (d:s.size≤140737488351232):Calls Tryz.prog 14 #[.string s] w fun e w'=>(∃v,e= .returned (.tuple #[v,.int .i64 (kt s)]))∧Below w.heap.size w w':=(F7 s w d).mono fun _ _ h=>⟨tu h.1,h.2⟩
end Go.Proofs.YtcmlnelpcjfocaaGreatDoor
namespace Go.Proofs.YtcmlnelpcjfocaaGreatDoor
open Go.RowKit
def dj (L:List Cn) (c:Cn):Int:=if Wo.hasB L c=true then 6 else 0
theorem Hr (L:List Cn) (c:Cn):(Wo.hasB L c=true∧dj L c=6)∨(Wo.hasB L c=false∧dj L c=0):=by
 cases h:Wo.hasB L c with
 |true=>exact Or.inl ⟨rfl,by rw[dj,h,if_pos rfl]⟩
 |false=>exact Or.inr ⟨rfl,by rw[dj,h,if_neg (by decide)]⟩
theorem Hs {l:List Cn} {i k:Nat} (f:k<i) (d:i<l.length) (c:Cn):Wo.hasB (l.take (k+1)) c=(Wo.hasB (l.take k) c||(l[k].who.toList==c.who.toList)):=by
 rw[Wo.hasB,Wo.hasB,List.take_succ_eq_append_getElem (by omega),List.any_append];simp
def aE (H:Hb) (l:List Cn) (m:List Lr):Int:=if¬ae H=0 then ae H else if 4<l.length∨30<m.length then 2 else 0
def aY (H:Hb) (l:List Cn) (m:List Lr):Int:=if¬aE H l m=0 then aE H l m else cX l
def al (H:Hb) (l:List Cn) (m:List Lr):Int:=if¬aY H l m=0 then aY H l m else if lJ l=true then 6 else 0
theorem Ht (f:ByteArray→Int) (H:Hb) (l:List Cn) (m:List Lr):bY f ⟨H,l,m⟩=if¬al H l m=0 then al H l m else el f l.length m:=by
 rw[bY,al,aY,aE];by_cases h:ae H=0
 · simp only[h,not_true,if_false]
   by_cases d:4<l.length∨30<m.length
   · simp[d]
   · simp only[d,if_false,not_true]
     rfl
 · simp[h]
theorem Hv {d:ByteArray→Int} {n k:Nat} {m:List Lr} {Y Z x:Int} (h:k<m.length) (A:Y=0) (E:Z=if¬Y=0 then Y else el d n m) (z:el d n (m.take k)=0) (F:x=dv d n m[k]):(x=0∧Y=0∧el d n (m.take (k+1))=0)∨(¬x=0∧x=Z):=by
 subst F;by_cases f:dv d n m[k]=0
 · exact Or.inl ⟨f,A,sO h z f⟩
 · refine Or.inr ⟨f,?_⟩
   rw[E,if_neg (fun y=>y A),sN h z f]
set_option maxRecDepth 100000 in
set_option maxHeartbeats 8000000 in
theorem Hw (H:Hb) (l:List Cn) (m:List Lr) (v:Value) (w:World) (hv:eI w v ⟨H,l,m⟩) (Jh:kd H) (hu: ∀s∈H.fos,s.na.size≤1048576∧(∀e∈s.jo.base,e.path.size≤1048576∧e.text.size≤1048576)∧eO 1048576 s.jo.cos) (Ji: ∀c∈l,iO c) (J0: ∀c∈l,(∀e∈c.base,e.path.size≤1000000000)∧ ∀e∈c.mine,e.path.size≤1000000000) (Jj: ∀x∈m,x.tx.size≤140737488351232):
    Calls Tryz.prog 5 #[v] w fun e w'=>e= .returned (.int .i64 (bY fx ⟨H,l,m⟩))∧Below w.heap.size w w':=by
 obtain⟨vf,vg,ai,vc,vl,rfl,⟨lf,lg,aT⟩,lc,ll⟩:=hv
 simp only at lf lg aT lc ll;have Jq:=hid (show dC w (.agg #[vf,vg,ai,.int .i64 H.nx,.int .i64 H.la,.int .i64 H.ro,.int .i64 H.now]) H from⟨vf,vg,ai,rfl,lf,lg,aT⟩);have Jm:=hid (fun(X:World) (_:Below w.heap.size w X) (u:Value) (K:dC X u H)=>Hh H u X K Jh hu);have Jl:=hid (fun(X:World) (_:Below w.heap.size w X) (c:Cn) (hm:c∈l) (u:Value) (K:fU X u c)=>EA c u X K (Ji c hm) (J0 c hm).1 (J0 c hm).2);have Jp:=hid lc;have J6:=hid ll;have Js:=hid Jj;have JB:l.length≤1000000000000000:=by obtain⟨_,_,_,_,h,_⟩:=lc;exact h
 obtain⟨fa,fc,rfl,_⟩:=lf
 obtain⟨ga,gc,rfl,_⟩:=lg
 obtain⟨sa,sc,rfl,_⟩:=aT
 obtain⟨xa,xc,rfl⟩:=lc.shape
 obtain⟨ya,yc,rfl⟩:=ll.shape
 clear lc ll Jh hu Ji J0 Jj;obtain⟨X1,IV⟩: ∃x,x=aY H l m:=⟨_,rfl⟩
 have Z:=hid IV;obtain⟨X3,IX⟩: ∃x,x=bY fx ⟨H,l,m⟩:=⟨_,rfl⟩
 obtain⟨X2,IW⟩: ∃x,x=al H l m:=⟨_,rfl⟩
 have IT:=hid (show X3=if¬X2=0 then X2 else el fx l.length m by rw[IX,Ht fx H l m,←IW]);have IS:=hid (show X2=if¬X1=0 then X1 else if lJ l=true then 6 else 0 by rw[IW,al,←IV]);rw[←IX];clear IV IW IX;obtain⟨wz,IG⟩: ∃wz,wz=w.alloc (.cells #[.slice fa H.fos.length fc,.slice ga H.gs.length gc,.slice sa H.ss.length sc,.int .i64 H.nx,.int .i64 H.la,.int .i64 H.ro,.int .i64 H.now,.slice xa l.length xc,.slice ya m.length yc] 32):=⟨_,rfl⟩
 have f:Below w.heap.size w wz:=by rw[IG];exact(Below.refl _ _).alloc (Nat.le_refl _) _
 have HX:=hid (show Cs wz w.heap.size [.slice fa H.fos.length fc,.slice ga H.gs.length gc,.slice sa H.ss.length sc,.int .i64 H.nx,.int .i64 H.la,.int .i64 H.ro,.int .i64 H.now,.slice xa l.length xc,.slice ya m.length yc] by rw[IG];exact Cs.new w [.slice fa H.fos.length fc,.slice ga H.gs.length gc,.slice sa H.ss.length sc,.int .i64 H.nx,.int .i64 H.la,.int .i64 H.ro,.int .i64 H.now,.slice xa l.length xc,.slice ya m.length yc] _);have Ja:=hid IG.symm;clear IG;go_enter Tryz.func5,Tryz.ntmps5
 go_upto_region 1 with fail;rw[Ja.out];clear Ja;have p0:=HX.out.cell 0 rfl;have p1:=HX.out.cell 1 rfl;have p2:=HX.out.cell 2 rfl;have p3:=HX.out.cell 3 rfl;have p4:=HX.out.cell 4 rfl;have p5:=HX.out.cell 5 rfl;have p6:=HX.out.cell 6 rfl;go_wp2_with fail;refine(Jm.out wz f _ (Jq.out.below f)).mono ?_
 rintro e w1 ⟨rfl,Je⟩;have IK:=ag f Je;have Iy:=hid (HX.out.below Je);clear p0 p1 p2 p3 p4 p5 p6;have p7:=Iy.out.cell 7 rfl;have p8:=Iy.out.cell 8 rfl;obtain⟨E1,Jc⟩: ∃x,x=aE H l m:=⟨_,rfl⟩
 have U:=hid Jc;obtain⟨B1,Jb⟩: ∃x,x=decide (ae H=0∧(4<l.length∨30<m.length)):=⟨_,rfl⟩
 have O:=hid Jb;clear Jc Jb;go_upto_region 2 with fail;go_cut [25]from 9 to 124 (fun t W=>t= .bool B1∧W=w1)
 case first=>
  by_cases h0:ae H=0
  · have Ju:(ae H==0)=true:=by rw[h0];rfl
    by_cases h4:4<l.length
    · have Jw:4<(l.length:Int):=by omega
      have I:=hid (show B1=true by rw[O.out];exact decide_eq_true ⟨h0,Or.inl h4⟩);clear h0;go_wp2_with fail;go_meet
      case rel=>exact⟨by rw[I.out],rfl⟩
    · have Jw: ¬4<(l.length:Int):=by omega
      by_cases h3:30<m.length
      · have Jv:30<(m.length:Int):=by omega
        have I:=hid (show B1=true by rw[O.out];exact decide_eq_true ⟨h0,Or.inr h3⟩);clear h0;go_wp2_with fail;go_meet
        case rel=>exact⟨by rw[I.out],rfl⟩
      · have Jv: ¬30<(m.length:Int):=by omega
        have I:=hid (show B1=false by rw[O.out];exact decide_eq_false (fun h=>h.2.elim h4 h3));clear h0;go_wp2_with fail;go_meet
        case rel=>exact⟨by rw[I.out],rfl⟩
  · have Ju:(ae H==0)=false:=by simpa using h0
    have I:=hid (show B1=false from by rw[O.out];exact decide_eq_false (fun h=>h0 h.1));clear h0;go_wp2_with fail;go_meet
    case rel=>exact⟨by rw[I.out],rfl⟩
 case rest=>
 obtain⟨rfl,rfl⟩:=hcut
 go_upto_if 25 with fail;go_cut [3]from 9 to 124 (fun e W=>e= .int .i64 E1∧W=wc)
 case first=>
  cases hb:B1 with
  |true=>
   have I:=hid (show E1=2 from by
    obtain⟨h1,h2⟩:=of_decide_eq_true (O.out.symm.trans hb)
    rw[U.out,aE,if_neg (fun x=>x h1),if_pos h2])
   clear hb;go_wp2_with fail;go_meet
   case rel=>exact⟨by rw[I.out],rfl⟩
  |false=>
   have I:=hid (show E1=ae H from by
    have h:=of_decide_eq_false (O.out.symm.trans hb);rw[U.out,aE];by_cases h1:ae H=0
    · rw[if_neg (fun x=>x h1),if_neg (fun h2=>h ⟨h1,h2⟩),h1]
    · rw[if_pos h1])
   clear hb;go_wp2_with fail;go_meet
   case rel=>exact⟨by rw[I.out],rfl⟩
 case rest=>
  obtain⟨rfl,rfl⟩:=hcut
  clear p7 p8
  have IR:=hid (show∀i (h:i<l.length),∃b o,xa=some ⟨b,o,none⟩∧b<w.heap.size∧f9 w b (o+i*8) l[i]from by
   obtain⟨a,c,e,_,_,h⟩:=Jp.out
   injection e with e1 e2 e3
   subst e1;exact h)
  obtain⟨w9,IC⟩: ∃X,X=wc:=⟨_,rfl⟩
  have IP:=hid (show Below w.heap.size w w9 by rw[IC];exact IK);have IU:=hid (show Cs w9 w.heap.size [.slice fa H.fos.length fc,.slice ga H.gs.length gc,.slice sa H.ss.length sc,.int .i64 H.nx,.int .i64 H.la,.int .i64 H.ro,.int .i64 H.now,.slice xa l.length xc,.slice ya m.length yc] by rw[IC];exact Iy.out);rw[←IC];clear IC IK Iy;go_upto_block 0 with fail
  go_cut [3]from 9 to 124 (fun e W=>e= .int .i64 X1∧Below w9.heap.size w9 W)
  case first=>
   go_wp2_with fail;go_loopw [3,4] (fun e i wr=> ∃(k:Nat) (x:Int),k≤l.length∧i= .int .i64 k∧e= .int .i64 x∧Hid ((x=0∧E1=0∧cX (l.take k)=0)∨(¬x=0∧x=X1))∧Below w9.heap.size w9 wr) (fun _ i _=>l.length-(intOf i).toNat)
   case atStart=>
    refine⟨0,E1,Nat.zero_le _,rfl,rfl,?_,Below.refl _ _⟩
    by_cases h:E1=0
    · exact hid (Or.inl ⟨h,h,rfl⟩)
    · exact hid (Or.inr ⟨h,by rw[Z.out,aY,←U.out,if_pos h]⟩)
   case round=>
    obtain⟨k,x,hk,rfl,rfl,V,d⟩:=hrel
    have M:=ag IP.out d;have p7:=(IU.out.below d).cell 7 rfl;rcases V.out with⟨K,hE,I9⟩|⟨K,hX⟩
    · subst K
      have Q:=hid I9;have G:=hid hE;clear I9 hE V;by_cases z:k<l.length
      · obtain⟨b,o,rfl,hb,he⟩:=IR.out k z
        obtain⟨vb,vm,va,c0,c1,c2,c3,c4,c5,c6,c7,l1,l2,l3⟩:=he.below hb M
        have J7:=hid (show fU wr (.agg #[.string l[k].who,.string l[k].fo,vb,.int .i64 l[k].cur,vm,.string l[k].key,va,.int .i64 l[k].keys]) l[k]from⟨vb,vm,va,rfl,l1,l2,l3⟩);obtain⟨ea,ec,rfl,_⟩:=l1
        obtain⟨na,nc,rfl,_⟩:=l2
        obtain⟨qa,qc,rfl,_⟩:=l3
        have E:(k:Int)<l.length:=by omega
        clear he;go_wp2_with fail;refine(Jl.out wr M l[k] (List.getElem_mem z) _ J7.out).mono ?_
        rintro e w2 ⟨rfl,S⟩;have IY:=ag d S
        have J:=hid (show(bo l[k]=0∧E1=0∧cX (l.take (k+1))=0)∨(¬bo l[k]=0∧bo l[k]=X1)from by
         by_cases h:bo l[k]=0
         · exact Or.inl ⟨h,G.out,(rZ z Q.out).trans h⟩
         · refine Or.inr ⟨h,?_⟩
           rw[Z.out,aY,←U.out,if_neg (fun y=>y G.out),se z Q.out h])
        clear c0 c1 c2 c3 c4 c5 c6 c7 p7 J7 S;go_wp2_with fail;go_roundw
        case rel=>exact⟨k+1,_,by omega,by simp,rfl,J,IY⟩
        case measure=>simp[intOf];omega
      · have I7:=hid (show(0:Int)=X1 by
         have:=Q.out
         rw[List.take_of_length_le (by omega)]at this;rw[Z.out,aY,←U.out,if_neg (fun y=>y G.out),this])
        have E: ¬(k:Int)<l.length:=by omega
        go_wp2_with fail;go_meet
        case rel=>exact⟨by rw[I7.out],d⟩
    · have Jk:(x==0)=false:=by simpa using K
      have I6:=hid hX;clear K hX V;rcases(show(k:Int)<l.length∨ ¬(k:Int)<l.length from Decidable.em _)with E|E
      all_goals
       go_wp2_with fail;go_meet
       case rel=>exact⟨by rw[I6.out],d⟩
  case rest=>
  obtain⟨rfl,N⟩:=hcut
  obtain⟨wd,ID⟩: ∃X,X=wc:=⟨_,rfl⟩
  have IQ:=hid (show Below w.heap.size w wd by rw[ID];exact ag IP.out N);have I0:=hid (show Cs wd w.heap.size [.slice fa H.fos.length fc,.slice ga H.gs.length gc,.slice sa H.ss.length sc,.int .i64 H.nx,.int .i64 H.la,.int .i64 H.ro,.int .i64 H.now,.slice xa l.length xc,.slice ya m.length yc] by rw[ID];exact IU.out.below N);rw[←ID];clear ID N IU IP;go_upto_block 2 with fail
  go_cut [3]from 9 to 124 (fun e W=>e= .int .i64 X2∧Below wd.heap.size wd W)
  case first=>
   go_wp2_with fail;go_loopw [3,5] (fun e i wr=> ∃(k:Nat) (x:Int),k≤l.length∧i= .int .i64 k∧e= .int .i64 x∧Hid ((x=0∧X1=0∧ ∀j (h:j<l.length),j<k→Wo.hasB (l.take j) l[j]=false)∨(¬x=0∧x=X2))∧Below wd.heap.size wd wr) (fun _ i _=>l.length-(intOf i).toNat)
   case atStart=>
    refine⟨0,X1,Nat.zero_le _,rfl,rfl,?_,Below.refl _ _⟩
    by_cases h:X1=0
    · exact hid (Or.inl ⟨h,h,fun j _ hj=>absurd hj (Nat.not_lt_zero _)⟩)
    · exact hid (Or.inr ⟨h,by rw[IS.out,if_pos h]⟩)
   case round=>
    obtain⟨k,x,hk,rfl,rfl,V,d⟩:=hrel
    have p7:=(I0.out.below d).cell 7 rfl;rcases V.out with⟨K,hE,IJ⟩|⟨K,hX⟩
    · subst K
      have IH:=hid IJ;have G:=hid hE;clear IJ hE V;by_cases z:k<l.length
      · have E:(k:Int)<l.length:=by omega
        obtain⟨wk,IE⟩: ∃X,X=wr:=⟨_,rfl⟩
        have J5:=hid (show Below wd.heap.size wd wk by rw[IE];exact d);have Jt:=hid (show Cs wk w.heap.size [.slice fa H.fos.length fc,.slice ga H.gs.length gc,.slice sa H.ss.length sc,.int .i64 H.nx,.int .i64 H.la,.int .i64 H.ro,.int .i64 H.now,.slice xa l.length xc,.slice ya m.length yc] by rw[IE];exact I0.out.below d);go_wp2_with fail;rw[←IE];clear IE p7 d;go_loopw [3,6] (fun e i wr=> ∃m:Nat,m≤k∧i= .int .i64 m∧e= .int .i64 (dj (l.take m) l[k])∧Below wk.heap.size wk wr) (fun _ i _=>k-(intOf i).toNat)
        case atStart=>exact⟨0,Nat.zero_le _,rfl,rfl,Below.refl _ _⟩
        case round=>
         obtain⟨m,hm,rfl,rfl,I8⟩:=hrel
         by_cases Jy:m<k
         · have Jz:m<l.length:=by omega
           have h1:(m:Int)<k:=by omega
           have h2:(m:Int)<l.length:=by omega
           have h3:(k:Int)<l.length:=by omega
           have IL:=ag IQ.out (ag J5.out I8);obtain⟨b,o,rfl,hb,he⟩:=IR.out k z
           obtain⟨b',o',e2,JD,J1⟩:=IR.out m Jz
           injection e2 with e2
           injection e2 with e3 e4
           subst e3 e4;obtain⟨_,_,_,c0,_⟩:=he.below hb IL
           obtain⟨_,_,_,d0,_⟩:=J1.below hb IL
           have q7:=(Jt.out.below I8).cell 7 rfl;have Ix:=hid (Hs Jy z l[k]);cases hc:(l[m].who.toList==l[k].who.toList)with
           |true=>
            have IM:=hid (show(6:Int)=dj (l.take (m+1)) l[k] by rw[dj,Ix.out,hc,Bool.or_true,if_pos rfl]);clear he J1 Ix;go_wp2_with fail;go_quiet (fail)
            generalize Iw:World.drewN wr _=wq;have hr:=Below.refl wr.heap.size wr;have J2:Below wr.heap.size wr wq:=Iw▸⟨hr.os,hr.tape,hr.output,hr.size,hr.block⟩;have IZ:=ag I8 J2;clear Iw q7 c0 d0;go_wp2_with fail;go_roundw
            case rel=>exact⟨m+1,by omega,by simp,by rw[←IM.out],IZ⟩
            case measure=>simp[intOf];omega
           |false=>
            have IM:=hid (show dj (l.take m) l[k]=dj (l.take (m+1)) l[k] by rw[dj,dj,Ix.out,hc,Bool.or_false]);clear he J1 Ix;go_wp2_with fail;go_quiet (fail)
            generalize Iw:World.drewN wr _=wq;have hr:=Below.refl wr.heap.size wr;have J2:Below wr.heap.size wr wq:=Iw▸⟨hr.os,hr.tape,hr.output,hr.size,hr.block⟩;have IZ:=ag I8 J2;clear Iw q7 c0 d0;go_wp2_with fail;go_roundw
            case rel=>exact⟨m+1,by omega,by simp,by rw[←IM.out],IZ⟩
            case measure=>simp[intOf];omega
         · obtain rfl:m=k:=by omega
           have Jx:=ag J5.out I8
           have J:=hid (show(dj (l.take m) l[m]=0∧X1=0∧ ∀j (h:j<l.length),j<m+1→Wo.hasB (l.take j) l[j]=false)∨(¬dj (l.take m) l[m]=0∧dj (l.take m) l[m]=X2) by
            rcases Hr (l.take m) l[m]with⟨hh,h6⟩|⟨hh,h6⟩
            · refine Or.inr ⟨by rw[h6];decide,?_⟩
              rw[IS.out,if_neg (fun y=>y G.out),if_pos (show lJ l=true from sj [] l m z (by simpa[Wo.hasB]using hh)),h6]
            · refine Or.inl ⟨h6,G.out,fun j h1 h2=>?_⟩
              by_cases e:j=m
              · subst e;exact hh
              · exact IH.out j h1 (by omega))
           have h1: ¬(m:Int)<m:=by omega
           go_wp2_with fail;go_roundw
           case rel=>exact⟨m+1,_,by omega,by simp,rfl,J,Jx⟩
           case measure=>simp[intOf];omega
      · have I7:=hid (show(0:Int)=X2 by
         have:lJ l=false:=sh [] l (fun j h=>by simpa using IH.out j h (by omega))
         rw[IS.out,if_neg (fun y=>y G.out),this];rfl)
        have E: ¬(k:Int)<l.length:=by omega
        go_wp2_with fail;go_meet
        case rel=>exact⟨by rw[I7.out],d⟩
    · have Jk:(x==0)=false:=by simpa using K
      have I6:=hid hX;clear K hX V;rcases(show(k:Int)<l.length∨ ¬(k:Int)<l.length from Decidable.em _)with E|E
      all_goals
       go_wp2_with fail;go_meet
       case rel=>exact⟨by rw[I6.out],d⟩
  case rest=>
  obtain⟨rfl,N⟩:=hcut
  have J4:=hid (ag IQ.out N);have p8:=(I0.out.below N).cell 8 rfl;obtain⟨w0,Iv⟩: ∃X,X=wc:=⟨_,rfl⟩
  have IN:=hid (show Below w.heap.size w w0 by rw[Iv];exact J4.out);have q8:w0.cell? ⟨w.heap.size,8,none⟩=some (.slice ya m.length yc):=by rw[Iv];exact p8
  have I5:=hid (show Cs w0 w.heap.size [.slice fa H.fos.length fc,.slice ga H.gs.length gc,.slice sa H.ss.length sc,.int .i64 H.nx,.int .i64 H.la,.int .i64 H.ro,.int .i64 H.now,.slice xa l.length xc,.slice ya m.length yc] by rw[Iv];exact I0.out.below N)
  have Jr:=hid (show∀i (h:i<m.length),∃b o,ya=some ⟨b,o,none⟩∧b<w.heap.size∧kW w b (o+i*4) m[i]from by
   obtain⟨a,c,e,_,_,h⟩:=J6.out
   injection e with e1 e2 e3
   subst e1;exact h)
  have JC:m.length≤1000000000000000:=by obtain⟨_,_,_,_,h,_⟩:=J6.out;exact h
  clear N;go_wp2_with fail;rw[←Iv];clear Iv p8 q8 J4 I0 IQ;go_loopw [3,7] (fun e i wr=> ∃(k:Nat) (x:Int),k≤m.length∧i= .int .i64 k∧e= .int .i64 x∧Hid ((x=0∧X2=0∧el fx l.length (m.take k)=0)∨(¬x=0∧x=X3))∧Below w0.heap.size w0 wr) (fun _ i _=>m.length-(intOf i).toNat)
  case atStart=>
   refine⟨0,X2,Nat.zero_le _,rfl,rfl,?_,Below.refl _ _⟩
   by_cases h:X2=0
   · exact hid (Or.inl ⟨h,h,rfl⟩)
   · exact hid (Or.inr ⟨h,by rw[IT.out,if_pos h]⟩)
  case round=>
   obtain⟨k,x,hk,rfl,rfl,V,d⟩:=hrel
   have M:=ag IN.out d;have q7:=(I5.out.below d).cell 7 rfl;have q8:=(I5.out.below d).cell 8 rfl;have JA:=(I5.out.below d).cell 1 rfl;clear JA;have JE:w.heap.size<wr.heap.size:=(I5.out.below d).lt;rcases V.out with⟨K,hE,I9⟩|⟨K,hX⟩
   · subst K
     have Q:=hid I9;have G:=hid hE;clear I9 hE V;by_cases z:k<m.length
     · obtain⟨b,o,rfl,hb,he⟩:=Jr.out k z
       obtain⟨c0,c1,c2,c3⟩:=he.below hb M
       have E:(k:Int)<m.length:=by omega
       have J3:=Js.out m[k] (List.getElem_mem z);obtain⟨F,hF⟩: ∃y,y=m[k].fr:=⟨_,rfl⟩
       obtain⟨D,hD⟩: ∃y,y=m[k].kind:=⟨_,rfl⟩
       obtain⟨A,hA⟩: ∃y,y=m[k].ans:=⟨_,rfl⟩
       obtain⟨T,hT⟩: ∃y,y=m[k].tx:=⟨_,rfl⟩
       rw[←hF]at c0;rw[←hD]at c1;rw[←hA]at c2;rw[←hT]at c3 J3;have J8:=hid J3;have Y:=hid (show dv fx l.length m[k]=if F<0∨(l.length:Int)≤F then 3 else if¬(D=2∨D=1)then 7 else if A=true then fx T else kt T by rw[dv,nW,←hF,←hD,←hA,←hT]);have J:=hid (fun(x:Int) (h:x=dv fx l.length m[k])=>Hv z G.out IT.out Q.out h);obtain⟨wl,IF⟩: ∃X,X=wr.alloc (.cells #[.int .i64 F,.int .i64 D,.bool A,.string T] 52):=⟨_,rfl⟩
       have Jf:Below wr.heap.size wr wl:=by rw[IF];exact(Below.refl _ _).alloc (Nat.le_refl _) _
       have P:=hid (ag d Jf);have Iz:=hid (show Cs wl wr.heap.size [.int .i64 F,.int .i64 D,.bool A,.string T] by rw[IF];exact Cs.new wr [.int .i64 F,.int .i64 D,.bool A,.string T] _);have d0:=Iz.out.cell 0 rfl;have d1:=Iz.out.cell 1 rfl;have d2:=Iz.out.cell 2 rfl;have d3:=Iz.out.cell 3 rfl;have e7:=(I5.out.below P.out).cell 7 rfl;have J9:=hid IF.symm;clear he IF hF hD hA hT J3 Jf M;go_upto_region 21 with fail;try simp only[World.setCell_alloc_new]
       rw[J9.out];clear J9 c0 c1 c2 c3 q7 q8;by_cases hf:F<0
       · have I:=hid (J.out 3 (by rw[Y.out,if_pos (Or.inl hf)]))
         have f:=P.out;go_wp2_with fail;go_roundw
         case rel=>exact⟨k+1,_,by omega,by simp,rfl,I,f⟩
         case measure=>simp[intOf];omega
       · by_cases hn:(l.length:Int)≤F
         · have I:=hid (J.out 3 (by rw[Y.out,if_pos (Or.inr hn)]))
           have f:=P.out;go_wp2_with fail;go_roundw
           case rel=>exact⟨k+1,_,by omega,by simp,rfl,I,f⟩
           case measure=>simp[intOf];omega
         · have IA: ¬(F<0∨(l.length:Int)≤F):=fun h=>h.elim hf hn
           by_cases hK:D=2∨D=1
           · have II:=hid (show dv fx l.length m[k]=if A=true then fx T else kt T by rw[Y.out,if_neg IA,if_neg (fun y=>y hK)])
             have Jd:(D !=1)=false∨((D !=1)=true∧(D !=2)=false):=by rcases hK with h|h<;>simp[h]
             clear IA hK Y;cases A with
             |true=>
              have I:=hid (J.out (fx T) (by rw[II.out,if_pos rfl]));rcases Jd with IB|⟨IB,Jg⟩
              all_goals
               go_wp2_with fail;refine(Hp T wl J8.out).mono ?_
               rintro e w2 ⟨⟨u,rfl⟩,S⟩;have f:=ag P.out S;go_wp2_with fail;go_roundw
               case rel=>exact⟨k+1,_,by omega,by simp,rfl,I,f⟩
               case measure=>simp[intOf];omega
             |false=>
              have I:=hid (J.out (kt T) (by rw[II.out,if_neg (by decide)]));rcases Jd with IB|⟨IB,Jg⟩
              all_goals
               go_wp2_with fail;refine(Hq T wl J8.out).mono ?_
               rintro e w2 ⟨⟨u,rfl⟩,S⟩;have f:=ag P.out S;go_wp2_with fail;go_roundw
               case rel=>exact⟨k+1,_,by omega,by simp,rfl,I,f⟩
               case measure=>simp[intOf];omega
           · have I:=hid (J.out 7 (by rw[Y.out,if_neg IA,if_pos hK]))
             have IB:(D !=1)=true:=by simpa using fun h=>hK (Or.inr h)
             have Jg:(D !=2)=true:=by simpa using fun h=>hK (Or.inl h)
             have f:=P.out;clear IA hK;go_wp2_with fail;go_roundw
             case rel=>exact⟨k+1,_,by omega,by simp,rfl,I,f⟩
             case measure=>simp[intOf];omega
     · have I7:=hid (show(0:Int)=X3 by
        have:=Q.out
        rw[List.take_of_length_le (by omega)]at this;rw[IT.out,if_neg (fun y=>y G.out),this])
       have E: ¬(k:Int)<m.length:=by omega
       have f:=ag IN.out d;go_wp2_with fail;go_ret;exact⟨by rw[←I7.out];rfl,f⟩
   · have Jk:(x==0)=false:=by simpa using K
     have I6:=hid hX;clear K hX V;have f:=ag IN.out d;rcases(show(k:Int)<m.length∨ ¬(k:Int)<m.length from Decidable.em _)with E|E
     all_goals
      go_wp2_with fail;go_ret;exact⟨by rw[←I6.out];rfl,f⟩
end Go.Proofs.YtcmlnelpcjfocaaGreatDoor
