/- Where a folder is among folders that rise, or would be: hub.place, over slices.BinarySearchFunc. -/
import Derived.Test.YtcmlnelpcjfocaaGreatDoorWYT
import Derived.Test.YtcmlnelpcjfocaaGreatDoorWYS
set_option linter.unusedSimpArgs false
set_option linter.unusedVariables false
namespace Go.Proofs.YtcmlnelpcjfocaaGreatDoor
open Go.RowKit Go.Proofs.Tryz
set_option maxHeartbeats 4000000
set_option maxRecDepth 100000
def bh (s:Sh) (x:ByteArray):Int:=Lib.compareBytes s.na.data.toList x.data.toList
theorem oM (s t:Sh):Hu.lt s t=decide (Lib.compareBytes s.na.data.toList t.na.data.toList<0):=by rw[Hu.lt,nd,Lib.toList_data,Lib.toList_data]
theorem nF {L:List Sh} (f:eQ L=true): ∀(d i:Nat) (h:i+d+1<L.length),Lib.compareBytes (L[i]'(by omega)).na.data.toList (L[i+d+1]).na.data.toList<0
 |0,i,h=>by
  have:=(mq L).1 f i h
  rw[oM]at this;exact of_decide_eq_true this
 |d+1,i,h=>by
  have z:=nF f d i (by omega);have y:=(mq L).1 f (i+d+1) (by omega);rw[oM]at y;exact m9 _ _ _ z (of_decide_eq_true y)
theorem wO {L:List Sh} (z:eQ L=true) {x:ByteArray} {i j:Nat} (f:i≤j) (y:j<L.length) (h:bh L[j] x<0):bh (L[i]'(by omega)) x<0:=by
 by_cases e:i=j
 · subst e;exact h
 · obtain⟨d,rfl⟩: ∃d,j=i+d+1:=⟨j-i-1,by omega⟩
   exact m9 _ _ _ (nF z d i y) h
def dy (L:List Sh) (x:ByteArray):Nat:=L.findIdx (fun s=>decide (0≤bh s x))
def cy (L:List Sh) (x:ByteArray):Bool:=L.any (fun s=>decide (bh s x=0))
theorem wP {L:List Sh} {x:ByteArray} {p:Nat} (A:p≤L.length) (d: ∀m (h:m<L.length),m<p→bh L[m] x<0) (y: ∀m (h:m<L.length),p≤m→0≤bh L[m] x):dy L x=p:=by
 by_cases h:p<L.length
 · exact(List.findIdx_eq h).2 ⟨decide_eq_true (y p h (Nat.le_refl _)),fun m f=>by have:=d m (by omega) f;simp;omega⟩
 · obtain rfl:p=L.length:=by omega
   exact List.findIdx_eq_length.2 fun s z=>by
    obtain⟨m,f,rfl⟩:=List.getElem_of_mem z
    have:=d m f f;simp;omega
theorem C7 {L:List Sh} {x:ByteArray} {p:Nat} (I:eQ L=true) (h:p<L.length) (y: ∀m (h:m<L.length),m<p→bh L[m] x<0) (f: ∀m (h:m<L.length),p≤m→0≤bh L[m] x):cy L x=decide (bh L[p] x=0):=by
 by_cases e:bh L[p] x=0
 · rw[decide_eq_true e]
   exact List.any_eq_true.2 ⟨L[p],List.getElem_mem h,decide_eq_true e⟩
 · rw[decide_eq_false e]
   refine List.any_eq_false.2 fun s J=>?_
   obtain⟨m,A,rfl⟩:=List.getElem_of_mem J
   simp only[decide_eq_true_eq];intro E;by_cases F:m<p
   · have:=y m A F;omega
   · by_cases G:m=p
     · subst G;exact e E
     · obtain⟨d,rfl⟩: ∃d,m=p+d+1:=⟨m-p-1,by omega⟩
       have z:=nF I d p A;have H:L[p+d+1].na.data.toList=x.data.toList:=jR _ _ E;rw[H]at z;have K:=f p h (Nat.le_refl _);have M:bh L[p] x<0:=z;omega
theorem C8 {L:List Sh} {x:ByteArray} (d: ∀m (h:m<L.length),bh L[m] x<0):cy L x=false:=by
 refine List.any_eq_false.2 fun s y=>?_
 obtain⟨m,f,rfl⟩:=List.getElem_of_mem y
 have:=d m f
 simp;omega
theorem wQ (na y:ByteArray) (E F:Option Addr) (z c1 A c2:Nat) (f:Int) (w:World):
    Calls prog 168 #[.agg #[.string na,.slice E z c1,.int .i64 f,.slice F A c2],.string y] w fun e w'=>e= .returned (.int .i64 (Lib.compareBytes na.data.toList y.data.toList))∧Below w.heap.size w w':=by
 have d:Below w.heap.size w (w.alloc (.cells #[.string na,.slice E z c1,.int .i64 f,.slice F A c2] 81)):=(Below.refl _ _).alloc (Nat.le_refl _) _;go_enter func168,ntmps168
 go_wp2_with fail;refine(Tryz.strings_Compare _ _ _).mono ?_
 rintro e G ⟨rfl,rfl⟩;go_wp2_with fail;go_ret;exact⟨rfl,d⟩
theorem C9 (L:List Sh) (v:Value) (x:ByteArray) (w:World) (hv:eP w v L) (hr:eQ L=true) (h8:L.length≤8):
    Calls prog 167 #[v,.string x,.func (.func 168) #[] #[]] w fun e w'=>e= .returned (.tuple #[.int .i64 (dy L x),.bool (cy L x)])∧Below w.heap.size w w':=by
 have U:=hid hr;obtain⟨a,I9,rfl,I7,I0,G⟩:=hv
 have HL:Hid (∀i (h:i<L.length),∃b o,a=some ⟨b,o,none⟩∧b<w.heap.size∧i7 w b (o+i*4) L[i]):=G;clear G hr;go_enter func167,ntmps167
 go_wp2_with fail;go_loopw [9,10] (fun vi vj wr=> ∃i j:Nat,i≤j∧j≤L.length∧vi= .int .i64 i∧vj= .int .i64 j∧Hid (∀m (h:m<L.length),m<i→bh L[m] x<0)∧Hid (∀m (h:m<L.length),j≤m→0≤bh L[m] x)∧Below w.heap.size w wr) (fun vi vj _=>(intOf vj-intOf vi).toNat)
 case atStart=>exact⟨0,L.length,Nat.zero_le _,Nat.le_refl _,rfl,rfl,(fun m _ h=>absurd h (Nat.not_lt_zero _): ∀m (h:m<L.length),m<0→bh L[m] x<0),(fun m h h2=>absurd h (by omega): ∀m (h:m<L.length),L.length≤m→0≤bh L[m] x),Below.refl _ _⟩
 case round=>
  obtain⟨i,j,Iv,hj,rfl,rfl,E,M,f⟩:=hrel
  by_cases Ix:i<j
  · obtain⟨k,hk⟩: ∃k:Nat,k=(i+j)/2:=⟨_,rfl⟩
    have I8:(i:Int)<j:=by omega
    have I5:i≤k:=by omega
    have Iw:k<j:=by omega
    have I:k<L.length:=by omega
    obtain⟨b,o,rfl,hb,H⟩:=HL.out k I
    obtain⟨V,u,z,X,Y,Z,J,K⟩:=H.below hb f
    have T:=hid (show bh L[k] x<0→ ∀m (h:m<L.length),m<k+1→bh L[m] x<0 from fun h m h1 h2=>wO U.out (by omega) I h)
    have S:=hid (show¬bh L[k] x<0→ ∀m (h:m<L.length),k≤m→0≤bh L[m] x from fun h m h1 h2=>by
     by_cases e:bh L[m] x<0
     · exact absurd (wO U.out h2 h1 e) h
     · omega)
    clear H;have Q:=hid (show Lib.compareBytes L[k].na.data.toList x.data.toList=bh L[k] x from rfl);generalize L[k]=s at*;obtain⟨na,⟨jb,N,jc⟩⟩:=s
    simp only at V X Y Z J K;obtain⟨ua,uc,rfl,_⟩:=J
    obtain⟨xa,xc,rfl,_⟩:=K
    have y:((i:Int)+j)/2=(k:Int):=by omega
    have Iy:Op.shift .shr .u64 ((i:Int)+j) .u64 1=pure (.int .u64 (k:Int)):=by rw[shift_shr_any _ _ _ _ (by decide),←y];rfl
    have Iz:IntKind.i64.wrap (k:Int)=k:=by rw[IntKind.wrap_i64];omega
    clear y hk;go_wp2_with fail;refine(wQ na x ua xa _ uc _ xc N _).mono ?_
    rintro e w1 ⟨rfl,A⟩;rw[Q.out];have d:=ag f A;by_cases hc:bh ⟨na,⟨jb,N,jc⟩⟩ x<0
    · have O:=hid (T.out hc)
      go_wp2_with fail;go_roundw
      case rel=>exact⟨k+1,j,by omega,hj,by simp,rfl,O,M,d⟩
      case measure=>simp[intOf];omega
    · have P:=hid (S.out (by omega))
      go_wp2_with fail;go_roundw
      case rel=>exact⟨i,k,I5,by omega,rfl,by simp,E,P,d⟩
      case measure=>simp[intOf];omega
  · obtain rfl:i=j:=by omega
    by_cases hn:i<L.length
    · have I6:(i:Int)<L.length:=by omega
      obtain⟨b,o,rfl,hb,H⟩:=HL.out i hn
      obtain⟨V,u,z,X,Y,Z,J,K⟩:=H.below hb f
      have Q:=hid (show Lib.compareBytes L[i].na.data.toList x.data.toList=bh L[i] x from rfl);have F:=hid (show dy L x=i∧cy L x=decide (bh L[i] x=0)from⟨wP hj E.out M.out,C7 U.out hn E.out M.out⟩);clear H;generalize L[i]=s at*;obtain⟨na,⟨jb,N,jc⟩⟩:=s
      simp only at V X Y Z J K;obtain⟨ua,uc,rfl,_⟩:=J
      obtain⟨xa,xc,rfl,_⟩:=K
      go_wp2_with fail;refine(wQ na x ua xa _ uc _ xc N _).mono ?_
      rintro e w1 ⟨rfl,A⟩;rw[Q.out];have d:=ag f A;go_wp2_with fail;go_ret2;exact⟨by rw[F.out.1,F.out.2];rfl,d⟩
    · have I6: ¬(i:Int)<L.length:=by omega
      obtain rfl:i=L.length:=by omega
      have F:=hid (show dy L x=L.length∧cy L x=false from⟨wP hj E.out M.out,C8 fun m h=>E.out m h h⟩);go_wp2_with fail;go_ret2;exact⟨by rw[F.out.1,F.out.2];rfl,f⟩
theorem Da (L:List Sh) (v:Value) (x:ByteArray) (g:Nat) (w:World) (E:w.cell? ⟨g,0,none⟩=some v) (d:eP w v L) (A:eQ L=true) (z:L.length≤8):
    Calls prog 134 #[.pointer (some ⟨g,0,none⟩),.string x] w fun e w'=>e= .returned (.tuple #[.int .i64 (dy L x),.bool (cy L x)])∧Below w.heap.size w w':=by
 have f:=hid d;obtain⟨a,y,rfl,_⟩:=d
 go_enter func134,ntmps134
 go_wp2_with fail;refine(C9 L _ x _ f.out A z).mono ?_
 rintro e F ⟨rfl,hb⟩;go_wp2_with fail;go_ret2;exact⟨rfl,hb⟩
theorem fG.below {B:Nat} {w w':World} {v:Value} {l:List Sh} (h:fG B w v l) (d:Below w.heap.size w w'):fG B w' v l:=by
 obtain⟨H,⟨E,A⟩,F,G,z⟩:=h
 exact⟨H,⟨E,fun i c u f y=>⟨(A i c u f y).1.below d,(A i c u f y).2.below d⟩⟩,F.below d,G.below d,fun i c u f y=>⟨⟨(z i c u f y).1.1.below d,(z i c u f y).1.2.below d⟩,fun b hb=>⟨((z i c u f y).2 b hb).1.below d,((z i c u f y).2 b hb).2.below d⟩⟩⟩
theorem fG.mono {B B':Nat} {w:World} {v:Value} {l:List Sh} (h:fG B w v l) (f:B'≤B):fG B' w v l:=by
 obtain⟨G,A,E,F,d⟩:=h
 exact⟨G,A,E,F.mono f,fun i c u y z=>⟨⟨(d i c u y z).1.1.mono f,(d i c u y z).1.2.mono f⟩,(d i c u y z).2⟩⟩
theorem fG.nbo {B g:Nat} {w w':World} {v:Value} {l:List Sh} (h:fG B w v l) (z:w.grownBy w' (some g)) (E:g<B):fG B w' v l:=by
 obtain⟨J,⟨F,G⟩,H,A,y⟩:=h
 have k: ∀{x:Value},aI B w x→ ∀b,x.ownBlock=some b→b≠g:=fun I b hb=>by have:=(I b hb).1;omega
 exact⟨J,⟨F,fun i c u d f=>⟨(G i c u d f).1.nbo z (k (y i c u d f).1.1),((y i c u d f).1.2.nbo z E).lies⟩⟩,H.nbo z (k A),A.nb z (k A),fun i c u d f=>⟨⟨(y i c u d f).1.1.nb z (k (y i c u d f).1.1),(y i c u d f).1.2.nbo z E⟩,fun b hb=>⟨((y i c u d f).2 b hb).1.nb z (k (y i c u d f).1.1),((y i c u d f).2 b hb).2.nbo z (by have:=(A b hb).1;omega)⟩⟩⟩
theorem wR (H:Hb) (v:Value) (w:World) (hv:dC w v H) (h8:H.fos.length≤1000) (hj: ∀s∈H.fos,s.jo.cos.length≤1000∧s.jo.base.length≤1000∧ ∀c∈s.jo.cos,c.ch.length≤1000000000) (JY:H.gs.length≤1000) (JZ:H.ss.length≤1000):
    Calls prog 54 #[v] w fun e w'=> ∃vf vg ai,e= .returned (.agg #[vf,vg,ai,.int .i64 H.nx,.int .i64 H.la,.int .i64 H.ro,.int .i64 H.now])∧fG w.heap.size w' vf H.fos∧(cD w' vg H.gs∧aI w.heap.size w' vg)∧(de w' ai H.ss∧aI w.heap.size w' ai)∧(∀b,vf.ownBlock=some b→aI (b+1) w' vg∧aI (b+1) w' ai)∧Rm w' vf∧Below w.heap.size w w':=by
 obtain⟨fos,gs,ss,nx,la,ro,now⟩:=H
 simp only at h8 hj JY JZ⊢;obtain⟨vf,vg,ai,rfl,lf,lg,aT⟩:=hv
 simp only at lf lg aT;have HJ:=hid hj;have K2:=hid lf;have JA:=hid lg;have JB:=hid aT;obtain⟨G,Y,Jj⟩:=CP lf
 have Jz:=hid Y;have J0:=hid Jj;have Ji:=Y.1;have IM:=ij Ji;obtain⟨fa,fc,rfl,_⟩:=lf
 obtain⟨ga,gc,rfl,_⟩:=lg
 obtain⟨sa,sc,rfl,_⟩:=aT
 clear hj Y Jj;obtain⟨wz,I7⟩: ∃wz,wz=(w.alloc (.cells #[.slice fa fos.length fc,.slice ga gs.length gc,.slice sa ss.length sc,.int .i64 nx,.int .i64 la,.int .i64 ro,.int .i64 now] 28)).alloc (.cells #[.slice none 0 0,.slice none 0 0,.slice none 0 0,.int .i64 0,.int .i64 0,.int .i64 0,.int .i64 0] 28):=⟨_,rfl⟩
 have Jh:Below w.heap.size w wz:=by rw[I7];exact((Below.refl _ _).alloc (Nat.le_refl _) _).alloc (by simp) _
 have HX:=hid (show Cs wz w.heap.size [.slice fa fos.length fc,.slice ga gs.length gc,.slice sa ss.length sc,.int .i64 nx,.int .i64 la,.int .i64 ro,.int .i64 now]from by rw[I7];exact(Cs.new w [.slice fa fos.length fc,.slice ga gs.length gc,.slice sa ss.length sc,.int .i64 nx,.int .i64 la,.int .i64 ro,.int .i64 now] _).below ((Below.refl _ _).alloc (Nat.le_refl _) _))
 have HY:=hid (show Cs wz (w.heap.size+1) [.slice none 0 0,.slice none 0 0,.slice none 0 0,.int .i64 0,.int .i64 0,.int .i64 0,.int .i64 0]from by
  have:=Cs.new (w.alloc (.cells #[.slice fa fos.length fc,.slice ga gs.length gc,.slice sa ss.length sc,.int .i64 nx,.int .i64 la,.int .i64 ro,.int .i64 now] 28)) [.slice none 0 0,.slice none 0 0,.slice none 0 0,.int .i64 0,.int .i64 0,.int .i64 0,.int .i64 0] 28
  rw[I7];simpa using this)
 have Iw:=I7.symm;have J4:=hid Iw;clear I7 Iw;go_enter func54,ntmps54
 go_upto_region 1 with fail;rw[J4.out];clear J4;have p0:=HX.out.cell 0 rfl;go_wp2_with fail;refine(CL (dh fos G) _ _ (by have:=J0.out.below Jh;simpa[IM]using this) (by rw[IM];omega)).mono ?_
 rintro e w1 ⟨u,rfl,I8,K,II,IJ⟩;have K8:w.heap.size+1<wz.heap.size:=HY.out.lt;obtain⟨M,A,rfl,_⟩:=id I8
 rw[IM]at I8 K II⊢
 obtain⟨bb,Jg,K7⟩: ∃bb,(∀x,(Value.slice M fos.length A).ownBlock=some x→x=bb)∧wz.heap.size≤bb:=by
  cases h:(Value.slice M fos.length A).ownBlock with
  |none=>exact⟨wz.heap.size,fun x d=>(by cases d),Nat.le_refl _⟩
  |some y=>exact⟨y,fun x d=>(by injection d with d;exact d.symm),(K y h).1⟩
 have IQ:=hid Jg;have ID:=hid (HX.out.below IJ);have JN:=hid (HY.out.below IJ);have Je:=ag Jh IJ;obtain⟨w2,I0⟩: ∃w2,w2=w1.setCell ⟨w.heap.size,0,none⟩ (.slice M fos.length A):=⟨_,rfl⟩
 have I9:w1.grownBy w2 (some w.heap.size):=by rw[I0];exact ar _ _ _ _
 have IE:Hid (Cs w2 w.heap.size [.slice M fos.length A,.slice ga gs.length gc,.slice sa ss.length sc,.int .i64 nx,.int .i64 la,.int .i64 ro,.int .i64 now]):=(by rw[I0];exact ID.out.set 0 _:Cs w2 w.heap.size _)
 have J6:=hid (JN.out.nb I9 (by omega));have J1:=hid (I8.nbo I9 (fun x d=>by have:=(K x d).1;omega));have IW:=hid (K.nb I9 (fun x d=>by have:=(K x d).1;omega));have IU:=hid (II.nb I9 (fun x d=>by have:=(K x d).1;omega));have Iv:Below w.heap.size w w2:=by rw[I0];exact Je.setCell (p:=⟨w.heap.size,0,none⟩) (Nat.le_refl _) _
 have br:=ID.out.cell 0 rfl;have f0:=ID.out.fr 0;clear I8 K II p0 Jg;go_upto_region 2 with fail;rw[←I0];clear I0 br f0;have p0:=IE.out.cell 0 rfl;go_wp2_with fail;go_loopw [11] (fun i wr=> ∃(k:Nat) (us:List (Value×Value)),k≤fos.length∧i= .int .i64 k∧Hid (Cs wr w.heap.size [.slice M fos.length A,.slice ga gs.length gc,.slice sa ss.length sc,.int .i64 nx,.int .i64 la,.int .i64 ro,.int .i64 now])∧Hid (Cs wr (w.heap.size+1) [.slice none 0 0,.slice none 0 0,.slice none 0 0,.int .i64 0,.int .i64 0,.int .i64 0,.int .i64 0])∧Hid (aW 4 wr (.slice M fos.length A) (dh fos us))∧Hid (aI wz.heap.size wr (.slice M fos.length A))∧Hid (Rm wr (.slice M fos.length A))∧Hid (gU (bb+1) wr fos G us k)∧Below w.heap.size w wr) (fun i _=>fos.length-(intOf i).toNat)
 case atStart=>exact⟨0,G,Nat.zero_le _,rfl,IE,J6,J1,IW,IU,gU.zero Ji,Iv⟩
 case round=>
  obtain⟨k,us,hk,rfl,P,IH,X,HOr,Ix,O,F⟩:=hrel
  clear p0 IE J6 J1 IW IU Iv;by_cases S:k<fos.length
  · have IN:=O.out.1
    have IL:k<(dh fos us).length:=by rw[ij IN];exact S
    have Z:=mr IN S;rw[List.getElem?_eq_getElem IL]at Z;injection Z with Z
    obtain⟨a',K1,K0,_,_,_,Jd⟩:=id X.out
    injection K0 with e1 aE e3
    subst e1;clear aE e3;obtain⟨b,o,JX,hb,he⟩:=Jd k IL
    subst JX;rw[Z]at he;have c1:=he 1 _ rfl;have c2:=he 2 _ rfl;have c3:=he 3 _ rfl
    have Jk:us[k]'(by omega)=G[k]'(by omega):=by
     have:=O.out.2.2 k (Nat.le_refl _)
     rw[List.getElem?_eq_getElem (by omega),List.getElem?_eq_getElem (by omega)]at this;injection this
    rw[Jk]at c1 c3;have hJ:=Jz.out.2 k fos[k] (G[k]'(by omega)) (List.getElem?_eq_getElem S) (List.getElem?_eq_getElem (by omega));have IR:=hid (hJ.1.below F);have IS:=hid (hJ.2.below F);have IB:=hid (HJ.out fos[k] (List.getElem_mem S));obtain rfl:b=bb:=IQ.out b rfl;have J2:=hid (show∀(W:World) (y:Value×Value),aW 4 W (.slice (some ⟨b,o,none⟩) fos.length A) (dh fos us)→y.1.oneCell'=true→y.2.oneCell'=true→aW 4 (((W.setCell ⟨b,o+k*4+1,none⟩ y.1).setCell ⟨b,o+k*4+2,none⟩ (.int .i64 fos[k].jo.first)).setCell ⟨b,o+k*4+3,none⟩ y.2) (.slice (some ⟨b,o,none⟩) fos.length A) (dh fos (us.set k y))from fun W y h h1 h2=>CQ h IN rfl S h1 h2);have IV:=hid (show∀(W W':World) (y:Value×Value),gU (b+1) W fos G us k→W.grownBy W' (some b)→an W y.1 fos[k].jo.base→aI (b+1) W y.1→dT (b+1) W y.2 fos[k].jo.cos→gU (b+1) W' fos G (us.set k y) (k+1)from fun W W' y h hg h1 h2 h3=>h.next S hg (Nat.lt_succ_self _) h1 h2 h3);clear Z Jd he Jk hJ IL;generalize fos[k].jo=J at*;generalize G[k]'(by omega)=u0 at*;obtain⟨jb,jf,jc⟩:=J
    obtain⟨u1,u2⟩:=u0
    simp only at c1 c2 c3;obtain⟨x1,y1,rfl,_⟩:=id IR.out
    obtain⟨aY,al,rfl,_⟩:=id IS.out
    have x0:=P.out.cell 0 rfl;have Jl:=P.out.lt;go_wp2_with fail
    go_region_with (
     go_at_call 99;refine(Ca ⟨jb,jf,jc⟩ _ _ ⟨_,_,rfl,IR.out.below (Below.refl _ _).drew,IS.out.below (Below.refl _ _).drew⟩ IB.out.1 IB.out.2.1 IB.out.2.2).mono ?_;rintro e wa ⟨y,rfl,JS,JV⟩;have z:Below wr.heap.size wr wa:=((Below.refl _ _).drew).trans JV;obtain⟨yb,yc,rfl,Jm,Jp,IP⟩:=JS;have IT:=hid Jm;have IX:=hid Jp;have IY:=hid IP;obtain⟨xb,zb,rfl,_⟩:=Jm;obtain⟨xc,zc,rfl,_⟩:=dT.lies IP;clear Jp IP;have IZ:=hid (HOr.out.below z);obtain⟨_,cur,TT,N⟩:=IZ.out b rfl;have K3:wa.frozen? ⟨b,o+k*4+1,none⟩=false:=(by simp[World.frozen?,N]);have K4:wa.frozen? ⟨b,o+k*4+2,none⟩=false:=(by simp[World.frozen?,N]);have K5:wa.frozen? ⟨b,o+k*4+3,none⟩=false:=(by simp[World.frozen?,N]);clear N;have j0:=(z.cell (p:=⟨w.heap.size,0,none⟩) Jl).trans x0;have j1:=(z.cell (p:=⟨b,o+k*4+1,none⟩) hb).trans c1;have j2:=(z.cell (p:=⟨b,o+k*4+2,none⟩) hb).trans c2;have j3:=(z.cell (p:=⟨b,o+k*4+3,none⟩) hb).trans c3)
    all_goals
     have K6:w.heap.size+1<b:=by have:=(HOr.out b rfl).1;omega
     obtain⟨w3,T⟩: ∃w3,w3=((wa.setCell ⟨b,o+k*4+1,none⟩ (.slice xb jb.length zb)).setCell ⟨b,o+k*4+1+1,none⟩ (.int .i64 jf)).setCell ⟨b,o+k*4+1+2,none⟩ (.slice xc jc.length zc):=⟨_,rfl⟩
     have IK:wa.grownBy w3 (some b):=by rw[T];exact bj (bj (ar _ _ _ _) (ar _ _ _ _)) (ar _ _ _ _)
     have JJ:=hid (show aW 4 w3 (.slice (some ⟨b,o,none⟩) fos.length A) (dh fos (us.set k (.slice xb jb.length zb,.slice xc jc.length zc)))from by rw[T];exact J2.out wa (.slice xb jb.length zb,.slice xc jc.length zc) (X.out.below z) rfl rfl);have Jq:=hid (IV.out wa w3 (.slice xb jb.length zb,.slice xc jc.length zc) (O.out.below z) IK IT.out (IX.out.mono (by show b+1≤wr.heap.size;omega)) (IY.out.mono (by show b+1≤wr.heap.size;omega)));have JM:=hid ((P.out.below z).nb IK (by omega));have JO:=hid ((IH.out.below z).nb IK (by omega));have JH:=hid (show aI wz.heap.size w3 (.slice (some ⟨b,o,none⟩) fos.length A)from by rw[T];exact((IZ.out.setCell _ _ _).setCell _ _ _).setCell _ _ _);have JT:Below w.heap.size w w3:=by rw[T];exact(((ag F z).setCell (p:=⟨b,o+k*4+1,none⟩) (by show w.heap.size≤b;omega) _).setCell (p:=⟨b,o+k*4+1+1,none⟩) (by show w.heap.size≤b;omega) _).setCell (p:=⟨b,o+k*4+1+2,none⟩) (by show w.heap.size≤b;omega) _
     have JC:=hid (show Rm w3 (.slice (some ⟨b,o,none⟩) fos.length A)from by rw[T];exact(((Ix.out.below z).setCell _ _ _).setCell _ _ _).setCell _ _ _);clear J2 IV X O HOr Ix;go_wp2_with fail;rw[←T];go_roundw
     case rel=>exact⟨k+1,_,by omega,by simp,JM,JO,JJ,JH,JC,Jq,JT⟩
     case measure=>simp[intOf];omega
  · obtain rfl:k=fos.length:=by omega
    have HF:=hid (O.out.own X.out HOr.out IQ.out (by omega));have J3:Hid (∀x,(Value.slice M fos.length A).ownBlock=some x→x<wr.heap.size):=HOr.out.lt;have Jl:=P.out.lt;have K9:=IH.out.lt;have IC:=hid (show∀x,(Value.slice M fos.length A).ownBlock=some x→wz.heap.size≤x from fun x d=>(HOr.out x d).1);clear X HOr O J0;have p1:=P.out.cell 1 rfl;go_wp2_with fail;refine(CM (gs.map lC) _ _ (eR.1 (JA.out.below F)) (by rw[List.length_map];omega)).mono ?_
    rintro e w4 ⟨u4,rfl,Ja,J8,Q⟩;have J7:=eR.2 Ja;have Jv:=hid J7;have Iy:=hid J8;obtain⟨g4,c4,rfl,_⟩:=J7
    have IF:=hid (P.out.below Q);have JP:=hid (IH.out.below Q);have Jr:=hid (HF.out.below Q);have JD:=hid (Ix.out.below Q);have s4:=Q.size;obtain⟨w5,I5⟩: ∃w5,w5=w4.setCell ⟨w.heap.size,1,none⟩ (.slice g4 gs.length c4):=⟨_,rfl⟩
    have g5:w4.grownBy w5 (some w.heap.size):=by rw[I5];exact ar _ _ _ _
    have J5:Hid (Cs w5 w.heap.size [.slice M fos.length A,.slice g4 gs.length c4,.slice sa ss.length sc,.int .i64 nx,.int .i64 la,.int .i64 ro,.int .i64 now]):=(by rw[I5];exact IF.out.set 1 _:Cs w5 w.heap.size _)
    have JQ:=hid (JP.out.nb g5 (by omega));have Js:=hid (Jr.out.nbo g5 (by omega));have JE:=hid (JD.out.nb g5 (fun x d=>by have:=IC.out x d;omega));have Jw:=hid (eR.2 ((eR.1 Jv.out).nbo g5 (fun x d=>by have:=(Iy.out x d).1;omega)));have JI:=hid (Iy.out.nb g5 (fun x d=>by have:=(Iy.out x d).1;omega));have Jf:Below w.heap.size w w5:=by rw[I5];exact(ag F Q).setCell (p:=⟨w.heap.size,1,none⟩) (Nat.le_refl _) _
    have q1:=IF.out.cell 1 rfl;have f1:=IF.out.fr 1;have s5:=g5.size;clear Ja J8 p1;go_upto_region 8 with fail;rw[←I5];clear I5 q1 f1;have p2:=J5.out.cell 2 rfl;go_wp2_with fail;refine(CN (ss.map kf) _ _ (fl.1 (JB.out.below Jf)) (by rw[List.length_map];omega)).mono ?_
    rintro e w6 ⟨u6,rfl,Jb,J9,E⟩;have Jc:=fl.2 Jb;have JK:=hid Jc;have Iz:=hid J9;obtain⟨g6,c6,rfl,_⟩:=Jc
    have IG:=hid (J5.out.below E);have JR:=hid (JQ.out.below E);have Jt:=hid (Js.out.below E);have JF:=hid (JE.out.below E);have Jx:=hid (Jw.out.below E);have IA:=hid (JI.out.below E);have s6:=E.size;obtain⟨w7,I6⟩: ∃w7,w7=w6.setCell ⟨w.heap.size,2,none⟩ (.slice g6 ss.length c6):=⟨_,rfl⟩
    have g7:w6.grownBy w7 (some w.heap.size):=by rw[I6];exact ar _ _ _ _
    have I:Hid (Cs w7 w.heap.size [.slice M fos.length A,.slice g4 gs.length c4,.slice g6 ss.length c6,.int .i64 nx,.int .i64 la,.int .i64 ro,.int .i64 now]):=(by rw[I6];exact IG.out.set 2 _:Cs w7 w.heap.size _)
    have f:=hid (JR.out.nb g7 (by omega));have Ju:=hid (Jt.out.nbo g7 (by omega));have JG:=hid (JF.out.nb g7 (fun x d=>by have:=IC.out x d;omega));have Jy:=hid (eR.2 ((eR.1 Jx.out).nbo g7 (fun x d=>by have:=(IA.out x d).1;omega)));have U:=hid (IA.out.nb g7 (fun x d=>by have:=(IA.out x d).1;omega));have JL:=hid (fl.2 ((fl.1 JK.out).nbo g7 (fun x d=>by have:=(Iz.out x d).1;omega)));have V:=hid (Iz.out.nb g7 (fun x d=>by have:=(Iz.out x d).1;omega));have JU:Below w.heap.size w w7:=by rw[I6];exact(ag Jf E).setCell (p:=⟨w.heap.size,2,none⟩) (Nat.le_refl _) _
    have bZ:=IG.out.cell 2 rfl;have f2:=IG.out.fr 2;have s7:=g7.size;clear Jb J9 p2;go_upto_region 9 with fail;rw[←I6];clear I6 bZ f2;have p0:=I.out.cell 0 rfl;have y0:=f.out.cell 0 rfl;have z0:=f.out.fr 0;have p1:=I.out.cell 1 rfl;have y1:=f.out.cell 1 rfl;have z1:=f.out.fr 1;have p2:=I.out.cell 2 rfl;have al:=f.out.cell 2 rfl;have z2:=f.out.fr 2;have p3:=I.out.cell 3 rfl;have y3:=f.out.cell 3 rfl;have z3:=f.out.fr 3;have p4:=I.out.cell 4 rfl;have y4:=f.out.cell 4 rfl;have z4:=f.out.fr 4;have p5:=I.out.cell 5 rfl;have y5:=f.out.cell 5 rfl;have z5:=f.out.fr 5;have p6:=I.out.cell 6 rfl;have y6:=f.out.cell 6 rfl;have z6:=f.out.fr 6;go_wp2_with fail;have gz:w7.grownBy _ (some (w.heap.size+1)):=(bj (bj (bj (bj (bj (bj (ar w7 (w.heap.size+1) 0 (.slice M fos.length A)) (ar _ (w.heap.size+1) 1 (.slice g4 gs.length c4))) (ar _ (w.heap.size+1) 2 (.slice g6 ss.length c6))) (ar _ (w.heap.size+1) 3 (.int .i64 nx))) (ar _ (w.heap.size+1) 4 (.int .i64 la))) (ar _ (w.heap.size+1) 5 (.int .i64 ro))) (ar _ (w.heap.size+1) 6 (.int .i64 now)))
    have JW:=(((((((JU.setCell (p:=⟨w.heap.size+1,0,none⟩) (by show w.heap.size≤w.heap.size+1;omega) (.slice M fos.length A)).setCell (p:=⟨w.heap.size+1,1,none⟩) (by show w.heap.size≤w.heap.size+1;omega) (.slice g4 gs.length c4)).setCell (p:=⟨w.heap.size+1,2,none⟩) (by show w.heap.size≤w.heap.size+1;omega) (.slice g6 ss.length c6)).setCell (p:=⟨w.heap.size+1,3,none⟩) (by show w.heap.size≤w.heap.size+1;omega) (.int .i64 nx)).setCell (p:=⟨w.heap.size+1,4,none⟩) (by show w.heap.size≤w.heap.size+1;omega) (.int .i64 la)).setCell (p:=⟨w.heap.size+1,5,none⟩) (by show w.heap.size≤w.heap.size+1;omega) (.int .i64 ro)).setCell (p:=⟨w.heap.size+1,6,none⟩) (by show w.heap.size≤w.heap.size+1;omega) (.int .i64 now))
    refine bodyPost_ret (v:= .agg #[.slice M fos.length A,.slice g4 gs.length c4,.slice g6 ss.length c6,.int .i64 nx,.int .i64 la,.int .i64 ro,.int .i64 now]) (by simp[results,results54,go_sem,y0,y1,al,y3,y4,y5,y6]) rfl ⟨_,_,_,rfl,(Ju.out.nbo gz (by omega)).mono (by omega),⟨eR.2 ((eR.1 Jy.out).nbo gz (fun x d=>by have:=(U.out x d).1;omega)),(U.out.nb gz (fun x d=>by have:=(U.out x d).1;omega)).mono (by omega)⟩,⟨fl.2 ((fl.1 JL.out).nbo gz (fun x d=>by have:=(V.out x d).1;omega)),(V.out.nb gz (fun x d=>by have:=(V.out x d).1;omega)).mono (by omega)⟩,(fun b hb=>⟨(U.out.nb gz (fun x d=>by have:=(U.out x d).1;omega)).mono (by have:=J3.out b hb;omega),(V.out.nb gz (fun x d=>by have:=(V.out x d).1;omega)).mono (by have:=J3.out b hb;omega)⟩),JG.out.nb gz (fun x d=>by have:=IC.out x d;omega),JW⟩
def rM (md:Region.Mode) (ops:Array Oper) (g dg:Nat):Array Bool→List (Nat×Nat)→Bool
 |_,[]=>true
 |listed,(i,d)::r=>((ops[i]?).map (fun o=>(o.dst,o.guard))==some (some d,some (g,true))) && d !=dg && Region.free md ops listed i && (Region.ready md ops listed).contains i && rM md ops g dg (listed.setIfInBounds i true) r
def lD:Array Bool→List (Nat×Nat)→Array Bool
 |listed,[]=>listed
 |listed,(i,_)::r=>lD (listed.setIfInBounds i true) r
def lE:Act→List (Nat×Nat)→Act
 |a,[]=>a
 |a,(_,d)::r=>lE (a.put (some d) undef) r
theorem mu {P:Program} {G:Region.Mode} {y:Array Oper} {Q:Exit→Act→World→Prop} {S:World→Prop} {g dg:Nat} (K:Region.noSelect y=true) (A:(y[g]?).bind (·.dst)=some dg)
    (H: ∀c a (d:Nat) v w,Q (.panic c) (Act.put a (some d) v) w→Q (.panic c) a w) {w:World} (I:S w) {fuel:Nat}:
    ∀(l:List (Nat×Nat)) (f:Array Bool) (a:Act),rM G y g dg f l=true→a.tmps[dg]?=some (.bool false)→wpAnyH P G y Q S fuel (lD f l) (lE a l) w→wpAnyH P G y Q S (fuel+l.length) f a w
 |[],_,_,_,_,h=>h
 |(i,d)::r,f,a,hok,ht,h=>by
  rw[rM]at hok;simp only[Bool.and_eq_true,beq_iff_eq,bne_iff_ne]at hok;obtain⟨⟨⟨⟨z,M⟩,N⟩,O⟩,T⟩:=hok
  cases E:y[i]? with
  |none=>rw[E]at z;cases z
  |some o=>
   rw[E]at z;simp only[Option.map_some,Option.some.injEq,Prod.mk.injEq]at z
   have U:Region.wanted o (yielded y a.tmps)=false:=by
    have V:yielded y a.tmps g=some false:=by
     unfold yielded;rw[A];simp only[Option.bind_some,ht]
    unfold Region.wanted;rw[z.2];simp[V]
   have F:(a.put (some d) undef).tmps[dg]?=some (.bool false):=by
    unfold Act.put;simp only;rw[Array.getElem?_setIfInBounds_ne (by exact M)];exact ht
   have ih:=mu K A H I r (f.setIfInBounds i true) (a.put (some d) undef) T F h;refine wpAnyH_take (i:=i) (oi:=o) (v:=undef) E K N O (fun c a w J=>H c a d undef w (by rw[z.1]at J;exact J)) (Or.inr ⟨U,rfl⟩) I ?_
   rw[z.1];exact ih
structure Db (p:Prop):Prop where
 out:p
theorem wS {p q:Prop} (h:Db p→q) (d:p):q:=h ⟨d⟩
theorem Dc {w:World} {base:Nat} {v:Value} {L:List (List UInt8)} (h:w.ownsRow base 9 1 v L.length (ai L)) (F:L≠[]):
    ∃g d,v= .slice (some ⟨g,0,none⟩) L.length d∧base≤g∧g<w.heap.size∧ ∀i (h:i<L.length),w.cell? ⟨g,i,none⟩=some (.string ⟨(L[i]).toArray⟩):=by
 have f:=h;obtain⟨I,G⟩:=h
 rcases G with⟨_,E⟩|⟨g,d,cur,rfl,H,A,K,J,E,z⟩
 · exact absurd (List.length_eq_zero_iff.1 E) F
 · have y:g<w.heap.size:=by
    rcases Nat.lt_or_ge g w.heap.size with h|h
    · exact h
    · rw[Array.getElem?_eq_none h]at A;cases A
   refine⟨g,d,rfl,H,y,fun i h=>?_⟩
   rw[f.cellAt i (by omega)];simp[ai,h]
theorem Dd (a b:List (List UInt8)):ai a++ai b=ai (a++b):=by simp[ai]
theorem kg {w:World} {g:Nat} {L:List (List UInt8)} (h: ∀i (h:i<L.length),w.cell? ⟨g,i,none⟩=some (.string ⟨(L[i]).toArray⟩)) (o:Nat): ∀j u,(ai (L.drop o))[j]?=some u→w.cell? ((⟨g,o,none⟩:Addr).add j)=some u:=by
 intro j u y;simp only[ai,List.getElem?_map,List.getElem?_drop,Option.map_eq_some_iff]at y;obtain⟨x,z,rfl⟩:=y
 obtain⟨d,rfl⟩:=List.getElem?_eq_some_iff.1 z
 have e:=h (o+j) d;by_cases f:j=0
 · subst f;simpa[Addr.add]using e
 · simpa[Addr.add,f]using e
theorem jG (L:List (List UInt8)): ∀u∈ai L,u.oneCell'=true:=by
 intro u d;simp only[ai,List.mem_map]at d;obtain⟨x,_,rfl⟩:=d
 rfl
theorem De (L:List (List UInt8)) (n g o cap:Nat) (w:World) (y:n=L.length) (f:(cB L).length≤1000000000) (z:L.length≤1000000000) (d: ∀i (h:i<L.length),w.cell? ⟨g,o+i,none⟩=some (.string ⟨(L[i]).toArray⟩)):
    Calls prog 114 #[.slice (some ⟨g,o,none⟩) n cap] w fun e w'=>e= .returned (.string ⟨(cB L).toArray⟩)∧w'=w:=by
 subst y;exact vI L g o cap w f z d
theorem oN {f:En→Bool} {L:List En} {m:Nat} (d:m<L.length):(L.take (m+1)).filter f=if f L[m]=true then(L.take m).filter f++[L[m]]else(L.take m).filter f:=by
 rw[List.take_succ_eq_append_getElem d,List.filter_append,List.filter_cons];split<;>simp
theorem Df (d:List En) (x:En) (K:List En):fC (d++[x]) K=cg x (fC d K):=by rw[fC,List.foldl_append];rfl
def dD (L:List En) (c:ay) (n:Int) (m:Nat):List En:=fC (((L.take m).filter (be c.p.data.toList)).map (bx c n)) (cW L c)
theorem Dg (L:List En) (c:ay) (n:Int):dD L c n L.length=fC (fB L c n) (cW L c):=by rw[dD,List.take_length];rfl
theorem Dh {L:List En} {c:ay} {n:Int} {m:Nat} (d:m<L.length) (f:be c.p.data.toList L[m]=false):dD L c n (m+1)=dD L c n m:=by
 rw[dD,oN d,if_neg (by rw[f];decide)];rfl
theorem Di {L:List En} (G:Pp.Good L) {c:ay} {n:Int} {m:Nat} (A:(cW L c++fB L c n).Pairwise gJ) (H:m<L.length) (E:be c.p.data.toList L[m]=true):Pp.putR (bx c n L[m]) (dD L c n m)=dD L c n (m+1):=by
 have F:dw L c=(L.take m).filter (be c.p.data.toList)++L[m]::(L.drop (m+1)).filter (be c.p.data.toList):=by
  have:L=L.take m++L[m]::L.drop (m+1):=by rw[List.getElem_cons_drop];exact(List.take_append_drop m L).symm
  rw[dw];conv=>lhs;rw[this]
  rw[List.filter_append,List.filter_cons,if_pos E]
 have aE:fB L c n=((L.take m).filter (be c.p.data.toList)).map (bx c n)++bx c n L[m]::((L.drop (m+1)).filter (be c.p.data.toList)).map (bx c n):=by
  rw[fB,F,List.map_append,List.map_cons]
 rw[aE,←List.append_assoc]at A;have d:=List.pairwise_append.1 A;have J:(dD L c n m).Pairwise (fun x y=>Pp.lt x y=true):=n8 _ (List.Pairwise.filter _ G.rise) d.1
 have I:cL (bx c n L[m]) (dD L c n m)=dD L c n m:=by
  rw[cL,List.filter_eq_self];intro y K;have z:y∈cW L c++((L.take m).filter (be c.p.data.toList)).map (bx c n):=(lY _ _).mem_iff.1 K;have f:=d.2.2 y z (bx c n L[m]) (by simp);rw[rz f];rfl
 rw[oG J,I,dD,dD,oN H,if_pos E,List.map_append,List.map_cons,List.map_nil,Df]
theorem Dj (L:List En) (c:ay) (n:Int) (m:Nat):(dD L c n m).length≤L.length:=by
 have d:(dD L c n m).length=(cW L c).length+((L.take m).filter (be c.p.data.toList)).length:=by
  rw[dD,(lY _ _).length_eq,List.length_append,List.length_map]
 have f:((L.take m).filter (be c.p.data.toList)).length≤(L.filter (be c.p.data.toList)).length:=((List.take_sublist m L).filter _).length_le
 have y:(cW L c).length+(L.filter (be c.p.data.toList)).length=L.length:=by
  rw[cW]
  have: ∀(M:List En),(M.filter (fun e=> !be c.p.data.toList e)).length+(M.filter (be c.p.data.toList)).length=M.length:=by
   intro M;induction M with
   |nil=>rfl
   |cons x r ih=>
    rw[List.filter_cons,List.filter_cons];cases z:be c.p.data.toList x<;>simp<;>omega
  exact this L
 omega
theorem Dk {L:List En} {c:ay} {m:Nat} (d:m<L.length) (f:be c.p.data.toList L[m]=true) (hb:Pp.big (cn c L[m])=true):(dw L c).any (fun e=>Pp.big (cn c e))=true:=
 List.any_eq_true.2 ⟨L[m],List.mem_filter.2 ⟨List.getElem_mem d,f⟩,hb⟩
theorem Dl {L:List En} {c:ay} (h: ∀j (h:j<L.length),be c.p.data.toList L[j]=true→Pp.big (cn c L[j])=false):(dw L c).any (fun e=>Pp.big (cn c e))=false:=
 List.any_eq_false.2 fun e y=>by
  obtain⟨d,f⟩:=List.mem_filter.1 y
  obtain⟨j,z,rfl⟩:=List.getElem_of_mem d
  rw[h j z f];decide
def cz (L:List En) (c:ay) (n:Int):Int:=if dP L c=true then 8 else gx L c n
theorem rN (x:En) (K:List En):(cg x K).length=K.length+1:=by rw[(kE x K).length_eq];rfl
theorem nG {L:List En} {k:Int} {p q t:ByteArray} {b:Int} (hb: -1≤b) (h: ∀j (h:j<L.length),0≤b→dd p.data.toList b L[j]=false):dP L ⟨k,p,q,t,b⟩=false:=by
 rw[dP];by_cases d:b= -1
 · simp[d]
 · rw[List.any_eq_false.2,Bool.and_false]
   intro x y;obtain⟨j,f,rfl⟩:=List.getElem_of_mem y
   rw[h j f (by omega)];decide
theorem nH {L:List En} {k:Int} {p q t:ByteArray} {b:Int} {j:Nat} (hb:0≤b) (y:j<L.length) (d:aU (L[j]).path.data.toList p.data.toList=true) (f:b<(L[j]).ver):dP L ⟨k,p,q,t,b⟩=true:=by
 rw[dP];have e:(b== -1)=false:=by simpa using (by omega: ¬b= -1)
 have:L.any (dd p.data.toList b)=true:=List.any_eq_true.2 ⟨L[j],List.getElem_mem y,by rw[dd,be,d];simp[f]⟩
 simp only[e,this];rfl
theorem nI {p:List UInt8} {b:Int} {e:En} (h:aU e.path.data.toList p=false):dd p b e=false:=by rw[dd,be,h,Bool.and_false]
theorem nJ {p:List UInt8} {b:Int} {e:En} (h: ¬b<e.ver):dd p b e=false:=by rw[dd];simp[h]
theorem Dm {t:ByteArray} (h:t.data.toList=[]):t=⟨#[]⟩:=by
 cases t with
 |mk d=>cases d with
  |mk l=>simp at h;subst h;rfl
end Go.Proofs.YtcmlnelpcjfocaaGreatDoor
