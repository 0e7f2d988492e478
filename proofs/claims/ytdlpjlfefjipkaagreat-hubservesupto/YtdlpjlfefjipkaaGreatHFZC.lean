/- What hub.checkFolders answers. -/
import Derived.Test.YtdlpjlfefjipkaaGreatHFZ
import Derived.Test.YtdlpjlfefjipkaaGreatHFY
set_option linter.unusedSimpArgs false
set_option linter.unusedVariables false
namespace Go.Proofs.YtdlpjlfefjipkaaGreat
open Go.RowKit Go.Maps Go.WideMaps Go.Proofs.Tryz
set_option maxHeartbeats 4000000
set_option maxRecDepth 100000
theorem Ba (L:List Sh) (v:Value) (w:World) (hv:cR w v L) (hs:jN L):
    Calls prog 35 #[v] w fun e w'=>e= .returned (.int .i64 (Hu.cfE L))∧Below w.heap.size w w':=by
 have HS:=hid hs;obtain⟨a,EI,rfl,E8,E5,U⟩:=hv
 have HL:Hid (∀i (h:i<L.length),∃b o,a=some ⟨b,o,none⟩∧b<w.heap.size∧gQ w b (o+i*4) L[i]):=U;clear U hs;by_cases h8:8<L.length
 · have E:=hid (show 2=Hu.cfE L from(ql h8).symm)
   have E2:8<(L.length:Int):=by omega
   go_enter func35,ntmps35
   go_wp2;go_ret;exact⟨aB E.out,aw⟩
 have H8:=hid h8;have E2: ¬8<(L.length:Int):=by omega
 go_enter func35,ntmps35
 go_wp2;go_loopw [13] (fun i wr=> ∃k:Nat,k≤L.length∧i= .int .i64 k∧Hid (∀i (h:i<L.length),i<k→bM L[i]=0)∧Below w.heap.size w wr) (fun i _=>L.length-(intOf i).toNat)
 case atStart=>exact⟨0,Nat.zero_le _,rfl,(fun i _ h=>absurd h (Nat.not_lt_zero _): ∀i (h:i<L.length),i<0→bM L[i]=0),aw⟩
 case round=>
  obtain⟨k,hk,rfl,HP,c⟩:=hrel
  by_cases P:k<L.length
  · obtain⟨b,o,rfl,hb,Y⟩:=HL.out k P
    obtain⟨c0,u,x,c1,c2,c3,hu,hx⟩:=Y.below hb c
    have HZ:=hid (HS.out L[k] (List.getElem_mem P));have d:=hid (show¬bM L[k]=0→Hu.cfE L=bM L[k]from fun z=>uB H8.out P HP.out z)
    have F:=hid (show bM L[k]=0→ ∀i (h:i<L.length),i<k+1→bM L[i]=0 from fun z i h1 h2=>by
     by_cases e:i=k
     · subst e;exact z
     · exact HP.out i h1 (by omega))
    clear Y;generalize L[k]=s at*;obtain⟨na,⟨f,j,g⟩⟩:=s
    simp only at c0 c1 c2 c3 hu hx;have HU:=hid hu;have HX:=hid hx;obtain⟨ua,uc,rfl,_⟩:=hu
    obtain⟨xa,xc,rfl,_⟩:=hx
    obtain⟨H,C⟩: ∃H,H=wr.alloc (.cells #[na,.slice ua f.length uc,j,.slice xa g.length xc] 59):=⟨_,rfl⟩
    obtain⟨I,G⟩: ∃I,I=H.alloc (.cells #[na] 9):=⟨_,rfl⟩
    have sx:H.heap.size=wr.heap.size+1:=by rw[C];simp
    have T:Below wr.heap.size wr H:=by rw[C];exact ak
    have O:Below H.heap.size H I:=by rw[G];exact ak
    have E4:Below wr.heap.size wr I:=an T O;have HB:Hid (Cs I wr.heap.size [na,.slice ua f.length uc,j,.slice xa g.length xc]):=((by rw[C];exact Cs.new wr [na,.slice ua f.length uc,j,.slice xa g.length xc] _:Cs H wr.heap.size [na,.slice ua f.length uc,j,.slice xa g.length xc]).below O:Cs I wr.heap.size _)
    have HN:=hid (show Cs I (wr.heap.size+1) [na]from by rw[←sx,G];exact Cs.new H [na] _);have S:=hid (show(wr.alloc (.cells #[na,.slice ua f.length uc,j,.slice xa g.length xc] 59)).alloc (.cells #[na] 9)=I from by rw[G,C]);clear C G T O sx;go_wp2_with fail;rw[S.out];clear S c0 c1 c2 c3
    refine(k6 [na] (wr.heap.size+1) 0 1 I HN.out.lt (fun i hi=>by
     match i,hi with
     |0,_=>show na.size≤_;have:na.size≤150000000000000:=HZ.out.1;omega) (by simp) (fun i hi=>by
     match i,hi with
     |0,_=>exact HN.out.cell 0 rfl)).mono ?_
    rintro e w1 ⟨rfl,V⟩;have Q:=an E4 V;have A:=an c Q;have M:=hid (HB.out.below V);by_cases K:aU [na]=0
    · have N:=hid (show bM ⟨na,⟨f,j,g⟩⟩=aT ⟨f,j,g⟩from by rw[bM,if_neg (fun x=>x K)])
      have c1:=M.out.cell 1 rfl;have c2:=M.out.cell 2 rfl;have c3:=M.out.cell 3 rfl;rw[K];clear K;go_wp2_with fail;refine(AK ⟨f,j,g⟩ _ _ ⟨_,_,rfl,HU.out.below Q,HX.out.below Q⟩ HZ.out.2.1 HZ.out.2.2).mono ?_
      rintro e w2 ⟨rfl,E3⟩;have B:=an A E3;clear c1 c2 c3;rw[←N.out];by_cases z:bM ⟨na,⟨f,j,g⟩⟩=0
      · have E1:=hid (F.out z)
        rw[z];clear z d F N;go_wp2;go_roundw
        case rel=>exact⟨k+1,by omega,by simp,E1,B⟩
        case measure=>simp[intOf];omega
      · have E:=hid (d.out z)
        have hz:(bM ⟨na,⟨f,j,g⟩⟩==0)=false:=by simpa using z
        have E7:(bM ⟨na,⟨f,j,g⟩⟩ !=0)=true:=by simpa using z
        clear z d F N;generalize bM ⟨na,⟨f,j,g⟩⟩=r at*;go_wp2;go_ret;exact⟨by rw[E.out];rfl,B⟩
    · have N:=hid (show bM ⟨na,⟨f,j,g⟩⟩=aU [na]from by rw[bM,if_pos K])
      have E:=hid (show Hu.cfE L=aU [na]from by rw[←N.out];exact d.out (by rw[N.out];exact K));have hz:(aU [na]==0)=false:=by simpa using K
      have E7:(aU [na] !=0)=true:=by simpa using K
      clear N d F K;generalize aU [na]=r at*;go_wp2;go_ret;exact⟨by rw[E.out];rfl,A⟩
  · have HA:=hid (show∀i (h:i<L.length),bM L[i]=0 from fun i h=>HP.out i h (by omega))
    go_wp2;go_loopw [7] (fun i wr=> ∃m:Nat,m≤L.length∧i= .int .i64 ((m:Int)+1)∧Hid (∀i (h:i+1<L.length),i<m→Hu.lt L[i] L[i+1]=true)∧Below w.heap.size w wr) (fun i _=>L.length+2-(intOf i).toNat)
    case atStart=>exact⟨0,Nat.zero_le _,rfl,(fun i _ h=>absurd h (Nat.not_lt_zero _): ∀i (h:i+1<L.length),i<0→Hu.lt L[i] L[i+1]=true),c⟩
    case round=>
     clear c;obtain⟨m,hm,rfl,HR,c⟩:=hrel
     by_cases J:m+1<L.length
     · obtain⟨b,o,rfl,hb,Y⟩:=HL.out m (by omega)
       obtain⟨c0,_⟩:=Y.below hb c
       obtain⟨b',o',X,EJ,Z⟩:=HL.out (m+1) J
       obtain⟨rfl,rfl⟩:b=b'∧o=o':=by simpa using X
       obtain⟨d0,_⟩:=Z.below hb c
       have E9:(m:Int)+1<L.length:=by omega
       clear X Y Z;cases R:Hu.lt L[m] L[m+1]with
       |true=>
        have E6:Op.bytesLess (L[m]).na.toList (L[m+1]).na.toList=true:=R
        have E0:=hid (show∀i (h:i+1<L.length),i<m+1→Hu.lt L[i] L[i+1]=true from fun i h1 h2=>by
         by_cases e:i=m
         · subst e;exact R
         · exact HR.out i h1 (by omega))
        clear R;go_wp2_with fail;go_region
        go_wp2;go_roundw
        case rel=>exact⟨m+1,by omega,by simp,E0,c.drew⟩
        case measure=>simp[intOf];omega
       |false=>
        have E6:Op.bytesLess (L[m]).na.toList (L[m+1]).na.toList=false:=R;have E:=hid (uC H8.out HA.out J R);clear R;go_wp2_with fail;go_region
        go_wp2;go_ret;exact⟨by rw[E.out];rfl,c.drew⟩
     · have E:=hid (show Hu.cfE L=0 from uD H8.out HA.out fun i h=>HR.out i h (by omega))
       go_wp2;go_ret;exact⟨by rw[E.out];rfl,c⟩
def cH (s:Sh) (x:ByteArray):Int:=Lib.compareBytes s.na.data.toList x.data.toList
theorem nL (s t:Sh):Hu.lt s t=decide (Lib.compareBytes s.na.data.toList t.na.data.toList<0):=by rw[Hu.lt,kR,Lib.toList_data,Lib.toList_data]
theorem mw {L:List Sh} (a:dQ L=true): ∀(d i:Nat) (h:i+d+1<L.length),Lib.compareBytes (L[i]'(by omega)).na.data.toList (L[i+d+1]).na.data.toList<0
 |0,i,h=>by
  have:=(ln L).1 a i h
  rw[nL]at this;exact of_decide_eq_true this
 |d+1,i,h=>by
  have f:=mw a d i (by omega);have c:=(ln L).1 a (i+d+1) (by omega);rw[nL]at c;exact lJ _ _ _ f (of_decide_eq_true c)
theorem qq {L:List Sh} (f:dQ L=true) {x:ByteArray} {i j:Nat} (a:i≤j) (c:j<L.length) (h:cH L[j] x<0):cH (L[i]'(by omega)) x<0:=by
 by_cases e:i=j
 · subst e;exact h
 · obtain⟨d,rfl⟩: ∃d,j=i+d+1:=⟨j-i-1,by omega⟩
   exact lJ _ _ _ (mw f d i c) h
def cj (L:List Sh) (x:ByteArray):Nat:=L.findIdx (fun s=>decide (0≤cH s x))
def cl (L:List Sh) (x:ByteArray):Bool:=L.any (fun s=>decide (cH s x=0))
theorem qr {L:List Sh} {x:ByteArray} {p:Nat} (g:p≤L.length) (a: ∀m (h:m<L.length),m<p→cH L[m] x<0) (d: ∀m (h:m<L.length),p≤m→0≤cH L[m] x):cj L x=p:=by
 by_cases h:p<L.length
 · exact(List.findIdx_eq h).2 ⟨decide_eq_true (d p h ax),fun m c=>by have:=a m (by omega) c;simp;omega⟩
 · obtain rfl:p=L.length:=by omega
   exact List.findIdx_eq_length.2 fun s f=>by
    obtain⟨m,c,rfl⟩:=List.getElem_of_mem f
    have:=a m c c;simp;omega
theorem Bb {L:List Sh} {x:ByteArray} {p:Nat} (v:dQ L=true) (h:p<L.length) (c: ∀m (h:m<L.length),m<p→cH L[m] x<0) (a: ∀m (h:m<L.length),p≤m→0≤cH L[m] x):cl L x=decide (cH L[p] x=0):=by
 by_cases e:cH L[p] x=0
 · rw[decide_eq_true e]
   exact List.any_eq_true.2 ⟨L[p],List.getElem_mem h,decide_eq_true e⟩
 · rw[decide_eq_false e]
   refine List.any_eq_false.2 fun s z=>?_
   obtain⟨m,g,rfl⟩:=List.getElem_of_mem z
   simp only[decide_eq_true_eq];intro i;by_cases j:m<p
   · have:=c m g j;omega
   · by_cases o:m=p
     · subst o;exact e i
     · obtain⟨d,rfl⟩: ∃d,m=p+d+1:=⟨m-p-1,by omega⟩
       have f:=mw v d p g;have u:L[p+d+1].na.data.toList=x.data.toList:=i9 _ _ i;rw[u]at f;have A:=a p h ax;have B:cH L[p] x<0:=f;omega
theorem Bc {L:List Sh} {x:ByteArray} (a: ∀m (h:m<L.length),cH L[m] x<0):cl L x=false:=by
 refine List.any_eq_false.2 fun s d=>?_
 obtain⟨m,c,rfl⟩:=List.getElem_of_mem d
 have:=a m c
 simp;omega
theorem uI (na y:ByteArray) (g i:Option Addr) (c c1 d c2:Nat) (f:Int) (w:World):
    Calls prog 93 #[.agg #[na,.slice g c c1,f,.slice i d c2],y] w fun e w'=>e= .returned (.int .i64 (Lib.compareBytes na.data.toList y.data.toList))∧Below w.heap.size w w':=by
 have a:Below w.heap.size w (w.alloc (.cells #[na,.slice g c c1,f,.slice i d c2] 59)):=ak;go_enter func93,ntmps93
 go_wp2_with fail;refine(Tryz.strings_Compare _ _ _).mono ?_
 rintro e j ⟨rfl,rfl⟩;go_wp2;go_ret;exact⟨rfl,a⟩
theorem Bd (L:List Sh) (v:Value) (x:ByteArray) (w:World) (hv:cR w v L) (hr:dQ L=true) (h8:L.length≤8):
    Calls prog 92 #[v,x,.func (.func 93) #[] #[]] w fun e w'=>e= .returned (.tuple #[cj L x,cl L x])∧Below w.heap.size w w':=by
 have Q:=hid hr;obtain⟨a,E2,rfl,E0,V,C⟩:=hv
 have HL:Hid (∀i (h:i<L.length),∃b o,a=some ⟨b,o,none⟩∧b<w.heap.size∧gQ w b (o+i*4) L[i]):=C;clear C hr;go_enter func92,ntmps92
 go_wp2;go_loopw [9,10] (fun vi vj wr=> ∃i j:Nat,i≤j∧j≤L.length∧vi= .int .i64 i∧vj= .int .i64 j∧Hid (∀m (h:m<L.length),m<i→cH L[m] x<0)∧Hid (∀m (h:m<L.length),j≤m→0≤cH L[m] x)∧Below w.heap.size w wr) (fun vi vj _=>(intOf vj-intOf vi).toNat)
 case atStart=>exact⟨0,L.length,Nat.zero_le _,ax,rfl,rfl,(fun m _ h=>absurd h (Nat.not_lt_zero _): ∀m (h:m<L.length),m<0→cH L[m] x<0),(fun m h T=>absurd h (by omega): ∀m (h:m<L.length),L.length≤m→0≤cH L[m] x),aw⟩
 case round=>
  obtain⟨i,j,E3,X,rfl,rfl,A,I,d⟩:=hrel
  by_cases E5:i<j
  · obtain⟨k,hk⟩: ∃k:Nat,k=(i+j)/2:=⟨_,rfl⟩
    have E1:(i:Int)<j:=by omega
    have Y:i≤k:=by omega
    have E4:k<j:=by omega
    have F:k<L.length:=by omega
    obtain⟨b,o,rfl,U,E⟩:=HL.out k F
    obtain⟨R,u,z,S,c2,c3,G,H⟩:=E.below U d
    have P:=hid (show cH L[k] x<0→ ∀m (h:m<L.length),m<k+1→cH L[m] x<0 from fun h m h1 T=>qq Q.out (by omega) F h)
    have O:=hid (show¬cH L[k] x<0→ ∀m (h:m<L.length),k≤m→0≤cH L[m] x from fun h m h1 T=>by
     by_cases e:cH L[m] x<0
     · exact absurd (qq Q.out T h1 e) h
     · omega)
    clear E;have N:=hid (show Lib.compareBytes L[k].na.data.toList x.data.toList=cH L[k] x from rfl);generalize L[k]=s at*;obtain⟨na,⟨jb,J,jc⟩⟩:=s
    simp only at R S c2 c3 G H;obtain⟨ua,uc,rfl,_⟩:=G
    obtain⟨xa,xc,rfl,_⟩:=H
    have f:((i:Int)+j)/2=(k:Int):=by omega
    have E6:Op.shift .shr .u64 ((i:Int)+j) .u64 1=pure (.int .u64 (k:Int)):=by rw[shift_shr_any _ _ _ _ (by decide),←f];rfl
    have E7:IntKind.i64.wrap (k:Int)=k:=by rw[IntKind.wrap_i64];omega
    clear f hk;go_wp2_with fail;refine(uI na x ua xa _ uc _ xc J _).mono ?_
    rintro e w1 ⟨rfl,g⟩;rw[N.out];have c:=an d g;by_cases hc:cH ⟨na,⟨jb,J,jc⟩⟩ x<0
    · have K:=hid (P.out hc)
      go_wp2;go_roundw
      case rel=>exact⟨k+1,j,by omega,X,by simp,rfl,K,I,c⟩
      case measure=>simp[intOf];omega
    · have M:=hid (O.out (by omega))
      go_wp2;go_roundw
      case rel=>exact⟨i,k,Y,by omega,rfl,by simp,A,M,c⟩
      case measure=>simp[intOf];omega
  · obtain rfl:i=j:=by omega
    by_cases hn:i<L.length
    · have Z:(i:Int)<L.length:=by omega
      obtain⟨b,o,rfl,U,E⟩:=HL.out i hn
      obtain⟨R,u,z,S,c2,c3,G,H⟩:=E.below U d
      have N:=hid (show Lib.compareBytes L[i].na.data.toList x.data.toList=cH L[i] x from rfl);have B:=hid (show cj L x=i∧cl L x=decide (cH L[i] x=0)from⟨qr X A.out I.out,Bb Q.out hn A.out I.out⟩);clear E;generalize L[i]=s at*;obtain⟨na,⟨jb,J,jc⟩⟩:=s
      simp only at R S c2 c3 G H;obtain⟨ua,uc,rfl,_⟩:=G
      obtain⟨xa,xc,rfl,_⟩:=H
      go_wp2_with fail;refine(uI na x ua xa _ uc _ xc J _).mono ?_
      rintro e w1 ⟨rfl,g⟩;rw[N.out];have c:=an d g;go_wp2_with fail;go_ret2;exact⟨by rw[B.out.1,B.out.2];rfl,c⟩
    · have Z: ¬(i:Int)<L.length:=by omega
      obtain rfl:i=L.length:=by omega
      have B:=hid (show cj L x=L.length∧cl L x=false from⟨qr X A.out I.out,Bc fun m h=>A.out m h h⟩);go_wp2_with fail;go_ret2;exact⟨by rw[B.out.1,B.out.2];rfl,d⟩
theorem uJ (L:List Sh) (v:Value) (x:ByteArray) (g:Nat) (w:World) (s:w.cell? ⟨g,0,none⟩=some v) (c:cR w v L) (o:dQ L=true) (i:L.length≤8):
    Calls prog 62 #[.pointer (some ⟨g,0,none⟩),x] w fun e w'=>e= .returned (.tuple #[cj L x,cl L x])∧Below w.heap.size w w':=by
 have d:=hid c;obtain⟨a,f,rfl,_⟩:=c
 go_enter func62,ntmps62
 go_wp2_with fail;refine(Bd L _ x _ d.out o i).mono ?_
 rintro e u ⟨rfl,j⟩;go_wp2_with fail;go_ret2;exact⟨rfl,j⟩
theorem bj.nb {W s:World} {v:Value} {L:List Gr} {g:Nat} (h:bj W v L) (x:W.grownBy s (some g)) (F:di W g):bj s v L:=by
 obtain⟨a,f,G,z,A,B⟩:=h
 refine⟨a,f,G,z,A,fun i E=>?_⟩
 obtain⟨b,o,C,u,d⟩:=B i E
 have j:b≠g:=fun e=>F _ _ (e▸d.1)
 have c:=iK x u j;exact⟨b,o,C,Nat.lt_of_lt_of_le u x.size,(c _).trans d.1,(c _).trans d.2.1,(c _).trans d.2.2⟩
theorem cR.nb {W z:World} {v:Value} {L:List Sh} {g:Nat} (h:cR W v L) (d:W.grownBy z (some g)) (j:di W g):cR z v L:=by
 obtain⟨a,f,M,G,H,I⟩:=h
 refine⟨a,f,M,G,H,fun i K=>?_⟩
 obtain⟨b,o,J,B,A,u,x,C,e2,E,e4,F⟩:=I i K
 have s:b≠g:=fun e=>j _ _ (e▸A)
 have c:=iK d B s;exact⟨b,o,J,Nat.lt_of_lt_of_le B d.size,(c _).trans A,u,x,(c _).trans C,(c _).trans e2,(c _).trans E,e4.nb d j,F.nb d j⟩
def Hu.told (L:List Sh) (G:List Gr):List Co:=G.map fun g=>⟨cj L g.fo,g.fo,[]⟩
def dj (L:List Sh) (G:List Gr):Int:=if(G.all fun g=>cl L g.fo)=true then(if Maps.size (Jn.D (Hu.told L G))<L.length then 5 else 0)else 5
theorem uK {L:List Sh} {G:List Gr} {k:Nat} (c:k<G.length) (h:cl L G[k].fo=false):dj L G=5:=by
 rw[dj,if_neg];intro a;have:=List.all_eq_true.1 a G[k] (List.getElem_mem c)
 rw[h]at this;cases this
theorem Be {L:List Sh} {G:List Gr} (h: ∀m (h:m<G.length),cl L G[m].fo=true):dj L G=if Maps.size (Jn.D (Hu.told L G))<L.length then 5 else 0:=by
 rw[dj,if_pos];refine List.all_eq_true.2 fun g a=>?_
 obtain⟨m,c,rfl⟩:=List.getElem_of_mem a
 exact h m c
theorem Bf {L:List Sh} {G:List Gr} {k:Nat} (a:k<G.length):Jn.D ((Hu.told L G).take (k+1))=(Jn.D ((Hu.told L G).take k)).put (Jn.key G[k].fo) (Jn.num (cj L G[k].fo)):=by
 have h:=sn (l:=Hu.told L G) (k:=k) (by simpa[Hu.told]using a);simpa[Hu.told]using h
theorem Bg (L:List Sh) (G:List Gr) (vf vg vs:Value) (nx la ro now:Int) (g c:Nat) (w:World) (v:Cs w g [vf,vg,vs,nx,la,ro,now,.map (some c)]) (Z:w.ownsMap prog 9 (plainElem prog 3) c 0 (.map []:DataW Unit)) (U:g≠c)
    (hf:cR w vf L) (hg:bj w vg G) (hs:eu G) (hr:dQ L=true) (h8:L.length≤8) (ER:G.length≤60):
    Calls prog 37 #[.pointer (some ⟨g,0,none⟩)] w fun e w'=>e= .returned (.int .i64 (dj L G))∧w.grownBy w' (some c)∧(dj L G=0→w'.ownsMap prog 9 (plainElem prog 3) c G.length (Jn.D (Hu.told L G))):=by
 have HX:=hid v;have HF:=hid hf;have HS:=hid hs;have HR:=hid hr;have HM:=hid Z;have K:Hid (di w c):=pd Z;have ES:=v.lt;have ET:=Z.lt;obtain⟨fa,fc,rfl,_⟩:=hf
 obtain⟨a,EQ,rfl,EO,EI,Q⟩:=hg
 have HL:Hid (∀i (h:i<G.length),∃b o,a=some ⟨b,o,none⟩∧b<w.heap.size∧em w b (o+i*3) G[i]):=Q;have p1:=v.cell 1 rfl;clear Q v hs hr Z;go_enter func37,ntmps37
 go_wp2;go_loopw [13] (fun i wr=> ∃k:Nat,k≤G.length∧i= .int .i64 k∧Hid (wr.ownsMap prog 9 (plainElem prog 3) c k (Jn.D ((Hu.told L G).take k)))∧Hid (∀m (h:m<G.length),m<k→cl L G[m].fo=true)∧Hid (w.grownBy wr (some c))) (fun i _=>G.length-(intOf i).toNat)
 case atStart=>exact⟨0,Nat.zero_le _,rfl,HM,(fun m _ h=>absurd h (Nat.not_lt_zero _): ∀m (h:m<G.length),m<0→cl L G[m].fo=true),Nb.refl w c⟩
 case round=>
  obtain⟨k,hk,rfl,V,HP,I⟩:=hrel
  clear p1;by_cases z:k<G.length
  · obtain⟨b,o,rfl,hb,T⟩:=HL.out k z
    have R:b≠c:=fun e=>K.out _ _ (e▸T.1)
    have X:=iK I.out hb R;have c0:=(X _).trans T.1;have c1:=(X _).trans T.2.1;have c2:=(X _).trans T.2.2;have HZ:=hid (HS.out G[k] (List.getElem_mem z));have f:=hid (show cl L G[k].fo=false→dj L G=5 from fun h=>uK z h)
    have E:=hid (show cl L G[k].fo=true→ ∀m (h:m<G.length),m<k+1→cl L G[m].fo=true from fun h0 m h1 h2=>by
     by_cases e:m=k
     · subst e;exact h0
     · exact HP.out m h1 (by omega))
    have N:=hid (Bf (L:=L) z);have E9:=hid (show cj L G[k].fo≤L.length from List.findIdx_le_length);clear T X;generalize G[k]=x at*;obtain⟨fo,wh,ri⟩:=x
    simp only at c0 c1 c2;have EV:=I.out.size;obtain⟨H,A⟩: ∃H,H=wr.alloc (.cells #[fo,wh,ri] 64):=⟨_,rfl⟩
    have S:Below wr.heap.size wr H:=by rw[A];exact ak
    have HB:=hid (show Cs H wr.heap.size [fo,wh,ri]from by rw[A];exact Cs.new wr [fo,wh,ri] _);have F:=hid (show w.grownBy H (some c)from Nb.trans I.out (Nb.below c S));have P:=hid (HX.out.nb F.out U);have E3:=hid (HF.out.nb F.out K.out);have y0:=HB.out.cell 0 rfl;go_wp2_with fail;rw[←A];clear A c0 c1 c2;refine(uJ L _ fo g H (P.out.cell 0 rfl) E3.out HR.out h8).mono ?_
    rintro e w1 ⟨rfl,u⟩;have J:=hid (show w.grownBy w1 (some c)from Nb.trans F.out (Nb.below c u));have s:=hid (P.out.below u);have E0:=hid (HB.out.below u);have d:=an S u;have E1:=hid (show w1.ownsMap prog 9 (plainElem prog 3) c k (Jn.D ((Hu.told L G).take k))from V.out.kept (row:=none) ⟨d.os,d.tape,d.output,d.size,fun k hk _=>d.block k hk⟩ (by simp));clear y0;cases Y:cl L fo with
    |false=>
     have C:=hid (f.out Y);clear Y f E;go_wp2;go_ret;exact⟨by rw[C.out];rfl,J.out,fun h=>by rw[C.out]at h;cases h⟩
    |true=>
     have E8:=hid (E.out Y);obtain⟨p,hp⟩: ∃p,p=cj L fo:=⟨_,rfl⟩
     rw[←hp];have O:=hid (show Jn.D ((Hu.told L G).take (k+1))=(Jn.D ((Hu.told L G).take k)).put (Jn.key fo) (Jn.num p)from by rw[hp];exact N.out);have EU:p≤L.length:=by rw[hp];exact E9.out
     have EL:(Lit.int .i64 (p:Int)).wf=true:=pY (by omega) (by omega);have EJ:fo.size≤maxLen:=by have:fo.size≤150000000000000:=HZ.out.1;unfold maxLen;omega
     have EK:k<maxLen:=by unfold maxLen;omega
     obtain⟨w6,EM,j,B⟩:=E1.out.drew.update (string_keyed underlying9) underlying52 EK (keyOf_string_mk underlying9 EJ) (plainElem_int underlying3 EL)
     have E6:=hid j;have E4:=hid B;have y0:=E0.out.cell 0 rfl;have x7:=s.out.cell 7 rfl;clear j B hp Y f E N;go_wp2_with fail;go_region
     have E5:=hid (show w.grownBy w6 (some c)from Nb.trans (Nb.trans J.out (Nb.below c aw.drew)) E4.out);have E7:=hid (show w6.ownsMap prog 9 (plainElem prog 3) c (k+1) (Jn.D ((Hu.told L G).take (k+1)))from by rw[O.out];exact E6.out);go_wp2;go_roundw
     case rel=>exact⟨k+1,by omega,by simp,E7,E8,E5⟩
     case measure=>simp[intOf];omega
  · obtain rfl:k=G.length:=by omega
    have HA:=hid (Be fun m h=>HP.out m h h);have hT:(Hu.told L G).take G.length=Hu.told L G:=List.take_of_length_le (by simp[Hu.told]);rw[hT]at V;clear hT;have s:=hid (HX.out.nb I.out U);have x7:=s.out.cell 7 rfl;have x0:=s.out.cell 0 rfl;have EP:=fun ty=>V.out.drew.len underlying52 ty
    have M:=hid (show w.grownBy _ (some c)from Nb.trans I.out (Nb.below c aw.drew));have E2:=hid V.out.drew;by_cases hz:Maps.size (Jn.D (Hu.told L G))<L.length
    · have C:=hid (show dj L G=5 from by rw[HA.out,if_pos hz])
      have EN:(Maps.size (Jn.D (Hu.told L G)):Int)<L.length:=by omega
      generalize Maps.size (Jn.D (Hu.told L G))=q at*;go_wp2_with fail;go_region
      go_wp2;go_ret;exact⟨by rw[C.out];rfl,M.out,fun h=>by rw[C.out]at h;cases h⟩
    · have C:=hid (show dj L G=0 from by rw[HA.out,if_neg hz])
      have EN: ¬(Maps.size (Jn.D (Hu.told L G)):Int)<L.length:=by omega
      generalize Maps.size (Jn.D (Hu.told L G))=q at*;go_wp2_with fail;go_region
      go_wp2;go_ret;exact⟨by rw[C.out];rfl,M.out,fun _=>E2.out⟩
theorem Bh (G:List Se) (v:Value) (x l r:Int) (p:ByteArray) (size now:Int) (w:World) (hv:aK w v G) (hs:bq G) (hp:p.size≤150000000000000) (h0:bl G x l r now [p]=0) (h1:0≤size) (h2:size≤300) (h3:x<1099511627776) (h4:(aq now G).length<20) (h5:r<aW (aq now G) p+size):
    Calls prog 79 #[.agg #[v,x,l,r],p,size,.int .i64 now] w fun e w'=>e= .returned (.tuple #[.agg  aJ ,ah,.int .i64 10])∧Below w.heap.size w w':=by
 have HV:=ac hv;have HS:=ac hs;clear hv hs;obtain⟨K,a⟩: ∃K,K=((w.alloc (.cells #[v,x,l,r] 26)).alloc (.cells  aJ  26)).alloc (.cells #[p] 9):=⟨_,rfl⟩
 have U:=hid (show Below w.heap.size w K from by rw[a];exact( ak.alloc (by simp) _).alloc (by simp;omega) _)
 have Y:=hid (show Bx K (w.heap.size+1) al ah ah ah from by
  have:=(Bx.new (w.alloc (.cells #[v,x,l,r] 26)) al ah ah ah 26).below ( aw.alloc ax (.cells #[p] 9))
  rw[a];simpa using this)
 have V:=hid (show gu K (.slice (some ⟨w.heap.size+2,0,none⟩) 1 1) [p]from Or.inr ⟨w.heap.size+2,1,rfl,by rw[a];simp,fun i hi=>by
  match i,hi with
  |0,_=>rw[a];simp[go_sem]⟩)
 have E8:K.heap.size=w.heap.size+3:=by rw[a];simp
 have E4: ∀s∈[p],s.size≤150000000000000:=fun s h=>by rw[List.mem_singleton.1 h];exact hp
 have H0:=ac h0;obtain⟨J,⟨EP,EQ⟩,_⟩:=dz h0
 obtain⟨E7,⟨EN,EO⟩,⟨ER,ES⟩,EU,EV⟩:=cQ (bu J).1
 have E5:=de now G;have H:=hid (show∀s∈aq now G,0≤s.si∧s.si≤300 from fun s h=>ik (bu J).2.1 s (List.mem_filter.1 h).1);clear h0 J;have E0: ¬20≤((aq now G).length:Int):=by omega
 go_enter func79,ntmps79
 go_wp2_with fail;rw[←a];clear a;refine(iT G _ x l r now [p] _ _ (HV.out.below U.out) HS.out V.out E4 (by simp)).mono ?_
 rintro e F (⟨E3,_⟩|⟨_,u,rfl,E,o⟩)
 · exact absurd H0.out E3
 have g:=U.out.trans (o.mono U.out.size);have Q:=Y.out.below o;have E9:=o.size;have c:=ac E;clear o E;obtain⟨Z,f,rfl,E2,_,_⟩:=c.out.lies (by omega)
 have A:=ko p H.out;obtain⟨M,hM⟩: ∃M,M=aq now G:=⟨_,rfl⟩
 rw[←hM]at H c E0 h5 E5 A E2 h4;have P:M.length≤1000:=by omega
 have EL:0≤aW M p:=A.1;have EM:aW M p≤6000:=by have:=A.2;omega
 have ET:IntKind.i64.wrap (aW M p+size)=aW M p+size:=by rw[IntKind.wrap_i64];omega
 clear A;obtain⟨N,B⟩: ∃N,N=F.alloc (.cells #[.slice Z M.length f,x,l,r] 26):=⟨_,rfl⟩
 have j:Below F.heap.size F N:=by rw[B];exact ak
 have O:Bx N F.heap.size (.slice Z M.length f) x (.int .i64 l) r:=by rw[B];exact Bx.new _ _ _ _ _ _
 have R:=Q.below j;have C:=g.trans (j.mono g.size);have X:=ac (c.out.below j);have EJ:=j.size;rw[←hM];clear hM c Q g j;have EK:=ac O;obtain⟨I,⟨q0,q1,q2,q3⟩,k0,k1,k2,k3⟩:=O
 have E6:=I;go_wp2_with fail;rw[←B];clear B
 go_region_held3 (fun W=>W.cell? ⟨F.heap.size,0,none⟩=some (.slice Z M.length f)∧W.cell? ⟨F.heap.size,3,none⟩=some (.int .i64 r)) (go_keep) (first
  |(go_at_call 96;refine(pH M _ p _ ((X.out.lies P).below aw.drew) P H.out).mono ?_;rintro e wa ⟨rfl,z⟩;have j0:=(z.cell (p:=⟨F.heap.size,0,none⟩) I).trans q0;have j3:=(z.cell (p:=⟨F.heap.size,3,none⟩) I).trans q3))
 all_goals
  have d:Below N.heap.size N wa:= aw.drew.trans z;have S:=C.trans (d.mono C.size);obtain⟨E1,⟨c0,c1,c2,c3⟩,f0,f1,f2,f3⟩:=R.below d
  have EI:=d.size;clear z d R q0 q1 q2 q3;generalize aW M p=T at*;go_wp2;refine bodyPost_ret (v:= .tuple #[.agg  aJ ,ah,.int .i64 10]) (by simp[results,results79,go_sem,c0,c1,c2,c3,E1]) rfl ⟨rfl,?_⟩
  exact bz (b:=w.heap.size+1) (S) (by omega)
theorem bR.row {B:Nat} {w:World} {u:Value} {L:List Se} (h:bR B w u L):w.ownsRow B 79 5 u L.length (bn L):=by
 rcases h with⟨rfl,rfl⟩|⟨g,a,rfl,c,d,f,i,j⟩
 · exact World.ownsRow_nil _ _ _ _
 · exact tl f i d j c
theorem bR.nb {B b:Nat} {w w':World} {u:Value} {L:List Se} (h:bR B w u L) (c:w.grownBy w' (some b)) (v:b<B):bR B w' u L:=by
 rcases h with h|⟨g,a,d,f,i,j,o,s⟩
 · exact Or.inl h
 · exact Or.inr ⟨g,a,d,f,i,j.nb c (by omega),o.nb c (by omega),s⟩
theorem jv {B:Nat} {w:World} {u:Value} {L:List Se} (h:w.ownsRow B 79 5 u L.length (bn L)):bR B w u L:=by
 have i:=h;obtain⟨_,j⟩:=h
 rcases j with⟨rfl,f⟩|⟨g,a,cur,rfl,o,s,c,v,f,d⟩
 · exact Or.inl ⟨rfl,List.length_eq_zero_iff.1 f⟩
 · exact Or.inr ⟨g,a,rfl,o,c,pJ i rfl,⟨cur,s,f⟩,v⟩
theorem qs (w:World) (e:Se) (T:TypeId): ∀j u,(bD e)[j]?=some u→(w.alloc (.cells #[e.nu,e.wh,e.tx,e.si,e.ti] T)).cell? ((⟨w.heap.size,0,none⟩:Addr).add j)=some u:=by
 intro j u a;match j,a with
 |0,a=>simp[bD]at a;subst a;simp[Addr.add]
 |1,a=>simp[bD]at a;subst a;simp[Addr.add]
 |2,a=>simp[bD]at a;subst a;simp[Addr.add]
 |3,a=>simp[bD]at a;subst a;simp[Addr.add]
 |4,a=>simp[bD]at a;subst a;simp[Addr.add]
 |j+5,a=>simp[bD]at a
theorem Bx.gr {W c:World} {b:Nat} {row:Option Nat} {f g i j:Value} (h:Bx W b f g i j) (s:W.grownBy c row) (d:row≠some b):Bx c b f g i j:=by
 obtain⟨o,⟨u,v,c2,c3⟩,x,z,f2,A⟩:=h
 have k:c.heap[b]?=W.heap[b]?:=s.block b o (fun e=>d e.symm);exact⟨Nat.lt_of_lt_of_le o s.size,⟨(World.cell?_of_block (a:=⟨b,0,none⟩) k).trans u,(World.cell?_of_block (a:=⟨b,1,none⟩) k).trans v,(World.cell?_of_block (a:=⟨b,2,none⟩) k).trans c2,(World.cell?_of_block (a:=⟨b,3,none⟩) k).trans c3⟩,(World.frozen?_of_block (a:=⟨b,0,none⟩) k).trans x,(World.frozen?_of_block (a:=⟨b,1,none⟩) k).trans z,(World.frozen?_of_block (a:=⟨b,2,none⟩) k).trans f2,(World.frozen?_of_block (a:=⟨b,3,none⟩) k).trans A⟩
theorem Bi (G:List Se) (v:Value) (x l r:Int) (p:ByteArray) (size now:Int) (w:World) (hv:aK w v G) (hs:bq G) (hp:p.size≤150000000000000) (h0:bl G x l r now [p]=0) (h1:0≤size) (h2:size≤300) (h3:x<1099511627776) (h4:(aq now G).length<20) (h5:aW (aq now G) p+size≤r):
    Calls prog 79 #[.agg #[v,x,l,r],p,size,.int .i64 now] w fun e w'=> ∃u,e= .returned (.tuple #[.agg #[u,(x+1:Int),l,r],x,ah])∧bR w.heap.size w' u (aq now G++[dA x p size (now+l)])∧Below w.heap.size w w':=by
 have HV:=ac hv;have HS:=ac hs;clear hv hs;obtain⟨J,F⟩: ∃J,J=((w.alloc (.cells #[v,x,l,r] 26)).alloc (.cells  aJ  26)).alloc (.cells #[p] 9):=⟨_,rfl⟩
 have B3:=hid (show Below w.heap.size w J from by rw[F];exact( ak.alloc (by simp) _).alloc (by simp;omega) _)
 have Fc:=hid (show Bx J (w.heap.size+1) al ah ah ah from by
  have:=(Bx.new (w.alloc (.cells #[v,x,l,r] 26)) al ah ah ah 26).below ( aw.alloc ax (.cells #[p] 9))
  rw[F];simpa using this)
 have Fa:=hid (show gu J (.slice (some ⟨w.heap.size+2,0,none⟩) 1 1) [p]from Or.inr ⟨w.heap.size+2,1,rfl,by rw[F];simp,fun i hi=>by
  match i,hi with
  |0,_=>rw[F];simp[go_sem]⟩)
 have F6:J.heap.size=w.heap.size+3:=by rw[F];simp
 have Fl: ∀s∈[p],s.size≤150000000000000:=fun s h=>by rw[List.mem_singleton.1 h];exact hp
 obtain⟨i0,Fk,Fp,Fq,Fs⟩:=info_parts Tryz.infoSe
 have H0:=ac h0;obtain⟨EM,⟨FL,FM⟩,_⟩:=dz h0
 obtain⟨Fy,⟨FJ,FK⟩,⟨FN,FO⟩,FQ,FR⟩:=cQ (bu EM).1
 have Fm:=de now G;have E9:=hid (show∀s∈aq now G,0≤s.si∧s.si≤300 from fun s h=>ik (bu EM).2.1 s (List.mem_filter.1 h).1);clear h0 EM;have Fg: ¬20≤((aq now G).length:Int):=by omega
 go_enter func79,ntmps79
 go_wp2_with fail;rw[←F];clear F;refine(iT G _ x l r now [p] _ _ (HV.out.below B3.out) HS.out Fa.out Fl (by simp)).mono ?_
 rintro e z (⟨R,_⟩|⟨_,u,rfl,E5,X⟩)
 · exact absurd H0.out R
 have P:=B3.out.trans (X.mono B3.out.size);have F0:=Fc.out.below X;have FA:=X.size;have A:=ac E5;clear X E5;obtain⟨a4,g,rfl,Fj,_,_⟩:=A.out.lies (by omega)
 have E0:=ko p E9.out;obtain⟨M,hM⟩: ∃M,M=aq now G:=⟨_,rfl⟩
 rw[←hM]at E9 A Fg h5 Fm E0 Fj h4;have EY:M.length≤1000:=by omega
 have FH:0≤aW M p:=E0.1;have FI:aW M p≤6000:=by have:=E0.2;omega
 have FP:IntKind.i64.wrap (aW M p+size)=aW M p+size:=by rw[IntKind.wrap_i64];omega
 clear E0;obtain⟨wz,E1⟩: ∃wz,wz=z.alloc (.cells #[.slice a4 M.length g,x,l,r] 26):=⟨_,rfl⟩
 have Q:Below z.heap.size z wz:=by rw[E1];exact ak
 have EX:Bx wz z.heap.size (.slice a4 M.length g) x (.int .i64 l) r:=by rw[E1];exact Bx.new _ _ _ _ _ _
 have F1:=F0.below Q;have E4:=P.trans (Q.mono P.size);have ES:=ac (A.out.below Q);have FE:=Q.size;have EZ: ∀q,(Value.slice a4 M.length g).ownBlock=some q→J.heap.size≤q∧q<z.heap.size:=fun q hq=>A.out.row.lt q hq
 have ER:=ac EZ;have F9:=ac hM;rw[←hM];clear hM A F0 P Q EZ;have F8:=ac EX;obtain⟨N,⟨q0,q1,q2,q3⟩,k0,k1,k2,k3⟩:=EX
 have Fx:=N;go_wp2_with fail;rw[←E1];clear E1
 go_region_held3 (fun W=>W.cell? ⟨z.heap.size,0,none⟩=some (.slice a4 M.length g)∧W.cell? ⟨z.heap.size,3,none⟩=some (.int .i64 r)) (go_keep) (first
  |(go_at_call 96;refine(pH M _ p _ ((ES.out.lies EY).below aw.drew) EY E9.out).mono ?_;rintro e C ⟨rfl,Y⟩;have j0:=(Y.cell (p:=⟨z.heap.size,0,none⟩) N).trans q0;have j3:=(Y.cell (p:=⟨z.heap.size,3,none⟩) N).trans q3))
 all_goals
  have o:Below wz.heap.size wz C:= aw.drew.trans Y;have E2:=E4.trans (o.mono E4.size);have EU:=ac (F1.below o);have EO:=ac (F8.out.below o);have EQ:=ac (ES.out.below o);have FB:=o.size;clear Y o F1 q0 q1 q2 q3;generalize aW M p=T at*;obtain⟨EW,⟨q0,q1,q2,q3⟩,_⟩:=EO.out
  obtain⟨wt,B⟩: ∃wt,wt=(C.alloc (.cells #[x,p,.string ⟨#[]⟩,size,.int .i64 (now+l)] 79)).alloc (.cells #[x,p,.string ⟨#[]⟩,size,.int .i64 (now+l)] 79):=⟨_,rfl⟩
  have Z:Below C.heap.size C wt:=by rw[B];exact ak.alloc (by simp) _
  have E6:wt.ownsRow J.heap.size 79 5 (.slice a4 M.length g) M.length (bn M):=by rw[B];exact(EQ.out.row.alloc _).alloc _
  have S: ∀j u,(bD (dA x p size (now+l)))[j]?=some u→wt.cell? ((⟨C.heap.size+1,0,none⟩:Addr).add j)=some u:=by
   intro j u hj;have:=qs (C.alloc (.cells #[x,p,.string ⟨#[]⟩,size,.int .i64 (now+l)] 79)) (dA x p size (now+l)) 79 j u hj
   rw[B];simpa[dA]using this
  have s0:wt.cell? ⟨C.heap.size,0,none⟩=some (.int .i64 x):=by rw[B];simp[go_sem]
  have FD:wt.heap.size=C.heap.size+2:=by rw[B];simp
  have Ff:=ac (EU.out.below Z);have F7:=ac (EO.out.below Z);have E3:=E2.trans (Z.mono E2.size);have E8:=ac E6;have E7:=ac S;clear S E6 EU EQ Z;go_wp2_with (at_builtin;rw[←B];refine wpList_append_own _ rfl _ _ 24 rfl J.heap.size 79 i0 (.agg #[ah,.string ⟨#[]⟩,.string ⟨#[]⟩,ah,ah]) 5 56 underlying24 Fk Fp Fq Fs rfl (by decide) _ _ _ rfl E8.out ⟨C.heap.size+1,0,none⟩ 1 1 (bD (dA x p size (now+l))) rfl rfl E7.out (l8 _) (by unfold maxLen;omega) (by omega) (by omega) ?_)
  intro v2 w2 EK d F4;rw[←B]at d
  have R: ∀b,b<J.heap.size∨z.heap.size≤b→(Value.slice a4 M.length g).ownBlock≠some b:=fun b hb e=>by
   have:=ER.out b e
   omega
  have ET:=ac (Ff.out.gr d (R _ (Or.inl (by omega))));have EN:=ac (F7.out.gr d (R _ (Or.inr ax)));have s2:w2.cell? ⟨C.heap.size,0,none⟩=some (.int .i64 x):=(World.cell?_of_block (w:=wt) (a:=⟨C.heap.size,0,none⟩) (d.block _ (by show C.heap.size<wt.heap.size;omega) (fun e=>R C.heap.size (Or.inr (by omega)) e.symm))).trans s0;have O:Below w.heap.size w w2:=E3.grown d E3.size (fun k hk=>by have:=(ER.out k hk).1;omega);rw[pI]at EK;have EL:w2.ownsRow J.heap.size 79 5 v2 (M++[dA x p size (now+l)]).length (bn (M++[dA x p size (now+l)])):=by rw[List.length_append,F6];exact EK
  have K:=ac (jv EL)
  obtain⟨E,c,Fo⟩: ∃E c,v2= .slice (some ⟨E,0,none⟩) (M++[dA x p size (now+l)]).length c:=by
   rcases K.out with⟨_,F3⟩|⟨E,c,h5,_⟩
   · simp at F3
   · exact⟨E,c,h5⟩
  subst Fo
  have I:E≠z.heap.size:=fun e=>by
   have h9:=(pJ EL rfl).2 0 (by simp) 0 (by decide);have V:=EN.out.2.1.1;rw[←e]at V;have EV:=h9.1;rw[show(0*5+0:Nat)=0 from rfl,V]at EV;simp[bD]at EV
  have EP:=ac I;have Fz:=d.size;clear EK EL d F4 s0 B q0 q1 q2 q3 N EW k0 k1 k2 k3;obtain⟨Fv,Fw⟩:J.heap.size≤E∧E<w2.heap.size∧bR J.heap.size w2 (.slice (some ⟨E,0,none⟩) (M++[dA x p size (now+l)]).length c) (M++[dA x p size (now+l)]):=⟨(K.out.row.lt E rfl).1,(K.out.row.lt E rfl).2,K.out⟩
  obtain⟨EJ,⟨c0,c1,c2,c3⟩,f0,f1,f2,f3⟩:=ET.out
  obtain⟨N,⟨q0,q1,q2,q3⟩,k0,k1,k2,k3⟩:=EN.out
  obtain⟨U,H⟩: ∃U,U=(w2.setCell ⟨z.heap.size,0,none⟩ (.slice (some ⟨E,0,none⟩) (M.length+1) c)).setCell ⟨z.heap.size,1,none⟩ (x+1:Int):=⟨_,rfl⟩
  have f:w2.grownBy U (some z.heap.size):=by rw[H];exact Nb.trans (ai _ _ _ _) (ai _ _ _ _)
  have Fe:=ac (ET.out.nb f (by omega));have y0:U.cell? ⟨z.heap.size,0,none⟩=some (.slice (some ⟨E,0,none⟩) (M.length+1) c):=by rw[H];simp[go_sem,q0,q1]
  have y1:U.cell? ⟨z.heap.size,1,none⟩=some (.int .i64 (x+1)):=by rw[H];simp[go_sem,q0,q1]
  have y2:U.cell? ⟨z.heap.size,2,none⟩=some (.int .i64 l):=by rw[H];simp[go_sem,q2]
  have y3:U.cell? ⟨z.heap.size,3,none⟩=some (.int .i64 r):=by rw[H];simp[go_sem,q3]
  have sq:U.cell? ⟨C.heap.size,0,none⟩=some (.int .i64 x):=(Nb.cell f (p:=⟨C.heap.size,0,none⟩) (by show C.heap.size<w2.heap.size;omega) (by show C.heap.size≠z.heap.size;omega)).trans s2;have F2:Below w.heap.size w U:=O.trans (Nb.to f O.size (by omega))
  have F5:bR J.heap.size U (.slice (some ⟨E,0,none⟩) (M.length+1) c) (M++[dA x p size (now+l)]):=by
   rcases K.out with⟨h5,_⟩|⟨g6,Ft,h5,h6,h7,h8,h9,V⟩
   · cases h5
   · injection h5 with EI FG Fh
     injection EI with EI
     injection EI with Fi
     subst Fi;subst Fh;have I:E≠z.heap.size:=EP.out;exact Or.inr ⟨E,c,by simp,h6,h7,h8.nb f I,h9.nb f I,V⟩
  have Fb:=ac F5;have FC:=f.size;go_wp2_with fail;rw[←H];clear H f q0 q1 q2 q3 k0 k1 k2 k3 c0 c1 c2 c3 f0 f1 f2 f3 s2 F5 EJ O;obtain⟨EJ,⟨c0,c1,c2,c3⟩,f0,f1,f2,f3⟩:=Fe.out
  go_region
  go_wp2;refine bodyPost_ret (v:= .tuple #[.agg #[.slice (some ⟨E,0,none⟩) (M.length+1) c,(x+1:Int),l,r],x,ah]) (by simp[results,results79,go_sem,c0,c1,c2,c3,EJ]) rfl ⟨_,rfl,?_,?_⟩
  · rw[←F9.out]
    exact((Fb.out.nb (Nb.set4 _ (w.heap.size+1) _ _ _ _) (by omega)).below aw.drew).mono (by omega)
  · exact(bz (b:=w.heap.size+1) F2 (by omega)).drew
theorem Bj (G:List Se) (v:Value) (x l r:Int) (p:ByteArray) (size now:Int) (w:World) (j:aK w v G) (i:bq G) (g:p.size≤150000000000000):
    Calls prog 79 #[.agg #[v,x,l,r],p,size,now] w fun e w'=>(¬dr G x l r p size now=0∧e= .returned (.tuple #[.agg  aJ ,ah,dr G x l r p size now])∧Below w.heap.size w w')∨
     (dr G x l r p size now=0∧ ∃u,e= .returned (.tuple #[.agg #[u,(x+1:Int),l,r],x,ah])∧bR w.heap.size w' u (aq now G++[dA x p size (now+l)])∧Below w.heap.size w w'):=by
 rcases qp G x l r p size now with⟨a,hE⟩|⟨a,c,hE⟩|⟨a,c,d,hE⟩|⟨a,c,d,f,hE⟩|⟨a,c,d,f,o,hE⟩|⟨a,c,d,f,o,s,hE⟩|⟨a,c,d,f,o,s,hE⟩
 · rw[hE];exact(A4 G v x l r p size now w j i g a).mono fun e w' h=>Or.inl ⟨a,h⟩
 · rw[hE];exact(A5 G v x l r p size now w j i g a c).mono fun e w' h=>Or.inl ⟨by decide,h⟩
 · rw[hE];exact(A6 G v x l r p size now w j i g a c d).mono fun e w' h=>Or.inl ⟨by decide,h⟩
 · rw[hE];exact(A7 G v x l r p size now w j i g a c d f).mono fun e w' h=>Or.inl ⟨by decide,h⟩
 · rw[hE];exact(A8 G v x l r p size now w j i g a c d f o).mono fun e w' h=>Or.inl ⟨by decide,h⟩
 · rw[hE];exact(Bh G v x l r p size now w j i g a c d f o s).mono fun e w' h=>Or.inl ⟨by decide,h⟩
 · rw[hE];exact(Bi G v x l r p size now w j i g a c d f o s).mono fun e w' h=>Or.inr ⟨rfl,h⟩
def eA (x:Gr) (s:List Gr×Bool) (y:Gr):List Gr×Bool:=
 (if dq x y=true then(if s.2=false∧a7 y x=false then s.1++[x]else s.1)++[y]else(if s.2=false∧a7 y x=false then s.1++[x]else s.1),s.2|| !(a7 y x))
def cU (x:Gr) (b:Bool) (L:List Gr):List Gr×Bool:=L.foldl (eA x) ([],b)
def is (x:Gr) (b:Bool) (L:List Gr):List Gr:=if(cU x b L).2=true then(cU x b L).1 else(cU x b L).1++[x]
theorem qt (x:Gr) (b:Bool) (A:List Gr) (y:Gr):cU x b (A++[y])=eA x (cU x b A) y:=by rw[cU,List.foldl_append];rfl
theorem qu {x:Gr}: ∀{A:List Gr},(∀y∈A,a7 y x=true)→ ∀B,dY x (A++B)=A++dY x B
 |[],_,_=>rfl
 |y::r,h,B=>by
  rw[List.cons_append,dY,if_pos (h y (by simp)),qu (fun z a=>h z (by simp[a]))];rfl
theorem uL {x y:Gr} (h:a7 y x=false): ∀K,dY x (K++[y])=dY x K++[y]
 |[]=>by simp[dY,h]
 |z::r=>by
  rw[List.cons_append,dY,dY];split
  · rw[uL h r];rfl
  · rfl
theorem uM {x:Gr} {A:List Gr} (h: ∀y∈A,a7 y x=true):bP x A=A:=by
 rw[bP,List.filter_eq_self];intro y a;exact(mu x y).2 (Or.inl (h y a))
theorem qv (x:Gr) (A B:List Gr):bP x (A++B)=bP x A++bP x B:=by rw[bP,List.filter_append];rfl
theorem Bl {x:Gr} {L:List Gr} (E:L.Pairwise (fun x y=>a7 x y=true)): ∀k,k≤L.length→cU x false (L.take k)=if(L.take k).all (fun y=>a7 y x)=true then(L.take k,false)else(dY x (bP x (L.take k)),true):=by
 intro k;induction k with
 |zero=>intro _;simp[cU]
 |succ k ih=>
  intro G;have o:k<L.length:=by omega
  have ih:=ih (by omega)
  have s: ∀z∈L.take k,a7 z L[k]=true:=fun z u=>by
   obtain⟨i,F,rfl⟩:=List.getElem_of_mem u
   rw[List.length_take]at F;rw[List.getElem_take];exact List.pairwise_iff_getElem.1 E i k (by omega) o (by omega)
  rw[List.take_succ_eq_append_getElem o,qt,ih];generalize L[k]=y at*;generalize L.take k=A at*;cases a:A.all (fun y=>a7 y x)with
  |true=>
   have C: ∀z∈A,a7 z x=true:=fun z u=>List.all_eq_true.1 a z u
   cases c:a7 y x with
   |true=>
    have d:dq x y=true:=(mu x y).2 (Or.inl c);have j:(A++[y]).all (fun y=>a7 y x)=true:=by rw[List.all_append,a];simp[c]
    rw[if_pos rfl,if_pos j,eA];simp[c,d]
   |false=>
    have j:(A++[y]).all (fun y=>a7 y x)=false:=by rw[List.all_append,a];simp[c]
    rw[if_pos rfl,if_neg (by rw[j];decide),eA,qv,uM C,qu C];cases d:dq x y with
    |true=>
     have e2:bP x [y]=[y]:=by simp[bP,d]
     rw[e2];simp[dY,c]
    |false=>
     have e2:bP x [y]=[]:=by simp[bP,d]
     rw[e2];simp[dY,c]
  |false=>
   obtain⟨z,u,f⟩: ∃z∈A,a7 z x=false:=by
    have:=List.all_eq_false.1 a
    simpa using this
   have g:=s z u
   have c:a7 y x=false:=by
    cases v:a7 y x with
    |false=>rfl
    |true=>rw[ml z y x g v]at f;cases f
   have B:a7 x y=true:=by
    cases v:a7 x y with
    |true=>rfl
    |false=>have:=tN z x y f v;rw[this]at g;cases g
   have d:dq x y=true:=(mu x y).2 (Or.inr B);have j:(A++[y]).all (fun y=>a7 y x)=false:=by rw[List.all_append,a];rfl
   have e2:bP x [y]=[y]:=by simp[bP,d]
   rw[if_neg (by decide),if_neg (by rw[j];decide),eA,qv,e2,uL c];simp[d]
theorem Bm {x:Gr} {L:List Gr} (d:L.Pairwise (fun x y=>a7 x y=true)):is x false L=dY x (bP x L):=by
 have h:=Bl (x:=x) d L.length ax;rw[List.take_length]at h;rw[is,h];cases a:L.all (fun y=>a7 y x)with
 |true=>
  have c: ∀z∈L,a7 z x=true:=fun z f=>List.all_eq_true.1 a z f
  have e:=qu c [];rw[List.append_nil]at e;rw[uM c,e];simp[dY]
 |false=>simp
theorem Bn (x:Gr) (L:List Gr):cU x true L=(bP x L,true):=by
 have: ∀(L A:List Gr),L.foldl (eA x) (A,true)=(A++bP x L,true):=by
  intro L;induction L with
  |nil=>intro A;simp[bP]
  |cons y r ih=>
   intro A;rw[List.foldl_cons]
   have e:eA x (A,true) y=(A++bP x [y],true):=by
    rw[eA];cases a:dq x y<;>simp[bP,a]
   rw[e,ih,show bP x (y::r)=bP x [y]++bP x r from by rw[←qv];rfl,List.append_assoc]
 rw[cU,this,List.nil_append]
theorem Bo (x:Gr) (L:List Gr):is x true L=bP x L:=by rw[is,Bn,if_pos rfl]
end Go.Proofs.YtdlpjlfefjipkaaGreat
