/- What hub.checkFolders answers. -/
import Derived.Test.YtgamnckfmmbjdaaGreatDoorWGZA
import Derived.Test.YtgamnckfmmbjdaaGreatDoorWGY
set_option linter.unusedSimpArgs false
set_option linter.unusedVariables false
namespace Go.Proofs.YtgamnckfmmbjdaaGreatDoor
open Go.RowKit Go.Maps Go.WideMaps Go.Proofs.Tryz
set_option maxHeartbeats 4000000
set_option maxRecDepth 100000
theorem yQ (L:List Sh) (v:Value) (w:World) (hv:dt w v L) (hs:rh L):
    Calls prog 88 #[v] w fun e w'=>e= .returned (.int .i64 (Hu.cfE L))∧Below w.heap.size w w':=by
 have HS:=hid hs;obtain⟨a,CI,rfl,CG,CD,Z⟩:=hv
 have HL:Hid (∀i (h:i<L.length),∃b o,a=some ⟨b,o,none⟩∧b<w.heap.size∧fD w b (o+i*4) L[i]):=Z;clear Z hs;by_cases h8:8<L.length
 · have H:=hid (show 2=Hu.cfE L from(n6 h8).symm)
   have C8:8<(L.length:Int):=by omega
   go_enter func88,ntmps88
   go_wp2_with fail;go_ret;exact⟨an H.out,Below.refl _ _⟩
 have H8:=hid h8;have C8: ¬8<(L.length:Int):=by omega
 go_enter func88,ntmps88
 go_wp2_with fail;go_loopw [13] (fun i wr=> ∃k:Nat,k≤L.length∧i= .int .i64 k∧Hid (∀i (h:i<L.length),i<k→bd L[i]=0)∧Below w.heap.size w wr) (fun i _=>L.length-(intOf i).toNat)
 case atStart=>exact⟨0,Nat.zero_le _,rfl,(fun i _ h=>absurd h (Nat.not_lt_zero _): ∀i (h:i<L.length),i<0→bd L[i]=0),Below.refl _ _⟩
 case round=>
  obtain⟨k,hk,rfl,HP,d⟩:=hrel
  by_cases T:k<L.length
  · obtain⟨b,o,rfl,hb,he⟩:=HL.out k T
    obtain⟨c0,u,x,c1,c2,c3,hu,hx⟩:=he.below hb d
    have HZ:=hid (HS.out L[k] (List.getElem_mem T));have f:=hid (show¬bd L[k]=0→Hu.cfE L=bd L[k]from fun A=>rj H8.out T HP.out A)
    have I:=hid (show bd L[k]=0→ ∀i (h:i<L.length),i<k+1→bd L[i]=0 from fun A i h1 h2=>by
     by_cases e:i=k
     · subst e;exact A
     · exact HP.out i h1 (by omega))
    clear he;generalize L[k]=s at*;obtain⟨na,⟨j,z,y⟩⟩:=s
    simp only at c0 c1 c2 c3 hu hx;have HU:=hid hu;have HX:=hid hx;obtain⟨ua,uc,rfl,_⟩:=hu
    obtain⟨xa,xc,rfl,_⟩:=hx
    obtain⟨K,G⟩: ∃K,K=wr.alloc (.cells #[.string na,.slice ua j.length uc,.int .i64 z,.slice xa y.length xc] 92):=⟨_,rfl⟩
    obtain⟨M,J⟩: ∃M,M=K.alloc (.cells #[.string na] 9):=⟨_,rfl⟩
    have sx:K.heap.size=wr.heap.size+1:=by rw[G];simp
    have Y:Below wr.heap.size wr K:=by rw[G];exact(Below.refl _ _).alloc (Nat.le_refl _) _
    have S:Below K.heap.size K M:=by rw[J];exact(Below.refl _ _).alloc (Nat.le_refl _) _
    have CC:Below wr.heap.size wr M:=af Y S;have HB:Hid (Cs M wr.heap.size [.string na,.slice ua j.length uc,.int .i64 z,.slice xa y.length xc]):=((by rw[G];exact Cs.new wr [.string na,.slice ua j.length uc,.int .i64 z,.slice xa y.length xc] _:Cs K wr.heap.size [.string na,.slice ua j.length uc,.int .i64 z,.slice xa y.length xc]).below S:Cs M wr.heap.size _)
    have HN:=hid (show Cs M (wr.heap.size+1) [.string na]from by rw[←sx,J];exact Cs.new K [.string na] _);have X:=hid (show(wr.alloc (.cells #[.string na,.slice ua j.length uc,.int .i64 z,.slice xa y.length xc] 92)).alloc (.cells #[.string na] 9)=M from by rw[J,G]);clear G J Y S sx;go_wp2_with fail;rw[X.out];clear X c0 c1 c2 c3
    refine(kj [na] (wr.heap.size+1) 0 1 M HN.out.lt (fun i hi=>by
     match i,hi with
     |0,_=>show na.size≤_;have:na.size≤150000000000000:=HZ.out.1;omega) (by simp) (fun i hi=>by
     match i,hi with
     |0,_=>exact HN.out.cell 0 rfl)).mono ?_
    rintro e w1 ⟨rfl,C3⟩;have U:=af CC C3;have E:=af d U;have P:=hid (HB.out.below C3);by_cases O:bf [na]=0
    · have Q:=hid (show bd ⟨na,⟨j,z,y⟩⟩=bo ⟨j,z,y⟩from by rw[bd,if_neg (fun x=>x O)])
      have c1:=P.out.cell 1 rfl;have c2:=P.out.cell 2 rfl;have c3:=P.out.cell 3 rfl;rw[O];clear O;go_wp2_with fail;refine(xv ⟨j,z,y⟩ _ _ ⟨_,_,rfl,HU.out.below U,HX.out.below U⟩ HZ.out.2.1 HZ.out.2.2).mono ?_
      rintro e w2 ⟨rfl,C9⟩;have F:=af E C9;clear c1 c2 c3;rw[←Q.out];by_cases A:bd ⟨na,⟨j,z,y⟩⟩=0
      · have C7:=hid (I.out A)
        rw[A];clear A f I Q;go_wp2_with fail;go_roundw
        case rel=>exact⟨k+1,by omega,by simp,C7,F⟩
        case measure=>simp[intOf];omega
      · have H:=hid (f.out A)
        have hz:(bd ⟨na,⟨j,z,y⟩⟩==0)=false:=by simpa using A
        have CF:(bd ⟨na,⟨j,z,y⟩⟩ !=0)=true:=by simpa using A
        clear A f I Q;generalize bd ⟨na,⟨j,z,y⟩⟩=r at*;go_wp2_with fail;go_ret;exact⟨by rw[H.out];rfl,F⟩
    · have Q:=hid (show bd ⟨na,⟨j,z,y⟩⟩=bf [na]from by rw[bd,if_pos O])
      have H:=hid (show Hu.cfE L=bf [na]from by rw[←Q.out];exact f.out (by rw[Q.out];exact O));have hz:(bf [na]==0)=false:=by simpa using O
      have CF:(bf [na] !=0)=true:=by simpa using O
      clear Q f I O;generalize bf [na]=r at*;go_wp2_with fail;go_ret;exact⟨by rw[H.out];rfl,E⟩
  · have HA:=hid (show∀i (h:i<L.length),bd L[i]=0 from fun i h=>HP.out i h (by omega))
    go_wp2_with fail;go_loopw [7] (fun i wr=> ∃m:Nat,m≤L.length∧i= .int .i64 ((m:Int)+1)∧Hid (∀i (h:i+1<L.length),i<m→Hu.lt L[i] L[i+1]=true)∧Below w.heap.size w wr) (fun i _=>L.length+2-(intOf i).toNat)
    case atStart=>exact⟨0,Nat.zero_le _,rfl,(fun i _ h=>absurd h (Nat.not_lt_zero _): ∀i (h:i+1<L.length),i<0→Hu.lt L[i] L[i+1]=true),d⟩
    case round=>
     clear d;obtain⟨m,hm,rfl,HR,d⟩:=hrel
     by_cases N:m+1<L.length
     · obtain⟨b,o,rfl,hb,he⟩:=HL.out m (by omega)
       obtain⟨c0,_⟩:=he.below hb d
       obtain⟨b',o',C4,CJ,C5⟩:=HL.out (m+1) N
       obtain⟨rfl,rfl⟩:b=b'∧o=o':=by simpa using C4
       obtain⟨d0,_⟩:=C5.below hb d
       have CH:(m:Int)+1<L.length:=by omega
       clear C4 he C5;cases V:Hu.lt L[m] L[m+1]with
       |true=>
        have CE:Op.bytesLess (L[m]).na.toList (L[m+1]).na.toList=true:=V
        have C6:=hid (show∀i (h:i+1<L.length),i<m+1→Hu.lt L[i] L[i+1]=true from fun i h1 h2=>by
         by_cases e:i=m
         · subst e;exact V
         · exact HR.out i h1 (by omega))
        clear V;go_wp2_with fail;go_region
        go_wp2;go_roundw
        case rel=>exact⟨m+1,by omega,by simp,C6,d.drew⟩
        case measure=>simp[intOf];omega
       |false=>
        have CE:Op.bytesLess (L[m]).na.toList (L[m+1]).na.toList=false:=V;have H:=hid (rk H8.out HA.out N V);clear V;go_wp2_with fail;go_region
        go_wp2;go_ret;exact⟨by rw[H.out];rfl,d.drew⟩
     · have H:=hid (show Hu.cfE L=0 from rm H8.out HA.out fun i h=>HR.out i h (by omega))
       go_wp2_with fail;go_ret;exact⟨by rw[H.out];rfl,d⟩
theorem bt.nb {W u:World} {v:Value} {L:List Gr} {g:Nat} (h:bt W v L) (y:W.grownBy u (some g)) (H:cy W g):bt u v L:=by
 obtain⟨a,f,I,z,A,E⟩:=h
 refine⟨a,f,I,z,A,fun i G=>?_⟩
 obtain⟨b,o,F,hb,d⟩:=E i G
 have j:b≠g:=fun e=>H _ _ (e▸d.1)
 have c:=fw y hb j;exact⟨b,o,F,Nat.lt_of_lt_of_le hb y.size,(c _).trans d.1,(c _).trans d.2.1,(c _).trans d.2.2⟩
theorem dt.nb {W z:World} {v:Value} {L:List Sh} {g:Nat} (h:dt W v L) (d:W.grownBy z (some g)) (j:cy W g):dt z v L:=by
 obtain⟨a,f,N,H,I,J⟩:=h
 refine⟨a,f,N,H,I,fun i M=>?_⟩
 obtain⟨b,o,K,hb,aP,u,x,ay,A,E,F,G⟩:=J i M
 have y:b≠g:=fun e=>j _ _ (e▸aP)
 have c:=fw d hb y;exact⟨b,o,K,Nat.lt_of_lt_of_le hb d.size,(c _).trans aP,u,x,(c _).trans ay,(c _).trans A,(c _).trans E,F.nb d j,G.nb d j⟩
def Hu.told (L:List Sh) (G:List Gr):List Co:=G.map fun g=>⟨f9 L g.fo,g.fo,[]⟩
def cA (L:List Sh) (G:List Gr):Int:=if(G.all fun g=>bS L g.fo)=true then(if Maps.size (Jn.D (Hu.told L G))<L.length then 5 else 0)else 5
theorem rS {L:List Sh} {G:List Gr} {k:Nat} (d:k<G.length) (h:bS L G[k].fo=false):cA L G=5:=by
 rw[cA,if_neg];intro a;have:=List.all_eq_true.1 a G[k] (List.getElem_mem d)
 rw[h]at this;cases this
theorem yR {L:List Sh} {G:List Gr} (h: ∀m (h:m<G.length),bS L G[m].fo=true):cA L G=if Maps.size (Jn.D (Hu.told L G))<L.length then 5 else 0:=by
 rw[cA,if_pos];refine List.all_eq_true.2 fun g a=>?_
 obtain⟨m,d,rfl⟩:=List.getElem_of_mem a
 exact h m d
theorem yS {L:List Sh} {G:List Gr} {k:Nat} (a:k<G.length):Jn.D ((Hu.told L G).take (k+1))=(Jn.D ((Hu.told L G).take k)).put (Jn.key G[k].fo) (Jn.num (f9 L G[k].fo)):=by
 have h:=qw (l:=Hu.told L G) (k:=k) (by simpa[Hu.told]using a);simpa[Hu.told]using h
theorem yT (L:List Sh) (G:List Gr) (vf vg ag:Value) (nx la ro now:Int) (g d:Nat) (w:World) (A:Cs w g [vf,vg,ag,.int .i64 nx,.int .i64 la,.int .i64 ro,.int .i64 now,.map (some d)]) (hm:w.ownsMap prog 9 (plainElem prog 3) d 0 (.map []:DataW Unit)) (C3:g≠d)
    (hf:dt w vf L) (hg:bt w vg G) (hs:gZ G) (hr:dz L=true) (h8:L.length≤8) (CP:G.length≤60):
    Calls prog 90 #[.pointer (some ⟨g,0,none⟩)] w fun e w'=>e= .returned (.int .i64 (cA L G))∧w.grownBy w' (some d)∧(cA L G=0→w'.ownsMap prog 9 (plainElem prog 3) d G.length (Jn.D (Hu.told L G))):=by
 have HX:=hid A;have HF:=hid hf;have HS:=hid hs;have HR:=hid hr;have HM:=hid hm;have P:Hid (cy w d):=mL hm;have CQ:=A.lt;have CR:=hm.lt;obtain⟨fa,fc,rfl,_⟩:=hf
 obtain⟨a,CO,rfl,CM,CG,V⟩:=hg
 have HL:Hid (∀i (h:i<G.length),∃b o,a=some ⟨b,o,none⟩∧b<w.heap.size∧dQ w b (o+i*3) G[i]):=V;have p1:=A.cell 1 rfl;clear V A hs hr hm;go_enter func90,ntmps90
 go_wp2_with fail;go_loopw [13] (fun i wr=> ∃k:Nat,k≤G.length∧i= .int .i64 k∧Hid (wr.ownsMap prog 9 (plainElem prog 3) d k (Jn.D ((Hu.told L G).take k)))∧Hid (∀m (h:m<G.length),m<k→bS L G[m].fo=true)∧Hid (w.grownBy wr (some d))) (fun i _=>G.length-(intOf i).toNat)
 case atStart=>exact⟨0,Nat.zero_le _,rfl,HM,(fun m _ h=>absurd h (Nat.not_lt_zero _): ∀m (h:m<G.length),m<0→bS L G[m].fo=true),Nb.refl w d⟩
 case round=>
  obtain⟨k,hk,rfl,HD,HP,N⟩:=hrel
  clear p1;by_cases E:k<G.length
  · obtain⟨b,o,rfl,hb,Z⟩:=HL.out k E
    have X:b≠d:=fun e=>P.out _ _ (e▸Z.1)
    have cc:=fw N.out hb X;have c0:=(cc _).trans Z.1;have c1:=(cc _).trans Z.2.1;have c2:=(cc _).trans Z.2.2;have HZ:=hid (HS.out G[k] (List.getElem_mem E));have j:=hid (show bS L G[k].fo=false→cA L G=5 from fun h=>rS E h)
    have J:=hid (show bS L G[k].fo=true→ ∀m (h:m<G.length),m<k+1→bS L G[m].fo=true from fun h0 m h1 h2=>by
     by_cases e:m=k
     · subst e;exact h0
     · exact HP.out m h1 (by omega))
    have S:=hid (yS (L:=L) E);have CF:=hid (show f9 L G[k].fo≤L.length from List.findIdx_le_length);clear Z cc;generalize G[k]=x at*;obtain⟨fo,wh,ri⟩:=x
    simp only at c0 c1 c2;have CT:=N.out.size;obtain⟨M,F⟩: ∃M,M=wr.alloc (.cells #[.string fo,.string wh,.int .i64 ri] 97):=⟨_,rfl⟩
    have Y:Below wr.heap.size wr M:=by rw[F];exact(Below.refl _ _).alloc (Nat.le_refl _) _
    have HB:=hid (show Cs M wr.heap.size [.string fo,.string wh,.int .i64 ri]from by rw[F];exact Cs.new wr [.string fo,.string wh,.int .i64 ri] _);have K:=hid (show w.grownBy M (some d)from Nb.trans N.out (Nb.below d Y));have U:=hid (HX.out.nb K.out C3);have C7:=hid (HF.out.nb K.out P.out);have y0:=HB.out.cell 0 rfl;go_wp2_with fail;rw[←F];clear F c0 c1 c2;refine(yy L _ fo g M (U.out.cell 0 rfl) C7.out HR.out h8).mono ?_
    rintro e w1 ⟨rfl,z⟩;have O:=hid (show w.grownBy w1 (some d)from Nb.trans K.out (Nb.below d z));have y:=hid (U.out.below z);have C4:=hid (HB.out.below z);have f:=af Y z;have C5:=hid (show w1.ownsMap prog 9 (plainElem prog 3) d k (Jn.D ((Hu.told L G).take k))from HD.out.kept (row:=none) ⟨f.os,f.tape,f.output,f.size,fun k hk _=>f.block k hk⟩ (by simp));clear y0;cases hi:bS L fo with
    |false=>
     have I:=hid (j.out hi);clear hi j J;go_wp2_with fail;go_ret;exact⟨by rw[I.out];rfl,O.out,fun h=>by rw[I.out]at h;cases h⟩
    |true=>
     have CE:=hid (J.out hi);obtain⟨p,hp⟩: ∃p,p=f9 L fo:=⟨_,rfl⟩
     rw[←hp];have T:=hid (show Jn.D ((Hu.told L G).take (k+1))=(Jn.D ((Hu.told L G).take k)).put (Jn.key fo) (Jn.num p)from by rw[hp];exact S.out);have CS:p≤L.length:=by rw[hp];exact CF.out
     have CJ:(Lit.int .i64 (p:Int)).wf=true:=qN (by omega) (by omega);have CH:fo.size≤maxLen:=by have:fo.size≤150000000000000:=HZ.out.1;unfold maxLen;omega
     have CI:k<maxLen:=by unfold maxLen;omega
     obtain⟨w6,CK,u,H⟩:=C5.out.drew.update (string_keyed underlying9) underlying156 CI (keyOf_string_mk underlying9 CH) (plainElem_int underlying3 CJ)
     have CC:=hid u;have C8:=hid H;have y0:=C4.out.cell 0 rfl;have x7:=y.out.cell 7 rfl;clear u H hp hi j J S;go_wp2_with fail;go_region
     have C9:=hid (show w.grownBy w6 (some d)from Nb.trans (Nb.trans O.out (Nb.below d (Below.refl _ _).drew)) C8.out);have CD:=hid (show w6.ownsMap prog 9 (plainElem prog 3) d (k+1) (Jn.D ((Hu.told L G).take (k+1)))from by rw[T.out];exact CC.out);go_wp2_with fail;go_roundw
     case rel=>exact⟨k+1,by omega,by simp,CD,CE,C9⟩
     case measure=>simp[intOf];omega
  · obtain rfl:k=G.length:=by omega
    have HA:=hid (yR fun m h=>HP.out m h h);have hT:(Hu.told L G).take G.length=Hu.told L G:=List.take_of_length_le (by simp[Hu.told]);rw[hT]at HD;clear hT;have y:=hid (HX.out.nb N.out C3);have x7:=y.out.cell 7 rfl;have x0:=y.out.cell 0 rfl;have CN:=fun ty=>HD.out.drew.len underlying156 ty
    have Q:=hid (show w.grownBy _ (some d)from Nb.trans N.out (Nb.below d (Below.refl _ _).drew));have C6:=hid HD.out.drew;by_cases hz:Maps.size (Jn.D (Hu.told L G))<L.length
    · have I:=hid (show cA L G=5 from by rw[HA.out,if_pos hz])
      have CL:(Maps.size (Jn.D (Hu.told L G)):Int)<L.length:=by omega
      generalize Maps.size (Jn.D (Hu.told L G))=q at*;go_wp2_with fail;go_region
      go_wp2_with fail;go_ret;exact⟨by rw[I.out];rfl,Q.out,fun h=>by rw[I.out]at h;cases h⟩
    · have I:=hid (show cA L G=0 from by rw[HA.out,if_neg hz])
      have CL: ¬(Maps.size (Jn.D (Hu.told L G)):Int)<L.length:=by omega
      generalize Maps.size (Jn.D (Hu.told L G))=q at*;go_wp2_with fail;go_region
      go_wp2_with fail;go_ret;exact⟨by rw[I.out];rfl,Q.out,fun _=>C6.out⟩
theorem bR.nb {W u:World} {v:Value} {L:List Se} {g:Nat} (h:bR W v L) (y:W.grownBy u (some g)) (H:cy W g):bR u v L:=by
 obtain⟨a,f,I,z,A,E⟩:=h
 refine⟨a,f,I,z,A,fun i G=>?_⟩
 obtain⟨b,o,F,hb,d⟩:=E i G
 have j:b≠g:=fun e=>H _ _ (e▸d.2.1)
 have c:=fw y hb j;exact⟨b,o,F,Nat.lt_of_lt_of_le hb y.size,(c _).trans d.1,(c _).trans d.2.1,(c _).trans d.2.2.1,(c _).trans d.2.2.2.1,(c _).trans d.2.2.2.2⟩
def ae (H:Hb):Int:=if H.now<0∨1099511627776<H.now then 3 else if¬Hu.cfE H.fos=0 then Hu.cfE H.fos else if¬aY H.gs=0 then aY H.gs else if¬cA H.fos H.gs=0 then cA H.fos H.gs else aZ H.ss H.nx H.la H.ro
theorem kD {H:Hb} (h:H.now<0∨1099511627776<H.now):ae H=3:=by rw[ae,if_pos h]
theorem oj {H:Hb} (h: ¬(H.now<0∨1099511627776<H.now)) (a: ¬Hu.cfE H.fos=0):ae H=Hu.cfE H.fos:=by rw[ae,if_neg h,if_pos a]
theorem om {H:Hb} (h: ¬(H.now<0∨1099511627776<H.now)) (a:Hu.cfE H.fos=0) (d: ¬aY H.gs=0):ae H=aY H.gs:=by rw[ae,if_neg h,if_neg (fun x=>x a),if_pos d]
theorem on {H:Hb} (h: ¬(H.now<0∨1099511627776<H.now)) (a:Hu.cfE H.fos=0) (d:aY H.gs=0) (e: ¬cA H.fos H.gs=0):ae H=cA H.fos H.gs:=by rw[ae,if_neg h,if_neg (fun x=>x a),if_neg (fun x=>x d),if_pos e]
theorem lP {H:Hb} (h: ¬(H.now<0∨1099511627776<H.now)) (a:Hu.cfE H.fos=0) (d:aY H.gs=0) (e:cA H.fos H.gs=0):ae H=aZ H.ss H.nx H.la H.ro:=by rw[ae,if_neg h,if_neg (fun x=>x a),if_neg (fun x=>x d),if_neg (fun x=>x e)]
theorem yU {H:Hb} (h:ae H=0): ¬(H.now<0∨1099511627776<H.now)∧Hu.cfE H.fos=0∧aY H.gs=0∧cA H.fos H.gs=0∧aZ H.ss H.nx H.la H.ro=0:=by
 by_cases a:H.now<0∨1099511627776<H.now
 · rw[kD a]at h;cases h
 · by_cases b:Hu.cfE H.fos=0
   · by_cases c:aY H.gs=0
     · by_cases d:cA H.fos H.gs=0
       · rw[lP a b c d]at h;exact⟨a,b,c,d,h⟩
       · rw[on a b c d]at h;exact absurd h d
     · rw[om a b c]at h;exact absurd h c
   · rw[oj a b]at h;exact absurd h b
theorem kE {L:List Sh} (h:Hu.cfE L=0):L.length≤8∧gH L=0∧dz L=true:=by
 rw[Hu.cfE]at h;by_cases a:8<L.length
 · rw[if_pos a]at h;cases h
 · rw[if_neg a]at h
   by_cases b:gH L=0
   · rw[if_neg (fun x=>x b)]at h
     cases c:dz L with
     |true=>exact⟨by omega,b,rfl⟩
     |false=>rw[c]at h;simp at h
   · rw[if_pos b]at h;exact absurd h b
theorem yV {s:Sh} (h:bd s=0):bf [s.na]=0∧bo s.jo=0:=by
 rw[bd]at h;by_cases a:bf [s.na]=0
 · rw[if_neg (fun x=>x a)]at h;exact⟨a,h⟩
 · rw[if_pos a]at h;exact absurd h a
theorem rT {L:List Sh} (h:Hu.cfE L=0) {s:Sh} (d:s∈L):bf [s.na]=0∧bo s.jo=0:=by
 obtain⟨i,a,rfl⟩:=List.getElem_of_mem d
 exact yV (nZ.1 (kE h).2.1 i a)
theorem rU {J:Jo} (h:bo J=0):J.cos.length≤1000∧J.base.length≤1000∧ ∀c∈J.cos,c.ch.length≤1000000000:=by
 obtain⟨a,_,e,_⟩:=qu h
 have f:=((gx _).1 a).len;exact⟨by omega,by omega,fun c d=>by have:=xn h c d;omega⟩
def Sv (B:Nat) (w:World) (g mb:Nat) (vf vg ag:Value) (H:Hb):Prop:=Cs w g [vf,vg,ag,.int .i64 H.nx,.int .i64 H.la,.int .i64 H.ro,.int .i64 H.now,.map (some mb)]∧dU B w vf H.fos∧(bt w vg H.gs∧Fr B vg)∧(bR w ag H.ss∧Fr B ag)∧(∀b,vf.ownBlock=some b→Fr (b+1) vg∧Fr (b+1) ag)∧Rm w vf
def gK (w:World) (mb n:Nat) (H:Hb):Prop:=w.ownsMap prog 9 (plainElem prog 3) mb n (Jn.D (Hu.told H.fos H.gs))
theorem Sv.below {B:Nat} {w w':World} {g d:Nat} {e f ag:Value} {H:Hb} (h:Sv B w g d e f ag H) (a:Below w.heap.size w w'):Sv B w' g d e f ag H:=by
 obtain⟨j,o,⟨u,y⟩,⟨z,A⟩,E,F⟩:=h
 exact⟨j.below a,o.below a,⟨u.below a,y⟩,⟨z.below a,A⟩,E,F.below a⟩
theorem gK.below {w w':World} {d n:Nat} {H:Hb} (h:gK w d n H) (a:Below w.heap.size w w'):gK w' d n H:=
 World.ownsMap.kept (row:=none) h ⟨a.os,a.tape,a.output,a.size,fun k e _=>a.block k e⟩ (by simp)
theorem gK.nb {w w':World} {d n g:Nat} {H:Hb} (h:gK w d n H) (f:w.grownBy w' (some g)) (a:d≠g):gK w' d n H:=
 World.ownsMap.kept (row:=some g) h f (fun e=>a (by injection e))
theorem yW (H:Hb) (v:Value) (w:World) (hv:cp w v H) (hs:hU H):
    Calls prog 44 #[v] w fun e w'=> ∃p,e= .returned (.tuple #[p,.int .i64 (ae H)])∧(ae H=0→p= .pointer (some ⟨w.heap.size+1+1,0,none⟩)∧ ∃B vf vg ag,w.heap.size+1+1+1≤B∧B≤w'.heap.size∧Sv B w' (w.heap.size+1+1) (w.heap.size+1) vf vg ag H∧gK w' (w.heap.size+1) H.gs.length H)∧(¬ae H=0→p= .pointer none)∧Below w.heap.size w w':=by
 obtain⟨fos,gs,ss,nx,la,ro,now⟩:=H
 have HV:=hid hv;obtain⟨vf,vg,ag,rfl,lf,lg,aG⟩:=hv
 simp only at lf lg aG;obtain⟨sf,sg,CM⟩:=hs
 simp only at sf sg CM;have CE:=hid lf;have CF:=hid lg;have Df:=hid aG;have Dk:=hid sf;have CV:=hid sg;have Dm:=hid CM;obtain⟨T,U,rfl,_⟩:=lf
 obtain⟨V,X,rfl,_⟩:=lg
 obtain⟨Y,Z,rfl,_⟩:=aG
 clear sf sg CM;have Du:=Tryz.makeNumbers;obtain⟨wa,O⟩: ∃wa,wa=w.alloc (.cells #[.slice T fos.length U,.slice V gs.length X,.slice Y ss.length Z,.int .i64 nx,.int .i64 la,.int .i64 ro,.int .i64 now] 28):=⟨_,rfl⟩
 obtain⟨wb,P⟩: ∃wb,wb=wa.alloc (.map #[] 0):=⟨_,rfl⟩
 obtain⟨S,Q⟩: ∃S,S=wb.alloc (.cells #[.slice T fos.length U,.slice V gs.length X,.slice Y ss.length Z,.int .i64 nx,.int .i64 la,.int .i64 ro,.int .i64 now,.map (some (w.heap.size+1))] 158):=⟨_,rfl⟩
 have C7:wa.heap.size=w.heap.size+1:=by rw[O];simp
 have Dd:wb.heap.size=w.heap.size+1+1:=by rw[P];simp[C7]
 have D3:Below w.heap.size w wa:=by rw[O];exact(Below.refl _ _).alloc (Nat.le_refl _) _
 have CH:Below wa.heap.size wa wb:=by rw[P];exact(Below.refl _ _).alloc (Nat.le_refl _) _
 have CI:Below wb.heap.size wb S:=by rw[Q];exact(Below.refl _ _).alloc (Nat.le_refl _) _
 have C4:Below w.heap.size w S:=af D3 (af CH CI);have HX:Hid (Cs S w.heap.size [.slice T fos.length U,.slice V gs.length X,.slice Y ss.length Z,.int .i64 nx,.int .i64 la,.int .i64 ro,.int .i64 now]):=(((by rw[O];exact Cs.new w [.slice T fos.length U,.slice V gs.length X,.slice Y ss.length Z,.int .i64 nx,.int .i64 la,.int .i64 ro,.int .i64 now] _:Cs wa w.heap.size [.slice T fos.length U,.slice V gs.length X,.slice Y ss.length Z,.int .i64 nx,.int .i64 la,.int .i64 ro,.int .i64 now]).below CH).below CI:Cs S w.heap.size _)
 have HY:Hid (Cs S (w.heap.size+1+1) [.slice T fos.length U,.slice V gs.length X,.slice Y ss.length Z,.int .i64 nx,.int .i64 la,.int .i64 ro,.int .i64 now,.map (some (w.heap.size+1))]):=(by rw[←Dd,Q];exact Cs.new wb [.slice T fos.length U,.slice V gs.length X,.slice Y ss.length Z,.int .i64 nx,.int .i64 la,.int .i64 ro,.int .i64 now,.map (some (w.heap.size+1))] _:Cs S (w.heap.size+1+1) _)
 have HM:=hid (show S.ownsMap prog 9 (plainElem prog 3) (w.heap.size+1) 0 (.map []:DataW Unit)from by
  have h:=(World.ownsMap_made wa prog 9 (plainElem (H:=Unit) prog 3)).alloc (.cells #[.slice T fos.length U,.slice V gs.length X,.slice Y ss.length Z,.int .i64 nx,.int .i64 la,.int .i64 ro,.int .i64 now,.map (some (w.heap.size+1))] 158);rw[Q,P,←C7];exact(C7▸h))
 have Dt:w.heap.size+1+1<S.heap.size:=HY.out.lt;have CD:(((w.alloc (.cells #[.slice T fos.length U,.slice V gs.length X,.slice Y ss.length Z,.int .i64 nx,.int .i64 la,.int .i64 ro,.int .i64 now] 28)).alloc (.map #[] 0)).alloc (.cells #[.slice T fos.length U,.slice V gs.length X,.slice Y ss.length Z,.int .i64 nx,.int .i64 la,.int .i64 ro,.int .i64 now,.map (some (w.heap.size+1))] 158))=S:=by rw[Q,P,O]
 have CX:=hid CD;clear O P Q D3 CH CI C7 Dd CD;go_enter func44,ntmps44
 go_upto_region 2 with fail;rw[CX.out];clear CX;have p6:=HY.out.cell 6 rfl;have p0:=HY.out.cell 0 rfl;by_cases D8:now<0
 · have j:=hid (show ae ⟨fos,gs,ss,nx,la,ro,now⟩=3 from kD (Or.inl D8))
   go_wp2_with fail;go_ret2;exact⟨_,by rw[j.out];rfl,(fun h=>by rw[j.out]at h;cases h),(fun _=>rfl),C4⟩
 by_cases D9:1099511627776<now
 · have j:=hid (show ae ⟨fos,gs,ss,nx,la,ro,now⟩=3 from kD (Or.inr D9))
   go_wp2_with fail;go_ret2;exact⟨_,by rw[j.out];rfl,(fun h=>by rw[j.out]at h;cases h),(fun _=>rfl),C4⟩
 have I:=hid (show¬(now<0∨1099511627776<now)from fun x=>x.elim D8 D9);go_wp2_with fail;refine(yQ fos _ _ (CE.out.below C4) Dk.out).mono ?_
 rintro e w1 ⟨rfl,M⟩;have K:=af C4 M;have CY:=hid (HY.out.below M);have Do:=hid (HX.out.below M);have Dv:=M.size;clear p0 p6;by_cases a: ¬(Hu.cfE fos=0)
 · skip
   have hz:(Hu.cfE fos==0)=false:=by simpa using a
   have CL:(Hu.cfE fos !=0)=true:=by simpa using a
   have j:=hid (oj (H:=⟨fos,gs,ss,nx,la,ro,now⟩) I.out a);have H0:=hid a;clear a;generalize Hu.cfE fos=rr at*;go_wp2_with fail;go_ret2;exact⟨_,by rw[j.out];rfl,(fun h=>absurd (j.out▸h) H0.out),(fun _=>rfl),K⟩
 replace a:=Decidable.not_not.1 a;have o:=hid a;rw[a];clear a;have p1:=CY.out.cell 1 rfl;go_wp2_with fail;refine(nT gs _ _ (CF.out.below K) CV.out).mono ?_
 rintro e w2 ⟨rfl,N⟩;have f:=af K N;have CZ:=hid (CY.out.below N);have Dp:=hid (Do.out.below N);have Dw:=N.size;clear p1;by_cases a: ¬(aY gs=0)
 · skip
   have hz:(aY gs==0)=false:=by simpa using a
   have CL:(aY gs !=0)=true:=by simpa using a
   have j:=hid (om (H:=⟨fos,gs,ss,nx,la,ro,now⟩) I.out o.out a);have H0:=hid a;clear a;generalize aY gs=rr at*;go_wp2_with fail;go_ret2;exact⟨_,by rw[j.out];rfl,(fun h=>absurd (j.out▸h) H0.out),(fun _=>rfl),f⟩
 replace a:=Decidable.not_not.1 a;have G:=hid a;rw[a];clear a;have y:=af M N;have CQ:=hid (show w2.ownsMap prog 9 (plainElem prog 3) (w.heap.size+1) 0 (.map []:DataW Unit)from HM.out.kept (row:=none) ⟨y.os,y.tape,y.output,y.size,fun k hk _=>y.block k hk⟩ (by simp));have CG:Hid (cy w2 (w.heap.size+1)):=mL CQ.out;go_wp2_with fail;refine(yT fos gs _ _ _ nx la ro now (w.heap.size+1+1) (w.heap.size+1) _ CZ.out CQ.out (by omega) (CE.out.below f) (CF.out.below f) CV.out (kE o.out).2.2 (kE o.out).1 (lF G.out).1).mono ?_
 rintro e w3 ⟨rfl,A,D7⟩;have CR:=hid D7;have C9:Below w.heap.size w w3:=f.grown A (by omega) (fun k hk=>by injection hk with hk;omega);have J:=hid (CZ.out.nb A (by omega));have Dq:=hid (Dp.out.nb A (by omega));have CO:=hid ((CE.out.below f).nb A CG.out);have CP:=hid ((CF.out.below f).nb A CG.out);have C8:=hid ((Df.out.below f).nb A CG.out);have Dx:=A.size;clear D7;by_cases a: ¬(cA fos gs=0)
 · skip
   have hz:(cA fos gs==0)=false:=by simpa using a
   have CL:(cA fos gs !=0)=true:=by simpa using a
   have j:=hid (on (H:=⟨fos,gs,ss,nx,la,ro,now⟩) I.out o.out G.out a);have H0:=hid a;clear a;generalize cA fos gs=rr at*;go_wp2_with fail;go_ret2;exact⟨_,by rw[j.out];rfl,(fun h=>absurd (j.out▸h) H0.out),(fun _=>rfl),C9⟩
 replace a:=Decidable.not_not.1 a;have CW:=hid a;have Dg:=hid (CR.out a);rw[a];clear a CR;have bP:=J.out.cell 2 rfl;have q3:=J.out.cell 3 rfl;have q4:=J.out.cell 4 rfl;have q5:=J.out.cell 5 rfl;go_wp2_with fail;refine(qf ss _ nx la ro _ C8.out Dm.out).mono ?_
 rintro e w4 ⟨rfl,u⟩;have CC:=af C9 u;have Dr:=hid (J.out.below u);have z:=hid (Dq.out.below u);have Dy:=u.size;clear bP q3 q4 q5;by_cases a: ¬(aZ ss nx la ro=0)
 · skip
   have hz:(aZ ss nx la ro==0)=false:=by simpa using a
   have CL:(aZ ss nx la ro !=0)=true:=by simpa using a
   have j:=hid (by have:=lP (H:=⟨fos,gs,ss,nx,la,ro,now⟩) I.out o.out G.out CW.out;exact this:ae ⟨fos,gs,ss,nx,la,ro,now⟩=aZ ss nx la ro);have H0:=hid a;clear a;generalize aZ ss nx la ro=rr at*;go_wp2_with fail;go_ret2;exact⟨_,by rw[j.out];rfl,(fun h=>absurd (j.out▸h) H0.out),(fun _=>rfl),CC⟩
 replace a:=Decidable.not_not.1 a;have j:=hid (show ae ⟨fos,gs,ss,nx,la,ro,now⟩=0 from by rw[lP (H:=⟨fos,gs,ss,nx,la,ro,now⟩) I.out o.out G.out CW.out];exact a);have Dl:Hid (ss.length≤20):=(lo (qV a).1).1;rw[a];clear a;have x0:=z.out.cell 0 rfl;have aD:=z.out.cell 1 rfl;have x2:=z.out.cell 2 rfl;have x3:=z.out.cell 3 rfl;have x4:=z.out.cell 4 rfl;have x5:=z.out.cell 5 rfl;have x6:=z.out.cell 6 rfl;go_wp2_with fail;refine(rN ⟨fos,gs,ss,nx,la,ro,now⟩ _ _ ⟨_,_,_,rfl,CO.out.below u,CP.out.below u,C8.out.below u⟩ (by have:=(kE o.out).1;simp only;omega) (fun s hs=>rU (rT o.out hs).2) (by have:=(lF G.out).1;simp only;omega) (by have:=Dl.out;simp only;omega)).mono ?_
 rintro e w5 ⟨uf,ug,us,rfl,C5,⟨CJ,Da⟩,⟨CK,Db⟩,D4,Dc,C3⟩;have Di:=hid Dc;clear Dc;simp only at C5 CJ CK;have CS:=hid C5;have De:=hid CJ;have CT:=hid Da;have Dj:=hid CK;have CU:=hid Db;have CN:=hid D4;have d:=hid (Dr.out.below C3);have Dz:=C3.size;have D5:=af CC C3;obtain⟨ua,uc,rfl,_⟩:=C5.lies
 obtain⟨xa,xc,rfl,_⟩:=CJ
 obtain⟨ya,yc,rfl,_⟩:=CK
 clear C5 Da Db D4 x0 aD x2 x3 x4 x5 x6;obtain⟨w6,C6⟩: ∃w6,w6=(((((((w5.setCell ⟨w.heap.size+1+1,0,none⟩ (.slice ua fos.length uc)).setCell ⟨w.heap.size+1+1,1,none⟩ (.slice xa gs.length xc)).setCell ⟨w.heap.size+1+1,2,none⟩ (.slice ya ss.length yc)).setCell ⟨w.heap.size+1+1,3,none⟩ (.int .i64 nx)).setCell ⟨w.heap.size+1+1,4,none⟩ (.int .i64 la)).setCell ⟨w.heap.size+1+1,5,none⟩ (.int .i64 ro)).setCell ⟨w.heap.size+1+1,6,none⟩ (.int .i64 now)):=⟨_,rfl⟩
 have E:w5.grownBy w6 (some (w.heap.size+1+1)):=by rw[C6];exact(aN (aN (aN (aN (aN (aN (au w5 (w.heap.size+1+1) 0 (.slice ua fos.length uc)) (au _ (w.heap.size+1+1) 1 (.slice xa gs.length xc))) (au _ (w.heap.size+1+1) 2 (.slice ya ss.length yc))) (au _ (w.heap.size+1+1) 3 (.int .i64 nx))) (au _ (w.heap.size+1+1) 4 (.int .i64 la))) (au _ (w.heap.size+1+1) 5 (.int .i64 ro))) (au _ (w.heap.size+1+1) 6 (.int .i64 now)))
 have Ds:Hid (Cs w6 (w.heap.size+1+1) [.slice ua fos.length uc,.slice xa gs.length xc,.slice ya ss.length yc,.int .i64 nx,.int .i64 la,.int .i64 ro,.int .i64 now,.map (some (w.heap.size+1))]):=(by rw[C6];exact(((((((d.out.set 0 (.slice ua fos.length uc)).set 1 (.slice xa gs.length xc)).set 2 (.slice ya ss.length yc)).set 3 (.int .i64 nx)).set 4 (.int .i64 la)).set 5 (.int .i64 ro)).set 6 (.int .i64 now)):Cs w6 (w.heap.size+1+1) _)
 have D6:Below w.heap.size w w6:=by rw[C6];exact(kU (b:=w.heap.size+1+1) D5 (by show _≤w.heap.size+1+1;omega))
 have Dh:=hid (show gK w6 (w.heap.size+1) gs.length ⟨fos,gs,ss,nx,la,ro,now⟩from(gK.below (H:=⟨fos,gs,ss,nx,la,ro,now⟩) (gK.below (H:=⟨fos,gs,ss,nx,la,ro,now⟩) Dg.out u) C3).nb E (by omega));have Dn:=hid (show Sv w4.heap.size w6 (w.heap.size+1+1) (w.heap.size+1) (.slice ua fos.length uc) (.slice xa gs.length xc) (.slice ya ss.length yc) ⟨fos,gs,ss,nx,la,ro,now⟩from⟨Ds.out,CS.out.nbo E (by omega),⟨dv.2 ((dv.1 De.out).nbo E (fun x F=>by have:=(CT.out x F).1;omega)),fun x F=>(CT.out x F).1⟩,⟨dG.2 ((dG.1 Dj.out).nbo E (fun x F=>by have:=(CU.out x F).1;omega)),fun x F=>(CU.out x F).1⟩,fun b hb=>⟨fun x F=>((CN.out b hb).1 x F).1,fun x F=>((CN.out b hb).2 x F).1⟩,Di.out.nb E (fun x F=>by obtain⟨_,_,_,ho,_⟩:=CS.out;have:=(ho x F).1;omega)⟩);have p0:=d.out.cell 0 rfl;have f0:=d.out.fr 0;have p1:=d.out.cell 1 rfl;have f1:=d.out.fr 1;have p2:=d.out.cell 2 rfl;have f2:=d.out.fr 2;have p3:=d.out.cell 3 rfl;have f3:=d.out.fr 3;have p4:=d.out.cell 4 rfl;have f4:=d.out.fr 4;have p5:=d.out.cell 5 rfl;have f5:=d.out.fr 5;have p6:=d.out.cell 6 rfl;have f6:=d.out.fr 6;go_wp2_with fail;rw[←C6];go_ret2;exact⟨_,by rw[j.out];rfl,(fun _=>⟨rfl,w4.heap.size,_,_,_,by omega,by have:=E.size;omega,Dn.out,Dh.out⟩),(fun h=>absurd j.out h),D6⟩
end Go.Proofs.YtgamnckfmmbjdaaGreatDoor
