/- What hub.checkFolders answers. -/
import Derived.Test.YtcmlnelpcjfocaaGreatDoorWYW
import Derived.Test.YtcmlnelpcjfocaaGreatDoorWYU
set_option linter.unusedSimpArgs false
set_option linter.unusedVariables false
namespace Go.Proofs.YtcmlnelpcjfocaaGreatDoor
open Go.RowKit Go.Maps Go.WideMaps Go.Proofs.Tryz
set_option maxHeartbeats 4000000
set_option maxRecDepth 100000
theorem DK (L:List Sh) (v:Value) (w:World) (hv:eP w v L) (hs:wI L):
    Calls prog 89 #[v] w fun e w'=>e= .returned (.int .i64 (Hu.cfE L))∧Below w.heap.size w w':=by
 have HS:=hid hs;obtain⟨a,ID,rfl,IB,Iy,I0⟩:=hv
 have HL:Hid (∀i (h:i<L.length),∃b o,a=some ⟨b,o,none⟩∧b<w.heap.size∧i7 w b (o+i*4) L[i]):=I0;clear I0 hs;by_cases h8:8<L.length
 · have I:=hid (show 2=Hu.cfE L from(rK h8).symm)
   have Iv:8<(L.length:Int):=by omega
   go_enter func89,ntmps89
   go_wp2_with fail;go_ret;exact⟨aD I.out,Below.refl _ _⟩
 have H8:=hid h8;have Iv: ¬8<(L.length:Int):=by omega
 go_enter func89,ntmps89
 go_wp2_with fail;go_loopw [13] (fun i wr=> ∃k:Nat,k≤L.length∧i= .int .i64 k∧Hid (∀i (h:i<L.length),i<k→bN L[i]=0)∧Below w.heap.size w wr) (fun i _=>L.length-(intOf i).toNat)
 case atStart=>exact⟨0,Nat.zero_le _,rfl,(fun i _ h=>absurd h (Nat.not_lt_zero _): ∀i (h:i<L.length),i<0→bN L[i]=0),Below.refl _ _⟩
 case round=>
  obtain⟨k,hk,rfl,HP,d⟩:=hrel
  by_cases U:k<L.length
  · obtain⟨b,o,rfl,hb,he⟩:=HL.out k U
    obtain⟨c0,u,x,c1,c2,c3,hu,hx⟩:=he.below hb d
    have HZ:=hid (HS.out L[k] (List.getElem_mem U));have f:=hid (show¬bN L[k]=0→Hu.cfE L=bN L[k]from fun E=>wJ H8.out U HP.out E)
    have J:=hid (show bN L[k]=0→ ∀i (h:i<L.length),i<k+1→bN L[i]=0 from fun E i h1 h2=>by
     by_cases e:i=k
     · subst e;exact E
     · exact HP.out i h1 (by omega))
    clear he;generalize L[k]=s at*;obtain⟨na,⟨y,A,z⟩⟩:=s
    simp only at c0 c1 c2 c3 hu hx;have HU:=hid hu;have HX:=hid hx;obtain⟨ua,uc,rfl,_⟩:=hu
    obtain⟨xa,xc,rfl,_⟩:=hx
    obtain⟨M,H⟩: ∃M,M=wr.alloc (.cells #[.string na,.slice ua y.length uc,.int .i64 A,.slice xa z.length xc] 81):=⟨_,rfl⟩
    obtain⟨N,K⟩: ∃N,N=M.alloc (.cells #[.string na] 9):=⟨_,rfl⟩
    have sx:M.heap.size=wr.heap.size+1:=by rw[H];simp
    have Z:Below wr.heap.size wr M:=by rw[H];exact(Below.refl _ _).alloc (Nat.le_refl _) _
    have T:Below M.heap.size M N:=by rw[K];exact(Below.refl _ _).alloc (Nat.le_refl _) _
    have Ix:Below wr.heap.size wr N:=ag Z T;have HB:Hid (Cs N wr.heap.size [.string na,.slice ua y.length uc,.int .i64 A,.slice xa z.length xc]):=((by rw[H];exact Cs.new wr [.string na,.slice ua y.length uc,.int .i64 A,.slice xa z.length xc] _:Cs M wr.heap.size [.string na,.slice ua y.length uc,.int .i64 A,.slice xa z.length xc]).below T:Cs N wr.heap.size _)
    have HN:=hid (show Cs N (wr.heap.size+1) [.string na]from by rw[←sx,K];exact Cs.new M [.string na] _);have Y:=hid (show(wr.alloc (.cells #[.string na,.slice ua y.length uc,.int .i64 A,.slice xa z.length xc] 81)).alloc (.cells #[.string na] 9)=N from by rw[K,H]);clear H K Z T sx;go_wp2_with fail;rw[Y.out];clear Y c0 c1 c2 c3
    refine(nt [na] (wr.heap.size+1) 0 1 N HN.out.lt (fun i hi=>by
     match i,hi with
     |0,_=>show na.size≤_;have:na.size≤150000000000000:=HZ.out.1;omega) (by simp) (fun i hi=>by
     match i,hi with
     |0,_=>exact HN.out.cell 0 rfl)).mono ?_
    rintro e w1 ⟨rfl,I5⟩;have V:=ag Ix I5;have F:=ag d V;have Q:=hid (HB.out.below I5);by_cases P:bH [na]=0
    · have S:=hid (show bN ⟨na,⟨y,A,z⟩⟩=bq ⟨y,A,z⟩from by rw[bN,if_neg (fun x=>x P)])
      have c1:=Q.out.cell 1 rfl;have c2:=Q.out.cell 2 rfl;have c3:=Q.out.cell 3 rfl;rw[P];clear P;go_wp2_with fail;refine(CH ⟨y,A,z⟩ _ _ ⟨_,_,rfl,HU.out.below V,HX.out.below V⟩ HZ.out.2.1 HZ.out.2.2).mono ?_
      rintro e w2 ⟨rfl,Iw⟩;have G:=ag F Iw;clear c1 c2 c3;rw[←S.out];by_cases E:bN ⟨na,⟨y,A,z⟩⟩=0
      · have I9:=hid (J.out E)
        rw[E];clear E f J S;go_wp2_with fail;go_roundw
        case rel=>exact⟨k+1,by omega,by simp,I9,G⟩
        case measure=>simp[intOf];omega
      · have I:=hid (f.out E)
        have hz:(bN ⟨na,⟨y,A,z⟩⟩==0)=false:=by simpa using E
        have IA:(bN ⟨na,⟨y,A,z⟩⟩ !=0)=true:=by simpa using E
        clear E f J S;generalize bN ⟨na,⟨y,A,z⟩⟩=r at*;go_wp2_with fail;go_ret;exact⟨by rw[I.out];rfl,G⟩
    · have S:=hid (show bN ⟨na,⟨y,A,z⟩⟩=bH [na]from by rw[bN,if_pos P])
      have I:=hid (show Hu.cfE L=bH [na]from by rw[←S.out];exact f.out (by rw[S.out];exact P));have hz:(bH [na]==0)=false:=by simpa using P
      have IA:(bH [na] !=0)=true:=by simpa using P
      clear S f J P;generalize bH [na]=r at*;go_wp2_with fail;go_ret;exact⟨by rw[I.out];rfl,F⟩
  · have HA:=hid (show∀i (h:i<L.length),bN L[i]=0 from fun i h=>HP.out i h (by omega))
    go_wp2_with fail;go_loopw [7] (fun i wr=> ∃m:Nat,m≤L.length∧i= .int .i64 ((m:Int)+1)∧Hid (∀i (h:i+1<L.length),i<m→Hu.lt L[i] L[i+1]=true)∧Below w.heap.size w wr) (fun i _=>L.length+2-(intOf i).toNat)
    case atStart=>exact⟨0,Nat.zero_le _,rfl,(fun i _ h=>absurd h (Nat.not_lt_zero _): ∀i (h:i+1<L.length),i<0→Hu.lt L[i] L[i+1]=true),d⟩
    case round=>
     clear d;obtain⟨m,hm,rfl,HR,d⟩:=hrel
     by_cases O:m+1<L.length
     · obtain⟨b,o,rfl,hb,he⟩:=HL.out m (by omega)
       obtain⟨c0,_⟩:=he.below hb d
       obtain⟨b',o',I6,IE,I7⟩:=HL.out (m+1) O
       obtain⟨rfl,rfl⟩:b=b'∧o=o':=by simpa using I6
       obtain⟨d0,_⟩:=I7.below hb d
       have IC:(m:Int)+1<L.length:=by omega
       clear I6 he I7;cases X:Hu.lt L[m] L[m+1]with
       |true=>
        have Iz:Op.bytesLess (L[m]).na.toList (L[m+1]).na.toList=true:=X
        have I8:=hid (show∀i (h:i+1<L.length),i<m+1→Hu.lt L[i] L[i+1]=true from fun i h1 h2=>by
         by_cases e:i=m
         · subst e;exact X
         · exact HR.out i h1 (by omega))
        clear X;go_wp2_with fail;go_region
        go_wp2;go_roundw
        case rel=>exact⟨m+1,by omega,by simp,I8,d.drew⟩
        case measure=>simp[intOf];omega
       |false=>
        have Iz:Op.bytesLess (L[m]).na.toList (L[m+1]).na.toList=false:=X;have I:=hid (wK H8.out HA.out O X);clear X;go_wp2_with fail;go_region
        go_wp2;go_ret;exact⟨by rw[I.out];rfl,d.drew⟩
     · have I:=hid (show Hu.cfE L=0 from wL H8.out HA.out fun i h=>HR.out i h (by omega))
       go_wp2_with fail;go_ret;exact⟨by rw[I.out];rfl,d⟩
theorem cD.nb {W z:World} {v:Value} {L:List Gr} {g:Nat} (h:cD W v L) (A:W.grownBy z (some g)) (J:dx W g):cD z v L:=by
 obtain⟨a,f,K,E,F,G⟩:=h
 refine⟨a,f,K,E,F,fun i I=>?_⟩
 obtain⟨b,o,H,hb,d⟩:=G i I
 have y:b≠g:=fun e=>J _ _ (e▸d.1)
 have c:=ir A hb y;exact⟨b,o,H,Nat.lt_of_lt_of_le hb A.size,(c _).trans d.1,(c _).trans d.2.1,(c _).trans d.2.2⟩
theorem eP.nb {W A:World} {v:Value} {L:List Sh} {g:Nat} (h:eP W v L) (d:W.grownBy A (some g)) (y:dx W g):eP A v L:=by
 obtain⟨a,f,O,I,J,K⟩:=h
 refine⟨a,f,O,I,J,fun i N=>?_⟩
 obtain⟨b,o,M,hb,aL,u,x,E,aE,F,G,H⟩:=K i N
 have z:b≠g:=fun e=>y _ _ (e▸aL)
 have c:=ir d hb z;exact⟨b,o,M,Nat.lt_of_lt_of_le hb d.size,(c _).trans aL,u,x,(c _).trans E,(c _).trans aE,(c _).trans F,G.nb d y,H.nb d y⟩
def Hu.told (L:List Sh) (G:List Gr):List Co:=G.map fun g=>⟨dy L g.fo,g.fo,[]⟩
def dm (L:List Sh) (G:List Gr):Int:=if(G.all fun g=>cy L g.fo)=true then(if Maps.size (Jn.D (Hu.told L G))<L.length then 5 else 0)else 5
theorem xl {L:List Sh} {G:List Gr} {k:Nat} (f:k<G.length) (h:cy L G[k].fo=false):dm L G=5:=by
 rw[dm,if_neg];intro d;have:=List.all_eq_true.1 d G[k] (List.getElem_mem f)
 rw[h]at this;cases this
theorem DL {L:List Sh} {G:List Gr} (h: ∀m (h:m<G.length),cy L G[m].fo=true):dm L G=if Maps.size (Jn.D (Hu.told L G))<L.length then 5 else 0:=by
 rw[dm,if_pos];refine List.all_eq_true.2 fun g d=>?_
 obtain⟨m,f,rfl⟩:=List.getElem_of_mem d
 exact h m f
theorem DM {L:List Sh} {G:List Gr} {k:Nat} (d:k<G.length):Jn.D ((Hu.told L G).take (k+1))=(Jn.D ((Hu.told L G).take k)).put (Jn.key G[k].fo) (Jn.num (dy L G[k].fo)):=by
 have h:=uW (l:=Hu.told L G) (k:=k) (by simpa[Hu.told]using d);simpa[Hu.told]using h
theorem DN (L:List Sh) (G:List Gr) (vf vg ai:Value) (nx la ro now:Int) (g d:Nat) (w:World) (F:Cs w g [vf,vg,ai,.int .i64 nx,.int .i64 la,.int .i64 ro,.int .i64 now,.map (some d)]) (hm:w.ownsMap prog 9 (plainElem prog 3) d 0 (.map []:DataW Unit)) (I5:g≠d)
    (hf:eP w vf L) (hg:cD w vg G) (hs:jY G) (hr:eQ L=true) (h8:L.length≤8) (IK:G.length≤60):
    Calls prog 91 #[.pointer (some ⟨g,0,none⟩)] w fun e w'=>e= .returned (.int .i64 (dm L G))∧w.grownBy w' (some d)∧(dm L G=0→w'.ownsMap prog 9 (plainElem prog 3) d G.length (Jn.D (Hu.told L G))):=by
 have HX:=hid F;have HF:=hid hf;have HS:=hid hs;have HR:=hid hr;have HM:=hid hm;have S:Hid (dx w d):=qt hm;have IL:=F.lt;have IM:=hm.lt;obtain⟨fa,fc,rfl,_⟩:=hf
 obtain⟨a,IJ,rfl,IH,IB,Y⟩:=hg
 have HL:Hid (∀i (h:i<G.length),∃b o,a=some ⟨b,o,none⟩∧b<w.heap.size∧fS w b (o+i*3) G[i]):=Y;have p1:=F.cell 1 rfl;clear Y F hs hr hm;go_enter func91,ntmps91
 go_wp2_with fail;go_loopw [13] (fun i wr=> ∃k:Nat,k≤G.length∧i= .int .i64 k∧Hid (wr.ownsMap prog 9 (plainElem prog 3) d k (Jn.D ((Hu.told L G).take k)))∧Hid (∀m (h:m<G.length),m<k→cy L G[m].fo=true)∧Hid (w.grownBy wr (some d))) (fun i _=>G.length-(intOf i).toNat)
 case atStart=>exact⟨0,Nat.zero_le _,rfl,HM,(fun m _ h=>absurd h (Nat.not_lt_zero _): ∀m (h:m<G.length),m<0→cy L G[m].fo=true),Nb.refl w d⟩
 case round=>
  obtain⟨k,hk,rfl,HD,HP,P⟩:=hrel
  clear p1;by_cases H:k<G.length
  · obtain⟨b,o,rfl,hb,he⟩:=HL.out k H
    have Z:b≠d:=fun e=>S.out _ _ (e▸he.1)
    have cc:=ir P.out hb Z;have c0:=(cc _).trans he.1;have c1:=(cc _).trans he.2.1;have c2:=(cc _).trans he.2.2;have HZ:=hid (HS.out G[k] (List.getElem_mem H));have y:=hid (show cy L G[k].fo=false→dm L G=5 from fun h=>xl H h)
    have M:=hid (show cy L G[k].fo=true→ ∀m (h:m<G.length),m<k+1→cy L G[m].fo=true from fun h0 m h1 h2=>by
     by_cases e:m=k
     · subst e;exact h0
     · exact HP.out m h1 (by omega))
    have U:=hid (DM (L:=L) H);have IA:=hid (show dy L G[k].fo≤L.length from List.findIdx_le_length);clear he cc;generalize G[k]=x at*;obtain⟨fo,wh,ri⟩:=x
    simp only at c0 c1 c2;have IP:=P.out.size;obtain⟨O,I⟩: ∃O,O=wr.alloc (.cells #[.string fo,.string wh,.int .i64 ri] 95):=⟨_,rfl⟩
    have I0:Below wr.heap.size wr O:=by rw[I];exact(Below.refl _ _).alloc (Nat.le_refl _) _
    have HB:=hid (show Cs O wr.heap.size [.string fo,.string wh,.int .i64 ri]from by rw[I];exact Cs.new wr [.string fo,.string wh,.int .i64 ri] _);have N:=hid (show w.grownBy O (some d)from Nb.trans P.out (Nb.below d I0));have X:=hid (HX.out.nb N.out I5);have I9:=hid (HF.out.nb N.out S.out);have y0:=HB.out.cell 0 rfl;go_wp2_with fail;rw[←I];clear I c0 c1 c2;refine(Da L _ fo g O (X.out.cell 0 rfl) I9.out HR.out h8).mono ?_
    rintro e w1 ⟨rfl,E⟩;have Q:=hid (show w.grownBy w1 (some d)from Nb.trans N.out (Nb.below d E));have A:=hid (X.out.below E);have I6:=hid (HB.out.below E);have f:=ag I0 E;have I7:=hid (show w1.ownsMap prog 9 (plainElem prog 3) d k (Jn.D ((Hu.told L G).take k))from HD.out.kept (row:=none) ⟨f.os,f.tape,f.output,f.size,fun k hk _=>f.block k hk⟩ (by simp));clear y0;cases hi:cy L fo with
    |false=>
     have K:=hid (y.out hi);clear hi y M;go_wp2_with fail;go_ret;exact⟨by rw[K.out];rfl,Q.out,fun h=>by rw[K.out]at h;cases h⟩
    |true=>
     have Iz:=hid (M.out hi);obtain⟨p,hp⟩: ∃p,p=dy L fo:=⟨_,rfl⟩
     rw[←hp];have V:=hid (show Jn.D ((Hu.told L G).take (k+1))=(Jn.D ((Hu.told L G).take k)).put (Jn.key fo) (Jn.num p)from by rw[hp];exact U.out);have IN:p≤L.length:=by rw[hp];exact IA.out
     have IE:(Lit.int .i64 (p:Int)).wf=true:=vP (by omega) (by omega);have IC:fo.size≤maxLen:=by have:fo.size≤150000000000000:=HZ.out.1;unfold maxLen;omega
     have ID:k<maxLen:=by unfold maxLen;omega
     obtain⟨w6,IF,z,J⟩:=I7.out.drew.update (string_keyed underlying9) underlying133 ID (keyOf_string_mk underlying9 IC) (plainElem_int underlying3 IE)
     have Ix:=hid z;have Iv:=hid J;have y0:=I6.out.cell 0 rfl;have x7:=A.out.cell 7 rfl;clear z J hp hi y M U;go_wp2_with fail;go_region
     have Iw:=hid (show w.grownBy w6 (some d)from Nb.trans (Nb.trans Q.out (Nb.below d (Below.refl _ _).drew)) Iv.out);have Iy:=hid (show w6.ownsMap prog 9 (plainElem prog 3) d (k+1) (Jn.D ((Hu.told L G).take (k+1)))from by rw[V.out];exact Ix.out);go_wp2_with fail;go_roundw
     case rel=>exact⟨k+1,by omega,by simp,Iy,Iz,Iw⟩
     case measure=>simp[intOf];omega
  · obtain rfl:k=G.length:=by omega
    have HA:=hid (DL fun m h=>HP.out m h h);have hT:(Hu.told L G).take G.length=Hu.told L G:=List.take_of_length_le (by simp[Hu.told]);rw[hT]at HD;clear hT;have A:=hid (HX.out.nb P.out I5);have x7:=A.out.cell 7 rfl;have x0:=A.out.cell 0 rfl;have II:=fun ty=>HD.out.drew.len underlying133 ty
    have T:=hid (show w.grownBy _ (some d)from Nb.trans P.out (Nb.below d (Below.refl _ _).drew));have I8:=hid HD.out.drew;by_cases hz:Maps.size (Jn.D (Hu.told L G))<L.length
    · have K:=hid (show dm L G=5 from by rw[HA.out,if_pos hz])
      have IG:(Maps.size (Jn.D (Hu.told L G)):Int)<L.length:=by omega
      generalize Maps.size (Jn.D (Hu.told L G))=q at*;go_wp2_with fail;go_region
      go_wp2_with fail;go_ret;exact⟨by rw[K.out];rfl,T.out,fun h=>by rw[K.out]at h;cases h⟩
    · have K:=hid (show dm L G=0 from by rw[HA.out,if_neg hz])
      have IG: ¬(Maps.size (Jn.D (Hu.told L G)):Int)<L.length:=by omega
      generalize Maps.size (Jn.D (Hu.told L G))=q at*;go_wp2_with fail;go_region
      go_wp2_with fail;go_ret;exact⟨by rw[K.out];rfl,T.out,fun _=>I8.out⟩
theorem de.nb {W z:World} {v:Value} {L:List Se} {g:Nat} (h:de W v L) (A:W.grownBy z (some g)) (J:dx W g):de z v L:=by
 obtain⟨a,f,K,E,F,G⟩:=h
 refine⟨a,f,K,E,F,fun i I=>?_⟩
 obtain⟨b,o,H,hb,d⟩:=G i I
 have y:b≠g:=fun e=>J _ _ (e▸d.2.1)
 have c:=ir A hb y;exact⟨b,o,H,Nat.lt_of_lt_of_le hb A.size,(c _).trans d.1,(c _).trans d.2.1,(c _).trans d.2.2.1,(c _).trans d.2.2.2.1,(c _).trans d.2.2.2.2⟩
def ae (H:Hb):Int:=if H.now<0∨1099511627776<H.now then 3 else if¬Hu.cfE H.fos=0 then Hu.cfE H.fos else if¬bG H.gs=0 then bG H.gs else if¬dm H.fos H.gs=0 then dm H.fos H.gs else bJ H.ss H.nx H.la H.ro
theorem nN {H:Hb} (h:H.now<0∨1099511627776<H.now):ae H=3:=by rw[ae,if_pos h]
theorem rV {H:Hb} (h: ¬(H.now<0∨1099511627776<H.now)) (d: ¬Hu.cfE H.fos=0):ae H=Hu.cfE H.fos:=by rw[ae,if_neg h,if_pos d]
theorem rW {H:Hb} (h: ¬(H.now<0∨1099511627776<H.now)) (d:Hu.cfE H.fos=0) (f: ¬bG H.gs=0):ae H=bG H.gs:=by rw[ae,if_neg h,if_neg (fun x=>x d),if_pos f]
theorem rX {H:Hb} (h: ¬(H.now<0∨1099511627776<H.now)) (d:Hu.cfE H.fos=0) (f:bG H.gs=0) (y: ¬dm H.fos H.gs=0):ae H=dm H.fos H.gs:=by rw[ae,if_neg h,if_neg (fun x=>x d),if_neg (fun x=>x f),if_pos y]
theorem oW {H:Hb} (h: ¬(H.now<0∨1099511627776<H.now)) (d:Hu.cfE H.fos=0) (f:bG H.gs=0) (y:dm H.fos H.gs=0):ae H=bJ H.ss H.nx H.la H.ro:=by rw[ae,if_neg h,if_neg (fun x=>x d),if_neg (fun x=>x f),if_neg (fun x=>x y)]
theorem mw {H:Hb} (h:ae H=0): ¬(H.now<0∨1099511627776<H.now)∧Hu.cfE H.fos=0∧bG H.gs=0∧dm H.fos H.gs=0∧bJ H.ss H.nx H.la H.ro=0:=by
 by_cases a:H.now<0∨1099511627776<H.now
 · rw[nN a]at h;cases h
 · by_cases b:Hu.cfE H.fos=0
   · by_cases c:bG H.gs=0
     · by_cases d:dm H.fos H.gs=0
       · rw[oW a b c d]at h;exact⟨a,b,c,d,h⟩
       · rw[rX a b c d]at h;exact absurd h d
     · rw[rW a b c]at h;exact absurd h c
   · rw[rV a b]at h;exact absurd h b
theorem lH {L:List Sh} (h:Hu.cfE L=0):L.length≤8∧jF L=0∧eQ L=true:=by
 rw[Hu.cfE]at h;by_cases a:8<L.length
 · rw[if_pos a]at h;cases h
 · rw[if_neg a]at h
   by_cases b:jF L=0
   · rw[if_neg (fun x=>x b)]at h
     cases c:eQ L with
     |true=>exact⟨by omega,b,rfl⟩
     |false=>rw[c]at h;simp at h
   · rw[if_pos b]at h;exact absurd h b
theorem DO {s:Sh} (h:bN s=0):bH [s.na]=0∧bq s.jo=0:=by
 rw[bN]at h;by_cases a:bH [s.na]=0
 · rw[if_neg (fun x=>x a)]at h;exact⟨a,h⟩
 · rw[if_pos a]at h;exact absurd h a
theorem oX {L:List Sh} (h:Hu.cfE L=0) {s:Sh} (f:s∈L):bH [s.na]=0∧bq s.jo=0:=by
 obtain⟨i,d,rfl⟩:=List.getElem_of_mem f
 exact DO (rJ.1 (lH h).2.1 i d)
theorem xn {J:Jo} (h:bq J=0):J.cos.length≤1000∧J.base.length≤1000∧ ∀c∈J.cos,c.ch.length≤1000000000:=by
 obtain⟨d,_,y,_⟩:=ov h
 have z:=((fP _).1 d).len;exact⟨by omega,by omega,fun c f=>by have:=Bg h c f;omega⟩
def Sv (B:Nat) (w:World) (g mb:Nat) (vf vg ai:Value) (H:Hb):Prop:=Cs w g [vf,vg,ai,.int .i64 H.nx,.int .i64 H.la,.int .i64 H.ro,.int .i64 H.now,.map (some mb)]∧fG B w vf H.fos∧(cD w vg H.gs∧Fr B vg)∧(de w ai H.ss∧Fr B ai)∧(∀b,vf.ownBlock=some b→Fr (b+1) vg∧Fr (b+1) ai)∧Rm w vf
def iz (w:World) (mb n:Nat) (H:Hb):Prop:=w.ownsMap prog 9 (plainElem prog 3) mb n (Jn.D (Hu.told H.fos H.gs))
theorem Sv.below {B:Nat} {w w':World} {g f:Nat} {y z ai:Value} {H:Hb} (h:Sv B w g f y z ai H) (d:Below w.heap.size w w'):Sv B w' g f y z ai H:=by
 obtain⟨A,E,⟨F,G⟩,⟨I,J⟩,K,M⟩:=h
 exact⟨A.below d,E.below d,⟨F.below d,G⟩,⟨I.below d,J⟩,K,M.below d⟩
theorem iz.below {w w':World} {f n:Nat} {H:Hb} (h:iz w f n H) (d:Below w.heap.size w w'):iz w' f n H:=
 World.ownsMap.kept (row:=none) h ⟨d.os,d.tape,d.output,d.size,fun k y _=>d.block k y⟩ (by simp)
theorem iz.nb {w w':World} {f n g:Nat} {H:Hb} (h:iz w f n H) (y:w.grownBy w' (some g)) (d:f≠g):iz w' f n H:=
 World.ownsMap.kept (row:=some g) h y (fun e=>d (by injection e))
theorem xo (H:Hb) (v:Value) (w:World) (hv:dC w v H) (hs:kd H):
    Calls prog 49 #[v] w fun e w'=> ∃p,e= .returned (.tuple #[p,.int .i64 (ae H)])∧(ae H=0→p= .pointer (some ⟨w.heap.size+1+1,0,none⟩)∧ ∃B vf vg ai,w.heap.size+1+1+1≤B∧B≤w'.heap.size∧Sv B w' (w.heap.size+1+1) (w.heap.size+1) vf vg ai H∧iz w' (w.heap.size+1) H.gs.length H)∧(¬ae H=0→p= .pointer none)∧Below w.heap.size w w':=by
 obtain⟨fos,gs,ss,nx,la,ro,now⟩:=H
 have HV:=hid hv;obtain⟨vf,vg,ai,rfl,lf,lg,aT⟩:=hv
 simp only at lf lg aT;obtain⟨sf,sg,IG⟩:=hs
 simp only at sf sg IG;have Iy:=hid lf;have Iz:=hid lg;have J7:=hid aT;have Jc:=hid sf;have IQ:=hid sg;have Je:=hid IG;obtain⟨Y,Z,rfl,_⟩:=lf
 obtain⟨ga,gc,rfl,_⟩:=lg
 obtain⟨sa,sc,rfl,_⟩:=aT
 clear sf sg IG;have Jm:=Tryz.makeNumbers;obtain⟨wa,T⟩: ∃wa,wa=w.alloc (.cells #[.slice Y fos.length Z,.slice ga gs.length gc,.slice sa ss.length sc,.int .i64 nx,.int .i64 la,.int .i64 ro,.int .i64 now] 28):=⟨_,rfl⟩
 obtain⟨wb,U⟩: ∃wb,wb=wa.alloc (.map #[] 0):=⟨_,rfl⟩
 obtain⟨X,V⟩: ∃X,X=wb.alloc (.cells #[.slice Y fos.length Z,.slice ga gs.length gc,.slice sa ss.length sc,.int .i64 nx,.int .i64 la,.int .i64 ro,.int .i64 now,.map (some (w.heap.size+1))] 135):=⟨_,rfl⟩
 have I8:wa.heap.size=w.heap.size+1:=by rw[T];simp
 have J5:wb.heap.size=w.heap.size+1+1:=by rw[U];simp[I8]
 have IV:Below w.heap.size w wa:=by rw[T];exact(Below.refl _ _).alloc (Nat.le_refl _) _
 have IB:Below wa.heap.size wa wb:=by rw[U];exact(Below.refl _ _).alloc (Nat.le_refl _) _
 have IC:Below wb.heap.size wb X:=by rw[V];exact(Below.refl _ _).alloc (Nat.le_refl _) _
 have I5:Below w.heap.size w X:=ag IV (ag IB IC);have HX:Hid (Cs X w.heap.size [.slice Y fos.length Z,.slice ga gs.length gc,.slice sa ss.length sc,.int .i64 nx,.int .i64 la,.int .i64 ro,.int .i64 now]):=(((by rw[T];exact Cs.new w [.slice Y fos.length Z,.slice ga gs.length gc,.slice sa ss.length sc,.int .i64 nx,.int .i64 la,.int .i64 ro,.int .i64 now] _:Cs wa w.heap.size [.slice Y fos.length Z,.slice ga gs.length gc,.slice sa ss.length sc,.int .i64 nx,.int .i64 la,.int .i64 ro,.int .i64 now]).below IB).below IC:Cs X w.heap.size _)
 have HY:Hid (Cs X (w.heap.size+1+1) [.slice Y fos.length Z,.slice ga gs.length gc,.slice sa ss.length sc,.int .i64 nx,.int .i64 la,.int .i64 ro,.int .i64 now,.map (some (w.heap.size+1))]):=(by rw[←J5,V];exact Cs.new wb [.slice Y fos.length Z,.slice ga gs.length gc,.slice sa ss.length sc,.int .i64 nx,.int .i64 la,.int .i64 ro,.int .i64 now,.map (some (w.heap.size+1))] _:Cs X (w.heap.size+1+1) _)
 have HM:=hid (show X.ownsMap prog 9 (plainElem prog 3) (w.heap.size+1) 0 (.map []:DataW Unit)from by
  have h:=(World.ownsMap_made wa prog 9 (plainElem (H:=Unit) prog 3)).alloc (.cells #[.slice Y fos.length Z,.slice ga gs.length gc,.slice sa ss.length sc,.int .i64 nx,.int .i64 la,.int .i64 ro,.int .i64 now,.map (some (w.heap.size+1))] 135);rw[V,U,←I8];exact(I8▸h))
 have Jl:w.heap.size+1+1<X.heap.size:=HY.out.lt;have Ix:(((w.alloc (.cells #[.slice Y fos.length Z,.slice ga gs.length gc,.slice sa ss.length sc,.int .i64 nx,.int .i64 la,.int .i64 ro,.int .i64 now] 28)).alloc (.map #[] 0)).alloc (.cells #[.slice Y fos.length Z,.slice ga gs.length gc,.slice sa ss.length sc,.int .i64 nx,.int .i64 la,.int .i64 ro,.int .i64 now,.map (some (w.heap.size+1))] 135))=X:=by rw[V,U,T]
 have IS:=hid Ix;clear T U V IV IB IC I8 J5 Ix;go_enter func49,ntmps49
 go_upto_region 2 with fail;rw[IS.out];clear IS;have p6:=HY.out.cell 6 rfl;have p0:=HY.out.cell 0 rfl;by_cases J0:now<0
 · have z:=hid (show ae ⟨fos,gs,ss,nx,la,ro,now⟩=3 from nN (Or.inl J0))
   go_wp2_with fail;go_ret2;exact⟨_,by rw[z.out];rfl,(fun h=>by rw[z.out]at h;cases h),(fun _=>rfl),I5⟩
 by_cases J1:1099511627776<now
 · have z:=hid (show ae ⟨fos,gs,ss,nx,la,ro,now⟩=3 from nN (Or.inr J1))
   go_wp2_with fail;go_ret2;exact⟨_,by rw[z.out];rfl,(fun h=>by rw[z.out]at h;cases h),(fun _=>rfl),I5⟩
 have N:=hid (show¬(now<0∨1099511627776<now)from fun x=>x.elim J0 J1);go_wp2_with fail;refine(DK fos _ _ (Iy.out.below I5) Jc.out).mono ?_
 rintro e w1 ⟨rfl,Q⟩;have P:=ag I5 Q;have IT:=hid (HY.out.below Q);have Jg:=hid (HX.out.below Q);have Jp:=Q.size;clear p0 p6;by_cases d: ¬(Hu.cfE fos=0)
 · skip
   have hz:(Hu.cfE fos==0)=false:=by simpa using d
   have IF:(Hu.cfE fos !=0)=true:=by simpa using d
   have z:=hid (rV (H:=⟨fos,gs,ss,nx,la,ro,now⟩) N.out d);have H0:=hid d;clear d;generalize Hu.cfE fos=rr at*;go_wp2_with fail;go_ret2;exact⟨_,by rw[z.out];rfl,(fun h=>absurd (z.out▸h) H0.out),(fun _=>rfl),P⟩
 replace d:=Decidable.not_not.1 d;have A:=hid d;rw[d];clear d;have p1:=IT.out.cell 1 rfl;go_wp2_with fail;refine(rG gs _ _ (Iz.out.below P) IQ.out).mono ?_
 rintro e w2 ⟨rfl,S⟩;have y:=ag P S;have IU:=hid (IT.out.below S);have Jh:=hid (Jg.out.below S);have Jq:=S.size;clear p1;by_cases d: ¬(bG gs=0)
 · skip
   have hz:(bG gs==0)=false:=by simpa using d
   have IF:(bG gs !=0)=true:=by simpa using d
   have z:=hid (rW (H:=⟨fos,gs,ss,nx,la,ro,now⟩) N.out A.out d);have H0:=hid d;clear d;generalize bG gs=rr at*;go_wp2_with fail;go_ret2;exact⟨_,by rw[z.out];rfl,(fun h=>absurd (z.out▸h) H0.out),(fun _=>rfl),y⟩
 replace d:=Decidable.not_not.1 d;have M:=hid d;rw[d];clear d;have F:=ag Q S;have IK:=hid (show w2.ownsMap prog 9 (plainElem prog 3) (w.heap.size+1) 0 (.map []:DataW Unit)from HM.out.kept (row:=none) ⟨F.os,F.tape,F.output,F.size,fun k hk _=>F.block k hk⟩ (by simp));have IA:Hid (dx w2 (w.heap.size+1)):=qt IK.out;go_wp2_with fail;refine(DN fos gs _ _ _ nx la ro now (w.heap.size+1+1) (w.heap.size+1) _ IU.out IK.out (by omega) (Iy.out.below y) (Iz.out.below y) IQ.out (lH A.out).2.2 (lH A.out).1 (oO M.out).1).mono ?_
 rintro e w3 ⟨rfl,I,IZ⟩;have IL:=hid IZ;have Iv:Below w.heap.size w w3:=y.grown I (by omega) (fun k hk=>by injection hk with hk;omega);have O:=hid (IU.out.nb I (by omega));have Ji:=hid (Jh.out.nb I (by omega));have II:=hid ((Iy.out.below y).nb I IA.out);have IJ:=hid ((Iz.out.below y).nb I IA.out);have I9:=hid ((J7.out.below y).nb I IA.out);have Jr:=I.size;clear IZ;by_cases d: ¬(dm fos gs=0)
 · skip
   have hz:(dm fos gs==0)=false:=by simpa using d
   have IF:(dm fos gs !=0)=true:=by simpa using d
   have z:=hid (rX (H:=⟨fos,gs,ss,nx,la,ro,now⟩) N.out A.out M.out d);have H0:=hid d;clear d;generalize dm fos gs=rr at*;go_wp2_with fail;go_ret2;exact⟨_,by rw[z.out];rfl,(fun h=>absurd (z.out▸h) H0.out),(fun _=>rfl),Iv⟩
 replace d:=Decidable.not_not.1 d;have IR:=hid d;have J8:=hid (IL.out d);rw[d];clear d IL;have bZ:=O.out.cell 2 rfl;have q3:=O.out.cell 3 rfl;have q4:=O.out.cell 4 rfl;have q5:=O.out.cell 5 rfl;go_wp2_with fail;refine(vV ss _ nx la ro _ I9.out Je.out).mono ?_
 rintro e w4 ⟨rfl,E⟩;have Iw:=ag Iv E;have Jj:=hid (O.out.below E);have G:=hid (Ji.out.below E);have Js:=E.size;clear bZ q3 q4 q5;by_cases d: ¬(bJ ss nx la ro=0)
 · skip
   have hz:(bJ ss nx la ro==0)=false:=by simpa using d
   have IF:(bJ ss nx la ro !=0)=true:=by simpa using d
   have z:=hid (by have:=oW (H:=⟨fos,gs,ss,nx,la,ro,now⟩) N.out A.out M.out IR.out;exact this:ae ⟨fos,gs,ss,nx,la,ro,now⟩=bJ ss nx la ro);have H0:=hid d;clear d;generalize bJ ss nx la ro=rr at*;go_wp2_with fail;go_ret2;exact⟨_,by rw[z.out];rfl,(fun h=>absurd (z.out▸h) H0.out),(fun _=>rfl),Iw⟩
 replace d:=Decidable.not_not.1 d;have z:=hid (show ae ⟨fos,gs,ss,nx,la,ro,now⟩=0 from by rw[oW (H:=⟨fos,gs,ss,nx,la,ro,now⟩) N.out A.out M.out IR.out];exact d);have Jd:Hid (ss.length≤20):=(oF (wU d).1).1;rw[d];clear d;have x0:=G.out.cell 0 rfl;have x1:=G.out.cell 1 rfl;have aY:=G.out.cell 2 rfl;have x3:=G.out.cell 3 rfl;have x4:=G.out.cell 4 rfl;have x5:=G.out.cell 5 rfl;have x6:=G.out.cell 6 rfl;go_wp2_with fail;refine(wR ⟨fos,gs,ss,nx,la,ro,now⟩ _ _ ⟨_,_,_,rfl,II.out.below E,IJ.out.below E,I9.out.below E⟩ (by have:=(lH A.out).1;simp only;omega) (fun s hs=>xn (oX A.out hs).2) (by have:=(oO M.out).1;simp only;omega) (by have:=Jd.out;simp only;omega)).mono ?_
 rintro e w5 ⟨uf,ug,us,rfl,I6,⟨ID,J2⟩,⟨IE,J3⟩,IW,J4,I0⟩;have Ja:=hid J4;clear J4;simp only at I6 ID IE;have IM:=hid I6;have J6:=hid ID;have IN:=hid J2;have Jb:=hid IE;have IP:=hid J3;have IH:=hid IW;have f:=hid (Jj.out.below I0);have Jt:=I0.size;have IX:=ag Iw I0;obtain⟨ua,uc,rfl,_⟩:=I6.lies
 obtain⟨xa,xc,rfl,_⟩:=ID
 obtain⟨ya,yc,rfl,_⟩:=IE
 clear I6 J2 J3 IW x0 x1 aY x3 x4 x5 x6;obtain⟨w6,I7⟩: ∃w6,w6=(((((((w5.setCell ⟨w.heap.size+1+1,0,none⟩ (.slice ua fos.length uc)).setCell ⟨w.heap.size+1+1,1,none⟩ (.slice xa gs.length xc)).setCell ⟨w.heap.size+1+1,2,none⟩ (.slice ya ss.length yc)).setCell ⟨w.heap.size+1+1,3,none⟩ (.int .i64 nx)).setCell ⟨w.heap.size+1+1,4,none⟩ (.int .i64 la)).setCell ⟨w.heap.size+1+1,5,none⟩ (.int .i64 ro)).setCell ⟨w.heap.size+1+1,6,none⟩ (.int .i64 now)):=⟨_,rfl⟩
 have J:w5.grownBy w6 (some (w.heap.size+1+1)):=by rw[I7];exact(bj (bj (bj (bj (bj (bj (ar w5 (w.heap.size+1+1) 0 (.slice ua fos.length uc)) (ar _ (w.heap.size+1+1) 1 (.slice xa gs.length xc))) (ar _ (w.heap.size+1+1) 2 (.slice ya ss.length yc))) (ar _ (w.heap.size+1+1) 3 (.int .i64 nx))) (ar _ (w.heap.size+1+1) 4 (.int .i64 la))) (ar _ (w.heap.size+1+1) 5 (.int .i64 ro))) (ar _ (w.heap.size+1+1) 6 (.int .i64 now)))
 have Jk:Hid (Cs w6 (w.heap.size+1+1) [.slice ua fos.length uc,.slice xa gs.length xc,.slice ya ss.length yc,.int .i64 nx,.int .i64 la,.int .i64 ro,.int .i64 now,.map (some (w.heap.size+1))]):=(by rw[I7];exact(((((((f.out.set 0 (.slice ua fos.length uc)).set 1 (.slice xa gs.length xc)).set 2 (.slice ya ss.length yc)).set 3 (.int .i64 nx)).set 4 (.int .i64 la)).set 5 (.int .i64 ro)).set 6 (.int .i64 now)):Cs w6 (w.heap.size+1+1) _)
 have IY:Below w.heap.size w w6:=by rw[I7];exact(oj (b:=w.heap.size+1+1) IX (by show _≤w.heap.size+1+1;omega))
 have J9:=hid (show iz w6 (w.heap.size+1) gs.length ⟨fos,gs,ss,nx,la,ro,now⟩from(iz.below (H:=⟨fos,gs,ss,nx,la,ro,now⟩) (iz.below (H:=⟨fos,gs,ss,nx,la,ro,now⟩) J8.out E) I0).nb J (by omega));have Jf:=hid (show Sv w4.heap.size w6 (w.heap.size+1+1) (w.heap.size+1) (.slice ua fos.length uc) (.slice xa gs.length xc) (.slice ya ss.length yc) ⟨fos,gs,ss,nx,la,ro,now⟩from⟨Jk.out,IM.out.nbo J (by omega),⟨eR.2 ((eR.1 J6.out).nbo J (fun x K=>by have:=(IN.out x K).1;omega)),fun x K=>(IN.out x K).1⟩,⟨fl.2 ((fl.1 Jb.out).nbo J (fun x K=>by have:=(IP.out x K).1;omega)),fun x K=>(IP.out x K).1⟩,fun b hb=>⟨fun x K=>((IH.out b hb).1 x K).1,fun x K=>((IH.out b hb).2 x K).1⟩,Ja.out.nb J (fun x K=>by obtain⟨_,_,_,ho,_⟩:=IM.out;have:=(ho x K).1;omega)⟩);have p0:=f.out.cell 0 rfl;have f0:=f.out.fr 0;have p1:=f.out.cell 1 rfl;have f1:=f.out.fr 1;have p2:=f.out.cell 2 rfl;have f2:=f.out.fr 2;have p3:=f.out.cell 3 rfl;have f3:=f.out.fr 3;have p4:=f.out.cell 4 rfl;have f4:=f.out.fr 4;have p5:=f.out.cell 5 rfl;have f5:=f.out.fr 5;have p6:=f.out.cell 6 rfl;have f6:=f.out.fr 6;go_wp2_with fail;rw[←I7];go_ret2;exact⟨_,by rw[z.out];rfl,(fun _=>⟨rfl,w4.heap.size,_,_,_,by omega,by have:=J.size;omega,Jf.out,J9.out⟩),(fun h=>absurd z.out h),IY⟩
end Go.Proofs.YtcmlnelpcjfocaaGreatDoor
