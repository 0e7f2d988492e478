/- What the reference's Owned and CheckGrants answer, for every list of grants. -/
import Derived.Test.YtgamnckfmmbjdaaGreatDoorWGJ
import Derived.Test.YtgamnckfmmbjdaaGreatDoorShelfG
import Derived.Test.YtgamnckfmmbjdaaGreatDoorWGL
import Derived.Test.YtgamnckfmmbjdaaGreatDoorWGK
set_option linter.unusedSimpArgs false
set_option linter.unusedVariables false
namespace Go.Proofs.YtgamnckfmmbjdaaGreatDoor
open Go.RowKit Go.Proofs.Tryz
set_option maxHeartbeats 4000000
set_option maxRecDepth 100000
theorem qT (x y:ByteArray):(Op.bytesLess x.toList y.toList=true∧Op.bytesLess y.toList x.toList=false∧(x.toList==y.toList)=false∧(y.toList==x.toList)=false)∨
    (Op.bytesLess x.toList y.toList=false∧Op.bytesLess y.toList x.toList=false∧(x.toList==y.toList)=true∧(y.toList==x.toList)=true)∨
    (Op.bytesLess x.toList y.toList=false∧Op.bytesLess y.toList x.toList=true∧(x.toList==y.toList)=false∧(y.toList==x.toList)=false):=by
 have f: ∀z:ByteArray,Op.bytesLess z.toList z.toList=false:=fun z=>ft ⟨z,false,z,0⟩
 have u:Op.bytesLess x.toList y.toList=true→Op.bytesLess y.toList x.toList=true→False:=fun j d=>by
  have:=fu ⟨x,false,x,0⟩ ⟨y,false,y,0⟩ ⟨x,false,x,0⟩ j d
  have o:=f x;rw[show Op.bytesLess x.toList x.toList=Pp.lt ⟨x,false,x,0⟩ ⟨x,false,x,0⟩from rfl,this]at o;cases o
 have ne: ∀a b:ByteArray,Op.bytesLess a.toList b.toList=true→(a.toList==b.toList)=false∧(b.toList==a.toList)=false:=fun a b h=>by
  constructor<;>(rw[beq_eq_false_iff_ne];intro e)
  · rw[e]at h;rw[f b]at h;cases h
  · rw[e]at h;rw[f a]at h;cases h
 cases j:Op.bytesLess x.toList y.toList with
 |true=>
  have d:Op.bytesLess y.toList x.toList=false:=by
   cases d:Op.bytesLess y.toList x.toList with
   |false=>rfl
   |true=>exact(u j d).elim
  exact Or.inl ⟨rfl,d,(ne x y j).1,(ne x y j).2⟩
 |false=>
  cases d:Op.bytesLess y.toList x.toList with
  |true=>exact Or.inr (Or.inr ⟨rfl,rfl,(ne y x d).2,(ne y x d).1⟩)
  |false=>
   have e:x.data.toList=y.data.toList:=jq (x:=⟨x,false,x,0⟩) (y:=⟨y,false,y,0⟩) j d;refine Or.inr (Or.inl ⟨rfl,rfl,?_,?_⟩)
   · rw[Lib.toList_data,Lib.toList_data,e];simp
   · rw[Lib.toList_data,Lib.toList_data,e];simp
theorem wO (G:List Gr) (v:Value) (f:ByteArray) (w:World) (X:bt w v G):
    Calls prog 75 #[v,.string f] w fun e w'=>e= .returned (.bool (G.any (cd f)))∧Below w.heap.size w w':=by
 obtain⟨a,Q,rfl,N,H,z⟩:=X
 have O:Hid (∀i (h:i<G.length),∃b o,a=some ⟨b,o,none⟩∧b<w.heap.size∧dQ w b (o+i*3) G[i]):=z;clear z;obtain⟨r,I⟩: ∃r,r=G.any (cd f):=⟨_,rfl⟩
 rw[←I];have M:=ai I;clear I;go_enter func75,ntmps75
 go_wp2_with fail;go_loopw [5] (fun i wr=> ∃k:Nat,k≤G.length∧i= .int .i64 k∧Hid (∀j (h:j<G.length),j<k→cd f G[j]=false)∧Below w.heap.size w wr) (fun i _=>G.length-(intOf i).toNat)
 case atStart=>exact⟨0,Nat.zero_le _,rfl,(fun j _ h=>absurd h (Nat.not_lt_zero _): ∀j (h:j<G.length),j<0→cd f G[j]=false),Below.refl _ _⟩
 case round=>
  obtain⟨k,hk,rfl,K,d⟩:=hrel
  by_cases A:k<G.length
  · obtain⟨b,o,rfl,hb,T⟩:=O.out k A
    obtain⟨Z,c1,c2⟩:=T.below hb d
    have P:=hid (show cd f G[k]=true→true=r from fun h=>by rw[M.out];exact(List.any_eq_true.2 ⟨G[k],List.getElem_mem A,h⟩).symm)
    have J:=hid (show cd f G[k]=false→ ∀j (h:j<G.length),j<k+1→cd f G[j]=false from fun V j y F=>by
     by_cases e:j=k
     · subst e;exact V
     · exact K.out j y (by omega))
    generalize G[k]=x at*;cases y:(x.fo.toList==f.toList)with
    |true=>
     by_cases F:x.ri=3
     · have E:=ai (P.out (by rw[cd,y,F];rfl))
       go_wp2_with fail;go_ret;exact⟨aV E.out,d⟩
     · have S:(x.ri==3)=false:=by simpa using F
       have u:=ai (J.out (by rw[cd,y,S];rfl));go_wp2_with fail;go_roundw
       case rel=>exact⟨k+1,by omega,by simp,u,d⟩
       case measure=>simp[intOf];omega
    |false=>
     have u:=ai (J.out (by rw[cd,y];rfl));go_wp2_with fail;go_roundw
     case rel=>exact⟨k+1,by omega,by simp,u,d⟩
     case measure=>simp[intOf];omega
  · have E:=hid (show false=r from by
     rw[M.out];symm
     rw[List.any_eq_false];intro x Y;obtain⟨j,U,rfl⟩:=List.getElem_of_mem Y
     rw[K.out j U (by omega)];decide)
    go_wp2_with fail;go_ret;exact⟨aV E.out,d⟩
theorem qU {a b:Gr} (h:Op.bytesLess a.fo.toList b.fo.toList=true∨((a.fo.toList==b.fo.toList)=true∧Op.bytesLess a.fo.toList b.fo.toList=false∧Op.bytesLess a.wh.toList b.wh.toList=true)):de a b<0:=by
 rcases h with h|⟨d,e,f⟩
 · rw[de,if_neg (by rw[cZ,if_pos h];decide),cZ,if_pos h];decide
 · rw[de,if_pos (by rw[cZ,if_neg (by rw[e];decide),if_pos d]),cZ,if_pos f];decide
theorem nU {a b:Gr} (h:(Op.bytesLess a.fo.toList b.fo.toList=false∧(a.fo.toList==b.fo.toList)=false)∨((a.fo.toList==b.fo.toList)=true∧Op.bytesLess a.fo.toList b.fo.toList=false∧Op.bytesLess a.wh.toList b.wh.toList=false)):0≤de a b:=by
 rcases h with⟨d,e⟩|⟨d,e,f⟩
 · have:cZ a.fo b.fo=1:=by rw[cZ,if_neg (by rw[d];decide),if_neg (by rw[e];decide)]
   rw[de,if_neg (by rw[this];decide),this];decide
 · rw[de,if_pos (by rw[cZ,if_neg (by rw[e];decide),if_pos d]),cZ,if_neg (by rw[f];decide)]
   split<;>decide
theorem wP (G:List Gr) (v:Value) (w:World) (hv:bt w v G) (hs:gZ G):
    Calls prog 30 #[v] w fun e w'=>e= .returned (.int .i64 (aY G))∧Below w.heap.size w w':=by
 have HV:=ai hv;have HS:=ai hs;obtain⟨a,CI,rfl,CH,CF,C5⟩:=hv
 have HL:Hid (∀i (h:i<G.length),∃b o,a=some ⟨b,o,none⟩∧b<w.heap.size∧dQ w b (o+i*3) G[i]):=C5;clear C5 hs;by_cases K:60<G.length
 · have A:=hid (show 2=aY G from(nO K).symm)
   have C4:60<(G.length:Int):=by omega
   go_enter func30,ntmps30
   go_wp2_with fail;go_ret;exact⟨an A.out,Below.refl _ _⟩
 · have C4: ¬60<(G.length:Int):=by omega
   go_enter func30,ntmps30
   go_wp2_with fail;go_loopw [3] (fun i wr=> ∃k:Nat,k≤G.length∧i= .int .i64 k∧Hid (∀j (h:j<G.length),j<k→bE G[j]=0)∧Below w.heap.size w wr) (fun i _=>G.length-(intOf i).toNat)
   case atStart=>exact⟨0,Nat.zero_le _,rfl,(fun j _ h=>absurd h (Nat.not_lt_zero _): ∀j (h:j<G.length),j<0→bE G[j]=0),Below.refl _ _⟩
   case round=>
    obtain⟨k,hk,rfl,I,d⟩:=hrel
    by_cases Q:k<G.length
    · obtain⟨b,o,rfl,hb,he⟩:=HL.out k Q
      obtain⟨c0,c1,c2⟩:=he.below hb d
      have CC:=HS.out _ (List.getElem_mem Q)
      have E:=hid (show¬bE G[k]=0→bE G[k]=aY G from fun M=>by
       have z:=nM Q I.out M;rw[nP K (by rw[z];exact M),z])
      have C3:=hid (show bE G[k]=0→ ∀j (h:j<G.length),j<k+1→bE G[j]=0 from fun M j P h2=>by
       by_cases e:j=k
       · subst e;exact M
       · exact I.out j P (by omega))
      generalize G[k]=x at*;go_wp2_with fail;refine(gB x.fo _ CC.1).mono ?_
      rintro e w1 ⟨rfl,hw⟩;rw[hw];clear hw w1;cases S:az x.fo.data.toList with
      |false=>
       have z:bE x=1:=by rw[bE,if_neg (by rw[iT,S,Bool.false_and];decide)]
       have A:=hid (show 1=aY G from by rw[←z];exact E.out (by rw[z];decide));clear z;go_wp2_with fail;go_ret;exact⟨an A.out,d⟩
      |true=>
       go_wp2_with fail;refine(gB x.wh _ CC.2).mono ?_
       rintro e w1 ⟨rfl,hw⟩;rw[hw];clear hw w1;cases C9:az x.wh.data.toList with
       |false=>
        have z:bE x=1:=by rw[bE,if_neg (by rw[iT,S,C9];decide)]
        have A:=hid (show 1=aY G from by rw[←z];exact E.out (by rw[z];decide));clear z;go_wp2_with fail;go_ret;exact⟨an A.out,d⟩
       |true=>
        have H:bE x=if x.ri<1∨3<x.ri then 3 else 0:=by rw[bE,if_pos (by rw[iT,S,C9];rfl)]
        by_cases P:x.ri<1
        · have z:bE x=3:=by rw[H,if_pos (Or.inl P)]
          have A:=hid (show 3=aY G from by rw[←z];exact E.out (by rw[z];decide));clear z H;go_wp2_with fail;go_ret;exact⟨an A.out,d⟩
        · by_cases h3:3<x.ri
          · have z:bE x=3:=by rw[H,if_pos (Or.inr h3)]
            have A:=hid (show 3=aY G from by rw[←z];exact E.out (by rw[z];decide));clear z H;go_wp2_with fail;go_ret;exact⟨an A.out,d⟩
          · have z:bE x=0:=by rw[H,if_neg (by omega)]
            have F:=ai (C3.out z);clear z H;go_wp2_with fail;go_roundw
            case rel=>exact⟨k+1,by omega,by simp,F,d⟩
            case measure=>simp[intOf];omega
    · have Y:=ai (nN (fun j h=>I.out j h (by omega)))
      obtain⟨wx,T⟩: ∃wx,wx=wr:=⟨_,rfl⟩
      rw[←T];rw[←T]at d;clear T I hk;go_wp2_with fail;go_loopw [4] (fun i wr=> ∃m:Nat,(m=0∨m<G.length)∧i= .int .i64 ((m:Int)+1)∧Hid (∀j (h:j+1<G.length),j<m→de G[j] G[j+1]<0)∧Below w.heap.size w wr) (fun i _=>G.length+2-(intOf i).toNat)
      case atStart=>exact⟨0,Or.inl rfl,rfl,(fun j _ h=>absurd h (Nat.not_lt_zero _): ∀j (h:j+1<G.length),j<0→de G[j] G[j+1]<0),d⟩
      case round=>
       clear d;obtain⟨m,hk,rfl,I,d⟩:=hrel
       by_cases C8:m+1<G.length
       · obtain⟨b,o,rfl,hb,he⟩:=HL.out (m+1) C8
         obtain⟨b',o',CD,CE,CG⟩:=HL.out m (by omega)
         cases CD
         obtain⟨c0,c1,c2⟩:=he.below hb d
         obtain⟨d0,d1,d2⟩:=CG.below CE d
         have CJ:(0:Int)≤(m:Int):=by omega
         have CK:(m:Int)<(G.length:Int):=by omega
         have CL:(m:Int)+1<(G.length:Int):=by omega
         have CM:(0:Int)≤(m:Int)+1:=by omega
         have CN:((m:Int)+1).toNat=m+1:=by omega
         have CO:IntKind.i64.wrap ((m:Int)+1-1)=(m:Int):=by rw[IntKind.wrap_i64];omega
         have CP:IntKind.i64.wrap (m:Int)=(m:Int):=by rw[IntKind.wrap_i64];omega
         have E:=hid (show 0≤de G[m] G[m+1]→4=aY G from fun h=>(nQ K Y.out (qP C8 h)).symm)
         have F:=hid (show de G[m] G[m+1]<0→ ∀j (h:j+1<G.length),j<m+1→de G[j] G[j+1]<0 from fun h0 j P h2=>by
          by_cases e:j=m
          · subst e;exact h0
          · exact I.out j P (by omega))
         generalize G[m]=x at*;generalize G[m+1]=y at*;rcases qT x.fo y.fo with⟨V,t2,X,t4⟩|⟨V,t2,X,t4⟩|⟨V,t2,X,t4⟩
         · have HQ:=ai (F.out (qU (Or.inl V)))
           go_wp2_with fail;go_quiet (fail)
           generalize u:World.drewN wr _=N;have f:Below w.heap.size w N:=u▸⟨d.os,d.tape,d.output,d.size,d.block⟩;clear u;go_wp2_with fail;go_roundw
           case rel=>exact⟨m+1,by omega,by simp,HQ,f⟩
           case measure=>simp[intOf];omega
         · rcases qT x.wh y.wh with⟨r1,r2,r3,r4⟩|⟨r1,r2,r3,r4⟩|⟨r1,r2,r3,r4⟩
           · have HQ:=ai (F.out (qU (Or.inr ⟨X,V,r1⟩)))
             go_wp2_with fail;go_quiet (fail)
             generalize u:World.drewN wr _=N;have f:Below w.heap.size w N:=u▸⟨d.os,d.tape,d.output,d.size,d.block⟩;clear u;go_wp2_with fail;go_roundw
             case rel=>exact⟨m+1,by omega,by simp,HQ,f⟩
             case measure=>simp[intOf];omega
           · have A:=ai (E.out (nU (Or.inr ⟨X,V,r1⟩)))
             go_wp2_with fail;go_quiet (fail)
             generalize u:World.drewN wr _=N;have f:Below w.heap.size w N:=u▸⟨d.os,d.tape,d.output,d.size,d.block⟩;clear u;go_wp2_with fail;go_ret;exact⟨an A.out,f⟩
           · have A:=ai (E.out (nU (Or.inr ⟨X,V,r1⟩)))
             go_wp2_with fail;go_quiet (fail)
             generalize u:World.drewN wr _=N;have f:Below w.heap.size w N:=u▸⟨d.os,d.tape,d.output,d.size,d.block⟩;clear u;go_wp2_with fail;go_ret;exact⟨an A.out,f⟩
         · have A:=ai (E.out (nU (Or.inl ⟨V,X⟩)))
           go_wp2_with fail;go_quiet (fail)
           generalize u:World.drewN wr _=N;have f:Below w.heap.size w N:=u▸⟨d.os,d.tape,d.output,d.size,d.block⟩;clear u;go_wp2_with fail;go_ret;exact⟨an A.out,f⟩
       · have O:dT G=true:=(lz G).2 fun j h=>I.out j h (by omega)
         have Z:=ai (nS K Y.out O);obtain⟨wy,U⟩: ∃wy,wy=wr:=⟨_,rfl⟩
         rw[←U];rw[←U]at d;clear U I hk O;go_wp2_with fail;go_loopw [5] (fun i wr=> ∃k:Nat,k≤G.length∧i= .int .i64 k∧Hid (∀j (h:j<G.length),j<k→G.any (cd (G[j]).fo)=true)∧Below w.heap.size w wr) (fun i _=>G.length-(intOf i).toNat)
         case atStart=>exact⟨0,Nat.zero_le _,rfl,(fun j _ h=>absurd h (Nat.not_lt_zero _): ∀j (h:j<G.length),j<0→G.any (cd (G[j]).fo)=true),d⟩
         case round=>
          clear d;obtain⟨k,hk,rfl,I,d⟩:=hrel
          by_cases C7:k<G.length
          · obtain⟨b,o,rfl,hb,he⟩:=HL.out k C7
            obtain⟨c0,c1,c2⟩:=he.below hb d
            go_wp2_with fail;refine(wO G _ (G[k]).fo _ (HV.out.below d)).mono ?_
            rintro e w1 ⟨rfl,C6⟩;have J:=bj d C6;clear c0 c1 c2 d C6;cases M:G.any (cd (G[k]).fo)with
            |true=>
             have F:=hid (show∀j (h:j<G.length),j<k+1→G.any (cd (G[j]).fo)=true from fun j P h2=>by
              by_cases e:j=k
              · subst e;exact M
              · exact I.out j P (by omega))
             clear M;go_wp2_with fail;go_roundw
             case rel=>exact⟨k+1,by omega,by simp,F,J⟩
             case measure=>simp[intOf];omega
            |false=>
             have A:=hid (show 5=aY G from(qR C7 M).trans Z.out.symm);clear M;go_wp2_with fail;go_ret;exact⟨an A.out,J⟩
          · have A:=hid (show 0=aY G from(qS (fun j h=>I.out j h (by omega))).trans Z.out.symm)
            go_wp2_with fail;go_ret;exact⟨an A.out,d⟩
def aG (x y:ByteArray):Bool:=Op.bytesLess x.toList y.toList
def nV (e:Gr):List Value:=[.string e.fo,.string e.wh,.int .i64 e.ri]
theorem qV {G:List Se} {x l r:Int} (h:aZ G x l r=0):dq G.length x l r=0∧dE x G=0∧eK G=true∧fA G r=0:=by
 by_cases a:dq G.length x l r=0
 · by_cases d:dE x G=0
   · cases e:eK G with
     |false=>rw[nr a d e]at h;cases h
     |true=>rw[nt a d e]at h;exact⟨a,d,rfl,h⟩
   · rw[np a d]at h;exact absurd h d
 · rw[jw a]at h;exact absurd h a
def bX (L:List En) (q:List UInt8):Int:=match L.findIdx? (aE q)with
 |some i=>(i:Int)
 |none=> -1
theorem wQ {L:List En} {q:List UInt8} {k:Nat} (a:k<L.length) (h: ∀j (h:j<L.length),j<k→aE q L[j]=false) (e:aE q L[k]=true):(k:Int)=bX L q:=by
 have:L.findIdx? (aE q)=some k:=List.findIdx?_eq_some_iff_getElem.2 ⟨a,e,fun j d=>by rw[h j (by omega) d];simp⟩
 rw[bX,this]
theorem wR {L:List En} {q:List UInt8} (h: ∀j (h:j<L.length),aE q L[j]=false): -1=bX L q:=by
 have:L.findIdx? (aE q)=none:=List.findIdx?_eq_none_iff.2 fun x d=>by
  obtain⟨j,a,rfl⟩:=List.getElem_of_mem d
  exact h j a
 rw[bX,this]
theorem ko (L:List En) (q:List UInt8):(bX L q= -1∧L.find? (aE q)=none)∨ ∃k,∃h:k<L.length,bX L q=(k:Int)∧L.find? (aE q)=some L[k]:=by
 cases e:L.findIdx? (aE q)with
 |none=>
  refine Or.inl ⟨by rw[bX,e],?_⟩
  rw[List.find?_eq_none];intro x u;have:=List.findIdx?_eq_none_iff.1 e x u
  simp[this]
 |some k=>
  obtain⟨a,o,d⟩:=List.findIdx?_eq_some_iff_getElem.1 e
  refine Or.inr ⟨k,a,by rw[bX,e],py a (fun j h f=>?_) o⟩
  have:=d j f
  simpa using this
theorem ed (L:List En) (v:Value) (q:ByteArray) (w:World) (M:aj w v L):
    Calls prog 126 #[v,.string q] w fun e w'=>e= .returned (.int .i64 (bX L q.data.toList))∧Below w.heap.size w w':=by
 obtain⟨a,I,rfl,G,A,F⟩:=M
 have H:Hid (∀i (h:i<L.length),∃b o,a=some ⟨b,o,none⟩∧b<w.heap.size∧cM w b (o+i*4) L[i]):=F;clear F;go_enter func126,ntmps126
 go_wp2_with fail;go_loopw [5] (fun i wr=> ∃k:Nat,k≤L.length∧i= .int .i64 k∧Hid (∀j (h:j<L.length),j<k→aE q.data.toList L[j]=false)∧Below w.heap.size w wr) (fun i _=>L.length-(intOf i).toNat)
 case atStart=>exact⟨0,Nat.zero_le _,rfl,(fun j _ h=>absurd h (Nat.not_lt_zero _): ∀j (h:j<L.length),j<0→aE q.data.toList L[j]=false),Below.refl _ _⟩
 case round=>
  obtain⟨k,T,rfl,z,d⟩:=hrel
  by_cases f:k<L.length
  · obtain⟨b,o,rfl,hb,K⟩:=H.out k f
    obtain⟨N,O,P,Q⟩:=K.below hb d
    cases u:aE q.data.toList L[k]with
    |true=>
     have E:((L[k]).path.toList==q.toList)=true:=by rw[←u,aE,Lib.toList_data,Lib.toList_data]
     have y:=hid (show(k:Int)=bX L q.data.toList from wQ f z.out u);go_wp2_with fail;go_ret;exact⟨an y.out,d⟩
    |false=>
     have E:((L[k]).path.toList==q.toList)=false:=by rw[←u,aE,Lib.toList_data,Lib.toList_data]
     go_wp2_with fail;go_roundw
     case rel=>exact⟨k+1,by omega,by simp,(fun j J S=>by
      by_cases e:j=k
      · subst e;exact u
      · exact z.out j J (by omega): ∀j (h:j<L.length),j<k+1→aE q.data.toList L[j]=false),d⟩
     case measure=>simp[intOf];omega
  · have y:=hid (show-1=bX L q.data.toList from wR (fun j h=>z.out j h (by omega)))
    go_wp2_with fail;go_ret;exact⟨an y.out,d⟩
def fZ (x:En) (s:List En×Bool) (y:En):List En×Bool:=
 (if y.path.data.toList=x.path.data.toList then(if s.2=false∧Pp.lt y x=false then s.1++[x]else s.1)else(if s.2=false∧Pp.lt y x=false then s.1++[x]else s.1)++[y],s.2|| !(Pp.lt y x))
def cK (x:En) (L:List En):List En×Bool:=L.foldl (fZ x) ([],false)
def eZ (x:En) (L:List En):List En:=if(cK x L).2=true then(cK x L).1 else(cK x L).1++[x]
theorem qW (x:En) (A:List En) (y:En):cK x (A++[y])=fZ x (cK x A) y:=by rw[cK,List.foldl_append];rfl
theorem nW {x:En}: ∀{A:List En},(∀y∈A,Pp.lt y x=true)→ ∀B,br x (A++B)=A++br x B
 |[],_,_=>rfl
 |y::r,h,B=>by
  rw[List.cons_append,br,if_pos (h y (by simp)),nW (fun z a=>h z (by simp[a]))];rfl
theorem qX {x y:En} (h:Pp.lt y x=false): ∀K,br x (K++[y])=br x K++[y]
 |[]=>by simp[br,h]
 |z::r=>by
  rw[List.cons_append,br,br];split
  · rw[qX h r];rfl
  · rfl
theorem wS {x y:En} (h:y.path.data.toList=x.path.data.toList):aE x.path.data.toList y=true:=by rw[aE,h];exact beq_self_eq_true _
theorem nX {x y:En} (h: ¬y.path.data.toList=x.path.data.toList):aE x.path.data.toList y=false:=by rw[aE];exact beq_eq_false_iff_ne.2 h
theorem wT {x y:En} (h:y.path.data.toList=x.path.data.toList):bI x [y]=[]:=by rw[bI,List.filter_cons,wS h];rfl
theorem qY {x y:En} (h: ¬y.path.data.toList=x.path.data.toList):bI x [y]=[y]:=by rw[bI,List.filter_cons,nX h];rfl
theorem qZ {x:En} {A:List En} (h: ∀y∈A,Pp.lt y x=true):bI x A=A:=by
 rw[bI,List.filter_eq_self];intro y a;rw[nX (jV (h y a))];rfl
theorem q9 (x:En) (A B:List En):bI x (A++B)=bI x A++bI x B:=by rw[bI,List.filter_append];rfl
theorem rb {x x' y:En} (h:x.path.data.toList=x'.path.data.toList):Pp.lt y x=Pp.lt y x':=by
 rw[fK,fK];unfold Pp.cfE;rw[h]
theorem wU {x:En} {L:List En} (I:L.Pairwise (fun x y=>Pp.lt x y=true)): ∀k,k≤L.length→cK x (L.take k)=if(L.take k).all (fun y=>Pp.lt y x)=true then(L.take k,false)else(br x (bI x (L.take k)),true):=by
 intro k;induction k with
 |zero=>intro _;simp[cK]
 |succ k ih=>
  intro N;have E:k<L.length:=by omega
  have ih:=ih (by omega)
  have F: ∀z∈L.take k,Pp.lt z L[k]=true:=fun z G=>by
   obtain⟨i,M,rfl⟩:=List.getElem_of_mem G
   rw[List.length_take]at M;rw[List.getElem_take];exact List.pairwise_iff_getElem.1 I i k (by omega) E (by omega)
  rw[List.take_succ_eq_append_getElem E,qW,ih];generalize L[k]=y at*;generalize L.take k=A at*;cases a:A.all (fun y=>Pp.lt y x)with
  |true=>
   have H: ∀z∈A,Pp.lt z x=true:=fun z G=>List.all_eq_true.1 a z G
   cases d:Pp.lt y x with
   |true=>
    have J:=jV d;have ay:(A++[y]).all (fun y=>Pp.lt y x)=true:=by rw[List.all_append,a];simp[d]
    rw[if_pos rfl,if_pos ay,fZ];simp only[d,if_neg (show¬y.path.data.toList=x.path.data.toList from J)];simp
   |false=>
    have ay:(A++[y]).all (fun y=>Pp.lt y x)=false:=by rw[List.all_append,a];simp[d]
    rw[if_pos rfl,if_neg (by rw[ay];decide),fZ,q9,qZ H,nW H];by_cases f:y.path.data.toList=x.path.data.toList
    · have u:=wT f
      rw[u];simp only[f,d,br,if_true,if_false,and_self,Bool.false_eq_true,Bool.not_false,Bool.or_true,List.append_assoc,List.cons_append,List.nil_append]
    · have u:=qY f
      rw[u];simp only[f,d,br,if_true,if_false,and_self,Bool.false_eq_true,Bool.not_false,Bool.or_true,List.append_assoc,List.cons_append,List.nil_append]
  |false=>
   obtain⟨z,G,j⟩: ∃z∈A,Pp.lt z x=false:=by
    have:=List.all_eq_false.1 a
    simpa using this
   have o:=F z G
   have d:Pp.lt y x=false:=by
    cases K:Pp.lt y x with
    |false=>rfl
    |true=>rw[fu z y x o K]at j;cases j
   have f: ¬y.path.data.toList=x.path.data.toList:=fun e=>by
    rw[rb e,j]at o;cases o
   have ay:(A++[y]).all (fun y=>Pp.lt y x)=false:=by rw[List.all_append,a];rfl
   have u:=qY f;rw[if_neg (by decide),if_neg (by rw[ay];decide),fZ,q9,u,qX d];simp only[f,if_false,Bool.true_eq_false,false_and,Bool.true_or]
theorem lB {x:En} {L:List En} (f:L.Pairwise (fun x y=>Pp.lt x y=true)):eZ x L=br x (bI x L):=by
 have h:=wU (x:=x) f L.length (Nat.le_refl _);rw[List.take_length]at h;rw[eZ,h];cases a:L.all (fun y=>Pp.lt y x)with
 |true=>
  have d: ∀z∈L,Pp.lt z x=true:=fun z j=>List.all_eq_true.1 a z j
  have e:=nW d [];rw[List.append_nil]at e;rw[qZ d,e];simp[br]
 |false=>simp
theorem lC (L:List En) (v:Value) (x:En) (w:World) (hv:aj w v L) (hn:L.length≤1000000):
    Calls prog 211 #[v,.agg #[.string x.path,.bool x.folder,.string x.text,.int .i64 x.ver]] w fun e w'=> ∃u,e= .returned u∧w'.ownsRow w.heap.size 108 4 u (eZ x L).length (bw (eZ x L))∧Below w.heap.size w w':=by
 obtain⟨aQ,Q,T,U,V⟩:=info_parts Tryz.infoE
 obtain⟨a,CG,rfl,CE,CC,hL⟩:=hv
 have HL:Hid (∀i (h:i<L.length),∃b o,a=some ⟨b,o,none⟩∧b<w.heap.size∧cM w b (o+i*4) L[i]):=hL;clear hL;go_enter func211,ntmps211
 go_wp2_with fail;have HX:=hid (show∀k,∀h:k<L.length,cK x (L.take (k+1))=fZ x (cK x (L.take k)) L[k]from fun k h=>by rw[List.take_succ_eq_append_getElem h,qW]);go_loopw [5,6,7] (fun o pt i wr=> ∃k:Nat,k≤L.length∧i= .int .i64 k∧pt= .bool (cK x (L.take k)).2∧(cK x (L.take k)).1.length≤2*k∧wr.ownsRow (w.heap.size+1) 108 4 o (cK x (L.take k)).1.length (bw (cK x (L.take k)).1)∧Below (w.alloc (.cells #[.string x.path,.bool x.folder,.string x.text,.int .i64 x.ver] 108)).heap.size (w.alloc (.cells #[.string x.path,.bool x.folder,.string x.text,.int .i64 x.ver] 108)) wr) (fun _ _ i _=>L.length-(intOf i).toNat)
 case atStart=>exact⟨0,Nat.zero_le _,rfl,rfl,by simp[cK],World.ownsRow_nil _ _ _ _,Below.refl _ _⟩
 case round=>
  obtain⟨k,hk,rfl,rfl,C6,F,I⟩:=hrel
  obtain⟨r0,r1,r2,r3,C7,CF⟩:=cN I
  by_cases C9:k<L.length
  · obtain⟨b,o,rfl,hb,he⟩:=HL.out k C9
    obtain⟨c0,c1,c2,c3⟩:=he.below hb C7
    have N:=HX.out k C9;generalize cK x (L.take k)=S at*;obtain⟨X,pb⟩:=S
    simp only at C6 F;have H:=F.drew.drew;have j:=I.drew.drew;have K:=F.drew;have A:=I.drew;cases pb with
    |true=>
     cases hp:(L[k].path.toList==x.path.toList)with
     |true=>
      have M:L[k].path.data.toList=x.path.data.toList:=by rw[Lib.toList_data,Lib.toList_data]at hp;simpa using hp
      have G:=hid (show cK x (L.take (k+1))=(X,true)from by rw[N,fZ];simp only[M,if_true,Bool.true_eq_false,false_and,if_false,Bool.true_or]);clear N M;go_wp2_with fail;go_region
      go_wp2_with fail;go_region
      go_wp2_with fail;go_roundw
      case rel=>exact⟨k+1,by omega,by simp,by rw[G.out],by rw[G.out];simp only;omega,by rw[G.out];exact H,j⟩
      case measure=>simp[intOf];omega
     |false=>
      have M: ¬L[k].path.data.toList=x.path.data.toList:=by rw[Lib.toList_data,Lib.toList_data]at hp;simpa using hp
      have G:=hid (show cK x (L.take (k+1))=(X++[L[k]],true)from by rw[N,fZ];simp only[M,if_false,Bool.true_eq_false,false_and,Bool.true_or]);clear N M;go_wp2_with fail;go_region
      go_wp2_with fail;go_region
      go_wp2_with (at_builtin;refine wpList_append_own _ rfl _ _ 47 rfl (w.heap.size+1) 108 aQ (.agg #[.string ⟨#[]⟩,.bool false,.string ⟨#[]⟩,.int .i64 0]) 4 48 underlying47 Q T U V rfl (by decide) _ _ _ rfl (H.alloc _) ⟨wr.heap.size,0,none⟩ 1 1 (Pp.cells L[k]) rfl rfl (eW wr.drew.drew L[k] _) (Pp.cells_one _) (by unfold maxLen;omega) (by omega) (by have:=j.size;simp at this⊢;omega) ?_)
      intro v2 P E z J;have d:Below (w.alloc (.cells #[.string x.path,.bool x.folder,.string x.text,.int .i64 x.ver] 108)).heap.size (w.alloc (.cells #[.string x.path,.bool x.folder,.string x.text,.int .i64 x.ver] 108)) P:=(j.alloc j.size _).grown z (by have:=j.size;simp at this⊢;omega) (fun g Z=>by have:=(H.lt g Z).1;simp;omega);rw[fv]at E;have f:P.ownsRow (w.heap.size+1) 108 4 v2 (X++[L[k]]).length (bw (X++[L[k]])):=by rw[List.length_append];exact E
      clear E z J;have HO:=hid f;clear f F I H j K A c0 c1 c2 c3 r0 r1 r2 r3 he;go_wp2_with fail;go_roundw
      case rel=>exact⟨k+1,by omega,by simp,by rw[G.out],by rw[G.out,List.length_append];simp only[List.length_singleton];omega,by rw[G.out];exact HO.out,d⟩
      case measure=>simp[intOf];omega
    |false=>
     cases hl:Pp.lt L[k] x with
     |true=>
      have CD:Op.bytesLess L[k].path.toList x.path.toList=true:=hl
      have C8:Op.bytesLess x.path.toList L[k].path.toList=false:=by
       cases hh:Op.bytesLess x.path.toList L[k].path.toList with
       |false=>rfl
       |true=>have:=fu L[k] x L[k] hl hh;rw[ft]at this;cases this
      have M: ¬L[k].path.data.toList=x.path.data.toList:=jV hl;have hp:(L[k].path.toList==x.path.toList)=false:=by rw[Lib.toList_data,Lib.toList_data];exact beq_eq_false_iff_ne.2 M
      have G:=hid (show cK x (L.take (k+1))=(X++[L[k]],false)from by rw[N,fZ,hl];simp only[M,if_false,Bool.true_eq_false,and_false,Bool.not_true,Bool.or_false]);clear N M hl;go_wp2_with fail;go_region
      go_wp2_with fail;go_region
      go_wp2_with (at_builtin;refine wpList_append_own _ rfl _ _ 47 rfl (w.heap.size+1) 108 aQ (.agg #[.string ⟨#[]⟩,.bool false,.string ⟨#[]⟩,.int .i64 0]) 4 48 underlying47 Q T U V rfl (by decide) _ _ _ rfl (H.alloc _) ⟨wr.heap.size,0,none⟩ 1 1 (Pp.cells L[k]) rfl rfl (eW wr.drew.drew L[k] _) (Pp.cells_one _) (by unfold maxLen;omega) (by omega) (by have:=j.size;simp at this⊢;omega) ?_)
      intro v2 P E z J;have d:Below (w.alloc (.cells #[.string x.path,.bool x.folder,.string x.text,.int .i64 x.ver] 108)).heap.size (w.alloc (.cells #[.string x.path,.bool x.folder,.string x.text,.int .i64 x.ver] 108)) P:=(j.alloc j.size _).grown z (by have:=j.size;simp at this⊢;omega) (fun g Z=>by have:=(H.lt g Z).1;simp;omega);rw[fv]at E;have f:P.ownsRow (w.heap.size+1) 108 4 v2 (X++[L[k]]).length (bw (X++[L[k]])):=by rw[List.length_append];exact E
      clear E z J;have HO:=hid f;clear f F I H j K A c0 c1 c2 c3 r0 r1 r2 r3 he;go_wp2_with fail;go_roundw
      case rel=>exact⟨k+1,by omega,by simp,by rw[G.out],by rw[G.out,List.length_append];simp only[List.length_singleton];omega,by rw[G.out];exact HO.out,d⟩
      case measure=>simp[intOf];omega
     |false=>
      have CD:Op.bytesLess L[k].path.toList x.path.toList=false:=hl;cases hp:(L[k].path.toList==x.path.toList)with
      |true=>
       have M:L[k].path.data.toList=x.path.data.toList:=by rw[Lib.toList_data,Lib.toList_data]at hp;simpa using hp
       have C8:Op.bytesLess x.path.toList L[k].path.toList=false:=by
        have:=ft x
        rw[←rb (x:=L[k]) (x':=x) (y:=x) M]at this;exact this
       have G:=hid (show cK x (L.take (k+1))=(X++[x],true)from by rw[N,fZ,hl];simp only[M,if_true,and_self,Bool.not_false,Bool.or_true]);clear N M hl;go_wp2_with fail;go_region
       go_wp2_with (at_builtin;refine wpList_append_own _ rfl _ _ 47 rfl (w.heap.size+1) 108 aQ (.agg #[.string ⟨#[]⟩,.bool false,.string ⟨#[]⟩,.int .i64 0]) 4 48 underlying47 Q T U V rfl (by decide) _ _ _ rfl (K.alloc _) ⟨wr.heap.size,0,none⟩ 1 1 (Pp.cells x) rfl rfl (eW wr.drew x _) (Pp.cells_one _) (by unfold maxLen;omega) (by omega) (by have:=A.size;simp at this⊢;omega) ?_)
       intro v2 P E z J;have d:Below (w.alloc (.cells #[.string x.path,.bool x.folder,.string x.text,.int .i64 x.ver] 108)).heap.size (w.alloc (.cells #[.string x.path,.bool x.folder,.string x.text,.int .i64 x.ver] 108)) P:=(A.alloc A.size _).grown z (by have:=A.size;simp at this⊢;omega) (fun g Z=>by have:=(K.lt g Z).1;simp;omega);rw[fv]at E;have f:P.ownsRow (w.heap.size+1) 108 4 v2 (X++[x]).length (bw (X++[x])):=by rw[List.length_append];exact E
       clear E z J;obtain⟨s0,s1,s2,s3,O,C4⟩:=cN d
       obtain⟨d0,d1,d2,d3⟩:=he.below hb O
       have HO:=hid f;clear f F I H j K A c0 c1 c2 c3 r0 r1 r2 r3 he;go_wp2_with fail;go_region
       go_wp2_with fail;go_roundw
       case rel=>exact⟨k+1,by omega,by simp,by rw[G.out],by rw[G.out,List.length_append];simp only[List.length_singleton];omega,by rw[G.out];exact HO.out.drew,d.drew⟩
       case measure=>simp[intOf];omega
      |false=>
       have M: ¬L[k].path.data.toList=x.path.data.toList:=by rw[Lib.toList_data,Lib.toList_data]at hp;simpa using hp
       have C8:Op.bytesLess x.path.toList L[k].path.toList=true:=by
        cases hh:Op.bytesLess x.path.toList L[k].path.toList with
        |true=>rfl
        |false=>exact absurd (jq hl hh) M
       have G:=hid (show cK x (L.take (k+1))=(X++[x]++[L[k]],true)from by rw[N,fZ,hl];simp only[M,if_true,if_false,and_self,Bool.not_false,Bool.or_true]);clear N M hl;go_wp2_with fail;go_region
       go_wp2_with (at_builtin;refine wpList_append_own _ rfl _ _ 47 rfl (w.heap.size+1) 108 aQ (.agg #[.string ⟨#[]⟩,.bool false,.string ⟨#[]⟩,.int .i64 0]) 4 48 underlying47 Q T U V rfl (by decide) _ _ _ rfl (K.alloc _) ⟨wr.heap.size,0,none⟩ 1 1 (Pp.cells x) rfl rfl (eW wr.drew x _) (Pp.cells_one _) (by unfold maxLen;omega) (by omega) (by have:=A.size;simp at this⊢;omega) ?_)
       intro v2 P E z J;have d:Below (w.alloc (.cells #[.string x.path,.bool x.folder,.string x.text,.int .i64 x.ver] 108)).heap.size (w.alloc (.cells #[.string x.path,.bool x.folder,.string x.text,.int .i64 x.ver] 108)) P:=(A.alloc A.size _).grown z (by have:=A.size;simp at this⊢;omega) (fun g Z=>by have:=(K.lt g Z).1;simp;omega);rw[fv]at E;have f:P.ownsRow (w.heap.size+1) 108 4 v2 (X++[x]).length (bw (X++[x])):=by rw[List.length_append];exact E
       clear E z J;obtain⟨s0,s1,s2,s3,O,C4⟩:=cN d
       obtain⟨d0,d1,d2,d3⟩:=he.below hb O
       have CH:(X++[x]).length≤X.length+1:=by simp
       generalize X++[x]=Y at*;clear F I H j K A c0 c1 c2 c3 r0 r1 r2 r3;go_wp2_with fail;go_region
       go_wp2_with (at_builtin;refine wpList_append_own _ rfl _ _ 47 rfl (w.heap.size+1) 108 aQ (.agg #[.string ⟨#[]⟩,.bool false,.string ⟨#[]⟩,.int .i64 0]) 4 48 underlying47 Q T U V rfl (by decide) _ _ _ rfl (f.drew.alloc _) ⟨P.heap.size,0,none⟩ 1 1 (Pp.cells L[k]) rfl rfl (eW P.drew L[k] _) (Pp.cells_one _) (by unfold maxLen;omega) (by omega) (by have:=d.size;simp at this⊢;omega) ?_)
       intro v3 w3 E z J;have C5:Below (w.alloc (.cells #[.string x.path,.bool x.folder,.string x.text,.int .i64 x.ver] 108)).heap.size (w.alloc (.cells #[.string x.path,.bool x.folder,.string x.text,.int .i64 x.ver] 108)) w3:=(d.drew.alloc d.drew.size _).grown z (by have:=d.size;simp at this⊢;omega) (fun g Z=>by have:=(f.drew.lt g Z).1;simp;omega);rw[fv]at E;have C3:w3.ownsRow (w.heap.size+1) 108 4 v3 (Y++[L[k]]).length (bw (Y++[L[k]])):=by rw[List.length_append];exact E
       clear E z J;have HO:=hid C3;clear C3 f d d0 d1 d2 d3 s0 s1 s2 s3 he;go_wp2_with fail;go_roundw
       case rel=>exact⟨k+1,by omega,by simp,by rw[G.out],by rw[G.out,List.length_append];simp only[List.length_singleton];omega,by rw[G.out];exact HO.out,C5⟩
       case measure=>simp[intOf];omega
  · have ek:L.take k=L:=List.take_of_length_le (by omega)
    rw[ek]at F C6⊢;have hR:eZ x L=if(cK x L).2=true then(cK x L).1 else(cK x L).1++[x]:=rfl
    generalize cK x L=S at*;obtain⟨X,pb⟩:=S
    simp only at C6 F hR;cases pb with
    |true=>
     rw[if_pos rfl]at hR;have HR:=hid hR;clear hR;go_wp2_with fail;go_ret;exact⟨_,rfl,by rw[HR.out];exact Pp.own_mono F (by simp),C7⟩
    |false=>
     rw[if_neg (by decide)]at hR;have HR:=hid hR;clear hR;go_wp2_with (at_builtin;refine wpList_append_own _ rfl _ _ 47 rfl (w.heap.size+1) 108 aQ (.agg #[.string ⟨#[]⟩,.bool false,.string ⟨#[]⟩,.int .i64 0]) 4 48 underlying47 Q T U V rfl (by decide) _ _ _ rfl (F.alloc _) ⟨wr.heap.size,0,none⟩ 1 1 (Pp.cells x) rfl rfl (eW wr x _) (Pp.cells_one _) (by unfold maxLen;omega) (by omega) (by have:=I.size;simp at this⊢;omega) ?_)
     intro v2 P E z J;have d:Below (w.alloc (.cells #[.string x.path,.bool x.folder,.string x.text,.int .i64 x.ver] 108)).heap.size (w.alloc (.cells #[.string x.path,.bool x.folder,.string x.text,.int .i64 x.ver] 108)) P:=(I.alloc I.size _).grown z (by have:=I.size;simp at this⊢;omega) (fun g Z=>by have:=(F.lt g Z).1;simp;omega);rw[fv]at E;have f:P.ownsRow (w.heap.size+1) 108 4 v2 (X++[x]).length (bw (X++[x])):=by rw[List.length_append];exact E
     clear E z J;obtain⟨s0,s1,s2,s3,O,C4⟩:=cN d
     have HO:=hid f;clear f F I r0 r1 r2 r3 s0 s1 s2 s3;go_wp2_with fail;go_ret;exact⟨_,rfl,by rw[HR.out];exact Pp.own_mono HO.out (by simp),O⟩
end Go.Proofs.YtgamnckfmmbjdaaGreatDoor
