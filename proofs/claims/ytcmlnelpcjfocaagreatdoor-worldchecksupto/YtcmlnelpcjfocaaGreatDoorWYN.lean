/- Pages in memory. -/
import Derived.Test.YtcmlnelpcjfocaaGreatDoorWYK
import Derived.Test.YtcmlnelpcjfocaaGreatDoorShelfG
import Derived.Test.YtcmlnelpcjfocaaGreatDoorWYL
import Derived.SizedLaws
set_option linter.unusedSimpArgs false
set_option linter.unusedVariables false
namespace Go.Proofs.YtcmlnelpcjfocaaGreatDoor
open Go.RowKit Go.ChangeShapes Go.WideShapes Go.ChangeAt Go.Proofs.Tryz
set_option maxHeartbeats 4000000
set_option maxRecDepth 100000
structure Pg where
 reset:Bool
 tree:List En
 cos:List Co
 cur:Int
 more:Bool
def oI (w:World) (v:Value) (P:Pg):Prop:= ∃vt vc,v= .agg #[.bool P.reset,vt,vc,.int .i64 P.cur,.bool P.more]∧an w vt P.tree∧eG w vc P.cos
theorem oI.below {w w':World} {v:Value} {P:Pg} (h:oI w v P) (d:Below w.heap.size w w'):oI w' v P:=by
 obtain⟨E,A,f,y,z⟩:=h
 exact⟨E,A,f,y.below d,z.below d⟩
def kS (w:World) (g:Nat) (cb:Array Value) (pr:Gr→Bool):Prop:=
 (∀args w,(callFunc g args).run prog w= .ok (.enter g args) w)∧
 ∀(W:World),Below w.heap.size w W→ ∀e:Gr,Calls prog g (#[.agg #[.string e.fo,.string e.wh,.int .i64 e.ri]]++cb) W fun r W'=>r= .returned (.bool (pr e))∧Below W.heap.size W W'
theorem kS.below {w w':World} {g:Nat} {d:Array Value} {y:Gr→Bool} (h:kS w g d y) (f:Below w.heap.size w w'):kS w' g d y:=
 ⟨h.1,fun W z=>h.2 W (f.trans (z.mono f.size))⟩
def iZ (G:List Gr) (pr:Gr→Bool):Int:=match G.findIdx? pr with
 |some i=>(i:Int)
 |none=> -1
theorem Ct {G:List Gr} {d:Gr→Bool} {k:Nat} (f:k<G.length) (h: ∀j (h:j<G.length),j<k→d G[j]=false) (z:d G[k]=true):(k:Int)=iZ G d:=by
 have:G.findIdx? d=some k:=List.findIdx?_eq_some_iff_getElem.2 ⟨f,z,fun j y=>by rw[h j (by omega) y];simp⟩
 rw[iZ,this]
theorem Cu {G:List Gr} {d:Gr→Bool} (h: ∀j (h:j<G.length),d G[j]=false): -1=iZ G d:=by
 have:G.findIdx? d=none:=List.findIdx?_eq_none_iff.2 fun x y=>by
  obtain⟨j,f,rfl⟩:=List.getElem_of_mem y
  exact h j f
 rw[iZ,this]
theorem wB (G:List Gr) (f:Gr→Bool):(iZ G f= -1∧G.find? f=none∧G.any f=false)∨ ∃k,∃h:k<G.length,iZ G f=(k:Int)∧G.find? f=some G[k]∧G.any f=true:=by
 cases z:G.findIdx? f with
 |none=>
  have E:=List.findIdx?_eq_none_iff.1 z;refine Or.inl ⟨by rw[iZ,z],?_,?_⟩
  · rw[List.find?_eq_none]
    intro x A;simp[E x A]
  · exact List.any_eq_false.2 fun x A=>by simp[E x A]
 |some k=>
  obtain⟨d,F,y⟩:=List.findIdx?_eq_some_iff_getElem.1 z
  refine Or.inr ⟨k,d,by rw[iZ,z],?_,List.any_eq_true.2 ⟨G[k],List.getElem_mem d,F⟩⟩
  rw[List.find?_eq_some_iff_getElem];exact⟨F,k,d,rfl,fun j H=>by have:=y j H;simpa using this⟩
theorem oJ (G:List Gr) (v:Value) (g:Nat) (M:Array Value) (y:Gr→Bool) (w:World) (Z:cD w v G) (K:kS w g M y):
    Calls prog 105 #[v,.func (.func g) #[] M] w fun e w'=>e= .returned (.int .i64 (iZ G y))∧Below w.heap.size w w':=by
 obtain⟨a,V,rfl,N,J,z⟩:=Z
 have Q:Hid (∀i (h:i<G.length),∃b o,a=some ⟨b,o,none⟩∧b<w.heap.size∧fS w b (o+i*3) G[i]):=z;have P:=ak K;have eg:=K.1;clear z K;go_enter func105,ntmps105
 go_wp2_with fail;go_loopw [8] (fun i wr=> ∃k:Nat,k≤G.length∧i= .int .i64 k∧Hid (∀j (h:j<G.length),j<k→y G[j]=false)∧Below w.heap.size w wr) (fun i _=>G.length-(intOf i).toNat)
 case atStart=>exact⟨0,Nat.zero_le _,rfl,(fun j _ h=>absurd h (Nat.not_lt_zero _): ∀j (h:j<G.length),j<0→y G[j]=false),Below.refl _ _⟩
 case round=>
  obtain⟨k,hk,rfl,H,d⟩:=hrel
  by_cases E:k<G.length
  · obtain⟨b,o,rfl,hb,Y⟩:=Q.out k E
    obtain⟨S,T,U⟩:=Y.below hb d
    go_wp2_with fail;refine(P.out.2 _ d G[k]).mono ?_
    rintro e w1 ⟨rfl,A⟩;have f:=bn d A;clear S T U d A;cases O:y G[k]with
    |true=>
     have F:=hid (show(k:Int)=iZ G y from Ct E H.out O);go_wp2_with fail;go_ret;exact⟨aD F.out,f⟩
    |false=>
     have I:=hid (show∀j (h:j<G.length),j<k+1→y G[j]=false from fun j X h2=>by
      by_cases e:j=k
      · subst e;exact O
      · exact H.out j X (by omega))
     go_wp2_with fail;go_roundw
     case rel=>exact⟨k+1,by omega,by simp,I,f⟩
     case measure=>simp[intOf];omega
  · have F:=hid (show-1=iZ G y from Cu (fun j h=>H.out j h (by omega)))
    go_wp2_with fail;go_ret;exact⟨aD F.out,d⟩
theorem Cv (G:List Gr) (v:Value) (g:Nat) (I:Array Value) (z:Gr→Bool) (w:World) (K:cD w v G) (J:kS w g I z):
    Calls prog 260 #[v,.func (.func g) #[] I] w fun e w'=>e= .returned (.bool (G.any z))∧Below w.heap.size w w':=by
 have H:=ak K;have F:=ak J;clear K J;rcases wB G z with⟨y,_,f⟩|⟨k,N,y,_,f⟩
 · have E:=ak y
   have A:=ak f;clear y f;go_enter func260,ntmps260
   go_wp2_with fail;refine(oJ G _ _ _ z _ H.out F.out).mono ?_
   rintro e M ⟨rfl,d⟩;rw[E.out];go_wp2;go_ret;exact⟨by rw[A.out];rfl,d⟩
 · have E:=ak y
   have A:=ak f;clear y f;go_enter func260,ntmps260
   go_wp2_with fail;refine(oJ G _ _ _ z _ H.out F.out).mono ?_
   rintro e M ⟨rfl,d⟩;rw[E.out];go_wp2;go_ret;exact⟨by rw[A.out];rfl,d⟩
theorem Cw (G:List Gr) (v:Value) (g:Nat) (z:Array Value) (d:Gr→Bool) (w:World) (E:cD w v G) (A:kS w g z d):
    Calls prog 212 #[v,.func (.func g) #[] z] w fun e w'=>e= .returned (.bool (G.any d))∧Below w.heap.size w w':=by
 have I:=ak E;have F:=ak A;clear E A;go_enter func212,ntmps212
 go_wp2_with fail;refine(Cv G _ _ _ d _ I.out F.out).mono ?_
 rintro e J ⟨rfl,f⟩;obtain⟨r,y⟩: ∃r,G.any d=r:=⟨_,rfl⟩
 rw[y];have H:=ak y;clear y;go_wp2;go_ret;exact⟨by rw[H.out];rfl,f⟩
def kT (f:ByteArray) (e:Gr):Bool:=e.fo.toList==f.toList
def df (f:ByteArray) (e:Gr):Bool:=(e.fo.toList==f.toList) && (e.ri==3)
def ez (f h:ByteArray) (e:Gr):Bool:=(e.fo.toList==f.toList) && (e.wh.toList==h.toList)
theorem Cx (e:Gr) (f:ByteArray) (b:Nat) (w:World) (hb:b<w.heap.size) (z:w.cell? ⟨b,0,none⟩=some (.string f)):
    Calls prog 213 #[.agg #[.string e.fo,.string e.wh,.int .i64 e.ri],.pointer (some ⟨b,0,none⟩)] w fun r w'=>r= .returned (.bool (df f e))∧Below w.heap.size w w':=by
 have A: ∀o,(w.alloc o).cell? ⟨b,0,none⟩=some (.string f):=fun o=>(((Below.refl w.heap.size w).alloc (Nat.le_refl _) o).cell (p:=⟨b,0,none⟩) hb).trans z
 cases y:(e.fo.toList==f.toList)with
 |true=>
  have d:=hid (show(e.ri==3)=df f e from by rw[df,y];rfl);go_enter func213,ntmps213
  go_wp2;go_ret;exact⟨bt d.out,(Below.refl _ _).alloc (Nat.le_refl _) _⟩
 |false=>
  have d:=hid (show false=df f e from by rw[df,y];rfl);go_enter func213,ntmps213
  go_wp2;go_ret;exact⟨bt d.out,(Below.refl _ _).alloc (Nat.le_refl _) _⟩
theorem Cz (G:List Gr) (v:Value) (f:ByteArray) (w:World) (F:cD w v G):
    Calls prog 166 #[v,.string f] w fun e w'=>e= .returned (.bool (G.any (df f)))∧Below w.heap.size w w':=by
 have J:=ak F;clear F
 have A:kS (w.alloc (.cells #[.string f] 9)) 213 #[.pointer (some ⟨w.heap.size,0,none⟩)] (df f):=by
  refine⟨enters_of func213 (by kernel_rfl) rfl,fun W E e=>?_⟩
  exact Cx e f w.heap.size W (Nat.lt_of_lt_of_le (by simp) E.size) ((E.cell (p:=⟨w.heap.size,0,none⟩) (by simp)).trans (by simp))
 have I:=ak A;clear A;go_enter func166,ntmps166
 go_wp2_with fail;refine(Cw G _ _ _ (df f) _ (J.out.below ((Below.refl _ _).alloc (Nat.le_refl _) _)) I.out).mono ?_
 rintro e K ⟨rfl,d⟩;have y:=(zN d).2.1;obtain⟨r,z⟩: ∃r,G.any (df f)=r:=⟨_,rfl⟩
 rw[z];have H:=ak z;clear z;go_wp2;go_ret;exact⟨by rw[H.out];rfl,y⟩
def gS:List Gr→Int
 |[]=>0
 |g::r=>if cH g=0 then gS r else cH g
theorem rA: ∀{G:List Gr} {k:Nat} (d:k<G.length),(∀j (h:j<G.length),j<k→cH G[j]=0)→ ¬cH G[k]=0→gS G=cH G[k]
 |[],k,d,_,_=>absurd d (by simp)
 |g::r,0,_,_,hk=>by rw[gS,if_neg (show¬cH g=0 from hk)];rfl
 |g::r,k+1,d,h,hk=>by
  rw[gS,if_pos (show cH g=0 from h 0 (by simp) (by omega))];have:=rA (G:=r) (k:=k) (by simpa using d) (fun j f y=>h (j+1) (by simpa using f) (by omega)) hk
  rw[this];rfl
theorem rB: ∀{G:List Gr},(∀j (h:j<G.length),cH G[j]=0)→gS G=0
 |[],_=>rfl
 |g::r,h=>by
  rw[gS,if_pos (show cH g=0 from h 0 (by simp))];exact rB fun j d=>h (j+1) (by simpa using d)
def i6 (G:List Gr):Int:=if(G.all fun g=>G.any (df g.fo))=true then 0 else 5
def bG (G:List Gr):Int:=if 60<G.length then 2 else if¬gS G=0 then gS G else if fE G=false then 4 else i6 G
theorem rC {G:List Gr} (h:60<G.length):bG G=2:=if_pos h
theorem rD {G:List Gr} (h: ¬60<G.length) (d: ¬gS G=0):bG G=gS G:=by rw[bG,if_neg h,if_pos d]
theorem rE {G:List Gr} (h: ¬60<G.length) (d:gS G=0) (f:fE G=false):bG G=4:=by rw[bG,if_neg h,if_neg (fun x=>x d),if_pos f]
theorem rF {G:List Gr} (h: ¬60<G.length) (d:gS G=0) (f:fE G=true):bG G=i6 G:=by rw[bG,if_neg h,if_neg (fun x=>x d),if_neg (by rw[f];decide)]
theorem wC {G:List Gr} {k:Nat} (d:k<G.length) (h:G.any (df (G[k]).fo)=false):5=i6 G:=by
 rw[i6,if_neg];rw[List.all_eq_true];intro f;have:=f G[k] (List.getElem_mem d)
 rw[h]at this;cases this
theorem wD {G:List Gr} (h: ∀j (h:j<G.length),G.any (df (G[j]).fo)=true):0=i6 G:=by
 rw[i6,if_pos];rw[List.all_eq_true];intro x f;obtain⟨j,d,rfl⟩:=List.getElem_of_mem f
 exact h j d
theorem CA (G:List Gr) (v:Value) (w:World) (O:cD w v G):
    Calls prog 133 #[v] w fun e w'=>e= .returned (.int .i64 (i6 G))∧Below w.heap.size w w':=by
 have Q:=ak O;obtain⟨a,V,rfl,M,J,z⟩:=O
 have P:Hid (∀i (h:i<G.length),∃b o,a=some ⟨b,o,none⟩∧b<w.heap.size∧fS w b (o+i*3) G[i]):=z;clear z;go_enter func133,ntmps133
 go_wp2_with fail;go_loopw [7] (fun i wr=> ∃k:Nat,k≤G.length∧i= .int .i64 k∧Hid (∀j (h:j<G.length),j<k→G.any (df (G[j]).fo)=true)∧Below w.heap.size w wr) (fun i _=>G.length-(intOf i).toNat)
 case atStart=>exact⟨0,Nat.zero_le _,rfl,(fun j _ h=>absurd h (Nat.not_lt_zero _): ∀j (h:j<G.length),j<0→G.any (df (G[j]).fo)=true),Below.refl _ _⟩
 case round=>
  obtain⟨k,hk,rfl,K,d⟩:=hrel
  by_cases E:k<G.length
  · obtain⟨b,o,rfl,hb,he⟩:=P.out k E
    obtain⟨S,T,U⟩:=he.below hb d
    have I0:=d.size;go_wp2_with fail;refine(Cz G _ (G[k]).fo _ (Q.out.below (d.alloc d.size _))).mono ?_
    rintro e w1 ⟨rfl,A⟩;obtain⟨X,Y,Z,y,N⟩:=qw A
    have f:=bn d y;clear S T U d A y X Y Z;cases F:G.any (df (G[k]).fo)with
    |true=>
     have I:=hid (show∀j (h:j<G.length),j<k+1→G.any (df (G[j]).fo)=true from fun j h1 h2=>by
      by_cases e:j=k
      · subst e;exact F
      · exact K.out j h1 (by omega))
     clear F;go_wp2_with fail;go_roundw
     case rel=>exact⟨k+1,by omega,by simp,I,f⟩
     case measure=>simp[intOf];omega
    |false=>
     have H:=hid (show 5=i6 G from wC E F);clear F;go_wp2_with fail;go_ret;exact⟨aD H.out,f⟩
  · have H:=hid (show 0=i6 G from wD (fun j h=>K.out j h (by omega)))
    go_wp2_with fail;go_ret;exact⟨aD H.out,d⟩
theorem rG (G:List Gr) (v:Value) (w:World) (X:cD w v G) (V:jY G):
    Calls prog 90 #[v] w fun e w'=>e= .returned (.int .i64 (bG G))∧Below w.heap.size w w':=by
 have T:=ak X;have Z:=ak V;obtain⟨a,I0,rfl,U,Q,J⟩:=X
 have Y:Hid (∀i (h:i<G.length),∃b o,a=some ⟨b,o,none⟩∧b<w.heap.size∧fS w b (o+i*3) G[i]):=J;clear J V;by_cases z:60<G.length
 · have A:=hid (show 2=bG G from(rC z).symm)
   have I:60<(G.length:Int):=by omega
   go_enter func90,ntmps90
   go_wp2_with fail;go_ret;exact⟨aD A.out,Below.refl _ _⟩
 · have I: ¬60<(G.length:Int):=by omega
   go_enter func90,ntmps90
   go_wp2_with fail;go_loopw [11] (fun i wr=> ∃k:Nat,k≤G.length∧i= .int .i64 k∧Hid (∀j (h:j<G.length),j<k→cH G[j]=0)∧Below w.heap.size w wr) (fun i _=>G.length-(intOf i).toNat)
   case atStart=>exact⟨0,Nat.zero_le _,rfl,(fun j _ h=>absurd h (Nat.not_lt_zero _): ∀j (h:j<G.length),j<0→cH G[j]=0),Below.refl _ _⟩
   case round=>
    obtain⟨k,hk,rfl,M,f⟩:=hrel
    by_cases E:k<G.length
    · obtain⟨b,o,rfl,hb,he⟩:=Y.out k E
      obtain⟨c0,c1,c2⟩:=he.below hb f
      have K:=Z.out _ (List.getElem_mem E);go_wp2_with fail;refine(AS G[k] _ K.1 K.2).mono ?_
      rintro e w1 ⟨rfl,y⟩
      first
       |(have d:=bn f y)
       |(have d:=bn f (qw y).2.2.2.1)
      clear c0 c1 c2 f y;by_cases F:cH G[k]=0
      · rw[F]
        have O:=hid (show∀j (h:j<G.length),j<k+1→cH G[j]=0 from fun j h1 h2=>by
         by_cases e:j=k
         · subst e;exact F
         · exact M.out j h1 (by omega))
        clear F;go_wp2_with fail;go_roundw
        case rel=>exact⟨k+1,by omega,by simp,O,d⟩
        case measure=>simp[intOf];omega
      · have S:=rA E M.out F
        have A:=hid (show cH G[k]=bG G from by rw[rD z (by rw[S];exact F),S]);have hz:(cH G[k]==0)=false:=by simpa using F
        clear S F;generalize cH G[k]=x at*;go_wp2_with fail;go_ret;exact⟨aD A.out,d⟩
    · have H:=ak (rB (fun j h=>M.out j h (by omega)))
      clear M;go_wp2_with fail;refine(A1 G _ _ (T.out.below f) (by omega)).mono ?_
      rintro e w1 ⟨rfl,y⟩;have d:=bn f y;clear f y;cases N:fE G with
      |false=>
       have A:=hid (show 4=bG G from(rE z H.out N).symm);clear N;go_wp2_with fail;go_ret;exact⟨aD A.out,d⟩
      |true=>
       have A:=hid (show i6 G=bG G from(rF z H.out N).symm);clear N;go_wp2_with fail;refine(CA G _ _ (T.out.below d)).mono ?_
       rintro e w2 ⟨rfl,P⟩;go_wp2_with fail;go_ret;exact⟨aD A.out,bn d P⟩
theorem wE (x y:ByteArray):(Op.bytesLess x.toList y.toList=true∧Op.bytesLess y.toList x.toList=false∧(x.toList==y.toList)=false∧(y.toList==x.toList)=false)∨
    (Op.bytesLess x.toList y.toList=false∧Op.bytesLess y.toList x.toList=false∧(x.toList==y.toList)=true∧(y.toList==x.toList)=true)∨
    (Op.bytesLess x.toList y.toList=false∧Op.bytesLess y.toList x.toList=true∧(x.toList==y.toList)=false∧(y.toList==x.toList)=false):=by
 have f: ∀z:ByteArray,Op.bytesLess z.toList z.toList=false:=fun z=>fA ⟨z,false,z,0⟩
 have F:Op.bytesLess x.toList y.toList=true→Op.bytesLess y.toList x.toList=true→False:=fun A d=>by
  have:=hU ⟨x,false,x,0⟩ ⟨y,false,y,0⟩ ⟨x,false,x,0⟩ A d
  have E:=f x;rw[show Op.bytesLess x.toList x.toList=Pp.lt ⟨x,false,x,0⟩ ⟨x,false,x,0⟩from rfl,this]at E;cases E
 have ne: ∀a b:ByteArray,Op.bytesLess a.toList b.toList=true→(a.toList==b.toList)=false∧(b.toList==a.toList)=false:=fun a b h=>by
  constructor<;>(rw[beq_eq_false_iff_ne];intro e)
  · rw[e]at h;rw[f b]at h;cases h
  · rw[e]at h;rw[f a]at h;cases h
 cases A:Op.bytesLess x.toList y.toList with
 |true=>
  have d:Op.bytesLess y.toList x.toList=false:=by
   cases d:Op.bytesLess y.toList x.toList with
   |false=>rfl
   |true=>exact(F A d).elim
  exact Or.inl ⟨rfl,d,(ne x y A).1,(ne x y A).2⟩
 |false=>
  cases d:Op.bytesLess y.toList x.toList with
  |true=>exact Or.inr (Or.inr ⟨rfl,rfl,(ne y x d).2,(ne y x d).1⟩)
  |false=>
   have e:x.data.toList=y.data.toList:=lX (x:=⟨x,false,x,0⟩) (y:=⟨y,false,y,0⟩) A d;refine Or.inr (Or.inl ⟨rfl,rfl,?_,?_⟩)
   · rw[Lib.toList_data,Lib.toList_data,e];simp
   · rw[Lib.toList_data,Lib.toList_data,e];simp
theorem CB (G:List Gr) (v:Value) (f:ByteArray) (w:World) (Y:cD w v G):
    Calls prog 62 #[v,.string f] w fun e w'=>e= .returned (.bool (G.any (df f)))∧Below w.heap.size w w':=by
 obtain⟨a,S,rfl,O,I,A⟩:=Y
 have P:Hid (∀i (h:i<G.length),∃b o,a=some ⟨b,o,none⟩∧b<w.heap.size∧fS w b (o+i*3) G[i]):=A;clear A;obtain⟨r,J⟩: ∃r,r=G.any (df f):=⟨_,rfl⟩
 rw[←J];have N:=ak J;clear J;go_enter func62,ntmps62
 go_wp2_with fail;go_loopw [5] (fun i wr=> ∃k:Nat,k≤G.length∧i= .int .i64 k∧Hid (∀j (h:j<G.length),j<k→df f G[j]=false)∧Below w.heap.size w wr) (fun i _=>G.length-(intOf i).toNat)
 case atStart=>exact⟨0,Nat.zero_le _,rfl,(fun j _ h=>absurd h (Nat.not_lt_zero _): ∀j (h:j<G.length),j<0→df f G[j]=false),Below.refl _ _⟩
 case round=>
  obtain⟨k,hk,rfl,M,d⟩:=hrel
  by_cases E:k<G.length
  · obtain⟨b,o,rfl,hb,U⟩:=P.out k E
    obtain⟨c0,c1,c2⟩:=U.below hb d
    have Q:=hid (show df f G[k]=true→true=r from fun h=>by rw[N.out];exact(List.any_eq_true.2 ⟨G[k],List.getElem_mem E,h⟩).symm)
    have K:=hid (show df f G[k]=false→ ∀j (h:j<G.length),j<k+1→df f G[j]=false from fun X j z H=>by
     by_cases e:j=k
     · subst e;exact X
     · exact M.out j z (by omega))
    generalize G[k]=x at*;cases z:(x.fo.toList==f.toList)with
    |true=>
     by_cases H:x.ri=3
     · have F:=ak (Q.out (by rw[df,z,H];rfl))
       go_wp2_with fail;go_ret;exact⟨bt F.out,d⟩
     · have T:(x.ri==3)=false:=by simpa using H
       have y:=ak (K.out (by rw[df,z,T];rfl));go_wp2_with fail;go_roundw
       case rel=>exact⟨k+1,by omega,by simp,y,d⟩
       case measure=>simp[intOf];omega
    |false=>
     have y:=ak (K.out (by rw[df,z];rfl));go_wp2_with fail;go_roundw
     case rel=>exact⟨k+1,by omega,by simp,y,d⟩
     case measure=>simp[intOf];omega
  · have F:=hid (show false=r from by
     rw[N.out];symm
     rw[List.any_eq_false];intro x Z;obtain⟨j,V,rfl⟩:=List.getElem_of_mem Z
     rw[M.out j V (by omega)];decide)
    go_wp2_with fail;go_ret;exact⟨bt F.out,d⟩
theorem wF {a b:Gr} (h:Op.bytesLess a.fo.toList b.fo.toList=true∨((a.fo.toList==b.fo.toList)=true∧Op.bytesLess a.fo.toList b.fo.toList=false∧Op.bytesLess a.wh.toList b.wh.toList=true)):ex a b<0:=by
 rcases h with h|⟨d,f,y⟩
 · rw[ex,if_neg (by rw[dY,if_pos h];decide),dY,if_pos h];decide
 · rw[ex,if_pos (by rw[dY,if_neg (by rw[f];decide),if_pos d]),dY,if_pos y];decide
theorem rH {a b:Gr} (h:(Op.bytesLess a.fo.toList b.fo.toList=false∧(a.fo.toList==b.fo.toList)=false)∨((a.fo.toList==b.fo.toList)=true∧Op.bytesLess a.fo.toList b.fo.toList=false∧Op.bytesLess a.wh.toList b.wh.toList=false)):0≤ex a b:=by
 rcases h with⟨d,f⟩|⟨d,f,y⟩
 · have:dY a.fo b.fo=1:=by rw[dY,if_neg (by rw[d];decide),if_neg (by rw[f];decide)]
   rw[ex,if_neg (by rw[this];decide),this];decide
 · rw[ex,if_pos (by rw[dY,if_neg (by rw[f];decide),if_pos d]),dY,if_neg (by rw[y];decide)]
   split<;>decide
theorem CC (G:List Gr) (v:Value) (w:World) (hv:cD w v G) (hs:jY G):
    Calls prog 32 #[v] w fun e w'=>e= .returned (.int .i64 (bG G))∧Below w.heap.size w w':=by
 have HV:=ak hv;have HS:=ak hs;obtain⟨a,ID,rfl,IC,IA,I7⟩:=hv
 have HL:Hid (∀i (h:i<G.length),∃b o,a=some ⟨b,o,none⟩∧b<w.heap.size∧fS w b (o+i*3) G[i]):=I7;clear I7 hs;by_cases M:60<G.length
 · have E:=hid (show 2=bG G from(rC M).symm)
   have I6:60<(G.length:Int):=by omega
   go_enter func32,ntmps32
   go_wp2_with fail;go_ret;exact⟨aD E.out,Below.refl _ _⟩
 · have I6: ¬60<(G.length:Int):=by omega
   go_enter func32,ntmps32
   go_wp2_with fail;go_loopw [3] (fun i wr=> ∃k:Nat,k≤G.length∧i= .int .i64 k∧Hid (∀j (h:j<G.length),j<k→cH G[j]=0)∧Below w.heap.size w wr) (fun i _=>G.length-(intOf i).toNat)
   case atStart=>exact⟨0,Nat.zero_le _,rfl,(fun j _ h=>absurd h (Nat.not_lt_zero _): ∀j (h:j<G.length),j<0→cH G[j]=0),Below.refl _ _⟩
   case round=>
    obtain⟨k,hk,rfl,J,d⟩:=hrel
    by_cases S:k<G.length
    · obtain⟨b,o,rfl,hb,he⟩:=HL.out k S
      obtain⟨c0,c1,c2⟩:=he.below hb d
      have Ix:=HS.out _ (List.getElem_mem S)
      have F:=hid (show¬cH G[k]=0→cH G[k]=bG G from fun N=>by
       have A:=rA S J.out N;rw[rD M (by rw[A];exact N),A])
      have I5:=hid (show cH G[k]=0→ ∀j (h:j<G.length),j<k+1→cH G[j]=0 from fun N j Q h2=>by
       by_cases e:j=k
       · subst e;exact N
       · exact J.out j Q (by omega))
      generalize G[k]=x at*;go_wp2_with fail;refine(js x.fo _ Ix.1).mono ?_
      rintro e w1 ⟨rfl,hw⟩;rw[hw];clear hw w1;cases T:aM x.fo.data.toList with
      |false=>
       have A:cH x=1:=by rw[cH,if_neg (by rw[lw,T,Bool.false_and];decide)]
       have E:=hid (show 1=bG G from by rw[←A];exact F.out (by rw[A];decide));clear A;go_wp2_with fail;go_ret;exact⟨aD E.out,d⟩
      |true=>
       go_wp2_with fail;refine(js x.wh _ Ix.2).mono ?_
       rintro e w1 ⟨rfl,hw⟩;rw[hw];clear hw w1;cases Iw:aM x.wh.data.toList with
       |false=>
        have A:cH x=1:=by rw[cH,if_neg (by rw[lw,T,Iw];decide)]
        have E:=hid (show 1=bG G from by rw[←A];exact F.out (by rw[A];decide));clear A;go_wp2_with fail;go_ret;exact⟨aD E.out,d⟩
       |true=>
        have I:cH x=if x.ri<1∨3<x.ri then 3 else 0:=by rw[cH,if_pos (by rw[lw,T,Iw];rfl)]
        by_cases Q:x.ri<1
        · have A:cH x=3:=by rw[I,if_pos (Or.inl Q)]
          have E:=hid (show 3=bG G from by rw[←A];exact F.out (by rw[A];decide));clear A I;go_wp2_with fail;go_ret;exact⟨aD E.out,d⟩
        · by_cases h3:3<x.ri
          · have A:cH x=3:=by rw[I,if_pos (Or.inr h3)]
            have E:=hid (show 3=bG G from by rw[←A];exact F.out (by rw[A];decide));clear A I;go_wp2_with fail;go_ret;exact⟨aD E.out,d⟩
          · have A:cH x=0:=by rw[I,if_neg (by omega)]
            have H:=ak (I5.out A);clear A I;go_wp2_with fail;go_roundw
            case rel=>exact⟨k+1,by omega,by simp,H,d⟩
            case measure=>simp[intOf];omega
    · have Z:=ak (rB (fun j h=>J.out j h (by omega)))
      obtain⟨wx,U⟩: ∃wx,wx=wr:=⟨_,rfl⟩
      rw[←U];rw[←U]at d;clear U J hk;go_wp2_with fail;go_loopw [4] (fun i wr=> ∃m:Nat,(m=0∨m<G.length)∧i= .int .i64 ((m:Int)+1)∧Hid (∀j (h:j+1<G.length),j<m→ex G[j] G[j+1]<0)∧Below w.heap.size w wr) (fun i _=>G.length+2-(intOf i).toNat)
      case atStart=>exact⟨0,Or.inl rfl,rfl,(fun j _ h=>absurd h (Nat.not_lt_zero _): ∀j (h:j+1<G.length),j<0→ex G[j] G[j+1]<0),d⟩
      case round=>
       clear d;obtain⟨m,hk,rfl,J,d⟩:=hrel
       by_cases Iv:m+1<G.length
       · obtain⟨b,o,rfl,hb,he⟩:=HL.out (m+1) Iv
         obtain⟨b',o',Iy,Iz,IB⟩:=HL.out m (by omega)
         cases Iy
         obtain⟨c0,c1,c2⟩:=he.below hb d
         obtain⟨d0,d1,d2⟩:=IB.below Iz d
         have IE:(0:Int)≤(m:Int):=by omega
         have IF:(m:Int)<(G.length:Int):=by omega
         have IG:(m:Int)+1<(G.length:Int):=by omega
         have IH:(0:Int)≤(m:Int)+1:=by omega
         have II:((m:Int)+1).toNat=m+1:=by omega
         have IJ:IntKind.i64.wrap ((m:Int)+1-1)=(m:Int):=by rw[IntKind.wrap_i64];omega
         have IK:IntKind.i64.wrap (m:Int)=(m:Int):=by rw[IntKind.wrap_i64];omega
         have F:=hid (show 0≤ex G[m] G[m+1]→4=bG G from fun h=>(rE M Z.out (uN Iv h)).symm)
         have H:=hid (show ex G[m] G[m+1]<0→ ∀j (h:j+1<G.length),j<m+1→ex G[j] G[j+1]<0 from fun h0 j Q h2=>by
          by_cases e:j=m
          · subst e;exact h0
          · exact J.out j Q (by omega))
         generalize G[m]=x at*;generalize G[m+1]=y at*;rcases wE x.fo y.fo with⟨X,t2,Y,t4⟩|⟨X,t2,Y,t4⟩|⟨X,t2,Y,t4⟩
         · have HQ:=ak (H.out (wF (Or.inl X)))
           go_wp2_with fail;go_quiet (fail)
           generalize z:World.drewN wr _=O;have f:Below w.heap.size w O:=z▸⟨d.os,d.tape,d.output,d.size,d.block⟩;clear z;go_wp2_with fail;go_roundw
           case rel=>exact⟨m+1,by omega,by simp,HQ,f⟩
           case measure=>simp[intOf];omega
         · rcases wE x.wh y.wh with⟨r1,r2,r3,r4⟩|⟨r1,r2,r3,r4⟩|⟨r1,r2,r3,r4⟩
           · have HQ:=ak (H.out (wF (Or.inr ⟨Y,X,r1⟩)))
             go_wp2_with fail;go_quiet (fail)
             generalize z:World.drewN wr _=O;have f:Below w.heap.size w O:=z▸⟨d.os,d.tape,d.output,d.size,d.block⟩;clear z;go_wp2_with fail;go_roundw
             case rel=>exact⟨m+1,by omega,by simp,HQ,f⟩
             case measure=>simp[intOf];omega
           · have E:=ak (F.out (rH (Or.inr ⟨Y,X,r1⟩)))
             go_wp2_with fail;go_quiet (fail)
             generalize z:World.drewN wr _=O;have f:Below w.heap.size w O:=z▸⟨d.os,d.tape,d.output,d.size,d.block⟩;clear z;go_wp2_with fail;go_ret;exact⟨aD E.out,f⟩
           · have E:=ak (F.out (rH (Or.inr ⟨Y,X,r1⟩)))
             go_wp2_with fail;go_quiet (fail)
             generalize z:World.drewN wr _=O;have f:Below w.heap.size w O:=z▸⟨d.os,d.tape,d.output,d.size,d.block⟩;clear z;go_wp2_with fail;go_ret;exact⟨aD E.out,f⟩
         · have E:=ak (F.out (rH (Or.inl ⟨X,Y⟩)))
           go_wp2_with fail;go_quiet (fail)
           generalize z:World.drewN wr _=O;have f:Below w.heap.size w O:=z▸⟨d.os,d.tape,d.output,d.size,d.block⟩;clear z;go_wp2_with fail;go_ret;exact⟨aD E.out,f⟩
       · have P:fE G=true:=(ou G).2 fun j h=>J.out j h (by omega)
         have I0:=ak (rF M Z.out P);obtain⟨wy,V⟩: ∃wy,wy=wr:=⟨_,rfl⟩
         rw[←V];rw[←V]at d;clear V J hk P;go_wp2_with fail;go_loopw [5] (fun i wr=> ∃k:Nat,k≤G.length∧i= .int .i64 k∧Hid (∀j (h:j<G.length),j<k→G.any (df (G[j]).fo)=true)∧Below w.heap.size w wr) (fun i _=>G.length-(intOf i).toNat)
         case atStart=>exact⟨0,Nat.zero_le _,rfl,(fun j _ h=>absurd h (Nat.not_lt_zero _): ∀j (h:j<G.length),j<0→G.any (df (G[j]).fo)=true),d⟩
         case round=>
          clear d;obtain⟨k,hk,rfl,J,d⟩:=hrel
          by_cases I9:k<G.length
          · obtain⟨b,o,rfl,hb,he⟩:=HL.out k I9
            obtain⟨c0,c1,c2⟩:=he.below hb d
            go_wp2_with fail;refine(CB G _ (G[k]).fo _ (HV.out.below d)).mono ?_
            rintro e w1 ⟨rfl,I8⟩;have K:=bn d I8;clear c0 c1 c2 d I8;cases N:G.any (df (G[k]).fo)with
            |true=>
             have H:=hid (show∀j (h:j<G.length),j<k+1→G.any (df (G[j]).fo)=true from fun j Q h2=>by
              by_cases e:j=k
              · subst e;exact N
              · exact J.out j Q (by omega))
             clear N;go_wp2_with fail;go_roundw
             case rel=>exact⟨k+1,by omega,by simp,H,K⟩
             case measure=>simp[intOf];omega
            |false=>
             have E:=hid (show 5=bG G from(wC I9 N).trans I0.out.symm);clear N;go_wp2_with fail;go_ret;exact⟨aD E.out,K⟩
          · have E:=hid (show 0=bG G from(wD (fun j h=>J.out j h (by omega))).trans I0.out.symm)
            go_wp2_with fail;go_ret;exact⟨aD E.out,d⟩
def aT (x y:ByteArray):Bool:=Op.bytesLess x.toList y.toList
def rI (e:Gr):List Value:=[.string e.fo,.string e.wh,.int .i64 e.ri]
theorem gD (L:List En) (v:Value) (q:ByteArray) (w:World) (G:an w v L):
    Calls prog 67 #[v,.string q] w fun e w'=>e= .returned (.int .i64 (aP L q.data.toList))∧Below w.heap.size w w':=by
 have H:Hid (an w v L):=G;cases M:q.toList.isEmpty with
 |true=>
  have y:=hid (show 0=aP L q.data.toList from by rw[aP,if_pos ((iH q).1 M)]);clear G;go_enter func67,ntmps67
  go_wp2;go_ret;exact⟨aD y.out,Below.refl _ _⟩
 |false=>
  have f:=kF M;rcases np L q.data.toList with⟨E,A⟩|⟨k,V,E,A⟩
  · have F:Hid (db L q.data.toList= -1):=E
    have y:=hid (show 5=aP L q.data.toList from by rw[aP,if_neg f,A]);clear A f E G;go_enter func67,ntmps67
    go_wp2_with fail;refine(fR L v q _ H.out).mono ?_
    rintro e P ⟨rfl,d⟩;rw[F.out];go_wp2_with fail;go_ret;exact⟨aD y.out,d⟩
  · have F:Hid (db L q.data.toList=(k:Int)):=E
    have ae:aP L q.data.toList=if(L[k]).folder=true then 0 else 4:=by rw[aP,if_neg f,A]
    obtain⟨a,U,rfl,N,J,K⟩:=G
    obtain⟨b,o,rfl,hb,O⟩:=K k V
    have X:(k:Int)<L.length:=by omega
    clear A f E K;cases z:(L[k]).folder with
    |true=>
     have y:=hid (show 0=aP L q.data.toList from by rw[ae,z];rfl);clear ae;go_enter func67,ntmps67
     go_wp2_with fail;refine(fR L _ q _ H.out).mono ?_
     rintro e P ⟨rfl,d⟩;rw[F.out];obtain⟨Q,I,S,T⟩:=O.below hb d
     rw[z]at I;clear z;go_wp2_with fail;go_ret;exact⟨aD y.out,d⟩
    |false=>
     have y:=hid (show 4=aP L q.data.toList from by rw[ae,z];rfl);clear ae;go_enter func67,ntmps67
     go_wp2_with fail;refine(fR L _ q _ H.out).mono ?_
     rintro e P ⟨rfl,d⟩;rw[F.out];obtain⟨Q,I,S,T⟩:=O.below hb d
     rw[z]at I;clear z;go_wp2_with fail;go_ret;exact⟨aD y.out,d⟩
theorem Tryz.cellsSe:prog.cellsOf 142=5:=by kernel_rfl
theorem Tryz.cellsS9:prog.cellsOf 9=1:=by kernel_rfl
theorem Tryz.cellsS3:prog.cellsOf 3=1:=by kernel_rfl
theorem Tryz.bytesSe:prog.bytesOf 142=56:=by kernel_rfl
def oK {H:Type} (e:Se):DataW H:= .agg [.lit (.int .i64 e.nu),.lit (.string e.wh.data.toList),.lit (.string e.tx.data.toList),.lit (.int .i64 e.si),.lit (.int .i64 e.ti)]
theorem wG {f:Type} {l:List f} (h:l.length=5): ∃a b c d e,l=[a,b,c,d,e]:=by
 rcases l with _|⟨a,_|⟨b,_|⟨c,_|⟨d,_|⟨e,_|⟨y,r⟩⟩⟩⟩⟩⟩
 all_goals first|exact⟨a,b,c,d,e,rfl⟩|(simp at h)
theorem CD {W:World} {a:Addr} {v:Value} (k:W.cell? a=some v):a.spot=none:=by
 unfold World.cell? at k;cases d:a.spot with
 |none=>rfl
 |some z=>rw[d]at k;simp at k;split at k<;>cases k
theorem CE {H:Type} {enc:TypeId×Value→H} {P:Program} {w:World} {base:Nat} {d:Nat→Bool} {f:Bool} {t:TypeId} {y z A E F:Field} {fuel:Nat} {cs:List Value} {x:DataW H×List MemPlace} (Q:P.underlying t=some (.struct #[y,z,A,E,F])) (h:DataW.trod enc P w base d f fuel t cs=some x):
    ∃J K al M N n,x=(.agg [J.1,K.1,al.1,M.1,N.1],J.2++(K.2++(al.2++(M.2++N.2))))∧cs.length=P.cellsOf t∧DataW.trod enc P w base d f n y.type ((cs.drop y.offset).take (P.cellsOf y.type))=some J∧
     DataW.trod enc P w base d f n z.type ((cs.drop z.offset).take (P.cellsOf z.type))=some K∧DataW.trod enc P w base d f n A.type ((cs.drop A.offset).take (P.cellsOf A.type))=some al∧DataW.trod enc P w base d f n E.type ((cs.drop E.offset).take (P.cellsOf E.type))=some M∧DataW.trod enc P w base d f n F.type ((cs.drop F.offset).take (P.cellsOf F.type))=some N:=by
 obtain⟨xs,n,_,rfl,O,I,G⟩:=DataW.trod_struct Q h
 match xs,I with
 |[J,K,al,M,N],_=>exact⟨J,K,al,M,N,n,by simp,O,by simpa using G 0 y rfl,by simpa using G 1 z rfl,by simpa using G 2 A rfl,by simpa using G 3 E rfl,by simpa using G 4 F rfl⟩
theorem wH {H:Type} {P:Program} {e:TypeId}: ∀{l:List (DataW H)} {d:DataW H},d∈l→ ∀n∈d.weights P e,n∈DataW.weightsAll P e l
 |[],_,h=>by cases h
 |x::r,d,h=>by
  intro n f;rw[DataW.weightsAll];rcases List.mem_cons.1 h with rfl|h
  · exact List.mem_append_left _ f
  · exact List.mem_append_right _ (wH h n f)
theorem CF {H:Type} {enc:TypeId×Value→H} {W:World} {n i:Nat} {a:Addr} {x:DataW H} {pl:List MemPlace} {y:List Value} (ha:a.spot=none)
    (U:W.cells? 0 (a.add (i*prog.cellsOf 142)) (prog.cellsOf 142)=some y) (h2:DataW.trod enc prog W 0 (fun _=>true) true n 142 y=some (x,pl)):
    ∃e:Se,x=oK e∧a.spot=none∧ic W a.block (a.off+i*5) e:=by
 rw[Tryz.cellsSe]at U;obtain⟨_,A,z⟩:=World.cells?_some U
 obtain⟨y0,y1,al,y3,y4,F,E,_,bV,t1,t2,t3,t4⟩:=CE underlying142 h2
 obtain⟨O,P,Q,S,T,rfl⟩:=wG A
 have I:DataW.trod enc prog W 0 (fun _=>true) true F 3 [O]=some y0:=by simpa[Tryz.cellsS3]using bV
 have J:DataW.trod enc prog W 0 (fun _=>true) true F 9 [P]=some y1:=by simpa[Tryz.cellsS9]using t1
 have K:DataW.trod enc prog W 0 (fun _=>true) true F 9 [Q]=some al:=by simpa[Tryz.cellsS9]using t2
 have M:DataW.trod enc prog W 0 (fun _=>true) true F 3 [S]=some y3:=by simpa[Tryz.cellsS3]using t3
 have N:DataW.trod enc prog W 0 (fun _=>true) true F 3 [T]=some y4:=by simpa[Tryz.cellsS3]using t4
 obtain⟨s0,aL,g0,_⟩:=DataW.trod_int underlying3 I
 obtain⟨s1,e1,g1,_⟩:=DataW.trod_string underlying9 J
 obtain⟨s2,aE,g2,_⟩:=DataW.trod_string underlying9 K
 obtain⟨s3,e3,g3,_⟩:=DataW.trod_int underlying3 M
 obtain⟨s4,e4,g4,_⟩:=DataW.trod_int underlying3 N
 obtain rfl:O= .int .i64 s0:=by simpa using aL
 obtain rfl:P= .string s1:=by simpa using e1
 obtain rfl:Q= .string s2:=by simpa using aE
 obtain rfl:S= .int .i64 s3:=by simpa using e3
 obtain rfl:T= .int .i64 s4:=by simpa using e4
 subst g0;subst g1;subst g2;subst g3;subst g4;simp only[Prod.mk.injEq]at E;have V:=z 0 (by omega);have X:=z 1 (by omega);have Y:=z 2 (by omega);have Z:=z 3 (by omega);have k4:=z 4 (by omega);obtain⟨ab,ao,G⟩:=a
 obtain rfl:G=none:=ha;refine⟨⟨s0,s1,s2,s3,s4⟩,E.1,rfl,?_,?_,?_,?_,?_⟩
 · by_cases d:i=0
   · subst d;simpa[Addr.add]using V
   · have f:i*5≠0:=by omega
     simpa[Addr.add,f]using V
 · by_cases d:i=0
   · subst d;simpa[Addr.add]using X
   · have f:i*5≠0:=by omega
     simpa[Addr.add,f,Nat.add_assoc]using X
 · by_cases d:i=0
   · subst d;simpa[Addr.add]using Y
   · have f:i*5≠0:=by omega
     simpa[Addr.add,f,Nat.add_assoc]using Y
 · by_cases d:i=0
   · subst d;simpa[Addr.add]using Z
   · have f:i*5≠0:=by omega
     simpa[Addr.add,f,Nat.add_assoc]using Z
 · by_cases d:i=0
   · subst d;simpa[Addr.add]using k4
   · have f:i*5≠0:=by omega
     simpa[Addr.add,f,Nat.add_assoc]using k4
theorem CG {H:Type} {enc:TypeId×Value→H} {W:World} {v:Value} {d:DataW H} {p:List MemPlace} {fuel:Nat} (hf:DataW.trod enc prog W 0 (fun _=>true) true fuel 24 [v]=some (d,p)) (hk: ∀n∈d.weights prog 24,n≤reachBytes):
    ∃L:List Se,de W v L∧mg L:=by
 haveI:Inhabited Se:=⟨⟨0,⟨#[]⟩,⟨#[]⟩,0,0⟩⟩
 rcases Go.Deep.open_slice underlying24 hf with⟨z,Z⟩|⟨a,len,F,m,n,D,Pl,z,hb,hl,hm,N,Z,J⟩
 · obtain rfl:v= .slice none 0 0:=by simpa using z
   exact⟨[],AW _,fun e T=>by cases T⟩
 obtain rfl:v= .slice (some a) len F:=by simpa using z
 have X:m=F:=N.trans (if_pos rfl);clear N;have hd:=(Prod.mk.inj Z).1;clear Z;subst X
 have Y:0<len→a.spot=none:=fun h=>by
  obtain⟨Q,f,_⟩:=J 0 (by omega)
  rw[Tryz.cellsSe]at f;obtain⟨_,M,hc⟩:=World.cells?_some f
  obtain⟨c0,c1,c2,c3,c4,rfl⟩:=wG M
  have k0:=hc 0 (by omega);exact CD (v:=c0) (by simpa[Addr.add]using k0)
 have G: ∀i,i<len→ ∃e:Se,D i=oK e∧a.spot=none∧ic W a.block (a.off+i*5) e:=fun i A=>by
  obtain⟨Q,f,S⟩:=J i (by omega)
  exact CF (Y (by omega)) f S
 obtain⟨E,ae⟩:=Go.Deep.choose_lt G
 obtain⟨P,I⟩: ∃P,d= .slice ((List.range len).map D) P:=⟨_,hd⟩
 have y:(len+P.length)*56≤reachBytes:=by
  have:=hk ((len+P.length)*56) (by
   rw[I,DataW.weights];simp only[underlying24,Tryz.bytesSe,List.length_map,List.length_range];exact List.mem_cons_self ..)
  exact this
 have K: ∀i,i<len→ ∀n∈(D i).weights prog 142,n≤reachBytes:=fun i A n hn=>hk n (by
  rw[I,DataW.weights];simp only[underlying24];refine List.mem_cons_of_mem _ (List.mem_append_left _ (wH (List.mem_map.2 ⟨i,List.mem_range.2 A,rfl⟩) n hn)))
 have O:reachBytes=140737488351232:=by decide
 refine⟨(List.range len).map E,⟨some a,_,by simp;rfl,by simpa using hl,?_,fun i A=>?_⟩,fun e T=>?_⟩
 · rw[O]at y
   simp only[List.length_map,List.length_range];omega
 · have U:i<len:=by simpa using A
   obtain⟨f,S,h3⟩:=ae i U
   have V:a.block<W.heap.size:=by
    have k:=h3.1;rcases Nat.lt_or_ge a.block W.heap.size with h|h
    · exact h
    · unfold World.cell? at k;rw[Array.getElem?_eq_none h]at k;cases k
   refine⟨a.block,a.off,?_,V,by simpa using h3⟩
   rw[←S]
 · obtain⟨i,A,rfl⟩:=List.mem_map.1 T
   have f:=K i (List.mem_range.1 A);rw[(ae i (List.mem_range.1 A)).1]at f
   have hw:DataW.weights prog 142 (oK (H:=H) (E i))=[(E i).wh.data.toList.length,(E i).tx.data.toList.length]:=by
    rw[oK,DataW.weights];simp only[underlying142];simp[DataW.weightsEach,DataW.weights]
   rw[hw,O]at f;rw[Lib.size_eq,Lib.size_eq];have a1:=f _ (List.mem_cons_self ..);have a2:=f _ (List.mem_cons_of_mem _ (List.mem_cons_self ..));exact⟨by omega,by omega⟩
end Go.Proofs.YtcmlnelpcjfocaaGreatDoor
