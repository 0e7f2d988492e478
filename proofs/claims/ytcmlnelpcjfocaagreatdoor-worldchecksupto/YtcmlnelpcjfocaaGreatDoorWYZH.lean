/- What world.checkClients answers. -/
import Derived.Test.YtcmlnelpcjfocaaGreatDoorWYZC
import Derived.Test.YtcmlnelpcjfocaaGreatDoorWYZD
import Derived.Test.YtcmlnelpcjfocaaGreatDoorWYZE
set_option linter.unusedSimpArgs false
set_option linter.unusedVariables false
namespace Go.Proofs.YtcmlnelpcjfocaaGreatDoor
open Go.RowKit Go.Proofs.Tryz
set_option maxHeartbeats 4000000
set_option maxRecDepth 100000
def mP (w:World) (g:Nat) (cb:Array Value) (pr:Cn→Bool):Prop:=
 (∀args w,(callFunc g args).run prog w= .ok (.enter g args) w)∧
 ∀(W:World),Below w.heap.size w W→ ∀(c:Cn) (xa ya za:Option Addr) (xc yc zc:Nat),Calls prog g (#[.agg #[.string c.who,.string c.fo,.slice xa c.base.length xc,.int .i64 c.cur,.slice ya c.mine.length yc,.string c.key,.slice za c.ask.length zc,.int .i64 c.keys]]++cb) W fun r W'=>r= .returned (.bool (pr c))∧Below W.heap.size W W'
theorem mP.below {w w':World} {g:Nat} {d:Array Value} {y:Cn→Bool} (h:mP w g d y) (f:Below w.heap.size w w'):mP w' g d y:=
 ⟨h.1,fun W z=>h.2 W (f.trans (z.mono f.size))⟩
theorem E3 (c:Cn) (d:ByteArray) (y A F:Option Addr) (z E G b:Nat) (w:World) (hb:b<w.heap.size) (H:w.cell? ⟨b,0,none⟩=some (.string d)):
    Calls prog 52 #[.agg #[.string c.who,.string c.fo,.slice y c.base.length z,.int .i64 c.cur,.slice A c.mine.length E,.string c.key,.slice F c.ask.length G,.int .i64 c.keys],.pointer (some ⟨b,0,none⟩)] w fun e w'=>e= .returned (.bool (c.who.toList==d.toList))∧Below w.heap.size w w':=by
 have f: ¬b=w.heap.size:=by omega
 go_enter func52,ntmps52
 go_wp2;go_ret;exact⟨rfl,(Below.refl _ _).alloc (Nat.le_refl _) _⟩
theorem E4 {w:World} {b:Nat} {d:Cn} {ai:List Value} (h:Cs w b (.string d.who::ai)):mP w 52 #[.pointer (some ⟨b,0,none⟩)] (fun o=>o.who.toList==d.who.toList):=
 ⟨enters_of func52 (by kernel_rfl) rfl,fun W f c y A F z E G=>E3 c d.who y A F z E G b W (Nat.lt_of_lt_of_le h.lt f.size) ((h.below f).cell 0 rfl)⟩
def jj (l:List Cn) (pr:Cn→Bool):Int:=match l.findIdx? pr with
 |some i=>(i:Int)
 |none=> -1
theorem E5 {G:List Cn} {d:Cn→Bool} {k:Nat} (f:k<G.length) (h: ∀j (h:j<G.length),j<k→d G[j]=false) (z:d G[k]=true):(k:Int)=jj G d:=by
 have:G.findIdx? d=some k:=List.findIdx?_eq_some_iff_getElem.2 ⟨f,z,fun j y=>by rw[h j (by omega) y];simp⟩
 rw[jj,this]
theorem E6 {G:List Cn} {d:Cn→Bool} (h: ∀j (h:j<G.length),d G[j]=false): -1=jj G d:=by
 have:G.findIdx? d=none:=List.findIdx?_eq_none_iff.2 fun x y=>by
  obtain⟨j,f,rfl⟩:=List.getElem_of_mem y
  exact h j f
 rw[jj,this]
theorem E7 (G:List Cn) (d:Cn→Bool):(jj G d= -1∧G.any d=false)∨ ∃k:Nat,jj G d=(k:Int)∧G.any d=true:=by
 cases f:G.findIdx? d with
 |none=>
  have z:=List.findIdx?_eq_none_iff.1 f;exact Or.inl ⟨by rw[jj,f],List.any_eq_false.2 fun x E=>by simp[z x E]⟩
 |some k=>
  obtain⟨y,A,_⟩:=List.findIdx?_eq_some_iff_getElem.1 f
  exact Or.inr ⟨k,by rw[jj,f],List.any_eq_true.2 ⟨G[k],List.getElem_mem y,A⟩⟩
theorem E8 (G:List Cn) (v:Value) (g:Nat) (M:Array Value) (y:Cn→Bool) (w:World) (hv:eH w v G) (K:mP w g M y):
    Calls prog 95 #[v,.func (.func g) #[] M] w fun e w'=>e= .returned (.int .i64 (jj G y))∧Below w.heap.size w w':=by
 obtain⟨a,I0,rfl,N,J,z⟩:=hv
 have S:Hid (∀i (h:i<G.length),∃b o,a=some ⟨b,o,none⟩∧b<w.heap.size∧f9 w b (o+i*8) G[i]):=z;have Q:=hid K;have eg:=K.1;clear z K;go_enter func95,ntmps95
 go_wp2_with fail;go_loopw [8] (fun i wr=> ∃k:Nat,k≤G.length∧i= .int .i64 k∧Hid (∀j (h:j<G.length),j<k→y G[j]=false)∧Below w.heap.size w wr) (fun i _=>G.length-(intOf i).toNat)
 case atStart=>exact⟨0,Nat.zero_le _,rfl,(fun j _ h=>absurd h (Nat.not_lt_zero _): ∀j (h:j<G.length),j<0→y G[j]=false),Below.refl _ _⟩
 case round=>
  obtain⟨k,hk,rfl,H,d⟩:=hrel
  by_cases E:k<G.length
  · obtain⟨b,o,rfl,hb,O⟩:=S.out k E
    have gm:=(O.below hb (d.mono (Nat.le_refl _)))
    obtain⟨vb,vm,va,T,U,V,X,Y,Z,c6,c7,l1,l2,l3⟩:=gm
    obtain⟨xa,xc,rfl,_⟩:=l1
    obtain⟨ya,yc,rfl,_⟩:=l2
    obtain⟨za,zc,rfl,_⟩:=l3
    clear O;go_wp2_with fail;refine(Q.out.2 _ d G[k] xa ya za xc yc zc).mono ?_
    rintro e w1 ⟨rfl,A⟩;have f:=ag d A;clear T U V X Y Z c6 c7 d A;cases P:y G[k]with
    |true=>
     have F:=hid (show(k:Int)=jj G y from E5 E H.out P);go_wp2_with fail;go_ret;exact⟨by rw[F.out];rfl,f⟩
    |false=>
     have I:=hid (show∀j (h:j<G.length),j<k+1→y G[j]=false from fun j h1 h2=>by
      by_cases e:j=k
      · subst e;exact P
      · exact H.out j h1 (by omega))
     go_wp2_with fail;go_roundw
     case rel=>exact⟨k+1,by omega,by simp,I,f⟩
     case measure=>simp[intOf];omega
  · have F:=hid (show-1=jj G y from E6 (fun j h=>H.out j h (by omega)))
    go_wp2_with fail;go_ret;exact⟨by rw[F.out];rfl,d⟩
theorem E9 (G:List Cn) (v:Value) (g:Nat) (A:Array Value) (d:Cn→Bool) (w:World) (F:eH w v G) (E:mP w g A d):
    Calls prog 51 #[v,.func (.func g) #[] A] w fun e w'=>e= .returned (.bool (G.any d))∧Below w.heap.size w w':=by
 have K:=hid F;have I:=hid E;clear F E;rcases E7 G d with⟨z,f⟩|⟨k,z,f⟩
 all_goals
  have J:=hid z;have H:=hid f;clear z f;go_enter func51,ntmps51
  go_wp2_with fail;refine(E8 G _ _ _ d _ K.out I.out).mono ?_
  rintro e M ⟨rfl,y⟩;rw[J.out];go_wp2;go_ret;exact⟨by rw[H.out];rfl,y⟩
theorem Fa {w:World} {a:Option Addr} {l:List Cn} {n cap k:Nat} (h:eH w (.slice a n cap) l) (M:k≤l.length):eH w (.slice a k cap) (l.take k):=by
 obtain⟨G,H,F,I,J,y⟩:=h
 injection F with d aE f
 subst d;subst f;have E:(l.take k).length=k:=by rw[List.length_take];omega
 refine⟨_,_,by rw[E],by omega,by omega,fun i K=>?_⟩
 obtain⟨b,o,z,hb,A⟩:=y i (by omega)
 rw[List.getElem_take];exact⟨b,o,z,hb,A⟩
theorem Fb (l:List Cn) (v:Value) (w:World) (hv:eH w v l) (hs: ∀c∈l,iO c):
    Calls prog 24 #[v] w fun e w'=>e= .returned (.int .i64 (eS l))∧Below w.heap.size w w':=by
 have HV:=hid hv;have HS:=hid hs;obtain⟨a,I9,rfl,Iy,Ix,N⟩:=hv
 have HL:Hid (∀i (h:i<l.length),∃b o,a=some ⟨b,o,none⟩∧b<w.heap.size∧f9 w b (o+i*8) l[i]):=N;clear N hs;go_enter func24,ntmps24
 go_wp2_with fail;go_loopw [10] (fun i wr=> ∃k:Nat,k≤l.length∧i= .int .i64 k∧Hid (cX (l.take k)=0)∧Below w.heap.size w wr) (fun i _=>l.length-(intOf i).toNat)
 case atStart=>exact⟨0,Nat.zero_le _,rfl,(rfl:cX (l.take 0)=0),Below.refl _ _⟩
 case round=>
  obtain⟨k,hk,rfl,S,d⟩:=hrel
  by_cases A:k<l.length
  · obtain⟨b,o,rfl,hb,P⟩:=HL.out k A
    have gm:=P.below hb d;obtain⟨vb,vm,va,c0,c1,c2,c3,c4,c5,c6,c7,T,U,V⟩:=gm
    have M:=hid (show fU wr (.agg #[.string l[k].who,.string l[k].fo,vb,.int .i64 l[k].cur,vm,.string l[k].key,va,.int .i64 l[k].keys]) l[k]from⟨vb,vm,va,rfl,T,U,V⟩);obtain⟨X,Y,rfl,_⟩:=T
    obtain⟨Z,yc,rfl,_⟩:=U
    obtain⟨za,zc,rfl,_⟩:=V
    have I8:=hid (HS.out l[k] (List.getElem_mem A));clear P;go_wp2_with fail;refine(qA l[k] _ _ (M.out.below ((Below.refl _ _).alloc (Nat.le_refl _) _)) I8.out).mono ?_
    rintro e w1 ⟨rfl,O⟩;have f:Below w.heap.size w w1:=ag d (((Below.refl _ _).alloc (Nat.le_refl _) _).trans (O.mono (by simp)));clear c0 c1 c2 c3 c4 c5 c6 c7 O M d;by_cases G:bo l[k]=0
    · have I7:=hid (show cX (l.take (k+1))=0 from(rZ A S.out).trans G)
      rw[G];go_wp2_with fail;go_roundw
      case rel=>exact⟨k+1,by omega,by simp,I7,f⟩
      case measure=>simp[intOf];omega
    · have K:=hid (show eS l=bo l[k]from by
       have:=se A S.out G
       rw[eS,if_pos (by rw[this];exact G),this])
      have hz:(bo l[k]==0)=false:=by simpa using G
      have IA:(bo l[k] !=0)=true:=by simpa using G
      clear G;go_wp2_with fail;go_ret;exact⟨by rw[K.out];rfl,f⟩
  · have J:=hid (show cX l=0 from by
     have:=S.out
     rwa [List.take_of_length_le (by omega)]at this)
    obtain⟨w0,H⟩: ∃W,W=wr:=⟨_,rfl⟩
    have I0:=hid (show Below w.heap.size w w0 by rw[H];exact d);go_wp2_with fail;rw[←H];clear H d S;go_loopw [22] (fun i wr=> ∃m:Nat,m≤l.length∧i= .int .i64 m∧Hid (∀j (h:j<l.length),j<m→Wo.hasB (l.take j) l[j]=false)∧Below w.heap.size w wr) (fun i _=>l.length-(intOf i).toNat)
    case atStart=>exact⟨0,Nat.zero_le _,rfl,(fun j _ h=>absurd h (Nat.not_lt_zero _): ∀j (h:j<l.length),j<0→Wo.hasB (l.take j) l[j]=false),I0.out⟩
    case round=>
     obtain⟨m,hm,rfl,HM,d⟩:=hrel
     by_cases Q:m<l.length
     · obtain⟨b,o,rfl,hb,P⟩:=HL.out m Q
       have gm:=P.below hb d;obtain⟨vb,vm,va,c0,c1,c2,c3,c4,c5,c6,c7,T,U,V⟩:=gm
       obtain⟨X,Y,rfl,_⟩:=T
       obtain⟨Z,yc,rfl,_⟩:=U
       obtain⟨za,zc,rfl,_⟩:=V
       obtain⟨wz,E⟩: ∃W,W=wr.alloc (.cells #[.string l[m].who,.string l[m].fo,.slice X l[m].base.length Y,.int .i64 l[m].cur,.slice Z l[m].mine.length yc,.string l[m].key,.slice za l[m].ask.length zc,.int .i64 l[m].keys] 47):=⟨_,rfl⟩
       have Iw:Below wr.heap.size wr wz:=by rw[E];exact(Below.refl _ _).alloc (Nat.le_refl _) _
       have I5:=hid (show Cs wz wr.heap.size [.string l[m].who,.string l[m].fo,.slice X l[m].base.length Y,.int .i64 l[m].cur,.slice Z l[m].mine.length yc,.string l[m].key,.slice za l[m].ask.length zc,.int .i64 l[m].keys] by rw[E];exact Cs.new wr [.string l[m].who,.string l[m].fo,.slice X l[m].base.length Y,.int .i64 l[m].cur,.slice Z l[m].mine.length yc,.string l[m].key,.slice za l[m].ask.length zc,.int .i64 l[m].keys] _);have F:=ag d Iw;have Iz:(m:Int)≤I9:=by omega
       clear P;go_upto_region 11 with fail;try simp only[World.setCell_alloc_new]
       rw[←E];clear E c0 c1 c2 c3 c4 c5 c6 c7;go_wp2_with fail;refine(E9 (l.take m) _ _ _ (fun o=>o.who.toList==l[m].who.toList) wz (Fa (HV.out.below F) hm) (E4 I5.out)).mono ?_
       rintro e w2 ⟨rfl,Iv⟩;have y:=ag F Iv;cases I:Wo.hasB (l.take m) l[m]with
       |true=>
        have z:(l.take m).any (fun o=>o.who.toList==l[m].who.toList)=true:=I
        have K:=hid (show eS l=6 from by
         have:lJ l=true:=sj [] l m Q (by simpa using I)
         rw[eS,if_neg (fun x=>x J.out),if_pos this])
        rw[z];clear I z;go_wp2_with fail;go_ret;exact⟨by rw[K.out];rfl,y⟩
       |false=>
        have z:(l.take m).any (fun o=>o.who.toList==l[m].who.toList)=false:=I
        have I6:=hid (show∀j (h:j<l.length),j<m+1→Wo.hasB (l.take j) l[j]=false from fun j h1 h2=>by
         by_cases e:j=m
         · subst e;exact I
         · exact HM.out j h1 (by omega))
        rw[z];clear I z;go_wp2_with fail;go_roundw
        case rel=>exact⟨m+1,by omega,by simp,I6,y⟩
        case measure=>simp[intOf];omega
     · have K:=hid (show eS l=0 from by
        have:=sh [] l fun k hk=>by simpa using HM.out k hk (by omega)
        rw[eS,if_neg (fun x=>x J.out),if_neg (by rw[lJ,this];decide)])
       go_wp2_with fail;go_ret;exact⟨by rw[K.out];rfl,d⟩
theorem iB {d A:Type} {p:bk d} {f:d→bk A} {l r:List UInt8} {y:A}:aJ p f l=some (y,r)↔ ∃x E,p l=some (x,E)∧f x E=some (y,r):=by
 unfold aJ;cases h:p l with
 |none=>simp
 |some z=>
  obtain⟨x,E⟩:=z
  constructor
  · exact fun h=>⟨x,E,rfl,h⟩
  · rintro ⟨a,b,F,G⟩
    simp only[Option.some.injEq,Prod.mk.injEq]at F;obtain⟨rfl,rfl⟩:=F
    exact G
theorem kr {d:Type} {x y:d} {l r:List UInt8}:dJ x l=some (y,r)↔x=y∧l=r:=by simp[dJ]
def fL {α:Type} (p:bk α) (enc:α→List aN) (OK:α→Prop):Prop:= ∀l x r,p l=some (x,r)↔OK x∧l=Wr.bytes (enc x)++r
theorem dV {g:Int→Bool} (d: ∀n,g n=true→dq n):fL (aS g) (fun n=>[.n n]) (fun n=>g n=true):=fun l x r=>by
 rw[xe d];simp[Wr.bytes,aN.bytes]
theorem lO {g:Int→Bool} (y: ∀n,g n=true→dq n) (m:Int):fL (cO g m) (fun n=>[.n n]) (fun n=>g n=true∧0≤n∧n≤m):=fun l x r=>by
 unfold cO;rw[iB];constructor
 · rintro ⟨n,E,f,d⟩
   split at d
   · rename_i A
     simp only[Option.some.injEq,Prod.mk.injEq]at d;obtain⟨rfl,rfl⟩:=d
     have:=(dV y l n E).1 f
     exact⟨⟨this.1,A⟩,this.2⟩
   · cases d
 · rintro ⟨⟨f,d⟩,z⟩
   exact⟨x,r,(dV y l x r).2 ⟨f,z⟩,by rw[if_pos d]⟩
theorem eh {g:Int→Bool} (F: ∀n,g n=true→dq n) (m:Int):fL (bg g m) (fun x=>[.t x]) (fun x=>g x.size=true∧(x.size:Int)≤m):=fun l x r=>by
 unfold bg;rw[iB];constructor
 · rintro ⟨n,E,y,d⟩
   obtain⟨⟨z,G,A⟩,rfl⟩:=(lO F m l n E).1 y
   split at d
   · rename_i H
     simp only[Option.some.injEq,Prod.mk.injEq]at d;obtain⟨rfl,rfl⟩:=d
     obtain⟨k,rfl⟩: ∃k:Nat,n=k:=⟨n.toNat,by omega⟩
     have I:k≤E.length:=by omega
     have f:(⟨(E.take k).toArray⟩:ByteArray).size=k:=by rw[Lib.size_eq];simp;omega
     simp only[Int.toNat_natCast];refine⟨by rw[f];exact⟨z,A⟩,?_⟩
     simp only[Wr.bytes,List.flatMap_cons,List.flatMap_nil,aN.bytes,f,List.append_nil];simp
   · cases d
 · rintro ⟨⟨y,d⟩,rfl⟩
   have f:x.size=x.data.toList.length:=Lib.size_eq x;refine⟨x.size,x.data.toList++r,(lO F m _ _ _).2 ⟨⟨y,by omega,d⟩,by simp[Wr.bytes,aN.bytes]⟩,?_⟩
   rw[if_pos (by rw[List.length_append,←f];omega)];simp only[Int.toNat_natCast];rw[f,List.take_left,List.drop_left]
theorem po {d:Type} {p:bk d} {enc:d→List aN} {G:d→Prop} (E:fL p enc G): ∀n,fL (eC p n) (fun xs=>xs.flatMap enc) (fun xs=>xs.length=n∧ ∀x∈xs,G x)
 |0=>fun l xs r=>by
  rw[show eC p 0=dJ []from rfl,kr];constructor
  · rintro ⟨rfl,rfl⟩;simp[Wr.bytes]
  · rintro ⟨⟨f,_⟩,rfl⟩
    obtain rfl:=List.length_eq_zero_iff.1 f;simp[Wr.bytes]
 |n+1=>fun l xs r=>by
  rw[show eC p (n+1)=aJ p (fun x=>aJ (eC p n) fun xs=>dJ (x::xs))from rfl,iB];simp only[iB,kr];constructor
  · rintro ⟨x,H,f,F,J,A,rfl,rfl⟩
    obtain⟨I,rfl⟩:=(E l x H).1 f
    obtain⟨⟨b1,b2⟩,rfl⟩:=(po E n H F J).1 A
    refine⟨⟨by simp[b1],fun y z=>?_⟩,?_⟩
    · rcases List.mem_cons.1 z with rfl|z
      · exact I
      · exact b2 y z
    · rw[List.flatMap_cons,wV,List.append_assoc]
  · rintro ⟨⟨f,A⟩,rfl⟩
    match xs,f with
    |x::F,f=>
     refine⟨x,Wr.bytes (F.flatMap enc)++r,(E _ _ _).2 ⟨A x (by simp),by rw[List.flatMap_cons,wV,List.append_assoc]⟩,F,r,(po E n _ _ _).2 ⟨⟨by simpa using f,fun y z=>A y (by simp[z])⟩,rfl⟩,rfl,rfl⟩
theorem pp {d:Type} {p:bk d} {enc:d→List aN} {z:d→Prop} {g:Int→Bool} (A: ∀n,g n=true→dq n) (m:Nat) (G: ∀n:Nat,n≤m→g n=true) (E:fL p enc z):fL (dr g m p) (fun xs=>Wr.lst m enc xs) (fun xs=>xs.length≤m∧ ∀x∈xs,z x):=fun l xs r=>by
 unfold dr;rw[iB];constructor
 · rintro ⟨n,F,f,y⟩
   obtain⟨⟨H,I,J⟩,rfl⟩:=(lO A m l n F).1 f
   obtain⟨⟨b1,b2⟩,rfl⟩:=(po E _ F xs r).1 y
   have K:(xs.length:Int)=n:=by omega
   refine⟨⟨by omega,b2⟩,?_⟩
   dsimp only;rw[Wr.lst,if_pos (by omega),rQ,←K];simp[Wr.bytes]
 · rintro ⟨⟨f,y⟩,rfl⟩
   refine⟨xs.length,Wr.bytes (xs.flatMap enc)++r,(lO A m _ _ _).2 ⟨⟨G _ f,by omega,by omega⟩,?_⟩,(po E _ _ _ _).2 ⟨⟨by simp,y⟩,rfl⟩⟩
   dsimp only;rw[Wr.lst,if_pos f,rQ];simp[Wr.bytes]
structure lP (g:Int→Bool) (m:Int) (c:ay):Prop where
 k:g c.k=true
 b:g c.b=true
 p:g c.p.size=true∧(c.p.size:Int)≤m
 q:g c.q.size=true∧(c.q.size:Int)≤m
 t:g c.t.size=true∧(c.t.size:Int)≤m
theorem xQ {g:Int→Bool} (d: ∀n,g n=true→dq n) (m:Int):fL (dt g m) bI (lP g m):=fun l c r=>by
 unfold dt;simp only[iB,kr];constructor
 · rintro ⟨k,K,F,p,M,G,q,N,H,t,r4,I,b,O,J,rfl,rfl⟩
   obtain⟨f,rfl⟩:=(dV d _ _ _).1 F
   obtain⟨y,rfl⟩:=(eh d m _ _ _).1 G
   obtain⟨z,rfl⟩:=(eh d m _ _ _).1 H
   obtain⟨A,rfl⟩:=(eh d m _ _ _).1 I
   obtain⟨E,rfl⟩:=(dV d _ _ _).1 J
   exact⟨⟨f,E,y,z,A⟩,by simp[bI,Wr.bytes]⟩
 · rintro ⟨⟨f,E,y,z,A⟩,rfl⟩
   exact⟨_,_,(dV d _ c.k (Wr.bytes [.t c.p,.t c.q,.t c.t,.n c.b]++r)).2 ⟨f,by simp[bI,Wr.bytes]⟩,_,_,(eh d m _ c.p (Wr.bytes [.t c.q,.t c.t,.n c.b]++r)).2 ⟨y,by simp[Wr.bytes]⟩,_,_,(eh d m _ c.q (Wr.bytes [.t c.t,.n c.b]++r)).2 ⟨z,by simp[Wr.bytes]⟩,_,_,(eh d m _ c.t (Wr.bytes [.n c.b]++r)).2 ⟨A,by simp[Wr.bytes]⟩,_,_,(dV d _ c.b r).2 ⟨E,by simp[Wr.bytes]⟩,rfl,rfl⟩
structure mQ (g:Int→Bool) (m:Int) (q:Rq):Prop where
 kind:g q.kind=true
 who:g q.who.size=true∧(q.who.size:Int)≤m
 fo:g q.fo.size=true∧(q.fo.size:Int)≤m
 name:g q.name.size=true∧(q.name.size:Int)≤m
 key:g q.key.size=true∧(q.key.size:Int)≤m
 text:g q.text.size=true∧(q.text.size:Int)≤m
 num:g q.num=true
 off:g q.off=true
 base:g q.base=true
 ch:q.ch.length≤20∧ ∀c∈q.ch,lP g m c
theorem xR {g:Int→Bool} (f: ∀n,g n=true→dq n) (hm: ∀n:Nat,n≤20→g n=true) (m:Int):fL (dK g m) dE (mQ g m):=fun l q r=>by
 have Q:=fun l x r=>pp f 20 hm (xQ f m) l x r
 unfold dK;simp only[iB,kr];constructor
 · rintro ⟨k,r1,S,a,r2,T,b,r3,U,c,r4,V,d,r5,X,e,r6,Y,x,r7,Z,y,r8,h8,z,r9,h9,cs,I0,P,rfl,rfl⟩
   obtain⟨F,rfl⟩:=(dV f _ _ _).1 S
   obtain⟨G,rfl⟩:=(eh f m _ _ _).1 T
   obtain⟨H,rfl⟩:=(eh f m _ _ _).1 U
   obtain⟨I,rfl⟩:=(eh f m _ _ _).1 V
   obtain⟨J,rfl⟩:=(eh f m _ _ _).1 X
   obtain⟨K,rfl⟩:=(eh f m _ _ _).1 Y
   obtain⟨M,rfl⟩:=(dV f _ _ _).1 Z
   obtain⟨N,rfl⟩:=(dV f _ _ _).1 h8
   obtain⟨O,rfl⟩:=(dV f _ _ _).1 h9
   obtain⟨A,rfl⟩:=(Q _ _ _).1 P
   exact⟨⟨F,G,H,I,J,K,M,N,O,A⟩,by simp[dE,Wr.bytes]⟩
 · rintro ⟨⟨F,G,H,I,J,K,M,N,O,A⟩,rfl⟩
   obtain⟨k,a,b,c,d,e,x,y,z,cs⟩:=q
   have E:=rfl (a:=Wr.bytes (Wr.lst 20 bI cs)++r)
   exact⟨_,_,(dV f _ k (Wr.bytes [.t a,.t b,.t c,.t d,.t e,.n x,.n y,.n z]++(Wr.bytes (Wr.lst 20 bI cs)++r))).2 ⟨F,by simp[dE,Wr.bytes]⟩,
    _,_,(eh f m _ a (Wr.bytes [.t b,.t c,.t d,.t e,.n x,.n y,.n z]++(Wr.bytes (Wr.lst 20 bI cs)++r))).2 ⟨G,by simp[Wr.bytes]⟩,
    _,_,(eh f m _ b (Wr.bytes [.t c,.t d,.t e,.n x,.n y,.n z]++(Wr.bytes (Wr.lst 20 bI cs)++r))).2 ⟨H,by simp[Wr.bytes]⟩,
    _,_,(eh f m _ c (Wr.bytes [.t d,.t e,.n x,.n y,.n z]++(Wr.bytes (Wr.lst 20 bI cs)++r))).2 ⟨I,by simp[Wr.bytes]⟩,
    _,_,(eh f m _ d (Wr.bytes [.t e,.n x,.n y,.n z]++(Wr.bytes (Wr.lst 20 bI cs)++r))).2 ⟨J,by simp[Wr.bytes]⟩,
    _,_,(eh f m _ e (Wr.bytes [.n x,.n y,.n z]++(Wr.bytes (Wr.lst 20 bI cs)++r))).2 ⟨K,by simp[Wr.bytes]⟩,
    _,_,(dV f _ x (Wr.bytes [.n y,.n z]++(Wr.bytes (Wr.lst 20 bI cs)++r))).2 ⟨M,by simp[Wr.bytes]⟩,
    _,_,(dV f _ y (Wr.bytes [.n z]++(Wr.bytes (Wr.lst 20 bI cs)++r))).2 ⟨N,by simp[Wr.bytes]⟩,
    _,_,(dV f _ z (Wr.bytes (Wr.lst 20 bI cs)++r)).2 ⟨O,by simp[Wr.bytes]⟩,
    _,_,(Q _ cs r).2 ⟨A,rfl⟩,rfl,rfl⟩
theorem xS: ∀(l:List aN) (s:Ws),Wr.ok l=true→Wr.run s l=⟨s.l++Wr.bytes l,s.mn,s.fr⟩
 |[],s,_=>by simp[Wr.run,Wr.bytes]
 |x::l,s,h=>by
  simp only[Wr.ok,List.all_cons,Bool.and_eq_true]at h
  have f:Wr.put s x=⟨s.l++x.bytes,s.mn,s.fr⟩:=by
   cases x with
   |n i=>simp only[aN.ok]at h;simp[Wr.put,Wr.num,aN.bytes,h.1]
   |t x=>
    simp only[aN.ok,decide_eq_true_eq]at h;have d:eW (x.size:Int)=true:=by rw[i9];omega
    simp only[Wr.put,iy];rw[if_neg (by omega)];simp[Wr.num,aN.bytes,d]
   |big=>simp[aN.ok]at h
  rw[rP,f,xS l _ h.2,rQ];simp
theorem Fc (s:Ws) (x:aN):(s.mn=true∨s.fr=true∨x.ok=false)→((Wr.put s x).mn=true∨(Wr.put s x).fr=true):=by
 intro h;cases x with
 |n i=>simp only[Wr.put,Wr.num,aN.ok]at h⊢;rcases h with h|h|h<;>simp[h]
 |t x=>
  simp only[Wr.put,iy,aN.ok]at h⊢;split
  · simp[fY]
  · rename_i d
    simp only[Wr.num];rcases h with h|h|h
    · simp[h]
    · simp[h]
    · simp at h;omega
 |big=>simp[Wr.put,fY]
theorem xT: ∀(l:List aN) (s:Ws),(s.mn=true∨s.fr=true∨Wr.ok l=false)→((Wr.run s l).mn=true∨(Wr.run s l).fr=true)
 |[],s,h=>by simpa[Wr.ok,Wr.run]using h
 |x::l,s,h=>by
  rw[rP];refine xT l _ ?_
  by_cases d:s.mn=true∨s.fr=true∨x.ok=false
  · rcases Fc s x d with h|h<;>simp[h]
  · simp only[not_or,Bool.not_eq_false,Bool.not_eq_true]at d
    simp only[Wr.ok,List.all_cons,d.1,d.2.1,d.2.2,Bool.true_and]at h;exact Or.inr (Or.inr (by simpa[Wr.ok]using h))
theorem mR {l:List aN} (h:Wr.ok l=true):cI (Wr.run aL l)=(⟨(Wr.bytes l).toArray⟩,0):=by
 rw[xS l _ h];simp[cI,aL]
theorem xU {l:List aN} (h:Wr.ok l=false):(cI (Wr.run aL l)).2≠0∧(cI (Wr.run aL l)).1=⟨#[]⟩:=by
 rcases xT l aL (Or.inr (Or.inr h))with h|h
 · unfold cI;rw[if_pos h];exact⟨by decide,rfl⟩
 · unfold cI;split
   · exact⟨by decide,rfl⟩
   · exact⟨by decide,rfl⟩
theorem pq (a b:List aN):Wr.ok (a++b)=(Wr.ok a && Wr.ok b):=by simp[Wr.ok]
theorem pu {d:Type} (m:Nat) (y:m≤1000) (enc:d→List aN) (xs:List d):Wr.ok (Wr.lst m enc xs)=true↔xs.length≤m∧ ∀x∈xs,Wr.ok (enc x)=true:=by
 unfold Wr.lst;split
 · rename_i h
   have f:eW (xs.length:Int)=true:=by rw[i9];omega
   simp only[Wr.ok,List.all_cons,aN.ok,f,Bool.true_and,h,true_and,List.all_flatMap,List.all_eq_true]
 · rename_i h;simp[Wr.ok,aN.ok,h]
theorem xV (c:ay):Wr.ok (bI c)=true↔lP ah 1000 c:=by
 have E: ∀x:ByteArray,x.size≤1000↔ah x.size=true∧(x.size:Int)≤1000:=fun x=>by
  rw[ah,i9];omega
 simp only[Wr.ok,bI,List.all_cons,List.all_nil,aN.ok,Bool.and_eq_true,decide_eq_true_eq,Bool.and_true,E];constructor
 · rintro ⟨d,f,y,z,A⟩;exact⟨d,A,f,y,z⟩
 · rintro ⟨d,A,f,y,z⟩;exact⟨d,f,y,z,A⟩
theorem xW (q:Rq):Wr.ok (dE q)=true↔mQ ah 1000 q:=by
 have J: ∀x:ByteArray,x.size≤1000↔ah x.size=true∧(x.size:Int)≤1000:=fun x=>by
  rw[ah,i9];omega
 rw[dE,pq,Bool.and_eq_true,pu 20 (by omega)];simp only[xV];simp only[Wr.ok,List.all_cons,List.all_nil,aN.ok,Bool.and_eq_true,decide_eq_true_eq,Bool.and_true,J];constructor
 · rintro ⟨⟨f,y,z,A,E,F,G,H,I⟩,d⟩;exact⟨f,y,z,A,E,F,G,H,I,d⟩
 · rintro ⟨f,y,z,A,E,F,G,H,I,d⟩;exact⟨⟨f,y,z,A,E,F,G,H,I⟩,d⟩
theorem sG: ∀n:Nat,n≤60→ah n=true:=fun n h=>by rw[ah,i9];omega
theorem xX: ∀n:Nat,n≤60→aF n=true:=fun n h=>fZ _ (sG n h)
def dW (g:Int→Bool) (m:Int):bk En:=aJ (bg g m) fun p=>aJ (eB g) fun f=>aJ (bg g m) fun t=>aJ (aS g) fun v=>dJ ⟨p,f,t,v⟩
def dL (g:Int→Bool) (m:Int):bk Co:=aJ (aS g) fun n=>aJ (bg g m) fun k=>aJ (dr g 20 (dt g m)) fun cs=>dJ ⟨n,k,cs⟩
def jk (g:Int→Bool) (m:Int):bk Pg:=aJ (eB g) fun r=>aJ (dr g 60 (dW g m)) fun t=>aJ (dr g 10 (dL g m)) fun c=>aJ (aS g) fun u=>aJ (eB g) fun o=>dJ ⟨r,t,c,u,o⟩
def ei (g:Int→Bool) (m:Int):bk An:=aJ (aS g) fun e=>aJ (aS g) fun n=>aJ (jk g m) fun p=>dJ ⟨e,n,p⟩
theorem sH (g:Int→Bool) (m:Int):eX (dW g m):=eJ (ko g m) fun _=>eJ (mL g) fun _=>eJ (ko g m) fun _=>eJ (jL g) fun _=>lL _
theorem sI (g:Int→Bool) (m:Int):eX (dL g m):=eJ (jL g) fun _=>eJ (ko g m) fun _=>eJ (lM _ _ (ph _ _)) fun _=>lL _
theorem Fe (g:Int→Bool) (m:Int):eX (jk g m):=eJ (mL g) fun _=>eJ (lM _ _ (sH _ _)) fun _=>eJ (lM _ _ (sI _ _)) fun _=>eJ (jL g) fun _=>eJ (mL g) fun _=>lL _
theorem sJ {b:Nat} {l:List UInt8} {w:World} (h:Rd b l w) (H:l.length≤cE) (G:5<b) (A:aX w):
    Calls prog 181 #[.pointer (some ⟨b,0,none⟩)] w fun e w'=>bm b (eB ah l) (fun x v _=>v= .bool x) e w'∧w.grownBy w' (some b):=by
 cases f:cO ah 1 l with
 |none=>
  have E:=hid (nQ h H G A f);have F:=hid (show eB ah l=none from cJ f);clear h A f;go_enter func181,ntmps181
  go_wp2_with fail;refine E.out.mono ?_
  rintro e K ⟨rfl,d⟩;exact di rfl ⟨bm.no F.out rfl,d⟩
 |some z=>
  obtain⟨n,r⟩:=z
  have E:=hid (mB h H G A f);have F:=hid (show eB ah l=some (decide (n=1),r)from Wr.bind_some f);clear h A f;go_enter func181,ntmps181
  go_wp2_with fail;refine E.out.mono ?_
  rintro e K ⟨rfl,y,d⟩;have I:=hid y;clear y;go_wp2_with fail;go_ret;exact⟨bm.yes _ F.out rfl (by by_cases J:n=1<;>simp[J]) I.out,d⟩
structure R5 (w:World) (b g C R:Nat) (l:List UInt8) (cs zs:List Value) (W:World):Prop where
 r4:R4 w b C R l cs zs W
 box:cP W b g
 gC:g≠C
theorem R5.call {w W d:World} {b g C R:Nat} {l r:List UInt8} {cs zs:List Value} (h:R5 w b g C R l cs zs W) (f:W.grownBy d (some b)) (y:Rd b r d):R5 w b g C R r cs zs d:=⟨h.r4.call f y,h.box.nb f,h.gC⟩
theorem R5.set {w W:World} {b g C R:Nat} {l:List UInt8} {cs zs:List Value} (h:R5 w b g C R l cs zs W) (i:Nat) (v:Value):R5 w b g C R l (cs.set i v) zs (W.setCell ⟨C,i,none⟩ v):=⟨h.r4.set i v,h.box.nb' (ar W C i v) h.gC,h.gC⟩
theorem sK {w:World} {b g:Nat} {l:List UInt8} (cs zs:List Value) (T U:TypeId) (h:Rd b l w) (d:cP w b g) (f:5<b) (z:aX w):R5 w b g (w.heap.size+1) w.heap.size l cs zs ((w.alloc (.cells zs.toArray T)).alloc (.cells cs.toArray U)):=by
 have y:=cM d.1;have hb:Below w.heap.size w ((w.alloc (.cells zs.toArray T)).alloc (.cells cs.toArray U)):=(bO w _).trans ((bO _ _).mono (by simp));exact⟨sB cs zs T U h f z,d.below hb,by omega⟩
abbrev lQ:List Value:=[.string ⟨#[]⟩,.bool false,.string ⟨#[]⟩,.int .i64 0]
theorem Ff (b g:Nat) (l:List UInt8) (w:World) (h:Rd b l w) (hg:cP w b g) (hs:l.length≤cE) (V:5<b) (hv:aX w):
    Calls prog 183 #[.pointer (some ⟨g,0,none⟩)] w fun e w'=>bm b (dW ah 1000 l) (fun x v _=>v= .agg #[.string x.path,.bool x.folder,.string x.text,.int .i64 x.ver]) e w'∧w.grownBy w' (some b):=by
 have H:=hid (show dW ah 1000 l=dW ah 1000 l from rfl);conv at H=>arg 1;rhs;unfold dW
 generalize hP:dW ah 1000 l=I5 at*;clear hP;have Iz:=h.lt;have ID:=cM hg.1;have S:=hid (sK lQ lQ 107 107 h hg V hv);obtain⟨w0,Q⟩: ∃w0,w0=(w.alloc (.cells lQ.toArray 107)).alloc (.cells lQ.toArray 107):=⟨_,rfl⟩
 rw[←Q]at S;have T:=hid (show(w.alloc (.cells lQ.toArray 107)).alloc (.cells lQ.toArray 107)=w0 from Q.symm);have IA: ¬g=w.heap.size:=by omega
 have IB: ¬g=w.heap.size+1:=by omega
 have IC: ¬w.heap.size+1=g:=by omega
 clear Q hg;have PN:=hid (show∀(a:Act) (W:World),a.defers=[]→w.grownBy W (some b)→I5=none→bodyPost prog Tryz.f183 (fun e w'=>bm b I5 (fun x v _=>v= .agg #[.string x.path,.bool x.folder,.string x.text,.int .i64 x.ver]) e w'∧w.grownBy w' (some b)) (.panic [{v:= .iface 33 (.int .i64 1),recovered:=false}]) a W from fun a W hd hw hr=>di hd ⟨bm.no hr rfl,hw⟩);clear hv h;go_enter func183,ntmps183
 go_upto_region 2 with fail;rw[T.out];clear T;have P:=S.out.box.cell;go_wp2_with fail;refine(kZ S.out.r4.rd (by omega) V S.out.r4.v).mono ?_
 rintro e w1 ⟨y,X⟩;cases d:bg ah 1000 l with
 |none=>
  rw[d]at y;cases y
  exact PN.out _ _ rfl (aG S.out.r4.fr X) (H.out.trans (cJ d))
 |some z=>
 obtain⟨p,r1⟩:=z
 rw[d]at y;obtain⟨_,rfl,rfl,I7⟩:=y
 have M:=hid (H.out.trans (Wr.bind_some d));have s1:=ko _ _ _ _ _ d;have H1:=hid (S.out.call X I7);clear P;clear d H;have c0:=H1.out.r4.cC.cell 0 rfl;have f0:=H1.out.r4.cC.fr 0;have U:=H1.out.box.cell;obtain⟨u1,I⟩: ∃W,W=w1.setCell ⟨w.heap.size+1,0,none⟩ (.string p):=⟨_,rfl⟩
 have E:=hid (H1.out.set 0 (.string p));rw[←I]at E;go_upto_region 3 with fail;rw[←I];have Iw:=hid I;clear I c0 f0 U;have P:=E.out.box.cell;go_wp2_with fail;refine(sJ E.out.r4.rd (by omega) V E.out.r4.v).mono ?_
 rintro e w2 ⟨y,Y⟩;cases d:eB ah r1 with
 |none=>
  rw[d]at y;cases y
  exact PN.out _ _ rfl (aG E.out.r4.fr Y) (M.out.trans (cJ d))
 |some z=>
 obtain⟨f,r2⟩:=z
 rw[d]at y;obtain⟨_,rfl,rfl,I8⟩:=y
 have N:=hid (M.out.trans (Wr.bind_some d));have s2:=mL _ _ _ _ d;have H2:=hid (E.out.call Y I8);clear P;clear d M;have c1:=H2.out.r4.cC.cell 1 rfl;have f1:=H2.out.r4.cC.fr 1;have U:=H2.out.box.cell;obtain⟨u2,J⟩: ∃W,W=w2.setCell ⟨w.heap.size+1,1,none⟩ (.bool f):=⟨_,rfl⟩
 have F:=hid (H2.out.set 1 (.bool f));rw[←J]at F;go_upto_region 4 with fail;rw[←J];have Ix:=hid J;clear J c1 f1 U;have P:=F.out.box.cell;go_wp2_with fail;refine(kZ F.out.r4.rd (by omega) V F.out.r4.v).mono ?_
 rintro e w3 ⟨y,Z⟩;cases d:bg ah 1000 r2 with
 |none=>
  rw[d]at y;cases y
  exact PN.out _ _ rfl (aG F.out.r4.fr Z) (N.out.trans (cJ d))
 |some z=>
 obtain⟨t,r3⟩:=z
 rw[d]at y;obtain⟨_,rfl,rfl,I9⟩:=y
 have O:=hid (N.out.trans (Wr.bind_some d));have s3:=ko _ _ _ _ _ d;have H3:=hid (F.out.call Z I9);clear P;clear d N;have c2:=H3.out.r4.cC.cell 2 rfl;have f2:=H3.out.r4.cC.fr 2;have U:=H3.out.box.cell;obtain⟨u3,K⟩: ∃W,W=w3.setCell ⟨w.heap.size+1,2,none⟩ (.string t):=⟨_,rfl⟩
 have G:=hid (H3.out.set 2 (.string t));rw[←K]at G;go_upto_region 5 with fail;rw[←K];have Iy:=hid K;clear K c2 f2 U;have P:=G.out.box.cell;go_wp2_with fail;refine(kp G.out.r4.rd (by omega) V G.out.r4.v).mono ?_
 rintro e w4 ⟨y,I0⟩;cases d:aS ah r3 with
 |none=>
  rw[d]at y;cases y
  exact PN.out _ _ rfl (aG G.out.r4.fr I0) (O.out.trans (cJ d))
 |some z=>
 obtain⟨vr,r4⟩:=z
 rw[d]at y;obtain⟨_,rfl,rfl,Iv⟩:=y
 have I6:=hid (O.out.trans (Wr.bind_some d));have s4:=jL _ _ _ _ d;have A:=hid (G.out.call I0 Iv);clear P;clear d O;have c3:=A.out.r4.cC.cell 3 rfl;have f3:=A.out.r4.cC.fr 3;have y0:=A.out.r4.cC.cell 0 rfl;have y1:=A.out.r4.cC.cell 1 rfl;have al:=A.out.r4.cC.cell 2 rfl;have v0:=A.out.r4.cR.cell 0 rfl;have x0:=A.out.r4.cR.fr 0;have v1:=A.out.r4.cR.cell 1 rfl;have x1:=A.out.r4.cR.fr 1;have v2:=A.out.r4.cR.cell 2 rfl;have aY:=A.out.r4.cR.fr 2;have v3:=A.out.r4.cR.cell 3 rfl;have x3:=A.out.r4.cR.fr 3;have n3: ¬w.heap.size=w.heap.size+1:=by omega
 have n4: ¬w.heap.size+1=w.heap.size:=by omega
 go_wp2_with fail;have nR:b≠w.heap.size:=by omega
 have nC:b≠w.heap.size+1:=by omega
 have l1:w.heap.size≤w.heap.size+1:=by omega
 have l0:w.heap.size≤w.heap.size:=by omega
 refine bodyPost_ret (v:= .agg #[.string p,.bool f,.string t,.int .i64 vr]) (by simp[results,results183,go_sem,n3,n4,v0,v1,v2,v3]) rfl ⟨bm.yes _ I6.out rfl ?_ ?_,?_⟩
 · rfl
 · exact(A.out.r4.rd.set' nC _|>.set' nR _|>.set' nR _|>.set' nR _|>.set' nR _)
 · exact(bU (bU (bU (bU (bU A.out.r4.fr l1 _) l0 _) l0 _) l0 _) l0 _)
theorem xY (b i:Nat) (s:ByteArray) (bad:Bool) (w:World) (h:Sc b s i bad w) (hi:i≤s.size) (hs:s.size≤140737488351232):
    Calls prog 38 #[.pointer (some ⟨b,0,none⟩)] w fun e w'=>pn b i s bad w (kn (s.data.toList.drop i)) e w':=by
 have HS:=hid hs;have HH:=hid h;obtain⟨G,I⟩: ∃x,x=kY (s.data.toList.drop i):=⟨_,rfl⟩
 have Q:=hid I
 have I6:i<s.size→ ∀Z,G=((s[i]'Z).toNat==(45:Int)):=fun hl Z=>by
  rw[I,Wr.drop_at (nU hl),Wr.sgn_cons,nV hl]
 have S: ¬i<s.size→G=false:=fun hl=>by
  rw[I,List.drop_eq_nil_of_le (by rw[←Lib.size_eq];omega)];rfl
 have V:=hid (And.intro I6 S);obtain⟨Iw,K⟩: ∃x,x=kn (s.data.toList.drop i):=⟨_,rfl⟩
 rw[←K];have I5:=hid K;have c1:=h.cs.cell 1 rfl;have c0:=h.cs.cell 0 rfl;clear I I6 S hs h K;go_enter func38,ntmps38
 go_wp2_with fail;go_cut [4] (fun x W=>x= .bool G∧Hid (Sc b s i bad W)∧Hid (w.grownBy W (some b)))
 case first=>
  by_cases f:i<s.size
  · have l1:(i:Int)<s.size:=by omega
    have O:=V.out.1 f f;cases hq:((s[i].toNat:Int)==45)with
    |true=>
     rw[hq]at O;go_quiet (fail)
     clear hq;generalize d:World.drewN w _=z;have A:=hid (d▸HH.out.drewN:Sc b s i bad z);have E:=hid (d▸fK w b _:w.grownBy z (some b));clear d;go_wp2_with fail;go_meet
     case rel=>exact⟨by rw[O],A,E⟩
    |false=>
     rw[hq]at O;go_quiet (fail)
     clear hq;generalize d:World.drewN w _=z;have A:=hid (d▸HH.out.drewN:Sc b s i bad z);have E:=hid (d▸fK w b _:w.grownBy z (some b));clear d;go_wp2_with fail;go_meet
     case rel=>exact⟨by rw[O],A,E⟩
  · have l1: ¬(i:Int)<s.size:=by omega
    have O:=V.out.2 f;go_quiet (fail)
    generalize d:World.drewN w _=z;have A:=hid (d▸HH.out.drewN:Sc b s i bad z);have E:=hid (d▸fK w b _:w.grownBy z (some b));clear d;go_wp2_with fail;go_meet
    case rel=>exact⟨by rw[O],A,E⟩
 case rest=>
  obtain⟨rfl,HA,U⟩:=hcut
  obtain⟨j,Y⟩: ∃j:Nat,j=if G=true then i+1 else i:=⟨_,rfl⟩
  have Iy:j≤s.size:=by
   rw[Y];split
   · rename_i O
     rcases Nat.lt_or_ge i s.size with h1|h1
     · omega
     · rw[V.out.2 (by omega)]at O;cases O
   · exact hi
  have HJ:=hid (show gj (s.data.toList.drop i)=eT 0 (s.data.toList.drop j)from by
   rw[gj,←Q.out,Y];split
   · rw[List.drop_drop]
   · rfl)
  have Iz:IntKind.i64.wrap ((i:Int)+1)=i+1:=by have:=HS.out;rw[IntKind.wrap_i64]<;>omega
  clear c0 c1;go_upto_if 32 with(fail);go_cut [4] (fun x W=>x= .bool G∧Hid (Sc b s j bad W)∧Hid (w.grownBy W (some b)))
  case first=>
   have c1:=HA.out.cs.cell 1 rfl;have f1:=HA.out.cs.fr 1;cases F:G with
   |true=>
    rw[F]at Y;obtain rfl:j=i+1:=Y;have A:=hid (HA.out.set (i+1));have E:=hid (aG U.out (ar wc b 1 (.int .i64 ((i:Nat)+1:Nat))));go_wp2_with fail;go_meet
    case rel=>exact⟨by rw[F],A,E⟩
   |false=>
    rw[F]at Y;obtain rfl:j=i:=Y;go_wp2_with fail;go_meet
    case rel=>exact⟨by rw[F],HA,U⟩
  case rest=>
   obtain⟨rfl,HB,I0⟩:=hcut
   clear HA U Iz;go_wp2_with fail;go_loopw [5] (fun n wr=> ∃k v:Nat,n= .int .i64 v∧k≤s.size∧i≤k∧v≤20000000000000000∧Hid (Sc b s k bad wr)∧Hid (w.grownBy wr (some b))∧Hid (gj (s.data.toList.drop i)=eT v (s.data.toList.drop k))) (fun _ W=>s.size-pk b W)
   case atStart=>exact⟨j,0,rfl,Iy,(by rw[Y];split<;>omega),by omega,HB,I0,HJ⟩
   case round=>
    obtain⟨k,v,rfl,Z,Ix,hv,M,J,HK⟩:=hrel
    have I9:=hid M.out.at
    obtain⟨t,I7⟩: ∃t:Bool,(t=true↔ ∃Z:k<s.size,gZ s[k]=true∧v<1125899906842624):=by
     by_cases hp: ∃Z:k<s.size,gZ s[k]=true∧v<1125899906842624
     · exact⟨true,fun _=>hp,fun _=>rfl⟩
     · exact⟨false,(fun h=>by cases h),fun h=>absurd h hp⟩
    have H:=hid I7;clear I7 HB I0;go_wp2_with fail;go_cut [77] (fun x W=>x= .bool t∧Hid (Sc b s k bad W)∧Hid (w.grownBy W (some b)))
    case first=>
     have c0:=M.out.cs.cell 0 rfl;have c1:=M.out.cs.cell 1 rfl;by_cases f:k<s.size
     · have l1:(k:Int)<s.size:=by omega
       by_cases IA:(48:Int)≤s[k].toNat
       · by_cases IC:(s[k].toNat:Int)≤57
         · by_cases IB:(v:Int)<1125899906842624
           · have P:t=true:=H.out.2 ⟨f,by simp only[gZ,Bool.and_eq_true,decide_eq_true_eq];omega,by omega⟩
             go_quiet (fail)
             generalize d:World.drewN wr _=z;have A:=hid (d▸M.out.drewN:Sc b s k bad z);have E:=hid (aG J.out (d▸fK wr b _:wr.grownBy z (some b)));clear d;go_wp2_with fail;go_meet
             case rel=>exact⟨by rw[P],A,E⟩
           · have P:t=false:=by
              cases t with
              |false=>rfl
              |true=>obtain⟨_,_,h⟩:=H.out.1 rfl;omega
             go_quiet (fail)
             generalize d:World.drewN wr _=z;have A:=hid (d▸M.out.drewN:Sc b s k bad z);have E:=hid (aG J.out (d▸fK wr b _:wr.grownBy z (some b)));clear d;go_wp2_with fail;go_meet
             case rel=>exact⟨by rw[P],A,E⟩
         · have P:t=false:=by
            cases t with
            |false=>rfl
            |true=>obtain⟨_,h,_⟩:=H.out.1 rfl;simp only[gZ,Bool.and_eq_true,decide_eq_true_eq]at h;omega
           go_quiet (fail)
           generalize d:World.drewN wr _=z;have A:=hid (d▸M.out.drewN:Sc b s k bad z);have E:=hid (aG J.out (d▸fK wr b _:wr.grownBy z (some b)));clear d;go_wp2_with fail;go_meet
           case rel=>exact⟨by rw[P],A,E⟩
       · have P:t=false:=by
          cases t with
          |false=>rfl
          |true=>obtain⟨_,h,_⟩:=H.out.1 rfl;simp only[gZ,Bool.and_eq_true,decide_eq_true_eq]at h;omega
         go_quiet (fail)
         generalize d:World.drewN wr _=z;have A:=hid (d▸M.out.drewN:Sc b s k bad z);have E:=hid (aG J.out (d▸fK wr b _:wr.grownBy z (some b)));clear d;go_wp2_with fail;go_meet
         case rel=>exact⟨by rw[P],A,E⟩
     · have l1: ¬(k:Int)<s.size:=by omega
       have P:t=false:=by
        cases t with
        |false=>rfl
        |true=>obtain⟨h,_⟩:=H.out.1 rfl;exact absurd h f
       go_quiet (fail)
       generalize d:World.drewN wr _=z;have A:=hid (d▸M.out.drewN:Sc b s k bad z);have E:=hid (aG J.out (d▸fK wr b _:wr.grownBy z (some b)));clear d;go_wp2_with fail;go_meet
       case rel=>exact⟨by rw[P],A,E⟩
    case rest=>
     obtain⟨rfl,T,N⟩:=hcut
     clear M J;cases t with
     |true=>
      obtain⟨f,X,I8⟩:=H.out.1 rfl
      have ID:48≤s[k].toNat∧s[k].toNat≤57:=by simpa[gZ]using X
      have HN:=hid (show gj (s.data.toList.drop i)=eT (10*v+(s[k].toNat-48)) (s.data.toList.drop (k+1))from by
       rw[HK.out,Wr.drop_at (nU f),pf ⟨by rw[←nV f];exact X,I8⟩,←nV f])
      have l1:(k:Int)<s.size:=by omega
      have c0:=T.out.cs.cell 0 rfl;have c1:=T.out.cs.cell 1 rfl;have f1:=T.out.cs.fr 1;have w1:IntKind.i64.wrap (10*(v:Int))=10*v:=by rw[IntKind.wrap_i64]<;>omega
      have w2:IntKind.i64.wrap (10*(v:Int)+s[k].toNat)=10*v+s[k].toNat:=by rw[IntKind.wrap_i64]<;>omega
      have w3:IntKind.i64.wrap (10*(v:Int)+s[k].toNat-48)=((10*v+(s[k].toNat-48):Nat):Int):=by rw[IntKind.wrap_i64]<;>omega
      have w4:IntKind.i64.wrap ((k:Int)+1)=k+1:=by have:=HS.out;rw[IntKind.wrap_i64]<;>omega
      have w5:IntKind.i64.wrap (s[k].toNat:Int)=s[k].toNat:=by rw[IntKind.wrap_i64]<;>omega
      go_wp2_with fail;go_quiet (fail)
      generalize d:World.drewN wc _=z;have A:=hid (d▸T.out.drewN:Sc b s k bad z);have E:=hid (aG N.out (d▸fK wc b _:wc.grownBy z (some b)));have d1:=A.out.cs.cell 1 rfl;have g1:=A.out.cs.fr 1;have R3:=hid (A.out.set (k+1));have R4:=hid (aG E.out (ar z b 1 (.int .i64 ((k:Nat)+1:Nat))));have R5:=hid (And.intro R3.out.at A.out.at);clear d c0 c1 f1 w1 w2 w5 X;go_wp2_with fail;go_roundw
      case rel=>exact⟨k+1,10*v+(s[k].toNat-48),by simp,by omega,by omega,by omega,R3,R4,HN⟩
      case measure=>
       have e:pk b (z.setCell ⟨b,1,none⟩ (.int .i64 ((k:Int)+1)))=k+1:=by have:=R5.out.1;simpa using this
       rw[e,I9.out];omega
     |false=>
      have HX:=hid (show gj (s.data.toList.drop i)=(v,s.data.toList.drop k)from by
       rw[HK.out];by_cases f:k<s.size
       · rw[Wr.drop_at (nU f),sr (fun h=>by
          have:=H.out.2 ⟨f,by rw[nV f];exact h.1,h.2⟩
          cases this)]
       · rw[List.drop_eq_nil_of_le (by rw[←Lib.size_eq];omega)];rfl)
      obtain⟨m,hm⟩: ∃m:Int,m=if G=true then-(v:Int)else v:=⟨_,rfl⟩
      have HM:=hid hm;have w1:IntKind.i64.wrap (-(v:Int))= -(v:Int):=by rw[IntKind.wrap_i64]<;>omega
      go_upto_if 99 with(fail);go_cut [4,5] (fun y x W=>y= .bool G∧x= .int .i64 m∧Hid (Sc b s k bad W)∧Hid (w.grownBy W (some b)))
      case first=>
       cases F:G with
       |true=>
        rw[F,if_pos rfl]at hm;go_wp2_with fail;go_meet
        case rel=>exact⟨by rw[F],by rw[hm],T,N⟩
       |false=>
        rw[F,if_neg (by simp)]at hm;go_wp2_with fail;go_meet
        case rel=>exact⟨by rw[F],by rw[hm],T,N⟩
      case rest=>
       obtain⟨rfl,rfl,HP,Iv⟩:=hcut
       clear hm w1 T N HK
       have HG:=hid (show(s.data.toList.drop i).take ((s.data.toList.drop i).length-(s.data.toList.drop k).length)=(s.data.toList.drop i).take (k-i)from by
        congr 1;rw[List.length_drop,List.length_drop,←Lib.size_eq];omega)
       have HR:=hid (show Iw=if(s.data.toList.drop k).head?=some 59∧(s.data.toList.drop i).take (k-i)=Lib.itoa m then some (m,(s.data.toList.drop k).drop 1)else none from by
        rw[I5.out,kn,mF,mE,←Q.out,HX.out,HG.out,←HM.out])
       have mb:m.natAbs≤20000000000000000:=by rw[HM.out];split<;>omega
       rename_i aK
       apply aK
       exact EZ HP Iv Z Ix HS mb HR
end Go.Proofs.YtcmlnelpcjfocaaGreatDoor
