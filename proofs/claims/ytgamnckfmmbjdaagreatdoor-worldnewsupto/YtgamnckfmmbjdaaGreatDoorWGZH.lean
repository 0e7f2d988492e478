/- What world.checkClients answers. -/
import Derived.Test.YtgamnckfmmbjdaaGreatDoorWGZD
import Derived.Test.YtgamnckfmmbjdaaGreatDoorWGZF
set_option linter.unusedSimpArgs false
set_option linter.unusedVariables false
namespace Go.Proofs.YtgamnckfmmbjdaaGreatDoor
open Go.RowKit Go.Proofs.Tryz
set_option maxHeartbeats 4000000
set_option maxRecDepth 100000
def jK (w:World) (g:Nat) (cb:Array Value) (pr:Cn→Bool):Prop:=
 (∀args w,(callFunc g args).run prog w= .ok (.enter g args) w)∧
 ∀(W:World),Below w.heap.size w W→ ∀(c:Cn) (xa ya za:Option Addr) (xc yc zc:Nat),Calls prog g (#[.agg #[.string c.who,.string c.fo,.slice xa c.base.length xc,.int .i64 c.cur,.slice ya c.mine.length yc,.string c.key,.slice za c.ask.length zc,.int .i64 c.keys]]++cb) W fun r W'=>r= .returned (.bool (pr c))∧Below W.heap.size W W'
theorem jK.below {w w':World} {g:Nat} {a:Array Value} {e:Cn→Bool} (h:jK w g a e) (d:Below w.heap.size w w'):jK w' g a e:=
 ⟨h.1,fun W f=>h.2 W (d.trans (f.mono d.size))⟩
theorem zL (c:Cn) (a:ByteArray) (f o y:Option Addr) (j u z b:Nat) (w:World) (hb:b<w.heap.size) (A:w.cell? ⟨b,0,none⟩=some (.string a)):
    Calls prog 47 #[.agg #[.string c.who,.string c.fo,.slice f c.base.length j,.int .i64 c.cur,.slice o c.mine.length u,.string c.key,.slice y c.ask.length z,.int .i64 c.keys],.pointer (some ⟨b,0,none⟩)] w fun e w'=>e= .returned (.bool (c.who.toList==a.toList))∧Below w.heap.size w w':=by
 have d: ¬b=w.heap.size:=by omega
 go_enter func47,ntmps47
 go_wp2;go_ret;exact⟨rfl,(Below.refl _ _).alloc (Nat.le_refl _) _⟩
theorem zM {w:World} {b:Nat} {a:Cn} {ag:List Value} (h:Cs w b (.string a.who::ag)):jK w 47 #[.pointer (some ⟨b,0,none⟩)] (fun o=>o.who.toList==a.who.toList):=
 ⟨enters_of func47 (by kernel_rfl) rfl,fun W d c e j y f u z=>zL c a.who e j y f u z b W (Nat.lt_of_lt_of_le h.lt d.size) ((h.below d).cell 0 rfl)⟩
def gn (l:List Cn) (pr:Cn→Bool):Int:=match l.findIdx? pr with
 |some i=>(i:Int)
 |none=> -1
theorem zN {G:List Cn} {a:Cn→Bool} {k:Nat} (d:k<G.length) (h: ∀j (h:j<G.length),j<k→a G[j]=false) (f:a G[k]=true):(k:Int)=gn G a:=by
 have:G.findIdx? a=some k:=List.findIdx?_eq_some_iff_getElem.2 ⟨d,f,fun j e=>by rw[h j (by omega) e];simp⟩
 rw[gn,this]
theorem zO {G:List Cn} {a:Cn→Bool} (h: ∀j (h:j<G.length),a G[j]=false): -1=gn G a:=by
 have:G.findIdx? a=none:=List.findIdx?_eq_none_iff.2 fun x e=>by
  obtain⟨j,d,rfl⟩:=List.getElem_of_mem e
  exact h j d
 rw[gn,this]
theorem zP (G:List Cn) (a:Cn→Bool):(gn G a= -1∧G.any a=false)∨ ∃k:Nat,gn G a=(k:Int)∧G.any a=true:=by
 cases d:G.findIdx? a with
 |none=>
  have f:=List.findIdx?_eq_none_iff.1 d;exact Or.inl ⟨by rw[gn,d],List.any_eq_false.2 fun x o=>by simp[f x o]⟩
 |some k=>
  obtain⟨e,j,_⟩:=List.findIdx?_eq_some_iff_getElem.1 d
  exact Or.inr ⟨k,by rw[gn,d],List.any_eq_true.2 ⟨G[k],List.getElem_mem e,j⟩⟩
theorem zQ (G:List Cn) (v:Value) (g:Nat) (K:Array Value) (u:Cn→Bool) (w:World) (hv:dh w v G) (J:jK w g K u):
    Calls prog 94 #[v,.func (.func g) #[] K] w fun e w'=>e= .returned (.int .i64 (gn G u))∧Below w.heap.size w w':=by
 obtain⟨a,C3,rfl,M,I,y⟩:=hv
 have Q:Hid (∀i (h:i<G.length),∃b o,a=some ⟨b,o,none⟩∧b<w.heap.size∧en w b (o+i*8) G[i]):=y;have P:=hid J;have eg:=J.1;clear y J;go_enter func94,ntmps94
 go_wp2_with fail;go_loopw [8] (fun i wr=> ∃k:Nat,k≤G.length∧i= .int .i64 k∧Hid (∀j (h:j<G.length),j<k→u G[j]=false)∧Below w.heap.size w wr) (fun i _=>G.length-(intOf i).toNat)
 case atStart=>exact⟨0,Nat.zero_le _,rfl,(fun j _ h=>absurd h (Nat.not_lt_zero _): ∀j (h:j<G.length),j<0→u G[j]=false),Below.refl _ _⟩
 case round=>
  obtain⟨k,hk,rfl,F,d⟩:=hrel
  by_cases A:k<G.length
  · obtain⟨b,o,rfl,hb,N⟩:=Q.out k A
    have fG:=(N.below hb (d.mono (Nat.le_refl _)))
    obtain⟨vb,vm,va,S,T,U,V,X,Y,Z,c7,l1,l2,l3⟩:=fG
    obtain⟨xa,xc,rfl,_⟩:=l1
    obtain⟨ya,yc,rfl,_⟩:=l2
    obtain⟨za,zc,rfl,_⟩:=l3
    clear N;go_wp2_with fail;refine(P.out.2 _ d G[k] xa ya za xc yc zc).mono ?_
    rintro e w1 ⟨rfl,z⟩;have f:=af d z;clear S T U V X Y Z c7 d z;cases O:u G[k]with
    |true=>
     have E:=hid (show(k:Int)=gn G u from zN A F.out O);go_wp2_with fail;go_ret;exact⟨by rw[E.out];rfl,f⟩
    |false=>
     have H:=hid (show∀j (h:j<G.length),j<k+1→u G[j]=false from fun j h1 h2=>by
      by_cases e:j=k
      · subst e;exact O
      · exact F.out j h1 (by omega))
     go_wp2_with fail;go_roundw
     case rel=>exact⟨k+1,by omega,by simp,H,f⟩
     case measure=>simp[intOf];omega
  · have E:=hid (show-1=gn G u from zO (fun j h=>F.out j h (by omega)))
    go_wp2_with fail;go_ret;exact⟨by rw[E.out];rfl,d⟩
theorem zR (G:List Cn) (v:Value) (g:Nat) (o:Array Value) (a:Cn→Bool) (w:World) (y:dh w v G) (u:jK w g o a):
    Calls prog 46 #[v,.func (.func g) #[] o] w fun e w'=>e= .returned (.bool (G.any a))∧Below w.heap.size w w':=by
 have F:=hid y;have A:=hid u;clear y u;rcases zP G a with⟨j,d⟩|⟨k,j,d⟩
 all_goals
  have E:=hid j;have z:=hid d;clear j d;go_enter func46,ntmps46
  go_wp2_with fail;refine(zQ G _ _ _ a _ F.out A.out).mono ?_
  rintro e H ⟨rfl,f⟩;rw[E.out];go_wp2;go_ret;exact⟨by rw[z.out];rfl,f⟩
theorem zS {w:World} {a:Option Addr} {l:List Cn} {n cap k:Nat} (h:dh w (.slice a n cap) l) (I:k≤l.length):dh w (.slice a k cap) (l.take k):=by
 obtain⟨z,A,y,F,G,e⟩:=h
 injection y with ay E d
 subst ay;subst d;have u:(l.take k).length=k:=by rw[List.length_take];omega
 refine⟨_,_,by rw[u],by omega,by omega,fun i H=>?_⟩
 obtain⟨b,o,f,hb,j⟩:=e i (by omega)
 rw[List.getElem_take];exact⟨b,o,f,hb,j⟩
theorem zT (l:List Cn) (v:Value) (w:World) (hv:dh w v l) (hs: ∀c∈l,fR c):
    Calls prog 19 #[v] w fun e w'=>e= .returned (.int .i64 (dH l))∧Below w.heap.size w w':=by
 have HV:=hid hv;have HS:=hid hs;obtain⟨a,C8,rfl,CE,CD,M⟩:=hv
 have HL:Hid (∀i (h:i<l.length),∃b o,a=some ⟨b,o,none⟩∧b<w.heap.size∧en w b (o+i*8) l[i]):=M;clear M hs;go_enter func19,ntmps19
 go_wp2_with fail;go_loopw [10] (fun i wr=> ∃k:Nat,k≤l.length∧i= .int .i64 k∧Hid (bY (l.take k)=0)∧Below w.heap.size w wr) (fun i _=>l.length-(intOf i).toNat)
 case atStart=>exact⟨0,Nat.zero_le _,rfl,(rfl:bY (l.take 0)=0),Below.refl _ _⟩
 case round=>
  obtain⟨k,hk,rfl,Q,d⟩:=hrel
  by_cases z:k<l.length
  · obtain⟨b,o,rfl,hb,O⟩:=HL.out k z
    have fG:=O.below hb d;obtain⟨vb,vm,va,c0,c1,c2,c3,c4,c5,c6,c7,S,T,U⟩:=fG
    have K:=hid (show dD wr (.agg #[.string l[k].who,.string l[k].fo,vb,.int .i64 l[k].cur,vm,.string l[k].key,va,.int .i64 l[k].keys]) l[k]from⟨vb,vm,va,rfl,S,T,U⟩);obtain⟨V,X,rfl,_⟩:=S
    obtain⟨Y,Z,rfl,_⟩:=T
    obtain⟨za,zc,rfl,_⟩:=U
    have C7:=hid (HS.out l[k] (List.getElem_mem z));clear O;go_wp2_with fail;refine(mY l[k] _ _ (K.out.below ((Below.refl _ _).alloc (Nat.le_refl _) _)) C7.out).mono ?_
    rintro e w1 ⟨rfl,N⟩;have f:Below w.heap.size w w1:=af d (((Below.refl _ _).alloc (Nat.le_refl _) _).trans (N.mono (by simp)));clear c0 c1 c2 c3 c4 c5 c6 c7 N K d;by_cases F:aU l[k]=0
    · have C6:=hid (show bY (l.take (k+1))=0 from(oq z Q.out).trans F)
      rw[F];go_wp2_with fail;go_roundw
      case rel=>exact⟨k+1,by omega,by simp,C6,f⟩
      case measure=>simp[intOf];omega
    · have J:=hid (show dH l=aU l[k]from by
       have:=ot z Q.out F
       rw[dH,if_pos (by rw[this];exact F),this])
      have hz:(aU l[k]==0)=false:=by simpa using F
      have CG:(aU l[k] !=0)=true:=by simpa using F
      clear F;go_wp2_with fail;go_ret;exact⟨by rw[J.out];rfl,f⟩
  · have I:=hid (show bY l=0 from by
     have:=Q.out
     rwa [List.take_of_length_le (by omega)]at this)
    obtain⟨w0,G⟩: ∃W,W=wr:=⟨_,rfl⟩
    have C3:=hid (show Below w.heap.size w w0 by rw[G];exact d);go_wp2_with fail;rw[←G];clear G d Q;go_loopw [22] (fun i wr=> ∃m:Nat,m≤l.length∧i= .int .i64 m∧Hid (∀j (h:j<l.length),j<m→Wo.hasB (l.take j) l[j]=false)∧Below w.heap.size w wr) (fun i _=>l.length-(intOf i).toNat)
    case atStart=>exact⟨0,Nat.zero_le _,rfl,(fun j _ h=>absurd h (Nat.not_lt_zero _): ∀j (h:j<l.length),j<0→Wo.hasB (l.take j) l[j]=false),C3.out⟩
    case round=>
     obtain⟨m,hm,rfl,HM,d⟩:=hrel
     by_cases P:m<l.length
     · obtain⟨b,o,rfl,hb,O⟩:=HL.out m P
       have fG:=O.below hb d;obtain⟨vb,vm,va,c0,c1,c2,c3,c4,c5,c6,c7,S,T,U⟩:=fG
       obtain⟨V,X,rfl,_⟩:=S
       obtain⟨Y,Z,rfl,_⟩:=T
       obtain⟨za,zc,rfl,_⟩:=U
       obtain⟨wz,A⟩: ∃W,W=wr.alloc (.cells #[.string l[m].who,.string l[m].fo,.slice V l[m].base.length X,.int .i64 l[m].cur,.slice Y l[m].mine.length Z,.string l[m].key,.slice za l[m].ask.length zc,.int .i64 l[m].keys] 50):=⟨_,rfl⟩
       have CC:Below wr.heap.size wr wz:=by rw[A];exact(Below.refl _ _).alloc (Nat.le_refl _) _
       have C4:=hid (show Cs wz wr.heap.size [.string l[m].who,.string l[m].fo,.slice V l[m].base.length X,.int .i64 l[m].cur,.slice Y l[m].mine.length Z,.string l[m].key,.slice za l[m].ask.length zc,.int .i64 l[m].keys] by rw[A];exact Cs.new wr [.string l[m].who,.string l[m].fo,.slice V l[m].base.length X,.int .i64 l[m].cur,.slice Y l[m].mine.length Z,.string l[m].key,.slice za l[m].ask.length zc,.int .i64 l[m].keys] _);have E:=af d CC;have CF:(m:Int)≤C8:=by omega
       clear O;go_upto_region 11 with fail;try simp only[World.setCell_alloc_new]
       rw[←A];clear A c0 c1 c2 c3 c4 c5 c6 c7;go_wp2_with fail;refine(zR (l.take m) _ _ _ (fun o=>o.who.toList==l[m].who.toList) wz (zS (HV.out.below E) hm) (zM C4.out)).mono ?_
       rintro e w2 ⟨rfl,C9⟩;have u:=af E C9;cases H:Wo.hasB (l.take m) l[m]with
       |true=>
        have y:(l.take m).any (fun o=>o.who.toList==l[m].who.toList)=true:=H
        have J:=hid (show dH l=6 from by
         have:jg l=true:=ov [] l m P (by simpa using H)
         rw[dH,if_neg (fun x=>x I.out),if_pos this])
        rw[y];clear H y;go_wp2_with fail;go_ret;exact⟨by rw[J.out];rfl,u⟩
       |false=>
        have y:(l.take m).any (fun o=>o.who.toList==l[m].who.toList)=false:=H
        have C5:=hid (show∀j (h:j<l.length),j<m+1→Wo.hasB (l.take j) l[j]=false from fun j h1 h2=>by
         by_cases e:j=m
         · subst e;exact H
         · exact HM.out j h1 (by omega))
        rw[y];clear H y;go_wp2_with fail;go_roundw
        case rel=>exact⟨m+1,by omega,by simp,C5,u⟩
        case measure=>simp[intOf];omega
     · have J:=hid (show dH l=0 from by
        have:=ou [] l fun k hk=>by simpa using HM.out k hk (by omega)
        rw[dH,if_neg (fun x=>x I.out),if_neg (by rw[jg,this];decide)])
       go_wp2_with fail;go_ret;exact⟨by rw[J.out];rfl,d⟩
theorem zU {l:List Sh} {us:List (Value×Value)} (h:us.length=l.length) {i:Nat} (d:i<l.length) (s:Sh) (u:Value×Value):(cf l us).set i (eP s u)=cf (l.set i s) (us.set i u):=by
 apply List.ext_getElem?
 intro j;rw[List.getElem?_set,cf,cf,List.getElem?_zipWith,List.getElem?_zipWith,List.getElem?_set,List.getElem?_set];by_cases a:i=j
 · subst a
   simp[h,d,show i<us.length by omega]
 · simp[a]
theorem zV {w:World} {a:Option Addr} {n cap b o k:Nat} {l:List Sh} {us:List (Value×Value)} {u:Value×Value} {J:Jo} (h:aJ 4 w (.slice a n cap) (cf l us)) (y:us.length=l.length) (f:a=some ⟨b,o,none⟩) (j:k<l.length) (z:u.1.oneCell'=true) (A:u.2.oneCell'=true):
    aJ 4 (((w.setCell ⟨b,o+k*4+1,none⟩ u.1).setCell ⟨b,o+k*4+2,none⟩ (.int .i64 J.first)).setCell ⟨b,o+k*4+3,none⟩ u.2) (.slice a n cap) (cf (l.set k ⟨l[k].na,J⟩) (us.set k u)):=by
 have e:=jC y j;have d:k<(cf l us).length:=by rw[ff y];exact j
 rw[List.getElem?_eq_getElem d]at e;injection e with e
 have E:=h.set f (i:=k) (c:=1) d (by decide) u.1 z;have F:=E.set f (i:=k) (c:=2) (by simpa using d) (by decide) (.int .i64 J.first) rfl;have G:=F.set f (i:=k) (c:=3) (by simpa using d) (by decide) u.2 A;rw[←zU y j ⟨l[k].na,J⟩ u];simpa[e,eP]using G
theorem dU.put {B b o n cap k:Nat} {w:World} {l:List Sh} {e f:Value} {J:Jo} (h:dU B w (.slice (some ⟨b,o,none⟩) n cap) l) (M:k<l.length) (E:aj w e J.base) (z:aw (b+1) w e) (F:cT (b+1) w f J.cos):
    dt (((w.setCell ⟨b,o+k*4+1,none⟩ e).setCell ⟨b,o+k*4+2,none⟩ (.int .i64 J.first)).setCell ⟨b,o+k*4+3,none⟩ f) (.slice (some ⟨b,o,none⟩) n cap) (l.set k ⟨l[k].na,J⟩):=by
 obtain⟨us,⟨G,K⟩,N,H,A⟩:=h
 have P:e.oneCell'=true:=by obtain⟨_,_,rfl,_⟩:=E;rfl
 have Q:f.oneCell'=true:=by obtain⟨_,_,rfl,_⟩:=F.lies;rfl
 have O:=zV (u:=(e,f)) (J:=J) N G rfl M P Q;have y:w.grownBy (((w.setCell ⟨b,o+k*4+1,none⟩ e).setCell ⟨b,o+k*4+2,none⟩ (.int .i64 J.first)).setCell ⟨b,o+k*4+3,none⟩ f) (some b):=aN (aN (au _ _ _ _) (au _ _ _ _)) (au _ _ _ _);have ne: ∀{v:Value},aw (b+1) w v→ ∀x,v.ownBlock=some x→x≠b:=fun H x A=>by have:=(H x A).1;omega
 refine rn (us:=us.set k (e,f)) ⟨by simp[G],fun i c u a d=>?_⟩ O
 by_cases j:k=i
 · subst j
   rw[List.getElem?_set_self (by omega)]at a d;injection a with a
   injection d with d
   subst a;subst d;exact⟨E.nbo y (ne z),(F.nbo y (Nat.lt_succ_self _)).lies⟩
 · rw[List.getElem?_set_ne j]at a d
   have I:=(A i c u a d).2 b rfl;exact⟨(K i c u a d).1.nbo y (ne I.1),(I.2.nbo y (Nat.lt_succ_self _)).lies⟩
theorem bt.row {W d:World} {v:Value} {L:List Gr} {r:Option Nat} (h:bt W v L) (u:W.grownBy d r) (F: ∀b,v.ownBlock=some b→r≠some b):bt d v L:=by
 obtain⟨a,f,rfl,y,z,A⟩:=h
 refine⟨a,f,rfl,y,z,fun i E=>?_⟩
 obtain⟨b,o,rfl,hb,j⟩:=A i E
 have c: ∀k,d.cell? ⟨b,k,none⟩=W.cell? ⟨b,k,none⟩:=fun k=>World.cell?_of_block (w:=W) (a:=⟨b,k,none⟩) (u.block b hb (fun e=>F b rfl e.symm))
 exact⟨b,o,rfl,Nat.lt_of_lt_of_le hb u.size,(c _).trans j.1,(c _).trans j.2.1,(c _).trans j.2.2⟩
theorem bR.row {W f:World} {v:Value} {L:List Se} {r:Option Nat} (h:bR W v L) (u:W.grownBy f r) (F: ∀b,v.ownBlock=some b→r≠some b):bR f v L:=by
 obtain⟨a,j,rfl,y,z,A⟩:=h
 refine⟨a,j,rfl,y,z,fun i E=>?_⟩
 obtain⟨b,o,rfl,hb,d⟩:=A i E
 have c: ∀k,f.cell? ⟨b,k,none⟩=W.cell? ⟨b,k,none⟩:=fun k=>World.cell?_of_block (w:=W) (a:=⟨b,k,none⟩) (u.block b hb (fun e=>F b rfl e.symm))
 exact⟨b,o,rfl,Nat.lt_of_lt_of_le hb u.size,(c _).trans d.1,(c _).trans d.2.1,(c _).trans d.2.2.1,(c _).trans d.2.2.2.1,(c _).trans d.2.2.2.2⟩
def zW (H:Hb) (i:Nat):Jo:=match H.fos[i]? with|some s=>s.jo|none=>xk
def kI (c:Cn):Rq:=if aU c=0 then⟨2,c.who,c.fo,⟨#[]⟩,⟨#[]⟩,⟨#[]⟩,c.cur,0,0,[]⟩else nY
theorem zX (c:Cn) (v:Value) (w:World) (O:dD w v c) (N:fR c):
    Calls prog 108 #[v] w fun e w'=> ∃u,e= .returned (.tuple #[u,.int .i64 (aU c)])∧iZ w' u (kI c)∧Below w.heap.size w w':=by
 have HV:=hid O;have HS:=hid N;obtain⟨vb,vm,va,rfl,lb,lm,la⟩:=O
 obtain⟨G,J,rfl,_⟩:=lb
 obtain⟨H,aO,rfl,_⟩:=lm
 obtain⟨F,I,rfl,_⟩:=la
 clear N;obtain⟨z,d⟩: ∃z,z=(w.alloc (.cells #[.string c.who,.string c.fo,.slice G c.base.length J,.int .i64 c.cur,.slice H c.mine.length aO,.string c.key,.slice F c.ask.length I,.int .i64 c.keys] 50)).alloc (.cells #[.int .i64 0,.string ⟨#[]⟩,.string ⟨#[]⟩,.string ⟨#[]⟩,.string ⟨#[]⟩,.string ⟨#[]⟩,.int .i64 0,.int .i64 0,.int .i64 0,.slice none 0 0] 57):=⟨_,rfl⟩
 have A:Below w.heap.size w z:=by rw[d];exact((Below.refl _ _).alloc (Nat.le_refl _) _).alloc (by simp) _
 have HX:Hid (Cs z w.heap.size [.string c.who,.string c.fo,.slice G c.base.length J,.int .i64 c.cur,.slice H c.mine.length aO,.string c.key,.slice F c.ask.length I,.int .i64 c.keys]):=(by rw[d];exact(Cs.new w [.string c.who,.string c.fo,.slice G c.base.length J,.int .i64 c.cur,.slice H c.mine.length aO,.string c.key,.slice F c.ask.length I,.int .i64 c.keys] _).below ((Below.refl _ _).alloc (Nat.le_refl _) _):Cs z w.heap.size _)
 have HY:=hid (show Cs z (w.heap.size+1) zq from by
  have:=Cs.new (w.alloc (.cells #[.string c.who,.string c.fo,.slice G c.base.length J,.int .i64 c.cur,.slice H c.mine.length aO,.string c.key,.slice F c.ask.length I,.int .i64 c.keys] 50)) zq 57
  rw[d];simpa using this)
 go_enter func108,ntmps108
 go_wp2_with fail;rw[←d];clear d;refine(mY c _ _ (HV.out.below A) HS.out).mono ?_
 rintro e w1 ⟨rfl,y⟩;have f:=af A y;have j:=hid (HX.out.below y);have a:=hid (HY.out.below y);have P:=a.out.cell 0 rfl;have Q:=a.out.cell 1 rfl;have S:=a.out.cell 2 rfl;have T:=a.out.cell 3 rfl;have U:=a.out.cell 4 rfl;have V:=a.out.cell 5 rfl;have X:=a.out.cell 6 rfl;have Y:=a.out.cell 7 rfl;have Z:=a.out.cell 8 rfl;have y9:=a.out.cell 9 rfl;have g0:=a.out.fr 0;have g1:=a.out.fr 1;have g2:=a.out.fr 2;have g3:=a.out.fr 3;have g4:=a.out.fr 4;have g5:=a.out.fr 5;have g6:=a.out.fr 6;have g7:=a.out.fr 7;have g8:=a.out.fr 8;have g9:=a.out.fr 9;by_cases o:aU c=0
 · have E:=hid (show kI c=⟨2,c.who,c.fo,⟨#[]⟩,⟨#[]⟩,⟨#[]⟩,c.cur,0,0,[]⟩∧aU c=0 from⟨if_pos o,o⟩)
   rw[o];clear o;have p0:=j.out.cell 0 rfl;have p1:=j.out.cell 1 rfl;have p3:=j.out.cell 3 rfl;go_wp2_with fail;refine bodyPost_ret (v:= .tuple #[.agg #[.int .i64 2,.string c.who,.string c.fo,.string ⟨#[]⟩,.string ⟨#[]⟩,.string ⟨#[]⟩,.int .i64 c.cur,.int .i64 0,.int .i64 0,.slice none 0 0],.int .i64 0]) (by simp[results,results108,go_sem,P,Q,S,T,U,V,X,Y,Z,y9]) rfl ⟨_,by rw[E.out.2],?_,?_⟩
   · rw[E.out.1]
     exact⟨_,rfl,re _⟩
   · exact((((((((((f.setCell (p:=⟨w.heap.size+1,0,none⟩) (Nat.le_succ _) _).setCell (p:=⟨w.heap.size+1,1,none⟩) (Nat.le_succ _) _).setCell (p:=⟨w.heap.size+1,2,none⟩) (Nat.le_succ _) _).setCell (p:=⟨w.heap.size+1,3,none⟩) (Nat.le_succ _) _).setCell (p:=⟨w.heap.size+1,4,none⟩) (Nat.le_succ _) _).setCell (p:=⟨w.heap.size+1,5,none⟩) (Nat.le_succ _) _).setCell (p:=⟨w.heap.size+1,6,none⟩) (Nat.le_succ _) _).setCell (p:=⟨w.heap.size+1,7,none⟩) (Nat.le_succ _) _).setCell (p:=⟨w.heap.size+1,8,none⟩) (Nat.le_succ _) _).setCell (p:=⟨w.heap.size+1,9,none⟩) (Nat.le_succ _) _)
 · have E:=hid (show kI c=nY from if_neg o)
   have K:(aU c !=0)=true:=by simpa using o
   obtain⟨r,M⟩: ∃r,r=aU c:=⟨_,rfl⟩
   rw[←M]at K⊢;have HR:=hid M;clear o M;go_wp2_with fail;refine bodyPost_ret (v:= .tuple #[.agg #[.int .i64 0,.string ⟨#[]⟩,.string ⟨#[]⟩,.string ⟨#[]⟩,.string ⟨#[]⟩,.string ⟨#[]⟩,.int .i64 0,.int .i64 0,.int .i64 0,.slice none 0 0],.int .i64 r]) (by simp[results,results108,go_sem,P,Q,S,T,U,V,X,Y,Z,y9]) rfl ⟨_,by rw[HR.out],?_,?_⟩
   · rw[E.out]
     exact xe _
   · exact((((((((((f.setCell (p:=⟨w.heap.size+1,0,none⟩) (Nat.le_succ _) _).setCell (p:=⟨w.heap.size+1,1,none⟩) (Nat.le_succ _) _).setCell (p:=⟨w.heap.size+1,2,none⟩) (Nat.le_succ _) _).setCell (p:=⟨w.heap.size+1,3,none⟩) (Nat.le_succ _) _).setCell (p:=⟨w.heap.size+1,4,none⟩) (Nat.le_succ _) _).setCell (p:=⟨w.heap.size+1,5,none⟩) (Nat.le_succ _) _).setCell (p:=⟨w.heap.size+1,6,none⟩) (Nat.le_succ _) _).setCell (p:=⟨w.heap.size+1,7,none⟩) (Nat.le_succ _) _).setCell (p:=⟨w.heap.size+1,8,none⟩) (Nat.le_succ _) _).setCell (p:=⟨w.heap.size+1,9,none⟩) (Nat.le_succ _) _)
def jL (w:World) (v:Value) (n:Nat) (f:Nat→List En):Prop:= ∃a cap,v= .slice a n cap∧n≤cap∧n≤1000000∧ ∀i,i<n→ ∃b o u,a=some ⟨b,o,none⟩∧b<w.heap.size∧w.cell? ⟨b,o+i,none⟩=some u∧aj w u (f i)
theorem jL.below {w w':World} {v:Value} {n:Nat} {f:Nat→List En} (h:jL w v n f) (e:Below w.heap.size w w'):jL w' v n f:=by
 obtain⟨a,d,H,j,y,z⟩:=h
 refine⟨a,d,H,j,y,fun i F=>?_⟩
 obtain⟨b,o,u,A,hb,E,G⟩:=z i F
 exact⟨b,o,u,A,Nat.lt_of_lt_of_le hb e.size,(e.cell (p:=⟨b,o+i,none⟩) hb).trans E,G.below e⟩
theorem zY {w:World} {base:Nat} {v:Value} {T:TypeId} {us:List Value} {f:Nat→List En} (h:w.ownsRow base T 1 v us.length us) (E: ∀i u,us[i]?=some u→aj w u (f i)) (o:us.length≤1000000):jL w v us.length f:=by
 have z:=h;obtain⟨H,A⟩:=h
 rcases A with⟨rfl,y⟩|⟨g,a,cur,rfl,G,F,e,I,y,j⟩
 · exact⟨none,0,by rw[y],by omega,o,fun i h=>absurd h (by omega)⟩
 · have d:=cn F
   refine⟨some ⟨g,0,none⟩,a,rfl,e,o,fun i h=>⟨g,0,us[i],rfl,d,?_,E i _ (List.getElem?_eq_getElem h)⟩⟩
   rw[Nat.zero_add,z.cellAt i (by omega)];exact List.getElem?_eq_getElem h
theorem Tryz.infoES:(prog.info? 47).map (fun i=>(i.zero,i.size,i.bytes))=some (some (.slice none 0 0),1,24):=by kernel_rfl
theorem zZ {l:List UInt8} (h:dy l=1):bV l=false:=by
 cases hb:bV l with
 |false=>rfl
 |true=>rw[jl hb]at h;exact absurd h (by decide)
theorem sn {l:List UInt8} (h:dy l=0):bV l=true:=by
 cases hb:bV l with
 |true=>rfl
 |false=>rw[iq hb]at h;exact absurd h (by decide)
theorem Aa {w w':World} {base:Nat} {e:TypeId} {size:Nat} {v:Value} {n:Nat} {xs:List Value} (h:w.ownsRow base e size v n xs) (a:Below w.heap.size w w'):w'.ownsRow base e size v n xs:=
 h.kept (row:=none) ⟨a.os,a.tape,a.output,a.size,fun k d _=>a.block k d⟩ (by cases h:v.ownBlock with
  |none=>exact Or.inl rfl
  |some g=>exact Or.inr (by simp))
def gu (wr:World) (J:Jo) (us:List Value) (k:Nat):Prop:=us.length=k+1∧ ∀i u,us[i]?=some u→aj wr u (bp J i)
theorem gu.below {w w':World} {J:Jo} {us:List Value} {k:Nat} (h:gu w J us k) (d:Below w.heap.size w w'):gu w' J us k:=⟨h.1,fun i u a=>(h.2 i u a).below d⟩
theorem gu.row {w w':World} {J:Jo} {us:List Value} {k:Nat} {v:Value} (h:gu w J us k) (a:w.grownBy w' v.ownBlock) (d:fQ w v):gu w' J us k:=⟨h.1,fun i u e=>(h.2 i u e).row a d⟩
theorem Cs.row {w w':World} {b:Nat} {ag:List Value} {v:Value} (h:Cs w b ag) (a:w.grownBy w' v.ownBlock) (d: ∀g,v.ownBlock=some g→b≠g):Cs w' b ag:=by
 cases e:v.ownBlock with
 |none=>
  rw[e]at a;exact h.below ⟨a.os,a.tape,a.output,a.size,fun k f=>a.block k f (by simp)⟩
 |some g=>
  rw[e]at a;exact h.nb a (d g e)
theorem gu.snoc {w:World} {J:Jo} {us:List Value} {k:Nat} {x:Value} (h:gu w J us k) (o:aj w x (bp J (k+1))):gu w J (us++[x]) (k+1):=by
 refine⟨by simp[h.1],fun i u a=>?_⟩
 by_cases j:i<us.length
 · rw[List.getElem?_append_left j]at a
   exact h.2 i u a
 · rw[List.getElem?_append_right (by omega)]at a
   have f:=h.1
   have d:i=k+1:=by
    rcases Nat.lt_or_ge (i-us.length) 1 with e|e
    · omega
    · rw[List.getElem?_eq_none (by simpa using e)]at a;cases a
   subst d;rw[f,Nat.sub_self]at a;injection a with a
   exact a▸o
theorem Ab (J:Jo) (v:Value) (w:World) (hv:fV w v J) (hp: ∀e∈J.base,e.path.size≤1000000000) (Dl:dR 1000000000 J.cos):
    Calls prog 74 #[v] w fun e w'=> ∃r,e= .returned (.tuple #[r,.int .i64 (bo J)])∧(bo J=0→jL w' r (J.cos.length+1) (bp J))∧Below w.heap.size w w':=by
 obtain⟨aQ,DK,DQ,DR,DS⟩:=info_parts Tryz.infoES
 obtain⟨vb,vc,rfl,Dq,DN⟩:=hv
 have CD:=hid Dq;have HP:=hid hp;have Dv:=hid Dl;obtain⟨cb,CE,rfl,DJ,Dt,hC⟩:=DN
 obtain⟨ba,a,rfl,DH,Ds,_⟩:=Dq
 have HC:Hid (∀i (h:i<J.cos.length),∃b o,cb=some ⟨b,o,none⟩∧b<w.heap.size∧fB w b (o+i*3) J.cos[i]):=hC;clear hC hp Dl;obtain⟨wz,F⟩: ∃wz,wz=w.alloc (.cells #[.slice ba J.base.length a,.int .i64 J.first,.slice cb J.cos.length CE] 90):=⟨_,rfl⟩
 have P:Below w.heap.size w wz:=by rw[F];exact(Below.refl _ _).alloc (Nat.le_refl _) _
 have CL:=hid (show Cs wz w.heap.size [.slice ba J.base.length a,.int .i64 J.first,.slice cb J.cos.length CE]from by rw[F];exact Cs.new _ _ _);by_cases ht:aA J.base=0
 · have HT:=hid ht
   by_cases hf:aM J.first=0
   · have HF:=hid hf
     by_cases hm:30<J.cos.length
     · have y:=hid (nE ht hf hm)
       have DM:30<(J.cos.length:Int):=by omega
       clear ht hf;go_enter func74,ntmps74
       go_wp2_with fail;rw[←F];clear F;refine(jF J.base _ _ (CD.out.below P) HP.out).mono ?_
       rintro e w1 ⟨rfl,E⟩;rw[HT.out];have c1:=(CL.out.below E).cell 1 rfl;have c2:=(CL.out.below E).cell 2 rfl;go_wp2_with fail;refine(jE J.first _).mono ?_
       rintro e w2 ⟨rfl,S⟩;rw[S];clear S w2;rw[HF.out];go_wp2_with fail;go_ret2;exact⟨_,by rw[y.out];rfl,(fun h=>by rw[y.out]at h;exact absurd h (by decide)),af P E⟩
     · have DM: ¬30<(J.cos.length:Int):=by omega
       obtain⟨f1,f2⟩:=nA.1 hf
       have HG:=hid ((gx J.base).1 ht);have CP:=hid (show∀e T,cz J.first J.base J.cos=(e,T)→ ¬e=0→bo J=e from fun e T h he=>nF ht hf hm h he);have DE:=hid (show∀T,cz J.first J.base J.cos=(0,T)→ ¬cY J.cos→bo J=6 from fun T h ha=>nG ht hf hm h ha);have DD:=hid (show∀T,cz J.first J.base J.cos=(0,T)→cY J.cos→bo J=0 from fun T h ha=>qs ht hf hm h ha);clear ht hf;go_enter func74,ntmps74
       go_wp2_with fail;rw[←F];clear F;refine(jF J.base _ _ (CD.out.below P) HP.out).mono ?_
       rintro e w1 ⟨rfl,E⟩;rw[HT.out];have C3:=hid (CL.out.below E);have c0:=C3.out.cell 0 rfl;have c1:=C3.out.cell 1 rfl;have c2:=C3.out.cell 2 rfl;have DZ:=C3.out.lt;go_wp2_with fail;refine(jE J.first _).mono ?_
       rintro e w2 ⟨rfl,S⟩;rw[S];clear S w2;rw[HF.out];have CF:=af P E;have Dc:Hid ((w1.alloc (.cells #[.slice ba J.base.length a] 47)).ownsRow (w.heap.size+1) 47 1 (.slice (some ⟨w1.heap.size,0,none⟩) 1 1) 1 [.slice ba J.base.length a]):=(World.ownsRow_lit w1 #[.slice ba J.base.length a] 1 (by omega) (by decide) rfl:_)
       have Db:=hid (show fQ (w1.alloc (.cells #[.slice ba J.base.length a] 47)) (.slice (some ⟨w1.heap.size,0,none⟩) 1 1)from fun g hg=>by
        simp only[Value.ownBlock,Option.some.injEq]at hg;subst hg;exact li (heap_alloc_new w1 _) (by simp))
       have CM:Below w1.heap.size w1 (w1.alloc (.cells #[.slice ba J.base.length a] 47)):=(Below.refl _ _).alloc (Nat.le_refl _) _;have CW:=hid (CD.out.below (af CF CM))
       have Dd:=hid (show gu (w1.alloc (.cells #[.slice ba J.base.length a] 47)) J [.slice ba J.base.length a] 0 from⟨rfl,fun i u hu=>by
        rcases Nat.eq_zero_or_pos i with h|h
        · subst h
          simp at hu
          rw[←hu,iV];exact CW.out
        · rw[List.getElem?_eq_none (by simp;omega)]at hu;cases hu⟩)
       have D5:=hid (C3.out.below CM);have CS:=af CF CM;go_wp2_with fail;generalize DO:w1.alloc (.cells #[.slice ba J.base.length a] 47)=wq at*;clear DO CM c0 c1 c2 C3 CF;go_loopw [5,6,7] (fun x t i wr=> ∃(k:Nat) (us:List Value),k≤J.cos.length∧i= .int .i64 k∧Hid (wr.ownsRow (w.heap.size+1) 47 1 x us.length us)∧Hid (fQ wr x)∧Hid (gu wr J us k)∧Hid (aj wr t (bp J k))∧Hid (Pp.Good (bp J k))∧Hid (ew J (bp J k) k)∧Hid (Cs wr w.heap.size [.slice ba J.base.length a,.int .i64 J.first,.slice cb J.cos.length CE])∧Below w.heap.size w wr) (fun _ _ i _=>J.cos.length-(intOf i).toNat)
       case atStart=>exact⟨0,_,Nat.zero_le _,rfl,Dc,Db,Dd,by rw[iV];exact CW,by rw[iV];exact HG,by rw[iV];exact Jn.left_zero J,D5,CS⟩
       case round=>
        obtain⟨k,us,hk,rfl,CC,CY,C5,D9,D7,HL,z,O⟩:=hrel
        clear Dc Db Dd CW D5 CS;have c1:=z.out.cell 1 rfl;have c2:=z.out.cell 2 rfl;have DX:=z.out.lt;by_cases X:k<J.cos.length
        · obtain⟨b,o,rfl,hb,he⟩:=HC.out k X
          obtain⟨d0,d1,u,d2,hu⟩:=he.below hb O
          have HZ:=hid (Dv.out J.cos[k] (List.getElem_mem X));have d:=hid (show¬bW J.cos[k] (J.first+k)=0→bo J=bW J.cos[k] (J.first+k)from fun U=>CP.out _ _ (qq HL.out X U) U);have G:=hid (show bW J.cos[k] (J.first+k)=0→ ¬bJ (bp J k) J.cos[k].ch J.cos[k].nu=0→bo J=bJ (bp J k) J.cos[k].ch J.cos[k].nu from fun U M=>CP.out _ _ (qr HL.out X U M) M);have C4:=hid (show bW J.cos[k] (J.first+k)=0→bJ (bp J k) J.cos[k].ch J.cos[k].nu=0→ew J (bp J (k+1)) (k+1)from fun U M=>by rw[lq X];exact Jn.left_next HL.out X U M);have N:Hid (bp J (k+1)=cX (bp J k) J.cos[k].ch J.cos[k].nu):=lq X;clear he;generalize J.cos[k]=ck at*;obtain⟨nu,ke,ch⟩:=ck
          simp only at d0 d1 d2 hu;have CV:=hid (show ke.size≤maxLen from by have:ke.size≤1000000000:=HZ.out.1;unfold maxLen;omega);have HU:=hid hu;obtain⟨ua,Dr,rfl,_,_,_⟩:=hu
          have DP:IntKind.i64.wrap (J.first+(k:Int))=J.first+k:=by rw[IntKind.wrap_i64];omega
          have Y:Below wr.heap.size wr (wr.alloc (.cells #[.int .i64 nu,.string ke,.slice ua ch.length Dr] 111)):=(Below.refl _ _).alloc (Nat.le_refl _) _;have K:=af O Y;rcases nK ⟨nu,ke,ch⟩ (J.first+k)with⟨M,ae⟩|⟨M,h2,ae⟩|⟨M,h2,h3,ae⟩|⟨M,h2,h3,h4,ae⟩|⟨M,h2,h3,h4,ae⟩
          · have y:=hid (d.out (by rw[ae];decide))
            have A:=hid ae;simp only at M;clear ae d G C4 N;go_wp2_with fail;go_ret2;exact⟨_,by rw[y.out,A.out];rfl,(fun h=>by rw[y.out,A.out]at h;exact absurd h (by decide)),K⟩
          · have y:=hid (d.out (by rw[ae];decide))
            have A:=hid ae;simp only at M;subst M;clear ae d G C4 N;go_wp2_with fail;go_ret2;exact⟨_,by rw[y.out,A.out];rfl,(fun h=>by rw[y.out,A.out]at h;exact absurd h (by decide)),K⟩
          · have y:=hid (d.out (by rw[ae];decide))
            have A:=hid ae;have C7:Hid (bV ke.data.toList=false):=zZ h3;simp only at M;subst M;clear ae h3 d G C4 N;go_wp2_with fail;refine(jR ke _ CV.out).mono ?_
            rintro e w4 ⟨rfl,S⟩;rw[S,C7.out];clear S w4;go_wp2_with fail;go_ret2;exact⟨_,by rw[y.out,A.out];rfl,(fun h=>by rw[y.out,A.out]at h;exact absurd h (by decide)),K⟩
          · have y:=hid (d.out (by rw[ae];decide))
            have A:=hid ae;have C7:Hid (bV ke.data.toList=true):=sn h3;have DF:((ch.length:Int)==0)=true:=by rw[beq_iff_eq];simp only at h4;omega
            simp only at M;subst M;clear ae h3 h4 d G C4 N;go_wp2_with fail;refine(jR ke _ CV.out).mono ?_
            rintro e w4 ⟨rfl,S⟩;rw[S,C7.out];clear S w4;go_wp2_with fail;go_ret2;exact⟨_,by rw[y.out,A.out];rfl,(fun h=>by rw[y.out,A.out]at h;exact absurd h (by decide)),K⟩
          · have C7:Hid (bV ke.data.toList=true):=sn h3
            have DF:((ch.length:Int)==0)=false:=by rw[beq_eq_false_iff_ne];simp only at h4;omega
            have HA:=hid (G.out ae);have HN:=hid (C4.out ae);simp only at M;subst M;clear ae h3 h4 d G C4;go_wp2_with fail;refine(jR ke _ CV.out).mono ?_
            rintro e w4 ⟨rfl,S⟩;rw[S,C7.out];clear S w4;go_wp2_with fail;refine(zK (bp J k) _ ch _ (J.first+k) _ (D9.out.below Y) D7.out (HU.out.below Y) HZ.out.2).mono ?_
            rintro e w5 ⟨r,rfl,Do,Di⟩;have CX:=hid Do;have I:=af Y Di;have CT:=af O I;clear Do Di;by_cases U:bJ (bp J k) ch (J.first+k)=0
            · have DA:=hid (HN.out U)
              have Dx:=hid (show Pp.Good (bp J (k+1))from by rw[N.out];exact qv U);have De:=hid (show aj w5 r (bp J (k+1))from by rw[N.out];exact CX.out U);rw[U];have H:=hid (Aa CC.out I);have C8:=hid (CY.out.below (fun g hg=>(CC.out.lt g hg).2) I);have CQ:=hid (C5.out.below I);have CN:=hid (z.out.below I);obtain⟨ra,Z,rfl,_,_,_⟩:=De.out
              have CK:=C5.out.1;have DU:=I.size;clear U HA HN N CX CC CY C5 z c1 c2;go_wp2_with (at_builtin;refine uP _ rfl _ _ 138 rfl (w.heap.size+1) 47 aQ (.slice none 0 0) 1 24 underlying138 DK DQ DR DS rfl (by decide) _ _ _ rfl (H.out.alloc _) ⟨w5.heap.size,0,none⟩ 1 1 [.slice ra (bp J (k+1)).length Z] rfl rfl ?qc1 (by intro u hu;simp at hu;subst hu;rfl) (by unfold maxLen;omega) (by omega) (by simp;omega) (by decide) (by intro s;simp[Value.cells]) (by simp) ?qc2 ?_)
              case qc1=>intro j u hj;match j,hj with|0,hj=>simp at hj;subst hj;simp[Addr.add]|j+1,hj=>simp at hj
              case qc2=>exact C8.out.below (fun g hg=>(H.out.lt g hg).2) ((Below.refl _ _).alloc (Nat.le_refl _) _)
              intro v2 w2 Dp Q CU;have C6:Below w5.heap.size w5 (w5.alloc (.cells #[.slice ra (bp J (k+1)).length Z] 47)):=(Below.refl _ _).alloc (Nat.le_refl _) _;have C9:=hid (C8.out.below (fun g hg=>(H.out.lt g hg).2) C6);have D8:=hid ((De.out.below C6).row Q C9.out);have CR:=hid ((CQ.out.below C6).row Q C9.out);have Df:=hid (CR.out.snoc D8.out);have D6:=hid ((CN.out.below C6).row Q (fun g hg=>by have:=(H.out.lt g hg).1;omega));have Dg:Below w.heap.size w w2:=((af CT C6).grown Q (by simp;omega) (fun g hg=>by have:=(H.out.lt g hg).1;omega))
              have DC:=hid (show w2.ownsRow (w.heap.size+1) 47 1 v2 (us++[Value.slice ra (bp J (k+1)).length Z]).length (us++[Value.slice ra (bp J (k+1)).length Z])from by rw[List.length_append,CK];exact Dp);have DB:=hid CU;clear Dp Q CU C6 C9 CR H C8 CQ CN;go_wp2_with fail;go_roundw
              case rel=>exact⟨k+1,_,by omega,by simp,DC,DB,Df,D8,Dx,DA,D6,Dg⟩
              case measure=>simp[intOf];omega
            · have y:=hid (HA.out U)
              have hz:(bJ (bp J k) ch (J.first+k)==0)=false:=by simpa using U
              have H0:=hid U;clear U HA HN N CX;go_wp2_with fail;go_ret2;exact⟨_,by rw[y.out];rfl,fun h=>absurd (y.out▸h) H0.out,CT⟩
        · obtain rfl:k=J.cos.length:=by omega
          have hr:=Jn.left_end HL.out;have HR:=hid hr;have CK:=C5.out.1
          have CO:=hid (show jL wr u5 (J.cos.length+1) (bp J)from by
           have:=zY (f:=bp J) CC.out C5.out.2 (by rw[CK];omega)
           rw[CK]at this;exact this)
          obtain⟨xa,DY,rfl,_,_,_⟩:=CO.out
          clear hr CC CY C5 D9 D7 HL CK;generalize wr=wo at*;go_wp2_with fail;go_loopw [9] (fun i wr=> ∃m:Nat,m≤J.cos.length∧i= .int .i64 m∧Hid (cY (J.cos.take m))∧Below wo.heap.size wo wr) (fun i _=>J.cos.length-(intOf i).toNat)
          case atStart=>exact⟨0,Nat.zero_le _,rfl,(List.Pairwise.nil:cY []),Below.refl _ _⟩
          case round=>
           obtain⟨m,E0,rfl,D3,V⟩:=hrel
           clear c1 c2;have c2:=(z.out.below V).cell 2 rfl;have DV:=V.size;by_cases CJ:m<J.cos.length
           · obtain⟨b,o,rfl,hb,he⟩:=HC.out m CJ
             have Dw:=hid he;clear he;generalize wr=wp at*;go_wp2_with fail;go_loopw [10] (fun i wr=> ∃q:Nat,q≤m∧i= .int .i64 q∧Hid (iW J.cos m q)∧Below wp.heap.size wp wr) (fun i _=>m-(intOf i).toNat)
             case atStart=>exact⟨0,Nat.zero_le _,rfl,(vA _ _:iW J.cos m 0),Below.refl _ _⟩
             case round=>
              obtain⟨q,hq,rfl,CZ,CI⟩:=hrel
              clear c2;have c2:=(z.out.below (af V CI)).cell 2 rfl;have DW:=CI.size;have CG:=af O (af V CI);by_cases DL:q<m
              · obtain⟨b',o',CH,DG,Dm⟩:=HC.out q (by omega)
                injection CH with CH
                injection CH with ay e2
                subst ay;subst e2;have aD:=(Dw.out.below hb CG).2.1;have x2:=(Dm.below DG CG).2.1;clear Dm;have Dy:=hid (show J.cos[q].ke.data.toList≠J.cos[m].ke.data.toList→iW J.cos m (q+1)from fun h=>vB CZ.out (by omega) CJ h);have Dz:=hid (show J.cos[q].ke.data.toList=J.cos[m].ke.data.toList→bo J=6 from fun h=>DE.out _ HR.out (vD CJ DL h));generalize J.cos[q].ke=kq at*;generalize J.cos[m].ke=km at*;have DI:Below w.heap.size w wr.drew:=af CG (Below.refl _ _).drew;have Dk:Below wp.heap.size wp wr.drew:=af CI (Below.refl _ _).drew;cases Dn:(kq.toList==km.toList)with
                |true=>
                 have y:=hid (Dz.out (by simpa[Lib.toList_data]using Dn));go_wp2_with fail;go_region
                 go_wp2_with fail;go_ret2;exact⟨_,by rw[y.out];rfl,(fun h=>by rw[y.out]at h;exact absurd h (by decide)),DI⟩
                |false=>
                 have HN:=hid (Dy.out (by simpa[Lib.toList_data]using Dn));go_wp2_with fail;go_region
                 go_wp2_with fail;go_roundw
                 case rel=>exact⟨q+1,by omega,by simp,HN,Dk⟩
                 case measure=>simp[intOf];omega
              · obtain rfl:q=m:=by omega
                have Du:Hid (cY (J.cos.take (q+1))):=vC CJ D3.out CZ.out;have Dj:=af V CI;go_wp2_with fail;go_roundw
                case rel=>exact⟨q+1,by omega,by simp,Du,Dj⟩
                case measure=>simp[intOf];omega
           · obtain rfl:m=J.cos.length:=by omega
             have D4:=hid (show cY J.cos from by have:=D3.out;rwa [List.take_length]at this);have y:=hid (DD.out _ HR.out D4.out);have Da:=hid (CO.out.below V);have Dh:=af O V;clear CJ;go_wp2_with fail;go_ret2;exact⟨_,by rw[y.out];rfl,fun _=>Da.out,Dh⟩
   · have y:=hid (nD ht hf)
     have DT:(aM J.first==0)=false:=by simpa using hf
     clear ht hf;go_enter func74,ntmps74
     go_wp2_with fail;rw[←F];clear F;refine(jF J.base _ _ (CD.out.below P) HP.out).mono ?_
     rintro e w1 ⟨rfl,E⟩;rw[HT.out];have c1:=(CL.out.below E).cell 1 rfl;go_wp2_with fail;refine(jE J.first _).mono ?_
     rintro e w2 ⟨rfl,S⟩;rw[S];clear S w2;go_wp2_with fail;go_ret2;exact⟨_,by rw[y.out];rfl,(fun h=>by rw[y.out]at h;exact absurd h (by decide)),af P E⟩
 · have DT:(aA J.base==0)=false:=by simpa using ht
   have y:=hid (nB ht);have HN:=hid ht;go_enter func74,ntmps74
   go_wp2_with fail;rw[←F];clear F;refine(jF J.base _ _ (CD.out.below P) HP.out).mono ?_
   rintro e w1 ⟨rfl,E⟩;go_wp2_with fail;go_ret2;exact⟨_,by rw[y.out];rfl,fun h=>absurd (y.out▸h) HN.out,af P E⟩
end Go.Proofs.YtgamnckfmmbjdaaGreatDoor
