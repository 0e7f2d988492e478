/- What upload.ends answers, for every two texts and every number. -/
import Derived.Test.YtdlpjlfefjipkaaGreatHFQ
import Derived.Test.YtdlpjlfefjipkaaGreatHFZF
set_option linter.unusedSimpArgs false
set_option linter.unusedVariables false
namespace Go.Proofs.YtdlpjlfefjipkaaGreat
open Go.RowKit Go.Proofs.Tryz
set_option maxHeartbeats 4000000
set_option maxRecDepth 100000
def fg (t:ByteArray) (o:Int) (p:ByteArray):Bool:=a9 0 o t.size && ((t.extract o.toNat t.size).toList==p.toList)
theorem nV (t p:ByteArray) (o:Int) (w:World) (u:t.size≤150000000000000):
    Calls prog 107 #[t,o,p] w fun e w'=>e= .returned (.bool (fg t o p))∧w'=w:=by
 cases a:a9 0 o t.size with
 |false=>
  have d:=ac a;have f:=hid (show false=fg t o p from by rw[fg,a];rfl);clear a;go_enter func107,ntmps107
  go_wp2_with fail;refine(el 0 o t.size _).mono ?_
  rintro e g ⟨rfl,c⟩;rw[c,d.out];clear c g;go_wp2;go_ret;exact⟨br f.out,rfl⟩
 |true=>
  have d:=ac a;obtain⟨i,j⟩:=eO a
  obtain⟨k,rfl⟩: ∃k:Nat,o=(k:Int):=⟨o.toNat,by omega⟩
  have s:k≤t.size:=by omega
  have f:=hid (show((t.extract k t.size).toList==p.toList)=fg t k p from by rw[fg,a];rfl);clear a;go_enter func107,ntmps107
  go_wp2_with fail;refine(el 0 k t.size _).mono ?_
  rintro e g ⟨rfl,c⟩;rw[c,d.out];clear c g;go_wp2;go_ret;exact⟨br f.out,rfl⟩
def bB (G:List Se) (x l r now:Int):Int:=if be G x l r=0 then(if a9 0 now 1099511627776=true then 0 else 3)else be G x l r
theorem mE (G:List Se) (x l r now:Int):bl G x l r now []=bB G x l r now:=by
 have h:aU []=0:=rfl;rw[bl,bB,h]
theorem BW {now:Int} {G:List Se} {k:Nat} (h:k<G.length):aq now (G.take (k+1))=if gR now G[k]=true then aq now (G.take k)else aq now (G.take k)++[G[k]]:=by
 rw[aq,aq,List.take_succ_eq_append_getElem h,List.filter_append];cases a:gR now G[k]<;>simp[a]
theorem gS (G:List Se) (v:Value) (x l r now:Int) (w:World) (u:aK w v G) (s:bq G):
    Calls prog 49 #[.agg #[v,x,l,r],now] w fun e w'=>e= .returned (.int .i64 (bB G x l r now))∧Below w.heap.size w w':=by
 have i:=ac u;have g:=ac s;clear u s;by_cases d:be G x l r=0
 · have j:=ac d
   by_cases z:now<0
   · have f:=hid (show 3=bB G x l r now from by rw[bB,if_pos d,if_neg];simp[a9];omega)
     clear d;go_enter func49,ntmps49
     go_wp2_with fail;refine(mD G _ x l r _ (i.out.below ak) g.out).mono ?_
     rintro e o ⟨rfl,a⟩;rw[j.out];obtain⟨_,_,_,_,c,_⟩:=ft a
     go_wp2;go_ret;exact⟨aB f.out,c⟩
   · by_cases A:1099511627776<now
     · have f:=hid (show 3=bB G x l r now from by rw[bB,if_pos d,if_neg];simp[a9];omega)
       clear d;go_enter func49,ntmps49
       go_wp2_with fail;refine(mD G _ x l r _ (i.out.below ak) g.out).mono ?_
       rintro e o ⟨rfl,a⟩;rw[j.out];obtain⟨_,_,_,_,c,_⟩:=ft a
       go_wp2;go_ret;exact⟨aB f.out,c⟩
     · have f:=hid (show 0=bB G x l r now from by rw[bB,if_pos d,if_pos];simp[a9];omega)
       clear d;go_enter func49,ntmps49
       go_wp2_with fail;refine(mD G _ x l r _ (i.out.below ak) g.out).mono ?_
       rintro e o ⟨rfl,a⟩;rw[j.out];obtain⟨_,_,_,_,c,_⟩:=ft a
       go_wp2;go_ret;exact⟨aB f.out,c⟩
 · have f:=hid (show be G x l r=bB G x l r now from(if_neg d).symm)
   have B:(be G x l r==0)=false:=by simpa using d
   go_enter func49,ntmps49
   go_wp2_with fail;refine(mD G _ x l r _ (i.out.below ak) g.out).mono ?_
   rintro e o ⟨rfl,a⟩;obtain⟨_,_,_,_,c,_⟩:=ft a
   generalize be G x l r=y at*;go_wp2;go_ret;exact⟨aB f.out,c⟩
def gB (p:ByteArray) (n:Int) (s:Se):Bool:=(s.wh.toList==p.toList) && (s.nu==n)
theorem vz (G:List Se) (v:Value) (x l r:Int) (p:ByteArray) (n:Int) (w:World) (V:aK w v G):
    Calls prog 51 #[.agg #[v,x,l,r],p,n] w fun e w'=>e= .returned (.int .i64 (cM G (gB p n)))∧Below w.heap.size w w':=by
 obtain⟨a,z,rfl,O,K,B⟩:=V
 have Q:Hid (∀i (h:i<G.length),∃b o,a=some ⟨b,o,none⟩∧b<w.heap.size∧et w b (o+i*5) G[i]):=B;clear B;obtain⟨u,f⟩: ∃u,u=w.alloc (.cells #[.slice a G.length z,x,l,r] 26):=⟨_,rfl⟩
 have C:Below w.heap.size w u:=by rw[f];exact ak
 have F:=hid (show Bx u w.heap.size (.slice a G.length z) x (.int .i64 l) r from by rw[f];exact Bx.new _ _ _ _ _ _);go_enter func51,ntmps51
 go_wp2_with fail;rw[←f];clear f;go_loopw [7] (fun i wr=> ∃k:Nat,k≤G.length∧i= .int .i64 k∧Hid (∀j (N:j<G.length),j<k→gB p n G[j]=false)∧Below u.heap.size u wr) (fun i _=>G.length-(intOf i).toNat)
 case atStart=>exact⟨0,Nat.zero_le _,rfl,(fun j _ h=>absurd h (Nat.not_lt_zero _): ∀j (N:j<G.length),j<0→gB p n G[j]=false),aw⟩
 case round=>
  obtain⟨k,hk,rfl,I,c⟩:=hrel
  have d:Below w.heap.size w wr:=C.trans (c.mono C.size);obtain⟨S,⟨X,Y,Z,a3⟩,_⟩:=F.out.below c
  by_cases E:k<G.length
  · obtain⟨b,o,rfl,T,P⟩:=Q.out k E
    obtain⟨c0,c1,c2,c3,c4⟩:=P.below T d
    have R:=hid (show gB p n G[k]=true→(k:Int)=cM G (gB p n)from fun h=>uo E I.out h)
    have M:=hid (show gB p n G[k]=false→ ∀j (N:j<G.length),j<k+1→gB p n G[j]=false from fun U j A J=>by
     by_cases e:j=k
     · subst e;exact U
     · exact I.out j A (by omega))
    clear P;generalize G[k]=s at*;cases A:(s.wh.toList==p.toList)with
    |true=>
     cases J:(s.nu==n)with
     |true=>
      have H:=ac (R.out (by rw[gB,A,J];rfl));go_wp2;go_ret;exact⟨aB H.out,d⟩
     |false=>
      have g:=ac (M.out (by rw[gB,A,J];rfl));go_wp2;go_roundw
      case rel=>exact⟨k+1,by omega,by simp,g,c⟩
      case measure=>simp[intOf];omega
    |false=>
     have g:=ac (M.out (by rw[gB,A];rfl));go_wp2;go_roundw
     case rel=>exact⟨k+1,by omega,by simp,g,c⟩
     case measure=>simp[intOf];omega
  · have H:=hid (show-1=cM G (gB p n)from uq (fun j h=>I.out j h (by omega)))
    go_wp2;go_ret;exact⟨aB H.out,d⟩
theorem vA {f h:ByteArray} {r:Int} {G:List Gr} (hG:G.Pairwise (fun x y=>a7 x y=true)):is ⟨f,h,r⟩ (r==0) G=cC ⟨f,h,r⟩ G:=by
 by_cases a:r=0
 · rw[uN a,show(r==0)=true by simpa using a];exact Bo _ _
 · rw[qw a,show(r==0)=false by simpa using a];exact Bm hG
def ed (G:List Gr) (b:ByteArray) (x:Gr):Int:=if(x.ri=0∧(b.toList==x.wh.toList)=true)∨aL G x.fo b=3 then(if x.ri=0∧aL G x.fo x.wh=0 then 5 else 0)else 9
theorem mF (G:List Gr) (b:ByteArray) (x:Gr):
    (¬x.ri=0∧ ¬aL G x.fo b=3∧ed G b x=9)∨(¬x.ri=0∧aL G x.fo b=3∧ed G b x=0)∨
    (x.ri=0∧(b.toList==x.wh.toList)=true∧aL G x.fo x.wh=0∧ed G b x=5)∨(x.ri=0∧(b.toList==x.wh.toList)=true∧ ¬aL G x.fo x.wh=0∧ed G b x=0)∨
    (x.ri=0∧(b.toList==x.wh.toList)=false∧ ¬aL G x.fo b=3∧ed G b x=9)∨
    (x.ri=0∧(b.toList==x.wh.toList)=false∧aL G x.fo b=3∧aL G x.fo x.wh=0∧ed G b x=5)∨(x.ri=0∧(b.toList==x.wh.toList)=false∧aL G x.fo b=3∧ ¬aL G x.fo x.wh=0∧ed G b x=0):=by
 by_cases a:x.ri=0<;>cases d:(b.toList==x.wh.toList)<;>by_cases c:aL G x.fo b=3<;>by_cases f:aL G x.fo x.wh=0<;>simp[ed,a,d,c,f]
theorem nW (G:List Gr) (v:Value) (b:ByteArray) (x:Gr) (w:World) (K:bj w v G):
    Calls prog 140 #[v,b,.agg #[x.fo,x.wh,x.ri]] w fun e w'=>e= .returned (.int .i64 (ed G b x))∧Below w.heap.size w w':=by
 have o:=ac K;clear K;rcases mF G b x with⟨d,f,hE⟩|⟨d,f,hE⟩|⟨d,E,j,hE⟩|⟨d,E,j,hE⟩|⟨d,E,f,hE⟩|⟨d,E,f,j,hE⟩|⟨d,E,f,j,hE⟩
 · have B:(x.ri==0)=false:=by simpa using d
   have I:(aL G x.fo b==3)=false:=by simpa using f
   have g:=ac hE;clear hE d f;go_enter func140,ntmps140
   go_wp2_with fail;refine(jL G _ x.fo b _ (o.out.below ak)).mono ?_
   rintro e C ⟨rfl,a⟩;obtain⟨s,u,c2,c,i⟩:=ey a
   clear a;go_wp2;go_ret;exact⟨by rw[g.out];rfl,c⟩
 · have B:(x.ri==0)=false:=by simpa using d
   have F:=ac f;have g:=ac hE;clear hE d f;go_enter func140,ntmps140
   go_wp2_with fail;refine(jL G _ x.fo b _ (o.out.below ak)).mono ?_
   rintro e C ⟨rfl,a⟩;rw[F.out];obtain⟨s,u,c2,c,i⟩:=ey a
   clear a;go_wp2;go_ret;exact⟨by rw[g.out];rfl,c⟩
 · have B:(x.ri==0)=true:=by simpa using d
   have H:=ac j;have g:=ac hE;clear hE d j;go_enter func140,ntmps140
   go_wp2_with fail;refine(jL G _ x.fo x.wh _ (o.out.below ak)).mono ?_
   rintro e C ⟨rfl,a⟩;rw[H.out];obtain⟨s,u,c2,c,i⟩:=ey a
   clear a;go_wp2;go_ret;exact⟨by rw[g.out];rfl,c⟩
 · have B:(x.ri==0)=true:=by simpa using d
   have J:(aL G x.fo x.wh==0)=false:=by simpa using j
   have g:=ac hE;clear hE d j;go_enter func140,ntmps140
   go_wp2_with fail;refine(jL G _ x.fo x.wh _ (o.out.below ak)).mono ?_
   rintro e C ⟨rfl,a⟩;obtain⟨s,u,c2,c,i⟩:=ey a
   clear a;go_wp2;go_ret;exact⟨by rw[g.out];rfl,c⟩
 · have B:(x.ri==0)=true:=by simpa using d
   have I:(aL G x.fo b==3)=false:=by simpa using f
   have g:=ac hE;clear hE d f;go_enter func140,ntmps140
   go_wp2_with fail;refine(jL G _ x.fo b _ (o.out.below ak)).mono ?_
   rintro e C ⟨rfl,a⟩;obtain⟨s,u,c2,c,i⟩:=ey a
   clear a;go_wp2;go_ret;exact⟨by rw[g.out];rfl,c⟩
 all_goals
  have B:(x.ri==0)=true:=by simpa using d
  have F:=ac f;have g:=ac hE
  first
   |(have H:Hid (aL G x.fo x.wh=0):=j)
   |(have J:(aL G x.fo x.wh==0)=false:=by simpa using j)
  clear hE d f j;go_enter func140,ntmps140
  go_wp2_with fail;refine(jL G _ x.fo b _ (o.out.below ak)).mono ?_
  rintro e C ⟨rfl,a⟩;rw[F.out];obtain⟨s,u,c2,c,i⟩:=ey a
  clear a;go_wp2_with fail;refine(jL G _ x.fo x.wh _ (o.out.below c)).mono ?_
  rintro e M ⟨rfl,A⟩;try rw[H.out]
  have z:=aG c A;clear A c;go_wp2;go_ret;exact⟨by rw[g.out];rfl,z⟩
def eU (G:List Gr) (f b m:ByteArray) (r:Int):Int:=
 if aU [f,b,m]=0 then(if r<0∨3<r then 3 else if ed G b ⟨f,m,r⟩=0 then(if(cC ⟨f,m,r⟩ G).any (cF f)=true then(if 60<(cC ⟨f,m,r⟩ G).length then 2 else 0)else 4)else ed G b ⟨f,m,r⟩)else 1
theorem vB (G:List Gr) (f b m:ByteArray) (r:Int):
    (aU [f,b,m]=1∧eU G f b m r=1)∨(aU [f,b,m]=0∧r<0∧eU G f b m r=3)∨(aU [f,b,m]=0∧0≤r∧3<r∧eU G f b m r=3)∨
    (aU [f,b,m]=0∧0≤r∧r≤3∧ ¬ed G b ⟨f,m,r⟩=0∧eU G f b m r=ed G b ⟨f,m,r⟩)∨
    (aU [f,b,m]=0∧0≤r∧r≤3∧ed G b ⟨f,m,r⟩=0∧(cC ⟨f,m,r⟩ G).any (cF f)=false∧eU G f b m r=4)∨
    (aU [f,b,m]=0∧0≤r∧r≤3∧ed G b ⟨f,m,r⟩=0∧(cC ⟨f,m,r⟩ G).any (cF f)=true∧60<(cC ⟨f,m,r⟩ G).length∧eU G f b m r=2)∨
    (aU [f,b,m]=0∧0≤r∧r≤3∧ed G b ⟨f,m,r⟩=0∧(cC ⟨f,m,r⟩ G).any (cF f)=true∧(cC ⟨f,m,r⟩ G).length≤60∧eU G f b m r=0):=by
 rcases uv [f,b,m]with h|h
 · right
   have a:eU G f b m r=(if r<0∨3<r then 3 else if ed G b ⟨f,m,r⟩=0 then(if(cC ⟨f,m,r⟩ G).any (cF f)=true then(if 60<(cC ⟨f,m,r⟩ G).length then 2 else 0)else 4)else ed G b ⟨f,m,r⟩):=if_pos h;by_cases g:r<0
   · left;exact⟨h,g,by rw[a,if_pos (Or.inl g)]⟩
   · right
     by_cases i:3<r
     · left;exact⟨h,by omega,i,by rw[a,if_pos (Or.inr i)]⟩
     · right
       rw[if_neg (by omega)]at a;by_cases c:ed G b ⟨f,m,r⟩=0
       · right
         rw[if_pos c]at a;cases j:(cC ⟨f,m,r⟩ G).any (cF f)with
         |false=>left;exact⟨h,by omega,by omega,c,rfl,by rw[a,j];rfl⟩
         |true=>
          right
          rw[j,if_pos rfl]at a;by_cases d:60<(cC ⟨f,m,r⟩ G).length
          · left;exact⟨h,by omega,by omega,c,rfl,d,by rw[a,if_pos d]⟩
          · right;exact⟨h,by omega,by omega,c,rfl,by omega,by rw[a,if_neg d]⟩
       · left;exact⟨h,by omega,by omega,c,by rw[a,if_neg c]⟩
 · left;exact⟨h,by rw[eU,if_neg (by rw[h];decide)]⟩
def eF (G:List Gr) (f b m:ByteArray) (r:Int):Int:=if bh G=0 then eU G f b m r else bh G
def eG (G:List Gr) (f b m:ByteArray) (r:Int):List Gr:=if eF G f b m r=0 then cC ⟨f,m,r⟩ G else[]
theorem kC {G:List Gr} {f b m:ByteArray} {r:Int} (h: ¬eF G f b m r=0):eG G f b m r=[]:=if_neg h
theorem BX {G:List Gr} {f b m:ByteArray} {r:Int} (h:eF G f b m r=0):eG G f b m r=cC ⟨f,m,r⟩ G:=if_pos h
theorem BY (G:List Gr) (v:Value) (f b m:ByteArray) (r:Int) (w:World) (hv:bj w v G) (hs:eu G) (hf:f.size≤150000000000000) (hb:b.size≤150000000000000) (hm:m.size≤150000000000000):
    Calls prog 103 #[v,f,b,m,r] w fun e w'=> ∃u,e= .returned (.tuple #[u,eF G f b m r])∧(bj w' u (eG G f b m r)∧Fr w.heap.size u)∧Below w.heap.size w w':=by
 have P:=ac hv;have T:=ac hs;clear hv hs;have E0: ∀i (C:i<[f,b,m].length),([f,b,m][i]).size≤1000000000000000:=fun i C=>by match i,C with|0,_=>exact Nat.le_trans hf (by decide)|1,_=>exact Nat.le_trans hb (by decide)|2,_=>exact Nat.le_trans hm (by decide)
 have E:=ac E0;clear E0 hf hb hm;by_cases g:bh G=0
 case neg=>
  have o:eF G f b m r=bh G:=if_neg g;have F:gP G [f,b,m]=bh G:=if_neg g;have O:Hid (eG G f b m r=[]):=kC (by rw[o];exact g);have N:=ac o;have M:=ac F;have hz:(bh G==0)=false:=by simpa using g
  clear o F g;go_enter func103,ntmps103
  go_wp2_with fail;refine(fT G _ [f,b,m] w.heap.size 3 _ (P.out.below ak) T.out (by simp) E.out (by simp) (fun i C=>by match i,C with|0,_=>simp|1,_=>simp|2,_=>simp)).mono ?_
  rintro e Q ⟨rfl,d⟩;rw[M.out];have a:Below w.heap.size w Q:= ak.trans (d.mono (by simp));clear d;generalize hy:bh G=y at*;go_wp2;go_ret2;exact⟨_,by rw[N.out];rfl,by rw[O.out];exact⟨fu _,fQ _⟩,a⟩
 case pos=>
 have o:eF G f b m r=eU G f b m r:=if_pos g;have F:gP G [f,b,m]=aU [f,b,m]:=if_pos g;obtain⟨E1,_,V,_⟩:=jP g
 have Y:=ac ((mr G).1 V);have E2:=qx ⟨f,m,r⟩ G;clear V;rcases vB G f b m r with⟨A,hE⟩|⟨A,h1,hE⟩|⟨A,h1,h2,hE⟩|⟨A,h1,h2,S,hE⟩|⟨A,h1,h2,S,U,hE⟩|⟨A,h1,h2,S,U,h6,hE⟩|⟨A,h1,h2,S,U,h6,hE⟩
 case inl=>
  have O:Hid (eG G f b m r=[]):=kC (by rw[o,hE];decide);have N:=ac (o.trans hE);have M:=ac (F.trans A);clear o F hE A g;go_enter func103,ntmps103
  go_wp2_with fail;refine(fT G _ [f,b,m] w.heap.size 3 _ (P.out.below ak) T.out (by simp) E.out (by simp) (fun i C=>by match i,C with|0,_=>simp|1,_=>simp|2,_=>simp)).mono ?_
  rintro e Q ⟨rfl,d⟩;rw[M.out];have a:Below w.heap.size w Q:= ak.trans (d.mono (by simp));clear d;go_wp2;go_ret2;exact⟨_,by rw[N.out];rfl,by rw[O.out];exact⟨fu _,fQ _⟩,a⟩
 case inr.inl=>
  have O:Hid (eG G f b m r=[]):=kC (by rw[o,hE];decide);have N:=ac (o.trans hE);have M:=ac (F.trans A);clear o F hE A g;go_enter func103,ntmps103
  go_wp2_with fail;refine(fT G _ [f,b,m] w.heap.size 3 _ (P.out.below ak) T.out (by simp) E.out (by simp) (fun i C=>by match i,C with|0,_=>simp|1,_=>simp|2,_=>simp)).mono ?_
  rintro e Q ⟨rfl,d⟩;rw[M.out];have a:Below w.heap.size w Q:= ak.trans (d.mono (by simp));clear d;go_wp2;go_ret2;exact⟨_,by rw[N.out];rfl,by rw[O.out];exact⟨fu _,fQ _⟩,a⟩
 case inr.inr.inl=>
  have O:Hid (eG G f b m r=[]):=kC (by rw[o,hE];decide);have N:=ac (o.trans hE);have M:=ac (F.trans A);clear o F hE A g;go_enter func103,ntmps103
  go_wp2_with fail;refine(fT G _ [f,b,m] w.heap.size 3 _ (P.out.below ak) T.out (by simp) E.out (by simp) (fun i C=>by match i,C with|0,_=>simp|1,_=>simp|2,_=>simp)).mono ?_
  rintro e Q ⟨rfl,d⟩;rw[M.out];have a:Below w.heap.size w Q:= ak.trans (d.mono (by simp));clear d;go_wp2;go_ret2;exact⟨_,by rw[N.out];rfl,by rw[O.out];exact⟨fu _,fQ _⟩,a⟩
 case inr.inr.inr.inl=>
  have O:Hid (eG G f b m r=[]):=kC (by rw[o,hE];exact S);have N:=ac (o.trans hE);have M:=ac (F.trans A);have hz:(ed G b ⟨f,m,r⟩==0)=false:=by simpa using S
  clear o F hE A g S;go_enter func103,ntmps103
  go_wp2_with fail;refine(fT G _ [f,b,m] w.heap.size 3 _ (P.out.below ak) T.out (by simp) E.out (by simp) (fun i C=>by match i,C with|0,_=>simp|1,_=>simp|2,_=>simp)).mono ?_
  rintro e Q ⟨rfl,d⟩;rw[M.out];have a:Below w.heap.size w Q:= ak.trans (d.mono (by simp));clear d;go_wp2_with fail;refine(nW G _ b ⟨f,m,r⟩ _ (P.out.below (by first|exact a|exact a.alloc a.size _))).mono ?_
  rintro e w2 ⟨rfl,s⟩;obtain⟨c0,c1,c2,x,Z⟩:=ey s
  have c:=aG a x;clear s x a;generalize ed G b ⟨f,m,r⟩=y at*;go_wp2;go_ret2;exact⟨_,by rw[N.out];rfl,by rw[O.out];exact⟨fu _,fQ _⟩,c⟩
 case inr.inr.inr.inr.inl=>
  have O:Hid (eG G f b m r=[]):=kC (by rw[o,hE];decide);have N:=ac (o.trans hE);have M:=ac (F.trans A);have HG:=ac S;have HA:=ac U;clear o F hE A g S U;go_enter func103,ntmps103
  go_wp2_with fail;refine(fT G _ [f,b,m] w.heap.size 3 _ (P.out.below ak) T.out (by simp) E.out (by simp) (fun i C=>by match i,C with|0,_=>simp|1,_=>simp|2,_=>simp)).mono ?_
  rintro e Q ⟨rfl,d⟩;rw[M.out];have a:Below w.heap.size w Q:= ak.trans (d.mono (by simp));clear d;go_wp2_with fail;refine(nW G _ b ⟨f,m,r⟩ _ (P.out.below (by first|exact a|exact a.alloc a.size _))).mono ?_
  rintro e w2 ⟨rfl,s⟩;rw[HG.out];obtain⟨c0,c1,c2,x,Z⟩:=ey s
  have c:=aG a x;clear s x a;go_wp2_with fail;refine(nM G _ ⟨f,m,r⟩ _ (P.out.below c) (by omega) Y.out).mono ?_
  rintro e w4 ⟨u,rfl,⟨K,J⟩,I⟩;have X:=ac (J.mono c.size);clear J;have B:=ac K;have j:=aG c I;clear K I c c0 c1 c2;go_wp2_with fail;refine(nA _ _ f _ B.out).mono ?_
  rintro e w5 ⟨rfl,z⟩;rw[HA.out];have H:=aG j z;clear z j;go_wp2;go_ret2;exact⟨_,by rw[N.out];rfl,by rw[O.out];exact⟨fu _,fQ _⟩,H⟩
 case inr.inr.inr.inr.inr.inl=>
  have O:Hid (eG G f b m r=[]):=kC (by rw[o,hE];decide);have N:=ac (o.trans hE);have M:=ac (F.trans A);have HG:=ac S;have HA:=ac U;clear o F hE A g S U;go_enter func103,ntmps103
  go_wp2_with fail;refine(fT G _ [f,b,m] w.heap.size 3 _ (P.out.below ak) T.out (by simp) E.out (by simp) (fun i C=>by match i,C with|0,_=>simp|1,_=>simp|2,_=>simp)).mono ?_
  rintro e Q ⟨rfl,d⟩;rw[M.out];have a:Below w.heap.size w Q:= ak.trans (d.mono (by simp));clear d;go_wp2_with fail;refine(nW G _ b ⟨f,m,r⟩ _ (P.out.below (by first|exact a|exact a.alloc a.size _))).mono ?_
  rintro e w2 ⟨rfl,s⟩;rw[HG.out];obtain⟨c0,c1,c2,x,Z⟩:=ey s
  have c:=aG a x;clear s x a;go_wp2_with fail;refine(nM G _ ⟨f,m,r⟩ _ (P.out.below c) (by omega) Y.out).mono ?_
  rintro e w4 ⟨u,rfl,⟨K,J⟩,I⟩;have X:=ac (J.mono c.size);clear J;have B:=ac K;have j:=aG c I;clear K I c c0 c1 c2;go_wp2_with fail;refine(nA _ _ f _ B.out).mono ?_
  rintro e w5 ⟨rfl,z⟩;rw[HA.out];have H:=aG j z;have R:=ac (B.out.below z);clear z j B;go_wp2_with fail;refine(uP _ _ _ R.out h6).mono ?_
  rintro e w6 ⟨rfl,hw⟩;rw[hw];clear hw w6;go_wp2;go_ret2;exact⟨_,by rw[N.out];rfl,by rw[O.out];exact⟨fu _,fQ _⟩,H⟩
 case inr.inr.inr.inr.inr.inr=>
  have O:Hid (eG G f b m r=cC ⟨f,m,r⟩ G):=BX (o.trans hE);have N:=ac (o.trans hE);have M:=ac (F.trans A);have HG:=ac S;have HA:=ac U;clear o F hE A g S U;go_enter func103,ntmps103
  go_wp2_with fail;refine(fT G _ [f,b,m] w.heap.size 3 _ (P.out.below ak) T.out (by simp) E.out (by simp) (fun i C=>by match i,C with|0,_=>simp|1,_=>simp|2,_=>simp)).mono ?_
  rintro e Q ⟨rfl,d⟩;rw[M.out];have a:Below w.heap.size w Q:= ak.trans (d.mono (by simp));clear d;go_wp2_with fail;refine(nW G _ b ⟨f,m,r⟩ _ (P.out.below (by first|exact a|exact a.alloc a.size _))).mono ?_
  rintro e w2 ⟨rfl,s⟩;rw[HG.out];obtain⟨c0,c1,c2,x,Z⟩:=ey s
  have c:=aG a x;clear s x a;go_wp2_with fail;refine(nM G _ ⟨f,m,r⟩ _ (P.out.below c) (by omega) Y.out).mono ?_
  rintro e w4 ⟨u,rfl,⟨K,J⟩,I⟩;have X:=ac (J.mono c.size);clear J;have B:=ac K;have j:=aG c I;clear K I c c0 c1 c2;go_wp2_with fail;refine(nA _ _ f _ B.out).mono ?_
  rintro e w5 ⟨rfl,z⟩;rw[HA.out];have H:=aG j z;have R:=ac (B.out.below z);clear z j B;go_wp2_with fail;refine(ud _ _ _ R.out h6).mono ?_
  rintro e w6 ⟨rfl,hw⟩;rw[hw];clear hw w6;go_wp2;go_ret2;exact⟨_,by rw[N.out];rfl,by rw[O.out];exact⟨R.out,X.out⟩,H⟩
theorem BZ (H:Hb) (q:Rq) (vq:Value) (g J:Nat) (w:World) (I:bU w g J H) (hs:eu H.gs) (hq:bH w vq q) (G:cE q):
    Calls prog 76 #[.pointer (some ⟨g,0,none⟩),vq] w fun z w'=>z= .returned (.int .i64 (eF H.gs q.fo q.who q.name q.num))∧bU w' g J (jR H (eF H.gs q.fo q.who q.name q.num) (eG H.gs q.fo q.who q.name q.num))∧w.grownBy w' (some g):=by
 have T:=hid hs;have A:=hid G;clear hs G;obtain⟨va,rfl,lq⟩:=hq
 have E1:=hid lq;obtain⟨qa,qc,rfl,_⟩:=lq
 obtain⟨kind,who,fo,name,key,text,num,off,base,ch⟩:=q
 simp only at*;obtain⟨v,s⟩: ∃v,v=w.alloc (.cells #[kind,who,fo,name,key,text,num,off,base,.slice qa ch.length qc] 31):=⟨_,rfl⟩
 have i:Below w.heap.size w v:=by rw[s];exact ak
 have f:Hid (Cs v w.heap.size [kind,who,fo,name,key,text,num,off,base,.slice qa ch.length qc]):=(by rw[s];exact Cs.new w [kind,who,fo,name,key,text,num,off,base,.slice qa ch.length qc] _:Cs v w.heap.size _)
 obtain⟨fos,gs,ss,nx,la,ro,now⟩:=H
 obtain⟨fa,fc,ga,gc,sa,sc,U,hF,hG,hS⟩:=I.shape
 simp only at*;have HC:=hid U;have HF:=hid hF;have HG:=hid hG;have HS:=hid hS;have Z:=U.lt;have O:=hid (HC.out.below i);have P:=hid (HG.out.below i);have E0:g<v.heap.size:=Nat.lt_of_lt_of_le Z i.size;have o:=f.out.lt;clear I hF hG hS U;have p1:=O.out.cell 1 rfl;have x2:=f.out.cell 2 rfl;have x1:=f.out.cell 1 rfl;have x3:=f.out.cell 3 rfl;have x6:=f.out.cell 6 rfl;obtain⟨E,hE⟩: ∃E,E=eF gs fo who name num:=⟨_,rfl⟩
 obtain⟨L,V⟩: ∃L,L=eG gs fo who name num:=⟨_,rfl⟩
 rw[←hE,←V];have HE:=hid hE;have HL:=hid V;clear hE V;go_enter func76,ntmps76
 go_upto_region 1 with fail;rw[←s];clear s
 go_region_held3 (fun W=>W.cell? ⟨g,1,none⟩=some (.slice ga gs.length gc)∧W.cell? ⟨w.heap.size,2,none⟩=some (.string fo)∧W.cell? ⟨w.heap.size,1,none⟩=some (.string who)∧W.cell? ⟨w.heap.size,3,none⟩=some (.string name)∧W.cell? ⟨w.heap.size,6,none⟩=some (.int .i64 num)) (go_keep) (first
  |(go_at_call 103;refine(BY gs _ fo who name num _ (P.out.below aw.drew) T.out A.out.fo A.out.who A.out.name).mono ?_;rw[←HE.out,←HL.out];rintro e M ⟨u,rfl,⟨F,_⟩,X⟩;have c:Below v.heap.size v M:=( aw.drew).trans X;have j0:=(c.cell (p:=⟨g,1,none⟩) E0).trans p1;have j1:=(c.cell (p:=⟨w.heap.size,2,none⟩) o).trans x2;have j2:=(c.cell (p:=⟨w.heap.size,1,none⟩) o).trans x1;have j3:=(c.cell (p:=⟨w.heap.size,3,none⟩) o).trans x3;have j4:=(c.cell (p:=⟨w.heap.size,6,none⟩) o).trans x6))
 have Q:=hid F;obtain⟨ua,uc,rfl,_⟩:=F
 have a:=an i c;have d:=hid (HC.out.below a);clear p1 x1 x2 x3 x6 j0 j1 j2 j3 j4;by_cases K:E=0
 · subst K
   obtain⟨C,B⟩: ∃C,C=M.setCell ⟨g,1,none⟩ (.slice ua L.length uc):=⟨_,rfl⟩
   have j:M.grownBy C (some g):=by rw[B];exact aj _ _ _ _
   have N:Hid (Cs C g [.slice fa fos.length fc,.slice ua L.length uc,.slice sa ss.length sc,nx,la,ro,now,.map (some J)]):=(by rw[B];exact d.out.set 1 _:Cs C g _)
   have x:=hid (qN d.out);have S:=hid (show bU C g J ⟨fos,L,ss,nx,la,ro,now⟩from⟨_,_,_,N.out,(HF.out.below a).nb j x.out,Q.out.nb j x.out,(HS.out.below a).nb j x.out⟩);have Y:w.grownBy C (some g):=Nb.trans (Nb.below g a) j;have p1:=d.out.cell 1 rfl;have f1:=d.out.fr 1;go_wp2_with fail;rw[←B];go_ret;exact⟨rfl,by rw[jR,if_pos rfl];exact S.out,Y⟩
 · have hz:(E==0)=false:=by simpa using K
   have R:=hid K;have S:=hid (show bU M g J ⟨fos,gs,ss,nx,la,ro,now⟩from⟨_,_,_,d.out,HF.out.below a,HG.out.below a,HS.out.below a⟩);clear K;go_wp2;go_ret;exact⟨rfl,by rw[jR,if_neg R.out];exact S.out,Nb.below g a⟩
theorem B0 (G:List Gr) (v u:Value) (w:World) (M:bj w v G) (K:bj w u G):
    Calls prog 32 #[v,u] w fun e w'=>e= .returned (.bool true)∧Below w.heap.size w w':=by
 obtain⟨a,H,rfl,C,x,B⟩:=M
 have E:Hid (∀i (h:i<G.length),∃b o,a=some ⟨b,o,none⟩∧b<w.heap.size∧em w b (o+i*3) G[i]):=B;obtain⟨F,A,rfl,s,_,d⟩:=K
 have g:Hid (∀i (h:i<G.length),∃b o,F=some ⟨b,o,none⟩∧b<w.heap.size∧em w b (o+i*3) G[i]):=d;clear B d;go_enter func32,ntmps32
 go_wp2;go_loopw [5] (fun i wr=> ∃k:Nat,k≤G.length∧i= .int .i64 k∧Below w.heap.size w wr) (fun i _=>G.length-(intOf i).toNat)
 case atStart=>exact⟨0,Nat.zero_le _,rfl,aw⟩
 case round=>
  obtain⟨k,T,rfl,c⟩:=hrel
  by_cases f:k<G.length
  · obtain⟨b,o,rfl,I,J⟩:=E.out k f
    obtain⟨N,U,rfl,j,z⟩:=g.out k f
    obtain⟨O,P,c2⟩:=J.below I c
    obtain⟨Q,R,S⟩:=z.below j c
    go_wp2_with fail;go_region
    go_wp2;go_roundw
    case rel=>exact⟨k+1,by omega,by simp,c.drew⟩
    case measure=>simp[intOf];omega
  · go_wp2
    go_ret;exact⟨rfl,c⟩
theorem mG (G:List Se) (v:Value) (x l r now:Int) (w:World) (hv:aK w v G) (hn:G.length≤1000):
    Calls prog 50 #[.agg #[v,x,l,r],now] w fun e w'=> ∃u,e= .returned (.agg #[u,x,l,r])∧bR w.heap.size w' u (aq now G)∧Below w.heap.size w w':=by
 obtain⟨i0,E0,E2,E3,E4⟩:=info_parts Tryz.infoSe
 obtain⟨a,F,rfl,E6,Z,I⟩:=hv
 have HL:Hid (∀i (h:i<G.length),∃b o,a=some ⟨b,o,none⟩∧b<w.heap.size∧et w b (o+i*5) G[i]):=I;clear I;obtain⟨j,g⟩: ∃j,j=(w.alloc (.cells #[.slice a G.length F,x,l,r] 26)).alloc (.cells  aJ  26):=⟨_,rfl⟩
 have J:Below w.heap.size w j:=by rw[g];exact ak.alloc (by simp) _
 have R:=hid (show Bx j w.heap.size (.slice a G.length F) x (.int .i64 l) r from by rw[g];exact(Bx.new w _ _ _ _ _).below ak)
 have Q:=hid (show Bx j (w.heap.size+1) al ah ah ah from by
  have:=Bx.new (w.alloc (.cells #[.slice a G.length F,x,l,r] 26)) al ah ah ah 26
  rw[g];simpa using this)
 have O:j.heap.size=w.heap.size+2:=by rw[g];simp
 go_enter func50,ntmps50
 go_wp2_with fail;rw[←g];clear g;go_loopw [5,6] (fun u i wr=> ∃k:Nat,k≤G.length∧i= .int .i64 k∧wr.ownsRow j.heap.size 79 5 u (aq now (G.take k)).length (bn (aq now (G.take k)))∧Below j.heap.size j wr) (fun _ i _=>G.length-(intOf i).toNat)
 case atStart=>exact⟨0,Nat.zero_le _,rfl,World.ownsRow_nil _ _ _ _,aw⟩
 case round=>
  obtain⟨k,hk,rfl,d,c⟩:=hrel
  have B:Below w.heap.size w wr:=J.trans (c.mono J.size);have V:=R.out.below c;obtain⟨S,⟨a0,a1,a2,a3⟩,g0,g1,g2,g3⟩:=V
  by_cases K:k<G.length
  · obtain⟨b,o,rfl,hb,he⟩:=HL.out k K
    obtain⟨c0,c1,c2,c3,c4⟩:=he.below hb B
    have A:=BW (now:=now) K
    have Y:(aq now (G.take k)).length≤1000:=by
     have h1:=de now (G.take k);have h2:=List.length_take_le k G;omega
    have E5:=c.size;clear he;generalize G[k]=s at*;cases f:gR now s with
    |true=>
     have E1:s.ti<now:=by simpa[gR]using f
     have E:=hid (show aq now (G.take (k+1))=aq now (G.take k)from by rw[A,f];rfl);clear A f;go_wp2;go_roundw
     case rel=>exact⟨k+1,by omega,by simp,by rw[E.out];exact d,c⟩
     case measure=>simp[intOf];omega
    |false=>
     have E1: ¬s.ti<now:=by simpa[gR]using f
     have E:=hid (show aq now (G.take (k+1))=aq now (G.take k)++[s]from by rw[A,f];rfl);clear A f;generalize aq now (G.take k)=X at*;go_wp2_with (at_builtin;refine wpList_append_own _ rfl _ _ 24 rfl j.heap.size 79 i0 (.agg #[ah,.string ⟨#[]⟩,.string ⟨#[]⟩,ah,ah]) 5 56 underlying24 E0 E2 E3 E4 rfl (by decide) _ _ _ rfl (d.alloc _) ⟨wr.heap.size,0,none⟩ 1 1 (bD s) rfl rfl (qs wr s _) (l8 _) (by unfold maxLen;omega) (by omega) (by simp;omega) ?_)
     intro v3 w3 z C M;have H:Below j.heap.size j w3:=(c.alloc c.size _).grown C (by simp;omega) (fun q hq=>(d.lt q hq).1);rw[pI]at z;have N:w3.ownsRow j.heap.size 79 5 v3 (X++[s]).length (bn (X++[s])):=by rw[List.length_append];first|exact z|(rw[O];exact z)
     have P:=ac N;clear z C M N d c0 c1 c2 c3 c4 a0 a1 a2 a3;go_wp2;go_roundw
     case rel=>exact⟨k+1,by omega,by simp,by rw[E.out];exact P.out,H⟩
     case measure=>simp[intOf];omega
  · have e:G.take k=G:=List.take_of_length_le (by omega)
    rw[e]at d;have P:=ac (jv d);have Y:=de now G;obtain⟨au,cu,hu,_,_,_⟩:=P.out.lies (by omega)
    subst hu;have U:=Q.out.below c;obtain⟨T,⟨r0,r1,r2,r3⟩,f0,f1,f2,f3⟩:=U
    clear d;go_wp2;refine bodyPost_ret (v:= .agg #[.slice au (aq now G).length cu,x,l,r]) (by simp[results,results50,go_sem,r0,r1,r2,r3,a0,a1,a2,a3,T,S]) rfl ⟨_,rfl,?_,?_⟩
    · exact((P.out.nb (ai wr w.heap.size 0 _) (by omega)).nb (Nb.set4 _ (w.heap.size+1) _ _ _ _) (by omega)).mono (by omega)
    · exact bz (b:=w.heap.size+1) (B.setCell (p:=⟨w.heap.size,0,none⟩) ax _) (by omega)
theorem B4 (G:List Se) (x l r now:Int) (p:ByteArray):(¬bB G x l r now=0∧bl G x l r now [p]=bB G x l r now)∨(bB G x l r now=0∧aA p.data.toList=false∧bl G x l r now [p]=1)∨(bB G x l r now=0∧aA p.data.toList=true∧bl G x l r now [p]=0):=by
 rcases qo G x l r now [p]with⟨a,hE⟩|⟨a,c,hE⟩|⟨a,c,d,hE⟩|⟨a,c,d,hE⟩
 · have e:bB G x l r now=be G x l r:=by rw[bB,if_neg a]
   left;rw[e];exact⟨a,hE⟩
 · have e:bB G x l r now=3:=by rw[bB,if_pos a,c];rfl
   left;rw[e];exact⟨by decide,hE⟩
 · have e:bB G x l r now=0:=by rw[bB,if_pos a,c];rfl
   right;left
   refine⟨e,?_,hE⟩
   cases f:aA p.data.toList with
   |false=>rfl
   |true=>rw[l6 f]at d;cases d
 · have e:bB G x l r now=0:=by rw[bB,if_pos a,c];rfl
   right;right
   refine⟨e,?_,hE⟩
   cases f:aA p.data.toList with
   |true=>rfl
   |false=>rw[l6 f]at d;cases d
theorem vC (n:Int) (p:ByteArray):gB p n=cO n p:=by
 funext s;rw[gB,cO,Bool.and_comm]
theorem B5 (G:List Se) (v:Value) (x l r:Int) (p:ByteArray) (n now:Int) (w:World) (K:aK w v G) (H:bq G) (hp:p.size≤150000000000000) (F: ¬bB G x l r now=0):
    Calls prog 25 #[.agg #[v,x,l,r],p,n,now] w fun e w'=> ∃a m c,e= .returned (.tuple #[.agg #[.slice a m c,x,l,r],ah,bB G x l r now])∧Below w.heap.size w w':=by
 have N:=ac K;have M:=ac H;obtain⟨o,d,rfl,_⟩:=K
 clear H;obtain⟨i,f⟩: ∃i,i=(w.alloc (.cells #[.slice o G.length d,x,l,r] 26)).alloc (.cells  aJ  26):=⟨_,rfl⟩
 have s:=hid (show Below w.heap.size w i from by rw[f];exact ak.alloc (by simp) _);have A:=hid (show Bx i w.heap.size (.slice o G.length d) x (.int .i64 l) r from by rw[f];exact(Bx.new w _ _ _ _ _).below ak)
 have u:=hid (show Bx i (w.heap.size+1) al ah ah ah from by
  have:=Bx.new (w.alloc (.cells #[.slice o G.length d,x,l,r] 26)) al ah ah ah 26
  rw[f];simpa using this)
 have I:i.heap.size=w.heap.size+2:=by rw[f];simp
 have hz:(bB G x l r now==0)=false:=by simpa using F
 clear F;go_enter func25,ntmps25
 go_wp2_with fail;rw[←f];clear f;refine(gS G _ x l r now _ (N.out.below s.out) M.out).mono ?_
 rintro e w4 ⟨rfl,g⟩;have j:=s.out.trans (g.mono s.out.size);have B:=ac (A.out.below g);have z:=ac (u.out.below g);have J:=g.size;clear g;obtain⟨E,⟨R,S,T,U⟩,Z,g1,g2,g3⟩:=B.out
 obtain⟨C,⟨O,P,c2,c3⟩,V,X,f2,Y⟩:=z.out
 generalize Q:bB G x l r now=y at*;go_wp2;refine bodyPost_ret (v:= .tuple #[.agg #[.slice o G.length d,x,l,r],ah,y]) (by simp[results,results25,go_sem,O,P,c2,c3,R,S,T,U,C,E]) rfl ⟨_,_,_,by rw[Q],?_⟩
 exact bz (b:=w.heap.size+1) j (by omega)
theorem B6 (G:List Se) (v:Value) (x l r:Int) (p:ByteArray) (n now:Int) (w:World) (N:aK w v G) (J:bq G) (U:p.size≤150000000000000) (H:bB G x l r now=0) (I:aA p.data.toList=false):
    Calls prog 25 #[.agg #[v,x,l,r],p,n,now] w fun e w'=> ∃a m c,e= .returned (.tuple #[.agg #[.slice a m c,x,l,r],ah,.int .i64 1])∧Below w.heap.size w w':=by
 have R:=ac N;have Q:=ac J;obtain⟨o,d,rfl,_⟩:=N
 clear J;obtain⟨i,f⟩: ∃i,i=(w.alloc (.cells #[.slice o G.length d,x,l,r] 26)).alloc (.cells  aJ  26):=⟨_,rfl⟩
 have s:=hid (show Below w.heap.size w i from by rw[f];exact ak.alloc (by simp) _);have B:=hid (show Bx i w.heap.size (.slice o G.length d) x (.int .i64 l) r from by rw[f];exact(Bx.new w _ _ _ _ _).below ak)
 have z:=hid (show Bx i (w.heap.size+1) al ah ah ah from by
  have:=Bx.new (w.alloc (.cells #[.slice o G.length d,x,l,r] 26)) al ah ah ah 26
  rw[f];simpa using this)
 have K:i.heap.size=w.heap.size+2:=by rw[f];simp
 have P:=ac H;have u:=ac I;clear H I;go_enter func25,ntmps25
 go_wp2_with fail;rw[←f];clear f;refine(gS G _ x l r now _ (R.out.below s.out) Q.out).mono ?_
 rintro e w4 ⟨rfl,g⟩;have j:=s.out.trans (g.mono s.out.size);have C:=ac (B.out.below g);have A:=ac (z.out.below g);have M:=g.size;clear g;obtain⟨F,⟨V,X,Y,Z⟩,g0,g1,g2,g3⟩:=C.out
 obtain⟨E,⟨S,T,c2,c3⟩,f0,f1,f2,f3⟩:=A.out
 rw[P.out];go_wp2_with fail;refine(aM p _ U).mono ?_
 rintro e wn ⟨rfl,O⟩;rw[O,u.out];clear O wn;go_wp2;refine bodyPost_ret (v:= .tuple #[.agg #[.slice o G.length d,x,l,r],ah,.int .i64 1]) (by simp[results,results25,go_sem,S,T,c2,c3,V,X,Y,Z,E,F]) rfl ⟨_,_,_,rfl,?_⟩
 exact bz (b:=w.heap.size+1) j (by omega)
theorem B7 (G:List Se) (v:Value) (x l r:Int) (p:ByteArray) (n now:Int) (w:World) (hv:aK w v G) (hs:bq G) (hp:p.size≤150000000000000) (h0:bB G x l r now=0) (hn:aA p.data.toList=true) (H:cM (aq now G) (cO n p)= -1):
    Calls prog 25 #[.agg #[v,x,l,r],p,n,now] w fun e w'=> ∃a m c,e= .returned (.tuple #[.agg #[.slice a m c,x,l,r],ah,.int .i64 5])∧Below w.heap.size w w':=by
 have HV:=ac hv;have HS:=ac hs;obtain⟨av,j,rfl,_⟩:=hv
 clear hs;obtain⟨O,g⟩: ∃O,O=(w.alloc (.cells #[.slice av G.length j,x,l,r] 26)).alloc (.cells  aJ  26):=⟨_,rfl⟩
 have Y:=hid (show Below w.heap.size w O from by rw[g];exact ak.alloc (by simp) _);have E4:=hid (show Bx O w.heap.size (.slice av G.length j) x (.int .i64 l) r from by rw[g];exact(Bx.new w _ _ _ _ _).below ak)
 have E1:=hid (show Bx O (w.heap.size+1) al ah ah ah from by
  have:=Bx.new (w.alloc (.cells #[.slice av G.length j,x,l,r] 26)) al ah ah ah 26
  rw[g];simpa using this)
 have E9:O.heap.size=w.heap.size+2:=by rw[g];simp
 have H0:=ac h0;have E0:=ac hn;have V:bl G x l r now []=0:=by rw[mE];exact h0
 have E8:=(cQ (bu (dz V).1).1).1;have EP:=de now G;rw[←vC]at H;have Z:=ac H;clear h0 hn V H;go_enter func25,ntmps25
 go_wp2_with fail;rw[←g];clear g;refine(gS G _ x l r now _ (HV.out.below Y.out) HS.out).mono ?_
 rintro e w4 ⟨rfl,s⟩;have B:=Y.out.trans (s.mono Y.out.size);have R:=ac (E4.out.below s);have Q:=ac (E1.out.below s);have EJ:=s.size;clear s;obtain⟨o,⟨u0,u1,u2,u3⟩,g0,g1,g2,g3⟩:=R.out
 obtain⟨I,⟨c0,c1,c2,c3⟩,f0,f1,f2,f3⟩:=Q.out
 rw[H0.out];go_wp2_with fail;refine(aM p _ hp).mono ?_
 rintro e wn ⟨rfl,hw⟩;rw[hw,E0.out];clear hw wn;go_wp2_with fail;refine(mG G _ x l r now _ (HV.out.below B) (by omega)).mono ?_
 rintro e w5 ⟨u5,rfl,F,u⟩;have C:=aG B u;have S:=ac (R.out.below u);have E2:=ac (Q.out.below u);have EK:=u.size;have A:=ac F;clear u F u0 u1 u2 u3 g0 g1 g2 g3 c0 c1 c2 c3 f0 f1 f2 f3 o I;obtain⟨a5,i,E7,EO,_,_⟩:=A.out.lies (by omega)
 subst E7;obtain⟨X,z⟩: ∃X,X=((((w5.setCell ⟨w.heap.size,0,none⟩ (.slice a5 (aq now G).length i)).setCell ⟨w.heap.size,1,none⟩ x).setCell ⟨w.heap.size,2,none⟩ l).setCell ⟨w.heap.size,3,none⟩ r):=⟨_,rfl⟩
 have d:w5.grownBy X (some w.heap.size):=by rw[z];exact Nb.set4 _ _ _ _ _ _
 have T:Bx X w.heap.size (.slice a5 (aq now G).length i) x (.int .i64 l) r:=by
  obtain⟨E6,⟨J,K,M,N⟩,e0,e1,e2,e3⟩:=S.out
  rw[z];exact⟨by simpa using E6,⟨by simp[go_sem,J,K,M,N],by simp[go_sem,J,K,M,N],by simp[go_sem,J,K,M,N],by simp[go_sem,J,K,M,N]⟩,by simpa using e0,by simpa using e1,by simpa using e2,by simpa using e3⟩
 have E5:=ac T;have E3:=ac (E2.out.nb d (by omega));have P:=ac (A.out.nb d (by omega));have E:Below w.heap.size w X:=C.trans (Nb.to d C.size ax);have EM:=d.size;obtain⟨o,⟨J,K,M,N⟩,e0,e1,e2,e3⟩:=S.out
 go_wp2_with fail;rw[←z];clear z d J K M N e0 e1 e2 e3 o T;refine(vz (aq now G) _ x l r p n _ (P.out.lies (by omega))).mono ?_
 rintro e w6 ⟨rfl,f⟩;rw[Z.out];have U:=E.trans (f.mono E.size);have EN:=ac (P.out.below f);obtain⟨o,⟨u0,u1,u2,u3⟩,g0,g1,g2,g3⟩:=E5.out.below f
 obtain⟨I,⟨c0,c1,c2,c3⟩,f0,f1,f2,f3⟩:=E3.out.below f
 have EL:=f.size;clear f;go_wp2;refine bodyPost_ret (v:= .tuple #[.agg #[.slice a5 (aq now G).length i,x,l,r],ah,.int .i64 5]) (by simp[results,results25,go_sem,c0,c1,c2,c3,u0,u1,u2,u3,I,o]) rfl ⟨_,_,_,rfl,?_⟩
 exact bz (b:=w.heap.size+1) U (by omega)
theorem B8 (G:List Se) (v:Value) (x l r:Int) (p:ByteArray) (n now:Int) (w:World) (hv:aK w v G) (hs:bq G) (hp:p.size≤150000000000000) (h0:bB G x l r now=0) (hn:aA p.data.toList=true) (k:Nat) (F:cM (aq now G) (cO n p)=(k:Int)):
    Calls prog 25 #[.agg #[v,x,l,r],p,n,now] w fun e w'=> ∃u,e= .returned (.tuple #[.agg #[u,x,l,r],(k:Int),ah])∧bR w.heap.size w' u (aq now G)∧Below w.heap.size w w':=by
 have HV:=ac hv;have HS:=ac hs;obtain⟨av,g,rfl,_⟩:=hv
 clear hs;obtain⟨N,d⟩: ∃N,N=(w.alloc (.cells #[.slice av G.length g,x,l,r] 26)).alloc (.cells  aJ  26):=⟨_,rfl⟩
 have X:=hid (show Below w.heap.size w N from by rw[d];exact ak.alloc (by simp) _);have E4:=hid (show Bx N w.heap.size (.slice av G.length g) x (.int .i64 l) r from by rw[d];exact(Bx.new w _ _ _ _ _).below ak)
 have E1:=hid (show Bx N (w.heap.size+1) al ah ah ah from by
  have:=Bx.new (w.alloc (.cells #[.slice av G.length g,x,l,r] 26)) al ah ah ah 26
  rw[d];simpa using this)
 have E9:N.heap.size=w.heap.size+2:=by rw[d];simp
 have EO: ¬(k:Int)<0:=by omega
 have H0:=ac h0;have Z:=ac hn;have U:bl G x l r now []=0:=by rw[mE];exact h0
 have E8:=(cQ (bu (dz U).1).1).1;have EP:=de now G;rw[←vC]at F;have Y:=ac F;clear h0 hn U F;go_enter func25,ntmps25
 go_wp2_with fail;rw[←d];clear d;refine(gS G _ x l r now _ (HV.out.below X.out) HS.out).mono ?_
 rintro e w4 ⟨rfl,j⟩;have A:=X.out.trans (j.mono X.out.size);have Q:=ac (E4.out.below j);have P:=ac (E1.out.below j);have EJ:=j.size;clear j;obtain⟨i,⟨u0,u1,u2,u3⟩,g0,g1,g2,g3⟩:=Q.out
 obtain⟨H,⟨c0,c1,c2,c3⟩,f0,f1,f2,f3⟩:=P.out
 rw[H0.out];go_wp2_with fail;refine(aM p _ hp).mono ?_
 rintro e wn ⟨rfl,hw⟩;rw[hw,Z.out];clear hw wn;go_wp2_with fail;refine(mG G _ x l r now _ (HV.out.below A) (by omega)).mono ?_
 rintro e w5 ⟨u5,rfl,E,o⟩;have B:=aG A o;have R:=ac (Q.out.below o);have E2:=ac (P.out.below o);have EK:=o.size;have z:=ac E;clear o E u0 u1 u2 u3 g0 g1 g2 g3 c0 c1 c2 c3 f0 f1 f2 f3 i H;obtain⟨a5,f,E7,EN,_,_⟩:=z.out.lies (by omega)
 subst E7;obtain⟨V,s⟩: ∃V,V=((((w5.setCell ⟨w.heap.size,0,none⟩ (.slice a5 (aq now G).length f)).setCell ⟨w.heap.size,1,none⟩ x).setCell ⟨w.heap.size,2,none⟩ l).setCell ⟨w.heap.size,3,none⟩ r):=⟨_,rfl⟩
 have a:w5.grownBy V (some w.heap.size):=by rw[s];exact Nb.set4 _ _ _ _ _ _
 have S:Bx V w.heap.size (.slice a5 (aq now G).length f) x (.int .i64 l) r:=by
  obtain⟨E6,⟨I,J,K,M⟩,e0,e1,e2,e3⟩:=R.out
  rw[s];exact⟨by simpa using E6,⟨by simp[go_sem,I,J,K,M],by simp[go_sem,I,J,K,M],by simp[go_sem,I,J,K,M],by simp[go_sem,I,J,K,M]⟩,by simpa using e0,by simpa using e1,by simpa using e2,by simpa using e3⟩
 have E5:=ac S;have E3:=ac (E2.out.nb a (by omega));have O:=ac (z.out.nb a (by omega));have C:Below w.heap.size w V:=B.trans (Nb.to a B.size ax);have EM:=a.size;obtain⟨i,⟨I,J,K,M⟩,e0,e1,e2,e3⟩:=R.out
 go_wp2_with fail;rw[←s];clear s a I J K M e0 e1 e2 e3 i S;refine(vz (aq now G) _ x l r p n _ (O.out.lies (by omega))).mono ?_
 rintro e w6 ⟨rfl,c⟩;rw[Y.out];have T:=C.trans (c.mono C.size);have E0:=ac (O.out.below c);obtain⟨i,⟨u0,u1,u2,u3⟩,g0,g1,g2,g3⟩:=E5.out.below c
 obtain⟨H,⟨c0,c1,c2,c3⟩,f0,f1,f2,f3⟩:=E3.out.below c
 have EL:=c.size;clear c;go_wp2;refine bodyPost_ret (v:= .tuple #[.agg #[.slice a5 (aq now G).length f,x,l,r],k,ah]) (by simp[results,results25,go_sem,c0,c1,c2,c3,u0,u1,u2,u3,H,i]) rfl ⟨_,rfl,?_,?_⟩
 · exact(E0.out.nb (Nb.set4 _ (w.heap.size+1) _ _ _ _) (by omega)).mono (by omega)
 · exact bz (b:=w.heap.size+1) T (by omega)
theorem lx (G:List Se) (v:Value) (x l r:Int) (p:ByteArray) (n now:Int) (w:World) (o:aK w v G) (j:bq G) (i:p.size≤150000000000000):
    Calls prog 25 #[.agg #[v,x,l,r],p,n,now] w fun e w'=>(¬bk G x l r p n now=0∧ ∃a m c,e= .returned (.tuple #[.agg #[.slice a m c,x,l,r],ah,bk G x l r p n now])∧Below w.heap.size w w')∨
     (bk G x l r p n now=0∧ ∃u k,e= .returned (.tuple #[.agg #[u,x,l,r],.int .i64 (k:Nat),ah])∧k<(aq now G).length∧cM (aq now G) (cO n p)=k∧bR w.heap.size w' u (aq now G)∧Below w.heap.size w w'):=by
 rcases B4 G x l r now p with⟨d,hE⟩|⟨d,g,hE⟩|⟨d,g,hE⟩
 · have e:bk G x l r p n now=bB G x l r now:=by rw[bk,if_neg (by rw[hE];exact d),hE]
   rw[e];exact(B5 G v x l r p n now w o j i d).mono fun e w' h=>Or.inl ⟨d,h⟩
 · have e:bk G x l r p n now=1:=by rw[bk,if_neg (by rw[hE];decide),hE]
   rw[e];exact(B6 G v x l r p n now w o j i d g).mono fun e w' h=>Or.inl ⟨by decide,h⟩
 · rcases qf (aq now G) (cO n p)with⟨f,_⟩|⟨k,A,f,_⟩
   · have e:bk G x l r p n now=5:=by rw[bk,if_pos hE,f];rfl
     rw[e];exact(B7 G v x l r p n now w o j i d g f).mono fun e w' h=>Or.inl ⟨by decide,h⟩
   · have e:bk G x l r p n now=0:=by rw[bk,if_pos hE,f,if_neg (by omega)]
     rw[e];refine(B8 G v x l r p n now w o j i d g k f).mono fun e w' h=>Or.inr ⟨rfl,?_⟩
     obtain⟨u,z,B,s⟩:=h
     exact⟨u,k,z,A,f,B,s⟩
theorem B9 (G:List Se) (v:Value) (x l r:Int) (p:ByteArray) (size now:Int) (w:World) (H:aK w v G) (C:bq G) (Y:p.size≤150000000000000) (A: ¬bB G x l r now=0):
    Calls prog 23 #[.agg #[v,x,l,r],p,size,now] w fun e w'=>e= .returned (.tuple #[.agg  aJ ,ah,bB G x l r now])∧Below w.heap.size w w':=by
 have K:=ac H;have J:=ac C;obtain⟨z,c,rfl,_⟩:=H
 clear C;obtain⟨f,a⟩: ∃f,f=(w.alloc (.cells #[.slice z G.length c,x,l,r] 26)).alloc (.cells  aJ  26):=⟨_,rfl⟩
 have i:=hid (show Below w.heap.size w f from by rw[a];exact ak.alloc (by simp) _);have s:=hid (show Bx f w.heap.size (.slice z G.length c) x (.int .i64 l) r from by rw[a];exact(Bx.new w _ _ _ _ _).below ak)
 have j:=hid (show Bx f (w.heap.size+1) al ah ah ah from by
  have:=Bx.new (w.alloc (.cells #[.slice z G.length c,x,l,r] 26)) al ah ah ah 26
  rw[a];simpa using this)
 have E:f.heap.size=w.heap.size+2:=by rw[a];simp
 have I:=ac A;have Z:(bB G x l r now==0)=false:=by simpa using A
 clear A;go_enter func23,ntmps23
 go_wp2_with fail;rw[←a];clear a;refine(gS G _ x l r now _ (K.out.below i.out) J.out).mono ?_
 rintro e w4 ⟨rfl,d⟩;have g:=i.out.trans (d.mono i.out.size);have u:=ac (s.out.below d);have o:=ac (j.out.below d);have F:=d.size;clear d;obtain⟨O,⟨u0,u1,u2,u3⟩,T,U,V,X⟩:=u.out
 obtain⟨B,⟨M,N,c2,c3⟩,Q,R,f2,S⟩:=o.out
 generalize P:bB G x l r now=y at*;go_wp2;refine bodyPost_ret (v:= .tuple #[.agg  aJ ,ah,y]) (by simp[results,results23,go_sem,M,N,c2,c3,B]) rfl ⟨by rw[P],?_⟩
 exact bz (b:=w.heap.size+1) g (by omega)
theorem Ca (G:List Se) (v:Value) (x l r:Int) (p:ByteArray) (size now:Int) (w:World) (J:aK w v G) (F:bq G) (S:p.size≤150000000000000) (C:bB G x l r now=0) (E:aA p.data.toList=false):
    Calls prog 23 #[.agg #[v,x,l,r],p,size,now] w fun e w'=>e= .returned (.tuple #[.agg  aJ ,ah,.int .i64 1])∧Below w.heap.size w w':=by
 have O:=ac J;have N:=ac F;obtain⟨A,c,rfl,_⟩:=J
 clear F;obtain⟨f,a⟩: ∃f,f=(w.alloc (.cells #[.slice A G.length c,x,l,r] 26)).alloc (.cells  aJ  26):=⟨_,rfl⟩
 have i:=hid (show Below w.heap.size w f from by rw[a];exact ak.alloc (by simp) _);have u:=hid (show Bx f w.heap.size (.slice A G.length c) x (.int .i64 l) r from by rw[a];exact(Bx.new w _ _ _ _ _).below ak)
 have o:=hid (show Bx f (w.heap.size+1) al ah ah ah from by
  have:=Bx.new (w.alloc (.cells #[.slice A G.length c,x,l,r] 26)) al ah ah ah 26
  rw[a];simpa using this)
 have H:f.heap.size=w.heap.size+2:=by rw[a];simp
 have M:=ac C;have j:=ac E;clear C E;go_enter func23,ntmps23
 go_wp2_with fail;rw[←a];clear a;refine(gS G _ x l r now _ (O.out.below i.out) N.out).mono ?_
 rintro e w4 ⟨rfl,d⟩;have g:=i.out.trans (d.mono i.out.size);have z:=ac (u.out.below d);have s:=ac (o.out.below d);have I:=d.size;clear d;obtain⟨R,⟨u0,u1,u2,u3⟩,Y,Z,g2,g3⟩:=z.out
 obtain⟨B,⟨P,Q,c2,c3⟩,U,V,f2,X⟩:=s.out
 rw[M.out];go_wp2_with fail;refine(aM p _ S).mono ?_
 rintro e T ⟨rfl,K⟩;rw[K,j.out];clear K T;go_wp2;refine bodyPost_ret (v:= .tuple #[.agg  aJ ,ah,.int .i64 1]) (by simp[results,results23,go_sem,P,Q,c2,c3,B]) rfl ⟨rfl,?_⟩
 exact bz (b:=w.heap.size+1) g (by omega)
theorem Cb (G:List Se) (v:Value) (x l r:Int) (p:ByteArray) (size now:Int) (w:World) (J:aK w v G) (F:bq G) (S:p.size≤150000000000000) (C:bB G x l r now=0) (E:aA p.data.toList=true) (h1:size<0):
    Calls prog 23 #[.agg #[v,x,l,r],p,size,now] w fun e w'=>e= .returned (.tuple #[.agg  aJ ,ah,.int .i64 3])∧Below w.heap.size w w':=by
 have O:=ac J;have N:=ac F;obtain⟨A,c,rfl,_⟩:=J
 clear F;obtain⟨f,a⟩: ∃f,f=(w.alloc (.cells #[.slice A G.length c,x,l,r] 26)).alloc (.cells  aJ  26):=⟨_,rfl⟩
 have i:=hid (show Below w.heap.size w f from by rw[a];exact ak.alloc (by simp) _);have u:=hid (show Bx f w.heap.size (.slice A G.length c) x (.int .i64 l) r from by rw[a];exact(Bx.new w _ _ _ _ _).below ak)
 have o:=hid (show Bx f (w.heap.size+1) al ah ah ah from by
  have:=Bx.new (w.alloc (.cells #[.slice A G.length c,x,l,r] 26)) al ah ah ah 26
  rw[a];simpa using this)
 have H:f.heap.size=w.heap.size+2:=by rw[a];simp
 have M:=ac C;have j:=ac E;clear C E;go_enter func23,ntmps23
 go_wp2_with fail;rw[←a];clear a;refine(gS G _ x l r now _ (O.out.below i.out) N.out).mono ?_
 rintro e w4 ⟨rfl,d⟩;have g:=i.out.trans (d.mono i.out.size);have z:=ac (u.out.below d);have s:=ac (o.out.below d);have I:=d.size;clear d;obtain⟨R,⟨u0,u1,u2,u3⟩,Y,Z,g2,g3⟩:=z.out
 obtain⟨B,⟨P,Q,c2,c3⟩,U,V,f2,X⟩:=s.out
 rw[M.out];go_wp2_with fail;refine(aM p _ S).mono ?_
 rintro e T ⟨rfl,K⟩;rw[K,j.out];clear K T;go_wp2;refine bodyPost_ret (v:= .tuple #[.agg  aJ ,ah,.int .i64 3]) (by simp[results,results23,go_sem,P,Q,c2,c3,B]) rfl ⟨rfl,?_⟩
 exact bz (b:=w.heap.size+1) g (by omega)
theorem Cc (G:List Se) (v:Value) (x l r:Int) (p:ByteArray) (size now:Int) (w:World) (J:aK w v G) (F:bq G) (S:p.size≤150000000000000) (C:bB G x l r now=0) (E:aA p.data.toList=true) (h1:0≤size) (h2:300<size):
    Calls prog 23 #[.agg #[v,x,l,r],p,size,now] w fun e w'=>e= .returned (.tuple #[.agg  aJ ,ah,.int .i64 3])∧Below w.heap.size w w':=by
 have O:=ac J;have N:=ac F;obtain⟨A,c,rfl,_⟩:=J
 clear F;obtain⟨f,a⟩: ∃f,f=(w.alloc (.cells #[.slice A G.length c,x,l,r] 26)).alloc (.cells  aJ  26):=⟨_,rfl⟩
 have i:=hid (show Below w.heap.size w f from by rw[a];exact ak.alloc (by simp) _);have u:=hid (show Bx f w.heap.size (.slice A G.length c) x (.int .i64 l) r from by rw[a];exact(Bx.new w _ _ _ _ _).below ak)
 have o:=hid (show Bx f (w.heap.size+1) al ah ah ah from by
  have:=Bx.new (w.alloc (.cells #[.slice A G.length c,x,l,r] 26)) al ah ah ah 26
  rw[a];simpa using this)
 have H:f.heap.size=w.heap.size+2:=by rw[a];simp
 have M:=ac C;have j:=ac E;clear C E;go_enter func23,ntmps23
 go_wp2_with fail;rw[←a];clear a;refine(gS G _ x l r now _ (O.out.below i.out) N.out).mono ?_
 rintro e w4 ⟨rfl,d⟩;have g:=i.out.trans (d.mono i.out.size);have z:=ac (u.out.below d);have s:=ac (o.out.below d);have I:=d.size;clear d;obtain⟨R,⟨u0,u1,u2,u3⟩,Y,Z,g2,g3⟩:=z.out
 obtain⟨B,⟨P,Q,c2,c3⟩,U,V,f2,X⟩:=s.out
 rw[M.out];go_wp2_with fail;refine(aM p _ S).mono ?_
 rintro e T ⟨rfl,K⟩;rw[K,j.out];clear K T;go_wp2;refine bodyPost_ret (v:= .tuple #[.agg  aJ ,ah,.int .i64 3]) (by simp[results,results23,go_sem,P,Q,c2,c3,B]) rfl ⟨rfl,?_⟩
 exact bz (b:=w.heap.size+1) g (by omega)
theorem Cd (G:List Se) (v:Value) (x l r:Int) (p:ByteArray) (size now:Int) (w:World) (J:aK w v G) (F:bq G) (S:p.size≤150000000000000) (C:bB G x l r now=0) (E:aA p.data.toList=true) (h1:0≤size) (h2:size≤300) (h3:(x==1099511627776)=true):
    Calls prog 23 #[.agg #[v,x,l,r],p,size,now] w fun e w'=>e= .returned (.tuple #[.agg  aJ ,ah,.int .i64 3])∧Below w.heap.size w w':=by
 have O:=ac J;have N:=ac F;obtain⟨A,c,rfl,_⟩:=J
 clear F;obtain⟨f,a⟩: ∃f,f=(w.alloc (.cells #[.slice A G.length c,x,l,r] 26)).alloc (.cells  aJ  26):=⟨_,rfl⟩
 have i:=hid (show Below w.heap.size w f from by rw[a];exact ak.alloc (by simp) _);have u:=hid (show Bx f w.heap.size (.slice A G.length c) x (.int .i64 l) r from by rw[a];exact(Bx.new w _ _ _ _ _).below ak)
 have o:=hid (show Bx f (w.heap.size+1) al ah ah ah from by
  have:=Bx.new (w.alloc (.cells #[.slice A G.length c,x,l,r] 26)) al ah ah ah 26
  rw[a];simpa using this)
 have H:f.heap.size=w.heap.size+2:=by rw[a];simp
 have M:=ac C;have j:=ac E;clear C E;go_enter func23,ntmps23
 go_wp2_with fail;rw[←a];clear a;refine(gS G _ x l r now _ (O.out.below i.out) N.out).mono ?_
 rintro e w4 ⟨rfl,d⟩;have g:=i.out.trans (d.mono i.out.size);have z:=ac (u.out.below d);have s:=ac (o.out.below d);have I:=d.size;clear d;obtain⟨R,⟨u0,u1,u2,u3⟩,Y,Z,g2,g3⟩:=z.out
 obtain⟨B,⟨P,Q,c2,c3⟩,U,V,f2,X⟩:=s.out
 rw[M.out];go_wp2_with fail;refine(aM p _ S).mono ?_
 rintro e T ⟨rfl,K⟩;rw[K,j.out];clear K T;go_wp2;refine bodyPost_ret (v:= .tuple #[.agg  aJ ,ah,.int .i64 3]) (by simp[results,results23,go_sem,P,Q,c2,c3,B]) rfl ⟨rfl,?_⟩
 exact bz (b:=w.heap.size+1) g (by omega)
end Go.Proofs.YtdlpjlfefjipkaaGreat
