/- What the reference's serve answers to requests that give. -/
import Derived.Test.YtdlpjlfefjipkaaGreatHFSA
import Derived.Deep.CutRange
set_option linter.unusedSimpArgs false
set_option linter.unusedVariables false
namespace Go.Proofs.YtdlpjlfefjipkaaGreat
open Go.RowKit Go.Proofs.Tryz
set_option maxHeartbeats 8000000
set_option maxRecDepth 100000
def kM (H:Hb) (q:Rq):Int:=if aL H.gs q.fo q.who=0 then 9 else eU H.gs q.fo q.who q.name q.num
def kN (H:Hb) (q:Rq):Hb:=if kM H q=0 then {H with gs:=cC ⟨q.fo,q.name,q.num⟩ H.gs}else H
theorem D6 (H:Hb) (q:Rq) (v vq:Value) (w:World) (hv:aX w v H) (Z:dd H) (hq:bH w vq q) (F:cE q) (V:ae H=0) (X:aA q.who.data.toList=true) (hk:q.kind=3):
    Calls prog 6 #[v,vq] w fun e w'=> ∃u a,e= .returned (.tuple #[u,a])∧aX w' u (kN H q)∧bX w' a ⟨kM H q,0,bt⟩∧Below w.heap.size w w':=by
 have M:=hid hv;have E1:=hid Z;have i:=hid F;have H0:=hid V;have HN:=hid X;clear Z F V X;obtain⟨fos,gs,ss,nx,la,ro,now⟩:=H
 obtain⟨vf,vg,vs,rfl,lf,lg,ls⟩:=hv
 have HF:=hid lf;have S:=hid lg;have HS:=hid ls;obtain⟨fa,fc,rfl,-⟩:=lf
 obtain⟨ga,gc,rfl,-⟩:=lg
 obtain⟨sa,sc,rfl,-⟩:=ls
 obtain⟨va,rfl,lq⟩:=hq
 have E0:=hid lq;obtain⟨qa,qc,rfl,-⟩:=lq
 obtain⟨kind,who,fo,name,key,text,num,off,base,ch⟩:=q
 simp only at*;subst hk;obtain⟨P,s⟩: ∃P,P=(((w.alloc (.cells #[.slice fa fos.length fc,.slice ga gs.length gc,.slice sa ss.length sc,nx,la,ro,now] 28)).alloc (.cells #[.int .i64 3,who,fo,name,key,text,num,off,base,.slice qa ch.length qc] 31)).alloc (.cells  cy  28)).alloc (.cells  bC  38):=⟨_,rfl⟩
 have A:=hid (show So w P _ _ from by rw[s];exact So.new w _ _ _ _);obtain⟨Q,R⟩:=A.out.r.c2;obtain⟨r,Y⟩: ∃r,r=aL gs fo who:=⟨_,rfl⟩
 obtain⟨C,E⟩: ∃C,C=dO fos fo:=⟨_,rfl⟩
 have j:=hid Y;have K:=hid E;clear Y E;go_enter func6,ntmps6
 go_upto_region 1 with fail;rw[←s];clear s;go_wp2_with fail;refine(aM who _ i.out.who).mono ?_
 rintro e wn ⟨rfl,hw⟩;rw[hw,HN.out];clear hw wn;have I:=A.out.r.cell 2 rfl;have z:=A.out.h.cell 1 rfl;go_wp2_with fail;refine(cB gs _ fo who _ (S.out.below A.out.b)).mono ?_
 rintro e wb ⟨rfl,d⟩;rw[←j.out];have J:=hid (A.out.below d);clear Q R I z d;have I:=J.out.r.cell 2 rfl;obtain⟨T,z,c2,c3,c4,c5,U⟩:=J.out.h.c7;go_wp2_with fail;refine(jV ⟨fos,gs,ss,nx,la,ro,now⟩ _ fo _ (M.out.below J.out.b)).mono ?_
 rintro e wk ⟨rfl,d⟩;rw[←K.out];have f:=hid (J.out.below d);clear I T z c2 c3 c4 c5 U d;have Q:=f.out.r.cell 0 rfl;by_cases o:r=0
 · subst o
   have hE:kM ⟨fos,gs,ss,nx,la,ro,now⟩ ⟨3,who,fo,name,key,text,num,off,base,ch⟩=9:=if_pos j.out.symm;go_wp2_with fail;refine(fC f.out.h 9).mono ?_
   rintro e O ⟨rfl,d⟩;have B:=hid (f.out.below d);obtain⟨⟨p0,p1,p2,p3,p4,p5,p6⟩,⟨y0,y1,y2,y3,y4,y5,y6⟩,pf,yf⟩:=B.out.res
   go_wp2_with fail;exact fD B.out rfl rfl rfl (by rw[kN,hE];exact M.out) (by rw[hE])
 · have hz:(r==0)=false:=by simpa using o
   have c:=(ff H0.out).2.2.1;have R:=f.out.r.cell 1 rfl;have I:=f.out.r.cell 2 rfl;have x3:=f.out.r.cell 3 rfl;have x6:=f.out.r.cell 6 rfl;have z:=f.out.h.cell 1 rfl;go_wp2_with fail;refine(Dl gs _ fo who name num _ (S.out.below f.out.b) i.out.fo i.out.who i.out.name c).mono ?_
   rintro e O ⟨u,rfl,G,d⟩;have x:=hid (f.out.below d);clear d Q R I x3 x6 z c;obtain⟨g,N⟩: ∃g,g=eU gs fo who name num:=⟨_,rfl⟩
   rw[←N]at G⊢;have hE:kM ⟨fos,gs,ss,nx,la,ro,now⟩ ⟨3,who,fo,name,key,text,num,off,base,ch⟩=g:=by rw[N];exact if_neg (by rw[←j.out];exact o)
   clear N;by_cases c:g=0
   · subst c
     have G:=G rfl;have HU:=hid G;obtain⟨ua,uc,rfl,-⟩:=G
     obtain⟨T,z,c2,c3,c4,c5,U⟩:=x.out.h.c7;have f1:=x.out.h.fr 1;obtain⟨⟨p0,p1,p2,p3,p4,p5,p6⟩,⟨y0,y1,y2,y3,y4,y5,y6⟩,pf,yf⟩:=x.out.res
     go_wp2_with fail;exact kJ x.out (by simp) (aj O w.heap.size 1 (.slice ua (cC ⟨fo,name,num⟩ gs).length uc)) aw rfl rfl rfl (fun hF hG hS hP hbe=>⟨by rw[kN,if_pos hE];exact⟨_,_,_,rfl,HF.out.below hbe,hG _ _ HU.out,HS.out.below hbe⟩,by rw[hE];exact iy _ _ _⟩)
   · have E2:(g !=0)=true:=by simpa using c
     go_wp2_with fail;refine(fC x.out.h g).mono ?_
     rintro e O ⟨rfl,d⟩;have B:=hid (x.out.below d);obtain⟨⟨p0,p1,p2,p3,p4,p5,p6⟩,⟨y0,y1,y2,y3,y4,y5,y6⟩,pf,yf⟩:=B.out.res
     go_wp2_with fail;exact fD B.out rfl rfl rfl (by rw[kN,hE,if_neg c];exact M.out) (by rw[hE])
def lC (H:Hb) (q:Rq):Int:=dr H.ss H.nx H.la H.ro q.who q.num H.now
def mM (H:Hb) (q:Rq):Hb:=if lC H q=0 then {H with ss:=aq H.now H.ss++[dA H.nx q.who q.num (H.now+H.la)],nx:=H.nx+1}else H
def mN (H:Hb) (q:Rq):Int:=if lC H q=0 then H.nx else 0
theorem D7 (H:Hb) (q:Rq) (v vq:Value) (w:World) (hv:aX w v H) (hs:dd H) (hq:bH w vq q) (N:cE q) (h0:ae H=0) (hn:aA q.who.data.toList=true) (hk:q.kind=4):
    Calls prog 6 #[v,vq] w fun e w'=> ∃u a,e= .returned (.tuple #[u,a])∧aX w' u (mM H q)∧bX w' a ⟨lC H q,mN H q,bt⟩∧Below w.heap.size w w':=by
 have HV:=hid hv;have V:=hid hs;have E:=hid N;have H0:=hid h0;have HN:=hid hn;clear hs N h0 hn;obtain⟨fos,gs,ss,nx,la,ro,now⟩:=H
 obtain⟨vf,vg,vs,rfl,lf,lg,ls⟩:=hv
 have HF:=hid lf;have HG:=hid lg;have HS:=hid ls;obtain⟨fa,fc,rfl,-⟩:=lf
 obtain⟨ga,gc,rfl,-⟩:=lg
 obtain⟨sa,sc,rfl,-⟩:=ls
 obtain⟨va,rfl,lq⟩:=hq
 have E0:=hid lq;obtain⟨qa,qc,rfl,-⟩:=lq
 obtain⟨kind,who,fo,name,key,text,num,off,base,ch⟩:=q
 simp only at*;subst hk;obtain⟨wz,A⟩: ∃wz,wz=(((w.alloc (.cells #[.slice fa fos.length fc,.slice ga gs.length gc,.slice sa ss.length sc,nx,la,ro,now] 28)).alloc (.cells #[.int .i64 4,who,fo,name,key,text,num,off,base,.slice qa ch.length qc] 31)).alloc (.cells  cy  28)).alloc (.cells  bC  38):=⟨_,rfl⟩
 have F:=hid (show So w wz _ _ from by rw[A];exact So.new w _ _ _ _);obtain⟨C,S⟩:=F.out.r.c2;obtain⟨r,hr⟩: ∃r,r=aL gs fo who:=⟨_,rfl⟩
 obtain⟨G,J⟩: ∃G,G=dO fos fo:=⟨_,rfl⟩
 have U:=hid hr;have T:=hid J;clear hr J;go_enter func6,ntmps6
 go_upto_region 1 with fail;rw[←A];clear A;go_wp2_with fail;refine(aM who _ E.out.who).mono ?_
 rintro e wn ⟨rfl,hw⟩;rw[hw,HN.out];clear hw wn;have x2:=F.out.r.cell 2 rfl;have P:=F.out.h.cell 1 rfl;go_wp2_with fail;refine(cB gs _ fo who _ (HG.out.below F.out.b)).mono ?_
 rintro e wb ⟨rfl,d⟩;rw[←U.out];have O:=hid (F.out.below d);clear C S x2 P d;have x2:=O.out.r.cell 2 rfl;obtain⟨c0,P,c2,c3,c4,c5,I⟩:=O.out.h.c7;go_wp2_with fail;refine(jV ⟨fos,gs,ss,nx,la,ro,now⟩ _ fo _ (HV.out.below O.out.b)).mono ?_
 rintro e wk ⟨rfl,d⟩;rw[←T.out];have o:=hid (O.out.below d);clear x2 c0 P c2 c3 c4 c5 I d;obtain⟨C,S⟩:=o.out.r.c2;have x6:=o.out.r.cell 6 rfl;have c2:=o.out.h.cell 2 rfl;have c3:=o.out.h.cell 3 rfl;have c4:=o.out.h.cell 4 rfl;have c5:=o.out.h.cell 5 rfl;have I:=o.out.h.cell 6 rfl;have z:=(ff H0.out).2.2.2.2;obtain⟨g,Y⟩: ∃g,g=dr ss nx la ro who num now:=⟨_,rfl⟩
 have hE:lC ⟨fos,gs,ss,nx,la,ro,now⟩ ⟨4,who,fo,name,key,text,num,off,base,ch⟩=g:=Y.symm;go_wp2_with fail;refine(vV ss _ nx la ro who num now _ (HS.out.below o.out.b) V.out.ss E.out.who).mono ?_
 rw[←Y];clear Y;rintro e j (⟨s,rfl,d⟩|⟨rfl,u,rfl,R,d⟩)
 · have X:=hid (o.out.below d)
   obtain⟨B,c⟩: ∃x,x=j.alloc (.cells  aJ  26):=⟨_,rfl⟩
   have HZ:=hid (show Cs B j.heap.size  aJ from by rw[c];exact Cs.new j _ _);have f:Below j.heap.size j B:=by rw[c];exact ak
   have i:=hid (X.out.below f);have E1:(g !=0)=true:=by simpa using s
   clear d C S x6 c2 c3 c4 c5 I f z;have C:=i.out.r.cell 0 rfl;go_upto_region 39 with fail;rw[←c];clear c;go_wp2_with fail;refine(fC i.out.h g).mono ?_
   rintro e j ⟨rfl,d⟩;have SB:=hid (i.out.below d);obtain⟨⟨p0,p1,p2,p3,p4,p5,p6⟩,⟨y0,y1,y2,y3,y4,y5,y6⟩,pf,yf⟩:=SB.out.res
   go_wp2_with fail;exact fD SB.out rfl rfl rfl (by rw[mM,hE,if_neg s];exact HV.out) (by rw[mN,hE,if_neg s])
 · have X:=hid (o.out.below d)
   obtain⟨M,Q⟩: ∃M,M=aq now ss++[dA nx who num (now+la)]:=⟨_,rfl⟩
   rw[←Q]at R
   have K:M.length≤1000:=by
    have h1:=de now ss;have h2:=(cQ (bu z).1).1;rw[Q,List.length_append,List.length_singleton];omega
   have HM:=hid Q;clear Q;have HO:=hid R;obtain⟨Z,uc,rfl,_⟩:=R.lies K
   obtain⟨B,c⟩: ∃x,x=j.alloc (.cells #[.slice Z M.length uc,(nx+1:Int),la,ro] 26):=⟨_,rfl⟩
   have HZ:=hid (show Cs B j.heap.size [.slice Z M.length uc,(nx+1:Int),la,ro]from by rw[c];exact Cs.new j _ _);have f:Below j.heap.size j B:=by rw[c];exact ak
   have i:=hid (X.out.below f);have HU:=hid ((HO.out.lies K).below f);clear d C S x6 c2 c3 c4 c5 I f z R;have C:=i.out.r.cell 0 rfl;obtain⟨z0,z1,z2,z3⟩:=HZ.out.c4;obtain⟨c0,P,c2,c3,c4,c5,I⟩:=i.out.h.c7;have f2:=i.out.h.fr 2;have f3:=i.out.h.fr 3;have f4:=i.out.h.fr 4;have f5:=i.out.h.fr 5;obtain⟨⟨p0,p1,p2,p3,p4,p5,p6⟩,⟨y0,y1,y2,y3,y4,y5,y6⟩,pf,yf⟩:=i.out.res
   go_upto_region 39 with fail;rw[←c];clear c;go_wp2_with fail;exact kJ i.out (by simp) (ar (ar (ar (aj B w.heap.size 2 (.slice Z M.length uc)) (aj _ _ 3 (nx+1:Int))) (aj _ _ 4 la)) (aj _ _ 5 ro)) aw rfl rfl rfl (fun hF hG hS hP hbe=>⟨by rw[mM,if_pos hE];exact⟨_,_,_,rfl,HF.out.below hbe,HG.out.below hbe,by show aK _ _ (aq now ss++[dA nx who num (now+la)]);rw[←HM.out];exact hS _ _ HU.out⟩,by rw[mN,if_pos hE,hE];exact iy _ _ _⟩)
def ot (H:Hb) (q:Rq):Int:=bk H.ss H.nx H.la H.ro q.who q.num H.now
def mO (H:Hb) (q:Rq):Int:=if ot H q=0 then(match (aq H.now H.ss)[(cM (aq H.now H.ss) (cO q.num q.who)).toNat]? with|some s=>(s.tx.size:Int)|none=>0)else 0
theorem D8 (H:Hb) (q:Rq) (v vq:Value) (w:World) (hv:aX w v H) (E:dd H) (hq:bH w vq q) (U:cE q) (h0:ae H=0) (hn:aA q.who.data.toList=true) (hk:q.kind=6):
    Calls prog 6 #[v,vq] w fun e w'=> ∃u a,e= .returned (.tuple #[u,a])∧aX w' u H∧bX w' a ⟨ot H q,mO H q,bt⟩∧Below w.heap.size w w':=by
 have HV:=hid hv;have E2:=hid E;have K:=hid U;have H0:=hid h0;have HN:=hid hn;clear E U h0 hn;obtain⟨fos,gs,ss,nx,la,ro,now⟩:=H
 obtain⟨vf,vg,vs,rfl,lf,lg,ls⟩:=hv
 have HF:=hid lf;have HG:=hid lg;have HS:=hid ls;obtain⟨fa,fc,rfl,-⟩:=lf
 obtain⟨ga,gc,rfl,-⟩:=lg
 obtain⟨sa,sc,rfl,-⟩:=ls
 obtain⟨va,rfl,lq⟩:=hq
 have EJ:=hid lq;obtain⟨qa,qc,rfl,-⟩:=lq
 obtain⟨kind,who,fo,name,key,text,num,off,base,ch⟩:=q
 simp only at*;subst hk;obtain⟨wz,G⟩: ∃wz,wz=(((w.alloc (.cells #[.slice fa fos.length fc,.slice ga gs.length gc,.slice sa ss.length sc,nx,la,ro,now] 28)).alloc (.cells #[.int .i64 6,who,fo,name,key,text,num,off,base,.slice qa ch.length qc] 31)).alloc (.cells  cy  28)).alloc (.cells  bC  38):=⟨_,rfl⟩
 have N:=hid (show So w wz _ _ from by rw[G];exact So.new w _ _ _ _);obtain⟨x0,x1⟩:=N.out.r.c2;obtain⟨r,hr⟩: ∃r,r=aL gs fo who:=⟨_,rfl⟩
 obtain⟨P,R⟩: ∃P,P=dO fos fo:=⟨_,rfl⟩
 have E1:=hid hr;have E0:=hid R;clear hr R;go_enter func6,ntmps6
 go_upto_region 1 with fail;rw[←G];clear G;go_wp2_with fail;refine(aM who _ K.out.who).mono ?_
 rintro e wn ⟨rfl,hw⟩;rw[hw,HN.out];clear hw wn;have x2:=N.out.r.cell 2 rfl;have Q:=N.out.h.cell 1 rfl;go_wp2_with fail;refine(cB gs _ fo who _ (HG.out.below N.out.b)).mono ?_
 rintro e wb ⟨rfl,f⟩;rw[←E1.out];have Y:=hid (N.out.below f);clear x0 x1 x2 Q f;have x2:=Y.out.r.cell 2 rfl;obtain⟨c0,Q,c2,c3,c4,c5,I⟩:=Y.out.h.c7;go_wp2_with fail;refine(jV ⟨fos,gs,ss,nx,la,ro,now⟩ _ fo _ (HV.out.below Y.out.b)).mono ?_
 rintro e wk ⟨rfl,f⟩;rw[←E0.out];have j:=hid (Y.out.below f);clear x2 c0 Q c2 c3 c4 c5 I f;obtain⟨x0,x1⟩:=j.out.r.c2;have x6:=j.out.r.cell 6 rfl;have c2:=j.out.h.cell 2 rfl;have c3:=j.out.h.cell 3 rfl;have c4:=j.out.h.cell 4 rfl;have c5:=j.out.h.cell 5 rfl;have I:=j.out.h.cell 6 rfl;have F:=(ff H0.out).2.2.2.2;obtain⟨g,hg⟩: ∃g,g=bk ss nx la ro who num now:=⟨_,rfl⟩
 have hE:ot ⟨fos,gs,ss,nx,la,ro,now⟩ ⟨6,who,fo,name,key,text,num,off,base,ch⟩=g:=hg.symm;go_wp2_with fail;refine(lx ss _ nx la ro who num now _ (HS.out.below j.out.b) E2.out.ss K.out.who).mono ?_
 rw[←hg];clear hg;rintro e d (⟨S,V,m,J,rfl,f⟩|⟨rfl,u,k,rfl,z,A,Z,f⟩)
 · have O:=hid (j.out.below f)
   obtain⟨X,c⟩: ∃x,x=d.alloc (.cells #[.slice V m J,nx,la,ro] 26):=⟨_,rfl⟩
   have HZ:=hid (show Cs X d.heap.size [.slice V m J,nx,la,ro]from by rw[c];exact Cs.new d _ _);have i:Below d.heap.size d X:=by rw[c];exact ak
   have B:=hid (O.out.below i);have ES:(g !=0)=true:=by simpa using S
   clear f x0 x1 x6 c2 c3 c4 c5 I i F;go_upto_region 47 with fail;rw[←c];clear c;go_wp2_with fail;refine(fC B.out.h g).mono ?_
   rintro e d ⟨rfl,f⟩;have SB:=hid (B.out.below f);obtain⟨⟨p0,p1,p2,p3,p4,p5,p6⟩,⟨y0,y1,y2,y3,y4,y5,y6⟩,pf,yf⟩:=SB.out.res
   go_wp2_with fail;exact fD SB.out rfl rfl rfl (HV.out) (by rw[mO,hE,if_neg S])
 · have O:=hid (j.out.below f)
   have C:(aq now ss).length≤1000:=by
    have h1:=de now ss;have h2:=(cQ (bu F).1).1;omega
   obtain⟨s,E⟩: ∃s,(aq now ss)[k]?=some s:=⟨_,List.getElem?_eq_getElem z⟩
   have hN:mO ⟨fos,gs,ss,nx,la,ro,now⟩ ⟨6,who,fo,name,key,text,num,off,base,ch⟩=(s.tx.size:Int):=by
    rw[mO,if_pos hE];simp only[A,Int.toNat_natCast,E]
   clear A;generalize aq now ss=M at Z C E z;have E7:M[k]=s:=by rw[List.getElem?_eq_getElem z]at E;exact Option.some.inj E
   have HO:=hid Z;obtain⟨V,J,rfl,_⟩:=Z.lies C
   obtain⟨X,c⟩: ∃x,x=d.alloc (.cells #[.slice V M.length J,nx,la,ro] 26):=⟨_,rfl⟩
   have HZ:=hid (show Cs X d.heap.size [.slice V M.length J,nx,la,ro]from by rw[c];exact Cs.new d _ _);have i:Below d.heap.size d X:=by rw[c];exact ak
   have B:=hid (O.out.below i);obtain⟨_,_,e,_,_,hL⟩:=(HO.out.lies C).below i
   injection e with e1 e2 e3
   subst e1 e3;clear e2;obtain⟨b,o,rfl,EN,T⟩:=hL k z
   have EM:w.heap.size+4≤b:=by
    rcases HO.out with⟨e,_⟩|⟨g,EL,e,EO,_⟩
    · cases e
    · injection e with e _ _
      injection e with e
      injection e with e _ _
      have:=j.out.l
      omega
   have z0:=HZ.out.cell 0 rfl;have z1:=T.2.2.1;rw[E7]at z1;clear f x0 x1 x6 c2 c3 c4 c5 I i F Z hL T;have EP:(0:Int)≤(k:Int):=by omega
   have EQ:(k:Int)<M.length:=by omega
   have E3: ¬b=w.heap.size+1+1:=by omega
   have E4: ¬b=w.heap.size+1+1+1:=by omega
   have ER:=B.out.l;have E5: ¬d.heap.size=w.heap.size+1+1:=by have:=O.out.l;omega
   have E6: ¬d.heap.size=w.heap.size+1+1+1:=by have:=O.out.l;omega
   have EK:=HZ.out.lt;have E8: ¬w.heap.size=w.heap.size+1+1:=by omega
   have E9: ¬w.heap.size=w.heap.size+1+1+1:=by omega
   obtain⟨c0,Q,c2,c3,c4,c5,I⟩:=B.out.h.c7;obtain⟨⟨p0,p1,p2,p3,p4,p5,p6⟩,⟨y0,y1,y2,y3,y4,y5,y6⟩,pf,yf⟩:=B.out.res
   go_upto_region 49 with fail;rw[←c];clear c;go_region_held3 (fun W=>W.cell? ⟨w.heap.size,0,none⟩=some (.slice fa fos.length fc)∧W.cell? ⟨w.heap.size,1,none⟩=some (.slice ga gs.length gc)∧W.cell? ⟨w.heap.size,2,none⟩=some (.slice sa ss.length sc)∧W.cell? ⟨w.heap.size,3,none⟩=some (.int .i64 nx)∧W.cell? ⟨w.heap.size,4,none⟩=some (.int .i64 la)∧W.cell? ⟨w.heap.size,5,none⟩=some (.int .i64 ro)∧W.cell? ⟨w.heap.size,6,none⟩=some (.int .i64 now)∧W.cell? ⟨d.heap.size,0,none⟩=some (.slice (some ⟨b,o,none⟩) M.length J)∧W.cell? ⟨b,o+k*5+2,none⟩=some (.string s.tx)) (simp only[World.cell?_drew,iY E3,iY E4,iY E5,iY E6,iY E8,iY E9,c0,Q,c2,c3,c4,c5,I,z0,z1,and_self]) (fail)
   all_goals
    go_wp2_with fail;exact kJ B.out (by simp) (World.grownBy.refl _ _) aw.drew rfl rfl rfl (fun hF hG hS hP hbe=>⟨HV.out.below hbe,by rw[hE,hN];exact iy _ _ _⟩)
def ou (H:Hb) (q:Rq):Hb:=if(df H q.who q.num q.off q.text).e=0 then⟨H.fos,H.gs,(df H q.who q.num q.off q.text).ss,(df H q.who q.num q.off q.text).nx,(df H q.who q.num q.off q.text).la,(df H q.who q.num q.off q.text).ro,H.now⟩else H
def mP (H:Hb) (q:Rq):An:=if(df H q.who q.num q.off q.text).e=0 then⟨0,(df H q.who q.num q.off q.text).num,bt⟩else⟨(df H q.who q.num q.off q.text).e,0,bt⟩
theorem D9 (H:Hb) (q:Rq) (v vq:Value) (w:World) (hv:aX w v H) (hs:dd H) (hq:bH w vq q) (O:cE q) (h0:ae H=0) (hn:aA q.who.data.toList=true) (hk:q.kind=5):
    Calls prog 6 #[v,vq] w fun e w'=> ∃u a,e= .returned (.tuple #[u,a])∧aX w' u (ou H q)∧bX w' a (mP H q)∧Below w.heap.size w w':=by
 have HV:=hid hv;have I:=hid hs;have i:=hid O;have H0:=hid h0;have HN:=hid hn;clear hs O h0 hn;obtain⟨fos,gs,ss,nx,la,ro,now⟩:=H
 obtain⟨vf,vg,vs,rfl,lf,lg,ls⟩:=hv
 have HF:=hid lf;have HG:=hid lg;have HS:=hid ls;obtain⟨fa,fc,rfl,-⟩:=lf
 obtain⟨ga,gc,rfl,-⟩:=lg
 obtain⟨sa,sc,rfl,-⟩:=ls
 obtain⟨va,rfl,lq⟩:=hq
 have E6:=hid lq;obtain⟨qa,qc,rfl,-⟩:=lq
 obtain⟨kind,who,fo,name,key,text,num,off,base,ch⟩:=q
 simp only at*;subst hk;obtain⟨wz,F⟩: ∃wz,wz=(((w.alloc (.cells #[.slice fa fos.length fc,.slice ga gs.length gc,.slice sa ss.length sc,nx,la,ro,now] 28)).alloc (.cells #[.int .i64 5,who,fo,name,key,text,num,off,base,.slice qa ch.length qc] 31)).alloc (.cells  cy  28)).alloc (.cells  bC  38):=⟨_,rfl⟩
 have J:=hid (show So w wz _ _ from by rw[F];exact So.new w _ _ _ _);obtain⟨Q,R⟩:=J.out.r.c2;obtain⟨r,hr⟩: ∃r,r=aL gs fo who:=⟨_,rfl⟩
 obtain⟨K,M⟩: ∃K,K=dO fos fo:=⟨_,rfl⟩
 have E0:=hid hr;have Y:=hid M;clear hr M;go_enter func6,ntmps6
 go_upto_region 1 with fail;rw[←F];clear F;go_wp2_with fail;refine(aM who _ i.out.who).mono ?_
 rintro e wn ⟨rfl,hw⟩;rw[hw,HN.out];clear hw wn;have x2:=J.out.r.cell 2 rfl;have V:=J.out.h.cell 1 rfl;go_wp2_with fail;refine(cB gs _ fo who _ (HG.out.below J.out.b)).mono ?_
 rintro e wb ⟨rfl,c⟩;rw[←E0.out];have T:=hid (J.out.below c);clear Q R x2 V c;have x2:=T.out.r.cell 2 rfl;obtain⟨c0,V,c2,c3,c4,c5,G⟩:=T.out.h.c7;go_wp2_with fail;refine(jV ⟨fos,gs,ss,nx,la,ro,now⟩ _ fo _ (HV.out.below T.out.b)).mono ?_
 rintro e wk ⟨rfl,c⟩;rw[←Y.out];have o:=hid (T.out.below c);clear x2 c0 V c2 c3 c4 c5 G c;obtain⟨Q,R⟩:=o.out.r.c2;have x6:=o.out.r.cell 6 rfl;have c2:=o.out.h.cell 2 rfl;have c3:=o.out.h.cell 3 rfl;have c4:=o.out.h.cell 4 rfl;have c5:=o.out.h.cell 5 rfl;have G:=o.out.h.cell 6 rfl;go_wp2_with fail;refine(DV ⟨fos,gs,ss,nx,la,ro,now⟩ _ who num _ I.out.ss i.out.who (HS.out.below o.out.b)).mono ?_
 rintro e f ⟨u0,rfl,P,c⟩;generalize eH ⟨fos,gs,ss,nx,la,ro,now⟩ who num=C at P⊢;have S3:=hid (o.out.below c);obtain⟨oa,oc,rfl,-⟩:=P
 generalize C.ss.length=m0;obtain⟨w3,z⟩: ∃x,x=f.alloc (.cells #[.slice oa m0 oc,C.nx,C.la,C.ro] 26):=⟨_,rfl⟩
 have HZ:=hid (show Cs w3 f.heap.size [.slice oa m0 oc,C.nx,C.la,C.ro]from by rw[z];exact Cs.new f _ _);have N:Below f.heap.size f w3:=by rw[z];exact ak
 have g:=hid (S3.out.below N);go_upto_region 39 with fail;rw[←z];clear c Q R x6 c2 c3 c4 c5 G N z;have Q:=g.out.r.cell 0 rfl;go_upto_region 40 with fail;clear Q;have R:=g.out.r.cell 1 rfl;have x5:=g.out.r.cell 5 rfl;have x6:=g.out.r.cell 6 rfl;have x7:=g.out.r.cell 7 rfl;have c2:=g.out.h.cell 2 rfl;have c3:=g.out.h.cell 3 rfl;have c4:=g.out.h.cell 4 rfl;have c5:=g.out.h.cell 5 rfl;have G:=g.out.h.cell 6 rfl;go_wp2_with fail;refine(DW ⟨fos,gs,ss,nx,la,ro,now⟩ _ who num off text _ I.out.ss i.out.who i.out.text (HS.out.below g.out.b)).mono ?_
 rintro e we ⟨u,rfl,hu,c⟩;generalize hU:df ⟨fos,gs,ss,nx,la,ro,now⟩ who num off text=U at hu⊢;have S:=hid hU;have HL:=hid hu;obtain⟨X,B,rfl,-⟩:=hu
 have S5:=hid (g.out.below c);have j:=hid (HZ.out.below c);clear c R x5 x6 x7 c2 c3 c4 c5 G hU;obtain⟨z0,z1,z2,z3⟩:=j.out.c4;obtain⟨E2,E3,E4,E5⟩:=j.out.f4;go_upto_region 41 with fail;obtain⟨wf,A⟩: ∃x,x=((((we.setCell ⟨f.heap.size,0,none⟩ (.slice X U.ss.length B)).setCell ⟨f.heap.size,1,none⟩ U.nx).setCell ⟨f.heap.size,2,none⟩ U.la).setCell ⟨f.heap.size,3,none⟩ U.ro):=⟨_,rfl⟩
 rw[←A];have E:we.grownBy wf (some f.heap.size):=by rw[A];exact(ar (ar (ar (aj we f.heap.size 0 (.slice X U.ss.length B)) (aj _ _ 1 U.nx)) (aj _ _ 2 U.la)) (aj _ _ 3 U.ro))
 have s:=hid (S5.out.nb E S3.out.l);have E1:=hid (show Cs wf f.heap.size [.slice X U.ss.length B,U.nx,U.la,U.ro]from by rw[A];exact(((j.out.set 0 _).set 1 _).set 2 _).set 3 _);have Z:=hid (HL.out.nb E (j.out.noStr (by simp)));clear A E z0 z1 z2 z3 E2 E3 E4 E5;by_cases d:U.e=0
 · have hE:=hid d
   rw[d];clear d;obtain⟨z0,z1,z2,z3⟩:=E1.out.c4;obtain⟨c0,V,c2,c3,c4,c5,G⟩:=s.out.h.c7;have f2:=s.out.h.fr 2;have f3:=s.out.h.fr 3;have f4:=s.out.h.fr 4;have f5:=s.out.h.fr 5;obtain⟨⟨p0,p1,p2,p3,p4,p5,p6⟩,⟨y0,y1,y2,y3,y4,y5,y6⟩,pf,yf⟩:=s.out.res
   go_wp2_with fail;exact kJ s.out (by simp) (ar (ar (ar (aj wf w.heap.size 2 (.slice X U.ss.length B)) (aj _ _ 3 U.nx)) (aj _ _ 4 U.la)) (aj _ _ 5 U.ro)) aw rfl rfl rfl (fun hF hG hS hP hbe=>⟨by rw[ou,S.out,if_pos hE.out];exact⟨_,_,_,rfl,HF.out.below hbe,HG.out.below hbe,hS _ _ Z.out⟩,by rw[mP,S.out,if_pos hE.out];exact iy _ _ _⟩)
 · have E7:(U.e !=0)=true:=by simpa using d
   go_wp2_with fail;refine(fC s.out.h U.e).mono ?_
   rintro e f ⟨rfl,c⟩;have SB:=hid (s.out.below c);obtain⟨⟨p0,p1,p2,p3,p4,p5,p6⟩,⟨y0,y1,y2,y3,y4,y5,y6⟩,pf,yf⟩:=SB.out.res
   go_wp2_with fail;exact fD SB.out rfl rfl rfl (by rw[ou,S.out,if_neg d];exact HV.out) (by rw[mP,S.out,if_neg d])
def lD (q:Rq):Int:=if q.kind<1∨8<q.kind then 7 else 1
theorem Ea (H:Hb) (q:Rq) (v V:Value) (w:World) (G:aX w v H) (F:dd H) (hq:bH w V q) (j:cE q) (C:ae H=0) (E:(q.kind<1∨8<q.kind)∨aA q.who.data.toList=false):
    Calls prog 6 #[v,V] w fun e w'=> ∃u a,e= .returned (.tuple #[u,a])∧aX w' u H∧bX w' a ⟨lD q,0,bt⟩∧Below w.heap.size w w':=by
 have z:=hid G;have E1:=hid F;have x:=hid j;have H0:=hid C;clear F j C;obtain⟨fos,gs,ss,nx,la,ro,now⟩:=H
 obtain⟨vf,vg,vs,rfl,lf,K,ls⟩:=G
 have HF:=hid lf;have HG:=hid K;have HS:=hid ls;obtain⟨fa,fc,rfl,-⟩:=lf
 obtain⟨ga,gc,rfl,-⟩:=K
 obtain⟨sa,sc,rfl,-⟩:=ls
 obtain⟨va,rfl,M⟩:=hq
 have E0:=hid M;obtain⟨qa,qc,rfl,-⟩:=M
 obtain⟨kind,who,fo,name,key,text,num,off,base,ch⟩:=q
 simp only at*;obtain⟨B,g⟩: ∃B,B=(((w.alloc (.cells #[.slice fa fos.length fc,.slice ga gs.length gc,.slice sa ss.length sc,nx,la,ro,now] 28)).alloc (.cells #[kind,who,fo,name,key,text,num,off,base,.slice qa ch.length qc] 31)).alloc (.cells  cy  28)).alloc (.cells  bC  38):=⟨_,rfl⟩
 have f:=hid (show So w B _ _ from by rw[g];exact So.new w _ _ _ _);have HK:=hid E;clear E;obtain⟨x0,x1⟩:=f.out.r.c2;go_enter func6,ntmps6
 go_upto_region 1 with fail;rw[←g];clear g;by_cases c:kind<1∨8<kind
 · have hE:lD ⟨kind,who,fo,name,key,text,num,off,base,ch⟩=7:=if_pos c
   by_cases o:kind<1
   · have J:decide (kind<1)=true:=decide_eq_true o
     go_wp2_with fail;refine(fC f.out.h 7).mono ?_
     rintro e X ⟨rfl,i⟩;have d:=hid (f.out.below i);obtain⟨⟨N,O,P,Q,R,S,T⟩,⟨Y,Z,y2,y3,y4,y5,y6⟩,U,yf⟩:=d.out.res
     go_wp2_with fail;exact fD d.out rfl rfl rfl (z.out) (by rw[hE])
   · have J:decide (kind<1)=false:=decide_eq_false o
     have A:8<kind:=by omega
     have j2:decide (8<kind)=true:=decide_eq_true A;go_wp2_with fail;refine(fC f.out.h 7).mono ?_
     rintro e X ⟨rfl,i⟩;have d:=hid (f.out.below i);obtain⟨⟨N,O,P,Q,R,S,T⟩,⟨Y,Z,y2,y3,y4,y5,y6⟩,U,yf⟩:=d.out.res
     go_wp2_with fail;exact fD d.out rfl rfl rfl (z.out) (by rw[hE])
 · have hE:lD ⟨kind,who,fo,name,key,text,num,off,base,ch⟩=1:=if_neg c
   have s:Hid (aA who.data.toList=false):=hid (HK.out.resolve_left c);have o: ¬kind<1:=fun h=>c (Or.inl h)
   have A: ¬8<kind:=fun h=>c (Or.inr h)
   have J:decide (kind<1)=false:=decide_eq_false o;have j2:decide (8<kind)=false:=decide_eq_false A;clear c;go_wp2_with fail;refine(aM who _ x.out.who).mono ?_
   rintro e wn ⟨rfl,I⟩;rw[I,s.out];clear I wn;go_wp2_with fail;refine(fC f.out.h 1).mono ?_
   rintro e X ⟨rfl,i⟩;have d:=hid (f.out.below i);obtain⟨⟨N,O,P,Q,R,S,T⟩,⟨Y,Z,y2,y3,y4,y5,y6⟩,U,yf⟩:=d.out.res
   go_wp2_with fail;exact fD d.out rfl rfl rfl (z.out) (by rw[hE])
end Go.Proofs.YtdlpjlfefjipkaaGreat
