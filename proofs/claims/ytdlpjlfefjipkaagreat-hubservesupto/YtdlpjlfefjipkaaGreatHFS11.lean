/- What the reference's serve answers to requests for a commit, or to finish an upload. -/
import Derived.Deep.CutRange
import Derived.Test.YtdlpjlfefjipkaaGreatHFSA
import Derived.Test.YtdlpjlfefjipkaaGreatHFXJ21
set_option linter.unusedSimpArgs false
set_option linter.unusedVariables false
namespace Go.Proofs.YtdlpjlfefjipkaaGreat
open Go.RowKit Go.Proofs.Tryz
set_option maxHeartbeats 8000000
set_option maxRecDepth 100000
theorem wM (H:Hb) (q:Rq) (v vq:Value) (w:World) (hv:aX w v H) (hs:dd H) (hq:bH w vq q) (Fg:cE q) (h0:ae H=0) (hn:aA q.who.data.toList=true) (hk:q.kind=1∨q.kind=7) (Fi: ∀s∈H.fos,(∀e∈s.jo.base,e.path.size≤1048576∧e.text.size≤1048576)∧dm 1048576 s.jo.cos) (Fe:q.name.size≤1048576∧dV 1048576 q.ch):
    Calls prog 6 #[v,vq] w fun e w'=> ∃u a,e= .returned (.tuple #[u,a])∧aX w' u (kL H q)∧bX w' a (kK H q)∧Below w.heap.size w w':=by
 have F7:=hid Fi;have F3:=hid Fe;clear Fi Fe;have HV:=hid hv;have FA:=hid hs;have EP:=hid Fg;have H0:=hid h0;have HN:=hid hn;clear hs Fg h0 hn;obtain⟨fos,gs,ss,nx,la,ro,now⟩:=H
 obtain⟨vf,vg,vs,rfl,lf,lg,ls⟩:=hv
 have HF:=hid lf;have HG:=hid lg;have HS:=hid ls;obtain⟨fa,fc,rfl,-⟩:=lf
 obtain⟨ga,gc,rfl,-⟩:=lg
 obtain⟨sa,sc,rfl,-⟩:=ls
 obtain⟨va,rfl,lq⟩:=hq
 have Fs:=hid lq;obtain⟨qa,qc,rfl,-⟩:=lq
 obtain⟨kind,who,fo,name,key,text,num,off,base,ch⟩:=q
 simp only at*;have HK:=hid hk;have j1:decide (kind<1)=false:=by simp;omega
 have j2:decide (8<kind)=false:=by simp;omega
 have n8:(kind==8)=false:=by simp;omega
 have n3:(kind==3)=false:=by simp;omega
 have n2:(kind==2)=false:=by simp;omega
 have n4:(kind==4)=false:=by simp;omega
 have n5:(kind==5)=false:=by simp;omega
 have n6:(kind==6)=false:=by simp;omega
 clear hk;obtain⟨wz,EW⟩: ∃wz,wz=(((w.alloc (.cells #[.slice fa fos.length fc,.slice ga gs.length gc,.slice sa ss.length sc,nx,la,ro,now] 28)).alloc (.cells #[kind,who,fo,name,key,text,num,off,base,.slice qa ch.length qc] 31)).alloc (.cells  cy  28)).alloc (.cells  bC  38):=⟨_,rfl⟩
 have S0:=hid (show So w wz _ _ from by rw[EW];exact So.new w _ _ _ _);obtain⟨x0,x1⟩:=S0.out.r.c2;obtain⟨r,hr⟩: ∃r,r=aL gs fo who:=⟨_,rfl⟩
 obtain⟨EQ,F8⟩: ∃EQ,EQ=dO fos fo:=⟨_,rfl⟩
 have E0:=hid hr;have EZ:=hid F8;clear hr F8;go_enter func6,ntmps6
 go_upto_region 1 with fail;rw[←EW];clear EW;go_wp2_with fail;refine(aM who _ EP.out.who).mono ?_
 rintro e wn ⟨rfl,hw⟩;rw[hw,HN.out];clear hw wn;have x2:=S0.out.r.cell 2 rfl;have c1:=S0.out.h.cell 1 rfl;go_wp2_with fail;refine(cB gs _ fo who _ (HG.out.below S0.out.b)).mono ?_
 rintro e wb ⟨rfl,d⟩;rw[←E0.out];have S1:=hid (S0.out.below d);clear x0 x1 x2 c1 d;have x2:=S1.out.r.cell 2 rfl;obtain⟨c0,c1,c2,c3,c4,c5,c6⟩:=S1.out.h.c7;go_wp2_with fail;refine(jV ⟨fos,gs,ss,nx,la,ro,now⟩ _ fo _ (HV.out.below S1.out.b)).mono ?_
 rintro e K ⟨rfl,d⟩;rw[←EZ.out];have U:=hid (S1.out.below d);clear x2 c0 c1 c2 c3 c4 c5 c6 d;have x0:=U.out.r.cell 0 rfl;by_cases Ff:r<2
 · have hE:aL gs fo who<2:=by rw[←E0.out];exact Ff
   go_wp2_with fail;refine(fC U.out.h 9).mono ?_
   rintro e wd ⟨rfl,d⟩;have SB:=hid (U.out.below d);obtain⟨⟨p0,p1,p2,p3,p4,p5,p6⟩,⟨y0,y1,y2,y3,y4,y5,y6⟩,pf,yf⟩:=SB.out.res
   go_wp2_with fail;exact fD SB.out rfl rfl rfl (by rw[kL,if_pos hE];exact HV.out) (by rw[kK,if_pos hE])
 · have FM: ¬aL gs fo who=0:=by rw[←E0.out];omega
   have FL: ¬aL gs fo who<2:=by rw[←E0.out];exact Ff
   have B:Hid (2≤aL gs fo who):=hid (by omega);have Fh:=(ff H0.out).2.2.2.2;have x9:=U.out.r.cell 9 rfl;have c2:=U.out.h.cell 2 rfl;have c3:=U.out.h.cell 3 rfl;have c4:=U.out.h.cell 4 rfl;have c5:=U.out.h.cell 5 rfl;obtain⟨w3,E8⟩: ∃x,x=K.alloc (.cells #[.slice sa ss.length sc,nx,la,ro] 26):=⟨_,rfl⟩
   have T:=hid (show Cs w3 K.heap.size [.slice sa ss.length sc,nx,la,ro]from by rw[E8];exact Cs.new K _ _);have Q:Below K.heap.size K w3:=by rw[E8];exact ak
   have C:=hid (U.out.below Q);have FJ:=U.out.l;clear FL;go_upto_region 54 with fail;rw[←E8];clear E8 x9 c2 c3 c4 c5;have x0:=C.out.r.cell 0 rfl;go_upto_if 285 with fail;go_cut [22,24,25,26]from 283 to 313 (fun v _ _ _ W=> ∃l us un ul ur xa xc,Hid (cP W v l∧dV 1048576 l)∧Hid (Cs W K.heap.size [.slice xa us.length xc,.int .i64 un,.int .i64 ul,.int .i64 ur])∧Hid (aK W (.slice xa us.length xc) us)∧Hid (So w W [.slice fa fos.length fc,.slice ga gs.length gc,.slice sa ss.length sc,nx,la,ro,now] [kind,who,fo,name,key,text,num,off,base,.slice qa ch.length qc])∧Hid (oq ⟨fos,gs,ss,nx,la,ro,now⟩ ⟨kind,who,fo,name,key,text,num,off,base,ch⟩ l us un ul ur))
   case first=>
    rcases HK.out with hk|hk
    · subst hk
      go_wp2;go_meet
      case rel=>exact⟨ch,ss,nx,la,ro,sa,sc,⟨Fs.out.below C.out.b,F3.out.2⟩,T.out,HS.out.below C.out.b,C.out,DZ rfl⟩
    · subst hk
      have x1:=C.out.r.cell 1 rfl;have x6:=C.out.r.cell 6 rfl;have c2:=C.out.h.cell 2 rfl;have c3:=C.out.h.cell 3 rfl;have c4:=C.out.h.cell 4 rfl;have c5:=C.out.h.cell 5 rfl;have c6:=C.out.h.cell 6 rfl;go_wp2_with fail;refine(DX ⟨fos,gs,ss,nx,la,ro,now⟩ _ who num _ FA.out.ss EP.out.who (HS.out.below C.out.b) Fh).mono ?_
      rintro e wf ⟨u,rfl,hu,d⟩;have ER:=DY (H:=⟨fos,gs,ss,nx,la,ro,now⟩) Fh who num;generalize hF:bS ⟨fos,gs,ss,nx,la,ro,now⟩ who num=F at hu ER⊢;have EM:=hid hF;have HL:=hid hu;have FB:=hid ER;obtain⟨ua,J,rfl,-⟩:=hu
      have S4:=hid (C.out.below d);have FC:=hid (T.out.below d);clear d x0 x1 x6 c2 c3 c4 c5 c6 hF ER;obtain⟨w5,I⟩: ∃x,x=wf.alloc (.cells #[.slice ua F.ss.length J,F.nx,F.la,F.ro] 26):=⟨_,rfl⟩
      have T:=hid (show Cs w5 wf.heap.size [.slice ua F.ss.length J,F.nx,F.la,F.ro]from by rw[I];exact Cs.new wf _ _);have Q:Below wf.heap.size wf w5:=by rw[I];exact ak
      have S5:=hid (S4.out.below Q);have E1:=hid (FC.out.below Q);have Fp:=hid (HL.out.below Q);by_cases G:F.e=0
      · have hE:=hid G
        rw[G];clear G;have x3:=S5.out.r.cell 3 rfl;have x8:=S5.out.r.cell 8 rfl;obtain⟨z0,z1,z2,z3⟩:=T.out.c4;obtain⟨FR,FS,FT,FU⟩:=E1.out.f4;obtain⟨v0,v1,v2,v3⟩:=E1.out.c4;go_upto_region 56 with fail;rw[←I];clear I;go_upto_region 59 with fail;obtain⟨w6,E9⟩: ∃x,x=((((w5.setCell ⟨K.heap.size,0,none⟩ (.slice ua F.ss.length J)).setCell ⟨K.heap.size,1,none⟩ F.nx).setCell ⟨K.heap.size,2,none⟩ F.la).setCell ⟨K.heap.size,3,none⟩ F.ro):=⟨_,rfl⟩
        rw[←E9];have EU:w5.grownBy w6 (some K.heap.size):=by rw[E9];exact(ar (ar (ar (aj w5 K.heap.size 0 (.slice ua F.ss.length J)) (aj _ _ 1 F.nx)) (aj _ _ 2 F.la)) (aj _ _ 3 F.ro))
        have g:=hid (S5.out.nb EU FJ);have FI:=hid (show Cs w6 K.heap.size [.slice ua F.ss.length J,F.nx,F.la,F.ro]from by rw[E9];exact(((E1.out.set 0 _).set 1 _).set 2 _).set 3 _);have Fq:=hid (Fp.out.nb EU (E1.out.noStr (by simp)));clear E9 EU z0 z1 z2 z3 FR FS FT FU v0 v1 v2 v3 x3 x8;have x3:=g.out.r.cell 3 rfl;have x8:=g.out.r.cell 8 rfl;go_wp2;go_meet
        case rel=>
         have ES:Below w6.heap.size w6 (w6.alloc (.cells #[.int .i64 2,name,.string ⟨#[]⟩,F.tx,base] 83)):=ak;have A:=Cs.new w6 [.int .i64 2,name,.string ⟨#[]⟩,F.tx,base] 83
         exact⟨iV ⟨7,who,fo,name,key,text,num,off,base,ch⟩ F.tx,F.ss,F.nx,F.la,F.ro,ua,J,⟨⟨some ⟨w6.heap.size,0,none⟩,1,rfl,ax,by show(1:Nat)≤_;decide,fun i hi=>⟨w6.heap.size,0,rfl,A.lt,by
          match i,hi with
          |0,_=>exact⟨A.cell 0 rfl,A.cell 1 rfl,A.cell 2 rfl,A.cell 3 rfl,A.cell 4 rfl⟩⟩⟩,fun x hx=>by
          obtain rfl:=List.mem_singleton.1 hx;exact⟨F3.out.1,by show(0:Nat)≤_;omega,FB.out⟩⟩,FI.out.below ES,Fq.out.below ES,g.out.below ES,D3 rfl EM.out hE.out⟩
      · have FO:(F.e !=0)=true:=by simpa using G
        go_upto_region 56 with fail;rw[←I];clear I;go_wp2_with fail;refine(fC S5.out.h F.e).mono ?_
        rintro e wd ⟨rfl,d⟩;have SB:=hid (S5.out.below d);obtain⟨⟨p0,p1,p2,p3,p4,p5,p6⟩,⟨y0,y1,y2,y3,y4,y5,y6⟩,pf,yf⟩:=SB.out.res
        go_wp2_with fail;exact fD SB.out rfl rfl rfl (by rw[kL,if_neg (show¬aL gs fo who<2 from Int.not_lt.2 B.out),(wI rfl EM.out G).2];exact HV.out) (by rw[kK,if_neg (show¬aL gs fo who<2 from Int.not_lt.2 B.out),(wI rfl EM.out G).1])
   case rest=>
    obtain⟨l,us,un,ul,ur,xa,xc,M,FD,Fw,g,Ft⟩:=hcut
    obtain⟨i,E6,Fb,Fc,EV⟩: ∃i:Nat,∃h:i<fos.length,dO fos fo=(i:Int)∧aV fos gs fo=i∧aT fos[i].jo=0:=wH H0.out FM
    have ha:EQ=(i:Int):=EZ.out.trans Fb;subst ha;obtain⟨_,_,e,-,-,hL⟩:=HF.out.below g.out.b
    injection e with e1 e2 e3
    subst e1 e3;clear e2;obtain⟨b,o,rfl,f,-,jb,jc,j1,j2,j3,jl,jo⟩:=hL i E6
    have O:=hid (List.getElem_mem E6);obtain⟨s,hs⟩: ∃s,s=fos[i]:=⟨_,rfl⟩
    rw[←hs]at j2 jl jo EV O;have Fv:=hid hs;have HI:=hid Fc;have F0:=hid EV;have HJ:Hid (cV wc (.agg #[jb,.int .i64 s.jo.first,jc]) s.jo):=hid ⟨_,_,rfl,jl,jo⟩;obtain⟨ja,FP,rfl,-⟩:=jl
    obtain⟨jd,FQ,rfl⟩:=eh jo
    clear hs Fb Fc EV hL jo;have FW:(0:Int)≤(i:Int):=by omega
    have FY:(i:Int)<fos.length:=by omega
    have HP:Hid (∀e∈s.jo.base,e.path.size≤1000000000):=hid (fun e he=>Nat.le_trans ((F7.out s O.out).1 e he).1 (by decide));have F1:=hid ((F7.out s O.out).2.mono (B':=1000000000) (by decide));have F6:Hid (dV 1000000000 l):=hid (fun x hx=>⟨Nat.le_trans (M.out.2 x hx).1 (by decide),Nat.le_trans (M.out.2 x hx).2.1 (by decide),Nat.le_trans (M.out.2 x hx).2.2 (by decide)⟩);have F2:Hid (key.size≤maxLen):=hid (by have:=EP.out.key;unfold maxLen;simp only at this;omega);obtain⟨E,hE⟩: ∃x,x=cY s.jo key l:=⟨_,rfl⟩
    obtain⟨N,hN⟩: ∃x,x=dM s.jo key l:=⟨_,rfl⟩
    obtain⟨R,hR⟩: ∃x,x=dW s.jo key l:=⟨_,rfl⟩
    have EJ:=hid (D4 Ft.out HI.out ((lw E6).trans (by rw[Fv.out])) hE hN hR);have F4:=hid hE;have F5:=hid hN;have EK:=hid hR;clear hE hN hR;have hS:=g.out.l;have E5:Below wc.heap.size wc wc.drew:= aw.drew;have E4:Below wc.heap.size wc (wc.alloc (.cells #[al,ah,al] 57)).drew:= ak.drew;have c0:=g.out.h.cell 0 rfl;have x4:=g.out.r.cell 4 rfl;go_upto_region 60 with fail;go_cut [27,28,29]from 314 to 327 (fun p n e W=> ∃c Y Z V X,p= .pointer (some ⟨c,0,none⟩)∧n= .int .i64 N∧e= .int .i64 E∧wc.heap.size≤c∧Hid (Cs W c [.slice Y R.base.length Z,R.first,.slice V R.cos.length X])∧Hid (cV W (.agg #[.slice Y R.base.length Z,R.first,.slice V R.cos.length X]) R)∧Below wc.heap.size wc W)
    case first=>
     go_region_held3 (fun W=>W.cell? ⟨w.heap.size,0,none⟩=some (.slice (some ⟨b,o,none⟩) fos.length fc)∧W.cell? ⟨w.heap.size+1,4,none⟩=some (.string key)∧W.cell? ⟨b,o+i*4+1,none⟩=some (.slice ja s.jo.base.length FP)∧W.cell? ⟨b,o+i*4+2,none⟩=some (.int .i64 s.jo.first)∧W.cell? ⟨b,o+i*4+3,none⟩=some (.slice jd s.jo.cos.length FQ)) (first|go_keep|(have hz:=pe (b:=wc.heap.size) (v0:= .slice Y R.base.length Z) (v1:= .int .i64 R.first) (v2:= .slice V R.cos.length X) hb23 ax;exact⟨(g.out.h.below hz).cell 0 rfl,(g.out.r.below hz).cell 4 rfl,(hz.cell (p:=⟨b,o+i*4+1,none⟩) f).trans j1,(hz.cell (p:=⟨b,o+i*4+2,none⟩) f).trans j2,(hz.cell (p:=⟨b,o+i*4+3,none⟩) f).trans j3⟩)) (first
      |(go_at_call 27;refine(wL s.jo _ key l _ _ (HJ.out.below E5) (M.out.1.below E5) HP.out F1.out F6.out F2.out F0.out).mono ?_;rintro z w3 ⟨v3,rfl,j,E3⟩;rw[←F4.out,←F5.out];rw[←EK.out]at j;have hb23:=an E5 E3;have EN:=hid j;obtain⟨vt,vc,rfl,lt,lc⟩:=j;obtain⟨Y,Z,rfl,-⟩:=lt;obtain⟨V,X,rfl⟩:=(eh lc);have q0:=(g.out.h.below hb23).cell 0 rfl;have q1:=(g.out.r.below hb23).cell 4 rfl;obtain⟨r1,r2,r3⟩:=(⟨(hb23.cell (p:=⟨b,o+i*4+1,none⟩) f).trans j1,(hb23.cell (p:=⟨b,o+i*4+2,none⟩) f).trans j2,(hb23.cell (p:=⟨b,o+i*4+3,none⟩) f).trans j3⟩:_∧_∧_))
      |(go_at_call 27;refine(wL s.jo _ key l _ _ (HJ.out.below E4) (M.out.1.below E4) HP.out F1.out F6.out F2.out F0.out).mono ?_;rintro z w3 ⟨v3,rfl,j,E3⟩;rw[←F4.out,←F5.out];rw[←EK.out]at j;have hb23:=an E4 E3;have EN:=hid j;obtain⟨vt,vc,rfl,lt,lc⟩:=j;obtain⟨Y,Z,rfl,-⟩:=lt;obtain⟨V,X,rfl⟩:=(eh lc);have q0:=(g.out.h.below hb23).cell 0 rfl;have q1:=(g.out.r.below hb23).cell 4 rfl;obtain⟨r1,r2,r3⟩:=(⟨(hb23.cell (p:=⟨b,o+i*4+1,none⟩) f).trans j1,(hb23.cell (p:=⟨b,o+i*4+2,none⟩) f).trans j2,(hb23.cell (p:=⟨b,o+i*4+3,none⟩) f).trans j3⟩:_∧_∧_);have T:=hid (((Cs.new wc [al,ah,al] 57).below ( aw.drew)).below E3);obtain⟨d0,d1,d2⟩:=T.out.c3;obtain⟨g0,g1⟩:=T.out.f2;have g2:=T.out.fr 2))
     all_goals
      go_wp2;go_meet
      case rel=>
       first
        |exact⟨wc.heap.size,Y,Z,V,X,rfl,rfl,rfl,ax,(((T.out.set 0 _).set 1 _).set 2 _),EN.out.nbq (ar (ar (aj w3 wc.heap.size 0 (.slice Y R.base.length Z)) (aj _ _ 1 R.first)) (aj _ _ 2 (.slice V R.cos.length X))) (T.out.noStr (by simp)),pe (b:=wc.heap.size) hb23 ax⟩
        |exact⟨_,Y,Z,V,X,rfl,rfl,rfl,hb23.size,Cs.new w3 [.slice Y R.base.length Z,R.first,.slice V R.cos.length X] _,EN.out.below ak,hb23.alloc hb23.size _⟩
    case rest=>
     obtain⟨c,Y,Z,V,X,rfl,rfl,rfl,FV,HB,Fo,ET⟩:=hcut
     have S7:=hid (g.out.below ET);have FE:=hid (FD.out.below ET);have Fx:=hid (Fw.out.below ET);clear E5 E4 c0 x4 j1 j2 j3;by_cases E2:E=0
     · obtain⟨hA,hX⟩:=EJ.out.1 E2
       subst E2;have HA:=hid hA;have HX:=hid hX;clear hA hX;have FK:fos.length≤8:=(iv (ff H0.out).2.1).1;obtain⟨c0,c1,c2,c3,c4,c5,c6⟩:=S7.out.h.c7;obtain⟨z0,z1,z2⟩:=HB.out.c3;go_wp2_with fail;refine(DU ⟨fos,gs,ss,nx,la,ro,now⟩ R i _ _ _ (HV.out.below S7.out.b) Fo.out E6 FK).mono ?_
       rintro e wd ⟨u,rfl,hu,d⟩;generalize hP:ix ⟨fos,gs,ss,nx,la,ro,now⟩ i R=P at hu;have EO:=hid hP;obtain⟨FZ,G0,G1,rfl,F9,Fa,FN⟩:=hu
       have S8:=hid (S7.out.below d);have Fj:=hid F9;have Fl:=hid Fa;obtain⟨ka,kc,rfl,-⟩:=F9
       obtain⟨kg,EX,rfl,-⟩:=Fa
       obtain⟨ks,EY,rfl,-⟩:=FN
       have FG:=hid (FE.out.below d);have Fy:=hid (Fx.out.below d);clear d c0 c1 c2 c3 c4 c5 c6 z0 z1 z2 hP;obtain⟨c0,c1,c2,c3,c4,c5,c6⟩:=S8.out.h.c7;obtain⟨f0,f1,f2,f3,f4,f5,f6⟩:=S8.out.h.f7;go_upto_region 64 with fail;obtain⟨w9,S⟩: ∃x,x=(W7 wd (w.heap.size) (.slice ka P.fos.length kc) (.slice kg P.gs.length EX) (.slice ks P.ss.length EY) P.nx (.int .i64 P.la) P.ro (.int .i64 P.now)):=⟨_,rfl⟩
       have EL:=S;dsimp only[W7]at S;rw[←S];have hg:=g7 wd w.heap.size (.slice ka P.fos.length kc) (.slice kg P.gs.length EX) (.slice ks P.ss.length EY) P.nx (.int .i64 P.la) P.ro (.int .i64 P.now);rw[←EL]at hg;have S9:=hid (show So w w9 [.slice ka P.fos.length kc,.slice kg P.gs.length EX,.slice ks P.ss.length EY,P.nx,P.la,P.ro,P.now] [kind,who,fo,name,key,text,num,off,base,.slice qa ch.length qc]from by rw[S];exact S8.out.hub _ _ _ _ _ _ _);have E7:=S8.out.h.noStr (by simp);have Fk:=hid (Fj.out.nb hg E7);have Fm:=hid (Fl.out.nb hg E7);have Fz:=hid (Fy.out.nb hg E7);have FH:=hid (FG.out.nb hg (by omega));clear S EL hg E7 c0 c1 c2 c3 c4 c5 c6 f0 f1 f2 f3 f4 f5 f6;obtain⟨z0,z1,z2,z3⟩:=FH.out.c4;obtain⟨c0,c1,c2,c3,c4,c5,c6⟩:=S9.out.h.c7;have f2:=S9.out.h.fr 2;have f3:=S9.out.h.fr 3;have f4:=S9.out.h.fr 4;have f5:=S9.out.h.fr 5;obtain⟨⟨p0,p1,p2,p3,p4,p5,p6⟩,⟨y0,y1,y2,y3,y4,y5,y6⟩,pf,yf⟩:=S9.out.res
       go_wp2_with fail;exact kJ S9.out (by simp) (ar (ar (ar (aj w9 w.heap.size 2 (.slice xa us.length xc)) (aj _ _ 3 (.int .i64 un))) (aj _ _ 4 (.int .i64 ul))) (aj _ _ 5 (.int .i64 ur))) aw rfl rfl rfl (fun hF hG hS hP hbe=>⟨by rw[kL,if_neg (show¬aL gs fo who<2 from Int.not_lt.2 B.out),HX.out];exact⟨_,_,_,by rw[←EO.out];rfl,hF _ _ (by rw[EO.out];exact Fk.out),hG _ _ (by rw[show gs=P.gs from by rw[←EO.out];rfl];exact Fm.out),hS _ _ Fz.out⟩,by rw[kK,if_neg (show¬aL gs fo who<2 from Int.not_lt.2 B.out),HA.out];exact iy _ _ _⟩)
     · obtain⟨hA,hX⟩:=EJ.out.2 E2
       have FO:(E !=0)=true:=by simpa using E2
       go_wp2_with fail;refine(fC S7.out.h E).mono ?_
       rintro e wd ⟨rfl,d⟩;have SB:=hid (S7.out.below d);obtain⟨⟨p0,p1,p2,p3,p4,p5,p6⟩,⟨y0,y1,y2,y3,y4,y5,y6⟩,pf,yf⟩:=SB.out.res
       go_wp2_with fail;exact fD SB.out rfl rfl rfl (by rw[kL,if_neg (show¬aL gs fo who<2 from Int.not_lt.2 B.out),hX];exact HV.out) (by rw[kK,if_neg (show¬aL gs fo who<2 from Int.not_lt.2 B.out),hA])
end Go.Proofs.YtdlpjlfefjipkaaGreat
