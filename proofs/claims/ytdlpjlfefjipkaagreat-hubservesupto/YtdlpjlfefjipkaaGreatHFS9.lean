/- What the reference's serve answers to requests that ask for a page. -/
import Derived.Deep.CutRange
import Derived.Test.YtdlpjlfefjipkaaGreatHFSA
set_option linter.unusedSimpArgs false
set_option linter.unusedVariables false
namespace Go.Proofs.YtdlpjlfefjipkaaGreat
open Go.RowKit Go.Proofs.Tryz
set_option maxHeartbeats 8000000
set_option maxRecDepth 100000
theorem Eb {W:World} {R:Pg} {f d:Value} (h:d6 W (.agg #[R.reset,f,d,R.cur,R.more]) R):bX W (.agg #[ah,ah,R.reset,f,d,R.cur,R.more]) ⟨0,0,R⟩:=by
 obtain⟨a,c,e,g,i⟩:=h
 simp only[Value.agg.injEq,Array.mk.injEq,List.cons.injEq,and_true,true_and]at e;obtain⟨rfl,rfl⟩:=e
 exact⟨_,_,rfl,g,i⟩
def lE (H:Hb) (q:Rq):An:=if aL H.gs q.fo q.who=0 then⟨9,0,bt⟩else if dN (dB H (aV H.fos H.gs q.fo)) q.num 10=0 then⟨0,0,ev (dB H (aV H.fos H.gs q.fo)) q.num 10⟩else⟨dN (dB H (aV H.fos H.gs q.fo)) q.num 10,0,bt⟩
theorem Ec (H:Hb) (q:Rq) (v vq:Value) (w:World) (hv:aX w v H) (Y:dd H) (hq:bH w vq q) (E9:cE q) (h0:ae H=0) (hn:aA q.who.data.toList=true) (hk:q.kind=2) (EJ: ∀s∈H.fos,(∀e∈s.jo.base,e.path.size≤1048576∧e.text.size≤1048576)∧dm 1048576 s.jo.cos):
    Calls prog 6 #[v,vq] w fun e w'=> ∃u a,e= .returned (.tuple #[u,a])∧aX w' u H∧bX w' a (lE H q)∧Below w.heap.size w w':=by
 have E4:=hid EJ;clear EJ;have HV:=hid hv;have EV:=hid Y;have EM:=hid E9;have H0:=hid h0;have HN:=hid hn;clear Y E9 h0 hn;obtain⟨fos,gs,ss,nx,la,ro,now⟩:=H
 obtain⟨vf,vg,vs,rfl,lf,lg,ls⟩:=hv
 have HF:=hid lf;have HG:=hid lg;have HS:=hid ls;obtain⟨fa,fc,rfl,-⟩:=lf
 obtain⟨ga,gc,rfl,-⟩:=lg
 obtain⟨sa,sc,rfl,-⟩:=ls
 obtain⟨va,rfl,lq⟩:=hq
 have EU:=hid lq;obtain⟨qa,qc,rfl,-⟩:=lq
 obtain⟨kind,who,fo,name,key,text,num,off,base,ch⟩:=q
 simp only at*;subst hk;obtain⟨wz,X⟩: ∃wz,wz=(((w.alloc (.cells #[.slice fa fos.length fc,.slice ga gs.length gc,.slice sa ss.length sc,nx,la,ro,now] 28)).alloc (.cells #[.int .i64 2,who,fo,name,key,text,num,off,base,.slice qa ch.length qc] 31)).alloc (.cells  cy  28)).alloc (.cells  bC  38):=⟨_,rfl⟩
 have S0:=hid (show So w wz _ _ from by rw[X];exact So.new w _ _ _ _);obtain⟨x0,x1⟩:=S0.out.r.c2;obtain⟨r,hr⟩: ∃r,r=aL gs fo who:=⟨_,rfl⟩
 obtain⟨P,E5⟩: ∃P,P=dO fos fo:=⟨_,rfl⟩
 have O:=hid hr;have E0:=hid E5;clear hr E5;go_enter func6,ntmps6
 go_upto_region 1 with fail;rw[←X];clear X;go_wp2_with fail;refine(aM who _ EM.out.who).mono ?_
 rintro e wn ⟨rfl,hw⟩;rw[hw,HN.out];clear hw wn;have x2:=S0.out.r.cell 2 rfl;have c1:=S0.out.h.cell 1 rfl;go_wp2_with fail;refine(cB gs _ fo who _ (HG.out.below S0.out.b)).mono ?_
 rintro e wb ⟨rfl,J⟩;rw[←O.out];have S1:=hid (S0.out.below J);clear x0 x1 x2 c1 J;have x2:=S1.out.r.cell 2 rfl;obtain⟨c0,c1,c2,c3,c4,c5,c6⟩:=S1.out.h.c7;go_wp2_with fail;refine(jV ⟨fos,gs,ss,nx,la,ro,now⟩ _ fo _ (HV.out.below S1.out.b)).mono ?_
 rintro e g ⟨rfl,J⟩;rw[←E0.out];have j:=hid (S1.out.below J);clear x2 c0 c1 c2 c3 c4 c5 c6 J;have x0:=j.out.r.cell 0 rfl;by_cases V:r=0
 · subst V
   have hE:aL gs fo who=0:=O.out.symm;go_wp2_with fail;refine(fC j.out.h 9).mono ?_
   rintro e wd ⟨rfl,J⟩;have SB:=hid (j.out.below J);obtain⟨⟨p0,p1,p2,p3,p4,p5,p6⟩,⟨y0,y1,y2,y3,y4,y5,y6⟩,pf,yf⟩:=SB.out.res
   go_wp2_with fail;exact fD SB.out rfl rfl rfl (by exact HV.out) (by rw[lE,if_pos hE])
 · have Z:(r==0)=false:=by simpa using V
   have E8: ¬aL gs fo who=0:=by rw[←O.out];exact V
   obtain⟨i,U,E6,E7,T⟩: ∃i:Nat,∃h:i<fos.length,dO fos fo=(i:Int)∧aV fos gs fo=i∧aT fos[i].jo=0:=wH H0.out E8
   have ha:P=(i:Int):=E0.out.trans E6;subst ha;obtain⟨_,_,e,-,-,hL⟩:=HF.out.below j.out.b
   injection e with e1 e2 e3
   subst e1 e3;clear e2;obtain⟨b,o,rfl,d,-,jb,jc,j1,j2,j3,jl,jo⟩:=hL i U
   have A:=hid (List.getElem_mem U);obtain⟨s,Y⟩: ∃s,s=fos[i]:=⟨_,rfl⟩
   rw[←Y]at j2 jl jo T A;have EL:=hid Y;have HI:=hid E7;have E1:=hid T;have HJ:Hid (cV g (.agg #[jb,.int .i64 s.jo.first,jc]) s.jo):=hid ⟨_,_,rfl,jl,jo⟩;obtain⟨ja,ES,rfl,-⟩:=jl
   obtain⟨jd,ET,rfl⟩:=eh jo
   clear Y E6 E7 T hL jo;have EX:(0:Int)≤(i:Int):=by omega
   have EY:(i:Int)<fos.length:=by omega
   have HP:Hid (∀e∈s.jo.base,e.path.size≤1000000000):=hid (fun e he=>Nat.le_trans ((E4.out s A.out).1 e he).1 (by decide));have E2:=hid ((E4.out s A.out).2.mono (B':=1000000000) (by decide));obtain⟨E,hE⟩: ∃x,x=dN s.jo num 10:=⟨_,rfl⟩
   obtain⟨R,hR⟩: ∃x,x=ev s.jo num 10:=⟨_,rfl⟩
   have HA:Hid (lE ⟨fos,gs,ss,nx,la,ro,now⟩ ⟨2,who,fo,name,key,text,num,off,base,ch⟩=if E=0 then⟨0,0,R⟩else⟨E,0,bt⟩):=hid (by rw[lE,if_neg E8,HI.out,lw U,←EL.out,←hE,←hR]);have E3:=hid hE;have M:=hid hR;clear hE hR;have hS:=j.out.l;have S:Below g.heap.size g g.drew:= aw.drew;have Q:Below g.heap.size g (g.alloc (.cells #[false,al,al,ah,false] 36)).drew:= ak.drew;have c0:=j.out.h.cell 0 rfl;have x6:=j.out.r.cell 6 rfl;go_upto_region 32 with fail;go_cut [14,15]from 172 to 183 (fun p e W=> ∃c F G B C,p= .pointer (some ⟨c,0,none⟩)∧e= .int .i64 E∧g.heap.size≤c∧Hid (Cs W c [R.reset,.slice F R.tree.length G,.slice B R.cos.length C,R.cur,R.more])∧Hid (d6 W (.agg #[R.reset,.slice F R.tree.length G,.slice B R.cos.length C,R.cur,R.more]) R)∧Below g.heap.size g W)
   case first=>
    go_region_held3 (fun W=>W.cell? ⟨w.heap.size,0,none⟩=some (.slice (some ⟨b,o,none⟩) fos.length fc)∧W.cell? ⟨w.heap.size+1,6,none⟩=some (.int .i64 num)∧W.cell? ⟨b,o+i*4+1,none⟩=some (.slice ja s.jo.base.length ES)∧W.cell? ⟨b,o+i*4+2,none⟩=some (.int .i64 s.jo.first)∧W.cell? ⟨b,o+i*4+3,none⟩=some (.slice jd s.jo.cos.length ET)) (first|go_keep|(have Z:=ph (b:=g.heap.size) (v0:= .bool R.reset) (v1:= .slice F R.tree.length G) (v2:= .slice B R.cos.length C) (v3:= .int .i64 R.cur) (v4:= .bool R.more) hb23 ax;exact⟨(j.out.h.below Z).cell 0 rfl,(j.out.r.below Z).cell 6 rfl,(Z.cell (p:=⟨b,o+i*4+1,none⟩) d).trans j1,(Z.cell (p:=⟨b,o+i*4+2,none⟩) d).trans j2,(Z.cell (p:=⟨b,o+i*4+3,none⟩) d).trans j3⟩)) (first
     |(go_at_call 22;refine(vM s.jo _ num 10 _ (HJ.out.below S) HP.out E2.out E1.out).mono ?_;rintro z w3 ⟨v3,rfl,f,K⟩;rw[←E3.out];rw[←M.out]at f;have hb23:=an S K;have N:=hid f;obtain⟨vt,vc,rfl,lt,lc⟩:=f;obtain⟨F,G,rfl,-⟩:=lt;obtain⟨B,C,rfl⟩:=(eh lc);have q0:=(j.out.h.below hb23).cell 0 rfl;have q1:=(j.out.r.below hb23).cell 6 rfl;obtain⟨r1,r2,r3⟩:=(⟨(hb23.cell (p:=⟨b,o+i*4+1,none⟩) d).trans j1,(hb23.cell (p:=⟨b,o+i*4+2,none⟩) d).trans j2,(hb23.cell (p:=⟨b,o+i*4+3,none⟩) d).trans j3⟩:_∧_∧_))
     |(go_at_call 22;refine(vM s.jo _ num 10 _ (HJ.out.below Q) HP.out E2.out E1.out).mono ?_;rintro z w3 ⟨v3,rfl,f,K⟩;rw[←E3.out];rw[←M.out]at f;have hb23:=an Q K;have N:=hid f;obtain⟨vt,vc,rfl,lt,lc⟩:=f;obtain⟨F,G,rfl,-⟩:=lt;obtain⟨B,C,rfl⟩:=(eh lc);have q0:=(j.out.h.below hb23).cell 0 rfl;have q1:=(j.out.r.below hb23).cell 6 rfl;obtain⟨r1,r2,r3⟩:=(⟨(hb23.cell (p:=⟨b,o+i*4+1,none⟩) d).trans j1,(hb23.cell (p:=⟨b,o+i*4+2,none⟩) d).trans j2,(hb23.cell (p:=⟨b,o+i*4+3,none⟩) d).trans j3⟩:_∧_∧_);have HZ:=hid (((Cs.new g [false,al,al,ah,false] 36).below ( aw.drew)).below K);obtain⟨d0,d1,d2,d3,d4⟩:=HZ.out.c5;obtain⟨g0,g1,g2,g3⟩:=HZ.out.f4;have g4:=HZ.out.fr 4))
    all_goals
     go_wp2;go_meet
     case rel=>
      first
       |exact⟨g.heap.size,F,G,B,C,rfl,rfl,ax,(((((HZ.out.set 0 _).set 1 _).set 2 _).set 3 _).set 4 _),N.out.nb (ar (ar (ar (ar (aj w3 g.heap.size 0 R.reset) (aj _ _ 1 (.slice F R.tree.length G))) (aj _ _ 2 (.slice B R.cos.length C))) (aj _ _ 3 R.cur)) (aj _ _ 4 R.more)) (HZ.out.noStr (by simp)),ph (b:=g.heap.size) hb23 ax⟩
       |exact⟨_,F,G,B,C,rfl,rfl,hb23.size,Cs.new w3 [R.reset,.slice F R.tree.length G,.slice B R.cos.length C,R.cur,R.more] _,N.out.below ak,hb23.alloc hb23.size _⟩
   case rest=>
    obtain⟨c,F,G,B,C,rfl,rfl,EW,HB,EK,EN⟩:=hcut
    have S3:=hid (j.out.below EN);clear S Q c0 x6 j1 j2 j3;by_cases I:E=0
    · have HE:=hid I
      subst I;have EQ: ¬w.heap.size=w.heap.size+1+1:=by omega
      have ER: ¬w.heap.size=w.heap.size+1+1+1:=by omega
      have EO: ¬c=w.heap.size+1+1:=by omega
      have EP: ¬c=w.heap.size+1+1+1:=by omega
      obtain⟨c0,c1,c2,c3,c4,c5,c6⟩:=S3.out.h.c7;obtain⟨⟨p0,p1,p2,p3,p4,p5,p6⟩,⟨y0,y1,y2,y3,y4,y5,y6⟩,pf,yf⟩:=S3.out.res
      obtain⟨z0,z1,z2,z3,z4⟩:=HB.out.c5;go_upto_region 35 with fail;go_region_held3 (fun W=>W.cell? ⟨w.heap.size,0,none⟩=some (.slice (some ⟨b,o,none⟩) fos.length fc)∧W.cell? ⟨w.heap.size,1,none⟩=some (.slice ga gs.length gc)∧W.cell? ⟨w.heap.size,2,none⟩=some (.slice sa ss.length sc)∧W.cell? ⟨w.heap.size,3,none⟩=some (.int .i64 nx)∧W.cell? ⟨w.heap.size,4,none⟩=some (.int .i64 la)∧W.cell? ⟨w.heap.size,5,none⟩=some (.int .i64 ro)∧W.cell? ⟨w.heap.size,6,none⟩=some (.int .i64 now)∧W.cell? ⟨c,0,none⟩=some (.bool R.reset)∧W.cell? ⟨c,1,none⟩=some (.slice F R.tree.length G)∧W.cell? ⟨c,2,none⟩=some (.slice B R.cos.length C)∧W.cell? ⟨c,3,none⟩=some (.int .i64 R.cur)∧W.cell? ⟨c,4,none⟩=some (.bool R.more)) (simp only[World.cell?_drew,iY EO,iY EP,iY EQ,iY ER,c0,c1,c2,c3,c4,c5,c6,z0,z1,z2,z3,z4,and_self]) (fail)
      all_goals
       go_wp2_with fail;exact kJ S3.out (by simp) (World.grownBy.refl _ _) aw.drew rfl rfl rfl (fun hF hG hS hP hbe=>⟨HV.out.below hbe,by rw[HA.out];(try rw[if_pos rfl]);exact Eb (hP _ _ EK.out)⟩)
    · have EZ:(E !=0)=true:=by simpa using I
      go_wp2_with fail;refine(fC S3.out.h E).mono ?_
      rintro e wd ⟨rfl,J⟩;have SB:=hid (S3.out.below J);obtain⟨⟨p0,p1,p2,p3,p4,p5,p6⟩,⟨y0,y1,y2,y3,y4,y5,y6⟩,pf,yf⟩:=SB.out.res
      go_wp2_with fail;exact fD SB.out rfl rfl rfl (HV.out) (by rw[HA.out,if_neg I])
end Go.Proofs.YtdlpjlfefjipkaaGreat
