/- What the reference's serve answers is what Serve answers: as mathematics. -/
import Derived.Test.YtdlpjlfefjipkaaGreatHFSB
import Derived.Test.YtdlpjlfefjipkaaGreatHFS9
import Derived.Test.YtdlpjlfefjipkaaGreatHFS11
import Derived.Test.YtdlpjlfefjipkaaGreatHFS13
set_option linter.unusedSimpArgs false
set_option linter.unusedVariables false
namespace Go.Proofs.YtdlpjlfefjipkaaGreat
open Go.RowKit Go.Proofs.Tryz
set_option maxHeartbeats 8000000
set_option maxRecDepth 100000
theorem kO {H:Hb} {f p:ByteArray} (o:ae H=0) (v:aA p.data.toList=true):fU H.gs f p=aL H.gs f p∧0≤aL H.gs f p:=by
 have j:=(ff o).2.2.1;have i:=Do.1 (jP j).2.1;cases d:H.gs.find? (dI f p)with
 |none=>
  have e:aL H.gs f p=0:=by rw[aL,d]
  rw[fU,e];exact⟨by split<;>rfl,Int.le_refl _⟩
 |some e=>
  have a:=i e (List.mem_of_find?_eq_some d);obtain⟨s,_⟩:=Dn.1 (List.find?_some d)
  have x:aL H.gs f p=e.ri:=by rw[aL,d]
  rw[b9]at a;by_cases c:jr e=true
  · rw[if_pos c]at a
    by_cases u:e.ri<1∨3<e.ri
    · rw[if_pos u]at a;cases a
    · rw[jr,Bool.and_eq_true]at c
      have g:aA f.data.toList=true:=by rw[←Lib.toList_data,←s,Lib.toList_data];exact c.1
      refine⟨?_,by omega⟩
      rw[fU,if_pos];rw[gP,if_pos j,aU];simp[g,v]
  · rw[if_neg c]at a;cases a
theorem kP {H:Hb} {q:Rq} (i:ae H=0) (d:aA q.who.data.toList=true) (j:1≤q.kind) (o:q.kind≤8):(aL H.gs q.fo q.who<Hu.lst q.kind∧eI H q=H∧eJ H q=⟨9,0,bt⟩)∨(¬aL H.gs q.fo q.who<Hu.lst q.kind∧eI H q=dR H q∧eJ H q=dS H q):=by
 have c:aU [q.who]=0:=wu d;have g:=(kO (f:=q.fo) i d).1;by_cases a:aL H.gs q.fo q.who<Hu.lst q.kind
 · have e:cD H.gs q=9:=qI (by omega) c (by rw[g];exact a)
   exact Or.inl ⟨a,by rw[eI,e,if_neg (by decide)],by rw[eJ,e,if_neg (by decide)]⟩
 · have e:cD H.gs q=0:=vn (by omega) c (by rw[g];exact a)
   exact Or.inr ⟨a,by rw[eI,if_pos e],by rw[eJ,if_pos e]⟩
theorem Ek {H:Hb} {p:ByteArray} {n o:Int} {t:ByteArray} (h: ¬(df H p n o t).e=0):(df H p n o t).num=0:=by
 rw[df]at h⊢;split
 · rename_i x
   rw[if_pos x]at h;split
   · rename_i s y
     rw[y]at h;simp only[n7]at h⊢;split
     · rename_i z;rw[if_pos z]at h;exact absurd rfl h
     · rename_i z
       rw[if_neg z]at h;split
       · rename_i a
         rw[if_pos a]at h;split
         · rfl
         · rename_i b;rw[if_neg b]at h;exact absurd rfl h
       · rfl
   · rfl
 · rfl
theorem wN {H:Hb} {q:Rq} (c:ae H=0) (o:aA q.who.data.toList=true) (g:q.kind=3):eI H q=kN H q∧eJ H q=⟨kM H q,0,bt⟩:=by
 have s:=(ff c).2.2.1;have u:=(kO (f:=q.fo) c o).2;have d:eF H.gs q.fo q.who q.name q.num=eU H.gs q.fo q.who q.name q.num:=if_pos s;rcases kP c o (by omega) (by omega)with⟨i,j,e2⟩|⟨i,j,e2⟩
 all_goals rw[g]at i;rw[j,e2];simp[Hu.lst]at i
 · have a:kM H q=9:=if_pos (by omega)
   rw[kN,a];exact⟨rfl,rfl⟩
 · have a:kM H q=eU H.gs q.fo q.who q.name q.num:=if_neg (by omega)
   rw[(og g).1,(og g).2,kN,a,jR,eG,d];exact⟨by split<;>rfl,rfl⟩
theorem wO {H:Hb} {q:Rq} (g:ae H=0) (i:aA q.who.data.toList=true) (a:q.kind=4):eI H q=mM H q∧eJ H q=⟨lC H q,mN H q,bt⟩:=by
 have j:=(kO (f:=q.fo) g i).2;rcases kP g i (by omega) (by omega)with⟨c,d,e2⟩|⟨c,d,e2⟩
 all_goals rw[a]at c;rw[d,e2];simp[Hu.lst]at c
 · omega
 · rw[(oh a).1,(oh a).2,mM,mN,mK,kI,eH,lC]
   by_cases h:dr H.ss H.nx H.la H.ro q.who q.num H.now=0
   · rw[if_pos h,if_pos h,if_pos h,h];exact⟨rfl,rfl⟩
   · rw[if_neg h,if_neg h,if_neg h];exact⟨if_neg h,rfl⟩
theorem wP {H:Hb} {q:Rq} (g:ae H=0) (i:aA q.who.data.toList=true) (a:q.kind=5):eI H q=ou H q∧eJ H q=mP H q:=by
 have j:=(kO (f:=q.fo) g i).2;rcases kP g i (by omega) (by omega)with⟨c,d,e2⟩|⟨c,d,e2⟩
 all_goals rw[a]at c;rw[d,e2];simp[Hu.lst]at c
 · omega
 · rw[(oj a).1,(oj a).2,mP]
   refine⟨rfl,?_⟩
   by_cases h:(df H q.who q.num q.off q.text).e=0
   · rw[if_pos h,kI,h]
   · rw[if_neg h,kI,Ek h]
theorem wQ {H:Hb} {q:Rq} (g:ae H=0) (i:aA q.who.data.toList=true) (a:q.kind=6):eI H q=H∧eJ H q=⟨ot H q,mO H q,bt⟩:=by
 have j:=(kO (f:=q.fo) g i).2;rcases kP g i (by omega) (by omega)with⟨c,d,e2⟩|⟨c,d,e2⟩
 all_goals rw[a]at c;rw[d,e2];simp[Hu.lst]at c
 · omega
 · exact⟨(om a).1,(om a).2⟩
theorem wR {H:Hb} {q:Rq} (g:ae H=0) (i:aA q.who.data.toList=true) (a:q.kind=2):eI H q=H∧eJ H q=lE H q:=by
 have j:=(kO (f:=q.fo) g i).2;rcases kP g i (by omega) (by omega)with⟨c,d,e2⟩|⟨c,d,e2⟩
 all_goals rw[a]at c;rw[d,e2];simp[Hu.lst]at c
 · exact⟨rfl,(if_pos (by omega)).symm⟩
 · refine⟨(oe a).1,(oe a).2.trans ?_⟩
   rw[lE,if_neg (by omega)];split
   · rename_i h;rw[h]
   · rename_i h;rw[iQ rfl h]
theorem wS {H:Hb} {q:Rq} (g:ae H=0) (i:aA q.who.data.toList=true) (a:q.kind=8):eI H q=eT H q.fo q.who∧eJ H q=⟨Hu.mkE H q.fo q.who,0,bt⟩:=by
 have j:=(kO (f:=q.fo) g i).2;rcases kP g i (by omega) (by omega)with⟨c,d,e2⟩|⟨c,d,e2⟩
 all_goals rw[a]at c;rw[d,e2];simp[Hu.lst]at c
 · omega
 · exact⟨(on a).1,(on a).2⟩
theorem ow {H:Hb} {q:Rq} (f:ae H=0) (i:aA q.who.data.toList=true) (g:q.kind=1∨q.kind=7):eI H q=kL H q∧eJ H q=kK H q:=by
 have c:Hu.lst q.kind=2:=if_pos g;rcases kP f i (by omega) (by omega)with⟨a,d,e2⟩|⟨a,d,e2⟩
 all_goals rw[c]at a;rw[d,e2,kL,kK]
 · rw[if_pos a,if_pos a];exact⟨rfl,rfl⟩
 · rw[if_neg a,if_neg a];exact⟨rfl,rfl⟩
theorem El (H:Hb) (q:Rq) (v i:Value) (w:World) (z:aX w v H) (x:dd H) (o:bH w i q) (g:cE q) (d:ae H=0) (A: ∀s∈H.fos,(∀e∈s.jo.base,e.path.size≤1048576∧e.text.size≤1048576)∧dm 1048576 s.jo.cos) (C:q.name.size≤1048576∧dV 1048576 q.ch):
    Calls prog 6 #[v,i] w fun e w'=> ∃u a,e= .returned (.tuple #[u,a])∧aX w' u (eI H q)∧bX w' a (eJ H q)∧Below w.heap.size w w':=by
 by_cases j:(q.kind<1∨8<q.kind)∨aA q.who.data.toList=false
 · refine(Ea H q v i w z x o g d j).mono ?_
   have e:cD H.gs q=lD q:=by
    rw[lD];by_cases h:q.kind<1∨8<q.kind
    · rw[if_pos h,nQ h]
    · have E:aU [q.who]=1:=wm (j.resolve_left h)
      rw[if_neg h,qH h (by rw[E];decide),E]
   have ne: ¬cD H.gs q=0:=by rw[e,lD];split<;>decide
   rw[eI,eJ,if_neg ne,if_neg ne,e];exact fun e w' h=>h
 · have f:aA q.who.data.toList=true:=by
    cases h:aA q.who.data.toList with
    |true=>rfl
    |false=>exact absurd (Or.inr h) j
   have B:1≤q.kind∧q.kind≤8:=by
    have: ¬(q.kind<1∨8<q.kind):=fun h=>j (Or.inl h)
    omega
   rcases wE B.1 B.2 with c|c|c|c|c|c|c|c
   · refine(wM H q v i w z x o g d f (Or.inl c) A C).mono ?_
     rw[(ow d f (Or.inl c)).1,(ow d f (Or.inl c)).2];exact fun e w' h=>h
   · refine(Ec H q v i w z x o g d f c A).mono ?_
     rw[(wR d f c).1,(wR d f c).2];exact fun e w' h=>h
   · refine(D6 H q v i w z x o g d f c).mono ?_
     rw[(wN d f c).1,(wN d f c).2];exact fun e w' h=>h
   · refine(D7 H q v i w z x o g d f c).mono ?_
     rw[(wO d f c).1,(wO d f c).2];exact fun e w' h=>h
   · refine(D9 H q v i w z x o g d f c).mono ?_
     rw[(wP d f c).1,(wP d f c).2];exact fun e w' h=>h
   · refine(D8 H q v i w z x o g d f c).mono ?_
     rw[(wQ d f c).1,(wQ d f c).2];exact fun e w' h=>h
   · refine(wM H q v i w z x o g d f (Or.inr c) A C).mono ?_
     rw[(ow d f (Or.inr c)).1,(ow d f (Or.inr c)).2];exact fun e w' h=>h
   · refine(Ej H q v i w z x o g d f c).mono ?_
     rw[(wS d f c).1,(wS d f c).2];exact fun e w' h=>h
theorem rh (w:World) (vs rs:List Value) (T U:TypeId):Cs ((w.alloc (.cells vs.toArray T)).alloc (.cells rs.toArray U)) w.heap.size vs∧Cs ((w.alloc (.cells vs.toArray T)).alloc (.cells rs.toArray U)) (w.heap.size+1) rs∧Below w.heap.size w ((w.alloc (.cells vs.toArray T)).alloc (.cells rs.toArray U)):=by
 have b1:Below w.heap.size w (w.alloc (.cells vs.toArray T)):=ak;have b2:Below (w.alloc (.cells vs.toArray T)).heap.size (w.alloc (.cells vs.toArray T)) ((w.alloc (.cells vs.toArray T)).alloc (.cells rs.toArray U)):=ak;have h:=Cs.new (w.alloc (.cells vs.toArray T)) rs U;rw[show(w.alloc (.cells vs.toArray T)).heap.size=w.heap.size+1 by simp]at h;exact⟨(Cs.new w vs T).below b2,h,an b1 b2⟩
def Hu.s0H (H:Hb) (q:Rq):Hb:=if ae H=0 then eI H q else jy
def Hu.s0A (H:Hb) (q:Rq):An:=if ae H=0 then eJ H q else nS
theorem Em (H:Hb) (q:Rq) (v d:Value) (w:World) (j:aX w v H) (i:dd H) (g:bH w d q) (f:cE q):
    Calls prog 4 #[v,d] w fun e w'=> ∃u a,e= .returned (.tuple #[u,a,ae H])∧aX w' u (Hu.s0H H q)∧bX w' a (Hu.s0A H q)∧Below w.heap.size w w':=by
 by_cases c:ae H=0
 · rw[Hu.s0H,Hu.s0A,if_pos c,if_pos c,c]
   exact DL H q v d w j i g f c
 · rw[Hu.s0H,Hu.s0A,if_neg c,if_neg c]
   exact BT H q v d w j i g c
theorem Eo (H:Hb) (q:Rq) (v vq:Value) (w:World) (hv:aX w v H) (hs:dd H) (hq:bH w vq q) (Fb:cE q) (hu: ∀s∈H.fos,s.na.size≤1048576∧(∀e∈s.jo.base,e.path.size≤1048576∧e.text.size≤1048576)∧dm 1048576 s.jo.cos) (Fa:q.name.size≤1048576∧dV 1048576 q.ch):
    Calls prog 3 #[v,vq] w fun e w'=>e= .returned (.bool true)∧Below w.heap.size w w':=by
 have HV:=hid hv;have HS:=hid hs;have HU:=hid hu;have E6:=hid Fb;have F5:=hid Fa;have HQ:=hid hq;obtain⟨fa,fc,ga,gc,sa,sc,rfl⟩:=hv.shape
 obtain⟨va,rfl,lq⟩:=hq
 obtain⟨qa,qc,rfl,_⟩:=lq
 obtain⟨p,hp⟩: ∃p,p=q:=⟨_,rfl⟩
 obtain⟨kind,who,fo,name,key,text,num,off,base,ch⟩:=q
 simp only at HQ⊢;rw[←hp]at E6 F5 HQ;clear hp hs hu Fb Fa hv;obtain⟨wz,EW⟩: ∃x,x=(w.alloc (.cells #[.slice fa H.fos.length fc,.slice ga H.gs.length gc,.slice sa H.ss.length sc,H.nx,H.la,H.ro,H.now] 28)).alloc (.cells #[kind,who,fo,name,key,text,num,off,base,.slice qa ch.length qc] 31):=⟨_,rfl⟩
 obtain⟨M,N,A⟩:=rh w [.slice fa H.fos.length fc,.slice ga H.gs.length gc,.slice sa H.ss.length sc,H.nx,H.la,H.ro,H.now] [kind,who,fo,name,key,text,num,off,base,.slice qa ch.length qc] 28 31
 rw[show(w.alloc (.cells [.slice fa H.fos.length fc,.slice ga H.gs.length gc,.slice sa H.ss.length sc,.int .i64 H.nx,.int .i64 H.la,.int .i64 H.ro,.int .i64 H.now].toArray 28)).alloc (.cells [.int .i64 kind,.string who,.string fo,.string name,.string key,.string text,.int .i64 num,.int .i64 off,.int .i64 base,.slice qa ch.length qc].toArray 31)=wz from EW.symm]at M N A;have B:=hid M;have j:=hid N;clear M N;have Fj:=j.out.lt;go_enter func3,ntmps3
 go_upto_region 1 with fail;rw[←EW];clear EW;obtain⟨x0,x1,x2,x3,x4,x5,x6⟩:=B.out.c7;obtain⟨y0,y1,y2,y3,y4,y5,y6,y7,y8,y9⟩:=j.out.c10;go_wp2_with fail;refine(Em H p _ _ _ (HV.out.below A) HS.out (HQ.out.below A) E6.out).mono ?_
 rintro e w1 ⟨u1,a1,rfl,E1,Z,Ff⟩;obtain⟨d,EQ⟩: ∃x,x=Hu.s0H H p:=⟨_,rfl⟩
 obtain⟨f,EP⟩: ∃x,x=Hu.s0A H p:=⟨_,rfl⟩
 obtain⟨E,hE⟩: ∃x,x=ae H:=⟨_,rfl⟩
 rw[←EQ]at E1;rw[←EP]at Z;rw[←hE];have F4:=hid EQ;have F3:=hid EP;have HE:=hid hE;clear x0 x1 x2 x3 x4 x5 x6;clear y0 y1 y2 y3 y4 y5 y6 y7 y8 y9;clear EQ EP hE;have F7:=hid E1;have F6:=hid Z;obtain⟨EL,EM,EN,EO,EX,EY,rfl⟩:=E1.shape
 obtain⟨EZ,F1,E9,EK,rfl⟩:=Z.shape
 clear E1 Z;obtain⟨w2,EU⟩: ∃x,x=(w1.alloc (.cells #[.slice EL d.fos.length EM,.slice EN d.gs.length EO,.slice EX d.ss.length EY,d.nx,d.la,d.ro,d.now] 28)).alloc (.cells #[f.err,f.num,f.pg.reset,.slice EZ f.pg.tree.length F1,.slice E9 f.pg.cos.length EK,f.pg.cur,f.pg.more] 38):=⟨_,rfl⟩
 obtain⟨M,N,J⟩:=rh w1 [.slice EL d.fos.length EM,.slice EN d.gs.length EO,.slice EX d.ss.length EY,d.nx,d.la,d.ro,d.now] [f.err,f.num,f.pg.reset,.slice EZ f.pg.tree.length F1,.slice E9 f.pg.cos.length EK,f.pg.cur,f.pg.more] 28 38
 rw[show(w1.alloc (.cells [.slice EL d.fos.length EM,.slice EN d.gs.length EO,.slice EX d.ss.length EY,.int .i64 d.nx,.int .i64 d.la,.int .i64 d.ro,.int .i64 d.now].toArray 28)).alloc (.cells [.int .i64 f.err,.int .i64 f.num,.bool f.pg.reset,.slice EZ f.pg.tree.length F1,.slice E9 f.pg.cos.length EK,.int .i64 f.pg.cur,.bool f.pg.more].toArray 38)=w2 from EU.symm]at M N J;have F8:=hid M;have E8:=hid N;clear M N;go_upto_region 2 with fail;rw[←EU];clear EU;have u:=an Ff J;have x0:=(B.out.below u).cell 0 rfl;have x1:=(B.out.below u).cell 1 rfl;have x2:=(B.out.below u).cell 2 rfl;have x3:=(B.out.below u).cell 3 rfl;have x4:=(B.out.below u).cell 4 rfl;have x5:=(B.out.below u).cell 5 rfl;have x6:=(B.out.below u).cell 6 rfl;go_wp2_with fail;refine(Db H _ _ (HV.out.below (an A u)) HS.out HU.out).mono ?_
 rintro e R ⟨rfl,ER⟩;rw[←HE.out];have Fg:=an u ER;clear x0 x1 x2 x3 x4 x5 x6;obtain⟨w4,EV⟩: ∃x,x=(R.alloc (.cells  cy  28)).alloc (.cells  bC  38):=⟨_,rfl⟩
 obtain⟨M,N,ES⟩:=rh R  cy   bC  28 38
 rw[show(R.alloc (.cells [.slice none 0 0,.slice none 0 0,.slice none 0 0,.int .i64 0,.int .i64 0,.int .i64 0,.int .i64 0].toArray 28)).alloc (.cells [.int .i64 0,.int .i64 0,.bool false,.slice none 0 0,.slice none 0 0,.int .i64 0,.bool false].toArray 38)=w4 from EV.symm]at M N ES;have F9:=hid M;have K:=hid N;clear M N;go_upto_region 4 with fail;rw[←EV];clear EV;have g:=an Fg ES;have o:=an ER ES;have Fh:=K.out.lt;have s3:=ER.size;have s1:=u.size;have Fi:=E8.out.lt;by_cases Y:E=0
 · subst Y
   have x0:=(B.out.below g).cell 0 rfl;have x1:=(B.out.below g).cell 1 rfl;have x2:=(B.out.below g).cell 2 rfl;have x3:=(B.out.below g).cell 3 rfl;have x4:=(B.out.below g).cell 4 rfl;have x5:=(B.out.below g).cell 5 rfl;have x6:=(B.out.below g).cell 6 rfl;have y0:=(j.out.below g).cell 0 rfl;have y1:=(j.out.below g).cell 1 rfl;have y2:=(j.out.below g).cell 2 rfl;have y3:=(j.out.below g).cell 3 rfl;have y4:=(j.out.below g).cell 4 rfl;have y5:=(j.out.below g).cell 5 rfl;have y6:=(j.out.below g).cell 6 rfl;have y7:=(j.out.below g).cell 7 rfl;have y8:=(j.out.below g).cell 8 rfl;have y9:=(j.out.below g).cell 9 rfl;go_wp2_with fail;refine(El H p _ _ _ (HV.out.below (an A g)) HS.out (HQ.out.below (an A g)) E6.out HE.out.symm (fun s hs=>(HU.out s hs).2) F5.out).mono ?_
   rintro e w5 ⟨u2,a2,rfl,E2,E0,P⟩;rw[show eI H p=d from by rw[F4.out,Hu.s0H,if_pos HE.out.symm]]at E2;rw[show eJ H p=f from by rw[F3.out,Hu.s0A,if_pos HE.out.symm]]at E0;have Fe:=hid E2;have Fc:=hid E0;obtain⟨T,U,V,X,E3,E4,rfl⟩:=E2.shape
   obtain⟨F0,F2,EJ,cc2,rfl⟩:=E0.shape
   clear E2 E0;clear x0 x1 x2 x3 x4 x5 x6;clear y0 y1 y2 y3 y4 y5 y6 y7 y8 y9;have S:=hid (F9.out.below P);have I:=hid (K.out.below P);obtain⟨z0,z1,z2,z3,z4,z5,z6⟩:=S.out.c7;obtain⟨y0,y1,y2,y3,y4,y5,y6⟩:=I.out.c7;obtain⟨g0,g1,g2,g3,g4,g5,g6⟩:=S.out.f7;obtain⟨f0,f1,f2,f3,f4,f5,f6⟩:=I.out.f7;go_upto_region 6 with fail;obtain⟨w6,Q⟩: ∃x,x=(W7 (W7 w5 (R.heap.size) (.slice T d.fos.length U) (.slice V d.gs.length X) (.slice E3 d.ss.length E4) d.nx (.int .i64 d.la) d.ro (.int .i64 d.now)) ((R.heap.size+1)) f.err (.int .i64 f.num) f.pg.reset (.slice F0 f.pg.tree.length F2) (.slice EJ f.pg.cos.length cc2) f.pg.cur (.bool f.pg.more)):=⟨_,rfl⟩
   have E5:=Q;dsimp only[W7]at Q;rw[←Q];have k1:=g7 w5 R.heap.size (.slice T d.fos.length U) (.slice V d.gs.length X) (.slice E3 d.ss.length E4) d.nx (.int .i64 d.la) d.ro (.int .i64 d.now);have k2:=g7 (W7 w5 (R.heap.size) (.slice T d.fos.length U) (.slice V d.gs.length X) (.slice E3 d.ss.length E4) d.nx (.int .i64 d.la) d.ro (.int .i64 d.now)) (R.heap.size+1) f.err (.int .i64 f.num) f.pg.reset (.slice F0 f.pg.tree.length F2) (.slice EJ f.pg.cos.length cc2) f.pg.cur (.bool f.pg.more);rw[←E5]at k2;have n1:=S.out.noStr (by simp);have n2:=(I.out.nb k1 (by omega)).noStr (by simp);have G:=hid (show Cs w6 R.heap.size [.slice T d.fos.length U,.slice V d.gs.length X,.slice E3 d.ss.length E4,d.nx,d.la,d.ro,d.now]from((((((((S.out.set 0 _).set 1 _).set 2 _).set 3 _).set 4 _).set 5 _).set 6 _).nb k2 (by omega)));have i:=hid (show Cs w6 (R.heap.size+1) [f.err,f.num,f.pg.reset,.slice F0 f.pg.tree.length F2,.slice EJ f.pg.cos.length cc2,f.pg.cur,f.pg.more]from by rw[Q];exact(((((((I.out.nb k1 (by omega)).set 0 _).set 1 _).set 2 _).set 3 _).set 4 _).set 5 _).set 6 _);have L9:=hid ((Fe.out.nb k1 n1).nb k2 n2);have E7:=hid ((Fc.out.nb k1 n1).nb k2 n2);have z:Below w2.heap.size w2 w6:=((an o P).grown k1 (an o P).size (fun k hk=>by injection hk with hk;omega)).grown k2 (by have:=k1.size;have:=(an o P).size;omega) (fun k hk=>by injection hk with hk;omega);have C:=hid (F8.out.below z);have F:=hid (E8.out.below z);have L5:=hid (F7.out.below (an J z));have L6:=hid (F6.out.below (an J z));have O:=an A (an u z);clear Q E5 k1 k2 n1 n2 z0 y0 g0 f0 z1 y1 g1 f1 z2 y2 g2 f2 z3 y3 g3 f3 z4 y4 g4 f4 z5 y5 g5 f5 z6 y6 g6 f6;go_wp2_with fail;refine(wC _).mono ?_
   rintro e wp ⟨rfl,c⟩;have a0:=(F.out.below c).cell 0 rfl;have b0:=(i.out.below c).cell 0 rfl;have a1:=(F.out.below c).cell 1 rfl;have b1:=(i.out.below c).cell 1 rfl;have a2:=(F.out.below c).cell 2 rfl;have b2:=(i.out.below c).cell 2 rfl;have a3:=(F.out.below c).cell 3 rfl;have b3:=(i.out.below c).cell 3 rfl;have a4:=(F.out.below c).cell 4 rfl;have b4:=(i.out.below c).cell 4 rfl;have a5:=(F.out.below c).cell 5 rfl;have b5:=(i.out.below c).cell 5 rfl;have a6:=(F.out.below c).cell 6 rfl;have b6:=(i.out.below c).cell 6 rfl;go_wp2_with fail;refine(vW f _ _ _ (L6.out.below c) (E7.out.below c)).mono ?_
   rintro e wq ⟨rfl,ET⟩;have a:=an c ET;clear a0 b0 a1 b1 a2 b2 a3 b3 a4 b4 a5 b5 a6 b6;have a0:=(C.out.below a).cell 0 rfl;have b0:=(G.out.below a).cell 0 rfl;have a1:=(C.out.below a).cell 1 rfl;have b1:=(G.out.below a).cell 1 rfl;have a2:=(C.out.below a).cell 2 rfl;have b2:=(G.out.below a).cell 2 rfl;have a3:=(C.out.below a).cell 3 rfl;have b3:=(G.out.below a).cell 3 rfl;have a4:=(C.out.below a).cell 4 rfl;have b4:=(G.out.below a).cell 4 rfl;have a5:=(C.out.below a).cell 5 rfl;have b5:=(G.out.below a).cell 5 rfl;have a6:=(C.out.below a).cell 6 rfl;have b6:=(G.out.below a).cell 6 rfl;go_wp2_with fail;refine(vX d _ _ _ (L5.out.below a) (L9.out.below a)).mono ?_
   rintro e wr ⟨rfl,hbr⟩;go_wp2;go_ret;exact⟨rfl,an O (an a hbr)⟩
 · have hz:(E==0)=false:=by simpa using Y
   obtain rfl:d=jy:=by rw[F4.out,Hu.s0H,if_neg (by rw[←HE.out];exact Y)]
   obtain rfl:f=nS:=by rw[F3.out,Hu.s0A,if_neg (by rw[←HE.out];exact Y)]
   have G:=F9;have i:=K;have L9:=hid (qR w4);have E7:=hid (iy w4 0 0);have C:=hid (F8.out.below o);have F:=hid (E8.out.below o);have L5:=hid (F7.out.below (an J o));have L6:=hid (F6.out.below (an J o));have O:=an A g;go_wp2_with fail;refine(wC _).mono ?_
   rintro e wp ⟨rfl,c⟩;have a0:=(F.out.below c).cell 0 rfl;have b0:=(i.out.below c).cell 0 rfl;have a1:=(F.out.below c).cell 1 rfl;have b1:=(i.out.below c).cell 1 rfl;have a2:=(F.out.below c).cell 2 rfl;have b2:=(i.out.below c).cell 2 rfl;have a3:=(F.out.below c).cell 3 rfl;have b3:=(i.out.below c).cell 3 rfl;have a4:=(F.out.below c).cell 4 rfl;have b4:=(i.out.below c).cell 4 rfl;have a5:=(F.out.below c).cell 5 rfl;have b5:=(i.out.below c).cell 5 rfl;have a6:=(F.out.below c).cell 6 rfl;have b6:=(i.out.below c).cell 6 rfl;go_wp2_with fail;refine(vW nS _ _ _ (L6.out.below c) (E7.out.below c)).mono ?_
   rintro e wq ⟨rfl,ET⟩;have a:=an c ET;clear a0 b0 a1 b1 a2 b2 a3 b3 a4 b4 a5 b5 a6 b6;have a0:=(C.out.below a).cell 0 rfl;have b0:=(G.out.below a).cell 0 rfl;have a1:=(C.out.below a).cell 1 rfl;have b1:=(G.out.below a).cell 1 rfl;have a2:=(C.out.below a).cell 2 rfl;have b2:=(G.out.below a).cell 2 rfl;have a3:=(C.out.below a).cell 3 rfl;have b3:=(G.out.below a).cell 3 rfl;have a4:=(C.out.below a).cell 4 rfl;have b4:=(G.out.below a).cell 4 rfl;have a5:=(C.out.below a).cell 5 rfl;have b5:=(G.out.below a).cell 5 rfl;have a6:=(C.out.below a).cell 6 rfl;have b6:=(G.out.below a).cell 6 rfl;go_wp2_with fail;refine(vX jy _ _ _ (L5.out.below a) (L9.out.below a)).mono ?_
   rintro e wr ⟨rfl,hbr⟩;go_wp2;go_ret;exact⟨rfl,an O (an a hbr)⟩
end Go.Proofs.YtdlpjlfefjipkaaGreat
