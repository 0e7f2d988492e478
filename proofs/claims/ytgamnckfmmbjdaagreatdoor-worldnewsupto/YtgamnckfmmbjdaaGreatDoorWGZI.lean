/- What own.World answers: a world in memory of its own. -/
import Derived.Test.YtgamnckfmmbjdaaGreatDoorWGZD
import Derived.Deep.Onto
set_option linter.unusedSimpArgs false
set_option linter.unusedVariables false
namespace Go.Proofs.YtgamnckfmmbjdaaGreatDoor
open Go.RowKit Go.Proofs.Tryz
set_option maxHeartbeats 8000000
set_option maxRecDepth 100000
theorem zi {w w':World} (h:Below w.heap.size w w') (b i:Nat) (u:Value):Below (w.setCell ⟨b,i,none⟩ u).heap.size (w.setCell ⟨b,i,none⟩ u) (w'.setCell ⟨b,i,none⟩ u):=by
 have e:(w.setCell ⟨b,i,none⟩ u).heap.size=w.heap.size:=by simp
 rw[e];refine⟨h.os,h.tape,h.output,by simpa using h.size,fun k a=>?_⟩
 unfold World.setCell;simp only[Array.getElem?_modify];rw[h.block k a]
theorem ib {B g x:Nat} {w:World} {v:Value} (h:aw B w v) (a:v.ownBlock=some g):w.frozen? ⟨g,x,none⟩=false:=by
 obtain⟨_,cur,T,d⟩:=h g a
 simp[World.frozen?,d]
theorem zj (W:Wd) (v:Value) (w:World) (hv:di w v W) (h8:W.hb.fos.length≤1000) (hj: ∀s∈W.hb.fos,s.jo.cos.length≤1000∧s.jo.base.length≤1000∧ ∀c∈s.jo.cos,c.ch.length≤1000000000) (Dx:W.hb.gs.length≤1000) (DA:W.hb.ss.length≤1000) (E4:W.cls.length≤1000) (D6: ∀c∈W.cls,c.base.length≤1000000∧c.mine.length≤1000000∧c.ask.length≤1000000) (E8:W.les.length≤1000):
    Calls prog 21 #[v] w fun e w'=> ∃u,e= .returned u∧dJ w.heap.size w' u W∧(kH v= .slice none 0 0→kH u= .slice none 0 0)∧Below w.heap.size w w':=by
 obtain⟨H,l,m⟩:=W
 simp only at h8 hj Dx DA E4 D6 E8⊢;obtain⟨vf,vg,ag,vc,vl,rfl,⟨lf,lg,aG⟩,lc,ll⟩:=hv
 simp only at lf lg aG lc ll⊢;have DQ:=hid (show cp w (.agg #[vf,vg,ag,.int .i64 H.nx,.int .i64 H.la,.int .i64 H.ro,.int .i64 H.now]) H from⟨vf,vg,ag,rfl,lf,lg,aG⟩);obtain⟨Q,CF,Dz⟩:=yY lc
 have De:=hid CF;have DV:=hid Dz;have Dy:=CF.1;have Db:=gL Dy;have DR:=hid (iF.1 ll);have HJ:=hid hj;have DM:=hid D6;obtain⟨fa,fc,rfl,_⟩:=lf
 obtain⟨ga,gc,rfl,_⟩:=lg
 obtain⟨sa,sc,rfl,_⟩:=aG
 obtain⟨xa,xc,rfl⟩:=lc.shape
 obtain⟨ya,yc,rfl⟩:=ll.shape
 clear hj D6 CF Dz lc ll;obtain⟨wz,CJ⟩: ∃wz,wz=(w.alloc (.cells #[.slice fa H.fos.length fc,.slice ga H.gs.length gc,.slice sa H.ss.length sc,.int .i64 H.nx,.int .i64 H.la,.int .i64 H.ro,.int .i64 H.now,.slice xa l.length xc,.slice ya m.length yc] 32)).alloc (.cells #[.slice none 0 0,.slice none 0 0,.slice none 0 0,.int .i64 0,.int .i64 0,.int .i64 0,.int .i64 0,.slice none 0 0,.slice none 0 0] 32):=⟨_,rfl⟩
 have Dw:Below w.heap.size w wz:=by rw[CJ];exact((Below.refl _ _).alloc (Nat.le_refl _) _).alloc (by simp) _
 have HX:=hid (show Cs wz w.heap.size [.slice fa H.fos.length fc,.slice ga H.gs.length gc,.slice sa H.ss.length sc,.int .i64 H.nx,.int .i64 H.la,.int .i64 H.ro,.int .i64 H.now,.slice xa l.length xc,.slice ya m.length yc]from by rw[CJ];exact(Cs.new w [.slice fa H.fos.length fc,.slice ga H.gs.length gc,.slice sa H.ss.length sc,.int .i64 H.nx,.int .i64 H.la,.int .i64 H.ro,.int .i64 H.now,.slice xa l.length xc,.slice ya m.length yc] _).below ((Below.refl _ _).alloc (Nat.le_refl _) _))
 have HY:=hid (show Cs wz (w.heap.size+1) [.slice none 0 0,.slice none 0 0,.slice none 0 0,.int .i64 0,.int .i64 0,.int .i64 0,.int .i64 0,.slice none 0 0,.slice none 0 0]from by
  have:=Cs.new (w.alloc (.cells #[.slice fa H.fos.length fc,.slice ga H.gs.length gc,.slice sa H.ss.length sc,.int .i64 H.nx,.int .i64 H.la,.int .i64 H.ro,.int .i64 H.now,.slice xa l.length xc,.slice ya m.length yc] 32)) [.slice none 0 0,.slice none 0 0,.slice none 0 0,.int .i64 0,.int .i64 0,.int .i64 0,.int .i64 0,.slice none 0 0,.slice none 0 0] 32
  rw[CJ];simpa using this)
 have Dn:=hid CJ.symm;have Em:w.heap.size+1<wz.heap.size:=HY.out.lt;clear CJ;go_enter func21,ntmps21
 go_upto_region 1 with fail;rw[Dn.out];clear Dn;have p0:=HX.out.cell 0 rfl;have p1:=HX.out.cell 1 rfl;have p2:=HX.out.cell 2 rfl;have p3:=HX.out.cell 3 rfl;have p4:=HX.out.cell 4 rfl;have p5:=HX.out.cell 5 rfl;have p6:=HX.out.cell 6 rfl;go_wp2_with fail;refine(rN H _ wz (DQ.out.below Dw) h8 HJ.out Dx DA).mono ?_
 rintro e w1 ⟨uf,ug,us,rfl,D4,⟨D9,CO⟩,⟨Da,CP⟩,_,_,CR⟩
 obtain⟨fb,fd,E5⟩: ∃a c,uf= .slice a H.fos.length c:=by
  obtain⟨Et,h1,⟨a,c,e,_⟩,_⟩:=D4
  rw[ff h1.1]at e;exact⟨a,c,e⟩
 subst E5;obtain⟨X,Y,rfl,_⟩:=id D9
 obtain⟨sb,sd,rfl,_⟩:=id Da
 have f:=hid (HX.out.below CR);have DY:=hid (HY.out.below CR);have Dq:=af Dw CR;have bD:=f.out.cell 0 rfl;have q1:=f.out.cell 1 rfl;have bP:=f.out.cell 2 rfl;have q3:=f.out.cell 3 rfl;have q4:=f.out.cell 4 rfl;have q5:=f.out.cell 5 rfl;have q6:=f.out.cell 6 rfl;have f0:=f.out.fr 0;have f1:=f.out.fr 1;have f2:=f.out.fr 2;have f3:=f.out.fr 3;have f4:=f.out.fr 4;have f5:=f.out.fr 5;have f6:=f.out.fr 6;obtain⟨N,CT⟩: ∃N,N=(((((((w1.setCell ⟨w.heap.size,0,none⟩ (.slice fb H.fos.length fd)).setCell ⟨w.heap.size,1,none⟩ (.slice X H.gs.length Y)).setCell ⟨w.heap.size,2,none⟩ (.slice sb H.ss.length sd)).setCell ⟨w.heap.size,3,none⟩ (.int .i64 H.nx)).setCell ⟨w.heap.size,4,none⟩ (.int .i64 H.la)).setCell ⟨w.heap.size,5,none⟩ (.int .i64 H.ro)).setCell ⟨w.heap.size,6,none⟩ (.int .i64 H.now)):=⟨_,rfl⟩
 have M:=zf f.out (.slice fb H.fos.length fd) (.slice X H.gs.length Y) (.slice sb H.ss.length sd) (.int .i64 H.nx) (.int .i64 H.la) (.int .i64 H.ro) (.int .i64 H.now);rw[←CT]at M;have CC:=hid M.1;have P:=M.2;have Do:=hid (DY.out.nb P (by omega));have Df:=hid (D4.nbo P (by omega));have C6:=hid (show bt N (.slice X H.gs.length Y) H.gs∧aw wz.heap.size N (.slice X H.gs.length Y)from⟨dv.2 ((dv.1 D9).nbo P (bh CO (by omega))),CO.nb P (bh CO (by omega))⟩);have C9:=hid (show bR N (.slice sb H.ss.length sd) H.ss∧aw wz.heap.size N (.slice sb H.ss.length sd)from⟨dG.2 ((dG.1 Da).nbo P (bh CP (by omega))),CP.nb P (bh CP (by omega))⟩);have CW:Below w.heap.size w N:=by rw[CT];exact kU (b:=w.heap.size) Dq (Nat.le_refl _)
 have Ec:=P.size;clear M D4 D9 CO Da CP p0 p1 p2 p3 p4 p5 p6;go_upto_region 2 with fail;rw[←CT];clear CT bD q1 bP q3 q4 q5 q6 f0 f1 f2 f3 f4 f5 f6;have p7:=CC.out.cell 7 rfl;go_wp2_with fail;refine(zd (cL l Q) _ _ (by have:=DV.out.below CW;simpa[Db]using this) (by rw[Db];omega)).mono ?_
 rintro e w3 ⟨u3,rfl,CQ,Z,CS⟩;obtain⟨xb,T,rfl,_⟩:=id CQ
 rw[Db]at CQ Z⊢
 obtain⟨bb,Du,Eh⟩: ∃bb,(∀x,(Value.slice xb l.length T).ownBlock=some x→x=bb)∧N.heap.size≤bb:=by
  cases h:(Value.slice xb l.length T).ownBlock with
  |none=>exact⟨N.heap.size,fun x hx=>(by cases hx),Nat.le_refl _⟩
  |some y=>exact⟨y,fun x hx=>(by injection hx with hx;exact hx.symm),(Z y h).1⟩
 have DI:=hid Du;obtain⟨A,C5⟩: ∃W,W=N.setCell ⟨w.heap.size,7,none⟩ (.slice xb l.length T):=⟨_,rfl⟩
 have S:N.grownBy A (some w.heap.size):=by rw[C5];exact au _ _ _ _
 have El:A.heap.size=N.heap.size:=by rw[C5];simp
 have CD:Hid (Cs A w.heap.size [.slice fb H.fos.length fd,.slice X H.gs.length Y,.slice sb H.ss.length sd,.int .i64 H.nx,.int .i64 H.la,.int .i64 H.ro,.int .i64 H.now,.slice xb l.length T,.slice ya m.length yc]):=(by rw[C5];exact CC.out.set 7 _:Cs A w.heap.size _)
 have DZ:=hid (Do.out.nb S (by omega));have DO:=hid (Df.out.nbo S (by omega));have CK:=hid (show bt A (.slice X H.gs.length Y) H.gs∧aw wz.heap.size A (.slice X H.gs.length Y)from⟨dv.2 ((dv.1 C6.out.1).nbo S (bh C6.out.2 (by omega))),C6.out.2.nb S (bh C6.out.2 (by omega))⟩);have CM:=hid (show bR A (.slice sb H.ss.length sd) H.ss∧aw wz.heap.size A (.slice sb H.ss.length sd)from⟨dG.2 ((dG.1 C9.out.1).nbo S (bh C9.out.2 (by omega))),C9.out.2.nb S (bh C9.out.2 (by omega))⟩);have CX:Below w.heap.size w A:=by rw[C5];exact CW.setCell (p:=⟨w.heap.size,7,none⟩) (Nat.le_refl _) _
 obtain⟨w4,CU⟩: ∃W,W=w3.setCell ⟨w.heap.size,7,none⟩ (.slice xb l.length T):=⟨_,rfl⟩
 have Dd:Below A.heap.size A w4:=by rw[CU,C5];exact zi CS _ _ _
 have D7:w3.grownBy w4 (some w.heap.size):=by rw[CU];exact au _ _ _ _
 have Ej:w.heap.size+1<N.heap.size:=by have:=CR.size;omega
 have Dl:=hid (CQ.nbo D7 (bh Z (by omega)));have Dk:=hid (Z.nb D7 (bh Z (by omega)));have q7:=(CC.out.below CS).cell 7 rfl;have f7:=(CC.out.below CS).fr 7;clear CQ Z Du S C5 CC Do Df C6 C9 D7 CS P p7;go_upto_region 3 with fail;rw[←CU];clear CU q7 f7;have p7:=(CD.out.below Dd).cell 7 rfl;go_wp2_with fail;go_loopw [15] (fun i wr=> ∃(k:Nat) (us:List cU),k≤l.length∧i= .int .i64 k∧Hid (aJ 8 wr (.slice xb l.length T) (cL l us))∧Hid (aw N.heap.size wr (.slice xb l.length T))∧Hid (eR (bb+1) wr l Q us k)∧Below A.heap.size A wr) (fun i _=>l.length-(intOf i).toNat)
 case atStart=>exact⟨0,Q,Nat.zero_le _,rfl,Dl,Dk,eR.zero Dy,Dd⟩
 case round=>
  obtain⟨k,us,hk,rfl,C8,HOr,V,E⟩:=hrel
  clear p7 Dl Dk Dd;have U:=af CX E;by_cases C4:k<l.length
  · have Dc:=V.out.1
    have D8:k<(cL l us).length:=by rw[gL Dc];exact C4
    have CG:=kG Dc C4;rw[List.getElem?_eq_getElem D8]at CG;replace CG:=Option.some.inj CG;obtain⟨a',Eb,E9,_,_,_,Dp⟩:=id C8.out
    injection E9 with ay e2 e3
    subst ay;clear e2 e3;obtain⟨b,o,E7,hb,he⟩:=Dp k D8
    subst E7;rw[CG]at he
    have DB:us[k]'(by omega)=Q[k]'(by omega):=by
     have:=V.out.2.2 k (Nat.le_refl _)
     rw[List.getElem?_eq_getElem (by omega),List.getElem?_eq_getElem (by omega)]at this;exact Option.some.inj this
    rw[DB]at he;have c0:=he 0 _ rfl;have c1:=he 1 _ rfl;have c2:=he 2 _ rfl;have c3:=he 3 _ rfl;have c4:=he 4 _ rfl;have c5:=he 5 _ rfl;have c6:=he 6 _ rfl;have c7:=he 7 _ rfl;obtain⟨k1,k2,k3⟩:=De.out.2 k l[k] (Q[k]'(by omega)) (List.getElem?_eq_getElem C4) (List.getElem?_eq_getElem (by omega))
    have Dg:=hid (k1.below U);have Dh:=hid (k2.below U);have Di:=hid (k3.below U);have CY:=hid (DM.out l[k] (List.getElem_mem C4));obtain rfl:b=bb:=DI.out b rfl;have Eg:N.heap.size≤b:=(HOr.out b rfl).1;have fr:=fun x=>ib HOr.out (x:=x) rfl
    have f0:=fr (o+k*8);have f1:=fr (o+k*8+1);have f2:=fr (o+k*8+2);have f3:=fr (o+k*8+3);have f4:=fr (o+k*8+4);have f5:=fr (o+k*8+5);have f6:=fr (o+k*8+6);have f7:=fr (o+k*8+7);have Dm:Hid (∀(W:World) (y:cU),aJ 8 W (.slice (some ⟨b,o,none⟩) l.length T) (cL l us)→y.1.oneCell'=true→y.2.1.oneCell'=true→y.2.2.oneCell'=true→aJ 8 (rW W b (o+k*8) (.string l[k].who) (.string l[k].fo) y.1 (.int .i64 l[k].cur) y.2.1 (.string l[k].key) y.2.2 (.int .i64 l[k].keys)) (.slice (some ⟨b,o,none⟩) l.length T) (cL l (us.set k y))):=fun W y h h1 h2 h3=>zg h Dc rfl C4 h1 h2 h3
    have Dj:Hid (∀(W W':World) (y:cU),eR (b+1) W l Q us k→W.grownBy W' (some b)→((aj W y.1 l[k].base∧aw (b+1) W y.1)∧(aj W y.2.1 l[k].mine∧aw (b+1) W y.2.1)∧bk W y.2.2 l[k].ask∧aw (b+1) W y.2.2)→eR (b+1) W' l Q (us.set k y) (k+1)):=fun W W' y h hg h1=>h.next C4 hg (Nat.lt_succ_self _) h1
    clear CG Dp he DB D8 k1 k2 k3 fr;generalize l[k]=cl at*;generalize Q[k]'(by omega)=u0 at*;obtain⟨who,fo,base,cur,mine,key,ask,keys⟩:=cl
    obtain⟨u1,u2,u3⟩:=u0
    simp only[dI]at c0 c1 c2 c3 c4 c5 c6 c7;rw[Nat.add_zero]at c0;obtain⟨Ee,Ef,rfl,_⟩:=id Dg.out
    obtain⟨Eo,Ep,rfl,_⟩:=id Dh.out
    obtain⟨Er,Es,rfl,_⟩:=id Di.out
    have p7:=(CD.out.below E).cell 7 rfl;have Ea:=(CD.out.below E).lt;go_wp2_with fail
    go_region_with (
     go_at_call 51;refine(qC ⟨who,fo,base,cur,mine,key,ask,keys⟩ _ _ ⟨_,_,_,rfl,Dg.out.below (Below.refl _ _).drew,Dh.out.below (Below.refl _ _).drew,Di.out.below (Below.refl _ _).drew⟩ CY.out.1 CY.out.2.1 CY.out.2.2).mono ?_;rintro e O ⟨y,rfl,E0,E3⟩;have z:Below wr.heap.size wr O:=((Below.refl _ _).drew).trans E3;obtain⟨ye,yn,yq,rfl,⟨DC,DF⟩,⟨DD,DG⟩,DE,DH⟩:=E0;have DS:=hid (show(aj O ye base∧aw (b+1) O ye)∧(aj O yn mine∧aw (b+1) O yn)∧bk O yq ask∧aw (b+1) O yq from⟨⟨DC,DF.mono (by show b+1≤wr.heap.size;omega)⟩,⟨DD,DG.mono (by show b+1≤wr.heap.size;omega)⟩,DE,DH.mono (by show b+1≤wr.heap.size;omega)⟩);obtain⟨ea,ec,rfl,_⟩:=DC;obtain⟨na,nc,rfl,_⟩:=DD;obtain⟨qa,qc,rfl,_⟩:=DE;clear DF DG DH;have F:=hid (HOr.out.below z);have g0:O.frozen? ⟨b,o+k*8,none⟩=false:=ib F.out rfl;have g1:O.frozen? ⟨b,o+k*8+1,none⟩=false:=ib F.out rfl;have g2:O.frozen? ⟨b,o+k*8+2,none⟩=false:=ib F.out rfl;have g3:O.frozen? ⟨b,o+k*8+3,none⟩=false:=ib F.out rfl;have g4:O.frozen? ⟨b,o+k*8+4,none⟩=false:=ib F.out rfl;have g5:O.frozen? ⟨b,o+k*8+5,none⟩=false:=ib F.out rfl;have g6:O.frozen? ⟨b,o+k*8+6,none⟩=false:=ib F.out rfl;have g7:O.frozen? ⟨b,o+k*8+7,none⟩=false:=ib F.out rfl;have j7:=(z.cell (p:=⟨w.heap.size,7,none⟩) Ea).trans p7;have j0:=(z.cell (p:=⟨b,o+k*8,none⟩) hb).trans c0;have j1:=(z.cell (p:=⟨b,o+k*8+1,none⟩) hb).trans c1;have j2:=(z.cell (p:=⟨b,o+k*8+2,none⟩) hb).trans c2;have j3:=(z.cell (p:=⟨b,o+k*8+3,none⟩) hb).trans c3;have j4:=(z.cell (p:=⟨b,o+k*8+4,none⟩) hb).trans c4;have j5:=(z.cell (p:=⟨b,o+k*8+5,none⟩) hb).trans c5;have j6:=(z.cell (p:=⟨b,o+k*8+6,none⟩) hb).trans c6;have j8:=(z.cell (p:=⟨b,o+k*8+7,none⟩) hb).trans c7)
    all_goals
     obtain⟨w5,CH⟩: ∃W,W=((((((((O.setCell ⟨b,o+k*8,none⟩ (.string who)).setCell ⟨b,o+k*8+1,none⟩ (.string fo)).setCell ⟨b,o+k*8+2,none⟩ (.slice ea base.length ec)).setCell ⟨b,o+k*8+3,none⟩ (.int .i64 cur)).setCell ⟨b,o+k*8+4,none⟩ (.slice na mine.length nc)).setCell ⟨b,o+k*8+5,none⟩ (.string key)).setCell ⟨b,o+k*8+6,none⟩ (.slice qa ask.length qc)).setCell ⟨b,o+k*8+7,none⟩ (.int .i64 keys)):=⟨_,rfl⟩
     have E6:O.grownBy w5 (some b):=by rw[CH];exact(aN (aN (aN (aN (aN (aN (aN (au _ _ _ _) (au _ _ _ _)) (au _ _ _ _)) (au _ _ _ _)) (au _ _ _ _)) (au _ _ _ _)) (au _ _ _ _)) (au _ _ _ _))
     have DW:=hid (show aJ 8 w5 (.slice (some ⟨b,o,none⟩) l.length T) (cL l (us.set k (.slice ea base.length ec,.slice na mine.length nc,.slice qa ask.length qc))) by rw[CH];exact Dm.out O (.slice ea base.length ec,.slice na mine.length nc,.slice qa ask.length qc) (C8.out.below z) rfl rfl rfl);have DJ:=hid (Dj.out O w5 (.slice ea base.length ec,.slice na mine.length nc,.slice qa ask.length qc) (V.out.below z) E6 DS.out);have DU:=hid (show aw N.heap.size w5 (.slice (some ⟨b,o,none⟩) l.length T) by rw[CH];exact((((((((F.out.setCell _ _ _).setCell _ _ _).setCell _ _ _).setCell _ _ _).setCell _ _ _).setCell _ _ _).setCell _ _ _).setCell _ _ _));have Dv:Below A.heap.size A w5:=by rw[CH];exact(((((((((af E z).setCell (p:=⟨b,o+k*8,none⟩) (by show A.heap.size≤b;omega) _).setCell (p:=⟨b,o+k*8+1,none⟩) (by show A.heap.size≤b;omega) _).setCell (p:=⟨b,o+k*8+2,none⟩) (by show A.heap.size≤b;omega) _).setCell (p:=⟨b,o+k*8+3,none⟩) (by show A.heap.size≤b;omega) _).setCell (p:=⟨b,o+k*8+4,none⟩) (by show A.heap.size≤b;omega) _).setCell (p:=⟨b,o+k*8+5,none⟩) (by show A.heap.size≤b;omega) _).setCell (p:=⟨b,o+k*8+6,none⟩) (by show A.heap.size≤b;omega) _).setCell (p:=⟨b,o+k*8+7,none⟩) (by show A.heap.size≤b;omega) _)
     clear Dm Dj C8 V HOr F;go_wp2_with fail;rw[←CH];go_roundw
     case rel=>exact⟨k+1,_,by omega,by simp,DW,DU,DJ,Dv⟩
     case measure=>simp[intOf];omega
  · obtain rfl:k=l.length:=by omega
    have DN:=hid (V.out.own C8.out HOr.out (by omega));have p8:=(CD.out.below E).cell 8 rfl;clear C8 HOr V;go_wp2_with fail;refine(ze (m.map dV) _ _ (by have:=DR.out.below U;simpa using this) (by rw[List.length_map];omega)).mono ?_
    rintro e w6 ⟨u6,rfl,CE,C3,D5,D3,Dt⟩;obtain⟨yb,yd,rfl,_⟩:=id CE
    rw[List.length_map]at CE C3 D5 D3⊢;have DT:=hid D3;have j:=af E Dt;have Ed:=hid (iF.2 CE);have CZ:=hid (CD.out.below j);have DK:=hid (DN.out.below Dt);have Ek:N.heap.size≤w6.heap.size:=by have:=j.size;omega
    have Ei:A.heap.size≤_:=E.size;obtain⟨w7,CI⟩: ∃W,W=w6.setCell ⟨w.heap.size,8,none⟩ (.slice yb m.length yd):=⟨_,rfl⟩
    have G:w6.grownBy w7 (some w.heap.size):=by rw[CI];exact au _ _ _ _
    have I:Hid (Cs w7 w.heap.size [.slice fb H.fos.length fd,.slice X H.gs.length Y,.slice sb H.ss.length sd,.int .i64 H.nx,.int .i64 H.la,.int .i64 H.ro,.int .i64 H.now,.slice xb l.length T,.slice yb m.length yd]):=(by rw[CI];exact CZ.out.set 8 _:Cs w7 w.heap.size _)
    have d:=hid ((DZ.out.below j).nb G (by omega));have DP:=hid ((DO.out.below j).nbo G (by omega));have CL:=hid (show bt w7 (.slice X H.gs.length Y) H.gs∧aw wz.heap.size w7 (.slice X H.gs.length Y)from⟨dv.2 ((dv.1 (CK.out.1.below j)).nbo G (bh (CK.out.2.below j) (by omega))),(CK.out.2.below j).nb G (bh (CK.out.2.below j) (by omega))⟩);have CN:=hid (show bR w7 (.slice sb H.ss.length sd) H.ss∧aw wz.heap.size w7 (.slice sb H.ss.length sd)from⟨dG.2 ((dG.1 (CM.out.1.below j)).nbo G (bh (CM.out.2.below j) (by omega))),(CM.out.2.below j).nb G (bh (CM.out.2.below j) (by omega))⟩);have DL:=hid (DK.out.nbo G (by omega));have C7:=hid (show fg w7 (.slice yb m.length yd) m∧aw N.heap.size w7 (.slice yb m.length yd)from⟨iF.2 (CE.nbo G (bh C3 (by omega))),(C3.nb G (bh C3 (by omega))).mono (by omega)⟩);have Dr:Below w.heap.size w w7:=by rw[CI];exact(af CX j).setCell (p:=⟨w.heap.size,8,none⟩) (Nat.le_refl _) _
    have q8:=CZ.out.cell 8 rfl;have f8:=CZ.out.fr 8;have DX:=hid (show w7.ownsRow N.heap.size 66 4 (.slice yb m.length yd) m.length (m.map dV).flatten from(D5.kept G (ox C3 (by omega))).mono (by omega));clear p8 CE C3 D5 D3;go_upto_region 9 with fail;rw[←CI];clear CI q8 f8;have p0:=I.out.cell 0 rfl;have p1:=I.out.cell 1 rfl;have p2:=I.out.cell 2 rfl;have p3:=I.out.cell 3 rfl;have p4:=I.out.cell 4 rfl;have p5:=I.out.cell 5 rfl;have p6:=I.out.cell 6 rfl;have p7:=I.out.cell 7 rfl;have p8:=I.out.cell 8 rfl;have bD:=d.out.cell 0 rfl;have q1:=d.out.cell 1 rfl;have bP:=d.out.cell 2 rfl;have q3:=d.out.cell 3 rfl;have q4:=d.out.cell 4 rfl;have q5:=d.out.cell 5 rfl;have q6:=d.out.cell 6 rfl;have q7:=d.out.cell 7 rfl;have q8:=d.out.cell 8 rfl;have f0:=d.out.fr 0;have f1:=d.out.fr 1;have f2:=d.out.fr 2;have f3:=d.out.fr 3;have f4:=d.out.fr 4;have f5:=d.out.fr 5;have f6:=d.out.fr 6;have f7:=d.out.fr 7;have f8:=d.out.fr 8;obtain⟨w8,CV⟩: ∃W,W=(((((((((w7.setCell ⟨(w.heap.size+1),0,none⟩ (.slice fb H.fos.length fd)).setCell ⟨(w.heap.size+1),1,none⟩ (.slice X H.gs.length Y)).setCell ⟨(w.heap.size+1),2,none⟩ (.slice sb H.ss.length sd)).setCell ⟨(w.heap.size+1),3,none⟩ (.int .i64 H.nx)).setCell ⟨(w.heap.size+1),4,none⟩ (.int .i64 H.la)).setCell ⟨(w.heap.size+1),5,none⟩ (.int .i64 H.ro)).setCell ⟨(w.heap.size+1),6,none⟩ (.int .i64 H.now)).setCell ⟨(w.heap.size+1),7,none⟩ (.slice xb l.length T)).setCell ⟨(w.heap.size+1),8,none⟩ (.slice yb m.length yd)):=⟨_,rfl⟩
    have M:=jh d.out (.slice fb H.fos.length fd) (.slice X H.gs.length Y) (.slice sb H.ss.length sd) (.int .i64 H.nx) (.int .i64 H.la) (.int .i64 H.ro) (.int .i64 H.now) (.slice xb l.length T) (.slice yb m.length yd);rw[←CV]at M;have J:=hid M.1;have K:=M.2;have Ds:Below w.heap.size w w8:=by rw[CV];exact(((((((((Dr.setCell (p:=⟨w.heap.size+1,0,none⟩) (Nat.le_succ _) _).setCell (p:=⟨w.heap.size+1,1,none⟩) (Nat.le_succ _) _).setCell (p:=⟨w.heap.size+1,2,none⟩) (Nat.le_succ _) _).setCell (p:=⟨w.heap.size+1,3,none⟩) (Nat.le_succ _) _).setCell (p:=⟨w.heap.size+1,4,none⟩) (Nat.le_succ _) _).setCell (p:=⟨w.heap.size+1,5,none⟩) (Nat.le_succ _) _).setCell (p:=⟨w.heap.size+1,6,none⟩) (Nat.le_succ _) _).setCell (p:=⟨w.heap.size+1,7,none⟩) (Nat.le_succ _) _).setCell (p:=⟨w.heap.size+1,8,none⟩) (Nat.le_succ _) _)
    go_wp2_with fail;rw[←CV];clear CV M p0 p1 p2 p3 p4 p5 p6 p7 p8 bD q1 bP q3 q4 q5 q6 q7 q8 f0 f1 f2 f3 f4 f5 f6 f7 f8;have bD:=J.out.cell 0 rfl;have q1:=J.out.cell 1 rfl;have bP:=J.out.cell 2 rfl;have q3:=J.out.cell 3 rfl;have q4:=J.out.cell 4 rfl;have q5:=J.out.cell 5 rfl;have q6:=J.out.cell 6 rfl;have q7:=J.out.cell 7 rfl;have q8:=J.out.cell 8 rfl;refine bodyPost_ret (v:= .agg #[.slice fb H.fos.length fd,.slice X H.gs.length Y,.slice sb H.ss.length sd,.int .i64 H.nx,.int .i64 H.la,.int .i64 H.ro,.int .i64 H.now,.slice xb l.length T,.slice yb m.length yd]) (by simp[results,results21,go_sem,bD,q1,bP,q3,q4,q5,q6,q7,q8]) rfl ⟨_,rfl,⟨_,_,_,_,_,rfl,⟨(DP.out.nbo K (by omega)).mono (by omega),⟨dv.2 ((dv.1 CL.out.1).nbo K (bh CL.out.2 (by omega))),(CL.out.2.nb K (bh CL.out.2 (by omega))).mono (by omega)⟩,dG.2 ((dG.1 CN.out.1).nbo K (bh CN.out.2 (by omega))),(CN.out.2.nb K (bh CN.out.2 (by omega))).mono (by omega)⟩,(DL.out.nbo K (by omega)).mono (by omega),iF.2 ((iF.1 C7.out.1).nbo K (bh C7.out.2 (by omega))),(C7.out.2.nb K (bh C7.out.2 (by omega))).mono (by omega),(DX.out.kept K (ox C7.out.2 (by omega))).mono (by omega)⟩,(fun h=>DT.out h),Ds⟩
end Go.Proofs.YtgamnckfmmbjdaaGreatDoor
