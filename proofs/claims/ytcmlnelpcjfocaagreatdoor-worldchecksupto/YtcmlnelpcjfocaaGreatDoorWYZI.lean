/- What own.World answers: a world in memory of its own. -/
import Derived.Test.YtcmlnelpcjfocaaGreatDoorWYZC
import Derived.Deep.Onto
set_option linter.unusedSimpArgs false
set_option linter.unusedVariables false
namespace Go.Proofs.YtcmlnelpcjfocaaGreatDoor
open Go.RowKit Go.Proofs.Tryz
set_option maxHeartbeats 8000000
set_option maxRecDepth 100000
theorem DX {w w':World} (h:Below w.heap.size w w') (b i:Nat) (u:Value):Below (w.setCell ⟨b,i,none⟩ u).heap.size (w.setCell ⟨b,i,none⟩ u) (w'.setCell ⟨b,i,none⟩ u):=by
 have e:(w.setCell ⟨b,i,none⟩ u).heap.size=w.heap.size:=by simp
 rw[e];refine⟨h.os,h.tape,h.output,by simpa using h.size,fun k d=>?_⟩
 unfold World.setCell;simp only[Array.getElem?_modify];rw[h.block k d]
theorem ki {B g x:Nat} {w:World} {v:Value} (h:aI B w v) (d:v.ownBlock=some g):w.frozen? ⟨g,x,none⟩=false:=by
 obtain⟨_,cur,T,f⟩:=h g d
 simp[World.frozen?,f]
theorem DY (W:Wd) (v:Value) (w:World) (hv:eI w v W) (h8:W.hb.fos.length≤1000) (hj: ∀s∈W.hb.fos,s.jo.cos.length≤1000∧s.jo.base.length≤1000∧ ∀c∈s.jo.cos,c.ch.length≤1000000000) (Js:W.hb.gs.length≤1000) (Jv:W.hb.ss.length≤1000) (JX:W.cls.length≤1000) (IZ: ∀c∈W.cls,c.base.length≤1000000∧c.mine.length≤1000000∧c.ask.length≤1000000) (K1:W.les.length≤1000):
    Calls prog 26 #[v] w fun e w'=> ∃u,e= .returned u∧ft w.heap.size w' u W∧(nP v= .slice none 0 0→nP u= .slice none 0 0)∧Below w.heap.size w w':=by
 obtain⟨H,l,m⟩:=W
 simp only at h8 hj Js Jv JX IZ K1⊢;obtain⟨vf,vg,ai,vc,vl,rfl,⟨lf,lg,aT⟩,lc,ll⟩:=hv
 simp only at lf lg aT lc ll⊢;have JL:=hid (show dC w (.agg #[vf,vg,ai,.int .i64 H.nx,.int .i64 H.la,.int .i64 H.ro,.int .i64 H.now]) H from⟨vf,vg,ai,rfl,lf,lg,aT⟩);obtain⟨S,IA,Ju⟩:=DQ lc
 have J7:=hid IA;have JQ:=hid Ju;have Jt:=IA.1;have J4:=jK Jt;have JM:=hid (kX.1 ll);have HJ:=hid hj;have JH:=hid IZ;obtain⟨fa,fc,rfl,_⟩:=lf
 obtain⟨ga,gc,rfl,_⟩:=lg
 obtain⟨sa,sc,rfl,_⟩:=aT
 obtain⟨xa,xc,rfl⟩:=lc.shape
 obtain⟨ya,yc,rfl⟩:=ll.shape
 clear hj IZ IA Ju lc ll;obtain⟨wz,IE⟩: ∃wz,wz=(w.alloc (.cells #[.slice fa H.fos.length fc,.slice ga H.gs.length gc,.slice sa H.ss.length sc,.int .i64 H.nx,.int .i64 H.la,.int .i64 H.ro,.int .i64 H.now,.slice xa l.length xc,.slice ya m.length yc] 32)).alloc (.cells #[.slice none 0 0,.slice none 0 0,.slice none 0 0,.int .i64 0,.int .i64 0,.int .i64 0,.int .i64 0,.slice none 0 0,.slice none 0 0] 32):=⟨_,rfl⟩
 have Jr:Below w.heap.size w wz:=by rw[IE];exact((Below.refl _ _).alloc (Nat.le_refl _) _).alloc (by simp) _
 have HX:=hid (show Cs wz w.heap.size [.slice fa H.fos.length fc,.slice ga H.gs.length gc,.slice sa H.ss.length sc,.int .i64 H.nx,.int .i64 H.la,.int .i64 H.ro,.int .i64 H.now,.slice xa l.length xc,.slice ya m.length yc]from by rw[IE];exact(Cs.new w [.slice fa H.fos.length fc,.slice ga H.gs.length gc,.slice sa H.ss.length sc,.int .i64 H.nx,.int .i64 H.la,.int .i64 H.ro,.int .i64 H.now,.slice xa l.length xc,.slice ya m.length yc] _).below ((Below.refl _ _).alloc (Nat.le_refl _) _))
 have HY:=hid (show Cs wz (w.heap.size+1) [.slice none 0 0,.slice none 0 0,.slice none 0 0,.int .i64 0,.int .i64 0,.int .i64 0,.int .i64 0,.slice none 0 0,.slice none 0 0]from by
  have:=Cs.new (w.alloc (.cells #[.slice fa H.fos.length fc,.slice ga H.gs.length gc,.slice sa H.ss.length sc,.int .i64 H.nx,.int .i64 H.la,.int .i64 H.ro,.int .i64 H.now,.slice xa l.length xc,.slice ya m.length yc] 32)) [.slice none 0 0,.slice none 0 0,.slice none 0 0,.int .i64 0,.int .i64 0,.int .i64 0,.int .i64 0,.slice none 0 0,.slice none 0 0] 32
  rw[IE];simpa using this)
 have Jg:=hid IE.symm;have Kf:w.heap.size+1<wz.heap.size:=HY.out.lt;clear IE;go_enter func26,ntmps26
 go_upto_region 1 with fail;rw[Jg.out];clear Jg;have p0:=HX.out.cell 0 rfl;have p1:=HX.out.cell 1 rfl;have p2:=HX.out.cell 2 rfl;have p3:=HX.out.cell 3 rfl;have p4:=HX.out.cell 4 rfl;have p5:=HX.out.cell 5 rfl;have p6:=HX.out.cell 6 rfl;go_wp2_with fail;refine(wR H _ wz (JL.out.below Jr) h8 HJ.out Js Jv).mono ?_
 rintro e w1 ⟨uf,ug,us,rfl,IX,⟨J2,IJ⟩,⟨J3,IK⟩,_,_,IM⟩
 obtain⟨fb,fd,JY⟩: ∃a c,uf= .slice a H.fos.length c:=by
  obtain⟨Kk,h1,⟨a,c,e,_⟩,_⟩:=IX
  rw[ij h1.1]at e;exact⟨a,c,e⟩
 subst JY;obtain⟨Y,Z,rfl,_⟩:=id J2
 obtain⟨sb,sd,rfl,_⟩:=id J3
 have f:=hid (HX.out.below IM);have JT:=hid (HY.out.below IM);have Jj:=ag Jr IM;have br:=f.out.cell 0 rfl;have q1:=f.out.cell 1 rfl;have bZ:=f.out.cell 2 rfl;have q3:=f.out.cell 3 rfl;have q4:=f.out.cell 4 rfl;have q5:=f.out.cell 5 rfl;have q6:=f.out.cell 6 rfl;have f0:=f.out.fr 0;have f1:=f.out.fr 1;have f2:=f.out.fr 2;have f3:=f.out.fr 3;have f4:=f.out.fr 4;have f5:=f.out.fr 5;have f6:=f.out.fr 6;obtain⟨O,IP⟩: ∃O,O=(((((((w1.setCell ⟨w.heap.size,0,none⟩ (.slice fb H.fos.length fd)).setCell ⟨w.heap.size,1,none⟩ (.slice Y H.gs.length Z)).setCell ⟨w.heap.size,2,none⟩ (.slice sb H.ss.length sd)).setCell ⟨w.heap.size,3,none⟩ (.int .i64 H.nx)).setCell ⟨w.heap.size,4,none⟩ (.int .i64 H.la)).setCell ⟨w.heap.size,5,none⟩ (.int .i64 H.ro)).setCell ⟨w.heap.size,6,none⟩ (.int .i64 H.now)):=⟨_,rfl⟩
 have N:=DU f.out (.slice fb H.fos.length fd) (.slice Y H.gs.length Z) (.slice sb H.ss.length sd) (.int .i64 H.nx) (.int .i64 H.la) (.int .i64 H.ro) (.int .i64 H.now);rw[←IP]at N;have Ix:=hid N.1;have Q:=N.2;have Jh:=hid (JT.out.nb Q (by omega));have J8:=hid (IX.nbo Q (by omega));have I8:=hid (show cD O (.slice Y H.gs.length Z) H.gs∧aI wz.heap.size O (.slice Y H.gs.length Z)from⟨eR.2 ((eR.1 J2).nbo Q (bS IJ (by omega))),IJ.nb Q (bS IJ (by omega))⟩);have Iw:=hid (show de O (.slice sb H.ss.length sd) H.ss∧aI wz.heap.size O (.slice sb H.ss.length sd)from⟨fl.2 ((fl.1 J3).nbo Q (bS IK (by omega))),IK.nb Q (bS IK (by omega))⟩);have IS:Below w.heap.size w O:=by rw[IP];exact oj (b:=w.heap.size) Jj (Nat.le_refl _)
 have K5:=Q.size;clear N IX J2 IJ J3 IK p0 p1 p2 p3 p4 p5 p6;go_upto_region 2 with fail;rw[←IP];clear IP br q1 bZ q3 q4 q5 q6 f0 f1 f2 f3 f4 f5 f6;have p7:=Ix.out.cell 7 rfl;go_wp2_with fail;refine(DS (dI l S) _ _ (by have:=JQ.out.below IS;simpa[J4]using this) (by rw[J4];omega)).mono ?_
 rintro e w3 ⟨u3,rfl,IL,I0,IN⟩;obtain⟨xb,U,rfl,_⟩:=id IL
 rw[J4]at IL I0⊢
 obtain⟨bb,Jp,Ka⟩: ∃bb,(∀x,(Value.slice xb l.length U).ownBlock=some x→x=bb)∧O.heap.size≤bb:=by
  cases h:(Value.slice xb l.length U).ownBlock with
  |none=>exact⟨O.heap.size,fun x hx=>(by cases hx),Nat.le_refl _⟩
  |some y=>exact⟨y,fun x hx=>(by injection hx with hx;exact hx.symm),(I0 y h).1⟩
 have JD:=hid Jp;obtain⟨E,I7⟩: ∃W,W=O.setCell ⟨w.heap.size,7,none⟩ (.slice xb l.length U):=⟨_,rfl⟩
 have T:O.grownBy E (some w.heap.size):=by rw[I7];exact ar _ _ _ _
 have Ke:E.heap.size=O.heap.size:=by rw[I7];simp
 have Iy:Hid (Cs E w.heap.size [.slice fb H.fos.length fd,.slice Y H.gs.length Z,.slice sb H.ss.length sd,.int .i64 H.nx,.int .i64 H.la,.int .i64 H.ro,.int .i64 H.now,.slice xb l.length U,.slice ya m.length yc]):=(by rw[I7];exact Ix.out.set 7 _:Cs E w.heap.size _)
 have JU:=hid (Jh.out.nb T (by omega));have JJ:=hid (J8.out.nbo T (by omega));have IF:=hid (show cD E (.slice Y H.gs.length Z) H.gs∧aI wz.heap.size E (.slice Y H.gs.length Z)from⟨eR.2 ((eR.1 I8.out.1).nbo T (bS I8.out.2 (by omega))),I8.out.2.nb T (bS I8.out.2 (by omega))⟩);have IH:=hid (show de E (.slice sb H.ss.length sd) H.ss∧aI wz.heap.size E (.slice sb H.ss.length sd)from⟨fl.2 ((fl.1 Iw.out.1).nbo T (bS Iw.out.2 (by omega))),Iw.out.2.nb T (bS Iw.out.2 (by omega))⟩);have IT:Below w.heap.size w E:=by rw[I7];exact IS.setCell (p:=⟨w.heap.size,7,none⟩) (Nat.le_refl _) _
 obtain⟨w4,IQ⟩: ∃W,W=w3.setCell ⟨w.heap.size,7,none⟩ (.slice xb l.length U):=⟨_,rfl⟩
 have J6:Below E.heap.size E w4:=by rw[IQ,I7];exact DX IN _ _ _
 have J0:w3.grownBy w4 (some w.heap.size):=by rw[IQ];exact ar _ _ _ _
 have Kc:w.heap.size+1<O.heap.size:=by have:=IM.size;omega
 have Je:=hid (IL.nbo J0 (bS I0 (by omega)));have Jd:=hid (I0.nb J0 (bS I0 (by omega)));have q7:=(Ix.out.below IN).cell 7 rfl;have f7:=(Ix.out.below IN).fr 7;clear IL I0 Jp T I7 Ix Jh J8 I8 Iw J0 IN Q p7;go_upto_region 3 with fail;rw[←IQ];clear IQ q7 f7;have p7:=(Iy.out.below J6).cell 7 rfl;go_wp2_with fail;go_loopw [15] (fun i wr=> ∃(k:Nat) (us:List dU),k≤l.length∧i= .int .i64 k∧Hid (aW 8 wr (.slice xb l.length U) (dI l us))∧Hid (aI O.heap.size wr (.slice xb l.length U))∧Hid (gW (bb+1) wr l S us k)∧Below E.heap.size E wr) (fun i _=>l.length-(intOf i).toNat)
 case atStart=>exact⟨0,S,Nat.zero_le _,rfl,Je,Jd,gW.zero Jt,J6⟩
 case round=>
  obtain⟨k,us,hk,rfl,Iv,HOr,X,F⟩:=hrel
  clear p7 Je Jd J6;have V:=ag IT F;by_cases I6:k<l.length
  · have J5:=X.out.1
    have J1:k<(dI l us).length:=by rw[jK J5];exact I6
    have IB:=nO J5 I6;rw[List.getElem?_eq_getElem J1]at IB;replace IB:=Option.some.inj IB;obtain⟨a',K4,K2,_,_,_,Ji⟩:=id Iv.out
    injection K2 with e1 aE e3
    subst e1;clear aE e3;obtain⟨b,o,K0,hb,he⟩:=Ji k J1
    subst K0;rw[IB]at he
    have Jw:us[k]'(by omega)=S[k]'(by omega):=by
     have:=X.out.2.2 k (Nat.le_refl _)
     rw[List.getElem?_eq_getElem (by omega),List.getElem?_eq_getElem (by omega)]at this;exact Option.some.inj this
    rw[Jw]at he;have c0:=he 0 _ rfl;have c1:=he 1 _ rfl;have c2:=he 2 _ rfl;have c3:=he 3 _ rfl;have c4:=he 4 _ rfl;have c5:=he 5 _ rfl;have c6:=he 6 _ rfl;have c7:=he 7 _ rfl;obtain⟨k1,k2,k3⟩:=J7.out.2 k l[k] (S[k]'(by omega)) (List.getElem?_eq_getElem I6) (List.getElem?_eq_getElem (by omega))
    have J9:=hid (k1.below V);have Ja:=hid (k2.below V);have Jb:=hid (k3.below V);have IU:=hid (JH.out l[k] (List.getElem_mem I6));obtain rfl:b=bb:=JD.out b rfl;have K9:O.heap.size≤b:=(HOr.out b rfl).1;have fr:=fun x=>ki HOr.out (x:=x) rfl
    have f0:=fr (o+k*8);have f1:=fr (o+k*8+1);have f2:=fr (o+k*8+2);have f3:=fr (o+k*8+3);have f4:=fr (o+k*8+4);have f5:=fr (o+k*8+5);have f6:=fr (o+k*8+6);have f7:=fr (o+k*8+7);have Jf:Hid (∀(W:World) (y:dU),aW 8 W (.slice (some ⟨b,o,none⟩) l.length U) (dI l us)→y.1.oneCell'=true→y.2.1.oneCell'=true→y.2.2.oneCell'=true→aW 8 (xt W b (o+k*8) (.string l[k].who) (.string l[k].fo) y.1 (.int .i64 l[k].cur) y.2.1 (.string l[k].key) y.2.2 (.int .i64 l[k].keys)) (.slice (some ⟨b,o,none⟩) l.length U) (dI l (us.set k y))):=fun W y h h1 h2 h3=>DV h J5 rfl I6 h1 h2 h3
    have Jc:Hid (∀(W W':World) (y:dU),gW (b+1) W l S us k→W.grownBy W' (some b)→((an W y.1 l[k].base∧aI (b+1) W y.1)∧(an W y.2.1 l[k].mine∧aI (b+1) W y.2.1)∧cj W y.2.2 l[k].ask∧aI (b+1) W y.2.2)→gW (b+1) W' l S (us.set k y) (k+1)):=fun W W' y h hg h1=>h.next I6 hg (Nat.lt_succ_self _) h1
    clear IB Ji he Jw J1 k1 k2 k3 fr;generalize l[k]=cl at*;generalize S[k]'(by omega)=u0 at*;obtain⟨who,fo,base,cur,mine,key,ask,keys⟩:=cl
    obtain⟨u1,u2,u3⟩:=u0
    simp only[fs]at c0 c1 c2 c3 c4 c5 c6 c7;rw[Nat.add_zero]at c0;obtain⟨K7,K8,rfl,_⟩:=id J9.out
    obtain⟨Kg,Kh,rfl,_⟩:=id Ja.out
    obtain⟨Ki,Kj,rfl,_⟩:=id Jb.out
    have p7:=(Iy.out.below F).cell 7 rfl;have K3:=(Iy.out.below F).lt;go_wp2_with fail
    go_region_with (
     go_at_call 56;refine(uK ⟨who,fo,base,cur,mine,key,ask,keys⟩ _ _ ⟨_,_,_,rfl,J9.out.below (Below.refl _ _).drew,Ja.out.below (Below.refl _ _).drew,Jb.out.below (Below.refl _ _).drew⟩ IU.out.1 IU.out.2.1 IU.out.2.2).mono ?_;rintro e P ⟨y,rfl,JV,JW⟩;have A:Below wr.heap.size wr P:=((Below.refl _ _).drew).trans JW;obtain⟨ye,fJ,yq,rfl,⟨Jx,JA⟩,⟨Jy,JB⟩,Jz,JC⟩:=JV;have JN:=hid (show(an P ye base∧aI (b+1) P ye)∧(an P fJ mine∧aI (b+1) P fJ)∧cj P yq ask∧aI (b+1) P yq from⟨⟨Jx,JA.mono (by show b+1≤wr.heap.size;omega)⟩,⟨Jy,JB.mono (by show b+1≤wr.heap.size;omega)⟩,Jz,JC.mono (by show b+1≤wr.heap.size;omega)⟩);obtain⟨ea,ec,rfl,_⟩:=Jx;obtain⟨na,nc,rfl,_⟩:=Jy;obtain⟨qa,qc,rfl,_⟩:=Jz;clear JA JB JC;have G:=hid (HOr.out.below A);have g0:P.frozen? ⟨b,o+k*8,none⟩=false:=ki G.out rfl;have g1:P.frozen? ⟨b,o+k*8+1,none⟩=false:=ki G.out rfl;have g2:P.frozen? ⟨b,o+k*8+2,none⟩=false:=ki G.out rfl;have g3:P.frozen? ⟨b,o+k*8+3,none⟩=false:=ki G.out rfl;have g4:P.frozen? ⟨b,o+k*8+4,none⟩=false:=ki G.out rfl;have g5:P.frozen? ⟨b,o+k*8+5,none⟩=false:=ki G.out rfl;have g6:P.frozen? ⟨b,o+k*8+6,none⟩=false:=ki G.out rfl;have g7:P.frozen? ⟨b,o+k*8+7,none⟩=false:=ki G.out rfl;have j7:=(A.cell (p:=⟨w.heap.size,7,none⟩) K3).trans p7;have j0:=(A.cell (p:=⟨b,o+k*8,none⟩) hb).trans c0;have j1:=(A.cell (p:=⟨b,o+k*8+1,none⟩) hb).trans c1;have j2:=(A.cell (p:=⟨b,o+k*8+2,none⟩) hb).trans c2;have j3:=(A.cell (p:=⟨b,o+k*8+3,none⟩) hb).trans c3;have j4:=(A.cell (p:=⟨b,o+k*8+4,none⟩) hb).trans c4;have j5:=(A.cell (p:=⟨b,o+k*8+5,none⟩) hb).trans c5;have j6:=(A.cell (p:=⟨b,o+k*8+6,none⟩) hb).trans c6;have j8:=(A.cell (p:=⟨b,o+k*8+7,none⟩) hb).trans c7)
    all_goals
     obtain⟨w5,IC⟩: ∃W,W=((((((((P.setCell ⟨b,o+k*8,none⟩ (.string who)).setCell ⟨b,o+k*8+1,none⟩ (.string fo)).setCell ⟨b,o+k*8+2,none⟩ (.slice ea base.length ec)).setCell ⟨b,o+k*8+3,none⟩ (.int .i64 cur)).setCell ⟨b,o+k*8+4,none⟩ (.slice na mine.length nc)).setCell ⟨b,o+k*8+5,none⟩ (.string key)).setCell ⟨b,o+k*8+6,none⟩ (.slice qa ask.length qc)).setCell ⟨b,o+k*8+7,none⟩ (.int .i64 keys)):=⟨_,rfl⟩
     have JZ:P.grownBy w5 (some b):=by rw[IC];exact(bj (bj (bj (bj (bj (bj (bj (ar _ _ _ _) (ar _ _ _ _)) (ar _ _ _ _)) (ar _ _ _ _)) (ar _ _ _ _)) (ar _ _ _ _)) (ar _ _ _ _)) (ar _ _ _ _))
     have JR:=hid (show aW 8 w5 (.slice (some ⟨b,o,none⟩) l.length U) (dI l (us.set k (.slice ea base.length ec,.slice na mine.length nc,.slice qa ask.length qc))) by rw[IC];exact Jf.out P (.slice ea base.length ec,.slice na mine.length nc,.slice qa ask.length qc) (Iv.out.below A) rfl rfl rfl);have JE:=hid (Jc.out P w5 (.slice ea base.length ec,.slice na mine.length nc,.slice qa ask.length qc) (X.out.below A) JZ JN.out);have JP:=hid (show aI O.heap.size w5 (.slice (some ⟨b,o,none⟩) l.length U) by rw[IC];exact((((((((G.out.setCell _ _ _).setCell _ _ _).setCell _ _ _).setCell _ _ _).setCell _ _ _).setCell _ _ _).setCell _ _ _).setCell _ _ _));have Jq:Below E.heap.size E w5:=by rw[IC];exact(((((((((ag F A).setCell (p:=⟨b,o+k*8,none⟩) (by show E.heap.size≤b;omega) _).setCell (p:=⟨b,o+k*8+1,none⟩) (by show E.heap.size≤b;omega) _).setCell (p:=⟨b,o+k*8+2,none⟩) (by show E.heap.size≤b;omega) _).setCell (p:=⟨b,o+k*8+3,none⟩) (by show E.heap.size≤b;omega) _).setCell (p:=⟨b,o+k*8+4,none⟩) (by show E.heap.size≤b;omega) _).setCell (p:=⟨b,o+k*8+5,none⟩) (by show E.heap.size≤b;omega) _).setCell (p:=⟨b,o+k*8+6,none⟩) (by show E.heap.size≤b;omega) _).setCell (p:=⟨b,o+k*8+7,none⟩) (by show E.heap.size≤b;omega) _)
     clear Jf Jc Iv X HOr G;go_wp2_with fail;rw[←IC];go_roundw
     case rel=>exact⟨k+1,_,by omega,by simp,JR,JP,JE,Jq⟩
     case measure=>simp[intOf];omega
  · obtain rfl:k=l.length:=by omega
    have JI:=hid (X.out.own Iv.out HOr.out (by omega));have p8:=(Iy.out.below F).cell 8 rfl;clear Iv HOr X;go_wp2_with fail;refine(DT (m.map fH) _ _ (by have:=JM.out.below V;simpa using this) (by rw[List.length_map];omega)).mono ?_
    rintro e w6 ⟨u6,rfl,Iz,I5,IY,IW,Jm⟩;obtain⟨yb,yd,rfl,_⟩:=id Iz
    rw[List.length_map]at Iz I5 IY IW⊢;have JO:=hid IW;have z:=ag F Jm;have K6:=hid (kX.2 Iz);have IV:=hid (Iy.out.below z);have JF:=hid (JI.out.below Jm);have Kd:O.heap.size≤w6.heap.size:=by have:=z.size;omega
    have Kb:E.heap.size≤_:=F.size;obtain⟨w7,ID⟩: ∃W,W=w6.setCell ⟨w.heap.size,8,none⟩ (.slice yb m.length yd):=⟨_,rfl⟩
    have I:w6.grownBy w7 (some w.heap.size):=by rw[ID];exact ar _ _ _ _
    have J:Hid (Cs w7 w.heap.size [.slice fb H.fos.length fd,.slice Y H.gs.length Z,.slice sb H.ss.length sd,.int .i64 H.nx,.int .i64 H.la,.int .i64 H.ro,.int .i64 H.now,.slice xb l.length U,.slice yb m.length yd]):=(by rw[ID];exact IV.out.set 8 _:Cs w7 w.heap.size _)
    have d:=hid ((JU.out.below z).nb I (by omega));have JK:=hid ((JJ.out.below z).nbo I (by omega));have IG:=hid (show cD w7 (.slice Y H.gs.length Z) H.gs∧aI wz.heap.size w7 (.slice Y H.gs.length Z)from⟨eR.2 ((eR.1 (IF.out.1.below z)).nbo I (bS (IF.out.2.below z) (by omega))),(IF.out.2.below z).nb I (bS (IF.out.2.below z) (by omega))⟩);have II:=hid (show de w7 (.slice sb H.ss.length sd) H.ss∧aI wz.heap.size w7 (.slice sb H.ss.length sd)from⟨fl.2 ((fl.1 (IH.out.1.below z)).nbo I (bS (IH.out.2.below z) (by omega))),(IH.out.2.below z).nb I (bS (IH.out.2.below z) (by omega))⟩);have JG:=hid (JF.out.nbo I (by omega));have I9:=hid (show gV w7 (.slice yb m.length yd) m∧aI O.heap.size w7 (.slice yb m.length yd)from⟨kX.2 (Iz.nbo I (bS I5 (by omega))),(I5.nb I (bS I5 (by omega))).mono (by omega)⟩);have Jk:Below w.heap.size w w7:=by rw[ID];exact(ag IT z).setCell (p:=⟨w.heap.size,8,none⟩) (Nat.le_refl _) _
    have q8:=IV.out.cell 8 rfl;have f8:=IV.out.fr 8;have JS:=hid (show w7.ownsRow O.heap.size 52 4 (.slice yb m.length yd) m.length (m.map fH).flatten from(IY.kept I (sl I5 (by omega))).mono (by omega));clear p8 Iz I5 IY IW;go_upto_region 9 with fail;rw[←ID];clear ID q8 f8;have p0:=J.out.cell 0 rfl;have p1:=J.out.cell 1 rfl;have p2:=J.out.cell 2 rfl;have p3:=J.out.cell 3 rfl;have p4:=J.out.cell 4 rfl;have p5:=J.out.cell 5 rfl;have p6:=J.out.cell 6 rfl;have p7:=J.out.cell 7 rfl;have p8:=J.out.cell 8 rfl;have br:=d.out.cell 0 rfl;have q1:=d.out.cell 1 rfl;have bZ:=d.out.cell 2 rfl;have q3:=d.out.cell 3 rfl;have q4:=d.out.cell 4 rfl;have q5:=d.out.cell 5 rfl;have q6:=d.out.cell 6 rfl;have q7:=d.out.cell 7 rfl;have q8:=d.out.cell 8 rfl;have f0:=d.out.fr 0;have f1:=d.out.fr 1;have f2:=d.out.fr 2;have f3:=d.out.fr 3;have f4:=d.out.fr 4;have f5:=d.out.fr 5;have f6:=d.out.fr 6;have f7:=d.out.fr 7;have f8:=d.out.fr 8;obtain⟨w8,IR⟩: ∃W,W=(((((((((w7.setCell ⟨(w.heap.size+1),0,none⟩ (.slice fb H.fos.length fd)).setCell ⟨(w.heap.size+1),1,none⟩ (.slice Y H.gs.length Z)).setCell ⟨(w.heap.size+1),2,none⟩ (.slice sb H.ss.length sd)).setCell ⟨(w.heap.size+1),3,none⟩ (.int .i64 H.nx)).setCell ⟨(w.heap.size+1),4,none⟩ (.int .i64 H.la)).setCell ⟨(w.heap.size+1),5,none⟩ (.int .i64 H.ro)).setCell ⟨(w.heap.size+1),6,none⟩ (.int .i64 H.now)).setCell ⟨(w.heap.size+1),7,none⟩ (.slice xb l.length U)).setCell ⟨(w.heap.size+1),8,none⟩ (.slice yb m.length yd)):=⟨_,rfl⟩
    have N:=mx d.out (.slice fb H.fos.length fd) (.slice Y H.gs.length Z) (.slice sb H.ss.length sd) (.int .i64 H.nx) (.int .i64 H.la) (.int .i64 H.ro) (.int .i64 H.now) (.slice xb l.length U) (.slice yb m.length yd);rw[←IR]at N;have K:=hid N.1;have M:=N.2;have Jl:Below w.heap.size w w8:=by rw[IR];exact(((((((((Jk.setCell (p:=⟨w.heap.size+1,0,none⟩) (Nat.le_succ _) _).setCell (p:=⟨w.heap.size+1,1,none⟩) (Nat.le_succ _) _).setCell (p:=⟨w.heap.size+1,2,none⟩) (Nat.le_succ _) _).setCell (p:=⟨w.heap.size+1,3,none⟩) (Nat.le_succ _) _).setCell (p:=⟨w.heap.size+1,4,none⟩) (Nat.le_succ _) _).setCell (p:=⟨w.heap.size+1,5,none⟩) (Nat.le_succ _) _).setCell (p:=⟨w.heap.size+1,6,none⟩) (Nat.le_succ _) _).setCell (p:=⟨w.heap.size+1,7,none⟩) (Nat.le_succ _) _).setCell (p:=⟨w.heap.size+1,8,none⟩) (Nat.le_succ _) _)
    go_wp2_with fail;rw[←IR];clear IR N p0 p1 p2 p3 p4 p5 p6 p7 p8 br q1 bZ q3 q4 q5 q6 q7 q8 f0 f1 f2 f3 f4 f5 f6 f7 f8;have br:=K.out.cell 0 rfl;have q1:=K.out.cell 1 rfl;have bZ:=K.out.cell 2 rfl;have q3:=K.out.cell 3 rfl;have q4:=K.out.cell 4 rfl;have q5:=K.out.cell 5 rfl;have q6:=K.out.cell 6 rfl;have q7:=K.out.cell 7 rfl;have q8:=K.out.cell 8 rfl;refine bodyPost_ret (v:= .agg #[.slice fb H.fos.length fd,.slice Y H.gs.length Z,.slice sb H.ss.length sd,.int .i64 H.nx,.int .i64 H.la,.int .i64 H.ro,.int .i64 H.now,.slice xb l.length U,.slice yb m.length yd]) (by simp[results,results26,go_sem,br,q1,bZ,q3,q4,q5,q6,q7,q8]) rfl ⟨_,rfl,⟨_,_,_,_,_,rfl,⟨(JK.out.nbo M (by omega)).mono (by omega),⟨eR.2 ((eR.1 IG.out.1).nbo M (bS IG.out.2 (by omega))),(IG.out.2.nb M (bS IG.out.2 (by omega))).mono (by omega)⟩,fl.2 ((fl.1 II.out.1).nbo M (bS II.out.2 (by omega))),(II.out.2.nb M (bS II.out.2 (by omega))).mono (by omega)⟩,(JG.out.nbo M (by omega)).mono (by omega),kX.2 ((kX.1 I9.out.1).nbo M (bS I9.out.2 (by omega))),(I9.out.2.nb M (bS I9.out.2 (by omega))).mono (by omega),(JS.out.kept M (sl I9.out.2 (by omega))).mono (by omega)⟩,(fun h=>JO.out h),Jl⟩
end Go.Proofs.YtcmlnelpcjfocaaGreatDoor
