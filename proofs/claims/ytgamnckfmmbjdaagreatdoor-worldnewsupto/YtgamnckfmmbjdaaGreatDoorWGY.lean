/- What own.Hub answers: a hub in memory of its own. -/
import Derived.Test.YtgamnckfmmbjdaaGreatDoorWGV
import Derived.Test.YtgamnckfmmbjdaaGreatDoorWGW
import Derived.Test.YtgamnckfmmbjdaaGreatDoorShelfA
import Derived.Recover
import Derived.Lib.SlicesS
set_option linter.unusedSimpArgs false
set_option linter.unusedVariables false
namespace Go.Proofs.YtgamnckfmmbjdaaGreatDoor
open Go.RowKit Go.Proofs.Tryz
set_option maxHeartbeats 4000000
set_option maxRecDepth 100000
theorem dU.below {B:Nat} {w w':World} {v:Value} {l:List Sh} (h:dU B w v l) (a:Below w.heap.size w w'):dU B w' v l:=by
 obtain⟨A,⟨o,j⟩,y,z,f⟩:=h
 exact⟨A,⟨o,fun i c u d e=>⟨(j i c u d e).1.below a,(j i c u d e).2.below a⟩⟩,y.below a,z.below a,fun i c u d e=>⟨⟨(f i c u d e).1.1.below a,(f i c u d e).1.2.below a⟩,fun b hb=>⟨((f i c u d e).2 b hb).1.below a,((f i c u d e).2 b hb).2.below a⟩⟩⟩
theorem dU.mono {B j:Nat} {w:World} {v:Value} {l:List Sh} (h:dU B w v l) (d:j≤B):dU j w v l:=by
 obtain⟨A,o,y,z,a⟩:=h
 exact⟨A,o,y,z.mono d,fun i c u e f=>⟨⟨(a i c u e f).1.1.mono d,(a i c u e f).1.2.mono d⟩,(a i c u e f).2⟩⟩
theorem dU.nbo {B g:Nat} {w w':World} {v:Value} {l:List Sh} (h:dU B w v l) (f:w.grownBy w' (some g)) (o:g<B):dU B w' v l:=by
 obtain⟨F,⟨y,z⟩,A,j,e⟩:=h
 have k: ∀{x:Value},aw B w x→ ∀b,x.ownBlock=some b→b≠g:=fun E b hb=>by have:=(E b hb).1;omega
 exact⟨F,⟨y,fun i c u a d=>⟨(z i c u a d).1.nbo f (k (e i c u a d).1.1),((e i c u a d).1.2.nbo f o).lies⟩⟩,A.nbo f (k j),j.nb f (k j),fun i c u a d=>⟨⟨(e i c u a d).1.1.nb f (k (e i c u a d).1.1),(e i c u a d).1.2.nbo f o⟩,fun b hb=>⟨((e i c u a d).2 b hb).1.nb f (k (e i c u a d).1.1),((e i c u a d).2 b hb).2.nbo f (by have:=(j b hb).1;omega)⟩⟩⟩
theorem rN (H:Hb) (v:Value) (w:World) (hv:cp w v H) (h8:H.fos.length≤1000) (hj: ∀s∈H.fos,s.jo.cos.length≤1000∧s.jo.base.length≤1000∧ ∀c∈s.jo.cos,c.ch.length≤1000000000) (E4:H.gs.length≤1000) (E5:H.ss.length≤1000):
    Calls prog 49 #[v] w fun e w'=> ∃vf vg ag,e= .returned (.agg #[vf,vg,ag,.int .i64 H.nx,.int .i64 H.la,.int .i64 H.ro,.int .i64 H.now])∧dU w.heap.size w' vf H.fos∧(bt w' vg H.gs∧aw w.heap.size w' vg)∧(bR w' ag H.ss∧aw w.heap.size w' ag)∧(∀b,vf.ownBlock=some b→aw (b+1) w' vg∧aw (b+1) w' ag)∧Rm w' vf∧Below w.heap.size w w':=by
 obtain⟨fos,gs,ss,nx,la,ro,now⟩:=H
 simp only at h8 hj E4 E5⊢;obtain⟨vf,vg,ag,rfl,lf,lg,aG⟩:=hv
 simp only at lf lg aG;have HJ:=hid hj;have E8:=hid lf;have DE:=hid lg;have DF:=hid aG;obtain⟨E,V,Dp⟩:=xC lf
 have DD:=hid V;have D6:=hid Dp;have Do:=V.1;have CQ:=ff Do;obtain⟨fa,fc,rfl,_⟩:=lf
 obtain⟨ga,gc,rfl,_⟩:=lg
 obtain⟨sa,sc,rfl,_⟩:=aG
 clear hj V Dp;obtain⟨wz,C4⟩: ∃wz,wz=(w.alloc (.cells #[.slice fa fos.length fc,.slice ga gs.length gc,.slice sa ss.length sc,.int .i64 nx,.int .i64 la,.int .i64 ro,.int .i64 now] 28)).alloc (.cells #[.slice none 0 0,.slice none 0 0,.slice none 0 0,.int .i64 0,.int .i64 0,.int .i64 0,.int .i64 0] 28):=⟨_,rfl⟩
 have Dn:Below w.heap.size w wz:=by rw[C4];exact((Below.refl _ _).alloc (Nat.le_refl _) _).alloc (by simp) _
 have HX:=hid (show Cs wz w.heap.size [.slice fa fos.length fc,.slice ga gs.length gc,.slice sa ss.length sc,.int .i64 nx,.int .i64 la,.int .i64 ro,.int .i64 now]from by rw[C4];exact(Cs.new w [.slice fa fos.length fc,.slice ga gs.length gc,.slice sa ss.length sc,.int .i64 nx,.int .i64 la,.int .i64 ro,.int .i64 now] _).below ((Below.refl _ _).alloc (Nat.le_refl _) _))
 have HY:=hid (show Cs wz (w.heap.size+1) [.slice none 0 0,.slice none 0 0,.slice none 0 0,.int .i64 0,.int .i64 0,.int .i64 0,.int .i64 0]from by
  have:=Cs.new (w.alloc (.cells #[.slice fa fos.length fc,.slice ga gs.length gc,.slice sa ss.length sc,.int .i64 nx,.int .i64 la,.int .i64 ro,.int .i64 now] 28)) [.slice none 0 0,.slice none 0 0,.slice none 0 0,.int .i64 0,.int .i64 0,.int .i64 0,.int .i64 0] 28
  rw[C4];simpa using this)
 have C8:=C4.symm;have Da:=hid C8;clear C4 C8;go_enter func49,ntmps49
 go_upto_region 1 with fail;rw[Da.out];clear Da;have p0:=HX.out.cell 0 rfl;go_wp2_with fail;refine(xy (cf fos E) _ _ (by have:=D6.out.below Dn;simpa[CQ]using this) (by rw[CQ];omega)).mono ?_
 rintro e w1 ⟨u,rfl,C5,G,CM,CN⟩;have Ee:w.heap.size+1<wz.heap.size:=HY.out.lt;obtain⟨I,j,rfl,_⟩:=id C5
 rw[CQ]at C5 G CM⊢
 obtain⟨bb,Dm,Ed⟩: ∃bb,(∀x,(Value.slice I fos.length j).ownBlock=some x→x=bb)∧wz.heap.size≤bb:=by
  cases h:(Value.slice I fos.length j).ownBlock with
  |none=>exact⟨wz.heap.size,fun x a=>(by cases a),Nat.le_refl _⟩
  |some y=>exact⟨y,fun x a=>(by injection a with a;exact a.symm),(G y h).1⟩
 have CT:=hid Dm;have CH:=hid (HX.out.below CN);have DR:=hid (HY.out.below CN);have Dk:=af Dn CN;obtain⟨w2,Y⟩: ∃w2,w2=w1.setCell ⟨w.heap.size,0,none⟩ (.slice I fos.length j):=⟨_,rfl⟩
 have C6:w1.grownBy w2 (some w.heap.size):=by rw[Y];exact au _ _ _ _
 have CI:Hid (Cs w2 w.heap.size [.slice I fos.length j,.slice ga gs.length gc,.slice sa ss.length sc,.int .i64 nx,.int .i64 la,.int .i64 ro,.int .i64 now]):=(by rw[Y];exact CH.out.set 0 _:Cs w2 w.heap.size _)
 have Dc:=hid (DR.out.nb C6 (by omega));have D7:=hid (C5.nbo C6 (fun x a=>by have:=(G x a).1;omega));have CZ:=hid (G.nb C6 (fun x a=>by have:=(G x a).1;omega));have CX:=hid (CM.nb C6 (fun x a=>by have:=(G x a).1;omega));have C7:Below w.heap.size w w2:=by rw[Y];exact Dk.setCell (p:=⟨w.heap.size,0,none⟩) (Nat.le_refl _) _
 have bD:=CH.out.cell 0 rfl;have f0:=CH.out.fr 0;clear C5 G CM p0 Dm;go_upto_region 2 with fail;rw[←Y];clear Y bD f0;have p0:=CI.out.cell 0 rfl;go_wp2_with fail;go_loopw [11] (fun i wr=> ∃(k:Nat) (us:List (Value×Value)),k≤fos.length∧i= .int .i64 k∧Hid (Cs wr w.heap.size [.slice I fos.length j,.slice ga gs.length gc,.slice sa ss.length sc,.int .i64 nx,.int .i64 la,.int .i64 ro,.int .i64 now])∧Hid (Cs wr (w.heap.size+1) [.slice none 0 0,.slice none 0 0,.slice none 0 0,.int .i64 0,.int .i64 0,.int .i64 0,.int .i64 0])∧Hid (aJ 4 wr (.slice I fos.length j) (cf fos us))∧Hid (aw wz.heap.size wr (.slice I fos.length j))∧Hid (Rm wr (.slice I fos.length j))∧Hid (eQ (bb+1) wr fos E us k)∧Below w.heap.size w wr) (fun i _=>fos.length-(intOf i).toNat)
 case atStart=>exact⟨0,E,Nat.zero_le _,rfl,CI,Dc,D7,CZ,CX,eQ.zero Do,C7⟩
 case round=>
  obtain⟨k,us,hk,rfl,N,CL,U,HOr,C9,M,A⟩:=hrel
  clear p0 CI Dc D7 CZ CX C7;by_cases P:k<fos.length
  · have CR:=M.out.1
    have CP:k<(cf fos us).length:=by rw[ff CR];exact P
    have X:=jC CR P;rw[List.getElem?_eq_getElem CP]at X;injection X with X
    obtain⟨a',E7,E6,_,_,_,Dj⟩:=id U.out
    injection E6 with ay e2 e3
    subst ay;clear e2 e3;obtain⟨b,o,E3,hb,he⟩:=Dj k CP
    subst E3;rw[X]at he;have c1:=he 1 _ rfl;have c2:=he 2 _ rfl;have c3:=he 3 _ rfl
    have Dq:us[k]'(by omega)=E[k]'(by omega):=by
     have:=M.out.2.2 k (Nat.le_refl _)
     rw[List.getElem?_eq_getElem (by omega),List.getElem?_eq_getElem (by omega)]at this;injection this
    rw[Dq]at c1 c3;have hJ:=DD.out.2 k fos[k] (E[k]'(by omega)) (List.getElem?_eq_getElem P) (List.getElem?_eq_getElem (by omega));have CU:=hid (hJ.1.below A);have CV:=hid (hJ.2.below A);have CF:=hid (HJ.out fos[k] (List.getElem_mem P));obtain rfl:b=bb:=CT.out b rfl;have D8:=hid (show∀(W:World) (y:Value×Value),aJ 4 W (.slice (some ⟨b,o,none⟩) fos.length j) (cf fos us)→y.1.oneCell'=true→y.2.oneCell'=true→aJ 4 (((W.setCell ⟨b,o+k*4+1,none⟩ y.1).setCell ⟨b,o+k*4+2,none⟩ (.int .i64 fos[k].jo.first)).setCell ⟨b,o+k*4+3,none⟩ y.2) (.slice (some ⟨b,o,none⟩) fos.length j) (cf fos (us.set k y))from fun W y h h1 h2=>xD h CR rfl P h1 h2);have CY:=hid (show∀(W W':World) (y:Value×Value),eQ (b+1) W fos E us k→W.grownBy W' (some b)→aj W y.1 fos[k].jo.base→aw (b+1) W y.1→cT (b+1) W y.2 fos[k].jo.cos→eQ (b+1) W' fos E (us.set k y) (k+1)from fun W W' y h hg h1 h2 h3=>h.next P hg (Nat.lt_succ_self _) h1 h2 h3);clear X Dj he Dq hJ CP;generalize fos[k].jo=J at*;generalize E[k]'(by omega)=u0 at*;obtain⟨jb,jf,jc⟩:=J
    obtain⟨u1,u2⟩:=u0
    simp only at c1 c2 c3;obtain⟨aD,y1,rfl,_⟩:=id CU.out
    obtain⟨x2,y2,rfl,_⟩:=id CV.out
    have x0:=N.out.cell 0 rfl;have Dr:=N.out.lt;go_wp2_with fail
    go_region_with (
     go_at_call 98;refine(wC ⟨jb,jf,jc⟩ _ _ ⟨_,_,rfl,CU.out.below (Below.refl _ _).drew,CV.out.below (Below.refl _ _).drew⟩ CF.out.1 CF.out.2.1 CF.out.2.2).mono ?_;rintro e wa ⟨y,rfl,DW,DZ⟩;have f:Below wr.heap.size wr wa:=((Below.refl _ _).drew).trans DZ;obtain⟨yb,yc,rfl,Ds,Dt,CS⟩:=DW;have CW:=hid Ds;have D3:=hid Dt;have D4:=hid CS;obtain⟨xb,zb,rfl,_⟩:=Ds;obtain⟨xc,zc,rfl,_⟩:=cT.lies CS;clear Dt CS;have D5:=hid (HOr.out.below f);obtain⟨_,cur,TT,K⟩:=D5.out b rfl;have E9:wa.frozen? ⟨b,o+k*4+1,none⟩=false:=(by simp[World.frozen?,K]);have Ea:wa.frozen? ⟨b,o+k*4+2,none⟩=false:=(by simp[World.frozen?,K]);have Eb:wa.frozen? ⟨b,o+k*4+3,none⟩=false:=(by simp[World.frozen?,K]);clear K;have j0:=(f.cell (p:=⟨w.heap.size,0,none⟩) Dr).trans x0;have j1:=(f.cell (p:=⟨b,o+k*4+1,none⟩) hb).trans c1;have j2:=(f.cell (p:=⟨b,o+k*4+2,none⟩) hb).trans c2;have j3:=(f.cell (p:=⟨b,o+k*4+3,none⟩) hb).trans c3)
    all_goals
     have Ec:w.heap.size+1<b:=by have:=(HOr.out b rfl).1;omega
     obtain⟨w3,Q⟩: ∃w3,w3=((wa.setCell ⟨b,o+k*4+1,none⟩ (.slice xb jb.length zb)).setCell ⟨b,o+k*4+1+1,none⟩ (.int .i64 jf)).setCell ⟨b,o+k*4+1+2,none⟩ (.slice xc jc.length zc):=⟨_,rfl⟩
     have CO:wa.grownBy w3 (some b):=by rw[Q];exact aN (aN (au _ _ _ _) (au _ _ _ _)) (au _ _ _ _)
     have DN:=hid (show aJ 4 w3 (.slice (some ⟨b,o,none⟩) fos.length j) (cf fos (us.set k (.slice xb jb.length zb,.slice xc jc.length zc)))from by rw[Q];exact D8.out wa (.slice xb jb.length zb,.slice xc jc.length zc) (U.out.below f) rfl rfl);have Du:=hid (CY.out wa w3 (.slice xb jb.length zb,.slice xc jc.length zc) (M.out.below f) CO CW.out (D3.out.mono (by show b+1≤wr.heap.size;omega)) (D4.out.mono (by show b+1≤wr.heap.size;omega)));have DQ:=hid ((N.out.below f).nb CO (by omega));have DS:=hid ((CL.out.below f).nb CO (by omega));have DL:=hid (show aw wz.heap.size w3 (.slice (some ⟨b,o,none⟩) fos.length j)from by rw[Q];exact((D5.out.setCell _ _ _).setCell _ _ _).setCell _ _ _);have DX:Below w.heap.size w w3:=by rw[Q];exact(((af A f).setCell (p:=⟨b,o+k*4+1,none⟩) (by show w.heap.size≤b;omega) _).setCell (p:=⟨b,o+k*4+1+1,none⟩) (by show w.heap.size≤b;omega) _).setCell (p:=⟨b,o+k*4+1+2,none⟩) (by show w.heap.size≤b;omega) _
     have DG:=hid (show Rm w3 (.slice (some ⟨b,o,none⟩) fos.length j)from by rw[Q];exact(((C9.out.below f).setCell _ _ _).setCell _ _ _).setCell _ _ _);clear D8 CY U M HOr C9;go_wp2_with fail;rw[←Q];go_roundw
     case rel=>exact⟨k+1,_,by omega,by simp,DQ,DS,DN,DL,DG,Du,DX⟩
     case measure=>simp[intOf];omega
  · obtain rfl:k=fos.length:=by omega
    have HF:=hid (M.out.own U.out HOr.out CT.out (by omega));have D9:Hid (∀x,(Value.slice I fos.length j).ownBlock=some x→x<wr.heap.size):=HOr.out.lt;have Dr:=N.out.lt;have Ef:=CL.out.lt;have CG:=hid (show∀x,(Value.slice I fos.length j).ownBlock=some x→wz.heap.size≤x from fun x a=>(HOr.out x a).1);clear U HOr M D6;have p1:=N.out.cell 1 rfl;go_wp2_with fail;refine(xz (gs.map i7) _ _ (dv.1 (DE.out.below A)) (by rw[List.length_map];omega)).mono ?_
    rintro e w4 ⟨u4,rfl,Dg,De,O⟩;have Dd:=dv.2 Dg;have Dz:=hid Dd;have CC:=hid De;obtain⟨g4,c4,rfl,_⟩:=Dd
    have CJ:=hid (N.out.below O);have DT:=hid (CL.out.below O);have Dv:=hid (HF.out.below O);have DH:=hid (C9.out.below O);have s4:=O.size;obtain⟨w5,Z⟩: ∃w5,w5=w4.setCell ⟨w.heap.size,1,none⟩ (.slice g4 gs.length c4):=⟨_,rfl⟩
    have g5:w4.grownBy w5 (some w.heap.size):=by rw[Z];exact au _ _ _ _
    have Db:Hid (Cs w5 w.heap.size [.slice I fos.length j,.slice g4 gs.length c4,.slice sa ss.length sc,.int .i64 nx,.int .i64 la,.int .i64 ro,.int .i64 now]):=(by rw[Z];exact CJ.out.set 1 _:Cs w5 w.heap.size _)
    have DU:=hid (DT.out.nb g5 (by omega));have Dw:=hid (Dv.out.nbo g5 (by omega));have DI:=hid (DH.out.nb g5 (fun x a=>by have:=CG.out x a;omega));have DA:=hid (dv.2 ((dv.1 Dz.out).nbo g5 (fun x a=>by have:=(CC.out x a).1;omega)));have DM:=hid (CC.out.nb g5 (fun x a=>by have:=(CC.out x a).1;omega));have Dl:Below w.heap.size w w5:=by rw[Z];exact(af A O).setCell (p:=⟨w.heap.size,1,none⟩) (Nat.le_refl _) _
    have q1:=CJ.out.cell 1 rfl;have f1:=CJ.out.fr 1;have s5:=g5.size;clear Dg De p1;go_upto_region 8 with fail;rw[←Z];clear Z q1 f1;have p2:=Db.out.cell 2 rfl;go_wp2_with fail;refine(xA (ss.map hY) _ _ (dG.1 (DF.out.below Dl)) (by rw[List.length_map];omega)).mono ?_
    rintro e w6 ⟨u6,rfl,Dh,Df,z⟩;have Di:=dG.2 Dh;have DO:=hid Di;have CD:=hid Df;obtain⟨g6,c6,rfl,_⟩:=Di
    have CK:=hid (Db.out.below z);have DV:=hid (DU.out.below z);have Dx:=hid (Dw.out.below z);have DJ:=hid (DI.out.below z);have DB:=hid (DA.out.below z);have CE:=hid (DM.out.below z);have s6:=z.size;obtain⟨w7,C3⟩: ∃w7,w7=w6.setCell ⟨w.heap.size,2,none⟩ (.slice g6 ss.length c6):=⟨_,rfl⟩
    have g7:w6.grownBy w7 (some w.heap.size):=by rw[C3];exact au _ _ _ _
    have F:Hid (Cs w7 w.heap.size [.slice I fos.length j,.slice g4 gs.length c4,.slice g6 ss.length c6,.int .i64 nx,.int .i64 la,.int .i64 ro,.int .i64 now]):=(by rw[C3];exact CK.out.set 2 _:Cs w7 w.heap.size _)
    have d:=hid (DV.out.nb g7 (by omega));have Dy:=hid (Dx.out.nbo g7 (by omega));have DK:=hid (DJ.out.nb g7 (fun x a=>by have:=CG.out x a;omega));have DC:=hid (dv.2 ((dv.1 DB.out).nbo g7 (fun x a=>by have:=(CE.out x a).1;omega)));have S:=hid (CE.out.nb g7 (fun x a=>by have:=(CE.out x a).1;omega));have DP:=hid (dG.2 ((dG.1 DO.out).nbo g7 (fun x a=>by have:=(CD.out x a).1;omega)));have T:=hid (CD.out.nb g7 (fun x a=>by have:=(CD.out x a).1;omega));have DY:Below w.heap.size w w7:=by rw[C3];exact(af Dl z).setCell (p:=⟨w.heap.size,2,none⟩) (Nat.le_refl _) _
    have bP:=CK.out.cell 2 rfl;have f2:=CK.out.fr 2;have s7:=g7.size;clear Dh Df p2;go_upto_region 9 with fail;rw[←C3];clear C3 bP f2;have p0:=F.out.cell 0 rfl;have y0:=d.out.cell 0 rfl;have z0:=d.out.fr 0;have p1:=F.out.cell 1 rfl;have y1:=d.out.cell 1 rfl;have z1:=d.out.fr 1;have p2:=F.out.cell 2 rfl;have y2:=d.out.cell 2 rfl;have z2:=d.out.fr 2;have p3:=F.out.cell 3 rfl;have y3:=d.out.cell 3 rfl;have z3:=d.out.fr 3;have p4:=F.out.cell 4 rfl;have y4:=d.out.cell 4 rfl;have z4:=d.out.fr 4;have p5:=F.out.cell 5 rfl;have y5:=d.out.cell 5 rfl;have z5:=d.out.fr 5;have p6:=F.out.cell 6 rfl;have y6:=d.out.cell 6 rfl;have z6:=d.out.fr 6;go_wp2_with fail;have gz:w7.grownBy _ (some (w.heap.size+1)):=(aN (aN (aN (aN (aN (aN (au w7 (w.heap.size+1) 0 (.slice I fos.length j)) (au _ (w.heap.size+1) 1 (.slice g4 gs.length c4))) (au _ (w.heap.size+1) 2 (.slice g6 ss.length c6))) (au _ (w.heap.size+1) 3 (.int .i64 nx))) (au _ (w.heap.size+1) 4 (.int .i64 la))) (au _ (w.heap.size+1) 5 (.int .i64 ro))) (au _ (w.heap.size+1) 6 (.int .i64 now)))
    have E0:=(((((((DY.setCell (p:=⟨w.heap.size+1,0,none⟩) (by show w.heap.size≤w.heap.size+1;omega) (.slice I fos.length j)).setCell (p:=⟨w.heap.size+1,1,none⟩) (by show w.heap.size≤w.heap.size+1;omega) (.slice g4 gs.length c4)).setCell (p:=⟨w.heap.size+1,2,none⟩) (by show w.heap.size≤w.heap.size+1;omega) (.slice g6 ss.length c6)).setCell (p:=⟨w.heap.size+1,3,none⟩) (by show w.heap.size≤w.heap.size+1;omega) (.int .i64 nx)).setCell (p:=⟨w.heap.size+1,4,none⟩) (by show w.heap.size≤w.heap.size+1;omega) (.int .i64 la)).setCell (p:=⟨w.heap.size+1,5,none⟩) (by show w.heap.size≤w.heap.size+1;omega) (.int .i64 ro)).setCell (p:=⟨w.heap.size+1,6,none⟩) (by show w.heap.size≤w.heap.size+1;omega) (.int .i64 now))
    refine bodyPost_ret (v:= .agg #[.slice I fos.length j,.slice g4 gs.length c4,.slice g6 ss.length c6,.int .i64 nx,.int .i64 la,.int .i64 ro,.int .i64 now]) (by simp[results,results49,go_sem,y0,y1,y2,y3,y4,y5,y6]) rfl ⟨_,_,_,rfl,(Dy.out.nbo gz (by omega)).mono (by omega),⟨dv.2 ((dv.1 DC.out).nbo gz (fun x a=>by have:=(S.out x a).1;omega)),(S.out.nb gz (fun x a=>by have:=(S.out x a).1;omega)).mono (by omega)⟩,⟨dG.2 ((dG.1 DP.out).nbo gz (fun x a=>by have:=(T.out x a).1;omega)),(T.out.nb gz (fun x a=>by have:=(T.out x a).1;omega)).mono (by omega)⟩,(fun b hb=>⟨(S.out.nb gz (fun x a=>by have:=(S.out x a).1;omega)).mono (by have:=D9.out b hb;omega),(T.out.nb gz (fun x a=>by have:=(T.out x a).1;omega)).mono (by have:=D9.out b hb;omega)⟩),DK.out.nb gz (fun x a=>by have:=CG.out x a;omega),E0⟩
structure aR (W:World):Prop where
 pow:df W
 syn : ∃ tp p, W.var? prog "strconv.ErrSyntax" = some #[.iface tp p]
 rng : ∃ tp p, W.var? prog "strconv.ErrRange" = some #[.iface tp p]
theorem Tryz.synAt : prog.globalNamed "strconv.ErrSyntax" = some 1 := by kernel_rfl
theorem Tryz.rngAt : prog.globalNamed "strconv.ErrRange" = some 2 := by kernel_rfl
theorem aR.block {W f:World} (h:aR W) (hb: ∀k,k<6→f.heap[k]?=W.heap[k]?):aR f:=by
 obtain⟨a,d,e⟩:=h
 refine⟨?_,?_,?_⟩
 · unfold df Lib.TabIs World.var? at a⊢
   rw[Tryz.powAt]at a⊢;simp only[Option.bind_some]at a⊢;rw[hb 3 (by omega)];exact a
 · unfold World.var? at d⊢
   rw[Tryz.synAt]at d⊢;simp only[Option.bind_some]at d⊢;rw[hb 1 (by omega)];exact d
 · unfold World.var? at e⊢
   rw[Tryz.rngAt]at e⊢;simp only[Option.bind_some]at e⊢;rw[hb 2 (by omega)];exact e
theorem aR.belowB {B:Nat} {W a:World} (h:aR W) (d:5<B) (hb:Below B W a):aR a:=h.block (fun k e=>hb.block k (by omega))
theorem aR.nb {b:Nat} {W a:World} (h:aR W) (hb:5<b) (f:5<W.heap.size) (d:W.grownBy a (some b)):aR a:=h.block (fun k j=>d.block k (by omega) (fun e=>by injection e;omega))
def Rd (b:Nat) (l:List UInt8) (w:World):Prop:=w.heap[b]?=some (.cells #[.string ⟨l.toArray⟩] 240 (0,0))
theorem Rd.cell {b:Nat} {l:List UInt8} {w:World} (h:Rd b l w):w.cell? ⟨b,0,none⟩=some (.string ⟨l.toArray⟩):=by rw[Lib.cell_of_heap h];rfl
theorem Rd.fr {b:Nat} {l:List UInt8} {w:World} (h:Rd b l w):w.frozen? ⟨b,0,none⟩=false:=Lib.frozen_of_heap h 0
theorem Rd.lt {b:Nat} {l:List UInt8} {w:World} (h:Rd b l w):b<w.heap.size:=cn h
theorem Rd.below {b:Nat} {l:List UInt8} {w w':World} (h:Rd b l w) (hb:Below w.heap.size w w'):Rd b l w':=(hb.block b h.lt).trans h
theorem Rd.set {b:Nat} {l r:List UInt8} {w:World} (h:Rd b l w):Rd b r (w.setCell ⟨b,0,none⟩ (.string ⟨r.toArray⟩)):=by
 unfold Rd at h⊢;simp[World.setCell,Array.getElem?_modify,h]
abbrev el (e:Ending):Prop:=e= .panicked [{v:= .iface 33 (.int .i64 1),recovered:=false}]
theorem gh {w w':World} (b:Nat) (h:Below w.heap.size w w'):w.grownBy w' (some b):=⟨h.os,h.tape,h.output,h.size,fun k a _=>h.block k a⟩
theorem db {a c d:World} {b:Nat} (h:a.grownBy c (some b)) (k:c.grownBy d (some b)):a.grownBy d (some b):=
 ⟨k.os.trans h.os,k.tape.trans h.tape,k.output.trans h.output,Nat.le_trans h.size k.size,fun q f e=>(k.block q (Nat.lt_of_lt_of_le f h.size) e).trans (h.block q f e)⟩
theorem dr {P:Program} {d:Func} {R:Ending→World→Prop} {a:Act} {w:World} {c:List PanicEntry} (f:a.defers=[]) (e:R (.panicked c) w):bodyPost P d R (.panic c) a w:=⟨f,e⟩
theorem gJ (w:World):Calls prog 171 #[] w fun e w'=>el e∧w'=w:=by
 go_enter func171,ntmps171
 go_wp2;exact dr rfl ⟨rfl,rfl⟩
theorem yJ (s:ByteArray) (w:World) (d:s.size≤maxLen) (h:59∉s.data.toList):
    Calls prog 220 #[.string s,.string ⟨#[59]⟩] w fun e w'=>e= .returned (.tuple #[.string s,.string ⟨#[]⟩,.bool false])∧Below w.heap.size w w':=by
 unfold maxLen at d;have a:Hid (Lib.indexByte s.data.toList 59= -1):=oO _ _ h;clear h;go_enter func220,ntmps220
 go_wp2_with (go_at_call 264;refine(Tryz.stringslite_Index_one _ _ _).mono ?_;rintro e w' ⟨rfl,rfl⟩;rw[a.out])
 go_ret3;exact⟨rfl,Below.refl _ _⟩
theorem yK (s:ByteArray) (a b:List UInt8) (w:World) (y:s.size≤maxLen) (h:59∉a) (d:s.data.toList=a++59::b):
    Calls prog 220 #[.string s,.string ⟨#[59]⟩] w fun e w'=>e= .returned (.tuple #[.string ⟨a.toArray⟩,.string ⟨b.toArray⟩,.bool true])∧Below w.heap.size w w':=by
 unfold maxLen at y;have u:=hid (show Lib.indexByte s.data.toList 59=a.length from by rw[d];exact oN a b 59 h);have f:s.size=a.length+b.length+1:=by rw[Lib.size_eq,d];simp;try omega
 have z:(a.length:Int)≤s.size:=by omega
 have A:(a.length:Int)+1≤s.size:=by omega
 have j:=hid (show s.extract 0 a.length=⟨a.toArray⟩from dZ (by rw[Lib.extract_data,d];simp));have o:=hid (show s.extract (a.length+1) s.size=⟨b.toArray⟩from dZ (by rw[Lib.extract_data,d,f];simp));clear h d f;go_enter func220,ntmps220
 go_wp2_with (go_at_call 264;refine(Tryz.stringslite_Index_one _ _ _).mono ?_;rintro e w' ⟨rfl,rfl⟩;rw[u.out])
 go_region
 go_wp2;go_ret3;exact⟨by rw[j.out,o.out];rfl,(Below.refl _ _).drew⟩
theorem jd: ∀l:List UInt8,(Wr.upto l).length≤l.length
 |[]=>by simp[Wr.upto]
 |x::l=>by
  have ih:=jd l;unfold Wr.upto at ih⊢;rw[List.takeWhile_cons];split
  · simp only[List.length_cons];omega
  · simp
theorem rO: ∀l:List UInt8,(59:UInt8)∉Wr.upto l
 |[]=>by simp[Wr.upto]
 |x::l=>by
  have ih:=rO l;unfold Wr.upto at ih⊢;rw[List.takeWhile_cons];split
  · rename_i h
    intro a;rw[List.mem_cons]at a;rcases a with rfl|a
    · simp at h
    · exact ih a
  · simp
theorem rP: ∀l:List UInt8,(59:UInt8)∉l→Wr.upto l=l∧Wr.behind l=[]
 |[],_=>by simp[Wr.upto,Wr.behind]
 |x::l,h=>by
  rw[List.mem_cons,not_or]at h;obtain⟨a,d⟩:=rP l h.2
  unfold Wr.upto at a⊢;unfold Wr.behind at d⊢;have f:(!(x==59))=true:=by simp;exact fun e=>h.1 e.symm
  rw[List.takeWhile_cons,List.dropWhile_cons,if_pos f,if_pos f,a];exact⟨rfl,d⟩
theorem jH (l:List UInt8) (w:World) (j:l.length≤140737488351232):
    Calls prog 172 #[.string ⟨l.toArray⟩,.string ⟨#[59]⟩] w fun e w'=>e= .returned (.tuple #[.string ⟨(Wr.upto l).toArray⟩,.string ⟨(Wr.behind l).toArray⟩,.bool (decide ((59:UInt8)∈l))])∧Below w.heap.size w w':=by
 have d:(⟨l.toArray⟩:ByteArray).size≤maxLen:=by rw[Lib.size_eq];unfold maxLen;simp;omega
 by_cases h:(59:UInt8)∈l
 · have a:=yK ⟨l.toArray⟩ (Wr.upto l) (Wr.behind l) w d (rO l) (by simpa using rA h)
   rw[decide_eq_true h];go_enter func172,ntmps172
   go_wp2_with fail;refine a.mono ?_
   rintro e w' ⟨rfl,hb⟩;clear a;go_wp2;go_ret3;exact⟨rfl,hb⟩
 · have a:=yJ ⟨l.toArray⟩ w d (by simpa using h)
   obtain⟨ay,f⟩:=rP l h
   rw[decide_eq_false h,ay,f];go_enter func172,ntmps172
   go_wp2_with fail;refine a.mono ?_
   rintro e w' ⟨rfl,hb⟩;clear a;go_wp2;go_ret3;exact⟨rfl,hb⟩
theorem lO (l:List UInt8) (n:Int) (w:World) (a:l.length≤140737488351232) (h:Lib.atoiAll l= .ok n):
    Calls prog 173 #[.string ⟨l.toArray⟩] w fun e w'=>e= .returned (.tuple #[.int .i64 n,.nilIface])∧Below w.heap.size w w':=by
 refine(Tryz.strconv_Atoi_ok ⟨l.toArray⟩ (by rw[Lib.size_eq];simp;omega) n (by simpa using h) w).mono ?_
 rintro e w' ⟨rfl,rfl|⟨t,rfl⟩⟩
 · exact⟨rfl,Below.refl _ _⟩
 · exact⟨rfl,Lib.bytesWorld_below _ _ _⟩
theorem rQ (l:List UInt8) (w:World) (o:l.length≤140737488351232) (j:aR w) (h: ∀n,Lib.atoiAll l≠ .ok n):
    Calls prog 173 #[.string ⟨l.toArray⟩] w fun e w'=> ∃m N t,e= .returned (.tuple #[.int .i64 m,.iface t (.pointer (some ⟨N,0,none⟩))])∧Below w.heap.size w w':=by
 cases a:Lib.atoiAll l with
 |ok n=>exact absurd a (h n)
 |«syntax»=>
  obtain⟨f,p,d⟩:=j.syn
  refine(Tryz.strconv_Atoi_syntax_var ⟨l.toArray⟩ (by rw[Lib.size_eq];simp;omega) (by simpa using a) f p w d).mono ?_
  rintro e w' ⟨N,rfl,_,_,hb⟩;exact⟨_,_,_,rfl,hb⟩
 |range=>
  obtain⟨f,p,d⟩:=j.rng
  refine(Tryz.strconv_Atoi_range_var ⟨l.toArray⟩ (by rw[Lib.size_eq];simp;omega) (by simpa using a) f p w d).mono ?_
  rintro e w' ⟨N,rfl,_,_,hb⟩;exact⟨_,_,_,rfl,hb⟩
theorem yL (b:Nat) (l:List UInt8) (w:World) (h:Rd b l w) (F:l.length≤140737488351232) (M:5<b) (u:aR w) (o: ∀n,Lib.atoiAll (Wr.upto l)≠ .ok n) (A:(59:UInt8)∉l):
    Calls prog 139 #[.pointer (some ⟨b,0,none⟩)] w fun e w'=>el e∧w.grownBy w' (some b):=by
 have J:=h.cell;have K:=h.fr;have E:=h.lt;have j:=hid (jH l w F);have G:(Wr.upto l).length≤l.length:=jd l;rw[decide_eq_false A]at j;have y:=hid o;clear o;have I:=hid h;have z:=hid u;clear h u;go_enter func139,ntmps139
 go_wp2_with fail;refine j.out.mono ?_
 rintro e H ⟨rfl,a⟩;go_wp2_with fail;refine(rQ (Wr.upto l) H (by omega) (z.out.belowB (by omega) a) y.out).mono ?_
 rintro e O ⟨m,N,t,rfl,f⟩;have d:=a.trans (f.mono a.size);go_wp2_with fail;refine(gJ _).mono ?_
 rintro e P ⟨rfl,rfl⟩;exact dr rfl ⟨rfl,gh b d⟩
theorem yM (b:Nat) (l:List UInt8) (n:Int) (w:World) (h:Rd b l w) (E:l.length≤140737488351232) (M:5<b) (u:aR w) (o:Lib.atoiAll (Wr.upto l)= .ok n) (z:(59:UInt8)∉l):
    Calls prog 139 #[.pointer (some ⟨b,0,none⟩)] w fun e w'=>el e∧w.grownBy w' (some b):=by
 have J:=h.cell;have K:=h.fr;have A:=h.lt;have j:=hid (jH l w E);have F:(Wr.upto l).length≤l.length:=jd l;rw[decide_eq_false z]at j;have y:=hid o;clear o;have H:=hid h;have I:=hid u;clear h u;go_enter func139,ntmps139
 go_wp2_with fail;refine j.out.mono ?_
 rintro e G ⟨rfl,a⟩;go_wp2_with fail;refine(lO (Wr.upto l) n G (by omega) y.out).mono ?_
 rintro e N ⟨rfl,f⟩;have d:=a.trans (f.mono a.size);go_wp2_with fail;refine(gJ _).mono ?_
 rintro e O ⟨rfl,rfl⟩;exact dr rfl ⟨rfl,gh b d⟩
theorem yN (b:Nat) (l:List UInt8) (w:World) (h:Rd b l w) (F:l.length≤140737488351232) (M:5<b) (u:aR w) (o: ∀n,Lib.atoiAll (Wr.upto l)≠ .ok n) (A:(59:UInt8)∈l):
    Calls prog 139 #[.pointer (some ⟨b,0,none⟩)] w fun e w'=>el e∧w.grownBy w' (some b):=by
 have J:=h.cell;have K:=h.fr;have E:=h.lt;have j:=hid (jH l w F);have G:(Wr.upto l).length≤l.length:=jd l;rw[decide_eq_true A]at j;have y:=hid o;clear o;have I:=hid h;have z:=hid u;clear h u;go_enter func139,ntmps139
 go_wp2_with fail;refine j.out.mono ?_
 rintro e H ⟨rfl,a⟩;go_wp2_with fail;refine(rQ (Wr.upto l) H (by omega) (z.out.belowB (by omega) a) y.out).mono ?_
 rintro e O ⟨m,N,t,rfl,f⟩;have d:=a.trans (f.mono a.size);go_wp2_with fail;refine(gJ _).mono ?_
 rintro e P ⟨rfl,rfl⟩;exact dr rfl ⟨rfl,gh b d⟩
theorem rR (b:Nat) (l:List UInt8) (n:Int) (w:World) (h:Rd b l w) (P:l.length≤140737488351232) (Z:5<b) (F:aR w) (A:Lib.atoiAll (Wr.upto l)= .ok n) (K:(59:UInt8)∈l) (E:eh n) (y:Lib.itoa n≠Wr.upto l):
    Calls prog 139 #[.pointer (some ⟨b,0,none⟩)] w fun e w'=>el e∧w.grownBy w' (some b):=by
 have X:=h.cell;have Y:=h.fr;have M:=h.lt;have z:=hid (jH l w P);have Q:(Wr.upto l).length≤l.length:=jd l;rw[decide_eq_true K]at z;have G:=hid A;have H:=hid E
 have j:(⟨(Lib.itoa n).toArray⟩:ByteArray)≠⟨(Wr.upto l).toArray⟩:=by
  intro e;apply y
  have:=congrArg (fun x=>x.data.toList) e
  simpa using this
 have N:=(Lib.bytes_beq_false_iff _ _).2 j;have O:=(Lib.bytes_beq_false_iff _ _).2 j.symm;clear A E;have V:=hid h;have J:=hid F;clear h F;go_enter func139,ntmps139
 go_wp2_with fail;refine z.out.mono ?_
 rintro e S ⟨rfl,d⟩;go_wp2_with fail;refine(lO (Wr.upto l) n S (by omega) G.out).mono ?_
 rintro e T ⟨rfl,o⟩;have a:=d.trans (o.mono d.size);have I:=hid (kt (H.out) T (J.out.belowB (by omega) a).pow);go_wp2_with fail;refine I.out.mono ?_
 rintro e U ⟨rfl,u⟩;have f:=a.trans (u.mono a.size);go_wp2_with fail;refine(gJ _).mono ?_
 rintro e U ⟨rfl,rfl⟩;exact dr rfl ⟨rfl,gh b f⟩
theorem yO (b:Nat) (l:List UInt8) (n:Int) (w:World) (h:Rd b l w) (Q:l.length≤140737488351232) (Z:5<b) (F:aR w) (A:Lib.atoiAll (Wr.upto l)= .ok n) (N:(59:UInt8)∈l) (E:eh n) (j:Lib.itoa n=Wr.upto l) (P:eB n=false):
    Calls prog 139 #[.pointer (some ⟨b,0,none⟩)] w fun e w'=>el e∧w.grownBy w' (some b):=by
 have X:=h.cell;have Y:=h.fr;have O:=h.lt;have y:=hid (jH l w Q);have S:(Wr.upto l).length≤l.length:=jd l;rw[decide_eq_true N]at y;have H:=hid A;have J:=hid E;have I:=hid j;clear A E j;have V:=hid h;have M:=hid F;clear h F;go_enter func139,ntmps139
 go_wp2_with fail;refine y.out.mono ?_
 rintro e T ⟨rfl,d⟩;go_wp2_with fail;refine(lO (Wr.upto l) n T (by omega) H.out).mono ?_
 rintro e U ⟨rfl,o⟩;have a:=d.trans (o.mono d.size);have K:=hid (kt (J.out) U (M.out.belowB (by omega) a).pow);go_wp2_with fail;refine K.out.mono ?_
 rintro e G ⟨rfl,u⟩;have f:=a.trans (u.mono a.size);rw[I.out];have z:=hid (lI n G);rw[P]at z;go_wp2_with fail;refine z.out.mono ?_
 rintro e w4 ⟨rfl,rfl⟩;go_wp2_with fail;refine(gJ _).mono ?_
 rintro e G ⟨rfl,rfl⟩;exact dr rfl ⟨rfl,gh b f⟩
theorem yP (b:Nat) (l:List UInt8) (n:Int) (w:World) (h:Rd b l w) (S:l.length≤140737488351232) (h6:5<b) (G:aR w) (E:Lib.atoiAll (Wr.upto l)= .ok n) (O:(59:UInt8)∈l) (F:eh n) (o:Lib.itoa n=Wr.upto l) (Q:eB n=true):
    Calls prog 139 #[.pointer (some ⟨b,0,none⟩)] w fun e w'=>e= .returned (.int .i64 n)∧Rd b (Wr.behind l) w'∧w.grownBy w' (some b):=by
 have Y:=h.cell;have f0:=h.fr;have P:=h.lt;have z:=hid (jH l w S);have T:(Wr.upto l).length≤l.length:=jd l;rw[decide_eq_true O]at z;have H:=hid E;have K:=hid F;have I:=hid o;clear E F o;have J:=hid h;have N:=hid G;clear h G;go_enter func139,ntmps139
 go_wp2_with fail;refine z.out.mono ?_
 rintro e U ⟨rfl,j⟩;go_wp2_with fail;refine(lO (Wr.upto l) n U (by omega) H.out).mono ?_
 rintro e V ⟨rfl,u⟩;have a:=j.trans (u.mono j.size);have M:=hid (kt (K.out) V (N.out.belowB (by omega) a).pow);go_wp2_with fail;refine M.out.mono ?_
 rintro e X ⟨rfl,y⟩;have d:=a.trans (y.mono a.size);rw[I.out];have A:=hid (lI n X);rw[Q]at A;go_wp2_with fail;refine A.out.mono ?_
 rintro e w4 ⟨rfl,rfl⟩;have f:=J.out.below d;have f4:=f.fr;have Z:=f.cell;go_wp2_with fail;go_ret;exact⟨rfl,f.set,db (gh b d) (au _ b 0 _)⟩
end Go.Proofs.YtgamnckfmmbjdaaGreatDoor
