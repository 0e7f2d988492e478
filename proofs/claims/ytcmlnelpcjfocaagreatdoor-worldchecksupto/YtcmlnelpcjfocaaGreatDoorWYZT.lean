/- The law's worldBegun answers true. -/
import Derived.Test.YtcmlnelpcjfocaaGreatDoorWYZR
import Derived.Test.YtcmlnelpcjfocaaGreatDoorWYZQ
set_option linter.unusedSimpArgs false
set_option linter.unusedVariables false
namespace Go.Proofs.YtcmlnelpcjfocaaGreatDoor
open Go.RowKit Go.Proofs.Tryz
set_option maxHeartbeats 8000000
set_option maxRecDepth 100000
def kw:ByteArray→Int:=fun _=>0
theorem Hx:bY kw ⟨Hu.b1,[aR],[]⟩=0:=by
 have d:cX [aR]=0:=by rw[cX,if_neg (fun x=>x mv),cX]
 rw[bY,if_neg (fun x=>x pF),if_neg (by simp),if_neg (by rw[eS,if_neg (fun x=>x d)];decide+kernel)];rfl
theorem Hy:kt ⟨bV.toArray⟩=0:=by
 rw[kt];rw[show(⟨bV.toArray⟩:ByteArray).data.toList=bV from rfl,FM];rfl
theorem Hz:bY kw ⟨Hu.b1,[aR],[fg]⟩=0:=by
 have d:cX [aR]=0:=by rw[cX,if_neg (fun x=>x mv),cX]
 rw[bY,if_neg (fun x=>x pF),if_neg (by simp),if_neg (by rw[eS,if_neg (fun x=>x d)];decide+kernel)]
 have f:dv kw [aR].length fg=0:=by
  rw[dv,if_neg (by simp[fg]),if_neg (by simp[fg]),nW,if_neg (by simp[fg])];exact Hy
 show el kw [aR].length [fg]=0
 rw[el,if_neg (fun x=>x f),el]
theorem Ia:iA ⟨Hu.b1,[aR],[]⟩:=⟨zm,fun c d=>by
 simp only[List.mem_singleton]at d;subst d;exact rU,fun x f=>by cases f⟩
theorem Ib:iA ⟨Hu.b1,[aR],[fg]⟩:=⟨zm,fun c d=>by
 simp only[List.mem_singleton]at d;subst d;exact rU,fun x f=>by
 simp only[List.mem_singleton]at f;subst f;decide⟩
theorem f9.nb {W z:World} {b o:Nat} {c:Cn} {g:Nat} (h:f9 W b o c) (hb:b<W.heap.size) (f:W.grownBy z (some g)) (d:dx W g):f9 z b o c:=by
 obtain⟨Q,S,P,A,E,F,G,H,I,J,K,M,N,O⟩:=h
 have y:b≠g:=fun e=>d _ _ (e▸A)
 have k:=ir f hb y;exact⟨Q,S,P,(k _).trans A,(k _).trans E,(k _).trans F,(k _).trans G,(k _).trans H,(k _).trans I,(k _).trans J,(k _).trans K,M.nb f d,N.nb f d,O.nb f d⟩
theorem eH.nb {W f:World} {v:Value} {l:List Cn} {g:Nat} (h:eH W v l) (y:W.grownBy f (some g)) (I:dx W g):eH f v l:=by
 obtain⟨a,d,J,z,A,E⟩:=h
 refine⟨a,d,J,z,A,fun i H=>?_⟩
 obtain⟨b,o,F,hb,G⟩:=E i H
 exact⟨b,o,F,Nat.lt_of_lt_of_le hb y.size,G.nb hb y I⟩
theorem gV.nb {W z:World} {v:Value} {l:List Lr} {g:Nat} (h:gV W v l) (A:W.grownBy z (some g)) (J:dx W g):gV z v l:=by
 obtain⟨a,f,K,E,F,G⟩:=h
 refine⟨a,f,K,E,F,fun i I=>?_⟩
 obtain⟨b,o,H,hb,d⟩:=G i I
 have y:b≠g:=fun e=>J _ _ (e▸d.2.2.2)
 have k:=ir A hb y;exact⟨b,o,H,Nat.lt_of_lt_of_le hb A.size,(k _).trans d.1,(k _).trans d.2.1,(k _).trans d.2.2.1,(k _).trans d.2.2.2⟩
theorem Ic {W F:World} {v:Value} {X:Wd} {g:Nat} {x y z c l:Option Addr} {a b d e f h c1 c2 P Q:Nat} {S T U V:Int} (M:eI W v X) (E:W.grownBy F (some g)) (N:Cs W g [.slice x a b,.slice y d e,.slice z f h,.int .i64 S,.int .i64 T,.int .i64 U,.int .i64 V,.slice c c1 c2,.slice l P Q]):eI F v X:=by
 have A:dx W g:=N.noStr (fun s O=>by simp at O);obtain⟨Z,vg,ai,Y,vl,e,⟨G,H,I⟩,J,K⟩:=M
 exact⟨Z,vg,ai,Y,vl,e,⟨G.nb E A,H.nb E A,I.nb E A⟩,J.nb E A,K.nb E A⟩
theorem Ie (w:World) (h6:5<w.heap.size) (IK:aX w):
    Calls prog 6 #[] w fun e w'=>e= .returned (.bool true)∧Below w.heap.size w w':=by
 have I6:=hid (fun X (hW:Below w.heap.size w X)=>IK.belowB h6 hW);obtain⟨H,hH⟩: ∃H,H=Hu.b1:=⟨_,rfl⟩
 have IS:=hid (show ld 10 1000=H by rw[hH];exact Hi);have IL:=hid (show H.gs=[] by rw[hH];rfl);have I7:=hid (show bY kw ⟨H,[aR],[]⟩=0 by rw[hH];exact Hx);have IX:=hid (show bY kw ⟨H,[aR],[fg]⟩=0 by rw[hH];exact Hz);have I5:=hid (show iA ⟨H,[aR],[]⟩ by rw[hH];exact Ia);have IT:=hid (show iA ⟨H,[aR],[fg]⟩ by rw[hH];exact Ib);clear hH IK;go_enter func6,ntmps6
 go_wp2_with fail;refine(Fp 10 1000 _).mono ?_
 rintro e w1 ⟨u,rfl,hl,J1⟩;rw[zl];rw[IS.out]at hl;have IM:=hid hl;obtain⟨fa,fc,ga,gc,sa,sc,rfl⟩:=hl.shape
 clear hl;obtain⟨w2,M⟩: ∃X,X=w1.alloc (.cells #[.slice fa H.fos.length fc,.slice ga H.gs.length gc,.slice sa H.ss.length sc,.int .i64 H.nx,.int .i64 H.la,.int .i64 H.ro,.int .i64 H.now] 28):=⟨_,rfl⟩
 have IC:Below w1.heap.size w1 w2:=by rw[M];exact(Below.refl _ _).alloc (Nat.le_refl _) _
 have HX:=hid (show Cs w2 w1.heap.size [.slice fa H.fos.length fc,.slice ga H.gs.length gc,.slice sa H.ss.length sc,.int .i64 H.nx,.int .i64 H.la,.int .i64 H.ro,.int .i64 H.now] by rw[M];exact Cs.new w1 [.slice fa H.fos.length fc,.slice ga H.gs.length gc,.slice sa H.ss.length sc,.int .i64 H.nx,.int .i64 H.la,.int .i64 H.ro,.int .i64 H.now] _);have Iz:=ag J1 IC;go_upto_region 2 with fail;try simp only[World.setCell_alloc_new]
 rw[←M];clear M;go_wp2_with fail;refine(A7 ⟨#[97]⟩ ⟨#[102]⟩ w2 (by decide) (by decide)).mono ?_
 rintro e w3 ⟨u3,rfl,I8,J2⟩;have IJ:Cy.ok (ie ⟨#[97]⟩ ⟨#[102]⟩)=aR:=uO mv;have IG:bo (ie ⟨#[97]⟩ ⟨#[102]⟩)=0:=mv;rw[IG];rw[IJ]at I8;clear IJ IG;have Iy:=I8.lies;have Ix:=hid Iy;obtain⟨vb,vm,va,rfl,l1,l2,l3⟩:=Iy
 obtain⟨ea,ec,rfl,_⟩:=l1
 obtain⟨na,nc,rfl,_⟩:=l2
 obtain⟨qa,qc,rfl,_⟩:=l3
 simp only[aR,ie,List.length_nil]at Ix⊢;clear I8;obtain⟨V,N⟩: ∃X,X=w3.alloc (.cells #[.string ⟨#[97]⟩,.string ⟨#[102]⟩,.slice ea 0 ec,.int .i64 0,.slice na 0 nc,.string ⟨#[]⟩,.slice qa 0 qc,.int .i64 0] 47):=⟨_,rfl⟩
 have ID:Below w3.heap.size w3 V:=by rw[N];exact(Below.refl _ _).alloc (Nat.le_refl _) _
 have S:=hid (show Cs V w3.heap.size [.string ⟨#[97]⟩,.string ⟨#[102]⟩,.slice ea 0 ec,.int .i64 0,.slice na 0 nc,.string ⟨#[]⟩,.slice qa 0 qc,.int .i64 0] by rw[N];exact Cs.new w3 [.string ⟨#[97]⟩,.string ⟨#[102]⟩,.slice ea 0 ec,.int .i64 0,.slice na 0 nc,.string ⟨#[]⟩,.slice qa 0 qc,.int .i64 0] _);have G:=ag J2 ID;have IA:=ag Iz G;have z:=hid (HX.out.below G);have x0:=z.out.cell 0 rfl;have x1:=z.out.cell 1 rfl;have aY:=z.out.cell 2 rfl;have x3:=z.out.cell 3 rfl;have x4:=z.out.cell 4 rfl;have x5:=z.out.cell 5 rfl;have x6:=z.out.cell 6 rfl;have c0:=S.out.cell 0 rfl;have c1:=S.out.cell 1 rfl;have c2:=S.out.cell 2 rfl;have c3:=S.out.cell 3 rfl;have c4:=S.out.cell 4 rfl;have c5:=S.out.cell 5 rfl;have c6:=S.out.cell 6 rfl;have c7:=S.out.cell 7 rfl;go_upto_region 3 with fail;try simp only[World.setCell_alloc_new]
 rw[←N];clear N;obtain⟨w5,O⟩: ∃X,X=V.alloc (.cells #[.string ⟨#[97]⟩,.string ⟨#[102]⟩,.slice ea 0 ec,.int .i64 0,.slice na 0 nc,.string ⟨#[]⟩,.slice qa 0 qc,.int .i64 0] 47):=⟨_,rfl⟩
 have Iv:Below V.heap.size V w5:=by rw[O];exact(Below.refl _ _).alloc (Nat.le_refl _) _
 have J:=hid (show Cs w5 V.heap.size [.string ⟨#[97]⟩,.string ⟨#[102]⟩,.slice ea 0 ec,.int .i64 0,.slice na 0 nc,.string ⟨#[]⟩,.slice qa 0 qc,.int .i64 0] by rw[O];exact Cs.new V [.string ⟨#[97]⟩,.string ⟨#[102]⟩,.slice ea 0 ec,.int .i64 0,.slice na 0 nc,.string ⟨#[]⟩,.slice qa 0 qc,.int .i64 0] _);have A:=ag IA Iv;have IQ:=hid ((IM.out.below (ag IC G)).below Iv);have IR:=hid ((Ix.out.below ID).below Iv)
 have IP:=hid (show eH w5 (.slice (some ⟨V.heap.size,0,none⟩) 1 1) [aR]from⟨_,_,rfl,Nat.le_refl _,by simp,fun i hi=>by
  match i,hi with
  |0,_=>
   obtain⟨vb,vm,va,e,m1,m2,m3⟩:=IR.out
   simp only[Value.agg.injEq]at e;have g2:=congrArg (fun a=>a.getD 2 .nilFunc) e;have g4:=congrArg (fun a=>a.getD 4 .nilFunc) e;have g6:=congrArg (fun a=>a.getD 6 .nilFunc) e;simp at g2 g4 g6
   subst g2 g4 g6;exact⟨_,_,rfl,J.out.lt,_,_,_,J.out.cell 0 rfl,J.out.cell 1 rfl,J.out.cell 2 rfl,J.out.cell 3 rfl,J.out.cell 4 rfl,J.out.cell 5 rfl,J.out.cell 6 rfl,J.out.cell 7 rfl,m1,m2,m3⟩⟩)
 have IU:=hid (I6.out w5 A);have IY:5<w5.heap.size:=by have:=A.size;omega
 go_wp2_with fail;rw[←O];clear O x0 x1 aY x3 x4 x5 x6 c0 c1 c2 c3 c4 c5 c6 c7;refine(Gh kw H [aR] _ _ w5 IQ.out IP.out I5.out.hb I5.out.cls IY IU.out).mono ?_
 rintro e f ⟨u6,rfl,Iw,II,J3⟩;rw[I7.out];rw[I7.out,py,if_pos rfl]at Iw;have T:=ag A J3;have Y:=hid Iw;have I0:=hid II;obtain⟨vf,vg,ai,vc,vl,rfl,⟨lf,lg,aT⟩,lc,ll⟩:=Iw
 simp only at lf lg aT lc ll Y I0⊢;obtain⟨fb,fd,rfl,_⟩:=lf
 obtain⟨gb,gd,rfl,_⟩:=lg
 obtain⟨sb,sd,rfl,_⟩:=aT
 obtain⟨xb,xd,rfl⟩:=lc.shape
 obtain⟨yb,yd,rfl⟩:=ll.shape
 simp only[List.length_nil,List.length_singleton]at Y I0⊢;clear lc ll II;obtain⟨w7,P⟩: ∃X,X=f.alloc (.cells #[.slice fb H.fos.length fd,.slice gb H.gs.length gd,.slice sb H.ss.length sd,.int .i64 H.nx,.int .i64 H.la,.int .i64 H.ro,.int .i64 H.now,.slice xb 1 xd,.slice yb 0 yd] 32):=⟨_,rfl⟩
 have IE:Below f.heap.size f w7:=by rw[P];exact(Below.refl _ _).alloc (Nat.le_refl _) _
 have I:=hid (show Cs w7 f.heap.size [.slice fb H.fos.length fd,.slice gb H.gs.length gd,.slice sb H.ss.length sd,.int .i64 H.nx,.int .i64 H.la,.int .i64 H.ro,.int .i64 H.now,.slice xb 1 xd,.slice yb 0 yd] by rw[P];exact Cs.new f [.slice fb H.fos.length fd,.slice gb H.gs.length gd,.slice sb H.ss.length sd,.int .i64 H.nx,.int .i64 H.la,.int .i64 H.ro,.int .i64 H.now,.slice xb 1 xd,.slice yb 0 yd] _);have E:=ag T IE;have IV:=hid (I6.out w7 E);have IZ:5<w7.heap.size:=by have:=E.size;omega
 go_upto_region 4 with fail;try simp only[World.setCell_alloc_new]
 rw[←P];clear P;have y0:=I.out.cell 0 rfl;have y1:=I.out.cell 1 rfl;have al:=I.out.cell 2 rfl;have y3:=I.out.cell 3 rfl;have y4:=I.out.cell 4 rfl;have y5:=I.out.cell 5 rfl;have y6:=I.out.cell 6 rfl;have y7:=I.out.cell 7 rfl;have y8:=I.out.cell 8 rfl;go_wp2_with fail;refine(GX kw H _ w7 (Y.out.below IE) I0.out I5.out I7.out IZ IV.out).mono ?_
 rintro e w8 ⟨u8,rfl,IH,IF⟩;clear y0 y1 al y3 y4 y5 y6 y7 y8;have IB:=ag E IF;have Z:=hid IH;obtain⟨vf,vg,ai,vc,vl,rfl,⟨lf,lg,aT⟩,lc,ll⟩:=IH
 simp only at lf lg aT lc ll Z⊢;obtain⟨fp,fq,rfl,_⟩:=lf
 obtain⟨gp,gq,rfl,_⟩:=lg
 obtain⟨sp,sq,rfl,_⟩:=aT
 obtain⟨xp,xq,rfl⟩:=lc.shape
 obtain⟨yp,yq,rfl⟩:=ll.shape
 simp only[List.length_singleton]at Z⊢;clear lc ll;have d:=hid (I.out.below IF);have J4:w.heap.size≤f.heap.size:=T.size;have y0:=d.out.cell 0 rfl;have y1:=d.out.cell 1 rfl;have al:=d.out.cell 2 rfl;have y3:=d.out.cell 3 rfl;have y4:=d.out.cell 4 rfl;have y5:=d.out.cell 5 rfl;have y6:=d.out.cell 6 rfl;have y7:=d.out.cell 7 rfl;have y8:=d.out.cell 8 rfl;have f0:=d.out.fr 0;have f1:=d.out.fr 1;have f2:=d.out.fr 2;have f3:=d.out.fr 3;have f4:=d.out.fr 4;have f5:=d.out.fr 5;have f6:=d.out.fr 6;have f7:=d.out.fr 7;have f8:=d.out.fr 8;obtain⟨w9,Q⟩: ∃X,X=(((((((((w8.setCell ⟨f.heap.size,0,none⟩ (.slice fp H.fos.length fq)).setCell ⟨f.heap.size,1,none⟩ (.slice gp H.gs.length gq)).setCell ⟨f.heap.size,2,none⟩ (.slice sp H.ss.length sq)).setCell ⟨f.heap.size,3,none⟩ (.int .i64 H.nx)).setCell ⟨f.heap.size,4,none⟩ (.int .i64 H.la)).setCell ⟨f.heap.size,5,none⟩ (.int .i64 H.ro)).setCell ⟨f.heap.size,6,none⟩ (.int .i64 H.now)).setCell ⟨f.heap.size,7,none⟩ (.slice xp 1 xq)).setCell ⟨f.heap.size,8,none⟩ (.slice yp 1 yq)):=⟨_,rfl⟩
 have K:=mx d.out (.slice fp H.fos.length fq) (.slice gp H.gs.length gq) (.slice sp H.ss.length sq) (.int .i64 H.nx) (.int .i64 H.la) (.int .i64 H.ro) (.int .i64 H.now) (.slice xp 1 xq) (.slice yp 1 yq);rw[←Q]at K;have y:=hid K.1;have IN:=hid (show eI w9 (.agg #[.slice fp H.fos.length fq,.slice gp H.gs.length gq,.slice sp H.ss.length sq,.int .i64 H.nx,.int .i64 H.la,.int .i64 H.ro,.int .i64 H.now,.slice xp 1 xq,.slice yp 1 yq]) ⟨H,[aR],[fg]⟩from Ic Z.out K.2 d.out);have F:Below w.heap.size w w9:=by rw[Q];exact(((((((((IB.setCell (p:=⟨f.heap.size,0,none⟩) (by show w.heap.size≤f.heap.size;omega) _).setCell (p:=⟨f.heap.size,1,none⟩) (by show w.heap.size≤f.heap.size;omega) _).setCell (p:=⟨f.heap.size,2,none⟩) (by show w.heap.size≤f.heap.size;omega) _).setCell (p:=⟨f.heap.size,3,none⟩) (by show w.heap.size≤f.heap.size;omega) _).setCell (p:=⟨f.heap.size,4,none⟩) (by show w.heap.size≤f.heap.size;omega) _).setCell (p:=⟨f.heap.size,5,none⟩) (by show w.heap.size≤f.heap.size;omega) _).setCell (p:=⟨f.heap.size,6,none⟩) (by show w.heap.size≤f.heap.size;omega) _).setCell (p:=⟨f.heap.size,7,none⟩) (by show w.heap.size≤f.heap.size;omega) _).setCell (p:=⟨f.heap.size,8,none⟩) (by show w.heap.size≤f.heap.size;omega) _)
 have IW:=hid (I6.out w9 F);have J0:5<w9.heap.size:=by have:=F.size;omega
 go_upto_region 5 with fail;rw[←Q];clear Q K y0 y1 al y3 y4 y5 y6 y7 y8 f0 f1 f2 f3 f4 f5 f6 f7 f8;have z0:=y.out.cell 0 rfl;have z1:=y.out.cell 1 rfl;have z2:=y.out.cell 2 rfl;have z3:=y.out.cell 3 rfl;have z4:=y.out.cell 4 rfl;have z5:=y.out.cell 5 rfl;have z6:=y.out.cell 6 rfl;have z7:=y.out.cell 7 rfl;have z8:=y.out.cell 8 rfl;go_wp2_with fail;refine(G1 kw H IL.out _ w9 IN.out IT.out IX.out J0 IW.out).mono ?_
 rintro e J5 ⟨rfl,U⟩;clear z0 z1 z2 z3 z4 z5 z6 z7 z8;have z8:=(y.out.below U).cell 8 rfl;have I9:=ag F U;go_wp2_with fail;go_ret;exact⟨rfl,I9⟩
theorem If (H:Hb) (l:List Cn) (m:List Lr) (v:Value) (w:World) (hv:eI w v ⟨H,l,m⟩) (hH:ae H=0) (hl: ∀c∈l,bo c=0) (hu: ∀s∈H.fos,(∀e∈s.jo.base,e.path.size≤1000000000)∧eO 1000000000 s.jo.cos):
    Calls prog 8 #[v] w fun e w'=>e= .returned (.bool (l.all (cV H)))∧Below w.heap.size w w':=by
 obtain⟨vf,vg,ai,vc,vl,rfl,⟨lf,lg,aT⟩,lc,ll⟩:=hv
 simp only at lf lg aT lc ll;have Jc:=hid (show dC w (.agg #[vf,vg,ai,.int .i64 H.nx,.int .i64 H.la,.int .i64 H.ro,.int .i64 H.now]) H from⟨vf,vg,ai,rfl,lf,lg,aT⟩);have Jb:=hid lg;have H0:=hid hH;have J9:=hid hl;have HU:=hid hu;have Jq:l.length≤1000000000000000:=by obtain⟨_,_,_,_,h,_⟩:=lc;exact h
 obtain⟨fa,fc,rfl,_,Jp,IQ⟩:=lf
 have Ja:Hid (∀i (h:i<H.fos.length),∃b o,fa=some ⟨b,o,none⟩∧b<w.heap.size∧i7 w b (o+i*4) H.fos[i]):=IQ;obtain⟨ga,gc,rfl,_⟩:=lg
 obtain⟨sa,sc,rfl,_⟩:=aT
 obtain⟨xa,xc,rfl,_,_,IR⟩:=lc
 have Jf:Hid (∀i (h:i<l.length),∃b o,xa=some ⟨b,o,none⟩∧b<w.heap.size∧f9 w b (o+i*8) l[i]):=IR;obtain⟨ya,yc,rfl⟩:=ll.shape
 obtain⟨Q,hQ⟩: ∃Q,Q=l.all (cV H):=⟨_,rfl⟩
 have HQ:=hid hQ;rw[←hQ];clear ll hH hl hu IQ IR hQ;obtain⟨wz,I6⟩: ∃X,X=w.alloc (.cells #[.slice fa H.fos.length fc,.slice ga H.gs.length gc,.slice sa H.ss.length sc,.int .i64 H.nx,.int .i64 H.la,.int .i64 H.ro,.int .i64 H.now,.slice xa l.length xc,.slice ya m.length yc] 32):=⟨_,rfl⟩
 have IY:Below w.heap.size w wz:=by rw[I6];exact(Below.refl _ _).alloc (Nat.le_refl _) _
 have HX:=hid (show Cs wz w.heap.size [.slice fa H.fos.length fc,.slice ga H.gs.length gc,.slice sa H.ss.length sc,.int .i64 H.nx,.int .i64 H.la,.int .i64 H.ro,.int .i64 H.now,.slice xa l.length xc,.slice ya m.length yc] by rw[I6];exact Cs.new w [.slice fa H.fos.length fc,.slice ga H.gs.length gc,.slice sa H.ss.length sc,.int .i64 H.nx,.int .i64 H.la,.int .i64 H.ro,.int .i64 H.now,.slice xa l.length xc,.slice ya m.length yc] _);have E:=hid IY;have IK:=hid I6.symm;clear I6 IY;go_enter func8,ntmps8
 go_upto_region 1 with fail;rw[IK.out];clear IK;go_wp2_with fail;go_loopw [3] (fun i wr=> ∃k:Nat,k≤l.length∧i= .int .i64 k∧Hid (∀j (h:j<l.length),j<k→cV H l[j]=true)∧Below wz.heap.size wz wr) (fun i _=>l.length-(intOf i).toNat)
 case atStart=>exact⟨0,Nat.zero_le _,rfl,(fun j _ h=>absurd h (Nat.not_lt_zero _): ∀j (h:j<l.length),j<0→cV H l[j]=true),Below.refl _ _⟩
 case round=>
  obtain⟨k,hk,rfl,J,S⟩:=hrel
  have I8:=ag E.out S;have p7:=(HX.out.below S).cell 7 rfl;by_cases U:k<l.length
  · have Jk:(k:Int)<l.length:=by omega
    have IB:=hid (J9.out _ (List.getElem_mem U));obtain⟨b,o,rfl,hb,he⟩:=Jf.out k U
    obtain⟨vb,vm,va,c0,c1,c2,c3,c4,c5,c6,c7,l1,l2,l3⟩:=he.below hb I8
    have J7:=hid l1;have J8:=hid l2;obtain⟨ea,ec,rfl,_⟩:=l1
    obtain⟨na,nc,rfl,_⟩:=l2
    obtain⟨qa,qc,rfl,_⟩:=l3
    obtain⟨w2,I5⟩: ∃X,X=wr.alloc (.cells #[.string l[k].who,.string l[k].fo,.slice ea l[k].base.length ec,.int .i64 l[k].cur,.slice na l[k].mine.length nc,.string l[k].key,.slice qa l[k].ask.length qc,.int .i64 l[k].keys] 47):=⟨_,rfl⟩
    have IV:Below wr.heap.size wr w2:=by rw[I5];exact(Below.refl _ _).alloc (Nat.le_refl _) _
    have HB:=hid (show Cs w2 wr.heap.size [.string l[k].who,.string l[k].fo,.slice ea l[k].base.length ec,.int .i64 l[k].cur,.slice na l[k].mine.length nc,.string l[k].key,.slice qa l[k].ask.length qc,.int .i64 l[k].keys] by rw[I5];exact Cs.new wr [.string l[k].who,.string l[k].fo,.slice ea l[k].base.length ec,.int .i64 l[k].cur,.slice na l[k].mine.length nc,.string l[k].key,.slice qa l[k].ask.length qc,.int .i64 l[k].keys] _);have N:=ag S IV;have z:=hid (HX.out.below N);have IF:=hid (ag E.out N);clear he;go_upto_region 5 with fail;try simp only[World.setCell_alloc_new]
    rw[←I5];clear I5 c0 c1 c2 c3 c4 c5 c6 c7 p7;have p0:=z.out.cell 0 rfl;have p1:=z.out.cell 1 rfl;have p2:=z.out.cell 2 rfl;have p3:=z.out.cell 3 rfl;have p4:=z.out.cell 4 rfl;have p5:=z.out.cell 5 rfl;have p6:=z.out.cell 6 rfl;have d1:=HB.out.cell 1 rfl;go_wp2_with fail;refine(yl H _ l[k].fo w2 (Jc.out.below IF.out)).mono ?_
    rintro e w3 ⟨rfl,Y⟩;have O:=ag N Y;have IA:=hid (HB.out.below Y);have IL:=hid (z.out.below Y);have IS:=ag E.out O;obtain⟨F,hF⟩: ∃F,F=fv H.fos l[k].fo:=⟨_,rfl⟩
    rw[←hF];clear p0 p1 p2 p3 p4 p5 p6 d1;by_cases J2:F<0
    · have f:=yL H0.out IB.out (Or.inl (by rw[←hF];exact J2))
      clear hF
      have K:=hid (show∀j (h:j<l.length),j<k+1→cV H l[j]=true from fun j h hj=>by
       by_cases e:j=k
       · subst e;exact f
       · exact J.out j h (by omega))
      clear f J;go_wp2_with fail;go_roundw
      case rel=>exact⟨k+1,by omega,by simp,K,O⟩
      case measure=>simp[intOf];omega
    · have p1:=IL.out.cell 1 rfl
      have d0:=IA.out.cell 0 rfl;have d1:=IA.out.cell 1 rfl;have HF:=hid hF;clear hF;go_wp2_with fail;refine(Ds H.gs _ l[k].fo l[k].who w3 (Jb.out.below IS)).mono ?_
      rintro e w4 ⟨rfl,Z⟩;have P:=ag O Z;have J4:=hid (IA.out.below Z);have Jh:=hid (IL.out.below Z);have IT:=ag E.out P;obtain⟨R,hR⟩: ∃R,R=eV H.gs l[k].fo l[k].who:=⟨_,rfl⟩
      rw[←hR];clear p1 d0 d1;by_cases hr:R=0
      · have f:=yL H0.out IB.out (Or.inr (by rw[←hR];exact hr))
        subst hr;clear hR
        have K:=hid (show∀j (h:j<l.length),j<k+1→cV H l[j]=true from fun j h hj=>by
         by_cases e:j=k
         · subst e;exact f
         · exact J.out j h (by omega))
        clear f J;go_wp2_with fail;go_roundw
        case rel=>exact⟨k+1,by omega,by simp,K,P⟩
        case measure=>simp[intOf];omega
      · have Jt:(R==0)=false:=by simpa using hr
        obtain⟨i,hp,J1,IZ,J3,IM,IN⟩:=Gj H0.out IB.out (by rw[←hR];exact hr)
        have IP:=HF.out;rw[J1]at IP;subst IP;have J6:=hid IZ;have I:=hid J3;have Iy:=hid IM;have Iz:=hid IN;have IJ:=hid (HU.out _ (List.getElem_mem hp));have Js:(i:Int)<H.fos.length:=by omega
        have Jr:0≤(i:Int):=by omega
        have p0:=Jh.out.cell 0 rfl;clear J1 IZ J3 IM IN hR hr;obtain⟨fb,fo,Ji,Jj,J0⟩:=Ja.out i hp
        subst Ji;obtain⟨f0,u,y,f1,f2,f3,ID,IE⟩:=J0.below Jj IT
        clear J0;obtain⟨T,hT⟩: ∃T,T=Jn.tree H.fos[i].jo:=⟨_,rfl⟩
        rw[←hT]at I Iy Iz;have Jg:=hid hT.symm;clear hT;generalize H.fos[i]=s at*;obtain⟨sn,⟨jb,jf,jc⟩⟩:=s
        simp only at f0 f1 f2 f3 ID IE;have Jd:=hid ID;have Je:=hid IE;obtain⟨ua,uc,rfl,_⟩:=ID
        obtain⟨za,zc,rfl,_⟩:=IE
        obtain⟨A,hA⟩: ∃A,A=Sp.sameB l[k].base T:=⟨_,rfl⟩
        obtain⟨M,hM⟩: ∃M,M=Sp.sameB l[k].mine T:=⟨_,rfl⟩
        rw[←hA,←hM]at I;rw[←hA]at Iy;rw[←hM]at Iz;clear hA hM;go_wp2_with fail;refine(Hc ⟨jb,jf,jc⟩ _ _ ⟨_,_,rfl,Jd.out,Je.out⟩ IJ.out.1 IJ.out.2 J6.out).mono ?_
        rintro e w5 ⟨t,rfl,V,IC⟩;rw[Jg.out]at V;have II:=hid V;have I9:=ag P IC;have IG:=hid (J4.out.below IC);have Jm:=ag E.out I9;have Ix:Below wr.heap.size wr w5:=ag IV (ag Y (ag Z IC));clear p0 f0 f1 f2 f3 V;have d2:=IG.out.cell 2 rfl;go_wp2_with fail;refine(zp l[k].base T _ t w5 (J7.out.below Ix) II.out A Iy.out).mono ?_
        rintro e w6 ⟨rfl,I0⟩;have Iv:=ag I9 I0;have IH:=hid (IG.out.below I0);have IU:=ag E.out Iv;have IX:=ag Ix I0;clear d2;cases A with
        |false=>
         have f:cV H l[k]=false:=by rw[I.out];rfl
         have G:=hid (show Q=false by
          rw[HQ.out,List.all_eq_false];exact⟨l[k],List.getElem_mem U,by simp[f]⟩)
         clear f J;go_wp2_with fail;go_ret;exact⟨by(rw[G.out])<;>rfl,IU⟩
        |true=>
         have d4:=IH.out.cell 4 rfl;go_wp2_with fail;refine(zp l[k].mine T _ t w6 (J8.out.below IX) (II.out.below I0) M Iz.out).mono ?_
         rintro e w7 ⟨rfl,IW⟩;have Iw:=ag Iv IW;have J5:=hid (IH.out.below IW);have I7:=ag E.out Iw;clear d4;cases M with
         |false=>
          have f:cV H l[k]=false:=by rw[I.out];rfl
          have G:=hid (show Q=false by
           rw[HQ.out,List.all_eq_false];exact⟨l[k],List.getElem_mem U,by simp[f]⟩)
          clear f J;go_wp2_with fail;go_ret;exact⟨by(rw[G.out])<;>rfl,I7⟩
         |true=>
          have d5:=J5.out.cell 5 rfl;by_cases k0:l[k].key.size=0
          · have f:cV H l[k]=true:=by rw[I.out,decide_eq_true k0];rfl
            have ke:l[k].key=⟨#[]⟩:=by
             cases h:l[k].key with
             |mk d=>
              rw[h]at k0;have:d= #[]:=Array.size_eq_zero_iff.1 k0
              rw[this]
            rw[ke]at d5;clear ke k0
            have K:=hid (show∀j (h:j<l.length),j<k+1→cV H l[j]=true from fun j h hj=>by
             by_cases e:j=k
             · subst e;exact f
             · exact J.out j h (by omega))
            clear f J;go_wp2_with fail;go_roundw
            case rel=>exact⟨k+1,by omega,by simp,K,Iw⟩
            case measure=>simp[intOf];omega
          · have f:cV H l[k]=false:=by rw[I.out,decide_eq_false k0];rfl
            have kl: ¬l[k].key.toList=[]:=by
             rw[Lib.toList_data];intro h;have:l[k].key.data.toList.length=l[k].key.size:=Array.length_toList
             rw[h]at this;exact k0 this.symm
            have kb:(l[k].key.toList==([]:List UInt8))=false:=beq_eq_false_iff_ne.2 kl;have Jl:(l[k].key.toList==(⟨#[]⟩:ByteArray).toList)=false:=by rw[Lib.toList_data ⟨#[]⟩];exact kb
            have Ju:(l[k].key.toList !=(⟨#[]⟩:ByteArray).toList)=true:=by rw[bne,Jl];rfl
            clear k0 kl
            have G:=hid (show Q=false by
             rw[HQ.out,List.all_eq_false];exact⟨l[k],List.getElem_mem U,by simp[f]⟩)
            clear f J;go_wp2_with fail;go_ret;exact⟨by(rw[G.out])<;>rfl,I7⟩
  · have Jk: ¬(k:Int)<l.length:=by omega
    have G:=hid (show Q=true by
     rw[HQ.out,List.all_eq_true];intro c hc;obtain⟨i,hi,rfl⟩:=List.getElem_of_mem hc
     exact J.out i hi (by omega))
    clear J;go_wp2_with fail;go_ret;exact⟨by(rw[G.out])<;>rfl,I8⟩
theorem Ig {f:ByteArray→Int} {W:Wd} (h:bY f W=0): ∀c∈W.cls,bo c=0:=by
 rw[bY,if_neg (fun x=>x (tl h))]at h;by_cases a:4<W.cls.length∨30<W.les.length
 · rw[if_pos a]at h;cases h
 · rw[if_neg a]at h
   have d:eS W.cls=0:=by
    by_cases b:eS W.cls=0
    · exact b
    · rw[if_pos b]at h;exact absurd h b
   rw[eS]at d
   have:cX W.cls=0:=by
    by_cases b:cX W.cls=0
    · exact b
    · rw[if_pos b]at d;exact absurd d b
   exact sW this
theorem Ih (J:ByteArray→Int) (W:Wd) (v:Value) (w:World) (hv:eI w v W) (hs:iA W) (F: ∀x∈W.les,x.ans=true→mT J) (h6:5<w.heap.size) (G:aX w):
    Calls prog 7 #[v] w fun e w'=>e= .returned (.int .i64 (bY J W))∧Below w.heap.size w w':=by
 obtain⟨H,l,m⟩:=W
 have HV:=hid hv;have HS:=hid hs;have K:=hid F;have M:=hid (fun X (hW:Below w.heap.size w X)=>G.belowB h6 hW);obtain⟨vf,vg,ai,vc,vl,rfl,⟨lf,lg,aT⟩,T,U⟩:=hv
 simp only at lf lg aT T U HV⊢;obtain⟨N,O,rfl,_⟩:=lf
 obtain⟨P,Q,rfl,_⟩:=lg
 obtain⟨V,sc,rfl,_⟩:=aT
 obtain⟨Y,Z,rfl⟩:=T.shape
 obtain⟨ya,yc,rfl⟩:=U.shape
 obtain⟨E,ae⟩: ∃E,E=bY J ⟨H,l,m⟩:=⟨_,rfl⟩
 have HE:=hid ae;rw[←ae];clear T U hs F G ae;obtain⟨I,f⟩: ∃X,X=w.alloc (.cells #[.slice N H.fos.length O,.slice P H.gs.length Q,.slice V H.ss.length sc,.int .i64 H.nx,.int .i64 H.la,.int .i64 H.ro,.int .i64 H.now,.slice Y l.length Z,.slice ya m.length yc] 32):=⟨_,rfl⟩
 have z:Below w.heap.size w I:=by rw[f];exact(Below.refl _ _).alloc (Nat.le_refl _) _
 have d:=hid (show Cs I w.heap.size [.slice N H.fos.length O,.slice P H.gs.length Q,.slice V H.ss.length sc,.int .i64 H.nx,.int .i64 H.la,.int .i64 H.ro,.int .i64 H.now,.slice Y l.length Z,.slice ya m.length yc] by rw[f];exact Cs.new w [.slice N H.fos.length O,.slice P H.gs.length Q,.slice V H.ss.length sc,.int .i64 H.nx,.int .i64 H.la,.int .i64 H.ro,.int .i64 H.now,.slice Y l.length Z,.slice ya m.length yc] _);have A:=hid f.symm;have I0:w.heap.size<I.heap.size:=d.out.lt;clear f;have p0:=d.out.cell 0 rfl;have p1:=d.out.cell 1 rfl;have p2:=d.out.cell 2 rfl;have p3:=d.out.cell 3 rfl;have p4:=d.out.cell 4 rfl;have p5:=d.out.cell 5 rfl;have p6:=d.out.cell 6 rfl;have p7:=d.out.cell 7 rfl;have p8:=d.out.cell 8 rfl;go_enter func7,ntmps7
 go_upto_region 1 with fail;rw[A.out];clear A;go_wp2_with fail;refine(pw J ⟨H,l,m⟩ _ I (HV.out.below z) HS.out K.out (by omega) (M.out I z)).mono ?_
 rintro e w1 ⟨hp,S⟩;have y:=ag z S;clear p0 p1 p2 p3 p4 p5 p6 p7 p8;rcases hp with⟨h,rfl⟩|⟨h,rfl,_⟩
 · rw[←HE.out]at h⊢
   clear h;go_wp2_with fail;go_ret;exact⟨rfl,y⟩
 · rw[←HE.out]at h
   subst h;go_wp2_with fail;go_ret;exact⟨rfl,y⟩
theorem Ii (W:Wd) (v:Value) (w:World) (hv:eI w v W) (hs:iA W) (hu: ∀s∈W.hb.fos,s.na.size≤1048576∧(∀e∈s.jo.base,e.path.size≤1048576∧e.text.size≤1048576)∧eO 1048576 s.jo.cos) (I8: ∀c∈W.cls,(∀e∈c.base,e.path.size≤1000000000)∧ ∀e∈c.mine,e.path.size≤1000000000) (h6:5<w.heap.size) (I9:aX w):
    Calls prog 3 #[v] w fun e w'=>e= .returned (.bool true)∧Below w.heap.size w w':=by
 obtain⟨H,l,m⟩:=W
 have V:=hid hv;have T:=hid hs;have HU:=hid hu;have S:=hid I8;have A:=hid (fun X (hW:Below w.heap.size w X)=>(show aX X∧5<X.heap.size from⟨I9.belowB h6 hW,by have:=hW.size;omega⟩));have U:=hid (fun(x:Lr) (_:x∈m) (_:x.ans=true)=>Ho);obtain⟨vf,vg,ai,vc,vl,rfl,⟨lf,lg,aT⟩,lc,ll⟩:=hv
 simp only at lf lg aT lc ll V HU S⊢;obtain⟨fa,fc,rfl,_⟩:=lf
 obtain⟨ga,gc,rfl,_⟩:=lg
 obtain⟨sa,sc,rfl,_⟩:=aT
 obtain⟨xa,xc,rfl⟩:=lc.shape
 obtain⟨ya,yc,rfl⟩:=ll.shape
 obtain⟨E,ae⟩: ∃E,E=bY fx ⟨H,l,m⟩:=⟨_,rfl⟩
 have HE:=hid ae.symm;obtain⟨Q,hQ⟩: ∃Q,Q=Wo.stB fx ⟨H,l,m⟩:=⟨_,rfl⟩
 have HQ:=hid (show Q=(decide (E=0) && l.all (cV H)) by rw[hQ,Wo.stB,←ae]);have Iv:=hid hQ.symm;clear lc ll hs hu I8 I9 ae hQ;obtain⟨P,K⟩: ∃X,X=w.alloc (.cells #[.slice fa H.fos.length fc,.slice ga H.gs.length gc,.slice sa H.ss.length sc,.int .i64 H.nx,.int .i64 H.la,.int .i64 H.ro,.int .i64 H.now,.slice xa l.length xc,.slice ya m.length yc] 32):=⟨_,rfl⟩
 have J:Below w.heap.size w P:=by rw[K];exact(Below.refl _ _).alloc (Nat.le_refl _) _
 have F:=hid (show Cs P w.heap.size [.slice fa H.fos.length fc,.slice ga H.gs.length gc,.slice sa H.ss.length sc,.int .i64 H.nx,.int .i64 H.la,.int .i64 H.ro,.int .i64 H.now,.slice xa l.length xc,.slice ya m.length yc] by rw[K];exact Cs.new w [.slice fa H.fos.length fc,.slice ga H.gs.length gc,.slice sa H.ss.length sc,.int .i64 H.nx,.int .i64 H.la,.int .i64 H.ro,.int .i64 H.now,.slice xa l.length xc,.slice ya m.length yc] _);have Y:=hid K.symm;have IC:w.heap.size<P.heap.size:=F.out.lt;clear K;have p0:=F.out.cell 0 rfl;have p1:=F.out.cell 1 rfl;have p2:=F.out.cell 2 rfl;have p3:=F.out.cell 3 rfl;have p4:=F.out.cell 4 rfl;have p5:=F.out.cell 5 rfl;have p6:=F.out.cell 6 rfl;have p7:=F.out.cell 7 rfl;have p8:=F.out.cell 8 rfl;go_enter func3,ntmps3
 go_upto_region 1 with fail;rw[Y.out];clear Y;go_wp2_with fail;refine(zd fx ⟨H,l,m⟩ _ P (V.out.below J) T.out U.out (A.out P J).2 (A.out P J).1).mono ?_
 rintro e w1 ⟨rfl,I0⟩;rw[HE.out,Iv.out];have M:=ag J I0;have d:=hid (F.out.below I0);clear p0 p1 p2 p3 p4 p5 p6 p7 p8;have br:=d.out.cell 0 rfl;have q1:=d.out.cell 1 rfl;have bZ:=d.out.cell 2 rfl;have q3:=d.out.cell 3 rfl;have q4:=d.out.cell 4 rfl;have q5:=d.out.cell 5 rfl;have q6:=d.out.cell 6 rfl;have q7:=d.out.cell 7 rfl;have q8:=d.out.cell 8 rfl;go_wp2_with fail;refine(Hw H l m _ w1 (V.out.below M) T.out.hb HU.out T.out.cls S.out T.out.les).mono ?_
 rintro e w2 ⟨rfl,I5⟩;rw[HE.out];have G:=ag M I5;have Ix:=hid (d.out.below I5);clear br q1 bZ q3 q4 q5 q6 q7 q8;go_wp2_with fail;refine(Ie w2 (A.out w2 G).2 (A.out w2 G).1).mono ?_
 rintro e w3 ⟨rfl,I6⟩;have z:=ag G I6;have f:=hid (Ix.out.below I6);have r0:=f.out.cell 0 rfl;have r1:=f.out.cell 1 rfl;have r2:=f.out.cell 2 rfl;have r3:=f.out.cell 3 rfl;have r4:=f.out.cell 4 rfl;have r5:=f.out.cell 5 rfl;have r6:=f.out.cell 6 rfl;have r7:=f.out.cell 7 rfl;have r8:=f.out.cell 8 rfl;go_wp2_with fail;refine(Ih fx ⟨H,l,m⟩ _ w3 (V.out.below z) T.out U.out (A.out w3 z).2 (A.out w3 z).1).mono ?_
 rintro e w4 ⟨rfl,I7⟩;rw[HE.out];have I:=ag z I7;have y:=hid (f.out.below I7);clear r0 r1 r2 r3 r4 r5 r6 r7 r8;have IA:(E==E)=true:=beq_self_eq_true E;by_cases O:E=0
 · have HA:=hid (show l.all (cV H)=Q by rw[HQ.out,decide_eq_true O];rfl)
   have N:bY fx ⟨H,l,m⟩=0:=by rw[HE.out,O]
   have HH:=hid (tl N);have HL:=hid (Ig N);clear N;subst O;have s0:=y.out.cell 0 rfl;have s1:=y.out.cell 1 rfl;have s2:=y.out.cell 2 rfl;have s3:=y.out.cell 3 rfl;have s4:=y.out.cell 4 rfl;have s5:=y.out.cell 5 rfl;have s6:=y.out.cell 6 rfl;have s7:=y.out.cell 7 rfl;have s8:=y.out.cell 8 rfl;go_wp2_with fail;refine(If H l m _ w4 (V.out.below I) HH.out HL.out (fun s hs=>⟨fun e he=>by have:=((HU.out s hs).2.1 e he).1;omega,(HU.out s hs).2.2.mono (by decide)⟩)).mono ?_
   rintro e w5 ⟨rfl,Iy⟩;rw[HA.out];have Z:=ag I Iy;clear s0 s1 s2 s3 s4 s5 s6 s7 s8;have IB:(Q==Q)=true:=beq_self_eq_true Q;go_wp2_with fail;go_ret;exact⟨by first|rfl|simp,Z⟩
 · have Iz:(E==0)=false:=by simpa using O
   have Iw:=hid (show Q=false by rw[HQ.out,decide_eq_false O];rfl);obtain rfl:=Iw.out;clear O;go_wp2_with fail;go_ret;exact⟨rfl,I⟩
end Go.Proofs.YtcmlnelpcjfocaaGreatDoor
