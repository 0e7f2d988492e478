/- A hub that passes Check, served: what hub.serving answers. -/
import Derived.Test.YtdlpjlfefjipkaaGreatHFZD
set_option linter.unusedSimpArgs false
set_option linter.unusedVariables false
namespace Go.Proofs.YtdlpjlfefjipkaaGreat
open Go.RowKit Go.Maps Go.WideMaps Go.Proofs.Tryz
set_option maxHeartbeats 8000000
set_option maxRecDepth 100000
theorem aK.nb {W s:World} {v:Value} {L:List Se} {g:Nat} (h:aK W v L) (x:W.grownBy s (some g)) (F:di W g):aK s v L:=by
 obtain⟨a,f,G,z,A,B⟩:=h
 refine⟨a,f,G,z,A,fun i E=>?_⟩
 obtain⟨b,o,C,u,d⟩:=B i E
 have j:b≠g:=fun e=>F _ _ (e▸d.2.1)
 have c:=iK x u j;exact⟨b,o,C,Nat.lt_of_lt_of_le u x.size,(c _).trans d.1,(c _).trans d.2.1,(c _).trans d.2.2.1,(c _).trans d.2.2.2.1,(c _).trans d.2.2.2.2⟩
def ae (H:Hb):Int:=if H.now<0∨1099511627776<H.now then 3 else if¬Hu.cfE H.fos=0 then Hu.cfE H.fos else if¬bh H.gs=0 then bh H.gs else if¬dj H.fos H.gs=0 then dj H.fos H.gs else be H.ss H.nx H.la H.ro
theorem mA {H:Hb} (h:H.now<0∨1099511627776<H.now):ae H=3:=by rw[ae,if_pos h]
theorem qB {H:Hb} (h: ¬(H.now<0∨1099511627776<H.now)) (a: ¬Hu.cfE H.fos=0):ae H=Hu.cfE H.fos:=by rw[ae,if_neg h,if_pos a]
theorem qC {H:Hb} (h: ¬(H.now<0∨1099511627776<H.now)) (a:Hu.cfE H.fos=0) (c: ¬bh H.gs=0):ae H=bh H.gs:=by rw[ae,if_neg h,if_neg (fun x=>x a),if_pos c]
theorem qD {H:Hb} (h: ¬(H.now<0∨1099511627776<H.now)) (a:Hu.cfE H.fos=0) (c:bh H.gs=0) (d: ¬dj H.fos H.gs=0):ae H=dj H.fos H.gs:=by rw[ae,if_neg h,if_neg (fun x=>x a),if_neg (fun x=>x c),if_pos d]
theorem nP {H:Hb} (h: ¬(H.now<0∨1099511627776<H.now)) (a:Hu.cfE H.fos=0) (c:bh H.gs=0) (d:dj H.fos H.gs=0):ae H=be H.ss H.nx H.la H.ro:=by rw[ae,if_neg h,if_neg (fun x=>x a),if_neg (fun x=>x c),if_neg (fun x=>x d)]
theorem ff {H:Hb} (h:ae H=0): ¬(H.now<0∨1099511627776<H.now)∧Hu.cfE H.fos=0∧bh H.gs=0∧dj H.fos H.gs=0∧be H.ss H.nx H.la H.ro=0:=by
 by_cases a:H.now<0∨1099511627776<H.now
 · rw[mA a]at h;cases h
 · by_cases b:Hu.cfE H.fos=0
   · by_cases c:bh H.gs=0
     · by_cases d:dj H.fos H.gs=0
       · rw[nP a b c d]at h;exact⟨a,b,c,d,h⟩
       · rw[qD a b c d]at h;exact absurd h d
     · rw[qC a b c]at h;exact absurd h c
   · rw[qB a b]at h;exact absurd h b
theorem iv {L:List Sh} (h:Hu.cfE L=0):L.length≤8∧iR L=0∧dQ L=true:=by
 rw[Hu.cfE]at h;by_cases a:8<L.length
 · rw[if_pos a]at h;cases h
 · rw[if_neg a]at h
   by_cases b:iR L=0
   · rw[if_neg (fun x=>x b)]at h
     cases c:dQ L with
     |true=>exact⟨by omega,b,rfl⟩
     |false=>rw[c]at h;simp at h
   · rw[if_pos b]at h;exact absurd h b
theorem BG {s:Sh} (h:bM s=0):aU [s.na]=0∧aT s.jo=0:=by
 rw[bM]at h;by_cases a:aU [s.na]=0
 · rw[if_neg (fun x=>x a)]at h;exact⟨a,h⟩
 · rw[if_pos a]at h;exact absurd h a
theorem qE {L:List Sh} (h:Hu.cfE L=0) {s:Sh} (c:s∈L):aU [s.na]=0∧aT s.jo=0:=by
 obtain⟨i,a,rfl⟩:=List.getElem_of_mem c
 exact BG (qk.1 (iv h).2.1 i a)
theorem BH {J:Jo} (h:aT J=0):J.cos.length≤1000∧J.base.length≤1000∧ ∀c∈J.cos,c.ch.length≤1000000000:=by
 obtain⟨a,_,f,_⟩:=fp h
 have g:=((g9 _).1 a).len;exact⟨by omega,by omega,fun c d=>by have:=nk h c d;omega⟩
def Sv (B:Nat) (w:World) (g mb:Nat) (vf vg vs:Value) (H:Hb):Prop:=Cs w g [vf,vg,vs,.int .i64 H.nx,.int .i64 H.la,.int .i64 H.ro,.int .i64 H.now,.map (some mb)]∧eR B w vf H.fos∧(bj w vg H.gs∧Fr B vg)∧(aK w vs H.ss∧Fr B vs)∧(∀b,vf.ownBlock=some b→Fr (b+1) vg∧Fr (b+1) vs)∧Rm w vf
def dZ (w:World) (mb n:Nat) (H:Hb):Prop:=w.ownsMap prog 9 (plainElem prog 3) mb n (Jn.D (Hu.told H.fos H.gs))
theorem Sv.below {B:Nat} {w w':World} {g c:Nat} {d f vs:Value} {H:Hb} (h:Sv B w g c d f vs H) (a:Below w.heap.size w w'):Sv B w' g c d f vs H:=by
 obtain⟨i,j,⟨o,s⟩,⟨u,v⟩,x,z⟩:=h
 exact⟨i.below a,j.below a,⟨o.below a,s⟩,⟨u.below a,v⟩,x,z.below a⟩
theorem dZ.below {w w':World} {c n:Nat} {H:Hb} (h:dZ w c n H) (a:Below w.heap.size w w'):dZ w' c n H:=
 World.ownsMap.kept (row:=none) h ⟨a.os,a.tape,a.output,a.size,fun k d _=>a.block k d⟩ (by simp)
theorem dZ.nb {w w':World} {c n g:Nat} {H:Hb} (h:dZ w c n H) (d:w.grownBy w' (some g)) (a:c≠g):dZ w' c n H:=
 World.ownsMap.kept (row:=some g) h d (fun e=>a (by injection e))
theorem qF (H:Hb) (v:Value) (w:World) (hv:aX w v H) (hs:dd H):
    Calls prog 10 #[v] w fun e w'=> ∃p,e= .returned (.tuple #[p,ae H])∧(ae H=0→p= .pointer (some ⟨w.heap.size+1+1,0,none⟩)∧ ∃B vf vg vs,w.heap.size+1+1+1≤B∧B≤w'.heap.size∧Sv B w' (w.heap.size+1+1) (w.heap.size+1) vf vg vs H∧dZ w' (w.heap.size+1) H.gs.length H)∧(¬ae H=0→p= .pointer none)∧Below w.heap.size w w':=by
 obtain⟨fos,gs,ss,nx,la,ro,now⟩:=H
 have HV:=hid hv;obtain⟨vf,vg,vs,rfl,lf,lg,ls⟩:=hv
 simp only at lf lg ls;obtain⟨sf,sg,EL⟩:=hs
 simp only at sf sg EL;have E4:=hid lf;have E5:=hid lg;have Fb:=hid ls;have Fh:=hid sf;have EU:=hid sg;have Fj:=hid EL;obtain⟨P,Q,rfl,_⟩:=lf
 obtain⟨R,S,rfl,_⟩:=lg
 obtain⟨T,U,rfl,_⟩:=ls
 clear sf sg EL;have Ft:=Tryz.makeNumbers;obtain⟨wa,K⟩: ∃wa,wa=w.alloc (.cells #[.slice P fos.length Q,.slice R gs.length S,.slice T ss.length U,nx,la,ro,now] 28):=⟨_,rfl⟩
 obtain⟨wb,M⟩: ∃wb,wb=wa.alloc (.map #[] 0):=⟨_,rfl⟩
 obtain⟨O,N⟩: ∃O,O=wb.alloc (.cells #[.slice P fos.length Q,.slice R gs.length S,.slice T ss.length U,nx,la,ro,now,.map (some (w.heap.size+1))] 54):=⟨_,rfl⟩
 have u9:wa.heap.size=w.heap.size+1:=by rw[K];simp
 have F9:wb.heap.size=w.heap.size+1+1:=by rw[M];simp[u9]
 have EZ:Below w.heap.size w wa:=by rw[K];exact ak
 have E7:Below wa.heap.size wa wb:=by rw[M];exact ak
 have E8:Below wb.heap.size wb O:=by rw[N];exact ak
 have X:Below w.heap.size w O:=an EZ (an E7 E8);have HX:Hid (Cs O w.heap.size [.slice P fos.length Q,.slice R gs.length S,.slice T ss.length U,nx,la,ro,now]):=(((by rw[K];exact Cs.new w [.slice P fos.length Q,.slice R gs.length S,.slice T ss.length U,nx,la,ro,now] _:Cs wa w.heap.size [.slice P fos.length Q,.slice R gs.length S,.slice T ss.length U,nx,la,ro,now]).below E7).below E8:Cs O w.heap.size _)
 have HY:Hid (Cs O (w.heap.size+1+1) [.slice P fos.length Q,.slice R gs.length S,.slice T ss.length U,nx,la,ro,now,.map (some (w.heap.size+1))]):=(by rw[←F9,N];exact Cs.new wb [.slice P fos.length Q,.slice R gs.length S,.slice T ss.length U,nx,la,ro,now,.map (some (w.heap.size+1))] _:Cs O (w.heap.size+1+1) _)
 have HM:=hid (show O.ownsMap prog 9 (plainElem prog 3) (w.heap.size+1) 0 (.map []:DataW Unit)from by
  have h:=(World.ownsMap_made wa prog 9 (plainElem (H:=Unit) prog 3)).alloc (.cells #[.slice P fos.length Q,.slice R gs.length S,.slice T ss.length U,nx,la,ro,now,.map (some (w.heap.size+1))] 54);rw[N,M,←u9];exact(u9▸h))
 have Fs:w.heap.size+1+1<O.heap.size:=HY.out.lt;have E3:(((w.alloc (.cells #[.slice P fos.length Q,.slice R gs.length S,.slice T ss.length U,nx,la,ro,now] 28)).alloc (.map #[] 0)).alloc (.cells #[.slice P fos.length Q,.slice R gs.length S,.slice T ss.length U,nx,la,ro,now,.map (some (w.heap.size+1))] 54))=O:=by rw[N,M,K]
 have EW:=hid E3;clear K M N EZ E7 E8 u9 F9 E3;go_enter func10,ntmps10
 go_upto_region 2 with fail;rw[EW.out];clear EW;have p6:=HY.out.cell 6 rfl;have p0:=HY.out.cell 0 rfl;by_cases F4:now<0
 · have f:=hid (show ae ⟨fos,gs,ss,nx,la,ro,now⟩=3 from mA (Or.inl F4))
   go_wp2_with fail;go_ret2;exact⟨_,by rw[f.out];rfl,(fun h=>by rw[f.out]at h;cases h),(fun _=>rfl),X⟩
 by_cases F5:1099511627776<now
 · have f:=hid (show ae ⟨fos,gs,ss,nx,la,ro,now⟩=3 from mA (Or.inr F5))
   go_wp2_with fail;go_ret2;exact⟨_,by rw[f.out];rfl,(fun h=>by rw[f.out]at h;cases h),(fun _=>rfl),X⟩
 have E:=hid (show¬(now<0∨1099511627776<now)from fun x=>x.elim F4 F5);go_wp2_with fail;refine(Ba fos _ _ (E4.out.below X) Fh.out).mono ?_
 rintro e w1 ⟨rfl,I⟩;have G:=an X I;have EX:=hid (HY.out.below I);have Fl:=hid (HX.out.below I);have Fv:=I.size;clear p0 p6;by_cases a: ¬(Hu.cfE fos=0)
 · skip
   have hz:(Hu.cfE fos==0)=false:=by simpa using a
   have EK:(Hu.cfE fos !=0)=true:=by simpa using a
   have f:=hid (qB (H:=⟨fos,gs,ss,nx,la,ro,now⟩) E.out a);have H0:=hid a;clear a;generalize Hu.cfE fos=rr at*;go_wp2_with fail;go_ret2;exact⟨_,by rw[f.out];rfl,(fun h=>absurd (f.out▸h) H0.out),(fun _=>rfl),G⟩
 replace a:=Decidable.not_not.1 a;have g:=hid a;rw[a];clear a;have p1:=EX.out.cell 1 rfl;go_wp2_with fail;refine(pV gs _ _ (E5.out.below G) EU.out).mono ?_
 rintro e w2 ⟨rfl,J⟩;have d:=an G J;have EY:=hid (EX.out.below J);have Fm:=hid (Fl.out.below J);have Fw:=J.size;clear p1;by_cases a: ¬(bh gs=0)
 · skip
   have hz:(bh gs==0)=false:=by simpa using a
   have EK:(bh gs !=0)=true:=by simpa using a
   have f:=hid (qC (H:=⟨fos,gs,ss,nx,la,ro,now⟩) E.out g.out a);have H0:=hid a;clear a;generalize bh gs=rr at*;go_wp2_with fail;go_ret2;exact⟨_,by rw[f.out];rfl,(fun h=>absurd (f.out▸h) H0.out),(fun _=>rfl),d⟩
 replace a:=Decidable.not_not.1 a;have C:=hid a;rw[a];clear a;have j:=an I J;have EP:=hid (show w2.ownsMap prog 9 (plainElem prog 3) (w.heap.size+1) 0 (.map []:DataW Unit)from HM.out.kept (row:=none) ⟨j.os,j.tape,j.output,j.size,fun k hk _=>j.block k hk⟩ (by simp));have E6:Hid (di w2 (w.heap.size+1)):=pd EP.out;go_wp2_with fail;refine(Bg fos gs _ _ _ nx la ro now (w.heap.size+1+1) (w.heap.size+1) _ EY.out EP.out (by omega) (E4.out.below d) (E5.out.below d) EU.out (iv g.out).2.2 (iv g.out).1 (jP C.out).1).mono ?_
 rintro e w3 ⟨rfl,u,F3⟩;have EQ:=hid F3;have E1:Below w.heap.size w w3:=d.grown u (by omega) (fun k hk=>by injection hk with hk;omega);have F:=hid (EY.out.nb u (by omega));have Fo:=hid (Fm.out.nb u (by omega));have EN:=hid ((E4.out.below d).nb u E6.out);have EO:=hid ((E5.out.below d).nb u E6.out);have E0:=hid ((Fb.out.below d).nb u E6.out);have Fx:=u.size;clear F3;by_cases a: ¬(dj fos gs=0)
 · skip
   have hz:(dj fos gs==0)=false:=by simpa using a
   have EK:(dj fos gs !=0)=true:=by simpa using a
   have f:=hid (qD (H:=⟨fos,gs,ss,nx,la,ro,now⟩) E.out g.out C.out a);have H0:=hid a;clear a;generalize dj fos gs=rr at*;go_wp2_with fail;go_ret2;exact⟨_,by rw[f.out];rfl,(fun h=>absurd (f.out▸h) H0.out),(fun _=>rfl),E1⟩
 replace a:=Decidable.not_not.1 a;have EV:=hid a;have Fc:=hid (EQ.out a);rw[a];clear a EQ;have q2:=F.out.cell 2 rfl;have q3:=F.out.cell 3 rfl;have q4:=F.out.cell 4 rfl;have q5:=F.out.cell 5 rfl;go_wp2_with fail;refine(ld ss _ nx la ro _ E0.out Fj.out).mono ?_
 rintro e w4 ⟨rfl,i⟩;have E2:=an E1 i;have Fp:=hid (F.out.below i);have o:=hid (Fo.out.below i);have Fy:=i.size;clear q2 q3 q4 q5;by_cases a: ¬(be ss nx la ro=0)
 · skip
   have hz:(be ss nx la ro==0)=false:=by simpa using a
   have EK:(be ss nx la ro !=0)=true:=by simpa using a
   have f:=hid (by have:=nP (H:=⟨fos,gs,ss,nx,la,ro,now⟩) E.out g.out C.out EV.out;exact this:ae ⟨fos,gs,ss,nx,la,ro,now⟩=be ss nx la ro);have H0:=hid a;clear a;generalize be ss nx la ro=rr at*;go_wp2_with fail;go_ret2;exact⟨_,by rw[f.out];rfl,(fun h=>absurd (f.out▸h) H0.out),(fun _=>rfl),E2⟩
 replace a:=Decidable.not_not.1 a;have f:=hid (show ae ⟨fos,gs,ss,nx,la,ro,now⟩=0 from by rw[nP (H:=⟨fos,gs,ss,nx,la,ro,now⟩) E.out g.out C.out EV.out];exact a);have Fi:Hid (ss.length≤20):=(cQ (bu a).1).1;rw[a];clear a;have x0:=o.out.cell 0 rfl;have x1:=o.out.cell 1 rfl;have x2:=o.out.cell 2 rfl;have x3:=o.out.cell 3 rfl;have x4:=o.out.cell 4 rfl;have x5:=o.out.cell 5 rfl;have x6:=o.out.cell 6 rfl;go_wp2_with fail;refine(A0 ⟨fos,gs,ss,nx,la,ro,now⟩ _ _ ⟨_,_,_,rfl,EN.out.below i,EO.out.below i,E0.out.below i⟩ (by have:=(iv g.out).1;simp only;omega) (fun s hs=>BH (qE g.out hs).2) (by have:=(jP C.out).1;simp only;omega) (by have:=Fi.out;simp only;omega)).mono ?_
 rintro e w5 ⟨uf,ug,us,rfl,Y,⟨E9,F6⟩,⟨EJ,F7⟩,F0,F8,V⟩;have Ff:=hid F8;clear F8;simp only at Y E9 EJ;have ER:=hid Y;have Fa:=hid E9;have ES:=hid F6;have Fg:=hid EJ;have ET:=hid F7;have EM:=hid F0;have c:=hid (Fp.out.below V);have Fz:=V.size;have F1:=an E2 V;obtain⟨ua,uc,rfl,_⟩:=Y.lies
 obtain⟨xa,xc,rfl,_⟩:=E9
 obtain⟨ya,yc,rfl,_⟩:=EJ
 clear Y F6 F7 F0 x0 x1 x2 x3 x4 x5 x6;obtain⟨w6,Z⟩: ∃w6,w6=(((((((w5.setCell ⟨w.heap.size+1+1,0,none⟩ (.slice ua fos.length uc)).setCell ⟨w.heap.size+1+1,1,none⟩ (.slice xa gs.length xc)).setCell ⟨w.heap.size+1+1,2,none⟩ (.slice ya ss.length yc)).setCell ⟨w.heap.size+1+1,3,none⟩ nx).setCell ⟨w.heap.size+1+1,4,none⟩ la).setCell ⟨w.heap.size+1+1,5,none⟩ ro).setCell ⟨w.heap.size+1+1,6,none⟩ now):=⟨_,rfl⟩
 have z:w5.grownBy w6 (some (w.heap.size+1+1)):=by rw[Z];exact(ar (ar (ar (ar (ar (ar (aj w5 (w.heap.size+1+1) 0 (.slice ua fos.length uc)) (aj _ (w.heap.size+1+1) 1 (.slice xa gs.length xc))) (aj _ (w.heap.size+1+1) 2 (.slice ya ss.length yc))) (aj _ (w.heap.size+1+1) 3 nx)) (aj _ (w.heap.size+1+1) 4 la)) (aj _ (w.heap.size+1+1) 5 ro)) (aj _ (w.heap.size+1+1) 6 now))
 have Fq:Hid (Cs w6 (w.heap.size+1+1) [.slice ua fos.length uc,.slice xa gs.length xc,.slice ya ss.length yc,nx,la,ro,now,.map (some (w.heap.size+1))]):=(by rw[Z];exact(((((((c.out.set 0 (.slice ua fos.length uc)).set 1 (.slice xa gs.length xc)).set 2 (.slice ya ss.length yc)).set 3 nx).set 4 la).set 5 ro).set 6 now):Cs w6 (w.heap.size+1+1) _)
 have F2:Below w.heap.size w w6:=by rw[Z];exact(ei (b:=w.heap.size+1+1) F1 (by show _≤w.heap.size+1+1;omega))
 have Fe:=hid (show dZ w6 (w.heap.size+1) gs.length ⟨fos,gs,ss,nx,la,ro,now⟩from(dZ.below (H:=⟨fos,gs,ss,nx,la,ro,now⟩) (dZ.below (H:=⟨fos,gs,ss,nx,la,ro,now⟩) Fc.out i) V).nb z (by omega));have Fk:=hid (show Sv w4.heap.size w6 (w.heap.size+1+1) (w.heap.size+1) (.slice ua fos.length uc) (.slice xa gs.length xc) (.slice ya ss.length yc) ⟨fos,gs,ss,nx,la,ro,now⟩from⟨Fq.out,ER.out.nbo z (by omega),⟨iS.2 ((iS.1 Fa.out).nbo z (fun x A=>by have:=(ES.out x A).1;omega)),fun x A=>(ES.out x A).1⟩,⟨jO.2 ((jO.1 Fg.out).nbo z (fun x A=>by have:=(ET.out x A).1;omega)),fun x A=>(ET.out x A).1⟩,fun b hb=>⟨fun x A=>((EM.out b hb).1 x A).1,fun x A=>((EM.out b hb).2 x A).1⟩,Ff.out.nb z (fun x A=>by obtain⟨_,_,_,ho,_⟩:=ER.out;have:=(ho x A).1;omega)⟩);have p0:=c.out.cell 0 rfl;have f0:=c.out.fr 0;have p1:=c.out.cell 1 rfl;have f1:=c.out.fr 1;have p2:=c.out.cell 2 rfl;have f2:=c.out.fr 2;have p3:=c.out.cell 3 rfl;have f3:=c.out.fr 3;have p4:=c.out.cell 4 rfl;have f4:=c.out.fr 4;have p5:=c.out.cell 5 rfl;have f5:=c.out.fr 5;have p6:=c.out.cell 6 rfl;have f6:=c.out.fr 6;go_wp2_with fail;rw[←Z];go_ret2;exact⟨_,by rw[f.out];rfl,(fun _=>⟨rfl,w4.heap.size,_,_,_,by omega,by have:=z.size;omega,Fk.out,Fe.out⟩),(fun h=>absurd f.out h),F2⟩
theorem BI {L:List Sh} (B:dQ L=true) {x:ByteArray} (h:cl L x=true): ∃g:cj L x<L.length,L[cj L x].na.data.toList=x.data.toList:=by
 obtain⟨s,C,c⟩:=List.any_eq_true.1 h
 have c:cH s x=0:=of_decide_eq_true c;obtain⟨m,A,rfl⟩:=List.getElem_of_mem C
 have g:cj L x<L.length:=List.findIdx_lt_length_of_exists ⟨L[m],List.getElem_mem A,decide_eq_true (by omega)⟩;refine⟨g,?_⟩
 have v:0≤cH L[cj L x] x:=by
  have:=List.findIdx_getElem (p:=fun s=>decide (0≤cH s x)) (w:=g)
  exact of_decide_eq_true this
 have z:cj L x≤m:=by
  rcases Nat.lt_or_ge m (cj L x)with f|a
  · have:=List.not_of_lt_findIdx (p:=fun s=>decide (0≤cH s x)) f
    simp at this;omega
  · exact a
 by_cases e:cj L x=m
 · simp only[e];exact i9 _ _ c
 · obtain⟨d,u⟩: ∃d,m=cj L x+d+1:=⟨m-cj L x-1,by omega⟩
   have i:=mw B d (cj L x) (by omega);have j:L[m].na.data.toList=x.data.toList:=i9 _ _ c;have o:(L[cj L x+d+1]'(by omega)).na.data.toList=x.data.toList:=by rw[←j];simp only[u]
   rw[o]at i;have E:cH L[cj L x] x<0:=i;omega
theorem BJ (L:List Sh) {x y:ByteArray} (h:x.data.toList=y.data.toList):cj L x=cj L y:=by
 unfold cj cH;rw[h]
theorem BK (L:List Sh) {x y:ByteArray} (h:x.data.toList=y.data.toList):cl L x=cl L y:=by
 unfold cl cH;rw[h]
def bJ (G:List Gr) (x:ByteArray):Bool:=dy (Hu.told [] G) x.data.toList
theorem qG (L:List Sh) (G:List Gr) (p:List UInt8):dy (Hu.told L G) p=G.any (fun g=>g.fo.data.toList==p):=by
 unfold dy Hu.told;rw[List.any_map];rfl
theorem ve (L:List Sh) (G:List Gr) (x:ByteArray):dy (Hu.told L G) x.data.toList=bJ G x:=by rw[bJ,qG,qG]
theorem iw (G:List Gr) (x:ByteArray):bJ G x=G.any (fun g=>g.fo.data.toList==x.data.toList):=by rw[bJ,qG]
def aV (L:List Sh) (G:List Gr) (x:ByteArray):Nat:=if bJ G x=true then cj L x else 0
theorem vh (L:List Sh) (x:ByteArray): ∀G:List Gr,(Jn.D (Hu.told L G)).atKey (Jn.key x) (Jn.num 0)=Jn.num (aV L G x):=by
 intro G;refine lS (P:=fun G=>(Jn.D (Hu.told L G)).atKey (Jn.key x) (Jn.num 0)=Jn.num (aV L G x)) rfl ?_ G
 intro G g ih;have e:Hu.told L (G++[g])=Hu.told L G++[⟨cj L g.fo,g.fo,[]⟩]:=by unfold Hu.told;simp
 rw[e,kY];by_cases a:Jn.key x=Jn.key g.fo
 · have c:=oZ a
   rw[a,Maps.atKey_put_same (lR _).isMap (m6 _),aV,if_pos (by rw[iw,List.any_append];simp[c]),BJ L c]
 · rw[Maps.atKey_put_other a,ih,aV,aV]
   have d: ¬g.fo.data=x.data:=fun h=>a (by rw[Jn.key,Jn.key,h])
   have:bJ (G++[g]) x=bJ G x:=by rw[iw,iw,List.any_append];simp[d]
   rw[this]
theorem BL {L:List Sh} {G:List Gr} (h:dj L G=0) {x:ByteArray} (c:bJ G x=true):cl L x=true:=by
 rw[iw,List.any_eq_true]at c;obtain⟨g,i,a⟩:=c
 have d:(G.all fun g=>cl L g.fo)=true:=by
  cases f:(G.all fun g=>cl L g.fo)with
  |true=>rfl
  |false=>rw[dj,f]at h;simp at h
 have:=List.all_eq_true.1 d g i
 rw[←BK L (by simpa using a:g.fo.data.toList=x.data.toList)];exact this
theorem lu {H:Hb} (h:ae H=0) {x:ByteArray} (a:bJ H.gs x=true): ∃f:aV H.fos H.gs x<H.fos.length,H.fos[aV H.fos H.gs x].na.data.toList=x.data.toList:=by
 obtain⟨_,c,_,d,_⟩:=ff h
 rw[aV,if_pos a];exact BI (iv c).2.2 (BL d a)
theorem vk {G:List Gr} {f h:ByteArray} (c: ¬aL G f h=0):bJ G f=true:=by
 rw[aL]at c;cases a:G.find? (dI f h)with
 |none=>rw[a]at c;exact absurd rfl c
 |some e=>
  have g:=List.mem_of_find?_eq_some a;have d:=List.find?_some a;rw[dI,Bool.and_eq_true]at d;rw[iw,List.any_eq_true];refine⟨e,g,?_⟩
  have:=d.1
  rw[Lib.toList_data,Lib.toList_data]at this;exact this
theorem vl {a b:Int} (h:Jn.num a= .lit (.int .i64 b)):a=b:=by
 unfold Jn.num at h;injection h with h
 injection h
def Hu.lst (k:Int):Int:=if k=1∨k=7 then 2 else if k=2∨k=3 then 1 else 0
def cD (G:List Gr) (q:Rq):Int:=if q.kind<1∨8<q.kind then 7 else if¬aU [q.who]=0 then aU [q.who]else if fU G q.fo q.who<Hu.lst q.kind then 9 else 0
theorem nQ {G:List Gr} {q:Rq} (h:q.kind<1∨8<q.kind):cD G q=7:=by rw[cD,if_pos h]
theorem qH {G:List Gr} {q:Rq} (h: ¬(q.kind<1∨8<q.kind)) (a: ¬aU [q.who]=0):cD G q=aU [q.who]:=by rw[cD,if_neg h,if_pos a]
theorem qI {G:List Gr} {q:Rq} (h: ¬(q.kind<1∨8<q.kind)) (a:aU [q.who]=0) (c:fU G q.fo q.who<Hu.lst q.kind):cD G q=9:=by rw[cD,if_neg h,if_neg (fun x=>x a),if_pos c]
theorem vn {G:List Gr} {q:Rq} (h: ¬(q.kind<1∨8<q.kind)) (a:aU [q.who]=0) (c: ¬fU G q.fo q.who<Hu.lst q.kind):cD G q=0:=by rw[cD,if_neg h,if_neg (fun x=>x a),if_neg c]
theorem nR {G:List Gr} {q:Rq} (h:cD G q=0):1≤q.kind∧q.kind≤8∧aU [q.who]=0∧Hu.lst q.kind≤fU G q.fo q.who:=by
 by_cases a:q.kind<1∨8<q.kind
 · rw[nQ a]at h;cases h
 · by_cases b:aU [q.who]=0
   · by_cases c:fU G q.fo q.who<Hu.lst q.kind
     · rw[qI a b c]at h;cases h
     · exact⟨by omega,by omega,b,by omega⟩
   · rw[qH a b]at h;exact absurd h b
theorem qJ {G:List Gr} {f h:ByteArray} (a:1≤fU G f h):bJ G f=true:=by
 rw[fU]at a;split at a
 · exact vk (h:=h) (by omega)
 · omega
structure cE (q:Rq):Prop where
 who:q.who.size≤150000000000000
 fo:q.fo.size≤150000000000000
 name:q.name.size≤150000000000000
 key:q.key.size≤150000000000000
 text:q.text.size≤150000000000000
 ch:dV 150000000000000 q.ch
theorem dZ.look {w:World} {f n:Nat} {H:Hb} (h:dZ w f n H) (x:ByteArray) (s:x.size≤150000000000000):(Instr.lookup 52 (.map (some f)) x false).run prog w= .ok (.int .i64 (aV H.fos H.gs x:Nat)) w:=by
 have o:x.size≤maxLen:=by unfold maxLen;omega
 obtain⟨c,a,d,_⟩:=World.ownsMap.lookup_int h (string_keyed underlying9) underlying52 underlying3 (Tryz.zeroInt w) (keyOf_string_mk underlying9 o)
 have g:=vh H.fos x H.gs;have i:Jn.num (aV H.fos H.gs x)= .lit (.int .i64 c):=g.symm.trans d;have j:(aV H.fos H.gs x:Int)=c:=vl i;rw[a,j]
theorem dZ.look2 {w:World} {f n:Nat} {H:Hb} (h:dZ w f n H) (x:ByteArray) (z:x.size≤150000000000000):(Instr.lookup 52 (.map (some f)) x true).run prog w= .ok (.tuple #[(aV H.fos H.gs x:Nat),bJ H.gs x]) w:=by
 have s:x.size≤maxLen:=by unfold maxLen;omega
 obtain⟨v,A,a,u⟩:=World.ownsMap.look_ok h (string_keyed underlying9) underlying52 (Tryz.zeroInt w) (plainElem_int underlying3 (by decide:(Lit.int .i64 0).wf=true)) (keyOf_string_mk underlying9 s)
 obtain⟨c,rfl,d,_⟩:=plainElem_int_inv underlying3 u
 simp only[Prod.mk.injEq]at d;have g:=vh H.fos x H.gs;have i:Jn.num (aV H.fos H.gs x)= .lit (.int .i64 c):=g.symm.trans d.1;have j:(aV H.fos H.gs x:Int)=c:=vl i;have o:Maps.has (Jn.D (Hu.told H.fos H.gs)) (Jn.key x)=bJ H.gs x:=by rw[kZ,ve]
 rw[a,j,←o];rfl
def bU (w:World) (g mb:Nat) (H:Hb):Prop:= ∃vf vg vs,Cs w g [vf,vg,vs,.int .i64 H.nx,.int .i64 H.la,.int .i64 H.ro,.int .i64 H.now,.map (some mb)]∧cR w vf H.fos∧bj w vg H.gs∧aK w vs H.ss
theorem Sv.lies {B:Nat} {w:World} {g a:Nat} {c d vs:Value} {H:Hb} (h:Sv B w g a c d vs H):bU w g a H:=⟨c,d,vs,h.1,h.2.1.lies,h.2.2.1.1,h.2.2.2.1.1⟩
theorem bU.below {w w':World} {g c:Nat} {H:Hb} (h:bU w g c H) (a:Below w.heap.size w w'):bU w' g c H:=by
 obtain⟨o,s,vs,d,f,i,j⟩:=h
 exact⟨o,s,vs,d.below a,f.below a,i.below a,j.below a⟩
theorem bU.nb {w w':World} {g d k:Nat} {H:Hb} (h:bU w g d H) (a:w.grownBy w' (some k)) (c:di w k) (s:g≠k):bU w' g d H:=by
 obtain⟨u,v,vs,f,i,j,o⟩:=h
 exact⟨u,v,vs,f.nb a s,i.nb a c,j.nb a c,o.nb a c⟩
def bo (v:Value) (g:Nat):Nat:=v.ownBlock.getD g
theorem BM (k:Int) (w:World):Calls prog 72 #[k] w fun e w'=>e= .returned (.int .i64 (Hu.lst k))∧w'=w:=by
 by_cases a:k=1
 · subst a
   go_enter func72,ntmps72
   go_wp2;go_ret;exact⟨rfl,rfl⟩
 by_cases f:k=7
 · subst f
   go_enter func72,ntmps72
   go_wp2;go_ret;exact⟨rfl,rfl⟩
 by_cases c:k=2
 · subst c
   go_enter func72,ntmps72
   go_wp2;go_ret;exact⟨rfl,rfl⟩
 by_cases d:k=3
 · subst d
   go_enter func72,ntmps72
   go_wp2;go_ret;exact⟨rfl,rfl⟩
 have g:=hid (show Hu.lst k=0 from by rw[Hu.lst,if_neg (by omega),if_neg (by omega)]);have i:(k==1)=false:=by simpa using a
 have e2:(k==2)=false:=by simpa using c
 have j:(k==3)=false:=by simpa using d
 have o:(k==7)=false:=by simpa using f
 clear a c d f;go_enter func72,ntmps72
 go_wp2;go_ret;exact⟨by rw[g.out];rfl,rfl⟩
theorem qK (G:List Gr) (q:Rq) (vq vg:Value) (g:Nat) (w:World) (hg:g<w.heap.size) (hc:w.cell? ⟨g,1,none⟩=some vg) (hv:bj w vg G) (hs:eu G) (hq:bH w vq q) (P:cE q):
    Calls prog 40 #[.pointer (some ⟨g,0,none⟩),vq] w fun e w'=>e= .returned (.int .i64 (cD G q))∧Below w.heap.size w w':=by
 have HV:=hid hv;have HS:=hid hs;have B:=hid P;obtain⟨va,rfl,lq⟩:=hq
 obtain⟨qa,qc,rfl,_⟩:=lq
 obtain⟨ga,gc,rfl,_⟩:=hv
 clear hs P;obtain⟨kind,who,fo,name,key,text,num,off,base,ch⟩:=q
 simp only at*;obtain⟨c,z⟩: ∃c,c=w.alloc (.cells #[kind,who,fo,name,key,text,num,off,base,.slice qa ch.length qc] 31):=⟨_,rfl⟩
 have f:Below w.heap.size w c:=by rw[z];exact ak
 have T:Hid (Cs c w.heap.size [kind,who,fo,name,key,text,num,off,base,.slice qa ch.length qc]):=(by rw[z];exact Cs.new w [kind,who,fo,name,key,text,num,off,base,.slice qa ch.length qc] _:Cs c w.heap.size _)
 have M:g<c.heap.size:=Nat.lt_of_lt_of_le hg f.size;have K:=(f.cell (p:=⟨g,1,none⟩) hg).trans hc;have p0:=T.out.cell 0 rfl;have p1:=T.out.cell 1 rfl;go_enter func40,ntmps40
 go_upto_region 1 with fail;rw[←z];clear z hc;by_cases hk:kind<1
 · have o:=hid (nQ (G:=G) (q:=⟨kind,who,fo,name,key,text,num,off,base,ch⟩) (Or.inl hk))
   go_wp2;go_ret;exact⟨by rw[o.out];rfl,f⟩
 by_cases N:8<kind
 · have o:=hid (nQ (G:=G) (q:=⟨kind,who,fo,name,key,text,num,off,base,ch⟩) (Or.inr N))
   go_wp2;go_ret;exact⟨by rw[o.out];rfl,f⟩
 have S:=hid (show¬(kind<1∨8<kind)from fun x=>x.elim hk N);obtain⟨Q,v⟩: ∃Q,Q=c.alloc (.cells #[who] 9):=⟨_,rfl⟩
 have Y:Below c.heap.size c Q:=by rw[v];exact ak
 have HN:=hid (show Cs Q c.heap.size [who]from by rw[v];exact Cs.new c [who] _);go_wp2_with fail;rw[←v];clear v p0 p1
 refine(k6 [who] c.heap.size 0 1 Q HN.out.lt (fun i hi=>by
  match i,hi with
  |0,_=>show who.size≤_;have:who.size≤150000000000000:=B.out.who;omega) (by simp) (fun i hi=>by
  match i,hi with
  |0,_=>exact HN.out.cell 0 rfl)).mono ?_
 rintro e w1 ⟨rfl,V⟩;have a:=an Y V;have d:=an f a;have s:=hid (T.out.below a);have J:=(a.cell (p:=⟨g,1,none⟩) M).trans K;have Z:g<w1.heap.size:=Nat.lt_of_lt_of_le M a.size;clear K;by_cases u: ¬(aU [who]=0)
 · have o:=hid (qH (G:=G) (q:=⟨kind,who,fo,name,key,text,num,off,base,ch⟩) S.out u)
   have hz:(aU [who]==0)=false:=by simpa using u
   have u9:(aU [who] !=0)=true:=by simpa using u
   clear u;simp only at o;generalize aU [who]=r at*;go_wp2;go_ret;exact⟨by rw[o.out];rfl,d⟩
 replace u:=Decidable.not_not.1 u;have H:=hid u;rw[u];clear u;have x1:=s.out.cell 1 rfl;have x2:=s.out.cell 2 rfl;have O:=s.out.lt;go_wp2_with fail
 go_region_held3 (fun W=>W.cell? ⟨g,1,none⟩=some (.slice ga G.length gc)∧W.cell? ⟨w.heap.size,2,none⟩=some (.string fo)∧W.cell? ⟨w.heap.size,1,none⟩=some (.string who)) (go_keep) (first
  |(go_at_call 71;refine(AB G _ fo who _ (HV.out.below (an d aw.drew)) HS.out B.out.fo B.out.who).mono ?_;rintro e wa ⟨rfl,X⟩;have j:Below w1.heap.size w1 wa:=( aw.drew).trans X;have j0:=(j.cell (p:=⟨g,1,none⟩) Z).trans J;have j1:=(j.cell (p:=⟨w.heap.size,2,none⟩) O).trans x2;have j2:=(j.cell (p:=⟨w.heap.size,1,none⟩) O).trans x1))
 have A:=an d j;have U:=hid (s.out.below j);have y0:=U.out.cell 0 rfl;clear x1 x2 J j0 j1 j2;obtain⟨rr,E⟩: ∃rr,rr=fU G fo who:=⟨_,rfl⟩
 rw[←E];have I:=hid E;clear E;go_wp2_with fail;refine(BM kind _).mono ?_
 rintro e w3 ⟨rfl,rfl⟩;obtain⟨ll,C⟩: ∃ll,ll=Hu.lst kind:=⟨_,rfl⟩
 rw[←C];have F:=hid C;clear C;by_cases R:rr<ll
 · have o:=hid (show cD G ⟨kind,who,fo,name,key,text,num,off,base,ch⟩=9 from qI S.out H.out (by rw[I.out,F.out]at R;exact R))
   go_wp2;go_ret;exact⟨by rw[o.out];rfl,A⟩
 · have o:=hid (show cD G ⟨kind,who,fo,name,key,text,num,off,base,ch⟩=0 from vn S.out H.out (by rw[I.out,F.out]at R;exact R))
   go_wp2;go_ret;exact⟨by rw[o.out];rfl,A⟩
theorem vo (H:Hb) (K vg vs:Value) (g J n:Nat) (fo:ByteArray) (w:World) (f:Cs w g [K,vg,vs,H.nx,H.la,H.ro,H.now,.map (some J)]) (V:cR w K H.fos) (I:dZ w J n H) (j:fo.size≤150000000000000) (E:aV H.fos H.gs fo<H.fos.length):
    Calls prog 74 #[.pointer (some ⟨g,0,none⟩),fo] w fun e w'=> ∃u,e= .returned u∧cV w' u (H.fos[aV H.fos H.gs fo]).jo∧Below w.heap.size w w':=by
 obtain⟨i,d⟩: ∃i,i=aV H.fos H.gs fo:=⟨_,rfl⟩
 have c:=fun W (S:Below w.heap.size w W)=>(I.below S).look fo j
 simp only[←d]at c E⊢;have M:=hid c;obtain⟨fos,gs,ss,nx,la,ro,now⟩:=H
 simp only at*;obtain⟨a,R,rfl,C,_,B⟩:=V
 obtain⟨b,o,rfl,T,U⟩:=B i E
 obtain⟨P,u,x,Q,c2,c3,z,A⟩:=U
 have X:=f.lt;have p0:=f.cell 0 rfl;have p7:=f.cell 7 rfl;generalize fos[i]=s at*;obtain⟨na,⟨Z,jf,jc⟩⟩:=s
 simp only at P Q c2 c3 z A⊢;have N:=hid z;have O:=hid A;obtain⟨ua,uc,rfl,_⟩:=z
 obtain⟨xa,xc,rfl,_⟩:=A
 have Y:(i:Int)<fos.length:=by omega
 have F:=c (w.alloc (.cells #[al,ah,al] 57)) ak;have G:=c (w.alloc (.cells #[al,ah,al] 57)).drew ( ak.drew);have n1: ¬g=w.heap.size:=by omega
 have n2: ¬b=w.heap.size:=by omega
 clear B f I d c;go_enter func74,ntmps74
 go_wp2_with fail;go_region
 go_wp2;refine bodyPost_ret (v:= .agg #[.slice ua Z.length uc,jf,.slice xa jc.length xc]) (by simp[results,results74,go_sem]) rfl ⟨_,rfl,⟨_,_,rfl,N.out.below ?_,O.out.below ?_⟩,?_⟩
 all_goals exact ak.drew
theorem BN {l:List Sh} {us:List (Value×Value)} (h:us.length=l.length) {i:Nat} (c:i<l.length) (s:Sh) (u:Value×Value):(aS l us).set i (fV s u)=aS (l.set i s) (us.set i u):=by
 apply List.ext_getElem?
 intro j;rw[List.getElem?_set,aS,aS,List.getElem?_zipWith,List.getElem?_zipWith,List.getElem?_set,List.getElem?_set];by_cases a:i=j
 · subst a
   simp[h,c,show i<us.length by omega]
 · simp[a]
theorem vp {w:World} {a:Option Addr} {n cap b o k:Nat} {l:List Sh} {us:List (Value×Value)} {u:Value×Value} {J:Jo} (h:bp 4 w (.slice a n cap) (aS l us)) (s:us.length=l.length) (g:a=some ⟨b,o,none⟩) (j:k<l.length) (v:u.1.oneCell'=true) (x:u.2.oneCell'=true):
    bp 4 (((w.setCell ⟨b,o+k*4+1,none⟩ u.1).setCell ⟨b,o+k*4+2,none⟩ J.first).setCell ⟨b,o+k*4+3,none⟩ u.2) (.slice a n cap) (aS (l.set k ⟨l[k].na,J⟩) (us.set k u)):=by
 have f:=kw s j;have d:k<(aS l us).length:=by rw[eQ s];exact j
 rw[List.getElem?_eq_getElem d]at f;injection f with f
 have z:=h.set g (i:=k) (c:=1) d (by decide) u.1 v;have A:=z.set g (i:=k) (c:=2) (by simpa using d) (by decide) J.first rfl;have B:=A.set g (i:=k) (c:=3) (by simpa using d) (by decide) u.2 x;rw[←BN s j ⟨l[k].na,J⟩ u];simpa[f,fV]using B
theorem eR.put {B b o n cap k:Nat} {w:World} {l:List Sh} {f g:Value} {J:Jo} (h:eR B w (.slice (some ⟨b,o,none⟩) n cap) l) (K:k<l.length) (C:aF w f J.base) (z:bi (b+1) w f) (E:db (b+1) w g J.cos):
    cR (((w.setCell ⟨b,o+k*4+1,none⟩ f).setCell ⟨b,o+k*4+2,none⟩ J.first).setCell ⟨b,o+k*4+3,none⟩ g) (.slice (some ⟨b,o,none⟩) n cap) (l.set k ⟨l[k].na,J⟩):=by
 obtain⟨us,⟨F,I⟩,M,G,A⟩:=h
 have O:f.oneCell'=true:=by obtain⟨_,_,rfl,_⟩:=C;rfl
 have P:g.oneCell'=true:=by obtain⟨_,_,rfl,_⟩:=E.lies;rfl
 have N:=vp (u:=(f,g)) (J:=J) M F rfl K O P;have s:w.grownBy (((w.setCell ⟨b,o+k*4+1,none⟩ f).setCell ⟨b,o+k*4+2,none⟩ J.first).setCell ⟨b,o+k*4+3,none⟩ g) (some b):=ar (ar (aj _ _ _ _) (aj _ _ _ _)) (aj _ _ _ _);have ne: ∀{v:Value},bi (b+1) w v→ ∀x,v.ownBlock=some x→x≠b:=fun G x A=>by have:=(G x A).1;omega
 refine nK (us:=us.set k (f,g)) ⟨by simp[F],fun i c u a d=>?_⟩ N
 by_cases j:k=i
 · subst j
   rw[List.getElem?_set_self (by omega)]at a d;injection a with a
   injection d with d
   subst a;subst d;exact⟨C.nbo s (ne z),(E.nbo s (Nat.lt_succ_self _)).lies⟩
 · rw[List.getElem?_set_ne j]at a d
   have H:=(A i c u a d).2 b rfl;exact⟨(I i c u a d).1.nbo s (ne H.1),(H.2.nbo s (Nat.lt_succ_self _)).lies⟩
theorem bj.row {W d:World} {v:Value} {L:List Gr} {r:Option Nat} (h:bj W v L) (s:W.grownBy d r) (B: ∀b,v.ownBlock=some b→r≠some b):bj d v L:=by
 obtain⟨a,f,rfl,u,x,z⟩:=h
 refine⟨a,f,rfl,u,x,fun i A=>?_⟩
 obtain⟨b,o,rfl,j,g⟩:=z i A
 have c: ∀k,d.cell? ⟨b,k,none⟩=W.cell? ⟨b,k,none⟩:=fun k=>World.cell?_of_block (w:=W) (a:=⟨b,k,none⟩) (s.block b j (fun e=>B b rfl e.symm))
 exact⟨b,o,rfl,Nat.lt_of_lt_of_le j s.size,(c _).trans g.1,(c _).trans g.2.1,(c _).trans g.2.2⟩
theorem aK.row {W f:World} {v:Value} {L:List Se} {r:Option Nat} (h:aK W v L) (s:W.grownBy f r) (B: ∀b,v.ownBlock=some b→r≠some b):aK f v L:=by
 obtain⟨a,g,rfl,u,x,z⟩:=h
 refine⟨a,g,rfl,u,x,fun i A=>?_⟩
 obtain⟨b,o,rfl,j,d⟩:=z i A
 have c: ∀k,f.cell? ⟨b,k,none⟩=W.cell? ⟨b,k,none⟩:=fun k=>World.cell?_of_block (w:=W) (a:=⟨b,k,none⟩) (s.block b j (fun e=>B b rfl e.symm))
 exact⟨b,o,rfl,Nat.lt_of_lt_of_le j s.size,(c _).trans d.1,(c _).trans d.2.1,(c _).trans d.2.2.1,(c _).trans d.2.2.2.1,(c _).trans d.2.2.2.2⟩
theorem Cs.orow {W c:World} {b:Nat} {vs:List Value} {r:Option Nat} (h:Cs W b vs) (f:W.grownBy c r) (a:r≠some b):Cs c b vs:=by
 obtain⟨T,d⟩:=h
 exact⟨T,(f.block b (fG d) (fun e=>a e.symm)).trans d⟩
def ix (H:Hb) (i:Nat) (J:Jo):Hb:={H with fos:=H.fos.modify i (fun s=>⟨s.na,J⟩)}
def dB (H:Hb) (i:Nat):Jo:=match H.fos[i]? with|some s=>s.jo|none=>jq
theorem lw {H:Hb} {i:Nat} (h:i<H.fos.length):dB H i=H.fos[i].jo:=by rw[dB,List.getElem?_eq_getElem h]
theorem qL {H:Hb} {i:Nat} (h:i<H.fos.length) (J:Jo):(ix H i J).fos=H.fos.set i ⟨H.fos[i].na,J⟩:=by
 rw[ix];apply List.ext_getElem?
 intro j;rw[List.getElem?_modify,List.getElem?_set];by_cases e:i=j
 · subst e;simp[h]
 · simp[e]
def ew (H:Hb) (i:Nat) (key:ByteArray) (l:List aE):Int:=cY (dB H i) key l
def gx (H:Hb) (i:Nat) (key:ByteArray) (l:List aE):Int:=dM (dB H i) key l
def eS (H:Hb) (i:Nat) (key:ByteArray) (l:List aE):Hb:=if ew H i key l=0 then ix H i (dW (dB H i) key l)else H
def qM (N:Nat) (w W:World) (jx:Nat) (ja:Option Addr) (jc:Nat) (ka:Option Addr) (kc:Nat) (R:Jo):Prop:=N≤jx∧Cs W jx [.slice ja R.base.length jc,.int .i64 R.first,.slice ka R.cos.length kc]∧(aF W (.slice ja R.base.length jc) R.base∧bi N W (.slice ja R.base.length jc)∧db N W (.slice ka R.cos.length kc) R.cos)∧Below N w W
theorem vr {N C d g o:Nat} {w i:World} {f j:Option Addr} {R:Jo} {a b c:Value} (u:N≤d) (B:d<C) (h:Cs i d [a,b,c]) (E:aF i (.slice f R.base.length g) R.base) (v:bi C i (.slice f R.base.length g)) (A:db C i (.slice j R.cos.length o) R.cos) (z:Below N w i):
    qM N w (((i.setCell ⟨d,0,none⟩ (.slice f R.base.length g)).setCell ⟨d,1,none⟩ R.first).setCell ⟨d,2,none⟩ (.slice j R.cos.length o)) d f g j o R:=by
 have s:=(ar (ar (aj i (d) 0 (.slice f R.base.length g)) (aj _ (d) 1 R.first)) (aj _ (d) 2 (.slice j R.cos.length o)))
 have ne: ∀x,(Value.slice f R.base.length g).ownBlock=some x→x≠d:=fun x F=>by have:=(v x F).1;omega
 exact⟨u,(((h.set 0 (.slice f R.base.length g)).set 1 R.first).set 2 (.slice j R.cos.length o)),⟨E.nbo s ne,(v.nb s ne).mono (by omega),(A.nbo s B).mono (by omega)⟩,(pe (b:=d) z (u))⟩
theorem BO {N C d g:Nat} {w a:World} {c f:Option Addr} {R:Jo} {T:TypeId} (j:N≤C) (v:aF a (.slice c R.base.length d) R.base) (x:bi C a (.slice c R.base.length d)) (u:db C a (.slice f R.cos.length g) R.cos) (s:Below N w a) (o:N≤a.heap.size):
    qM N w (a.alloc (.cells #[.slice c R.base.length d,R.first,.slice f R.cos.length g] T)) a.heap.size c d f g R:=by
 have i:Below a.heap.size a (a.alloc (.cells #[.slice c R.base.length d,R.first,.slice f R.cos.length g] T)):=ak;exact⟨o,Cs.new a [.slice c R.base.length d,R.first,.slice f R.cos.length g] T,⟨v.below i,(x.below i).mono j,(u.below i).mono j⟩,s.alloc o _⟩
theorem vu (H:Hb) (q:Rq) (l:List aE) (vq u vf vg vs:Value) (B g mb n:Nat) (w:World) (Fe:Sv B w g mb vf vg vs H) (hm:dZ w mb n H) (FL:g<B) (hs:jN H.fos) (hq:bH w vq q) (Fc:cE q) (hu:cP w u l) (Fb:dV 150000000000000 l) (hi:aV H.fos H.gs q.fo<H.fos.length):
    Calls prog 77 #[.pointer (some ⟨g,0,none⟩),vq,u] w fun e w'=>e= .returned (.tuple #[gx H (aV H.fos H.gs q.fo) q.key l,ew H (aV H.fos H.gs q.fo) q.key l])∧bU w' g mb (eS H (aV H.fos H.gs q.fo) q.key l)∧aZ w w' g (bo vf g):=by
 have Fs:=hid Fe;have HM:=hid hm;have EZ:=hid hs;have EJ:=hid Fc;have HU:=hid hu;have Fl:=hid Fb;have Fo:=hid (⟨ew,rfl⟩: ∃f,f=ew);obtain⟨ux,uc,rfl,_⟩:=hu
 clear hs Fc Fb hm;obtain⟨va,rfl,lq⟩:=hq
 have FG:=hid lq;obtain⟨qa,qc,rfl,_⟩:=lq
 obtain⟨kind,who,fo,name,key,text,num,off,base,ch⟩:=q
 simp only at*;obtain⟨A,E1⟩: ∃A,A=w.alloc (.cells #[kind,who,fo,name,key,text,num,off,base,.slice qa ch.length qc] 31):=⟨_,rfl⟩
 have M:Below w.heap.size w A:=by rw[E1];exact ak
 have d:Hid (Cs A w.heap.size [kind,who,fo,name,key,text,num,off,base,.slice qa ch.length qc]):=(by rw[E1];exact Cs.new w [kind,who,fo,name,key,text,num,off,base,.slice qa ch.length qc] _:Cs A w.heap.size _)
 obtain⟨i,EQ⟩: ∃i,i=aV H.fos H.gs fo:=⟨_,rfl⟩
 have EK:=hid EQ;rw[←EQ]at hi⊢;obtain⟨hC,P,⟨F6,F2⟩,⟨F7,F3⟩,F1,_⟩:=Fe
 have HC:=hid hC;have E8:=hid P;have Fk:=hid F6;have EX:=hid F7;have FD:=hid F2;have FE:=hid F3;have Fh:=hid F1;have Fj:=hid P.lies;obtain⟨af,cf,rfl,_,_,F8⟩:=P.lies
 obtain⟨ag,cg,rfl,_⟩:=F6
 obtain⟨xs,cs,rfl,_⟩:=F7
 obtain⟨b,o,rfl,Ft,he⟩:=F8 i hi
 have Fq:=hid he;have FK:B≤b:=by obtain⟨_,_,_,ho,_⟩:=P;exact(ho b rfl).1
 have V:=hid (show∀W,Below w.heap.size w W→ ∀k,W.frozen? ⟨b,k,none⟩=false from fun W X k=>by
  obtain⟨_,_,_,ho,_⟩:=E8.out.below X
  obtain⟨_,cur,TT,Fa⟩:=ho b rfl
  simp[World.frozen?,Fa])
 have FM:=hC.lt;obtain⟨J,hJ⟩: ∃J,J=dB H i:=⟨_,rfl⟩
 have HJ:=hid (show J=(H.fos[i]).jo from by rw[hJ,lw hi]);have F0:=hid (show dk J.base∧dm 150000000000000 J.cos from by rw[HJ.out];exact(EZ.out _ (List.getElem_mem hi)).2)
 have E5:=hid (show∀W,Below w.heap.size w W→Calls prog 74 #[.pointer (some ⟨g,0,none⟩),fo] W fun e w'=> ∃u,e= .returned u∧cV w' u J∧Below W.heap.size W w' from fun W X=>by
  have h:=vo H _ _ _ g mb n fo W (HC.out.below X) (Fj.out.below X) (HM.out.below X) EJ.out.fo (by rw[←EK.out];exact hi);refine h.mono ?_
  rintro e w' ⟨u,rfl,hl,hb⟩;exact⟨u,rfl,by rw[HJ.out];simpa only[EK.out]using hl,hb⟩)
 have K:=hid (show∀W v,Below w.heap.size w W→cV W v J→Calls prog 104 #[v,key,.slice ux l.length uc] W fun e w'=> ∃r,e= .returned (.tuple #[r,.int .i64 (dM J key l),.int .i64 (cY J key l)])∧gq W.heap.size w' r (dW J key l)∧Below W.heap.size W w' from fun W v X hv=>AQ J v key l _ W hv (HU.out.below X) F0.out.1 F0.out.2 Fl.out (by have:key.size≤150000000000000:=EJ.out.key;unfold maxLen;omega));have E7:=hid (show∀W,Below w.heap.size w W→(Instr.lookup 52 (.map (some mb)) fo false).run prog W= .ok (.int .i64 (i:Nat)) W from fun W X=>by rw[EK.out];exact(HM.out.below X).look fo EJ.out.fo);have HN:=hid (show gx H i key l=dM J key l from by rw[gx,hJ]);have HE:=hid (show ew H i key l=cY J key l from by rw[ew,hJ]);have HH:=hid (show eS H i key l=if cY J key l=0 then ix H i (dW J key l)else H from by rw[eS,HE.out,hJ]);rw[HN.out,HE.out];have HI:=hid hi;clear EQ hJ HJ F8 he P F2 F3 F1 Fo;obtain⟨R,hR⟩: ∃R,R=dW J key l:=⟨_,rfl⟩
 rw[←hR]at K HH;have FN:(i:Int)<H.fos.length:=by omega
 obtain⟨nn,EO⟩: ∃nn,nn=dM J key l:=⟨_,rfl⟩
 obtain⟨ee,u9⟩: ∃ee,ee=cY J key l:=⟨_,rfl⟩
 rw[←EO,←u9]at K;rw[←EO,←u9];rw[←u9]at HH;clear EO u9 hR;have x2:=d.out.cell 2 rfl;have x4:=d.out.cell 4 rfl;have Fw:=d.out.lt;have EN:Below A.heap.size A A.drew:= aw.drew;have EM:Below A.heap.size A (A.alloc (.cells #[al,ah,al] 57)).drew:= ak.drew;have E3:=an M EN;have FR: ¬w.heap.size=A.heap.size:=by omega
 have E2:=an M EM;go_enter func77,ntmps77
 go_upto_region 1 with fail;rw[←E1];clear E1;go_cut [0,4,8,9,10] (fun a r p m e W=>a= .pointer (some ⟨g,0,none⟩)∧r= .pointer (some ⟨w.heap.size,0,none⟩)∧m= .int .i64 nn∧e= .int .i64 ee∧ ∃jx ja jc ka kc,p= .pointer (some ⟨jx,0,none⟩)∧Hid (qM A.heap.size A W jx ja jc ka kc R))
 case first=>
  go_region_held3 (fun W=>W.cell? ⟨w.heap.size,2,none⟩=some (.string fo)∧W.cell? ⟨w.heap.size,4,none⟩=some (.string key)) (first|go_keep|(have hx:=(d.out.below hb45).nb (ar (ar (aj w5 (w3.heap.size) 0 (.slice jja R.base.length jjc)) (aj _ (w3.heap.size) 1 (.int .i64 R.first))) (aj _ (w3.heap.size) 2 (.slice kka R.cos.length kkc))) (by omega);exact⟨hx.cell 2 rfl,hx.cell 4 rfl⟩)|(have hx:=(d.out.below hb45).nb (ar (ar (aj w5 (A.heap.size) 0 (.slice jja R.base.length jjc)) (aj _ (A.heap.size) 1 (.int .i64 R.first))) (aj _ (A.heap.size) 2 (.slice kka R.cos.length kkc))) (by omega);exact⟨hx.cell 2 rfl,hx.cell 4 rfl⟩)) (first
   |(go_at_call 74;refine(E5.out _ E3).mono ?_;rintro e w3 ⟨u3,rfl,N,Y⟩;have c:=an EN Y;have Fv: ¬w.heap.size=w3.heap.size:=(by have:=c.size;omega);have S:=hid N;obtain⟨Fx,Fy,rfl,ER,Q⟩:=N;obtain⟨_,_,rfl,_⟩:=ER;obtain⟨_,_,rfl⟩:=eh Q;clear Q;have q2:=(d.out.below c).cell 2 rfl;have q4:=(d.out.below c).cell 4 rfl)
   |(go_at_call 74;refine(E5.out _ E2).mono ?_;rintro e w3 ⟨u3,rfl,N,Y⟩;have c:=an EM Y;have Fv: ¬w.heap.size=w3.heap.size:=(by have:=c.size;omega);have S:=hid N;obtain⟨Fx,Fy,rfl,ER,Q⟩:=N;obtain⟨_,_,rfl,_⟩:=ER;obtain⟨_,_,rfl⟩:=eh Q;clear Q;have q2:=(d.out.below c).cell 2 rfl;have q4:=(d.out.below c).cell 4 rfl;have HZ:=hid (((Cs.new A [al,ah,al] 57).below ( aw.drew)).below Y))
   |(go_at_call 104;refine(K.out _ _ (an M c) S.out).mono ?_;rintro e w5 ⟨u5,rfl,O,I⟩;have hb45:=an c I;have G:=hid (HZ.out.below I);obtain⟨Ff,Fg,rfl,E,F,s⟩:=O;have C:=hid E;obtain⟨jja,jjc,rfl,_⟩:=E;obtain⟨kka,kkc,rfl⟩:=eh s.lies;have r2:=(d.out.below hb45).cell 2 rfl;have r4:=(d.out.below hb45).cell 4 rfl;have HB:=hid (vr ax HZ.out.lt G.out C.out F s hb45);clear F s;have y0:=G.out.cell 0 rfl;have y1:=G.out.cell 1 rfl;have y2:=G.out.cell 2 rfl;have f0:=G.out.fr 0;have f1:=G.out.fr 1;have f2:=G.out.fr 2)
   |(go_at_call 104;refine(K.out _ _ (an M (c.alloc c.size _)) (S.out.below ak)).mono ?_;rintro e w5 ⟨u5,rfl,O,I⟩;have hb45:=an (c.alloc c.size _) I;have G:=hid ((Cs.new w3 [al,ah,al] 57).below I);obtain⟨Ff,Fg,rfl,E,F,s⟩:=O;have C:=hid E;obtain⟨jja,jjc,rfl,_⟩:=E;obtain⟨kka,kkc,rfl⟩:=eh s.lies;have r2:=(d.out.below hb45).cell 2 rfl;have r4:=(d.out.below hb45).cell 4 rfl;have HB:=hid (vr c.size (Cs.new w3 [al,ah,al] 57).lt G.out C.out F s hb45);clear F s;have y0:=G.out.cell 0 rfl;have y1:=G.out.cell 1 rfl;have y2:=G.out.cell 2 rfl;have f0:=G.out.fr 0;have f1:=G.out.fr 1;have f2:=G.out.fr 2)
   |(go_at_call 104;refine(K.out _ _ (an M c) S.out).mono ?_;rintro e w5 ⟨u5,rfl,O,I⟩;have hb45:=an c I;obtain⟨Ff,Fg,rfl,E,F,s⟩:=O;have C:=hid E;obtain⟨jja,jjc,rfl,_⟩:=E;obtain⟨kka,kkc,rfl⟩:=eh s.lies;have r2:=(d.out.below hb45).cell 2 rfl;have r4:=(d.out.below hb45).cell 4 rfl;have HB:=hid (BO (T:=57) c.size C.out F s hb45 hb45.size);clear F s))
  all_goals
   go_wp2;go_meet
   case rel=>exact⟨rfl,rfl,rfl,rfl,_,jja,jjc,kka,kkc,rfl,HB⟩
 case rest=>
  obtain⟨rfl,rfl,rfl,rfl,jx,ja,jc,ka,kc,rfl,Fi⟩:=hcut
  obtain⟨FP,F5,F4,EL⟩:=Fi.out
  have U:=hid F5;have E6:=hid F4;clear F5 F4;have j:=an M EL;have EU:=hid (HC.out.below j);have Fp:=hid (d.out.below EL);have Fz:=hid (E8.out.below j);have FO:=U.out.lt;have FS:=j.size;have F9:bo (.slice (some ⟨b,o,none⟩) H.fos.length cf) g=b:=rfl;by_cases he:ee=0
  · obtain rfl:ee=0:=he
    have E4:=hid (show eS H i key l=ix H i R from by rw[HH.out,if_pos rfl]);obtain⟨w6,EP⟩: ∃w6,w6=((wc.drew.setCell ⟨b,o+i*4+1,none⟩ (.slice ja R.base.length jc)).setCell ⟨b,o+i*4+1+1,none⟩ (.int .i64 R.first)).setCell ⟨b,o+i*4+1+2,none⟩ (.slice ka R.cos.length kc):=⟨_,rfl⟩
    have Z:Below wc.heap.size wc wc.drew:= aw.drew;have z:=an j Z;have E0:wc.drew.grownBy w6 (some b):=by rw[EP];exact ar (ar (aj _ _ _ _) (aj _ _ _ _)) (aj _ _ _ _)
    have FT:A.heap.size≤wc.heap.size:=EL.size;have FC:w.heap.size<A.heap.size:=d.out.lt
    have EV:=hid (show cR w6 (.slice (some ⟨b,o,none⟩) H.fos.length cf) (ix H i R).fos from by
     rw[qL HI.out,EP];exact(E8.out.below z).put HI.out (E6.out.1.below Z) ((E6.out.2.1.below Z).mono (by omega)) ((E6.out.2.2.below Z).mono (by omega)))
    have FQ:(ix H i R).fos.length=H.fos.length:=by rw[qL HI.out];simp
    have ES:=Fh.out b rfl;have EW:=hid ((Fk.out.below z).row E0 (fun x hx e=>by injection e with e;have:=ES.1 x hx;omega));have EY:=hid ((EX.out.below z).row E0 (fun x hx e=>by injection e with e;have:=ES.2 x hx;omega));have ET:=hid ((HC.out.below z).nb E0 (by omega));have E9:=hid (show bU w6 g mb (ix H i R)from⟨_,_,_,ET.out,EV.out,EW.out,EY.out⟩);have Fm:=hid (show aZ w w6 g b from(aZ.of_below _ _ z).trans (aZ.of_right _ E0));have FA:=E7.out wc j;have FB:=E7.out wc.drew z;obtain⟨c0,su,sx,c1,c2,c3,_,_⟩:=Fq.out.below Ft j
    have FH:=V.out wc j (o+i*4+1);have FI:=V.out wc j (o+i*4+1+1);have FJ:=V.out wc j (o+i*4+1+2);have p0:=EU.out.cell 0 rfl;have p7:=EU.out.cell 7 rfl;have FU:=Fp.out.cell 2 rfl;have m0:=U.out.cell 0 rfl;have m1:=U.out.cell 1 rfl;have m2:=U.out.cell 2 rfl;clear EZ HM E5 K E7 V EV EW EY ET x2 x4 Fw EN EM E3 E2;go_wp2_with fail;go_region
    go_wp2_with fail;rw[show((((wc.setCell ⟨b,o+i*4+1,none⟩ (.slice ja R.base.length jc)).setCell ⟨b,o+i*4+1+1,none⟩ (.int .i64 R.first)).setCell ⟨b,o+i*4+1+2,none⟩ (.slice ka R.cos.length kc)).drew:World)=w6 from by rw[EP];rfl];go_ret2;exact⟨rfl,by rw[E4.out];exact E9.out,by rw[F9];exact Fm.out⟩
  · have hz:(ee==0)=false:=by simpa using he
    have E4:=hid (show eS H i key l=H from by rw[HH.out,if_neg he]);have E9:=hid (show bU wc g mb H from Fs.out.lies.below j);clear he HH;go_wp2_with fail;go_ret2;exact⟨rfl,by rw[E4.out];exact E9.out,aZ.of_below _ _ j⟩
theorem bU.shape {w:World} {g v:Nat} {H:Hb} (h:bU w g v H): ∃a c d f i j,Cs w g [.slice a H.fos.length c,.slice d H.gs.length f,.slice i H.ss.length j,H.nx,H.la,H.ro,H.now,.map (some v)]∧cR w (.slice a H.fos.length c) H.fos∧bj w (.slice d H.gs.length f) H.gs∧aK w (.slice i H.ss.length j) H.ss:=by
 obtain⟨C,E,vs,x,o,s,u⟩:=h
 have z:=o;have A:=s;have B:=u;obtain⟨a,c,rfl,_⟩:=o
 obtain⟨d,f,rfl,_⟩:=s
 obtain⟨i,j,rfl,_⟩:=u
 exact⟨a,c,d,f,i,j,x,z,A,B⟩
theorem qN {w:World} {g j:Nat} {a b c d e f:Nat} {x y z:Option Addr} {o u v A:Int} (h:Cs w g [.slice x a b,.slice y c d,.slice z e f,o,u,v,A,.map (some j)]):di w g:=h.noStr (fun s i=>by simp at i)
def gy (H:Hb) (e:Int) (S:List Se) (x l r:Int):Hb:=if e=0 then⟨H.fos,H.gs,S,x,l,r,H.now⟩else H
def jR (H:Hb) (e:Int) (G:List Gr):Hb:=if e=0 then {H with gs:=G}else H
theorem qO (H:Hb) (S:List Se) (u:Value) (x l r m e:Int) (g C:Nat) (w:World) (B:bU w g C H) (O:aK w u S):
    Calls prog 78 #[.pointer (some ⟨g,0,none⟩),.agg #[u,x,l,r],m,e] w fun z w'=>z= .returned (.tuple #[m,e])∧bU w' g C (gy H e S x l r)∧w.grownBy w' (some g):=by
 have T:=hid O;obtain⟨v,A,rfl,_⟩:=O
 obtain⟨fos,gs,ss,nx,la,ro,now⟩:=H
 obtain⟨U,V,X,Y,sa,sc,F,hF,hG,hS⟩:=B.shape
 simp only at F hF hG hS;have P:=hid F;have M:=hid hF;have N:=hid hG;have R:=hid hS;have Z:=F.lt;obtain⟨i,d⟩: ∃i,i=w.alloc (.cells #[.slice v S.length A,x,l,r] 26):=⟨_,rfl⟩
 have c:Below w.heap.size w i:=by rw[d];exact ak
 have E:Hid (Cs i w.heap.size [.slice v S.length A,x,l,r]):=(by rw[d];exact Cs.new w [.slice v S.length A,x,l,r] _:Cs i w.heap.size _)
 have a:=hid (P.out.below c);clear B hF hG hS F;by_cases G:e=0
 · subst G
   obtain⟨s,o⟩: ∃s,s=(((i.setCell ⟨g,2,none⟩ (.slice v S.length A)).setCell ⟨g,2+1,none⟩ x).setCell ⟨g,2+2,none⟩ l).setCell ⟨g,2+3,none⟩ r:=⟨_,rfl⟩
   have f:i.grownBy s (some g):=by rw[o];exact ar (ar (ar (aj _ _ _ _) (aj _ _ _ _)) (aj _ _ _ _)) (aj _ _ _ _)
   have I:Hid (Cs s g [.slice U fos.length V,.slice X gs.length Y,.slice v S.length A,x,l,r,now,.map (some C)]):=(by rw[o];exact((((a.out.set 2 (.slice v S.length A)).set 3 x).set 4 l).set 5 r):Cs s g _)
   have j:=hid (qN a.out);have J:=hid (show bU s g C ⟨fos,gs,S,x,l,r,now⟩from⟨_,_,_,I.out,(M.out.below c).nb f j.out,(N.out.below c).nb f j.out,(T.out.below c).nb f j.out⟩);have K:w.grownBy s (some g):=Nb.trans (Nb.below g c) f;have y0:=E.out.cell 0 rfl;have y1:=E.out.cell 1 rfl;have y2:=E.out.cell 2 rfl;have y3:=E.out.cell 3 rfl;have p2:=a.out.cell 2 rfl;have p3:=a.out.cell 3 rfl;have p4:=a.out.cell 4 rfl;have p5:=a.out.cell 5 rfl;have f2:=a.out.fr 2;have f3:=a.out.fr 3;have f4:=a.out.fr 4;have f5:=a.out.fr 5;go_enter func78,ntmps78
   go_upto_region 1 with fail;rw[←d];clear d;go_wp2_with fail;rw[←o];go_ret2;exact⟨rfl,by rw[gy,if_pos rfl];exact J.out,K⟩
 · have hz:(e==0)=false:=by simpa using G
   have Q:=hid G;have J:=hid (show bU i g C ⟨fos,gs,ss,nx,la,ro,now⟩from⟨_,_,_,a.out,M.out.below c,N.out.below c,R.out.below c⟩);clear G;go_enter func78,ntmps78
   go_upto_region 1 with fail;rw[←d];clear d;go_wp2_with fail;go_ret2;exact⟨rfl,by rw[gy,if_neg Q.out];exact J.out,Nb.below g c⟩
def mB (B:Nat) (v:Value) (L:List Sh) (i:Nat) (na:ByteArray):Prop:= ∀(W:World) (vb:Nat),eR B W v L→Rm W v→Cs W vb [.string na,.slice none 0 0,.int .i64 1,.slice none 0 0]→(∀b,v.ownBlock=some b→b<vb)→
 Calls prog 102 #[v,.int .i64 i,.slice (some ⟨vb,0,none⟩) 1 1] W fun e w'=> ∃u,e= .returned u∧cR w' u (L.take i++⟨na,⟨[],1,[]⟩⟩::L.drop i)∧W.grownBy w' v.ownBlock
def Hu.mkE (H:Hb) (f h:ByteArray):Int:=if¬eD H.gs f h=0 then eD H.gs f h else if 8≤H.fos.length then 2 else 0
def eT (H:Hb) (f h:ByteArray):Hb:=if Hu.mkE H f h=0 then {H with fos:=H.fos.take (cj H.fos f)++⟨f,⟨[],1,[]⟩⟩::H.fos.drop (cj H.fos f),gs:=iu H.gs f h}else H
theorem vv {H:Hb} {f h:ByteArray} (a: ¬eD H.gs f h=0):Hu.mkE H f h=eD H.gs f h∧eT H f h=H:=by
 have e:Hu.mkE H f h=eD H.gs f h:=by rw[Hu.mkE,if_pos a]
 exact⟨e,by rw[eT,e,if_neg a]⟩
theorem vw {H:Hb} {f h:ByteArray} (a:eD H.gs f h=0) (c:8≤H.fos.length):Hu.mkE H f h=2∧eT H f h=H:=by
 have e:Hu.mkE H f h=2:=by rw[Hu.mkE,if_neg (fun x=>x a),if_pos c]
 exact⟨e,by rw[eT,e,if_neg (by decide)]⟩
theorem qP {H:Hb} {f h:ByteArray} (a:eD H.gs f h=0) (c: ¬8≤H.fos.length):Hu.mkE H f h=0∧eT H f h={H with fos:=H.fos.take (cj H.fos f)++⟨f,⟨[],1,[]⟩⟩::H.fos.drop (cj H.fos f),gs:=iu H.gs f h}:=by
 have e:Hu.mkE H f h=0:=by rw[Hu.mkE,if_neg (fun x=>x a),if_neg c]
 exact⟨e,by rw[eT,e,if_pos rfl]⟩
end Go.Proofs.YtdlpjlfefjipkaaGreat
