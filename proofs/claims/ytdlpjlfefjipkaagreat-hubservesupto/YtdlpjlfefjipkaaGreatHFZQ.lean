/- The law's hubBegun answers true. -/
import Derived.Test.YtdlpjlfefjipkaaGreatHFZP
import Derived.Test.YtdlpjlfefjipkaaGreatHFZM
import Derived.Test.YtdlpjlfefjipkaaGreatHFZN
set_option linter.unusedSimpArgs false
set_option linter.unusedVariables false
namespace Go.Proofs.YtdlpjlfefjipkaaGreat
open Go.RowKit Go.ChangeShapes Go.WideShapes Go.ChangeAt Go.Proofs.Tryz
set_option maxHeartbeats 8000000
set_option maxRecDepth 100000
theorem wC (w:World):Calls prog 7 #[] w fun e w'=>e= .returned (.bool true)∧Below w.heap.size w w':=by
 obtain⟨z,EM⟩: ∃z,z=ay:=⟨_,rfl⟩
 obtain⟨j,EN⟩: ∃j,j=aH:=⟨_,rfl⟩
 obtain⟨g,EO⟩: ∃g,g=aY:=⟨_,rfl⟩
 have F8:=hid (show jS 10 1000=z from by rw[EM];exact CC)
 have F9:=hid (show∀(W:World) (v vq:Value),aX W v z→bH W vq Hu.q1→Calls prog 4 #[v,vq] W fun e w'=> ∃u a,e= .returned (.tuple #[u,a,ah])∧aX w' u j∧bX w' a ⟨0,0,bt⟩∧Below W.heap.size W w' from fun W v vq hv hq=>by
  subst EM EN;have h:=vN ay Hu.q1 v vq W hv CM hq CP qX rfl CD (fun B v=>vy B v [] fB (by simp));have e1:Hu.mkE ay Hu.q1.fo Hu.q1.who=0:=vR.1;have e2:eT ay Hu.q1.fo Hu.q1.who=aH:=vR.2;rw[e1,e2]at h;exact h)
 have Fa:=hid (show∀(W:World) (v vq:Value),aX W v j→bH W vq aP→Calls prog 4 #[v,vq] W fun e w'=> ∃u a,e= .returned (.tuple #[u,a,ah])∧aX w' u g∧bX w' a ⟨0,1,bt⟩∧Below W.heap.size W w' from fun W v vq hv hq=>by
  subst EN EO;have h:=vO aH aP v vq W hv CN hq CQ kD rfl CE;have e0:aV aH.fos aH.gs aP.fo=0:=CF;have e1:ew aH 0 aP.key aP.ch=0:=qZ.1;have e2:gx aH 0 aP.key aP.ch=1:=qZ.2.1;have e3:eS aH 0 aP.key aP.ch=aY:=qZ.2.2;rw[e0,e1,e2,e3]at h;exact h)
 have Fb:=hid (show∀(W:World) (v:Value),aX W v g→Calls prog 30 #[v,.string ⟨#[102]⟩] W fun e w'=> ∃a c,e= .returned (.tuple #[.slice a 1 c,ah])∧Below W.heap.size W w' from fun W v hv=>by
  subst EO;refine(BR aY v fB W hv CO (by decide)).mono ?_
  rintro e w' ⟨u,rfl,⟨a,c,rfl,_⟩,hb⟩;rw[vS,CL];exact⟨a,c,rfl,hb⟩)
 clear EM EN EO;go_enter func7,ntmps7
 go_wp2_with fail;refine(BQ 10 1000 _).mono ?_
 rintro e d ⟨u,rfl,hl,ET⟩;rw[vP];rw[F8.out]at hl;have F5:=hid hl;obtain⟨fa,fc,ga,gc,sa,sc,rfl⟩:=hl.shape
 clear hl;obtain⟨wa,E2⟩: ∃wa,wa=d.alloc (.cells #[.slice fa z.fos.length fc,.slice ga z.gs.length gc,.slice sa z.ss.length sc,.int .i64 z.nx,.int .i64 z.la,.int .i64 z.ro,.int .i64 z.now] 28):=⟨_,rfl⟩
 have F2:Below d.heap.size d wa:=by rw[E2];exact ak
 have Z:Hid (Cs wa d.heap.size [.slice fa z.fos.length fc,.slice ga z.gs.length gc,.slice sa z.ss.length sc,.int .i64 z.nx,.int .i64 z.la,.int .i64 z.ro,.int .i64 z.now]):=(by rw[E2];exact Cs.new d [.slice fa z.fos.length fc,.slice ga z.gs.length gc,.slice sa z.ss.length sc,.int .i64 z.nx,.int .i64 z.la,.int .i64 z.ro,.int .i64 z.now] _:Cs wa d.heap.size _)
 have E9:=an ET F2;have x0:=Z.out.cell 0 rfl;have x1:=Z.out.cell 1 rfl;have x2:=Z.out.cell 2 rfl;have x3:=Z.out.cell 3 rfl;have x4:=Z.out.cell 4 rfl;have x5:=Z.out.cell 5 rfl;have x6:=Z.out.cell 6 rfl;go_upto_region 2 with fail;rw[←E2];clear E2;go_wp2_with fail;refine(F9.out wa _ _ (F5.out.below F2) ⟨_,rfl,yl _⟩).mono ?_
 rintro e s ⟨u2,a2,rfl,EU,EZ,E0⟩;clear x0 x1 x2 x3 x4 x5 x6;have F6:=hid EU;have EK:=hid (Z.out.below E0);have Fg:=Z.out.lt;obtain⟨fb,fd,gb,gd,sb,sd,rfl⟩:=EU.shape
 obtain⟨ta,tc,ca,cc,rfl⟩:=EZ.shape
 simp only[bt,List.length_nil];have Fh:=E0.size;clear EU EZ;have n1: ¬d.heap.size=s.heap.size:=by omega
 have n2: ¬s.heap.size=d.heap.size:=by omega
 have f:=hid (EK.out.below ((Below.refl s.heap.size s).alloc ax (.cells  bC  38)));have p0:=f.out.cell 0 rfl;have f0:=f.out.fr 0;have p1:=f.out.cell 1 rfl;have f1:=f.out.fr 1;have p2:=f.out.cell 2 rfl;have f2:=f.out.fr 2;have p3:=f.out.cell 3 rfl;have f3:=f.out.fr 3;have p4:=f.out.cell 4 rfl;have f4:=f.out.fr 4;have p5:=f.out.cell 5 rfl;have f5:=f.out.fr 5;have p6:=f.out.cell 6 rfl;have f6:=f.out.fr 6;obtain⟨y2,E4⟩: ∃y2,y2=s.alloc (.cells  bC  38):=⟨_,rfl⟩
 have N:Below s.heap.size s y2:=by rw[E4];exact ak
 have E6:=hid (show Cs y2 s.heap.size  bC from by rw[E4];exact Cs.new s  bC  _);obtain⟨K,R⟩: ∃K,K=((((((((((((((y2.setCell ⟨d.heap.size,0,none⟩ (.slice fb j.fos.length fd)).setCell ⟨d.heap.size,1,none⟩ (.slice gb j.gs.length gd)).setCell ⟨d.heap.size,2,none⟩ (.slice sb j.ss.length sd)).setCell ⟨d.heap.size,3,none⟩ (.int .i64 j.nx)).setCell ⟨d.heap.size,4,none⟩ (.int .i64 j.la)).setCell ⟨d.heap.size,5,none⟩ (.int .i64 j.ro)).setCell ⟨d.heap.size,6,none⟩ (.int .i64 j.now)).setCell ⟨s.heap.size,0,none⟩ ah).setCell ⟨s.heap.size,1,none⟩ ah).setCell ⟨s.heap.size,2,none⟩ false).setCell ⟨s.heap.size,3,none⟩ (.slice ta 0 tc)).setCell ⟨s.heap.size,4,none⟩ (.slice ca 0 cc)).setCell ⟨s.heap.size,5,none⟩ ah).setCell ⟨s.heap.size,6,none⟩ false):=⟨_,rfl⟩
 have x:Hid (Cs K d.heap.size [.slice fb j.fos.length fd,.slice gb j.gs.length gd,.slice sb j.ss.length sd,.int .i64 j.nx,.int .i64 j.la,.int .i64 j.ro,.int .i64 j.now]):=(by rw[R];exact(((((((((EK.out.below N).set 0 (.slice fb j.fos.length fd)).set 1 (.slice gb j.gs.length gd)).set 2 (.slice sb j.ss.length sd)).set 3 (.int .i64 j.nx)).set 4 (.int .i64 j.la)).set 5 (.int .i64 j.ro)).set 6 (.int .i64 j.now))).nb (ar (ar (ar (ar (ar (ar (aj _ (s.heap.size) 0 ah) (aj _ (s.heap.size) 1 ah)) (aj _ (s.heap.size) 2 false)) (aj _ (s.heap.size) 3 (.slice ta 0 tc))) (aj _ (s.heap.size) 4 (.slice ca 0 cc))) (aj _ (s.heap.size) 5 ah)) (aj _ (s.heap.size) 6 false)) (by omega):Cs K d.heap.size _)
 have E8:Hid (Cs K s.heap.size [ah,ah,false,.slice ta 0 tc,.slice ca 0 cc,ah,false]):=(by rw[R];exact((((((((E6.out.nb (ar (ar (ar (ar (ar (ar (aj y2 (d.heap.size) 0 (.slice fb j.fos.length fd)) (aj _ (d.heap.size) 1 (.slice gb j.gs.length gd))) (aj _ (d.heap.size) 2 (.slice sb j.ss.length sd))) (aj _ (d.heap.size) 3 (.int .i64 j.nx))) (aj _ (d.heap.size) 4 (.int .i64 j.la))) (aj _ (d.heap.size) 5 (.int .i64 j.ro))) (aj _ (d.heap.size) 6 (.int .i64 j.now))) (by omega)).set 0 ah).set 1 ah).set 2 false).set 3 (.slice ta 0 tc)).set 4 (.slice ca 0 cc)).set 5 ah).set 6 false):Cs K s.heap.size _)
 have EX:=hid (show aX K (.agg #[.slice fb j.fos.length fd,.slice gb j.gs.length gd,.slice sb j.ss.length sd,.int .i64 j.nx,.int .i64 j.la,.int .i64 j.ro,.int .i64 j.now]) j from by rw[R];exact((F6.out.below N).nb (ar (ar (ar (ar (ar (ar (aj y2 (d.heap.size) 0 (.slice fb j.fos.length fd)) (aj _ (d.heap.size) 1 (.slice gb j.gs.length gd))) (aj _ (d.heap.size) 2 (.slice sb j.ss.length sd))) (aj _ (d.heap.size) 3 (.int .i64 j.nx))) (aj _ (d.heap.size) 4 (.int .i64 j.la))) (aj _ (d.heap.size) 5 (.int .i64 j.ro))) (aj _ (d.heap.size) 6 (.int .i64 j.now))) (nT (EK.out.below N))).nb (ar (ar (ar (ar (ar (ar (aj _ (s.heap.size) 0 ah) (aj _ (s.heap.size) 1 ah)) (aj _ (s.heap.size) 2 false)) (aj _ (s.heap.size) 3 (.slice ta 0 tc))) (aj _ (s.heap.size) 4 (.slice ca 0 cc))) (aj _ (s.heap.size) 5 ah)) (aj _ (s.heap.size) 6 false)) (iz (E6.out.nb (ar (ar (ar (ar (ar (ar (aj y2 (d.heap.size) 0 (.slice fb j.fos.length fd)) (aj _ (d.heap.size) 1 (.slice gb j.gs.length gd))) (aj _ (d.heap.size) 2 (.slice sb j.ss.length sd))) (aj _ (d.heap.size) 3 (.int .i64 j.nx))) (aj _ (d.heap.size) 4 (.int .i64 j.la))) (aj _ (d.heap.size) 5 (.int .i64 j.ro))) (aj _ (d.heap.size) 6 (.int .i64 j.now))) (by omega))));have EP:=an (an E9 E0) N;have ER:Below w.heap.size w K:=by rw[R];exact(ei (b:=s.heap.size) (ei (b:=d.heap.size) EP (ET.size)) ((by show w.heap.size≤s.heap.size;have:=(an E9 E0).size;omega)))
 go_upto_region 3 with fail;rw[←E4,←R];clear R E4 p0 p1 p2 p3 p4 p5 p6 f0 f1 f2 f3 f4 f5 f6 f;have Fe:s.heap.size<K.heap.size:=E8.out.lt;have x0:=x.out.cell 0 rfl;have x1:=x.out.cell 1 rfl;have x2:=x.out.cell 2 rfl;have x3:=x.out.cell 3 rfl;have x4:=x.out.cell 4 rfl;have x5:=x.out.cell 5 rfl;have x6:=x.out.cell 6 rfl;obtain⟨wl,E3⟩: ∃wl,wl=K.alloc (.cells #[.int .i64 2,.string ⟨#[120]⟩,.string ⟨#[]⟩,.string ⟨#[49]⟩,ah] 83):=⟨_,rfl⟩
 have Y:Below K.heap.size K wl:=by rw[E3];exact ak
 have O:Hid (Cs wl K.heap.size [.int .i64 2,.string ⟨#[120]⟩,.string ⟨#[]⟩,.string ⟨#[49]⟩,ah]):=(by rw[E3];exact Cs.new K [.int .i64 2,.string ⟨#[120]⟩,.string ⟨#[]⟩,.string ⟨#[49]⟩,ah] _:Cs wl K.heap.size _)
 have EJ:=an ER Y;have Fc:=hid (x.out.below Y);have F3:=hid (E8.out.below Y);have Fj:=Y.size;go_wp2_with fail;rw[←E3];clear E3 x0 x1 x2 x3 x4 x5 x6
 refine(Fa.out wl _ _ (EX.out.below Y) ⟨_,rfl,⟨some ⟨K.heap.size,0,none⟩,1,rfl,ax,by decide,fun i hi=>⟨K.heap.size,0,rfl,O.out.lt,by
  match i,hi with
  |0,_=>exact⟨O.out.cell 0 rfl,O.out.cell 1 rfl,O.out.cell 2 rfl,O.out.cell 3 rfl,O.out.cell 4 rfl⟩⟩⟩⟩).mono ?_
 rintro e o ⟨u3,a3,rfl,EV,F0,X⟩;have F7:=hid EV;have EL:=hid (Fc.out.below X);have F4:=hid (F3.out.below X);obtain⟨C,E,F,G,I,J,rfl⟩:=EV.shape
 obtain⟨S,T,P,Q,rfl⟩:=F0.shape
 simp only[bt,List.length_nil];have Fi:=X.size;clear EV F0;have Fk: ¬d.heap.size=o.heap.size:=by omega
 have Fl: ¬o.heap.size=d.heap.size:=by omega
 have f:=hid (EL.out.below ((Below.refl o.heap.size o).alloc ax (.cells  bC  38)));have p0:=f.out.cell 0 rfl;have f0:=f.out.fr 0;have p1:=f.out.cell 1 rfl;have f1:=f.out.fr 1;have p2:=f.out.cell 2 rfl;have f2:=f.out.fr 2;have p3:=f.out.cell 3 rfl;have f3:=f.out.fr 3;have p4:=f.out.cell 4 rfl;have f4:=f.out.fr 4;have p5:=f.out.cell 5 rfl;have f5:=f.out.fr 5;have p6:=f.out.cell 6 rfl;have f6:=f.out.fr 6;obtain⟨y3,E5⟩: ∃y3,y3=o.alloc (.cells  bC  38):=⟨_,rfl⟩
 have H:Below o.heap.size o y3:=by rw[E5];exact ak
 have E7:=hid (show Cs y3 o.heap.size  bC from by rw[E5];exact Cs.new o  bC  _);obtain⟨U,M⟩: ∃U,U=((((((((((((((y3.setCell ⟨d.heap.size,0,none⟩ (.slice C g.fos.length E)).setCell ⟨d.heap.size,1,none⟩ (.slice F g.gs.length G)).setCell ⟨d.heap.size,2,none⟩ (.slice I g.ss.length J)).setCell ⟨d.heap.size,3,none⟩ (.int .i64 g.nx)).setCell ⟨d.heap.size,4,none⟩ (.int .i64 g.la)).setCell ⟨d.heap.size,5,none⟩ (.int .i64 g.ro)).setCell ⟨d.heap.size,6,none⟩ (.int .i64 g.now)).setCell ⟨o.heap.size,0,none⟩ ah).setCell ⟨o.heap.size,1,none⟩ (.int .i64 1)).setCell ⟨o.heap.size,2,none⟩ false).setCell ⟨o.heap.size,3,none⟩ (.slice S 0 T)).setCell ⟨o.heap.size,4,none⟩ (.slice P 0 Q)).setCell ⟨o.heap.size,5,none⟩ ah).setCell ⟨o.heap.size,6,none⟩ false):=⟨_,rfl⟩
 have A:Hid (Cs U d.heap.size [.slice C g.fos.length E,.slice F g.gs.length G,.slice I g.ss.length J,.int .i64 g.nx,.int .i64 g.la,.int .i64 g.ro,.int .i64 g.now]):=(by rw[M];exact(((((((((EL.out.below H).set 0 (.slice C g.fos.length E)).set 1 (.slice F g.gs.length G)).set 2 (.slice I g.ss.length J)).set 3 (.int .i64 g.nx)).set 4 (.int .i64 g.la)).set 5 (.int .i64 g.ro)).set 6 (.int .i64 g.now))).nb (ar (ar (ar (ar (ar (ar (aj _ (o.heap.size) 0 ah) (aj _ (o.heap.size) 1 (.int .i64 1))) (aj _ (o.heap.size) 2 false)) (aj _ (o.heap.size) 3 (.slice S 0 T))) (aj _ (o.heap.size) 4 (.slice P 0 Q))) (aj _ (o.heap.size) 5 ah)) (aj _ (o.heap.size) 6 false)) (by omega):Cs U d.heap.size _)
 have V:Hid (Cs U o.heap.size [ah,.int .i64 1,false,.slice S 0 T,.slice P 0 Q,ah,false]):=(by rw[M];exact((((((((E7.out.nb (ar (ar (ar (ar (ar (ar (aj y3 (d.heap.size) 0 (.slice C g.fos.length E)) (aj _ (d.heap.size) 1 (.slice F g.gs.length G))) (aj _ (d.heap.size) 2 (.slice I g.ss.length J))) (aj _ (d.heap.size) 3 (.int .i64 g.nx))) (aj _ (d.heap.size) 4 (.int .i64 g.la))) (aj _ (d.heap.size) 5 (.int .i64 g.ro))) (aj _ (d.heap.size) 6 (.int .i64 g.now))) (by omega)).set 0 ah).set 1 (.int .i64 1)).set 2 false).set 3 (.slice S 0 T)).set 4 (.slice P 0 Q)).set 5 ah).set 6 false):Cs U o.heap.size _)
 have EY:=hid (show aX U (.agg #[.slice C g.fos.length E,.slice F g.gs.length G,.slice I g.ss.length J,.int .i64 g.nx,.int .i64 g.la,.int .i64 g.ro,.int .i64 g.now]) g from by rw[M];exact((F7.out.below H).nb (ar (ar (ar (ar (ar (ar (aj y3 (d.heap.size) 0 (.slice C g.fos.length E)) (aj _ (d.heap.size) 1 (.slice F g.gs.length G))) (aj _ (d.heap.size) 2 (.slice I g.ss.length J))) (aj _ (d.heap.size) 3 (.int .i64 g.nx))) (aj _ (d.heap.size) 4 (.int .i64 g.la))) (aj _ (d.heap.size) 5 (.int .i64 g.ro))) (aj _ (d.heap.size) 6 (.int .i64 g.now))) (nT (EL.out.below H))).nb (ar (ar (ar (ar (ar (ar (aj _ (o.heap.size) 0 ah) (aj _ (o.heap.size) 1 (.int .i64 1))) (aj _ (o.heap.size) 2 false)) (aj _ (o.heap.size) 3 (.slice S 0 T))) (aj _ (o.heap.size) 4 (.slice P 0 Q))) (aj _ (o.heap.size) 5 ah)) (aj _ (o.heap.size) 6 false)) (iz (E7.out.nb (ar (ar (ar (ar (ar (ar (aj y3 (d.heap.size) 0 (.slice C g.fos.length E)) (aj _ (d.heap.size) 1 (.slice F g.gs.length G))) (aj _ (d.heap.size) 2 (.slice I g.ss.length J))) (aj _ (d.heap.size) 3 (.int .i64 g.nx))) (aj _ (d.heap.size) 4 (.int .i64 g.la))) (aj _ (d.heap.size) 5 (.int .i64 g.ro))) (aj _ (d.heap.size) 6 (.int .i64 g.now))) (by omega))));have EQ:=an (an EJ X) H;have ES:Below w.heap.size w U:=by rw[M];exact(ei (b:=o.heap.size) (ei (b:=d.heap.size) EQ (ET.size)) ((by show w.heap.size≤o.heap.size;have:=(an EJ X).size;omega)))
 have EW:Hid (Cs U s.heap.size [ah,ah,false,.slice ta 0 tc,.slice ca 0 cc,ah,false]):=(by rw[M];exact((F4.out.below H).nb (ar (ar (ar (ar (ar (ar (aj y3 (d.heap.size) 0 (.slice C g.fos.length E)) (aj _ (d.heap.size) 1 (.slice F g.gs.length G))) (aj _ (d.heap.size) 2 (.slice I g.ss.length J))) (aj _ (d.heap.size) 3 (.int .i64 g.nx))) (aj _ (d.heap.size) 4 (.int .i64 g.la))) (aj _ (d.heap.size) 5 (.int .i64 g.ro))) (aj _ (d.heap.size) 6 (.int .i64 g.now))) (by omega)).nb (ar (ar (ar (ar (ar (ar (aj _ (o.heap.size) 0 ah) (aj _ (o.heap.size) 1 (.int .i64 1))) (aj _ (o.heap.size) 2 false)) (aj _ (o.heap.size) 3 (.slice S 0 T))) (aj _ (o.heap.size) 4 (.slice P 0 Q))) (aj _ (o.heap.size) 5 ah)) (aj _ (o.heap.size) 6 false)) (by omega):Cs U s.heap.size _)
 go_upto_region 4 with fail;rw[←E5,←M];clear M E5 p0 p1 p2 p3 p4 p5 p6 f0 f1 f2 f3 f4 f5 f6 f;have Ff:o.heap.size<U.heap.size:=V.out.lt;have x0:=A.out.cell 0 rfl;have x1:=A.out.cell 1 rfl;have x2:=A.out.cell 2 rfl;have x3:=A.out.cell 3 rfl;have x4:=A.out.cell 4 rfl;have x5:=A.out.cell 5 rfl;have x6:=A.out.cell 6 rfl;go_wp2_with fail;refine(Fb.out U _ EY.out).mono ?_
 rintro e w4 ⟨Fm,Fo,rfl,E1⟩;clear x0 x1 x2 x3 x4 x5 x6;have F1:=an ES E1;have k0:=(EW.out.below E1).cell 0 rfl;have m0:=(V.out.below E1).cell 0 rfl;have m1:=(V.out.below E1).cell 1 rfl;go_wp2;go_ret;exact⟨rfl,F1⟩
theorem aK.nb2 {w w':World} {u:Value} {L:List Se} {g m B:Nat} (h:aK w u L) (C:Fr B u) (v:aZ w w' g m) (G:g<B) (H:m<B):aK w' u L:=by
 obtain⟨a,f,rfl,x,z,A⟩:=h
 refine⟨a,f,rfl,x,z,fun i E=>?_⟩
 obtain⟨b,o,rfl,s,d⟩:=A i E
 have F:B≤b:=C b rfl;have c: ∀j,w'.cell? ⟨b,j,none⟩=w.cell? ⟨b,j,none⟩:=fun j=>v.cell s (by omega) (by omega) j
 exact⟨b,o,rfl,Nat.lt_of_lt_of_le s v.size,(c _).trans d.1,(c _).trans d.2.1,(c _).trans d.2.2.1,(c _).trans d.2.2.2.1,(c _).trans d.2.2.2.2⟩
structure Fu where
 e:Int
 ss:List Se
 nx:Int
 la:Int
 ro:Int
 tx:ByteArray
def iV (q:Rq) (tx:ByteArray):List aE:=[⟨2,q.name,⟨#[]⟩,tx,q.base⟩]
def iD (H:Hb) (q:Rq) (F:Fu):Int:=if F.e=0 then ew H (aV H.fos H.gs q.fo) q.key (iV q F.tx)else F.e
def iF (H:Hb) (q:Rq) (F:Fu):Int:=if F.e=0 then gx H (aV H.fos H.gs q.fo) q.key (iV q F.tx)else 0
def iG (H:Hb) (q:Rq) (F:Fu):Hb:=if F.e=0 then gy (eS H (aV H.fos H.gs q.fo) q.key (iV q F.tx)) (ew H (aV H.fos H.gs q.fo) q.key (iV q F.tx)) F.ss F.nx F.la F.ro else H
theorem Dz (H:Hb) (q:Rq) (vq vf vg vs:Value) (B g mb n:Nat) (w:World) (F:Fu) (Y:Sv B w g mb vf vg vs H) (hm:dZ w mb n H) (F0:g<B) (F6:B≤w.heap.size) (hs:jN H.fos) (hq:bH w vq q) (EM:cE q) (EN:F.tx.size≤150000000000000) (hi:aV H.fos H.gs q.fo<H.fos.length)
    (EJ: ∀(W:World) (v:Value),aK W v H.ss→Calls prog 108 #[.agg #[v,H.nx,H.la,H.ro],q.who,q.num,H.now] W fun z w'=> ∃u,z= .returned (.tuple #[.agg #[u,F.nx,F.la,F.ro],F.tx,F.e])∧aK w' u F.ss∧Fr W.heap.size u∧Below W.heap.size W w'):
    Calls prog 82 #[.pointer (some ⟨g,0,none⟩),vq] w fun z w'=>z= .returned (.tuple #[iF H q F,iD H q F])∧bU w' g mb (iG H q F)∧aZ w w' g (bo vf g):=by
 have E5:=hid EJ;have E7:=hid Y;have HM:=hid hm;have EW:=hid hs;have E6:=hid EM;have EX:=hid EN;have HI:=hid hi;have F5:=hid hq;clear EJ hs hm EM EN hi;obtain⟨q0,EK⟩: ∃q0,q0=q:=⟨_,rfl⟩
 have EU:=hid EK;clear EK;obtain⟨va,rfl,lq⟩:=hq
 have ER:=hid lq;obtain⟨qa,qc,rfl,_⟩:=lq
 obtain⟨kind,who,fo,name,key,text,num,off,base,ch⟩:=q
 simp only at*;obtain⟨a,E0⟩: ∃a,a=w.alloc (.cells #[kind,who,fo,name,key,text,num,off,base,.slice qa ch.length qc] 31):=⟨_,rfl⟩
 have E3:Below w.heap.size w a:=by rw[E0];exact ak
 have f:Hid (Cs a w.heap.size [kind,who,fo,name,key,text,num,off,base,.slice qa ch.length qc]):=(by rw[E0];exact Cs.new w [kind,who,fo,name,key,text,num,off,base,.slice qa ch.length qc] _:Cs a w.heap.size _)
 obtain⟨fa,fc,ga,gc,sa,sc,hC,hF,hG,hS⟩:=Y.lies.shape
 have j:=hid (hC.below E3);have E4:=hid (hS.below E3);have F1:g<w.heap.size:=hC.lt;have F8:=j.out.lt;have Fb:=f.out.lt
 have EZ:=hid (show bo vf g<w.heap.size from by
  rw[bo];cases hb:vf.ownBlock with
  |none=>exact F1
  |some b=>obtain⟨_,_,_,ho,_⟩:=Y.2.1;exact ho.lt b hb)
 clear Y hC hF hG hS;have x1:=f.out.cell 1 rfl;have x6:=f.out.cell 6 rfl;have p2:=j.out.cell 2 rfl;have p3:=j.out.cell 3 rfl;have p4:=j.out.cell 4 rfl;have p5:=j.out.cell 5 rfl;have p6:=j.out.cell 6 rfl;have V:Below a.heap.size a a.drew:= aw.drew;have J:Below a.heap.size a (a.alloc (.cells  aJ  26)).drew:= ak.drew;have Fa: ¬w.heap.size=a.heap.size:=by omega
 have F3: ¬g=a.heap.size:=by omega
 go_enter func82,ntmps82
 go_upto_region 1 with fail;rw[←E0];clear E0;go_cut [6,7,8] (fun p t e W=> ∃b s A,p= .pointer (some ⟨b,0,none⟩)∧t= .string F.tx∧e= .int .i64 F.e∧a.heap.size≤b∧Hid (Cs W b [.slice s F.ss.length A,F.nx,F.la,F.ro])∧Hid (aK W (.slice s F.ss.length A) F.ss∧Fr a.heap.size (.slice s F.ss.length A))∧Below a.heap.size a W)
 case first=>
  go_region_held3 (fun W=>W.cell? ⟨w.heap.size,1,none⟩=some (.string who)∧W.cell? ⟨w.heap.size,6,none⟩=some (.int .i64 num)∧W.cell? ⟨g,2,none⟩=some (.slice sa H.ss.length sc)∧W.cell? ⟨g,3,none⟩=some (.int .i64 H.nx)∧W.cell? ⟨g,4,none⟩=some (.int .i64 H.la)∧W.cell? ⟨g,5,none⟩=some (.int .i64 H.ro)∧W.cell? ⟨g,6,none⟩=some (.int .i64 H.now)) (first|go_keep|(have hx:=((f.out.below hb23).nb (ar (ar (ar (aj w3 (a.heap.size) 0 (.slice s F.ss.length A)) (aj _ (a.heap.size) 1 F.nx)) (aj _ (a.heap.size) 2 F.la)) (aj _ (a.heap.size) 3 F.ro)) (by omega));have hy:=((j.out.below hb23).nb (ar (ar (ar (aj w3 (a.heap.size) 0 (.slice s F.ss.length A)) (aj _ (a.heap.size) 1 F.nx)) (aj _ (a.heap.size) 2 F.la)) (aj _ (a.heap.size) 3 F.ro)) (by omega));exact⟨hx.cell 1 rfl,hx.cell 6 rfl,hy.cell 2 rfl,hy.cell 3 rfl,hy.cell 4 rfl,hy.cell 5 rfl,hy.cell 6 rfl⟩)) (first
   |(go_at_call 108;refine(E5.out _ _ (E4.out.below V)).mono ?_;rintro z w3 ⟨u3,rfl,M,K,S⟩;have hb23:=an V S;have E1:=hid M;have Q:=hid K;obtain⟨s,A,rfl,_⟩:=M;clear K;have q1:=(f.out.below hb23).cell 1 rfl;have q6:=(f.out.below hb23).cell 6 rfl;have c2:=(j.out.below hb23).cell 2 rfl;have c3:=(j.out.below hb23).cell 3 rfl;have c4:=(j.out.below hb23).cell 4 rfl;have c5:=(j.out.below hb23).cell 5 rfl;have c6:=(j.out.below hb23).cell 6 rfl)
   |(go_at_call 108;refine(E5.out _ _ (E4.out.below J)).mono ?_;rintro z w3 ⟨u3,rfl,M,K,S⟩;have hb23:=an J S;have E1:=hid M;have Q:=hid K;obtain⟨s,A,rfl,_⟩:=M;clear K;have q1:=(f.out.below hb23).cell 1 rfl;have q6:=(f.out.below hb23).cell 6 rfl;have c2:=(j.out.below hb23).cell 2 rfl;have c3:=(j.out.below hb23).cell 3 rfl;have c4:=(j.out.below hb23).cell 4 rfl;have c5:=(j.out.below hb23).cell 5 rfl;have c6:=(j.out.below hb23).cell 6 rfl;have R:=hid (((Cs.new a  aJ  26).below ( aw.drew)).below S);have d0:=R.out.cell 0 rfl;have d1:=R.out.cell 1 rfl;have d2:=R.out.cell 2 rfl;have d3:=R.out.cell 3 rfl;have r0:=R.out.fr 0;have r1:=R.out.fr 1;have r2:=R.out.fr 2;have r3:=R.out.fr 3))
  all_goals
   go_wp2;go_meet
   case rel=>first
    |exact⟨a.heap.size,s,A,rfl,rfl,rfl,ax,((((R.out.set 0 (.slice s F.ss.length A)).set 1 F.nx).set 2 F.la).set 3 F.ro),⟨E1.out.nb2 Q.out (aZ.of_left 0 (ar (ar (ar (aj w3 (a.heap.size) 0 (.slice s F.ss.length A)) (aj _ (a.heap.size) 1 F.nx)) (aj _ (a.heap.size) 2 F.la)) (aj _ (a.heap.size) 3 F.ro))) (by simp) (by have:=J.size;omega),Q.out.mono J.size⟩,(yI (b:=a.heap.size) hb23 ax)⟩
    |exact⟨_,s,A,rfl,rfl,rfl,hb23.size,Cs.new w3 [.slice s F.ss.length A,F.nx,F.la,F.ro] _,⟨E1.out.below ak,Q.out.mono V.size⟩,hb23.alloc hb23.size _⟩
 case rest=>
  obtain⟨b,s,A,rfl,rfl,rfl,F7,HB,HU,U⟩:=hcut
  have d:=hid (f.out.below U);have F4:=hid (j.out.below U);have Fe:=U.size;have F9:=HB.out.lt;clear x1 x6 p2 p3 p4 p5 p6 V J;have I:=an E3 U;have F2:Hid (⟨kind,who,fo,name,key,text,num,off,base,ch⟩=q0):=(EU.out.symm:(⟨kind,who,fo,name,key,text,num,off,base,ch⟩:Rq)=q0)
  by_cases G:F.e=0
  · have HE:=hid G
    rw[G];obtain⟨N,hN⟩: ∃N,N=gx H (aV H.fos H.gs fo) key (iV ⟨kind,who,fo,name,key,text,num,off,base,ch⟩ F.tx):=⟨_,rfl⟩
    obtain⟨E,hE⟩: ∃E,E=ew H (aV H.fos H.gs fo) key (iV ⟨kind,who,fo,name,key,text,num,off,base,ch⟩ F.tx):=⟨_,rfl⟩
    obtain⟨H2,E2⟩: ∃H2,H2=eS H (aV H.fos H.gs fo) key (iV ⟨kind,who,fo,name,key,text,num,off,base,ch⟩ F.tx):=⟨_,rfl⟩
    have c:=hid (show iF H ⟨kind,who,fo,name,key,text,num,off,base,ch⟩ F=N∧iD H ⟨kind,who,fo,name,key,text,num,off,base,ch⟩ F=E∧iG H ⟨kind,who,fo,name,key,text,num,off,base,ch⟩ F=gy H2 E F.ss F.nx F.la F.ro from by rw[hN,hE,E2,iF,iD,iG,if_pos G,if_pos G,if_pos G];exact⟨rfl,rfl,rfl⟩);have HN:=hid hN;have EP:=hid hE;have EQ:=hid E2;clear G hN hE E2;obtain⟨wl,Z⟩: ∃wl,wl=wc.alloc (.cells #[.int .i64 2,name,.string ⟨#[]⟩,F.tx,base] 83):=⟨_,rfl⟩
    have T:Below wc.heap.size wc wl:=by rw[Z];exact ak
    have C:Hid (Cs wl wc.heap.size [.int .i64 2,name,.string ⟨#[]⟩,F.tx,base]):=(by rw[Z];exact Cs.new wc [.int .i64 2,name,.string ⟨#[]⟩,F.tx,base] _:Cs wl wc.heap.size _)
    have o:=an I T;have EO:=hid (HB.out.below T);have Fc:=T.size;have x0:=d.out.cell 0 rfl;have x1:=d.out.cell 1 rfl;have x2:=d.out.cell 2 rfl;have x3:=d.out.cell 3 rfl;have x4:=d.out.cell 4 rfl;have x5:=d.out.cell 5 rfl;have x6:=d.out.cell 6 rfl;have x7:=d.out.cell 7 rfl;have x8:=d.out.cell 8 rfl;have x9:=d.out.cell 9 rfl;go_wp2_with fail;rw[←Z];clear Z x0 x1 x2 x3 x4 x5 x6 x7 x8 x9
    refine(vu H ⟨kind,who,fo,name,key,text,num,off,base,ch⟩ (iV ⟨kind,who,fo,name,key,text,num,off,base,ch⟩ F.tx) _ _ vf vg vs B g mb n wl (E7.out.below o) (HM.out.below o) F0 EW.out ⟨_,rfl,ER.out.below o⟩ E6.out ⟨some ⟨wc.heap.size,0,none⟩,1,rfl,ax,by show(1:Nat)≤_;decide,fun i hi=>⟨wc.heap.size,0,rfl,C.out.lt,by
     match i,hi with
     |0,_=>exact⟨C.out.cell 0 rfl,C.out.cell 1 rfl,C.out.cell 2 rfl,C.out.cell 3 rfl,C.out.cell 4 rfl⟩⟩⟩ (fun x hx=>by
     obtain rfl:=List.mem_singleton.1 hx;exact⟨E6.out.name,by show(0:Nat)≤_;omega,EX.out⟩) HI.out).mono ?_
    rintro z w5 ⟨rfl,O,X⟩;rw[←HN.out,←EP.out];rw[←EQ.out]at O;have Ff:=EZ.out;have E8:=hid O;have P:=hid (EO.out.nb2 X (by omega) (by omega));have EY:=hid (show aK w5 (.slice s F.ss.length A) F.ss from(HU.out.1.below T).nb2 HU.out.2 X (by omega) (by omega));have ES:=hid (show aZ w w5 g (bo vf g)from(aZ.of_below _ _ o).trans X);clear O X;have y0:=P.out.cell 0 rfl;have y1:=P.out.cell 1 rfl;have y2:=P.out.cell 2 rfl;have y3:=P.out.cell 3 rfl;go_wp2_with fail;refine(qO H2 F.ss _ F.nx F.la F.ro N E g mb w5 E8.out EY.out).mono ?_
    rintro z w6 ⟨rfl,EL,E9⟩;have EV:=hid EL;have ET:=hid (show aZ w w6 g (bo vf g)from ES.out.trans (aZ.of_left _ E9));clear EL E9 y0 y1 y2 y3;go_wp2_with fail;go_ret2;rw[c.out.1,c.out.2.1,c.out.2.2];exact⟨rfl,EV.out,ET.out⟩
  · have c:=hid (show iF H ⟨kind,who,fo,name,key,text,num,off,base,ch⟩ F=0∧iD H ⟨kind,who,fo,name,key,text,num,off,base,ch⟩ F=F.e∧iG H ⟨kind,who,fo,name,key,text,num,off,base,ch⟩ F=H from by rw[iF,iD,iG,if_neg G,if_neg G,if_neg G];exact⟨rfl,rfl,rfl⟩)
    have Fg:(F.e !=0)=true:=by simpa using G
    have hz:(F.e==0)=false:=by simpa using G
    clear G;go_wp2_with fail;go_ret2;rw[c.out.1,c.out.2.1,c.out.2.2];exact⟨rfl,E7.out.lies.below I,aZ.of_below _ _ I⟩
def mI (e:Int):Ur:=⟨e,[],0,0,0,0⟩
def eH (H:Hb) (p:ByteArray) (n:Int):Ur:=if dr H.ss H.nx H.la H.ro p n H.now=0 then⟨0,aq H.now H.ss++[dA H.nx p n (H.now+H.la)],H.nx+1,H.la,H.ro,H.nx⟩else mI (dr H.ss H.nx H.la H.ro p n H.now)
def dv (H:Hb) (p:ByteArray) (n:Int):Nat:=(cM (aq H.now H.ss) (cO n p)).toNat
def n7 (H:Hb) (k:Nat) (s:Se) (o:Int) (t:ByteArray):Ur:=
 if fg s.tx o t=true then⟨0,aq H.now H.ss,H.nx,H.la,H.ro,(s.tx.size:Int)⟩
 else if o=(s.tx.size:Int)then(if s.si<(s.tx.size:Int)+t.size then mI 2 else⟨0,(aq H.now H.ss).set k (iB s t (H.now+H.la)),H.nx,H.la,H.ro,(s.tx.size:Int)+t.size⟩)
 else mI 4
def df (H:Hb) (p:ByteArray) (n o:Int) (t:ByteArray):Ur:=if bk H.ss H.nx H.la H.ro p n H.now=0 then(match (aq H.now H.ss)[dv H p n]? with
 |some s=>n7 H (dv H p n) s o t
 |none=>mI 5)else mI (bk H.ss H.nx H.la H.ro p n H.now)
def gD (H:Hb) (p:ByteArray) (n:Int):Int:=bk H.ss H.nx H.la H.ro p n H.now
def lz (H:Hb) (p:ByteArray) (n:Int):Int:=if gD H p n=0 then(match (aq H.now H.ss)[dv H p n]? with
 |some s=>(s.tx.size:Int)
 |none=>0)else 0
def mJ (e:Int):Fu:=⟨e,[],0,0,0,⟨#[]⟩⟩
def bS (H:Hb) (p:ByteArray) (n:Int):Fu:=if gD H p n=0 then(match (aq H.now H.ss)[dv H p n]? with
 |some s=>if(s.tx.size:Int)<s.si then mJ 4 else⟨0,(aq H.now H.ss).take (dv H p n)++(aq H.now H.ss).drop (dv H p n+1),H.nx,H.la,H.ro,s.tx⟩
 |none=>mJ 5)else mJ (gD H p n)
theorem kH {H:Hb} {p:ByteArray} {n:Int} (h:bk H.ss H.nx H.la H.ro p n H.now=0): ∃(f:dv H p n<(aq H.now H.ss).length),(aq H.now H.ss)[dv H p n]?=some (aq H.now H.ss)[dv H p n]∧cM (aq H.now H.ss) (cO n p)=(dv H p n:Int):=by
 rcases qy H.ss H.nx H.la H.ro p n H.now with⟨g,a⟩|⟨_,_,a⟩|⟨_,_,k,f,d⟩
 · rw[h]at a;exact absurd a.symm g
 · rw[h]at a;cases a
 · have e:dv H p n=k:=by rw[dv,d];rfl
   have c:dv H p n<(aq H.now H.ss).length:=by rw[e];exact f
   exact⟨c,List.getElem?_eq_getElem c,by rw[d,e]⟩
theorem ob {H:Hb} {p:ByteArray} {n:Int} (h:bk H.ss H.nx H.la H.ro p n H.now=0):(aq H.now H.ss).length≤20:=by
 have a:=iA h;have:=(cQ (bu (dz a).1).1).1
 have:=de H.now H.ss
 omega
theorem Fr.ownS {B:Nat} {w:World} {u:Value} {L:List Se} (h:bR B w u L):Fr B u:=by
 rcases h with⟨rfl,_⟩|⟨g,a,rfl,d,_⟩
 · exact fQ _
 · intro b c;simp[Value.ownBlock]at c;omega
theorem wD {f:Nat} {H:Hb} {v:Value} {p:ByteArray} {n:Int} {w:World} (h:Calls prog f #[.agg #[v,H.nx,H.la,H.ro],p,n,H.now] w fun e w'=>(¬dr H.ss H.nx H.la H.ro p n H.now=0∧e= .returned (.tuple #[.agg  aJ ,ah,dr H.ss H.nx H.la H.ro p n H.now])∧Below w.heap.size w w')∨(dr H.ss H.nx H.la H.ro p n H.now=0∧ ∃u,e= .returned (.tuple #[.agg #[u,(H.nx+1:Int),H.la,H.ro],H.nx,ah])∧bR w.heap.size w' u (aq H.now H.ss++[dA H.nx p n (H.now+H.la)])∧Below w.heap.size w w')):kF w f #[.agg #[v,H.nx,H.la,H.ro],p,n,H.now] (eH H p n):=by
 refine h.mono ?_
 rintro e w' (⟨h,rfl,i⟩|⟨h,u,rfl,s,i⟩)
 · rw[eH,if_neg h];exact⟨_,rfl,gj _,i⟩
 · rw[eH,if_pos h]
   refine⟨u,rfl,s.lies ?_,i⟩
   have:(aq H.now H.ss).length≤20:=by
    have x:=de H.now H.ss;rcases qp H.ss H.nx H.la H.ro p n H.now with⟨a,hE⟩|⟨a,c,hE⟩|⟨a,c,d,hE⟩|⟨a,c,d,g,hE⟩|⟨a,c,d,g,j,hE⟩|⟨a,c,d,g,j,o,hE⟩|⟨a,c,d,g,j,o,hE⟩
    all_goals first
     |(rw[h]at hE;exact absurd hE.symm a)
     |(have:=(cQ (bu (dz a).1).1).1;omega)
   simp;omega
theorem DA (H:Hb) (v:Value) (p:ByteArray) (n:Int) (w:World) (c:bq H.ss) (a:p.size≤150000000000000) (d:aK w v H.ss):kF w 79 #[.agg #[v,H.nx,H.la,H.ro],p,n,H.now] (eH H p n):=wD (Bj H.ss v H.nx H.la H.ro p n H.now w d c a)
theorem DB (H:Hb) (v:Value) (p:ByteArray) (n o:Int) (t:ByteArray) (w:World) (i:bq H.ss) (g:p.size≤150000000000000) (z:t.size≤150000000000000) (j:aK w v H.ss):kF w 80 #[.agg #[v,H.nx,H.la,H.ro],p,n,o,t,H.now] (df H p n o t):=by
 by_cases a:bk H.ss H.nx H.la H.ro p n H.now=0
 · obtain⟨x,A,e2⟩:=kH a
   have B:=ob a;rw[df,if_pos a,A];simp only[n7];cases s:fg ((aq H.now H.ss)[dv H p n]).tx o t with
   |true=>
    rw[if_pos rfl];refine(Cg H.ss v H.nx H.la H.ro p n o t H.now w j i g a _ x e2 z s).mono ?_
    rintro e w' ⟨u,rfl,d,c⟩;exact⟨u,rfl,d.lies (by omega),c⟩
   |false=>
    rw[if_neg (by decide)];by_cases d:o=((((aq H.now H.ss)[dv H p n]).tx.size:Nat):Int)
    · rw[if_pos d]
      by_cases f:((aq H.now H.ss)[dv H p n]).si<((((aq H.now H.ss)[dv H p n]).tx.size:Nat):Int)+t.size
      · rw[if_pos f]
        refine(Cj H.ss v H.nx H.la H.ro p n o t H.now w j i g a _ x e2 z s d f).mono ?_
        rintro e w' ⟨rfl,c⟩;exact⟨_,rfl,gj _,c⟩
      · rw[if_neg f]
        refine(Ce H.ss v H.nx H.la H.ro p n o t H.now w j i g a _ x e2 z s d (by omega)).mono ?_
        rintro e w' ⟨u,rfl,d,c⟩;exact⟨u,rfl,d.lies (by simp;omega),c⟩
    · rw[if_neg d]
      refine(Ci H.ss v H.nx H.la H.ro p n o t H.now w j i g a _ x e2 z s (by simpa using d)).mono ?_
      rintro e w' ⟨rfl,c⟩;exact⟨_,rfl,gj _,c⟩
 · rw[df,if_neg a]
   refine(Cf H.ss v H.nx H.la H.ro p n o t H.now w j i g a).mono ?_
   rintro e w' ⟨rfl,c⟩;exact⟨_,rfl,gj _,c⟩
theorem DC (H:Hb) (v:Value) (p:ByteArray) (n:Int) (w:World) (f:bq H.ss) (d:p.size≤150000000000000) (g:aK w v H.ss):Calls prog 81 #[.agg #[v,H.nx,H.la,H.ro],p,n,H.now] w fun z w'=>z= .returned (.tuple #[lz H p n,gD H p n])∧Below w.heap.size w w':=by
 by_cases a:bk H.ss H.nx H.la H.ro p n H.now=0
 · obtain⟨j,i,e2⟩:=kH a
   have c:gD H p n=0:=a;rw[lz,c,if_pos rfl,i];exact Dp H.ss v H.nx H.la H.ro p n H.now w g f d a _ j e2
 · have c: ¬gD H p n=0:=a
   rw[lz,if_neg c];exact Dq H.ss v H.nx H.la H.ro p n H.now w g f d a
theorem DD (H:Hb) (v:Value) (p:ByteArray) (n:Int) (w:World) (i:bq H.ss) (g:p.size≤150000000000000) (j:aK w v H.ss):Calls prog 108 #[.agg #[v,H.nx,H.la,H.ro],p,n,H.now] w fun z w'=> ∃u,z= .returned (.tuple #[.agg #[u,.int .i64 (bS H p n).nx,.int .i64 (bS H p n).la,.int .i64 (bS H p n).ro],.string (bS H p n).tx,.int .i64 (bS H p n).e])∧aK w' u (bS H p n).ss∧Fr w.heap.size u∧Below w.heap.size w w':=by
 by_cases c:bk H.ss H.nx H.la H.ro p n H.now=0
 · obtain⟨s,o,e2⟩:=kH c
   have A:=ob c;have f:gD H p n=0:=c;by_cases a:((((aq H.now H.ss)[dv H p n]).tx.size:Nat):Int)<((aq H.now H.ss)[dv H p n]).si
   · have e:bS H p n=mJ 4:=by rw[bS,f,if_pos rfl,o];exact if_pos a
     rw[e];refine(Ds H.ss v H.nx H.la H.ro p n H.now w j i g c _ s e2 a).mono ?_
     rintro e w' ⟨rfl,d⟩;exact⟨_,rfl,gj _,fQ _,d⟩
   · have e:bS H p n=⟨0,(aq H.now H.ss).take (dv H p n)++(aq H.now H.ss).drop (dv H p n+1),H.nx,H.la,H.ro,((aq H.now H.ss)[dv H p n]).tx⟩:=by rw[bS,f,if_pos rfl,o];exact if_neg a
     rw[e];refine(Cm H.ss v H.nx H.la H.ro p n H.now w j i g c _ s e2 a).mono ?_
     rintro e w' ⟨u,rfl,x,d⟩;exact⟨u,rfl,x.lies (by simp;omega),Fr.ownS x,d⟩
 · have f: ¬gD H p n=0:=c
   rw[bS,if_neg f];refine(Dr H.ss v H.nx H.la H.ro p n H.now w j i g c).mono ?_
   rintro e w' ⟨rfl,d⟩;exact⟨_,rfl,gj _,fQ _,d⟩
theorem DE (H:Hb) (q:Rq) (Y E X vs:Value) (B g C n:Nat) (w:World) (x:Sv B w g C E X vs H) (S:dZ w C n H) (O:g<B) (E0:B≤w.heap.size) (T:jN H.fos) (u:bq H.ss) (hq:bH w Y q) (s:cE q) (A:(bS H q.who q.num).tx.size≤150000000000000) (R:aV H.fos H.gs q.fo<H.fos.length) (hk:q.kind=7):
    Calls prog 42 #[.pointer (some ⟨g,0,none⟩),Y] w fun z w'=>z= .returned (.tuple #[iF H q (bS H q.who q.num),iD H q (bS H q.who q.num)])∧bU w' g C (iG H q (bS H q.who q.num))∧aZ w w' g (bo E g):=by
 have J:=hid T;have K:=hid u;have HM:=hid S;have Z:=hid R;have N:=hid A;have M:=hid x;have i:=hid s;clear T S R A u x s;obtain⟨va,rfl,V⟩:=hq
 have F:=hid V;obtain⟨P,Q,rfl,_⟩:=V
 obtain⟨kind,who,fo,name,key,text,num,off,base,ch⟩:=q
 simp only at*;obtain⟨f,d⟩: ∃f,f=w.alloc (.cells #[kind,who,fo,name,key,text,num,off,base,.slice P ch.length Q] 31):=⟨_,rfl⟩
 have c:Below w.heap.size w f:=by rw[d];exact ak
 have a:Hid (Cs f w.heap.size [kind,who,fo,name,key,text,num,off,base,.slice P ch.length Q]):=(by rw[d];exact Cs.new w [kind,who,fo,name,key,text,num,off,base,.slice P ch.length Q] _:Cs f w.heap.size _)
 subst hk;have x0:=a.out.cell 0 rfl;have x1:=a.out.cell 1 rfl;have x2:=a.out.cell 2 rfl;have x3:=a.out.cell 3 rfl;have x4:=a.out.cell 4 rfl;have x5:=a.out.cell 5 rfl;have x6:=a.out.cell 6 rfl;have x7:=a.out.cell 7 rfl;have x8:=a.out.cell 8 rfl;have x9:=a.out.cell 9 rfl;have U:=c.size;go_enter func42,ntmps42
 go_upto_region 1 with fail;rw[←d];clear d;go_wp2_with fail;refine(Dz H ⟨7,who,fo,name,key,text,num,off,base,ch⟩ _ E X vs B g C n f (bS H who num) (M.out.below c) (HM.out.below c) O (by omega) J.out ⟨_,rfl,F.out.below c⟩ i.out N.out Z.out (fun W v hv=>DD H v who num W K.out i.out.who hv)).mono ?_
 rintro z w3 ⟨rfl,o,j⟩;have I:=hid o;have G:=hid (show aZ w w3 g (bo E g)from(aZ.of_below _ _ c).trans j);clear o j;go_wp2_with fail;go_ret2;exact⟨rfl,I.out,G.out⟩
theorem DF {H:Hb} (f:bq H.ss) (p:ByteArray) (n:Int):(bS H p n).tx.size≤150000000000000:=by
 rw[bS];split
 · rename_i c
   obtain⟨d,a,_⟩:=kH c
   rw[a];simp only;split
   · show(0:Nat)≤_;omega
   · exact(f _ (List.mem_filter.1 (List.getElem_mem d)).1).2
 · show(0:Nat)≤_;omega
theorem DG (H:Hb) (q:Rq) (v f:Value) (w:World) (x:aX w v H) (s:dd H) (j:bH w f q) (d:cE q) (G:ae H=0) (A:q.kind=4) (i:cD H.gs q=0):
    Calls prog 4 #[v,f] w fun e w'=> ∃u a,e= .returned (.tuple #[u,a,ah])∧aX w' u (gy H (eH H q.who q.num).e (eH H q.who q.num).ss (eH H q.who q.num).nx (eH H q.who q.num).la (eH H q.who q.num).ro)∧bX w' a ⟨(eH H q.who q.num).e,(eH H q.who q.num).num,bt⟩∧Below w.heap.size w w':=by
 refine jA H _ _ q v f w x s j G ?_
 intro B W g C E N vs f c M K I j;exact kB H _ q f E g C _ _ W c.lies s.gs j d i (by rw[A];decide) (fun F z J o=>Dd H q z E g C F _ (c.below J).lies o A (fun W v x=>DA H v q.who q.num W s.ss d.who x)) c.vlt
theorem DH (H:Hb) (q:Rq) (v f:Value) (w:World) (x:aX w v H) (s:dd H) (j:bH w f q) (c:cE q) (G:ae H=0) (A:q.kind=5) (i:cD H.gs q=0):
    Calls prog 4 #[v,f] w fun e w'=> ∃u a,e= .returned (.tuple #[u,a,ah])∧aX w' u (gy H (df H q.who q.num q.off q.text).e (df H q.who q.num q.off q.text).ss (df H q.who q.num q.off q.text).nx (df H q.who q.num q.off q.text).la (df H q.who q.num q.off q.text).ro)∧bX w' a ⟨(df H q.who q.num q.off q.text).e,(df H q.who q.num q.off q.text).num,bt⟩∧Below w.heap.size w w':=by
 refine jA H _ _ q v f w x s j G ?_
 intro B W g C E N vs f d M K I j;exact kB H _ q f E g C _ _ W d.lies s.gs j c i (by rw[A];decide) (fun F z J o=>De H q z E g C F _ (d.below J).lies o A (fun W v x=>DB H v q.who q.num q.off q.text W s.ss c.who c.text x)) d.vlt
theorem DI (H:Hb) (q:Rq) (v f:Value) (w:World) (x:aX w v H) (s:dd H) (j:bH w f q) (d:cE q) (G:ae H=0) (A:q.kind=6) (i:cD H.gs q=0):
    Calls prog 4 #[v,f] w fun e w'=> ∃u a,e= .returned (.tuple #[u,a,ah])∧aX w' u H∧bX w' a ⟨gD H q.who q.num,lz H q.who q.num,bt⟩∧Below w.heap.size w w':=by
 refine jA H _ _ q v f w x s j G ?_
 intro B W g C E N vs f c M K I j;exact kB H _ q f E g C _ _ W c.lies s.gs j d i (by rw[A];decide) (fun F z J o=>Df H q z E g C F _ _ (c.below J).lies o A (fun W v x=>DC H v q.who q.num W s.ss d.who x)) c.vlt
theorem DJ (H:Hb) (q:Rq) (v j:Value) (w:World) (O:aX w v H) (f:dd H) (C:bH w j q) (i:cE q) (G:ae H=0) (A:q.kind=7) (d:cD H.gs q=0):
    Calls prog 4 #[v,j] w fun e w'=> ∃u a,e= .returned (.tuple #[u,a,ah])∧aX w' u (iG H q (bS H q.who q.num))∧bX w' a ⟨iD H q (bS H q.who q.num),iF H q (bS H q.who q.num),bt⟩∧Below w.heap.size w w':=by
 have z:bJ H.gs q.fo=true:=qJ (h:=q.who) (by have:=(nR d).2.2.2;rw[A]at this;have e:Hu.lst 7=2:=rfl;omega);have M:aV H.fos H.gs q.fo<H.fos.length:=(lu G z).elim (fun h _=>h);refine jA H _ _ q v j w O f C G ?_
 intro B W g I J P vs j c N x o C;exact kB H _ q j J g I _ _ W c.lies f.gs C i d (by rw[A];decide) (fun K F s E=>DE H q F J P vs B g I _ K (c.below s) (N.below s) x (Nat.le_trans o s.size) f.fos f.ss E i (DF f.ss _ _) M A) c.vlt
theorem DK (L:List Sh) (x:ByteArray):cj L x≤L.length:=by
 rw[cj];exact List.findIdx_le_length
def kI (U:Ur):An:=⟨U.e,U.num,bt⟩
def mK (H:Hb) (U:Ur):Hb:=gy H U.e U.ss U.nx U.la U.ro
def dR (H:Hb) (q:Rq):Hb:=
 if q.kind=1 then eS H (aV H.fos H.gs q.fo) q.key q.ch
 else if q.kind=2 then H
 else if q.kind=3 then jR H (eF H.gs q.fo q.who q.name q.num) (eG H.gs q.fo q.who q.name q.num)
 else if q.kind=4 then mK H (eH H q.who q.num)
 else if q.kind=5 then mK H (df H q.who q.num q.off q.text)
 else if q.kind=6 then H
 else if q.kind=7 then iG H q (bS H q.who q.num)
 else eT H q.fo q.who
def dS (H:Hb) (q:Rq):An:=
 if q.kind=1 then⟨ew H (aV H.fos H.gs q.fo) q.key q.ch,gx H (aV H.fos H.gs q.fo) q.key q.ch,bt⟩
 else if q.kind=2 then⟨dN (dB H (aV H.fos H.gs q.fo)) q.num 10,0,ev (dB H (aV H.fos H.gs q.fo)) q.num 10⟩
 else if q.kind=3 then⟨eF H.gs q.fo q.who q.name q.num,0,bt⟩
 else if q.kind=4 then kI (eH H q.who q.num)
 else if q.kind=5 then kI (df H q.who q.num q.off q.text)
 else if q.kind=6 then⟨gD H q.who q.num,lz H q.who q.num,bt⟩
 else if q.kind=7 then⟨iD H q (bS H q.who q.num),iF H q (bS H q.who q.num),bt⟩
 else⟨Hu.mkE H q.fo q.who,0,bt⟩
def eI (H:Hb) (q:Rq):Hb:=if cD H.gs q=0 then dR H q else H
def eJ (H:Hb) (q:Rq):An:=if cD H.gs q=0 then dS H q else⟨cD H.gs q,0,bt⟩
theorem wE {k:Int} (a:1≤k) (c:k≤8):k=1∨k=2∨k=3∨k=4∨k=5∨k=6∨k=7∨k=8:=by omega
theorem od {H:Hb} {q:Rq} (h:q.kind=1):dR H q=eS H (aV H.fos H.gs q.fo) q.key q.ch∧dS H q=⟨ew H (aV H.fos H.gs q.fo) q.key q.ch,gx H (aV H.fos H.gs q.fo) q.key q.ch,bt⟩:=by simp[dR,dS,h]
theorem oe {H:Hb} {q:Rq} (h:q.kind=2):dR H q=H∧dS H q=⟨dN (dB H (aV H.fos H.gs q.fo)) q.num 10,0,ev (dB H (aV H.fos H.gs q.fo)) q.num 10⟩:=by simp[dR,dS,h]
theorem og {H:Hb} {q:Rq} (h:q.kind=3):dR H q=jR H (eF H.gs q.fo q.who q.name q.num) (eG H.gs q.fo q.who q.name q.num)∧dS H q=⟨eF H.gs q.fo q.who q.name q.num,0,bt⟩:=by simp[dR,dS,h]
theorem oh {H:Hb} {q:Rq} (h:q.kind=4):dR H q=mK H (eH H q.who q.num)∧dS H q=kI (eH H q.who q.num):=by simp[dR,dS,h]
theorem oj {H:Hb} {q:Rq} (h:q.kind=5):dR H q=mK H (df H q.who q.num q.off q.text)∧dS H q=kI (df H q.who q.num q.off q.text):=by simp[dR,dS,h]
theorem om {H:Hb} {q:Rq} (h:q.kind=6):dR H q=H∧dS H q=⟨gD H q.who q.num,lz H q.who q.num,bt⟩:=by simp[dR,dS,h]
theorem lA {H:Hb} {q:Rq} (h:q.kind=7):dR H q=iG H q (bS H q.who q.num)∧dS H q=⟨iD H q (bS H q.who q.num),iF H q (bS H q.who q.num),bt⟩:=by simp[dR,dS,h]
theorem on {H:Hb} {q:Rq} (h:q.kind=8):dR H q=eT H q.fo q.who∧dS H q=⟨Hu.mkE H q.fo q.who,0,bt⟩:=by simp[dR,dS,h]
theorem DL (H:Hb) (q:Rq) (v g:Value) (w:World) (s:aX w v H) (o:dd H) (j:bH w g q) (f:cE q) (i:ae H=0):
    Calls prog 4 #[v,g] w fun e w'=> ∃u a,e= .returned (.tuple #[u,a,ah])∧aX w' u (eI H q)∧bX w' a (eJ H q)∧Below w.heap.size w w':=by
 by_cases d:cD H.gs q=0
 · rw[eI,eJ,if_pos d,if_pos d]
   obtain⟨x,z,_⟩:=nR d
   rcases wE x z with c|c|c|c|c|c|c|c
   · rw[(od c).1,(od c).2];exact vO H q v g w s o j f i c d
   · rw[(oe c).1,(oe c).2];exact Dv H q v g w s o j f i c d
   · rw[(og c).1,(og c).2];exact Du H q v g w s o j f i c d
   · rw[(oh c).1,(oh c).2];exact DG H q v g w s o j f i c d
   · rw[(oj c).1,(oj c).2];exact DH H q v g w s o j f i c d
   · rw[(om c).1,(om c).2];exact DI H q v g w s o j f i c d
   · rw[(lA c).1,(lA c).2];exact DJ H q v g w s o j f i c d
   · rw[(on c).1,(on c).2]
     exact vN H q v g w s o j f i c d (fun B v=>CY B v H.fos _ q.fo (iv (ff i).2.1).1 (DK _ _))
 · rw[eI,eJ,if_neg d,if_neg d]
   exact Dt H q v g w s o j f i d
theorem Tryz.cellsSe:prog.cellsOf 79=5:=by kernel_rfl
theorem Tryz.cellsS9:prog.cellsOf 9=1:=by kernel_rfl
theorem Tryz.cellsS3:prog.cellsOf 3=1:=by kernel_rfl
theorem Tryz.bytesSe:prog.bytesOf 79=56:=by kernel_rfl
def oo {H:Type} (e:Se):DataW H:= .agg [.lit (.int .i64 e.nu),.lit (.string e.wh.data.toList),.lit (.string e.tx.data.toList),.lit (.int .i64 e.si),.lit (.int .i64 e.ti)]
theorem wF {f:Type} {l:List f} (h:l.length=5): ∃a b c d e,l=[a,b,c,d,e]:=by
 rcases l with _|⟨a,_|⟨b,_|⟨c,_|⟨d,_|⟨e,_|⟨g,r⟩⟩⟩⟩⟩⟩
 all_goals first|exact⟨a,b,c,d,e,rfl⟩|(simp at h)
theorem DM {W:World} {a:Addr} {v:Value} (k:W.cell? a=some v):a.spot=none:=by
 unfold World.cell? at k;cases c:a.spot with
 |none=>rfl
 |some z=>rw[c]at k;simp at k;split at k<;>cases k
theorem DN {H:Type} {enc:TypeId×Value→H} {P:Program} {w:World} {base:Nat} {a:Nat→Bool} {c:Bool} {t:TypeId} {d f f2 g f4:Field} {fuel:Nat} {cs:List Value} {x:DataW H×List MemPlace} (B:P.underlying t=some (.struct #[d,f,f2,g,f4])) (h:DataW.trod enc P w base a c fuel t cs=some x):
    ∃o s u v z n,x=(.agg [o.1,s.1,u.1,v.1,z.1],o.2++(s.2++(u.2++(v.2++z.2))))∧cs.length=P.cellsOf t∧DataW.trod enc P w base a c n d.type ((cs.drop d.offset).take (P.cellsOf d.type))=some o∧
     DataW.trod enc P w base a c n f.type ((cs.drop f.offset).take (P.cellsOf f.type))=some s∧DataW.trod enc P w base a c n f2.type ((cs.drop f2.offset).take (P.cellsOf f2.type))=some u∧DataW.trod enc P w base a c n g.type ((cs.drop g.offset).take (P.cellsOf g.type))=some v∧DataW.trod enc P w base a c n f4.type ((cs.drop f4.offset).take (P.cellsOf f4.type))=some z:=by
 obtain⟨C,n,_,rfl,A,j,i⟩:=DataW.trod_struct B h
 match C,j with
 |[o,s,u,v,z],_=>exact⟨o,s,u,v,z,n,by simp,A,by simpa using i 0 d rfl,by simpa using i 1 f rfl,by simpa using i 2 f2 rfl,by simpa using i 3 g rfl,by simpa using i 4 f4 rfl⟩
theorem wG {H:Type} {P:Program} {e:TypeId}: ∀{l:List (DataW H)} {d:DataW H},d∈l→ ∀n∈d.weights P e,n∈DataW.weightsAll P e l
 |[],_,h=>by cases h
 |x::r,d,h=>by
  intro n a;rw[DataW.weightsAll];rcases List.mem_cons.1 h with rfl|h
  · exact List.mem_append_left _ a
  · exact List.mem_append_right _ (wG h n a)
theorem DO {H:Type} {enc:TypeId×Value→H} {W:World} {n i:Nat} {a:Addr} {x:DataW H} {pl:List MemPlace} {f:List Value} (ha:a.spot=none)
    (G:W.cells? 0 (a.add (i*prog.cellsOf 79)) (prog.cellsOf 79)=some f) (h2:DataW.trod enc prog W 0 (fun _=>true) true n 79 f=some (x,pl)):
    ∃e:Se,x=oo e∧a.spot=none∧et W a.block (a.off+i*5) e:=by
 rw[Tryz.cellsSe]at G;obtain⟨_,j,g⟩:=World.cells?_some G
 obtain⟨y0,y1,y2,y3,y4,s,o,_,t0,t1,t2,t3,t4⟩:=DN underlying79 h2
 obtain⟨E,F,c2,c3,c4,rfl⟩:=wF j
 have v:DataW.trod enc prog W 0 (fun _=>true) true s 3 [E]=some y0:=by simpa[Tryz.cellsS3]using t0
 have z:DataW.trod enc prog W 0 (fun _=>true) true s 9 [F]=some y1:=by simpa[Tryz.cellsS9]using t1
 have A:DataW.trod enc prog W 0 (fun _=>true) true s 9 [c2]=some y2:=by simpa[Tryz.cellsS9]using t2
 have B:DataW.trod enc prog W 0 (fun _=>true) true s 3 [c3]=some y3:=by simpa[Tryz.cellsS3]using t3
 have C:DataW.trod enc prog W 0 (fun _=>true) true s 3 [c4]=some y4:=by simpa[Tryz.cellsS3]using t4
 obtain⟨O,T,X,_⟩:=DataW.trod_int underlying3 v
 obtain⟨P,U,Y,_⟩:=DataW.trod_string underlying9 z
 obtain⟨Q,e2,Z,_⟩:=DataW.trod_string underlying9 A
 obtain⟨R,V,g3,_⟩:=DataW.trod_int underlying3 B
 obtain⟨S,e4,g4,_⟩:=DataW.trod_int underlying3 C
 obtain rfl:E= .int .i64 O:=by simpa using T
 obtain rfl:F= .string P:=by simpa using U
 obtain rfl:c2= .string Q:=by simpa using e2
 obtain rfl:c3= .int .i64 R:=by simpa using V
 obtain rfl:c4= .int .i64 S:=by simpa using e4
 subst X;subst Y;subst Z;subst g3;subst g4;simp only[Prod.mk.injEq]at o;have I:=g 0 (by omega);have J:=g 1 (by omega);have K:=g 2 (by omega);have M:=g 3 (by omega);have N:=g 4 (by omega);obtain⟨ab,ao,u⟩:=a
 obtain rfl:u=none:=ha;refine⟨⟨O,P,Q,R,S⟩,o.1,rfl,?_,?_,?_,?_,?_⟩
 · by_cases c:i=0
   · subst c;simpa[Addr.add]using I
   · have d:i*5≠0:=by omega
     simpa[Addr.add,d]using I
 · by_cases c:i=0
   · subst c;simpa[Addr.add]using J
   · have d:i*5≠0:=by omega
     simpa[Addr.add,d,Nat.add_assoc]using J
 · by_cases c:i=0
   · subst c;simpa[Addr.add]using K
   · have d:i*5≠0:=by omega
     simpa[Addr.add,d,Nat.add_assoc]using K
 · by_cases c:i=0
   · subst c;simpa[Addr.add]using M
   · have d:i*5≠0:=by omega
     simpa[Addr.add,d,Nat.add_assoc]using M
 · by_cases c:i=0
   · subst c;simpa[Addr.add]using N
   · have d:i*5≠0:=by omega
     simpa[Addr.add,d,Nat.add_assoc]using N
theorem DP {H:Type} {enc:TypeId×Value→H} {W:World} {v:Value} {d:DataW H} {p:List MemPlace} {fuel:Nat} (V:DataW.trod enc prog W 0 (fun _=>true) true fuel 24 [v]=some (d,p)) (R: ∀n∈d.weights prog 24,n≤reachBytes):
    ∃L:List Se,aK W v L∧bq L:=by
 haveI:Inhabited Se:=⟨⟨0,⟨#[]⟩,⟨#[]⟩,0,0⟩⟩
 rcases Go.Deep.open_slice underlying24 V with⟨g,P⟩|⟨a,len,o,m,n,D,Pl,g,hb,X,hm,B,P,x⟩
 · obtain rfl:v= .slice none 0 0:=by simpa using g
   exact⟨[],gj _,fun e J=>by cases J⟩
 obtain rfl:v= .slice (some a) len o:=by simpa using g
 have N:m=o:=B.trans (if_pos rfl);clear B;have U:=(Prod.mk.inj P).1;clear P;subst N
 have O:0<len→a.spot=none:=fun h=>by
  obtain⟨G,c,_⟩:=x 0 (by omega)
  rw[Tryz.cellsSe]at c;obtain⟨_,A,T⟩:=World.cells?_some c
  obtain⟨S,c1,c2,c3,c4,rfl⟩:=wF A
  have k0:=T 0 (by omega);exact DM (v:=S) (by simpa[Addr.add]using k0)
 have s: ∀i,i<len→ ∃e:Se,D i=oo e∧a.spot=none∧et W a.block (a.off+i*5) e:=fun i j=>by
  obtain⟨G,c,I⟩:=x i (by omega)
  exact DO (O (by omega)) c I
 obtain⟨E,hE⟩:=Go.Deep.choose_lt s
 obtain⟨F,u⟩: ∃F,d= .slice ((List.range len).map D) F:=⟨_,U⟩
 have f:(len+F.length)*56≤reachBytes:=by
  have:=R ((len+F.length)*56) (by
   rw[u,DataW.weights];simp only[underlying24,Tryz.bytesSe,List.length_map,List.length_range];exact List.mem_cons_self ..)
  exact this
 have z: ∀i,i<len→ ∀n∈(D i).weights prog 79,n≤reachBytes:=fun i j n Y=>R n (by
  rw[u,DataW.weights];simp only[underlying24];refine List.mem_cons_of_mem _ (List.mem_append_left _ (wG (List.mem_map.2 ⟨i,List.mem_range.2 j,rfl⟩) n Y)))
 have C:reachBytes=140737488351232:=by decide
 refine⟨(List.range len).map E,⟨some a,_,by simp;rfl,by simpa using X,?_,fun i j=>?_⟩,fun e J=>?_⟩
 · rw[C]at f
   simp only[List.length_map,List.length_range];omega
 · have K:i<len:=by simpa using j
   obtain⟨c,I,Q⟩:=hE i K
   have M:a.block<W.heap.size:=by
    have k:=Q.1;rcases Nat.lt_or_ge a.block W.heap.size with h|h
    · exact h
    · unfold World.cell? at k;rw[Array.getElem?_eq_none h]at k;cases k
   refine⟨a.block,a.off,?_,M,by simpa using Q⟩
   rw[←I]
 · obtain⟨i,j,rfl⟩:=List.mem_map.1 J
   have c:=z i (List.mem_range.1 j);rw[(hE i (List.mem_range.1 j)).1]at c
   have Z:DataW.weights prog 79 (oo (H:=H) (E i))=[(E i).wh.data.toList.length,(E i).tx.data.toList.length]:=by
    rw[oo,DataW.weights];simp only[underlying79];simp[DataW.weightsEach,DataW.weights]
   rw[Z,C]at c;rw[Lib.size_eq,Lib.size_eq];have a1:=c _ (List.mem_cons_self ..);have a2:=c _ (List.mem_cons_of_mem _ (List.mem_cons_self ..));exact⟨by omega,by omega⟩
def iW (w:World) (sx:Value) (m size:Nat) (news:List Value):Prop:=(∃c,sx= .slice none 0 c∧m=0∧news=[])∨ ∃ad c,sx= .slice (some ad) m c∧news.length=m*size∧(∀j u,news[j]?=some u→w.cell? (ad.add j)=some u)
theorem DQ {P:Program} {w:World} (base:Nat) (t s e:TypeId) (i:TypeInfo) (size c:Nat) (j:P.underlying t=some (.slice e)) (f:P.info? e=some i)
    (v:Value) (n:Nat) (u:List Value) (a:w.ownsRow base e size v n u):
    (Builtin.append_ #[t,t] s #[v,.slice none 0 c]).run P w= .ok v w:=by
 rcases a.2 with⟨rfl,rfl⟩|⟨g,o,cur,rfl,_,_,d,_⟩
 · simp[Builtin.append_,run_underlying j,sizeOf,typeInfo,f,Builtin.lenOf,Builtin.firstCells]
 · simp[Builtin.append_,run_underlying j,sizeOf,typeInfo,f,Builtin.lenOf,Builtin.firstCells,d,storeCells]
theorem mL {P:Program} {G:Array Oper} {o:Oper} {a:Act} {w:World} {K:Act→World→Prop} {Q:Exit→Act→World→Prop} {E:Prop}
    (hg:o.guard=none) (s x:Operand) (t:TypeId) (C:o.op=Op.call {callee:=Callee.builtin Builtin.append,args:= #[s,x],argTypes:= #[t,t]})
    (base:Nat) (e:TypeId) (i:TypeInfo) (z:Value) (size bytes:Nat) (V:P.underlying t=some (.slice e)) (T:P.info? e=some i) (hz:i.zero=some z)
    (B:i.size=size) (N:i.bytes=bytes) (S:z.cells.size=size) (R:0<size)
    (v:Value) (n:Nat) (I:List Value) (U:a.eval s=v) (f:w.ownsRow base e size v n I)
    (Y:Value) (m:Nat) (d:List Value) (X:a.eval x=Y) (O:iW w Y m size d) (J: ∀u∈d,u.oneCell'=true)
    (M:n+m≤maxLen) (g:(n+m)*bytes≤140737488355328) (j:base≤w.heap.size)
    (h: ∀H w',w'.ownsRow base e size H (n+m) (I++d)→w.grownBy w' v.ownBlock→K (a.put o.dst H) w'):
    if Region.wanted o (yielded G a.tmps)=true then Oper.wp P o a w K Q else E:=by
 have hw:Region.wanted o (yielded G a.tmps)=true:=by simp[Region.wanted,hg]
 rw[if_pos hw];rcases O with⟨c,rfl,rfl,rfl⟩|⟨ad,c,rfl,hl,A⟩
 · have F:=DQ (P:=P) (w:=w) base t o.type e i size c V T v n I f
   unfold Oper.wp;simp[execOp,C,resolve,invoke,builtin,U,X,F,Result.andThen]
   exact h v w (by simpa using f) (World.grownBy.refl _ _)
 · exact wp_append_own w s x t C base e i z size bytes V T hz B N S R v n I U f ad m c d X hl A J M g j fun H w' J Z _=>h H w' J Z
theorem iW.lies {w:World} {v:Value} {R:List (List Value)} (h:bp 3 w v R):iW w v R.length 3 R.flatten:=by
 obtain⟨a,d,rfl,H,I,z,g⟩:=h
 cases a with
 |none=>
  cases R with
  |nil=>exact Or.inl ⟨d,rfl,rfl,rfl⟩
  |cons s r=>obtain⟨b,o,f,_⟩:=g 0 (by simp);cases f
 |some ad=>
  refine Or.inr ⟨ad,d,rfl,fs (fun r x=>(z r x).1),?_⟩
  cases R with
  |nil=>intro j u F;simp at F
  |cons s r=>
   obtain⟨b,o,f,_⟩:=g 0 (by simp)
   injection f with f
   subst f
   exact ij (by decide) (fun r x=>(z r x).1) fun i E=>by
    obtain⟨G,J,c,_,C⟩:=g i E
    injection c with c
    injection c with A B
    subst A;subst B;exact C
def iX (B:Nat) (w:World) (v:Value):Prop:= ∃b,v= .slice (some ⟨b,0,none⟩) 0 0∧B≤b∧b<w.heap.size∧w.heap[b]?=some (.cells #[] 111)
theorem iX.new {B:Nat} {w w':World} (h:w.alloc (.cells #[] 111)=w') (a:B≤w.heap.size):iX B w' (.slice (some ⟨w.heap.size,0,none⟩) 0 0):=
 ⟨w.heap.size,rfl,a,by rw[←h];simp,by rw[←h];exact heap_alloc_new w _⟩
theorem iX.below {B:Nat} {w w':World} {v:Value} (h:iX B w v) (c:Below w.heap.size w w'):iX B w' v:=by
 obtain⟨b,d,f,a,g⟩:=h
 exact⟨b,d,f,Nat.lt_of_lt_of_le a c.size,(c.block b a).trans g⟩
theorem iX.own {B:Nat} {w:World} {v:Value} (h:iX B w v):w.ownsRow B 111 3 v 0 []:=by
 obtain⟨b,rfl,a,d,c⟩:=h
 exact⟨rfl,.inr ⟨b,0,#[],rfl,a,c,ax,by unfold maxLen;omega,rfl,rfl⟩⟩
def gW (w:World) (v:Value) (r:List Value):Prop:= ∃b,v= .slice (some ⟨b,0,none⟩) 1 1∧b<w.heap.size∧w.heap[b]?=some (.cells r.toArray 111)
theorem gW.new {w w':World} {r:List Value} (h:w.alloc (.cells r.toArray 111)=w'):gW w' (.slice (some ⟨w.heap.size,0,none⟩) 1 1) r:=
 ⟨w.heap.size,rfl,by rw[←h];simp,by rw[←h];exact heap_alloc_new w _⟩
theorem gW.below {w w':World} {v:Value} {r:List Value} (h:gW w v r) (c:Below w.heap.size w w'):gW w' v r:=by
 obtain⟨b,d,a,f⟩:=h
 exact⟨b,d,Nat.lt_of_lt_of_le a c.size,(c.block b a).trans f⟩
theorem gW.gr {B:Nat} {w w':World} {v v0:Value} {r:List Value} (h:gW w v r) (u:r≠[]) (o:iX B w v0) (g:w.grownBy w' v0.ownBlock):gW w' v r:=by
 obtain⟨b,i,f,a⟩:=h
 obtain⟨c,rfl,_,x,j⟩:=o
 have d:b≠c:=by
  rintro rfl;rw[j]at a;injection a with a
  injection a with a
  exact u (by have:=congrArg Array.toList a;simpa using this.symm)
 have s:some b≠(Value.slice (some ⟨c,0,none⟩) 0 0).ownBlock:=by
  intro e;simp[Value.ownBlock]at e
  exact d e
 exact⟨b,i,Nat.lt_of_lt_of_le f g.size,(g.block b f s).trans a⟩
theorem gW.src {w:World} {v:Value} {r:List Value} (h:gW w v r) (f:r.length=3):iW w v 1 3 r:=by
 obtain⟨b,rfl,d,a⟩:=h
 refine Or.inr ⟨⟨b,0,none⟩,1,rfl,by omega,fun j u c=>?_⟩
 rw[Addr.add_lit,Nat.zero_add];simp[World.cell?,a,c]
def fX (B:Nat) (w:World) (b:Nat):Prop:=B≤b∧w.heap[b]?=some (.cells #[.slice none 0 0,.int .i64 0,.slice none 0 0] 57)
theorem fX.new {B:Nat} {w w':World} (h:w.alloc (.cells #[al,ah,al] 57)=w') (a:B≤w.heap.size):fX B w' w.heap.size:=⟨a,by rw[←h];exact heap_alloc_new w _⟩
theorem fX.below {B b:Nat} {w w':World} (h:fX B w b) (a:Below w.heap.size w w'):fX B w' b:=⟨h.1,(a.block b (fG h.2)).trans h.2⟩
theorem DR:(57:TypeId)≠111:=by decide
theorem fX.ne {B b base n:Nat} {w:World} {v:Value} {j:List Value} (h:fX B w b) (i:w.ownsRow base 111 3 v n j):some b≠v.ownBlock:=by
 obtain⟨_,d⟩:=i
 rcases d with⟨rfl,_⟩|⟨g,c,cur,rfl,_,f,_⟩
 · simp[Value.ownBlock]
 · intro e
   simp[Value.ownBlock]at e
   subst e;have a:=h.2;rw[f]at a;injection a with a
   injection a with _ a
   exact DR a.symm
theorem fX.gr {B b base n:Nat} {w w':World} {v:Value} {d:List Value} (h:fX B w b) (c:w.ownsRow base 111 3 v n d) (a:w.grownBy w' v.ownBlock):fX B w' b:=
 ⟨h.1,(a.block b (fG h.2) (h.ne c)).trans h.2⟩
theorem fX.cs {B b:Nat} {w:World} (h:fX B w b):Cs w b [al,ah,al]:=⟨_,h.2⟩
end Go.Proofs.YtdlpjlfefjipkaaGreat
