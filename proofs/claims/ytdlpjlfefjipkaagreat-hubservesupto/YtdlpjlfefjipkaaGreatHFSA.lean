/- What the reference's serve answers where it answers an error: its closure. -/
import Derived.Test.YtdlpjlfefjipkaaGreatHFZQ
import Derived.Test.YtdlpjlfefjipkaaGreatHFXU32
set_option linter.unusedSimpArgs false
set_option linter.unusedVariables false
namespace Go.Proofs.YtdlpjlfefjipkaaGreat
open Go.RowKit Go.Proofs.Tryz
set_option maxHeartbeats 4000000
set_option maxRecDepth 100000
theorem Cs.c2 {W:World} {b:Nat} {a c:Value} {r:List Value} (h:Cs W b (a::c::r)):W.cell? ⟨b,0,none⟩=some a∧W.cell? ⟨b,1,none⟩=some c:=⟨h.cell 0 rfl,h.cell 1 rfl⟩
theorem Cs.c3 {W:World} {b:Nat} {a c d:Value} {r:List Value} (h:Cs W b (a::c::d::r)):W.cell? ⟨b,0,none⟩=some a∧W.cell? ⟨b,1,none⟩=some c∧W.cell? ⟨b,2,none⟩=some d:=⟨h.cell 0 rfl,h.cell 1 rfl,h.cell 2 rfl⟩
theorem Cs.c4 {W:World} {b:Nat} {a c d f:Value} {r:List Value} (h:Cs W b (a::c::d::f::r)):W.cell? ⟨b,0,none⟩=some a∧W.cell? ⟨b,1,none⟩=some c∧W.cell? ⟨b,2,none⟩=some d∧W.cell? ⟨b,3,none⟩=some f:=⟨h.cell 0 rfl,h.cell 1 rfl,h.cell 2 rfl,h.cell 3 rfl⟩
theorem Cs.c5 {W:World} {b:Nat} {a c d f g:Value} {r:List Value} (h:Cs W b (a::c::d::f::g::r)):W.cell? ⟨b,0,none⟩=some a∧W.cell? ⟨b,1,none⟩=some c∧W.cell? ⟨b,2,none⟩=some d∧W.cell? ⟨b,3,none⟩=some f∧W.cell? ⟨b,4,none⟩=some g:=⟨h.cell 0 rfl,h.cell 1 rfl,h.cell 2 rfl,h.cell 3 rfl,h.cell 4 rfl⟩
theorem Cs.c7 {W:World} {b:Nat} {a c d f g i j:Value} {r:List Value} (h:Cs W b (a::c::d::f::g::i::j::r)):W.cell? ⟨b,0,none⟩=some a∧W.cell? ⟨b,1,none⟩=some c∧W.cell? ⟨b,2,none⟩=some d∧W.cell? ⟨b,3,none⟩=some f∧W.cell? ⟨b,4,none⟩=some g∧W.cell? ⟨b,5,none⟩=some i∧W.cell? ⟨b,6,none⟩=some j:=⟨h.cell 0 rfl,h.cell 1 rfl,h.cell 2 rfl,h.cell 3 rfl,h.cell 4 rfl,h.cell 5 rfl,h.cell 6 rfl⟩
theorem Cs.c10 {W:World} {b:Nat} {a c d f g i j o s u:Value} {r:List Value} (h:Cs W b (a::c::d::f::g::i::j::o::s::u::r)):W.cell? ⟨b,0,none⟩=some a∧W.cell? ⟨b,1,none⟩=some c∧W.cell? ⟨b,2,none⟩=some d∧W.cell? ⟨b,3,none⟩=some f∧W.cell? ⟨b,4,none⟩=some g∧W.cell? ⟨b,5,none⟩=some i∧W.cell? ⟨b,6,none⟩=some j∧W.cell? ⟨b,7,none⟩=some o∧W.cell? ⟨b,8,none⟩=some s∧W.cell? ⟨b,9,none⟩=some u:=⟨h.cell 0 rfl,h.cell 1 rfl,h.cell 2 rfl,h.cell 3 rfl,h.cell 4 rfl,h.cell 5 rfl,h.cell 6 rfl,h.cell 7 rfl,h.cell 8 rfl,h.cell 9 rfl⟩
theorem Cs.f2 {W:World} {b:Nat} {l:List Value} (h:Cs W b l):W.frozen? ⟨b,0,none⟩=false∧W.frozen? ⟨b,1,none⟩=false:=⟨h.fr 0,h.fr 1⟩
theorem Cs.f4 {W:World} {b:Nat} {l:List Value} (h:Cs W b l):W.frozen? ⟨b,0,none⟩=false∧W.frozen? ⟨b,1,none⟩=false∧W.frozen? ⟨b,2,none⟩=false∧W.frozen? ⟨b,3,none⟩=false:=⟨h.fr 0,h.fr 1,h.fr 2,h.fr 3⟩
theorem Cs.f7 {W:World} {b:Nat} {l:List Value} (h:Cs W b l):W.frozen? ⟨b,0,none⟩=false∧W.frozen? ⟨b,1,none⟩=false∧W.frozen? ⟨b,2,none⟩=false∧W.frozen? ⟨b,3,none⟩=false∧W.frozen? ⟨b,4,none⟩=false∧W.frozen? ⟨b,5,none⟩=false∧W.frozen? ⟨b,6,none⟩=false:=⟨h.fr 0,h.fr 1,h.fr 2,h.fr 3,h.fr 4,h.fr 5,h.fr 6⟩
theorem fC {w:World} {b:Nat} {u B J:Option Addr} {A x E C M K:Nat} {F G H I:Int} (h:Cs w b [.slice u A x,.slice B E C,.slice J M K,F,G,H,I]) (e:Int):
    Calls prog 18 #[e,.pointer (some ⟨b,0,none⟩)] w fun z w'=>z= .returned (.tuple #[.agg #[.slice u A x,.slice B E C,.slice J M K,F,G,H,I],.agg #[e,ah,false,al,al,ah,false]])∧Below w.heap.size w w':=by
 obtain⟨f,a⟩: ∃f,f=w.alloc (.cells  cy  28):=⟨_,rfl⟩
 obtain⟨i,c⟩: ∃i,i=f.alloc (.cells  bC  38):=⟨_,rfl⟩
 have g:Below w.heap.size w f:=by rw[a];exact ak
 have j:Below w.heap.size w i:=by rw[c];exact g.alloc g.size _
 have o:f.heap.size=w.heap.size+1:=by rw[a];simp
 have d:Below f.heap.size f i:=by rw[c];exact ak
 have O:=hid (h.below j);have N:=hid (show Cs i w.heap.size  cy from Cs.below (by rw[a];exact Cs.new w _ _) d);have s:=hid (show Cs i (w.heap.size+1)  bC from by rw[c,←o];exact Cs.new f _ _);have Q:=s.out.lt;have P:=h.lt;clear h g d o;obtain⟨x0,x1,x2,x3,x4,x5,x6⟩:=O.out.c7;obtain⟨R,S,T,U,V,X,Y⟩:=N.out.c7;obtain⟨f0,f1,f2,f3,f4,f5,f6⟩:=N.out.f7;obtain⟨Z,y1,y2,y3,y4,y5,y6⟩:=s.out.c7;obtain⟨g0,g1,g2,g3,g4,g5,g6⟩:=s.out.f7;go_enter func18,ntmps18
 go_upto_region 1 with fail;rw[←a,←c];clear a c;go_wp2;refine bodyPost_ret (v:= .tuple #[.agg #[.slice u A x,.slice B E C,.slice J M K,F,G,H,I],.agg #[e,ah,false,al,al,ah,false]]) (by simp[results,results18,go_sem,R,S,T,U,V,X,Y,Z,y1,y2,y3,y4,y5,y6]) rfl ⟨rfl,?_⟩
 exact(ei (b:=w.heap.size+1) (ei (b:=w.heap.size) j ax) (by show _≤w.heap.size+1;omega))
theorem DU (H:Hb) (J:Jo) (i:Nat) (v vj:Value) (w:World) (hv:aX w v H) (hj:cV w vj J) (hi:i<H.fos.length) (hn:H.fos.length≤8):
    Calls prog 28 #[v,.int .i64 i,vj] w fun e w'=> ∃u,e= .returned u∧aX w' u (ix H i J)∧Below w.heap.size w w':=by
 obtain⟨i0,EW,EY,EZ,F0⟩:=info_parts Tryz.infoRF
 obtain⟨vf,vg,vs,rfl,lf,lg,ls⟩:=hv
 have HF:=hid lf;have HG:=hid lg;have HS:=hid ls;obtain⟨fa,fc,rfl,_⟩:=lf
 obtain⟨ga,gc,rfl,_⟩:=lg
 obtain⟨sa,sc,rfl,_⟩:=ls
 have HJ:=hid hj;obtain⟨jb,jc,rfl,lb,lc⟩:=hj
 have HB:=hid lb;have HC:=hid lc;obtain⟨ba,bc,rfl,_⟩:=lb
 obtain⟨ca,cc,rfl⟩:=eh lc
 clear lc;obtain⟨us,E0,hR⟩:=qn HF.out
 have s:=hid E0;obtain⟨R,O⟩: ∃R,R=aS H.fos us:=⟨_,rfl⟩
 have E4:R.length=H.fos.length:=by rw[O];exact eQ E0.1
 have EO:=hid O;rw[←O]at hR;clear O E0;obtain⟨_,_,e,F1,EV,N,Z⟩:=hR
 injection e with e1 e2 e3
 subst e1 e3;clear e2;have H1:=hid N;obtain⟨b,o,rfl,ET,_⟩:=Z 0 (by omega)
 have z: ∀j u,R.flatten[j]?=some u→w.cell? ((⟨b,o,none⟩:Addr).add j)=some u:=ij (by decide) (fun r T=>(N r T).1) fun i hi=>by
  obtain⟨b',o',f,_,he⟩:=Z i hi
  injection f with f
  injection f with h1 h2
  subst h1;subst h2;exact he
 have EK:=hid z;have EM:=hid (fs (fun r T=>(N r T).1):R.flatten.length=R.length*4);clear z Z N;obtain⟨U,F⟩: ∃U,U=w.alloc (.cells #[.slice (some ⟨b,o,none⟩) H.fos.length fc,.slice ga H.gs.length gc,.slice sa H.ss.length sc,H.nx,H.la,H.ro,H.now] 28):=⟨_,rfl⟩
 obtain⟨V,G⟩: ∃V,V=U.alloc (.cells #[.slice ba J.base.length bc,J.first,.slice ca J.cos.length cc] 57):=⟨_,rfl⟩
 obtain⟨A,I⟩: ∃A,A=V.alloc (.cells  cy  28):=⟨_,rfl⟩
 have E6:Below w.heap.size w U:=by rw[F];exact ak
 have C:Below U.heap.size U V:=by rw[G];exact ak
 have x:Below V.heap.size V A:=by rw[I];exact ak
 have E2:U.heap.size=w.heap.size+1:=by rw[F];simp
 have E3:V.heap.size=w.heap.size+2:=by rw[G];simp[E2]
 have EJ:A.heap.size=w.heap.size+3:=by rw[I];simp[E3]
 have E7:Below w.heap.size w A:=an (an E6 C) x;have HX:=hid (show Cs A w.heap.size [.slice (some ⟨b,o,none⟩) H.fos.length fc,.slice ga H.gs.length gc,.slice sa H.ss.length sc,H.nx,H.la,H.ro,H.now]from Cs.below (Cs.below (by rw[F];exact Cs.new w _ _) C) x);have HY:=hid (show Cs A (w.heap.size+1) [.slice ba J.base.length bc,J.first,.slice ca J.cos.length cc]from Cs.below (by rw[G,←E2];exact Cs.new U _ _) x);have HZ:=hid (show Cs A (w.heap.size+2)  cy from by rw[I,←E3];exact Cs.new V _ _);have EP:=hid EJ;clear E6 C x E2 E3 EJ;have x0:=HX.out.cell 0 rfl;have Fb:=HX.out.lt;have F2:(0:Int)≤(i:Int):=by omega
 have F3:(i:Int)<H.fos.length:=by omega
 go_enter func28,ntmps28
 go_upto_region 1 with fail;rw[←F,←G,←I];clear F G I;go_wp2_with (at_builtin;refine wpList_append_own _ rfl _ _ 22 rfl A.heap.size 59 i0 (.agg #[.string ⟨#[]⟩,al,ah,al]) 4 72 underlying22 EW EY EZ F0 rfl (by decide) _ _ _ rfl (World.ownsRow_made A #[] 0 ax (Nat.zero_le _) (by simp)) ⟨b,o,none⟩ H.fos.length fc R.flatten rfl ?qc1 ?qc2 ?qc3 ?qc4 ?qc5 ?qc6 ?_)
 case qc1=>rw[←E4];exact EM.out
 case qc2=>intro j u hj;exact Lib.cell?_alloc_some _ ((E7.cell (by unfold Addr.add;split<;>exact ET)).trans (EK.out j u hj))
 case qc3=>exact iM H1.out
 case qc4=>unfold maxLen;omega
 case qc5=>omega
 case qc6=>simp
 intro v2 w2 E9 Q S;have P:Below A.heap.size A w2:= ak.grown Q (by simp) (fun k hk=>by simp[Value.ownBlock]at hk;omega);have X:=hid (fJ (R:=R) (by rw[E4];exact E9) (by omega) H1.out);rw[EO.out]at X;obtain⟨_,hx⟩:=E9
 rcases hx with⟨e,_⟩|⟨g,d,cur,rfl,F8,hh,F5,_,_,_⟩
 · exact absurd e S
 have K:=hid (show Cs w2 g cur.toList from⟨_,by simpa using hh⟩);clear Q S hh x0;have E5:=an E7 P;have EQ:=hid (HX.out.below P);have ER:=hid (HY.out.below P);have ES:=hid (HZ.out.below P);have F9:=K.out.lt;have Fa:w.heap.size+3≤g:=by have:=EP.out;omega
 have F6: ¬w.heap.size=g:=by omega
 have F7: ¬w.heap.size+2=g:=by omega
 obtain⟨y0,y1,y2⟩:=ER.out.c3
 obtain⟨z1,z2,z3⟩:(∃u,w2.cell? ⟨g,i*4+1,none⟩=some u)∧(∃u,w2.cell? ⟨g,i*4+1+1,none⟩=some u)∧(∃u,w2.cell? ⟨g,i*4+1+2,none⟩=some u):=by
  obtain⟨a,c,e,_,_,_,hL⟩:=X.out
  obtain⟨b',o',f,_,he⟩:=hL i (by rw[eQ s.out.1];exact hi)
  have T:=kw s.out.1 hi;rw[List.getElem?_eq_getElem (by rw[eQ s.out.1];exact hi)]at T;injection T with T
  rw[T]at he;injection e with e1 _ _
  rw[←e1]at f;injection f with f
  injection f with k1 k2
  subst k1 k2;exact⟨⟨_,by simpa using he 1 _ rfl⟩,⟨_,by simpa using he 2 _ rfl⟩,⟨_,by simpa using he 3 _ rfl⟩⟩
 obtain⟨u1,z1⟩:=z1
 obtain⟨u2,z2⟩:=z2
 obtain⟨u3,z3⟩:=z3
 have f1:=K.out.fr (i*4+1);have f2:=K.out.fr (i*4+1+1);have f3:=K.out.fr (i*4+1+2);obtain⟨w6,E⟩: ∃w6,w6=((w2.setCell ⟨g,i*4+1,none⟩ (.slice ba J.base.length bc)).setCell ⟨g,i*4+1+1,none⟩ J.first).setCell ⟨g,i*4+1+2,none⟩ (.slice ca J.cos.length cc):=⟨_,rfl⟩
 go_upto_region 3 with fail;rw[←E];have E1:w2.grownBy w6 (some g):=by rw[E];exact ar (ar (aj _ _ _ _) (aj _ _ _ _)) (aj _ _ _ _)
 have B:Below w.heap.size w w6:=by rw[E];exact((E5.setCell (p:=⟨g,_,none⟩) (by show w.heap.size≤g;omega) _).setCell (p:=⟨g,_,none⟩) (by show w.heap.size≤g;omega) _).setCell (p:=⟨g,_,none⟩) (by show w.heap.size≤g;omega) _
 have EN:=hid (show bp 4 w6 (.slice (some ⟨g,0,none⟩) H.fos.length d) (aS (H.fos.set i ⟨H.fos[i].na,J⟩) (us.set i (.slice ba J.base.length bc,.slice ca J.cos.length cc)))from by
  have:=vp (J:=J) (k:=i) (u:=(.slice ba J.base.length bc,.slice ca J.cos.length cc)) X.out s.out.1 rfl hi rfl rfl
  rw[E];simpa using this)
 have M:=hid (EQ.out.nb E1 (by omega));have Y:=hid (ES.out.nb E1 (by omega));clear E z1 z2 z3 f1 f2 f3 y0 y1 y2 E1
 have EL:=hid (show cR w6 (.slice (some ⟨g,0,none⟩) H.fos.length d) (H.fos.set i ⟨H.fos[i].na,J⟩)from nK (us:=us.set i (.slice ba J.base.length bc,.slice ca J.cos.length cc)) ⟨by simp[s.out.1],fun k c u hc hu=>by
  by_cases E8:i=k
  · subst E8
    rw[List.getElem?_set_self (by omega)]at hc;rw[List.getElem?_set_self (by rw[s.out.1];omega)]at hu;injection hc with hc
    injection hu with hu
    subst hc hu;exact⟨HB.out.below B,HJ.out.elim fun _ h=>h.elim fun _ h=>by injection h.1 with e;have e2:=congrArg Array.toList e;simp at e2;rw[e2.2];exact h.2.2.below B⟩
  · rw[List.getElem?_set_ne E8]at hc hu
    have h:=s.out.2 k c u hc hu;exact⟨h.1.below B,h.2.below B⟩⟩ EN.out)
 have F4:=M.out.lt;obtain⟨p0,p1,p2,p3,p4,p5,p6⟩:=M.out.c7;have q0:=M.out.fr 0;obtain⟨y0,y1,y2,y3,y4,y5,y6⟩:=Y.out.c7;obtain⟨g0,g1,g2,g3,g4,g5,g6⟩:=Y.out.f7;go_wp2;refine bodyPost_ret (v:= .agg #[.slice (some ⟨g,0,none⟩) H.fos.length d,.slice ga H.gs.length gc,.slice sa H.ss.length sc,H.nx,H.la,H.ro,H.now]) (by simp[results,results28,go_sem,p0,p1,p2,p3,p4,p5,p6,y0,y1,y2,y3,y4,y5,y6]) rfl ⟨_,rfl,?_⟩
 have EU:=B.setCell (p:=⟨w.heap.size,0,none⟩) ax (.slice (some ⟨g,0,none⟩) H.fos.length d);have hbe:=ei (b:=w.heap.size+1+1) (v0:= .slice (some ⟨g,0,none⟩) H.fos.length d) (v1:= .slice ga H.gs.length gc) (v2:= .slice sa H.ss.length sc) (v3:= .int .i64 H.nx) (v4:= .int .i64 H.la) (v5:= .int .i64 H.ro) (v6:= .int .i64 H.now) EU (by omega);refine⟨⟨_,_,_,rfl,?_,HG.out.below hbe,HS.out.below hbe⟩,hbe⟩
 rw[qL hi];have EX:w.heap.size+2≠w.heap.size:=by omega
 exact(EL.out.nb (aj _ _ _ _) (M.out.noStr (by simp))).nb (ar (ar (ar (ar (ar (ar (aj _ _ _ _) (aj _ _ _ _)) (aj _ _ _ _)) (aj _ _ _ _)) (aj _ _ _ _)) (aj _ _ _ _)) (aj _ _ _ _)) ((Y.out.other EX _).noStr (by simp))
structure So (w W:World) (vs rs:List Value):Prop where
 h:Cs W w.heap.size vs
 r:Cs W (w.heap.size+1) rs
 p:Cs W (w.heap.size+2) [.slice none 0 0,.slice none 0 0,.slice none 0 0,.int .i64 0,.int .i64 0,.int .i64 0,.int .i64 0]
 y:Cs W (w.heap.size+3) [.int .i64 0,.int .i64 0,.bool false,.slice none 0 0,.slice none 0 0,.int .i64 0,.bool false]
 b:Below w.heap.size w W
 l:w.heap.size+4≤W.heap.size
theorem So.below {w W c:World} {vs rs:List Value} (h:So w W vs rs) (a:Below W.heap.size W c):So w c vs rs:=⟨h.h.below a,h.r.below a,h.p.below a,h.y.below a,an h.b a,Nat.le_trans h.l a.size⟩
theorem So.new (w:World) (vs rs:List Value) (T U:TypeId):So w ((((w.alloc (.cells vs.toArray T)).alloc (.cells rs.toArray U)).alloc (.cells [.slice none 0 0,.slice none 0 0,.slice none 0 0,.int .i64 0,.int .i64 0,.int .i64 0,.int .i64 0].toArray T)).alloc (.cells [.int .i64 0,.int .i64 0,.bool false,.slice none 0 0,.slice none 0 0,.int .i64 0,.bool false].toArray 38)) vs rs:=by
 have b1:Below w.heap.size w (w.alloc (.cells vs.toArray T)):=ak;obtain⟨a,g⟩: ∃x,x=w.alloc (.cells vs.toArray T):=⟨_,rfl⟩
 rw[←g]at b1⊢;have j:a.heap.size=w.heap.size+1:=by rw[g];simp
 have f:=Cs.new a rs U;have b2:Below a.heap.size a (a.alloc (.cells rs.toArray U)):=ak;obtain⟨c,i⟩: ∃x,x=a.alloc (.cells rs.toArray U):=⟨_,rfl⟩
 rw[←i]at b2 f⊢;have o:c.heap.size=w.heap.size+2:=by rw[i];simp[j]
 have c2:=Cs.new c  cy  T;have b3:Below c.heap.size c (c.alloc (.cells [.slice none 0 0,.slice none 0 0,.slice none 0 0,.int .i64 0,.int .i64 0,.int .i64 0,.int .i64 0].toArray T)):=ak;obtain⟨wc,hc⟩: ∃x,x=c.alloc (.cells [.slice none 0 0,.slice none 0 0,.slice none 0 0,.int .i64 0,.int .i64 0,.int .i64 0,.int .i64 0].toArray T):=⟨_,rfl⟩
 rw[←hc]at b3 c2⊢;have s:wc.heap.size=w.heap.size+3:=by rw[hc];simp[o]
 have c3:=Cs.new wc  bC  38;have d:Below wc.heap.size wc (wc.alloc (.cells [.int .i64 0,.int .i64 0,.bool false,.slice none 0 0,.slice none 0 0,.int .i64 0,.bool false].toArray 38)):=ak;rw[j]at f;rw[o]at c2;rw[s]at c3;exact⟨(((by rw[g];exact Cs.new w vs T:Cs a w.heap.size vs).below b2).below b3).below d,(f.below b3).below d,c2.below d,c3,an (an (an b1 b2) b3) d,by simp[s]⟩
theorem So.res {w W:World} {vs rs:List Value} (h:So w W vs rs):(W.cell? ⟨w.heap.size+1+1,0,none⟩=some (.slice none 0 0)∧W.cell? ⟨w.heap.size+1+1,1,none⟩=some (.slice none 0 0)∧W.cell? ⟨w.heap.size+1+1,2,none⟩=some (.slice none 0 0)∧W.cell? ⟨w.heap.size+1+1,3,none⟩=some (.int .i64 0)∧W.cell? ⟨w.heap.size+1+1,4,none⟩=some (.int .i64 0)∧W.cell? ⟨w.heap.size+1+1,5,none⟩=some (.int .i64 0)∧W.cell? ⟨w.heap.size+1+1,6,none⟩=some (.int .i64 0))∧(W.cell? ⟨w.heap.size+1+1+1,0,none⟩=some (.int .i64 0)∧W.cell? ⟨w.heap.size+1+1+1,1,none⟩=some (.int .i64 0)∧W.cell? ⟨w.heap.size+1+1+1,2,none⟩=some (.bool false)∧W.cell? ⟨w.heap.size+1+1+1,3,none⟩=some (.slice none 0 0)∧W.cell? ⟨w.heap.size+1+1+1,4,none⟩=some (.slice none 0 0)∧W.cell? ⟨w.heap.size+1+1+1,5,none⟩=some (.int .i64 0)∧W.cell? ⟨w.heap.size+1+1+1,6,none⟩=some (.bool false))∧(∀i,W.frozen? ⟨w.heap.size+1+1,i,none⟩=false)∧ ∀i,W.frozen? ⟨w.heap.size+1+1+1,i,none⟩=false:=
 ⟨⟨h.p.cell 0 rfl,h.p.cell 1 rfl,h.p.cell 2 rfl,h.p.cell 3 rfl,h.p.cell 4 rfl,h.p.cell 5 rfl,h.p.cell 6 rfl⟩,⟨h.y.cell 0 rfl,h.y.cell 1 rfl,h.y.cell 2 rfl,h.y.cell 3 rfl,h.y.cell 4 rfl,h.y.cell 5 rfl,h.y.cell 6 rfl⟩,fun i=>h.p.fr i,fun i=>h.y.fr i⟩
abbrev W7 (W:World) (b:Nat) (a0 a1 a2 a3 a4 a5 a6:Value):World:=(((((((W.setCell ⟨b,0,none⟩ a0).setCell ⟨b,1,none⟩ a1).setCell ⟨b,2,none⟩ a2).setCell ⟨b,3,none⟩ a3).setCell ⟨b,4,none⟩ a4).setCell ⟨b,5,none⟩ a5).setCell ⟨b,6,none⟩ a6)
abbrev EH (W:World) (n:Nat) (a0 a1 a2 a3 a4 a5 a6 b0 b1 b2 b3 b4 b5 b6:Value):World:=W7 (W7 W (n+1+1) a0 a1 a2 a3 a4 a5 a6) (n+1+1+1) b0 b1 b2 b3 b4 b5 b6
theorem g7 (W:World) (b:Nat) (a c d f g i j:Value):W.grownBy (W7 W b a c d f g i j) (some b):=ar (ar (ar (ar (ar (ar (aj _ _ _ _) (aj _ _ _ _)) (aj _ _ _ _)) (aj _ _ _ _)) (aj _ _ _ _)) (aj _ _ _ _)) (aj _ _ _ _)
theorem iY {b x:Nat} (h: ¬x=b) {W:World} {o:Nat} {a c d f g j s:Value}:(((((((W.setCell ⟨b,0,none⟩ a).setCell ⟨b,1,none⟩ c).setCell ⟨b,2,none⟩ d).setCell ⟨b,3,none⟩ f).setCell ⟨b,4,none⟩ g).setCell ⟨b,5,none⟩ j).setCell ⟨b,6,none⟩ s).cell? ⟨x,o,none⟩=W.cell? ⟨x,o,none⟩:=by
 have k: ∀(W:World) (i:Nat) (u:Value),(W.setCell ⟨b,i,none⟩ u).cell? ⟨x,o,none⟩=W.cell? ⟨x,o,none⟩:=fun W i u=>World.cell?_setCell_far _ _ _ _ (fun e=>h e.symm)
 simp only[k]
theorem So.nb {w W c:World} {vs rs:List Value} {b:Nat} (h:So w W vs rs) (a:W.grownBy c (some b)) (g:w.heap.size+4≤b):So w c vs rs:=by
 have f:=h.y.nb a (by omega);exact⟨h.h.nb a (by omega),h.r.nb a (by omega),h.p.nb a (by omega),f,h.b.grown a h.b.size (fun k d=>by injection d with d;omega),by have:=f.lt;omega⟩
theorem So.fin {w W d:World} {vs rs:List Value} (S:So w W vs rs) (K: ∀s,Value.string s∉vs) (a:W.grownBy d (some w.heap.size)) (o u x z A B C E b1 b2 b3 F G H:Value) {Z:World} (J:Z=(EH d w.heap.size o u x z A B C E b1 b2 b3 F G H)):
    (∀v L,cR W v L→cR Z v L)∧(∀v L,bj W v L→bj Z v L)∧(∀v L,aK W v L→aK Z v L)∧(∀v P,d6 W v P→d6 Z v P)∧Below w.heap.size w Z:=by
 have g:=S.h.noStr K;have M:=S.p.nb a (by omega);have i:=M.noStr (by simp);have c:=g7 d (w.heap.size+1+1) o u x z A B C;have j:=((S.y.nb a (by omega)).nb c (by omega)).noStr (by simp);have f:=g7 (W7 d (w.heap.size+1+1) o u x z A B C) (w.heap.size+1+1+1) E b1 b2 b3 F G H;subst J;exact⟨fun v L h=>((h.nb a g).nb c i).nb f j,fun v L h=>((h.nb a g).nb c i).nb f j,fun v L h=>((h.nb a g).nb c i).nb f j,fun v L h=>((h.nb a g).nb c i).nb f j,ei (b:=w.heap.size+1+1+1) (ei (b:=w.heap.size+1+1) (S.b.grown a S.b.size (fun k I=>by injection I with I;omega)) (by omega)) (by omega)⟩
theorem So.res2 {Z:World} {c d f g i j o s b1 b2 b3 u v x:Value} {n:Nat} {a:Array Value} (B:Cs Z (n+1+1) [c,d,f,g,i,j,o]) (C:Cs Z (n+1+1+1) [s,b1,b2,b3,u,v,x]) (z:a.getD 4 undef= .pointer (some ⟨n+1+1,0,none⟩)) (A:a.getD 5 undef= .pointer (some ⟨n+1+1+1,0,none⟩)):
    (results Tryz.f6 a).run prog Z= .ok (.tuple #[.agg #[c,d,f,g,i,j,o],.agg #[s,b1,b2,b3,u,v,x]]) Z:=by
 obtain⟨E,F,G,H,I,J,K⟩:=B.c7;obtain⟨M,N,O,P,Q,R,S⟩:=C.c7;simp at z A
 simp[results,results6,go_sem,z,A,E,F,G,H,I,J,K,M,N,O,P,Q,R,S]
theorem So.cs {w W x:World} {vs rs:List Value} (S:So w W vs rs) (z:W.grownBy x (some w.heap.size)) (a c d f g i j o b1 b2 b3 s u v:Value):Cs (EH x w.heap.size a c d f g i j o b1 b2 b3 s u v) (w.heap.size+1+1) [a,c,d,f,g,i,j]∧Cs (EH x w.heap.size a c d f g i j o b1 b2 b3 s u v) (w.heap.size+1+1+1) [o,b1,b2,b3,s,u,v]:=by
 have p:=(((((((S.p.nb z (by omega)).set 0 a).set 1 c).set 2 d).set 3 f).set 4 g).set 5 i).set 6 j;have k:=g7 x (w.heap.size+1+1) a c d f g i j;have y:=((((((((S.y.nb z (by omega)).nb k (by omega)).set 0 o).set 1 b1).set 2 b2).set 3 b3).set 4 s).set 5 u).set 6 v;exact⟨p.nb (g7 _ (w.heap.size+1+1+1) o b1 b2 b3 s u v) (by omega),y⟩
theorem kJ {w W H Z:World} {vs rs:List Value} {X:Hb} {A:An} {a:Act} {d f g i j o z B b1 b2 b3 C E F:Value} (S:So w W vs rs) (N: ∀s,Value.string s∉vs) (I:W.grownBy H (some w.heap.size)) (c:Below (EH H w.heap.size d f g i j o z B b1 b2 b3 C E F).heap.size (EH H w.heap.size d f g i j o z B b1 b2 b3 C E F) Z) (J:a.tmps.getD 4 undef= .pointer (some ⟨w.heap.size+1+1,0,none⟩)) (K:a.tmps.getD 5 undef= .pointer (some ⟨w.heap.size+1+1+1,0,none⟩)) (M:a.defers=[])
    (k:(∀v L,cR W v L→cR Z v L)→(∀v L,bj W v L→bj Z v L)→(∀v L,aK W v L→aK Z v L)→(∀v P,d6 W v P→d6 Z v P)→Below w.heap.size w Z→aX Z (.agg #[d,f,g,i,j,o,z]) X∧bX Z (.agg #[B,b1,b2,b3,C,E,F]) A):
    bodyPost prog Tryz.f6 (fun e w'=> ∃u a,e= .returned (.tuple #[u,a])∧aX w' u X∧bX w' a A∧Below w.heap.size w w') .ret a Z:=by
 obtain⟨O,Q⟩:=S.cs I d f g i j o z B b1 b2 b3 C E F
 obtain⟨hF,hG,hS,hP,hb⟩:=S.fin N I d f g i j o z B b1 b2 b3 C E F rfl
 have G:=an hb c;obtain⟨x,y⟩:=k (fun v L h=>(hF v L h).below c) (fun v L h=>(hG v L h).below c) (fun v L h=>(hS v L h).below c) (fun v L h=>(hP v L h).below c) G
 exact bodyPost_ret (So.res2 (O.below c) (Q.below c) J K) M ⟨_,_,rfl,x,y,G⟩
theorem fD {w W:World} {vs rs:List Value} {X:Hb} {A:An} {a:Act} {E:Int} {c d f g i j o:Value} (S:So w W vs rs) (v:a.tmps.getD 4 undef= .pointer (some ⟨w.heap.size+1+1,0,none⟩)) (x:a.tmps.getD 5 undef= .pointer (some ⟨w.heap.size+1+1+1,0,none⟩)) (C:a.defers=[]) (B:aX w (.agg #[c,d,f,g,i,j,o]) X) (z:A=⟨E,0,bt⟩):
    bodyPost prog Tryz.f6 (fun e w'=> ∃u a,e= .returned (.tuple #[u,a])∧aX w' u X∧bX w' a A∧Below w.heap.size w w') .ret a (EH W w.heap.size c d f g i j o E (.int .i64 0) false (.slice none 0 0) al ah false):=by
 obtain⟨F,G⟩:=S.cs (World.grownBy.refl _ _) c d f g i j o E (.int .i64 0) false (.slice none 0 0) al ah false
 have s:=ei (b:=w.heap.size+1+1+1) (v0:= .int .i64 E) (v1:= .int .i64 0) (v2:= .bool false) (v3:= .slice none 0 0) (v4:= .slice none 0 0) (v5:= .int .i64 0) (v6:= .bool false) (ei (b:=w.heap.size+1+1) (v0:=c) (v1:=d) (v2:=f) (v3:=g) (v4:=i) (v5:=j) (v6:=o) S.b (by omega)) (by omega);exact bodyPost_ret (So.res2 F G v x) C ⟨_,_,rfl,B.below s,by rw[z];exact iy _ _ _,s⟩
theorem wH {H:Hb} {f p:ByteArray} (a:ae H=0) (g: ¬aL H.gs f p=0): ∃i:Nat,∃h:i<H.fos.length,dO H.fos f=(i:Int)∧aV H.fos H.gs f=i∧aT H.fos[i].jo=0:=by
 have d:=vk g;obtain⟨c,_⟩:=lu a d
 exact⟨_,c,C9 a d,rfl,(qE (ff a).2.1 (List.getElem_mem c)).2⟩
theorem DV (H:Hb) (v:Value) (p:ByteArray) (n:Int) (w:World) (c:bq H.ss) (a:p.size≤150000000000000) (d:aK w v H.ss):kF w 23 #[.agg #[v,H.nx,H.la,H.ro],p,n,H.now] (eH H p n):=wD (vV H.ss v H.nx H.la H.ro p n H.now w d c a)
theorem DW (H:Hb) (v:Value) (p:ByteArray) (n o:Int) (t:ByteArray) (w:World) (j:bq H.ss) (i:p.size≤150000000000000) (A:t.size≤150000000000000) (s:aK w v H.ss):kF w 24 #[.agg #[v,H.nx,H.la,H.ro],p,n,o,t,H.now] (df H p n o t):=by
 by_cases c:bk H.ss H.nx H.la H.ro p n H.now=0
 · obtain⟨z,B,e2⟩:=kH c
   have I:=ob c;rw[df,if_pos c,B];simp only[n7];cases x:fg ((aq H.now H.ss)[dv H p n]).tx o t with
   |true=>
    rw[if_pos rfl];have f:=x;rw[fg,Bool.and_eq_true]at f;obtain⟨C,g⟩:=f
    obtain⟨F,G⟩:=eO C
    refine(Dy H.ss v H.nx H.la H.ro p n o t H.now w s j i c _ z e2 A o.toNat (by omega) (by omega) g).mono ?_
    rintro e w' ⟨u,rfl,d,a⟩;exact⟨u,rfl,d.lies (by omega),a⟩
   |false=>
    rw[if_neg (by decide)];refine(Dw H.ss v H.nx H.la H.ro p n o t H.now w s j i c _ rfl _ z e2 _ rfl A x).mono ?_
    rintro e w' (⟨d,rfl,a⟩|⟨d,g,rfl,a⟩|⟨d,g,u,rfl,E,a⟩)
    · rw[if_neg d]
      exact⟨_,rfl,gj _,a⟩
    · rw[if_pos d,if_pos g]
      exact⟨_,rfl,gj _,a⟩
    · rw[if_pos d,if_neg (by omega)]
      exact⟨u,rfl,E.lies (by simp;omega),a⟩
 · rw[df,if_neg c]
   refine(Dx H.ss v H.nx H.la H.ro p n o t H.now w s j i c).mono ?_
   rintro e w' ⟨rfl,a⟩;exact⟨_,rfl,gj _,a⟩
theorem DX (H:Hb) (v:Value) (p:ByteArray) (n:Int) (w:World) (s:bq H.ss) (o:p.size≤150000000000000) (x:aK w v H.ss) (f:be H.ss H.nx H.la H.ro=0):Calls prog 26 #[.agg #[v,H.nx,H.la,H.ro],p,n,H.now] w fun z w'=> ∃u,z= .returned (.tuple #[.agg #[u,.int .i64 (bS H p n).nx,.int .i64 (bS H p n).la,.int .i64 (bS H p n).ro],.string (bS H p n).tx,.int .i64 (bS H p n).e])∧aK w' u (bS H p n).ss∧Below w.heap.size w w':=by
 by_cases a:bk H.ss H.nx H.la H.ro p n H.now=0
 · obtain⟨j,i,e2⟩:=kH a
   have E:=ob a;have d:gD H p n=0:=a;have B:(aq H.now H.ss)[dv H p n]∈H.ss:=(List.mem_filter.1 (List.getElem_mem j)).1;have A:=(gO (gN.1 (bu f).2.1 _ B)).2.2.2.2;refine(DS H.ss v H.nx H.la H.ro p n H.now w x s o a _ rfl _ j e2 _ rfl).mono ?_
   rintro e w' (⟨g,rfl,c⟩|⟨g,u,rfl,C,c⟩)
   · have e:bS H p n=mJ 4:=by rw[bS,d,if_pos rfl,i];exact if_pos (by omega)
     rw[e];exact⟨_,rfl,gj _,c⟩
   · have e:bS H p n=⟨0,(aq H.now H.ss).take (dv H p n)++(aq H.now H.ss).drop (dv H p n+1),H.nx,H.la,H.ro,((aq H.now H.ss)[dv H p n]).tx⟩:=by rw[bS,d,if_pos rfl,i];exact if_neg (by omega)
     rw[e];exact⟨u,rfl,C.lies (by simp;omega),c⟩
 · have d: ¬gD H p n=0:=a
   rw[bS,if_neg d];refine(DT H.ss v H.nx H.la H.ro p n H.now w x s o a).mono ?_
   rintro e w' ⟨rfl,c⟩;exact⟨_,rfl,gj _,c⟩
theorem So.hub {w W:World} {v b1 b2 b3 x z A:Value} {rs:List Value} (h:So w W [v,b1,b2,b3,x,z,A] rs) (a c d f i j o:Value):So w (W7 W (w.heap.size) (a) (c) (d) (f) (i) (j) (o)) [a,c,d,f,i,j,o] rs:=by
 have g:=g7 W w.heap.size a c d f i j o;have u:=h.y.nb g (by omega);exact⟨((((((h.h.set 0 a).set 1 c).set 2 d).set 3 f).set 4 i).set 5 j).set 6 o,h.r.nb g (by omega),h.p.nb g (by omega),u,h.b.grown g h.b.size (fun k s=>by injection s with s;omega),by have:=u.lt;omega⟩
theorem cV.nbq {W c:World} {v:Value} {J:Jo} {g:Nat} (h:cV W v J) (f:W.grownBy c (some g)) (d:di W g):cV c v J:=by
 obtain⟨a,b,e,i,j⟩:=h
 exact⟨a,b,e,i.nb f d,j.nb f d⟩
theorem DY {H:Hb} (h:be H.ss H.nx H.la H.ro=0) (p:ByteArray) (n:Int):(bS H p n).tx.size≤1048576:=by
 rw[bS];split
 · rename_i d
   obtain⟨f,c,_⟩:=kH d
   rw[c];simp only;split
   · show(0:Nat)≤_;omega
   · have a:=gO (gN.1 (bu h).2.1 _ (List.mem_filter.1 (List.getElem_mem f)).1)
     have:=eO a.2.1
     have:=a.2.2.2.2
     show((aq H.now H.ss)[dv H p n]).tx.size≤_
     omega
 · show(0:Nat)≤_;omega
def oq (H:Hb) (q:Rq) (l:List aE) (us:List Se) (un ul ur:Int):Prop:=dS H q=⟨ew H (aV H.fos H.gs q.fo) q.key l,gx H (aV H.fos H.gs q.fo) q.key l,bt⟩∧dR H q=gy (eS H (aV H.fos H.gs q.fo) q.key l) (ew H (aV H.fos H.gs q.fo) q.key l) us un ul ur
theorem DZ {H:Hb} {q:Rq} (h:q.kind=1):oq H q q.ch H.ss H.nx H.la H.ro:=by
 refine⟨(od h).2,(od h).1.trans ?_⟩
 rw[gy,eS];split<;>rfl
theorem D3 {H:Hb} {q:Rq} {F:Fu} (h:q.kind=7) (hF:bS H q.who q.num=F) (a:F.e=0):oq H q (iV q F.tx) F.ss F.nx F.la F.ro:=by
 refine⟨(lA h).2.trans ?_,(lA h).1.trans ?_⟩
 · rw[hF,iD,iF,if_pos a,if_pos a]
 · rw[hF,iG,if_pos a]
theorem wI {H:Hb} {q:Rq} {F:Fu} (h:q.kind=7) (hF:bS H q.who q.num=F) (a: ¬F.e=0):dS H q=⟨F.e,0,bt⟩∧dR H q=H:=by
 refine⟨(lA h).2.trans ?_,(lA h).1.trans ?_⟩
 · rw[hF,iD,iF,if_neg a,if_neg a]
 · rw[hF,iG,if_neg a]
theorem D4 {H:Hb} {q:Rq} {l:List aE} {us:List Se} {g f j:Int} {i:Nat} {J R:Jo} {E N:Int} (h:oq H q l us g f j) (u:aV H.fos H.gs q.fo=i) (o:dB H i=J) (hE:E=cY J q.key l) (d:N=dM J q.key l) (s:R=dW J q.key l):
    (E=0→dS H q=⟨0,N,bt⟩∧dR H q=⟨(ix H i R).fos,H.gs,us,g,f,j,H.now⟩)∧(¬E=0→dS H q=⟨E,0,bt⟩∧dR H q=H):=by
 obtain⟨a,c⟩:=h
 rw[u]at a c;rw[a,c,gy,eS,ew,gx,o,←hE,←d,←s];refine⟨fun h=>⟨by rw[h],by rw[if_pos h,if_pos h];rfl⟩,fun h=>⟨?_,by rw[if_neg h,if_neg h]⟩⟩
 rw[d,dM,if_pos (by rw[←hE];exact h)]
def kK (H:Hb) (q:Rq):An:=if aL H.gs q.fo q.who<2 then⟨9,0,bt⟩else dS H q
def kL (H:Hb) (q:Rq):Hb:=if aL H.gs q.fo q.who<2 then H else dR H q
theorem wJ {W:World} {a:Option Addr} {n c k:Nat} {R:List (List Value)} (h:bp 4 W (.slice a n c) R) (Y:k≤R.length):iW W (.slice a k c) k 4 (R.take k).flatten∧iW W (.slice (if c=k then a else Option.map (fun x=>x.add (k*4)) a) (n-k) (c-k)) (n-k) 4 (R.drop k).flatten:=by
 obtain⟨S,U,e,X,J,A,F⟩:=h
 injection e with G e2 H
 subst G e2 H;have z: ∀r∈R,r.length=4:=fun r E=>(A r E).1
 have B:R.flatten.length=R.length*4:=fs z;rw[vF z,vG z];by_cases O:R.length=0
 · have C:k=0:=by omega
   have E:R=[]:=List.eq_nil_of_length_eq_zero O;subst C E;cases a with
   |none=>exact⟨Or.inl ⟨c,rfl,rfl,by simp⟩,Or.inl ⟨c,by simp,by simp,by simp⟩⟩
   | some ad => refine ⟨Or.inr ⟨ad, c, rfl, by simp, fun j u d => by simp at d⟩, ?_⟩
                by_cases s:c=0
                · exact Or.inr ⟨ad,0,by simp[s],by simp,fun j u d=>by simp at d⟩
                · exact Or.inr ⟨ad.add (0*4),c,by simp[s],by simp,fun j u d=>by simp at d⟩
 · obtain⟨b,o,rfl,V,_⟩:=F 0 (by omega)
   have f: ∀j u,R.flatten[j]?=some u→W.cell? ((⟨b,o,none⟩:Addr).add j)=some u:=ij (by decide) z fun i M=>by
    obtain⟨T,Z,g,_,K⟩:=F i M
    injection g with g
    injection g with A I
    subst A;subst I;exact K
   refine⟨Or.inr ⟨⟨b,o,none⟩,c,rfl,by rw[List.length_take,B];omega,fun j u d=>?_⟩,?_⟩
   · refine f j u ?_
     rw[List.getElem?_take]at d;split at d
     · exact d
     · cases d
   · by_cases v:c=k
     · have N:k=R.length:=by omega
       rw[if_pos v];refine Or.inr ⟨⟨b,o,none⟩,_,rfl,by rw[List.length_drop,B];omega,fun j u d=>?_⟩
       rw[List.drop_eq_nil_of_le (by omega)]at d;simp at d
     · rw[if_neg v]
       refine Or.inr ⟨(⟨b,o,none⟩:Addr).add (k*4),_,rfl,by rw[List.length_drop,B];omega,fun j u d=>?_⟩
       rw[List.getElem?_drop]at d;have:=f _ u d
       have e:((⟨b,o,none⟩:Addr).add (k*4)).add j=(⟨b,o,none⟩:Addr).add (k*4+j):=by
        by_cases P:k*4=0<;>by_cases Q:j=0<;>simp[Addr.add,P,Q,Nat.add_assoc]
       rw[e];exact this
theorem D5 {L:List Sh} {x:ByteArray} {k:Nat} (j:dQ L=true) (i:k≤L.length) (c: ∀m (h:m<L.length),m<k→Op.bytesLess L[m].na.toList x.toList=true) (a: ¬ ∃h:k<L.length,Op.bytesLess L[k].na.toList x.toList=true):cj L x=k:=by
 have f: ∀m (h:m<L.length),Op.bytesLess L[m].na.toList x.toList=true↔cH L[m] x<0:=fun m h=>by
  rw[kR,Lib.toList_data,Lib.toList_data,cH];simp
 refine qr i (fun m h d=>(f m h).1 (c m h d)) (fun m h d=>?_)
 by_cases g:cH L[m] x<0
 · exact absurd ⟨by omega,(f k (by omega)).2 (qq j d h g)⟩ a
 · omega
end Go.Proofs.YtdlpjlfefjipkaaGreat
