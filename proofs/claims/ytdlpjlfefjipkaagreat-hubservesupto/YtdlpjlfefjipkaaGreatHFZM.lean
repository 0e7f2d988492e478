/- What upload.Query answers, where all is right; what upload.Finish answers, where something is wrong. -/
import Derived.Test.YtdlpjlfefjipkaaGreatHFZK
import Derived.Test.YtdlpjlfefjipkaaGreatHFZL
import Derived.Test.YtdlpjlfefjipkaaGreatHFZJ
import Derived.Deep.Cut
set_option linter.unusedSimpArgs false
set_option linter.unusedVariables false
namespace Go.Proofs.YtdlpjlfefjipkaaGreat
open Go.RowKit Go.Proofs.Tryz
set_option maxHeartbeats 4000000
set_option maxRecDepth 100000
theorem Dp (G:List Se) (v:Value) (x l r:Int) (p:ByteArray) (n now:Int) (w:World) (J:aK w v G) (H:bq G) (S:p.size≤150000000000000) (B:bk G x l r p n now=0) (z:Nat) (R:z<(aq now G).length) (d:cM (aq now G) (cO n p)=(z:Int)):
    Calls prog 81 #[.agg #[v,x,l,r],p,n,now] w fun e w'=>e= .returned (.tuple #[(((aq now G)[z]).tx.size:Int),ah])∧Below w.heap.size w w':=by
 have O:=ac J;have N:=ac H;have K:=ac B;have M:=ac d;have i:Below w.heap.size w (w.alloc (.cells #[v,x,l,r] 26)):=ak
 have I:(aq now G).length≤1000:=by
  have U:=de now G;have:=(cQ (bu (dz (iA B)).1).1).1
  omega
 clear J H B d;go_enter func81,ntmps81
 go_wp2_with fail;refine(iU G _ x l r p n now _ (O.out.below i) N.out S).mono ?_
 rintro e T (⟨E,_⟩|⟨_,u,k,rfl,C,f,s,j⟩)
 · exact absurd K.out E
 obtain rfl:k=z:=by have:=M.out;rw[f]at this;omega
 have c:Below w.heap.size w T:=i.trans (j.mono (by simp));clear j f;rcases s with⟨_,o⟩|⟨g,A,rfl,P,Q,a,_⟩
 · rw[o]at C;simp at C
 have F:=a.1;obtain⟨V,X,Y,Z,t4⟩:=(a.below ( aw.alloc ax (.cells #[.slice (some ⟨g,0,none⟩) (aq now G).length A,x,l,r] 26))).at C
 clear a;go_wp2_with fail;go_ret2;exact⟨rfl,c.alloc c.size _⟩
theorem Dq (G:List Se) (v:Value) (x l r:Int) (p:ByteArray) (n now:Int) (w:World) (i:aK w v G) (g:bq G) (z:p.size≤150000000000000) (f: ¬bk G x l r p n now=0):
    Calls prog 81 #[.agg #[v,x,l,r],p,n,now] w fun e w'=>e= .returned (.tuple #[ah,bk G x l r p n now])∧Below w.heap.size w w':=by
 have s:=ac i;have o:=ac g;have j:=ac f;have C:(bk G x l r p n now==0)=false:=by simpa using f
 have c:Below w.heap.size w (w.alloc (.cells #[v,x,l,r] 26)):=ak;clear i g f;go_enter func81,ntmps81
 go_wp2_with fail;refine(iU G _ x l r p n now _ (s.out.below c) o.out z).mono ?_
 rintro e B (⟨_,rfl,d⟩|⟨u,_⟩);rotate_left
 · exact absurd u j.out
 have a:Below w.heap.size w B:=c.trans (d.mono (by simp));clear d;generalize A:bk G x l r p n now=y at*;go_wp2_with fail;go_ret2;exact⟨by rw[A];rfl,a.alloc a.size _⟩
theorem Dr (G:List Se) (v:Value) (x l r:Int) (p:ByteArray) (n now:Int) (w:World) (B:aK w v G) (u:bq G) (J:p.size≤150000000000000) (o: ¬bk G x l r p n now=0):
    Calls prog 108 #[.agg #[v,x,l,r],p,n,now] w fun e w'=>e= .returned (.tuple #[.agg  aJ ,.string ⟨#[]⟩,bk G x l r p n now])∧Below w.heap.size w w':=by
 have E:=ac B;have C:=ac u;clear B u;obtain⟨f,a⟩: ∃f,f=(w.alloc (.cells #[v,x,l,r] 26)).alloc (.cells  aJ  26):=⟨_,rfl⟩
 have g:=hid (show Below w.heap.size w f from by rw[a];exact ak.alloc (by simp) _)
 have j:=hid (show Bx f (w.heap.size+1) al ah ah ah from by
  have:=Bx.new (w.alloc (.cells #[v,x,l,r] 26)) al ah ah ah 26
  rw[a];simpa using this)
 have z:f.heap.size=w.heap.size+2:=by rw[a];simp
 have i:=ac o;have P:(bk G x l r p n now==0)=false:=by simpa using o
 clear o;go_enter func108,ntmps108
 go_wp2_with fail;rw[←a];clear a;refine(iU G _ x l r p n now _ (E.out.below g.out) C.out J).mono ?_
 rintro e Q (⟨_,rfl,c⟩|⟨I,_⟩);rotate_left
 · exact absurd I i.out
 have d:=g.out.trans (c.mono g.out.size);obtain⟨s,⟨F,H,c2,c3⟩,M,N,f2,O⟩:=j.out.below c
 have A:=c.size;clear c;generalize K:bk G x l r p n now=y at*;go_wp2;refine bodyPost_ret (v:= .tuple #[.agg  aJ ,.string ⟨#[]⟩,y]) (by simp[results,results108,go_sem,F,H,c2,c3,s]) rfl ⟨by rw[K],?_⟩
 exact(bz (b:=w.heap.size+1) d (by omega)).alloc (by simp;omega) _
theorem Ds (G:List Se) (v:Value) (x l r:Int) (p:ByteArray) (n:Int) (now:Int) (w:World) (hv:aK w v G) (hs:bq G) (hp:p.size≤150000000000000) (h0:bk G x l r p n now=0) (X:Nat) (E5:X<(aq now G).length) (B:cM (aq now G) (cO n p)=(X:Int)) (EW:(((aq now G)[X]).tx.size:Int)<((aq now G)[X]).si):
    Calls prog 108 #[.agg #[v,x,l,r],p,n,now] w fun e w'=>e= .returned (.tuple #[.agg  aJ ,.string ⟨#[]⟩,.int .i64 4])∧Below w.heap.size w w':=by
 have HV:=ac hv;have HS:=ac hs;clear hv hs;obtain⟨Y,f⟩: ∃Y,Y=(w.alloc (.cells #[v,x,l,r] 26)).alloc (.cells  aJ  26):=⟨_,rfl⟩
 have B3:=hid (show Below w.heap.size w Y from by rw[f];exact ak.alloc (by simp) _)
 have E1:=hid (show Bx Y (w.heap.size+1) al ah ah ah from by
  have:=Bx.new (w.alloc (.cells #[v,x,l,r] 26)) al ah ah ah 26
  rw[f];simpa using this)
 have EK:Y.heap.size=w.heap.size+2:=by rw[f];simp
 have H0:=ac h0;have HI:=ac B;have T:=iA h0;obtain⟨I,⟨ES,ET⟩,_⟩:=dz T
 obtain⟨E8,⟨EQ,ER⟩,⟨EU,EV⟩,EZ,F0⟩:=cQ (bu I).1
 have EX:=de now G;have H:=gO (gN.1 (bu I).2.1 _ (List.mem_filter.1 (List.getElem_mem E5)).1);obtain⟨E9,EJ⟩:=eO H.2.1
 have EY:=H.2.2.2.2;clear h0 T I H B;go_enter func108,ntmps108
 go_wp2_with fail;rw[←f];clear f;refine(iU G _ x l r p n now _ (HV.out.below B3.out) HS.out hp).mono ?_
 rintro e Z (⟨E6,_⟩|⟨_,u,k,rfl,hk,P,V,j⟩)
 · exact absurd H0.out E6
 obtain rfl:k=X:=by have:=HI.out;rw[P]at this;omega
 have c:=B3.out.trans (j.mono B3.out.size);have Q:=E1.out.below j;have EL:=j.size;clear j P;rcases V with⟨_,U⟩|⟨g,N,rfl,EO,EP,d,z,EN⟩
 · rw[U]at hk;simp at hk
 have E7:=d.1;obtain⟨K,i⟩: ∃K,K=Z.alloc (.cells #[.slice (some ⟨g,0,none⟩) (aq now G).length N,x,l,r] 26):=⟨_,rfl⟩
 have a:Below Z.heap.size Z K:=by rw[i];exact ak
 have O:Bx K Z.heap.size (.slice (some ⟨g,0,none⟩) (aq now G).length N) x (.int .i64 l) r:=by rw[i];exact Bx.new _ _ _ _ _ _
 have E4:=Q.below a;have o:=c.trans (a.mono c.size);have F:=d.below a;have A:=z.below a;have EM:=a.size;have E0:=ac O;have E2:=ac E4;have C:=ac F;have M:=ac A;obtain⟨t0,t1,t2,t3,t4⟩:=F.at hk
 clear Q c a d z F A;obtain⟨E3,⟨q0,q1,q2,q3⟩,k0,k1,k2,k3⟩:=O
 generalize hS:(aq now G)[k]=s at*;obtain⟨ws,J⟩: ∃ws,ws=K.alloc (.cells #[s.nu,s.wh,s.tx,s.si,s.ti] 79):=⟨_,rfl⟩
 have E:Below K.heap.size K ws:=by rw[J];exact ak
 have S:=o.trans (E.mono o.size);obtain⟨R,⟨c0,c1,c2,c3⟩,f0,f1,f2,f3⟩:=E2.out.below E
 clear E0 C M E q0 q1 q2 q3 k0 k1 k2 k3 E3;rw[i]at t0 t1 t2 t3 t4;rw[J,i]at c0 c1 c2 c3 f0 f1 f2 f3 R;go_wp2;refine bodyPost_ret (v:= .tuple #[.agg  aJ ,.string ⟨#[]⟩,.int .i64 4]) (by simp[results,results108,go_sem,c0,c1,c2,c3,R]) rfl ⟨rfl,?_⟩
 rw[←i,←J];exact bz (b:=w.heap.size+1) S (by omega)
theorem Dt (H:Hb) (q:Rq) (v c:Value) (w:World) (A:aX w v H) (o:dd H) (f:bH w c q) (i:cE q) (s:ae H=0) (d: ¬cD H.gs q=0):
    Calls prog 4 #[v,c] w fun e w'=> ∃u a,e= .returned (.tuple #[u,a,ah])∧aX w' u H∧bX w' a ⟨cD H.gs q,0,bt⟩∧Below w.heap.size w w':=by
 refine jA H H _ q v c w A o f s ?_
 intro B W g C E G vs c j F z x f;exact CR H q c E g C W j.lies o.gs f i d
theorem Du (H:Hb) (q:Rq) (v f:Value) (w:World) (K:aX w v H) (s:dd H) (j:bH w f q) (d:cE q) (F:ae H=0) (z:q.kind=3) (i:cD H.gs q=0):
    Calls prog 4 #[v,f] w fun e w'=> ∃u a,e= .returned (.tuple #[u,a,ah])∧aX w' u (jR H (eF H.gs q.fo q.who q.name q.num) (eG H.gs q.fo q.who q.name q.num))∧bX w' a ⟨eF H.gs q.fo q.who q.name q.num,0,bt⟩∧Below w.heap.size w w':=by
 refine jA H _ _ q v f w K s j F ?_
 intro B W g A C N vs f c M J G j;exact kB H _ q f C g A 0 _ W c.lies s.gs j d i (by rw[z];decide) (fun E x I o=>Cy H q x C g A E (c.below I).lies s.gs o d z) c.vlt
theorem Dv (H:Hb) (q:Rq) (v d:Value) (w:World) (G:aX w v H) (j:dd H) (i:bH w d q) (o:cE q) (x:ae H=0) (z:q.kind=2) (c:cD H.gs q=0):
    Calls prog 4 #[v,d] w fun e w'=> ∃u a,e= .returned (.tuple #[u,a,ah])∧aX w' u H∧bX w' a ⟨dN (dB H (aV H.fos H.gs q.fo)) q.num 10,0,ev (dB H (aV H.fos H.gs q.fo)) q.num 10⟩∧Below w.heap.size w w':=by
 have f:bJ H.gs q.fo=true:=qJ (h:=q.who) (by have:=(nR c).2.2.2;rw[z]at this;have e:Hu.lst 2=1:=rfl;omega);have E:aV H.fos H.gs q.fo<H.fos.length:=(lu x f).elim (fun h _=>h);refine jA H _ _ q v d w G j i x ?_
 intro B W g I J K vs d s F C A i;exact Dj H q d J K vs B g I _ W s F j.fos j.gs i o c z E
def gV (M:List Se) (kk:Nat) (s:Se) (t:ByteArray) (o now x l r:Int) (w:World) (e:Ending) (w':World):Prop:=(¬o=(s.tx.size:Int)∧e= .returned (.tuple #[.agg #[.slice none 0 0,.int .i64 0,.int .i64 0,.int .i64 0],.int .i64 0,.int .i64 4])∧Below w.heap.size w w')∨(o=(s.tx.size:Int)∧s.si<(s.tx.size:Int)+t.size∧e= .returned (.tuple #[.agg #[.slice none 0 0,.int .i64 0,.int .i64 0,.int .i64 0],.int .i64 0,.int .i64 2])∧Below w.heap.size w w')∨(o=(s.tx.size:Int)∧(s.tx.size:Int)+t.size≤s.si∧ ∃u,e= .returned (.tuple #[.agg #[u,.int .i64 x,.int .i64 l,.int .i64 r],.int .i64 ((s.tx.size:Int)+t.size),.int .i64 0])∧bR w.heap.size w' u (M.set kk (iB s t (now+l)))∧Below w.heap.size w w')
theorem gV.e4 {M:List Se} {c:Nat} {s:Se} {t:ByteArray} {o now x l r:Int} {w w':World} (h: ¬o=(s.tx.size:Int)) (a:Below w.heap.size w w'):gV M c s t o now x l r w (.returned (.tuple #[.agg  aJ ,ah,.int .i64 4])) w':=Or.inl ⟨h,rfl,a⟩
theorem gV.e2 {M:List Se} {d:Nat} {s:Se} {t:ByteArray} {o now x l r:Int} {w w':World} (h:o=(s.tx.size:Int)) (a:s.si<(s.tx.size:Int)+t.size) (c:Below w.heap.size w w'):gV M d s t o now x l r w (.returned (.tuple #[.agg  aJ ,ah,.int .i64 2])) w':=Or.inr (Or.inl ⟨h,a,rfl,c⟩)
theorem gV.ok {M:List Se} {a:Nat} {s:Se} {t:ByteArray} {o now x l r:Int} {w w':World} {u:Value} (h:o=(s.tx.size:Int)) (c:(s.tx.size:Int)+t.size≤s.si) (f:bR w.heap.size w' u (M.set a (iB s t (now+l)))) (d:Below w.heap.size w w'):gV M a s t o now x l r w (.returned (.tuple #[.agg #[u,x,l,r],((s.tx.size:Int)+t.size:Int),ah])) w':=Or.inr (Or.inr ⟨h,c,u,rfl,f,d⟩)
theorem Dw (G:List Se) (v:Value) (x l r:Int) (p:ByteArray) (n o:Int) (t:ByteArray) (now:Int) (w:World) (hv:aK w v G) (hs:bq G) (hp:p.size≤150000000000000) (h0:bk G x l r p n now=0) (M:List Se) (hM:aq now G=M) (kk:Nat) (FQ:kk<M.length) (EP:cM M (cO n p)=(kk:Int)) (s:Se) (hS:M[kk]=s) (ht:t.size≤150000000000000) (Fi:fg s.tx o t=false):
    Calls prog 24 #[.agg #[v,x,l,r],p,n,o,t,now] w fun e w'=>gV M kk s t o now x l r w e w':=by
 have HV:=ac hv;have HS:=ac hs;obtain⟨av,V,rfl,_⟩:=hv
 clear hs;obtain⟨w3,P⟩: ∃w3,w3=(w.alloc (.cells #[.slice av G.length V,x,l,r] 26)).alloc (.cells  aJ  26):=⟨_,rfl⟩
 have B3:=hid (show Below w.heap.size w w3 from by rw[P];exact ak.alloc (by simp) _);have FH:=hid (show Bx w3 w.heap.size (.slice av G.length V) x (.int .i64 l) r from by rw[P];exact(Bx.new w _ _ _ _ _).below ak)
 have Fx:=hid (show Bx w3 (w.heap.size+1) al ah ah ah from by
  have:=Bx.new (w.alloc (.cells #[.slice av G.length V,x,l,r] 26)) al ah ah ah 26
  rw[P];simpa using this)
 have G9:w3.heap.size=w.heap.size+2:=by rw[P];simp
 obtain⟨i0,FP,FU,FV,FW⟩:=info_parts Tryz.infoSe
 have H0:=ac h0;have HI:=ac EP;have Ft:=ac hM;obtain⟨F3,⟨Gt,Gu⟩,_⟩:=dz (iA h0)
 obtain⟨G5,⟨Gp,Gq⟩,⟨Gw,Gx⟩,GC,GD⟩:=cQ (bu F3).1
 have Gz:M.length≤G.length:=by rw[←hM];exact de now G
 have EQ:s∈aq now G:=by rw[hM,←hS];exact List.getElem_mem FQ
 have F2:=gO (gN.1 (bu F3).2.1 _ (List.mem_filter.1 EQ).1);obtain⟨G7,G8⟩:=eO F2.2.1
 have GA:=F2.2.2.2.2;have FD:=ac hS;clear h0 F3 F2 EP hM EQ hS;go_enter func24,ntmps24
 go_wp2_with fail;rw[←P];clear P;refine(lx G _ x l r p n now _ (HV.out.below B3.out) HS.out hp).mono ?_
 rintro e w4 (⟨FS,_⟩|⟨_,u,k,rfl,hk,hid,ER,Y⟩)
 · exact absurd H0.out FS
 rw[Ft.out]at hk hid ER;obtain rfl:k=kk:=by have:=HI.out;rw[hid]at this;omega
 have X:=B3.out.trans (Y.mono B3.out.size);have Fa:=ac (FH.out.below Y);have Fy:=ac (Fx.out.below Y);have Ga:=Y.size;clear Y hid;rcases ER with⟨_,E2⟩|⟨g,F0,rfl,Gl,Gm,E4,Fg,Gk⟩
 · simp[E2]at hk
 have G4:=E4.1;have hS:=FD.out;have z:=hk;clear hk;obtain⟨a,E7⟩: ∃a,a=((((w4.setCell ⟨w.heap.size,0,none⟩ (.slice (some ⟨g,0,none⟩) M.length F0)).setCell ⟨w.heap.size,1,none⟩ x).setCell ⟨w.heap.size,2,none⟩ l).setCell ⟨w.heap.size,3,none⟩ r):=⟨_,rfl⟩
 have H:w4.grownBy a (some w.heap.size):=by rw[E7];exact Nb.set4 _ _ _ _ _ _
 have Fb:Bx a w.heap.size (.slice (some ⟨g,0,none⟩) M.length F0) x (.int .i64 l) r:=by
  obtain⟨FN,⟨d0,d1,d2,d3⟩,e0,e1,e2,e3⟩:=Fa.out
  rw[E7];exact⟨by simpa using FN,⟨by simp[go_sem,d0,d1,d2,d3],by simp[go_sem,d0,d1,d2,d3],by simp[go_sem,d0,d1,d2,d3],by simp[go_sem,d0,d1,d2,d3]⟩,by simpa using e0,by simpa using e1,by simpa using e2,by simpa using e3⟩
 have EX:=ac Fb;have F8:=ac (Fy.out.nb H (by omega));have K:=ac (E4.nb H (by omega));have EL:Below w.heap.size w a:=X.trans (Nb.to H X.size ax);have Ge:=H.size;obtain⟨FO,⟨d0,d1,d2,d3⟩,e0,e1,e2,e3⟩:=Fa.out
 clear E4 Fg H X Fb;have Gy:s.tx.size≤300:=by omega
 have EN:=Fi;clear Fi;have F6:=ac EN;clear EN;have Gn:(k:Int)<(M.length:Int):=by omega
 go_upto_region 2 with fail;rw[←E7];clear E7 d0 d1 d2 d3 e0 e1 e2 e3 FO;obtain⟨Gj,⟨v0,v1,v2,v3⟩,g0,g1,g2,g3⟩:=EX.out
 obtain⟨t0,t1,t2,t3,t4⟩:=K.out.at z
 rw[hS]at t0 t1 t2 t3 t4;clear hS;obtain⟨Q,f⟩: ∃Q,Q=a.alloc (.cells #[s.nu,s.wh,s.tx,s.si,s.ti] 79):=⟨_,rfl⟩
 have E0:Below a.heap.size a Q:=by rw[f];exact ak
 have EY:=ac (EX.out.below E0);have N:=ac (F8.out.below E0);have S:=ac (K.out.below E0);have B:=EL.trans (E0.mono EL.size);have Gf:Q.heap.size=a.heap.size+1:=by rw[f];simp
 have s0:Q.cell? ⟨a.heap.size,0,none⟩=some (.int .i64 s.nu):=by rw[f];simp
 have s1:Q.cell? ⟨a.heap.size,1,none⟩=some (.string s.wh):=by rw[f];simp
 have s2:Q.cell? ⟨a.heap.size,2,none⟩=some (.string s.tx):=by rw[f];simp
 have s3:Q.cell? ⟨a.heap.size,3,none⟩=some (.int .i64 s.si):=by rw[f];simp
 have s4:Q.cell? ⟨a.heap.size,4,none⟩=some (.int .i64 s.ti):=by rw[f];simp
 have m2:Q.frozen? ⟨a.heap.size,2,none⟩=false:=by rw[f];exact World.frozen?_alloc_at _ _ _ _ rfl
 have m4:Q.frozen? ⟨a.heap.size,4,none⟩=false:=by rw[f];exact World.frozen?_alloc_at _ _ _ _ rfl
 have EW:=ac (And.intro (And.intro s0 (And.intro s1 (And.intro s2 (And.intro s3 s4)))) (And.intro m2 m4));clear s0 s1 s2 s3 s4 m2 m4 E0;go_upto_region 5 with fail;rw[←f];clear f t0 t1 t2 t3 t4 v0 v1 v2 v3 g0 g1 g2 g3 K EX F8;obtain⟨⟨s0,s1,s2,s3,s4⟩,m2,m4⟩:=EW.out
 go_upto_region 6 with fail;clear s0 s1 s4 m2 m4;by_cases O:o=(s.tx.size:Int)
 · obtain⟨m,FR⟩: ∃m:Nat,o=(m:Int):=⟨s.tx.size,O⟩
   subst FR;have F7:=ac O;have FT:((m:Int) !=(s.tx.size:Int))=false:=by simpa using O
   have hm:m≤s.tx.size:=by omega
   have he:((s.tx.extract m s.tx.size).toList==t.toList)=false:=by
    have h:=F6.out;rw[fg]at h;have F1:a9 0 (m:Int) (s.tx.size:Int)=true:=by simp[a9];omega
    rw[F1,Bool.true_and,Int.toNat_natCast]at h;exact h
   clear O;have Gh:IntKind.i64.wrap ((s.tx.size:Int)+t.size)=(s.tx.size:Int)+t.size:=by rw[IntKind.wrap_i64];omega
   by_cases Fo:s.si<(s.tx.size:Int)+t.size
   · have FG:=ac Fo
     obtain⟨F,⟨c0,c1,c2,c3⟩,f0,f1,f2,f3⟩:=N.out
     go_wp2;refine bodyPost_ret (v:= .tuple #[.agg  aJ ,ah,.int .i64 2]) (by simp[results,results24,go_sem,c0,c1,c2,c3,F]) rfl (gV.e2 F7.out FG.out ?_)
     exact bz (b:=w.heap.size+1) B (by omega)
   · have Fp:(s.tx.size:Int)+t.size≤s.si:=by omega
     have FE:=ac Fp;clear Fo;have Gv: ¬s.si<(s.tx.size:Int)+t.size:=by omega
     have Gi:IntKind.i64.wrap (now+l)=now+l:=by rw[IntKind.wrap_i64];omega
     go_upto_region 12 with fail;clear s2 s3;obtain⟨⟨s0,s1,s2,s3,s4⟩,m2,m4⟩:=EW.out
     obtain⟨Fc,⟨u0,u1,u2,u3⟩,g0,g1,g2,g3⟩:=EY.out
     obtain⟨I,E8⟩: ∃I,I=(Q.setCell ⟨a.heap.size,2,none⟩ (.string (s.tx++t))).setCell ⟨a.heap.size,4,none⟩ (now+l:Int):=⟨_,rfl⟩
     have E:Q.grownBy I (some a.heap.size):=by rw[E8];exact Nb.trans (ai _ _ _ _) (ai _ _ _ _)
     have Gg:=E.size;have EZ:=ac (EY.out.nb E (by omega));have FC:=ac (N.out.nb E (by omega));have T:=ac (S.out.nb E (by omega));have EM:Below w.heap.size w I:=B.trans (Nb.to E B.size (by omega));have U:=hid (show I.cell? ⟨a.heap.size,0,none⟩=some (.int .i64 s.nu)∧I.cell? ⟨a.heap.size,1,none⟩=some (.string s.wh)∧I.cell? ⟨a.heap.size,2,none⟩=some (.string (s.tx++t))∧I.cell? ⟨a.heap.size,3,none⟩=some (.int .i64 s.si)∧I.cell? ⟨a.heap.size,4,none⟩=some (.int .i64 (now+l))from by rw[E8];exact⟨by simp[go_sem,s0],by simp[go_sem,s1],by simp[go_sem,s2],by simp[go_sem,s3],by simp[go_sem,s4]⟩);clear E;go_upto_region 14 with fail;rw[←E8];clear E8 s0 s1 s2 s3 s4 m2 m4 u0 u1 u2 u3 g0 g1 g2 g3 Fc EW EY N S;obtain⟨Fc,⟨u0,u1,u2,u3⟩,g0,g1,g2,g3⟩:=EZ.out
     obtain⟨wv,E9⟩: ∃wv,I.alloc (.cells #[] 79)=wv:=⟨_,rfl⟩
     have E1:Below I.heap.size I wv:=by rw[←E9];exact ak
     have ET:=ac (fA.new E9 ax);have R:=ac (mq (b:=g) (o:=0) (L:=M) (fun i hi=>by rw[Nat.zero_add];exact(T.out.below E1).at hi));have Fq:=E1.size;have F5:=ac E1;obtain⟨GB,⟨FY,FZ,G0,G1⟩,_⟩:=EZ.out.below E1
     clear E1;go_wp2_with (at_builtin;(try rw[E9]);refine wpList_append_own _ rfl _ _ 24 rfl I.heap.size 79 i0 (.agg #[ah,.string ⟨#[]⟩,.string ⟨#[]⟩,ah,ah]) 5 56 underlying24 FP FU FV FW rfl (by decide) _ 0 [] rfl ET.out.own ⟨g,0,none⟩ M.length F0 (bn M) rfl (il M) R.out (jt M) (by unfold maxLen;omega) (by omega) (by omega) ?_)
     intro GF w6 Fm EO Fl;have Fv:=ac (jv Fm);have j:Below I.heap.size I w6:=F5.out.grown EO Fq (fun q hq=>(ET.out.own.lt q hq).1);rcases Fv.out with⟨_,E2⟩|⟨J,A,rfl,Fj,Fk,c,Z,Fh⟩
     · rw[E2]at z;exact absurd z (by simp)
     have FI:=ac (EZ.out.below j);have Fz:=ac (FC.out.below j);have EJ:=EM.trans (j.mono EM.size);have Gb:=j.size;have E3:a.heap.size<I.heap.size:=by omega
     have F9:=hid (show w6.cell? ⟨a.heap.size,0,none⟩=some (.int .i64 s.nu)∧w6.cell? ⟨a.heap.size,1,none⟩=some (.string s.wh)∧w6.cell? ⟨a.heap.size,2,none⟩=some (.string (s.tx++t))∧w6.cell? ⟨a.heap.size,3,none⟩=some (.int .i64 s.si)∧w6.cell? ⟨a.heap.size,4,none⟩=some (.int .i64 (now+l))from⟨(j.cell (p:=⟨a.heap.size,0,none⟩) E3).trans U.out.1,(j.cell (p:=⟨a.heap.size,1,none⟩) E3).trans U.out.2.1,(j.cell (p:=⟨a.heap.size,2,none⟩) E3).trans U.out.2.2.1,(j.cell (p:=⟨a.heap.size,3,none⟩) E3).trans U.out.2.2.2.1,(j.cell (p:=⟨a.heap.size,4,none⟩) E3).trans U.out.2.2.2.2⟩);clear j EO Fl Fm FY FZ G0 G1 u0 u1 u2 u3 g0 g1 g2 g3 E9 ET R F5 T;obtain⟨t0,t1,t2,t3,t4⟩:=c.at z
     have k0:=(c.2 k z 0 (by decide)).2;have k1:=(c.2 k z 1 (by decide)).2;have k2:=(c.2 k z 2 (by decide)).2;have k3:=(c.2 k z 3 (by decide)).2;have k4:=(c.2 k z 4 (by decide)).2;rw[Nat.add_zero]at k0;have ES:=c.set z (iB s t (now+l));have Fs:=ac Z;obtain⟨w7,E5⟩: ∃w7,w7=((((w6.setCell ⟨J,k*5,none⟩ s.nu).setCell ⟨J,k*5+1,none⟩ s.wh).setCell ⟨J,k*5+2,none⟩ (.string (s.tx++t))).setCell ⟨J,k*5+3,none⟩ s.si).setCell ⟨J,k*5+4,none⟩ (now+l:Int):=⟨_,rfl⟩
     have EV:=hid (show bY w7 J (M.set k (iB s t (now+l)))from by rw[E5];exact ES);have C:w6.grownBy w7 (some J):=by rw[E5];exact en J (bD (iB s t (now+l))) (k*5) w6
     have F4:=hid (show fL w7 J 79 (A*5)from by rw[E5];exact cZ.setCells J (bD (iB s t (now+l))) (k*5) w6 _ _ Fs.out);clear ES Z;generalize M[k]=s9 at t0 t1 t2 t3 t4;obtain⟨s0,s1,s2,s3,s4⟩:=F9.out
     go_upto_region 16 with fail;rw[←E5];clear E5 t0 t1 t2 t3 t4 k0 k1 k2 k3 k4 s0 s1 s2 s3 s4;have Gc:=C.size;have FJ:=ac (FI.out.nb C (by omega));have FA:=ac (Fz.out.nb C (by omega));have EK:Below w.heap.size w w7:=EJ.trans (Nb.to C EJ.size (by omega));have y2:w7.cell? ⟨a.heap.size,2,none⟩=some (.string (s.tx++t)):=(Nb.cell C (p:=⟨a.heap.size,2,none⟩) (by show a.heap.size<w6.heap.size;omega) (by show a.heap.size≠J;omega)).trans F9.out.2.2.1;have FL:=ac y2;clear y2;obtain⟨Fe,⟨u0,u1,u2,u3⟩,g0,g1,g2,g3⟩:=FJ.out
     obtain⟨w8,E6⟩: ∃w8,w8=w7.setCell ⟨w.heap.size,0,none⟩ (.slice (some ⟨J,0,none⟩) M.length A):=⟨_,rfl⟩
     have d:w7.grownBy w8 (some w.heap.size):=by rw[E6];exact ai _ _ _ _
     have Gd:=d.size
     have FK:=hid (show Bx w8 w.heap.size (.slice (some ⟨J,0,none⟩) M.length A) x (.int .i64 l) r from by
      rw[E6];exact⟨by simpa using Fe,⟨by simp[go_sem,u0],by simp[go_sem,u1],by simp[go_sem,u2],by simp[go_sem,u3]⟩,by simpa using g0,by simpa using g1,by simpa using g2,by simpa using g3⟩)
     have FB:=ac (FA.out.nb d (by omega));have Ff:Below w.heap.size w w8:=EK.trans (Nb.to d EK.size ax);have Fw:=hid (show bR I.heap.size w8 (.slice (some ⟨J,0,none⟩) M.length A) (M.set k (iB s t (now+l)))from Or.inr ⟨J,A,by simp,Fj,by simpa using Fk,EV.out.nb d (by omega),F4.out.nb d (by omega),Fh⟩);have FM:=ac ((Nb.cell d (p:=⟨a.heap.size,2,none⟩) (by show a.heap.size<w7.heap.size;omega) (by show a.heap.size≠w.heap.size;omega)).trans FL.out);have Gs:((s.tx++t).size:Int)=(s.tx.size:Int)+t.size:=by rw[ByteArray.size_append];simp
     go_upto_region 17 with fail;rw[←E6];clear E6 u0 u1 u2 u3 g0 g1 g2 g3 C d;obtain⟨G2,⟨u0,u1,u2,u3⟩,g0,g1,g2,g3⟩:=FK.out
     obtain⟨F,⟨c0,c1,c2,c3⟩,f0,f1,f2,f3⟩:=FB.out
     have y8:=FM.out;go_region
     go_wp2;refine bodyPost_ret (v:= .tuple #[.agg #[.slice (some ⟨J,0,none⟩) M.length A,x,l,r],((s.tx.size:Int)+t.size:Int),ah]) (by simp[results,results24,go_sem,c0,c1,c2,c3,F]) rfl (gV.ok F7.out FE.out ?_ ?_)
     · exact((Fw.out.nb (Nb.set4 _ (w.heap.size+1) _ _ _ _) (by omega)).below aw.drew).mono (by omega)
     · exact(bz (b:=w.heap.size+1) Ff (by omega)).drew
 · have EU:=ac O
   have FT:(o !=(s.tx.size:Int))=true:=by simpa using O
   by_cases G6:o<0
   · skip
     obtain⟨F,⟨c0,c1,c2,c3⟩,f0,f1,f2,f3⟩:=N.out
     go_wp2;refine bodyPost_ret (v:= .tuple #[.agg  aJ ,ah,.int .i64 4]) (by simp[results,results24,go_sem,c0,c1,c2,c3,F]) rfl (gV.e4 EU.out ?_)
     exact bz (b:=w.heap.size+1) B (by omega)
   · by_cases G3:(s.tx.size:Int)<o
     · skip
       obtain⟨F,⟨c0,c1,c2,c3⟩,f0,f1,f2,f3⟩:=N.out
       go_wp2;refine bodyPost_ret (v:= .tuple #[.agg  aJ ,ah,.int .i64 4]) (by simp[results,results24,go_sem,c0,c1,c2,c3,F]) rfl (gV.e4 EU.out ?_)
       exact bz (b:=w.heap.size+1) B (by omega)
     · obtain⟨m,rfl⟩: ∃m:Nat,o=(m:Int):=⟨o.toNat,by omega⟩
       have hm:m≤s.tx.size:=by omega
       have he:((s.tx.extract m s.tx.size).toList==t.toList)=false:=by
        have h:=F6.out;rw[fg]at h;have F1:a9 0 (m:Int) (s.tx.size:Int)=true:=by simp[a9];omega
        rw[F1,Bool.true_and,Int.toNat_natCast]at h;exact h
       obtain⟨F,⟨c0,c1,c2,c3⟩,f0,f1,f2,f3⟩:=N.out
       go_wp2;refine bodyPost_ret (v:= .tuple #[.agg  aJ ,ah,.int .i64 4]) (by simp[results,results24,go_sem,c0,c1,c2,c3,F]) rfl (gV.e4 EU.out ?_)
       exact bz (b:=w.heap.size+1) B (by omega)
theorem Dx (G:List Se) (v:Value) (x l r:Int) (p:ByteArray) (n o:Int) (t:ByteArray) (now:Int) (w:World) (H:aK w v G) (C:bq G) (Q:p.size≤150000000000000) (A: ¬bk G x l r p n now=0):
    Calls prog 24 #[.agg #[v,x,l,r],p,n,o,t,now] w fun e w'=>e= .returned (.tuple #[.agg  aJ ,ah,bk G x l r p n now])∧Below w.heap.size w w':=by
 have J:=ac H;have I:=ac C;obtain⟨z,c,rfl,_⟩:=H
 clear C;obtain⟨f,a⟩: ∃f,f=(w.alloc (.cells #[.slice z G.length c,x,l,r] 26)).alloc (.cells  aJ  26):=⟨_,rfl⟩
 have i:=hid (show Below w.heap.size w f from by rw[a];exact ak.alloc (by simp) _);have u:=hid (show Bx f w.heap.size (.slice z G.length c) x (.int .i64 l) r from by rw[a];exact(Bx.new w _ _ _ _ _).below ak)
 have s:=hid (show Bx f (w.heap.size+1) al ah ah ah from by
  have:=Bx.new (w.alloc (.cells #[.slice z G.length c,x,l,r] 26)) al ah ah ah 26
  rw[a];simpa using this)
 have E:f.heap.size=w.heap.size+2:=by rw[a];simp
 have j:=ac A;have hz:(bk G x l r p n now==0)=false:=by simpa using A
 clear A;go_enter func24,ntmps24
 go_wp2_with fail;rw[←a];clear a;refine(lx G _ x l r p n now _ (J.out.below i.out) I.out Q).mono ?_
 rintro e w4 (⟨_,S,m4,N,rfl,d⟩|⟨P,_⟩);rotate_left
 · exact absurd P j.out
 have g:=i.out.trans (d.mono i.out.size);obtain⟨B,⟨K,M,c2,c3⟩,T,U,f2,V⟩:=s.out.below d
 obtain⟨O,⟨u0,u1,u2,u3⟩,X,Y,Z,g3⟩:=u.out.below d
 have F:=d.size;clear d;generalize R:bk G x l r p n now=y at*;go_wp2;refine bodyPost_ret (v:= .tuple #[.agg  aJ ,ah,y]) (by simp[results,results24,go_sem,K,M,c2,c3,B]) rfl ⟨by rw[R],?_⟩
 exact bz (b:=w.heap.size+1) (bz (b:=w.heap.size) g ax) (by omega)
theorem Dy (G:List Se) (v:Value) (x l r:Int) (p:ByteArray) (n o:Int) (t:ByteArray) (now:Int) (w:World) (hv:aK w v G) (hs:bq G) (hp:p.size≤150000000000000) (h0:bk G x l r p n now=0) (P:Nat) (EL:P<(aq now G).length) (J:cM (aq now G) (cO n p)=(P:Int)) (ht:t.size≤150000000000000) (m:Nat) (ho:o=(m:Int)) (hm:m≤((aq now G)[P]).tx.size) (he:((((aq now G)[P]).tx.extract m ((aq now G)[P]).tx.size).toList==t.toList)=true):
    Calls prog 24 #[.agg #[v,x,l,r],p,n,o,t,now] w fun e w'=> ∃u,e= .returned (.tuple #[.agg #[u,x,l,r],(((aq now G)[P]).tx.size:Int),ah])∧bR w.heap.size w' u (aq now G)∧Below w.heap.size w w':=by
 have HV:=ac hv;have HS:=ac hs;obtain⟨av,i,rfl,_⟩:=hv
 clear hs;obtain⟨U,d⟩: ∃U,U=(w.alloc (.cells #[.slice av G.length i,x,l,r] 26)).alloc (.cells  aJ  26):=⟨_,rfl⟩
 have B3:=hid (show Below w.heap.size w U from by rw[d];exact ak.alloc (by simp) _);have E7:=hid (show Bx U w.heap.size (.slice av G.length i) x (.int .i64 l) r from by rw[d];exact(Bx.new w _ _ _ _ _).below ak)
 have E5:=hid (show Bx U (w.heap.size+1) al ah ah ah from by
  have:=Bx.new (w.alloc (.cells #[.slice av G.length i,x,l,r] 26)) al ah ah ah 26
  rw[d];simpa using this)
 have ER:U.heap.size=w.heap.size+2:=by rw[d];simp
 subst ho;have H0:=ac h0;have HI:=ac J;obtain⟨O,⟨F1,F2⟩,_⟩:=dz (iA h0)
 obtain⟨EO,⟨EZ,F0⟩,⟨F3,F4⟩,F8,F9⟩:=cQ (bu O).1
 have F6:=de now G;have N:=gO (gN.1 (bu O).2.1 _ (List.mem_filter.1 (List.getElem_mem EL)).1);obtain⟨EP,EQ⟩:=eO N.2.1
 have F7:=N.2.2.2.2;clear h0 O N J;go_enter func24,ntmps24
 go_wp2_with fail;rw[←d];clear d;refine(lx G _ x l r p n now _ (HV.out.below B3.out) HS.out hp).mono ?_
 rintro e w4 (⟨EM,_⟩|⟨_,u,k,rfl,hk,hid,E4,z⟩)
 · exact absurd H0.out EM
 obtain rfl:k=P:=by have:=HI.out;rw[hid]at this;omega
 have j:=B3.out.trans (z.mono B3.out.size);have Y:=ac (E7.out.below z);have E6:=ac (E5.out.below z);have ES:=z.size;clear z hid;rcases E4 with⟨_,E3⟩|⟨g,C,rfl,EY,EK,A,H,EJ⟩
 · rw[E3]at hk;simp at hk
 have EN:=A.1;obtain⟨E,f⟩: ∃E,E=((((w4.setCell ⟨w.heap.size,0,none⟩ (.slice (some ⟨g,0,none⟩) (aq now G).length C)).setCell ⟨w.heap.size,1,none⟩ x).setCell ⟨w.heap.size,2,none⟩ l).setCell ⟨w.heap.size,3,none⟩ r):=⟨_,rfl⟩
 have a:w4.grownBy E (some w.heap.size):=by rw[f];exact Nb.set4 _ _ _ _ _ _
 have E1:Bx E w.heap.size (.slice (some ⟨g,0,none⟩) (aq now G).length C) x (.int .i64 l) r:=by
  obtain⟨E9,⟨Q,R,S,T⟩,e0,e1,e2,e3⟩:=Y.out
  rw[f];exact⟨by simpa using E9,⟨by simp[go_sem,Q,R,S,T],by simp[go_sem,Q,R,S,T],by simp[go_sem,Q,R,S,T],by simp[go_sem,Q,R,S,T]⟩,by simpa using e0,by simpa using e1,by simpa using e2,by simpa using e3⟩
 have Z:=E6.out.nb a (by omega);have M:=A.nb a (by omega);have I:=H.nb a (by omega);have F:Below w.heap.size w E:=j.trans (Nb.to a j.size ax);have ET:=a.size;generalize hS:(aq now G)[k]=s at*;obtain⟨ws,B⟩: ∃ws,ws=E.alloc (.cells #[s.nu,s.wh,s.tx,s.si,s.ti] 79):=⟨_,rfl⟩
 have c:Below E.heap.size E ws:=by rw[B];exact ak
 have E8:=ac (E1.below c);have X:=ac (Z.below c);have K:=ac (M.below c);have V:=ac (I.below c);have E2:=F.trans (c.mono F.size);have EU:ws.heap.size=E.heap.size+1:=by rw[B];simp
 obtain⟨t0,t1,t2,t3,t4⟩:=M.at hk
 rw[hS]at t0 t1 t2 t3 t4;obtain⟨EW,⟨u0,u1,u2,u3⟩,g0,g1,g2,g3⟩:=E8.out
 obtain⟨E0,⟨c0,c1,c2,c3⟩,f0,f1,f2,f3⟩:=X.out
 obtain⟨EV,⟨v0,v1,v2,v3⟩,_⟩:=E1
 obtain⟨EX,⟨Q,R,S,T⟩,e0,e1,e2,e3⟩:=Y.out
 clear A H Z M I a c j;have F5:s.tx.size≤300:=by omega
 rw[B,f]at u0 u1 u2 u3 c0 c1 c2 c3 f0 f1 f2 f3;rw[f]at t0 t1 t2 t3 t4 v0 v1 v2 v3;go_wp2_with fail;rw[←f,←B];clear f B t0 t1 t2 t3 t4 v0 v1 v2 v3 Q R S T e0 e1 e2 e3 u0 u1 u2 u3 c0 c1 c2 c3 f0 f1 f2 f3;obtain⟨E0,⟨c0,c1,c2,c3⟩,f0,f1,f2,f3⟩:=X.out
 refine bodyPost_ret (v:= .tuple #[.agg #[.slice (some ⟨g,0,none⟩) (aq now G).length C,x,l,r],(s.tx.size:Int),ah]) (by simp[results,results24,go_sem,c0,c1,c2,c3,E0]) rfl ⟨_,by rw[hS],?_,?_⟩
 · exact Or.inr ⟨g,C,rfl,by omega,EK,K.out.nb (Nb.set4 _ (w.heap.size+1) _ _ _ _) (by omega),V.out.nb (Nb.set4 _ (w.heap.size+1) _ _ _ _) (by omega),EJ⟩
 · exact bz (b:=w.heap.size+1) E2 (by omega)
end Go.Proofs.YtdlpjlfefjipkaaGreat
