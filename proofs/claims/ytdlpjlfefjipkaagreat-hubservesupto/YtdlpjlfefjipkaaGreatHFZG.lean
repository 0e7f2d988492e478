/- What the server's answer is, and hub.Serve's, where what number does is known. -/
import Derived.Test.YtdlpjlfefjipkaaGreatHFZF
set_option linter.unusedSimpArgs false
set_option linter.unusedVariables false
namespace Go.Proofs.YtdlpjlfefjipkaaGreat
open Go.RowKit Go.Proofs.Tryz
set_option maxHeartbeats 8000000
set_option maxRecDepth 100000
def nS:An:=⟨0,0,bt⟩
def jy:Hb:=⟨[],[],[],0,0,0,0⟩
theorem qQ (w:World):aF w (.slice none 0 0) []:=⟨none,0,rfl,ax,by decide,fun i h=>absurd h (by simp)⟩
theorem iy (w:World) (e n:Int):bX w (.agg #[e,n,false,al,al,ah,false]) ⟨e,n,bt⟩:=⟨_,_,rfl,qQ _,kX _⟩
theorem qR (w:World):aX w (.agg  cy ) jy:=⟨_,_,_,rfl,qj _,fu _,⟨none,0,rfl,ax,by decide,fun i h=>absurd h (by simp[jy])⟩⟩
theorem iz {w:World} {g:Nat} {e n c:Int} {r m:Bool} {x y:Option Addr} {a b d f:Nat} (h:Cs w g [e,n,r,.slice x a b,.slice y d f,c,m]):di w g:=h.noStr (fun s i=>by simp at i)
theorem nT {w:World} {g:Nat} {a b c d e f:Nat} {x y z:Option Addr} {j o u v:Int} (h:Cs w g [.slice x a b,.slice y c d,.slice z e f,j,o,u,v]):di w g:=h.noStr (fun s i=>by simp at i)
def BP (w:World) (g mb:Nat) (vf:Value) (q:Rq) (n e:Int) (H:Hb):Prop:= ∀(W:World) (vq:Value),Below w.heap.size w W→bH W vq q→Calls prog 42 #[.pointer (some ⟨g,0,none⟩),vq] W fun z w'=>z= .returned (.tuple #[.int .i64 n,.int .i64 e])∧bU w' g mb H∧aZ W w' g (bo vf g)
def kA (w:World) (g mb:Nat) (vf vq:Value) (A:An) (H:Hb):Prop:=Calls prog 11 #[.pointer (some ⟨g,0,none⟩),vq] w fun z w'=> ∃u,z= .returned u∧bX w' u A∧bU w' g mb H∧aZ w w' g (bo vf g)
theorem kB (H H':Hb) (q:Rq) (vq V:Value) (g mb:Nat) (n e:Int) (w:World) (T:bU w g mb H) (hs:eu H.gs) (hq:bH w vq q) (EJ:cE q) (E9:cD H.gs q=0) (hk: ¬q.kind=2) (O:BP w g mb V q n e H') (EK: ∀b,V.ownBlock=some b→b<w.heap.size):kA w g mb V vq ⟨e,n,bt⟩ H':=by
 have EU:=hid hs;have EV:=hid EJ;have u9:=hid E9;have E1:=hid O
 have EP:=hid (show bo V g<w.heap.size∧g<w.heap.size from by
  obtain⟨_,_,_,h,_⟩:=T
  refine⟨?_,h.lt⟩
  rw[bo];cases hb:V.ownBlock with
  |none=>exact h.lt
  |some b=>exact EK b hb)
 clear hs EJ E9 O EK;unfold kA;obtain⟨va,rfl,lq⟩:=hq
 have E0:=hid lq;obtain⟨qa,qc,rfl,_⟩:=lq
 obtain⟨kind,who,fo,name,key,text,num,off,base,ch⟩:=q
 simp only at*;obtain⟨N,E⟩: ∃N,N=w.alloc (.cells #[kind,who,fo,name,key,text,num,off,base,.slice qa ch.length qc] 31):=⟨_,rfl⟩
 obtain⟨F,M⟩: ∃F,F=N.alloc (.cells  bC  38):=⟨_,rfl⟩
 have EL:N.heap.size=w.heap.size+1:=by rw[E];simp
 have E7:Below w.heap.size w N:=by rw[E];exact ak
 have S:Below N.heap.size N F:=by rw[M];exact ak
 have u:Below w.heap.size w F:=an E7 S;have c:Hid (Cs F w.heap.size [kind,who,fo,name,key,text,num,off,base,.slice qa ch.length qc]):=((by rw[E];exact Cs.new w [kind,who,fo,name,key,text,num,off,base,.slice qa ch.length qc] _:Cs N w.heap.size [kind,who,fo,name,key,text,num,off,base,.slice qa ch.length qc]).below S:Cs F w.heap.size _)
 have Y:=hid (show Cs F (w.heap.size+1)  bC from by rw[←EL,M];exact Cs.new N  bC  _);have Q:(w.alloc (.cells #[kind,who,fo,name,key,text,num,off,base,.slice qa ch.length qc] 31)).alloc (.cells  bC  38)=F:=by rw[M,E]
 have E6:=hid Q;have EZ:w.heap.size+1<F.heap.size:=Y.out.lt;clear E M E7 S EL Q;obtain⟨fa,fc,ga,gc,sa,sc,hC,hF,hG,hS⟩:=T.shape
 have E5:=hid (T.below u);have EQ:=hid (hC.below u);have ER:=hid (hG.below u);have EW:=hC.lt;have EX:g<F.heap.size:=Nat.lt_of_lt_of_le EW u.size;clear hC hF hG hS;have x0:=c.out.cell 0 rfl;have x1:=c.out.cell 1 rfl;have x2:=c.out.cell 2 rfl;have x3:=c.out.cell 3 rfl;have x4:=c.out.cell 4 rfl;have x5:=c.out.cell 5 rfl;have x6:=c.out.cell 6 rfl;have x7:=c.out.cell 7 rfl;have x8:=c.out.cell 8 rfl;have x9:=c.out.cell 9 rfl;go_enter func11,ntmps11
 go_upto_region 1 with fail;rw[E6.out];clear E6;go_wp2_with fail;refine(qK H.gs ⟨kind,who,fo,name,key,text,num,off,base,ch⟩ _ _ g F EX (EQ.out.cell 1 rfl) ER.out EU.out ⟨_,rfl,E0.out.below u⟩ EV.out).mono ?_
 rintro e G ⟨rfl,B⟩;clear x0 x1 x2 x3 x4 x5 x6 x7 x8 x9;have E8:=an u B;have EY:=hid (E5.out.below B);have ET:=hid (c.out.below B);have EM:=hid (Y.out.below B);have F3:=B.size;rw[u9.out];have F1:(kind==2)=false:=by simpa using hk
 clear u9 hk;obtain⟨w2,J⟩: ∃w2,w2=G.alloc (.cells  bC  38):=⟨_,rfl⟩
 have I:Below G.heap.size G w2:=by rw[J];exact ak
 have Z:=hid (show Cs w2 G.heap.size  bC from by rw[J];exact Cs.new G  bC  _);have d:=hid (ET.out.below I);have EN:=hid (EM.out.below I);have A:=an E8 I;have F4:=I.size;have F2:=Z.out.lt;have x0:=d.out.cell 0 rfl;have x1:=d.out.cell 1 rfl;have x2:=d.out.cell 2 rfl;have x3:=d.out.cell 3 rfl;have x4:=d.out.cell 4 rfl;have x5:=d.out.cell 5 rfl;have x6:=d.out.cell 6 rfl;have x7:=d.out.cell 7 rfl;have x8:=d.out.cell 8 rfl;have x9:=d.out.cell 9 rfl;go_upto_region 5 with fail;rw[←J];clear J;go_wp2_with fail;refine(E1.out w2 _ A ⟨_,rfl,E0.out.below A⟩).mono ?_
 rintro z w3 ⟨rfl,P,C⟩;have E2:=hid P;have F0:=EP.out;have s:=hid (Z.out.nb2 C (by omega) (by omega));have EO:=hid (EN.out.nb2 C (by omega) (by omega));have o:=hid (show aZ w w3 g (bo V g)from(aZ.of_below _ _ A).trans C);have F5:=C.size;clear P C x0 x1 x2 x3 x4 x5 x6 x7 x8 x9;obtain⟨R,K⟩: ∃R,R=(w3.setCell ⟨G.heap.size,1,none⟩ n).setCell ⟨G.heap.size,0,none⟩ (.int .i64 e):=⟨_,rfl⟩
 have f:w3.grownBy R (some G.heap.size):=by rw[K];exact ar (aj _ _ _ _) (aj _ _ _ _)
 have j:Hid (Cs R G.heap.size [.int .i64 e,n,false,al,al,ah,false]):=(by rw[K];exact(s.out.set 1 n).set 0 (.int .i64 e):Cs R G.heap.size _)
 have a:=hid (EO.out.nb f (by omega));have E3:=hid (E2.out.nb f (iz s.out) (by omega));have p0:=s.out.cell 0 rfl;have p1:=s.out.cell 1 rfl;have f0:=s.out.fr 0;have f1:=s.out.fr 1;go_upto_region 8 with fail;rw[←K];clear K p0 p1 f0 f1;obtain⟨X,U⟩: ∃X,X=(((((((R.setCell ⟨w.heap.size+1,0,none⟩ (.int .i64 e)).setCell ⟨w.heap.size+1,1,none⟩ n).setCell ⟨w.heap.size+1,2,none⟩ false).setCell ⟨w.heap.size+1,3,none⟩ al).setCell ⟨w.heap.size+1,4,none⟩ al).setCell ⟨w.heap.size+1,5,none⟩ ah).setCell ⟨w.heap.size+1,6,none⟩ false):=⟨_,rfl⟩
 have x:R.grownBy X (some (w.heap.size+1)):=by rw[U];exact(ar (ar (ar (ar (ar (ar (aj R (w.heap.size+1) 0 (.int .i64 e)) (aj _ (w.heap.size+1) 1 n)) (aj _ (w.heap.size+1) 2 false)) (aj _ (w.heap.size+1) 3 al)) (aj _ (w.heap.size+1) 4 al)) (aj _ (w.heap.size+1) 5 ah)) (aj _ (w.heap.size+1) 6 false))
 have i:Hid (Cs X (w.heap.size+1) [.int .i64 e,n,false,al,al,ah,false]):=(by rw[U];exact(((((((a.out.set 0 (.int .i64 e)).set 1 n).set 2 false).set 3 al).set 4 al).set 5 ah).set 6 false):Cs X (w.heap.size+1) _)
 have E4:=hid (E3.out.nb x (iz a.out) (by omega));have ES:=hid (show aZ w X g (bo V g)from⟨x.os.trans (f.os.trans o.out.os),x.tape.trans (f.tape.trans o.out.tape),x.output.trans (f.output.trans o.out.output),Nat.le_trans o.out.size (Nat.le_trans f.size x.size),fun k hk h1 h2=>(x.block k (by have:=o.out.size;have:=f.size;omega) (fun e=>by injection e with e;omega)).trans ((f.block k (by have:=o.out.size;omega) (fun e=>by injection e with e;omega)).trans (o.out.block k hk h1 h2))⟩);have q0:=j.out.cell 0 rfl;have q1:=j.out.cell 1 rfl;have q2:=j.out.cell 2 rfl;have q3:=j.out.cell 3 rfl;have q4:=j.out.cell 4 rfl;have q5:=j.out.cell 5 rfl;have q6:=j.out.cell 6 rfl;have p0:=a.out.cell 0 rfl;have f0:=a.out.fr 0;have p1:=a.out.cell 1 rfl;have f1:=a.out.fr 1;have p2:=a.out.cell 2 rfl;have f2:=a.out.fr 2;have p3:=a.out.cell 3 rfl;have f3:=a.out.fr 3;have p4:=a.out.cell 4 rfl;have f4:=a.out.fr 4;have p5:=a.out.cell 5 rfl;have f5:=a.out.fr 5;have p6:=a.out.cell 6 rfl;have f6:=a.out.fr 6;go_wp2_with fail;rw[←U];clear p0 p1 p2 p3 p4 p5 p6;have y0:=i.out.cell 0 rfl;have y1:=i.out.cell 1 rfl;have y2:=i.out.cell 2 rfl;have y3:=i.out.cell 3 rfl;have y4:=i.out.cell 4 rfl;have y5:=i.out.cell 5 rfl;have y6:=i.out.cell 6 rfl;refine bodyPost_ret (v:= .agg #[.int .i64 e,n,false,al,al,ah,false]) (by simp[results,results11,go_sem,y0,y1,y2,y3,y4,y5,y6]) rfl ⟨_,rfl,iy _ _ _,E4.out,ES.out⟩
theorem aX.shape {w:World} {v:Value} {H:Hb} (h:aX w v H): ∃a c d f g i,v= .agg #[.slice a H.fos.length c,.slice d H.gs.length f,.slice g H.ss.length i,H.nx,H.la,H.ro,H.now]:=by
 obtain⟨u,x,vs,rfl,j,o,s⟩:=h
 obtain⟨a,c,rfl,_⟩:=j
 obtain⟨d,f,rfl,_⟩:=o
 obtain⟨g,i,rfl,_⟩:=s
 exact⟨a,c,d,f,g,i,rfl⟩
theorem aX.nb {W d:World} {v:Value} {H:Hb} {g:Nat} (h:aX W v H) (c:W.grownBy d (some g)) (a:di W g):aX d v H:=by
 obtain⟨o,s,vs,rfl,f,i,j⟩:=h
 exact⟨o,s,vs,rfl,f.nb c a,i.nb c a,j.nb c a⟩
theorem bX.nb {W a:World} {v:Value} {A:An} {g:Nat} (h:bX W v A) (d:W.grownBy a (some g)) (c:di W g):bX a v A:=by
 obtain⟨o,j,rfl,f,i⟩:=h
 exact⟨o,j,rfl,f.nb d c,i.nb d c⟩
theorem bX.shape {w:World} {v:Value} {A:An} (h:bX w v A): ∃d f a c,v= .agg #[A.err,A.num,A.pg.reset,.slice d A.pg.tree.length f,.slice a A.pg.cos.length c,A.pg.cur,A.pg.more]:=by
 obtain⟨o,j,rfl,g,i⟩:=h
 obtain⟨d,f,rfl,_⟩:=g
 obtain⟨a,c,rfl,_⟩:=i
 exact⟨d,f,a,c,rfl⟩
theorem bU.hub {w:World} {g o:Nat} {H:Hb} (h:bU w g o H): ∃a c d f i j,Cs w g [.slice a H.fos.length c,.slice d H.gs.length f,.slice i H.ss.length j,H.nx,H.la,H.ro,H.now,.map (some o)]∧aX w (.agg #[.slice a H.fos.length c,.slice d H.gs.length f,.slice i H.ss.length j,H.nx,H.la,H.ro,H.now]) H:=by
 obtain⟨a,c,d,f,i,j,s,u,v,x⟩:=h.shape
 exact⟨a,c,d,f,i,j,s,_,_,_,rfl,u,v,x⟩
def jS (l r:Int):Hb:=if be [] 1 l r=0 then⟨[],[],[],1,l,r,0⟩else jy
theorem BQ (l r:Int) (w:World):
    Calls prog 29 #[l,r] w fun e w'=> ∃u,e= .returned (.tuple #[u,be [] 1 l r])∧aX w' u (jS l r)∧Below w.heap.size w w':=by
 obtain⟨F,g⟩: ∃F,F=be [] 1 l r:=⟨_,rfl⟩
 rw[←g];have M:=hid g;have d:=hid (show jS l r=if F=0 then⟨[],[],[],1,l,r,0⟩else jy from by rw[jS,←g]);clear g;obtain⟨o,c⟩: ∃o,o=w.alloc (.cells  cy  28):=⟨_,rfl⟩
 obtain⟨x,j⟩: ∃x,x=o.alloc (.cells #[al,.int .i64 1,l,r] 26):=⟨_,rfl⟩
 have K:o.heap.size=w.heap.size+1:=by rw[c];simp
 have I:Below w.heap.size w o:=by rw[c];exact ak
 have C:Below o.heap.size o x:=by rw[j];exact ak
 have N:Below w.heap.size w x:=an I C;have HX:Hid (Cs x w.heap.size  cy ):=((by rw[c];exact Cs.new w  cy  _:Cs o w.heap.size  cy ).below C:Cs x w.heap.size _)
 have H:Hid (Cs x (w.heap.size+1) [al,.int .i64 1,l,r]):=(by rw[←K,j];exact Cs.new o [al,.int .i64 1,l,r] _:Cs x (w.heap.size+1) _)
 have A:(w.alloc (.cells  cy  28)).alloc (.cells #[al,.int .i64 1,l,r] 26)=x:=by rw[j,c]
 have G:=hid A;clear c j I C K A;go_enter func29,ntmps29
 go_upto_region 2 with fail;try simp only[World.setCell_alloc_new]
 rw[G.out];clear G;have V:=H.out.cell 0 rfl;have X:=H.out.cell 1 rfl;have Y:=H.out.cell 2 rfl;have Z:=H.out.cell 3 rfl;go_wp2_with fail;refine(ld [] _ 1 l r _ ⟨none,0,rfl,ax,by decide,fun i h=>absurd h (by simp)⟩ (fun s hs=>by cases hs)).mono ?_
 rintro e w1 ⟨rfl,E⟩;rw[←M.out];have z:=an N E;have a:=hid (HX.out.below E);have f:=hid (H.out.below E);clear V X Y Z;by_cases J:F=0
 · subst J
   have B:=hid (show jS l r=⟨[],[],[],1,l,r,0⟩from by rw[d.out,if_pos rfl]);clear d;have V:=f.out.cell 0 rfl;have X:=f.out.cell 1 rfl;have Y:=f.out.cell 2 rfl;have Z:=f.out.cell 3 rfl;have O:=a.out.cell 0 rfl;have f0:=a.out.fr 0;have P:=a.out.cell 1 rfl;have f1:=a.out.fr 1;have Q:=a.out.cell 2 rfl;have f2:=a.out.fr 2;have R:=a.out.cell 3 rfl;have f3:=a.out.fr 3;have S:=a.out.cell 4 rfl;have f4:=a.out.fr 4;have T:=a.out.cell 5 rfl;have f5:=a.out.fr 5;have U:=a.out.cell 6 rfl;have f6:=a.out.fr 6;go_wp2;refine bodyPost_ret (v:= .tuple #[.agg #[al,al,al,.int .i64 1,l,r,ah],ah]) (by simp[results,results29,go_sem,O,P,Q,R,S,T,U]) rfl ⟨_,rfl,?_,?_⟩
   · rw[B.out];exact⟨_,_,_,rfl,qj _,fu _,⟨none,0,rfl,ax,Nat.zero_le _,fun i h=>absurd h (by simp)⟩⟩
   · exact(ei (b:=w.heap.size) z ax)
 · have hz:(F==0)=false:=by simpa using J
   have u9:(F !=0)=true:=by simpa using J
   have B:=hid (show jS l r=jy from by rw[d.out,if_neg J]);clear d;clear J;have O:=a.out.cell 0 rfl;have f0:=a.out.fr 0;have P:=a.out.cell 1 rfl;have f1:=a.out.fr 1;have Q:=a.out.cell 2 rfl;have f2:=a.out.fr 2;have R:=a.out.cell 3 rfl;have f3:=a.out.fr 3;have S:=a.out.cell 4 rfl;have f4:=a.out.fr 4;have T:=a.out.cell 5 rfl;have f5:=a.out.fr 5;have U:=a.out.cell 6 rfl;have f6:=a.out.fr 6;go_wp2;refine bodyPost_ret (v:= .tuple #[.agg  cy ,.int .i64 F]) (by simp[results,results29,go_sem,O,P,Q,R,S,T,U]) rfl ⟨_,rfl,?_,?_⟩
   · rw[B.out];exact qR _
   · exact(ei (b:=w.heap.size) z ax)
def gA (H:Hb) (x:ByteArray):Int:=if¬ae H=0 then ae H else if bJ H.gs x=true then 0 else 5
def jz (H:Hb) (x:ByteArray):List En:=if gA H x=0 then Jn.tree (dB H (aV H.fos H.gs x))else[]
theorem BR (H:Hb) (v:Value) (x:ByteArray) (w:World) (Z:aX w v H) (hs:dd H) (hx:x.size≤150000000000000):
    Calls prog 30 #[v,x] w fun e w'=> ∃u,e= .returned (.tuple #[u,gA H x])∧aF w' u (jz H x)∧Below w.heap.size w w':=by
 have HV:=hid Z;have HS:=hid hs;have R:=hid hx;obtain⟨fa,fc,ga,gc,sa,sc,rfl⟩:=Z.shape
 clear Z hs hx;obtain⟨wz,E⟩: ∃wz,wz=w.alloc (.cells #[.slice fa H.fos.length fc,.slice ga H.gs.length gc,.slice sa H.ss.length sc,H.nx,H.la,H.ro,H.now] 28):=⟨_,rfl⟩
 have I:Below w.heap.size w wz:=by rw[E];exact ak
 go_enter func30,ntmps30
 go_wp2_with fail;rw[←E];clear E;refine(qF H _ _ (HV.out.below I) HS.out).mono ?_
 rintro e w1 ⟨p,rfl,j,f,U⟩;have d:=an I U;by_cases a: ¬(ae H=0)
 · have hz:(ae H==0)=false:=by simpa using a
   have E5:(ae H !=0)=true:=by simpa using a
   have A:=hid (show gA H x=ae H∧jz H x=[]from by
    have e:gA H x=ae H:=by rw[gA,if_pos a]
    exact⟨e,by rw[jz,e,if_neg a]⟩)
   clear a j f;generalize ae H=r at*;go_wp2_with fail;go_ret2;exact⟨_,by rw[A.out.1];rfl,by rw[A.out.2];exact qQ _,d⟩
 replace a:=Decidable.not_not.1 a;obtain⟨rfl,B,vf,vg,vs,E1,E2,M,O⟩:=j a
 have H0:=hid a;have E0:=hid M;have HM:=hid O;obtain⟨T,g,_⟩:=M
 have HC:=hid T;have u9:=hid g.lies;obtain⟨af,cf,rfl,_,_,C⟩:=g.lies
 have K:=O.look2 x R.out;have p7:=HC.out.cell 7 rfl;have p0:=HC.out.cell 0 rfl;rw[a];cases c:bJ H.gs x with
 |false=>
  have A:=hid (show gA H x=5∧jz H x=[]from by
   have e:gA H x=5:=by rw[gA,if_neg (fun y=>y a),if_neg (by rw[c];decide)]
   exact⟨e,by rw[jz,e,if_neg (by decide)]⟩)
  rw[c]at K;clear a j f c T g C O;go_wp2_with fail;go_ret2;exact⟨_,by rw[A.out.1];rfl,by rw[A.out.2];exact qQ _,d⟩
 |true=>
  have J:aV H.fos H.gs x<H.fos.length:=(lu a c).elim (fun h _=>h);have S:gA H x=0:=by rw[gA,if_neg (fun y=>y a),if_pos c]
  have A:Hid (gA H x=0):=S;obtain⟨i,z⟩: ∃i,i=aV H.fos H.gs x:=⟨_,rfl⟩
  have N:i<H.fos.length:=by rw[z];exact J
  have Q:=hid (show jz H x=Jn.tree (H.fos[i].jo)from by rw[jz,if_pos S,←z,lw N]);have P:Hid (aT (H.fos[i].jo)=0):=(qE (ff a).2.1 (List.getElem_mem N)).2;have F:=hid (HS.out.fos _ (List.getElem_mem N)).2;obtain⟨b,o,rfl,E3,he⟩:=C i N
  rw[c,←z]at K;have E4:(i:Int)<H.fos.length:=by omega
  clear a j f c T g C O z S J;obtain⟨c0,u,y,c1,c2,c3,Y,hy⟩:=he
  generalize H.fos[i]=s at*;obtain⟨na,⟨jb,jf,jc⟩⟩:=s
  simp only at c0 c1 c2 c3 Y hy;have HU:=hid Y;have HY:=hid hy;obtain⟨ua,uc,rfl,_⟩:=Y
  obtain⟨ya,yc,rfl,_⟩:=hy
  go_wp2_with fail;refine(AL ⟨jb,jf,jc⟩ _ _ ⟨_,_,rfl,HU.out,HY.out⟩ F.out.1 F.out.2).mono ?_
  rintro e w2 ⟨r,rfl,X,_,V⟩;rw[P.out]at X⊢;have HL:=hid X;clear X;have G:=an d V;obtain⟨ra,rc,rfl,_⟩:=id HL.out
  go_wp2_with fail;go_ret2;exact⟨_,by rw[A.out];rfl,by rw[Q.out];exact HL.out,G⟩
theorem aZ.of_row {w w':World} {v:Value} {g:Nat} (h:w.grownBy w' v.ownBlock):aZ w w' g (bo v g):=
 ⟨h.os,h.tape,h.output,h.size,fun k c _ a=>h.block k c (fun e=>a (by rw[bo,←e];rfl))⟩
theorem BS (H:Hb) (q:Rq) (vq vf vg vs:Value) (B g Z:Nat) (w:World) (EQ:Sv B w g Z vf vg vs H) (Fi:g<B) (Fg:B≤w.heap.size) (hs:eu H.gs) (hr:dQ H.fos=true) (h8:H.fos.length≤8) (hq:bH w vq q) (EP:cE q) (P:mB B vf H.fos (cj H.fos q.fo) q.fo):
    Calls prog 75 #[.pointer (some ⟨g,0,none⟩),vq] w fun z w'=>z= .returned (.int .i64 (Hu.mkE H q.fo q.who))∧bU w' g Z (eT H q.fo q.who)∧aZ w w' g (bo vf g):=by
 have F2:=hid hs;have E4:=hid EP;have HR:=hid hr;have F3:=hid EQ;have u9:=hid P;clear hs EP hr P;obtain⟨va,rfl,lq⟩:=hq
 have Ff:=hid lq;obtain⟨qa,qc,rfl,_⟩:=lq
 obtain⟨kind,who,fo,name,key,text,num,off,base,ch⟩:=q
 simp only at*;obtain⟨R,M⟩: ∃R,R=w.alloc (.cells #[kind,who,fo,name,key,text,num,off,base,.slice qa ch.length qc] 31):=⟨_,rfl⟩
 have s:Below w.heap.size w R:=by rw[M];exact ak
 have I:Hid (Cs R w.heap.size [kind,who,fo,name,key,text,num,off,base,.slice qa ch.length qc]):=(by rw[M];exact Cs.new w [kind,who,fo,name,key,text,num,off,base,.slice qa ch.length qc] _:Cs R w.heap.size _)
 obtain⟨fos,gs,ss,nx,la,ro,now⟩:=H
 obtain⟨hC,V,⟨EJ,F4⟩,⟨EK,E9⟩,E7,EL⟩:=EQ
 simp only at*;have HC:=hid hC;have j:=hid V;have HG:=hid EJ;have HS:=hid EK;have Fe:=hid E9;have ER:=hid E7;have F0:=hid EL;clear EL;have U:=hid (show∀b,vf.ownBlock=some b→B≤b∧b<w.heap.size from fun b N=>by obtain⟨_,_,_,ho,_⟩:=j.out;exact⟨(ho b N).1,ho.lt b N⟩);obtain⟨fa,fc,rfl,_⟩:=V.lies
 obtain⟨ga,gc,rfl,_⟩:=EJ
 obtain⟨sa,sc,rfl,_⟩:=EK
 have F9:=hC.lt;have ET:=hid (HC.out.below s);have EX:=hid (HG.out.below s);have Fa:g<R.heap.size:=Nat.lt_of_lt_of_le F9 s.size;have EO:=I.out.lt;clear hC V F4 E9 E7 F3;have p1:=ET.out.cell 1 rfl;have x2:=I.out.cell 2 rfl;have x1:=I.out.cell 1 rfl;obtain⟨E,hE⟩: ∃E,E=eD gs fo who:=⟨_,rfl⟩
 obtain⟨L,hL⟩: ∃L,L=iu gs fo who:=⟨_,rfl⟩
 have HE:=hid hE;have HL:=hid hL;clear hE hL;go_enter func75,ntmps75
 go_upto_region 1 with fail;rw[←M];clear M
 go_region_held3 (fun W=>W.cell? ⟨g,1,none⟩=some (.slice ga gs.length gc)∧W.cell? ⟨w.heap.size,2,none⟩=some (.string fo)∧W.cell? ⟨w.heap.size,1,none⟩=some (.string who)) (go_keep) (first
  |(go_at_call 101;refine(Bz gs _ fo who _ (EX.out.below aw.drew) F2.out E4.out.fo E4.out.who).mono ?_;rw[←HE.out,←HL.out];rintro e wa ⟨u,rfl,⟨EN,EM⟩,F6⟩;have v:Below R.heap.size R wa:=( aw.drew).trans F6;have j0:=(v.cell (p:=⟨g,1,none⟩) Fa).trans p1;have j1:=(v.cell (p:=⟨w.heap.size,2,none⟩) EO).trans x2;have j2:=(v.cell (p:=⟨w.heap.size,1,none⟩) EO).trans x1))
 have EZ:=hid EN;have EV:=hid (show Fr w.heap.size u from EM.mono (by have:=s.size;simp;exact this));obtain⟨ua,uc,rfl,_⟩:=EN
 have a:=an s v;have T:=hid (HC.out.below a);have E3:=hid (I.out.below v);clear p1 x1 x2 j0 j1 j2 EM;by_cases O: ¬(E=0)
 · have hz:(E==0)=false:=by simpa using O
   have Fl:(E !=0)=true:=by simpa using O
   have A:=hid (show Hu.mkE ⟨fos,gs,ss,nx,la,ro,now⟩ fo who=E∧eT ⟨fos,gs,ss,nx,la,ro,now⟩ fo who=⟨fos,gs,ss,nx,la,ro,now⟩from by rw[HE.out];exact vv (H:=⟨fos,gs,ss,nx,la,ro,now⟩) (by rw[←HE.out];exact O));have o:=hid (show bU wa g Z ⟨fos,gs,ss,nx,la,ro,now⟩from⟨_,_,_,T.out,j.out.lies.below a,HG.out.below a,HS.out.below a⟩);clear O;go_wp2;go_ret;exact⟨by rw[A.out.1];rfl,by rw[A.out.2];exact o.out,aZ.of_below _ _ a⟩
 replace O:=Decidable.not_not.1 O;have E1:=hid (show eD gs fo who=0 from by rw[←HE.out];exact O);subst O;have p0:=T.out.cell 0 rfl;by_cases E5:8≤fos.length
 · have E6:8≤(fos.length:Int):=by omega
   have A:=hid (vw (H:=⟨fos,gs,ss,nx,la,ro,now⟩) E1.out E5);have o:=hid (show bU wa g Z ⟨fos,gs,ss,nx,la,ro,now⟩from⟨_,_,_,T.out,j.out.lies.below a,HG.out.below a,HS.out.below a⟩);go_wp2;go_ret;exact⟨by rw[A.out.1];rfl,by rw[A.out.2];exact o.out,aZ.of_below _ _ a⟩
 have E6: ¬8≤(fos.length:Int):=by omega
 have A:=hid (qP (H:=⟨fos,gs,ss,nx,la,ro,now⟩) E1.out E5);have y2:=E3.out.cell 2 rfl;go_wp2_with fail;refine(uJ fos _ fo g _ p0 (j.out.lies.below a) HR.out h8).mono ?_
 rintro e x ⟨rfl,X⟩;have c:=an a X;have C:=hid (HC.out.below c);have E2:=hid (E3.out.below X);have E0:=hid (EZ.out.below X);obtain⟨p,hp⟩: ∃p,p=cj fos fo:=⟨_,rfl⟩
 have Fj:p≤fos.length:=by rw[hp];exact List.findIdx_le_length
 have HP:=hid hp;rw[←hp];generalize cl fos fo=ib;clear p0 y2 hp;have p0:=C.out.cell 0 rfl;have f0:=C.out.fr 0;have y2:=E2.out.cell 2 rfl;have Fh:=C.out.lt;have Fk:=E2.out.lt;have n1: ¬g=x.heap.size:=by omega
 have n2: ¬w.heap.size=x.heap.size:=by omega
 have Fc:=c.size;have d:Below x.heap.size x (x.alloc (.cells #[fo,al,.int .i64 1,al] 59)).drew:= ak.drew
 have EY:=hid (show∀W,Below x.heap.size x W→Cs W x.heap.size [fo,al,.int .i64 1,al]→Calls prog 102 #[.slice fa fos.length fc,.int .i64 p,.slice (some ⟨x.heap.size,0,none⟩) 1 1] W fun e w'=> ∃u,e= .returned u∧cR w' u (fos.take p++⟨fo,⟨[],1,[]⟩⟩::fos.drop p)∧W.grownBy w' (Value.slice fa fos.length fc).ownBlock from fun W hW hc=>by
  rw[HP.out];exact u9.out W x.heap.size (j.out.below (an c hW)) (F0.out.below (an c hW)) hc (fun b N=>by have:=(U.out b N).2;omega))
 rw[←HP.out]at A;have Fb:=hid (show(fos.take p++(⟨fo,⟨[],1,[]⟩⟩:Sh)::fos.drop p).length=fos.length+1 from by simp;omega);generalize fos.take p++(⟨fo,⟨[],1,[]⟩⟩:Sh)::fos.drop p=F at*;go_wp2_with fail
 go_region_with (
  go_at_call 102;refine(EY.out _ d ((Cs.new x [fo,al,.int .i64 1,al] _).below ( aw.drew))).mono ?_;rintro e w5 ⟨u5,rfl,E8,J⟩;have EU:=hid E8;obtain⟨a5,c5,rfl,_⟩:=E8;have G:=hid ((C.out.below d).orow J (fun e=>by have:=(U.out g e).1;omega));have s0:=G.out.cell 0 rfl;have t0:=G.out.fr 0)
 all_goals
  have EW:=hid ((E0.out.below d).row J (fun b N e=>by have:=(U.out b e).2;have:=EV.out b N;omega));have F1:=hid (((HS.out.below c).below d).row J (fun b N e=>by have:=((ER.out b e).2) b N;omega));obtain⟨w6,K⟩: ∃w6,w6=w5.setCell ⟨g,0,none⟩ (.slice a5 F.length c5):=⟨_,rfl⟩
  have F7:w5.grownBy w6 (some g):=by rw[K];exact aj _ _ _ _
  have S:Hid (Cs w6 g [.slice a5 F.length c5,.slice ga gs.length gc,.slice sa ss.length sc,nx,la,ro,now,.map (some Z)]):=(by rw[K];exact G.out.set 0 _:Cs w6 g _)
  have i:=hid (qN G.out);obtain⟨Q,Y⟩: ∃Q,Q=w6.setCell ⟨g,1,none⟩ (.slice ua L.length uc):=⟨_,rfl⟩
  have F8:w6.grownBy Q (some g):=by rw[Y];exact aj _ _ _ _
  have ES:Hid (Cs Q g [.slice a5 F.length c5,.slice ua L.length uc,.slice sa ss.length sc,nx,la,ro,now,.map (some Z)]):=(by rw[Y];exact S.out.set 1 _:Cs Q g _)
  have f:w5.grownBy Q (some g):=Nb.trans F7 F8;have o:=hid (show bU Q g Z ⟨F,L,ss,nx,la,ro,now⟩from⟨_,_,_,ES.out,EU.out.nb f i.out,EW.out.nb f i.out,F1.out.nb f i.out⟩);have F5:aZ w Q g (bo (.slice fa fos.length fc) g):=((aZ.of_below _ _ (an c d)).trans (aZ.of_row J)).trans (aZ.of_left _ f);have q1:=S.out.cell 1 rfl;have t1:=S.out.fr 1;rw[K]at q1 t1;go_wp2_with fail;rw[←K,←Y];go_ret;exact⟨by rw[A.out.1];rfl,by rw[A.out.2,←HL.out];exact o.out,F5⟩
theorem BT (H:Hb) (q:Rq) (v vq:Value) (w:World) (hv:aX w v H) (hs:dd H) (hq:bH w vq q) (h0: ¬ae H=0):
    Calls prog 4 #[v,vq] w fun e w'=> ∃u a,e= .returned (.tuple #[u,a,ae H])∧aX w' u jy∧bX w' a nS∧Below w.heap.size w w':=by
 obtain⟨r,F⟩: ∃r,r=ae H:=⟨_,rfl⟩
 rw[←F]at h0⊢;have E0:=hid F;have H0:=hid h0;clear h0 F;have HV:=hid hv;have HS:=hid hs;obtain⟨N,O,P,Q,X,Y,rfl⟩:=hv.shape
 obtain⟨va,rfl,lq⟩:=hq
 have E3:=hid lq;obtain⟨U,V,rfl,_⟩:=lq
 obtain⟨kind,who,fo,name,key,text,num,off,base,ch⟩:=q
 simp only at*;obtain⟨z,j⟩: ∃z,z=w.alloc (.cells #[.slice N H.fos.length O,.slice P H.gs.length Q,.slice X H.ss.length Y,H.nx,H.la,H.ro,H.now] 28):=⟨_,rfl⟩
 obtain⟨A,o⟩: ∃A,A=z.alloc (.cells #[kind,who,fo,name,key,text,num,off,base,.slice U ch.length V] 31):=⟨_,rfl⟩
 obtain⟨wc,hwc⟩: ∃wc,wc=A.alloc (.cells  cy  28):=⟨_,rfl⟩
 obtain⟨f,x⟩: ∃f,f=wc.alloc (.cells  bC  38):=⟨_,rfl⟩
 have G:z.heap.size=w.heap.size+1:=by rw[j];simp
 have I:A.heap.size=w.heap.size+1+1:=by rw[o];simp[G]
 have Z:wc.heap.size=w.heap.size+1+1+1:=by rw[hwc];simp[I]
 have M:Below w.heap.size w z:=by rw[j];exact ak
 have E:Below z.heap.size z A:=by rw[o];exact ak
 have s:Below A.heap.size A wc:=by rw[hwc];exact ak
 have g:Below wc.heap.size wc f:=by rw[x];exact ak
 have T:Below w.heap.size w f:=an M (an E (an s g));have C:Hid (Cs f w.heap.size [.slice N H.fos.length O,.slice P H.gs.length Q,.slice X H.ss.length Y,H.nx,H.la,H.ro,H.now]):=((((by rw[j];exact Cs.new w [.slice N H.fos.length O,.slice P H.gs.length Q,.slice X H.ss.length Y,H.nx,H.la,H.ro,H.now] _:Cs z w.heap.size [.slice N H.fos.length O,.slice P H.gs.length Q,.slice X H.ss.length Y,H.nx,H.la,H.ro,H.now]).below E).below s).below g:Cs f w.heap.size _)
 have u9:Hid (Cs f (w.heap.size+1) [kind,who,fo,name,key,text,num,off,base,.slice U ch.length V]):=(((by rw[←G,o];exact Cs.new z [kind,who,fo,name,key,text,num,off,base,.slice U ch.length V] _:Cs A (w.heap.size+1) [kind,who,fo,name,key,text,num,off,base,.slice U ch.length V]).below s).below g:Cs f (w.heap.size+1) _)
 have E1:=hid (show Cs f (w.heap.size+1+1)  cy from(by rw[←I,hwc];exact Cs.new A  cy  _:Cs wc (w.heap.size+1+1)  cy ).below g);have J:=hid (show Cs f (w.heap.size+1+1+1)  bC from by rw[←Z,x];exact Cs.new wc  bC  _);have B:(((w.alloc (.cells #[.slice N H.fos.length O,.slice P H.gs.length Q,.slice X H.ss.length Y,H.nx,H.la,H.ro,H.now] 28)).alloc (.cells #[kind,who,fo,name,key,text,num,off,base,.slice U ch.length V] 31)).alloc (.cells  cy  28)).alloc (.cells  bC  38)=f:=by rw[x,hwc,o,j]
 have K:=hid B;have E6:w.heap.size+1+1+1<f.heap.size:=J.out.lt;clear j o hwc x M E s g G I Z B hv hs;have x0:=C.out.cell 0 rfl;have x1:=C.out.cell 1 rfl;have x2:=C.out.cell 2 rfl;have x3:=C.out.cell 3 rfl;have x4:=C.out.cell 4 rfl;have x5:=C.out.cell 5 rfl;have x6:=C.out.cell 6 rfl;go_enter func4,ntmps4
 go_upto_region 1 with fail;rw[K.out];clear K;go_wp2_with fail;refine(qF H _ _ (HV.out.below T) HS.out).mono ?_
 rintro e w1 ⟨p,rfl,E2,S,i⟩;clear x0 x1 x2 x3 x4 x5 x6;have R:=an T i;have E4:=hid (u9.out.below i);have d:=hid (E1.out.below i);have c:=hid (J.out.below i);have E5:=i.size;rw[←E0.out];have hz:(r==0)=false:=by simpa using H0.out
 have E7:(r !=0)=true:=by simpa using H0.out
 clear E2 S;have p0:=d.out.cell 0 rfl;have f0:=d.out.fr 0;have p1:=d.out.cell 1 rfl;have f1:=d.out.fr 1;have p2:=d.out.cell 2 rfl;have f2:=d.out.fr 2;have p3:=d.out.cell 3 rfl;have f3:=d.out.fr 3;have p4:=d.out.cell 4 rfl;have f4:=d.out.fr 4;have p5:=d.out.cell 5 rfl;have f5:=d.out.fr 5;have p6:=d.out.cell 6 rfl;have f6:=d.out.fr 6;have y0:=c.out.cell 0 rfl;have g0:=c.out.fr 0;have y1:=c.out.cell 1 rfl;have g1:=c.out.fr 1;have y2:=c.out.cell 2 rfl;have g2:=c.out.fr 2;have y3:=c.out.cell 3 rfl;have g3:=c.out.fr 3;have y4:=c.out.cell 4 rfl;have g4:=c.out.fr 4;have y5:=c.out.cell 5 rfl;have g5:=c.out.fr 5;have y6:=c.out.cell 6 rfl;have g6:=c.out.fr 6;go_wp2;refine bodyPost_ret (v:= .tuple #[.agg  cy ,.agg  bC ,.int .i64 r]) (by simp[results,results4,go_sem,p0,p1,p2,p3,p4,p5,p6,y0,y1,y2,y3,y4,y5,y6]) rfl ⟨_,_,rfl,qR _,iy _ _ _,?_⟩
 exact(ei (b:=w.heap.size+1+1+1) (ei (b:=w.heap.size+1+1) R (by show _≤w.heap.size+1+1;omega)) (by show _≤w.heap.size+1+1+1;omega))
theorem jA (H c:Hb) (A:An) (q:Rq) (v vq:Value) (w:World) (hv:aX w v H) (hs:dd H) (hq:bH w vq q) (h0:ae H=0)
    (S: ∀(B:Nat) (W:World) (g mb:Nat) (vf vg vs vq:Value),Sv B W g mb vf vg vs H→dZ W mb H.gs.length H→g<B→B≤W.heap.size→bH W vq q→kA W g mb vf vq A c):
    Calls prog 4 #[v,vq] w fun e w'=> ∃u a,e= .returned (.tuple #[u,a,ah])∧aX w' u c∧bX w' a A∧Below w.heap.size w w':=by
 have H0:=hid h0;have ES:=hid S;clear h0 S;have HV:=hid hv;have HS:=hid hs;obtain⟨fa,fc,ga,gc,sa,sc,rfl⟩:=hv.shape
 obtain⟨va,rfl,lq⟩:=hq
 have EV:=hid lq;obtain⟨qa,qc,rfl,_⟩:=lq
 obtain⟨kind,who,fo,name,key,text,num,off,base,ch⟩:=q
 simp only at*;obtain⟨Q,G⟩: ∃Q,Q=w.alloc (.cells #[.slice fa H.fos.length fc,.slice ga H.gs.length gc,.slice sa H.ss.length sc,H.nx,H.la,H.ro,H.now] 28):=⟨_,rfl⟩
 obtain⟨R,I⟩: ∃R,R=Q.alloc (.cells #[kind,who,fo,name,key,text,num,off,base,.slice qa ch.length qc] 31):=⟨_,rfl⟩
 obtain⟨wc,hwc⟩: ∃wc,wc=R.alloc (.cells  cy  28):=⟨_,rfl⟩
 obtain⟨i,O⟩: ∃i,i=wc.alloc (.cells  bC  38):=⟨_,rfl⟩
 have E0:Q.heap.size=w.heap.size+1:=by rw[G];simp
 have E1:R.heap.size=w.heap.size+1+1:=by rw[I];simp[E0]
 have EP:wc.heap.size=w.heap.size+1+1+1:=by rw[hwc];simp[E1]
 have E8:Below w.heap.size w Q:=by rw[G];exact ak
 have Y:Below Q.heap.size Q R:=by rw[I];exact ak
 have K:Below R.heap.size R wc:=by rw[hwc];exact ak
 have C:Below wc.heap.size wc i:=by rw[O];exact ak
 have u9:Below w.heap.size w i:=an E8 (an Y (an K C));have X:Hid (Cs i w.heap.size [.slice fa H.fos.length fc,.slice ga H.gs.length gc,.slice sa H.ss.length sc,H.nx,H.la,H.ro,H.now]):=((((by rw[G];exact Cs.new w [.slice fa H.fos.length fc,.slice ga H.gs.length gc,.slice sa H.ss.length sc,H.nx,H.la,H.ro,H.now] _:Cs Q w.heap.size [.slice fa H.fos.length fc,.slice ga H.gs.length gc,.slice sa H.ss.length sc,H.nx,H.la,H.ro,H.now]).below Y).below K).below C:Cs i w.heap.size _)
 have EW:Hid (Cs i (w.heap.size+1) [kind,who,fo,name,key,text,num,off,base,.slice qa ch.length qc]):=(((by rw[←E0,I];exact Cs.new Q [kind,who,fo,name,key,text,num,off,base,.slice qa ch.length qc] _:Cs R (w.heap.size+1) [kind,who,fo,name,key,text,num,off,base,.slice qa ch.length qc]).below K).below C:Cs i (w.heap.size+1) _)
 have EZ:=hid (show Cs i (w.heap.size+1+1)  cy from(by rw[←E1,hwc];exact Cs.new R  cy  _:Cs wc (w.heap.size+1+1)  cy ).below C);have E2:=hid (show Cs i (w.heap.size+1+1+1)  bC from by rw[←EP,O];exact Cs.new wc  bC  _);have V:(((w.alloc (.cells #[.slice fa H.fos.length fc,.slice ga H.gs.length gc,.slice sa H.ss.length sc,H.nx,H.la,H.ro,H.now] 28)).alloc (.cells #[kind,who,fo,name,key,text,num,off,base,.slice qa ch.length qc] 31)).alloc (.cells  cy  28)).alloc (.cells  bC  38)=i:=by rw[O,hwc,I,G]
 have E7:=hid V;have Fb:w.heap.size+1+1+1<i.heap.size:=E2.out.lt;clear G I hwc O E8 Y K C E0 E1 EP V hv hs;have x0:=X.out.cell 0 rfl;have x1:=X.out.cell 1 rfl;have x2:=X.out.cell 2 rfl;have x3:=X.out.cell 3 rfl;have x4:=X.out.cell 4 rfl;have x5:=X.out.cell 5 rfl;have x6:=X.out.cell 6 rfl;go_enter func4,ntmps4
 go_upto_region 1 with fail;rw[E7.out];clear E7;go_wp2_with fail;refine(qF H _ _ (HV.out.below u9) HS.out).mono ?_
 rintro e w1 ⟨p,rfl,EO,EN,E⟩;clear x0 x1 x2 x3 x4 x5 x6;have T:=an u9 E;have j:=hid (EW.out.below E);have EX:=hid (EZ.out.below E);have EQ:=hid (E2.out.below E);have F4:=E.size;obtain⟨rfl,B,vf,vg,vs,F7,F2,M,hm⟩:=EO H0.out
 have F0:=hid M;have HM:=hid hm;have F1:=hid (show∀b,vf.ownBlock=some b→B≤b∧b<w1.heap.size from fun b hb=>by obtain⟨_,_,_,ho,_⟩:=M.2.1;exact⟨(ho b hb).1,ho.lt b hb⟩);have ET:Hid (i.heap.size+1+1<w1.heap.size):=M.1.lt;rw[H0.out];clear EO EN M hm;have x0:=j.out.cell 0 rfl;have x1:=j.out.cell 1 rfl;have x2:=j.out.cell 2 rfl;have x3:=j.out.cell 3 rfl;have x4:=j.out.cell 4 rfl;have x5:=j.out.cell 5 rfl;have x6:=j.out.cell 6 rfl;have x7:=j.out.cell 7 rfl;have x8:=j.out.cell 8 rfl;have x9:=j.out.cell 9 rfl;go_wp2_with fail;refine(ES.out B w1 (i.heap.size+1+1) (i.heap.size+1) vf vg vs _ F0.out HM.out (by omega) F2 ⟨_,rfl,EV.out.below T⟩).mono ?_
 rintro z J ⟨u3,rfl,Z,U,F⟩;have F8:=ET.out
 have F3:i.heap.size≤bo vf (i.heap.size+1+1):=by
  rw[bo];cases hb:vf.ownBlock with
  |none=>show i.heap.size≤i.heap.size+1+1;omega
  |some b=>show i.heap.size≤b;have:=(F1.out b hb).1;omega
 have EY:=hid (EX.out.nb2 F (by omega) (by omega));have ER:=hid (EQ.out.nb2 F (by omega) (by omega));have EM:Below i.heap.size w1 J:=F.to F4 (by omega) F3;have EK:Below w.heap.size w J:=T.trans (EM.mono (by have:=u9.size;omega));have E3:=hid Z;have E5:=hid U;have F9:=F.size;obtain⟨ta,tc,ca,cc,rfl⟩:=Z.shape
 clear Z U F x0 x1 x2 x3 x4 x5 x6 x7 x8 x9;obtain⟨P,N⟩: ∃P,P=J.alloc (.cells #[A.err,A.num,A.pg.reset,.slice ta A.pg.tree.length tc,.slice ca A.pg.cos.length cc,A.pg.cur,A.pg.more] 38):=⟨_,rfl⟩
 have x:Below J.heap.size J P:=by rw[N];exact ak
 have o:Hid (Cs P J.heap.size [A.err,A.num,A.pg.reset,.slice ta A.pg.tree.length tc,.slice ca A.pg.cos.length cc,A.pg.cur,A.pg.more]):=(by rw[N];exact Cs.new J [A.err,A.num,A.pg.reset,.slice ta A.pg.tree.length tc,.slice ca A.pg.cos.length cc,A.pg.cur,A.pg.more] _:Cs P J.heap.size _)
 have f:=hid (EY.out.below x);have d:=hid (ER.out.below x);have E4:=hid (E3.out.below x);have E6:=hid (E5.out.below x);have EL:=an EK x;obtain⟨fb,fd,gb,gd,sb,sd,E9,EJ⟩:=E6.out.hub
 have EU:=hid EJ;have s:=hid E9;have Fa:=x.size;clear EJ E9;go_upto_region 5 with fail;try simp only[World.setCell_alloc_new]
 rw[←N];clear N;have F6:=s.out.lt;have F5:=o.out.lt;have p0:=s.out.cell 0 rfl;have p1:=s.out.cell 1 rfl;have p2:=s.out.cell 2 rfl;have p3:=s.out.cell 3 rfl;have p4:=s.out.cell 4 rfl;have p5:=s.out.cell 5 rfl;have p6:=s.out.cell 6 rfl;have q0:=o.out.cell 0 rfl;have q1:=o.out.cell 1 rfl;have q2:=o.out.cell 2 rfl;have q3:=o.out.cell 3 rfl;have q4:=o.out.cell 4 rfl;have q5:=o.out.cell 5 rfl;have q6:=o.out.cell 6 rfl;have y0:=f.out.cell 0 rfl;have f0:=f.out.fr 0;have y1:=f.out.cell 1 rfl;have f1:=f.out.fr 1;have y2:=f.out.cell 2 rfl;have f2:=f.out.fr 2;have y3:=f.out.cell 3 rfl;have f3:=f.out.fr 3;have y4:=f.out.cell 4 rfl;have f4:=f.out.fr 4;have y5:=f.out.cell 5 rfl;have f5:=f.out.fr 5;have y6:=f.out.cell 6 rfl;have f6:=f.out.fr 6;have z0:=d.out.cell 0 rfl;have h0:=d.out.fr 0;have z1:=d.out.cell 1 rfl;have h1:=d.out.fr 1;have z2:=d.out.cell 2 rfl;have h2:=d.out.fr 2;have z3:=d.out.cell 3 rfl;have h3:=d.out.fr 3;have z4:=d.out.cell 4 rfl;have h4:=d.out.fr 4;have z5:=d.out.cell 5 rfl;have h5:=d.out.fr 5;have z6:=d.out.cell 6 rfl;have h6:=d.out.fr 6;have n1: ¬i.heap.size+1+1=w.heap.size+1+1:=by omega
 have n2: ¬i.heap.size+1+1=w.heap.size+1+1+1:=by omega
 have n3: ¬J.heap.size=w.heap.size+1+1:=by omega
 have n4: ¬J.heap.size=w.heap.size+1+1+1:=by omega
 have n5: ¬w.heap.size+1+1=w.heap.size+1+1+1:=by omega
 have n6: ¬w.heap.size+1+1+1=w.heap.size+1+1:=by omega
 go_region
 all_goals
  go_wp2;refine bodyPost_ret (v:= .tuple #[.agg #[.slice fb c.fos.length fd,.slice gb c.gs.length gd,.slice sb c.ss.length sd,c.nx,c.la,c.ro,c.now],.agg #[A.err,A.num,A.pg.reset,.slice ta A.pg.tree.length tc,.slice ca A.pg.cos.length cc,A.pg.cur,A.pg.more],ah]) (by simp[results,results4,go_sem,y0,y1,y2,y3,y4,y5,y6,z0,z1,z2,z3,z4,z5,z6]) rfl ⟨_,_,rfl,?_,?_,?_⟩
  · exact((EU.out.nb (ar (ar (ar (ar (ar (ar (aj P (w.heap.size+1+1) 0 (.slice fb c.fos.length fd)) (aj _ (w.heap.size+1+1) 1 (.slice gb c.gs.length gd))) (aj _ (w.heap.size+1+1) 2 (.slice sb c.ss.length sd))) (aj _ (w.heap.size+1+1) 3 c.nx)) (aj _ (w.heap.size+1+1) 4 c.la)) (aj _ (w.heap.size+1+1) 5 c.ro)) (aj _ (w.heap.size+1+1) 6 c.now)) (nT f.out)).nb (ar (ar (ar (ar (ar (ar (aj _ (w.heap.size+1+1+1) 0 A.err) (aj _ (w.heap.size+1+1+1) 1 A.num)) (aj _ (w.heap.size+1+1+1) 2 A.pg.reset)) (aj _ (w.heap.size+1+1+1) 3 (.slice ta A.pg.tree.length tc))) (aj _ (w.heap.size+1+1+1) 4 (.slice ca A.pg.cos.length cc))) (aj _ (w.heap.size+1+1+1) 5 A.pg.cur)) (aj _ (w.heap.size+1+1+1) 6 A.pg.more)) (iz (d.out.nb (ar (ar (ar (ar (ar (ar (aj P (w.heap.size+1+1) 0 (.slice fb c.fos.length fd)) (aj _ (w.heap.size+1+1) 1 (.slice gb c.gs.length gd))) (aj _ (w.heap.size+1+1) 2 (.slice sb c.ss.length sd))) (aj _ (w.heap.size+1+1) 3 c.nx)) (aj _ (w.heap.size+1+1) 4 c.la)) (aj _ (w.heap.size+1+1) 5 c.ro)) (aj _ (w.heap.size+1+1) 6 c.now)) (by omega)))).below ( aw.drew)
  · exact((E4.out.nb (ar (ar (ar (ar (ar (ar (aj P (w.heap.size+1+1) 0 (.slice fb c.fos.length fd)) (aj _ (w.heap.size+1+1) 1 (.slice gb c.gs.length gd))) (aj _ (w.heap.size+1+1) 2 (.slice sb c.ss.length sd))) (aj _ (w.heap.size+1+1) 3 c.nx)) (aj _ (w.heap.size+1+1) 4 c.la)) (aj _ (w.heap.size+1+1) 5 c.ro)) (aj _ (w.heap.size+1+1) 6 c.now)) (nT f.out)).nb (ar (ar (ar (ar (ar (ar (aj _ (w.heap.size+1+1+1) 0 A.err) (aj _ (w.heap.size+1+1+1) 1 A.num)) (aj _ (w.heap.size+1+1+1) 2 A.pg.reset)) (aj _ (w.heap.size+1+1+1) 3 (.slice ta A.pg.tree.length tc))) (aj _ (w.heap.size+1+1+1) 4 (.slice ca A.pg.cos.length cc))) (aj _ (w.heap.size+1+1+1) 5 A.pg.cur)) (aj _ (w.heap.size+1+1+1) 6 A.pg.more)) (iz (d.out.nb (ar (ar (ar (ar (ar (ar (aj P (w.heap.size+1+1) 0 (.slice fb c.fos.length fd)) (aj _ (w.heap.size+1+1) 1 (.slice gb c.gs.length gd))) (aj _ (w.heap.size+1+1) 2 (.slice sb c.ss.length sd))) (aj _ (w.heap.size+1+1) 3 c.nx)) (aj _ (w.heap.size+1+1) 4 c.la)) (aj _ (w.heap.size+1+1) 5 c.ro)) (aj _ (w.heap.size+1+1) 6 c.now)) (by omega)))).below ( aw.drew)
  · exact(ei (b:=w.heap.size+1+1+1) (ei (b:=w.heap.size+1+1) EL (by show _≤w.heap.size+1+1;omega)) (by show _≤w.heap.size+1+1+1;omega)).drew
def newC (na:ByteArray):List Value:=[.string na,.slice none 0 0,.int .i64 1,.slice none 0 0]
theorem fy (na:ByteArray):(newC na).length=4∧ ∀u∈newC na,u.oneCell'=true:=by
 refine⟨rfl,fun u a=>?_⟩
 simp only[newC,List.mem_cons,List.not_mem_nil,or_false]at a;rcases a with rfl|rfl|rfl|rfl<;>rfl
theorem mC {w:World} {v:Value} {l:List Sh} {us:List (Value×Value)} {na:ByteArray} {i:Nat} (g:lo w l us) (s:i≤l.length) (h:bp 4 w v ((aS l us).take i++newC na::(aS l us).drop i)):cR w v (l.take i++⟨na,⟨[],1,[]⟩⟩::l.drop i):=by
 obtain⟨o,g⟩:=g
 have e:(aS l us).take i++newC na::(aS l us).drop i=aS (l.take i++⟨na,⟨[],1,[]⟩⟩::l.drop i) (us.take i++(.slice none 0 0,.slice none 0 0)::us.drop i):=by
  rw[aS,aS,List.zipWith_append (by simp[o]),List.zipWith_cons_cons,List.take_zipWith,List.drop_zipWith];rfl
 rw[e]at h;refine nK ⟨by simp[o],fun k c u a f=>?_⟩ h
 rcases Nat.lt_trichotomy k i with j|j|j
 · rw[List.getElem?_append_left (by simp;omega),List.getElem?_take,if_pos j]at a f
   exact g k c u a f
 · subst j
   rw[List.getElem?_append_right (by simp;omega)]at a f;simp[List.length_take,Nat.min_eq_left s,Nat.min_eq_left (o▸s)]at a f
   subst a;subst f;exact⟨⟨none,0,rfl,ax,Nat.zero_le _,fun i h=>absurd h (by simp)⟩,kX _⟩
 · rw[List.getElem?_append_right (by simp;omega)]at a f
   rw[List.length_take,Nat.min_eq_left (by omega)]at a f;obtain⟨d,rfl⟩: ∃d,k=i+1+d:=⟨k-i-1,by omega⟩
   rw[show i+1+d-i=d+1 by omega,List.getElem?_cons_succ,List.getElem?_drop]at a f;exact g _ c u a f
theorem vx {W a:World} (h:W.grownBy a none):Below W.heap.size W a:=⟨h.os,h.tape,h.output,h.size,fun k c=>h.block k c (by simp)⟩
theorem nU {B:Nat} {W j:World} {v:Value} {l:List Sh} {us:List (Value×Value)} (s:lo W l us) (g: ∀(i:Nat) (c:Sh) (u:Value×Value),l[i]?=some c→us[i]?=some u→(bi B W u.1∧db B W u.2 c.jo.cos)∧ ∀b,v.ownBlock=some b→bi (b+1) W u.1∧db (b+1) W u.2 c.jo.cos) (a:W.grownBy j v.ownBlock):lo j l us:=by
 refine⟨s.1,fun i c u o z=>?_⟩
 have d:=s.2 i c u o z;cases f:v.ownBlock with
 |none=>rw[f]at a;exact⟨d.1.below (vx a),d.2.below (vx a)⟩
 |some b=>
  rw[f]at a;obtain⟨A,C⟩:=(g i c u o z).2 b f
  exact⟨d.1.nbo a (fun x g=>by have:=(A x g).1;omega),(C.nbo a (Nat.lt_succ_self _)).lies⟩
theorem vy (B:Nat) (v:Value) (L:List Sh) (na:ByteArray) (h8:L.length≤8):mB B v L L.length na:=by
 intro W vb hO U V hb;obtain⟨i0,K,M,N,O⟩:=info_parts Tryz.infoRF
 have Z:=hid V;have E1:=V.lt;obtain⟨d,E,F,ho,hx⟩:=hO
 have z:=eQ E.1;have x:=uE F U (ho.mono (Nat.zero_le B));have a:=hid z;have HJ:=hid E;have f:=hid x;have R:=hid hx;have A:=hid (show∀r∈aS L d,r.length=4∧ ∀u∈r,u.oneCell'=true from by obtain⟨_,_,_,_,_,T,_⟩:=F;exact T);have HB:=hid hb;obtain⟨fa,S,rfl,X,_⟩:=F
 rw[z]at x f X R HB
 have u9:S≤9223372036854775807∧(fa=none→S=0):=by
  rcases U with h|⟨g,n,E0,cur,h,_,_,T,_⟩
  · injection h with G e2 C;subst C;exact⟨by omega,fun _=>rfl⟩
  · injection h with G e2 C;subst C;unfold maxLen at T;exact⟨by omega,fun h=>by rw[G]at h;cases h⟩
 rw[z];clear V hb E hx ho U x z;by_cases hq:S=L.length
 · subst hq
   go_enter func102,ntmps102
   go_wp2_with (at_builtin;refine wpList_append_own _ rfl _ _ 22 rfl 0 59 i0 (.agg #[.string ⟨#[]⟩,al,ah,al]) 4 72 underlying22 K M N O rfl (by decide) _ _ _ rfl f.out ⟨vb,0,none⟩ 1 1 (newC na) rfl rfl ?qc2 (fy na).2 (by unfold maxLen;omega) (by omega) (Nat.zero_le _) ?_)
   case qc2=>
    intro j u E;rw[Addr.add_lit,Nat.zero_add];exact Z.out.cell j E
   intro P Q o c i;have H:=hid c
   have s:Q.ownsRow 0 59 4 P (aS L d++[newC na]).length (aS L d++[newC na]).flatten:=by
    have G:(aS L d++[newC na]).length=L.length+1:=by rw[List.length_append,a.out];rfl
    have e2:(aS L d++[newC na]).flatten=(aS L d).flatten++newC na:=by simp
    rw[G,e2];exact o
   have I:=hid (show cR Q P (L.take L.length++⟨na,⟨[],1,[]⟩⟩::L.drop L.length)from mC (nU HJ.out R.out H.out) ax (by
    have C:(aS L d).take L.length=aS L d:=List.take_of_length_le (by rw[a.out];exact ax);have e4:(aS L d).drop L.length=[]:=List.drop_eq_nil_of_le (by rw[a.out];exact ax);rw[C,e4]
    exact fJ s (by rw[List.length_append,a.out];simp;omega) (fun r F=>by
     rcases List.mem_append.1 F with h|h
     · exact A.out r h
     · rw[List.mem_singleton.1 h];exact fy na)))
   obtain⟨a2,J,Y,_⟩:=id I.out
   clear o s c i;go_wp2;go_ret;exact⟨_,rfl,I.out,H.out⟩
 · skip
   go_enter func102,ntmps102
   go_wp2_with (at_builtin;refine wpList_append_own _ rfl _ _ 22 rfl 0 59 i0 (.agg #[.string ⟨#[]⟩,al,ah,al]) 4 72 underlying22 K M N O rfl (by decide) _ _ _ rfl f.out ⟨vb,0,none⟩ 1 1 (newC na) rfl rfl ?qc2 (fy na).2 (by unfold maxLen;omega) (by omega) (Nat.zero_le _) ?_)
   case qc2=>
    intro j u E;rw[Addr.add_lit,Nat.zero_add];exact Z.out.cell j E
   intro P Q o c i;have H:=hid c
   have s:Q.ownsRow 0 59 4 P (aS L d++[newC na]).length (aS L d++[newC na]).flatten:=by
    have G:(aS L d++[newC na]).length=L.length+1:=by rw[List.length_append,a.out];rfl
    have e2:(aS L d++[newC na]).flatten=(aS L d).flatten++newC na:=by simp
    rw[G,e2];exact o
   have I:=hid (show cR Q P (L.take L.length++⟨na,⟨[],1,[]⟩⟩::L.drop L.length)from mC (nU HJ.out R.out H.out) ax (by
    have C:(aS L d).take L.length=aS L d:=List.take_of_length_le (by rw[a.out];exact ax);have e4:(aS L d).drop L.length=[]:=List.drop_eq_nil_of_le (by rw[a.out];exact ax);rw[C,e4]
    exact fJ s (by rw[List.length_append,a.out];simp;omega) (fun r F=>by
     rcases List.mem_append.1 F with h|h
     · exact A.out r h
     · rw[List.mem_singleton.1 h];exact fy na)))
   obtain⟨a2,J,Y,_⟩:=id I.out
   clear o s c i;go_wp2;go_ret;exact⟨_,rfl,I.out,H.out⟩
theorem BU {w:World} {g:Nat} {c:Int} {r m:Bool} {x y:Option Addr} {a b d f:Nat} (h:Cs w g [r,.slice x a b,.slice y d f,c,m]):di w g:=h.noStr (fun s i=>by simp at i)
theorem BV (H:Hb) (q:Rq) (vq vf vg vs:Value) (g mb n:Nat) (w:World) (B:Cs w g [vf,vg,vs,H.nx,H.la,H.ro,H.now,.map (some mb)]) (hf:cR w vf H.fos) (hm:dZ w mb n H) (hs:jN H.fos) (hq:bH w vq q) (Q:cE q) (X:aV H.fos H.gs q.fo<H.fos.length):
    Calls prog 41 #[.pointer (some ⟨g,0,none⟩),vq] w fun z w'=> ∃u,z= .returned (.tuple #[u,dN (dB H (aV H.fos H.gs q.fo)) q.num 10])∧d6 w' u (ev (dB H (aV H.fos H.gs q.fo)) q.num 10)∧Below w.heap.size w w':=by
 have HB:=hid B;have HF:=hid hf;have HM:=hid hm;have E1:=hid Q;have HI:=hid X;have x:=hid (show dk (dB H (aV H.fos H.gs q.fo)).base∧dm 150000000000000 (dB H (aV H.fos H.gs q.fo)).cos from by rw[lw X];exact(hs _ (List.getElem_mem X)).2);clear B hf hm hs Q X;obtain⟨va,rfl,lq⟩:=hq
 obtain⟨T,U,rfl,_⟩:=lq
 obtain⟨kind,who,fo,name,key,text,num,off,base,ch⟩:=q
 simp only at*;obtain⟨J,hJ⟩: ∃J,J=dB H (aV H.fos H.gs fo):=⟨_,rfl⟩
 have Z:=hid (show∀W,Below w.heap.size w W→Calls prog 74 #[.pointer (some ⟨g,0,none⟩),fo] W fun e w'=> ∃u,e= .returned u∧cV w' u J∧Below W.heap.size W w' from fun W hW=>by
  have h:=vo H _ _ _ g mb n fo W (HB.out.below hW) (HF.out.below hW) (HM.out.below hW) E1.out.fo HI.out;refine h.mono ?_
  rintro e w' ⟨u,rfl,hl,B⟩;exact⟨u,rfl,by rw[hJ,lw HI.out];exact hl,B⟩)
 rw[←hJ]at x⊢;clear hJ;obtain⟨E,hE⟩: ∃E,E=dN J num 10:=⟨_,rfl⟩
 obtain⟨P,hP⟩: ∃P,P=ev J num 10:=⟨_,rfl⟩
 have E0:=hid (show∀W v,cV W v J→Calls prog 73 #[v,num,.int .i64 10] W fun e w'=> ∃r,e= .returned (.tuple #[r,.int .i64 E])∧d6 w' r P∧Below W.heap.size W w' from fun W v hv=>by
  refine(Bs J v num 10 W hv x.out.1 x.out.2).mono ?_
  rintro e w' ⟨r,rfl,hp,B⟩;exact⟨r,by rw[hE],by rw[hP];exact hp.lies,B⟩)
 rw[←hE,←hP];clear hE hP;obtain⟨o,i⟩: ∃o,o=w.alloc (.cells #[kind,who,fo,name,key,text,num,off,base,.slice T ch.length U] 31):=⟨_,rfl⟩
 obtain⟨c,j⟩: ∃c,c=o.alloc (.cells #[false,al,al,ah,false] 36):=⟨_,rfl⟩
 have V:o.heap.size=w.heap.size+1:=by rw[i];simp
 have G:Below w.heap.size w o:=by rw[i];exact ak
 have A:Below o.heap.size o c:=by rw[j];exact ak
 have M:Below w.heap.size w c:=an G A;have a:Hid (Cs c w.heap.size [kind,who,fo,name,key,text,num,off,base,.slice T ch.length U]):=((by rw[i];exact Cs.new w [kind,who,fo,name,key,text,num,off,base,.slice T ch.length U] _:Cs o w.heap.size [kind,who,fo,name,key,text,num,off,base,.slice T ch.length U]).below A:Cs c w.heap.size _)
 have C:Hid (Cs c (w.heap.size+1) [false,al,al,ah,false]):=(by rw[←V,j];exact Cs.new o [false,al,al,ah,false] _:Cs c (w.heap.size+1) _)
 have s:(w.alloc (.cells #[kind,who,fo,name,key,text,num,off,base,.slice T ch.length U] 31)).alloc (.cells #[false,al,al,ah,false] 36)=c:=by rw[j,i]
 have F:=hid s;have x2:=a.out.cell 2 rfl;have x6:=a.out.cell 6 rfl;have E6:w.heap.size+1<c.heap.size:=C.out.lt;have N:Below c.heap.size c c.drew:= aw.drew;have O:=an M N;clear i j G A V s;go_enter func41,ntmps41
 go_upto_region 1 with fail;rw[F.out];clear F
 go_region_held3 (fun W=>W.cell? ⟨w.heap.size,2,none⟩=some (.string fo)∧W.cell? ⟨w.heap.size,6,none⟩=some (.int .i64 num)) (first|go_keep|(have hx:=(a.out.below hb45).nb (ar (ar (ar (ar (aj w5 (w.heap.size+1) 0 (.bool P.reset)) (aj _ (w.heap.size+1) 1 (.slice pta P.tree.length ptc))) (aj _ (w.heap.size+1) 2 (.slice pca P.cos.length pcc))) (aj _ (w.heap.size+1) 3 (.int .i64 P.cur))) (aj _ (w.heap.size+1) 4 (.bool P.more))) (by omega);exact⟨hx.cell 2 rfl,hx.cell 6 rfl⟩)) (first
  |(go_at_call 74;refine(Z.out _ O).mono ?_;rintro e w3 ⟨u3,rfl,I,E2⟩;have f:=an N E2;have Y:=hid I;obtain⟨E7,E8,rfl,E4,R⟩:=I;obtain⟨_,_,rfl,_⟩:=E4;obtain⟨_,_,rfl⟩:=eh R;clear R;have q2:=(a.out.below f).cell 2 rfl;have q6:=(a.out.below f).cell 6 rfl)
  |(go_at_call 73;refine(E0.out _ _ Y.out).mono ?_;rintro e w5 ⟨u5,rfl,K,E3⟩;have hb45:=an f E3;have u9:=hid K;obtain⟨EJ,E9,rfl,E5,S⟩:=K;obtain⟨pta,ptc,rfl,_⟩:=E5;obtain⟨pca,pcc,rfl⟩:=eh S;clear S;have d:=hid (C.out.below hb45);have r2:=(a.out.below hb45).cell 2 rfl;have r6:=(a.out.below hb45).cell 6 rfl;have y0:=d.out.cell 0 rfl;have y1:=d.out.cell 1 rfl;have y2:=d.out.cell 2 rfl;have y3:=d.out.cell 3 rfl;have y4:=d.out.cell 4 rfl;have f0:=d.out.fr 0;have f1:=d.out.fr 1;have f2:=d.out.fr 2;have f3:=d.out.fr 3;have f4:=d.out.fr 4))
 all_goals
  go_wp2;refine bodyPost_ret (v:= .tuple #[.agg #[.bool P.reset,.slice pta P.tree.length ptc,.slice pca P.cos.length pcc,.int .i64 P.cur,.bool P.more],.int .i64 E]) (by simp[results,results41,go_sem,y0,y1,y2,y3,y4]) rfl ⟨_,rfl,u9.out.nb (ar (ar (ar (ar (aj w5 (w.heap.size+1) 0 (.bool P.reset)) (aj _ (w.heap.size+1) 1 (.slice pta P.tree.length ptc))) (aj _ (w.heap.size+1) 2 (.slice pca P.cos.length pcc))) (aj _ (w.heap.size+1) 3 (.int .i64 P.cur))) (aj _ (w.heap.size+1) 4 (.bool P.more))) (BU d.out),?_⟩
  exact(ph (b:=w.heap.size+1) (an M hb45) (Nat.le_succ _))
end Go.Proofs.YtdlpjlfefjipkaaGreat
