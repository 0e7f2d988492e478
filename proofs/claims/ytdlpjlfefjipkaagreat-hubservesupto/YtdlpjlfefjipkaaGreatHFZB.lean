/- What grant.put and checkGive answer, for every list of grants that rises. -/
import Derived.Test.YtdlpjlfefjipkaaGreatHFZ
set_option linter.unusedSimpArgs false
set_option linter.unusedVariables false
namespace Go.Proofs.YtdlpjlfefjipkaaGreat
open Go.RowKit Go.ChangeShapes Go.WideShapes Go.ChangeAt Go.Proofs.Tryz
set_option maxHeartbeats 4000000
set_option maxRecDepth 100000
def cC (x:Gr) (G:List Gr):List Gr:=if x.ri=0 then bP x G else dY x (bP x G)
theorem uN {x:Gr} {G:List Gr} (h:x.ri=0):cC x G=bP x G:=if_pos h
theorem qw {x:Gr} {G:List Gr} (h: ¬x.ri=0):cC x G=dY x (bP x G):=if_neg h
theorem qx (x:Gr) (G:List Gr):(cC x G).length≤G.length+1:=by
 have a:(bP x G).length≤G.length:=List.length_filter_le _ _;rw[cC];split
 · omega
 · rw[(mv x _).length_eq];simp;omega
theorem jP {G:List Gr} (h:bh G=0):G.length≤60∧eP G=0∧eb G=true∧iq G=0:=by
 by_cases a:60<G.length
 · rw[pR a]at h;cases h
 · by_cases c:eP G=0
   · cases d:eb G with
     |false=>rw[pT a c d]at h;cases h
     |true=>rw[pU a c d]at h;exact⟨by omega,c,rfl,h⟩
   · rw[pS a c]at h;exact absurd h c
theorem uO {a b:ByteArray} (c:(a.toList==b.toList)=false): ¬bx a b=0:=by rw[bx,c];split<;>simp
theorem mx {x y:Gr} (h:(y.fo.toList==x.fo.toList)=false):dq x y=true:=by
 have a:=uO h;rw[dq,bI,if_neg a];simpa using a
theorem Bp (G:List Gr) (v:Value) (x:Gr) (w:World) (s:bj w v G) (O:G.length≤1000) (z:x.ri=0):
    Calls prog 137 #[v,.agg #[x.fo,x.wh,x.ri]] w fun e w'=> ∃u,e= .returned u∧(bj w' u (bP x G)∧Fr w.heap.size u)∧Below w.heap.size w w':=by
 have C:=ac s
 have o:gn (w.alloc (.cells #[x.fo,x.wh,x.ri] 64)) 160 #[.pointer (some ⟨w.heap.size,0,none⟩)] (dq x):=by
  refine⟨enters_of func160 (by kernel_rfl) rfl,fun W d e=>?_⟩
  exact tV e x w.heap.size W (Nat.lt_of_lt_of_le (by simp) d.size) ((d.cell (p:=⟨w.heap.size,0,none⟩) (by simp)).trans (by simp)) ((d.cell (p:=⟨w.heap.size,1,none⟩) (by simp)).trans (by simp)) ((d.cell (p:=⟨w.heap.size,2,none⟩) (by simp)).trans (by simp))
 have B:=ac o;have E:(bP x G).length≤G.length:=List.length_filter_le _ _;have P:(x.ri==0)=true:=by simpa using z
 have A:Hid (G.filter (dq x)=bP x G):=rfl;clear o s z;generalize bP x G=F at*;go_enter func137,ntmps137
 go_wp2_with fail;refine(tU G _ _ _ (dq x) _ (C.out.below ak) B.out (by omega)).mono ?_
 rintro e Q ⟨J,rfl,a,j,c⟩;rw[A.out]at a;obtain⟨K,M,N,i,H⟩:=ey c
 have g:=ac (fR a (by omega));have f:=hid (show Fr w.heap.size J from fun q I=>by have:=(a.lt q I).1;simp at this;omega);clear a c j;go_wp2;go_ret;exact⟨_,rfl,⟨g.out,f.out⟩,i⟩
theorem nM (G:List Gr) (v:Value) (x:Gr) (w:World) (g:bj w v G) (f:G.length≤1000) (hG:G.Pairwise (fun x y=>a7 x y=true)):
    Calls prog 137 #[v,.agg #[.string x.fo,.string x.wh,.int .i64 x.ri]] w fun e w'=> ∃u,e= .returned u∧(bj w' u (cC x G)∧Fr w.heap.size u)∧Below w.heap.size w w':=by
 by_cases c:x.ri=0
 · rw[uN c]
   exact Bp G v x w g f c
 · rw[qw c]
   refine(Aw G v x w g f c).mono ?_
   rintro e s ⟨u,M,rfl,j,o,⟨a,d⟩,i⟩;rw[AW hG j o]at a;exact⟨u,rfl,⟨a,d⟩,i⟩
theorem uP (G:List Gr) (v:Value) (w:World) (j:bj w v G) (o:60<G.length):
    Calls prog 136 #[v] w fun e w'=>e= .returned (.tuple #[al,.int .i64 2])∧w'=w:=by
 obtain⟨a,g,rfl,f,d,c⟩:=j
 have i:60<(G.length:Int):=by omega
 clear c;go_enter func136,ntmps136
 go_wp2;go_ret2;exact⟨rfl,rfl⟩
def my (w:World) (v:Value) (N:List ByteArray):Prop:= ∃a cap,v= .slice a N.length cap∧N.length≤cap∧N.length≤1000000∧ ∀i (h:i<N.length),∃b o,a=some ⟨b,o,none⟩∧b<w.heap.size∧w.cell? ⟨b,o+i,none⟩=some (.string N[i])
theorem my.below {w w':World} {v:Value} {N:List ByteArray} (h:my w v N) (f:Below w.heap.size w w'):my w' v N:=by
 obtain⟨a,c,A,g,j,s⟩:=h
 refine⟨a,c,A,g,j,fun i z=>?_⟩
 obtain⟨b,o,u,d,x⟩:=s i z
 exact⟨b,o,u,Nat.lt_of_lt_of_le d f.size,(f.cell (p:=⟨b,o+i,none⟩) d).trans x⟩
def eB (N:List ByteArray):List Value:=N.map Value.string
theorem Bq (N:List ByteArray) (x:ByteArray):eB N++[.string x]=eB (N++[x]):=by simp[eB]
theorem Br {w:World} {base:Nat} {v:Value} {N:List ByteArray} (h:w.ownsRow base 9 1 v N.length (eB N)) (j:N.length≤1000000):my w v N:=by
 have u:=h;obtain⟨A,x⟩:=h
 rcases x with⟨rfl,s⟩|⟨g,a,cur,rfl,z,o,d,B,s,f⟩
 · exact⟨none,0,by rw[s],by omega,j,fun i h=>absurd h (by omega)⟩
 · have c:g<w.heap.size:=by
    rcases Nat.lt_or_ge g w.heap.size with h|h
    · exact h
    · rw[Array.getElem?_eq_none h]at o;cases o
   refine⟨some ⟨g,0,none⟩,a,rfl,d,j,fun i h=>⟨g,0,rfl,c,?_⟩⟩
   rw[Nat.zero_add,u.cellAt i (by omega)];simp[eB,h]
theorem Tryz.infoS9:(prog.info? 9).map (fun i=>(i.zero,i.size,i.bytes))=some (some (.string ⟨#[]⟩),1,16):=by kernel_rfl
def dt (G:List Gr) (f:ByteArray):List ByteArray:=(G.filter (eo f)).map Gr.wh
theorem uQ (G:List Gr) (v:Value) (f:ByteArray) (w:World) (hv:bj w v G) (hn:G.length≤1000):
    Calls prog 16 #[v,f] w fun e w'=> ∃u,e= .returned u∧my w' u (dt G f)∧Below w.heap.size w w':=by
 obtain⟨i0,M,N,O,P⟩:=info_parts Tryz.infoS9
 obtain⟨a,E0,rfl,Q,K,F⟩:=hv
 have T:Hid (∀i (h:i<G.length),∃b o,a=some ⟨b,o,none⟩∧b<w.heap.size∧em w b (o+i*3) G[i]):=F;clear F;go_enter func16,ntmps16
 go_wp2;go_loopw [5,6] (fun u i wr=> ∃k:Nat,k≤G.length∧i= .int .i64 k∧wr.ownsRow w.heap.size 9 1 u (dt (G.take k) f).length (eB (dt (G.take k) f))∧Below w.heap.size w wr) (fun _ i _=>G.length-(intOf i).toNat)
 case atStart=>exact⟨0,Nat.zero_le _,rfl,World.ownsRow_nil _ _ _ _,aw⟩
 case round=>
  obtain⟨k,hk,rfl,d,c⟩:=hrel
  by_cases A:k<G.length
  · obtain⟨b,o,rfl,hb,he⟩:=T.out k A
    obtain⟨V,Y,Z⟩:=he.below hb c
    have E1:(dt (G.take k) f).length≤1000:=by
     rw[dt,List.length_map];exact Nat.le_trans (List.length_filter_le _ _) (by rw[List.length_take];omega)
    cases E:eo f G[k]with
    |true=>
     have h1:((G[k]).fo.toList==f.toList)=true:=E;have I:=hid (show dt (G.take (k+1)) f=dt (G.take k) f++[(G[k]).wh]from by rw[dt,tS A E,List.map_append];rfl);clear E;generalize dt (G.take k) f=X at*;go_wp2_with (at_builtin;refine wpList_append_own _ rfl _ _ 65 rfl w.heap.size 9 i0 (.string ⟨#[]⟩) 1 16 underlying65 M N O P rfl (by decide) _ _ _ rfl (d.alloc _) ⟨wr.heap.size,0,none⟩ 1 1 [.string (G[k]).wh] rfl rfl (by intro j u C;match j,C with|0,C=>simp at C;subst C;simp[Addr.add]|j+1,C=>simp at C) (by intro u R;simp at R;subst R;rfl) (by unfold maxLen;omega) (by omega) (by have:=c.size;simp at this⊢;omega) ?_)
     intro v2 S B x H;have z:Below w.heap.size w S:=(c.alloc c.size _).grown x (by have:=c.size;simp at this⊢;omega) (fun g hg=>(d.lt g hg).1);rw[Bq]at B;have s:S.ownsRow w.heap.size 9 1 v2 (X++[(G[k]).wh]).length (eB (X++[(G[k]).wh])):=by rw[List.length_append];exact B
     have U:=ac s;clear B x H s d c V Y Z;go_wp2;go_roundw
     case rel=>exact⟨k+1,by omega,by simp,by rw[I.out];exact U.out,z⟩
     case measure=>simp[intOf];omega
    |false=>
     have h1:((G[k]).fo.toList==f.toList)=false:=E;have I:=hid (show dt (G.take (k+1)) f=dt (G.take k) f from by rw[dt,tT A E];rfl);clear E;go_wp2;go_roundw
     case rel=>exact⟨k+1,by omega,by simp,by rw[I.out];exact d,c⟩
     case measure=>simp[intOf];omega
  · have e:G.take k=G:=List.take_of_length_le (by omega)
    rw[e]at d
    have J:=ac (Br d (by
     rw[dt,List.length_map];exact Nat.le_trans (List.length_filter_le _ _) (by omega)))
    go_wp2;go_ret;exact⟨_,rfl,J.out,c⟩
theorem mz (B:Nat) (w:World):ku B w (.agg #[false,al,al,ah,false]) bt:=⟨_,_,rfl,gL _,fq _ _,ue _ _⟩
theorem Bs (J:Jo) (v:Value) (c m:Int) (w:World) (hv:cV w v J) (hs:dk J.base) (EV:dm 150000000000000 J.cos):
    Calls prog 73 #[v,.int .i64 c,m] w fun e w'=> ∃r,e= .returned (.tuple #[r,.int .i64 (dN J c m)])∧ku w.heap.size w' r (ev J c m)∧Below w.heap.size w w':=by
 have HV:=hid hv;have HS:=hid hs;have S:=hid EV;obtain⟨vb,vc,rfl,EZ,F0⟩:=hv
 have Fh:=hid EZ;have ER:=hid F0;obtain⟨ba,EJ,rfl,_⟩:=EZ
 obtain⟨ca,K,rfl,Fa,F1,_⟩:=F0
 clear hs EV;obtain⟨wz,A⟩: ∃wz,wz=(w.alloc (.cells #[.slice ba J.base.length EJ,J.first,.slice ca J.cos.length K] 57)).alloc (.cells #[false,al,al,ah,false] 36):=⟨_,rfl⟩
 have E:Below w.heap.size w wz:=by rw[A];exact ak.alloc (by simp) _
 have P:=hid (show Cs wz (w.heap.size+1) [false,al,al,ah,false]from by
  have:=Cs.new (w.alloc (.cells #[.slice ba J.base.length EJ,J.first,.slice ca J.cos.length K] 57)) [false,al,al,ah,false] 36
  rw[A];simpa using this)
 have Fj:=P.out.lt;by_cases R:aT J=0
 · have H0:=hid R
   have EM:=fp R;obtain⟨f1,f2⟩:=jj.1 EM.2.1
   have Fi:=EM.2.2.1;have F3:=hid (show∀c∈J.cos,c.ch.length≤1000000000 from fun c hc=>Nat.le_trans (nk R c hc) (by decide));have HG:=hid (mY R);have Fl:Jn.last J=J.first-1+J.cos.length:=rfl
   clear EM;by_cases m1:m<1
   · have hE:=lm (c:=c) R (Or.inl m1)
     have HE:=hid hE;have HR:=hid (iQ hE (by decide));clear hE R;go_enter func73,ntmps73
     go_wp2_with fail;rw[←A];clear A;refine(e9 J _ _ (HV.out.below E) HS.out S.out).mono ?_
     rintro e w1 ⟨p,rfl,M,_,d⟩;obtain⟨b,mb,E3,E4,nn,rfl,z,hb,E0,G,E2⟩:=M H0.out
     simp only[Value.agg.injEq,Array.mk.injEq,List.cons.injEq,true_and,and_true]at z;obtain⟨rfl,rfl⟩:=z
     rw[H0.out];obtain⟨vt,s,N,hM,E1⟩:=G
     have HC:=hid s;have HT:=hid N;have Z:=s.cell 1 rfl;have k2:=s.cell 2 rfl;have U:=s.cell 3 rfl;obtain⟨ta,O,rfl,_⟩:=N
     have j:=an E d;have a:=hid (P.out.below d);clear M s hM;have y0:=a.out.cell 0 rfl;have y1:=a.out.cell 1 rfl;have y2:=a.out.cell 2 rfl;have y3:=a.out.cell 3 rfl;have y4:=a.out.cell 4 rfl;have g0:=a.out.fr 0;have g1:=a.out.fr 1;have g2:=a.out.fr 2;have g3:=a.out.fr 3;have g4:=a.out.fr 4;go_wp2;refine bodyPost_ret (v:= .tuple #[.agg #[false,al,al,ah,false],.int .i64 3]) (by simp[results,results73,go_sem,y0,y1,y2,y3,y4]) rfl ⟨_,by rw[HE.out],?_,?_⟩
     · rw[HR.out]
       exact mz _ _
     · exact(((((j.setCell (p:=⟨w.heap.size+1,0,none⟩) (Nat.le_succ _) _).setCell (p:=⟨w.heap.size+1,1,none⟩) (Nat.le_succ _) _).setCell (p:=⟨w.heap.size+1,2,none⟩) (Nat.le_succ _) _).setCell (p:=⟨w.heap.size+1,3,none⟩) (Nat.le_succ _) _).setCell (p:=⟨w.heap.size+1,4,none⟩) (Nat.le_succ _) _)
   by_cases m2:10<m
   · have hE:=lm (c:=c) R (Or.inr (Or.inl m2))
     have HE:=hid hE;have HR:=hid (iQ hE (by decide));clear hE R;go_enter func73,ntmps73
     go_wp2_with fail;rw[←A];clear A;refine(e9 J _ _ (HV.out.below E) HS.out S.out).mono ?_
     rintro e w1 ⟨p,rfl,M,_,d⟩;obtain⟨b,mb,E3,E4,nn,rfl,z,hb,E0,G,E2⟩:=M H0.out
     simp only[Value.agg.injEq,Array.mk.injEq,List.cons.injEq,true_and,and_true]at z;obtain⟨rfl,rfl⟩:=z
     rw[H0.out];obtain⟨vt,s,N,hM,E1⟩:=G
     have HC:=hid s;have HT:=hid N;have Z:=s.cell 1 rfl;have k2:=s.cell 2 rfl;have U:=s.cell 3 rfl;obtain⟨ta,O,rfl,_⟩:=N
     have j:=an E d;have a:=hid (P.out.below d);clear M s hM;have y0:=a.out.cell 0 rfl;have y1:=a.out.cell 1 rfl;have y2:=a.out.cell 2 rfl;have y3:=a.out.cell 3 rfl;have y4:=a.out.cell 4 rfl;have g0:=a.out.fr 0;have g1:=a.out.fr 1;have g2:=a.out.fr 2;have g3:=a.out.fr 3;have g4:=a.out.fr 4;go_wp2;refine bodyPost_ret (v:= .tuple #[.agg #[false,al,al,ah,false],.int .i64 3]) (by simp[results,results73,go_sem,y0,y1,y2,y3,y4]) rfl ⟨_,by rw[HE.out],?_,?_⟩
     · rw[HR.out]
       exact mz _ _
     · exact(((((j.setCell (p:=⟨w.heap.size+1,0,none⟩) (Nat.le_succ _) _).setCell (p:=⟨w.heap.size+1,1,none⟩) (Nat.le_succ _) _).setCell (p:=⟨w.heap.size+1,2,none⟩) (Nat.le_succ _) _).setCell (p:=⟨w.heap.size+1,3,none⟩) (Nat.le_succ _) _).setCell (p:=⟨w.heap.size+1,4,none⟩) (Nat.le_succ _) _)
   by_cases c1:c<0
   · have hE:=lm (m:=m) R (Or.inr (Or.inr c1))
     have HE:=hid hE;have HR:=hid (iQ hE (by decide));clear hE R;go_enter func73,ntmps73
     go_wp2_with fail;rw[←A];clear A;refine(e9 J _ _ (HV.out.below E) HS.out S.out).mono ?_
     rintro e w1 ⟨p,rfl,M,_,d⟩;obtain⟨b,mb,E3,E4,nn,rfl,z,hb,E0,G,E2⟩:=M H0.out
     simp only[Value.agg.injEq,Array.mk.injEq,List.cons.injEq,true_and,and_true]at z;obtain⟨rfl,rfl⟩:=z
     rw[H0.out];obtain⟨vt,s,N,hM,E1⟩:=G
     have HC:=hid s;have HT:=hid N;have Z:=s.cell 1 rfl;have k2:=s.cell 2 rfl;have U:=s.cell 3 rfl;obtain⟨ta,O,rfl,_⟩:=N
     have j:=an E d;have a:=hid (P.out.below d);clear M s hM;have y0:=a.out.cell 0 rfl;have y1:=a.out.cell 1 rfl;have y2:=a.out.cell 2 rfl;have y3:=a.out.cell 3 rfl;have y4:=a.out.cell 4 rfl;have g0:=a.out.fr 0;have g1:=a.out.fr 1;have g2:=a.out.fr 2;have g3:=a.out.fr 3;have g4:=a.out.fr 4;go_wp2;refine bodyPost_ret (v:= .tuple #[.agg #[false,al,al,ah,false],.int .i64 3]) (by simp[results,results73,go_sem,y0,y1,y2,y3,y4]) rfl ⟨_,by rw[HE.out],?_,?_⟩
     · rw[HR.out]
       exact mz _ _
     · exact(((((j.setCell (p:=⟨w.heap.size+1,0,none⟩) (Nat.le_succ _) _).setCell (p:=⟨w.heap.size+1,1,none⟩) (Nat.le_succ _) _).setCell (p:=⟨w.heap.size+1,2,none⟩) (Nat.le_succ _) _).setCell (p:=⟨w.heap.size+1,3,none⟩) (Nat.le_succ _) _).setCell (p:=⟨w.heap.size+1,4,none⟩) (Nat.le_succ _) _)
   have E9: ¬(m<1∨10<m∨c<0):=by omega
   by_cases c2:Jn.last J<c
   · have hE:=uh R E9 c2
     have F8:J.first-1+(J.cos.length:Int)<c:=by omega
     have HE:=hid hE;have HR:=hid (iQ hE (by decide));clear hE R E9;go_enter func73,ntmps73
     go_wp2_with fail;rw[←A];clear A;refine(e9 J _ _ (HV.out.below E) HS.out S.out).mono ?_
     rintro e w1 ⟨p,rfl,M,_,d⟩;obtain⟨b,mb,E3,E4,nn,rfl,z,hb,E0,G,E2⟩:=M H0.out
     simp only[Value.agg.injEq,Array.mk.injEq,List.cons.injEq,true_and,and_true]at z;obtain⟨rfl,rfl⟩:=z
     rw[H0.out];obtain⟨vt,s,N,hM,E1⟩:=G
     have HC:=hid s;have HT:=hid N;have Z:=s.cell 1 rfl;have k2:=s.cell 2 rfl;have U:=s.cell 3 rfl;obtain⟨ta,O,rfl,_⟩:=N
     have j:=an E d;have a:=hid (P.out.below d);clear M s hM;go_wp2_with fail;refine(jM J.first J.cos.length _ b _ _ _ ca _ HC.out f1 (by omega) (by omega)).mono ?_
     rintro e w2 ⟨rfl,o⟩;have B:=hid (HC.out.below o);have C:=hid (a.out.below o);have F:=an j o;have EH:=hid (HT.out.below o);clear Z k2 U;have Z:=B.out.cell 1 rfl;have k2:=B.out.cell 2 rfl;have U:=B.out.cell 3 rfl;have y0:=C.out.cell 0 rfl;have y1:=C.out.cell 1 rfl;have y2:=C.out.cell 2 rfl;have y3:=C.out.cell 3 rfl;have y4:=C.out.cell 4 rfl;have g0:=C.out.fr 0;have g1:=C.out.fr 1;have g2:=C.out.fr 2;have g3:=C.out.fr 3;have g4:=C.out.fr 4;go_wp2;refine bodyPost_ret (v:= .tuple #[.agg #[false,al,al,ah,false],.int .i64 5]) (by simp[results,results73,go_sem,y0,y1,y2,y3,y4]) rfl ⟨_,by rw[HE.out],?_,?_⟩
     · rw[HR.out]
       exact mz _ _
     · exact(((((F.setCell (p:=⟨w.heap.size+1,0,none⟩) (Nat.le_succ _) _).setCell (p:=⟨w.heap.size+1,1,none⟩) (Nat.le_succ _) _).setCell (p:=⟨w.heap.size+1,2,none⟩) (Nat.le_succ _) _).setCell (p:=⟨w.heap.size+1,3,none⟩) (Nat.le_succ _) _).setCell (p:=⟨w.heap.size+1,4,none⟩) (Nat.le_succ _) _)
   have hE:=ui R E9 c2;have F8: ¬J.first-1+(J.cos.length:Int)<c:=by omega
   have e1:IntKind.i64.wrap (J.first-1)=J.first-1:=by rw[IntKind.wrap_i64];omega
   by_cases c3:c<J.first-1
   · have HE:=hid hE
     have HR:=hid (uj hE c3);clear hE R E9;go_enter func73,ntmps73
     go_wp2_with fail;rw[←A];clear A;refine(e9 J _ _ (HV.out.below E) HS.out S.out).mono ?_
     rintro e w1 ⟨p,rfl,M,_,d⟩;obtain⟨b,mb,E3,E4,nn,rfl,z,hb,E0,G,E2⟩:=M H0.out
     simp only[Value.agg.injEq,Array.mk.injEq,List.cons.injEq,true_and,and_true]at z;obtain⟨rfl,rfl⟩:=z
     rw[H0.out];obtain⟨vt,s,N,hM,E1⟩:=G
     have HC:=hid s;have HT:=hid N;have Z:=s.cell 1 rfl;have k2:=s.cell 2 rfl;have U:=s.cell 3 rfl;obtain⟨ta,O,rfl,_⟩:=N
     have j:=an E d;have a:=hid (P.out.below d);clear M s hM;go_wp2_with fail;refine(jM J.first J.cos.length _ b _ _ _ ca _ HC.out f1 (by omega) (by omega)).mono ?_
     rintro e w2 ⟨rfl,o⟩;have B:=hid (HC.out.below o);have C:=hid (a.out.below o);have F:=an j o;have EH:=hid (HT.out.below o);clear Z k2 U;have Z:=B.out.cell 1 rfl;have k2:=B.out.cell 2 rfl;have U:=B.out.cell 3 rfl;go_wp2_with fail;refine(pN ((Jn.tree J).map Pp.cells) _ _ (li.1 EH.out) (by rw[List.length_map];have:=HG.out.len;omega)).mono ?_
     rintro e w3 ⟨u,rfl,hR,hO,Q⟩;have EQ:=hid (li.2 hR);have X:=hid (hO.mono F.size);obtain⟨xa,H,rfl,_⟩:=EQ.out
     have F2:=hid (B.out.below Q);have f:=hid (C.out.below Q);have T:=an F Q;have F6:=hid hO;have EK:=d.size;have EY:=o.size;clear hR hO Z k2 U;go_wp2_with fail;refine(jM J.first J.cos.length _ b _ _ _ ca _ F2.out f1 (by omega) (by omega)).mono ?_
     rintro e w4 ⟨rfl,E8⟩;have F4:=hid (EQ.out.below E8);have F5:=hid (X.out.below E8);have F7:=hid (F6.out.below E8);have I:=hid (f.out.below E8);have ES:=an T E8;have y0:=I.out.cell 0 rfl;have y1:=I.out.cell 1 rfl;have y2:=I.out.cell 2 rfl;have y3:=I.out.cell 3 rfl;have y4:=I.out.cell 4 rfl;have g0:=I.out.fr 0;have g1:=I.out.fr 1;have g2:=I.out.fr 2;have g3:=I.out.fr 3;have g4:=I.out.fr 4;go_wp2;refine bodyPost_ret (v:= .tuple #[.agg #[true,.slice xa (Jn.tree J).length H,al,(J.first-1+J.cos.length:Int),false],ah]) (by simp[results,results73,go_sem,y0,y1,y2,y3,y4]) rfl ⟨_,by rw[HE.out],?_,?_⟩
     · rw[HR.out]
       have k0: ∀g,(Value.slice xa (Jn.tree J).length H).ownBlock=some g→g≠w.heap.size+1:=fun g hg=>by have:=(F7.out g hg).1;omega
       refine⟨_,_,rfl,((((F4.out.nbo (aj _ _ _ _) k0).nbo (aj _ _ _ _) k0).nbo (aj _ _ _ _) k0).nbo (aj _ _ _ _) k0).nbo (aj _ _ _ _) k0,((((F5.out.setCell _ _ _).setCell _ _ _).setCell _ _ _).setCell _ _ _).setCell _ _ _,ue _ _⟩
     · exact(((((ES.setCell (p:=⟨w.heap.size+1,0,none⟩) (Nat.le_succ _) _).setCell (p:=⟨w.heap.size+1,1,none⟩) (Nat.le_succ _) _).setCell (p:=⟨w.heap.size+1,2,none⟩) (Nat.le_succ _) _).setCell (p:=⟨w.heap.size+1,3,none⟩) (Nat.le_succ _) _).setCell (p:=⟨w.heap.size+1,4,none⟩) (Nat.le_succ _) _)
   have HE:=hid hE;have HR:=hid (uk hE c3);obtain⟨i,hi⟩: ∃i:Nat,c=J.first-1+i:=⟨(c-(J.first-1)).toNat,by omega⟩
   have EW:i≤J.cos.length:=by omega
   have hbe:fS J c=J.cos.drop i:=by rw[fS];congr 1;omega
   have EN:=hid hbe;have e2:IntKind.i64.wrap (c-(J.first-1))=(i:Int):=by rw[IntKind.wrap_i64];omega
   have Fk:(i:Int)≤J.cos.length:=by omega
   have Ff:(i:Int)≤K:=by omega
   obtain⟨V,Fb⟩: ∃V:Nat,min m ((J.cos.length-i:Nat):Int)=(V:Int):=⟨(min m ((J.cos.length-i:Nat):Int)).toNat,by omega⟩
   have Fc:V≤J.cos.length-i:=by omega
   have Fg:(V:Int)≤((K-i:Nat):Int):=by omega
   have e3:IntKind.i64.wrap (c+(V:Int))=c+V:=by rw[IntKind.wrap_i64];omega
   have EO:=hid (show iP m (J.cos.drop i).length=V from by rw[iP,List.length_drop];omega);have EL:Hid ((J.cos.drop i).length=J.cos.length-i):=List.length_drop;have EP:=hid (show∀x∈(J.cos.drop i).take V,x.ch.length≤1000000000 from fun x hx=>F3.out x (List.mem_of_mem_drop (List.mem_of_mem_take hx)));have EI:=hid (show((J.cos.drop i).take V).length=V from by rw[List.length_take,List.length_drop];omega);have HI:=hid hi;clear hE R E9 hbe hi;by_cases ET:K=i
   · have EU:i=K:=ET.symm
     clear ET;subst EU;have EX:V=0:=by omega
     subst EX;have Fm:min m (0:Int)=0:=by omega
     have e4:IntKind.i64.wrap c=c:=by rw[IntKind.wrap_i64];omega
     have Fe:J.cos.length-i=0:=by omega
     clear Fb;go_enter func73,ntmps73
     go_wp2_with fail;rw[←A];clear A;refine(e9 J _ _ (HV.out.below E) HS.out S.out).mono ?_
     rintro e w1 ⟨p,rfl,M,_,d⟩;obtain⟨b,mb,E3,E4,nn,rfl,z,hb,E0,G,E2⟩:=M H0.out
     simp only[Value.agg.injEq,Array.mk.injEq,List.cons.injEq,true_and,and_true]at z;obtain⟨rfl,rfl⟩:=z
     rw[H0.out];obtain⟨vt,s,N,hM,E1⟩:=G
     have HC:=hid s;have HT:=hid N;have Z:=s.cell 1 rfl;have k2:=s.cell 2 rfl;have U:=s.cell 3 rfl;obtain⟨ta,O,rfl,_⟩:=N
     have j:=an E d;have a:=hid (P.out.below d);clear M s hM;go_wp2_with fail;refine(jM J.first J.cos.length _ b _ _ _ ca _ HC.out f1 (by omega) (by omega)).mono ?_
     rintro e w2 ⟨rfl,o⟩;have B:=hid (HC.out.below o);have C:=hid (a.out.below o);have F:=an j o;have EH:=hid (HT.out.below o);clear Z k2 U;have Z:=B.out.cell 1 rfl;have k2:=B.out.cell 2 rfl;have U:=B.out.cell 3 rfl;clear U;have E5:=hid (ER.out.below F);have E7:Below w.heap.size w w2.drew:=an F aw.drew;have E6:=hid (C.out.below aw.drew);have EK:=d.size;have EY:=o.size;go_wp2_with fail;go_region
     go_wp2_with fail;refine(qe ((J.cos.drop i).take 0) (.slice ca 0 0) _ (um (E5.out.below aw.drew) EW (Nat.zero_le _) (Nat.zero_le _) (fun _ _ _ h=>absurd h (by decide))) (by rw[EI.out];omega) EP.out).mono ?_
     rintro e w3 ⟨u,rfl,Y,Q⟩;have X:=hid Y;obtain⟨xa,H,rfl⟩:=eh Y.lies
     rw[EI.out]at X⊢;have f:=hid (E6.out.below Q);have T:=an E7 Q;clear Y;have y0:=f.out.cell 0 rfl;have y1:=f.out.cell 1 rfl;have y2:=f.out.cell 2 rfl;have y3:=f.out.cell 3 rfl;have y4:=f.out.cell 4 rfl;have g0:=f.out.fr 0;have g1:=f.out.fr 1;have g2:=f.out.fr 2;have g3:=f.out.fr 3;have g4:=f.out.fr 4;go_wp2;refine bodyPost_ret (v:= .tuple #[.agg #[false,al,.slice xa 0 H,.int .i64 c,false],ah]) (by simp[results,results73,go_sem,y0,y1,y2,y3,y4]) rfl ⟨_,by rw[HE.out],?_,?_⟩
     · rw[HR.out,EN.out,EO.out,EL.out,Fe]
       refine⟨.slice none 0 0,.slice xa 0 H,by simp,gL _,fq _ _,?_⟩
       exact(((((X.out.nbo (aj _ _ _ _) (by simp;omega)).nbo (aj _ _ _ _) (by simp;omega)).nbo (aj _ _ _ _) (by simp;omega)).nbo (aj _ _ _ _) (by simp;omega)).nbo (aj _ _ _ _) (by simp;omega)).mono (by simp;omega)
     · exact(((((T.setCell (p:=⟨w.heap.size+1,0,none⟩) (Nat.le_succ _) _).setCell (p:=⟨w.heap.size+1,1,none⟩) (Nat.le_succ _) _).setCell (p:=⟨w.heap.size+1,2,none⟩) (Nat.le_succ _) _).setCell (p:=⟨w.heap.size+1,3,none⟩) (Nat.le_succ _) _).setCell (p:=⟨w.heap.size+1,4,none⟩) (Nat.le_succ _) _)
   · skip
     go_enter func73,ntmps73
     go_wp2_with fail;rw[←A];clear A;refine(e9 J _ _ (HV.out.below E) HS.out S.out).mono ?_
     rintro e w1 ⟨p,rfl,M,_,d⟩;obtain⟨b,mb,E3,E4,nn,rfl,z,hb,E0,G,E2⟩:=M H0.out
     simp only[Value.agg.injEq,Array.mk.injEq,List.cons.injEq,true_and,and_true]at z;obtain⟨rfl,rfl⟩:=z
     rw[H0.out];obtain⟨vt,s,N,hM,E1⟩:=G
     have HC:=hid s;have HT:=hid N;have Z:=s.cell 1 rfl;have k2:=s.cell 2 rfl;have U:=s.cell 3 rfl;obtain⟨ta,O,rfl,_⟩:=N
     have j:=an E d;have a:=hid (P.out.below d);clear M s hM;go_wp2_with fail;refine(jM J.first J.cos.length _ b _ _ _ ca _ HC.out f1 (by omega) (by omega)).mono ?_
     rintro e w2 ⟨rfl,o⟩;have B:=hid (HC.out.below o);have C:=hid (a.out.below o);have F:=an j o;have EH:=hid (HT.out.below o);clear Z k2 U;have Z:=B.out.cell 1 rfl;have k2:=B.out.cell 2 rfl;have U:=B.out.cell 3 rfl;clear U;have E5:=hid (ER.out.below F);have E7:Below w.heap.size w w2.drew:=an F aw.drew;have E6:=hid (C.out.below aw.drew);have EK:=d.size;have EY:=o.size;go_wp2_with fail;go_region
     go_wp2_with fail;refine(qe ((J.cos.drop i).take V) _ _ (um (E5.out.below aw.drew) EW (by rw[EL.out];exact Fc) (by omega) ?adr) (by rw[EI.out];omega) EP.out).mono ?_
     case adr=>
      intro b' o' F9 EX;subst F9;simp[Addr.add]
     rintro e w3 ⟨u,rfl,Y,Q⟩;have X:=hid Y;obtain⟨xa,H,rfl⟩:=eh Y.lies
     rw[EI.out]at X⊢;have f:=hid (E6.out.below Q);have T:=an E7 Q;clear Y;have y0:=f.out.cell 0 rfl;have y1:=f.out.cell 1 rfl;have y2:=f.out.cell 2 rfl;have y3:=f.out.cell 3 rfl;have y4:=f.out.cell 4 rfl;have g0:=f.out.fr 0;have g1:=f.out.fr 1;have g2:=f.out.fr 2;have g3:=f.out.fr 3;have g4:=f.out.fr 4;go_wp2;refine bodyPost_ret (v:= .tuple #[.agg #[false,al,.slice xa V H,.int .i64 (c+V),.bool (decide ((V:Int)<((J.cos.length-i:Nat):Int)))],ah]) (by simp[results,results73,go_sem,y0,y1,y2,y3,y4]) rfl ⟨_,by rw[HE.out],?_,?_⟩
     · rw[HR.out,EN.out,EO.out,EL.out]
       refine⟨.slice none 0 0,.slice xa V H,by simp,gL _,fq _ _,?_⟩
       exact(((((X.out.nbo (aj _ _ _ _) (by simp;omega)).nbo (aj _ _ _ _) (by simp;omega)).nbo (aj _ _ _ _) (by simp;omega)).nbo (aj _ _ _ _) (by simp;omega)).nbo (aj _ _ _ _) (by simp;omega)).mono (by simp;omega)
     · exact(((((T.setCell (p:=⟨w.heap.size+1,0,none⟩) (Nat.le_succ _) _).setCell (p:=⟨w.heap.size+1,1,none⟩) (Nat.le_succ _) _).setCell (p:=⟨w.heap.size+1,2,none⟩) (Nat.le_succ _) _).setCell (p:=⟨w.heap.size+1,3,none⟩) (Nat.le_succ _) _).setCell (p:=⟨w.heap.size+1,4,none⟩) (Nat.le_succ _) _)
 · have hE:=Ax (c:=c) (m:=m) R
   have HE:=hid hE;have HR:=hid (iQ hE R);have hz:(aT J==0)=false:=by simpa using R
   clear hE;go_enter func73,ntmps73
   go_wp2_with fail;rw[←A];clear A;refine(e9 J _ _ (HV.out.below E) HS.out S.out).mono ?_
   rintro e w1 ⟨p,rfl,_,_,d⟩;have a:=hid (P.out.below d);have j:=an E d;have y0:=a.out.cell 0 rfl;have y1:=a.out.cell 1 rfl;have y2:=a.out.cell 2 rfl;have y3:=a.out.cell 3 rfl;have y4:=a.out.cell 4 rfl;have g0:=a.out.fr 0;have g1:=a.out.fr 1;have g2:=a.out.fr 2;have g3:=a.out.fr 3;have g4:=a.out.fr 4;go_wp2;refine bodyPost_ret (v:= .tuple #[.agg #[false,al,al,ah,false],aT J]) (by simp[results,results73,go_sem,y0,y1,y2,y3,y4]) rfl ⟨_,by rw[HE.out],?_,?_⟩
   · rw[HR.out]
     exact mz _ _
   · exact(((((j.setCell (p:=⟨w.heap.size+1,0,none⟩) (Nat.le_succ _) _).setCell (p:=⟨w.heap.size+1,1,none⟩) (Nat.le_succ _) _).setCell (p:=⟨w.heap.size+1,2,none⟩) (Nat.le_succ _) _).setCell (p:=⟨w.heap.size+1,3,none⟩) (Nat.le_succ _) _).setCell (p:=⟨w.heap.size+1,4,none⟩) (Nat.le_succ _) _)
theorem d6.nb {W a:World} {v:Value} {P:Pg} {g:Nat} (h:d6 W v P) (d:W.grownBy a (some g)) (c:di W g):d6 a v P:=by
 obtain⟨o,j,rfl,f,i⟩:=h
 exact⟨o,j,rfl,f.nb d c,i.nb d c⟩
theorem Bt {W:World} {g:Nat} {v:Value} {P:Pg} {r m J G:Bool} {i j K M:Option Addr} {d f o u H I q1 q2:Nat} {c F:Int} (h:Cs W g [J,.slice K H q1,.slice M I q2,F,G]) (E:d6 W v P):
    Cs (((((W.setCell ⟨g,0,none⟩ r).setCell ⟨g,1,none⟩ (.slice i d o)).setCell ⟨g,2,none⟩ (.slice j f u)).setCell ⟨g,3,none⟩ c).setCell ⟨g,4,none⟩ m) g [r,.slice i d o,.slice j f u,c,m]∧
    d6 (((((W.setCell ⟨g,0,none⟩ r).setCell ⟨g,1,none⟩ (.slice i d o)).setCell ⟨g,2,none⟩ (.slice j f u)).setCell ⟨g,3,none⟩ c).setCell ⟨g,4,none⟩ m) v P:=by
 have x:=h.set 0 r;have z:=x.set 1 (.slice i d o);have A:=z.set 2 (.slice j f u);have B:=A.set 3 c;have C:=B.set 4 m;exact⟨C,((((E.nb (aj _ _ _ _) (h.noStr (by intro s a;simp at a))).nb (aj _ _ _ _) (x.noStr (by intro s a;simp at a))).nb (aj _ _ _ _) (z.noStr (by intro s a;simp at a))).nb (aj _ _ _ _) (A.noStr (by intro s a;simp at a))).nb (aj _ _ _ _) (B.noStr (by intro s a;simp at a))⟩
theorem Tryz.cellsC:prog.cellsOf 83=5:=by kernel_rfl
theorem uR {f:Type} {l:List f} (h:l.length=5): ∃a b c d e,l=[a,b,c,d,e]:=by
 rcases l with _|⟨a,_|⟨b,_|⟨c,_|⟨d,_|⟨e,_|⟨g,r⟩⟩⟩⟩⟩⟩
 all_goals first|exact⟨a,b,c,d,e,rfl⟩|(simp at h)
theorem Bu {H:Type} {enc:TypeId×Value→H} {P:Program} {w:World} {base:Nat} {a:Nat→Bool} {c:Bool} {t:TypeId} {d f g i j:Field} {fuel:Nat} {cs:List Value} {x:DataW H×List MemPlace} (E:P.underlying t=some (.struct #[d,f,g,i,j])) (h:DataW.trod enc P w base a c fuel t cs=some x):
    ∃u v z A B n,x=(.agg [u.1,v.1,z.1,A.1,B.1],u.2++(v.2++(z.2++(A.2++B.2))))∧cs.length=P.cellsOf t∧DataW.trod enc P w base a c n d.type ((cs.drop d.offset).take (P.cellsOf d.type))=some u∧
     DataW.trod enc P w base a c n f.type ((cs.drop f.offset).take (P.cellsOf f.type))=some v∧DataW.trod enc P w base a c n g.type ((cs.drop g.offset).take (P.cellsOf g.type))=some z∧
     DataW.trod enc P w base a c n i.type ((cs.drop i.offset).take (P.cellsOf i.type))=some A∧DataW.trod enc P w base a c n j.type ((cs.drop j.offset).take (P.cellsOf j.type))=some B:=by
 obtain⟨F,n,_,rfl,C,s,o⟩:=DataW.trod_struct E h
 match F,s with
 |[u,v,z,A,B],_=>exact⟨u,v,z,A,B,n,by simp,C,by simpa using o 0 d rfl,by simpa using o 1 f rfl,by simpa using o 2 g rfl,by simpa using o 3 i rfl,by simpa using o 4 j rfl⟩
end Go.Proofs.YtdlpjlfefjipkaaGreat
