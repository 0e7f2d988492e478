/- What the server's answer is to a request for a page. -/
import Derived.Test.YtdlpjlfefjipkaaGreatHFZG
import Derived.SizedLaws
import Derived.Test.YtdlpjlfefjipkaaGreatHFZH
set_option linter.unusedSimpArgs false
set_option linter.unusedVariables false
namespace Go.Proofs.YtdlpjlfefjipkaaGreat
open Go.RowKit Go.ChangeShapes Go.WideShapes Go.ChangeAt Go.Proofs.Tryz
set_option maxHeartbeats 8000000
set_option maxRecDepth 100000
theorem Dj (H:Hb) (q:Rq) (vq vf vg vs:Value) (B g mb n:Nat) (w:World) (G:Sv B w g mb vf vg vs H) (hm:dZ w mb n H) (EV:jN H.fos) (hs:eu H.gs) (hq:bH w vq q) (EW:cE q) (ES:cD H.gs q=0) (hk:q.kind=2) (hi:aV H.fos H.gs q.fo<H.fos.length):kA w g mb vf vq ⟨dN (dB H (aV H.fos H.gs q.fo)) q.num 10,0,ev (dB H (aV H.fos H.gs q.fo)) q.num 10⟩ H:=by
 have Fc:=hid hs;have E7:=hid EW;have E3:=hid ES;have F4:=hid G;have HM:=hid hm;have Fb:=hid EV;have HI:=hid hi;have EX:=G.lies;clear hs EW ES G hm EV hi;unfold kA;have E5:=hid hk;clear hk;obtain⟨va,rfl,lq⟩:=hq
 have E6:=hid lq;obtain⟨qa,qc,rfl,_⟩:=lq
 obtain⟨kind,who,fo,name,key,text,num,off,base,ch⟩:=q
 simp only at*;obtain⟨X,Q⟩: ∃X,X=w.alloc (.cells #[kind,who,fo,name,key,text,num,off,base,.slice qa ch.length qc] 31):=⟨_,rfl⟩
 obtain⟨R,U⟩: ∃R,R=X.alloc (.cells  bC  38):=⟨_,rfl⟩
 have EZ:X.heap.size=w.heap.size+1:=by rw[Q];simp
 have EO:Below w.heap.size w X:=by rw[Q];exact ak
 have Z:Below X.heap.size X R:=by rw[U];exact ak
 have J:Below w.heap.size w R:=an EO Z;have f:Hid (Cs R w.heap.size [kind,who,fo,name,key,text,num,off,base,.slice qa ch.length qc]):=((by rw[Q];exact Cs.new w [kind,who,fo,name,key,text,num,off,base,.slice qa ch.length qc] _:Cs X w.heap.size [kind,who,fo,name,key,text,num,off,base,.slice qa ch.length qc]).below Z:Cs R w.heap.size _)
 have E1:=hid (show Cs R (w.heap.size+1)  bC from by rw[←EZ,U];exact Cs.new X  bC  _);have Y:(w.alloc (.cells #[kind,who,fo,name,key,text,num,off,base,.slice qa ch.length qc] 31)).alloc (.cells  bC  38)=R:=by rw[U,Q]
 have EN:=hid Y;have Fh:w.heap.size+1<R.heap.size:=E1.out.lt;clear Q U EO Z EZ Y;obtain⟨fa,fc,ga,gc,sa,sc,hC,hF,hG,hS⟩:=EX.shape
 have EM:=hid (EX.below J);have F3:=hid (hC.below J);have F5:=hid (hG.below J);have Fe:=hC.lt;have Ff:g<R.heap.size:=Nat.lt_of_lt_of_le Fe J.size;clear hC hF hG hS;have x0:=f.out.cell 0 rfl;have x1:=f.out.cell 1 rfl;have x2:=f.out.cell 2 rfl;have x3:=f.out.cell 3 rfl;have x4:=f.out.cell 4 rfl;have x5:=f.out.cell 5 rfl;have x6:=f.out.cell 6 rfl;have x7:=f.out.cell 7 rfl;have x8:=f.out.cell 8 rfl;have x9:=f.out.cell 9 rfl;go_enter func11,ntmps11
 go_upto_region 1 with fail;rw[EN.out];clear EN;go_wp2_with fail;refine(qK H.gs ⟨kind,who,fo,name,key,text,num,off,base,ch⟩ _ _ g R Ff (F3.out.cell 1 rfl) F5.out Fc.out ⟨_,rfl,E6.out.below J⟩ E7.out).mono ?_
 rintro e o ⟨rfl,K⟩;clear x0 x1 x2 x3 x4 x5 x6 x7 x8 x9;have i:=an J K;have E8:=hid (EM.out.below K);have Fa:=hid (f.out.below K);have F0:=hid (E1.out.below K);have Fj:=K.size;rw[E3.out];obtain rfl:kind=2:=E5.out;clear E5;clear E3;obtain⟨E,hE⟩: ∃E,E=dN (dB H (aV H.fos H.gs fo)) num 10:=⟨_,rfl⟩
 obtain⟨P,hP⟩: ∃P,P=ev (dB H (aV H.fos H.gs fo)) num 10:=⟨_,rfl⟩
 have HE:=hid hE;have HP:=hid hP;clear hE hP;obtain⟨w2,S⟩: ∃w2,w2=o.alloc (.cells  bC  38):=⟨_,rfl⟩
 have M:Below o.heap.size o w2:=by rw[S];exact ak
 have E2:=hid (show Cs w2 o.heap.size  bC from by rw[S];exact Cs.new o  bC  _);have j:=hid (Fa.out.below M);have F1:=hid (F0.out.below M);have I:=an i M;have Fk:=M.size;have Fi:=E2.out.lt;have E9:=hid (E8.out.below M);have E4:=hid (F4.out.below I);have x0:=j.out.cell 0 rfl;have x1:=j.out.cell 1 rfl;have x2:=j.out.cell 2 rfl;have x3:=j.out.cell 3 rfl;have x4:=j.out.cell 4 rfl;have x5:=j.out.cell 5 rfl;have x6:=j.out.cell 6 rfl;have x7:=j.out.cell 7 rfl;have x8:=j.out.cell 8 rfl;have x9:=j.out.cell 9 rfl;go_upto_region 5 with fail;rw[←S];clear S;go_wp2_with fail;refine(BV H ⟨2,who,fo,name,key,text,num,off,base,ch⟩ _ vf vg vs g mb n w2 E4.out.1 E4.out.2.1.lies (HM.out.below I) Fb.out ⟨_,rfl,E6.out.below I⟩ E7.out HI.out).mono ?_
 rw[←HE.out,←HP.out];rintro z w3 ⟨u3,rfl,EU,N⟩;have F7:=hid EU;obtain⟨Fo,Fm,rfl,Fg,EY⟩:=EU
 obtain⟨x,A,rfl,_⟩:=Fg
 obtain⟨s,u,rfl⟩:=eh EY
 clear EY;have EJ:=hid (E9.out.below N);have d:=hid (E2.out.below N);have F2:=hid (F1.out.below N);have EP:=an I N;have Fl:=N.size;clear x0 x1 x2 x3 x4 x5 x6 x7 x8 x9;obtain⟨V,O⟩: ∃V,V=(((((w3.setCell ⟨o.heap.size,2,none⟩ (.bool P.reset)).setCell ⟨o.heap.size,2+1,none⟩ (.slice x P.tree.length A)).setCell ⟨o.heap.size,2+2,none⟩ (.slice s P.cos.length u)).setCell ⟨o.heap.size,2+3,none⟩ (.int .i64 P.cur)).setCell ⟨o.heap.size,2+4,none⟩ (.bool P.more)).setCell ⟨o.heap.size,0,none⟩ (.int .i64 E):=⟨_,rfl⟩
 have E0:w3.grownBy V (some o.heap.size):=by rw[O];exact ar (ar (ar (ar (ar (aj _ _ _ _) (aj _ _ _ _)) (aj _ _ _ _)) (aj _ _ _ _)) (aj _ _ _ _)) (aj _ _ _ _)
 have F:Hid (Cs V o.heap.size [.int .i64 E,ah,.bool P.reset,.slice x P.tree.length A,.slice s P.cos.length u,.int .i64 P.cur,.bool P.more]):=(by rw[O];exact(((((d.out.set 2 (.bool P.reset)).set 3 (.slice x P.tree.length A)).set 4 (.slice s P.cos.length u)).set 5 (.int .i64 P.cur)).set 6 (.bool P.more)).set 0 (.int .i64 E):Cs V o.heap.size _)
 have c:=hid (F2.out.nb E0 (by omega));have EK:=hid (EJ.out.nb E0 (iz d.out) (by omega));have F8:=hid (F7.out.nb E0 (iz d.out));have EQ:Below w.heap.size w V:=by rw[O];exact(((((EP.setCell (p:=⟨o.heap.size,2,none⟩) i.size _).setCell (p:=⟨o.heap.size,2+1,none⟩) i.size _).setCell (p:=⟨o.heap.size,2+2,none⟩) i.size _).setCell (p:=⟨o.heap.size,2+3,none⟩) i.size _).setCell (p:=⟨o.heap.size,2+4,none⟩) i.size _).setCell (p:=⟨o.heap.size,0,none⟩) i.size _
 have p0:=d.out.cell 0 rfl;have f0:=d.out.fr 0;have p1:=d.out.cell 1 rfl;have f1:=d.out.fr 1;have p2:=d.out.cell 2 rfl;have f2:=d.out.fr 2;have p3:=d.out.cell 3 rfl;have f3:=d.out.fr 3;have p4:=d.out.cell 4 rfl;have f4:=d.out.fr 4;have p5:=d.out.cell 5 rfl;have f5:=d.out.fr 5;have p6:=d.out.cell 6 rfl;have f6:=d.out.fr 6;go_upto_region 8 with fail;rw[←O];clear O p0 p1 p2 p3 p4 p5 p6 f0 f1 f2 f3 f4 f5 f6;obtain⟨w5,T⟩: ∃w5,w5=(((((((V.setCell ⟨w.heap.size+1,0,none⟩ (.int .i64 E)).setCell ⟨w.heap.size+1,1,none⟩ ah).setCell ⟨w.heap.size+1,2,none⟩ (.bool P.reset)).setCell ⟨w.heap.size+1,3,none⟩ (.slice x P.tree.length A)).setCell ⟨w.heap.size+1,4,none⟩ (.slice s P.cos.length u)).setCell ⟨w.heap.size+1,5,none⟩ (.int .i64 P.cur)).setCell ⟨w.heap.size+1,6,none⟩ (.bool P.more)):=⟨_,rfl⟩
 have ET:V.grownBy w5 (some (w.heap.size+1)):=by rw[T];exact(ar (ar (ar (ar (ar (ar (aj V (w.heap.size+1) 0 (.int .i64 E)) (aj _ (w.heap.size+1) 1 ah)) (aj _ (w.heap.size+1) 2 (.bool P.reset))) (aj _ (w.heap.size+1) 3 (.slice x P.tree.length A))) (aj _ (w.heap.size+1) 4 (.slice s P.cos.length u))) (aj _ (w.heap.size+1) 5 (.int .i64 P.cur))) (aj _ (w.heap.size+1) 6 (.bool P.more)))
 have C:Hid (Cs w5 (w.heap.size+1) [.int .i64 E,ah,.bool P.reset,.slice x P.tree.length A,.slice s P.cos.length u,.int .i64 P.cur,.bool P.more]):=(by rw[T];exact(((((((c.out.set 0 (.int .i64 E)).set 1 ah).set 2 (.bool P.reset)).set 3 (.slice x P.tree.length A)).set 4 (.slice s P.cos.length u)).set 5 (.int .i64 P.cur)).set 6 (.bool P.more)):Cs w5 (w.heap.size+1) _)
 have EL:=hid (EK.out.nb ET (iz c.out) (by omega));have F9:=hid (F8.out.nb ET (iz c.out));have ER:Below w.heap.size w w5:=by rw[T];exact(ei (b:=w.heap.size+1) EQ (Nat.le_succ _))
 have F6:=hid (show bX w5 (.agg #[.int .i64 E,ah,.bool P.reset,.slice x P.tree.length A,.slice s P.cos.length u,.int .i64 P.cur,.bool P.more]) ⟨E,0,P⟩from by
  obtain⟨a,b,e,l1,l2⟩:=F9.out
  injection e with e
  simp only[Array.mk.injEq,List.cons.injEq]at e;obtain⟨_,e1,e2,_⟩:=e
  subst e1 e2;exact⟨_,_,rfl,l1,l2⟩)
 have q0:=F.out.cell 0 rfl;have q1:=F.out.cell 1 rfl;have q2:=F.out.cell 2 rfl;have q3:=F.out.cell 3 rfl;have q4:=F.out.cell 4 rfl;have q5:=F.out.cell 5 rfl;have q6:=F.out.cell 6 rfl;have p0:=c.out.cell 0 rfl;have f0:=c.out.fr 0;have p1:=c.out.cell 1 rfl;have f1:=c.out.fr 1;have p2:=c.out.cell 2 rfl;have f2:=c.out.fr 2;have p3:=c.out.cell 3 rfl;have f3:=c.out.fr 3;have p4:=c.out.cell 4 rfl;have f4:=c.out.fr 4;have p5:=c.out.cell 5 rfl;have f5:=c.out.fr 5;have p6:=c.out.cell 6 rfl;have f6:=c.out.fr 6;go_wp2_with fail;rw[←T];clear p0 p1 p2 p3 p4 p5 p6;have y0:=C.out.cell 0 rfl;have y1:=C.out.cell 1 rfl;have y2:=C.out.cell 2 rfl;have y3:=C.out.cell 3 rfl;have y4:=C.out.cell 4 rfl;have y5:=C.out.cell 5 rfl;have y6:=C.out.cell 6 rfl;refine bodyPost_ret (v:= .agg #[.int .i64 E,ah,.bool P.reset,.slice x P.tree.length A,.slice s P.cos.length u,.int .i64 P.cur,.bool P.more]) (by simp[results,results11,go_sem,y0,y1,y2,y3,y4,y5,y6]) rfl ⟨_,rfl,by rw[←HE.out,←HP.out];exact F6.out,EL.out,aZ.of_below _ _ ER⟩
theorem Tryz.bytesG:prog.bytesOf 64=40:=by kernel_rfl
theorem wB {H:Type} {P:Program} {e:TypeId}: ∀{l:List (DataW H)} {d:DataW H},d∈l→ ∀n∈d.weights P e,n∈DataW.weightsAll P e l
 |[],_,h=>by cases h
 |x::r,d,h=>by
  intro n a;rw[DataW.weightsAll];rcases List.mem_cons.1 h with rfl|h
  · exact List.mem_append_left _ a
  · exact List.mem_append_right _ (wB h n a)
theorem Dk {H:Type} {enc:TypeId×Value→H} {W:World} {v:Value} {d:DataW H} {p:List MemPlace} {fuel:Nat} (V:DataW.trod enc prog W 0 (fun _=>true) true fuel 23 [v]=some (d,p)) (R: ∀n∈d.weights prog 23,n≤reachBytes):
    ∃L:List Gr,bj W v L∧eu L:=by
 haveI:Inhabited Gr:=⟨⟨⟨#[]⟩,⟨#[]⟩,0⟩⟩
 rcases Go.Deep.open_slice underlying23 V with⟨g,P⟩|⟨a,len,o,m,n,D,Pl,g,hb,X,hm,B,P,x⟩
 · obtain rfl:v= .slice none 0 0:=by simpa using g
   exact⟨[],fu _,fun e J=>by cases J⟩
 obtain rfl:v= .slice (some a) len o:=by simpa using g
 have N:m=o:=B.trans (if_pos rfl);clear B;have U:=(Prod.mk.inj P).1;clear P;subst N
 have O:0<len→a.spot=none:=fun h=>by
  obtain⟨G,c,_⟩:=x 0 (by omega)
  rw[Tryz.cellsG]at c;obtain⟨_,A,T⟩:=World.cells?_some c
  obtain⟨S,c1,c2,rfl⟩:=tn A
  have k0:=T 0 (by omega);exact zr (v:=S) (by simpa[Addr.add]using k0)
 have s: ∀i,i<len→ ∃e:Gr,D i=nl e∧a.spot=none∧em W a.block (a.off+i*3) e:=fun i j=>by
  obtain⟨G,c,I⟩:=x i (by omega)
  exact zt (O (by omega)) c I
 obtain⟨E,hE⟩:=Go.Deep.choose_lt s
 obtain⟨F,u⟩: ∃F,d= .slice ((List.range len).map D) F:=⟨_,U⟩
 have f:(len+F.length)*40≤reachBytes:=by
  have:=R ((len+F.length)*40) (by
   rw[u,DataW.weights];simp only[underlying23,Tryz.bytesG,List.length_map,List.length_range];exact List.mem_cons_self ..)
  exact this
 have z: ∀i,i<len→ ∀n∈(D i).weights prog 64,n≤reachBytes:=fun i j n Y=>R n (by
  rw[u,DataW.weights];simp only[underlying23];refine List.mem_cons_of_mem _ (List.mem_append_left _ (wB (List.mem_map.2 ⟨i,List.mem_range.2 j,rfl⟩) n Y)))
 have C:reachBytes=140737488351232:=by decide
 refine⟨(List.range len).map E,⟨some a,_,by simp;rfl,by simpa using X,?_,fun i j=>?_⟩,fun e J=>?_⟩
 · rw[C]at f
   simp only[List.length_map,List.length_range];omega
 · have K:i<len:=by simpa using j
   obtain⟨c,I,Q⟩:=hE i K
   have M:a.block<W.heap.size:=by
    have k:=Q.1;rcases Nat.lt_or_ge a.block W.heap.size with h|h
    · exact h
    · unfold World.cell? at k;rw[Array.getElem?_eq_none h]at k;cases k
   refine⟨a.block,a.off,?_,M,by simpa using Q⟩
   rw[←I]
 · obtain⟨i,j,rfl⟩:=List.mem_map.1 J
   have c:=z i (List.mem_range.1 j);rw[(hE i (List.mem_range.1 j)).1]at c
   have Z:DataW.weights prog 64 (nl (H:=H) (E i))=[(E i).fo.data.toList.length,(E i).wh.data.toList.length]:=by
    rw[nl,DataW.weights];simp only[underlying64];simp[DataW.weightsEach,DataW.weights]
   rw[Z,C]at c;rw[Lib.size_eq,Lib.size_eq];have a1:=c _ (List.mem_cons_self ..);have a2:=c _ (List.mem_cons_of_mem _ (List.mem_cons_self ..));exact⟨by omega,by omega⟩
theorem kG (f b m:ByteArray):(aU [f,b,m]=1∧(aA f.data.toList=false∨(aA f.data.toList=true∧aA b.data.toList=false)∨(aA f.data.toList=true∧aA b.data.toList=true∧aA m.data.toList=false)))∨(aU [f,b,m]=0∧aA f.data.toList=true∧aA b.data.toList=true∧aA m.data.toList=true):=by
 cases a:aA f.data.toList<;>cases c:aA b.data.toList<;>cases d:aA m.data.toList<;>simp[aU,a,c,d]
theorem Dl (G:List Gr) (v:Value) (f b m:ByteArray) (r:Int) (w:World) (hv:bj w v G) (X:f.size≤150000000000000) (Y:b.size≤150000000000000) (hm:m.size≤150000000000000) (E5:bh G=0):
    Calls prog 21 #[v,f,b,m,r] w fun e w'=> ∃u,e= .returned (.tuple #[u,eU G f b m r])∧(eU G f b m r=0→bj w' u (cC ⟨f,m,r⟩ G))∧Below w.heap.size w w':=by
 have I:=ac hv;obtain⟨E6,_,E4,_⟩:=jP E5
 have U:=ac (vA (f:=f) (h:=m) (r:=r) ((mr G).1 E4));have E7:=qx ⟨f,m,r⟩ G;clear E4 hv E5;rcases vB G f b m r with⟨Z,hE⟩|⟨Z,h1,hE⟩|⟨Z,h1,h2,hE⟩|⟨Z,h1,h2,Q,hE⟩|⟨Z,h1,h2,Q,ha,hE⟩|⟨Z,h1,h2,Q,ha,h6,hE⟩|⟨Z,h1,h2,Q,ha,h6,hE⟩
 · have J:=ac hE
   rcases kG f b m with⟨_,hF|⟨hF,hB⟩|⟨hF,hB,hM⟩⟩|⟨M,_⟩
   · have O:=ac hF
     clear hF hE Z;go_enter func21,ntmps21
     go_wp2_with fail;refine(aM f _ X).mono ?_
     rintro e i ⟨rfl,c⟩;rw[c,O.out];clear c i;go_wp2;go_ret2;exact⟨_,by rw[J.out];rfl,fun h=>absurd (J.out.symm.trans h) (by decide),aw⟩
   · have O:=ac hF
     have S:=ac hB;clear hF hB hE Z;go_enter func21,ntmps21
     go_wp2_with fail;refine(aM f _ X).mono ?_
     rintro e i ⟨rfl,c⟩;rw[c,O.out];clear c i;go_wp2_with fail;refine(aM b _ Y).mono ?_
     rintro e i ⟨rfl,c⟩;rw[c,S.out];clear c i;go_wp2;go_ret2;exact⟨_,by rw[J.out];rfl,fun h=>absurd (J.out.symm.trans h) (by decide),aw⟩
   · have O:=ac hF
     have S:=ac hB;have T:=ac hM;clear hF hB hM hE Z;go_enter func21,ntmps21
     go_wp2_with fail;refine(aM f _ X).mono ?_
     rintro e i ⟨rfl,c⟩;rw[c,O.out];clear c i;go_wp2_with fail;refine(aM b _ Y).mono ?_
     rintro e i ⟨rfl,c⟩;rw[c,S.out];clear c i;go_wp2_with fail;refine(aM m _ hm).mono ?_
     rintro e i ⟨rfl,c⟩;rw[c,T.out];clear c i;go_wp2;go_ret2;exact⟨_,by rw[J.out];rfl,fun h=>absurd (J.out.symm.trans h) (by decide),aw⟩
   · rw[Z]at M;cases M
 · have J:=ac hE
   obtain⟨hF,hB,hM⟩:aA f.data.toList=true∧aA b.data.toList=true∧aA m.data.toList=true:=by
    rcases kG f b m with⟨M,_⟩|⟨_,M⟩
    · rw[Z]at M;cases M
    · exact M
   have O:=ac hF;have S:=ac hB;have T:=ac hM;clear hF hB hM Z;clear hE;go_enter func21,ntmps21
   go_wp2_with fail;refine(aM f _ X).mono ?_
   rintro e i ⟨rfl,c⟩;rw[c,O.out];clear c i;go_wp2_with fail;refine(aM b _ Y).mono ?_
   rintro e i ⟨rfl,c⟩;rw[c,S.out];clear c i;go_wp2_with fail;refine(aM m _ hm).mono ?_
   rintro e i ⟨rfl,c⟩;rw[c,T.out];clear c i;go_wp2;go_ret2;exact⟨_,by rw[J.out];rfl,fun h=>absurd (J.out.symm.trans h) (by decide),aw⟩
 · have J:=ac hE
   obtain⟨hF,hB,hM⟩:aA f.data.toList=true∧aA b.data.toList=true∧aA m.data.toList=true:=by
    rcases kG f b m with⟨M,_⟩|⟨_,M⟩
    · rw[Z]at M;cases M
    · exact M
   have O:=ac hF;have S:=ac hB;have T:=ac hM;clear hF hB hM Z;clear hE;go_enter func21,ntmps21
   go_wp2_with fail;refine(aM f _ X).mono ?_
   rintro e i ⟨rfl,c⟩;rw[c,O.out];clear c i;go_wp2_with fail;refine(aM b _ Y).mono ?_
   rintro e i ⟨rfl,c⟩;rw[c,S.out];clear c i;go_wp2_with fail;refine(aM m _ hm).mono ?_
   rintro e i ⟨rfl,c⟩;rw[c,T.out];clear c i;go_wp2;go_ret2;exact⟨_,by rw[J.out];rfl,fun h=>absurd (J.out.symm.trans h) (by decide),aw⟩
 · have J:=ac hE
   obtain⟨hF,hB,hM⟩:aA f.data.toList=true∧aA b.data.toList=true∧aA m.data.toList=true:=by
    rcases kG f b m with⟨M,_⟩|⟨_,M⟩
    · rw[Z]at M;cases M
    · exact M
   have O:=ac hF;have S:=ac hB;have T:=ac hM;clear hF hB hM Z;rcases mF G b ⟨f,m,r⟩with⟨H,F,s⟩|⟨H,F,s⟩|⟨H,hS,P,s⟩|⟨H,hS,P,s⟩|⟨H,hS,F,s⟩|⟨H,hS,F,P,s⟩|⟨H,hS,F,P,s⟩
   · have N:=ac (hE.trans s)
     have hz:(r==0)=false:=by simpa using H
     have E2:(aL G f b !=3)=true:=by simpa using F
     clear H F hE s Q J;cases hS:(b.toList==m.toList)
     · go_enter func21,ntmps21
       go_wp2_with fail;refine(aM f _ X).mono ?_
       rintro e i ⟨rfl,c⟩;rw[c,O.out];clear c i;go_wp2_with fail;refine(aM b _ Y).mono ?_
       rintro e i ⟨rfl,c⟩;rw[c,S.out];clear c i;go_wp2_with fail;refine(aM m _ hm).mono ?_
       rintro e i ⟨rfl,c⟩;rw[c,T.out];clear c i;go_wp2_with fail;refine(cB G _ f b _ I.out).mono ?_
       rintro e w1 ⟨rfl,d⟩;have j:=d;clear d;go_wp2;go_ret2;exact⟨_,by rw[N.out];rfl,fun h=>absurd (N.out.symm.trans h) (by decide),j⟩
     · go_enter func21,ntmps21
       go_wp2_with fail;refine(aM f _ X).mono ?_
       rintro e i ⟨rfl,c⟩;rw[c,O.out];clear c i;go_wp2_with fail;refine(aM b _ Y).mono ?_
       rintro e i ⟨rfl,c⟩;rw[c,S.out];clear c i;go_wp2_with fail;refine(aM m _ hm).mono ?_
       rintro e i ⟨rfl,c⟩;rw[c,T.out];clear c i;go_wp2_with fail;refine(cB G _ f b _ I.out).mono ?_
       rintro e w1 ⟨rfl,d⟩;have j:=d;clear d;go_wp2;go_ret2;exact⟨_,by rw[N.out];rfl,fun h=>absurd (N.out.symm.trans h) (by decide),j⟩
   · exact absurd s Q
   · have N:=ac (hE.trans s)
     have hz:(r==0)=true:=by simpa using H
     have H5:Hid (aL G f m=0):=P;clear H P hE s Q J;by_cases F:aL G f b=3
     · have H3:Hid (aL G f b=3):=F
       clear F;go_enter func21,ntmps21
       go_wp2_with fail;refine(aM f _ X).mono ?_
       rintro e i ⟨rfl,c⟩;rw[c,O.out];clear c i;go_wp2_with fail;refine(aM b _ Y).mono ?_
       rintro e i ⟨rfl,c⟩;rw[c,S.out];clear c i;go_wp2_with fail;refine(aM m _ hm).mono ?_
       rintro e i ⟨rfl,c⟩;rw[c,T.out];clear c i;go_wp2_with fail;refine(cB G _ f b _ I.out).mono ?_
       rintro e w1 ⟨rfl,d⟩;rw[H3.out];have j:=d;clear d;go_wp2_with fail;refine(cB G _ f m _ (I.out.below j)).mono ?_
       rintro e w2 ⟨rfl,d⟩;rw[H5.out];have C:=aG j d;clear d;go_wp2;go_ret2;exact⟨_,by rw[N.out];rfl,fun h=>absurd (N.out.symm.trans h) (by decide),C⟩
     · have E2:(aL G f b !=3)=true:=by simpa using F
       clear F;go_enter func21,ntmps21
       go_wp2_with fail;refine(aM f _ X).mono ?_
       rintro e i ⟨rfl,c⟩;rw[c,O.out];clear c i;go_wp2_with fail;refine(aM b _ Y).mono ?_
       rintro e i ⟨rfl,c⟩;rw[c,S.out];clear c i;go_wp2_with fail;refine(aM m _ hm).mono ?_
       rintro e i ⟨rfl,c⟩;rw[c,T.out];clear c i;go_wp2_with fail;refine(cB G _ f b _ I.out).mono ?_
       rintro e w1 ⟨rfl,d⟩;have j:=d;clear d;go_wp2_with fail;refine(cB G _ f m _ (I.out.below j)).mono ?_
       rintro e w2 ⟨rfl,d⟩;rw[H5.out];have C:=aG j d;clear d;go_wp2;go_ret2;exact⟨_,by rw[N.out];rfl,fun h=>absurd (N.out.symm.trans h) (by decide),C⟩
   · exact absurd s Q
   · have N:=ac (hE.trans s)
     have hz:(r==0)=true:=by simpa using H
     have E2:(aL G f b !=3)=true:=by simpa using F
     clear H F hE s Q J;go_enter func21,ntmps21
     go_wp2_with fail;refine(aM f _ X).mono ?_
     rintro e i ⟨rfl,c⟩;rw[c,O.out];clear c i;go_wp2_with fail;refine(aM b _ Y).mono ?_
     rintro e i ⟨rfl,c⟩;rw[c,S.out];clear c i;go_wp2_with fail;refine(aM m _ hm).mono ?_
     rintro e i ⟨rfl,c⟩;rw[c,T.out];clear c i;go_wp2_with fail;refine(cB G _ f b _ I.out).mono ?_
     rintro e w1 ⟨rfl,d⟩;have j:=d;clear d;go_wp2;go_ret2;exact⟨_,by rw[N.out];rfl,fun h=>absurd (N.out.symm.trans h) (by decide),j⟩
   · have N:=ac (hE.trans s)
     have hz:(r==0)=true:=by simpa using H
     have H3:Hid (aL G f b=3):=F;have H5:Hid (aL G f m=0):=P;clear H F P hE s Q J;go_enter func21,ntmps21
     go_wp2_with fail;refine(aM f _ X).mono ?_
     rintro e i ⟨rfl,c⟩;rw[c,O.out];clear c i;go_wp2_with fail;refine(aM b _ Y).mono ?_
     rintro e i ⟨rfl,c⟩;rw[c,S.out];clear c i;go_wp2_with fail;refine(aM m _ hm).mono ?_
     rintro e i ⟨rfl,c⟩;rw[c,T.out];clear c i;go_wp2_with fail;refine(cB G _ f b _ I.out).mono ?_
     rintro e w1 ⟨rfl,d⟩;rw[H3.out];have j:=d;clear d;go_wp2_with fail;refine(cB G _ f m _ (I.out.below j)).mono ?_
     rintro e w2 ⟨rfl,d⟩;rw[H5.out];have C:=aG j d;clear d;go_wp2;go_ret2;exact⟨_,by rw[N.out];rfl,fun h=>absurd (N.out.symm.trans h) (by decide),C⟩
   · exact absurd s Q
 · have J:=ac hE
   obtain⟨hF,hB,hM⟩:aA f.data.toList=true∧aA b.data.toList=true∧aA m.data.toList=true:=by
    rcases kG f b m with⟨M,_⟩|⟨_,M⟩
    · rw[Z]at M;cases M
    · exact M
   have O:=ac hF;have S:=ac hB;have T:=ac hM;clear hF hB hM Z;have HA:=ac ha;clear ha;rcases mF G b ⟨f,m,r⟩with⟨H,F,s⟩|⟨H,F,s⟩|⟨H,hS,P,s⟩|⟨H,hS,P,s⟩|⟨H,hS,F,s⟩|⟨H,hS,F,P,s⟩|⟨H,hS,F,P,s⟩
   · rw[Q]at s;cases s
   · have hz:(r==0)=false:=by simpa using H
     have H3:Hid (aL G f b=3):=F;clear H F hE s Q;go_enter func21,ntmps21
     go_wp2_with fail;refine(aM f _ X).mono ?_
     rintro e i ⟨rfl,c⟩;rw[c,O.out];clear c i;go_wp2_with fail;refine(aM b _ Y).mono ?_
     rintro e i ⟨rfl,c⟩;rw[c,S.out];clear c i;go_wp2_with fail;refine(aM m _ hm).mono ?_
     rintro e i ⟨rfl,c⟩;rw[c,T.out];clear c i;go_wp2_with fail;refine(cB G _ f b _ I.out).mono ?_
     rintro e w1 ⟨rfl,d⟩;rw[H3.out];have j:=d;clear d;go_wp2_with fail;refine(gv G _ f m r _ (I.out.below j) (by omega)).mono ?_
     rintro e w5 ⟨u,rfl,g,B⟩;rw[U.out]at g;have o:=ac (fR g (by omega));have x:=aG j B;clear g B;go_wp2_with fail;refine(gp _ _ f _ o.out).mono ?_
     rintro e w6 ⟨rfl,E⟩;rw[HA.out];have A:=aG x E;go_wp2;go_ret2;exact⟨_,by rw[J.out];rfl,fun h=>absurd (J.out.symm.trans h) (by decide),A⟩
   · rw[Q]at s;cases s
   · have hz:(r==0)=true:=by simpa using H
     have E3:(aL G f m==0)=false:=by simpa using P
     clear H P hE s Q;by_cases F:aL G f b=3
     · have H3:Hid (aL G f b=3):=F
       clear F;go_enter func21,ntmps21
       go_wp2_with fail;refine(aM f _ X).mono ?_
       rintro e i ⟨rfl,c⟩;rw[c,O.out];clear c i;go_wp2_with fail;refine(aM b _ Y).mono ?_
       rintro e i ⟨rfl,c⟩;rw[c,S.out];clear c i;go_wp2_with fail;refine(aM m _ hm).mono ?_
       rintro e i ⟨rfl,c⟩;rw[c,T.out];clear c i;go_wp2_with fail;refine(cB G _ f b _ I.out).mono ?_
       rintro e w1 ⟨rfl,d⟩;rw[H3.out];have j:=d;clear d;go_wp2_with fail;refine(cB G _ f m _ (I.out.below j)).mono ?_
       rintro e w2 ⟨rfl,d⟩;have C:=aG j d;clear d;generalize aL G f m=z at*;go_wp2_with fail;refine(gv G _ f m r _ (I.out.below C) (by omega)).mono ?_
       rintro e w5 ⟨u,rfl,g,B⟩;rw[U.out]at g;have o:=ac (fR g (by omega));have x:=aG C B;clear g B;go_wp2_with fail;refine(gp _ _ f _ o.out).mono ?_
       rintro e w6 ⟨rfl,E⟩;rw[HA.out];have A:=aG x E;go_wp2;go_ret2;exact⟨_,by rw[J.out];rfl,fun h=>absurd (J.out.symm.trans h) (by decide),A⟩
     · have E2:(aL G f b !=3)=true:=by simpa using F
       clear F;go_enter func21,ntmps21
       go_wp2_with fail;refine(aM f _ X).mono ?_
       rintro e i ⟨rfl,c⟩;rw[c,O.out];clear c i;go_wp2_with fail;refine(aM b _ Y).mono ?_
       rintro e i ⟨rfl,c⟩;rw[c,S.out];clear c i;go_wp2_with fail;refine(aM m _ hm).mono ?_
       rintro e i ⟨rfl,c⟩;rw[c,T.out];clear c i;go_wp2_with fail;refine(cB G _ f b _ I.out).mono ?_
       rintro e w1 ⟨rfl,d⟩;have j:=d;clear d;go_wp2_with fail;refine(cB G _ f m _ (I.out.below j)).mono ?_
       rintro e w2 ⟨rfl,d⟩;have C:=aG j d;clear d;go_wp2_with fail;refine(gv G _ f m r _ (I.out.below C) (by omega)).mono ?_
       rintro e w5 ⟨u,rfl,g,B⟩;rw[U.out]at g;have o:=ac (fR g (by omega));have x:=aG C B;clear g B;go_wp2_with fail;refine(gp _ _ f _ o.out).mono ?_
       rintro e w6 ⟨rfl,E⟩;rw[HA.out];have A:=aG x E;go_wp2;go_ret2;exact⟨_,by rw[J.out];rfl,fun h=>absurd (J.out.symm.trans h) (by decide),A⟩
   · rw[Q]at s;cases s
   · rw[Q]at s;cases s
   · have hz:(r==0)=true:=by simpa using H
     have H3:Hid (aL G f b=3):=F;have E3:(aL G f m==0)=false:=by simpa using P
     clear H F P hE s Q;go_enter func21,ntmps21
     go_wp2_with fail;refine(aM f _ X).mono ?_
     rintro e i ⟨rfl,c⟩;rw[c,O.out];clear c i;go_wp2_with fail;refine(aM b _ Y).mono ?_
     rintro e i ⟨rfl,c⟩;rw[c,S.out];clear c i;go_wp2_with fail;refine(aM m _ hm).mono ?_
     rintro e i ⟨rfl,c⟩;rw[c,T.out];clear c i;go_wp2_with fail;refine(cB G _ f b _ I.out).mono ?_
     rintro e w1 ⟨rfl,d⟩;rw[H3.out];have j:=d;clear d;go_wp2_with fail;refine(cB G _ f m _ (I.out.below j)).mono ?_
     rintro e w2 ⟨rfl,d⟩;have C:=aG j d;clear d;generalize aL G f m=z at*;go_wp2_with fail;refine(gv G _ f m r _ (I.out.below C) (by omega)).mono ?_
     rintro e w5 ⟨u,rfl,g,B⟩;rw[U.out]at g;have o:=ac (fR g (by omega));have x:=aG C B;clear g B;go_wp2_with fail;refine(gp _ _ f _ o.out).mono ?_
     rintro e w6 ⟨rfl,E⟩;rw[HA.out];have A:=aG x E;go_wp2;go_ret2;exact⟨_,by rw[J.out];rfl,fun h=>absurd (J.out.symm.trans h) (by decide),A⟩
 · have J:=ac hE
   obtain⟨hF,hB,hM⟩:aA f.data.toList=true∧aA b.data.toList=true∧aA m.data.toList=true:=by
    rcases kG f b m with⟨M,_⟩|⟨_,M⟩
    · rw[Z]at M;cases M
    · exact M
   have O:=ac hF;have S:=ac hB;have T:=ac hM;clear hF hB hM Z;have HA:=ac ha;clear ha;rcases mF G b ⟨f,m,r⟩with⟨H,F,s⟩|⟨H,F,s⟩|⟨H,hS,P,s⟩|⟨H,hS,P,s⟩|⟨H,hS,F,s⟩|⟨H,hS,F,P,s⟩|⟨H,hS,F,P,s⟩
   · rw[Q]at s;cases s
   · have hz:(r==0)=false:=by simpa using H
     have H3:Hid (aL G f b=3):=F;clear H F hE s Q;go_enter func21,ntmps21
     go_wp2_with fail;refine(aM f _ X).mono ?_
     rintro e i ⟨rfl,c⟩;rw[c,O.out];clear c i;go_wp2_with fail;refine(aM b _ Y).mono ?_
     rintro e i ⟨rfl,c⟩;rw[c,S.out];clear c i;go_wp2_with fail;refine(aM m _ hm).mono ?_
     rintro e i ⟨rfl,c⟩;rw[c,T.out];clear c i;go_wp2_with fail;refine(cB G _ f b _ I.out).mono ?_
     rintro e w1 ⟨rfl,d⟩;rw[H3.out];have j:=d;clear d;go_wp2_with fail;refine(gv G _ f m r _ (I.out.below j) (by omega)).mono ?_
     rintro e w5 ⟨u,rfl,g,B⟩;rw[U.out]at g;have o:=ac (fR g (by omega));have x:=aG j B;clear g B;go_wp2_with fail;refine(gp _ _ f _ o.out).mono ?_
     rintro e w6 ⟨rfl,E⟩;rw[HA.out];have A:=aG x E;have K:=ac (o.out.below E);obtain⟨a,E0,hu,V,R,_⟩:=o.out
     subst hu;have E1:60<((cC ⟨f,m,r⟩ G).length:Int):=by omega
     go_wp2;go_ret2;exact⟨_,by rw[J.out];rfl,fun h=>absurd (J.out.symm.trans h) (by decide),A⟩
   · rw[Q]at s;cases s
   · have hz:(r==0)=true:=by simpa using H
     have E3:(aL G f m==0)=false:=by simpa using P
     clear H P hE s Q;by_cases F:aL G f b=3
     · have H3:Hid (aL G f b=3):=F
       clear F;go_enter func21,ntmps21
       go_wp2_with fail;refine(aM f _ X).mono ?_
       rintro e i ⟨rfl,c⟩;rw[c,O.out];clear c i;go_wp2_with fail;refine(aM b _ Y).mono ?_
       rintro e i ⟨rfl,c⟩;rw[c,S.out];clear c i;go_wp2_with fail;refine(aM m _ hm).mono ?_
       rintro e i ⟨rfl,c⟩;rw[c,T.out];clear c i;go_wp2_with fail;refine(cB G _ f b _ I.out).mono ?_
       rintro e w1 ⟨rfl,d⟩;rw[H3.out];have j:=d;clear d;go_wp2_with fail;refine(cB G _ f m _ (I.out.below j)).mono ?_
       rintro e w2 ⟨rfl,d⟩;have C:=aG j d;clear d;generalize aL G f m=z at*;go_wp2_with fail;refine(gv G _ f m r _ (I.out.below C) (by omega)).mono ?_
       rintro e w5 ⟨u,rfl,g,B⟩;rw[U.out]at g;have o:=ac (fR g (by omega));have x:=aG C B;clear g B;go_wp2_with fail;refine(gp _ _ f _ o.out).mono ?_
       rintro e w6 ⟨rfl,E⟩;rw[HA.out];have A:=aG x E;have K:=ac (o.out.below E);obtain⟨a,E0,hu,V,R,_⟩:=o.out
       subst hu;have E1:60<((cC ⟨f,m,r⟩ G).length:Int):=by omega
       go_wp2;go_ret2;exact⟨_,by rw[J.out];rfl,fun h=>absurd (J.out.symm.trans h) (by decide),A⟩
     · have E2:(aL G f b !=3)=true:=by simpa using F
       clear F;go_enter func21,ntmps21
       go_wp2_with fail;refine(aM f _ X).mono ?_
       rintro e i ⟨rfl,c⟩;rw[c,O.out];clear c i;go_wp2_with fail;refine(aM b _ Y).mono ?_
       rintro e i ⟨rfl,c⟩;rw[c,S.out];clear c i;go_wp2_with fail;refine(aM m _ hm).mono ?_
       rintro e i ⟨rfl,c⟩;rw[c,T.out];clear c i;go_wp2_with fail;refine(cB G _ f b _ I.out).mono ?_
       rintro e w1 ⟨rfl,d⟩;have j:=d;clear d;go_wp2_with fail;refine(cB G _ f m _ (I.out.below j)).mono ?_
       rintro e w2 ⟨rfl,d⟩;have C:=aG j d;clear d;go_wp2_with fail;refine(gv G _ f m r _ (I.out.below C) (by omega)).mono ?_
       rintro e w5 ⟨u,rfl,g,B⟩;rw[U.out]at g;have o:=ac (fR g (by omega));have x:=aG C B;clear g B;go_wp2_with fail;refine(gp _ _ f _ o.out).mono ?_
       rintro e w6 ⟨rfl,E⟩;rw[HA.out];have A:=aG x E;have K:=ac (o.out.below E);obtain⟨a,E0,hu,V,R,_⟩:=o.out
       subst hu;have E1:60<((cC ⟨f,m,r⟩ G).length:Int):=by omega
       go_wp2;go_ret2;exact⟨_,by rw[J.out];rfl,fun h=>absurd (J.out.symm.trans h) (by decide),A⟩
   · rw[Q]at s;cases s
   · rw[Q]at s;cases s
   · have hz:(r==0)=true:=by simpa using H
     have H3:Hid (aL G f b=3):=F;have E3:(aL G f m==0)=false:=by simpa using P
     clear H F P hE s Q;go_enter func21,ntmps21
     go_wp2_with fail;refine(aM f _ X).mono ?_
     rintro e i ⟨rfl,c⟩;rw[c,O.out];clear c i;go_wp2_with fail;refine(aM b _ Y).mono ?_
     rintro e i ⟨rfl,c⟩;rw[c,S.out];clear c i;go_wp2_with fail;refine(aM m _ hm).mono ?_
     rintro e i ⟨rfl,c⟩;rw[c,T.out];clear c i;go_wp2_with fail;refine(cB G _ f b _ I.out).mono ?_
     rintro e w1 ⟨rfl,d⟩;rw[H3.out];have j:=d;clear d;go_wp2_with fail;refine(cB G _ f m _ (I.out.below j)).mono ?_
     rintro e w2 ⟨rfl,d⟩;have C:=aG j d;clear d;generalize aL G f m=z at*;go_wp2_with fail;refine(gv G _ f m r _ (I.out.below C) (by omega)).mono ?_
     rintro e w5 ⟨u,rfl,g,B⟩;rw[U.out]at g;have o:=ac (fR g (by omega));have x:=aG C B;clear g B;go_wp2_with fail;refine(gp _ _ f _ o.out).mono ?_
     rintro e w6 ⟨rfl,E⟩;rw[HA.out];have A:=aG x E;have K:=ac (o.out.below E);obtain⟨a,E0,hu,V,R,_⟩:=o.out
     subst hu;have E1:60<((cC ⟨f,m,r⟩ G).length:Int):=by omega
     go_wp2;go_ret2;exact⟨_,by rw[J.out];rfl,fun h=>absurd (J.out.symm.trans h) (by decide),A⟩
 · have J:=ac hE
   obtain⟨hF,hB,hM⟩:aA f.data.toList=true∧aA b.data.toList=true∧aA m.data.toList=true:=by
    rcases kG f b m with⟨M,_⟩|⟨_,M⟩
    · rw[Z]at M;cases M
    · exact M
   have O:=ac hF;have S:=ac hB;have T:=ac hM;clear hF hB hM Z;have HA:=ac ha;clear ha;rcases mF G b ⟨f,m,r⟩with⟨H,F,s⟩|⟨H,F,s⟩|⟨H,hS,P,s⟩|⟨H,hS,P,s⟩|⟨H,hS,F,s⟩|⟨H,hS,F,P,s⟩|⟨H,hS,F,P,s⟩
   · rw[Q]at s;cases s
   · have hz:(r==0)=false:=by simpa using H
     have H3:Hid (aL G f b=3):=F;clear H F hE s Q;go_enter func21,ntmps21
     go_wp2_with fail;refine(aM f _ X).mono ?_
     rintro e i ⟨rfl,c⟩;rw[c,O.out];clear c i;go_wp2_with fail;refine(aM b _ Y).mono ?_
     rintro e i ⟨rfl,c⟩;rw[c,S.out];clear c i;go_wp2_with fail;refine(aM m _ hm).mono ?_
     rintro e i ⟨rfl,c⟩;rw[c,T.out];clear c i;go_wp2_with fail;refine(cB G _ f b _ I.out).mono ?_
     rintro e w1 ⟨rfl,d⟩;rw[H3.out];have j:=d;clear d;go_wp2_with fail;refine(gv G _ f m r _ (I.out.below j) (by omega)).mono ?_
     rintro e w5 ⟨u,rfl,g,B⟩;rw[U.out]at g;have o:=ac (fR g (by omega));have x:=aG j B;clear g B;go_wp2_with fail;refine(gp _ _ f _ o.out).mono ?_
     rintro e w6 ⟨rfl,E⟩;rw[HA.out];have A:=aG x E;have K:=ac (o.out.below E);obtain⟨a,E0,hu,V,R,_⟩:=o.out
     subst hu;have E1: ¬60<((cC ⟨f,m,r⟩ G).length:Int):=by omega
     go_wp2;go_ret2;exact⟨_,by rw[J.out];rfl,fun _=>K.out,A⟩
   · rw[Q]at s;cases s
   · have hz:(r==0)=true:=by simpa using H
     have E3:(aL G f m==0)=false:=by simpa using P
     clear H P hE s Q;by_cases F:aL G f b=3
     · have H3:Hid (aL G f b=3):=F
       clear F;go_enter func21,ntmps21
       go_wp2_with fail;refine(aM f _ X).mono ?_
       rintro e i ⟨rfl,c⟩;rw[c,O.out];clear c i;go_wp2_with fail;refine(aM b _ Y).mono ?_
       rintro e i ⟨rfl,c⟩;rw[c,S.out];clear c i;go_wp2_with fail;refine(aM m _ hm).mono ?_
       rintro e i ⟨rfl,c⟩;rw[c,T.out];clear c i;go_wp2_with fail;refine(cB G _ f b _ I.out).mono ?_
       rintro e w1 ⟨rfl,d⟩;rw[H3.out];have j:=d;clear d;go_wp2_with fail;refine(cB G _ f m _ (I.out.below j)).mono ?_
       rintro e w2 ⟨rfl,d⟩;have C:=aG j d;clear d;generalize aL G f m=z at*;go_wp2_with fail;refine(gv G _ f m r _ (I.out.below C) (by omega)).mono ?_
       rintro e w5 ⟨u,rfl,g,B⟩;rw[U.out]at g;have o:=ac (fR g (by omega));have x:=aG C B;clear g B;go_wp2_with fail;refine(gp _ _ f _ o.out).mono ?_
       rintro e w6 ⟨rfl,E⟩;rw[HA.out];have A:=aG x E;have K:=ac (o.out.below E);obtain⟨a,E0,hu,V,R,_⟩:=o.out
       subst hu;have E1: ¬60<((cC ⟨f,m,r⟩ G).length:Int):=by omega
       go_wp2;go_ret2;exact⟨_,by rw[J.out];rfl,fun _=>K.out,A⟩
     · have E2:(aL G f b !=3)=true:=by simpa using F
       clear F;go_enter func21,ntmps21
       go_wp2_with fail;refine(aM f _ X).mono ?_
       rintro e i ⟨rfl,c⟩;rw[c,O.out];clear c i;go_wp2_with fail;refine(aM b _ Y).mono ?_
       rintro e i ⟨rfl,c⟩;rw[c,S.out];clear c i;go_wp2_with fail;refine(aM m _ hm).mono ?_
       rintro e i ⟨rfl,c⟩;rw[c,T.out];clear c i;go_wp2_with fail;refine(cB G _ f b _ I.out).mono ?_
       rintro e w1 ⟨rfl,d⟩;have j:=d;clear d;go_wp2_with fail;refine(cB G _ f m _ (I.out.below j)).mono ?_
       rintro e w2 ⟨rfl,d⟩;have C:=aG j d;clear d;go_wp2_with fail;refine(gv G _ f m r _ (I.out.below C) (by omega)).mono ?_
       rintro e w5 ⟨u,rfl,g,B⟩;rw[U.out]at g;have o:=ac (fR g (by omega));have x:=aG C B;clear g B;go_wp2_with fail;refine(gp _ _ f _ o.out).mono ?_
       rintro e w6 ⟨rfl,E⟩;rw[HA.out];have A:=aG x E;have K:=ac (o.out.below E);obtain⟨a,E0,hu,V,R,_⟩:=o.out
       subst hu;have E1: ¬60<((cC ⟨f,m,r⟩ G).length:Int):=by omega
       go_wp2;go_ret2;exact⟨_,by rw[J.out];rfl,fun _=>K.out,A⟩
   · rw[Q]at s;cases s
   · rw[Q]at s;cases s
   · have hz:(r==0)=true:=by simpa using H
     have H3:Hid (aL G f b=3):=F;have E3:(aL G f m==0)=false:=by simpa using P
     clear H F P hE s Q;go_enter func21,ntmps21
     go_wp2_with fail;refine(aM f _ X).mono ?_
     rintro e i ⟨rfl,c⟩;rw[c,O.out];clear c i;go_wp2_with fail;refine(aM b _ Y).mono ?_
     rintro e i ⟨rfl,c⟩;rw[c,S.out];clear c i;go_wp2_with fail;refine(aM m _ hm).mono ?_
     rintro e i ⟨rfl,c⟩;rw[c,T.out];clear c i;go_wp2_with fail;refine(cB G _ f b _ I.out).mono ?_
     rintro e w1 ⟨rfl,d⟩;rw[H3.out];have j:=d;clear d;go_wp2_with fail;refine(cB G _ f m _ (I.out.below j)).mono ?_
     rintro e w2 ⟨rfl,d⟩;have C:=aG j d;clear d;generalize aL G f m=z at*;go_wp2_with fail;refine(gv G _ f m r _ (I.out.below C) (by omega)).mono ?_
     rintro e w5 ⟨u,rfl,g,B⟩;rw[U.out]at g;have o:=ac (fR g (by omega));have x:=aG C B;clear g B;go_wp2_with fail;refine(gp _ _ f _ o.out).mono ?_
     rintro e w6 ⟨rfl,E⟩;rw[HA.out];have A:=aG x E;have K:=ac (o.out.below E);obtain⟨a,E0,hu,V,R,_⟩:=o.out
     subst hu;have E1: ¬60<((cC ⟨f,m,r⟩ G).length:Int):=by omega
     go_wp2;go_ret2;exact⟨_,by rw[J.out];rfl,fun _=>K.out,A⟩
theorem Dm (G:List Gr) (v:Value) (f m:ByteArray) (w:World) (V:bj w v G) (N:f.size≤150000000000000) (U:m.size≤150000000000000) (C:bh G=0):
    Calls prog 20 #[v,f,m] w fun e w'=> ∃u,e= .returned (.tuple #[u,Pp.mkE G f m])∧(Pp.mkE G f m=0→bj w' u (cC ⟨f,m,3⟩ G))∧Below w.heap.size w w':=by
 have Q:=ac V;obtain⟨T,_,o,_⟩:=jP C
 have I:=ac (vA (f:=f) (h:=m) (r:=3) ((mr G).1 o));have E0:=qx ⟨f,m,3⟩ G;clear o C;obtain⟨a0,R,rfl,K,M,_⟩:=V
 rcases uV G f m with⟨j,hE⟩|⟨j,z,hE⟩|⟨j,z,X,hE⟩|⟨j,z,X,hE⟩
 · have d:=ac hE
   rcases uY f m with⟨_,hF|⟨hF,hM⟩⟩|⟨s,_⟩
   · have x:=ac hF
     clear hF hE j;go_enter func20,ntmps20
     go_wp2_with fail;refine(aM f _ N).mono ?_
     rintro e i ⟨rfl,a⟩;rw[a,x.out];clear a i;go_wp2;go_ret2;exact⟨_,by rw[d.out];rfl,fun h=>absurd (d.out.symm.trans h) (by decide),aw⟩
   · have x:=ac hF
     have H:=ac hM;clear hF hM hE j;go_enter func20,ntmps20
     go_wp2_with fail;refine(aM f _ N).mono ?_
     rintro e i ⟨rfl,a⟩;rw[a,x.out];clear a i;go_wp2_with fail;refine(aM m _ U).mono ?_
     rintro e i ⟨rfl,a⟩;rw[a,H.out];clear a i;go_wp2;go_ret2;exact⟨_,by rw[d.out];rfl,fun h=>absurd (d.out.symm.trans h) (by decide),aw⟩
   · rw[j]at s;cases s
 all_goals
  have d:=ac hE
  obtain⟨hF,hM⟩:aA f.data.toList=true∧aA m.data.toList=true:=by
   rcases uY f m with⟨s,_⟩|⟨_,s⟩
   · rw[j]at s;cases s
   · exact s
  have x:=ac hF;have H:=ac hM;clear hF hM j hE
  first
   |(have P:0<(dt G f).length:=uW z)
   |(have P:(dt G f).length=0:=uX z)
  clear z;go_enter func20,ntmps20
  go_wp2_with fail;refine(aM f _ N).mono ?_
  rintro e i ⟨rfl,a⟩;rw[a,x.out];clear a i;go_wp2_with fail;refine(aM m _ U).mono ?_
  rintro e i ⟨rfl,a⟩;rw[a,H.out];clear a i;go_wp2_with fail;refine(uQ G _ f _ Q.out (by omega)).mono ?_
  rintro e w1 ⟨u1,rfl,O,g⟩;obtain⟨a1,S,rfl,Y,Z,_⟩:=O
 · have E:0<((dt G f).length:Int):=by omega
   go_wp2;go_ret2;exact⟨_,by rw[d.out];rfl,fun h=>absurd (d.out.symm.trans h) (by decide),g⟩
 · have E: ¬0<((dt G f).length:Int):=by omega
   have J:(((G.length:Nat):Int)==60)=true:=by simp;omega
   go_wp2;go_ret2;exact⟨_,by rw[d.out];rfl,fun h=>absurd (d.out.symm.trans h) (by decide),g⟩
 · have E: ¬0<((dt G f).length:Int):=by omega
   have J:(((G.length:Nat):Int)==60)=false:=by simp;omega
   go_wp2_with fail;refine(gv G _ f m 3 _ (Q.out.below g) (by omega)).mono ?_
   rintro e w5 ⟨u,rfl,c,B⟩;rw[I.out]at c;have F:=ac (fR c (by omega));have A:=aG g B;clear c B;go_wp2;go_ret2;exact⟨_,by rw[d.out];rfl,fun _=>F.out,A⟩
theorem Dn {f m:ByteArray} {e:Gr}:dI f m e=true↔e.fo.toList=f.toList∧e.wh.toList=m.toList:=by simp[dI]
theorem Do {G:List Gr}:eP G=0↔ ∀g∈G,b9 g=0:=by
 induction G with
 |nil=>simp[eP]
 |cons g r ih=>
  rw[eP];by_cases h:b9 g=0
  · rw[if_pos h,ih];simp[h]
  · rw[if_neg h];simp[h]
end Go.Proofs.YtdlpjlfefjipkaaGreat
