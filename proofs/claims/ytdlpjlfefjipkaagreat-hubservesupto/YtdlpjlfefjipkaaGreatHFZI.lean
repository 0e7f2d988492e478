/- What the reference's CheckJournal and TreeOf answer; the law JournalChecks. -/
import Derived.Test.YtdlpjlfefjipkaaGreatHFZG
import Derived.Test.YtdlpjlfefjipkaaGreatHFZH
set_option linter.unusedSimpArgs false
set_option linter.unusedVariables false
namespace Go.Proofs.YtdlpjlfefjipkaaGreat
open Go.RowKit Go.Proofs.Tryz
set_option maxHeartbeats 16000000
set_option maxRecDepth 100000
theorem Cv (J:Jo) (v:Value) (w:World) (x:cV w v J) (u: ∀e∈J.base,e.path.size≤1000000000) (g:dm 1000000000 J.cos):
    Calls prog 13 #[v] w fun e w'=>e= .returned (.int .i64 (aT J))∧Below w.heap.size w w':=by
 have A:=hid x;have z:=hid u;have i:=hid g;obtain⟨E,F,rfl,o,s⟩:=x
 obtain⟨B,a,rfl,_⟩:=o
 obtain⟨C,c,rfl,_⟩:=s
 clear u g;have f:Below w.heap.size w (w.alloc (.cells #[.slice B J.base.length a,J.first,.slice C J.cos.length c] 57)):=ak;go_enter func13,ntmps13
 go_wp2_with fail;refine(uT J _ _ (A.out.below f) z.out i.out).mono ?_
 rintro e G ⟨p,rfl,_,j⟩;have d:=an f j;go_wp2;go_ret;exact⟨rfl,d⟩
theorem vJ (J:Jo) (v:Value) (w:World) (K:cV w v J) (I: ∀e∈J.base,e.path.size≤1000000000) (s:dm 1000000000 J.cos) (B:aT J=0):
    Calls prog 48 #[v] w fun e w'=> ∃r,e= .returned r∧aF w' r (Jn.tree J)∧Below w.heap.size w w':=by
 have P:=hid K;have O:=hid I;have x:=hid s;have N:=hid B;have A:=hid (yd B);obtain⟨Z,vc,rfl,F,G⟩:=K
 obtain⟨Q,d,rfl,_⟩:=F
 obtain⟨R,f,rfl,_⟩:=G
 clear I s B;have j:Below w.heap.size w (w.alloc (.cells #[.slice Q J.base.length d,J.first,.slice R J.cos.length f] 57)):=ak;go_enter func48,ntmps48
 go_wp2_with fail;refine(uT J _ _ (P.out.below j) O.out x.out).mono ?_
 rintro e w1 ⟨p,rfl,H,C⟩;obtain⟨a,S,rfl,T,U,g⟩:=H N.out
 obtain⟨b,o,u,rfl,X,E,c⟩:=g J.cos.length (by omega)
 rw[←A.out]at c;have z:=hid c;obtain⟨Y,M,rfl,_⟩:=c
 have i:=an j C;have V:IntKind.i64.wrap (((J.cos.length+1:Nat):Int)-1)=(J.cos.length:Int):=by rw[IntKind.wrap_i64];omega
 have e2:(J.cos.length:Int)<((J.cos.length+1:Nat):Int):=by omega
 clear H g;go_wp2;go_ret;exact⟨_,rfl,z.out,i⟩
theorem Cw (H:Hb) (q:Rq) (T x S vs:Value) (B g K:Nat) (w:World) (v:Sv B w g K x S vs H) (J:g<B) (X:B≤w.heap.size) (P:eu H.gs) (O:dQ H.fos=true) (V:H.fos.length≤8) (Z:bH w T q) (u:cE q) (f:mB B x H.fos (cj H.fos q.fo) q.fo) (Y:q.kind=8):
    Calls prog 42 #[.pointer (some ⟨g,0,none⟩),T] w fun z w'=>z= .returned (.tuple #[ah,Hu.mkE H q.fo q.who])∧bU w' g K (eT H q.fo q.who)∧aZ w w' g (bo x g):=by
 have j:=hid f;have F:=hid P;have U:=hid O;clear f P O;have I:=hid v;have G:=hid u;clear v u;obtain⟨va,rfl,R⟩:=Z
 have A:=hid R;obtain⟨M,N,rfl,_⟩:=R
 obtain⟨kind,who,fo,name,key,text,num,off,base,ch⟩:=q
 simp only at*;obtain⟨i,d⟩: ∃i,i=w.alloc (.cells #[kind,who,fo,name,key,text,num,off,base,.slice M ch.length N] 31):=⟨_,rfl⟩
 have c:Below w.heap.size w i:=by rw[d];exact ak
 have a:Hid (Cs i w.heap.size [kind,who,fo,name,key,text,num,off,base,.slice M ch.length N]):=(by rw[d];exact Cs.new w [kind,who,fo,name,key,text,num,off,base,.slice M ch.length N] _:Cs i w.heap.size _)
 subst Y;have x0:=a.out.cell 0 rfl;have x1:=a.out.cell 1 rfl;have x2:=a.out.cell 2 rfl;have x3:=a.out.cell 3 rfl;have x4:=a.out.cell 4 rfl;have x5:=a.out.cell 5 rfl;have x6:=a.out.cell 6 rfl;have x7:=a.out.cell 7 rfl;have x8:=a.out.cell 8 rfl;have x9:=a.out.cell 9 rfl;have Q:=c.size;go_enter func42,ntmps42
 go_upto_region 1 with fail;rw[←d];clear d;go_wp2_with fail;refine(BS H ⟨8,who,fo,name,key,text,num,off,base,ch⟩ _ x S vs B g K i (I.out.below c) J (by omega) F.out U.out V ⟨_,rfl,A.out.below c⟩ G.out j.out).mono ?_
 rintro z w3 ⟨rfl,s,o⟩;have E:=hid s;have C:=hid (show aZ w w3 g (bo x g)from(aZ.of_below _ _ c).trans o);clear s o;go_wp2_with fail;go_ret2;exact⟨rfl,E.out,C.out⟩
theorem Cx (H:Hb) (q:Rq) (S A R vs:Value) (B g x n:Nat) (w:World) (v:Sv B w g x A R vs H) (N:dZ w x n H) (I:g<B) (O:jN H.fos) (X:bH w S q) (u:cE q) (M:aV H.fos H.gs q.fo<H.fos.length) (V:q.kind=1):
    Calls prog 42 #[.pointer (some ⟨g,0,none⟩),S] w fun z w'=>z= .returned (.tuple #[gx H (aV H.fos H.gs q.fo) q.key q.ch,ew H (aV H.fos H.gs q.fo) q.key q.ch])∧bU w' g x (eS H (aV H.fos H.gs q.fo) q.key q.ch)∧aZ w w' g (bo A g):=by
 have F:=hid O;have U:=hid N;have T:=hid M;clear O N M;have G:=hid v;have j:=hid u;clear v u;obtain⟨Z,rfl,Q⟩:=X
 have i:=hid Q;obtain⟨J,K,rfl,_⟩:=Q
 obtain⟨kind,who,fo,name,key,text,num,off,base,ch⟩:=q
 simp only at*;obtain⟨f,d⟩: ∃f,f=w.alloc (.cells #[kind,who,fo,name,key,text,num,off,base,.slice J ch.length K] 31):=⟨_,rfl⟩
 have c:Below w.heap.size w f:=by rw[d];exact ak
 have a:Hid (Cs f w.heap.size [kind,who,fo,name,key,text,num,off,base,.slice J ch.length K]):=(by rw[d];exact Cs.new w [kind,who,fo,name,key,text,num,off,base,.slice J ch.length K] _:Cs f w.heap.size _)
 subst V;have x0:=a.out.cell 0 rfl;have x1:=a.out.cell 1 rfl;have x2:=a.out.cell 2 rfl;have x3:=a.out.cell 3 rfl;have x4:=a.out.cell 4 rfl;have x5:=a.out.cell 5 rfl;have x6:=a.out.cell 6 rfl;have x7:=a.out.cell 7 rfl;have x8:=a.out.cell 8 rfl;have x9:=a.out.cell 9 rfl;have P:=c.size;go_enter func42,ntmps42
 go_upto_region 1 with fail;rw[←d];clear d;go_wp2_with fail;refine(vu H ⟨1,who,fo,name,key,text,num,off,base,ch⟩ ch _ _ A R vs B g x n f (G.out.below c) (U.out.below c) I F.out ⟨_,rfl,i.out.below c⟩ j.out (i.out.below c) j.out.ch T.out).mono ?_
 rintro z Y ⟨rfl,s,o⟩;have E:=hid s;have C:=hid (show aZ w Y g (bo A g)from(aZ.of_below _ _ c).trans o);clear s o;go_wp2_with fail;go_ret2;exact⟨rfl,E.out,C.out⟩
theorem Cy (H:Hb) (q:Rq) (N M:Value) (g E:Nat) (w:World) (s:bU w g E H) (I:eu H.gs) (P:bH w N q) (o:cE q) (O:q.kind=3):
    Calls prog 42 #[.pointer (some ⟨g,0,none⟩),N] w fun z w'=>z= .returned (.tuple #[ah,eF H.gs q.fo q.who q.name q.num])∧bU w' g E (jR H (eF H.gs q.fo q.who q.name q.num) (eG H.gs q.fo q.who q.name q.num))∧aZ w w' g (bo M g):=by
 have A:=hid I;clear I;have C:=hid s;have B:=hid o;clear s o;obtain⟨R,rfl,K⟩:=P
 have u:=hid K;obtain⟨F,G,rfl,_⟩:=K
 obtain⟨kind,who,fo,name,key,text,num,off,base,ch⟩:=q
 simp only at*;obtain⟨f,d⟩: ∃f,f=w.alloc (.cells #[kind,who,fo,name,key,text,num,off,base,.slice F ch.length G] 31):=⟨_,rfl⟩
 have c:Below w.heap.size w f:=by rw[d];exact ak
 have a:Hid (Cs f w.heap.size [kind,who,fo,name,key,text,num,off,base,.slice F ch.length G]):=(by rw[d];exact Cs.new w [kind,who,fo,name,key,text,num,off,base,.slice F ch.length G] _:Cs f w.heap.size _)
 subst O;have S:=a.out.cell 0 rfl;have T:=a.out.cell 1 rfl;have U:=a.out.cell 2 rfl;have V:=a.out.cell 3 rfl;have X:=a.out.cell 4 rfl;have Y:=a.out.cell 5 rfl;have Z:=a.out.cell 6 rfl;have x7:=a.out.cell 7 rfl;have x8:=a.out.cell 8 rfl;have x9:=a.out.cell 9 rfl;have J:=c.size;go_enter func42,ntmps42
 go_upto_region 1 with fail;rw[←d];clear d;go_wp2_with fail;refine(BZ H ⟨3,who,fo,name,key,text,num,off,base,ch⟩ _ g E f (C.out.below c) A.out ⟨_,rfl,u.out.below c⟩ B.out).mono ?_
 rintro z Q ⟨rfl,j,i⟩;have x:=hid j;have v:=hid (show aZ w Q g (bo M g)from(aZ.of_below _ _ c).trans (aZ.of_left _ i));clear j i;go_wp2_with fail;go_ret2;exact⟨rfl,x.out,v.out⟩
theorem qU {w:World} {base:Nat} {e:TypeId} {size:Nat} {v:Value} {n:Nat} {i:List Value} (h:w.ownsRow base e size v n i): ∃a c,v= .slice a n c:=by
 obtain⟨_,d⟩:=h
 rcases d with⟨rfl,f⟩|⟨g,c,cur,rfl,_⟩
 · exact⟨none,0,by rw[f]⟩
 · exact⟨_,c,rfl⟩
theorem fh {w w':World} {base:Nat} {e:TypeId} {size:Nat} {v:Value} {n:Nat} {c:List Value} {g:Nat} (h:w.ownsRow base e size v n c) (f:w.grownBy w' (some g)) (i:g<base):w'.ownsRow base e size v n c:=
 h.kept (row:=some g) f (by
  cases d:v.ownBlock with
  |none=>exact Or.inl rfl
  |some q=>exact Or.inr (fun a=>by injection a with a;have:=(h.lt q d).1;omega))
theorem vK {l:List Co} {us:List Value} (h:us.length=l.length) (c:Co) (u:Value):bQ (l++[c]) (us++[u])=bQ l us++[dX c u]:=by
 rw[bQ,bQ,List.zipWith_append (by omega)];rfl
theorem fP.snoc {w:World} {l:List Co} {us:List Value} {c:Co} {u:Value} (h:fP w l us) (v:cP w u c.ch):fP w (l++[c]) (us++[u]):=by
 obtain⟨g,o⟩:=h
 refine⟨by simp[g],fun i d x a f=>?_⟩
 by_cases s:i<l.length
 · rw[List.getElem?_append_left s]at a
   rw[List.getElem?_append_left (by omega)]at f;exact o i d x a f
 · rw[List.getElem?_append_right (by omega)]at a f
   rw[g]at f;rcases Nat.lt_or_ge (i-l.length) 1 with j|j
   · have:i-l.length=0:=by omega
     rw[this]at a f;injection a with a
     injection f with f
     rw[←a,←f];exact v
   · rw[List.getElem?_eq_none (by simpa using j)]at a;cases a
theorem vL {w:World} {l:List Co} {us:List Value} (h:fP w l us): ∀r∈bQ l us,r.length=3∧ ∀u∈r,u.oneCell'=true:=by
 intro r f;obtain⟨i,a⟩:=List.getElem?_of_mem f
 have c:i<l.length:=by
  have:=(List.getElem?_eq_some_iff.1 a).1
  rw[fe h.1]at this;exact this
 rw[mn h.1 c]at a;injection a with a
 rw[←a];refine⟨rfl,fun u d=>?_⟩
 simp only[dX,List.mem_cons,List.not_mem_nil,or_false]at d;rcases d with rfl|rfl|rfl
 · rfl
 · rfl
 · obtain⟨_,_,g,_⟩:=h.2 i _ _ (List.getElem?_eq_getElem c) (List.getElem?_eq_getElem (by have:=h.1;omega))
   rw[g];rfl
theorem qV {w w0:World} {base:Nat} {T:TypeId} {v:Value} {l:List Co} {us:List Value} {n:Nat} (h:w.ownsRow base T 3 v n (bQ l us).flatten) (d:n=l.length) (f:l.length≤1000000000) (a:fP w l us):b8 w v l:=by
 have c:=fe a.1;subst d;rw[←c]at h;exact qd a (fJ h (by rw[c];omega) (vL a))
def fj (J:Jo) (i0 k:Nat):List Co:=(J.cos.drop i0).take (k-i0)
theorem qW {J:Jo} {i0 k:Nat} (a:k≤J.cos.length):(fj J i0 k).length=k-i0:=by rw[fj,List.length_take,List.length_drop];omega
theorem Cz {J:Jo} {i0 k:Nat} (h:k<i0):fj J i0 (k+1)=fj J i0 k:=by rw[fj,fj,show k+1-i0=k-i0 by omega]
theorem CA {J:Jo} {i0 k:Nat} (h: ¬k<i0) (a:k<J.cos.length):fj J i0 (k+1)=fj J i0 k++[J.cos[k]]:=by
 rw[fj,fj,show k+1-i0=k-i0+1 by omega,List.take_succ_eq_append_getElem (by rw[List.length_drop];omega),List.getElem_drop];congr 3
 simp only[show i0+(k-i0)=k by omega]
theorem nY (w:World):d6 w (.agg #[false,al,al,ah,false]) bt:=⟨_,_,rfl,gL _,kX _⟩
theorem vM (J:Jo) (v:Value) (c m:Int) (w:World) (hv:cV w v J) (hp: ∀e∈J.base,e.path.size≤1000000000) (F5:dm 1000000000 J.cos) (N:aT J=0):
    Calls prog 22 #[v,.int .i64 c,m] w fun e w'=> ∃r,e= .returned (.tuple #[r,.int .i64 (dN J c m)])∧d6 w' r (ev J c m)∧Below w.heap.size w w':=by
 have HV:=hid hv;have HP:=hid hp;have Ff:=hid F5;obtain⟨i0,Fq,Fw,Fx,Fy⟩:=info_parts Tryz.infoCo
 obtain⟨vb,vc,rfl,Ft,Fv⟩:=hv
 obtain⟨ba,G,rfl,_⟩:=Ft
 obtain⟨ca,H,rfl,Fp,Fe,hC⟩:=Fv
 have HC:Hid (∀i (h:i<J.cos.length),∃b o,ca=some ⟨b,o,none⟩∧b<w.heap.size∧fH w b (o+i*3) J.cos[i]):=hC;clear hp F5 hC;obtain⟨wz,f⟩: ∃wz,wz=(w.alloc (.cells #[.slice ba J.base.length G,J.first,.slice ca J.cos.length H] 57)).alloc (.cells #[false,al,al,ah,false] 36):=⟨_,rfl⟩
 have K:Below w.heap.size w wz:=by rw[f];exact ak.alloc (by simp) _
 have F1:=hid (show Cs wz w.heap.size [.slice ba J.base.length G,J.first,.slice ca J.cos.length H]from by rw[f];exact(Cs.new w [.slice ba J.base.length G,J.first,.slice ca J.cos.length H] _).below ak)
 have a:=hid (show Cs wz (w.heap.size+1) [false,al,al,ah,false]from by
  have:=Cs.new (w.alloc (.cells #[.slice ba J.base.length G,J.first,.slice ca J.cos.length H] 57)) [false,al,al,ah,false] 36
  rw[f];simpa using this)
 have FH:=a.out.lt;have H0:=hid N;have F0:=fp N;obtain⟨f1,f2⟩:=jj.1 F0.2.1
 have FG:=F0.2.2.1;have ES:=hid (zl N);have E8:Jn.last J=J.first-1+J.cos.length:=rfl
 have e1:IntKind.i64.wrap (J.first+(J.cos.length:Int))=J.first+J.cos.length:=by rw[IntKind.wrap_i64];omega
 have e2:IntKind.i64.wrap (J.first+(J.cos.length:Int)-1)=J.first+J.cos.length-1:=by rw[IntKind.wrap_i64];omega
 clear F0;by_cases m1:m<1
 · have hE:=lm (c:=c) N (Or.inl m1)
   have V:=hid hE;have X:=hid (iQ hE (by decide));clear hE N;have Q:=a.out.cell 0 rfl;have R:=a.out.cell 1 rfl;have S:=a.out.cell 2 rfl;have T:=a.out.cell 3 rfl;have U:=a.out.cell 4 rfl;have g0:=a.out.fr 0;have g1:=a.out.fr 1;have g2:=a.out.fr 2;have g3:=a.out.fr 3;have g4:=a.out.fr 4;go_enter func22,ntmps22
   go_wp2_with fail;rw[←f];clear f;refine bodyPost_ret (v:= .tuple #[.agg #[false,al,al,ah,false],.int .i64 3]) (by simp[results,results22,go_sem,Q,R,S,T,U]) rfl ⟨_,by rw[V.out],?_,?_⟩
   · rw[X.out]
     exact nY _
   · exact K
 by_cases m2:10<m
 · have hE:=lm (c:=c) N (Or.inr (Or.inl m2))
   have V:=hid hE;have X:=hid (iQ hE (by decide));clear hE N;have Q:=a.out.cell 0 rfl;have R:=a.out.cell 1 rfl;have S:=a.out.cell 2 rfl;have T:=a.out.cell 3 rfl;have U:=a.out.cell 4 rfl;have g0:=a.out.fr 0;have g1:=a.out.fr 1;have g2:=a.out.fr 2;have g3:=a.out.fr 3;have g4:=a.out.fr 4;go_enter func22,ntmps22
   go_wp2_with fail;rw[←f];clear f;refine bodyPost_ret (v:= .tuple #[.agg #[false,al,al,ah,false],.int .i64 3]) (by simp[results,results22,go_sem,Q,R,S,T,U]) rfl ⟨_,by rw[V.out],?_,?_⟩
   · rw[X.out]
     exact nY _
   · exact K
 by_cases c1:c<0
 · have hE:=lm (m:=m) N (Or.inr (Or.inr c1))
   have V:=hid hE;have X:=hid (iQ hE (by decide));clear hE N;have Q:=a.out.cell 0 rfl;have R:=a.out.cell 1 rfl;have S:=a.out.cell 2 rfl;have T:=a.out.cell 3 rfl;have U:=a.out.cell 4 rfl;have g0:=a.out.fr 0;have g1:=a.out.fr 1;have g2:=a.out.fr 2;have g3:=a.out.fr 3;have g4:=a.out.fr 4;go_enter func22,ntmps22
   go_wp2_with fail;rw[←f];clear f;refine bodyPost_ret (v:= .tuple #[.agg #[false,al,al,ah,false],.int .i64 3]) (by simp[results,results22,go_sem,Q,R,S,T,U]) rfl ⟨_,by rw[V.out],?_,?_⟩
   · rw[X.out]
     exact nY _
   · exact K
 have E9: ¬(m<1∨10<m∨c<0):=by omega
 by_cases c2:Jn.last J<c
 · have hE:=uh N E9 c2
   have Fm:J.first+(J.cos.length:Int)-1<c:=by omega
   clear c2 E8;have V:=hid hE;have X:=hid (iQ hE (by decide));clear hE N;have Q:=a.out.cell 0 rfl;have R:=a.out.cell 1 rfl;have S:=a.out.cell 2 rfl;have T:=a.out.cell 3 rfl;have U:=a.out.cell 4 rfl;have g0:=a.out.fr 0;have g1:=a.out.fr 1;have g2:=a.out.fr 2;have g3:=a.out.fr 3;have g4:=a.out.fr 4;go_enter func22,ntmps22
   go_wp2_with fail;rw[←f];clear f;refine bodyPost_ret (v:= .tuple #[.agg #[false,al,al,ah,false],.int .i64 5]) (by simp[results,results22,go_sem,Q,R,S,T,U]) rfl ⟨_,by rw[V.out],?_,?_⟩
   · rw[X.out]
     exact nY _
   · exact K
 have hE:=ui N E9 c2;have Fm: ¬J.first+(J.cos.length:Int)-1<c:=by omega
 have e3:IntKind.i64.wrap (c+1)=c+1:=by rw[IntKind.wrap_i64];omega
 by_cases c3:c<J.first-1
 · have V:=hid hE
   have X:=hid (show ev J c m=⟨true,Jn.tree J,[],J.first+J.cos.length-1,false⟩from by rw[uj hE c3,E8];congr 1;omega);have Fo:c+1<J.first:=by omega
   clear hE N E9 E8 c2 c3;go_enter func22,ntmps22
   go_wp2_with fail;rw[←f];clear f;refine(vJ J _ _ (HV.out.below K) HP.out Ff.out H0.out).mono ?_
   rintro e w3 ⟨u,rfl,hu,F4⟩;have HU:=hid hu;have B:=hid (a.out.below F4);obtain⟨ua,z,rfl,_⟩:=hu
   have F3:=an K F4;have Q:=B.out.cell 0 rfl;have R:=B.out.cell 1 rfl;have S:=B.out.cell 2 rfl;have T:=B.out.cell 3 rfl;have U:=B.out.cell 4 rfl;have g0:=B.out.fr 0;have g1:=B.out.fr 1;have g2:=B.out.fr 2;have g3:=B.out.fr 3;have g4:=B.out.fr 4;go_wp2;refine bodyPost_ret (v:= .tuple #[.agg #[true,.slice ua (Jn.tree J).length z,al,(J.first+J.cos.length-1:Int),false],ah]) (by simp[results,results22,go_sem,Q,R,S,T,U]) rfl ⟨_,by rw[V.out],?_,?_⟩
   · rw[X.out]
     exact(Bt B.out (P:=⟨true,Jn.tree J,[],J.first+J.cos.length-1,false⟩) ⟨_,_,rfl,HU.out,kX _⟩).2
   · exact(((((F3.setCell (p:=⟨w.heap.size+1,0,none⟩) (Nat.le_succ _) _).setCell (p:=⟨w.heap.size+1,1,none⟩) (Nat.le_succ _) _).setCell (p:=⟨w.heap.size+1,2,none⟩) (Nat.le_succ _) _).setCell (p:=⟨w.heap.size+1,3,none⟩) (Nat.le_succ _) _).setCell (p:=⟨w.heap.size+1,4,none⟩) (Nat.le_succ _) _)
 obtain⟨i,hi⟩: ∃i:Nat,c=J.first-1+i:=⟨(c-(J.first-1)).toNat,by omega⟩
 have FJ:i≤J.cos.length:=by omega
 obtain⟨mm,Fa⟩: ∃mm:Nat,m=mm:=⟨m.toNat,by omega⟩
 have Fo: ¬c+1<J.first:=by omega
 have V:=hid hE
 have X:=hid (show∀k:Nat,k≤J.cos.length→(k=J.cos.length∨k-i=mm)→k-i≤mm→ev J c m=⟨false,[],fj J i k,c+(k-i:Nat),decide (c+(k-i:Nat)<J.first+J.cos.length-1)⟩from by
  intro k hk h1 h2;have hb:fS J c=J.cos.drop i:=by rw[fS];congr 1;omega
  have hf:iP m (J.cos.drop i).length=k-i:=by rw[iP,List.length_drop];omega
  rw[uk hE c3,hb,hf,fj];congr 1
  rw[List.length_drop];exact decide_eq_decide.2 (by omega))
 have HI:=hid hi;have HM:=hid Fa;clear hE N E9 E8 c2 c3 hi Fa;obtain⟨wq,EJ⟩: ∃wq,wq=wz.alloc (.cells #[false,al,al,.int .i64 c,false] 36):=⟨_,rfl⟩
 have E7:Below wz.heap.size wz wq:=by rw[EJ];exact ak
 have Fc:wz.heap.size=w.heap.size+1+1:=by rw[f];simp
 have EU:=hid (show Cs wq (w.heap.size+1+1) [false,al,al,.int .i64 c,false]from by
  have:=Cs.new wz [false,al,al,.int .i64 c,false] 36
  rw[Fc]at this;rw[EJ];exact this)
 have EL:=hid (F1.out.below E7);have EM:=hid (a.out.below E7);have EP:=an K E7;have FC:=EU.out.lt;go_enter func22,ntmps22
 go_wp2_with fail;rw[←f,←EJ];clear f EJ E7 Fc;go_loopw [10] (fun x wr=> ∃(k:Nat) (us:List Value) (va:Value),k≤J.cos.length∧k-i≤mm∧x= .int .i64 k∧Hid (Cs wr (w.heap.size+1+1) [false,al,va,.int .i64 (c+(k-i:Nat)),false])∧Hid (wr.ownsRow (w.heap.size+3) 111 3 va (k-i) (bQ (fj J i k) us).flatten)∧Hid (fP w (fj J i k) us)∧Hid (Cs wr w.heap.size [.slice ba J.base.length G,J.first,.slice ca J.cos.length H])∧Hid (Cs wr (w.heap.size+1) [false,al,al,ah,false])∧Below w.heap.size w wr) (fun x _=>J.cos.length-(intOf x).toNat)
 case atStart=>
  have Fb:fj J i 0=[]:=by rw[fj,Nat.zero_sub,List.take_zero]
  refine⟨0,[],.slice none 0 0,Nat.zero_le _,by omega,rfl,?_,?_,?_,EL,EM,EP⟩
  · rw[show c+((0-i:Nat):Int)=c by omega];exact EU
  · rw[Fb,Nat.zero_sub];exact⟨rfl,Or.inl ⟨rfl,rfl⟩⟩
  · rw[Fb];exact⟨rfl,fun i c u hc=>by simp at hc⟩
 case round=>
  obtain⟨k,us,va,hk,F7,rfl,s,Z,Y,E4,d,A⟩:=hrel
  clear EL EM EP EU F1 a;obtain⟨pa,C,rfl⟩:=qU Z.out
  have FE:=E4.out.cell 1 rfl;have Fz:=E4.out.cell 2 rfl;have p2:=s.out.cell 2 rfl;have p3:=s.out.cell 3 rfl;have FD:=s.out.lt;have q2:=s.out.fr 2;have q3:=s.out.fr 3;by_cases E3:k<J.cos.length
  · obtain⟨b,o,rfl,hb,he⟩:=HC.out k E3
    obtain⟨E6,EW,u,EX,hu⟩:=he
    have d0:=(A.cell (p:=⟨b,o+k*3,none⟩) hb).trans E6;have d1:=(A.cell (p:=⟨b,o+k*3+1,none⟩) hb).trans EW;have d2:=(A.cell (p:=⟨b,o+k*3+2,none⟩) hb).trans EX;have HU:=hid hu;obtain⟨ua,z,rfl,_⟩:=hu
    by_cases FA:k-i<mm
    · have F9:((k-i:Nat):Int)<m:=by rw[HM.out];omega
      by_cases F6:k<i
      · have EY: ¬c<J.cos[k].nu:=by rw[ES.out k E3,HI.out];omega
        have E5:=hid (show k+1-i=k-i from by omega);have E0:=hid (Cz (J:=J) F6);generalize J.cos[k]=ck at*;obtain⟨nu,ke,ch⟩:=ck
        simp only at d0 d1 d2 EY;go_wp2;go_roundw
        case rel=>exact⟨k+1,us,_,by omega,by omega,by simp,by rw[E5.out];exact s,by rw[E5.out,E0.out];exact Z,by rw[E0.out];exact Y,E4,d,A⟩
        case measure=>simp[intOf];omega
      · have EY:c<J.cos[k].nu:=by rw[ES.out k E3,HI.out];omega
        have Fj:=hid (show J.cos[k].nu=c+(k+1-i:Nat)from by rw[ES.out k E3,HI.out];omega);have E5:=hid (show k+1-i=k-i+1 from by omega);have E0:=hid (CA (J:=J) F6 E3);have O:=hid (qW (J:=J) (i0:=i) hk);have Fg:=hid E6;clear E6 EW EX;generalize J.cos[k]=ck at*;obtain⟨nu,ke,ch⟩:=ck
        simp only at d0 d1 d2 EY;have FI:b<wr.heap.size:=Nat.lt_of_lt_of_le hb A.size;have E2:Below wr.heap.size wr (wr.drew.alloc (.cells #[.int .i64 nu,ke,.slice ua ch.length z] 111)):=( aw.drew).alloc ax _;have E:=hid (jQ Z.out E2)
        have Fi:Hid (∀j y,[.int .i64 nu,.string ke,.slice ua ch.length z][j]?=some y→(wr.drew.alloc (.cells #[.int .i64 nu,ke,.slice ua ch.length z] 111)).cell? ((⟨wr.heap.size,0,none⟩:Addr).add j)=some y):=(fun j y hj=>by
         rw[Addr.add_lit,Nat.zero_add];exact(Cs.new wr.drew [.int .i64 nu,ke,.slice ua ch.length z] 111).cell j hj:_)
        have Fl:=hid (show∀u∈[Value.int .i64 nu,.string ke,.slice ua ch.length z],u.oneCell'=true from fun u hu=>by simp at hu;rcases hu with rfl|rfl|rfl<;>rfl);have Fs:k-i≤30:=by omega
        go_wp2_with fail;go_region_law (refine gK rfl (.tmp 67) (.tmp 73) 34 rfl (w.heap.size+3) 111 i0 (.agg #[ah,.string ⟨#[]⟩,al]) 3 48 underlying34 Fq Fw Fx Fy rfl (by decide) (.slice pa (k-i) C) (k-i) _ (by simp[Act.eval,Act.put]) E.out ⟨wr.heap.size,0,none⟩ 1 1 [.int .i64 nu,ke,.slice ua ch.length z] (by simp[Act.eval,Act.put]) rfl Fi.out Fl.out (by unfold maxLen;omega) (by omega) (by simp;omega) ?_;intro v2 w2 EZ I _;obtain⟨a2,EN,rfl⟩:=qU EZ;have Fk:=hid EZ;have F:=hid ((s.out.below E2).row I (fun g hg=>by have:=(E.out.lt g hg).1;omega));have EK:=hid ((E4.out.below E2).row I (fun g hg=>by have:=(E.out.lt g hg).1;omega));have F2:=hid ((d.out.below E2).row I (fun g hg=>by have:=(E.out.lt g hg).1;omega));have EO:Below w.heap.size w w2:=((an A E2).grown I (by simp;omega) (fun g hg=>by have:=(E.out.lt g hg).1;omega));have s2:=F.out.cell 2 rfl;have s3:=F.out.cell 3 rfl;have t2:=F.out.fr 2;have t3:=F.out.fr 3;have r2:=EK.out.cell 2 rfl;clear d0 d1 d2;have d0:=(EO.cell (p:=⟨b,o+k*3,none⟩) hb).trans Fg.out;clear EZ I)
        all_goals
         go_wp2;go_roundw
         case rel=>
          have EQ:w.heap.size≠w.heap.size+1+1:=by omega
          have ER:w.heap.size+1≠w.heap.size+1+1:=by omega
          have F8:w.heap.size≤w.heap.size+1+1:=by omega
          refine⟨k+1,us++[.slice ua ch.length z],.slice a2 (k-i+1) EN,by omega,by omega,by simp,?_,?_,?_,(EK.out.nb (aj _ _ _ _) EQ).nb (aj _ _ _ _) EQ,(F2.out.nb (aj _ _ _ _) ER).nb (aj _ _ _ _) ER,(EO.setCell (p:=⟨w.heap.size+1+1,2,none⟩) F8 _).setCell (p:=⟨w.heap.size+1+1,3,none⟩) F8 _⟩
          · rw[←Fj.out];exact(F.out.set 2 _).set 3 _
          · have h5:=fh (fh Fk.out (aj w2 (w.heap.size+1+1) 2 (.slice a2 (k-i+1) EN)) (by omega)) (aj _ (w.heap.size+1+1) 3 (.int .i64 nu)) (by omega)
            rw[E5.out,E0.out,vK Y.out.1,List.flatten_append];exact hid (by simpa[dX]using h5)
          · rw[E0.out];exact Y.out.snoc HU.out
         case measure=>simp[intOf];omega
    · have F9: ¬((k-i:Nat):Int)<m:=by rw[HM.out];omega
      clear E6 EW EX d0 d1 d2 HU;have p0:=s.out.cell 0 rfl;have p1:=s.out.cell 1 rfl;have p4:=s.out.cell 4 rfl;have q4:=s.out.fr 4;have Q:=d.out.cell 0 rfl;have R:=d.out.cell 1 rfl;have S:=d.out.cell 2 rfl;have T:=d.out.cell 3 rfl;have U:=d.out.cell 4 rfl;have g0:=d.out.fr 0;have g1:=d.out.fr 1;have g2:=d.out.fr 2;have g3:=d.out.fr 3;have g4:=d.out.fr 4;have EV:=hid (X.out k hk (Or.inr (by omega)) F7);have O:=hid (qW (J:=J) (i0:=i) hk);go_wp2_with fail;have M:w.heap.size≤w.heap.size+1+1:=by omega
      have ET:=hid (fh (fh (fh (fh (fh (fh Z.out (aj wr (w.heap.size+1+1) 4 (.bool (decide (c+((k-i:Nat):Int)<J.first+(J.cos.length:Int)-1)))) (by omega)) (aj _ (w.heap.size+1) 0 false) (by omega)) (aj _ (w.heap.size+1) 1 al) (by omega)) (aj _ (w.heap.size+1) 2 (.slice pa (k-i) C)) (by omega)) (aj _ (w.heap.size+1) 3 (.int .i64 (c+((k-i:Nat):Int)))) (by omega)) (aj _ (w.heap.size+1) 4 (.bool (decide (c+((k-i:Nat):Int)<J.first+(J.cos.length:Int)-1)))) (by omega));have E1:=(((((A.setCell (p:=⟨w.heap.size+1+1,4,none⟩) M (.bool (decide (c+((k-i:Nat):Int)<J.first+(J.cos.length:Int)-1)))).setCell (p:=⟨w.heap.size+1,0,none⟩) (Nat.le_succ _) false).setCell (p:=⟨w.heap.size+1,1,none⟩) (Nat.le_succ _) al).setCell (p:=⟨w.heap.size+1,2,none⟩) (Nat.le_succ _) (.slice pa (k-i) C)).setCell (p:=⟨w.heap.size+1,3,none⟩) (Nat.le_succ _) (.int .i64 (c+((k-i:Nat):Int)))).setCell (p:=⟨w.heap.size+1,4,none⟩) (Nat.le_succ _) (.bool (decide (c+((k-i:Nat):Int)<J.first+(J.cos.length:Int)-1)));refine bodyPost_ret (v:= .tuple #[.agg #[false,al,.slice pa (k-i) C,.int .i64 (c+((k-i:Nat):Int)),.bool (decide (c+((k-i:Nat):Int)<J.first+(J.cos.length:Int)-1))],ah]) (by simp[results,results22,go_sem,Q,R,S,T,U]) rfl ⟨_,by rw[V.out],?_,E1⟩
      rw[EV.out];exact⟨_,_,rfl,gL _,qV (w0:=w) ET.out O.out.symm (by rw[O.out];omega) (Y.out.below E1)⟩
  · have Fh:=hid (show k=J.cos.length from by omega)
    have FB: ¬(k:Int)<(J.cos.length:Int):=by omega
    have p0:=s.out.cell 0 rfl;have p1:=s.out.cell 1 rfl;have p4:=s.out.cell 4 rfl;have q4:=s.out.fr 4;have Q:=d.out.cell 0 rfl;have R:=d.out.cell 1 rfl;have S:=d.out.cell 2 rfl;have T:=d.out.cell 3 rfl;have U:=d.out.cell 4 rfl;have g0:=d.out.fr 0;have g1:=d.out.fr 1;have g2:=d.out.fr 2;have g3:=d.out.fr 3;have g4:=d.out.fr 4;have EV:=hid (X.out k hk (Or.inl Fh.out) F7);have O:=hid (qW (J:=J) (i0:=i) hk);go_wp2_with fail;have M:w.heap.size≤w.heap.size+1+1:=by omega
    have ET:=hid (fh (fh (fh (fh (fh (fh Z.out (aj wr (w.heap.size+1+1) 4 (.bool (decide (c+((k-i:Nat):Int)<J.first+(J.cos.length:Int)-1)))) (by omega)) (aj _ (w.heap.size+1) 0 false) (by omega)) (aj _ (w.heap.size+1) 1 al) (by omega)) (aj _ (w.heap.size+1) 2 (.slice pa (k-i) C)) (by omega)) (aj _ (w.heap.size+1) 3 (.int .i64 (c+((k-i:Nat):Int)))) (by omega)) (aj _ (w.heap.size+1) 4 (.bool (decide (c+((k-i:Nat):Int)<J.first+(J.cos.length:Int)-1)))) (by omega));have E1:=(((((A.setCell (p:=⟨w.heap.size+1+1,4,none⟩) M (.bool (decide (c+((k-i:Nat):Int)<J.first+(J.cos.length:Int)-1)))).setCell (p:=⟨w.heap.size+1,0,none⟩) (Nat.le_succ _) false).setCell (p:=⟨w.heap.size+1,1,none⟩) (Nat.le_succ _) al).setCell (p:=⟨w.heap.size+1,2,none⟩) (Nat.le_succ _) (.slice pa (k-i) C)).setCell (p:=⟨w.heap.size+1,3,none⟩) (Nat.le_succ _) (.int .i64 (c+((k-i:Nat):Int)))).setCell (p:=⟨w.heap.size+1,4,none⟩) (Nat.le_succ _) (.bool (decide (c+((k-i:Nat):Int)<J.first+(J.cos.length:Int)-1)));refine bodyPost_ret (v:= .tuple #[.agg #[false,al,.slice pa (k-i) C,.int .i64 (c+((k-i:Nat):Int)),.bool (decide (c+((k-i:Nat):Int)<J.first+(J.cos.length:Int)-1))],ah]) (by simp[results,results22,go_sem,Q,R,S,T,U]) rfl ⟨_,by rw[V.out],?_,E1⟩
    rw[EV.out];exact⟨_,_,rfl,gL _,qV (w0:=w) ET.out O.out.symm (by rw[O.out];omega) (Y.out.below E1)⟩
theorem CB (G:List Se) (v:Value) (x l r:Int) (p:ByteArray) (size now:Int) (w:World) (hv:aK w v G) (hs:bq G) (hp:p.size≤150000000000000) (h0:bB G x l r now=0) (hn:aA p.data.toList=true) (h1:0≤size) (h2:size≤300) (h3:x<1099511627776) (h4:(aq now G).length=20):
    Calls prog 23 #[.agg #[v,x,l,r],p,size,.int .i64 now] w fun e w'=>e= .returned (.tuple #[.agg  aJ ,ah,.int .i64 2])∧Below w.heap.size w w':=by
 have HV:=ac hv;have HS:=ac hs;obtain⟨av,f,rfl,_⟩:=hv
 clear hs;obtain⟨E,c⟩: ∃E,E=(w.alloc (.cells #[.slice av G.length f,x,l,r] 26)).alloc (.cells  aJ  26):=⟨_,rfl⟩
 have V:=hid (show Below w.heap.size w E from by rw[c];exact ak.alloc (by simp) _);have E2:=hid (show Bx E w.heap.size (.slice av G.length f) x (.int .i64 l) r from by rw[c];exact(Bx.new w _ _ _ _ _).below ak)
 have Y:=hid (show Bx E (w.heap.size+1) al ah ah ah from by
  have:=Bx.new (w.alloc (.cells #[.slice av G.length f,x,l,r] 26)) al ah ah ah 26
  rw[c];simpa using this)
 have E9:E.heap.size=w.heap.size+2:=by rw[c];simp
 have H0:=ac h0;have X:=ac hn;have T:bl G x l r now []=0:=by rw[mE];exact h0
 obtain⟨C,⟨ET,EU⟩,_⟩:=dz T
 obtain⟨E8,⟨ER,ES⟩,⟨EV,EW⟩,EX,EY⟩:=cQ (bu C).1
 have E5:=de now G;have E1:=hid (show∀s∈aq now G,0≤s.si∧s.si≤300 from fun s h=>ik (bu C).2.1 s (List.mem_filter.1 h).1);have EZ:(x==1099511627776)=false:=beq_eq_false_iff_ne.2 (by omega);clear h0 hn T C;go_enter func23,ntmps23
 go_wp2_with fail;rw[←c];clear c;refine(gS G _ x l r now _ (HV.out.below V.out) HS.out).mono ?_
 rintro e w4 ⟨rfl,g⟩;have u:=V.out.trans (g.mono V.out.size);have I:=ac (E2.out.below g);have F:=ac (Y.out.below g);have EJ:=g.size;clear g;obtain⟨R,⟨u0,u1,u2,u3⟩,g0,g1,g2,g3⟩:=I.out
 obtain⟨B,⟨c0,c1,c2,c3⟩,f0,f1,f2,f3⟩:=F.out
 rw[H0.out];go_wp2_with fail;refine(aM p _ hp).mono ?_
 rintro e wn ⟨rfl,hw⟩;rw[hw,X.out];clear hw wn;go_wp2_with fail;refine(mG G _ x l r now _ (HV.out.below u) (by omega)).mono ?_
 rintro e w5 ⟨u5,rfl,A,i⟩;have z:=aG u i;have J:=ac (I.out.below i);have Z:=ac (F.out.below i);have EK:=i.size;have d:=ac A;clear i A u0 u1 u2 u3 g0 g1 g2 g3 c0 c1 c2 c3 f0 f1 f2 f3 R B;obtain⟨a5,o,E6,E4,_,_⟩:=d.out.lies (by omega)
 subst E6;obtain⟨M,hM⟩: ∃M,M=aq now G:=⟨_,rfl⟩
 rw[←hM]at E1 d E5 E4 h4⊢;have EM:=ac hM;clear hM;have EQ:M.length≤1000:=by omega
 obtain⟨U,j⟩: ∃U,U=((((w5.setCell ⟨w.heap.size,0,none⟩ (.slice a5 M.length o)).setCell ⟨w.heap.size,1,none⟩ x).setCell ⟨w.heap.size,2,none⟩ l).setCell ⟨w.heap.size,3,none⟩ r):=⟨_,rfl⟩
 have a:w5.grownBy U (some w.heap.size):=by rw[j];exact Nb.set4 _ _ _ _ _ _
 have Q:Bx U w.heap.size (.slice a5 M.length o) x (.int .i64 l) r:=by
  obtain⟨E3,⟨K,N,O,P⟩,e0,e1,e2,e3⟩:=J.out
  rw[j];exact⟨by simpa using E3,⟨by simp[go_sem,K,N,O,P],by simp[go_sem,K,N,O,P],by simp[go_sem,K,N,O,P],by simp[go_sem,K,N,O,P]⟩,by simpa using e0,by simpa using e1,by simpa using e2,by simpa using e3⟩
 have EO:=ac Q;have E0:=ac (Z.out.nb a (by omega));have EN:=ac (d.out.nb a (by omega));have S:Below w.heap.size w U:=z.trans (Nb.to a z.size ax);have EL:=a.size;obtain⟨R,⟨K,N,O,P⟩,e0,e1,e2,e3⟩:=J.out
 obtain⟨E7,⟨y0,y1,y2,y3⟩,y4,y5,y6,y7⟩:=Q
 rw[j]at y0 y1 y2 y3;have EP:((M.length:Int)==20)=true:=by simp[h4]
 clear h4;have H:=E0.out;rw[j]at H;obtain⟨B,⟨c0,c1,c2,c3⟩,f0,f1,f2,f3⟩:=H
 go_wp2;refine bodyPost_ret (v:= .tuple #[.agg  aJ ,ah,.int .i64 2]) (by simp[results,results23,go_sem,c0,c1,c2,c3,B]) rfl ⟨rfl,?_⟩
 rw[←j];exact bz (b:=w.heap.size+1) S (by omega)
end Go.Proofs.YtdlpjlfefjipkaaGreat
