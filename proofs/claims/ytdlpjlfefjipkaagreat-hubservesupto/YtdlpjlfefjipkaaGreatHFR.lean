/- What tree.changed and apply answer, for every change. -/
import Derived.Test.YtdlpjlfefjipkaaGreatHFK
import Derived.Test.YtdlpjlfefjipkaaGreatHFN
set_option linter.unusedSimpArgs false
set_option linter.unusedVariables false
namespace Go.Proofs.YtdlpjlfefjipkaaGreat
open Go.RowKit Go.Maps Go.WideMaps Go.Proofs.Tryz
set_option maxHeartbeats 4000000
set_option maxRecDepth 100000
theorem zL {t:ByteArray} (h:t.data.toList=[]):t=⟨#[]⟩:=gE h
theorem zM (L:List En) (v:Value) (k:Int) (p q t:ByteArray) (b n:Int) (w:World) (V:aF w v L) (S:dk L) (hp:p.size≤150000000000000) (hq:q.size≤150000000000000) (K:Pp.Good L) (H:aQ ⟨k,p,q,t,b⟩=0) (F:bN L ⟨k,p,q,t,b⟩=0):
    Calls prog 183 #[v,.agg #[k,p,q,t,b],n] w fun e w'=> ∃u,e= .returned (.tuple #[u,fk L ⟨k,p,q,t,b⟩ n])∧gJ w.heap.size w' u (jJ (fk L ⟨k,p,q,t,b⟩ n) (cN L ⟨k,p,q,t,b⟩ n))∧Below w.heap.size w w':=by
 have f:=jG H;have Y:Hid (aF w v L):=V;have X:Hid (dk L):=S;have I:Hid (Pp.Good L):=K;rcases oN F (je H)with⟨C,h⟩|⟨C,h⟩|⟨C,⟨x,Z⟩,h1,h2⟩|⟨C,x,Z⟩
 · have C:k=1:=C
   subst C;have ht:t=⟨#[]⟩:=zL (f.2.1.resolve_left (by simp));subst ht;clear f h F H K S V;have E:=hid (show fk L ⟨1,p,q,⟨#[]⟩,b⟩ n=if 60<(Pp.out (iJ 1 p ⟨#[]⟩ n) L).length+1 then 2 else 0 from rfl);have M:=hid (show cN L ⟨1,p,q,⟨#[]⟩,b⟩ n=b7 (iJ 1 p ⟨#[]⟩ n) (Pp.out (iJ 1 p ⟨#[]⟩ n) L)from rfl);go_enter func183,ntmps183
   go_wp2_with fail;refine(sD L v (iJ 1 p ⟨#[]⟩ n) _ (Y.out.below ak) I.out.len X.out (by simp only[iJ];omega) I.out.rise).mono ?_
   rintro e w1 (⟨h,rfl,a⟩|⟨h,u,rfl,i,a⟩)
   · obtain⟨o,s,z,A,B,c,d⟩:=aC a
     have g:=hid h;clear h a o s z A B;go_wp2;go_ret2;refine⟨_,by rw[E.out,if_pos g.out];rfl,?_,c⟩
     rw[lZ (by rw[E.out,if_pos g.out];decide)];exact ki _ _
   · obtain⟨o,s,z,A,B,c,d⟩:=aC a
     have j:=hid i;have g:=hid h;clear h a i o s z A B;go_wp2;go_ret2;refine⟨_,by rw[E.out,if_neg g.out];rfl,?_,c⟩
     rw[lY (by rw[E.out,if_neg g.out]),M.out];exact j.out.mono (by first|exact Nat.le_of_lt d|(simp;done)|omega|exact ax)
 · have C:k=2:=C
   subst C;clear f h F H K S V;have E:=hid (show fk L ⟨2,p,q,t,b⟩ n=if 60<(Pp.out (iJ 2 p t n) L).length+1 then 2 else 0 from rfl);have M:=hid (show cN L ⟨2,p,q,t,b⟩ n=b7 (iJ 2 p t n) (Pp.out (iJ 2 p t n) L)from rfl);go_enter func183,ntmps183
   go_wp2_with fail;refine(sD L v (iJ 2 p t n) _ (Y.out.below ak) I.out.len X.out (by simp only[iJ];omega) I.out.rise).mono ?_
   rintro e w1 (⟨h,rfl,a⟩|⟨h,u,rfl,i,a⟩)
   · obtain⟨o,s,z,A,B,c,d⟩:=aC a
     have g:=hid h;clear h a o s z A B;go_wp2;go_ret2;refine⟨_,by rw[E.out,if_pos g.out];rfl,?_,c⟩
     rw[lZ (by rw[E.out,if_pos g.out];decide)];exact ki _ _
   · obtain⟨o,s,z,A,B,c,d⟩:=aC a
     have j:=hid i;have g:=hid h;clear h a i o s z A B;go_wp2;go_ret2;refine⟨_,by rw[E.out,if_neg g.out];rfl,?_,c⟩
     rw[lY (by rw[E.out,if_neg g.out]),M.out];exact j.out.mono (by first|exact Nat.le_of_lt d|(simp;done)|omega|exact ax)
 · have C:k=3:=C
   subst C;have E:=hid (show fk L ⟨3,p,q,t,b⟩ n=if(dw L ⟨3,p,q,t,b⟩).any (fun e=>bv (cp ⟨3,p,q,t,b⟩ e))=true then 2 else 0 from rfl);have M:=hid (show cN L ⟨3,p,q,t,b⟩ n=eN (eM L ⟨3,p,q,t,b⟩ n) (cT L ⟨3,p,q,t,b⟩)from rfl);have HC:=hid H;have HX:=hid Z;have H2:=hid h2;clear f F H K S V Z h1 h2;go_enter func183,ntmps183
   go_wp2_with fail;refine(zy L v p q t b n _ (Y.out.below ak) X.out hp hq I.out HC.out H2.out x HX.out).mono ?_
   rintro e w1 (⟨h,rfl,a⟩|⟨h,u,rfl,i,a⟩)
   · obtain⟨o,s,z,A,B,c,d⟩:=aC a
     have g:=hid h;clear h a o s z A B;go_wp2;go_ret2;refine⟨_,by rw[E.out,if_pos g.out];rfl,?_,c⟩
     rw[lZ (by rw[E.out,if_pos g.out];decide)];exact ki _ _
   · obtain⟨o,s,z,A,B,c,d⟩:=aC a
     have j:=hid i;have g:=hid h;clear h a i o s z A B;go_wp2;go_ret2;refine⟨_,by rw[E.out,if_neg (by rw[g.out];decide)];rfl,?_,c⟩
     rw[lY (by rw[E.out,if_neg (by rw[g.out];decide)]),M.out];exact j.out.mono (by first|exact Nat.le_of_lt d|(simp;done)|omega|exact ax)
 · have C:k=4:=C
   subst C;have Q:=hD H;have HK:=hid (show L.filter (fun e=> !d7 p.data.toList e)=cT L ⟨4,p,q,t,b⟩from pn fun e he=>by rw[nj (gY (K.ents e he)) Q]);have E0:=hid (show(cT L ⟨4,p,q,t,b⟩).length≤L.length from List.length_filter_le _ _);clear f F H K S V Z Q;go_enter func183,ntmps183
   go_wp2_with fail;refine(lT p _ (by omega)).mono ?_
   rintro e w1 ⟨rfl,T,a⟩;obtain⟨o,s,z,A,B,c,d⟩:=aC a
   have E1:=hid (show dh w1 214 #[.pointer (some ⟨w.heap.size+1,0,none⟩)] (d7 p.data.toList)from by simpa using T);clear T;go_wp2_with fail;refine(o5 _ _ (d7 p.data.toList) _ E1.out).mono ?_
   rintro e w2 ⟨rfl,U,O⟩;have E2:=hid U;have G:=a.trans (O.mono a.size);clear U o s z A B c d a O;obtain⟨o,s,z,A,B,c,d⟩:=aC G
   go_wp2_with fail;refine(lU L v _ _ (fun e=> !d7 p.data.toList e) _ (Y.out.below c) E2.out (Nat.le_trans I.out.len (by decide)) X.out).mono ?_
   rintro e w3 ⟨u1,rfl,J,E3,P⟩;rw[HK.out]at J;have j:=hid (yr J (by have:=E0.out;have:=I.out.len;omega));have R:=d;have N:=c.trans (P.mono (Nat.le_of_lt d));clear o s z A B c d G P J E3;go_wp2;go_ret2;exact⟨_,rfl,j.out.mono (Nat.le_of_lt R),N⟩
def jK (L:List En) (c:aE) (n:Int):List En:=jJ (bW L c n) (cN L c n)
theorem pW {L:List En} {c:aE} {n:Int} (h: ¬bm n=0):bW L c n=bm n:=by rw[bW,if_pos h]
theorem tG {L:List En} {c:aE} {n:Int} (h:bm n=0) (a: ¬aQ c=0):bW L c n=aQ c:=by rw[bW,if_neg (fun x=>x h),if_pos a]
theorem tH {L:List En} {c:aE} {n:Int} (h:bm n=0) (a:aQ c=0) (d: ¬bN L c=0):bW L c n=bN L c:=by rw[bW,if_neg (fun x=>x h),if_neg (fun x=>x a),if_pos d]
theorem zN {L:List En} {c:aE} {n:Int} (h:bm n=0) (a:aQ c=0) (d:bN L c=0) (f:dL L c=true):bW L c n=8:=by rw[bW,if_neg (fun x=>x h),if_neg (fun x=>x a),if_neg (fun x=>x d),if_pos f]
theorem zO {L:List En} {c:aE} {n:Int} (h:bm n=0) (a:aQ c=0) (d:bN L c=0) (f:dL L c=false):bW L c n=fk L c n:=by rw[bW,if_neg (fun x=>x h),if_neg (fun x=>x a),if_neg (fun x=>x d),if_neg (by rw[f];decide)]
theorem nC {L:List En} {c:aE} {n:Int} {e:Int} (h:bW L c n=e) (a: ¬e=0):jK L c n=[]:=by rw[jK,h,lZ a]
theorem zP (L:List En) (v:Value) (k:Int) (p q t:ByteArray) (b n:Int) (w:World) (hv:aF w v L) (hs:dk L) (hp:p.size≤150000000000000) (hq:q.size≤150000000000000) (ht:t.size≤150000000000000) (Z:Pp.Good L):
    Calls prog 171 #[v,.agg #[k,p,q,t,b],n] w fun e w'=> ∃u,e= .returned (.tuple #[u,bW L ⟨k,p,q,t,b⟩ n])∧gJ w.heap.size w' u (jK L ⟨k,p,q,t,b⟩ n)∧Below w.heap.size w w':=by
 have Q:Hid (aF w v L):=hv;have P:Hid (dk L):=hs;have V:Hid (Pp.Good L):=Z;clear hv hs Z;by_cases f:bm n=0
 · have K:=hid f
   by_cases j:aQ ⟨k,p,q,t,b⟩=0
   · have s:=hid j
     by_cases o:bN L ⟨k,p,q,t,b⟩=0
     · have N:=hid o
       cases G:dL L ⟨k,p,q,t,b⟩with
       |true=>
        have hE:=zN f j o G;have J:=hid (nC hE (by decide));have I:=hid hE;have O:=hid G;clear hE G o j f;go_enter func171,ntmps171
        go_wp2_with fail;refine(j9 n _).mono ?_
        rintro e U ⟨rfl,rfl⟩;rw[K.out];go_wp2_with fail;refine(ni k p q t b _ (by omega) (by omega) (by omega)).mono ?_
        rintro e Y ⟨rfl,g⟩;rw[s.out];obtain⟨A,B,C,E,F,a,i⟩:=aC g
        go_wp2_with fail;refine(pj L v k p q t b _ (Q.out.below a) (fun e M=>(P.out e M).1) (by omega) (by omega) s.out).mono ?_
        rintro e w3 ⟨rfl,z⟩;rw[N.out];have d:=g.trans (z.mono g.size);clear A B C E F a i g z;obtain⟨A,B,C,E,F,a,i⟩:=aC d
        go_wp2_with fail;refine(sR L v k p q t b _ (Q.out.below a) P.out (by omega) (fun e M=>gY (V.out.ents e M)) (hD s.out)).mono ?_
        rintro e w4 ⟨rfl,H⟩;rw[O.out];have x:=d.trans (H.mono d.size);clear A B C E F a i d H;obtain⟨A,B,C,E,F,a,i⟩:=aC x
        clear x;go_wp2;go_ret2;exact⟨_,by rw[I.out];rfl,by rw[J.out];exact ki _ _,a⟩
       |false=>
        have hE:=zO f j o G;have I:=hid hE;have J:=hid (show jK L ⟨k,p,q,t,b⟩ n=jJ (fk L ⟨k,p,q,t,b⟩ n) (cN L ⟨k,p,q,t,b⟩ n)from by rw[jK,hE]);have O:=hid G;clear hE G o j f;go_enter func171,ntmps171
        go_wp2_with fail;refine(j9 n _).mono ?_
        rintro e U ⟨rfl,rfl⟩;rw[K.out];go_wp2_with fail;refine(ni k p q t b _ (by omega) (by omega) (by omega)).mono ?_
        rintro e Y ⟨rfl,g⟩;rw[s.out];obtain⟨A,B,C,E,F,a,i⟩:=aC g
        go_wp2_with fail;refine(pj L v k p q t b _ (Q.out.below a) (fun e M=>(P.out e M).1) (by omega) (by omega) s.out).mono ?_
        rintro e w3 ⟨rfl,z⟩;rw[N.out];have d:=g.trans (z.mono g.size);clear A B C E F a i g z;obtain⟨A,B,C,E,F,a,i⟩:=aC d
        go_wp2_with fail;refine(sR L v k p q t b _ (Q.out.below a) P.out (by omega) (fun e M=>gY (V.out.ents e M)) (hD s.out)).mono ?_
        rintro e w4 ⟨rfl,H⟩;rw[O.out];have x:=d.trans (H.mono d.size);clear A B C E F a i d H;obtain⟨A,B,C,E,F,a,i⟩:=aC x
        go_wp2_with fail;refine(zM L v k p q t b n _ (Q.out.below a) P.out hp hq V.out s.out N.out).mono ?_
        rintro e w5 ⟨u,rfl,T,S⟩;have X:=hid (T.mono (Nat.le_of_lt i));have R:=a.trans (S.mono (Nat.le_of_lt i));clear A B C E F a i x S T;go_wp2;go_ret2;exact⟨_,by rw[I.out];rfl,by rw[J.out];exact X.out.mono (by first|exact Nat.le_of_lt i|(simp;done)|omega|exact ax),R⟩
     · have hE:=tH f j o
       have J:=hid (nC hE o);have I:=hid hE;have hz:(bN L ⟨k,p,q,t,b⟩==0)=false:=by simpa using o
       clear hE j f;go_enter func171,ntmps171
       go_wp2_with fail;refine(j9 n _).mono ?_
       rintro e U ⟨rfl,rfl⟩;rw[K.out];go_wp2_with fail;refine(ni k p q t b _ (by omega) (by omega) (by omega)).mono ?_
       rintro e Y ⟨rfl,g⟩;rw[s.out];obtain⟨A,B,C,E,F,a,i⟩:=aC g
       go_wp2_with fail;refine(pj L v k p q t b _ (Q.out.below a) (fun e M=>(P.out e M).1) (by omega) (by omega) s.out).mono ?_
       rintro e w3 ⟨rfl,z⟩;have d:=g.trans (z.mono g.size);clear A B C E F a i g z;obtain⟨A,B,C,E,F,a,i⟩:=aC d
       clear d;go_wp2;go_ret2;exact⟨_,by rw[I.out];rfl,by rw[J.out];exact ki _ _,a⟩
   · have hE:=tG (L:=L) f j
     have J:=hid (nC hE j);have I:=hid hE;have hz:(aQ ⟨k,p,q,t,b⟩==0)=false:=by simpa using j
     clear hE f;go_enter func171,ntmps171
     go_wp2_with fail;refine(j9 n _).mono ?_
     rintro e U ⟨rfl,rfl⟩;rw[K.out];go_wp2_with fail;refine(ni k p q t b _ (by omega) (by omega) (by omega)).mono ?_
     rintro e Y ⟨rfl,g⟩;obtain⟨A,B,C,E,F,a,i⟩:=aC g
     clear g;go_wp2;go_ret2;exact⟨_,by rw[I.out];rfl,by rw[J.out];exact ki _ _,a⟩
 · have hE:=pW (L:=L) (c:=⟨k,p,q,t,b⟩) f
   have J:=hid (nC hE f);have I:=hid hE;have hz:(bm n==0)=false:=by simpa using f
   clear hE;go_enter func171,ntmps171
   go_wp2_with fail;refine(j9 n _).mono ?_
   rintro e U ⟨rfl,rfl⟩;go_wp2;go_ret2;exact⟨_,by rw[I.out];rfl,by rw[J.out];exact ki _ _,ak⟩
theorem zQ (L:List En) (v:Value) (k:Int) (p q t:ByteArray) (b n:Int) (w:World) (s:aF w v L) (j:dk L) (g:p.size≤150000000000000) (i:q.size≤150000000000000) (o:t.size≤150000000000000) (f:Pp.Good L):
    Calls prog 171 #[v,.agg #[k,p,q,t,b],n] w fun e w'=> ∃u,e= .returned (.tuple #[u,bW L ⟨k,p,q,t,b⟩ n])∧aF w' u (jK L ⟨k,p,q,t,b⟩ n)∧Below w.heap.size w w':=
 (zP L v k p q t b n w s j g i o f).mono fun _ _ ⟨u,a,c,d⟩=>⟨u,a,c.1,d⟩
theorem nD {R:List En} (c:Pp.Good R):dk R:=fun e d=>by
 have f:=k7 (gY (c.ents e d));have a:=c.ents e d;refine⟨by rw[Lib.size_eq];omega,?_⟩
 rw[bT,if_pos (gY a)]at a;split at a
 · cases a
 · split at a
   · cases a
   · omega
theorem pX (L:List En) (v:Value) (cs:List aE) (u:Value) (n:Int) (w:World) (hv:aF w v L) (hs:dk L) (hu:cP w u cs) (V:dV 150000000000000 cs):
    Calls prog 152 #[v,u,n] w fun e w'=> ∃r,e= .returned (.tuple #[r,ji L cs n,bw L cs n])∧aF w' r (ct L cs n)∧Below w.heap.size w w':=by
 have HV:=hid hv;have Z:=hid hs;have E0:=hid V;obtain⟨a,E8,rfl,E5,E3,hC⟩:=hu
 have HC:Hid (∀i (h:i<cs.length),∃b o,a=some ⟨b,o,none⟩∧b<w.heap.size∧gI w b (o+i*5) cs[i]):=hC;clear hv hs V hC;by_cases d:bg L=0
 · have HT:=hid d
   by_cases O:20<cs.length
   · obtain⟨hE,s,g⟩:=mW d O n
     rw[hE,s,g];clear hE s g d;have P:20<(cs.length:Int):=by omega
     go_enter func152,ntmps152
     go_wp2_with fail;refine(kl L v _ HV.out Z.out).mono ?_
     rintro e w1 ⟨rfl,c⟩;rw[HT.out];go_wp2_with fail;go_ret3;exact⟨_,rfl,gL _,c⟩
   · have P: ¬20<(cs.length:Int):=by omega
     have hg:=(g9 L).1 d;have HG:=hid hg;have E6:=hg.len;have B:=hid (show∀k e R,dG n L cs=(k,e,R)→bw L cs n=e∧ji L cs n=k∧ct L cs n=R from fun k e R h=>oS d O h);clear hg d;go_enter func152,ntmps152
     go_wp2_with fail;refine(kl L v _ HV.out Z.out).mono ?_
     rintro e w1 ⟨rfl,c⟩;rw[HT.out];go_wp2_with fail;refine(lU L v _ _ (fun _=>true) _ (HV.out.below c) (zd _) (by omega) Z.out).mono ?_
     rintro e w2 ⟨u,rfl,K,E4,Q⟩;rw[show L.filter (fun _=>true)=L by simp]at K;have HU:Hid (aF w2 u L):=jI K (by omega);have C:=c.trans (Q.mono c.size);clear K E4 c Q;go_wp2;go_loopw [10,26] (fun x i wr=> ∃(k:Nat) (S:List En),k≤cs.length∧i= .int .i64 k∧Hid (aF wr x S)∧Hid (Pp.Good S)∧Hid (Pp.Left n L cs S k)∧Below w.heap.size w wr) (fun _ i _=>cs.length-(intOf i).toNat)
     case atStart=>exact⟨0,L,Nat.zero_le _,rfl,HU,HG,Pp.left_zero n L cs,C⟩
     case round=>
      obtain⟨k,S,hk,rfl,HX,F,G,j⟩:=hrel
      clear C;by_cases A:k<cs.length
      · obtain⟨b,o,rfl,hb,he⟩:=HC.out k A
        obtain⟨c0,c1,c2,c3,c4⟩:=he.below hb j
        have Y:=E0.out cs[k] (List.getElem_mem A);have HZ:=hid Y;have I:=hid (show bW S cs[k] n=0→Pp.Left n L cs (cN S cs[k] n) (k+1)from fun f=>Pp.left_next G.out A f);have J:=hid (show¬bW S cs[k] n=0→dG n L cs=(k,bW S cs[k] n,[])from fun f=>r7 G.out A f);have E:=hid (show bW S cs[k] n=0→Pp.Good (cN S cs[k] n)from fun f=>oP F.out f);clear he Y;generalize cs[k]=ck at*;obtain⟨M,p,q,t,bs⟩:=ck
        simp only at c0 c1 c2 c3 c4;go_wp2_with fail;refine(zQ S _ M p q t bs n _ (HX.out.below ak) (nD F.out) HZ.out.1 HZ.out.2.1 HZ.out.2.2 F.out).mono ?_
        rintro e w3 ⟨u3,rfl,X,T⟩;obtain⟨d0,d1,d2,d3,d4,U,E7⟩:=sE T
        have H:=hid X;have z:=aG j U;clear T X d0 d1 d2 d3 d4 c0 c1 c2 c3 c4 j U;by_cases f:bW S ⟨M,p,q,t,bs⟩ n=0
        · have N:=hid (I.out f)
          have E1:=hid (E.out f);have g:jK S ⟨M,p,q,t,bs⟩ n=cN S ⟨M,p,q,t,bs⟩ n:=by rw[jK,lY f]
          have E2:=hid (show aF w3 u3 (cN S ⟨M,p,q,t,bs⟩ n)from g▸H.out);rw[f];clear g f H I J E;go_wp2;go_roundw
          case rel=>exact⟨k+1,_,by omega,by simp,E2,E1,N,z⟩
          case measure=>simp[intOf];omega
        · obtain⟨hE,s,g⟩:=B.out _ _ _ (J.out f)
          have hz:(bW S ⟨M,p,q,t,bs⟩ n==0)=false:=by simpa using f
          have HE:=hid hE;have N:=hid s;have HR:=hid g;clear hE s g f H I J E;go_wp2_with fail;go_ret3;exact⟨_,by rw[HE.out,N.out];rfl,by rw[HR.out];exact gL _,z⟩
      · obtain rfl:k=cs.length:=by omega
        obtain⟨hE,s,g⟩:=B.out _ _ _ (Pp.left_end G.out)
        have HE:=hid hE;have N:=hid s;have HR:=hid g;clear hE s g;go_wp2_with fail;go_ret3;exact⟨_,by rw[HE.out,N.out];rfl,by rw[HR.out];exact HX.out,j⟩
 · obtain⟨hE,s,g⟩:=oR d cs n
   rw[hE,s,g];have hz:(bg L==0)=false:=by simpa using d
   clear hE s g;go_enter func152,ntmps152
   go_wp2_with fail;refine(kl L v _ HV.out Z.out).mono ?_
   rintro e w1 ⟨rfl,c⟩;go_wp2_with fail;go_ret3;exact⟨_,rfl,gL _,c⟩
def Kp (w:World) (b mb:Nat) (vb:Value) (fi:Int) (vc:Value) (T:List En) (nn:Nat) (M:DataW Unit):Prop:=
 ∃vt,Cs w b [vb,.int .i64 fi,vc,vt,.map (some mb)]∧aF w vt T∧w.ownsMap prog 9 (plainElem prog 3) mb nn M∧b≠mb
theorem Kp.below {w w':World} {b d:Nat} {g:Value} {c:Int} {i:Value} {T:List En} {f:Nat} {M:DataW Unit} (h:Kp w b d g c i T f M) (a:Below w.heap.size w w'):Kp w' b d g c i T f M:=by
 obtain⟨x,j,o,s,u⟩:=h
 exact⟨x,j.below a,o.below a,s.kept (row:=none) ⟨a.os,a.tape,a.output,a.size,fun k v _=>a.block k v⟩ (by simp),u⟩
theorem tI (c:Co) (u:Value) (b o Z:Nat) (K N:Value) (U:Int) (T:List En) (M:DataW Unit) (w:World) (hu:cP w u c.ch) (X:dV 150000000000000 c.ch) (E8:c.ke.size≤maxLen) (EH:(Lit.int .i64 c.nu).wf=true)
    (hk:Kp w b o K U N T Z M) (Y:dk T) (E9:Z<maxLen) (EJ: ∀s,K≠ .string s) (EK: ∀s,N≠ .string s):
    Calls prog 121 #[.pointer (some ⟨b,0,none⟩),.agg #[c.nu,c.ke,u]] w fun e w'=>e= .returned (.int .i64 (bw T c.ch c.nu))∧aZ w w' b o∧
     (bw T c.ch c.nu=0→Kp w' b o K U N (ct T c.ch c.nu) (Z+1) (M.put (Jn.key c.ke) (Jn.num c.nu))):=by
 obtain⟨O,B,J,hm,I⟩:=hk
 have E0:=hid B;have HT:=hid J;have HU:=hid hu;have HS:=hid Y;have R:=hid X;have HM:=hid hm;have G:=B.lt;have EN:=hm.lt
 have EL: ∀s,Value.string s∉[K,.int .i64 U,N,O,.map (some o)]:=by
  obtain⟨_,_,rfl,_⟩:=J
  intro s Y;simp only[List.mem_cons,List.not_mem_nil,or_false]at Y;rcases Y with h|h|h|h|h
  · exact EJ s h.symm
  · cases h
  · exact EK s h.symm
  · cases h
  · cases h
 obtain⟨v,g⟩: ∃v,v=w.alloc (.cells #[c.nu,c.ke,u] 111):=⟨_,rfl⟩
 have i:Below w.heap.size w v:=by rw[g];exact ak
 have z0:v.cell? ⟨w.heap.size,0,none⟩=some (.int .i64 c.nu):=by rw[g];simp
 have z1:v.cell? ⟨w.heap.size,1,none⟩=some (.string c.ke):=by rw[g];simp
 have z2:v.cell? ⟨w.heap.size,2,none⟩=some u:=by rw[g];simp
 have a:w.heap.size<v.heap.size:=by rw[g];simp
 have z3:v.cell? ⟨b,3,none⟩=some O:=(i.cell (p:=⟨b,3,none⟩) G).trans (B.cell 3 rfl);clear B J hu Y X hm;by_cases h0:bw T c.ch c.nu=0
 · have H0:=hid h0
   go_enter func121,ntmps121
   go_wp2_with fail;rw[←g];clear g
   go_region_held3 (fun W=>W.cell? ⟨w.heap.size,0,none⟩=some (.int .i64 c.nu)∧W.cell? ⟨w.heap.size,2,none⟩=some u∧W.cell? ⟨b,3,none⟩=some O) (go_keep) (first
    |(go_at_call 152;refine(pX T O c.ch u c.nu _ (HT.out.below (an i aw.drew)) HS.out (HU.out.below (an i aw.drew)) R.out).mono ?_;rintro e P ⟨r,rfl,H,F⟩;rw[H0.out];have d:Below v.heap.size v P:=( aw.drew).trans F;have j0:=(d.cell (p:=⟨w.heap.size,0,none⟩) a).trans z0;have j2:=(d.cell (p:=⟨w.heap.size,2,none⟩) a).trans z2;have j3:=(d.cell (p:=⟨b,3,none⟩) (Nat.lt_trans G a)).trans z3))
   have E2:=hid H;obtain⟨ra,A,rfl,_,_,_⟩:=H
   have j:=an i d;have E:=hid (E0.out.below j);have EP:=E.out.fr 3;have E4:Hid (di P b):=E.out.noStr EL;obtain⟨C,f⟩: ∃C,C=P.setCell ⟨b,3,none⟩ (.slice ra (ct T c.ch c.nu).length A):=⟨_,rfl⟩
   have Q:=hid (show Cs C b [K,U,N,.slice ra (ct T c.ch c.nu).length A,.map (some o)]from by rw[f];exact E.out.set 3 _);have q4:=Q.out.cell 4 rfl;have EO:=d.size;have q0:C.cell? ⟨w.heap.size,0,none⟩=some (.int .i64 c.nu):=by rw[f,World.cell?_setCell_other (h:=fun e=>by injection e with e1 e2;omega)];exact j0
   have q1:C.cell? ⟨w.heap.size,1,none⟩=some (.string c.ke):=by rw[f,World.cell?_setCell_other (h:=fun e=>by injection e with e1 e2;omega)];exact(d.cell (p:=⟨w.heap.size,1,none⟩) a).trans z1
   have S:=hid (show C.ownsMap prog 9 (plainElem prog 3) o Z M from by rw[f];exact(HM.out.kept (row:=none) ⟨j.os,j.tape,j.output,j.size,fun k hk _=>j.block k hk⟩ (by simp)).setCell (fun e=>I e.symm) _);obtain⟨w6,EI,z,x⟩:=S.out.drew.update (string_keyed underlying9) underlying52 E9 (keyOf_string_mk underlying9 E8) (plainElem_int underlying3 EH)
   have E5:=hid z;clear z;go_wp2_with fail;have E7:aZ w C b o:=by rw[f];exact(aZ.of_below b o j).trans (aZ.of_left o (aj _ _ _ _))
   have EM:w.heap.size<C.heap.size:=by rw[f];simp;omega
   have E3:=hid (show aF C (.slice ra (ct T c.ch c.nu).length A) (ct T c.ch c.nu)from by rw[f];exact E2.out.nb (aj P b 3 _) E4.out);rw[←f];clear f;go_region
   have E6:aZ w w6 b o:=(E7.trans (aZ.of_below b o aw.drew)).trans (aZ.of_right b x);have V:Kp w6 b o K U N (ct T c.ch c.nu) (Z+1) (M.put (Jn.key c.ke) (Jn.num c.nu)):=⟨_,(Q.out.below aw.drew).nb x I,(E3.out.below aw.drew).nb x (pd S.out.drew),E5.out,I⟩
   have E1:=hid V;clear V;go_wp2;go_ret;exact⟨by rw[H0.out];rfl,E6,fun _=>E1.out⟩
 · have hz:(bw T c.ch c.nu==0)=false:=by simpa using h0
   go_enter func121,ntmps121
   go_wp2_with fail;rw[←g];clear g
   go_region_held3 (fun W=>W.cell? ⟨w.heap.size,0,none⟩=some (.int .i64 c.nu)∧W.cell? ⟨w.heap.size,2,none⟩=some u∧W.cell? ⟨b,3,none⟩=some O) (go_keep) (first
    |(go_at_call 152;refine(pX T O c.ch u c.nu _ (HT.out.below (an i aw.drew)) HS.out (HU.out.below (an i aw.drew)) R.out).mono ?_;rintro e P ⟨r,rfl,H,F⟩;have d:Below v.heap.size v P:=( aw.drew).trans F;have j0:=(d.cell (p:=⟨w.heap.size,0,none⟩) a).trans z0;have j2:=(d.cell (p:=⟨w.heap.size,2,none⟩) a).trans z2;have j3:=(d.cell (p:=⟨b,3,none⟩) (Nat.lt_trans G a)).trans z3))
   go_wp2;go_ret;exact⟨rfl,aZ.of_below b o (an i d),fun h=>absurd h h0⟩
def ma (w:World) (p:Value) (B:Nat) (v:Value) (J:Jo):Prop:= ∃b mb vb vc nn,p= .pointer (some ⟨b,0,none⟩)∧v= .agg #[vb,.int .i64 J.first,vc]∧B≤b∧B≤mb∧Kp w b mb vb J.first vc (Jn.tree J) nn (Jn.D J.cos)∧nn≤30
theorem ma.below {w w':World} {p:Value} {B:Nat} {v:Value} {J:Jo} (h:ma w p B v J) (j:Below w.heap.size w w'):ma w' p B v J:=by
 obtain⟨b,o,u,x,s,a,c,d,f,g,i⟩:=h
 exact⟨b,o,u,x,s,a,c,d,f,g.below j,i⟩
theorem nE {a:Option Addr} {n c:Nat} (s:ByteArray):Value.slice a n c≠ .string s:=fun h=>by cases h
theorem nF {c:Co} {n:Int} (h:cz c n=0):c.nu=n∧n≤1000000∧cK c.ke.data.toList=true∧0<c.ch.length:=by
 rcases pk c n with⟨_,hE⟩|⟨_,_,hE⟩|⟨_,_,_,hE⟩|⟨_,_,_,_,hE⟩|⟨d,i,a,f,_⟩
 · rw[hE]at h;cases h
 · rw[hE]at h;cases h
 · rw[hE]at h;cases h
 · rw[hE]at h;cases h
 · refine⟨d,by omega,?_,f⟩
   cases g:cK c.ke.data.toList with
   |true=>rfl
   |false=>rw[j8 g]at a;cases a
theorem pY {n:Int} (c: -9223372036854775808≤n) (d:n≤9223372036854775807):(Lit.int .i64 n).wf=true:=by
 have a:IntKind.i64.min= -9223372036854775808:=by decide
 have e2:IntKind.i64.max=9223372036854775807:=by decide
 simp only[Lit.wf,a,e2,Bool.and_eq_true,decide_eq_true_eq];exact⟨c,d⟩
theorem Tryz.makeNumbers (w:World):(Instr.makeMap 52 none).run prog w= .ok (.map (some w.heap.size)) (w.alloc (.map #[] 0)):=by
 simp[Instr.makeMap,run_underlying underlying52,Result.andThen]
theorem e9 (J:Jo) (v:Value) (w:World) (hv:cV w v J) (hs:dk J.base) (EM:dm 150000000000000 J.cos):
    Calls prog 86 #[v] w fun e w'=> ∃p,e= .returned (.tuple #[p,aT J])∧(aT J=0→ma w' p w.heap.size v J)∧(¬aT J=0→p= .pointer none)∧Below w.heap.size w w':=by
 obtain⟨vb,vc,rfl,ER,ES⟩:=hv
 have Fo:=Tryz.makeNumbers;have Q:=hid ER;have Fl:=hid ES;have HS:=hid hs;have EW:=hid EM;obtain⟨U,c,rfl,Ff,EV,hC⟩:=ES
 obtain⟨C,a,rfl,Fe,EU,_⟩:=ER
 have HC:Hid (∀i (h:i<J.cos.length),∃b o,U=some ⟨b,o,none⟩∧b<w.heap.size∧fH w b (o+i*3) J.cos[i]):=hC;clear hC hs EM;obtain⟨wz,f⟩: ∃wz,wz=((w.alloc (.cells #[.slice C J.base.length a,J.first,.slice U J.cos.length c] 57)).alloc (.map #[] 0)).alloc (.cells #[.slice C J.base.length a,J.first,.slice U J.cos.length c,.slice C J.base.length a,.map (some (w.heap.size+1))] 147):=⟨_,rfl⟩
 have s:Below w.heap.size w wz:=by rw[f];exact( ak.alloc (by simp) _).alloc (by simp;omega) _
 have E9:w.heap.size+1+1<wz.heap.size:=by rw[f];simp
 have E3:=hid (show Kp wz (w.heap.size+1+1) (w.heap.size+1) (.slice C J.base.length a) J.first (.slice U J.cos.length c) J.base 0 (.map [])from by
  refine⟨.slice C J.base.length a,?_,Q.out.below s,?_,by omega⟩
  · have:=Cs.new ((w.alloc (.cells #[.slice C J.base.length a,J.first,.slice U J.cos.length c] 57)).alloc (.map #[] 0)) [.slice C J.base.length a,J.first,.slice U J.cos.length c,.slice C J.base.length a,.map (some (w.heap.size+1))] 147
    rw[f];simpa using this
  · have:=(World.ownsMap_made (w.alloc (.cells #[.slice C J.base.length a,J.first,.slice U J.cos.length c] 57)) prog 9 (plainElem (H:=Unit) prog 3)).alloc (.cells #[.slice C J.base.length a,J.first,.slice U J.cos.length c,.slice C J.base.length a,.map (some (w.heap.size+1))] 147)
    rw[f];simpa using this)
 by_cases M:bg J.base=0
 · have HT:=hid M
   by_cases V:bm J.first=0
   · have EN:=jj.1 V
     by_cases hm:30<J.cos.length
     · have j:=hid (oW M V hm)
       have Fg:30<(J.cos.length:Int):=by omega
       obtain⟨f1,f2⟩:=EN
       clear M V;go_enter func86,ntmps86
       go_wp2_with fail;rw[←f];clear f;refine(kl J.base _ _ (Q.out.below s) HS.out).mono ?_
       rintro e w1 ⟨rfl,d⟩;rw[HT.out];obtain⟨ET,g,_⟩:=E3.out.below d
       have c1:=g.cell 1 rfl;have c2:=g.cell 2 rfl;clear g;go_wp2_with fail;go_ret2;exact⟨_,by rw[j.out];rfl,(fun h=>by rw[j.out]at h;exact absurd h (by decide)),fun _=>rfl,an s d⟩
     · have Fg: ¬30<(J.cos.length:Int):=by omega
       obtain⟨f1,f2⟩:=EN
       have HG:=hid ((g9 J.base).1 M);have E0:=hid (show∀e T,cA J.first J.base J.cos=(e,T)→ ¬e=0→aT J=e from fun e T h he=>oX M V hm h he);have Fa:=hid (show∀T,cA J.first J.base J.cos=(0,T)→ ¬dE J.cos→aT J=6 from fun T h ha=>oY M V hm h ha);have F8:=hid (show∀T,cA J.first J.base J.cos=(0,T)→dE J.cos→aT J=0∧Jn.tree J=T from fun T h ha=>⟨se M V hm h ha,sh h⟩);clear M V;go_enter func86,ntmps86
       go_wp2_with fail;rw[←f];clear f;refine(kl J.base _ _ (Q.out.below s) HS.out).mono ?_
       rintro e w1 ⟨rfl,d⟩;rw[HT.out];have EH:=hid (E3.out.below d);obtain⟨ET,g,_⟩:=EH.out
       have c1:=g.cell 1 rfl;have c2:=g.cell 2 rfl;clear g;have E1:=an s d;have E2:w.heap.size+1+1<w1.heap.size:=Nat.lt_of_lt_of_le E9 d.size;clear d;go_wp2;go_loopw [52] (fun i wr=> ∃k:Nat,k≤J.cos.length∧i= .int .i64 k∧Hid (Kp wr (w.heap.size+1+1) (w.heap.size+1) (.slice C J.base.length a) J.first (.slice U J.cos.length c) (bO J k) k (Jn.D (J.cos.take k)))∧Hid (fm J (bO J k) k)∧Hid (Pp.Good (bO J k))∧Below w.heap.size w wr∧w.heap.size+1+1<wr.heap.size) (fun i _=>J.cos.length-(intOf i).toNat)
       case atStart=>exact⟨0,Nat.zero_le _,rfl,by rw[kf,List.take_zero];exact EH,by rw[kf];exact Jn.left_zero J,by rw[kf];exact HG,E1,E2⟩
       case round=>
        obtain⟨k,hk,rfl,HK,HL,EY,F,EQ⟩:=hrel
        clear E1 E2 c1 c2;by_cases x:k<J.cos.length
        · obtain⟨b,o,rfl,hb,he⟩:=HC.out k x
          obtain⟨c0,c1,u,c2,hu⟩:=he.below hb F
          have HZ:=hid (EW.out J.cos[k] (List.getElem_mem x));have O:=hid (show¬cz J.cos[k] (J.first+k)=0→aT J=cz J.cos[k] (J.first+k)from fun A=>E0.out _ _ (r8 HL.out x A) A);have N:=hid (show cz J.cos[k] (J.first+k)=0→ ¬bw (bO J k) J.cos[k].ch J.cos[k].nu=0→aT J=bw (bO J k) J.cos[k].ch J.cos[k].nu from fun A E=>E0.out _ _ (r9 HL.out x A E) E);have E5:=hid (show cz J.cos[k] (J.first+k)=0→bw (bO J k) J.cos[k].ch J.cos[k].nu=0→fm J (bO J (k+1)) (k+1)from fun A E=>by rw[mZ x];exact Jn.left_next HL.out x A E);have P:Hid (bO J (k+1)=ct (bO J k) J.cos[k].ch J.cos[k].nu):=mZ x;have HD:Hid (Jn.D (J.cos.take (k+1))=(Jn.D (J.cos.take k)).put (Jn.key J.cos[k].ke) (Jn.num J.cos[k].nu)):=sn x;clear he;generalize J.cos[k]=ck at*;obtain⟨nu,ke,ch⟩:=ck
          simp only at c0 c1 c2 hu;have EI:=hid (show ke.size≤maxLen from by have:ke.size≤150000000000000:=HZ.out.1;unfold maxLen;omega);have HU:=hid hu;obtain⟨ua,I,rfl,_,_,_⟩:=hu
          obtain⟨wy,B⟩: ∃wy,wy=wr.alloc (.cells #[nu,ke,.slice ua ch.length I] 111):=⟨_,rfl⟩
          have Y:Below wr.heap.size wr wy:=by rw[B];exact ak
          have y0:wy.cell? ⟨wr.heap.size,0,none⟩=some (.int .i64 nu):=by rw[B];simp
          have y1:wy.cell? ⟨wr.heap.size,1,none⟩=some (.string ke):=by rw[B];simp
          have y2:wy.cell? ⟨wr.heap.size,2,none⟩=some (.slice ua ch.length I):=by rw[B];simp
          have G:wr.heap.size<wy.heap.size:=by rw[B];simp
          have EJ:=hid (HK.out.below Y);obtain⟨vt,hB,_⟩:=EJ.out
          have y3:=hB.cell 1 rfl;clear hB;have Fh:IntKind.i64.wrap (J.first+(k:Int))=J.first+k:=by rw[IntKind.wrap_i64];omega
          go_wp2_with fail;rw[←B];clear B c0 c1 c2
          go_region_held3 (fun W=>W.cell? ⟨wr.heap.size,0,none⟩=some (.int .i64 nu)∧W.cell? ⟨wr.heap.size,1,none⟩=some (.string ke)∧W.cell? ⟨wr.heap.size,2,none⟩=some (.slice ua ch.length I)∧W.cell? ⟨w.heap.size+1+1,1,none⟩=some (.int .i64 J.first)) (go_keep) (first
           |(go_at_call 120;refine(yZ ⟨nu,ke,ch⟩ _ (J.first+k) _ (HU.out.below (an Y aw.drew)) EI.out).mono ?_;rintro e wa ⟨rfl,Fc⟩;have z:Below wy.heap.size wy wa:=( aw.drew).trans Fc;have j0:=(z.cell (p:=⟨wr.heap.size,0,none⟩) G).trans y0;have j1:=(z.cell (p:=⟨wr.heap.size,1,none⟩) G).trans y1;have j2:=(z.cell (p:=⟨wr.heap.size,2,none⟩) G).trans y2;have j3:=(z.cell (p:=⟨w.heap.size+1+1,1,none⟩) (Nat.lt_trans EQ G)).trans y3))
          have S:=an F (an Y z);have F2:=hid (EJ.out.below z);have Fb:=hid (HU.out.below (an Y z));have Fk:=z.size;by_cases A:cz ⟨nu,ke,ch⟩ (J.first+k)=0
          · obtain⟨n1,n2,_,_⟩:=nF A
            have EP:(Lit.int .i64 nu).wf=true:=pY (by simp only at n1;omega) (by simp only at n1;omega);have F7:=hid EP;clear n1 n2 EP;have HA:=hid (N.out A);have HN:=hid (E5.out A);have F9:=hid (nD EY.out);have F5:=hid (show k<maxLen from by unfold maxLen;omega);have EZ:=hid (show w.heap.size≤w.heap.size+1+1 from by omega);have F0:=hid (show w.heap.size≤w.heap.size+1 from by omega);rw[A];clear A O N E5;go_wp2_with fail;refine(tI ⟨nu,ke,ch⟩ (.slice ua ch.length I) (w.heap.size+1+1) (w.heap.size+1) k (.slice C J.base.length a) (.slice (some ⟨b,o,none⟩) J.cos.length c) J.first (bO J k) (Jn.D (J.cos.take k)) wa Fb.out HZ.out.2 EI.out F7.out F2.out F9.out F5.out nE nE).mono ?_
            rintro e w4 ⟨rfl,EO,EK⟩;have E6:Below w.heap.size wa w4:=EO.to (by omega) EZ.out F0.out;clear EO;have E4:=hid EK;have R:=S.trans E6;have Fj:=E6.size;clear EK E6;by_cases E:bw (bO J k) ch nu=0
            · have X:=E4.out E
              simp only at X;rw[←P.out,←HD.out]at X;have F1:=hid X;have F6:=hid (HN.out E);have EX:=hid (show Pp.Good (bO J (k+1))from by rw[P.out];exact mX E);rw[E];clear E X E4 HA HN P HD;go_wp2;go_roundw
              case rel=>exact⟨k+1,by omega,by simp,F1,F6,EX,R,by omega⟩
              case measure=>simp[intOf];omega
            · have j:=hid (HA.out E)
              have H1:=hid E;have hz:(bw (bO J k) ch nu==0)=false:=by simpa using E
              clear E E4 HA HN P HD;go_wp2_with fail;go_ret2;exact⟨_,by rw[j.out];rfl,fun h=>absurd (j.out▸h) H1.out,fun _=>rfl,R⟩
          · have j:=hid (O.out A)
            have hz:(cz ⟨nu,ke,ch⟩ (J.first+k)==0)=false:=by simpa using A
            have H0:=hid A;clear A O N E5 P HD;go_wp2_with fail;go_ret2;exact⟨_,by rw[j.out];rfl,fun h=>absurd (j.out▸h) H0.out,fun _=>rfl,S⟩
        · obtain rfl:k=J.cos.length:=by omega
          rw[List.take_length]at HK;have hr:=Jn.left_end HL.out;obtain⟨vt,hB,EL,hM,Fp⟩:=HK.out
          have c2:=hB.cell 2 rfl;have c4:=hB.cell 4 rfl;have Fi:=fun ty=>hM.drew.len underlying52 ty
          have Z:=yj J.cos;by_cases K:dE J.cos
          · have E9:(Maps.size (Jn.D J.cos):Int)=J.cos.length:=by rw[Z.2.2 K]
            obtain⟨hE,hT⟩:=F8.out _ hr K
            have j:=hid hE;have F4:=hid (show ma wr (.pointer (some ⟨w.heap.size+1+1,0,none⟩)) w.heap.size (.agg #[.slice C J.base.length a,J.first,.slice U J.cos.length c]) J from⟨w.heap.size+1+1,w.heap.size+1,_,_,J.cos.length,rfl,rfl,by omega,by omega,by rw[hT];exact HK.out,by omega⟩);clear hE hT hr hB EL hM Z K;go_wp2_with fail;go_region
            have F3:=hid (F4.out.below aw.drew);have E7:=an F aw.drew;go_wp2_with fail;go_ret2;exact⟨_,by rw[j.out];rfl,fun _=>F3.out,fun h=>absurd j.out h,E7⟩
          · have E9:(Maps.size (Jn.D J.cos):Int)<J.cos.length:=by
             rcases Nat.lt_or_ge (Maps.size (Jn.D J.cos)) J.cos.length with h|h
             · omega
             · exact absurd (Z.2.1 (by omega)) K
            have j:=hid (Fa.out _ hr K);clear hr hB EL hM Z K;have E7:=an F aw.drew;go_wp2_with fail;go_region
            go_wp2_with fail;go_ret2;exact⟨_,by rw[j.out];rfl,(fun h=>by rw[j.out]at h;exact absurd h (by decide)),fun _=>rfl,E7⟩
   · have j:=hid (oV M V)
     have E8:J.first<1∨1000000<J.first:=by
      rcases Int.lt_or_le J.first 1 with h|h
      · exact Or.inl h
      · rcases Int.lt_or_le 1000000 J.first with h2|h2
        · exact Or.inr h2
        · exact absurd (jj.2 ⟨h,h2⟩) V
     clear M V;rcases E8 with E8|E8
     all_goals
      try (have Fm: ¬J.first<1:=by omega)
      go_enter func86,ntmps86
      go_wp2_with fail;rw[←f];clear f;refine(kl J.base _ _ (Q.out.below s) HS.out).mono ?_
      rintro e w1 ⟨rfl,d⟩;rw[HT.out];obtain⟨ET,g,_⟩:=E3.out.below d
      have c1:=g.cell 1 rfl;clear g;go_wp2_with fail;go_ret2;exact⟨_,by rw[j.out];rfl,(fun h=>by rw[j.out]at h;exact absurd h (by decide)),fun _=>rfl,an s d⟩
 · have Fq:(bg J.base==0)=false:=by simpa using M
   have j:=hid (oU M);have HN:=hid M;go_enter func86,ntmps86
   go_wp2_with fail;rw[←f];clear f;refine(kl J.base _ _ (Q.out.below s) HS.out).mono ?_
   rintro e w1 ⟨rfl,d⟩;go_wp2_with fail;go_ret2;exact⟨_,by rw[j.out];rfl,fun h=>absurd (j.out▸h) HN.out,fun _=>rfl,an s d⟩
theorem Tryz.infoRO:(prog.info? 111).map (fun i=>(i.zero,i.size,i.bytes))=some (some (.agg #[ah,.string ⟨#[]⟩,al]),3,48):=by kernel_rfl
theorem zR (R:List (List Value)) (v:Value) (w:World) (hv:bp 3 w v R) (hn:R.length≤1000000000000):
    Calls prog 131 #[v] w fun e w'=> ∃u,e= .returned u∧bp 3 w' u R∧bi w.heap.size w' u∧Below w.heap.size w w':=by
 obtain⟨i0,O,S,T,U⟩:=info_parts Tryz.infoRO
 obtain⟨a,M,rfl,Y,N,C,f⟩:=hv
 have J:=hid C;have E1: ∀(w:World) (a:Option Addr) (n c V K:Nat),(binOp .eql 34 (.slice a n c) (.slice none V K)).run prog w= .ok (.bool a.isNone) w:=fun w a n c V K=>Lib.run_eql_slice_nil w _ _ a n c V K underlying34
 cases a with
 |none=>
  have hL:R=[]:=by
   cases R with
   |nil=>rfl
   |cons s r=>obtain⟨b,o,E,_⟩:=f 0 (by simp);cases E
  subst hL;clear C;go_enter func131,ntmps131
  go_wp2;go_ret;exact⟨_,rfl,⟨none,0,rfl,ax,by simp,J.out,fun i h=>absurd h (by simp)⟩,fq _ _,aw⟩
 |some ad=>
  have d: ∀j u,R.flatten[j]?=some u→w.cell? (ad.add j)=some u:=by
   cases R with
   |nil=>intro j u P;simp at P
   |cons s r=>
    obtain⟨b,o,E,_⟩:=f 0 (by simp)
    injection E with E
    subst E
    exact ij (by decide) (fun r Q=>(C r Q).1) fun i hi=>by
     obtain⟨b',o',x,_,he⟩:=f i hi
     injection x with x
     injection x with h1 h2
     subst h1;subst h2;exact he
  have HC:=hid d;have H:=hid (fs (fun r Q=>(C r Q).1):R.flatten.length=R.length*3);clear d f C;go_enter func131,ntmps131
  go_wp2_with (at_builtin;refine wpList_append_own _ rfl _ _ 34 rfl w.heap.size 111 i0 (.agg #[ah,.string ⟨#[]⟩,al]) 3 48 underlying34 O S T U rfl (by decide) _ _ _ rfl (World.ownsRow_made w #[] 0 ax (Nat.zero_le _) (by simp)) ad R.length M R.flatten rfl ?qc1 ?qc2 ?qc3 ?qc4 ?qc5 ?qc6 ?_)
  case qc1=>exact H.out
  case qc2=>intro j u P;exact Lib.cell?_alloc_some _ (HC.out j u P)
  case qc3=>exact iM J.out
  case qc4=>unfold maxLen;omega
  case qc5=>omega
  case qc6=>simp
  intro v2 Z G g F;have z:Below w.heap.size w Z:= ak.grown g (by simp) (fun k hk=>by simp[Value.ownBlock]at hk;omega);have A:Z.ownsRow w.heap.size 111 3 v2 R.length R.flatten:=by simpa using G
  have B:=hid (fJ A (by omega) J.out);have I:=hid (jk A);obtain⟨a2,X,E0,_,_,_⟩:=B.out
  clear G A g F;go_wp2;go_ret;exact⟨_,rfl,B.out,I.out,z⟩
end Go.Proofs.YtdlpjlfefjipkaaGreat
