/- What upload.Append answers. -/
import Derived.Test.YtdlpjlfefjipkaaGreatHFZH
import Derived.Test.YtdlpjlfefjipkaaGreatHFZG
import Derived.Laws.CopyOwn
import Derived.Lib.Overlaps
import Derived.Lib.AppendZerosOnto
import Derived.Laws.NewBlocks
import Derived.Laws.Externs
set_option linter.unusedSimpArgs false
set_option linter.unusedVariables false
namespace Go.Proofs.YtdlpjlfefjipkaaGreat
open Go.RowKit Go.Proofs.Tryz
set_option maxHeartbeats 4000000
set_option maxRecDepth 100000
theorem iA {G:List Se} {x l r:Int} {p:ByteArray} {n now:Int} (h:bk G x l r p n now=0):bl G x l r now [p]=0:=by
 rcases qy G x l r p n now with⟨a,hE⟩|⟨a,_,hE⟩|⟨a,_⟩
 · rw[h]at hE;exact hE.symm
 · exact a
 · exact a
def iB (s:Se) (t:ByteArray) (till:Int):Se:=⟨s.nu,s.wh,s.tx++t,s.si,till⟩
theorem bY.set2 {w:World} {g:Nat} {d:List Se} (h:bY w g d) {i:Nat} (v:i<d.length) (t:ByteArray) (a:Int):bY ((w.setCell ⟨g,i*5+2,none⟩ t).setCell ⟨g,i*5+4,none⟩ a) g (d.set i ⟨(d[i]).nu,(d[i]).wh,t,(d[i]).si,a⟩):=by
 have s:(w.cell? ⟨g,i*5+2,none⟩).isSome=true:=by rw[(h.2 i v 2 (by decide)).1];rfl
 have u:(w.cell? ⟨g,i*5+4,none⟩).isSome=true:=by rw[(h.2 i v 4 (by decide)).1];rfl
 refine⟨by simpa using h.1,fun j x c f=>⟨?_,?_⟩⟩
 · have o:j<d.length:=by simpa using x
   by_cases e4:j*5+c=i*5+4
   · obtain⟨rfl,rfl⟩:j=i∧c=4:=by omega
     rw[World.cell?_setCell_same' _ _ _ (by rw[World.cell?_setCell_other (h:=by simp)];exact u),List.getElem_set_self];rfl
   · rw[World.cell?_setCell_other (h:=fun e=>e4 (by injection e with _ e2;exact e2.symm))]
     by_cases e2:j*5+c=i*5+2
     · obtain⟨rfl,rfl⟩:j=i∧c=2:=by omega
       rw[World.cell?_setCell_same' _ _ _ s,List.getElem_set_self];rfl
     · rw[World.cell?_setCell_other (h:=fun e=>e2 (by injection e with _ A;exact A.symm)),(h.2 j o c f).1]
       by_cases e:j=i
       · subst e
         rw[List.getElem_set_self];match c,f with
         |0,_=>rfl
         |1,_=>rfl
         |2,_=>exact absurd rfl e2
         |3,_=>rfl
         |4,_=>exact absurd rfl e4
       · rw[List.getElem_set_ne (fun z=>e z.symm)]
 · rw[World.frozen?_setCell,World.frozen?_setCell];exact(h.2 j (by simpa using x) c f).2
theorem Ce (G:List Se) (v:Value) (x l r:Int) (p:ByteArray) (n o:Int) (t:ByteArray) (now:Int) (w:World) (hv:aK w v G) (hs:bq G) (hp:p.size≤150000000000000) (h0:bk G x l r p n now=0) (E:Nat) (EV:E<(aq now G).length) (N:cM (aq now G) (cO n p)=(E:Int)) (ht:t.size≤150000000000000) (he:fg ((aq now G)[E]).tx o t=false) (ho:o=(((aq now G)[E]).tx.size:Int)) (Fi:(((aq now G)[E]).tx.size:Int)+t.size≤((aq now G)[E]).si):
    Calls prog 80 #[.agg #[v,x,l,r],p,n,o,t,now] w fun e w'=> ∃u,e= .returned (.tuple #[.agg #[u,x,l,r],((((aq now G)[E]).tx.size:Int)+t.size:Int),ah])∧bR w.heap.size w' u ((aq now G).set E (iB (aq now G)[E] t (now+l)))∧Below w.heap.size w w':=by
 have HV:=ac hv;have HS:=ac hs;clear hv hs;obtain⟨w3,A⟩: ∃w3,w3=(w.alloc (.cells #[v,x,l,r] 26)).alloc (.cells  aJ  26):=⟨_,rfl⟩
 have B3:=hid (show Below w.heap.size w w3 from by rw[A];exact ak.alloc (by simp) _)
 have EK:=hid (show Bx w3 (w.heap.size+1) al ah ah ah from by
  have:=Bx.new (w.alloc (.cells #[v,x,l,r] 26)) al ah ah ah 26
  rw[A];simpa using this)
 have F3:w3.heap.size=w.heap.size+2:=by rw[A];simp
 subst ho;have H0:=ac h0;have HI:=ac N;have E3:=iA h0;obtain⟨U,⟨Fb,Fc⟩,_⟩:=dz E3
 obtain⟨F0,⟨F9,Fa⟩,⟨Fg,Fh⟩,Fl,Fm⟩:=cQ (bu U).1
 have Fj:=de now G;have T:=gO (gN.1 (bu U).2.1 _ (List.mem_filter.1 (List.getElem_mem EV)).1);obtain⟨F1,F2⟩:=eO T.2.1
 have Fk:=T.2.2.2.2;clear h0 E3 U T N;go_enter func80,ntmps80
 go_wp2_with fail;rw[←A];clear A;refine(iU G _ x l r p n now _ (HV.out.below B3.out) HS.out hp).mono ?_
 rintro e w4 (⟨EW,_⟩|⟨_,u,k,rfl,O,E0,E5,F⟩)
 · exact absurd H0.out EW
 obtain rfl:k=E:=by have:=HI.out;rw[E0]at this;omega
 have i:=B3.out.trans (F.mono B3.out.size);have E1:=EK.out.below F;have F4:=F.size;clear F E0;rcases E5 with⟨_,E4⟩|⟨g,f,rfl,F8,EU,j,J,ET⟩
 · rw[E4]at O;simp at O
 have EZ:=j.1;obtain⟨H,C⟩: ∃H,H=w4.alloc (.cells #[.slice (some ⟨g,0,none⟩) (aq now G).length f,x,l,r] 26):=⟨_,rfl⟩
 have d:Below w4.heap.size w4 H:=by rw[C];exact ak
 have Z:Bx H w4.heap.size (.slice (some ⟨g,0,none⟩) (aq now G).length f) x (.int .i64 l) r:=by rw[C];exact Bx.new _ _ _ _ _ _
 have ES:=E1.below d;have I:=i.trans (d.mono i.size);have S:=j.below d;have M:=J.below d;have F6:=d.size;have EJ:=ac Z;have EM:=ac ES;have a:=ac S;have Y:=ac M;obtain⟨t0,t1,t2,t3,t4⟩:=S.at O
 clear E1 i d j J S M;obtain⟨F7,⟨q0,q1,q2,q3⟩,k0,k1,k2,k3⟩:=Z
 have E8:=ac he;have EX:((aq now G)[k]).tx.size≤150000000000000:=by omega
 clear he;generalize hS:(aq now G)[k]=s at*;have T2:=ac t2;have T3:=ac t3;rw[C]at t0 t1 t2 t3 t4;go_wp2_with fail;rw[←C];clear C t0 t1 t2 t3 t4;have t2:=T2.out;have t3:=T3.out;refine(nV s.tx t _ _ EX).mono ?_
 rintro e w5 ⟨rfl,hw⟩;rw[hw,E8.out];clear hw w5;have EP:=(a.out.2 k O 2 (by decide)).2;have EQ:=(a.out.2 k O 4 (by decide)).2;have EO:H.cell? ⟨g,k*5+4,none⟩=some (.int .i64 s.ti):=by have:=(a.out.at O).2.2.2.2;rw[hS]at this;exact this
 have E6:IntKind.i64.wrap ((s.tx.size:Int)+t.size)=(s.tx.size:Int)+t.size:=by rw[IntKind.wrap_i64];omega
 have E7:IntKind.i64.wrap (now+l)=now+l:=by rw[IntKind.wrap_i64];omega
 have Fe: ¬s.si<(s.tx.size:Int)+t.size:=by omega
 obtain⟨V,B⟩: ∃V,V=((H.setCell ⟨g,k*5+2,none⟩ (.string (s.tx++t))).setCell ⟨g,k*5+4,none⟩ (now+l:Int)).drew:=⟨_,rfl⟩
 have P:H.grownBy ((H.setCell ⟨g,k*5+2,none⟩ (.string (s.tx++t))).setCell ⟨g,k*5+4,none⟩ (now+l:Int)) (some g):=Nb.trans (ai _ _ _ _) (ai _ _ _ _);have c:H.grownBy V (some g):=by rw[B];exact Nb.trans P (Nb.below g aw.drew)
 have R:bY V g ((aq now G).set k (iB s t (now+l))):=by
  have:=(a.out.set2 O (s.tx++t) (now+l)).below aw.drew
  rw[hS]at this;rw[B];exact this
 have K:fL V g 79 (f*5):=by
  rw[B];exact(cZ.setCell g _ _ _ _ _ (cZ.setCell g _ _ _ _ _ Y.out)).below aw.drew
 have Ff:V.cell? ⟨g,k*5+2,none⟩=some (.string (s.tx++t)):=by
  have h9:k<((aq now G).set k (iB s t (now+l))).length:=by simpa using O
  have:=(R.at h9).2.2.1
  rw[List.getElem_set_self]at this;exact this
 have EL:=ac (EM.out.nb c (by omega));have E9:=ac (EJ.out.nb c (by omega));have E2:Below w.heap.size w V:=I.trans (Nb.to c I.size (by omega));have Q:=ac R;have X:=ac K;have F5:=c.size;have z:(s.tx++t).size=s.tx.size+t.size:=ByteArray.size_append;have EN:=ac z;go_wp2_with fail;go_region
 go_wp2_with fail;rw[←B];clear B P c R K t2 t3 EP EQ EO q0 q1 q2 q3 k0 k1 k2 k3 E6 E7 z;obtain⟨ER,⟨c0,c1,c2,c3⟩,f0,f1,f2,f3⟩:=EL.out
 obtain⟨EY,⟨q0,q1,q2,q3⟩,k0,k1,k2,k3⟩:=E9.out
 go_region
 go_wp2;refine bodyPost_ret (v:= .tuple #[.agg #[.slice (some ⟨g,0,none⟩) (aq now G).length f,x,l,r],((s.tx.size:Int)+t.size:Int),ah]) (by simp[results,results80,go_sem,c0,c1,c2,c3,ER,EN.out]) rfl ⟨_,by rw[hS],?_,?_⟩
 · rw[hS]
   refine Or.inr ⟨g,f,by simp,by omega,by simpa using EU,?_,?_,ET⟩
   · exact(Q.out.nb (Nb.set4 _ (w.heap.size+1) _ _ _ _) (by omega)).below aw.drew
   · exact(X.out.nb (Nb.set4 _ (w.heap.size+1) _ _ _ _) (by omega)).below aw.drew
 · exact(bz (b:=w.heap.size+1) E2 (by omega)).drew
theorem Cf (G:List Se) (v:Value) (x l r:Int) (p:ByteArray) (n o:Int) (t:ByteArray) (now:Int) (w:World) (C:aK w v G) (z:bq G) (K:p.size≤150000000000000) (s: ¬bk G x l r p n now=0):
    Calls prog 80 #[.agg #[v,x,l,r],p,n,o,t,now] w fun e w'=>e= .returned (.tuple #[.agg  aJ ,ah,bk G x l r p n now])∧Below w.heap.size w w':=by
 have F:=ac C;have E:=ac z;clear C z;obtain⟨f,a⟩: ∃f,f=(w.alloc (.cells #[v,x,l,r] 26)).alloc (.cells  aJ  26):=⟨_,rfl⟩
 have g:=hid (show Below w.heap.size w f from by rw[a];exact ak.alloc (by simp) _)
 have j:=hid (show Bx f (w.heap.size+1) al ah ah ah from by
  have:=Bx.new (w.alloc (.cells #[v,x,l,r] 26)) al ah ah ah 26
  rw[a];simpa using this)
 have A:f.heap.size=w.heap.size+2:=by rw[a];simp
 have i:=ac s;have Q:(bk G x l r p n now==0)=false:=by simpa using s
 clear s;go_enter func80,ntmps80
 go_wp2_with fail;rw[←a];clear a;refine(iU G _ x l r p n now _ (F.out.below g.out) E.out K).mono ?_
 rintro e R (⟨_,rfl,c⟩|⟨J,_⟩);rotate_left
 · exact absurd J i.out
 have d:=g.out.trans (c.mono g.out.size);obtain⟨u,⟨H,I,c2,c3⟩,N,O,f2,P⟩:=j.out.below c
 have B:=c.size;clear c;generalize M:bk G x l r p n now=y at*;go_wp2;refine bodyPost_ret (v:= .tuple #[.agg  aJ ,ah,y]) (by simp[results,results80,go_sem,H,I,c2,c3,u]) rfl ⟨by rw[M],?_⟩
 exact(bz (b:=w.heap.size+1) d (by omega)).alloc (by simp;omega) _
theorem Cg (G:List Se) (v:Value) (x l r:Int) (p:ByteArray) (n o:Int) (t:ByteArray) (now:Int) (w:World) (hv:aK w v G) (hs:bq G) (hp:p.size≤150000000000000) (h0:bk G x l r p n now=0) (S:Nat) (E7:S<(aq now G).length) (C:cM (aq now G) (cO n p)=(S:Int)) (ht:t.size≤150000000000000) (he:fg ((aq now G)[S]).tx o t=true):
    Calls prog 80 #[.agg #[v,x,l,r],p,n,o,t,now] w fun e w'=> ∃u,e= .returned (.tuple #[.agg #[u,x,l,r],(((aq now G)[S]).tx.size:Int),ah])∧bR w.heap.size w' u (aq now G)∧Below w.heap.size w w':=by
 have HV:=ac hv;have HS:=ac hs;clear hv hs;obtain⟨T,f⟩: ∃T,T=(w.alloc (.cells #[v,x,l,r] 26)).alloc (.cells  aJ  26):=⟨_,rfl⟩
 have Z:=hid (show Below w.heap.size w T from by rw[f];exact ak.alloc (by simp) _)
 have E1:=hid (show Bx T (w.heap.size+1) al ah ah ah from by
  have:=Bx.new (w.alloc (.cells #[v,x,l,r] 26)) al ah ah ah 26
  rw[f];simpa using this)
 have EN:T.heap.size=w.heap.size+2:=by rw[f];simp
 have H0:=ac h0;have HI:=ac C;have P:=iA h0;obtain⟨I,⟨EV,EW⟩,_⟩:=dz P
 obtain⟨EK,⟨ET,EU⟩,⟨EX,EY⟩,F1,F2⟩:=cQ (bu I).1
 have EZ:=de now G;have H:=gO (gN.1 (bu I).2.1 _ (List.mem_filter.1 (List.getElem_mem E7)).1);obtain⟨EL,EM⟩:=eO H.2.1
 have F0:=H.2.2.2.2;clear h0 P I H C;go_enter func80,ntmps80
 go_wp2_with fail;rw[←f];clear f;refine(iU G _ x l r p n now _ (HV.out.below Z.out) HS.out hp).mono ?_
 rintro e X (⟨E8,_⟩|⟨_,u,k,rfl,hk,M,R,z⟩)
 · exact absurd H0.out E8
 obtain rfl:k=S:=by have:=HI.out;rw[M]at this;omega
 have c:=Z.out.trans (z.mono Z.out.size);have N:=E1.out.below z;have EO:=z.size;clear z M;rcases R with⟨_,Q⟩|⟨g,j,rfl,ES,E6,d,A,E5⟩
 · rw[Q]at hk;simp at hk
 have EJ:=d.1;obtain⟨Y,i⟩: ∃Y,Y=X.alloc (.cells #[.slice (some ⟨g,0,none⟩) (aq now G).length j,x,l,r] 26):=⟨_,rfl⟩
 have a:Below X.heap.size X Y:=by rw[i];exact ak
 have K:Bx Y X.heap.size (.slice (some ⟨g,0,none⟩) (aq now G).length j) x (.int .i64 l) r:=by rw[i];exact Bx.new _ _ _ _ _ _
 have E4:=N.below a;have O:=c.trans (a.mono c.size);have F:=d.below a;have B:=A.below a;have EP:=a.size;have EQ:=ac K;have E2:=ac E4;have E:=ac F;have J:=ac B;obtain⟨t0,t1,U,V,t4⟩:=F.at hk
 clear N c a d A F B;obtain⟨ER,⟨q0,q1,q2,q3⟩,k0,k1,k2,k3⟩:=K
 have E0:=ac he;have E9:((aq now G)[k]).tx.size≤150000000000000:=by omega
 clear he;generalize hS:(aq now G)[k]=s at*;have T2:=ac U;have T3:=ac V;rw[i]at t0 t1 U V t4;go_wp2_with fail;rw[←i];clear i t0 t1 U V t4;have U:=T2.out;have V:=T3.out;refine(nV s.tx t _ _ E9).mono ?_
 rintro e w5 ⟨rfl,hw⟩;rw[hw,E0.out];clear hw w5;obtain⟨E3,⟨c0,c1,c2,c3⟩,f0,f1,f2,f3⟩:=E2.out
 go_wp2_with fail;go_region
 go_wp2;refine bodyPost_ret (v:= .tuple #[.agg #[.slice (some ⟨g,0,none⟩) (aq now G).length j,x,l,r],(s.tx.size:Int),ah]) (by simp[results,results80,go_sem,c0,c1,c2,c3,E3]) rfl ⟨_,by rw[hS],?_,?_⟩
 · refine Or.inr ⟨g,j,rfl,by omega,E6,?_,?_,E5⟩
   · exact(E.out.nb (Nb.set4 _ (w.heap.size+1) _ _ _ _) (by omega)).below aw.drew
   · exact(J.out.nb (Nb.set4 _ (w.heap.size+1) _ _ _ _) (by omega)).below aw.drew
 · exact(bz (b:=w.heap.size+1) O (by omega)).drew
theorem Ci (G:List Se) (v:Value) (x l r:Int) (p:ByteArray) (n o:Int) (t:ByteArray) (now:Int) (w:World) (hv:aK w v G) (hs:bq G) (hp:p.size≤150000000000000) (h0:bk G x l r p n now=0) (Q:Nat) (E4:Q<(aq now G).length) (B:cM (aq now G) (cO n p)=(Q:Int)) (ht:t.size≤150000000000000) (he:fg ((aq now G)[Q]).tx o t=false) (ho:(o !=(((aq now G)[Q]).tx.size:Int))=true):
    Calls prog 80 #[.agg #[v,x,l,r],p,n,o,t,now] w fun e w'=>e= .returned (.tuple #[.agg  aJ ,ah,.int .i64 4])∧Below w.heap.size w w':=by
 have HV:=ac hv;have HS:=ac hs;clear hv hs;obtain⟨R,f⟩: ∃R,R=(w.alloc (.cells #[v,x,l,r] 26)).alloc (.cells  aJ  26):=⟨_,rfl⟩
 have X:=hid (show Below w.heap.size w R from by rw[f];exact ak.alloc (by simp) _)
 have Z:=hid (show Bx R (w.heap.size+1) al ah ah ah from by
  have:=Bx.new (w.alloc (.cells #[v,x,l,r] 26)) al ah ah ah 26
  rw[f];simpa using this)
 have EL:R.heap.size=w.heap.size+2:=by rw[f];simp
 have H0:=ac h0;have HI:=ac B;have N:=iA h0;obtain⟨F,⟨EV,EW⟩,_⟩:=dz N
 obtain⟨E9,⟨ET,EU⟩,⟨EX,EY⟩,F1,F2⟩:=cQ (bu F).1
 have EZ:=de now G;have E:=gO (gN.1 (bu F).2.1 _ (List.mem_filter.1 (List.getElem_mem E4)).1);obtain⟨EJ,EK⟩:=eO E.2.1
 have F0:=E.2.2.2.2;clear h0 N F E B;go_enter func80,ntmps80
 go_wp2_with fail;rw[←f];clear f;refine(iU G _ x l r p n now _ (HV.out.below X.out) HS.out hp).mono ?_
 rintro e U (⟨E5,_⟩|⟨_,u,k,rfl,hk,J,P,j⟩)
 · exact absurd H0.out E5
 obtain rfl:k=Q:=by have:=HI.out;rw[J]at this;omega
 have c:=X.out.trans (j.mono X.out.size);have K:=Z.out.below j;have EM:=j.size;clear j J;rcases P with⟨_,O⟩|⟨g,H,rfl,ER,ES,d,z,EQ⟩
 · rw[O]at hk;simp at hk
 have E8:=d.1;obtain⟨V,i⟩: ∃V,V=U.alloc (.cells #[.slice (some ⟨g,0,none⟩) (aq now G).length H,x,l,r] 26):=⟨_,rfl⟩
 have a:Below U.heap.size U V:=by rw[i];exact ak
 have I:Bx V U.heap.size (.slice (some ⟨g,0,none⟩) (aq now G).length H) x (.int .i64 l) r:=by rw[i];exact Bx.new _ _ _ _ _ _
 have E3:=K.below a;have M:=c.trans (a.mono c.size);have C:=d.below a;have A:=z.below a;have EN:=a.size;have EO:=ac I;have E1:=ac E3;have E0:=ac C;have E7:=ac A;obtain⟨t0,t1,S,T,t4⟩:=C.at hk
 clear K c a d z C A;obtain⟨EP,⟨q0,q1,q2,q3⟩,k0,k1,k2,k3⟩:=I
 have Y:=ac he;have E6:((aq now G)[k]).tx.size≤150000000000000:=by omega
 clear he;generalize hS:(aq now G)[k]=s at*;have T2:=ac S;have T3:=ac T;rw[i]at t0 t1 S T t4;go_wp2_with fail;rw[←i];clear i t0 t1 S T t4;have S:=T2.out;have T:=T3.out;refine(nV s.tx t _ _ E6).mono ?_
 rintro e w5 ⟨rfl,hw⟩;rw[hw,Y.out];clear hw w5;obtain⟨E2,⟨c0,c1,c2,c3⟩,f0,f1,f2,f3⟩:=E1.out
 go_wp2;refine bodyPost_ret (v:= .tuple #[.agg  aJ ,ah,.int .i64 4]) (by simp[results,results80,go_sem,c0,c1,c2,c3,E2]) rfl ⟨rfl,?_⟩
 exact bz (b:=w.heap.size+1) M (by omega)
theorem Cj (G:List Se) (v:Value) (x l r:Int) (p:ByteArray) (n o:Int) (t:ByteArray) (now:Int) (w:World) (hv:aK w v G) (hs:bq G) (hp:p.size≤150000000000000) (h0:bk G x l r p n now=0) (I:Nat) (E4:I<(aq now G).length) (C:cM (aq now G) (cO n p)=(I:Int)) (ht:t.size≤150000000000000) (he:fg ((aq now G)[I]).tx o t=false) (ho:o=(((aq now G)[I]).tx.size:Int)) (F0:((aq now G)[I]).si<(((aq now G)[I]).tx.size:Int)+t.size):
    Calls prog 80 #[.agg #[v,x,l,r],p,n,o,t,now] w fun e w'=>e= .returned (.tuple #[.agg  aJ ,ah,.int .i64 2])∧Below w.heap.size w w':=by
 have HV:=ac hv;have HS:=ac hs;clear hv hs;obtain⟨R,f⟩: ∃R,R=(w.alloc (.cells #[v,x,l,r] 26)).alloc (.cells  aJ  26):=⟨_,rfl⟩
 have X:=hid (show Below w.heap.size w R from by rw[f];exact ak.alloc (by simp) _)
 have Z:=hid (show Bx R (w.heap.size+1) al ah ah ah from by
  have:=Bx.new (w.alloc (.cells #[v,x,l,r] 26)) al ah ah ah 26
  rw[f];simpa using this)
 have EL:R.heap.size=w.heap.size+2:=by rw[f];simp
 subst ho;have H0:=ac h0;have HI:=ac C;have O:=iA h0;obtain⟨H,⟨EW,EX⟩,_⟩:=dz O
 obtain⟨E9,⟨EU,EV⟩,⟨EY,EZ⟩,F3,F4⟩:=cQ (bu H).1
 have F1:=de now G;have F:=gO (gN.1 (bu H).2.1 _ (List.mem_filter.1 (List.getElem_mem E4)).1);obtain⟨EJ,EK⟩:=eO F.2.1
 have F2:=F.2.2.2.2;clear h0 O H F C;go_enter func80,ntmps80
 go_wp2_with fail;rw[←f];clear f;refine(iU G _ x l r p n now _ (HV.out.below X.out) HS.out hp).mono ?_
 rintro e U (⟨E5,_⟩|⟨_,u,k,rfl,hk,M,Q,j⟩)
 · exact absurd H0.out E5
 obtain rfl:k=I:=by have:=HI.out;rw[M]at this;omega
 have c:=X.out.trans (j.mono X.out.size);have N:=Z.out.below j;have EM:=j.size;clear j M;rcases Q with⟨_,P⟩|⟨g,J,rfl,ES,ET,d,A,ER⟩
 · rw[P]at hk;simp at hk
 have E8:=d.1;obtain⟨V,i⟩: ∃V,V=U.alloc (.cells #[.slice (some ⟨g,0,none⟩) (aq now G).length J,x,l,r] 26):=⟨_,rfl⟩
 have a:Below U.heap.size U V:=by rw[i];exact ak
 have K:Bx V U.heap.size (.slice (some ⟨g,0,none⟩) (aq now G).length J) x (.int .i64 l) r:=by rw[i];exact Bx.new _ _ _ _ _ _
 have E3:=N.below a;have z:=c.trans (a.mono c.size);have E:=d.below a;have B:=A.below a;have EN:=a.size;have EP:=ac K;have E1:=ac E3;have E0:=ac E;have E7:=ac B;obtain⟨t0,t1,S,T,t4⟩:=E.at hk
 clear N c a d A E B;obtain⟨EQ,⟨q0,q1,q2,q3⟩,k0,k1,k2,k3⟩:=K
 have Y:=ac he;have E6:((aq now G)[k]).tx.size≤150000000000000:=by omega
 clear he;generalize hS:(aq now G)[k]=s at*;have T2:=ac S;have T3:=ac T;rw[i]at t0 t1 S T t4;go_wp2_with fail;rw[←i];clear i t0 t1 S T t4;have S:=T2.out;have T:=T3.out;refine(nV s.tx t _ _ E6).mono ?_
 rintro e w5 ⟨rfl,hw⟩;rw[hw,Y.out];clear hw w5;obtain⟨E2,⟨c0,c1,c2,c3⟩,f0,f1,f2,f3⟩:=E1.out
 have EO:IntKind.i64.wrap ((s.tx.size:Int)+t.size)=(s.tx.size:Int)+t.size:=by rw[IntKind.wrap_i64];omega
 go_wp2_with fail;go_region
 go_wp2;refine bodyPost_ret (v:= .tuple #[.agg  aJ ,ah,.int .i64 2]) (by simp[results,results80,go_sem,c0,c1,c2,c3,E2]) rfl ⟨rfl,?_⟩
 first|exact(bz (b:=w.heap.size+1) z (by omega)).drew|exact bz (b:=w.heap.size+1) z.drew (by omega)
theorem bY.setMany {w:World} {g:Nat} {A B C B':List Se} (h:bY w g (A++B++C)) (E:B'.length=B.length):bY (w.setCells g (A.length*5) (bn B')) g (A++B'++C):=by
 have a:=il B';refine⟨Nat.lt_of_lt_of_le h.1 (en g _ _ w).size,fun j v c i=>⟨?_,?_⟩⟩
 · have f:j<(A++B++C).length:=by simp only[List.length_append]at v⊢;omega
   by_cases s:j<A.length
   · rw[World.cell?_setCells_out g _ _ _ _ (fun _ _=>by simp only;omega),(h.2 j f c i).1]
     simp only[List.append_assoc];rw[List.getElem_append_left s,List.getElem_append_left s]
   · by_cases z:j<A.length+B'.length
     · have x:(j-A.length)*5+c<(bn B').length:=by rw[a];omega
       have d:=World.cell?_setCells_in g (bn B') (A.length*5) w (fun t o=>by
        rw[a]at o;exact(nJ h (by simp only[List.length_append];omega)).1) _ x
       rw[show A.length*5+((j-A.length)*5+c)=j*5+c by omega]at d;rw[d];have u:=l9 B' (j-A.length) c (by omega) i;rw[List.getElem?_eq_getElem x]at u;rw[u]
       have e:(A++B'++C)[j]=B'[j-A.length]:=by
        simp only[List.append_assoc];rw[List.getElem_append_right (by omega),List.getElem_append_left (by omega)]
       rw[e]
     · rw[World.cell?_setCells_out g _ _ _ _ (fun _ _=>by simp only;rw[a];omega),(h.2 j f c i).1]
       have e:(A++B'++C)[j]=(A++B++C)[j]:=by
        simp only[List.append_assoc];rw[List.getElem_append_right (by omega),List.getElem_append_right (by omega),List.getElem_append_right (by omega),List.getElem_append_right (by omega)];congr 1
        omega
       rw[e]
 · rw[World.frozen?_setCells];exact(h.2 j (by simp only[List.length_append]at v⊢;omega) c i).2
theorem Ck (A C:List Se) (y:Se) (q cap:Nat) (w:World) (R:bY w q (A++y::C)) (M:(A++y::C).length≤cap) (hm:cap≤maxLen):
    Calls prog 148 #[.slice (some ⟨q,0,none⟩) (A++y::C).length cap,A.length,((A.length:Int)+1:Int)] w fun e w'=>e= .returned (.slice (some ⟨q,0,none⟩) (A++C).length cap)∧bY w' q (A++C)∧w.grownBy w' (some q)∧cZ q w w':=by
 obtain⟨V,O,E8,Q,E9⟩:=info_parts Tryz.infoSe
 have E7:cap≤9223372036854775807:=by unfold maxLen at hm;omega
 have P:(A++y::C).length=A.length+C.length+1:=by simp;omega
 obtain⟨B,z,j⟩: ∃B z,y::C=B++[z]:=⟨(y::C).dropLast,(y::C).getLast (by simp),(List.dropLast_concat_getLast (by simp)).symm⟩
 have I:C.length=B.length:=by have:=congrArg List.length j;simp at this;omega
 have K:bY w q (A++B++[z]):=by rw[List.append_assoc,←j];exact R
 have E6:A.length+C.length+1-(A.length+1)=C.length:=by omega
 obtain⟨G,a⟩: ∃G,G=w.drew.setCells q (0+A.length*5) (bn C):=⟨_,rfl⟩
 have o:bY w.drew q (A++B++[z]):=K.below aw.drew;have J:bY G q (A++C++[z]):=by rw[a,Nat.zero_add];exact o.setMany I
 have f:w.grownBy G (some q):=by rw[a];exact Nb.trans (Nb.below q aw.drew) (en q _ _ _)
 have d:cZ q w G:=by rw[a];exact(cZ.below aw.drew).trans (cZ.setCells q _ _ _)
 obtain⟨wc,hcl,hrc,hnc,hkc⟩:=uw (A:=A++C) (X:=[z]) J 0 (by simp)
 have s1:=hid (show(bn C).length=C.length*5 from il C)
 have Y:=hid (show∀t,t<(bn C).length→(w.drew.cell? ⟨q,0+A.length*5+t,none⟩).isSome=true∧w.drew.frozen? ⟨q,0+A.length*5+t,none⟩=false from fun t ht=>by
  rw[il]at ht;rw[Nat.zero_add];exact nJ o (by simp only[List.length_append,List.length_singleton];omega))
 have g:C≠[]→ ∀t u,(bn C)[t]?=some u→w.drew.cell? ((⟨q,(A.length+1)*5,none⟩:Addr).add t)=some u:=fun _=>mq fun i hi=>by
  have S:A.length+1+i<(A++y::C).length:=by omega
  have:=(R.below aw.drew).at S
  rw[show(A.length+1+i)*5=(A.length+1)*5+i*5 by omega]at this
  have e:(A++y::C)[A.length+1+i]=C[i]:=by
   rw[List.getElem_append_right (by omega)];simp[show A.length+1+i-A.length=i+1 by omega]
  rw[e]at this;exact this
 have H:(A++C).length=A.length+C.length:=List.length_append;rw[H]at hcl⊢;simp only[List.length_singleton]at hcl;have E:=ac hrc;have x:=ac (Nb.trans f hnc);have v:=ac (d.trans hkc);have U:=ac a;have F:=ac g;clear hrc hnc hkc f d a J o K R g j I;have Z:A.length≤cap:=by omega
 have E4:(0:Int)≤(A.length:Int)+1:=by omega
 have E5:(A.length:Int)≤(A.length:Int)+C.length:=by omega
 have E0:A.length+1≤cap:=by omega
 rw[P]at M⊢;by_cases N:cap=A.length+1
 · have c:C=[]:=List.length_eq_zero_iff.1 (by omega)
   subst c;subst N;have E1:A.length≤A.length+1:=by omega
   have E2:(A.length:Int)≤(A.length:Int)+1:=by omega
   have E3:(0:Int)≤(A.length:Int)+1:=by omega
   simp only[List.length_nil,Nat.add_zero]at*;go_enter func148,ntmps148
   go_wp2_with fail;go_region_law (refine step_append_room rfl (.tmp 22) (.tmp 25) 24 rfl 79 V 5 underlying24 O Q q 0 A.length (A.length+1) (by simp[Act.eval,Act.put]) ⟨q,0,none⟩ 0 0 (bn []) (by simp[Act.eval,Act.put]) rfl (by intro t u T;simp[bn]at T) (jt []) (by omega) Y.out ?_;rw[←U.out])
   go_wp2;go_ret;exact⟨rfl,E.out,x.out,v.out⟩
 · have s:=hid (show∀t u,(bn C)[t]?=some u→w.drew.cell? ((⟨q,(A.length+1)*5,none⟩:Addr).add t)=some u from by
    by_cases c:C=[]
    · subst c;intro t u T;simp[bn]at T
    · exact F.out c)
   go_enter func148,ntmps148
   go_wp2_with fail;go_region_law (refine step_append_room rfl (.tmp 22) (.tmp 25) 24 rfl 79 V 5 underlying24 O Q q 0 A.length cap (by simp[Act.eval,Act.put]) ⟨q,(A.length+1)*5,none⟩ C.length (cap-(A.length+1)) (bn C) (by simp[Act.eval,Act.put,N]) s1.out s.out (jt C) (by omega) Y.out ?_;rw[←U.out])
   go_wp2;go_ret;exact⟨rfl,E.out,x.out,v.out⟩
theorem Cm (G:List Se) (v:Value) (x l r:Int) (p:ByteArray) (n:Int) (now:Int) (w:World) (hv:aK w v G) (hs:bq G) (hp:p.size≤150000000000000) (h0:bk G x l r p n now=0) (X:Nat) (F6:X<(aq now G).length) (U:cM (aq now G) (cO n p)=(X:Int)) (Fy: ¬(((aq now G)[X]).tx.size:Int)<((aq now G)[X]).si):
    Calls prog 108 #[.agg #[v,x,l,r],p,n,now] w fun e w'=> ∃u,e= .returned (.tuple #[.agg #[u,x,l,r],.string ((aq now G)[X]).tx,ah])∧bR w.heap.size w' u ((aq now G).take X++(aq now G).drop (X+1))∧Below w.heap.size w w':=by
 have HV:=ac hv;have HS:=ac hs;clear hv hs;obtain⟨w3,K⟩: ∃w3,w3=(w.alloc (.cells #[v,x,l,r] 26)).alloc (.cells  aJ  26):=⟨_,rfl⟩
 have B3:=hid (show Below w.heap.size w w3 from by rw[K];exact ak.alloc (by simp) _)
 have EY:=hid (show Bx w3 (w.heap.size+1) al ah ah ah from by
  have:=Bx.new (w.alloc (.cells #[v,x,l,r] 26)) al ah ah ah 26
  rw[K];simpa using this)
 have Fe:w3.heap.size=w.heap.size+2:=by rw[K];simp
 have H0:=ac h0;have HI:=ac U;have EQ:=iA h0;obtain⟨E7,⟨Ft,Fv⟩,_⟩:=dz EQ
 obtain⟨Fa,⟨Fq,Fs⟩,⟨Fw,Fx⟩,FB,FC⟩:=cQ (bu E7).1
 have Fz:=de now G;have E5:=gO (gN.1 (bu E7).2.1 _ (List.mem_filter.1 (List.getElem_mem F6)).1);obtain⟨Fb,Fc⟩:=eO E5.2.1
 have FA:=E5.2.2.2.2;clear h0 EQ E7 E5 U;go_enter func108,ntmps108
 go_wp2_with fail;rw[←K];clear K;refine(iU G _ x l r p n now _ (HV.out.below B3.out) HS.out hp).mono ?_
 rintro e f (⟨F7,_⟩|⟨_,u,k,rfl,hk,EM,ES,N⟩)
 · exact absurd H0.out F7
 obtain rfl:k=X:=by have:=HI.out;rw[EM]at this;omega
 have F:=B3.out.trans (N.mono B3.out.size);have EN:=EY.out.below N;have Ff:=N.size;clear N EM;rcases ES with⟨_,ER⟩|⟨g,d,rfl,Fp,F5,J,S,EP⟩
 · rw[ER]at hk;simp at hk
 have F9:=J.1;obtain⟨o,j⟩: ∃o,o=f.alloc (.cells #[.slice (some ⟨g,0,none⟩) (aq now G).length d,x,l,r] 26):=⟨_,rfl⟩
 have B:Below f.heap.size f o:=by rw[j];exact ak
 have EL:Bx o f.heap.size (.slice (some ⟨g,0,none⟩) (aq now G).length d) x (.int .i64 l) r:=by rw[j];exact Bx.new _ _ _ _ _ _
 have F4:=EN.below B;have Q:=F.trans (B.mono F.size);have E4:=J.below B;have T:=S.below B;have Fj:=B.size;have EX:=ac EL;have F2:=ac F4;have E2:=ac E4;have EJ:=ac T;obtain⟨t0,t1,t2,t3,t4⟩:=E4.at hk
 clear EN F B J S E4 T;obtain⟨Fm,⟨q0,q1,q2,q3⟩,k0,k1,k2,k3⟩:=EL
 have hM:aq now G=(aq now G).take k++(aq now G)[k]::(aq now G).drop (k+1):=by rw[←List.drop_eq_getElem_cons hk,List.take_append_drop]
 have M:((aq now G).take k).length=k:=by rw[List.length_take];omega
 generalize hS:(aq now G)[k]=s at*;obtain⟨A,hA⟩: ∃A,A=(aq now G).take k:=⟨_,rfl⟩
 obtain⟨C,hC⟩: ∃C,C=(aq now G).drop (k+1):=⟨_,rfl⟩
 rw[←hA,←hC]at hM;rw[←hA]at M;have Z:=hid (show bY o g (A++s::C)from by rw[←hM];exact E2.out);have Fl:=ac hM;have Y:=hid (show(aq now G).length=(A++s::C).length from by rw[←hM]);have EV:=hid (show(aq now G).take k++(aq now G).drop (k+1)=A++C from by rw[hA,hC]);obtain⟨ws,E⟩: ∃ws,ws=o.alloc (.cells #[s.nu,s.wh,s.tx,s.si,s.ti] 79):=⟨_,rfl⟩
 have z:Below o.heap.size o ws:=by rw[E];exact ak
 have EU:ws.cell? ⟨o.heap.size,2,none⟩=some (.string s.tx):=by rw[E];simp
 have Fi:ws.heap.size=o.heap.size+1:=by rw[E];simp
 have EK:=ac (EX.out.below z);have F1:=ac (F2.out.below z);have E1:=ac (Z.out.below z);have E9:=ac (EJ.out.below z);have P:=Q.trans (z.mono Q.size);have E6:o.heap.size=f.heap.size+1:=by rw[j];simp
 obtain⟨Fo,⟨y0,y1,y2,y3⟩,_⟩:=EK.out
 rw[E,j]at y0 y1 y2 y3;rw[j]at t0 t1 t2 t3 t4 q0;clear hA hC hM;have I:=Ck A C s g d ws E1.out (by rw[←Y.out];exact F5) EP;rw[M,←Y.out]at I;have Fk:=ac M;clear M;go_wp2_with fail;rw[←j,←E];refine I.mono ?_
 rintro e w5 ⟨rfl,ET,c,V⟩;have EW:=ac (EK.out.nb c (by omega));have EZ:=ac (F1.out.nb c (by omega))
 have z5:w5.cell? ⟨f.heap.size+1,2,none⟩=some (.string s.tx):=by
  rw[←E6];exact(Nb.cell c (p:=⟨o.heap.size,2,none⟩) (by show o.heap.size<ws.heap.size;omega) (by show o.heap.size≠g;omega)).trans EU
 have H:Below w.heap.size w w5:=P.trans (Nb.to c P.size (by omega));have Fg:=c.size;have R:=V _ _ E9.out;clear c V I t0 t1 t2 t3 t4 q0 q1 q2 q3 k0 k1 k2 k3 y0 y1 y2 y3 EU j E z;obtain⟨F8,⟨q0,q1,q2,q3⟩,k0,k1,k2,k3⟩:=EW.out
 obtain⟨O,i⟩: ∃O,O=w5.setCell ⟨f.heap.size,0,none⟩ (.slice (some ⟨g,0,none⟩) (A.length+C.length) d):=⟨_,rfl⟩
 have a:w5.grownBy O (some f.heap.size):=by rw[i];exact ai _ _ _ _
 have F0:=ac (EZ.out.nb a (by omega));have u0:O.cell? ⟨f.heap.size,0,none⟩=some (.slice (some ⟨g,0,none⟩) (A.length+C.length) d):=by rw[i];simp[go_sem,q0]
 have u1:O.cell? ⟨f.heap.size,1,none⟩=some (.int .i64 x):=by rw[i];simp[go_sem,q1]
 have u2:O.cell? ⟨f.heap.size,2,none⟩=some (.int .i64 l):=by rw[i];simp[go_sem,q2]
 have u3:O.cell? ⟨f.heap.size,3,none⟩=some (.int .i64 r):=by rw[i];simp[go_sem,q3]
 have zq:O.cell? ⟨f.heap.size+1,2,none⟩=some (.string s.tx):=(Nb.cell a (p:=⟨f.heap.size+1,2,none⟩) (by show f.heap.size+1<w5.heap.size;omega) (by show f.heap.size+1≠f.heap.size;omega)).trans z5;have E0:=ac (ET.nb a (by omega));have E8:=ac (R.nb a (by omega));have EO:Below w.heap.size w O:=H.trans (Nb.to a H.size (by omega));have Fh:=a.size;have E3:(A++C).length≤d:=by have:=Y.out;simp only[List.length_append,List.length_cons]at this⊢;omega
 clear ET R;go_wp2_with fail;rw[←i];clear i a q0 q1 q2 q3 k0 k1 k2 k3 z5 H;obtain⟨F3,⟨c0,c1,c2,c3⟩,f0,f1,f2,f3⟩:=F0.out
 go_region
 go_wp2;refine bodyPost_ret (v:= .tuple #[.agg #[.slice (some ⟨g,0,none⟩) (A.length+C.length) d,x,l,r],s.tx,ah]) (by simp[results,results108,go_sem,c0,c1,c2,c3,F3]) rfl ⟨_,by rw[hS],?_,?_⟩
 · rw[EV.out]
   refine Or.inr ⟨g,d,by simp,by omega,E3,?_,?_,EP⟩
   · exact(E0.out.nb (Nb.set4 _ (w.heap.size+1) _ _ _ _) (by omega)).below aw.drew
   · exact(E8.out.nb (Nb.set4 _ (w.heap.size+1) _ _ _ _) (by omega)).below aw.drew
 · exact(bz (b:=w.heap.size+1) EO (by omega)).drew
theorem nX {P:Program} (w:World) (E N O f:TypeId) (k g o d u:Nat) (a:Addr) (c s:Nat) (cur:List Value) (t:TypeId) (cs:List Value)
    (M:P.underlying E=some (.slice f)) (F:(P.info? f).map (·.size)=some k) (H:w.heap[g]?=some (.cells cur.toArray t (0,0))) (K:cs.length=Nat.min c d*k)
    (z: ∀j v,cs[j]?=some v→w.cell? (a.add j)=some v) (x:o+cs.length≤cur.length) (G: ∀v∈cs,v.oneCell'=true):
    (Builtin.copy_ #[E,N] O #[.slice (some ⟨g,o,none⟩) d u,.slice (some a) c s]).run P w= .ok (goInt (Nat.min c d:Nat)) (w.setRow g (splice cur o cs).toArray):=by
 have J:=run_firstCells_some (P:=P) w k (Nat.min c d) a c s cs K z;have A:=run_storeCells_at P g o t cs 0 cur.toArray w H (by simpa using x) G;simp only[Nat.add_zero,List.append_assoc]at A;cases C:P.info? f with
 |none=>simp[C]at F
 |some i=>
  have I:i.size=k:=by simpa[C]using F
  subst I;have B:(storeCells ⟨g,o,none⟩ cs 0).run P w= .ok () (w.setRow g (splice cur o cs).toArray):=A;simp[Builtin.copy_,run_underlying M,Builtin.lenOf,Go.sizeOf,typeInfo,C,J,B]
theorem vD {P:Program} {w:World} {c:Array Oper} {rest:List Oper} {o:Oper} {a:Act} {Q:Exit→Act→World→Prop} (f:o.guard=none) (d s:Operand) (g i:TypeId)
    (A:o.op= .call {callee:= .builtin .copy,args:= #[d,s],argTypes:= #[g,i]}) (v u:Value) (z:a.eval d=v) (C:a.eval s=u) {j:Value} {w':World}
    (B:(Builtin.copy_ #[g,i] o.type #[v,u]).run P w= .ok j w') (h:wpList P c Q rest (a.put o.dst j) w'):wpList P c Q (o::rest) a w:=by
 refine wpList_plain f fun K x=>?_
 unfold Oper.wp;simp[execOp,A,resolve,invoke,builtin,z,C,B,Result.andThen]
 exact x _ _ h
theorem vE {P:Program} {c:Array Oper} {o:Oper} {a:Act} {w:World} {K:Act→World→Prop} {Q:Exit→Act→World→Prop} {E:Prop} (f:o.guard=none) (d s:Operand) (g i:TypeId)
    (A:o.op= .call {callee:= .builtin .copy,args:= #[d,s],argTypes:= #[g,i]}) (v u:Value) (z:a.eval d=v) (C:a.eval s=u) {j:Value} {w':World}
    (B:(Builtin.copy_ #[g,i] o.type #[v,u]).run P w= .ok j w') (x:K (a.put o.dst j) w'):
    if Region.wanted o (yielded c a.tmps)=true then Oper.wp P o a w K Q else E:=by
 have F:Region.wanted o (yielded c a.tmps)=true:=by simp[Region.wanted,f]
 rw[if_pos F];unfold Oper.wp;simp[execOp,A,resolve,invoke,builtin,z,C,B,Result.andThen]
 exact x
theorem Cn {P:Program} {w:World} {c:Array Oper} {rest:List Oper} {o:Oper} {a:Act} {Q:Exit→Act→World→Prop} (f:o.guard=none) (d s:Operand) (g i:TypeId)
    (A:o.op= .call {callee:= .builtin .append,args:= #[d,s],argTypes:= #[g,i]}) (v u:Value) (z:a.eval d=v) (C:a.eval s=u) {j:Value} {w':World}
    (B:(Builtin.append_ #[g,i] o.type #[v,u]).run P w= .ok j w') (h:wpList P c Q rest (a.put o.dst j) w'):wpList P c Q (o::rest) a w:=by
 refine wpList_plain f fun K x=>?_
 unfold Oper.wp;simp[execOp,A,resolve,invoke,builtin,z,C,B,Result.andThen]
 exact x _ _ h
theorem vF {R:List (List Value)} {k:Nat} (h: ∀r∈R,r.length=k): ∀i,(R.take i).flatten=R.flatten.take (i*k):=by
 induction R with
 |nil=>intro i;simp
 |cons r R ih=>
  intro i;cases i with
  |zero=>simp
  |succ i=>
   have a:=h r (List.mem_cons_self ..);have e:(i+1)*k-r.length=i*k:=by rw[a,Nat.succ_mul];omega
   have t:r.take ((i+1)*k)=r:=List.take_of_length_le (by rw[a,Nat.succ_mul];omega);rw[List.take_succ_cons,List.flatten_cons,List.flatten_cons,ih (fun x c=>h x (List.mem_cons_of_mem _ c)) i,List.take_append,t,e]
theorem vG {R:List (List Value)} {k:Nat} (h: ∀r∈R,r.length=k): ∀i,(R.drop i).flatten=R.flatten.drop (i*k):=by
 induction R with
 |nil=>intro i;simp
 |cons r R ih=>
  intro i;cases i with
  |zero=>simp
  |succ i=>
   have a:=h r (List.mem_cons_self ..);have e:(i+1)*k-r.length=i*k:=by rw[a,Nat.succ_mul];omega
   have t:r.drop ((i+1)*k)=[]:=List.drop_eq_nil_of_le (by rw[a,Nat.succ_mul];omega);rw[List.drop_succ_cons,List.flatten_cons,ih (fun x c=>h x (List.mem_cons_of_mem _ c)) i,List.drop_append,t,e,List.nil_append]
theorem jT {a:Type} {X Y:List a} {n:Nat} (h:X.length≤n):(X++Y).take n=X++Y.take (n-X.length):=by rw[List.take_append,List.take_of_length_le h]
theorem Cp {a:Type} {X Y:List a} {n:Nat} (h:X.length≤n):(X++Y).drop n=Y.drop (n-X.length):=by rw[List.drop_append,List.drop_eq_nil_of_le h,List.nil_append]
theorem mH {a:Type} {X:List a} {n:Nat} (h:n≤X.length):(X.take n).length=n:=by rw[List.length_take,Nat.min_eq_left h]
theorem Cq {cur X N:List Value} {a:Nat} (d:N.length=4) (s:X.length+4≤cur.length) (f:a≤X.length) (i:cur.take X.length=X):
    (splice (splice cur (a+4) (X.drop a)) a N).take (X.length+4)=X.take a++(N++X.drop a):=by
 have j:(X.drop a).length=X.length-a:=List.length_drop ..;have c:(cur.take (a+4)).length=a+4:=mH (by omega);have o:(X.take a).length=a:=mH f
 have g:(splice cur (a+4) (X.drop a)).take a=X.take a:=by
  rw[splice,List.take_append,c,show a-(a+4)=0 by omega,List.take_zero,List.append_nil,List.take_take,Nat.min_eq_left (by omega:a≤a+4)];conv=>rhs;rw[←i,List.take_take,Nat.min_eq_left f]
 have e2:(splice cur (a+4) (X.drop a)).drop (a+4)=X.drop a++cur.drop (a+4+(X.drop a).length):=by
  rw[splice,Cp (by rw[c];omega),c,Nat.sub_self,List.drop_zero]
 rw[show splice (splice cur (a+4) (X.drop a)) a N=X.take a++(N++(X.drop a++cur.drop (a+4+(X.drop a).length))) by rw[splice,g,d,e2]];rw[jT (by omega),o,jT (by omega),d,jT (by omega),j,show X.length+4-a-4-(X.length-a)=0 by omega,List.take_zero,List.append_nil]
theorem Cr {cur X N:List Value} {a:Nat} (c:N.length=4) (u:X.length+4≤cur.length) (g:a≤X.length) (i:cur.take a=X.take a):
    (splice (splice cur a N) (a+4) (X.drop a)).take (X.length+4)=X.take a++(N++X.drop a):=by
 have j:(X.drop a).length=X.length-a:=List.length_drop ..;have d:(cur.take a).length=a:=mH (by omega);have o:(X.take a).length=a:=mH g;have s:(X.take a++N).length=a+4:=by rw[List.length_append,o,c]
 have f:(splice cur a N).take (a+4)=X.take a++N:=by
  rw[splice,jT (by rw[d];omega),d,show a+4-a=4 by omega,jT (by omega),c,Nat.sub_self,List.take_zero,List.append_nil,i]
 rw[show splice (splice cur a N) (a+4) (X.drop a)=(X.take a++N)++(X.drop a++(splice cur a N).drop (a+4+(X.drop a).length)) by rw[splice,f]];rw[jT (by omega),s,jT (by omega),j,show X.length+4-(a+4)-(X.length-a)=0 by omega,List.take_zero,List.append_nil,List.append_assoc]
theorem vH (w:World) (g:Nat) (cs:Array Value):w.grownBy (w.setRow g cs) (some g):=⟨rfl,rfl,rfl,by simp[World.setRow],fun k c a=>setRow_other w g k cs (fun e=>a (by rw[e]))⟩
def iC (w:World) (sx:Value) (m size:Nat) (news:List Value):Prop:=(sx= .slice none 0 0∧m=0∧news=[])∨ ∃ad c,sx= .slice (some ad) m c∧news.length=m*size∧(∀j u,news[j]?=some u→w.cell? (ad.add j)=some u)
theorem Ct {P:Program} {o:Oper} {a:Act} {w:World} {K:Act→World→Prop} {Q:Exit→Act→World→Prop}
    (s x:Operand) (t:TypeId) (C:o.op=Op.call {callee:=Callee.builtin Builtin.append,args:= #[s,x],argTypes:= #[t,t]})
    (base:Nat) (e:TypeId) (i:TypeInfo) (z:Value) (size bytes:Nat) (T:P.underlying t=some (.slice e)) (R:P.info? e=some i) (Z:i.zero=some z)
    (B:i.size=size) (J:i.bytes=bytes) (O:z.cells.size=size) (N:0<size)
    (v:Value) (n:Nat) (G:List Value) (S:a.eval s=v) (f:w.ownsRow base e size v n G)
    (V:Value) (m:Nat) (d:List Value) (U:a.eval x=V) (M:iC w V m size d) (H: ∀u∈d,u.oneCell'=true)
    (I:n+m≤maxLen) (g:(n+m)*bytes≤140737488355328) (j:base≤w.heap.size)
    (h: ∀F w',w'.ownsRow base e size F (n+m) (G++d)→w.grownBy w' v.ownBlock→K (a.put o.dst F) w'):
    Oper.wp P o a w K Q:=by
 rcases M with⟨rfl,rfl,rfl⟩|⟨ad,c,rfl,Y,A⟩
 · have E:=run_append_owned_none (P:=P) (w:=w) base t o.type e i size T R v n G f
   unfold Oper.wp;simp[execOp,C,resolve,invoke,builtin,S,U,E,Result.andThen]
   exact h v w (by simpa using f) (World.grownBy.refl _ _)
 · exact wp_append_own w s x t C base e i z size bytes T R Z B J O N v n G S f ad m c d U Y A H I g j fun F w' H X _=>h F w' H X
theorem ly {P:Program} {A:Array Oper} {o:Oper} {a:Act} {w:World} {K:Act→World→Prop} {Q:Exit→Act→World→Prop} {E:Prop}
    (R:o.guard=none) (s x:Operand) (t:TypeId) (F:o.op=Op.call {callee:=Callee.builtin Builtin.append,args:= #[s,x],argTypes:= #[t,t]})
    (base:Nat) (e:TypeId) (i:TypeInfo) (z:Value) (size bytes:Nat) (U:P.underlying t=some (.slice e)) (S:P.info? e=some i) (Y:i.zero=some z)
    (g:i.size=size) (C:i.bytes=bytes) (I:z.cells.size=size) (H:0<size)
    (v:Value) (n:Nat) (M:List Value) (T:a.eval s=v) (j:w.ownsRow base e size v n M)
    (J:Value) (m:Nat) (c:List Value) (X:a.eval x=J) (G:iC w J m size c) (O: ∀u∈c,u.oneCell'=true)
    (B:n+m≤maxLen) (d:(n+m)*bytes≤140737488355328) (f:base≤w.heap.size)
    (h: ∀N w',w'.ownsRow base e size N (n+m) (M++c)→w.grownBy w' v.ownBlock→K (a.put o.dst N) w'):
    if Region.wanted o (yielded A a.tmps)=true then Oper.wp P o a w K Q else E:=by
 have V:Region.wanted o (yielded A a.tmps)=true:=by simp[Region.wanted,R]
 rw[if_pos V];exact Ct s x t F base e i z size bytes U S Y g C I H v n M T j J m c X G O B d f h
theorem iC.own {B:Nat} {w:World} {u:Value} {L:List Se} (h:bR B w u L):iC w u L.length 5 (bn L):=by
 rcases h with⟨rfl,rfl⟩|⟨g,c,rfl,o,s,v,x,z⟩
 · exact Or.inl ⟨rfl,rfl,rfl⟩
 · have i:=tl v x s z o
   refine Or.inr ⟨⟨g,0,none⟩,c,rfl,i.1,fun j u d=>?_⟩
   have a:(⟨g,0,none⟩:Addr).add j=⟨g,j,none⟩:=by unfold Addr.add;split<;>simp_all
   have f:j<L.length*5:=by
    rcases Nat.lt_or_ge j (L.length*5)with h|h
    · exact h
    · rw[List.getElem?_eq_none (by rw[i.1];exact h)]at d;cases d
   rw[a,i.cellAt j f];exact d
structure Cu (p:Prop):Prop where
 out:p
theorem qT {p q:Prop} (h:Cu p→q) (a:p):q:=h ⟨a⟩
def fA (B:Nat) (w:World) (v:Value):Prop:= ∃b,v= .slice (some ⟨b,0,none⟩) 0 0∧B≤b∧b<w.heap.size∧w.heap[b]?=some (.cells #[] 79)
theorem fA.new {B:Nat} {w w':World} (h:w.alloc (.cells #[] 79)=w') (a:B≤w.heap.size):fA B w' (.slice (some ⟨w.heap.size,0,none⟩) 0 0):=
 ⟨w.heap.size,rfl,a,by rw[←h];simp,by rw[←h];exact heap_alloc_new w _⟩
theorem fA.below {B:Nat} {w w':World} {v:Value} (h:fA B w v) (c:Below w.heap.size w w'):fA B w' v:=by
 obtain⟨b,d,f,a,g⟩:=h
 exact⟨b,d,f,Nat.lt_of_lt_of_le a c.size,(c.block b a).trans g⟩
theorem fA.own {B:Nat} {w:World} {v:Value} (h:fA B w v):w.ownsRow B 79 5 v 0 []:=by
 obtain⟨b,rfl,a,d,c⟩:=h
 exact⟨rfl,.inr ⟨b,0,#[],rfl,a,c,ax,by unfold maxLen;omega,rfl,rfl⟩⟩
def gT (w:World) (v:Value) (s:Se):Prop:= ∃b,v= .slice (some ⟨b,0,none⟩) 1 1∧b<w.heap.size∧ ∀j u,(bD s)[j]?=some u→w.cell? ((⟨b,0,none⟩:Addr).add j)=some u
theorem vI (b j:Nat):((⟨b,0,none⟩:Addr).add j).block=b:=by unfold Addr.add;split<;>rfl
theorem gT.new {w w':World} {s:Se} (h:w.alloc (.cells #[s.nu,s.wh,s.tx,s.si,s.ti] 79)=w'):gT w' (.slice (some ⟨w.heap.size,0,none⟩) 1 1) s:=
 ⟨w.heap.size,rfl,by rw[←h];simp,by rw[←h];exact qs w s _⟩
theorem gT.below {w w':World} {v:Value} {s:Se} (h:gT w v s) (c:Below w.heap.size w w'):gT w' v s:=by
 obtain⟨b,d,a,f⟩:=h
 exact⟨b,d,Nat.lt_of_lt_of_le a c.size,fun j u g=>(c.cell (p:=(⟨b,0,none⟩:Addr).add j) (by rw[vI];exact a)).trans (f j u g)⟩
theorem gT.gr {B:Nat} {w w':World} {v v0:Value} {s:Se} (h:gT w v s) (z:fA B w v0) (i:w.grownBy w' v0.ownBlock):gT w' v s:=by
 obtain⟨b,o,f,g⟩:=h
 obtain⟨c,rfl,_,E,x⟩:=z
 have d:b≠c:=by
  rintro rfl;have:=g 0 s.nu rfl
  simp[Addr.add,World.cell?,x]at this
 have C:some b≠(Value.slice (some ⟨c,0,none⟩) 0 0).ownBlock:=by
  intro e;simp[Value.ownBlock]at e
  exact d e
 exact⟨b,o,Nat.lt_of_lt_of_le f i.size,fun j u A=>(World.cell?_of_block (a:=(⟨b,0,none⟩:Addr).add j) (by rw[vI];exact i.block b f C)).trans (g j u A)⟩
theorem gT.src {w:World} {v:Value} {s:Se} (h:gT w v s):iC w v 1 5 (bD s):=by
 obtain⟨b,rfl,c,a⟩:=h
 exact Or.inr ⟨⟨b,0,none⟩,1,rfl,rfl,a⟩
end Go.Proofs.YtdlpjlfefjipkaaGreat
