/- What upload.going answers, for every uploads, time and names. -/
import Derived.Test.YtdlpjlfefjipkaaGreatHFV
set_option linter.unusedSimpArgs false
set_option linter.unusedVariables false
namespace Go.Proofs.YtdlpjlfefjipkaaGreat
open Go.RowKit Go.Proofs.Tryz
set_option maxHeartbeats 4000000
set_option maxRecDepth 100000
theorem bR.below {B:Nat} {w w':World} {u:Value} {L:List Se} (h:bR B w u L) (d:Below w.heap.size w w'):bR B w' u L:=by
 rcases h with h|⟨g,a,f,i,j,c⟩
 · exact Or.inl h
 · exact Or.inr ⟨g,a,f,i,j,c.1.below d,c.2.1.below d,c.2.2⟩
theorem bR.lies {B:Nat} {w:World} {u:Value} {L:List Se} (h:bR B w u L) (i:L.length≤1000):aK w u L:=by
 rcases h with⟨rfl,rfl⟩|⟨g,a,rfl,f,c,d⟩
 · exact gj _
 · exact d.1.lies c (by omega)
theorem bR.mono {B B':Nat} {w:World} {u:Value} {L:List Se} (h:bR B w u L) (j:B'≤B):bR B' w u L:=by
 rcases h with h|⟨g,a,c,d,f,i⟩
 · exact Or.inl h
 · exact Or.inr ⟨g,a,c,Nat.le_trans j d,f,i⟩
def gR (now:Int) (s:Se):Bool:=decide (s.ti<now)
def aq (now:Int) (G:List Se):List Se:=G.filter fun s=> !gR now s
def bl (G:List Se) (x l r now:Int) (ns:List ByteArray):Int:=if be G x l r=0 then(if a9 0 now 1099511627776=true then aU ns else 3)else be G x l r
theorem qo (G:List Se) (x l r now:Int) (a:List ByteArray):(¬be G x l r=0∧bl G x l r now a=be G x l r)∨(be G x l r=0∧a9 0 now 1099511627776=false∧bl G x l r now a=3)∨(be G x l r=0∧a9 0 now 1099511627776=true∧aU a=1∧bl G x l r now a=1)∨(be G x l r=0∧a9 0 now 1099511627776=true∧aU a=0∧bl G x l r now a=0):=by
 by_cases h:be G x l r=0
 · right
   cases d:a9 0 now 1099511627776 with
   |false=>left;exact⟨h,rfl,by rw[bl,if_pos h,d];rfl⟩
   |true=>
    right
    have c:aU a=0∨aU a=1:=by
     rw[aU];split
     · exact Or.inl rfl
     · exact Or.inr rfl
    rcases c with c|c
    · right;exact⟨h,rfl,c,by rw[bl,if_pos h,d,if_pos rfl,c]⟩
    · left;exact⟨h,rfl,c,by rw[bl,if_pos h,d,if_pos rfl,c]⟩
 · left;exact⟨h,by rw[bl,if_neg h]⟩
theorem de (now:Int) (G:List Se):(aq now G).length≤G.length:=List.length_filter_le _ _
theorem A2 (w:World):Calls prog 57 #[al] w fun e w'=>e= .returned (.int .i64 (aU []))∧Below w.heap.size w w':=by
 go_enter func57,ntmps57
 go_wp2;go_loopw [9] (fun i wr=>i= .int .i64 0∧wr=w) (fun i _=>0)
 case atStart=>exact⟨rfl,rfl⟩
 case round=>
  obtain⟨rfl,rfl⟩:=hrel
  go_wp2;go_ret;exact⟨rfl,aw⟩
theorem A3 (s:Se) (now:Int) (b:Nat) (w:World) (c:b<w.heap.size) (d:w.cell? ⟨b,0,none⟩=some (.int .i64 now)):
    Calls prog 145 #[.agg #[s.nu,s.wh,s.tx,s.si,s.ti],.pointer (some ⟨b,0,none⟩)] w fun r w'=>r= .returned (.bool (gR now s))∧Below w.heap.size w w':=by
 have f: ∀o,(w.alloc o).cell? ⟨b,0,none⟩=some (.int .i64 now):=fun o=>(((Below.refl w.heap.size w).alloc ax o).cell (p:=⟨b,0,none⟩) c).trans d
 have a:Hid (decide (s.ti<now)=gR now s):=rfl;go_enter func145,ntmps145
 go_wp2;go_ret;exact⟨br a.out,ak⟩
def gu (w:World) (v:Value) (ns:List ByteArray):Prop:=(v= .slice none 0 0∧ns=[])∨ ∃g cap,v= .slice (some ⟨g,0,none⟩) ns.length cap∧g<w.heap.size∧ ∀i (h:i<ns.length),w.cell? ⟨g,0+i,none⟩=some (.string ns[i])
theorem gu.below {w w':World} {v:Value} {f:List ByteArray} (h:gu w v f) (d:Below w.heap.size w w'):gu w' v f:=by
 rcases h with h|⟨g,a,j,c,o⟩
 · exact Or.inl h
 · exact Or.inr ⟨g,a,j,Nat.lt_of_lt_of_le c d.size,fun i s=>(d.cell (p:=⟨g,0+i,none⟩) c).trans (o i s)⟩
theorem uH (a:List ByteArray) (v:Value) (w:World) (u:gu w v a) (o: ∀s∈a,s.size≤150000000000000) (j:a.length≤1000):
    Calls prog 57 #[v] w fun e w'=>e= .returned (.int .i64 (aU a))∧Below w.heap.size w w':=by
 rcases u with⟨rfl,rfl⟩|⟨g,c,rfl,d,f⟩
 · exact A2 w
 · exact k6 a g 0 c w d (fun i h=>Nat.le_trans (o _ (List.getElem_mem h)) (by decide)) j f
theorem bY.nb {W j:World} {g b:Nat} {d:List Se} (h:bY W g d) (f:W.grownBy j (some b)) (a:g≠b):bY j g d:=
 ⟨Nat.lt_of_lt_of_le h.1 f.size,fun i s c o=>⟨(Nb.cell f (p:=⟨g,i*5+c,none⟩) h.1 a).trans (h.2 i s c o).1,(Nb.frozen f (p:=⟨g,i*5+c,none⟩) h.1 a).trans (h.2 i s c o).2⟩⟩
theorem Nb.set4 (W:World) (b:Nat) (a c d f:Value):W.grownBy ((((W.setCell ⟨b,0,none⟩ a).setCell ⟨b,1,none⟩ c).setCell ⟨b,2,none⟩ d).setCell ⟨b,3,none⟩ f) (some b):=
 Nb.trans (Nb.trans (Nb.trans (ai W b 0 a) (ai _ b 1 c)) (ai _ b 2 d)) (ai _ b 3 f)
theorem iT (G:List Se) (v:Value) (x l r now:Int) (X:List ByteArray) (nv:Value) (w:World) (hv:aK w v G) (hs:bq G) (EP:gu w nv X) (EO: ∀s∈X,s.size≤150000000000000) (EN:X.length≤1000):
    Calls prog 105 #[.agg #[v,x,l,r],now,nv] w fun e w'=>(¬bl G x l r now X=0∧e= .returned (.tuple #[.agg  aJ ,bl G x l r now X])∧Below w.heap.size w w')∨
     (bl G x l r now X=0∧ ∃u,e= .returned (.tuple #[.agg #[u,x,l,r],ah])∧bR w.heap.size w' u (aq now G)∧Below w.heap.size w w'):=by
 have HV:=ac hv;have HS:=ac hs;have HN:=ac EP;clear hv hs EP;obtain⟨N,f⟩: ∃N,N=((w.alloc (.cells #[v,x,l,r] 26)).alloc (.cells #[now] 3)).alloc (.cells  aJ  26):=⟨_,rfl⟩
 have C:=hid (show Below w.heap.size w N from by rw[f];exact( ak.alloc (by simp) _).alloc (by simp;omega) _);have E8:=hid (show Bx N w.heap.size v (.int .i64 x) l (.int .i64 r)from by rw[f];exact((Bx.new w _ _ _ _ _).below ak).below ak)
 have O:=hid (show Bx N (w.heap.size+2) al ah ah ah from by
  have:=Bx.new ((w.alloc (.cells #[v,x,l,r] 26)).alloc (.cells #[now] 3)) al ah ah ah 26
  rw[f];simpa using this)
 have E6:=hid (show N.cell? ⟨w.heap.size+1,0,none⟩=some (.int .i64 now)from by rw[f];simp[go_sem]);have EW:N.heap.size=w.heap.size+3:=by rw[f];simp
 rcases qo G x l r now X with⟨A,hE⟩|⟨A,Y,hE⟩|⟨A,Y,h2,hE⟩|⟨A,Y,h2,hE⟩
 · have E:=ac hE
   have hz:(be G x l r==0)=false:=by simpa using A
   have ER:=ac A;clear hE A;go_enter func105,ntmps105
   go_wp2_with fail;rw[←f];clear f;refine(ld G _ x l r _ (HV.out.below C.out) HS.out).mono ?_
   rintro e w4 ⟨rfl,a⟩;have R:=O.out.below a;have c:=C.out.trans (a.mono C.out.size);obtain⟨i,⟨P,Q,c2,c3⟩,f0,f1,f2,f3⟩:=R
   clear a;generalize be G x l r=y at*;go_wp2;refine bodyPost_ret (v:= .tuple #[.agg  aJ ,y]) (by simp[results,results105,go_sem,P,Q,c2,c3,i]) rfl (Or.inl ⟨by rw[E.out];exact ER.out,by rw[E.out],?_⟩)
   exact bz c (by omega)
 · have E:=ac hE
   have H0:=ac A;have H1:=ac Y;clear hE A Y;go_enter func105,ntmps105
   go_wp2_with fail;rw[←f];clear f;refine(ld G _ x l r _ (HV.out.below C.out) HS.out).mono ?_
   rintro e w4 ⟨rfl,a⟩;rw[H0.out];have R:=O.out.below a;have hU:=E8.out.below a;have c:=C.out.trans (a.mono C.out.size);have n4:=(a.cell (p:=⟨w.heap.size+1,0,none⟩) (by show w.heap.size+1<N.heap.size;omega)).trans E6.out;have E4:=a.size;clear a;go_wp2_with fail;refine(el 0 now 1099511627776 _).mono ?_
   rintro e w5 ⟨rfl,hw⟩;rw[hw,H1.out];clear hw w5;obtain⟨i,⟨P,Q,c2,c3⟩,f0,f1,f2,f3⟩:=R
   go_wp2;refine bodyPost_ret (v:= .tuple #[.agg  aJ ,.int .i64 3]) (by simp[results,results105,go_sem,P,Q,c2,c3,i]) rfl (Or.inl ⟨by rw[E.out];decide,by rw[E.out],?_⟩)
   exact bz c (by omega)
 · have E:=ac hE
   have H0:=ac A;have H1:=ac Y;have H2:=ac h2;clear hE A Y h2;go_enter func105,ntmps105
   go_wp2_with fail;rw[←f];clear f;refine(ld G _ x l r _ (HV.out.below C.out) HS.out).mono ?_
   rintro e w4 ⟨rfl,a⟩;rw[H0.out];have R:=O.out.below a;have hU:=E8.out.below a;have c:=C.out.trans (a.mono C.out.size);have n4:=(a.cell (p:=⟨w.heap.size+1,0,none⟩) (by show w.heap.size+1<N.heap.size;omega)).trans E6.out;have E4:=a.size;clear a;go_wp2_with fail;refine(el 0 now 1099511627776 _).mono ?_
   rintro e w5 ⟨rfl,hw⟩;rw[hw,H1.out];clear hw w5;go_wp2_with fail;refine(uH X nv _ (HN.out.below c) EO EN).mono ?_
   rintro e w5 ⟨rfl,d⟩;rw[H2.out];have S:=R.below d;have EJ:=hU.below d;have j:=aG c d;have n5:=(d.cell (p:=⟨w.heap.size+1,0,none⟩) (by show w.heap.size+1<w4.heap.size;omega)).trans n4;have EQ:=d.size;clear d R hU n4 c;obtain⟨i,⟨P,Q,c2,c3⟩,f0,f1,f2,f3⟩:=S
   go_wp2;refine bodyPost_ret (v:= .tuple #[.agg  aJ ,.int .i64 1]) (by simp[results,results105,go_sem,P,Q,c2,c3,i]) rfl (Or.inl ⟨by rw[E.out];decide,by rw[E.out],?_⟩)
   exact bz j (by omega)
 · have E:=ac hE
   have H0:=ac A;have H1:=ac Y;have H2:=ac h2;obtain⟨EV,_⟩:=cQ (bu A).1
   clear hE A Y h2;go_enter func105,ntmps105
   go_wp2_with fail;rw[←f];clear f;refine(ld G _ x l r _ (HV.out.below C.out) HS.out).mono ?_
   rintro e w4 ⟨rfl,a⟩;rw[H0.out];have R:=O.out.below a;have hU:=E8.out.below a;have c:=C.out.trans (a.mono C.out.size);have n4:=(a.cell (p:=⟨w.heap.size+1,0,none⟩) (by show w.heap.size+1<N.heap.size;omega)).trans E6.out;have E4:=a.size;clear a;go_wp2_with fail;refine(el 0 now 1099511627776 _).mono ?_
   rintro e w5 ⟨rfl,hw⟩;rw[hw,H1.out];clear hw w5;go_wp2_with fail;refine(uH X nv _ (HN.out.below c) EO EN).mono ?_
   rintro e w5 ⟨rfl,d⟩;rw[H2.out];have S:=R.below d;have EJ:=hU.below d;have j:=aG c d;have n5:=(d.cell (p:=⟨w.heap.size+1,0,none⟩) (by show w.heap.size+1<w4.heap.size;omega)).trans n4;have EQ:=d.size;clear d R hU n4 c;have Z:=EJ;obtain⟨I,⟨u0,u1,u2,u3⟩,g0,g1,g2,g3⟩:=EJ
   go_wp2_with fail;refine(AH G _ _ (HV.out.below j) (by omega)).mono ?_
   rintro e w6 ⟨uc,rfl,E2,B⟩;have T:=S.below B;have U:=Z.below B;have o:=aG j B;have n6:=(B.cell (p:=⟨w.heap.size+1,0,none⟩) (by show w.heap.size+1<w5.heap.size;omega)).trans n5;have EX:=B.size;have F:=ac E2;clear B S Z n5 j I u0 u1 u2 u3 g0 g1 g2 g3 E2;rcases F.out with⟨rfl,hG⟩|⟨g,E9,rfl,EY,EM,E3,E0,ET⟩
   · have ES:=hid (show aq now G=[]from by rw[hG];rfl)
     clear hG F;go_wp2_with fail;refine(AG _ _ _).mono ?_
     rintro e w7 ⟨rfl,V⟩;have EI:=T.below V;have EK:=U.below V;have J:=aG o V;clear V T U o;obtain⟨I,⟨u0,u1,u2,u3⟩,g0,g1,g2,g3⟩:=EK
     obtain⟨i,⟨P,Q,c2,c3⟩,f0,f1,f2,f3⟩:=EI
     go_wp2;refine bodyPost_ret (v:= .tuple #[.agg #[al,x,l,r],ah]) (by simp[results,results105,go_sem,P,Q,c2,c3,u0,u1,u2,u3,i,I]) rfl (Or.inr ⟨E.out,_,rfl,?_,?_⟩)
     · rw[ES.out];exact Or.inl ⟨rfl,rfl⟩
     · exact bz (J.setCell (p:=⟨w.heap.size,0,none⟩) ax _) (by omega)
   · have H:l7 w6 g 145 #[.pointer (some ⟨w.heap.size+1,0,none⟩)] (gR now):=
      ⟨enters_of func145 (by kernel_rfl) rfl,fun W hW s=>A3 s now (w.heap.size+1) W (Nat.lt_of_lt_of_le (by omega) hW.size) ((Nb.cell hW (p:=⟨w.heap.size+1,0,none⟩) (by show w.heap.size+1<w6.heap.size;omega) (by show w.heap.size+1≠g;omega)).trans n6)⟩
     have HT:=ac H;have EL:=ac E3;clear H E3 F;go_wp2_with fail;refine(AF G g E9 _ _ (gR now) _ EL.out HT.out (by omega) EM).mono ?_
     rintro e w7 ⟨rfl,M,z,E1⟩;have K:=E1 _ _ E0;have EI:=T.nb z (by omega);have EK:=U.nb z (by omega);have J:Below w.heap.size w w7:=o.trans (Nb.to z o.size (by omega));have E7:=ac M;have EU:(G.filter fun s=> !gR now s).length≤G.length:=List.length_filter_le _ _;have E5:=ac K;clear z T U o M E1 E0 K;obtain⟨I,⟨u0,u1,u2,u3⟩,g0,g1,g2,g3⟩:=EK
     obtain⟨i,⟨P,Q,c2,c3⟩,f0,f1,f2,f3⟩:=EI
     go_wp2;refine bodyPost_ret (v:= .tuple #[.agg #[.slice (some ⟨g,0,none⟩) (G.filter fun s=> !gR now s).length E9,x,l,r],ah]) (by simp[results,results105,go_sem,P,Q,c2,c3,u0,u1,u2,u3,i,I]) rfl (Or.inr ⟨E.out,_,rfl,?_,?_⟩)
     · exact Or.inr ⟨g,E9,rfl,by omega,Nat.le_trans EU EM,(E7.out.nb (ai w7 w.heap.size 0 _) (by omega)).nb (Nb.set4 _ (w.heap.size+2) _ _ _ _) (by omega),(E5.out.nb (ai w7 w.heap.size 0 _) (by omega)).nb (Nb.set4 _ (w.heap.size+2) _ _ _ _) (by omega),ET⟩
     · exact bz (J.setCell (p:=⟨w.heap.size,0,none⟩) ax _) (by omega)
def dr (G:List Se) (x l r:Int) (p:ByteArray) (size now:Int):Int:=if¬bl G x l r now [p]=0 then bl G x l r now [p]else if size<0∨300<size∨1099511627776≤x then 3 else if 20≤(aq now G).length then 2 else if r<aW (aq now G) p+size then 10 else 0
theorem qp (G:List Se) (x l r:Int) (p:ByteArray) (size now:Int):(¬bl G x l r now [p]=0∧dr G x l r p size now=bl G x l r now [p])∨
    (bl G x l r now [p]=0∧size<0∧dr G x l r p size now=3)∨(bl G x l r now [p]=0∧0≤size∧300<size∧dr G x l r p size now=3)∨(bl G x l r now [p]=0∧0≤size∧size≤300∧1099511627776≤x∧dr G x l r p size now=3)∨
    (bl G x l r now [p]=0∧0≤size∧size≤300∧x<1099511627776∧20≤(aq now G).length∧dr G x l r p size now=2)∨(bl G x l r now [p]=0∧0≤size∧size≤300∧x<1099511627776∧(aq now G).length<20∧r<aW (aq now G) p+size∧dr G x l r p size now=10)∨
    (bl G x l r now [p]=0∧0≤size∧size≤300∧x<1099511627776∧(aq now G).length<20∧aW (aq now G) p+size≤r∧dr G x l r p size now=0):=by
 by_cases a:bl G x l r now [p]=0
 · right
   have e:dr G x l r p size now=if size<0∨300<size∨1099511627776≤x then 3 else if 20≤(aq now G).length then 2 else if r<aW (aq now G) p+size then 10 else 0:=by rw[dr,if_neg (fun k=>k a)]
   by_cases f:size<0
   · left;exact⟨a,f,by rw[e,if_pos (Or.inl f)]⟩
   · right
     by_cases g:300<size
     · left;exact⟨a,by omega,g,by rw[e,if_pos (Or.inr (Or.inl g))]⟩
     · right
       by_cases i:1099511627776≤x
       · left;exact⟨a,by omega,by omega,i,by rw[e,if_pos (Or.inr (Or.inr i))]⟩
       · right
         rw[if_neg (by omega)]at e;by_cases c:20≤(aq now G).length
         · left;exact⟨a,by omega,by omega,by omega,c,by rw[e,if_pos c]⟩
         · right
           rw[if_neg c]at e;by_cases d:r<aW (aq now G) p+size
           · left;exact⟨a,by omega,by omega,by omega,by omega,d,by rw[e,if_pos d]⟩
           · right;exact⟨a,by omega,by omega,by omega,by omega,by omega,by rw[e,if_neg d]⟩
 · left;exact⟨a,by rw[dr,if_pos a]⟩
theorem dz {G:List Se} {x l r now:Int} {d:List ByteArray} (h:bl G x l r now d=0):be G x l r=0∧(0≤now∧now≤1099511627776)∧aU d=0:=by
 rcases qo G x l r now d with⟨a,hE⟩|⟨a,c,hE⟩|⟨a,c,f,hE⟩|⟨a,c,f,hE⟩
 · rw[h]at hE;exact absurd hE.symm a
 · rw[h]at hE;cases hE
 · rw[h]at hE;cases hE
 · exact⟨a,eO c,f⟩
def dA (x:Int) (p:ByteArray) (size till:Int):Se:=⟨x,p,⟨#[]⟩,size,till⟩
theorem A4 (G:List Se) (v:Value) (x l r:Int) (p:ByteArray) (size now:Int) (w:World) (H:aK w v G) (C:bq G) (P:p.size≤150000000000000) (z: ¬bl G x l r now [p]=0):
    Calls prog 79 #[.agg #[v,x,l,r],p,size,now] w fun e w'=>e= .returned (.tuple #[.agg  aJ ,ah,bl G x l r now [p]])∧Below w.heap.size w w':=by
 have J:=ac H;have I:=ac C;clear H C;obtain⟨d,a⟩: ∃d,d=((w.alloc (.cells #[v,x,l,r] 26)).alloc (.cells  aJ  26)).alloc (.cells #[p] 9):=⟨_,rfl⟩
 have g:=hid (show Below w.heap.size w d from by rw[a];exact( ak.alloc (by simp) _).alloc (by simp;omega) _)
 have u:=hid (show Bx d (w.heap.size+1) al ah ah ah from by
  have:=(Bx.new (w.alloc (.cells #[v,x,l,r] 26)) al ah ah ah 26).below ( aw.alloc ax (.cells #[p] 9))
  rw[a];simpa using this)
 have j:=hid (show gu d (.slice (some ⟨w.heap.size+2,0,none⟩) 1 1) [p]from Or.inr ⟨w.heap.size+2,1,rfl,by rw[a];simp,fun i O=>by
  match i,O with
  |0,_=>rw[a];simp[go_sem]⟩)
 have E:d.heap.size=w.heap.size+3:=by rw[a];simp
 have B: ∀s∈[p],s.size≤150000000000000:=fun s h=>by rw[List.mem_singleton.1 h];exact P
 have o:=ac z;have U:(bl G x l r now [p]==0)=false:=by simpa using z
 clear z;go_enter func79,ntmps79
 go_wp2_with fail;rw[←a];clear a;refine(iT G _ x l r now [p] _ _ (J.out.below g.out) I.out j.out B (by simp)).mono ?_
 rintro e V (⟨_,rfl,c⟩|⟨N,_⟩);rotate_left
 · exact absurd N o.out
 have f:=g.out.trans (c.mono g.out.size);obtain⟨A,⟨K,M,c2,c3⟩,R,S,f2,T⟩:=u.out.below c
 have F:=c.size;clear c;generalize Q:bl G x l r now [p]=y at*;go_wp2;refine bodyPost_ret (v:= .tuple #[.agg  aJ ,ah,y]) (by simp[results,results79,go_sem,K,M,c2,c3,A]) rfl ⟨by rw[Q],?_⟩
 exact(bz (b:=w.heap.size+1) (f) (by omega)).alloc (by simp;omega) _
theorem A5 (G:List Se) (v:Value) (x l r:Int) (p:ByteArray) (size now:Int) (w:World) (P:aK w v G) (M:bq G) (hp:p.size≤150000000000000) (C:bl G x l r now [p]=0) (h1:size<0):
    Calls prog 79 #[.agg #[v,x,l,r],p,size,.int .i64 now] w fun e w'=>e= .returned (.tuple #[.agg  aJ ,ah,.int .i64 3])∧Below w.heap.size w w':=by
 have T:=ac P;have R:=ac M;clear P M;obtain⟨g,a⟩: ∃g,g=((w.alloc (.cells #[v,x,l,r] 26)).alloc (.cells  aJ  26)).alloc (.cells #[p] 9):=⟨_,rfl⟩
 have z:=hid (show Below w.heap.size w g from by rw[a];exact( ak.alloc (by simp) _).alloc (by simp;omega) _)
 have B:=hid (show Bx g (w.heap.size+1) al ah ah ah from by
  have:=(Bx.new (w.alloc (.cells #[v,x,l,r] 26)) al ah ah ah 26).below ( aw.alloc ax (.cells #[p] 9))
  rw[a];simpa using this)
 have A:=hid (show gu g (.slice (some ⟨w.heap.size+2,0,none⟩) 1 1) [p]from Or.inr ⟨w.heap.size+2,1,rfl,by rw[a];simp,fun i Y=>by
  match i,Y with
  |0,_=>rw[a];simp[go_sem]⟩)
 have N:g.heap.size=w.heap.size+3:=by rw[a];simp
 have I: ∀s∈[p],s.size≤150000000000000:=fun s h=>by rw[List.mem_singleton.1 h];exact hp
 have Q:=ac C;obtain⟨f,⟨E1,E2⟩,_⟩:=dz C
 obtain⟨K,⟨Z,E0⟩,⟨E3,E4⟩,E6,E7⟩:=cQ (bu f).1
 have E5:=de now G;have S:=hid (show∀s∈aq now G,0≤s.si∧s.si≤300 from fun s h=>ik (bu f).2.1 s (List.mem_filter.1 h).1);clear C f;go_enter func79,ntmps79
 go_wp2_with fail;rw[←a];clear a;refine(iT G _ x l r now [p] _ _ (T.out.below z.out) R.out A.out I (by simp)).mono ?_
 rintro e w4 (⟨H,_⟩|⟨_,u,rfl,d,c⟩)
 · exact absurd Q.out H
 have o:=z.out.trans (c.mono z.out.size);have E:=B.out.below c;have O:=c.size;have j:=ac d;clear c d;obtain⟨a4,J,rfl,X,_,_⟩:=j.out.lies (by omega)
 obtain⟨F,⟨U,V,c2,c3⟩,f0,f1,f2,f3⟩:=E
 go_wp2;refine bodyPost_ret (v:= .tuple #[.agg  aJ ,ah,.int .i64 3]) (by simp[results,results79,go_sem,U,V,c2,c3,F]) rfl ⟨rfl,?_⟩
 exact(bz (b:=w.heap.size+1) (o) (by omega)).alloc (by simp;omega) _
theorem A6 (G:List Se) (v:Value) (x l r:Int) (p:ByteArray) (size now:Int) (w:World) (P:aK w v G) (M:bq G) (hp:p.size≤150000000000000) (C:bl G x l r now [p]=0) (h1:0≤size) (h2:300<size):
    Calls prog 79 #[.agg #[v,x,l,r],p,size,.int .i64 now] w fun e w'=>e= .returned (.tuple #[.agg  aJ ,ah,.int .i64 3])∧Below w.heap.size w w':=by
 have T:=ac P;have R:=ac M;clear P M;obtain⟨g,a⟩: ∃g,g=((w.alloc (.cells #[v,x,l,r] 26)).alloc (.cells  aJ  26)).alloc (.cells #[p] 9):=⟨_,rfl⟩
 have z:=hid (show Below w.heap.size w g from by rw[a];exact( ak.alloc (by simp) _).alloc (by simp;omega) _)
 have B:=hid (show Bx g (w.heap.size+1) al ah ah ah from by
  have:=(Bx.new (w.alloc (.cells #[v,x,l,r] 26)) al ah ah ah 26).below ( aw.alloc ax (.cells #[p] 9))
  rw[a];simpa using this)
 have A:=hid (show gu g (.slice (some ⟨w.heap.size+2,0,none⟩) 1 1) [p]from Or.inr ⟨w.heap.size+2,1,rfl,by rw[a];simp,fun i Y=>by
  match i,Y with
  |0,_=>rw[a];simp[go_sem]⟩)
 have N:g.heap.size=w.heap.size+3:=by rw[a];simp
 have I: ∀s∈[p],s.size≤150000000000000:=fun s h=>by rw[List.mem_singleton.1 h];exact hp
 have Q:=ac C;obtain⟨f,⟨E1,E2⟩,_⟩:=dz C
 obtain⟨K,⟨Z,E0⟩,⟨E3,E4⟩,E6,E7⟩:=cQ (bu f).1
 have E5:=de now G;have S:=hid (show∀s∈aq now G,0≤s.si∧s.si≤300 from fun s h=>ik (bu f).2.1 s (List.mem_filter.1 h).1);clear C f;go_enter func79,ntmps79
 go_wp2_with fail;rw[←a];clear a;refine(iT G _ x l r now [p] _ _ (T.out.below z.out) R.out A.out I (by simp)).mono ?_
 rintro e w4 (⟨H,_⟩|⟨_,u,rfl,d,c⟩)
 · exact absurd Q.out H
 have o:=z.out.trans (c.mono z.out.size);have E:=B.out.below c;have O:=c.size;have j:=ac d;clear c d;obtain⟨a4,J,rfl,X,_,_⟩:=j.out.lies (by omega)
 obtain⟨F,⟨U,V,c2,c3⟩,f0,f1,f2,f3⟩:=E
 go_wp2;refine bodyPost_ret (v:= .tuple #[.agg  aJ ,ah,.int .i64 3]) (by simp[results,results79,go_sem,U,V,c2,c3,F]) rfl ⟨rfl,?_⟩
 exact(bz (b:=w.heap.size+1) (o) (by omega)).alloc (by simp;omega) _
theorem A7 (G:List Se) (v:Value) (x l r:Int) (p:ByteArray) (size now:Int) (w:World) (P:aK w v G) (M:bq G) (hp:p.size≤150000000000000) (C:bl G x l r now [p]=0) (h1:0≤size) (h2:size≤300) (h3:1099511627776≤x):
    Calls prog 79 #[.agg #[v,x,l,r],p,size,.int .i64 now] w fun e w'=>e= .returned (.tuple #[.agg  aJ ,ah,.int .i64 3])∧Below w.heap.size w w':=by
 have T:=ac P;have R:=ac M;clear P M;obtain⟨g,a⟩: ∃g,g=((w.alloc (.cells #[v,x,l,r] 26)).alloc (.cells  aJ  26)).alloc (.cells #[p] 9):=⟨_,rfl⟩
 have z:=hid (show Below w.heap.size w g from by rw[a];exact( ak.alloc (by simp) _).alloc (by simp;omega) _)
 have B:=hid (show Bx g (w.heap.size+1) al ah ah ah from by
  have:=(Bx.new (w.alloc (.cells #[v,x,l,r] 26)) al ah ah ah 26).below ( aw.alloc ax (.cells #[p] 9))
  rw[a];simpa using this)
 have A:=hid (show gu g (.slice (some ⟨w.heap.size+2,0,none⟩) 1 1) [p]from Or.inr ⟨w.heap.size+2,1,rfl,by rw[a];simp,fun i Y=>by
  match i,Y with
  |0,_=>rw[a];simp[go_sem]⟩)
 have N:g.heap.size=w.heap.size+3:=by rw[a];simp
 have I: ∀s∈[p],s.size≤150000000000000:=fun s h=>by rw[List.mem_singleton.1 h];exact hp
 have Q:=ac C;obtain⟨f,⟨E1,E2⟩,_⟩:=dz C
 obtain⟨K,⟨Z,E0⟩,⟨E3,E4⟩,E6,E7⟩:=cQ (bu f).1
 have E5:=de now G;have S:=hid (show∀s∈aq now G,0≤s.si∧s.si≤300 from fun s h=>ik (bu f).2.1 s (List.mem_filter.1 h).1);clear C f;go_enter func79,ntmps79
 go_wp2_with fail;rw[←a];clear a;refine(iT G _ x l r now [p] _ _ (T.out.below z.out) R.out A.out I (by simp)).mono ?_
 rintro e w4 (⟨H,_⟩|⟨_,u,rfl,d,c⟩)
 · exact absurd Q.out H
 have o:=z.out.trans (c.mono z.out.size);have E:=B.out.below c;have O:=c.size;have j:=ac d;clear c d;obtain⟨a4,J,rfl,X,_,_⟩:=j.out.lies (by omega)
 obtain⟨F,⟨U,V,c2,c3⟩,f0,f1,f2,f3⟩:=E
 go_wp2;refine bodyPost_ret (v:= .tuple #[.agg  aJ ,ah,.int .i64 3]) (by simp[results,results79,go_sem,U,V,c2,c3,F]) rfl ⟨rfl,?_⟩
 exact(bz (b:=w.heap.size+1) (o) (by omega)).alloc (by simp;omega) _
theorem A8 (G:List Se) (v:Value) (x l r:Int) (p:ByteArray) (size now:Int) (w:World) (P:aK w v G) (M:bq G) (hp:p.size≤150000000000000) (C:bl G x l r now [p]=0) (h1:0≤size) (h2:size≤300) (h3:x<1099511627776) (h4:20≤(aq now G).length):
    Calls prog 79 #[.agg #[v,x,l,r],p,size,.int .i64 now] w fun e w'=>e= .returned (.tuple #[.agg  aJ ,ah,.int .i64 2])∧Below w.heap.size w w':=by
 have T:=ac P;have R:=ac M;clear P M;obtain⟨g,a⟩: ∃g,g=((w.alloc (.cells #[v,x,l,r] 26)).alloc (.cells  aJ  26)).alloc (.cells #[p] 9):=⟨_,rfl⟩
 have z:=hid (show Below w.heap.size w g from by rw[a];exact( ak.alloc (by simp) _).alloc (by simp;omega) _)
 have B:=hid (show Bx g (w.heap.size+1) al ah ah ah from by
  have:=(Bx.new (w.alloc (.cells #[v,x,l,r] 26)) al ah ah ah 26).below ( aw.alloc ax (.cells #[p] 9))
  rw[a];simpa using this)
 have A:=hid (show gu g (.slice (some ⟨w.heap.size+2,0,none⟩) 1 1) [p]from Or.inr ⟨w.heap.size+2,1,rfl,by rw[a];simp,fun i Z=>by
  match i,Z with
  |0,_=>rw[a];simp[go_sem]⟩)
 have N:g.heap.size=w.heap.size+3:=by rw[a];simp
 have I: ∀s∈[p],s.size≤150000000000000:=fun s h=>by rw[List.mem_singleton.1 h];exact hp
 have Q:=ac C;obtain⟨f,⟨E2,E3⟩,_⟩:=dz C
 obtain⟨K,⟨E0,E1⟩,⟨E4,E5⟩,E7,E8⟩:=cQ (bu f).1
 have E6:=de now G;have S:=hid (show∀s∈aq now G,0≤s.si∧s.si≤300 from fun s h=>ik (bu f).2.1 s (List.mem_filter.1 h).1);clear C f;have X:20≤((aq now G).length:Int):=by omega
 go_enter func79,ntmps79
 go_wp2_with fail;rw[←a];clear a;refine(iT G _ x l r now [p] _ _ (T.out.below z.out) R.out A.out I (by simp)).mono ?_
 rintro e w4 (⟨H,_⟩|⟨_,u,rfl,d,c⟩)
 · exact absurd Q.out H
 have o:=z.out.trans (c.mono z.out.size);have E:=B.out.below c;have O:=c.size;have j:=ac d;clear c d;obtain⟨a4,J,rfl,Y,_,_⟩:=j.out.lies (by omega)
 obtain⟨F,⟨U,V,c2,c3⟩,f0,f1,f2,f3⟩:=E
 go_wp2;refine bodyPost_ret (v:= .tuple #[.agg  aJ ,ah,.int .i64 2]) (by simp[results,results79,go_sem,U,V,c2,c3,F]) rfl ⟨rfl,?_⟩
 exact(bz (b:=w.heap.size+1) (o) (by omega)).alloc (by simp;omega) _
theorem A9 (G:List Se) (v u:Value) (x l r:Int) (w:World) (Z:aK w v G) (Y:aK w u G):
    Calls prog 33 #[.agg #[v,x,l,r],.agg #[u,x,l,r]] w fun e w'=>e= .returned (.bool true)∧Below w.heap.size w w':=by
 obtain⟨a,z,rfl,Q,N,P⟩:=Z
 have S:Hid (∀i (h:i<G.length),∃b o,a=some ⟨b,o,none⟩∧b<w.heap.size∧et w b (o+i*5) G[i]):=P;obtain⟨E,f,rfl,M,_,A⟩:=Y
 have I:Hid (∀i (h:i<G.length),∃b o,E=some ⟨b,o,none⟩∧b<w.heap.size∧et w b (o+i*5) G[i]):=A;clear P A;obtain⟨j,d⟩: ∃j,j=(w.alloc (.cells #[.slice a G.length z,x,l,r] 26)).alloc (.cells #[.slice E G.length f,x,l,r] 26):=⟨_,rfl⟩
 have B:Below w.heap.size w j:=by rw[d];exact ak.alloc (by simp) _
 have F:=hid (show Bx j w.heap.size (.slice a G.length z) x (.int .i64 l) r from by rw[d];exact(Bx.new w _ _ _ _ _).below ak)
 have H:=hid (show Bx j (w.heap.size+1) (.slice E G.length f) x (.int .i64 l) r from by
  have:=Bx.new (w.alloc (.cells #[.slice a G.length z,x,l,r] 26)) (.slice E G.length f) x (.int .i64 l) r 26
  rw[d];simpa using this)
 have R:j.heap.size=w.heap.size+2:=by rw[d];simp
 have J:=ac d;go_enter func33,ntmps33
 go_wp2_with fail;rw[←d];clear d J;go_loopw [5] (fun i wr=> ∃k:Nat,k≤G.length∧i= .int .i64 k∧Below j.heap.size j wr) (fun i _=>G.length-(intOf i).toNat)
 case atStart=>exact⟨0,Nat.zero_le _,rfl,aw⟩
 case round=>
  obtain⟨k,hk,rfl,c⟩:=hrel
  have g:Below w.heap.size w wr:=B.trans (c.mono B.size);obtain⟨T,⟨a0,a1,a2,a3⟩,_⟩:=F.out.below c
  obtain⟨U,⟨b0,b1,b2,b3⟩,_⟩:=H.out.below c
  by_cases C:k<G.length
  · obtain⟨b,o,rfl,V,X⟩:=S.out k C
    obtain⟨b',o',rfl,K,O⟩:=I.out k C
    obtain⟨c0,c1,c2,c3,c4⟩:=X.below V g
    obtain⟨d0,d1,d2,d3,d4⟩:=O.below K g
    generalize G[k]=s at*;go_wp2_with fail;go_region
    go_wp2;go_roundw
    case rel=>exact⟨k+1,by omega,by simp,c.drew⟩
    case measure=>simp[intOf];omega
  · go_wp2
    go_ret;exact⟨rfl,g⟩
end Go.Proofs.YtdlpjlfefjipkaaGreat
