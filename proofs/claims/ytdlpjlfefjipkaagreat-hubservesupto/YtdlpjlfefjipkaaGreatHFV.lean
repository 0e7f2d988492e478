/- What own.Commits, own.Journal, and a keeper's journal and last answer. -/
import Derived.Test.YtdlpjlfefjipkaaGreatHFR
import Derived.Test.YtdlpjlfefjipkaaGreatHFS
import Derived.Test.YtdlpjlfefjipkaaGreatHFT
import Derived.Test.YtdlpjlfefjipkaaGreatHFU
set_option linter.unusedSimpArgs false
set_option linter.unusedVariables false
namespace Go.Proofs.YtdlpjlfefjipkaaGreat
open Go.RowKit Go.Proofs.Tryz
set_option maxHeartbeats 2000000
set_option maxRecDepth 100000
def dX (c:Co) (u:Value):List Value:=[.int .i64 c.nu,.string c.ke,u]
def bQ (l:List Co) (us:List Value):List (List Value):=List.zipWith dX l us
theorem fe {l:List Co} {us:List Value} (h:us.length=l.length):(bQ l us).length=l.length:=by simp[bQ,h]
theorem mn {l:List Co} {us:List Value} (h:us.length=l.length) {i:Nat} (a:i<l.length):(bQ l us)[i]?=some (dX l[i] (us[i]'(by omega))):=by
 rw[bQ,List.getElem?_zipWith,List.getElem?_eq_getElem a,List.getElem?_eq_getElem (by omega)]
theorem Av {l:List Co} {us:List Value} (h:us.length=l.length) {i:Nat} (a:i<l.length) (u:Value):(bQ l us).set i (dX l[i] u)=bQ l (us.set i u):=by
 apply List.ext_getElem?
 intro j;rw[List.getElem?_set,bQ,bQ,List.getElem?_zipWith,List.getElem?_zipWith,List.getElem?_set];by_cases c:i=j
 · subst c
   have d:i<(List.zipWith dX l us).length:=by simp[h];omega
   simp[h,a,List.getElem?_eq_getElem a,show i<us.length by omega]
 · simp[c]
def fP (w:World) (l:List Co) (us:List Value):Prop:=us.length=l.length∧ ∀(i:Nat) (c:Co) (u:Value),l[i]?=some c→us[i]?=some u→cP w u c.ch
theorem qb {w:World} {v:Value} {l:List Co} (h:b8 w v l): ∃H,fP w l H∧bp 3 w v (bQ l H):=by
 obtain⟨a,E,O,I,J,K⟩:=h
 have g: ∀i:Fin l.length,∃u,cP w u l[i].ch∧ ∃b o,a=some ⟨b,o,none⟩∧b<w.heap.size∧w.cell? ⟨b,o+i*3,none⟩=some (.int .i64 l[i].nu)∧w.cell? ⟨b,o+i*3+1,none⟩=some (.string l[i].ke)∧w.cell? ⟨b,o+i*3+2,none⟩=some u:=fun i=>by
  obtain⟨b,o,F,G,A,B,u,C,f⟩:=K i i.2
  exact⟨u,f,b,o,F,G,A,B,C⟩
 have d:(List.ofFn fun i:Fin l.length=>Classical.choose (g i)).length=l.length:=by simp
 refine⟨List.ofFn (fun i:Fin l.length=>Classical.choose (g i)),⟨d,?_⟩,a,E,by rw[fe d];exact O,by rw[fe d];exact I,by rw[fe d];exact J,?_,?_⟩
 · intro i c u x f
   have j:i<l.length:=(List.getElem?_eq_some_iff.1 x).1;rw[List.getElem?_eq_getElem j]at x;injection x with x
   rw[List.getElem?_eq_getElem (by simpa using j),List.getElem_ofFn]at f;injection f with f
   rw[←x,←f];exact(Classical.choose_spec (g ⟨i,j⟩)).1
 · intro r M
   obtain⟨i,j⟩:=List.getElem?_of_mem M
   have s:i<l.length:=by
    have:=(List.getElem?_eq_some_iff.1 j).1
    rw[fe d]at this;exact this
   rw[mn d s]at j;injection j with j
   rw[←j];refine⟨rfl,fun u f=>?_⟩
   simp only[dX,List.mem_cons,List.not_mem_nil,or_false]at f;rcases f with rfl|rfl|rfl
   · rfl
   · rfl
   · rw[List.getElem_ofFn]
     obtain⟨_,_,N,_⟩:=(Classical.choose_spec (g ⟨i,s⟩)).1
     rw[N];rfl
 · intro i j
   have s:i<l.length:=by rw[fe d]at j;exact j
   obtain⟨b,o,F,G,A,B,C⟩:=(Classical.choose_spec (g ⟨i,s⟩)).2
   refine⟨b,o,F,G,fun c u f=>?_⟩
   have z:(bQ l (List.ofFn fun i:Fin l.length=>Classical.choose (g i)))[i]?=some (dX l[i] (Classical.choose (g ⟨i,s⟩))):=by rw[mn d s,List.getElem_ofFn]
   rw[List.getElem?_eq_getElem j]at z;injection z with z
   rw[z]at f;match c,f with
   |0,f=>simp[dX]at f;subst f;exact A
   |1,f=>simp[dX]at f;subst f;exact B
   |2,f=>simp[dX]at f;subst f;exact C
   |c+3,f=>simp[dX]at f
theorem qd {w:World} {v:Value} {l:List Co} {us:List Value} (F:fP w l us) (h:bp 3 w v (bQ l us)):b8 w v l:=by
 obtain⟨c,s⟩:=F
 obtain⟨a,j,A,x,z,_,B⟩:=h
 rw[fe c]at A x z;refine⟨a,j,A,x,z,fun i u=>?_⟩
 have d:i<(bQ l us).length:=by rw[fe c];exact u
 obtain⟨b,o,C,E,f⟩:=B i d
 have g:=mn c u;rw[List.getElem?_eq_getElem d]at g;injection g with g
 rw[g]at f;exact⟨b,o,C,E,f 0 _ rfl,f 1 _ rfl,us[i]'(by omega),f 2 _ rfl,s i _ _ (List.getElem?_eq_getElem u) (List.getElem?_eq_getElem (by omega))⟩
def db (B:Nat) (w:World) (v:Value) (l:List Co):Prop:= ∃us,fP w l us∧bp 3 w v (bQ l us)∧bi B w v∧ ∀u∈us,bi B w u
theorem db.lies {B:Nat} {w:World} {v:Value} {l:List Co} (h:db B w v l):b8 w v l:=by
 obtain⟨d,a,c,_⟩:=h
 exact qd a c
theorem fP.below {w w':World} {l:List Co} {us:List Value} (h:fP w l us) (f:Below w.heap.size w w'):fP w' l us:=⟨h.1,fun i c u a d=>(h.2 i c u a d).below f⟩
theorem db.below {B:Nat} {w w':World} {v:Value} {l:List Co} (h:db B w v l) (a:Below w.heap.size w w'):db B w' v l:=by
 obtain⟨j,c,d,f,g⟩:=h
 exact⟨j,c.below a,d.below a,f.below a,fun u i=>(g u i).below a⟩
theorem db.mono {B B':Nat} {w:World} {v:Value} {l:List Co} (h:db B w v l) (a:B'≤B):db B' w v l:=by
 obtain⟨j,c,d,f,g⟩:=h
 exact⟨j,c,d,f.mono a,fun u i=>(g u i).mono a⟩
theorem bp.set {n:Nat} {w:World} {a:Option Addr} {k cap b o:Nat} {R:List (List Value)} (h:bp n w (.slice a k cap) R) (K:a=some ⟨b,o,none⟩) {i c:Nat} (N:i<R.length) (M:c<n) (u:Value) (U:u.oneCell'=true):
    bp n (w.setCell ⟨b,o+i*n+c,none⟩ u) (.slice a k cap) (R.set i (R[i].set c u)):=by
 obtain⟨X,J,V,P,Q,B,S⟩:=h
 injection V with C e2 O
 subst C;subst e2;subst O;refine⟨a,cap,by simp,by simpa using P,by simpa using Q,?_,fun j T=>?_⟩
 · intro r I
   rcases List.mem_or_eq_of_mem_set I with I|rfl
   · exact B r I
   · refine⟨by rw[List.length_set];exact(B _ (List.getElem_mem N)).1,fun x f=>?_⟩
     rcases List.mem_or_eq_of_mem_set f with f|rfl
     · exact(B _ (List.getElem_mem N)).2 x f
     · exact U
 · have z:j<R.length:=by simpa using T
   obtain⟨Y,o',g,F,G⟩:=S j z
   rw[K]at g;injection g with g
   injection g with C e2
   subst C;subst e2;refine⟨b,o,K,by simpa using F,fun d x f=>?_⟩
   have H:R[j].length=n:=(B _ (List.getElem_mem z)).1;by_cases v:i=j
   · subst v
     rw[List.getElem_set_self]at f;by_cases s:c=d
     · subst s
       rw[List.getElem?_set_self (by rw[H];exact M)]at f;injection f with f
       subst f;have A:=G c (R[i][c]'(by rw[H];exact M)) (List.getElem?_eq_getElem _);exact World.cell?_setCell_same' _ _ _ (by rw[A];rfl)
     · rw[List.getElem?_set_ne s]at f
       rw[World.cell?_setCell_other (h:=fun e=>s (by injection e with _ e2;omega))];exact G d x f
   · rw[List.getElem_set_ne v]at f
     have Z:d<n:=by
      have:=(List.getElem?_eq_some_iff.1 f).1
      rw[H]at this;exact this
     rw[World.cell?_setCell_other (h:=fun e=>by
      injection e with _ e2
      rcases Nat.lt_or_ge i j with h|h
      · have E:(i+1)*n≤j*n:=Nat.mul_le_mul_right n h
        rw[Nat.add_mul]at E;omega
      · have E:(j+1)*n≤i*n:=Nat.mul_le_mul_right n (by omega)
        rw[Nat.add_mul]at E;omega)]
     exact G d x f
def Cl (N:Nat) (ga:Value) (wr:World) (l:List Co) (us0 us:List Value) (k:Nat):Prop:=us.length=l.length∧
 (∀(j:Nat) (c:Co) (u:Value),j<k→l[j]?=some c→us[j]?=some u→cP wr u c.ch∧bi N wr u∧ ∀b,u.ownBlock=some b→ga.ownBlock≠some b)∧ ∀j,k≤j→us[j]?=us0[j]?
theorem Cl.below {N:Nat} {i:Value} {w w':World} {l:List Co} {a us:List Value} {k:Nat} (h:Cl N i w l a us k) (o:Below w.heap.size w w'):Cl N i w' l a us k:=
 ⟨h.1,fun j c u f d g=>⟨(h.2.1 j c u f d g).1.below o,(h.2.1 j c u f d g).2.1.below o,(h.2.1 j c u f d g).2.2⟩,h.2.2⟩
theorem Cl.next {N:Nat} {w:World} {l:List Co} {v us:List Value} {k b o x n cap:Nat} {u:Value} (h:Cl N (.slice (some ⟨b,o,none⟩) n cap) w l v us k) (H:k<l.length) (J:cP w u l[k].ch) (I:bi N w u) (s: ∀g,u.ownBlock=some g→b≠g):
    Cl N (.slice (some ⟨b,o,none⟩) n cap) (w.setCell ⟨b,x,none⟩ u) l v (us.set k u) (k+1):=by
 obtain⟨C,E,F⟩:=h
 refine⟨by rw[List.length_set];exact C,fun j c y G d a=>?_,fun j G=>?_⟩
 · by_cases i:k=j
   · subst i
     rw[List.getElem?_set_self (by omega)]at a;injection a with a
     subst a;rw[List.getElem?_eq_getElem H]at d;injection d with d
     subst d;exact⟨J.nbo (aj _ _ _ _) (fun g f e=>s g f e.symm),I.setCell _ _ _,fun g f e=>s g f (by simpa[Value.ownBlock]using e)⟩
   · rw[List.getElem?_set_ne i]at a
     obtain⟨A,B,z⟩:=E j c y (by omega) d a
     exact⟨A.nbo (aj _ _ _ _) (fun g f e=>z g f (by simp[Value.ownBlock,e])),B.setCell _ _ _,z⟩
 · rw[List.getElem?_set_ne (by omega)]
   exact F j (by omega)
theorem Cl.done {N:Nat} {s:Value} {w:World} {l:List Co} {f us:List Value} (h:Cl N s w l f us l.length):fP w l us∧ ∀u∈us,bi N w u:=by
 obtain⟨v,g,_⟩:=h
 refine⟨⟨v,fun i c u j d=>(g i c u (List.getElem?_eq_some_iff.1 j).1 j d).1⟩,fun u d=>?_⟩
 obtain⟨i,o⟩:=List.getElem?_of_mem d
 have a:i<l.length:=by have:=(List.getElem?_eq_some_iff.1 o).1;omega
 exact(g i _ u a (List.getElem?_eq_getElem a) o).2.1
theorem qe (l:List Co) (v:Value) (w:World) (hv:b8 w v l) (hn:l.length≤1000) (E8: ∀c∈l,c.ch.length≤1000000000):
    Calls prog 97 #[v] w fun e w'=> ∃u,e= .returned u∧db w.heap.size w' u l∧Below w.heap.size w w':=by
 have HV:=hid hv;have N:=hid E8;clear E8;obtain⟨f,A,E1⟩:=qb hv
 have M:=hid A;have EL:=hid E1;have J:=A.1;obtain⟨_,_,rfl,_⟩:=hv
 clear A E1;go_enter func97,ntmps97
 go_wp2_with fail;refine(zR (bQ l f) _ _ EL.out (by rw[fe J];omega)).mono ?_
 rintro e w1 ⟨u,rfl,E2,Z,EP⟩;have G:=hid E2;have F:=hid Z;have ES:=fe J;obtain⟨ga,a,rfl,EQ,_⟩:=E2
 rw[ES]at G F EQ⊢;clear Z;go_wp2;go_loopw [9] (fun i wr=> ∃(k:Nat) (B:List Value),k≤l.length∧i= .int .i64 k∧Hid (bp 3 wr (.slice ga l.length a) (bQ l B))∧Hid (bi w.heap.size wr (.slice ga l.length a))∧Hid (Cl w.heap.size (.slice ga l.length a) wr l f B k)∧Below w.heap.size w wr) (fun i _=>l.length-(intOf i).toNat)
 case atStart=>exact⟨0,f,Nat.zero_le _,rfl,G,F,⟨J,fun j c u hj=>absurd hj (Nat.not_lt_zero _),fun j _=>rfl⟩,EP⟩
 case round=>
  obtain⟨k,B,hk,rfl,HR,HO,C,z⟩:=hrel
  clear G F;by_cases s:k<l.length
  · have K:=C.out.1
    have I:k<(bQ l B).length:=by rw[fe K];exact s
    have d:=mn K s;rw[List.getElem?_eq_getElem I]at d;injection d with d
    obtain⟨a',EU,ET,_,_,_,E4⟩:=HR.out
    injection ET with e1 e2 e3
    subst e1;clear e2 e3;obtain⟨b,o,ER,hb,he⟩:=E4 k I
    subst ER;rw[d]at he;have c2:=he 2 _ rfl
    have E9:B[k]'(by omega)=f[k]'(by omega):=by
     have:=C.out.2.2 k ax 
     rw[List.getElem?_eq_getElem (by omega),List.getElem?_eq_getElem (by omega)]at this;injection this
    rw[E9]at c2;have X:=M.out.2 k l[k] (f[k]'(by omega)) (List.getElem?_eq_getElem s) (List.getElem?_eq_getElem (by omega));have P:=hid (tB.1 (X.below z));have EI:=hid (show((l[k]).ch.map iN).length≤1000000000000 from by rw[List.length_map];exact Nat.le_trans (N.out _ (List.getElem_mem s)) (by decide));obtain⟨xa,xc,hx,_⟩:=X
    rw[hx]at c2 P;have EO:=hid d;have R:Hid (∀(w':World) (y:Value),Cl w.heap.size (.slice (some ⟨b,o,none⟩) l.length a) w' l f B k→cP w' y (l[k]).ch→bi w.heap.size w' y→(∀g,y.ownBlock=some g→b≠g)→Cl w.heap.size (.slice (some ⟨b,o,none⟩) l.length a) (w'.setCell ⟨b,o+k*3+2,none⟩ y) l f (B.set k y) (k+1)):=(fun w' y h1 h2 h3 h4=>h1.next s h2 h3 h4:_)
    have V:=hid (show∀y,(bQ l B).set k (((bQ l B)[k]).set 2 y)=bQ l (B.set k y)from fun y=>by rw[d,←Av K s];rfl);clear d E4 he E9 hx;generalize E7:(l[k]).ch=chk at*;clear E7;go_wp2_with fail;refine(zC (chk.map iN) _ _ P.out EI.out).mono ?_
    rintro e w2 ⟨y,rfl,E3,E0,x⟩;have Q:=hid (tB.2 E3);have T:=hid E0;obtain⟨ya,yc,rfl,_⟩:=Q.out
    have EM:=hid (HR.out.below x);have S:=hid (HO.out.below x);have O:=hid (C.out.below x);have E5:=an z x;have Y:w.heap.size≤b:=(HO.out b rfl).1;obtain⟨_,cur,TT,E⟩:=S.out b rfl
    have EV:w2.frozen? ⟨b,o+k*3+2,none⟩=false:=by simp[World.frozen?,E]
    have d2:=(x.cell (p:=⟨b,o+k*3+2,none⟩) hb).trans c2;have EJ:=hid (show∀g,(Value.slice ya chk.length yc).ownBlock=some g→b≠g from fun g hg=>by have:=(T.out g hg).1;omega);have U:=hid (T.out.mono (Nat.le_trans Y (Nat.le_of_lt hb)));have EH:=hid (R.out w2 _ O.out Q.out U.out EJ.out);have H:=EM.out.set rfl I (by decide:2<3) (.slice ya chk.length yc) rfl;rw[V.out]at H;have EN:=hid H;have EK:=hid (S.out.setCell b (o+k*3+2) (.slice ya chk.length yc));have E6:Below w.heap.size w (w2.setCell ⟨b,o+k*3+2,none⟩ (.slice ya chk.length yc)):=E5.setCell (p:=⟨b,o+k*3+2,none⟩) Y _;clear E3 E0 H E R V EO;go_wp2;go_roundw
    case rel=>exact⟨k+1,_,by omega,by simp,EN,EK,EH,E6⟩
    case measure=>simp[intOf];omega
  · obtain rfl:k=l.length:=by omega
    obtain⟨h1,h2⟩:=C.out.done
    have HD:=hid (show db w.heap.size wr (.slice ga l.length a) l from⟨B,h1,HR.out,HO.out,h2⟩);clear h1 h2;go_wp2;go_ret;exact⟨_,rfl,HD.out,z⟩
theorem db.nbo {B:Nat} {W j:World} {v:Value} {l:List Co} {g:Nat} (h:db B W v l) (d:W.grownBy j (some g)) (G:g<B):db B j v l:=by
 obtain⟨C,o,E,s,x⟩:=h
 have z: ∀b,v.ownBlock=some b→b≠g:=fun b f=>by have:=(s b f).1;omega
 have A: ∀u∈C,∀b,u.ownBlock=some b→b≠g:=fun u a b f=>by have:=(x u a b f).1;omega
 exact⟨C,⟨o.1,fun i c u F a=>(o.2 i c u F a).nbo d (A u (List.mem_of_getElem? a))⟩,E.nbo d z,s.nb d z,fun u a=>(x u a).nb d (A u a)⟩
def gq (B:Nat) (w:World) (v:Value) (J:Jo):Prop:= ∃vb vc,v= .agg #[vb,.int .i64 J.first,vc]∧aF w vb J.base∧bi B w vb∧db B w vc J.cos
theorem gq.lies {B:Nat} {w:World} {v:Value} {J:Jo} (h:gq B w v J):cV w v J:=by
 obtain⟨f,g,a,c,_,d⟩:=h
 exact⟨f,g,a,c,d.lies⟩
theorem gq.below {B:Nat} {w w':World} {v:Value} {J:Jo} (h:gq B w v J) (a:Below w.heap.size w w'):gq B w' v J:=by
 obtain⟨i,j,c,d,f,g⟩:=h
 exact⟨i,j,c,d.below a,f.below a,g.below a⟩
theorem gq.mono {B B':Nat} {w:World} {v:Value} {J:Jo} (h:gq B w v J) (a:B'≤B):gq B' w v J:=by
 obtain⟨i,j,c,d,f,g⟩:=h
 exact⟨i,j,c,d,f.mono a,g.mono a⟩
theorem tX (J:Jo) (v:Value) (w:World) (hv:cV w v J) (hn:J.cos.length≤1000) (E9:J.base.length≤1000) (S: ∀c∈J.cos,c.ch.length≤1000000000):
    Calls prog 68 #[v] w fun e w'=> ∃u,e= .returned u∧gq w.heap.size w' u J∧Below w.heap.size w w':=by
 obtain⟨vb,vc,rfl,T,U⟩:=hv
 have E5:=hid T;have E6:=hid U;have E0:=hid S;obtain⟨V,X,rfl,_⟩:=T
 obtain⟨H,I,rfl,_⟩:=U
 clear S;obtain⟨A,i⟩: ∃A,A=(w.alloc (.cells #[.slice V J.base.length X,J.first,.slice H J.cos.length I] 57)).alloc (.cells #[al,ah,al] 57):=⟨_,rfl⟩
 have R:Below w.heap.size w A:=by rw[i];exact ak.alloc (by simp) _
 have Z:=hid (show Cs A w.heap.size [.slice V J.base.length X,J.first,.slice H J.cos.length I]from by rw[i];exact(Cs.new w [.slice V J.base.length X,J.first,.slice H J.cos.length I] _).below ak)
 have E:=hid (show Cs A (w.heap.size+1) [al,ah,al]from by
  have:=Cs.new (w.alloc (.cells #[.slice V J.base.length X,J.first,.slice H J.cos.length I] 57)) [al,ah,al] 57
  rw[i];simpa using this)
 go_enter func68,ntmps68
 go_wp2_with fail;rw[←i];clear i;refine(pN (J.base.map Pp.cells) _ _ (li.1 (E5.out.below R)) (by simp;omega)).mono ?_
 rintro e w1 ⟨u1,rfl,N,K,s⟩;have F:=hid (li.2 N);have G:=hid K;obtain⟨B,C,rfl,_⟩:=F.out
 have E8:w.heap.size+1<A.heap.size:=E.out.lt;have EI:=s.size;have j:=hid (Z.out.below s);have c0:=j.out.cell 0 rfl;have f0:=j.out.fr 0;have d2:=j.out.cell 2 rfl;obtain⟨z,a⟩: ∃z,z=w1.setCell ⟨w.heap.size,0,none⟩ (.slice B J.base.length C):=⟨_,rfl⟩
 have EJ:z.heap.size=w1.heap.size:=by rw[a];simp
 have Y:=hid (show Cs z w.heap.size [.slice B J.base.length C,J.first,.slice H J.cos.length I]from by rw[a];exact j.out.set 0 _);have E7:=hid (show Cs z (w.heap.size+1) [al,ah,al]from by rw[a];exact(E.out.below s).other (by omega) _);have E1:=hid (show aF z (.slice B J.base.length C) J.base from by rw[a];exact F.out.nbo (aj _ _ _ _) (fun b O=>by have:=(G.out b O).1;omega));have E3:=hid (show bi A.heap.size z (.slice B J.base.length C)from by rw[a];exact G.out.setCell _ _ _);have Q:Below w.heap.size w z:=by rw[a];exact(an R s).setCell (p:=⟨w.heap.size,0,none⟩) ax _
 clear N K;go_wp2_with fail;rw[←a];clear a c0 f0 d2;refine(qe J.cos _ _ (E6.out.below Q) hn E0.out).mono ?_
 rintro e w3 ⟨u3,rfl,M,f⟩;have E4:=hid M;obtain⟨EL,x,⟨ya,yc,hy,_⟩,_⟩:=M
 rw[fe x.1]at hy;subst hy;clear x;have EK:=f.size;have o:=hid (Y.out.below f);have d:=hid (E7.out.below f);have c0:=o.out.cell 0 rfl;have c1:=o.out.cell 1 rfl;have c2:=o.out.cell 2 rfl;have f2:=o.out.fr 2;have y0:=d.out.cell 0 rfl;have y1:=d.out.cell 1 rfl;have y2:=d.out.cell 2 rfl;have g0:=d.out.fr 0;have g1:=d.out.fr 1;have g2:=d.out.fr 2;have P:=an Q f;have E2:=hid (E1.out.below f);have g:=hid (E3.out.below f);have EH: ¬w.heap.size=w.heap.size+1:=by omega
 go_wp2;refine bodyPost_ret (v:= .agg #[.slice B J.base.length C,J.first,.slice ya J.cos.length yc]) (by simp[results,results68,go_sem,y0,y1,y2]) rfl ⟨_,rfl,?_,?_⟩
 · have k0: ∀b,(Value.slice B J.base.length C).ownBlock=some b→b≠w.heap.size:=fun b O=>by have:=(g.out b O).1;omega
   have k1: ∀b,(Value.slice B J.base.length C).ownBlock=some b→b≠w.heap.size+1:=fun b O=>by have:=(g.out b O).1;omega
   refine⟨_,_,rfl,(((E2.out.nbo (aj _ _ _ _) k0).nbo (aj _ _ _ _) k1).nbo (aj _ _ _ _) k1).nbo (aj _ _ _ _) k1,((((g.out.setCell _ _ _).setCell _ _ _).setCell _ _ _).setCell _ _ _).mono (by omega),?_⟩
   exact((((E4.out.nbo (aj _ _ _ _) (by omega)).nbo (aj _ _ _ _) (by omega)).nbo (aj _ _ _ _) (by omega)).nbo (aj _ _ _ _) (by omega)).mono (by omega)
 · exact(((P.setCell (p:=⟨w.heap.size,2,none⟩) ax _).setCell (p:=⟨w.heap.size+1,0,none⟩) (Nat.le_succ _) _).setCell (p:=⟨w.heap.size+1,1,none⟩) (Nat.le_succ _) _).setCell (p:=⟨w.heap.size+1,2,none⟩) (Nat.le_succ _) _
theorem tY (J:Jo) (b:Nat) (T U vt vm:Value) (w:World) (z:Cs w b [T,J.first,U,vt,vm]) (A:aF w T J.base) (B:b8 w U J.cos) (Z:J.cos.length≤1000) (P:J.base.length≤1000) (x: ∀c∈J.cos,c.ch.length≤1000000000):
    Calls prog 142 #[.pointer (some ⟨b,0,none⟩)] w fun e w'=> ∃u,e= .returned u∧gq w.heap.size w' u J∧Below w.heap.size w w':=by
 have K:=hid A;have M:=hid B;have I:=hid x;have X:=z.lt;have G:=z.cell 0 rfl;have k1:=z.cell 1 rfl;have k2:=z.cell 2 rfl;obtain⟨ba,bc,rfl,_⟩:=A
 obtain⟨ca,cc,rfl,_⟩:=B
 clear x z;obtain⟨H,a⟩: ∃H,H=w.alloc (.cells #[al,ah,al] 57):=⟨_,rfl⟩
 have f:Below w.heap.size w H:=by rw[a];exact ak
 have i:=hid (show Cs H w.heap.size [al,ah,al]from by rw[a];exact Cs.new w [al,ah,al] _);have Y:=i.out.lt;go_enter func142,ntmps142
 go_wp2_with fail;rw[←a];clear a;refine(tX J _ _ ⟨_,_,rfl,K.out.below f,M.out.below f⟩ Z P I.out).mono ?_
 rintro e w1 ⟨u1,rfl,⟨xb,xc,rfl,C,F,E⟩,s⟩;have N:=hid C;have j:=hid F;have O:=hid E;obtain⟨Q,R,rfl,_⟩:=C
 obtain⟨E0,d,⟨ya,yc,S,_⟩,_⟩:=E
 rw[fe d.1]at S;subst S;have g:=hid (i.out.below s);have y0:=g.out.cell 0 rfl;have y1:=g.out.cell 1 rfl;have y2:=g.out.cell 2 rfl;have g0:=g.out.fr 0;have g1:=g.out.fr 1;have g2:=g.out.fr 2;have o:=an f s;clear F d;go_wp2;refine bodyPost_ret (v:= .agg #[.slice Q J.base.length R,J.first,.slice ya J.cos.length yc]) (by simp[results,results142,go_sem,y0,y1,y2]) rfl ⟨_,rfl,?_,?_⟩
 · have G: ∀b,(Value.slice Q J.base.length R).ownBlock=some b→b≠w.heap.size:=fun b V=>by have:=(j.out b V).1;omega
   refine⟨_,_,rfl,((N.out.nbo (aj _ _ _ _) G).nbo (aj _ _ _ _) G).nbo (aj _ _ _ _) G,(((j.out.setCell _ _ _).setCell _ _ _).setCell _ _ _).mono (by omega),?_⟩
   exact(((O.out.nbo (aj _ _ _ _) (by omega)).nbo (aj _ _ _ _) (by omega)).nbo (aj _ _ _ _) (by omega)).mono (by omega)
 · exact((o.setCell (p:=⟨w.heap.size,0,none⟩) ax _).setCell (p:=⟨w.heap.size,1,none⟩) ax _).setCell (p:=⟨w.heap.size,2,none⟩) ax _
theorem jM (a:Int) (n cap b:Nat) (f i g:Value) (d:Option Addr) (w:World) (c:Cs w b [f,a,.slice d n cap,i,g]) (o:1≤a) (s:a≤2000000) (u:n≤1000):
    Calls prog 100 #[.pointer (some ⟨b,0,none⟩)] w fun e w'=>e= .returned (.int .i64 (a-1+n))∧Below w.heap.size w w':=by
 have v:=c.cell 1 rfl;have x:=c.cell 2 rfl;have j:IntKind.i64.wrap (a-1)=a-1:=by rw[IntKind.wrap_i64];omega
 have e2:IntKind.i64.wrap (a-1+(n:Int))=a-1+n:=by rw[IntKind.wrap_i64];omega
 clear c;go_enter func100,ntmps100
 go_wp2_with fail;go_region
 go_wp2;go_ret;exact⟨rfl, aw.drew⟩
def Fr (B:Nat) (v:Value):Prop:= ∀g,v.ownBlock=some g→B≤g
theorem fQ (B:Nat):Fr B (.slice none 0 0):=fun g h=>by simp[Value.ownBlock]at h
theorem Fr.mono {B B':Nat} {v:Value} (h:Fr B v) (a:B'≤B):Fr B' v:=fun g c=>Nat.le_trans a (h g c)
theorem tZ {w:World} {base:Nat} {T:TypeId} {v:Value} {L:List Gr} (h:w.ownsRow base T 3 v L.length (dp L)) (j:L≠[]): ∃g a,v= .slice (some ⟨g,0,none⟩) L.length a∧base≤g∧g<w.heap.size∧L.length≤a∧a≤maxLen:=by
 obtain⟨z,o⟩:=h
 rcases o with⟨_,i⟩|⟨g,a,cur,rfl,s,f,x,u,i,d⟩
 · exact absurd (List.length_eq_zero_iff.1 i) j
 · have c:g<w.heap.size:=by
    rcases Nat.lt_or_ge g w.heap.size with h|h
    · exact h
    · rw[Array.getElem?_eq_none h]at f;cases f
   exact⟨g,a,rfl,s,c,x,u⟩
theorem fR {w:World} {base:Nat} {T:TypeId} {v:Value} {L:List Gr} (h:w.ownsRow base T 3 v L.length (dp L)) (s:L.length≤1000000000000000):bj w v L:=by
 haveI:Inhabited Gr:=⟨⟨⟨#[]⟩,⟨#[]⟩,0⟩⟩
 by_cases c:L=[]
 · subst c
   obtain⟨_,j⟩:=h
   rcases j with⟨rfl,_⟩|⟨g,cap,cur,rfl,f,x,a,_⟩
   · exact fu _
   · exact⟨some ⟨g,0,none⟩,cap,rfl,a,by simp,fun i o=>absurd o (by simp)⟩
 · obtain⟨g,cap,rfl,u,f,a,z⟩:=tZ h c
   have:=Pp.liesG_holds f (tQ h rfl) (d:=L.toArray) (cap:=cap) (by simpa using a) (by simpa using s)
   simpa using this
theorem Aw (G:List Gr) (v:Value) (x:Gr) (w:World) (hv:bj w v G) (hn:G.length≤1000) (hx: ¬x.ri=0):
    Calls prog 137 #[v,.agg #[x.fo,x.wh,x.ri]] w fun e w'=> ∃u M,e= .returned u∧M.Perm (bP x G++[x])∧M.Pairwise (fun a b=>a7 b a=false)∧(bj w' u M∧Fr w.heap.size u)∧Below w.heap.size w w':=by
 obtain⟨i0,Y,E0,E1,E2⟩:=info_parts Tryz.infoG
 have HV:=ac hv
 have hT:gn (w.alloc (.cells #[x.fo,x.wh,x.ri] 64)) 160 #[.pointer (some ⟨w.heap.size,0,none⟩)] (dq x):=by
  refine⟨enters_of func160 (by kernel_rfl) rfl,fun W N e=>?_⟩
  exact tV e x w.heap.size W (Nat.lt_of_lt_of_le (by simp) N.size) ((N.cell (p:=⟨w.heap.size,0,none⟩) (by simp)).trans (by simp)) ((N.cell (p:=⟨w.heap.size,1,none⟩) (by simp)).trans (by simp)) ((N.cell (p:=⟨w.heap.size,2,none⟩) (by simp)).trans (by simp))
 have HT:=ac hT;have E3:(bP x G).length≤G.length:=List.length_filter_le _ _;have hz:(x.ri==0)=false:=by simpa using hx
 have HF:Hid (G.filter (dq x)=bP x G):=rfl;clear hT hv hx;generalize bP x G=F at*;go_enter func137,ntmps137
 go_wp2_with fail;refine(tU G _ _ _ (dq x) _ (HV.out.below ak) HT.out (by omega)).mono ?_
 rintro e w1 ⟨u1,rfl,o,Z,C⟩;rw[HF.out]at o;obtain⟨c0,c1,c2,f,E5⟩:=ey C
 have c:=Am (B:=w.heap.size) o (by simp);clear o C;go_wp2_with (at_builtin;refine wpList_append_own _ rfl _ _ 23 rfl w.heap.size 64 i0 (.agg #[.string ⟨#[]⟩,.string ⟨#[]⟩,ah]) 3 40 underlying23 Y E0 E1 E2 rfl (by decide) _ _ _ rfl (c.alloc _) ⟨w1.heap.size,0,none⟩ 1 1 (cd x) rfl rfl (fO w1 x _) (fx _) (by unfold maxLen;omega) (by omega) (by have:=f.size;simp;omega) ?_)
 intro v2 w2 s i K;have j:Below w.heap.size w w2:=(f.alloc f.size _).grown i (by have:=f.size;simp;omega) (fun q hq=>(c.lt q hq).1);rw[fN]at s;have z:w2.ownsRow w.heap.size 64 3 v2 (F++[x]).length (dp (F++[x])):=by rw[List.length_append];exact s
 obtain⟨g,T,rfl,I,X,H,E4⟩:=tZ z (by simp)
 have HO:=ac z;have Q:=ac I;have V:(F++[x]).length≤1001:=by rw[List.length_append];simp;omega
 clear s i K z c Z c0 c1 c2;obtain⟨O,d⟩: ∃O,O=F++[x]:=⟨_,rfl⟩
 rw[←d]at HO V H⊢;have P:=ac d;clear d;go_wp2_with fail;refine(Al O w.heap.size g T _ HO.out (by omega) H I X).mono ?_
 rintro e w3 ⟨rfl,M,hp,hs,J,E⟩;have HP:=ac hp;have S:=ac hs;have R:=ac J;have A:Below w.heap.size w w3:=j.trans E;clear hp hs J E;go_wp2;go_ret;exact⟨_,M,rfl,by rw[←P.out];exact HP.out,S.out,⟨R.out,fun q hq=>by have U:some g=some q:=hq;injection U with U;exact U▸Q.out⟩,A⟩
theorem ud (G:List Gr) (v:Value) (w:World) (j:bj w v G) (o:G.length≤60):
    Calls prog 136 #[v] w fun e w'=>e= .returned (.tuple #[v,ah])∧w'=w:=by
 obtain⟨a,g,rfl,f,d,c⟩:=j
 have i: ¬60<(G.length:Int):=by omega
 clear c;go_enter func136,ntmps136
 go_wp2;go_ret2;exact⟨rfl,rfl⟩
theorem bu {G:List Se} {x l r:Int} (h:be G x l r=0):d8 G.length x l r=0∧ez x G=0∧fK G=true∧gM G r=0:=by
 by_cases a:d8 G.length x l r=0
 · by_cases c:ez x G=0
   · cases d:fK G with
     |false=>rw[pF a c d]at h;cases h
     |true=>rw[pG a c d]at h;exact⟨a,c,rfl,h⟩
   · rw[pE a c]at h;exact absurd h c
 · rw[k9 a]at h;exact absurd h a
def ku (B:Nat) (w:World) (v:Value) (P:Pg):Prop:= ∃vt vc,v= .agg #[.bool P.reset,vt,vc,.int .i64 P.cur,.bool P.more]∧aF w vt P.tree∧bi B w vt∧db B w vc P.cos
theorem ku.lies {B:Nat} {w:World} {v:Value} {P:Pg} (h:ku B w v P):d6 w v P:=by
 obtain⟨g,f,a,c,_,d⟩:=h
 exact⟨g,f,a,c,d.lies⟩
theorem ku.below {B:Nat} {w w':World} {v:Value} {P:Pg} (h:ku B w v P) (a:Below w.heap.size w w'):ku B w' v P:=by
 obtain⟨j,i,c,d,f,g⟩:=h
 exact⟨j,i,c,d.below a,f.below a,g.below a⟩
theorem ue (B:Nat) (w:World):db B w (.slice none 0 0) []:=
 ⟨[],⟨rfl,fun i c u a=>by simp at a⟩,⟨none,0,rfl,ax,by decide,(fun r d=>by cases d),fun i h=>absurd h (by simp[bQ])⟩,fq _ _,(fun u f=>by cases f)⟩
def bt:Pg:=⟨false,[],[],0,false⟩
def dN (J:Jo) (c m:Int):Int:=if¬aT J=0 then aT J else if m<1∨10<m∨c<0 then 3 else if Jn.last J<c then 5 else 0
def fS (J:Jo) (c:Int):List Co:=J.cos.drop (c-(J.first-1)).toNat
def iP (m:Int) (n:Nat):Nat:=min m.toNat n
def ev (J:Jo) (c m:Int):Pg:=if¬dN J c m=0 then bt else if c<J.first-1 then⟨true,Jn.tree J,[],Jn.last J,false⟩else
 ⟨false,[],(fS J c).take (iP m (fS J c).length),c+iP m (fS J c).length,decide (iP m (fS J c).length<(fS J c).length)⟩
theorem iQ {J:Jo} {c m e:Int} (h:dN J c m=e) (a: ¬e=0):ev J c m=bt:=by rw[ev,h,if_pos a]
theorem Ax {J:Jo} {c m:Int} (h: ¬aT J=0):dN J c m=aT J:=by rw[dN,if_pos h]
theorem lm {J:Jo} {c m:Int} (h:aT J=0) (a:m<1∨10<m∨c<0):dN J c m=3:=by rw[dN,if_neg (fun x=>x h),if_pos a]
theorem uh {J:Jo} {c m:Int} (h:aT J=0) (a: ¬(m<1∨10<m∨c<0)) (d:Jn.last J<c):dN J c m=5:=by rw[dN,if_neg (fun x=>x h),if_neg a,if_pos d]
theorem ui {J:Jo} {c m:Int} (h:aT J=0) (a: ¬(m<1∨10<m∨c<0)) (d: ¬Jn.last J<c):dN J c m=0:=by rw[dN,if_neg (fun x=>x h),if_neg a,if_neg d]
theorem uj {J:Jo} {c m:Int} (h:dN J c m=0) (a:c<J.first-1):ev J c m=⟨true,Jn.tree J,[],Jn.last J,false⟩:=by rw[ev,if_neg (fun x=>x h),if_pos a]
theorem uk {J:Jo} {c m:Int} (h:dN J c m=0) (a: ¬c<J.first-1):ev J c m=⟨false,[],(fS J c).take (iP m (fS J c).length),c+iP m (fS J c).length,decide (iP m (fS J c).length<(fS J c).length)⟩:=by rw[ev,if_neg (fun x=>x h),if_neg a]
theorem um {w:World} {a f:Option Addr} {n cap i k c:Nat} {l:List Co} (h:b8 w (.slice a n cap) l) (K:i≤l.length) (M:k≤(l.drop i).length) (A:k≤c) (x: ∀b o,a=some ⟨b,o,none⟩→0<k→f=some ⟨b,o+i*3,none⟩):b8 w (.slice f k c) ((l.drop i).take k):=by
 obtain⟨G,s,F,I,J,v⟩:=h
 injection F with u e2 H
 subst u;have d:((l.drop i).take k).length=k:=by rw[List.length_take];omega
 have E:(l.drop i).length=l.length-i:=List.length_drop;refine⟨f,c,by rw[d],by rw[d];exact A,by rw[d];omega,fun j C=>?_⟩
 rw[d]at C;obtain⟨b,o,g,z,B⟩:=v (i+j) (by omega)
 refine⟨b,o+i*3,x b o g (by omega),z,?_⟩
 rw[List.getElem_take,List.getElem_drop,Nat.add_assoc,show i*3+j*3=(i+j)*3 by omega];exact B
def cM (G:List Se) (pr:Se→Bool):Int:=match G.findIdx? pr with
 |some i=>(i:Int)
 |none=> -1
theorem uo {G:List Se} {a:Se→Bool} {k:Nat} (c:k<G.length) (h: ∀j (h:j<G.length),j<k→a G[j]=false) (f:a G[k]=true):(k:Int)=cM G a:=by
 have:G.findIdx? a=some k:=List.findIdx?_eq_some_iff_getElem.2 ⟨c,f,fun j d=>by rw[h j (by omega) d];simp⟩
 rw[cM,this]
theorem uq {G:List Se} {a:Se→Bool} (h: ∀j (h:j<G.length),a G[j]=false): -1=cM G a:=by
 have:G.findIdx? a=none:=List.findIdx?_eq_none_iff.2 fun x d=>by
  obtain⟨j,c,rfl⟩:=List.getElem_of_mem d
  exact h j c
 rw[cM,this]
theorem qf (G:List Se) (a:Se→Bool):(cM G a= -1∧ ∀x∈G,a x=false)∨ ∃k,∃h:k<G.length,cM G a=(k:Int)∧a G[k]=true∧ ∀j (i:j<G.length),j<k→a G[j]=false:=by
 cases d:G.findIdx? a with
 |none=>
  have o:=List.findIdx?_eq_none_iff.1 d;exact Or.inl ⟨by rw[cM,d],fun x u=>by simpa using o x u⟩
 |some k=>
  obtain⟨g,s,c⟩:=List.findIdx?_eq_some_iff_getElem.1 d
  exact Or.inr ⟨k,g,by rw[cM,d],s,fun j i f=>by have:=c j f;simpa using this⟩
def bd (pr:Se→Bool) (L:List Se) (j:Nat):List Se:=(L.take j).filter fun x=> !pr x
theorem Ay {a:Se→Bool} {L:List Se} {j:Nat} (h:j<L.length) (c:a L[j]=false):bd a L (j+1)=bd a L j++[L[j]]:=by
 rw[bd,bd,List.take_succ_eq_append_getElem h,List.filter_append];simp[c]
theorem uu {a:Se→Bool} {L:List Se} {j:Nat} (h:j<L.length) (c:a L[j]=true):bd a L (j+1)=bd a L j:=by
 rw[bd,bd,List.take_succ_eq_append_getElem h,List.filter_append];simp[c]
theorem Az {c:Se→Bool} {L:List Se} {k:Nat} (f:k≤L.length) (h: ∀j (a:j<L.length),j<k→c L[j]=false):bd c L k=L.take k:=by
 rw[bd,List.filter_eq_self];intro x d;obtain⟨j,a,rfl⟩:=List.getElem_of_mem d
 rw[List.length_take]at a;rw[List.getElem_take,h j (by omega) (by omega)];rfl
theorem AA (a:Se→Bool) (L:List Se) (j:Nat):(bd a L j).length≤j:=by
 have c:=List.length_filter_le (fun x=> !a x) (L.take j);have d:=List.length_take_le j L;rw[bd];omega
theorem qg (G:List Se) (v:Value) (q g:Nat) (F:Array Value) (f:Se→Bool) (w:World) (V:aK w v G) (E:l7 w q g F f):
    Calls prog 146 #[v,.func (.func g) #[] F] w fun e w'=>e= .returned (.int .i64 (cM G f))∧Below w.heap.size w w':=by
 obtain⟨a,R,rfl,H,C,s⟩:=V
 have K:Hid (∀i (h:i<G.length),∃b o,a=some ⟨b,o,none⟩∧b<w.heap.size∧et w b (o+i*5) G[i]):=s;have J:=ac E;have X:=E.1;clear s E;go_enter func146,ntmps146
 go_wp2;go_loopw [8] (fun i wr=> ∃k:Nat,k≤G.length∧i= .int .i64 k∧Hid (∀j (h:j<G.length),j<k→f G[j]=false)∧Below w.heap.size w wr) (fun i _=>G.length-(intOf i).toNat)
 case atStart=>exact⟨0,Nat.zero_le _,rfl,(fun j _ h=>absurd h (Nat.not_lt_zero _): ∀j (h:j<G.length),j<0→f G[j]=false),aw⟩
 case round=>
  obtain⟨k,Z,rfl,A,c⟩:=hrel
  by_cases x:k<G.length
  · obtain⟨b,o,rfl,T,U⟩:=K.out k x
    obtain⟨M,N,O,P,Q⟩:=U.below T c
    go_wp2_with fail;refine(J.out.2 _ (Nb.below q c) G[k]).mono ?_
    rintro e w1 ⟨rfl,u⟩;have d:=aG c u;clear M N O P Q c u;cases I:f G[k]with
    |true=>
     have z:=hid (show(k:Int)=cM G f from uo x A.out I);go_wp2;go_ret;exact⟨aB z.out,d⟩
    |false=>
     have B:=hid (show∀j (h:j<G.length),j<k+1→f G[j]=false from fun j S Y=>by
      by_cases e:j=k
      · subst e;exact I
      · exact A.out j S (by omega))
     go_wp2;go_roundw
     case rel=>exact⟨k+1,by omega,by simp,B,d⟩
     case measure=>simp[intOf];omega
  · have z:=hid (show-1=cM G f from uq (fun j h=>A.out j h (by omega)))
    go_wp2;go_ret;exact⟨aB z.out,c⟩
def gP (G:List Gr) (ns:List ByteArray):Int:=if bh G=0 then aU ns else bh G
theorem uv (a:List ByteArray):aU a=0∨aU a=1:=by
 rw[aU];split
 · exact Or.inl rfl
 · exact Or.inr rfl
theorem fT (G:List Gr) (v:Value) (a:List ByteArray) (g cap:Nat) (w:World) (B:bj w v G) (A:eu G) (z:g<w.heap.size) (f: ∀i (h:i<a.length),(a[i]).size≤1000000000000000) (H:a.length≤1000) (x: ∀i (h:i<a.length),w.cell? ⟨g,0+i,none⟩=some (.string a[i])):
    Calls prog 98 #[v,.slice (some ⟨g,0,none⟩) a.length cap] w fun e w'=>e= .returned (.int .i64 (gP G a))∧Below w.heap.size w w':=by
 have u:=ac B;have s:=ac A;have F:=ac f;have E:=ac x;clear B A f x;by_cases d:bh G=0
 · have C:=ac d
   have j:=hid (show aU a=gP G a from(if_pos d).symm);clear d;go_enter func98,ntmps98
   go_wp2_with fail;refine(pV G _ _ u.out s.out).mono ?_
   rintro e I ⟨rfl,c⟩;rw[C.out];go_wp2_with fail;refine(k6 a g 0 cap _ (Nat.lt_of_lt_of_le z c.size) F.out H (fun i h=>(c.cell (p:=⟨g,0+i,none⟩) z).trans (E.out i h))).mono ?_
   rintro e K ⟨rfl,o⟩;generalize aU a=y at*;go_wp2;go_ret;exact⟨aB j.out,aG c o⟩
 · have j:=hid (show bh G=gP G a from(if_neg d).symm)
   have J:(bh G==0)=false:=by simpa using d
   go_enter func98,ntmps98
   go_wp2_with fail;refine(pV G _ _ u.out s.out).mono ?_
   rintro e I ⟨rfl,c⟩;generalize bh G=y at*;go_wp2;go_ret;exact⟨aB j.out,c⟩
def fU (G:List Gr) (f h:ByteArray):Int:=if gP G [f,h]=0 then aL G f h else 0
theorem AB (G:List Gr) (v:Value) (f h:ByteArray) (w:World) (C:bj w v G) (B:eu G) (F:f.size≤150000000000000) (H:h.size≤150000000000000):
    Calls prog 71 #[v,f,h] w fun e w'=>e= .returned (.tuple #[fU G f h,gP G [f,h]])∧Below w.heap.size w w':=by
 have u:=ac C;have A:=ac B;clear C B;have o: ∀i (g:i<[f,h].length),([f,h][i]).size≤1000000000000000:=fun i g=>by match i,g with|0,_=>exact Nat.le_trans F (by decide)|1,_=>exact Nat.le_trans H (by decide)
 by_cases d:gP G [f,h]=0
 · have s:=hid (show aL G f h=fU G f h from(if_pos d).symm)
   have E:=ac d;rw[d];clear d;go_enter func71,ntmps71
   go_wp2_with fail;refine(fT G _ [f,h] w.heap.size 2 _ (u.out.below ak) A.out (by simp) o (by simp) (fun i g=>by match i,g with|0,_=>simp|1,_=>simp)).mono ?_
   rintro e z ⟨rfl,c⟩;rw[E.out];have a:Below w.heap.size w z:= ak.trans (c.mono (by simp));clear c;go_wp2_with fail;refine(jL G _ f h _ (u.out.below a)).mono ?_
   rintro e J ⟨rfl,x⟩;rw[s.out];have j:=aG a x;go_wp2;go_ret2;exact⟨rfl,j⟩
 · have s:=hid (show 0=fU G f h from(if_neg d).symm)
   have I:(gP G [f,h]==0)=false:=by simpa using d
   go_enter func71,ntmps71
   go_wp2_with fail;refine(fT G _ [f,h] w.heap.size 2 _ (u.out.below ak) A.out (by simp) o (by simp) (fun i g=>by match i,g with|0,_=>simp|1,_=>simp)).mono ?_
   rintro e z ⟨rfl,c⟩;have a:Below w.heap.size w z:= ak.trans (c.mono (by simp));go_wp2;go_ret2;exact⟨by rw[←s.out];rfl,a⟩
theorem cB (G:List Gr) (v:Value) (f h:ByteArray) (w:World) (S:bj w v G):
    Calls prog 19 #[v,f,.string h] w fun e w'=>e= .returned (.int .i64 (aL G f h))∧Below w.heap.size w w':=by
 obtain⟨a,P,rfl,M,C,s⟩:=S
 have N:Hid (∀i (h:i<G.length),∃b o,a=some ⟨b,o,none⟩∧b<w.heap.size∧em w b (o+i*3) G[i]):=s;clear s;obtain⟨r,H⟩: ∃r,r=aL G f h:=⟨_,rfl⟩
 rw[←H];have J:=ac H;clear H;go_enter func19,ntmps19
 go_wp2;go_loopw [7] (fun i wr=> ∃k:Nat,k≤G.length∧i= .int .i64 k∧Hid (∀j (K:j<G.length),j<k→dI f h G[j]=false)∧Below w.heap.size w wr) (fun i _=>G.length-(intOf i).toNat)
 case atStart=>exact⟨0,Nat.zero_le _,rfl,(fun j _ h=>absurd h (Nat.not_lt_zero _): ∀j (K:j<G.length),j<0→dI f h G[j]=false),aw⟩
 case round=>
  obtain⟨k,Y,rfl,A,c⟩:=hrel
  by_cases u:k<G.length
  · obtain⟨b,o,rfl,Q,R⟩:=N.out k u
    obtain⟨U,V,X⟩:=R.below Q c
    have O:=hid (show dI f h G[k]=true→(G[k]).ri=r from fun F=>by
     have:G.find? (dI f h)=some G[k]:=by
      rw[List.find?_eq_some_iff_getElem];exact⟨F,k,u,rfl,fun j E=>by simpa using A.out j (by omega) E⟩
     rw[J.out,aL,this])
    have I:=hid (show dI f h G[k]=false→ ∀j (K:j<G.length),j<k+1→dI f h G[j]=false from fun F j g B=>by
     by_cases e:j=k
     · subst e;exact F
     · exact A.out j g (by omega))
    generalize G[k]=x at*;cases g:(x.fo.toList==f.toList)with
    |true=>
     cases B:(x.wh.toList==h.toList)with
     |true=>
      have z:=ac (O.out (by rw[dI,g,B];rfl));go_wp2;go_ret;exact⟨aB z.out,c⟩
     |false=>
      have d:=ac (I.out (by rw[dI,g,B];rfl));go_wp2;go_roundw
      case rel=>exact⟨k+1,by omega,by simp,d,c⟩
      case measure=>simp[intOf];omega
    |false=>
     have d:=ac (I.out (by rw[dI,g];rfl));go_wp2;go_roundw
     case rel=>exact⟨k+1,by omega,by simp,d,c⟩
     case measure=>simp[intOf];omega
  · have z:=hid (show 0=r from by
     have:G.find? (dI f h)=none:=by
      rw[List.find?_eq_none];intro x T;obtain⟨j,E,rfl⟩:=List.getElem_of_mem T
      simpa using A.out j E (by omega)
     rw[J.out,aL,this])
    go_wp2;go_ret;exact⟨aB z.out,c⟩
theorem AC (L:List En) (v:Value) (k:Int) (p q t:ByteArray) (b n:Int) (w:World) (A:aF w v L) (g:p.size≤1000000000) (i:q.size≤1000000000) (z:t.size≤1000000000) (s:Pp.Good L) (d:bm n=0):
    Calls prog 85 #[v,.agg #[k,p,q,t,b],n] w fun e w'=> ∃u,e= .returned (.tuple #[u,bW L ⟨k,p,q,t,b⟩ n])∧(bW L ⟨k,p,q,t,b⟩ n=0→aF w' u (cN L ⟨k,p,q,t,b⟩ n))∧Below w.heap.size w w':=by
 have F: ∀e∈L,e.path.size≤1000000000:=fun e P=>by
  have:=k7 (gY (s.ents e P))
  rw[Lib.size_eq];omega
 by_cases a:aQ ⟨k,p,q,t,b⟩=0
 · by_cases c:bN L ⟨k,p,q,t,b⟩=0
   · have E:bW L ⟨k,p,q,t,b⟩ n=Pp.rstE L ⟨k,p,q,t,b⟩ n:=by
      rw[bW,if_neg (fun x=>x d),if_neg (fun x=>x a),if_neg (fun x=>x c)];rfl
     rw[E];have O:1≤k∧k≤4:=je a;obtain⟨B,I⟩:=zT O c
     have o:=jG a;rcases I with⟨rfl,f⟩|⟨rfl,f⟩|⟨rfl,j,C,f,N⟩|⟨rfl,⟨j,C,f⟩,N,K,J⟩|⟨rfl,j,C,f⟩
     · have M:t=⟨#[]⟩:=by
        rcases o.2.1 with G|G
        · exact absurd (show(1:Int)=2 from G) (by decide)
        · exact Ag G
       subst M;exact Aq L v p q b n w A F g i s a (hid (by simpa[Pp.goal]using B)) f
     · exact Ar L v p q t b n w A F g i z s a (hid (by simpa[Pp.goal]using B)) f
     · exact As L v p q t b n w A F g i z s a (hid (by simpa[Pp.goal]using B)) j C f N
     · exact Au L v p q t b n w A F g i z s a (hid (by simpa[Pp.goal]using B)) j C f N K J
     · exact At L v p q t b n w A F g i z s a (hid (by simpa[Pp.goal]using B)) j C f
   · have E:bW L ⟨k,p,q,t,b⟩ n=bN L ⟨k,p,q,t,b⟩:=tH d a c
     rw[E];refine(zW L v k p q t b n w A g i z a c).mono ?_
     rintro e Q ⟨rfl,H⟩;exact⟨_,rfl,fun h=>absurd h c,H⟩
 · have E:bW L ⟨k,p,q,t,b⟩ n=aQ ⟨k,p,q,t,b⟩:=tG d a
   rw[E];refine(zV L v k p q t b n w g i z a).mono ?_
   rintro e Q ⟨rfl,H⟩;exact⟨_,rfl,fun h=>absurd h a,H⟩
def mo:Se:=⟨0,⟨#[]⟩,⟨#[]⟩,0,0⟩
theorem AD {a:Type} {A B C:List a} {j:Nat} {x:a} (h:(A++B).length=j) (c:C=x::C.tail): ∃f:j<(A++B++C).length,(A++B++C)[j]=x:=by
 have d:j<(A++B++C).length:=by rw[List.length_append,h,c];simp
 refine⟨d,?_⟩
 rw[List.getElem_append_right (by omega)];subst h;simp only[Nat.sub_self];rw[List.getElem_of_eq c];rfl
theorem AE {c:Type} {A X C:List c} {a x y:c}:(A++(a::X)++(x::C)).set A.length y=A++[y]++(X++[x])++C:=by
 simp
theorem qh {a:Type} {L:List a} {j:Nat} (h:j<L.length):L.drop j=L[j]::L.drop (j+1):=List.drop_eq_getElem_cons h
theorem Tryz.zeroS: ∀w,(zeroValue 79).run prog w= .ok (.agg #[ah,.string ⟨#[]⟩,.string ⟨#[]⟩,ah,ah]) w:=Tryz.zeroValue79
theorem nJ {w:World} {g:Nat} {d:List Se} (h:bY w g d) {t:Nat} (j:t<d.length*5):(w.cell? ⟨g,t,none⟩).isSome=true∧w.frozen? ⟨g,t,none⟩=false:=by
 have c:t/5<d.length:=by omega
 have f:t/5*5+t % 5=t:=by omega
 have a:=h.2 (t/5) c (t % 5) (by omega);rw[f]at a;refine⟨?_,a.2⟩
 rw[a.1];have i:t % 5<5:=by omega
 match t % 5,i with
 |0,_=>rfl
 |1,_=>rfl
 |2,_=>rfl
 |3,_=>rfl
 |4,_=>rfl
theorem uw {w:World} {g:Nat} {A X:List Se} (h:bY w g (A++X)) (K:TypeId) (M:0<X.length):
    ∃w',(∀d,(Builtin.clear_ #[24] K #[.slice (some ⟨g,A.length*5,none⟩) X.length d]).run prog w= .ok (.tuple #[]) w')∧bY w' g A∧w.grownBy w' (some g)∧cZ g w w':=by
 obtain⟨z,F⟩: ∃z:Value,z= .agg #[ah,.string ⟨#[]⟩,.string ⟨#[]⟩,ah,ah]:=⟨_,rfl⟩
 have x: ∀w,(zeroValue 79).run prog w= .ok z w:=by rw[F];exact Tryz.zeroS
 have o:z.cells=(bD mo).toArray:=by rw[F];rfl
 obtain⟨vs,a⟩: ∃vs,vs=(Builtin.zeroCells z.cells X.length).toList:=⟨_,rfl⟩
 have N:vs.length=X.length*5:=by rw[a,o];simp[Builtin.zeroCells,bD]
 have G: ∀v∈vs,v.oneCell'=true:=by
  intro v u;rw[a,o]at u;simp[Builtin.zeroCells]at u
  obtain⟨i,E,rfl⟩:=u
  have H:i % (bD mo).length<5:=Nat.mod_lt _ (by decide);refine l8 mo _ ?_
  have B:i % (bD mo).length<(bD mo).length:=H;rw[List.getElem?_eq_getElem B];exact List.getElem_mem B
 have f:=run_storeCells_cells (P:=prog) g (A.length*5) vs 0 w (fun j I=>by
  rw[Nat.add_zero];exact(nJ h (by rw[List.length_append];omega)).1) (fun j I=>by
  rw[Nat.add_zero];exact(nJ h (by rw[List.length_append];omega)).2) G
 simp only[Nat.add_zero]at f;refine⟨w.setCells g (A.length*5) vs,?_,⟨Nat.lt_of_lt_of_le h.1 (en g _ _ w).size,fun i E c C=>⟨?_,?_⟩⟩,en g _ _ w,cZ.setCells g _ _ w⟩
 · intro d
   obtain⟨m,J⟩: ∃m,X.length=m+1:=⟨X.length-1,by omega⟩
   rw[J]at a⊢;simp[Builtin.clear_,run_underlying underlying24,x,←a,f]
 · have s:i<(A++X).length:=by rw[List.length_append];omega
   rw[World.cell?_setCells_out g _ _ _ _ (fun _ _=>by simp only;omega),(h.2 i s c C).1,List.getElem_append_left E]
 · rw[World.frozen?_setCells]
   exact(h.2 i (by rw[List.length_append];omega) c C).2
theorem AF (L:List Se) (q cap g:Nat) (cb:Array Value) (f:Se→Bool) (w:World) (hR:bY w q L) (hg:l7 w q g cb f) (hn:L.length≤1000) (E2:L.length≤cap):
    Calls prog 144 #[.slice (some ⟨q,0,none⟩) L.length cap,.func (.func g) #[] cb] w fun e w'=>e= .returned (.slice (some ⟨q,0,none⟩) (L.filter fun x=> !f x).length cap)∧bY w' q (L.filter fun x=> !f x)∧w.grownBy w' (some q)∧cZ q w w':=by
 have HR:=ac hR;have HG:=ac hg;have eg:=hg.1;have Y:=ac (fun W (hW:Below w.heap.size w W)=>qg L _ q g cb f W ((hR.lies E2 (by omega)).below hW) ⟨hg.1,fun W' EI=>hg.2 W' (Nb.trans (Nb.below q hW) EI)⟩);clear hR hg;rcases qf L f with⟨hi,N⟩|⟨E,V,hi,E7,P⟩
 · have HI:=ac hi
   have hF:(L.filter fun x=> !f x)=L:=by
    rw[List.filter_eq_self];intro x hx;rw[N x hx];rfl
   rw[hF];clear hi hF N;go_enter func144,ntmps144
   go_wp2_with fail;refine(Y.out w aw).mono ?_
   rintro e w1 ⟨rfl,z⟩;rw[HI.out];go_wp2;go_ret;exact⟨rfl,HR.out.below z,Nb.below q z,cZ.below z⟩
 · have HI:=ac hi
   have H0:=ac (show bd f L (E+1)=L.take E from(uu V E7).trans (Az (Nat.le_of_lt V) P));have HF:=hid (show bd f L L.length=L.filter fun x=> !f x from by rw[bd,List.take_length]);have EO:((E:Int)== -1)=false:=beq_eq_false_iff_ne.2 (by omega);clear hi E7 P;go_enter func144,ntmps144
   go_wp2_with fail;refine(Y.out w aw).mono ?_
   rintro e w1 ⟨rfl,z⟩;rw[HI.out];have Q:=ac z;clear z;go_wp2;go_loopw [5,6] (fun a b wr=> ∃(j:Nat) (X:List Se),j≤L.length∧a= .int .i64 (bd f L j).length∧b= .int .i64 j∧(bd f L j).length+X.length=j∧0<X.length∧Hid (bY wr q (bd f L j++X++L.drop j))∧w.grownBy wr (some q)∧cZ q w wr) (fun _ b _=>L.length-(intOf b).toNat)
   case atStart=>
    have o:(bd f L (E+1)).length=E:=by rw[H0.out,List.length_take];omega
    refine⟨E+1,[L[E]],by omega,by rw[o],by simp,by rw[o];simp,by simp,?_,Nb.below q Q.out,cZ.below Q.out⟩
    have e:bd f L (E+1)++[L[E]]++L.drop (E+1)=L:=by
     rw[H0.out,List.append_assoc,List.singleton_append,←qh V,List.take_append_drop]
    have:bY w1 q (bd f L (E+1)++[L[E]]++L.drop (E+1)):=by rw[e];exact HR.out.below Q.out
    exact this
   case round=>
    obtain⟨j,X,hj,rfl,rfl,o,hX,u,E6,E4⟩:=hrel
    have G:=ac E6;have S:=ac E4;clear E6 E4;by_cases M:j<L.length
    · obtain⟨E3,O⟩:=AD (A:=bd f L j) (B:=X) (C:=L.drop j) (j:=j) (x:=L[j]) (by rw[List.length_append];exact o) (by rw[qh M];rfl)
      have E1:=u.out.at E3;rw[O]at E1;obtain⟨c0,c1,c2,c3,c4⟩:=E1
      have EL:=u.out.1;clear O E3;have T:=hid (show f L[j]=false→bd f L (j+1)=bd f L j++[L[j]]from Ay M);have U:=hid (show f L[j]=true→bd f L (j+1)=bd f L j from uu M);have HD:=ac (qh M);have EN:=AA f L j;generalize L[j]=s at*;generalize bd f L j=A at*;cases hp:f s with
      |false=>
       have R:=ac (T.out hp);go_wp2_with fail;refine(HG.out.2 _ (Nb.trans G.out (Nb.below q ak)) s).mono ?_
       rintro e w2 ⟨rfl,I⟩;rw[hp];obtain⟨d0,d1,d2,d3,d4,d,E5⟩:=l5 I
       have c:=u.out.below d;have i:A.length<(A++X++L.drop j).length:=by simp only[List.length_append];omega
       obtain⟨y,hy⟩: ∃y,y=(A++X++L.drop j)[A.length]:=⟨_,rfl⟩
       obtain⟨t0,t1,t2,t3,t4⟩:=c.at i
       rw[←hy]at t0 t1 t2 t3 t4;have f0:=(c.2 _ i 0 (by decide)).2;have f1:=(c.2 _ i 1 (by decide)).2;have f2:=(c.2 _ i 2 (by decide)).2;have f3:=(c.2 _ i 3 (by decide)).2;have f4:=(c.2 _ i 4 (by decide)).2;rw[Nat.add_zero]at f0;have J:=c.set i s
       obtain⟨a0,Z,rfl⟩: ∃a0 Z,X=a0::Z:=by
        cases X with
        |nil=>simp at hX
        |cons a0 Z=>exact⟨a0,Z,rfl⟩
       rw[HD.out,AE]at J;have v:=ac J;have H:=ac (Nb.trans (Nb.trans G.out (Nb.below q d)) (en q (bD s) (A.length*5) w2));have F:=ac ((S.out.trans (cZ.below d)).trans (cZ.setCells q (bD s) (A.length*5) w2));clear c I J hy d;go_wp2;go_roundw
       case rel=>exact⟨j+1,Z++[s],by omega,by rw[R.out,List.length_append];simp,by simp,by rw[R.out,List.length_append];simp at o⊢;omega,by simp,by rw[R.out];exact v,H.out,F.out⟩
       case measure=>simp[intOf];omega
      |true=>
       have R:=ac (U.out hp);go_wp2_with fail;refine(HG.out.2 _ (Nb.trans G.out (Nb.below q ak)) s).mono ?_
       rintro e w2 ⟨rfl,I⟩;rw[hp];obtain⟨d0,d1,d2,d3,d4,d,E5⟩:=l5 I
       have c:=u.out.below d;rw[HD.out]at c;have v:=hid (show bY w2 q (A++(X++[s])++L.drop (j+1))from by simpa using c);have H:=ac (Nb.trans G.out (Nb.below q d));have F:=ac (S.out.trans (cZ.below d));clear c I d;go_wp2;go_roundw
       case rel=>exact⟨j+1,X++[s],by omega,by rw[R.out],by simp,by rw[R.out,List.length_append];simp;omega,by simp,by rw[R.out];exact v,H.out,F.out⟩
       case measure=>simp[intOf];omega
    · obtain rfl:j=L.length:=by omega
      have K:=u.out;rw[List.drop_length,List.append_nil]at K;rw[HF.out]at o K⊢;obtain⟨wc,hcl0,hrc,hnc,hkc⟩:=uw K 0 hX
      have EK:=hcl0 (cap-(L.filter fun x=> !f x).length);clear hcl0;have EJ:X.length=L.length-(L.filter fun x=> !f x).length:=by omega
      rw[EJ]at EK;have EH:=ac hrc;have E9:=ac (Nb.trans G.out hnc);have E8:=ac (S.out.trans hkc);have EM:(L.filter fun x=> !f x).length≤L.length:=by omega
      clear K hrc hnc hkc;generalize E0:(L.filter fun x=> !f x)=FF at*;go_wp2;go_ret;exact⟨by rw[E0];rfl,by rw[E0];exact EH.out,E9.out,E8.out⟩
theorem AG (g:Nat) (c:Array Value) (w:World):
    Calls prog 144 #[al,.func (.func g) #[] c] w fun e w'=>e= .returned (.slice none 0 0)∧Below w.heap.size w w':=by
 have a: ∀W,Calls prog 146 #[al,.func (.func g) #[] c] W fun e w'=>e= .returned (.int .i64 (-1))∧w'=W:=by
  intro W;go_enter func146,ntmps146
  go_wp2;go_loopw [8] (fun i wr=>i= .int .i64 0∧wr=W) (fun i _=>0)
  case atStart=>exact⟨rfl,rfl⟩
  case round=>
   obtain⟨rfl,rfl⟩:=hrel
   go_wp2;go_ret;exact⟨rfl,rfl⟩
 go_enter func144,ntmps144
 go_wp2_with fail;refine(a _).mono ?_
 rintro e f ⟨rfl,d⟩;rw[d];go_wp2;go_ret;exact⟨rfl,aw⟩
theorem Tryz.infoSe:(prog.info? 79).map (fun i=>(i.zero,i.size,i.bytes))=some (some (.agg #[ah,.string ⟨#[]⟩,.string ⟨#[]⟩,ah,ah]),5,56):=by kernel_rfl
theorem mq {w:World} {b o:Nat} {L:List Se} (h: ∀i (h:i<L.length),et w b (o+i*5) L[i]): ∀j u,(bn L)[j]?=some u→w.cell? ((⟨b,o,none⟩:Addr).add j)=some u:=by
 intro j u a
 have B:j<L.length*5:=by
  have:=(List.getElem?_eq_some_iff.1 a).1
  rw[il]at this;exact this
 have d:j/5<L.length:=by omega
 have f:j/5*5+j % 5=j:=by omega
 have g:=l9 L (j/5) (j % 5) d (by omega);rw[f]at g;rw[g]at a;obtain⟨s,v,e2,x,e4⟩:=h _ d
 have A:(⟨b,o,none⟩:Addr).add j=⟨b,o+j/5*5+j % 5,none⟩:=by
  rw[Addr.add_lit,Nat.add_assoc,f]
 rw[A];have z:j % 5<5:=by omega
 generalize j % 5=c at*;match c,z,a with
 |0,_,a=>simp[bD]at a;subst a;exact s
 |1,_,a=>simp[bD]at a;subst a;exact v
 |2,_,a=>simp[bD]at a;subst a;exact e2
 |3,_,a=>simp[bD]at a;subst a;exact x
 |4,_,a=>simp[bD]at a;subst a;exact e4
theorem jt (L:List Se): ∀u∈bn L,u.oneCell'=true:=by
 intro u c;obtain⟨s,_,a⟩:=List.mem_flatMap.1 c
 exact l8 s u a
def bR (base:Nat) (w':World) (u:Value) (L:List Se):Prop:=(u= .slice none 0 0∧L=[])∨ ∃g cap,u= .slice (some ⟨g,0,none⟩) L.length cap∧base≤g∧L.length≤cap∧bY w' g L∧fL w' g 79 (cap*5)∧cap≤maxLen
theorem AH (L:List Se) (v:Value) (w:World) (hv:aK w v L) (hn:L.length≤1000):
    Calls prog 70 #[v] w fun e w'=> ∃u,e= .returned u∧bR w.heap.size w' u L∧Below w.heap.size w w':=by
 obtain⟨i0,N,S,U,V⟩:=info_parts Tryz.infoSe
 obtain⟨a,cap,rfl,Z,M,f⟩:=hv
 have E0: ∀(w:World) (a:Option Addr) (n c X J:Nat),(binOp .eql 24 (.slice a n c) (.slice none X J)).run prog w= .ok (.bool a.isNone) w:=fun w a n c X J=>Lib.run_eql_slice_nil w _ _ a n c X J underlying24
 cases a with
 |none=>
  have hL:L=[]:=by
   cases L with
   |nil=>rfl
   |cons s r=>obtain⟨b,o,F,_⟩:=f 0 (by simp);cases F
  subst hL;go_enter func70,ntmps70
  go_wp2;go_ret;exact⟨_,rfl,Or.inl ⟨rfl,rfl⟩,aw⟩
 |some ad=>
  have d: ∀j u,(bn L)[j]?=some u→w.cell? (ad.add j)=some u:=by
   cases L with
   |nil=>intro j u O;simp[bn]at O
   |cons s r=>
    obtain⟨b,o,F,_⟩:=f 0 (by simp)
    injection F with F
    subst F
    exact mq fun i hi=>by
     obtain⟨b',o',B,_,he⟩:=f i hi
     injection B with B
     injection B with h1 K
     subst h1;subst K;exact he
  have HC:=ac d;have I:=ac (il L);clear d f;go_enter func70,ntmps70
  go_wp2_with (at_builtin;refine wpList_append_own _ rfl _ _ 24 rfl w.heap.size 79 i0 (.agg #[ah,.string ⟨#[]⟩,.string ⟨#[]⟩,ah,ah]) 5 56 underlying24 N S U V rfl (by decide) _ _ _ rfl (World.ownsRow_made w #[] 0 ax (Nat.zero_le _) (by simp)) ad L.length cap (bn L) rfl ?qc1 ?qc2 ?qc3 ?qc4 ?qc5 ?qc6 ?_)
  case qc1=>exact I.out
  case qc2=>intro j u O;exact Lib.cell?_alloc_some _ (HC.out j u O)
  case qc3=>exact jt L
  case qc4=>unfold maxLen;omega
  case qc5=>omega
  case qc6=>simp
  intro v2 Y E z A;have C:Below w.heap.size w Y:= ak.grown z (by simp) (fun k hk=>by simp[Value.ownBlock]at hk;omega)
  have G:bR w.heap.size Y v2 L:=by
   have Q:Y.ownsRow w.heap.size 79 5 v2 L.length (bn L):=by simpa using E
   obtain⟨hl,K⟩:=Q
   rcases K with⟨rfl,hz⟩|⟨g,x,cur,rfl,hg,hh,P,hm,hz,R⟩
   · exact(A rfl).elim
   · exact Or.inr ⟨g,x,rfl,hg,P,pJ (base:=w.heap.size) (T:=79) (cap:=x) (n:=L.length) (by simpa using E) rfl,⟨cur,hh,hz⟩,hm⟩
  have H:=ac G;clear E z A G;go_wp2;go_ret;exact⟨_,rfl,H.out,C⟩
def Bx (W:World) (b:Nat) (a0 a1 a2 a3:Value):Prop:=b<W.heap.size∧(W.cell? ⟨b,0,none⟩=some a0∧W.cell? ⟨b,1,none⟩=some a1∧W.cell? ⟨b,2,none⟩=some a2∧W.cell? ⟨b,3,none⟩=some a3)∧W.frozen? ⟨b,0,none⟩=false∧W.frozen? ⟨b,1,none⟩=false∧W.frozen? ⟨b,2,none⟩=false∧W.frozen? ⟨b,3,none⟩=false
theorem Bx.below {W d:World} {b:Nat} {f g i j:Value} (h:Bx W b f g i j) (c:Below W.heap.size W d):Bx d b f g i j:=by
 obtain⟨a,⟨o,s,u,v⟩,x,z,A,B⟩:=h
 exact⟨Nat.lt_of_lt_of_le a c.size,⟨(c.cell (p:=⟨b,0,none⟩) a).trans o,(c.cell (p:=⟨b,1,none⟩) a).trans s,(c.cell (p:=⟨b,2,none⟩) a).trans u,(c.cell (p:=⟨b,3,none⟩) a).trans v⟩,(c.frozen (p:=⟨b,0,none⟩) a).trans x,(c.frozen (p:=⟨b,1,none⟩) a).trans z,(c.frozen (p:=⟨b,2,none⟩) a).trans A,(c.frozen (p:=⟨b,3,none⟩) a).trans B⟩
theorem Bx.nb {W f:World} {b g:Nat} {i j o s:Value} (h:Bx W b i j o s) (d:W.grownBy f (some g)) (a:b≠g):Bx f b i j o s:=by
 obtain⟨c,⟨u,v,x,z⟩,A,B,C,E⟩:=h
 exact⟨Nat.lt_of_lt_of_le c d.size,⟨(Nb.cell d (p:=⟨b,0,none⟩) c a).trans u,(Nb.cell d (p:=⟨b,1,none⟩) c a).trans v,(Nb.cell d (p:=⟨b,2,none⟩) c a).trans x,(Nb.cell d (p:=⟨b,3,none⟩) c a).trans z⟩,(Nb.frozen d (p:=⟨b,0,none⟩) c a).trans A,(Nb.frozen d (p:=⟨b,1,none⟩) c a).trans B,(Nb.frozen d (p:=⟨b,2,none⟩) c a).trans C,(Nb.frozen d (p:=⟨b,3,none⟩) c a).trans E⟩
theorem Bx.new (w:World) (a c d f:Value) (T:TypeId):Bx (w.alloc (.cells #[a,c,d,f] T)) w.heap.size a c d f:=
 ⟨by simp,⟨by simp,by simp,by simp,by simp⟩,World.frozen?_alloc_at _ _ _ _ rfl,World.frozen?_alloc_at _ _ _ _ rfl,World.frozen?_alloc_at _ _ _ _ rfl,World.frozen?_alloc_at _ _ _ _ rfl⟩
theorem Bx.set {W:World} {b a o:Nat} {d f g i u:Value} (h:Bx W b d f g i) (c:a≠b):Bx (W.setCell ⟨a,o,none⟩ u) b d f g i:=h.nb (ai W a o u) (fun e=>c e.symm)
theorem bz {B b:Nat} {w W:World} {c d f g:Value} (h:Below B w W) (a:B≤b):Below B w ((((W.setCell ⟨b,0,none⟩ c).setCell ⟨b,1,none⟩ d).setCell ⟨b,2,none⟩ f).setCell ⟨b,3,none⟩ g):=
 (((h.setCell (p:=⟨b,0,none⟩) a _).setCell (p:=⟨b,1,none⟩) a _).setCell (p:=⟨b,2,none⟩) a _).setCell (p:=⟨b,3,none⟩) a _
end Go.Proofs.YtdlpjlfefjipkaaGreat
