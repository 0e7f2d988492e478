/- What journal.checkCommit answers, for every commit. -/
import Derived.Test.YtdlpjlfefjipkaaGreatHFH
import Derived.Test.YtdlpjlfefjipkaaGreatHFG
import Derived.Deep.DeepMust
import Derived.Lib.SliceRun
set_option linter.unusedSimpArgs false
set_option linter.unusedVariables false
namespace Go.Proofs.YtdlpjlfefjipkaaGreat
open Go.RowKit Go.ChangeShapes Go.WideShapes Go.ChangeAt Go.Proofs.Tryz
set_option maxHeartbeats 2000000
set_option maxRecDepth 100000
theorem pk (c:Co) (n:Int):((c.nu==n)=false∧cz c n=4)∨(c.nu=n∧1000000<n∧cz c n=3)∨(c.nu=n∧ ¬1000000<n∧hY c.ke.data.toList=1∧cz c n=1)∨
    (c.nu=n∧ ¬1000000<n∧hY c.ke.data.toList=0∧c.ch.length=0∧cz c n=1)∨(c.nu=n∧ ¬1000000<n∧hY c.ke.data.toList=0∧0<c.ch.length∧cz c n=0):=by
 by_cases a:c.nu=n
 · by_cases d:1000000<n
   · exact Or.inr (Or.inl ⟨a,d,by rw[cz,if_neg (fun x=>x a),if_pos d]⟩)
   · cases f:cK c.ke.data.toList with
     |false=>exact Or.inr (Or.inr (Or.inl ⟨a,d,j8 f,by rw[cz,if_neg (fun x=>x a),if_neg d,if_pos (by simp[f])]⟩))
     |true=>
      by_cases g:c.ch=[]
      · exact Or.inr (Or.inr (Or.inr (Or.inl ⟨a,d,lO f,by rw[g];rfl,by rw[cz,if_neg (fun x=>x a),if_neg d,if_neg (fun x=>x f),if_pos g]⟩)))
      · exact Or.inr (Or.inr (Or.inr (Or.inr ⟨a,d,lO f,List.length_pos_iff.2 g,by rw[cz,if_neg (fun x=>x a),if_neg d,if_neg (fun x=>x f),if_neg g]⟩)))
 · exact Or.inl ⟨by simpa using a,by rw[cz,if_pos a]⟩
theorem yZ (c:Co) (u:Value) (n:Int) (w:World) (E:cP w u c.ch) (i:c.ke.size≤maxLen):
    Calls prog 120 #[.agg #[c.nu,c.ke,u],n] w fun e w'=>e= .returned (.int .i64 (cz c n))∧Below w.heap.size w w':=by
 obtain⟨a,z,rfl,v,g,_⟩:=E
 have d:Below w.heap.size w (w.alloc (.cells #[c.nu,c.ke,.slice a c.ch.length z] 111)):=ak;rcases pk c n with⟨f,hE⟩|⟨f,o,hE⟩|⟨f,o,x,hE⟩|⟨f,o,x,A,hE⟩|⟨f,o,x,A,hE⟩
 · have j:=hid hE
   clear hE;go_enter func120,ntmps120
   go_wp2;go_ret;exact⟨by rw[j.out];rfl,d⟩
 · have j:=hid hE
   clear hE;obtain⟨nu,ke,ch⟩:=c
   simp only at f o d i⊢;subst f;go_enter func120,ntmps120
   go_wp2;go_ret;exact⟨by rw[j.out];rfl,d⟩
 all_goals
  have j:=hid hE;have C:=hid x;clear hE x;try (have s:((c.ch.length:Int)==0)=true:=by rw[beq_iff_eq];omega)
  try (have s:((c.ch.length:Int)==0)=false:=by rw[beq_eq_false_iff_ne];omega)
  try clear A
  obtain⟨nu,ke,ch⟩:=c
  simp only at f o d i v g⊢;try simp only at s
  subst f;go_enter func120,ntmps120
  go_wp2_with fail;refine(lP ke _ i).mono ?_
  rintro e F ⟨rfl,B⟩;rw[B,C.out];clear B F;go_wp2;go_ret;exact⟨by rw[j.out];rfl,d⟩
theorem jI {w:World} {base:Nat} {T:TypeId} {v:Value} {L:List En} (h:w.ownsRow base T 4 v L.length (cq L)) (s:L.length≤1000000000000000):aF w v L:=by
 haveI:Inhabited En:=⟨⟨⟨#[]⟩,false,⟨#[]⟩,0⟩⟩
 by_cases f:L=[]
 · subst f
   obtain⟨_,o⟩:=h
   rcases o with⟨rfl,_⟩|⟨g,cap,cur,rfl,j,x,a,_⟩
   · exact⟨none,0,rfl,ax,by simp,fun i c=>absurd c (by simp)⟩
   · exact⟨some ⟨g,0,none⟩,cap,rfl,a,by simp,fun i c=>absurd c (by simp)⟩
 · obtain⟨g,cap,rfl,u,j,a,z⟩:=Pp.own_shape h f
   have:=Pp.lies_holds j (sB h rfl) (d:=L.toArray) (cap:=cap) (by simpa using a) (by simpa using s)
   simpa using this
theorem za (x:En) (w:World):
    Calls prog 170 #[.agg #[x.path,x.folder,x.text,x.ver]] w fun r w'=>r= .returned (.bool true)∧Below w.heap.size w w':=by
 go_enter func170,ntmps170
 go_wp2;go_ret;exact⟨rfl,by first|exact aw|exact ak⟩
theorem zd (w:World):dh w 170 #[] (fun _=>true):=
 ⟨enters_of func170 (by kernel_rfl) rfl,fun W a x c=>za x W⟩
theorem kl (L:List En) (v:Value) (w:World) (g:aF w v L) (f:dk L):
    Calls prog 119 #[v] w fun e w'=>e= .returned (.int .i64 (bg L))∧Below w.heap.size w w':=by
 by_cases o:L.length≤60
 · exact xV L v w g (by omega) f
 · have i:=hid (show 2=bg L from by rw[bg,if_pos (by omega)])
   obtain⟨a,j,rfl,d,c,s⟩:=g
   have u:60<(L.length:Int):=by omega
   clear s f;go_enter func119,ntmps119
   go_wp2;go_ret;exact⟨aB i.out,aw⟩
theorem ze (L:List En) (v:Value) (k:Int) (p q t:ByteArray) (b:Int) (w:World) (F:aF w v L) (C: ∀e∈L,e.path.size≤1000000000000000) (R:p.size≤1000000000000000) (Q: ¬b= -1) (x:En) (B:L.find? (eW p.data.toList b)=some x):
    Calls prog 182 #[v,.agg #[k,p,q,t,b]] w fun e w'=>e= .returned (.bool true)∧Below w.heap.size w w':=by
 have K:Hid (aF w v L):=F;have I:Hid (∀e∈L,e.path.size≤1000000000000000):=C;have H:Hid (L.find? (eW p.data.toList b)=some x):=B;have U:(b== -1)=false:=by simpa using Q
 clear F C B;have S: ∀(W:World) (a:Addr) (f:Fn) (x y:Array Value),(store a (.func f x y)).run prog W=stored prog W a (.func f x y) .plain:=fun W a f x y=>run_store prog W a _ _ rfl
 go_enter func182,ntmps182
 go_wp2_with fail;refine(lT p _ R).mono ?_
 rintro e u ⟨rfl,E,i⟩;obtain⟨M,N,O,P,A,j,c⟩:=aC i
 have J:Hid (dh u 214 #[.pointer (some ⟨(w.alloc (.cells #[k,p,q,t,b] 83)).heap.size,0,none⟩)] (d7 p.data.toList)):=E;clear E i;go_wp2_with fail;refine(iI L v _ _ (eW p.data.toList b) _ (K.out.below (j.alloc (Nat.le_of_lt c) _)) ⟨enters_of func200 (by kernel_rfl) rfl,?_⟩ I.out).mono ?_
 · intro W z x T
   have d:Below u.heap.size u W:= ak.trans (z.mono (by simp));refine sF x p k t q b w.heap.size u.heap.size 214 #[.pointer (some ⟨w.heap.size+1,0,none⟩)] W (Nat.lt_of_lt_of_le c d.size) (Nat.lt_of_lt_of_le (by simp) z.size) ((d.cell (p:=⟨w.heap.size,4,none⟩) c).trans A) ((z.cell (p:=⟨u.heap.size,0,none⟩) (by simp)).trans (by simp)) ?_ T
   have h:=J.out.below d;simpa using h
 · rintro e G ⟨rfl,g⟩
   rw[H.out,ic];have o:Below w.heap.size w G:=(j.alloc (Nat.le_of_lt c) _).trans (g.mono (by simp;omega));have s:w.heap.size<G.heap.size:=by have:=g.size;simp at this;omega
   clear g M N O P A;go_wp2;go_ret;exact⟨rfl,o.alloc (Nat.le_of_lt s) _⟩
theorem nj {e:En} {p:List UInt8} (a:aD e.path.data.toList=0) (c:aD p=0):d7 p e=bf p e:=by
 rw[d7,bf];simp[bZ,a,c]
theorem sQ {e:En} {p:List UInt8} {b:Int} (a:aD e.path.data.toList=0) (c:aD p=0):eW p b e=da p b e:=by
 rw[eW,da,nj a c]
theorem pn {f g:En→Bool} {L:List En} (h: ∀e∈L,f e=g e):L.filter f=L.filter g:=List.filter_congr h
theorem zf {L:List En} {c:aE} (g: ∀e∈L,aD e.path.data.toList=0) (j:aD c.p.data.toList=0):dL L c=(!(c.b== -1) && (L.find? (eW c.p.data.toList c.b)).isSome):=by
 rw[dL];congr 1
 cases a:L.find? (eW c.p.data.toList c.b)with
 |none=>
  rw[List.any_eq_false.2]
  · rfl
  · intro e i
    have:=List.find?_eq_none.1 a e i
    rw[sQ (g e i) j]at this;exact this
 |some x=>
  have d:=List.find?_some a;have f:=List.mem_of_find?_eq_some a;rw[sQ (g x f) j]at d;rw[List.any_eq_true.2 ⟨x,f,d⟩];rfl
theorem sR (L:List En) (v:Value) (k:Int) (p q t:ByteArray) (b:Int) (w:World) (j:aF w v L) (i:dk L) (g:p.size≤1000000000000000) (s: ∀e∈L,aD e.path.data.toList=0) (u:aD p.data.toList=0):
    Calls prog 182 #[v,.agg #[k,p,q,t,b]] w fun e w'=>e= .returned (.bool (dL L ⟨k,p,q,t,b⟩))∧Below w.heap.size w w':=by
 have a:=zf (c:=⟨k,p,q,t,b⟩) s u;by_cases f:b= -1
 · rw[a];subst f
   exact sG L v k p q t (-1) w j i g (Or.inl rfl)
 · have o:(b== -1)=false:=by simpa using f
   cases d:L.find? (eW p.data.toList b)with
   |none=>
    have e:dL L ⟨k,p,q,t,b⟩=false:=by rw[a];simp only[d];simp
    rw[e];exact sG L v k p q t b w j i g (Or.inr d)
   |some x=>
    have e:dL L ⟨k,p,q,t,b⟩=true:=by rw[a];simp only[d,o];rfl
    rw[e];exact ze L v k p q t b w j (fun e z=>(i e z).1) g f x d
def jJ (e:Int) (L:List En):List En:=if e=0 then L else[]
theorem lY {e:Int} (h:e=0) (L:List En):jJ e L=L:=if_pos h
theorem lZ {e:Int} (h: ¬e=0) (L:List En):jJ e L=[]:=if_neg h
theorem an {w a d:World} (c:Below w.heap.size w a) (f:Below a.heap.size a d):Below w.heap.size w d:=c.trans (f.mono c.size)
def bp (n:Nat) (w:World) (v:Value) (R:List (List Value)):Prop:= ∃a cap,v= .slice a R.length cap∧R.length≤cap∧R.length≤1000000000000000∧(∀r∈R,r.length=n∧ ∀u∈r,u.oneCell'=true)∧
 ∀i (h:i<R.length),∃b o,a=some ⟨b,o,none⟩∧b<w.heap.size∧ ∀c u,R[i][c]?=some u→w.cell? ⟨b,o+i*n+c,none⟩=some u
theorem bp.below {n:Nat} {w w':World} {v:Value} {R:List (List Value)} (h:bp n w v R) (g:Below w.heap.size w w'):bp n w' v R:=by
 obtain⟨a,d,F,j,s,z,x⟩:=h
 refine⟨a,d,F,j,s,z,fun i C=>?_⟩
 obtain⟨b,o,A,f,B⟩:=x i C
 exact⟨b,o,A,Nat.lt_of_lt_of_le f g.size,fun c u E=>(g.cell (p:=⟨b,o+i*n+c,none⟩) f).trans (B c u E)⟩
theorem fs {n:Nat}: ∀{R:List (List Value)},(∀r∈R,r.length=n)→R.flatten.length=R.length*n
 |[],_=>by simp
 |r::R,h=>by
  rw[List.flatten_cons,List.length_append,h r (by simp),fs (fun x a=>h x (by simp[a])),List.length_cons,Nat.add_mul];omega
theorem po {n:Nat}: ∀{R:List (List Value)} (i c:Nat) (h:i<R.length),(∀r∈R,r.length=n)→c<n→R.flatten[i*n+c]?=R[i][c]?
 |[],i,c,h,_,_=>absurd h (Nat.not_lt_zero _)
 |r::R,0,c,_,hr,hc=>by
  rw[List.flatten_cons,Nat.zero_mul,Nat.zero_add,List.getElem?_append_left (by rw[hr r (by simp)];exact hc)];rfl
 |r::R,i+1,c,h,hr,hc=>by
  have a:=hr r (by simp);rw[List.flatten_cons,List.getElem?_append_right (by rw[a,Nat.add_mul];omega),a];have e:(i+1)*n+c-n=i*n+c:=by rw[Nat.add_mul];omega
  rw[e,po i c (by simpa using h) (fun x d=>hr x (by simp[d])) hc];rfl
theorem ij {n:Nat} (x:0<n) {w:World} {b o:Nat} {R:List (List Value)} (z: ∀r∈R,r.length=n) (h: ∀i (h:i<R.length),∀c u,R[i][c]?=some u→w.cell? ⟨b,o+i*n+c,none⟩=some u): ∀j u,R.flatten[j]?=some u→w.cell? ((⟨b,o,none⟩:Addr).add j)=some u:=by
 intro j u v
 have a:j<R.length*n:=by
  have:=(List.getElem?_eq_some_iff.1 v).1
  rw[fs z]at this;exact this
 have d:j/n<R.length:=(Nat.div_lt_iff_lt_mul x).2 a;have f:j/n*n+j % n=j:=Nat.div_add_mod' j n;have g:=po (j/n) (j % n) d z (Nat.mod_lt _ x);rw[f,v]at g;have s:=h _ d _ u g.symm;rw[Addr.add_lit];rw[Nat.add_assoc,f]at s;exact s
theorem fJ {n:Nat} {w:World} {base:Nat} {T:TypeId} {v:Value} {R:List (List Value)} (h:w.ownsRow base T n v R.length R.flatten) (H:R.length≤1000000000000000) (o: ∀r∈R,r.length=n∧ ∀u∈r,u.oneCell'=true):bp n w v R:=by
 have B:=h;obtain⟨_,C⟩:=h
 rcases C with⟨rfl,A⟩|⟨g,d,cur,rfl,I,G,F,J,A,x⟩
 · have:R=[]:=List.length_eq_zero_iff.1 A
   subst this;exact⟨none,0,rfl,ax,by simp,by simp,fun i a=>absurd a (by simp)⟩
 · refine⟨some ⟨g,0,none⟩,d,rfl,F,H,o,fun i a=>⟨g,0,rfl,fG G,fun c u z=>?_⟩⟩
   have f:c<n:=by
    have:=(List.getElem?_eq_some_iff.1 z).1
    rw[(o _ (List.getElem_mem a)).1]at this;exact this
   have j:i*n+c<R.length*n:=by
    have E:(i+1)*n≤R.length*n:=Nat.mul_le_mul_right n a;rw[Nat.add_mul]at E;omega
   rw[Nat.zero_add,B.cellAt (i*n+c) j,po i c a (fun r s=>(o r s).1) f];exact z
theorem iM {n:Nat} {R:List (List Value)} (d: ∀r∈R,r.length=n∧ ∀u∈r,u.oneCell'=true): ∀u∈R.flatten,u.oneCell'=true:=by
 intro u f;obtain⟨r,a,c⟩:=List.mem_flatten.1 f
 exact(d r a).2 u c
theorem zg {P:Program} (w:World) (t Y e:TypeId) (i:TypeInfo) (z:Value) (size bytes:Nat) (ht:P.underlying t=some (.slice e)) (M:P.info? e=some i) (hz:i.zero=some z)
    (F:i.size=size) (S:i.bytes=bytes) (X:z.cells.size=size) (V:0<size) (a:Option Addr) (R:List (List Value)) (hR:bp size w (.slice a R.length R.length) R)
    (ad:Addr) (c:Nat) (r:List Value) (G:r.length=size∧ ∀u∈r,u.oneCell'=true) (f: ∀j u,r[j]?=some u→w.cell? (ad.add j)=some u) (hn:R.length≤1000000000) (A:bytes≤1000):
    ∃Z w',(Builtin.append_ #[t,t] Y #[.slice a R.length R.length,.slice (some ad) 1 c]).run P w= .ok Z w'∧bp size w' Z (R++[r])∧bi w.heap.size w' Z∧Below w.heap.size w w':=by
 subst F;subst S;obtain⟨a',E0,hv,h1,h2,O,N⟩:=hR
 injection hv with e1 e2 e3
 subst e1
 have K: ∀x∈R++[r],x.length=i.size∧ ∀u∈x,u.oneCell'=true:=fun x g=>by
  rcases List.mem_append.1 g with g|g
  · exact O x g
  · rw[List.mem_singleton]at g;rw[g];exact G
 have H:R.flatten.length=R.length*i.size:=fs (fun x g=>(O x g).1);have J:(R.length+1)*i.bytes≤(1000000000+1)*1000:=Nat.mul_le_mul (by omega) A
 have fin: ∀d,R.length+1≤d→(w.drew.alloc (.cells (R.flatten.toArray++r.toArray++Builtin.zeroCells z.cells (d-(R.length+1))) e)).ownsRow w.heap.size e i.size (.slice (some ⟨w.heap.size,0,none⟩) (R.length+1) d) (R.length+1) (R++[r]).flatten→bp i.size (w.drew.alloc (.cells (R.flatten.toArray++r.toArray++Builtin.zeroCells z.cells (d-(R.length+1))) e)) (.slice (some ⟨w.heap.size,0,none⟩) (R.length+1) d) (R++[r])∧bi w.heap.size (w.drew.alloc (.cells (R.flatten.toArray++r.toArray++Builtin.zeroCells z.cells (d-(R.length+1))) e)) (.slice (some ⟨w.heap.size,0,none⟩) (R.length+1) d)∧Below w.heap.size w (w.drew.alloc (.cells (R.flatten.toArray++r.toArray++Builtin.zeroCells z.cells (d-(R.length+1))) e)):=fun d v ho=>
  ⟨fJ (by simpa using ho) (by simp;omega) K,jk ho,( aw.drew).alloc ax _⟩
 have own: ∀d,R.length+1≤d→d≤maxLen→(w.drew.alloc (.cells (R.flatten.toArray++r.toArray++Builtin.zeroCells z.cells (d-(R.length+1))) e)).ownsRow w.heap.size e i.size (.slice (some ⟨w.heap.size,0,none⟩) (R.length+1) d) (R.length+1) (R++[r]).flatten:=fun d v T=>by
  have hl:(R++[r]).flatten.length=(R.length+1)*i.size:=by
   rw[fs (fun x g=>(K x g).1)];simp
  refine⟨hl,.inr ⟨w.heap.size,_,_,rfl,ax,heap_alloc_new w.drew _,v,T,?_,?_⟩⟩
  · simp only[Array.size_append,List.size_toArray,size_zeroCells,X,H,G.1]
    have:R.length*i.size+i.size+(d-(R.length+1))*i.size=(R.length+1+(d-(R.length+1)))*i.size:=by
     rw[Nat.add_mul,Nat.add_mul];omega
    rw[this];congr 1
    omega
  · simp only[Array.toList_append,List.append_assoc]
    rw[←hl];have e:R.flatten.toArray.toList++(r.toArray.toList++(Builtin.zeroCells z.cells (d-(R.length+1))).toList)=(R++[r]).flatten++(Builtin.zeroCells z.cells (d-(R.length+1))).toList:=by simp
    rw[e];exact List.take_left
 have I:R.length+1≤maxLen:=by unfold maxLen;omega
 cases a with
 |none=>
  have Q:R=[]:=by
   cases R with
   |nil=>rfl
   |cons s r=>obtain⟨b,o,A,_⟩:=N 0 (by simp);cases A
  subst Q;have E:=run_append_nil (P:=P) w t Y e i z ht M hz ad 1 c r (by rw[G.1,Nat.one_mul]) f (by decide) (by decide) (by simp at J⊢;omega);have U:=own (grownCap w 1 0 e) (grownCap_ge w 1 0 e) (grownCap_le_maxLen w 1 0 e I);have hf:=fin (grownCap w 1 0 e) (grownCap_ge w 1 0 e) U;refine⟨_,_,E,?_⟩
  simpa using hf
 |some b0=>
  have C: ∀j u,R.flatten[j]?=some u→w.cell? (b0.add j)=some u:=by
   cases R with
   |nil=>intro j u hj;simp at hj
   |cons s r=>
    obtain⟨b,o,A,_⟩:=N 0 (by simp)
    injection A with A
    subst A
    exact ij V (fun r G=>(O r G).1) fun i M=>by
     obtain⟨b',o',B,_,he⟩:=N i M
     injection B with B
     injection B with h1 h2
     subst h1;subst h2;exact he
  have E:=run_append_grow (P:=P) w t Y e i z ht M hz b0 R.length R.length R.flatten H C ad 1 c r (by rw[G.1,Nat.one_mul]) f (by omega) (by omega) (growslice_fits (by omega) (by omega));have U:=own (grownCap w (R.length+1) R.length e) (grownCap_ge w _ _ e) (grownCap_le_maxLen w _ _ e I);exact⟨_,_,E,fin _ (grownCap_ge w _ _ e) U⟩
theorem zh {P:Program} {v:Array Oper} {o:Oper} {a:Act} {w:World} {K:Act→World→Prop} {Q:Exit→Act→World→Prop} {E:Prop}
    (S:o.guard=none) (s x:Operand) (t:TypeId) (G:o.op=Op.call {callee:=Callee.builtin Builtin.append,args:= #[s,x],argTypes:= #[t,t]})
    (e:TypeId) (i:TypeInfo) (z:Value) (size bytes:Nat) (Y:P.underlying t=some (.slice e)) (T:P.info? e=some i) (hz:i.zero=some z)
    (f:i.size=size) (F:i.bytes=bytes) (I:z.cells.size=size) (H:0<size) (B:Option Addr) (R:List (List Value)) (n:Nat) (C:R.length=n) (X:a.eval s= .slice B n n) (N:bp size w (.slice B n n) R)
    (ad:Addr) (c:Nat) (hx:a.eval x= .slice (some ad) 1 c) (r:List Value) (V:r.length=size∧ ∀u∈r,u.oneCell'=true) (d: ∀j u,r[j]?=some u→w.cell? (ad.add j)=some u) (U:R.length≤1000000000) (O:bytes≤1000)
    (M: ∀A w',bp size w' A (R++[r])∧bi w.heap.size w' A∧Below w.heap.size w w'→K (a.put o.dst A) w'):
    if Region.wanted o (yielded v a.tmps)=true then Oper.wp P o a w K Q else E:=by
 have Z:Region.wanted o (yielded v a.tmps)=true:=by simp[Region.wanted,S]
 rw[if_pos Z];subst C;obtain⟨A,w',g,J⟩:=zg (P:=P) w t o.type e i z size bytes Y T hz f F I H B R N ad c r V d U O
 unfold Oper.wp;simp[execOp,G,resolve,invoke,builtin,X,hx,g,Result.andThen]
 exact M _ _ J
theorem bp.clip {n:Nat} {w:World} {a:Option Addr} {k cap:Nat} {R:List (List Value)} (h:bp n w (.slice a k cap) R):bp n w (.slice a k k) R:=by
 obtain⟨j,c,i,s,f,g⟩:=h
 injection i with d e2 o
 subst d;exact⟨a,k,by rw[e2],by omega,f,g⟩
def Jn.newE (J:Jo) (l:List aE):Int:=if l=[]then 1 else if 1000000<Jn.last J+1 then 3 else bw (Jn.tree J) l (Jn.last J+1)
def Jn.newC (J:Jo) (key:ByteArray) (l:List aE):Co:=⟨Jn.last J+1,key,l⟩
def jm (J:Jo):Jo:=if 30<J.cos.length then(match J.cos with|[]=>J|c::r=>⟨ct J.base c.ch J.first,J.first+1,r⟩)else J
def cX (J:Jo) (key:ByteArray) (l:List aE):Jo:=jm ⟨J.base,J.first,J.cos++[Jn.newC J key l]⟩
def cY (J:Jo) (key:ByteArray) (l:List aE):Int:=if¬aT J=0 then aT J else if¬cK key.data.toList=true then 1 else if dy J.cos key.data.toList=true then 0 else Jn.newE J l
def dM (J:Jo) (key:ByteArray) (l:List aE):Int:=if¬cY J key l=0 then 0 else if dy J.cos key.data.toList=true then Jn.numOf J.cos key.data.toList else Jn.last J+1
def jq:Jo:=⟨[],0,[]⟩
def dW (J:Jo) (key:ByteArray) (l:List aE):Jo:=if¬cY J key l=0 then jq else if dy J.cos key.data.toList=true then J else cX J key l
theorem zi {J:Jo} {key:ByteArray} {l:List aE} (h: ¬aT J=0):cY J key l=aT J∧dM J key l=0∧dW J key l=jq:=by
 have e:cY J key l=aT J:=by rw[cY,if_pos h]
 exact⟨e,by rw[dM,e,if_pos h],by rw[dW,e,if_pos h]⟩
theorem sS {J:Jo} {key:ByteArray} {l:List aE} (h:aT J=0) (a:cK key.data.toList=false):cY J key l=1∧dM J key l=0∧dW J key l=jq:=by
 have e:cY J key l=1:=by rw[cY,if_neg (fun x=>x h),if_pos (by simp[a])]
 exact⟨e,by rw[dM,e,if_pos (by decide)],by rw[dW,e,if_pos (by decide)]⟩
theorem sU {J:Jo} {key:ByteArray} {l:List aE} (h:aT J=0) (c:cK key.data.toList=true) (a:dy J.cos key.data.toList=true):cY J key l=0∧dM J key l=Jn.numOf J.cos key.data.toList∧dW J key l=J:=by
 have e:cY J key l=0:=by rw[cY,if_neg (fun x=>x h),if_neg (fun x=>x c),if_pos a]
 exact⟨e,by rw[dM,e,if_neg (fun x=>x rfl),if_pos a],by rw[dW,e,if_neg (fun x=>x rfl),if_pos a]⟩
theorem pp {J:Jo} {key:ByteArray} {l:List aE} (h:aT J=0) (a:cK key.data.toList=true) (c:dy J.cos key.data.toList=false):cY J key l=Jn.newE J l:=by
 rw[cY,if_neg (fun x=>x h),if_neg (fun x=>x a),if_neg (by simp[c])]
theorem sV {J:Jo} {key:ByteArray} {l:List aE} (h: ¬cY J key l=0):dM J key l=0∧dW J key l=jq:=⟨by rw[dM,if_pos h],by rw[dW,if_pos h]⟩
theorem pq {J:Jo} {key:ByteArray} {l:List aE} (h:aT J=0) (c:cK key.data.toList=true) (a:dy J.cos key.data.toList=false) (d:Jn.newE J l=0):cY J key l=0∧dM J key l=Jn.last J+1∧dW J key l=cX J key l:=by
 have e:cY J key l=0:=by rw[pp h c a];exact d
 exact⟨e,by rw[dM,e,if_neg (fun x=>x rfl),if_neg (by simp[a])],by rw[dW,e,if_neg (fun x=>x rfl),if_neg (by simp[a])]⟩
theorem sW {T:List En} {cs:List aE} {n:Int} (h:bw T cs n=0):cs.length≤20:=by
 have a:bg T=0:=by
  by_cases a:bg T=0
  · exact a
  · rw[(oR a cs n).1]at h;exact absurd h a
 rcases Nat.lt_or_ge 20 cs.length with c|c
 · rw[(mW a c n).1]at h;cases h
 · exact c
theorem sX: ∀{n:Int} {T:List En} {l:List Co},(cA n T l).1=0→ ∀c∈l,c.ch.length≤20
 |n,T,[],_,c,hc=>by cases hc
 |n,T,d::r,h,c,hc=>by
  rw[cA]at h;by_cases f:cz d n=0
  · rw[if_neg (fun x=>x f)]at h
    by_cases a:bw T d.ch d.nu=0
    · rw[if_neg (fun x=>x a)]at h
      rcases List.mem_cons.1 hc with rfl|hc
      · exact sW a
      · exact sX h c hc
    · rw[if_pos a]at h;exact absurd h a
  · rw[if_pos f]at h;exact absurd h f
theorem nk {J:Jo} (h:aT J=0): ∀c∈J.cos,c.ch.length≤20:=by
 obtain⟨_,_,_,a,_⟩:=fp h
 exact sX (n:=J.first) (T:=J.base) (by rw[a])
theorem pv {n:Int} {T:List En} {c:Co} {r:List Co} (h:(cA n T (c::r)).1=0):cz c n=0∧bw T c.ch c.nu=0:=by
 rw[cA]at h;by_cases a:cz c n=0
 · rw[if_neg (fun x=>x a)]at h
   by_cases d:bw T c.ch c.nu=0
   · exact⟨a,d⟩
   · rw[if_pos d]at h;exact absurd h d
 · rw[if_pos a]at h;exact absurd h a
structure Se where
 nu:Int
 wh:ByteArray
 tx:ByteArray
 si:Int
 ti:Int
def et (w:World) (b o:Nat) (s:Se):Prop:=w.cell? ⟨b,o,none⟩=some (.int .i64 s.nu)∧w.cell? ⟨b,o+1,none⟩=some (.string s.wh)∧w.cell? ⟨b,o+2,none⟩=some (.string s.tx)∧w.cell? ⟨b,o+3,none⟩=some (.int .i64 s.si)∧w.cell? ⟨b,o+4,none⟩=some (.int .i64 s.ti)
def aK (w:World) (v:Value) (G:List Se):Prop:= ∃a cap,v= .slice a G.length cap∧G.length≤cap∧G.length≤1000000000000000∧ ∀i (h:i<G.length),∃b o,a=some ⟨b,o,none⟩∧b<w.heap.size∧et w b (o+i*5) G[i]
theorem et.below {w w':World} {b o:Nat} {g:Se} (h:et w b o g) (a:b<w.heap.size) (c:Below w.heap.size w w'):et w' b o g:=
 ⟨(c.cell (p:=⟨b,o,none⟩) a).trans h.1,(c.cell (p:=⟨b,o+1,none⟩) a).trans h.2.1,(c.cell (p:=⟨b,o+2,none⟩) a).trans h.2.2.1,(c.cell (p:=⟨b,o+3,none⟩) a).trans h.2.2.2.1,(c.cell (p:=⟨b,o+4,none⟩) a).trans h.2.2.2.2⟩
theorem aK.below {w w':World} {v:Value} {G:List Se} (h:aK w v G) (f:Below w.heap.size w w'):aK w' v G:=by
 obtain⟨a,c,A,g,j,s⟩:=h
 refine⟨a,c,A,g,j,fun i z=>?_⟩
 obtain⟨b,o,u,d,x⟩:=s i z
 exact⟨b,o,u,Nat.lt_of_lt_of_le d f.size,x.below d f⟩
theorem gj (w:World):aK w (.slice none 0 0) []:=⟨none,0,rfl,ax,by decide,fun i h=>absurd h (by simp)⟩
def bq (G:List Se):Prop:= ∀g∈G,g.wh.size≤150000000000000∧g.tx.size≤150000000000000
theorem ft {w f:World} {a b c d:Value} {T:TypeId} (h:Below (w.alloc (.cells #[a,b,c,d] T)).heap.size (w.alloc (.cells #[a,b,c,d] T)) f):
    f.cell? ⟨w.heap.size,0,none⟩=some a∧f.cell? ⟨w.heap.size,1,none⟩=some b∧f.cell? ⟨w.heap.size,2,none⟩=some c∧f.cell? ⟨w.heap.size,3,none⟩=some d∧Below w.heap.size w f∧w.heap.size<f.heap.size:=by
 have g:w.heap.size<(w.alloc (.cells #[a,b,c,d] T)).heap.size:=by simp
 refine⟨?_,?_,?_,?_, ak.trans (h.mono (Nat.le_of_lt g)),Nat.lt_of_lt_of_le g h.size⟩
 · exact(h.cell (p:=⟨w.heap.size,0,none⟩) g).trans (by simp)
 · exact(h.cell (p:=⟨w.heap.size,1,none⟩) g).trans (by simp)
 · exact(h.cell (p:=⟨w.heap.size,2,none⟩) g).trans (by simp)
 · exact(h.cell (p:=⟨w.heap.size,3,none⟩) g).trans (by simp)
theorem l5 {w f:World} {a b c d e:Value} {T:TypeId} (h:Below (w.alloc (.cells #[a,b,c,d,e] T)).heap.size (w.alloc (.cells #[a,b,c,d,e] T)) f):
    f.cell? ⟨w.heap.size,0,none⟩=some a∧f.cell? ⟨w.heap.size,1,none⟩=some b∧f.cell? ⟨w.heap.size,2,none⟩=some c∧f.cell? ⟨w.heap.size,3,none⟩=some d∧f.cell? ⟨w.heap.size,4,none⟩=some e∧Below w.heap.size w f∧w.heap.size<f.heap.size:=by
 have g:w.heap.size<(w.alloc (.cells #[a,b,c,d,e] T)).heap.size:=by simp
 refine⟨?_,?_,?_,?_,?_, ak.trans (h.mono (Nat.le_of_lt g)),Nat.lt_of_lt_of_le g h.size⟩
 · exact(h.cell (p:=⟨w.heap.size,0,none⟩) g).trans (by simp)
 · exact(h.cell (p:=⟨w.heap.size,1,none⟩) g).trans (by simp)
 · exact(h.cell (p:=⟨w.heap.size,2,none⟩) g).trans (by simp)
 · exact(h.cell (p:=⟨w.heap.size,3,none⟩) g).trans (by simp)
 · exact(h.cell (p:=⟨w.heap.size,4,none⟩) g).trans (by simp)
def a9 (l n m:Int):Bool:=decide (l≤n) && decide (n≤m)
theorem eO {l n m:Int} (h:a9 l n m=true):l≤n∧n≤m:=by simpa[a9]using h
def d8 (n:Nat) (x l r:Int):Int:=if(a9 1 l 1000000 && a9 0 r 100000 && a9 1 x 1099511627776)=true then(if 20<n then 2 else 0)else 3
theorem pw (n:Nat) (x l r:Int):(a9 1 l 1000000=false∧d8 n x l r=3)∨(a9 1 l 1000000=true∧a9 0 r 100000=false∧d8 n x l r=3)∨(a9 1 l 1000000=true∧a9 0 r 100000=true∧a9 1 x 1099511627776=false∧d8 n x l r=3)∨
    (a9 1 l 1000000=true∧a9 0 r 100000=true∧a9 1 x 1099511627776=true∧20<n∧d8 n x l r=2)∨(a9 1 l 1000000=true∧a9 0 r 100000=true∧a9 1 x 1099511627776=true∧ ¬20<n∧d8 n x l r=0):=by
 cases a:a9 1 l 1000000<;>cases c:a9 0 r 100000<;>cases d:a9 1 x 1099511627776<;>by_cases f:20<n<;>simp[d8,a,c,d,f]
def cL (x:Int) (s:Se):Int:=if(a9 1 s.nu (x-1) && a9 0 s.si 300 && a9 0 s.ti 2199023255552)=true then(if aA s.wh.data.toList=true then(if s.si<(s.tx.size:Int)then 2 else 0)else 1)else 3
theorem px (x:Int) (s:Se):(a9 1 s.nu (x-1)=false∧cL x s=3)∨(a9 1 s.nu (x-1)=true∧a9 0 s.si 300=false∧cL x s=3)∨(a9 1 s.nu (x-1)=true∧a9 0 s.si 300=true∧a9 0 s.ti 2199023255552=false∧cL x s=3)∨
    (a9 1 s.nu (x-1)=true∧a9 0 s.si 300=true∧a9 0 s.ti 2199023255552=true∧aA s.wh.data.toList=false∧cL x s=1)∨(a9 1 s.nu (x-1)=true∧a9 0 s.si 300=true∧a9 0 s.ti 2199023255552=true∧aA s.wh.data.toList=true∧s.si<(s.tx.size:Int)∧cL x s=2)∨
    (a9 1 s.nu (x-1)=true∧a9 0 s.si 300=true∧a9 0 s.ti 2199023255552=true∧aA s.wh.data.toList=true∧ ¬s.si<(s.tx.size:Int)∧cL x s=0):=by
 cases a:a9 1 s.nu (x-1)<;>cases c:a9 0 s.si 300<;>cases d:a9 0 s.ti 2199023255552<;>cases g:aA s.wh.data.toList<;>by_cases f:s.si<(s.tx.size:Int)<;>simp[cL,a,c,d,f,g]
theorem l6 {s:ByteArray} {b:Bool} (h:aA s.data.toList=b):aU [s]=if b=true then 0 else 1:=by simp[aU,h]
theorem el (l n m:Int) (w:World):Calls prog 95 #[l,n,m] w fun e w'=>e= .returned (.bool (a9 l n m))∧w'=w:=by
 by_cases h:l≤n
 · have a:=hid (show decide (n≤m)=a9 l n m from by rw[a9,decide_eq_true h];rfl)
   go_enter func95,ntmps95
   go_wp2;go_ret;exact⟨br a.out,rfl⟩
 · have a:=hid (show false=a9 l n m from by rw[a9,decide_eq_false h];rfl)
   go_enter func95,ntmps95
   go_wp2;go_ret;exact⟨br a.out,rfl⟩
theorem sY (G:List Se) (v:Value) (x l r:Int) (w:World) (H:aK w v G):
    Calls prog 63 #[.agg #[v,x,l,r]] w fun e w'=>e= .returned (.int .i64 (d8 G.length x l r))∧Below w.heap.size w w':=by
 obtain⟨a,z,rfl,C,B,_⟩:=H
 have i:Below w.heap.size w (w.alloc (.cells #[.slice a G.length z,x,l,r] 26)):=ak;rcases pw G.length x l r with⟨f,hE⟩|⟨f,g,hE⟩|⟨f,g,s,hE⟩|⟨f,g,s,F,hE⟩|⟨f,g,s,F,hE⟩
 · have o:=ac hE
   have j:=ac f;clear hE f;go_enter func63,ntmps63
   go_wp2_with fail;refine(el 1 l 1000000 _).mono ?_
   rintro e d ⟨rfl,c⟩;rw[c,j.out];clear c d;go_wp2;go_ret;exact⟨by rw[o.out];rfl,i⟩
 · have o:=ac hE
   have j:=ac f;have u:=ac g;clear hE f g;go_enter func63,ntmps63
   go_wp2_with fail;refine(el 1 l 1000000 _).mono ?_
   rintro e d ⟨rfl,c⟩;rw[c,j.out];clear c d;go_wp2_with fail;refine(el 0 r 100000 _).mono ?_
   rintro e d ⟨rfl,c⟩;rw[c,u.out];clear c d;go_wp2;go_ret;exact⟨by rw[o.out];rfl,i⟩
 all_goals
  have o:=ac hE;have j:=ac f;have u:=ac g;have E:=ac s;try (have A:20<(G.length:Int):=by omega)
  try (have A: ¬20<(G.length:Int):=by omega)
  clear hE f g s;go_enter func63,ntmps63
  go_wp2_with fail;refine(el 1 l 1000000 _).mono ?_
  rintro e d ⟨rfl,c⟩;rw[c,j.out];clear c d;go_wp2_with fail;refine(el 0 r 100000 _).mono ?_
  rintro e d ⟨rfl,c⟩;rw[c,u.out];clear c d;go_wp2_with fail;refine(el 1 x 1099511627776 _).mono ?_
  rintro e d ⟨rfl,c⟩;rw[c,E.out];clear c d;go_wp2;go_ret;exact⟨by rw[o.out];rfl,i⟩
theorem sZ (s:Se) (x:Int) (w:World) (N:1≤x) (O:x≤1099511627776) (K:s.wh.size≤150000000000000):
    Calls prog 64 #[.agg #[s.nu,s.wh,s.tx,s.si,s.ti],x] w fun e w'=>e= .returned (.int .i64 (cL x s))∧Below w.heap.size w w':=by
 have u:Below w.heap.size w (w.alloc (.cells #[s.nu,s.wh,s.tx,s.si,s.ti] 79)):=ak;rcases px x s with⟨d,hE⟩|⟨d,f,hE⟩|⟨d,f,o,hE⟩|⟨d,f,o,E,hE⟩|⟨d,f,o,E,J,hE⟩|⟨d,f,o,E,J,hE⟩
 · have j:=ac hE
   have g:=ac d;clear hE d;go_enter func64,ntmps64
   go_wp2_with fail;refine(el 1 s.nu (x-1) _).mono ?_
   rintro e c ⟨rfl,a⟩;rw[a,g.out];clear a c;go_wp2;go_ret;exact⟨by rw[j.out];rfl,u⟩
 · have j:=ac hE
   have g:=ac d;have v:=ac f;clear hE d f;go_enter func64,ntmps64
   go_wp2_with fail;refine(el 1 s.nu (x-1) _).mono ?_
   rintro e c ⟨rfl,a⟩;rw[a,g.out];clear a c;go_wp2_with fail;refine(el 0 s.si 300 _).mono ?_
   rintro e c ⟨rfl,a⟩;rw[a,v.out];clear a c;go_wp2;go_ret;exact⟨by rw[j.out];rfl,u⟩
 · have j:=ac hE
   have g:=ac d;have v:=ac f;have G:=ac o;clear hE d f o;go_enter func64,ntmps64
   go_wp2_with fail;refine(el 1 s.nu (x-1) _).mono ?_
   rintro e c ⟨rfl,a⟩;rw[a,g.out];clear a c;go_wp2_with fail;refine(el 0 s.si 300 _).mono ?_
   rintro e c ⟨rfl,a⟩;rw[a,v.out];clear a c;go_wp2_with fail;refine(el 0 s.ti 2199023255552 _).mono ?_
   rintro e c ⟨rfl,a⟩;rw[a,G.out];clear a c;go_wp2;go_ret;exact⟨by rw[j.out];rfl,u⟩
 all_goals
  have j:=ac hE;have g:=ac d;have v:=ac f;have G:=ac o;have I:=ac (l6 E);have C: ∀i (F:i<[s.wh].length),([s.wh][i]).size≤1000000000000000:=fun i F=>by match i,F with|0,_=>exact Nat.le_trans K (by decide)
  have H:=ac C;clear hE d f o E C;go_enter func64,ntmps64
  go_wp2_with fail;refine(el 1 s.nu (x-1) _).mono ?_
  rintro e c ⟨rfl,a⟩;rw[a,g.out];clear a c;go_wp2_with fail;refine(el 0 s.si 300 _).mono ?_
  rintro e c ⟨rfl,a⟩;rw[a,v.out];clear a c;go_wp2_with fail;refine(el 0 s.ti 2199023255552 _).mono ?_
  rintro e c ⟨rfl,a⟩;rw[a,G.out];clear a c;go_wp2_with fail;refine(k6 [s.wh] (w.heap.size+1) 0 1 _ (by simp) H.out (by simp) (fun i F=>by match i,F with|0,_=>simp)).mono ?_
  rintro e c ⟨rfl,z⟩;rw[I.out];have A:Below (w.alloc (.cells #[s.nu,s.wh,s.tx,s.si,s.ti] 79)).heap.size (w.alloc (.cells #[s.nu,s.wh,s.tx,s.si,s.ti] 79)) c:= ak.trans (z.mono (by simp));obtain⟨P,Q,R,S,T,B,M⟩:=l5 A
  clear z A;go_wp2;go_ret;exact⟨by rw[j.out];rfl,B⟩
structure Gr where
 fo:ByteArray
 wh:ByteArray
 ri:Int
def em (w:World) (b o:Nat) (g:Gr):Prop:=w.cell? ⟨b,o,none⟩=some (.string g.fo)∧w.cell? ⟨b,o+1,none⟩=some (.string g.wh)∧w.cell? ⟨b,o+2,none⟩=some (.int .i64 g.ri)
def bj (w:World) (v:Value) (G:List Gr):Prop:= ∃a cap,v= .slice a G.length cap∧G.length≤cap∧G.length≤1000000000000000∧ ∀i (h:i<G.length),∃b o,a=some ⟨b,o,none⟩∧b<w.heap.size∧em w b (o+i*3) G[i]
theorem em.below {w w':World} {b o:Nat} {g:Gr} (h:em w b o g) (a:b<w.heap.size) (c:Below w.heap.size w w'):em w' b o g:=
 ⟨(c.cell (p:=⟨b,o,none⟩) a).trans h.1,(c.cell (p:=⟨b,o+1,none⟩) a).trans h.2.1,(c.cell (p:=⟨b,o+2,none⟩) a).trans h.2.2⟩
theorem bj.below {w w':World} {v:Value} {G:List Gr} (h:bj w v G) (f:Below w.heap.size w w'):bj w' v G:=by
 obtain⟨a,c,A,g,j,s⟩:=h
 refine⟨a,c,A,g,j,fun i z=>?_⟩
 obtain⟨b,o,u,d,x⟩:=s i z
 exact⟨b,o,u,Nat.lt_of_lt_of_le d f.size,x.below d f⟩
theorem fu (w:World):bj w (.slice none 0 0) []:=⟨none,0,rfl,ax,by decide,fun i h=>absurd h (by simp)⟩
def eu (G:List Gr):Prop:= ∀g∈G,g.fo.size≤150000000000000∧g.wh.size≤150000000000000
theorem ey {w d:World} {a b c:Value} {T:TypeId} (h:Below (w.alloc (.cells #[a,b,c] T)).heap.size (w.alloc (.cells #[a,b,c] T)) d):
    d.cell? ⟨w.heap.size,0,none⟩=some a∧d.cell? ⟨w.heap.size,1,none⟩=some b∧d.cell? ⟨w.heap.size,2,none⟩=some c∧Below w.heap.size w d∧w.heap.size<d.heap.size:=by
 have f:w.heap.size<(w.alloc (.cells #[a,b,c] T)).heap.size:=by simp
 refine⟨?_,?_,?_, ak.trans (h.mono (Nat.le_of_lt f)),Nat.lt_of_lt_of_le f h.size⟩
 · exact(h.cell (p:=⟨w.heap.size,0,none⟩) f).trans (by simp)
 · exact(h.cell (p:=⟨w.heap.size,1,none⟩) f).trans (by simp)
 · exact(h.cell (p:=⟨w.heap.size,2,none⟩) f).trans (by simp)
def jr (g:Gr):Bool:=aA g.fo.data.toList && aA g.wh.data.toList
def b9 (g:Gr):Int:=if jr g=true then(if g.ri<1∨3<g.ri then 3 else 0)else 1
theorem zj (g:Gr) (w:World) (A:g.fo.size≤150000000000000) (B:g.wh.size≤150000000000000):
    Calls prog 59 #[.agg #[g.fo,g.wh,g.ri]] w fun e w'=>e= .returned (.int .i64 (b9 g))∧Below w.heap.size w w':=by
 have f:aU [g.fo,g.wh]=if jr g=true then 0 else 1:=by simp[aU,jr]
 have s:(aU [g.fo,g.wh]=1∧b9 g=1)∨(aU [g.fo,g.wh]=0∧g.ri<1∧b9 g=3)∨(aU [g.fo,g.wh]=0∧1≤g.ri∧3<g.ri∧b9 g=3)∨(aU [g.fo,g.wh]=0∧1≤g.ri∧g.ri≤3∧b9 g=0):=by
  rw[f,b9];cases jr g with
  |false=>left;simp
  |true=>
   right
   by_cases j:g.ri<1
   · left;simp[j]
   · right
     by_cases z:3<g.ri
     · left;simp[z];omega
     · right;simp;omega
 clear f;rcases s with⟨d,hE⟩|⟨d,j,hE⟩|⟨d,j,x,hE⟩|⟨d,j,x,hE⟩
 all_goals
  have v:=ac d;have u:=ac hE;clear d hE;go_enter func59,ntmps59
  go_wp2_with fail;refine(k6 [g.fo,g.wh] (w.heap.size+1) 0 2 _ (by simp) (fun i h=>by match i,h with|0,_=>exact Nat.le_trans A (by decide)|1,_=>exact Nat.le_trans B (by decide)) (by simp) (fun i h=>by match i,h with|0,_=>simp|1,_=>simp)).mono ?_
  rintro e E ⟨rfl,a⟩;rw[v.out];have c:Below (w.alloc (.cells #[g.fo,g.wh,g.ri] 64)).heap.size (w.alloc (.cells #[g.fo,g.wh,g.ri] 64)) E:= ak.trans (a.mono (by simp));obtain⟨F,G,H,o,C⟩:=ey c
  clear a c;go_wp2;go_ret;exact⟨by rw[u.out];rfl,o⟩
def bx (x y:ByteArray):Int:=if Op.bytesLess x.toList y.toList=true then-1 else if(x.toList==y.toList)=true then 0 else 1
def bI (a b:Gr):Int:=if bx a.fo b.fo=0 then bx a.wh b.wh else bx a.fo b.fo
theorem tb (x y:ByteArray) (w:World):
    Calls prog 127 #[x,y] w fun e w'=>e= .returned (.int .i64 (bx x y))∧w'=w:=by
 cases c:Op.bytesLess x.toList y.toList with
 |true=>
  have a:=hid (show-1=bx x y from by rw[bx,if_pos c]);go_enter func127,ntmps127
  go_wp2;go_ret;exact⟨aB a.out,rfl⟩
 |false=>
  cases d:(x.toList==y.toList)with
  |true=>
   have a:=hid (show 0=bx x y from by rw[bx,if_neg (by rw[c];decide),if_pos d]);go_enter func127,ntmps127
   go_wp2;go_ret;exact⟨aB a.out,rfl⟩
  |false=>
   have a:=hid (show 1=bx x y from by rw[bx,if_neg (by rw[c];decide),if_neg (by rw[d];decide)]);go_enter func127,ntmps127
   go_wp2;go_ret;exact⟨aB a.out,rfl⟩
theorem zk (a b:Int) (g:Nat) (w:World) (x:g<w.heap.size) (u:w.cell? ⟨g,0,none⟩=some (.int .i64 a)) (v:w.cell? ⟨g,1,none⟩=some (.int .i64 b)):
    Calls prog 126 #[.slice (some ⟨g,0,none⟩) 2 2] w fun e w'=>e= .returned (.int .i64 (if a=0 then b else a))∧Below w.heap.size w w':=by
 have z:=ac u;have A:=ac v;clear u v;obtain⟨r,s⟩: ∃r,r=if a=0 then b else a:=⟨_,rfl⟩
 rw[←s];have o:=ac s;clear s;go_enter func126,ntmps126
 go_wp2;go_loopw [8] (fun i wr=>(i= .int .i64 0∨(i= .int .i64 1∧a=0)∨(i= .int .i64 2∧a=0∧b=0))∧Below w.heap.size w wr) (fun i _=>2-(intOf i).toNat)
 case atStart=>exact⟨Or.inl rfl,aw⟩
 case round=>
  obtain⟨B,c⟩:=hrel
  have E:=(c.cell (p:=⟨g,0,none⟩) x).trans z.out;have F:=(c.cell (p:=⟨g,1,none⟩) x).trans A.out;rcases B with rfl|⟨rfl,d⟩|⟨rfl,d,j⟩
  · by_cases d:a=0
    · subst d
      go_wp2;go_roundw
      case rel=>exact⟨by simp,c⟩
      case measure=>simp[intOf]
    · have f:=hid (show a=r from by rw[o.out,if_neg d])
      have C:(a==0)=false:=by simpa using d
      go_wp2;go_ret;exact⟨aB f.out,c⟩
  · subst d
    by_cases j:b=0
    · subst j
      go_wp2;go_roundw
      case rel=>exact⟨by simp,c⟩
      case measure=>simp[intOf]
    · have f:=hid (show b=r from by rw[o.out,if_pos rfl])
      have C:(b==0)=false:=by simpa using j
      go_wp2;go_ret;exact⟨aB f.out,c⟩
  · subst d
    subst j;have f:=hid (show(0:Int)=r from by rw[o.out,if_pos rfl]);go_wp2;go_ret;exact⟨aB f.out,c⟩
theorem td (a b:Gr) (w:World):
    Calls prog 90 #[.agg #[a.fo,a.wh,a.ri],.agg #[b.fo,b.wh,b.ri]] w fun e w'=>e= .returned (.int .i64 (bI a b))∧Below w.heap.size w w':=by
 have f:Hid ((if bx a.fo b.fo=0 then bx a.wh b.wh else bx a.fo b.fo)=bI a b):=rfl;go_enter func90,ntmps90
 go_wp2_with fail
 go_region_held3 (fun W=>W.cell? ⟨w.heap.size,0,none⟩=some (.string a.fo)∧W.cell? ⟨w.heap.size,1,none⟩=some (.string a.wh)∧W.cell? ⟨w.heap.size+1,0,none⟩=some (.string b.fo)∧W.cell? ⟨w.heap.size+1,1,none⟩=some (.string b.wh)) (go_keep) (first
  |(go_at_call 127;refine(tb _ _ _).mono ?_;rintro e s ⟨rfl,rfl⟩)
  |(go_at_call 126;go_must (refine(zk (bx a.fo b.fo) (bx a.wh b.wh) _ _ (by first|(simp;done)|(simp;omega)) (by simp[go_sem]) (by simp[go_sem])).mono ?_);rintro e d ⟨rfl,c⟩;rw[f.out];have g:d.cell? ⟨w.heap.size,0,none⟩=some (.string a.fo):=(c.cell (p:=⟨w.heap.size,0,none⟩) (by simp;omega)).trans (by simp[go_sem]);have i:d.cell? ⟨w.heap.size,1,none⟩=some (.string a.wh):=(c.cell (p:=⟨w.heap.size,1,none⟩) (by simp;omega)).trans (by simp[go_sem]);have j:d.cell? ⟨w.heap.size+1,0,none⟩=some (.string b.fo):=(c.cell (p:=⟨w.heap.size+1,0,none⟩) (by simp)).trans (by simp[go_sem]);have o:d.cell? ⟨w.heap.size+1,1,none⟩=some (.string b.wh):=(c.cell (p:=⟨w.heap.size+1,1,none⟩) (by simp)).trans (by simp[go_sem])))
 all_goals
  go_wp2;go_ret;exact⟨rfl,Below.trans (by go_grown) (c.mono (by simp;omega))⟩
theorem te (L:List (List UInt8)) (g o cap:Nat) (w:World) (A:(cr L).length≤1000000000) (C:L.length≤1000000000) (a: ∀i (h:i<L.length),w.cell? ⟨g,o+i,none⟩=some (.string ⟨(L[i]).toArray⟩)):
    Calls prog 116 #[.slice (some ⟨g,o,none⟩) L.length cap] w fun e w'=>e= .returned (.string ⟨(cr L).toArray⟩)∧w'=w:=by
 have v:Hid (∀i (h:i<L.length),w.cell? ⟨g,o+i,none⟩=some (.string ⟨(L[i]).toArray⟩)):=a;clear a;go_enter func116,ntmps116
 go_wp2_with fail;go_loop [3,4] (fun s i=> ∃k:Nat,k≤L.length∧i= .int .i64 k∧s= .string ⟨(cr (L.take k)).toArray⟩) (fun _ i=>L.length-(intOf i).toNat)
 case atStart=>exact⟨0,Nat.zero_le _,rfl,rfl⟩
 case round=>
  obtain⟨k,B,rfl,rfl⟩:=hrel
  by_cases c:k<L.length
  · have d:=v.out k c
    have b1:=oC L k;have b2:=oC L (k+1);have b3:=xn L k c;by_cases j:0<k
    · have f:Hid ((⟨(cr (L.take k)).toArray⟩:ByteArray)++⟨#[47]⟩++⟨(L[k]).toArray⟩=⟨(cr (L.take (k+1))).toArray⟩):=xl L k c j
      have x:0<(k:Int):=by omega
      go_wp2;go_round
      case rel=>exact⟨k+1,by omega,by go_num,by rw[←f.out]⟩
      case measure=>simp[intOf];omega
    · obtain rfl:k=0:=by omega
      have f:Hid ((⟨#[]⟩:ByteArray)++⟨(L[0]).toArray⟩=⟨(cr (L.take 1)).toArray⟩):=xm L c;have u:w.cell? ⟨g,o,none⟩=some (.string ⟨(L[0]).toArray⟩):=d;have z:(cr []).length=0:=rfl;clear d;go_wp2;go_round
      case rel=>exact⟨0+1,by omega,by go_num,by rw[←f.out];rfl⟩
      case measure=>simp[intOf];omega
  · go_wp2
    go_ret;exact⟨by rw[List.take_of_length_le (by omega)];rfl,rfl⟩
theorem fv (s:ByteArray) (w:World) (E:s.size≤1000000000):
    Calls prog 111 #[s] w fun e w'=>e= .returned (.string ⟨(aI s.data.toList).toArray⟩)∧Below w.heap.size w w':=by
 have H:(az s.data.toList).length≤s.size+1:=by have:=i6 s.data.toList;rwa [←Lib.size_eq]at this
 have C:=ru s.data.toList;rw[←Lib.size_eq]at C;have G:1≤(az s.data.toList).length:=Nat.pos_of_ne_zero (fun e=>jB _ (List.length_eq_zero_iff.1 e));have j:Hid (cr (az s.data.toList).dropLast=aI s.data.toList):=rfl;have u:=hid (show∀i (h:i<(az s.data.toList).dropLast.length) (d:i<(az s.data.toList).length),(az s.data.toList).dropLast[i]=(az s.data.toList)[i]from fun i h d=>List.getElem_dropLast h);have c:Hid ((az s.data.toList).dropLast.length=(az s.data.toList).length-1):=List.length_dropLast;go_enter func111,ntmps111
 go_wp2_with fail;refine(fI s _ E).mono ?_
 rintro e F ⟨g,f,rfl,x,z,A,B,a,v⟩;have o:Hid (∀i (h:i<(az s.data.toList).length),F.cell? ⟨g,i,none⟩=some (.string ⟨((az s.data.toList)[i]).toArray⟩)):=a;clear a;go_wp2_with fail;rw[←c.out];refine(te (az s.data.toList).dropLast g 0 f _ (by rw[j.out];omega) (by rw[c.out];omega) (fun i h=>?_)).mono ?_
 · have d:i<(az s.data.toList).length:=by rw[c.out]at h;omega
   rw[Nat.zero_add,u.out i h d];exact o.out i d
 rintro e I ⟨rfl,rfl⟩;rw[j.out,c.out];go_wp2;go_ret;exact⟨rfl,v⟩
theorem fw (L:List En) (v:Value) (q:ByteArray) (w:World) (u:aF w v L):
    Calls prog 110 #[v,q] w fun e w'=>e= .returned (.int .i64 (aO L q.data.toList))∧Below w.heap.size w w':=by
 have x:Hid (aF w v L):=u;cases E:q.toList.isEmpty with
 |true=>
  have f:=hid (show 0=aO L q.data.toList from by rw[aO,if_pos ((ia q).1 E)]);clear u;go_enter func110,ntmps110
  go_wp2;go_ret;exact⟨aB f.out,aw⟩
 |false=>
  have d:=jH E;rcases lW L q.data.toList with⟨j,i⟩|⟨k,N,j,i⟩
  · have s:Hid (cW L q.data.toList= -1):=j
    have f:=hid (show 5=aO L q.data.toList from by rw[aO,if_neg d,i]);clear i d j u;go_enter func110,ntmps110
    go_wp2_with fail;refine(eX L v q _ x.out).mono ?_
    rintro e H ⟨rfl,c⟩;rw[s.out];go_wp2;go_ret;exact⟨aB f.out,c⟩
  · have s:Hid (cW L q.data.toList=(k:Int)):=j
    have hE:aO L q.data.toList=if(L[k]).folder=true then 0 else 4:=by rw[aO,if_neg d,i]
    obtain⟨a,M,rfl,F,A,B⟩:=u
    obtain⟨b,o,rfl,C,G⟩:=B k N
    have O:(k:Int)<L.length:=by omega
    clear i d j B;cases g:(L[k]).folder with
    |true=>
     have f:=hid (show 0=aO L q.data.toList from by rw[hE,g];rfl);clear hE;go_enter func110,ntmps110
     go_wp2_with fail;refine(eX L _ q _ x.out).mono ?_
     rintro e H ⟨rfl,c⟩;rw[s.out];obtain⟨I,z,J,K⟩:=G.below C c
     rw[g]at z;clear g;go_wp2;go_ret;exact⟨aB f.out,c⟩
    |false=>
     have f:=hid (show 4=aO L q.data.toList from by rw[hE,g];rfl);clear hE;go_enter func110,ntmps110
     go_wp2_with fail;refine(eX L _ q _ x.out).mono ?_
     rintro e H ⟨rfl,c⟩;rw[s.out];obtain⟨I,z,J,K⟩:=G.below C c
     rw[g]at z;clear g;go_wp2;go_ret;exact⟨aB f.out,c⟩
theorem tf: ∀{n:Int} {T:List En} {l:List Co},(cA n T l).1=0→ ∀(i:Nat) (h:i<l.length),l[i].nu=n+i
 |n,T,[],_,i,h=>absurd h (by simp)
 |n,T,c::r,h,i,hi=>by
  rw[cA]at h;by_cases d:cz c n=0
  · rw[if_neg (fun x=>x d)]at h
    by_cases f:bw T c.ch c.nu=0
    · rw[if_neg (fun x=>x f)]at h
      cases i with
      |zero=>
       rw[cz]at d;by_cases a:c.nu=n
       · simp[a]
       · rw[if_pos a]at d;cases d
      |succ j=>
       have:=tf h j (by simpa using hi)
       simp only[List.getElem_cons_succ];omega
    · rw[if_pos f]at h;exact absurd h f
  · rw[if_pos d]at h;exact absurd h d
theorem zl {J:Jo} (h:aT J=0) (i:Nat) (c:i<J.cos.length):J.cos[i].nu=J.first+i:=by
 obtain⟨_,_,_,a,_⟩:=fp h
 exact tf (n:=J.first) (T:=J.base) (by rw[a]) i c
def fK:List Se→Bool
 |[]=>true
 |[_]=>true
 |a::b::r=>decide (a.nu<b.nu) && fK (b::r)
theorem py: ∀{G:List Se} {k:Nat} (h:k+1<G.length),¬(G[k]).nu<(G[k+1]).nu→fK G=false
 |[],k,h,_=>absurd h (by simp)
 |[_],k,h,_=>absurd h (by simp)
 |a::b::r,0,h,hk=>by
  have c: ¬a.nu<b.nu:=hk;rw[fK,decide_eq_false c];rfl
 |a::b::r,k+1,h,hk=>by
  have:=py (G:=b::r) (k:=k) (by simpa using h) hk
  rw[fK,this,Bool.and_false]
theorem pA: ∀{G:List Se},(∀k (h:k+1<G.length),(G[k]).nu<(G[k+1]).nu)→fK G=true
 |[],_=>rfl
 |[_],_=>rfl
 |a::b::r,h=>by
  have c:a.nu<b.nu:=h 0 (by simp);rw[fK,decide_eq_true c,pA (G:=b::r) fun k d=>h (k+1) (by simpa using d)];rfl
def aW:List Se→ByteArray→Int
 |[],_=>0
 |s::r,p=>(if(s.wh.toList==p.toList)=true then s.si else 0)+aW r p
theorem pB: ∀(L:List Se) (s:Se) (p:ByteArray),aW (L++[s]) p=aW L p+(if(s.wh.toList==p.toList)=true then s.si else 0)
 |[],s,p=>by simp[aW]
 |a::r,s,p=>by rw[List.cons_append,aW,aW,pB r s p];omega
theorem ko: ∀{L:List Se} (p:ByteArray),(∀s∈L,0≤s.si∧s.si≤300)→0≤aW L p∧aW L p≤300*L.length
 |[],p,_=>by simp[aW]
 |a::r,p,h=>by
  have d:=h a (by simp);have f:=ko (L:=r) p fun s c=>h s (by simp[c])
  rw[aW,List.length_cons];split<;>omega
def gM (L:List Se) (room:Int):Int:=if(L.all fun s=>decide (aW L s.wh≤room))=true then 0 else 10
theorem tg {L:List Se} {a:Int} {k:Nat} (h:k<L.length) (d:a<aW L (L[k]).wh):10=gM L a:=by
 rw[gM,if_neg];rw[List.all_eq_true];intro c;have:=of_decide_eq_true (c L[k] (List.getElem_mem h))
 omega
theorem th {L:List Se} {a:Int} (h: ∀j (h:j<L.length),aW L (L[j]).wh≤a):0=gM L a:=by
 rw[gM,if_pos];rw[List.all_eq_true];intro x d;obtain⟨j,c,rfl⟩:=List.getElem_of_mem d
 exact decide_eq_true (h j c)
def ez (x:Int):List Se→Int
 |[]=>0
 |g::r=>if cL x g=0 then ez x r else cL x g
theorem pC {x:Int}: ∀{G:List Se} {k:Nat} (a:k<G.length),(∀j (h:j<G.length),j<k→cL x G[j]=0)→ ¬cL x G[k]=0→ez x G=cL x G[k]
 |[],k,a,_,_=>absurd a (by simp)
 |g::r,0,_,_,hk=>by rw[ez,if_neg (show¬cL x g=0 from hk)];rfl
 |g::r,k+1,a,h,hk=>by
  rw[ez,if_pos (show cL x g=0 from h 0 (by simp) (by omega))];have:=pC (G:=r) (k:=k) (by simpa using a) (fun j c d=>h (j+1) (by simpa using c) (by omega)) hk
  rw[this];rfl
theorem pD {x:Int}: ∀{G:List Se},(∀j (h:j<G.length),cL x G[j]=0)→ez x G=0
 |[],_=>rfl
 |g::r,h=>by
  rw[ez,if_pos (show cL x g=0 from h 0 (by simp))];exact pD fun j a=>h (j+1) (by simpa using a)
theorem gN {x:Int} {G:List Se}:ez x G=0↔ ∀g∈G,cL x g=0:=by
 induction G with
 |nil=>simp[ez]
 |cons g r ih=>
  rw[ez];by_cases h:cL x g=0
  · rw[if_pos h,ih];simp[h]
  · rw[if_neg h];simp[h]
theorem gO {x:Int} {s:Se} (h:cL x s=0):a9 1 s.nu (x-1)=true∧a9 0 s.si 300=true∧a9 0 s.ti 2199023255552=true∧aA s.wh.data.toList=true∧(s.tx.size:Int)≤s.si:=by
 rcases px x s with⟨a,hE⟩|⟨a,c,hE⟩|⟨a,c,d,hE⟩|⟨a,c,d,f,hE⟩|⟨a,c,d,f,g,hE⟩|⟨a,c,d,f,g,hE⟩
 · rw[h]at hE;cases hE
 · rw[h]at hE;cases hE
 · rw[h]at hE;cases hE
 · rw[h]at hE;cases hE
 · rw[h]at hE;cases hE
 · exact⟨a,c,d,f,by omega⟩
theorem ik {x:Int} {G:List Se} (h:ez x G=0): ∀s∈G,0≤s.si∧s.si≤300:=fun s a=>eO (gO (gN.1 h s a)).2.1
def be (G:List Se) (x l r:Int):Int:=if¬d8 G.length x l r=0 then d8 G.length x l r else if¬ez x G=0 then ez x G else if fK G=false then 4 else gM G r
theorem k9 {G:List Se} {x l r:Int} (h: ¬d8 G.length x l r=0):be G x l r=d8 G.length x l r:=if_pos h
theorem pE {G:List Se} {x l r:Int} (h:d8 G.length x l r=0) (a: ¬ez x G=0):be G x l r=ez x G:=by rw[be,if_neg (fun k=>k h),if_pos a]
theorem pF {G:List Se} {x l r:Int} (h:d8 G.length x l r=0) (a:ez x G=0) (c:fK G=false):be G x l r=4:=by rw[be,if_neg (fun k=>k h),if_neg (fun k=>k a),if_pos c]
theorem pG {G:List Se} {x l r:Int} (h:d8 G.length x l r=0) (a:ez x G=0) (c:fK G=true):be G x l r=gM G r:=by rw[be,if_neg (fun k=>k h),if_neg (fun k=>k a),if_neg (by rw[c];decide)]
theorem cQ {n:Nat} {x l r:Int} (h:d8 n x l r=0):n≤20∧(1≤l∧l≤1000000)∧(0≤r∧r≤100000)∧(1≤x∧x≤1099511627776):=by
 rcases pw n x l r with⟨a,hE⟩|⟨a,c,hE⟩|⟨a,c,d,hE⟩|⟨a,c,d,f,hE⟩|⟨a,c,d,f,hE⟩
 · rw[h]at hE;cases hE
 · rw[h]at hE;cases hE
 · rw[h]at hE;cases hE
 · rw[h]at hE;cases hE
 · exact⟨by omega,eO a,eO c,eO d⟩
theorem tj (G:List Se) (v:Value) (w:World) (Q:aK w v G):
    Calls prog 65 #[v] w fun e w'=>e= .returned (.bool (fK G))∧Below w.heap.size w w':=by
 obtain⟨a,M,rfl,H,A,f⟩:=Q
 have C:Hid (∀i (h:i<G.length),∃b o,a=some ⟨b,o,none⟩∧b<w.heap.size∧et w b (o+i*5) G[i]):=f;clear f;obtain⟨r,B⟩: ∃r,r=fK G:=⟨_,rfl⟩
 rw[←B];have F:=ac B;clear B;go_enter func65,ntmps65
 go_wp2;go_loopw [3] (fun i wr=> ∃k:Nat,(k≤G.length∨k=1)∧1≤k∧i= .int .i64 k∧Hid (∀j (h:j+1<G.length),j+1<k→(G[j]).nu<(G[j+1]).nu)∧Below w.heap.size w wr) (fun i _=>G.length-(intOf i).toNat)
 case atStart=>exact⟨1,Or.inr rfl,ax,rfl,(fun j _ h=>absurd h (by omega): ∀j (h:j+1<G.length),j+1<1→(G[j]).nu<(G[j+1]).nu),aw⟩
 case round=>
  obtain⟨k,V,P,rfl,E,c⟩:=hrel
  obtain⟨m,rfl⟩: ∃m,k=m+1:=⟨k-1,by omega⟩
  by_cases s:m+1<G.length
  · obtain⟨b,o,rfl,O,I⟩:=C.out m (by omega)
    obtain⟨S,_⟩:=I.below O c
    obtain⟨K,R,d,z,g⟩:=C.out (m+1) s
    obtain⟨rfl,rfl⟩:K=b∧R=o:=by simp at d;exact⟨d.1.symm,d.2.symm⟩
    obtain⟨T,_⟩:=g.below z c
    clear I g d;by_cases J:(G[m]).nu<(G[m+1]).nu
    · have x:=hid (show∀j (h:j+1<G.length),j+1<m+1+1→(G[j]).nu<(G[j+1]).nu from fun j N U=>by
       by_cases e:j=m
       · subst e;exact J
       · exact E.out j N (by omega))
      generalize (G[m]).nu=p at*;generalize (G[m+1]).nu=q at*;go_wp2_with fail;go_region
      go_wp2;go_roundw
      case rel=>exact⟨m+1+1,by omega,by omega,by simp,x,c.drew⟩
      case measure=>simp[intOf];omega
    · have u:=hid (show false=r from by rw[F.out];exact(py s J).symm)
      generalize (G[m]).nu=p at*;generalize (G[m+1]).nu=q at*;go_wp2_with fail;go_region
      go_wp2;go_ret;exact⟨br u.out,c.drew⟩
  · have u:=hid (show true=r from by rw[F.out];exact(pA fun j h=>E.out j h (by omega)).symm)
    go_wp2;go_ret;exact⟨br u.out,c⟩
theorem pH (G:List Se) (v:Value) (p:ByteArray) (w:World) (N:aK w v G) (Y:G.length≤1000) (x: ∀s∈G,0≤s.si∧s.si≤300):
    Calls prog 96 #[v,p] w fun e w'=>e= .returned (.int .i64 (aW G p))∧Below w.heap.size w w':=by
 obtain⟨a,J,rfl,A,u,j⟩:=N
 have F:Hid (∀i (h:i<G.length),∃b o,a=some ⟨b,o,none⟩∧b<w.heap.size∧et w b (o+i*5) G[i]):=j;have H:=hid (show∀i (h:i<G.length),0≤(G[i]).si∧(G[i]).si≤300 from fun i h=>x _ (List.getElem_mem h))
 have I:=hid (show∀k,0≤aW (G.take k) p∧aW (G.take k) p≤300*G.length from fun k=>by
  have U:=ko (L:=G.take k) p fun s z=>x s (List.mem_of_mem_take z)
  have V:(G.take k).length≤G.length:=by rw[List.length_take];omega
  omega)
 clear j x;go_enter func96,ntmps96
 go_wp2;go_loopw [5,10] (fun t i wr=> ∃k:Nat,k≤G.length∧i= .int .i64 k∧t= .int .i64 (aW (G.take k) p)∧Below w.heap.size w wr) (fun _ i _=>G.length-(intOf i).toNat)
 case atStart=>exact⟨0,Nat.zero_le _,rfl,rfl,aw⟩
 case round=>
  obtain⟨k,X,rfl,rfl,c⟩:=hrel
  by_cases g:k<G.length
  · obtain⟨b,o,rfl,K,B⟩:=F.out k g
    obtain⟨O,P,Q,R,S⟩:=B.below K c
    obtain⟨Z,s2⟩:=H.out k g
    obtain⟨t1,t2⟩:=I.out k
    have d:aW (G.take (k+1)) p=aW (G.take k) p+(if((G[k]).wh.toList==p.toList)=true then(G[k]).si else 0):=by rw[List.take_succ_eq_append_getElem g,pB]
    have M:=c.size;clear B;generalize G[k]=s at*;generalize aW (G.take k) p=T at*;cases C:(s.wh.toList==p.toList)with
    |true=>
     have f:=hid (show aW (G.take (k+1)) p=T+s.si from by rw[d,C];rfl);clear d;go_wp2;go_roundw
     case rel=>exact⟨k+1,by omega,by simp,by rw[f.out],c.alloc c.size _⟩
     case measure=>simp[intOf];omega
    |false=>
     have f:=hid (show aW (G.take (k+1)) p=T from by rw[d,C];simp);clear d;go_wp2;go_roundw
     case rel=>exact⟨k+1,by omega,by simp,by rw[f.out],c.alloc c.size _⟩
     case measure=>simp[intOf];omega
  · have E:=hid (show aW (G.take k) p=aW G p from by rw[List.take_of_length_le (by omega)])
    go_wp2;go_ret;exact⟨aB E.out,c⟩
theorem zm (G:List Se) (v:Value) (x l r:Int) (w:World) (Y:aK w v G) (hn:G.length≤1000) (X: ∀s∈G,0≤s.si∧s.si≤300):
    Calls prog 66 #[.agg #[v,x,l,r]] w fun e w'=>e= .returned (.int .i64 (gM G r))∧Below w.heap.size w w':=by
 have HV:=ac Y;have HS:=ac X;obtain⟨a,c,rfl,S,Q,H⟩:=Y
 have Z:Hid (∀i (h:i<G.length),∃b o,a=some ⟨b,o,none⟩∧b<w.heap.size∧et w b (o+i*5) G[i]):=H;clear H X;go_enter func66,ntmps66
 go_wp2;go_loopw [8] (fun i wr=> ∃k:Nat,k≤G.length∧i= .int .i64 k∧Hid (∀j (h:j<G.length),j<k→aW G (G[j]).wh≤r)∧Below (w.alloc (.cells #[.slice a G.length c,x,l,r] 26)).heap.size (w.alloc (.cells #[.slice a G.length c,x,l,r] 26)) wr) (fun i _=>G.length-(intOf i).toNat)
 case atStart=>exact⟨0,Nat.zero_le _,rfl,(fun j _ h=>absurd h (Nat.not_lt_zero _): ∀j (h:j<G.length),j<0→aW G (G[j]).wh≤r),aw⟩
 case round=>
  obtain⟨k,hk,rfl,R,d⟩:=hrel
  obtain⟨b0,b1,b2,b3,f,V⟩:=ft d
  have E:=ac d;clear d;by_cases I:k<G.length
  · obtain⟨b,o,rfl,hb,U⟩:=Z.out k I
    obtain⟨c0,c1,c2,c3,c4⟩:=U.below hb f
    have E0:=f.size;clear U;have N:=hid (show r<aW G (G[k]).wh→10=gM G r from fun h=>tg I h)
    have F:=hid (show aW G (G[k]).wh≤r→ ∀j (h:j<G.length),j<k+1→aW G (G[j]).wh≤r from fun hh j h1 h2=>by
     by_cases e:j=k
     · subst e;exact hh
     · exact R.out j h1 (by omega))
    generalize G[k]=s at*;obtain⟨K,z⟩: ∃K,K=wr.alloc (.cells #[s.nu,s.wh,s.tx,s.si,s.ti] 79):=⟨_,rfl⟩
    have u:Below (w.alloc (.cells #[.slice (some ⟨b,o,none⟩) G.length c,x,l,r] 26)).heap.size (w.alloc (.cells #[.slice (some ⟨b,o,none⟩) G.length c,x,l,r] 26)) K:=z▸E.out.alloc E.out.size _;obtain⟨z0,_,_,z3,P,C⟩:=ft u
    have z1:K.cell? ⟨wr.heap.size,1,none⟩=some (.string s.wh):=by rw[z];simp
    have J:wr.heap.size<K.heap.size:=by rw[z];simp
    have A:=ac u;clear u E f b0 b1 b2 b3;go_wp2_with fail;rw[←z];clear z c0 c1 c2 c3 c4
    go_region_held3 (fun W=>W.cell? ⟨w.heap.size,0,none⟩=some (.slice (some ⟨b,o,none⟩) G.length c)∧W.cell? ⟨w.heap.size,3,none⟩=some (.int .i64 r)∧W.cell? ⟨wr.heap.size,1,none⟩=some (.string s.wh)) (go_keep) (first
     |(go_at_call 96;refine(pH G _ s.wh _ (HV.out.below P.drew) hn HS.out).mono ?_;rintro e wa ⟨rfl,g⟩;have k0:=(g.cell (p:=⟨w.heap.size,0,none⟩) C).trans z0;have k3:=(g.cell (p:=⟨w.heap.size,3,none⟩) C).trans z3;have k1:=(g.cell (p:=⟨wr.heap.size,1,none⟩) J).trans z1))
    all_goals
     have B:Below (w.alloc (.cells #[.slice (some ⟨b,o,none⟩) G.length c,x,l,r] 26)).heap.size (w.alloc (.cells #[.slice (some ⟨b,o,none⟩) G.length c,x,l,r] 26)) wa:=A.out.drew.trans (g.mono A.out.drew.size);clear g;by_cases hr:r<aW G s.wh
     · have M:=ac (N.out hr)
       generalize aW G s.wh=T at*;go_wp2;go_ret;exact⟨aB M.out,(ft B).2.2.2.2.1⟩
     · have O:=ac (F.out (by omega))
       generalize aW G s.wh=T at*;go_wp2;go_roundw
       case rel=>exact⟨k+1,by omega,by simp,O,B⟩
       case measure=>simp[intOf];omega
  · have M:=hid (show 0=gM G r from th fun j h=>R.out j h (by omega))
    go_wp2;go_ret;exact⟨aB M.out,f⟩
theorem ld (G:List Se) (v:Value) (x l r:Int) (w:World) (hv:aK w v G) (hs:bq G):
    Calls prog 38 #[.agg #[v,x,l,r]] w fun e w'=>e= .returned (.int .i64 (be G x l r))∧Below w.heap.size w w':=by
 have N:=ac hv;have HS:=ac hs;obtain⟨a,Q,rfl,E5,E4,R⟩:=hv
 have HL:Hid (∀i (h:i<G.length),∃b o,a=some ⟨b,o,none⟩∧b<w.heap.size∧et w b (o+i*5) G[i]):=R;clear R hs;by_cases B:d8 G.length x l r=0
 case neg=>
  have E:=hid (show d8 G.length x l r=be G x l r from(k9 B).symm);have hz:(d8 G.length x l r==0)=false:=by simpa using B
  clear B;go_enter func38,ntmps38
  go_wp2_with fail;refine(sY G _ x l r _ (N.out.below ak)).mono ?_
  rintro e Y ⟨rfl,c⟩;obtain⟨P,b1,b2,b3,d,g⟩:=ft c
  clear c;generalize d8 G.length x l r=y at*;go_wp2;go_ret;exact⟨aB E.out,d⟩
 case pos=>
 have C:=ac B;obtain⟨E6,⟨E7,E8⟩,⟨E9,EH⟩,⟨V,X⟩⟩:=cQ B
 clear B;go_enter func38,ntmps38
 go_wp2_with fail;refine(sY G _ x l r _ (N.out.below ak)).mono ?_
 rintro e Y ⟨rfl,c⟩;rw[C.out];have Z:=ac c;obtain⟨P,b1,b2,b3,H,g⟩:=ft c
 clear c;go_wp2;go_loopw [15] (fun i wr=> ∃k:Nat,k≤G.length∧i= .int .i64 k∧Hid (∀j (h:j<G.length),j<k→cL x G[j]=0)∧Below (w.alloc (.cells #[.slice a G.length Q,x,l,r] 26)).heap.size (w.alloc (.cells #[.slice a G.length Q,x,l,r] 26)) wr) (fun i _=>G.length-(intOf i).toNat)
 case atStart=>exact⟨0,Nat.zero_le _,rfl,(fun j _ h=>absurd h (Nat.not_lt_zero _): ∀j (h:j<G.length),j<0→cL x G[j]=0),Z.out⟩
 case round=>
  clear P b1 b2 b3 H g;obtain⟨k,hk,rfl,HP,A⟩:=hrel
  obtain⟨P,b1,b2,b3,d,g⟩:=ft A
  have K:=ac A;clear A;by_cases I:k<G.length
  · obtain⟨b,o,rfl,hb,he⟩:=HL.out k I
    obtain⟨c0,c1,c2,c3,c4⟩:=he.below hb d
    have EI:=d.size;clear he
    have E0:=hid (show¬cL x G[k]=0→cL x G[k]=be G x l r from fun h=>by
     have hg:=pC I HP.out h;rw[pE C.out (by rw[hg];exact h),hg])
    have O:=hid (show cL x G[k]=0→ ∀j (h:j<G.length),j<k+1→cL x G[j]=0 from fun hh j h1 h2=>by
     by_cases e:j=k
     · subst e;exact hh
     · exact HP.out j h1 (by omega))
    have U:=(HS.out G[k] (List.getElem_mem I)).1;generalize G[k]=s at*;by_cases J:cL x s=0
    · have E1:=ac (O.out J)
      have M:=ac J;clear J;go_wp2_with fail;refine(sZ s x _ V X U).mono ?_
      rintro e Y ⟨rfl,c⟩;rw[M.out];obtain⟨d0,d1,d2,d3,d4,z,T⟩:=l5 c
      have f:=K.out.trans (z.mono K.out.size);clear c z d;go_wp2;go_roundw
      case rel=>exact⟨k+1,by omega,by simp,E1,f⟩
      case measure=>simp[intOf];omega
    · have E:=ac (E0.out J)
      have hz:(cL x s==0)=false:=by simpa using J
      clear J;go_wp2_with fail;refine(sZ s x _ V X U).mono ?_
      rintro e Y ⟨rfl,c⟩;obtain⟨d0,d1,d2,d3,d4,z,T⟩:=l5 c
      have f:=aG d z;clear c z d;generalize cL x s=y at*;go_wp2;go_ret;exact⟨aB E.out,f⟩
  · have F:=ac (pD fun j h=>HP.out j h (by omega))
    have E2:=ac (ik F.out);cases u:fK G with
    |false=>
     have E:=hid (show 4=be G x l r from(pF C.out F.out u).symm);have M:=ac u;clear u;go_wp2_with fail;refine(tj G _ _ (N.out.below d)).mono ?_
     rintro e Y ⟨rfl,c⟩;rw[M.out];have f:=aG d c;go_wp2;go_ret;exact⟨aB E.out,f⟩
    |true=>
     have E:=hid (show gM G r=be G x l r from(pG C.out F.out u).symm);have M:=ac u;clear u;go_wp2_with fail;refine(tj G _ _ (N.out.below d)).mono ?_
     rintro e Y ⟨rfl,c⟩;rw[M.out];have f:=aG d c;have f0:=(c.cell (p:=⟨w.heap.size,0,none⟩) g).trans P;have f1:=(c.cell (p:=⟨w.heap.size,1,none⟩) g).trans b1;have f2:=(c.cell (p:=⟨w.heap.size,2,none⟩) g).trans b2;have f3:=(c.cell (p:=⟨w.heap.size,3,none⟩) g).trans b3;clear c d P b1 b2 b3;go_wp2_with fail;refine(zm G _ x l r _ (N.out.below f) (by omega) E2.out).mono ?_
     rintro e w2 ⟨rfl,E3⟩;have S:=aG f E3;generalize gM G r=y at*;go_wp2;go_ret;exact⟨aB E.out,S⟩
def l7 (w:World) (q:Nat) (g:Nat) (cb:Array Value) (pr:Se→Bool):Prop:=
 (∀args w,(callFunc g args).run prog w= .ok (.enter g args) w)∧ ∀W,w.grownBy W (some q)→ ∀s:Se,Calls prog g (#[.agg #[.int .i64 s.nu,.string s.wh,.string s.tx,.int .i64 s.si,.int .i64 s.ti]]++cb) W fun e w'=>e= .returned (.bool (pr s))∧Below W.heap.size W w'
theorem Nb.refl (w:World) (g:Nat):w.grownBy w (some g):=⟨rfl,rfl,rfl,ax,fun _ _ _=>rfl⟩
theorem Nb.trans {a b c:World} {g:Nat} (h:a.grownBy b (some g)) (k:b.grownBy c (some g)):a.grownBy c (some g):=
 ⟨k.os.trans h.os,k.tape.trans h.tape,k.output.trans h.output,Nat.le_trans h.size k.size,fun q f d=>(k.block q (Nat.lt_of_lt_of_le f h.size) d).trans (h.block q f d)⟩
theorem Nb.below {a b:World} (g:Nat) (h:Below a.heap.size a b):a.grownBy b (some g):=
 ⟨h.os,h.tape,h.output,h.size,fun q c _=>h.block q c⟩
theorem Nb.«to» {B:Nat} {w w':World} {g:Nat} (h:w.grownBy w' (some g)) (a:B≤w.heap.size) (d:B≤g):Below B w w':=
 ⟨h.os,h.tape,h.output,h.size,fun k c=>h.block k (Nat.lt_of_lt_of_le c a) (fun e=>by injection e with e;omega)⟩
theorem Nb.cell {w w':World} {g:Nat} (h:w.grownBy w' (some g)) {p:Addr} (c:p.block<w.heap.size) (a:p.block≠g):w'.cell? p=w.cell? p:=
 World.cell?_of_block (w:=w) (h.block p.block c (fun e=>a (by injection e)))
theorem Nb.frozen {w w':World} {g:Nat} (h:w.grownBy w' (some g)) {p:Addr} (c:p.block<w.heap.size) (a:p.block≠g):w'.frozen? p=w.frozen? p:=
 World.frozen?_of_block (w:=w) (h.block p.block c (fun e=>a (by injection e)))
theorem ai (w:World) (g o:Nat) (v:Value):w.grownBy (w.setCell ⟨g,o,none⟩ v) (some g):=by
 exact⟨rfl,rfl,rfl,by simp,fun k _ a=>Below.heap_setCell w _ v k (fun e=>a (by rw[e]))⟩
theorem en (g:Nat): ∀(vs:List Value) (o:Nat) (w:World),w.grownBy (w.setCells g o vs) (some g)
 |[],_,w=>Nb.refl w g
 |v::r,o,w=>Nb.trans (ai w g o v) (en g r (o+1) (w.setCell ⟨g,o,none⟩ v))
def fL (W:World) (g:Nat) (T:TypeId) (n:Nat):Prop:= ∃cur,W.heap[g]?=some (.cells cur T (0,0))∧cur.size=n
def cZ (g:Nat) (w W:World):Prop:= ∀T n,fL w g T n→fL W g T n
theorem fL.lt {W:World} {g n:Nat} {T:TypeId} (h:fL W g T n):g<W.heap.size:=by
 obtain⟨cur,a,_⟩:=h
 rcases Nat.lt_or_ge g W.heap.size with h|h
 · exact h
 · rw[Array.getElem?_eq_none h]at a;cases a
theorem fL.below {W c:World} {g n:Nat} {T:TypeId} (h:fL W g T n) (i:Below W.heap.size W c):fL c g T n:=by
 have a:=h.lt;obtain⟨cur,d,f⟩:=h
 exact⟨cur,(i.block g a).trans d,f⟩
theorem fL.nb {W d:World} {g b n:Nat} {T:TypeId} (h:fL W g T n) (j:W.grownBy d (some b)) (c:g≠b):fL d g T n:=by
 have a:=h.lt;obtain⟨cur,f,i⟩:=h
 exact⟨cur,(j.block g a (fun e=>c (by injection e))).trans f,i⟩
theorem cZ.refl (g:Nat) (w:World):cZ g w w:=fun _ _ h=>h
theorem cZ.trans {g:Nat} {a b c:World} (h:cZ g a b) (k:cZ g b c):cZ g a c:=fun T n x=>k T n (h T n x)
theorem cZ.below {g:Nat} {a b:World} (h:Below a.heap.size a b):cZ g a b:=fun _ _ x=>x.below h
theorem cZ.setCell (g o:Nat) (v:Value) (w:World):cZ g w (w.setCell ⟨g,o,none⟩ v):=by
 intro T n h;obtain⟨cur,a,c⟩:=h
 refine⟨cur.setIfInBounds o v,?_,by simpa using c⟩
 unfold World.setCell;simp only[Array.getElem?_modify,a,if_true,Option.map_some];rfl
theorem cZ.setCells (g:Nat): ∀(vs:List Value) (o:Nat) (w:World),cZ g w (w.setCells g o vs)
 |[],_,w=>cZ.refl g w
 |v::r,o,w=>(cZ.setCell g o v w).trans (cZ.setCells g r (o+1) (w.setCell ⟨g,o,none⟩ v))
def bD (s:Se):List Value:=[.int .i64 s.nu,.string s.wh,.string s.tx,.int .i64 s.si,.int .i64 s.ti]
def bn (G:List Se):List Value:=G.flatMap bD
theorem l8 (s:Se): ∀u∈bD s,u.oneCell'=true:=by
 intro u a;simp only[bD,List.mem_cons,List.not_mem_nil,or_false]at a;rcases a with rfl|rfl|rfl|rfl|rfl<;>rfl
theorem l9: ∀(L:List Se) (i c:Nat) (h:i<L.length),c<5→(bn L)[i*5+c]?=(bD L[i])[c]?
 |[],i,c,h,_=>absurd h (Nat.not_lt_zero _)
 |a::r,0,c,_,hc=>by
  rw[bn,List.flatMap_cons,Nat.zero_mul,Nat.zero_add,List.getElem?_append_left (by simpa[bD]using hc)];rfl
 |a::r,i+1,c,h,hc=>by
  have ih:=l9 r i c (by simpa using h) hc;rw[bn,List.flatMap_cons,List.getElem?_append_right (by simp[bD];omega)];rw[show(bD a).length=5 from rfl,show(i+1)*5+c-5=i*5+c from by omega];exact ih
theorem il (L:List Se):(bn L).length=L.length*5:=by
 induction L with
 |nil=>rfl
 |cons a r ih=>rw[bn,List.flatMap_cons,List.length_append];rw[show(List.flatMap bD r)=bn r from rfl,ih];simp[bD];omega
theorem pI (L:List Se) (e:Se):bn L++bD e=bn (L++[e]):=by simp[bn]
def bY (w:World) (g:Nat) (d:List Se):Prop:=g<w.heap.size∧ ∀i (h:i<d.length),∀c,c<5→w.cell? ⟨g,i*5+c,none⟩=(bD d[i])[c]?∧w.frozen? ⟨g,i*5+c,none⟩=false
theorem bY.at {w:World} {g:Nat} {d:List Se} (h:bY w g d) {i:Nat} (a:i<d.length):et w g (i*5) d[i]:=
 ⟨by have:=(h.2 i a 0 (by decide)).1;simpa[bD]using this,by have:=(h.2 i a 1 (by decide)).1;simpa[bD]using this,by have:=(h.2 i a 2 (by decide)).1;simpa[bD]using this,by have:=(h.2 i a 3 (by decide)).1;simpa[bD]using this,by have:=(h.2 i a 4 (by decide)).1;simpa[bD]using this⟩
theorem bY.below {w w':World} {g:Nat} {d:List Se} (h:bY w g d) (a:Below w.heap.size w w'):bY w' g d:=
 ⟨Nat.lt_of_lt_of_le h.1 a.size,fun i j c f=>⟨(a.cell (p:=⟨g,i*5+c,none⟩) h.1).trans (h.2 i j c f).1,(a.frozen (p:=⟨g,i*5+c,none⟩) h.1).trans (h.2 i j c f).2⟩⟩
theorem bY.lies {w:World} {g cap:Nat} {d:List Se} (h:bY w g d) (a:d.length≤cap) (f:d.length≤1000000000000000):aK w (.slice (some ⟨g,0,none⟩) d.length cap) d:=
 ⟨_,cap,rfl,a,f,fun i c=>⟨g,0,rfl,h.1,by rw[Nat.zero_add];exact h.at c⟩⟩
theorem bY.take {w:World} {g:Nat} {d:List Se} (h:bY w g d) (k:Nat):bY w g (d.take k):=
 ⟨h.1,fun i j c f=>by
  have a:i<d.length:=by rw[List.length_take]at j;omega
  have:=h.2 i a c f
  rw[List.getElem_take];exact this⟩
theorem pJ {w:World} {base:Nat} {T:TypeId} {g n cap:Nat} {d:List Se} (h:w.ownsRow base T 5 (.slice (some ⟨g,0,none⟩) n cap) n (bn d)) (o:n=d.length):bY w g d:=by
 subst o;have a:=(h.lt g rfl).2;refine⟨a,fun i j c f=>⟨?_,h.frozenAt _⟩⟩
 have s:i*5+c<d.length*5:=by omega
 rw[h.cellAt (i*5+c) s];exact l9 d i c j f
theorem tl {w:World} {base g cap:Nat} {T:TypeId} {d:List Se} (h:bY w g d) (o:fL w g T (cap*5)) (u:d.length≤cap) (v:cap≤maxLen) (s:base≤g):w.ownsRow base T 5 (.slice (some ⟨g,0,none⟩) d.length cap) d.length (bn d):=by
 obtain⟨cur,j,x⟩:=o
 refine⟨il d,Or.inr ⟨g,cap,cur,rfl,s,j,u,v,x,?_⟩⟩
 apply List.ext_getElem?
 intro t;by_cases z:t<d.length*5
 · have a:t/5<d.length:=by omega
   have c:t/5*5+t % 5=t:=by omega
   have f:=(h.2 (t/5) a (t % 5) (by omega)).1;rw[c]at f;have i:=l9 d (t/5) (t % 5) a (by omega);rw[c]at i;rw[i,←f,List.getElem?_take_of_lt z];simp[World.cell?,j]
 · rw[List.getElem?_eq_none (by rw[List.length_take];omega),List.getElem?_eq_none (by rw[il];omega)]
theorem bY.set {w:World} {g:Nat} {d:List Se} (h:bY w g d) {i:Nat} (A:i<d.length) (s:Se):bY (w.setCells g (i*5) (bD s)) g (d.set i s):=by
 refine⟨Nat.lt_of_lt_of_le h.1 (en g _ _ w).size,fun j x c f=>⟨?_,?_⟩⟩
 · have v:j<d.length:=by simpa using x
   by_cases e:j=i
   · subst e
     have:=World.cell?_setCells_in g (bD s) (j*5) w (fun o u=>by
      have a:o<5:=u;rw[(h.2 j A o a).1];match o,a with
      |0,_=>rfl
      |1,_=>rfl
      |2,_=>rfl
      |3,_=>rfl
      |4,_=>rfl) c f
     rw[this];simp only[List.getElem_set_self];exact(List.getElem?_eq_getElem (show c<(bD s).length from f)).symm
   · rw[World.cell?_setCells_out g _ _ _ _ (fun _ _=>by simp only[show(bD s).length=5 from rfl];omega),(h.2 j v c f).1]
     rw[List.getElem_set_ne (fun z=>e z.symm)]
 · rw[World.frozen?_setCells];exact(h.2 j (by simpa using x) c f).2
theorem zn {A B:List (List UInt8)} (h:A.length<B.length):false=B.isPrefixOf A:=by
 symm
 cases e:B.isPrefixOf A with
 |false=>rfl
 |true=>have:=(List.isPrefixOf_iff_prefix.1 e).length_le;omega
theorem zo {A B:List (List UInt8)} {k:Nat} (d:k<A.length) (a:k<B.length) (h: ¬A[k]=B[k]):false=B.isPrefixOf A:=by
 symm
 cases e:B.isPrefixOf A with
 |false=>rfl
 |true=>
  obtain⟨t,c⟩:=List.isPrefixOf_iff_prefix.1 e
  subst c;exact absurd (by simp[List.getElem_append_left a]) h
theorem zp {A B:List (List UInt8)} (h:A.take B.length=B):true=B.isPrefixOf A:=by
 symm
 rw[List.isPrefixOf_iff_prefix];have:=List.take_prefix B.length A
 rwa [h]at this
theorem eZ (s t:ByteArray) (w:World) (hs:s.size≤1000000000) (ht:t.size≤1000000000):
    Calls prog 114 #[s,t] w fun e w'=>e= .returned (.bool (a8 s.data.toList t.data.toList))∧Below w.heap.size w w':=by
 have R:(az s.data.toList).length≤s.size+1:=by have:=i6 s.data.toList;rwa [←Lib.size_eq]at this
 have S:(az t.data.toList).length≤t.size+1:=by have:=i6 t.data.toList;rwa [←Lib.size_eq]at this
 obtain⟨A,F⟩: ∃L,L=az s.data.toList:=⟨_,rfl⟩
 obtain⟨B,G⟩: ∃L,L=az t.data.toList:=⟨_,rfl⟩
 have Z:Hid (A=az s.data.toList):=F;have HB:Hid (B=az t.data.toList):=G;have J:=hid (show a8 s.data.toList t.data.toList=B.isPrefixOf A from by rw[a8,F,G]);rw[←F]at R;rw[←G]at S;clear F G;go_enter func114,ntmps114
 go_wp2_with fail;refine(fI s _ hs).mono ?_
 rintro e w1 ⟨u,c1,rfl,O,U,E0,z,a,v⟩;rw[←Z.out]at O a⊢;go_wp2_with fail;refine(fI t _ ht).mono ?_
 rintro e o ⟨M,c2,rfl,P,V,E1,C,c,g⟩;rw[←HB.out]at P c⊢;have H:=hid (show∀i (h:i<A.length),o.cell? ⟨u,i,none⟩=some (.string ⟨(A[i]).toArray⟩)from fun i h=>(g.cell (p:=⟨u,i,none⟩) z).trans (a i h));have I:Hid (∀i (h:i<B.length),o.cell? ⟨M,i,none⟩=some (.string ⟨(B[i]).toArray⟩)):=c;have N:Below w.heap.size w o:=aG v g;clear a c v g;by_cases E:A.length<B.length
 · have Q:(A.length:Int)<B.length:=by omega
   go_wp2;go_ret;exact⟨br (by rw[J.out];exact zn E),N⟩
 · have Q:(B.length:Int)≤A.length:=by omega
   go_wp2;go_loopw [7] (fun i wr=> ∃k:Nat,k≤B.length∧i= .int .i64 k∧Hid (A.take k=B.take k)∧Below o.heap.size o wr) (fun i _=>B.length-(intOf i).toNat)
   case atStart=>exact⟨0,Nat.zero_le _,rfl,rfl,aw⟩
   case round=>
    obtain⟨k,hk,rfl,T,d⟩:=hrel
    by_cases j:k<B.length
    · have f:k<A.length:=by omega
      have X:wr.cell? ⟨u,k,none⟩=some (.string ⟨(A[k]).toArray⟩):=(d.cell (p:=⟨u,k,none⟩) (show u<o.heap.size by omega)).trans (H.out k f);have Y:wr.cell? ⟨M,k,none⟩=some (.string ⟨(B[k]).toArray⟩):=(d.cell (p:=⟨M,k,none⟩) C).trans (I.out k j);cases x:(A[k]==B[k])with
      |true=>
       have K:=hid (show A[k]=B[k]from by simpa using x);go_wp2_with fail;go_region
       go_wp2;go_roundw
       case rel=>exact⟨k+1,by omega,by simp,(by rw[List.take_succ_eq_append_getElem f,List.take_succ_eq_append_getElem j,T.out,K.out]:A.take (k+1)=B.take (k+1)),d.drew⟩
       case measure=>simp[intOf];omega
      |false=>
       have K:=hid (show¬A[k]=B[k]from by simpa using x);go_wp2_with fail;go_region
       go_wp2;go_ret;exact⟨br (by rw[J.out];exact zo f j K.out),(aG N d).drew⟩
    · go_wp2
      go_ret;exact⟨br (by rw[J.out];obtain rfl:k=B.length:=(by omega);exact zp (by have:=T.out;rwa [List.take_length]at this)),aG N d⟩
theorem BkG.mem {H:Type} {d:DataW H}: ∀{l:List (DataW H)},d∈l→Rows.uptoBulk d≤Rows.uptoBulkAll l
 |[],h=>by cases h
 |x::r,h=>by
  rw[Rows.uptoBulkAll];rcases List.mem_cons.1 h with rfl|h
  · omega
  · have:=BkG.mem h;omega
theorem BkG.len {H:Type}: ∀{l:List (DataW H)},(∀d∈l,1≤Rows.uptoBulk d)→l.length≤Rows.uptoBulkAll l
 |[],_=>Nat.zero_le _
 |x::r,h=>by
  rw[Rows.uptoBulkAll,List.length_cons];have c:=h x (by simp);have f:=BkG.len (l:=r) fun d a=>h d (by simp[a])
  omega
theorem Tryz.cellsG:prog.cellsOf 64=3:=by kernel_rfl
theorem Tryz.cellsG9:prog.cellsOf 9=1:=by kernel_rfl
theorem Tryz.cellsG3:prog.cellsOf 3=1:=by kernel_rfl
def nl {H:Type} (e:Gr):DataW H:= .agg [.lit (.string e.fo.data.toList),.lit (.string e.wh.data.toList),.lit (.int .i64 e.ri)]
theorem tn {d:Type} {l:List d} (h:l.length=3): ∃a b c,l=[a,b,c]:=by
 rcases l with _|⟨a,_|⟨b,_|⟨c,_|⟨f,r⟩⟩⟩⟩
 all_goals first|exact⟨a,b,c,rfl⟩|(simp at h)
theorem zr {W:World} {a:Addr} {v:Value} (k:W.cell? a=some v):a.spot=none:=by
 unfold World.cell? at k;cases c:a.spot with
 |none=>rfl
 |some z=>rw[c]at k;simp at k;split at k<;>cases k
theorem zs {H:Type} {enc:TypeId×Value→H} {P:Program} {w:World} {base:Nat} {a:Nat→Bool} {c:Bool} {t:TypeId} {d f g:Field} {fuel:Nat} {cs:List Value} {x:DataW H×List MemPlace} (z:P.underlying t=some (.struct #[d,f,g])) (h:DataW.trod enc P w base a c fuel t cs=some x):
    ∃j o s n,x=(.agg [j.1,o.1,s.1],j.2++(o.2++s.2))∧cs.length=P.cellsOf t∧DataW.trod enc P w base a c n d.type ((cs.drop d.offset).take (P.cellsOf d.type))=some j∧
     DataW.trod enc P w base a c n f.type ((cs.drop f.offset).take (P.cellsOf f.type))=some o∧DataW.trod enc P w base a c n g.type ((cs.drop g.offset).take (P.cellsOf g.type))=some s:=by
 obtain⟨A,n,_,rfl,v,i,u⟩:=DataW.trod_struct z h
 match A,i with
 |[j,o,s],_=>exact⟨j,o,s,n,by simp,v,by simpa using u 0 d rfl,by simpa using u 1 f rfl,by simpa using u 2 g rfl⟩
theorem zt {H:Type} {enc:TypeId×Value→H} {W:World} {n i:Nat} {a:Addr} {x:DataW H} {V:List MemPlace} {f:List Value} (U:a.spot=none)
    (F:W.cells? 0 (a.add (i*prog.cellsOf 64)) (prog.cellsOf 64)=some f) (T:DataW.trod enc prog W 0 (fun _=>true) true n 64 f=some (x,V)):
    ∃e:Gr,x=nl e∧a.spot=none∧em W a.block (a.off+i*3) e:=by
 rw[Tryz.cellsG]at F;obtain⟨_,g,s⟩:=World.cells?_some F
 obtain⟨y0,y1,y2,u,j,_,X,Y,Z⟩:=zs underlying64 T
 obtain⟨B,C,E,rfl⟩:=tn g
 have v:DataW.trod enc prog W 0 (fun _=>true) true u 9 [B]=some y0:=by simpa[Tryz.cellsG9]using X
 have z:DataW.trod enc prog W 0 (fun _=>true) true u 9 [C]=some y1:=by simpa[Tryz.cellsG9]using Y
 have A:DataW.trod enc prog W 0 (fun _=>true) true u 3 [E]=some y2:=by simpa[Tryz.cellsG3]using Z
 obtain⟨K,O,Q,_⟩:=DataW.trod_string underlying9 v
 obtain⟨M,P,R,_⟩:=DataW.trod_string underlying9 z
 obtain⟨N,e2,S,_⟩:=DataW.trod_int underlying3 A
 obtain rfl:B= .string K:=by simpa using O
 obtain rfl:C= .string M:=by simpa using P
 obtain rfl:E= .int .i64 N:=by simpa using e2
 subst Q;subst R;subst S;simp only[Prod.mk.injEq]at j;have G:=s 0 (by omega);have I:=s 1 (by omega);have J:=s 2 (by omega);obtain⟨ab,ao,o⟩:=a
 obtain rfl:o=none:=U;refine⟨⟨K,M,N⟩,j.1,rfl,?_,?_,?_⟩
 · by_cases c:i=0
   · subst c;simpa[Addr.add]using G
   · have d:i*3≠0:=by omega
     simpa[Addr.add,d]using G
 · by_cases c:i=0
   · subst c;simpa[Addr.add]using I
   · have d:i*3≠0:=by omega
     simpa[Addr.add,d,Nat.add_assoc]using I
 · by_cases c:i=0
   · subst c;simpa[Addr.add]using J
   · have d:i*3≠0:=by omega
     simpa[Addr.add,d,Nat.add_assoc]using J
end Go.Proofs.YtdlpjlfefjipkaaGreat
