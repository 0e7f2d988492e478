/- Hubs that lie in memory, and what is asked of their folders, as plain mathematics. -/
import Derived.Test.YtdlpjlfefjipkaaGreatHFX
set_option linter.unusedSimpArgs false
set_option linter.unusedVariables false
namespace Go.Proofs.YtdlpjlfefjipkaaGreat
open Go.RowKit Go.Proofs.Tryz
set_option maxHeartbeats 4000000
set_option maxRecDepth 100000
structure Sh where
 na:ByteArray
 jo:Jo
structure Hb where
 fos:List Sh
 gs:List Gr
 ss:List Se
 nx:Int
 la:Int
 ro:Int
 now:Int
def gQ (w:World) (b o:Nat) (s:Sh):Prop:=w.cell? ⟨b,o,none⟩=some (.string s.na)∧ ∃u x,w.cell? ⟨b,o+1,none⟩=some u∧w.cell? ⟨b,o+2,none⟩=some (.int .i64 s.jo.first)∧w.cell? ⟨b,o+3,none⟩=some x∧aF w u s.jo.base∧b8 w x s.jo.cos
def cR (w:World) (v:Value) (l:List Sh):Prop:= ∃a cap,v= .slice a l.length cap∧l.length≤cap∧l.length≤1000000000000000∧ ∀i (h:i<l.length),∃b o,a=some ⟨b,o,none⟩∧b<w.heap.size∧gQ w b (o+i*4) l[i]
def aX (w:World) (v:Value) (h:Hb):Prop:= ∃vf vg vs,v= .agg #[vf,vg,vs,.int .i64 h.nx,.int .i64 h.la,.int .i64 h.ro,.int .i64 h.now]∧cR w vf h.fos∧bj w vg h.gs∧aK w vs h.ss
theorem gQ.below {w w':World} {b o:Nat} {s:Sh} (h:gQ w b o s) (c:b<w.heap.size) (a:Below w.heap.size w w'):gQ w' b o s:=by
 obtain⟨d,u,x,f,g,i,j,v⟩:=h
 exact⟨(a.cell (p:=⟨b,o,none⟩) c).trans d,u,x,(a.cell (p:=⟨b,o+1,none⟩) c).trans f,(a.cell (p:=⟨b,o+2,none⟩) c).trans g,(a.cell (p:=⟨b,o+3,none⟩) c).trans i,j.below a,v.below a⟩
theorem cR.below {w w':World} {v:Value} {l:List Sh} (h:cR w v l) (f:Below w.heap.size w w'):cR w' v l:=by
 obtain⟨a,c,A,g,j,s⟩:=h
 refine⟨a,c,A,g,j,fun i z=>?_⟩
 obtain⟨b,o,u,d,x⟩:=s i z
 exact⟨b,o,u,Nat.lt_of_lt_of_le d f.size,x.below d f⟩
theorem aX.below {w w':World} {v:Value} {h:Hb} (g:aX w v h) (a:Below w.heap.size w w'):aX w' v h:=by
 obtain⟨i,j,vs,rfl,c,d,f⟩:=g
 exact⟨i,j,vs,rfl,c.below a,d.below a,f.below a⟩
theorem qj (w:World):cR w (.slice none 0 0) []:=⟨none,0,rfl,ax,by decide,fun i h=>absurd h (by simp)⟩
def jN (l:List Sh):Prop:= ∀s∈l,s.na.size≤150000000000000∧dk s.jo.base∧dm 150000000000000 s.jo.cos
structure dd (h:Hb):Prop where
 fos:jN h.fos
 gs:eu h.gs
 ss:bq h.ss
def bM (s:Sh):Int:=if¬aU [s.na]=0 then aU [s.na]else aT s.jo
def iR:List Sh→Int
 |[]=>0
 |s::r=>if¬bM s=0 then bM s else iR r
def Hu.lt (a b:Sh):Bool:=Op.bytesLess a.na.toList b.na.toList
def dQ:List Sh→Bool
 |[]=>true
 |[_]=>true
 |a::b::r=>Hu.lt a b && dQ (b::r)
def Hu.cfE (l:List Sh):Int:=if 8<l.length then 2 else if¬iR l=0 then iR l else if dQ l=true then 0 else 4
theorem ln: ∀(L:List Sh),dQ L=true↔ ∀i (h:i+1<L.length),Hu.lt L[i] L[i+1]=true
 |[]=>by simp[dQ]
 |[_]=>by simp[dQ]
 |a::b::r=>by
  rw[dQ,Bool.and_eq_true,ln (b::r)];constructor
  · rintro ⟨c,d⟩ i h
    cases i with
    |zero=>exact c
    |succ i=>exact d i (by simpa using h)
  · intro h
    exact⟨h 0 (by simp),fun i f=>h (i+1) (by simpa using f)⟩
theorem qk {L:List Sh}:iR L=0↔ ∀i (h:i<L.length),bM L[i]=0:=by
 induction L with
 |nil=>simp[iR]
 |cons s r ih=>
  rw[iR];constructor
  · intro h i c
    by_cases a:bM s=0
    · rw[if_neg (fun x=>x a)]at h
      cases i with
      |zero=>exact a
      |succ i=>exact ih.1 h i (by simpa using c)
    · rw[if_pos a]at h;exact absurd h a
  · intro h
    rw[if_neg (fun x=>x (h 0 (by simp)))];exact ih.2 fun i c=>h (i+1) (by simpa using c)
theorem AR {L:List Sh} {k:Nat} (c:k<L.length) (h: ∀i (h:i<L.length),i<k→bM L[i]=0) (a: ¬bM L[k]=0):iR L=bM L[k]:=by
 induction L generalizing k with
 |nil=>exact absurd c (by simp)
 |cons s r ih=>
  rw[iR];cases k with
  |zero=>exact if_pos a
  |succ k=>
   rw[if_neg (fun x=>x (h 0 (by simp) (by omega)))];exact ih (by simpa using c) (fun i d f=>h (i+1) (by simpa using d) (by omega)) a
theorem ql {L:List Sh} (h:8<L.length):Hu.cfE L=2:=by rw[Hu.cfE,if_pos h]
theorem uB {L:List Sh} {k:Nat} (c: ¬8<L.length) (d:k<L.length) (h: ∀i (h:i<L.length),i<k→bM L[i]=0) (a: ¬bM L[k]=0):Hu.cfE L=bM L[k]:=by
 have e:=AR d h a;rw[Hu.cfE,if_neg c,e,if_pos a]
theorem uC {L:List Sh} {m:Nat} (a: ¬8<L.length) (h: ∀i (h:i<L.length),bM L[i]=0) (d:m+1<L.length) (c:Hu.lt L[m] L[m+1]=false):Hu.cfE L=4:=by
 rw[Hu.cfE,if_neg a,if_neg (fun x=>x (qk.2 h)),if_neg (fun x=>by have:=(ln L).1 x m d;rw[c]at this;cases this)]
theorem uD {L:List Sh} (a: ¬8<L.length) (h: ∀i (h:i<L.length),bM L[i]=0) (c: ∀i (h:i+1<L.length),Hu.lt L[i] L[i+1]=true):Hu.cfE L=0:=by
 rw[Hu.cfE,if_neg a,if_neg (fun x=>x (qk.2 h)),if_pos ((ln L).2 c)]
theorem Tryz.infoRF:(prog.info? 59).map (fun i=>(i.zero,i.size,i.bytes))=some (some (.agg #[.string ⟨#[]⟩,al,ah,al]),4,72):=by kernel_rfl
def Rm (w:World) (v:Value):Prop:=v= .slice none 0 0∨ ∃g n cap cur,v= .slice (some ⟨g,0,none⟩) n cap∧w.heap[g]?=some (.cells cur 59 (0,0))∧n≤cap∧cap≤maxLen∧cur.size=cap*4
theorem AS {w:World} {base:Nat} {v:Value} {n:Nat} {o:List Value} (h:w.ownsRow base 59 4 v n o):Rm w v:=by
 obtain⟨_,c⟩:=h
 rcases c with⟨rfl,_⟩|⟨g,a,cur,rfl,_,f,d,i,j,_⟩
 · exact Or.inl rfl
 · exact Or.inr ⟨g,n,a,cur,rfl,f,d,i,j⟩
theorem Rm.below {w w':World} {v:Value} (h:Rm w v) (i:Below w.heap.size w w'):Rm w' v:=by
 rcases h with h|⟨g,n,a,cur,d,c,f⟩
 · exact Or.inl h
 · exact Or.inr ⟨g,n,a,cur,d,(i.block g (fG c)).trans c,f⟩
theorem Rm.nb {w w':World} {v:Value} {g:Nat} (h:Rm w v) (j:w.grownBy w' (some g)) (i: ∀b,v.ownBlock=some b→b≠g):Rm w' v:=by
 rcases h with h|⟨b,n,a,cur,c,d,f⟩
 · exact Or.inl h
 · exact Or.inr ⟨b,n,a,cur,c,(j.block b (fG d) (fun e=>i b (by rw[c];rfl) (by injection e))).trans d,f⟩
theorem Rm.setCell {w:World} {v:Value} (h:Rm w v) (b o:Nat) (u:Value):Rm (w.setCell ⟨b,o,none⟩ u) v:=by
 rcases h with h|⟨g,n,a,cur,d,c,f,i,j⟩
 · exact Or.inl h
 · by_cases s:b=g
   · subst s
     refine Or.inr ⟨b,n,a,cur.setIfInBounds o u,d,?_,f,i,by simpa using j⟩
     unfold World.setCell;simp only[Array.getElem?_modify,c,if_true,Option.map_some];rfl
   · exact Or.inr ⟨g,n,a,cur,d,((aj w b o u).block g (fG c) (fun e=>s (by injection e with e;exact e.symm))).trans c,f,i,j⟩
theorem uE {B:Nat} {w:World} {v:Value} {R:List (List Value)} (x:bp 4 w v R) (N:Rm w v) (O:bi B w v):w.ownsRow B 59 4 v R.length R.flatten:=by
 obtain⟨a,z,rfl,S,T,G,I⟩:=x
 have d:=fs (n:=4) (fun r x=>(G r x).1);rcases N with h|⟨g,n,F,cur,h,H,J,E,P⟩
 · injection h with s e2 A
   exact⟨d,Or.inl ⟨by rw[s,e2,A],e2⟩⟩
 · injection h with s e2 A
   subst s e2 A;refine⟨d,Or.inr ⟨g,z,cur,rfl,(O g rfl).1,H,J,E,P,?_⟩⟩
   apply List.ext_getElem?
   intro j;rw[List.getElem?_take];by_cases C:j<R.length*4
   · have u:j<R.flatten.length:=by rw[d];exact C
     rw[if_pos C,show R.flatten[j]?=some R.flatten[j]from List.getElem?_eq_getElem u]
     have c:=ij (n:=4) (by decide) (w:=w) (b:=g) (o:=0) (fun r x=>(G r x).1) (fun i M=>by
      obtain⟨Q,U,f,_,K⟩:=I i M
      injection f with f
      injection f with s e2
      subst s;subst e2;exact K) j _ (List.getElem?_eq_getElem u)
     rw[Addr.add_lit,Nat.zero_add]at c;unfold World.cell? at c;simp only[H]at c;simpa using c
   · rw[if_neg C,List.getElem?_eq_none (by rw[d];omega)]
theorem AT (R:List (List Value)) (v:Value) (w:World) (hv:bp 4 w v R) (hn:R.length≤1000000000000):
    Calls prog 67 #[v] w fun e w'=> ∃u,e= .returned u∧bp 4 w' u R∧bi w.heap.size w' u∧Rm w' u∧Below w.heap.size w w':=by
 obtain⟨i0,P,T,U,V⟩:=info_parts Tryz.infoRF
 obtain⟨a,N,rfl,Z,O,C,f⟩:=hv
 have J:=hid C;have E1: ∀(w:World) (a:Option Addr) (n c X M:Nat),(binOp .eql 22 (.slice a n c) (.slice none X M)).run prog w= .ok (.bool a.isNone) w:=fun w a n c X M=>Lib.run_eql_slice_nil w _ _ a n c X M underlying22
 cases a with
 |none=>
  have hL:R=[]:=by
   cases R with
   |nil=>rfl
   |cons s r=>obtain⟨b,o,E,_⟩:=f 0 (by simp);cases E
  subst hL;clear C;go_enter func67,ntmps67
  go_wp2;go_ret;exact⟨_,rfl,⟨none,0,rfl,ax,by simp,J.out,fun i h=>absurd h (by simp)⟩,fq _ _,Or.inl rfl,aw⟩
 |some ad=>
  have d: ∀j u,R.flatten[j]?=some u→w.cell? (ad.add j)=some u:=by
   cases R with
   |nil=>intro j u Q;simp at Q
   |cons s r=>
    obtain⟨b,o,E,_⟩:=f 0 (by simp)
    injection E with E
    subst E
    exact ij (by decide) (fun r S=>(C r S).1) fun i hi=>by
     obtain⟨b',o',z,_,he⟩:=f i hi
     injection z with z
     injection z with h1 h2
     subst h1;subst h2;exact he
  have HC:=hid d;have H:=hid (fs (fun r S=>(C r S).1):R.flatten.length=R.length*4);clear d f C;go_enter func67,ntmps67
  go_wp2_with (at_builtin;refine wpList_append_own _ rfl _ _ 22 rfl w.heap.size 59 i0 (.agg #[.string ⟨#[]⟩,al,ah,al]) 4 72 underlying22 P T U V rfl (by decide) _ _ _ rfl (World.ownsRow_made w #[] 0 ax (Nat.zero_le _) (by simp)) ad R.length N R.flatten rfl ?qc1 ?qc2 ?qc3 ?qc4 ?qc5 ?qc6 ?_)
  case qc1=>exact H.out
  case qc2=>intro j u Q;exact Lib.cell?_alloc_some _ (HC.out j u Q)
  case qc3=>exact iM J.out
  case qc4=>unfold maxLen;omega
  case qc5=>omega
  case qc6=>simp
  intro v2 w2 G x F;have A:Below w.heap.size w w2:= ak.grown x (by simp) (fun k hk=>by simp[Value.ownBlock]at hk;omega);have g:w2.ownsRow w.heap.size 59 4 v2 R.length R.flatten:=by simpa using G
  have B:=hid (fJ g (by omega) J.out);have I:=hid (jk g);have K:=hid (AS g);obtain⟨a2,Y,E0,_,_,_⟩:=B.out
  clear G g x F;go_wp2;go_ret;exact⟨_,rfl,B.out,I.out,K.out,A⟩
theorem Tryz.infoRG:(prog.info? 64).map (fun i=>(i.zero,i.size,i.bytes))=some (some (.agg #[.string ⟨#[]⟩,.string ⟨#[]⟩,ah]),3,40):=by kernel_rfl
theorem AU (R:List (List Value)) (v:Value) (w:World) (hv:bp 3 w v R) (hn:R.length≤1000000000000):
    Calls prog 69 #[v] w fun e w'=> ∃u,e= .returned u∧bp 3 w' u R∧bi w.heap.size w' u∧Below w.heap.size w w':=by
 obtain⟨i0,O,S,T,U⟩:=info_parts Tryz.infoRG
 obtain⟨a,M,rfl,Y,N,C,f⟩:=hv
 have J:=hid C;have E1: ∀(w:World) (a:Option Addr) (n c V K:Nat),(binOp .eql 23 (.slice a n c) (.slice none V K)).run prog w= .ok (.bool a.isNone) w:=fun w a n c V K=>Lib.run_eql_slice_nil w _ _ a n c V K underlying23
 cases a with
 |none=>
  have hL:R=[]:=by
   cases R with
   |nil=>rfl
   |cons s r=>obtain⟨b,o,E,_⟩:=f 0 (by simp);cases E
  subst hL;clear C;go_enter func69,ntmps69
  go_wp2;go_ret;exact⟨_,rfl,⟨none,0,rfl,ax,by simp,J.out,fun i h=>absurd h (by simp)⟩,fq _ _,aw⟩
 |some ad=>
  have d: ∀j u,R.flatten[j]?=some u→w.cell? (ad.add j)=some u:=by
   cases R with
   |nil=>intro j u P;simp at P
   |cons s r=>
    obtain⟨b,o,E,_⟩:=f 0 (by simp)
    injection E with E
    subst E
    exact ij (by decide) (fun r Q=>(C r Q).1) fun i hi=>by
     obtain⟨b',o',x,_,he⟩:=f i hi
     injection x with x
     injection x with h1 h2
     subst h1;subst h2;exact he
  have HC:=hid d;have H:=hid (fs (fun r Q=>(C r Q).1):R.flatten.length=R.length*3);clear d f C;go_enter func69,ntmps69
  go_wp2_with (at_builtin;refine wpList_append_own _ rfl _ _ 23 rfl w.heap.size 64 i0 (.agg #[.string ⟨#[]⟩,.string ⟨#[]⟩,ah]) 3 40 underlying23 O S T U rfl (by decide) _ _ _ rfl (World.ownsRow_made w #[] 0 ax (Nat.zero_le _) (by simp)) ad R.length M R.flatten rfl ?qc1 ?qc2 ?qc3 ?qc4 ?qc5 ?qc6 ?_)
  case qc1=>exact H.out
  case qc2=>intro j u P;exact Lib.cell?_alloc_some _ (HC.out j u P)
  case qc3=>exact iM J.out
  case qc4=>unfold maxLen;omega
  case qc5=>omega
  case qc6=>simp
  intro v2 Z G g F;have z:Below w.heap.size w Z:= ak.grown g (by simp) (fun k hk=>by simp[Value.ownBlock]at hk;omega);have A:Z.ownsRow w.heap.size 64 3 v2 R.length R.flatten:=by simpa using G
  have B:=hid (fJ A (by omega) J.out);have I:=hid (jk A);obtain⟨a2,X,E0,_,_,_⟩:=B.out
  clear G A g F;go_wp2;go_ret;exact⟨_,rfl,B.out,I.out,z⟩
theorem Tryz.infoRS:(prog.info? 79).map (fun i=>(i.zero,i.size,i.bytes))=some (some (.agg #[ah,.string ⟨#[]⟩,.string ⟨#[]⟩,ah,ah]),5,56):=by kernel_rfl
theorem AV (R:List (List Value)) (v:Value) (w:World) (hv:bp 5 w v R) (hn:R.length≤1000000000000):
    Calls prog 70 #[v] w fun e w'=> ∃u,e= .returned u∧bp 5 w' u R∧bi w.heap.size w' u∧Below w.heap.size w w':=by
 obtain⟨i0,O,S,T,U⟩:=info_parts Tryz.infoRS
 obtain⟨a,M,rfl,Y,N,C,f⟩:=hv
 have J:=hid C;have E1: ∀(w:World) (a:Option Addr) (n c V K:Nat),(binOp .eql 24 (.slice a n c) (.slice none V K)).run prog w= .ok (.bool a.isNone) w:=fun w a n c V K=>Lib.run_eql_slice_nil w _ _ a n c V K underlying24
 cases a with
 |none=>
  have hL:R=[]:=by
   cases R with
   |nil=>rfl
   |cons s r=>obtain⟨b,o,E,_⟩:=f 0 (by simp);cases E
  subst hL;clear C;go_enter func70,ntmps70
  go_wp2;go_ret;exact⟨_,rfl,⟨none,0,rfl,ax,by simp,J.out,fun i h=>absurd h (by simp)⟩,fq _ _,aw⟩
 |some ad=>
  have d: ∀j u,R.flatten[j]?=some u→w.cell? (ad.add j)=some u:=by
   cases R with
   |nil=>intro j u P;simp at P
   |cons s r=>
    obtain⟨b,o,E,_⟩:=f 0 (by simp)
    injection E with E
    subst E
    exact ij (by decide) (fun r Q=>(C r Q).1) fun i hi=>by
     obtain⟨b',o',x,_,he⟩:=f i hi
     injection x with x
     injection x with h1 h2
     subst h1;subst h2;exact he
  have HC:=hid d;have H:=hid (fs (fun r Q=>(C r Q).1):R.flatten.length=R.length*5);clear d f C;go_enter func70,ntmps70
  go_wp2_with (at_builtin;refine wpList_append_own _ rfl _ _ 24 rfl w.heap.size 79 i0 (.agg #[ah,.string ⟨#[]⟩,.string ⟨#[]⟩,ah,ah]) 5 56 underlying24 O S T U rfl (by decide) _ _ _ rfl (World.ownsRow_made w #[] 0 ax (Nat.zero_le _) (by simp)) ad R.length M R.flatten rfl ?qc1 ?qc2 ?qc3 ?qc4 ?qc5 ?qc6 ?_)
  case qc1=>exact H.out
  case qc2=>intro j u P;exact Lib.cell?_alloc_some _ (HC.out j u P)
  case qc3=>exact iM J.out
  case qc4=>unfold maxLen;omega
  case qc5=>omega
  case qc6=>simp
  intro v2 Z G g F;have z:Below w.heap.size w Z:= ak.grown g (by simp) (fun k hk=>by simp[Value.ownBlock]at hk;omega);have A:Z.ownsRow w.heap.size 79 5 v2 R.length R.flatten:=by simpa using G
  have B:=hid (fJ A (by omega) J.out);have I:=hid (jk A);obtain⟨a2,X,E0,_,_,_⟩:=B.out
  clear G A g F;go_wp2;go_ret;exact⟨_,rfl,B.out,I.out,z⟩
theorem uF: ∀{a b:List Gr},a.Perm b→a.Pairwise (fun x y=>a7 x y=true)→b.Pairwise (fun x y=>a7 x y=true)→a=b
 |[],b,h,_,_=>by rw[List.nil_perm]at h;exact h.symm
 |x::r,b,h,h1,h2=>by
  cases b with
  |nil=>exact absurd h.length_eq (by simp)
  |cons y s=>
   have e:x=y:=by
    have c:x∈y::s:=h.subset (List.mem_cons_self ..);have d:y∈x::r:=h.symm.subset (List.mem_cons_self ..);rcases List.mem_cons.1 c with e|c
    · exact e
    · rcases List.mem_cons.1 d with e|d
      · exact e.symm
      · have f:=(List.pairwise_cons.1 h1).1 y d
        have g:=(List.pairwise_cons.1 h2).1 x c;have:=ml x y x f g
        rw[tM]at this;cases this
   subst e;rw[uF (List.perm_cons x|>.1 h) (List.pairwise_cons.1 h1).2 (List.pairwise_cons.1 h2).2]
theorem mr: ∀(L:List Gr),eb L=true↔L.Pairwise (fun x y=>a7 x y=true)
 |[]=>by simp[eb]
 |[_]=>by simp[eb]
 |a::b::r=>by
  rw[eb,Bool.and_eq_true,mr (b::r),nH];constructor
  · rintro ⟨d,f⟩
    refine List.pairwise_cons.2 ⟨fun x c=>?_,f⟩
    rcases List.mem_cons.1 c with rfl|c
    · exact d
    · exact ml _ _ _ d ((List.pairwise_cons.1 f).1 x c)
  · intro h
    exact⟨(List.pairwise_cons.1 h).1 b (by simp),(List.pairwise_cons.1 h).2⟩
theorem mu (x e:Gr):dq x e=true↔a7 e x=true∨a7 x e=true:=by
 have E:decide (bI e x<0)=a7 e x:=nH e x;have F:decide (bI x e<0)=a7 x e:=nH x e
 have key:bI e x=0↔bI x e=0:=by
  have s: ∀a b:ByteArray,bx a b=0↔bx b a=0:=by
   intro a b;rcases ir a b with⟨c,d,f,g⟩|⟨c,d,f,g⟩|⟨c,d,f,g⟩
   · simp[bx,c,d,g]
   · simp[bx,c,d,f,g]
   · simp[bx,c,d,f]
  rw[bI,bI];by_cases i:bx e.fo x.fo=0
  · have j:=(s _ _).1 i
    rw[if_pos i,if_pos j];exact s _ _
  · have j: ¬bx x.fo e.fo=0:=fun h=>i ((s _ _).1 h)
    rw[if_neg i,if_neg j];exact s _ _
 have z: ∀a b:Gr,0<bI a b→bI b a<0:=by
  intro a b h
  have B: ∀u v:ByteArray,0<bx u v→bx v u<0:=by
   intro u v o;rcases ir u v with⟨c,d,f,g⟩|⟨c,d,f,g⟩|⟨c,d,f,g⟩
   · simp[bx,c]at o
   · simp[bx,c,f]at o
   · simp[bx,d]
  have H: ∀u v:ByteArray,bx u v=0→bx v u=0:=by
   intro u v o;rcases ir u v with⟨c,d,f,g⟩|⟨c,d,f,g⟩|⟨c,d,f,g⟩
   · simp[bx,c]at o
   · simp[bx,d,g]
   · simp[bx,c,f]at o
  rw[bI]at h⊢;by_cases i:bx a.fo b.fo=0
  · rw[if_pos i]at h
    rw[if_pos (H _ _ i)];exact B _ _ h
  · rw[if_neg i]at h
    have:=B _ _ h
    rw[if_neg (by omega)];exact this
 rw[dq,←E,←F,decide_eq_true_eq,decide_eq_true_eq];constructor
 · intro h
   have A: ¬bI e x=0:=by simpa using h
   by_cases G:bI e x<0
   · exact Or.inl G
   · exact Or.inr (z e x (by omega))
 · intro h
   have A: ¬bI e x=0:=by
    rcases h with h|h
    · omega
    · intro C;have:=key.1 C;omega
   simpa using A
def dY (x:Gr):List Gr→List Gr
 |[]=>[x]
 |y::r=>if a7 y x=true then y::dY x r else x::y::r
theorem mv (x:Gr): ∀L:List Gr,(dY x L).Perm (x::L)
 |[]=>List.Perm.refl _
 |y::r=>by
  rw[dY];split
  · exact((mv x r).cons y).trans (List.Perm.swap x y r)
  · exact List.Perm.refl _
theorem uG (x:Gr): ∀{L:List Gr},L.Pairwise (fun x y=>a7 x y=true)→(∀y∈L,dq x y=true)→(dY x L).Pairwise (fun x y=>a7 x y=true)
 |[],_,_=>by simp[dY]
 |y::r,h,hne=>by
  rw[dY];split
  · rename_i f
    rw[List.pairwise_cons];refine⟨fun z a=>?_,uG x (List.pairwise_cons.1 h).2 fun z a=>hne z (List.mem_cons_of_mem _ a)⟩
    rcases List.mem_cons.1 ((mv x r).subset a)with rfl|a
    · exact f
    · exact(List.pairwise_cons.1 h).1 z a
  · rename_i f
    have c:a7 x y=true:=by
     rcases(mu x y).1 (hne y (List.mem_cons_self ..))with d|d
     · exact absurd d f
     · exact d
    rw[List.pairwise_cons];refine⟨fun z a=>?_,h⟩
    rcases List.mem_cons.1 a with rfl|a
    · exact c
    · exact ml _ _ _ c ((List.pairwise_cons.1 h).1 z a)
theorem AW {G M:List Gr} {x:Gr} (hG:G.Pairwise (fun x y=>a7 x y=true)) (i:M.Perm (bP x G++[x])) (j:M.Pairwise (fun a b=>a7 b a=false)):M=dY x (bP x G):=by
 have hF:(bP x G).Pairwise (fun x y=>a7 x y=true):=List.Pairwise.filter _ hG;have g: ∀y∈bP x G,dq x y=true:=fun y u=>(List.mem_filter.1 u).2
 have c:(bP x G++[x]).Pairwise (fun a b=>a7 a b=true∨a7 b a=true):=by
  rw[List.pairwise_append];refine⟨hF.imp fun h=>Or.inl h,by simp,fun a o b s=>?_⟩
  have:b=x:=by simpa using s
  subst this;exact(mu b a).1 (g a o)
 have f:M.Pairwise (fun a b=>a7 a b=true∨a7 b a=true):=i.symm.pairwise c (fun h=>h.symm);refine uF (i.trans ?_) ((j.and f).imp fun {a b} h=>?_) (uG x hF g)
 · exact(List.perm_append_comm).trans (mv x _).symm
 · rcases h.2 with d|d
   · exact d
   · rw[h.1]at d;cases d
theorem AX {n:Int} (h: ¬bm n=0) (L:List En) {cs:List aE} (f:0<cs.length):dG n L cs=(0,3,[]):=by
 cases cs with
 |nil=>simp at f
 |cons c r=>
  have d:bm n=3:=by
   unfold bm at h⊢;split
   · rfl
   · rename_i a;rw[if_neg a]at h;exact absurd rfl h
  rw[dG,if_neg (by rw[pW h];exact h),pW h,d]
theorem qm (L:List En) (v:Value) (cs:List aE) (u:Value) (n:Int) (w:World) (hv:aF w v L) (Y:Pp.Good L) (hu:cP w u cs) (U:dV 1000000000 cs):
    Calls prog 53 #[v,u,n] w fun e w'=> ∃r,e= .returned (.tuple #[r,ji L cs n,bw L cs n])∧(bw L cs n=0→aF w' r (ct L cs n))∧Below w.heap.size w w':=by
 have HV:=hid hv;have HL:=hid Y;have Z:=hid U;have E:=(g9 L).2 Y;obtain⟨a,E3,rfl,T,K,hC⟩:=hu
 have HC:Hid (∀i (h:i<cs.length),∃b o,a=some ⟨b,o,none⟩∧b<w.heap.size∧gI w b (o+i*5) cs[i]):=hC;clear hv U hC;by_cases O:20<cs.length
 · obtain⟨hE,g,s⟩:=mW E O n
   rw[hE,g];clear hE g s E Y;have P:20<(cs.length:Int):=by omega
   go_enter func53,ntmps53
   go_wp2;go_ret3;exact⟨_,rfl,fun h=>absurd h (by decide),aw⟩
 · have P: ¬20<(cs.length:Int):=by omega
   have f:=hid (show∀k e R,dG n L cs=(k,e,R)→bw L cs n=e∧ji L cs n=k∧ct L cs n=R from fun k e R h=>oS E O h);clear E Y;by_cases hz:cs.length=0
   · have hn:cs=[]:=List.length_eq_zero_iff.1 hz
     subst hn;obtain⟨hE,g,s⟩:=f.out _ _ _ (xZ n L)
     have A:=hid hE;have B:=hid g;have HR:=hid s;clear hE g s hz;simp only[List.length_nil]at T K⊢;go_enter func53,ntmps53
     go_wp2;go_loopw [0,9] (fun x i wr=>x=v∧i= .int .i64 0∧Below w.heap.size w wr) (fun _ _ _=>0)
     case atStart=>exact⟨rfl,rfl,aw⟩
     case round=>
      obtain⟨rfl,rfl,c⟩:=hrel
      go_wp2_with fail;go_ret3;exact⟨_,by rw[A.out,B.out];rfl,fun _=>by rw[HR.out];exact HV.out.below c,c⟩
   · have E4:0<(cs.length:Int):=by omega
     by_cases j:bm n=0
     · have N:=hid j
       clear j;go_enter func53,ntmps53
       go_wp2_with fail;refine(lh n _).mono ?_
       rintro e w1 ⟨rfl,X⟩;rw[X];clear X w1;rw[N.out];go_wp2;go_loopw [0,9] (fun x i wr=> ∃(k:Nat) (S:List En),k≤cs.length∧i= .int .i64 k∧Hid (aF wr x S)∧Hid (Pp.Good S)∧Hid (Pp.Left n L cs S k)∧Below w.heap.size w wr) (fun _ i _=>cs.length-(intOf i).toNat)
       case atStart=>exact⟨0,L,Nat.zero_le _,rfl,HV,HL,Pp.left_zero n L cs,aw⟩
       case round=>
        obtain⟨k,S,hk,rfl,HX,M,G,c⟩:=hrel
        by_cases C:k<cs.length
        · obtain⟨b,o,rfl,hb,he⟩:=HC.out k C
          obtain⟨c0,c1,c2,c3,c4⟩:=he.below hb c
          have HZ:=hid (Z.out cs[k] (List.getElem_mem C));have I:=hid (show bW S cs[k] n=0→Pp.Left n L cs (cN S cs[k] n) (k+1)from fun d=>Pp.left_next G.out C d);have J:=hid (show¬bW S cs[k] n=0→dG n L cs=(k,bW S cs[k] n,[])from fun d=>r7 G.out C d);have F:=hid (show bW S cs[k] n=0→Pp.Good (cN S cs[k] n)from fun d=>oP M.out d);clear he;generalize cs[k]=ck at*;obtain⟨kk,p,q,t,bs⟩:=ck
          simp only at c0 c1 c2 c3 c4;go_wp2_with fail;refine(AC S _ kk p q t bs n _ HX.out HZ.out.1 HZ.out.2.1 HZ.out.2.2 M.out N.out).mono ?_
          rintro e w3 ⟨u3,rfl,V,Q⟩;have H:=hid V;have z:=aG c Q;clear Q V c0 c1 c2 c3 c4 c;by_cases d:bW S ⟨kk,p,q,t,bs⟩ n=0
          · have B:=hid (I.out d)
            have E0:=hid (F.out d);have E1:=hid (H.out d);rw[d];clear d H I J F;go_wp2;go_roundw
            case rel=>exact⟨k+1,_,by omega,by simp,E1,E0,B,z⟩
            case measure=>simp[intOf];omega
          · obtain⟨hE,g,s⟩:=f.out _ _ _ (J.out d)
            have E2:(bW S ⟨kk,p,q,t,bs⟩ n==0)=false:=by simpa using d
            have A:=hid hE;have B:=hid g;have H0:=hid d;clear hE g s d H I J F;go_wp2_with fail;go_ret3;exact⟨_,by rw[A.out,B.out];rfl,fun h=>absurd (A.out▸h) H0.out,z⟩
        · obtain rfl:k=cs.length:=by omega
          obtain⟨hE,g,s⟩:=f.out _ _ _ (Pp.left_end G.out)
          have A:=hid hE;have B:=hid g;have HR:=hid s;clear hE g s;go_wp2_with fail;go_ret3;exact⟨_,by rw[A.out,B.out];rfl,fun _=>by rw[HR.out];exact HX.out,c⟩
     · obtain⟨hE,g,s⟩:=f.out _ _ _ (AX j L (by omega))
       have A:=hid hE;have B:=hid g;have E2:(bm n==0)=false:=by simpa using j
       clear hE g s;go_enter func53,ntmps53
       go_wp2_with fail;refine(lh n _).mono ?_
       rintro e w1 ⟨rfl,X⟩;rw[X];clear X w1;go_wp2_with fail;go_ret3;exact⟨_,by rw[A.out,B.out];rfl,(fun h=>by rw[A.out]at h;exact absurd h (by decide)),aw⟩
def kv (g:Gr):List Value:=[.string g.fo,.string g.wh,.int .i64 g.ri]
def ju (s:Se):List Value:=[.int .i64 s.nu,.string s.wh,.string s.tx,.int .i64 s.si,.int .i64 s.ti]
theorem iS {w:World} {v:Value} {L:List Gr}:bj w v L↔bp 3 w v (L.map kv):=by
 constructor
 · rintro ⟨a,f,C,j,s,x⟩
   refine⟨a,f,by simpa using C,by simpa using j,by simpa using s,?_,fun i B=>?_⟩
   · intro r G
     obtain⟨e,_,rfl⟩:=List.mem_map.1 G
     refine⟨rfl,fun u d=>?_⟩
     simp only[kv,List.mem_cons,List.not_mem_nil,or_false]at d;rcases d with rfl|rfl|rfl<;>rfl
   · obtain⟨b,o,z,A,g⟩:=x i (by simpa using B)
     refine⟨b,o,z,A,fun c u d=>?_⟩
     rw[List.getElem_map]at d;obtain⟨E,F,e2⟩:=g
     match c,d with
     |0,d=>simp[kv]at d;subst d;exact E
     |1,d=>simp[kv]at d;subst d;exact F
     |2,d=>simp[kv]at d;subst d;exact e2
     |c+3,d=>simp[kv]at d
 · rintro ⟨a,f,C,j,s,_,x⟩
   refine⟨a,f,by simpa using C,by simpa using j,by simpa using s,fun i B=>?_⟩
   obtain⟨b,o,z,A,g⟩:=x i (by simpa using B)
   rw[List.getElem_map]at g;exact⟨b,o,z,A,g 0 _ rfl,g 1 _ rfl,g 2 _ rfl⟩
theorem jO {w:World} {v:Value} {L:List Se}:aK w v L↔bp 5 w v (L.map ju):=by
 constructor
 · rintro ⟨a,g,C,j,s,x⟩
   refine⟨a,g,by simpa using C,by simpa using j,by simpa using s,?_,fun i B=>?_⟩
   · intro r H
     obtain⟨e,_,rfl⟩:=List.mem_map.1 H
     refine⟨rfl,fun u d=>?_⟩
     simp only[ju,List.mem_cons,List.not_mem_nil,or_false]at d;rcases d with rfl|rfl|rfl|rfl|rfl<;>rfl
   · obtain⟨b,o,z,A,f⟩:=x i (by simpa using B)
     refine⟨b,o,z,A,fun c u d=>?_⟩
     rw[List.getElem_map]at d;obtain⟨E,F,e2,G,e4⟩:=f
     match c,d with
     |0,d=>simp[ju]at d;subst d;exact E
     |1,d=>simp[ju]at d;subst d;exact F
     |2,d=>simp[ju]at d;subst d;exact e2
     |3,d=>simp[ju]at d;subst d;exact G
     |4,d=>simp[ju]at d;subst d;exact e4
     |c+5,d=>simp[ju]at d
 · rintro ⟨a,g,C,j,s,_,x⟩
   refine⟨a,g,by simpa using C,by simpa using j,by simpa using s,fun i B=>?_⟩
   obtain⟨b,o,z,A,f⟩:=x i (by simpa using B)
   rw[List.getElem_map]at f;exact⟨b,o,z,A,f 0 _ rfl,f 1 _ rfl,f 2 _ rfl,f 3 _ rfl,f 4 _ rfl⟩
def fV (c:Sh) (u:Value×Value):List Value:=[.string c.na,u.1,.int .i64 c.jo.first,u.2]
def aS (l:List Sh) (us:List (Value×Value)):List (List Value):=List.zipWith fV l us
theorem eQ {l:List Sh} {us:List (Value×Value)} (h:us.length=l.length):(aS l us).length=l.length:=by simp[aS,h]
theorem kw {l:List Sh} {us:List (Value×Value)} (h:us.length=l.length) {i:Nat} (a:i<l.length):(aS l us)[i]?=some (fV l[i] (us[i]'(by omega))):=by
 rw[aS,List.getElem?_zipWith,List.getElem?_eq_getElem a,List.getElem?_eq_getElem (by omega)]
theorem AY {l:List Sh} {us:List (Value×Value)} (h:us.length=l.length) {i:Nat} (a:i<l.length) (u:Value×Value):(aS l us).set i (fV l[i] u)=aS l (us.set i u):=by
 apply List.ext_getElem?
 intro j;rw[List.getElem?_set,aS,aS,List.getElem?_zipWith,List.getElem?_zipWith,List.getElem?_set];by_cases c:i=j
 · subst c
   have d:i<(List.zipWith fV l us).length:=by simp[h];omega
   simp[h,a,List.getElem?_eq_getElem a,show i<us.length by omega]
 · simp[c]
def lo (w:World) (l:List Sh) (us:List (Value×Value)):Prop:=us.length=l.length∧ ∀(i:Nat) (c:Sh) (u:Value×Value),l[i]?=some c→us[i]?=some u→aF w u.1 c.jo.base∧b8 w u.2 c.jo.cos
theorem qn {w:World} {v:Value} {l:List Sh} (h:cR w v l): ∃K,lo w l K∧bp 4 w v (aS l K):=by
 obtain⟨a,G,Q,M,N,O⟩:=h
 have g: ∀i:Fin l.length,∃u:Value×Value,(aF w u.1 l[i].jo.base∧b8 w u.2 l[i].jo.cos)∧ ∃b o,a=some ⟨b,o,none⟩∧b<w.heap.size∧w.cell? ⟨b,o+i*4,none⟩=some (.string l[i].na)∧w.cell? ⟨b,o+i*4+1,none⟩=some u.1∧w.cell? ⟨b,o+i*4+2,none⟩=some (.int .i64 l[i].jo.first)∧w.cell? ⟨b,o+i*4+3,none⟩=some u.2:=fun i=>by
  obtain⟨b,o,H,I,B,u,x,C,E,F,f,R⟩:=O i i.2
  exact⟨(u,x),⟨f,R⟩,b,o,H,I,B,C,E,F⟩
 have d:(List.ofFn fun i:Fin l.length=>Classical.choose (g i)).length=l.length:=by simp
 refine⟨List.ofFn (fun i:Fin l.length=>Classical.choose (g i)),⟨d,?_⟩,a,G,by rw[eQ d];exact Q,by rw[eQ d];exact M,by rw[eQ d];exact N,?_,?_⟩
 · intro i c u z f
   have s:i<l.length:=(List.getElem?_eq_some_iff.1 z).1;rw[List.getElem?_eq_getElem s]at z;injection z with z
   rw[List.getElem?_eq_getElem (by simpa using s),List.getElem_ofFn]at f;injection f with f
   rw[←z,←f];exact(Classical.choose_spec (g ⟨i,s⟩)).1
 · intro r P
   obtain⟨i,s⟩:=List.getElem?_of_mem P
   have j:i<l.length:=by
    have:=(List.getElem?_eq_some_iff.1 s).1
    rw[eQ d]at this;exact this
   rw[kw d j]at s;injection s with s
   rw[←s];refine⟨rfl,fun u f=>?_⟩
   simp only[fV,List.mem_cons,List.not_mem_nil,or_false]at f;rcases f with rfl|rfl|rfl|rfl
   · rfl
   · rw[List.getElem_ofFn]
     obtain⟨⟨_,_,J,_⟩,_⟩:=(Classical.choose_spec (g ⟨i,j⟩)).1
     rw[J];rfl
   · rfl
   · rw[List.getElem_ofFn]
     obtain⟨_,⟨_,_,J,_⟩⟩:=(Classical.choose_spec (g ⟨i,j⟩)).1
     rw[J];rfl
 · intro i s
   have j:i<l.length:=by rw[eQ d]at s;exact s
   obtain⟨b,o,H,I,B,C,E,F⟩:=(Classical.choose_spec (g ⟨i,j⟩)).2
   refine⟨b,o,H,I,fun c u f=>?_⟩
   have A:(aS l (List.ofFn fun i:Fin l.length=>Classical.choose (g i)))[i]?=some (fV l[i] (Classical.choose (g ⟨i,j⟩))):=by rw[kw d j,List.getElem_ofFn]
   rw[List.getElem?_eq_getElem s]at A;injection A with A
   rw[A]at f;match c,f with
   |0,f=>simp[fV]at f;subst f;exact B
   |1,f=>simp[fV]at f;subst f;exact C
   |2,f=>simp[fV]at f;subst f;exact E
   |3,f=>simp[fV]at f;subst f;exact F
   |c+4,f=>simp[fV]at f
theorem nK {w:World} {v:Value} {l:List Sh} {us:List (Value×Value)} (G:lo w l us) (h:bp 4 w v (aS l us)):cR w v l:=by
 obtain⟨c,s⟩:=G
 obtain⟨a,j,B,x,z,_,C⟩:=h
 rw[eQ c]at B x z;refine⟨a,j,B,x,z,fun i u=>?_⟩
 have f:i<(aS l us).length:=by rw[eQ c];exact u
 obtain⟨b,o,E,F,d⟩:=C i f
 have g:=kw c u;rw[List.getElem?_eq_getElem f]at g;injection g with g
 rw[g]at d;have A:=s i _ _ (List.getElem?_eq_getElem u) (List.getElem?_eq_getElem (by omega));exact⟨b,o,E,F,d 0 _ rfl,_,_,d 1 _ rfl,d 2 _ rfl,d 3 _ rfl,A.1,A.2⟩
def eR (B:Nat) (w:World) (v:Value) (l:List Sh):Prop:= ∃us,lo w l us∧bp 4 w v (aS l us)∧bi B w v∧ ∀(i:Nat) (c:Sh) (u:Value×Value),l[i]?=some c→us[i]?=some u→(bi B w u.1∧db B w u.2 c.jo.cos)∧ ∀b,v.ownBlock=some b→bi (b+1) w u.1∧db (b+1) w u.2 c.jo.cos
theorem eR.lies {B:Nat} {w:World} {v:Value} {l:List Sh} (h:eR B w v l):cR w v l:=by
 obtain⟨d,a,c,_⟩:=h
 exact nK a c
def fW (B:Nat) (wr:World) (l:List Sh) (us0 us:List (Value×Value)) (k:Nat):Prop:=us.length=l.length∧
 (∀(j:Nat) (c:Sh) (u:Value×Value),j<k→l[j]?=some c→us[j]?=some u→aF wr u.1 c.jo.base∧bi B wr u.1∧db B wr u.2 c.jo.cos)∧ ∀j,k≤j→us[j]?=us0[j]?
theorem fW.zero {B:Nat} {w:World} {l:List Sh} {a:List (Value×Value)} (h:a.length=l.length):fW B w l a a 0:=⟨h,fun j c u d=>absurd d (Nat.not_lt_zero _),fun j _=>rfl⟩
theorem fW.below {B:Nat} {w w':World} {l:List Sh} {a us:List (Value×Value)} {k:Nat} (h:fW B w l a us k) (i:Below w.heap.size w w'):fW B w' l a us k:=
 ⟨h.1,fun j c u f d g=>⟨(h.2.1 j c u f d g).1.below i,(h.2.1 j c u f d g).2.1.below i,(h.2.1 j c u f d g).2.2.below i⟩,h.2.2⟩
theorem fW.next {B b:Nat} {w w':World} {l:List Sh} {i us:List (Value×Value)} {k:Nat} {u:Value×Value} (h:fW B w l i us k) (I:k<l.length) (v:w.grownBy w' (some b)) (G:b<B)
    (A:aF w u.1 l[k].jo.base) (C:bi B w u.1) (E:db B w u.2 l[k].jo.cos):fW B w' l i (us.set k u) (k+1):=by
 obtain⟨J,F,K⟩:=h
 refine⟨by rw[List.length_set];exact J,fun j c y H f a=>?_,fun j H=>?_⟩
 · have keep: ∀{c:Sh} {y:Value×Value},aF w y.1 c.jo.base→bi B w y.1→db B w y.2 c.jo.cos→aF w' y.1 c.jo.base∧bi B w' y.1∧db B w' y.2 c.jo.cos:=fun o d s=>
    ⟨o.nbo v (fun x z=>by have:=(d x z).1;omega),d.nb v (fun x z=>by have:=(d x z).1;omega),s.nbo v G⟩
   by_cases g:k=j
   · subst g
     rw[List.getElem?_set_self (by omega)]at a;injection a with a
     subst a;rw[List.getElem?_eq_getElem I]at f;injection f with f
     subst f;exact keep A C E
   · rw[List.getElem?_set_ne g]at a
     obtain⟨o,d,s⟩:=F j c y (by omega) f a
     exact keep o d s
 · rw[List.getElem?_set_ne (by omega)]
   exact K j (by omega)
theorem fW.own {b:Nat} {w:World} {v:Value} {l:List Sh} {f us:List (Value×Value)} {B:Nat} (h:fW (b+1) w l f us l.length) (A:bp 4 w v (aS l us)) (z:bi B w v) (C: ∀x,v.ownBlock=some x→x=b) (o:B≤b+1):eR B w v l:=by
 obtain⟨s,j,_⟩:=h
 refine⟨us,⟨s,fun i c u a d=>?_⟩,A,z,fun i c u a d=>?_⟩
 · have g:=j i c u (List.getElem?_eq_some_iff.1 a).1 a d
   exact⟨g.1,g.2.2.lies⟩
 · have g:=j i c u (List.getElem?_eq_some_iff.1 a).1 a d
   exact⟨⟨g.2.1.mono o,g.2.2.mono o⟩,fun x E=>by rw[C x E];exact g.2⟩
theorem AZ {w:World} {a:Option Addr} {n cap b o k:Nat} {l:List Sh} {us:List (Value×Value)} {u:Value×Value} (h:bp 4 w (.slice a n cap) (aS l us)) (s:us.length=l.length) (g:a=some ⟨b,o,none⟩) (j:k<l.length) (v:u.1.oneCell'=true) (x:u.2.oneCell'=true):
    bp 4 (((w.setCell ⟨b,o+k*4+1,none⟩ u.1).setCell ⟨b,o+k*4+2,none⟩ (.int .i64 l[k].jo.first)).setCell ⟨b,o+k*4+3,none⟩ u.2) (.slice a n cap) (aS l (us.set k u)):=by
 have f:=kw s j;have d:k<(aS l us).length:=by rw[eQ s];exact j
 rw[List.getElem?_eq_getElem d]at f;injection f with f
 have z:=h.set g (i:=k) (c:=1) d (by decide) u.1 v;have A:=z.set g (i:=k) (c:=2) (by simpa using d) (by decide) (.int .i64 l[k].jo.first) rfl;have B:=A.set g (i:=k) (c:=3) (by simpa using d) (by decide) u.2 x;rw[←AY s j u];simpa[f,fV]using B
theorem eR.below {B:Nat} {w w':World} {v:Value} {l:List Sh} (h:eR B w v l) (a:Below w.heap.size w w'):eR B w' v l:=by
 obtain⟨A,⟨s,j⟩,x,z,g⟩:=h
 exact⟨A,⟨s,fun i c u d f=>⟨(j i c u d f).1.below a,(j i c u d f).2.below a⟩⟩,x.below a,z.below a,fun i c u d f=>⟨⟨(g i c u d f).1.1.below a,(g i c u d f).1.2.below a⟩,fun b o=>⟨((g i c u d f).2 b o).1.below a,((g i c u d f).2 b o).2.below a⟩⟩⟩
theorem eR.mono {B B':Nat} {w:World} {v:Value} {l:List Sh} (h:eR B w v l) (d:B'≤B):eR B' w v l:=by
 obtain⟨x,j,o,s,a⟩:=h
 exact⟨x,j,o,s.mono d,fun i c u f g=>⟨⟨(a i c u f g).1.1.mono d,(a i c u f g).1.2.mono d⟩,(a i c u f g).2⟩⟩
theorem eR.nbo {B g:Nat} {w w':World} {v:Value} {l:List Sh} (h:eR B w v l) (j:w.grownBy w' (some g)) (z:g<B):eR B w' v l:=by
 obtain⟨G,⟨A,C⟩,E,s,f⟩:=h
 have k: ∀{x:Value},bi B w x→ ∀b,x.ownBlock=some b→b≠g:=fun F b o=>by have:=(F b o).1;omega
 exact⟨G,⟨A,fun i c u a d=>⟨(C i c u a d).1.nbo j (k (f i c u a d).1.1),((f i c u a d).1.2.nbo j z).lies⟩⟩,E.nbo j (k s),s.nb j (k s),fun i c u a d=>⟨⟨(f i c u a d).1.1.nb j (k (f i c u a d).1.1),(f i c u a d).1.2.nbo j z⟩,fun b o=>⟨((f i c u a d).2 b o).1.nb j (k (f i c u a d).1.1),((f i c u a d).2 b o).2.nbo j (by have:=(s b o).1;omega)⟩⟩⟩
theorem A0 (H:Hb) (v:Value) (w:World) (hv:aX w v H) (h8:H.fos.length≤1000) (hj: ∀s∈H.fos,s.jo.cos.length≤1000∧s.jo.base.length≤1000∧ ∀c∈s.jo.cos,c.ch.length≤1000000000) (G5:H.gs.length≤1000) (G6:H.ss.length≤1000):
    Calls prog 39 #[v] w fun e w'=> ∃vf vg vs,e= .returned (.agg #[vf,vg,vs,H.nx,H.la,H.ro,H.now])∧eR w.heap.size w' vf H.fos∧(bj w' vg H.gs∧bi w.heap.size w' vg)∧(aK w' vs H.ss∧bi w.heap.size w' vs)∧(∀b,vf.ownBlock=some b→bi (b+1) w' vg∧bi (b+1) w' vs)∧Rm w' vf∧Below w.heap.size w w':=by
 obtain⟨fos,gs,ss,nx,la,ro,now⟩:=H
 simp only at h8 hj G5 G6⊢;obtain⟨vf,vg,vs,rfl,lf,lg,ls⟩:=hv
 simp only at lf lg ls;have HJ:=hid hj;have G9:=hid lf;have FG:=hid lg;have FH:=hid ls;obtain⟨A,R,Fo⟩:=qn lf
 have FE:=hid R;have F3:=hid Fo;have Fm:=R.1;have EQ:=eQ Fm;obtain⟨fa,fc,rfl,_⟩:=lf
 obtain⟨ga,gc,rfl,_⟩:=lg
 obtain⟨sa,sc,rfl,_⟩:=ls
 clear hj R Fo;obtain⟨Y,X⟩: ∃Y,Y=(w.alloc (.cells #[.slice fa fos.length fc,.slice ga gs.length gc,.slice sa ss.length sc,nx,la,ro,now] 28)).alloc (.cells  cy  28):=⟨_,rfl⟩
 have Fl:Below w.heap.size w Y:=by rw[X];exact ak.alloc (by simp) _
 have HX:=hid (show Cs Y w.heap.size [.slice fa fos.length fc,.slice ga gs.length gc,.slice sa ss.length sc,nx,la,ro,now]from by rw[X];exact(Cs.new w [.slice fa fos.length fc,.slice ga gs.length gc,.slice sa ss.length sc,nx,la,ro,now] _).below ak)
 have HY:=hid (show Cs Y (w.heap.size+1)  cy from by
  have:=Cs.new (w.alloc (.cells #[.slice fa fos.length fc,.slice ga gs.length gc,.slice sa ss.length sc,nx,la,ro,now] 28))  cy  28
  rw[X];simpa using this)
 have E3:=X.symm;have F7:=hid E3;clear X E3;go_enter func39,ntmps39
 go_upto_region 1 with fail;rw[F7.out];clear F7;have p0:=HX.out.cell 0 rfl;go_wp2_with fail;refine(AT (aS fos A) _ _ (by have:=F3.out.below Fl;simpa[EQ]using this) (by rw[EQ];omega)).mono ?_
 rintro e w1 ⟨u,rfl,E0,C,EM,EN⟩;have Gf:w.heap.size+1<Y.heap.size:=HY.out.lt;obtain⟨E,g,rfl,_⟩:=id E0
 rw[EQ]at E0 C EM⊢
 obtain⟨bb,Fk,Ge⟩: ∃bb,(∀x,(Value.slice E fos.length g).ownBlock=some x→x=bb)∧Y.heap.size≤bb:=by
  cases h:(Value.slice E fos.length g).ownBlock with
  |none=>exact⟨Y.heap.size,fun x a=>(by cases a),ax⟩
  |some y=>exact⟨y,fun x a=>(by injection a with a;exact a.symm),(C y h).1⟩
 have ET:=hid Fk;have EH:=hid (HX.out.below EN);have FT:=hid (HY.out.below EN);have Fi:=an Fl EN;obtain⟨w2,T⟩: ∃w2,w2=w1.setCell ⟨w.heap.size,0,none⟩ (.slice E fos.length g):=⟨_,rfl⟩
 have E1:w1.grownBy w2 (some w.heap.size):=by rw[T];exact aj _ _ _ _
 have EI:Hid (Cs w2 w.heap.size [.slice E fos.length g,.slice ga gs.length gc,.slice sa ss.length sc,nx,la,ro,now]):=(by rw[T];exact EH.out.set 0 _:Cs w2 w.heap.size _)
 have F9:=hid (FT.out.nb E1 (by omega));have F4:=hid (E0.nbo E1 (fun x a=>by have:=(C x a).1;omega));have EZ:=hid (C.nb E1 (fun x a=>by have:=(C x a).1;omega));have EX:=hid (EM.nb E1 (fun x a=>by have:=(C x a).1;omega));have E2:Below w.heap.size w w2:=by rw[T];exact Fi.setCell (p:=⟨w.heap.size,0,none⟩) ax _
 have q0:=EH.out.cell 0 rfl;have f0:=EH.out.fr 0;clear E0 C EM p0 Fk;go_upto_region 2 with fail;rw[←T];clear T q0 f0;have p0:=EI.out.cell 0 rfl;go_wp2;go_loopw [11] (fun i wr=> ∃(k:Nat) (Z:List (Value×Value)),k≤fos.length∧i= .int .i64 k∧Hid (Cs wr w.heap.size [.slice E fos.length g,.slice ga gs.length gc,.slice sa ss.length sc,nx,la,ro,now])∧Hid (Cs wr (w.heap.size+1)  cy )∧Hid (bp 4 wr (.slice E fos.length g) (aS fos Z))∧Hid (bi Y.heap.size wr (.slice E fos.length g))∧Hid (Rm wr (.slice E fos.length g))∧Hid (fW (bb+1) wr fos A Z k)∧Below w.heap.size w wr) (fun i _=>fos.length-(intOf i).toNat)
 case atStart=>exact⟨0,A,Nat.zero_le _,rfl,EI,F9,F4,EZ,EX,fW.zero Fm,E2⟩
 case round=>
  obtain⟨k,Z,hk,rfl,I,EL,Q,HOr,E4,G,z⟩:=hrel
  clear p0 EI F9 F4 EZ EX E2;by_cases M:k<fos.length
  · have ER:=G.out.1
    have EP:k<(aS fos Z).length:=by rw[eQ ER];exact M
    have S:=kw ER M;rw[List.getElem?_eq_getElem EP]at S;injection S with S
    obtain⟨a',G8,G7,_,_,_,Fh⟩:=id Q.out
    injection G7 with e1 e2 e3
    subst e1;clear e2 e3;obtain⟨b,o,G4,hb,he⟩:=Fh k EP
    subst G4;rw[S]at he;have c1:=he 1 _ rfl;have c2:=he 2 _ rfl;have c3:=he 3 _ rfl
    have Fp:Z[k]'(by omega)=A[k]'(by omega):=by
     have:=G.out.2.2 k ax 
     rw[List.getElem?_eq_getElem (by omega),List.getElem?_eq_getElem (by omega)]at this;injection this
    rw[Fp]at c1 c3;have hJ:=FE.out.2 k fos[k] (A[k]'(by omega)) (List.getElem?_eq_getElem M) (List.getElem?_eq_getElem (by omega));have EU:=hid (hJ.1.below z);have EV:=hid (hJ.2.below z);have E8:=hid (HJ.out fos[k] (List.getElem_mem M));obtain rfl:b=bb:=ET.out b rfl;have F5:=hid (show∀(W:World) (y:Value×Value),bp 4 W (.slice (some ⟨b,o,none⟩) fos.length g) (aS fos Z)→y.1.oneCell'=true→y.2.oneCell'=true→bp 4 (((W.setCell ⟨b,o+k*4+1,none⟩ y.1).setCell ⟨b,o+k*4+2,none⟩ (.int .i64 fos[k].jo.first)).setCell ⟨b,o+k*4+3,none⟩ y.2) (.slice (some ⟨b,o,none⟩) fos.length g) (aS fos (Z.set k y))from fun W y h h1 h2=>AZ h ER rfl M h1 h2);have EY:=hid (show∀(W W':World) (y:Value×Value),fW (b+1) W fos A Z k→W.grownBy W' (some b)→aF W y.1 fos[k].jo.base→bi (b+1) W y.1→db (b+1) W y.2 fos[k].jo.cos→fW (b+1) W' fos A (Z.set k y) (k+1)from fun W W' y h hg h1 h2 h3=>h.next M hg (Nat.lt_succ_self _) h1 h2 h3);clear S Fh he Fp hJ EP;generalize fos[k].jo=J at*;generalize A[k]'(by omega)=u0 at*;obtain⟨jb,jf,jc⟩:=J
    obtain⟨u1,u2⟩:=u0
    simp only at c1 c2 c3;obtain⟨x1,y1,rfl,_⟩:=id EU.out
    obtain⟨x2,y2,rfl,_⟩:=id EV.out
    have x0:=I.out.cell 0 rfl;have Fq:=I.out.lt;go_wp2_with fail
    go_region_with (
     go_at_call 68;refine(tX ⟨jb,jf,jc⟩ _ _ ⟨_,_,rfl,EU.out.below aw.drew,EV.out.below aw.drew⟩ E8.out.1 E8.out.2.1 E8.out.2.2).mono ?_;rintro e wa ⟨y,rfl,FZ,G2⟩;have f:Below wr.heap.size wr wa:=( aw.drew).trans G2;obtain⟨yb,yc,rfl,Fs,Ft,ES⟩:=FZ;have EW:=hid Fs;have F0:=hid Ft;have F1:=hid ES;obtain⟨xb,zb,rfl,_⟩:=Fs;obtain⟨xc,zc,rfl,_⟩:=db.lies ES;clear Ft ES;have F2:=hid (HOr.out.below f);obtain⟨_,cur,TT,F⟩:=F2.out b rfl;have Ga:wa.frozen? ⟨b,o+k*4+1,none⟩=false:=(by simp[World.frozen?,F]);have Gb:wa.frozen? ⟨b,o+k*4+2,none⟩=false:=(by simp[World.frozen?,F]);have Gc:wa.frozen? ⟨b,o+k*4+3,none⟩=false:=(by simp[World.frozen?,F]);clear F;have j0:=(f.cell (p:=⟨w.heap.size,0,none⟩) Fq).trans x0;have j1:=(f.cell (p:=⟨b,o+k*4+1,none⟩) hb).trans c1;have j2:=(f.cell (p:=⟨b,o+k*4+2,none⟩) hb).trans c2;have j3:=(f.cell (p:=⟨b,o+k*4+3,none⟩) hb).trans c3)
    all_goals
     have Gd:w.heap.size+1<b:=by have:=(HOr.out b rfl).1;omega
     obtain⟨w3,N⟩: ∃w3,w3=((wa.setCell ⟨b,o+k*4+1,none⟩ (.slice xb jb.length zb)).setCell ⟨b,o+k*4+1+1,none⟩ jf).setCell ⟨b,o+k*4+1+2,none⟩ (.slice xc jc.length zc):=⟨_,rfl⟩
     have EO:wa.grownBy w3 (some b):=by rw[N];exact ar (ar (aj _ _ _ _) (aj _ _ _ _)) (aj _ _ _ _)
     have FP:=hid (show bp 4 w3 (.slice (some ⟨b,o,none⟩) fos.length g) (aS fos (Z.set k (.slice xb jb.length zb,.slice xc jc.length zc)))from by rw[N];exact F5.out wa (.slice xb jb.length zb,.slice xc jc.length zc) (Q.out.below f) rfl rfl);have Fv:=hid (EY.out wa w3 (.slice xb jb.length zb,.slice xc jc.length zc) (G.out.below f) EO EW.out (F0.out.mono (by show b+1≤wr.heap.size;omega)) (F1.out.mono (by show b+1≤wr.heap.size;omega)));have FS:=hid ((I.out.below f).nb EO (by omega));have FU:=hid ((EL.out.below f).nb EO (by omega));have FN:=hid (show bi Y.heap.size w3 (.slice (some ⟨b,o,none⟩) fos.length g)from by rw[N];exact((F2.out.setCell _ _ _).setCell _ _ _).setCell _ _ _);have G0:Below w.heap.size w w3:=by rw[N];exact(((an z f).setCell (p:=⟨b,o+k*4+1,none⟩) (by show w.heap.size≤b;omega) _).setCell (p:=⟨b,o+k*4+1+1,none⟩) (by show w.heap.size≤b;omega) _).setCell (p:=⟨b,o+k*4+1+2,none⟩) (by show w.heap.size≤b;omega) _
     have FI:=hid (show Rm w3 (.slice (some ⟨b,o,none⟩) fos.length g)from by rw[N];exact(((E4.out.below f).setCell _ _ _).setCell _ _ _).setCell _ _ _);clear F5 EY Q G HOr E4;go_wp2_with fail;rw[←N];go_roundw
     case rel=>exact⟨k+1,_,by omega,by simp,FS,FU,FP,FN,FI,Fv,G0⟩
     case measure=>simp[intOf];omega
  · obtain rfl:k=fos.length:=by omega
    have HF:=hid (G.out.own Q.out HOr.out ET.out (by omega));have F6:Hid (∀x,(Value.slice E fos.length g).ownBlock=some x→x<wr.heap.size):=HOr.out.lt;have Fq:=I.out.lt;have Gg:=EL.out.lt;have E9:=hid (show∀x,(Value.slice E fos.length g).ownBlock=some x→Y.heap.size≤x from fun x a=>(HOr.out x a).1);clear Q HOr G F3;have p1:=I.out.cell 1 rfl;go_wp2_with fail;refine(AU (gs.map kv) _ _ (iS.1 (FG.out.below z)) (by rw[List.length_map];omega)).mono ?_
    rintro e w4 ⟨u4,rfl,Fe,Fb,K⟩;have Fa:=iS.2 Fe;have FA:=hid Fa;have E5:=hid Fb;obtain⟨g4,c4,rfl,_⟩:=Fa
    have EJ:=hid (I.out.below K);have FV:=hid (EL.out.below K);have Fw:=hid (HF.out.below K);have FJ:=hid (E4.out.below K);have s4:=K.size;obtain⟨w5,U⟩: ∃w5,w5=w4.setCell ⟨w.heap.size,1,none⟩ (.slice g4 gs.length c4):=⟨_,rfl⟩
    have g5:w4.grownBy w5 (some w.heap.size):=by rw[U];exact aj _ _ _ _
    have F8:Hid (Cs w5 w.heap.size [.slice E fos.length g,.slice g4 gs.length c4,.slice sa ss.length sc,nx,la,ro,now]):=(by rw[U];exact EJ.out.set 1 _:Cs w5 w.heap.size _)
    have FW:=hid (FV.out.nb g5 (by omega));have Fx:=hid (Fw.out.nbo g5 (by omega));have FK:=hid (FJ.out.nb g5 (fun x a=>by have:=E9.out x a;omega));have FB:=hid (iS.2 ((iS.1 FA.out).nbo g5 (fun x a=>by have:=(E5.out x a).1;omega)));have FO:=hid (E5.out.nb g5 (fun x a=>by have:=(E5.out x a).1;omega));have Fj:Below w.heap.size w w5:=by rw[U];exact(an z K).setCell (p:=⟨w.heap.size,1,none⟩) ax _
    have q1:=EJ.out.cell 1 rfl;have f1:=EJ.out.fr 1;have s5:=g5.size;clear Fe Fb p1;go_upto_region 8 with fail;rw[←U];clear U q1 f1;have p2:=F8.out.cell 2 rfl;go_wp2_with fail;refine(AV (ss.map ju) _ _ (jO.1 (FH.out.below Fj)) (by rw[List.length_map];omega)).mono ?_
    rintro e w6 ⟨u6,rfl,Ff,Fc,j⟩;have Fg:=jO.2 Ff;have FQ:=hid Fg;have E6:=hid Fc;obtain⟨g6,c6,rfl,_⟩:=Fg
    have EK:=hid (F8.out.below j);have FY:=hid (FW.out.below j);have Fy:=hid (Fx.out.below j);have FL:=hid (FK.out.below j);have FC:=hid (FB.out.below j);have E7:=hid (FO.out.below j);have s6:=j.size;obtain⟨w7,V⟩: ∃w7,w7=w6.setCell ⟨w.heap.size,2,none⟩ (.slice g6 ss.length c6):=⟨_,rfl⟩
    have g7:w6.grownBy w7 (some w.heap.size):=by rw[V];exact aj _ _ _ _
    have B:Hid (Cs w7 w.heap.size [.slice E fos.length g,.slice g4 gs.length c4,.slice g6 ss.length c6,nx,la,ro,now]):=(by rw[V];exact EK.out.set 2 _:Cs w7 w.heap.size _)
    have d:=hid (FY.out.nb g7 (by omega));have Fz:=hid (Fy.out.nbo g7 (by omega));have FM:=hid (FL.out.nb g7 (fun x a=>by have:=E9.out x a;omega));have FD:=hid (iS.2 ((iS.1 FC.out).nbo g7 (fun x a=>by have:=(E7.out x a).1;omega)));have O:=hid (E7.out.nb g7 (fun x a=>by have:=(E7.out x a).1;omega));have FR:=hid (jO.2 ((jO.1 FQ.out).nbo g7 (fun x a=>by have:=(E6.out x a).1;omega)));have P:=hid (E6.out.nb g7 (fun x a=>by have:=(E6.out x a).1;omega));have G1:Below w.heap.size w w7:=by rw[V];exact(an Fj j).setCell (p:=⟨w.heap.size,2,none⟩) ax _
    have q2:=EK.out.cell 2 rfl;have f2:=EK.out.fr 2;have s7:=g7.size;clear Ff Fc p2;go_upto_region 9 with fail;rw[←V];clear V q2 f2;have p0:=B.out.cell 0 rfl;have y0:=d.out.cell 0 rfl;have z0:=d.out.fr 0;have p1:=B.out.cell 1 rfl;have y1:=d.out.cell 1 rfl;have z1:=d.out.fr 1;have p2:=B.out.cell 2 rfl;have y2:=d.out.cell 2 rfl;have z2:=d.out.fr 2;have p3:=B.out.cell 3 rfl;have y3:=d.out.cell 3 rfl;have z3:=d.out.fr 3;have p4:=B.out.cell 4 rfl;have y4:=d.out.cell 4 rfl;have z4:=d.out.fr 4;have p5:=B.out.cell 5 rfl;have y5:=d.out.cell 5 rfl;have z5:=d.out.fr 5;have p6:=B.out.cell 6 rfl;have y6:=d.out.cell 6 rfl;have z6:=d.out.fr 6;go_wp2_with fail;have gz:w7.grownBy _ (some (w.heap.size+1)):=(ar (ar (ar (ar (ar (ar (aj w7 (w.heap.size+1) 0 (.slice E fos.length g)) (aj _ (w.heap.size+1) 1 (.slice g4 gs.length c4))) (aj _ (w.heap.size+1) 2 (.slice g6 ss.length c6))) (aj _ (w.heap.size+1) 3 nx)) (aj _ (w.heap.size+1) 4 la)) (aj _ (w.heap.size+1) 5 ro)) (aj _ (w.heap.size+1) 6 now))
    have G3:=(((((((G1.setCell (p:=⟨w.heap.size+1,0,none⟩) (by show w.heap.size≤w.heap.size+1;omega) (.slice E fos.length g)).setCell (p:=⟨w.heap.size+1,1,none⟩) (by show w.heap.size≤w.heap.size+1;omega) (.slice g4 gs.length c4)).setCell (p:=⟨w.heap.size+1,2,none⟩) (by show w.heap.size≤w.heap.size+1;omega) (.slice g6 ss.length c6)).setCell (p:=⟨w.heap.size+1,3,none⟩) (by show w.heap.size≤w.heap.size+1;omega) nx).setCell (p:=⟨w.heap.size+1,4,none⟩) (by show w.heap.size≤w.heap.size+1;omega) la).setCell (p:=⟨w.heap.size+1,5,none⟩) (by show w.heap.size≤w.heap.size+1;omega) ro).setCell (p:=⟨w.heap.size+1,6,none⟩) (by show w.heap.size≤w.heap.size+1;omega) now)
    refine bodyPost_ret (v:= .agg #[.slice E fos.length g,.slice g4 gs.length c4,.slice g6 ss.length c6,nx,la,ro,now]) (by simp[results,results39,go_sem,y0,y1,y2,y3,y4,y5,y6]) rfl ⟨_,_,_,rfl,(Fz.out.nbo gz (by omega)).mono (by omega),⟨iS.2 ((iS.1 FD.out).nbo gz (fun x a=>by have:=(O.out x a).1;omega)),(O.out.nb gz (fun x a=>by have:=(O.out x a).1;omega)).mono (by omega)⟩,⟨jO.2 ((jO.1 FR.out).nbo gz (fun x a=>by have:=(P.out x a).1;omega)),(P.out.nb gz (fun x a=>by have:=(P.out x a).1;omega)).mono (by omega)⟩,(fun b hb=>⟨(O.out.nb gz (fun x a=>by have:=(O.out x a).1;omega)).mono (by have:=F6.out b hb;omega),(P.out.nb gz (fun x a=>by have:=(P.out x a).1;omega)).mono (by have:=F6.out b hb;omega)⟩),FM.out.nb gz (fun x a=>by have:=E9.out x a;omega),G3⟩
end Go.Proofs.YtdlpjlfefjipkaaGreat
