/- Copies of entries and changes, in memory of their own. -/
import Derived.Test.YtdlpjlfefjipkaaGreatHFJ
set_option linter.unusedSimpArgs false
set_option linter.unusedVariables false
namespace Go.Proofs.YtdlpjlfefjipkaaGreat
open Go.RowKit Go.Proofs.Tryz
set_option maxHeartbeats 4000000
set_option maxRecDepth 100000
def iN (c:aE):List Value:=[.int .i64 c.k,.string c.p,.string c.q,.string c.t,.int .i64 c.b]
theorem li {w:World} {v:Value} {L:List En}:aF w v L↔bp 4 w v (L.map Pp.cells):=by
 constructor
 · rintro ⟨a,f,C,j,s,x⟩
   refine⟨a,f,by simpa using C,by simpa using j,by simpa using s,?_,fun i B=>?_⟩
   · intro r H
     obtain⟨e,_,rfl⟩:=List.mem_map.1 H
     exact⟨rfl,gH e⟩
   · obtain⟨b,o,z,A,g⟩:=x i (by simpa using B)
     refine⟨b,o,z,A,fun c u d=>?_⟩
     rw[List.getElem_map]at d;obtain⟨E,F,e2,G⟩:=g
     match c,d with
     |0,d=>simp[Pp.cells]at d;subst d;exact E
     |1,d=>simp[Pp.cells]at d;subst d;exact F
     |2,d=>simp[Pp.cells]at d;subst d;exact e2
     |3,d=>simp[Pp.cells]at d;subst d;exact G
     |c+4,d=>simp[Pp.cells]at d
 · rintro ⟨a,f,C,j,s,_,x⟩
   refine⟨a,f,by simpa using C,by simpa using j,by simpa using s,fun i B=>?_⟩
   obtain⟨b,o,z,A,g⟩:=x i (by simpa using B)
   rw[List.getElem_map]at g;exact⟨b,o,z,A,g 0 _ rfl,g 1 _ rfl,g 2 _ rfl,g 3 _ rfl⟩
theorem tB {w:World} {v:Value} {L:List aE}:cP w v L↔bp 5 w v (L.map iN):=by
 constructor
 · rintro ⟨a,g,C,j,s,x⟩
   refine⟨a,g,by simpa using C,by simpa using j,by simpa using s,?_,fun i B=>?_⟩
   · intro r H
     obtain⟨e,_,rfl⟩:=List.mem_map.1 H
     refine⟨rfl,fun u d=>?_⟩
     simp only[iN,List.mem_cons,List.not_mem_nil,or_false]at d;rcases d with rfl|rfl|rfl|rfl|rfl<;>rfl
   · obtain⟨b,o,z,A,f⟩:=x i (by simpa using B)
     refine⟨b,o,z,A,fun c u d=>?_⟩
     rw[List.getElem_map]at d;obtain⟨E,F,e2,G,e4⟩:=f
     match c,d with
     |0,d=>simp[iN]at d;subst d;exact E
     |1,d=>simp[iN]at d;subst d;exact F
     |2,d=>simp[iN]at d;subst d;exact e2
     |3,d=>simp[iN]at d;subst d;exact G
     |4,d=>simp[iN]at d;subst d;exact e4
     |c+5,d=>simp[iN]at d
 · rintro ⟨a,g,C,j,s,_,x⟩
   refine⟨a,g,by simpa using C,by simpa using j,by simpa using s,fun i B=>?_⟩
   obtain⟨b,o,z,A,f⟩:=x i (by simpa using B)
   rw[List.getElem_map]at f;exact⟨b,o,z,A,f 0 _ rfl,f 1 _ rfl,f 2 _ rfl,f 3 _ rfl,f 4 _ rfl⟩
theorem Tryz.infoRE:(prog.info? 145).map (fun i=>(i.zero,i.size,i.bytes))=some (some (.agg #[.string ⟨#[]⟩,false,.string ⟨#[]⟩,ah]),4,48):=by kernel_rfl
theorem pN (R:List (List Value)) (v:Value) (w:World) (hv:bp 4 w v R) (hn:R.length≤1000000000000):
    Calls prog 87 #[v] w fun e w'=> ∃u,e= .returned u∧bp 4 w' u R∧bi w.heap.size w' u∧Below w.heap.size w w':=by
 obtain⟨i0,O,S,T,U⟩:=info_parts Tryz.infoRE
 obtain⟨a,M,rfl,Y,N,C,f⟩:=hv
 have J:=hid C;have E1: ∀(w:World) (a:Option Addr) (n c V K:Nat),(binOp .eql 33 (.slice a n c) (.slice none V K)).run prog w= .ok (.bool a.isNone) w:=fun w a n c V K=>Lib.run_eql_slice_nil w _ _ a n c V K underlying33
 cases a with
 |none=>
  have hL:R=[]:=by
   cases R with
   |nil=>rfl
   |cons s r=>obtain⟨b,o,E,_⟩:=f 0 (by simp);cases E
  subst hL;clear C;go_enter func87,ntmps87
  go_wp2;go_ret;exact⟨_,rfl,⟨none,0,rfl,ax,by simp,J.out,fun i h=>absurd h (by simp)⟩,fq _ _,aw⟩
 |some ad=>
  have d: ∀j u,R.flatten[j]?=some u→w.cell? (ad.add j)=some u:=by
   cases R with
   |nil=>intro j u P;simp at P
   |cons s r=>
    obtain⟨b,o,E,_⟩:=f 0 (by simp)
    injection E with E
    subst E
    exact ij (by decide) (fun r Q=>(C r Q).1) fun i hi=>by
     obtain⟨b',o',x,_,he⟩:=f i hi
     injection x with x
     injection x with h1 h2
     subst h1;subst h2;exact he
  have HC:=hid d;have H:=hid (fs (fun r Q=>(C r Q).1):R.flatten.length=R.length*4);clear d f C;go_enter func87,ntmps87
  go_wp2_with (at_builtin;refine wpList_append_own _ rfl _ _ 33 rfl w.heap.size 145 i0 (.agg #[.string ⟨#[]⟩,false,.string ⟨#[]⟩,ah]) 4 48 underlying33 O S T U rfl (by decide) _ _ _ rfl (World.ownsRow_made w #[] 0 ax (Nat.zero_le _) (by simp)) ad R.length M R.flatten rfl ?qc1 ?qc2 ?qc3 ?qc4 ?qc5 ?qc6 ?_)
  case qc1=>exact H.out
  case qc2=>intro j u P;exact Lib.cell?_alloc_some _ (HC.out j u P)
  case qc3=>exact iM J.out
  case qc4=>unfold maxLen;omega
  case qc5=>omega
  case qc6=>simp
  intro v2 Z G g F;have z:Below w.heap.size w Z:= ak.grown g (by simp) (fun k hk=>by simp[Value.ownBlock]at hk;omega);have A:Z.ownsRow w.heap.size 145 4 v2 R.length R.flatten:=by simpa using G
  have B:=hid (fJ A (by omega) J.out);have I:=hid (jk A);obtain⟨a2,X,E0,_,_,_⟩:=B.out
  clear G A g F;go_wp2;go_ret;exact⟨_,rfl,B.out,I.out,z⟩
theorem Tryz.infoRC:(prog.info? 83).map (fun i=>(i.zero,i.size,i.bytes))=some (some (.agg #[ah,.string ⟨#[]⟩,.string ⟨#[]⟩,.string ⟨#[]⟩,ah]),5,64):=by kernel_rfl
theorem zC (R:List (List Value)) (v:Value) (w:World) (hv:bp 5 w v R) (hn:R.length≤1000000000000):
    Calls prog 132 #[v] w fun e w'=> ∃u,e= .returned u∧bp 5 w' u R∧bi w.heap.size w' u∧Below w.heap.size w w':=by
 obtain⟨i0,O,S,T,U⟩:=info_parts Tryz.infoRC
 obtain⟨a,M,rfl,Y,N,C,f⟩:=hv
 have J:=hid C;have E1: ∀(w:World) (a:Option Addr) (n c V K:Nat),(binOp .eql 29 (.slice a n c) (.slice none V K)).run prog w= .ok (.bool a.isNone) w:=fun w a n c V K=>Lib.run_eql_slice_nil w _ _ a n c V K underlying29
 cases a with
 |none=>
  have hL:R=[]:=by
   cases R with
   |nil=>rfl
   |cons s r=>obtain⟨b,o,E,_⟩:=f 0 (by simp);cases E
  subst hL;clear C;go_enter func132,ntmps132
  go_wp2;go_ret;exact⟨_,rfl,⟨none,0,rfl,ax,by simp,J.out,fun i h=>absurd h (by simp)⟩,fq _ _,aw⟩
 |some ad=>
  have d: ∀j u,R.flatten[j]?=some u→w.cell? (ad.add j)=some u:=by
   cases R with
   |nil=>intro j u P;simp at P
   |cons s r=>
    obtain⟨b,o,E,_⟩:=f 0 (by simp)
    injection E with E
    subst E
    exact ij (by decide) (fun r Q=>(C r Q).1) fun i hi=>by
     obtain⟨b',o',x,_,he⟩:=f i hi
     injection x with x
     injection x with h1 h2
     subst h1;subst h2;exact he
  have HC:=hid d;have H:=hid (fs (fun r Q=>(C r Q).1):R.flatten.length=R.length*5);clear d f C;go_enter func132,ntmps132
  go_wp2_with (at_builtin;refine wpList_append_own _ rfl _ _ 29 rfl w.heap.size 83 i0 (.agg #[ah,.string ⟨#[]⟩,.string ⟨#[]⟩,.string ⟨#[]⟩,ah]) 5 64 underlying29 O S T U rfl (by decide) _ _ _ rfl (World.ownsRow_made w #[] 0 ax (Nat.zero_le _) (by simp)) ad R.length M R.flatten rfl ?qc1 ?qc2 ?qc3 ?qc4 ?qc5 ?qc6 ?_)
  case qc1=>exact H.out
  case qc2=>intro j u P;exact Lib.cell?_alloc_some _ (HC.out j u P)
  case qc3=>exact iM J.out
  case qc4=>unfold maxLen;omega
  case qc5=>omega
  case qc6=>simp
  intro v2 Z G g F;have z:Below w.heap.size w Z:= ak.grown g (by simp) (fun k hk=>by simp[Value.ownBlock]at hk;omega);have A:Z.ownsRow w.heap.size 83 5 v2 R.length R.flatten:=by simpa using G
  have B:=hid (fJ A (by omega) J.out);have I:=hid (jk A);obtain⟨a2,X,E0,_,_,_⟩:=B.out
  clear G A g F;go_wp2;go_ret;exact⟨_,rfl,B.out,I.out,z⟩
theorem cP.nbo {W j:World} {v:Value} {L:List aE} {g:Nat} (h:cP W v L) (u:W.grownBy j (some g)) (C: ∀b,v.ownBlock=some b→b≠g):cP j v L:=by
 obtain⟨a,f,rfl,x,z,A⟩:=h
 refine⟨a,f,rfl,x,z,fun i B=>?_⟩
 obtain⟨b,o,rfl,s,d⟩:=A i B
 have c:=iK u s (C b rfl);exact⟨b,o,rfl,Nat.lt_of_lt_of_le s u.size,(c _).trans d.1,(c _).trans d.2.1,(c _).trans d.2.2.1,(c _).trans d.2.2.2.1,(c _).trans d.2.2.2.2⟩
theorem bi.nb {B:Nat} {w w':World} {v:Value} {g:Nat} (h:bi B w v) (i:w.grownBy w' (some g)) (f: ∀b,v.ownBlock=some b→b≠g):bi B w' v:=fun b a=>by
 obtain⟨d,cur,T,c⟩:=h b a
 exact⟨d,cur,T,(i.block b (fG c) (fun e=>f b a (by injection e))).trans c⟩
theorem bi.setCell {B:Nat} {w:World} {v:Value} (h:bi B w v) (b o:Nat) (u:Value):bi B (w.setCell ⟨b,o,none⟩ u) v:=fun g f=>by
 obtain⟨c,cur,T,a⟩:=h g f
 by_cases d:b=g
 · subst d
   refine⟨c,cur.setIfInBounds o u,T,?_⟩
   unfold World.setCell;simp only[Array.getElem?_modify,a,if_true,Option.map_some];rfl
 · exact⟨c,cur,T,((aj w b o u).block g (fG a) (fun e=>d (by injection e with e;exact e.symm))).trans a⟩
theorem aF.nbo {W j:World} {v:Value} {L:List En} {g:Nat} (h:aF W v L) (u:W.grownBy j (some g)) (C: ∀b,v.ownBlock=some b→b≠g):aF j v L:=by
 obtain⟨a,f,rfl,x,z,A⟩:=h
 refine⟨a,f,rfl,x,z,fun i B=>?_⟩
 obtain⟨b,o,rfl,s,d⟩:=A i B
 have c:=iK u s (C b rfl);exact⟨b,o,rfl,Nat.lt_of_lt_of_le s u.size,(c _).trans d.1,(c _).trans d.2.1,(c _).trans d.2.2.1,(c _).trans d.2.2.2⟩
theorem bp.nbo {n:Nat} {W j:World} {v:Value} {R:List (List Value)} {g:Nat} (h:bp n W v R) (x:W.grownBy j (some g)) (G: ∀b,v.ownBlock=some b→b≠g):bp n j v R:=by
 obtain⟨a,f,rfl,z,A,C,B⟩:=h
 refine⟨a,f,rfl,z,A,C,fun i F=>?_⟩
 obtain⟨b,o,rfl,s,E⟩:=B i F
 have c:=iK x s (G b rfl);exact⟨b,o,rfl,Nat.lt_of_lt_of_le s x.size,fun d u H=>(c _).trans (E d u H)⟩
theorem ar {a b c:World} {g:Nat} (h:a.grownBy b (some g)) (k:b.grownBy c (some g)):a.grownBy c (some g):=⟨k.os.trans h.os,k.tape.trans h.tape,k.output.trans h.output,Nat.le_trans h.size k.size,fun x f d=>(k.block x (Nat.lt_of_lt_of_le f h.size) d).trans (h.block x f d)⟩
def eb:List Gr→Bool
 |[]=>true
 |[_]=>true
 |a::b::r=>decide (bI a b<0) && eb (b::r)
theorem nw (G:List Gr):eb G=true↔ ∀k (h:k+1<G.length),bI G[k] G[k+1]<0:=by
 match G with
 |[]=>simp[eb]
 |[a]=>simp[eb]
 |a::b::r=>
  rw[eb,Bool.and_eq_true,nw (b::r)];constructor
  · intro ⟨d,f⟩ k c
    match k with
    |0=>simpa using d
    |k+1=>
     have:=f k (by simpa using c)
     simpa using this
  · intro h
    refine⟨by simpa using h 0 (by simp),fun k c=>?_⟩
    have:=h (k+1) (by simpa using c)
    simpa using this
theorem tC {G:List Gr} {k:Nat} (h:k+1<G.length) (c:0≤bI G[k] G[k+1]):eb G=false:=by
 cases a:eb G with
 |false=>rfl
 |true=>
  have:=(nw G).1 a k h
  omega
theorem zD (G:List Gr) (v:Value) (w:World) (hv:bj w v G) (hn:G.length≤1000):
    Calls prog 60 #[v] w fun e w'=>e= .returned (.bool (eb G))∧Below w.heap.size w w':=by
 obtain⟨a,Y,rfl,N,H,s⟩:=hv
 have J:Hid (∀i (h:i<G.length),∃b o,a=some ⟨b,o,none⟩∧b<w.heap.size∧em w b (o+i*3) G[i]):=s;clear s;go_enter func60,ntmps60
 go_wp2;go_loopw [3] (fun i wr=> ∃m:Nat,(m=0∨m<G.length)∧i= .int .i64 ((m:Int)+1)∧Hid (∀j (h:j+1<G.length),j<m→bI G[j] G[j+1]<0)∧Below w.heap.size w wr) (fun i _=>G.length+2-(intOf i).toNat)
 case atStart=>exact⟨0,Or.inl rfl,rfl,(fun j _ h=>absurd h (Nat.not_lt_zero _): ∀j (h:j+1<G.length),j<0→bI G[j] G[j+1]<0),aw⟩
 case round=>
  obtain⟨m,hk,rfl,K,c⟩:=hrel
  by_cases u:m+1<G.length
  · obtain⟨b,o,rfl,M,he⟩:=J.out (m+1) u
    obtain⟨b',o',E,F,I⟩:=J.out m (by omega)
    cases E
    obtain⟨U,V,X⟩:=he.below M c
    obtain⟨Z,d1,d2⟩:=I.below F c
    have f:b<wr.heap.size:=Nat.lt_of_lt_of_le M c.size;have E0:(0:Int)≤(m:Int):=by omega
    have E1:(m:Int)<(G.length:Int):=by omega
    have E2:(m:Int)+1<(G.length:Int):=by omega
    have E3:(0:Int)≤(m:Int)+1:=by omega
    have E4:((m:Int)+1).toNat=m+1:=by omega
    have E5:IntKind.i64.wrap ((m:Int)+1-1)=(m:Int):=by rw[IntKind.wrap_i64];omega
    have E6:IntKind.i64.wrap (m:Int)=(m:Int):=by rw[IntKind.wrap_i64];omega
    have O:=ac U;have P:=ac V;have Q:=ac X;have R:=ac Z;have S:=ac d1;have T:=ac d2;have A:=hid (show 0≤bI G[m] G[m+1]→false=eb G from fun h=>(tC u h).symm)
    have B:=hid (show bI G[m] G[m+1]<0→ ∀j (h:j+1<G.length),j<m+1→bI G[j] G[j+1]<0 from fun h0 j h1 h2=>by
     by_cases e:j=m
     · subst e;exact h0
     · exact K.out j h1 (by omega))
    generalize G[m]=x at*;generalize G[m+1]=y at*;go_wp2_with fail
    go_region_held3 (fun W=>W.cell? ⟨b,o+m*3,none⟩=some (.string x.fo)∧W.cell? ⟨b,o+m*3+1,none⟩=some (.string x.wh)∧W.cell? ⟨b,o+m*3+2,none⟩=some (.int .i64 x.ri)∧W.cell? ⟨b,o+(m+1)*3,none⟩=some (.string y.fo)∧W.cell? ⟨b,o+(m+1)*3+1,none⟩=some (.string y.wh)∧W.cell? ⟨b,o+(m+1)*3+2,none⟩=some (.int .i64 y.ri)) (go_keep) (first
     |(go_at_call 90;refine(td x y _).mono ?_;rintro e wa ⟨rfl,d⟩;have k0:=(d.cell (p:=⟨b,o+m*3,none⟩) f).trans R.out;have k1:=(d.cell (p:=⟨b,o+m*3+1,none⟩) f).trans S.out;have k2:=(d.cell (p:=⟨b,o+m*3+2,none⟩) f).trans T.out;have k3:=(d.cell (p:=⟨b,o+(m+1)*3,none⟩) f).trans O.out;have k4:=(d.cell (p:=⟨b,o+(m+1)*3+1,none⟩) f).trans P.out;have k5:=(d.cell (p:=⟨b,o+(m+1)*3+2,none⟩) f).trans Q.out))
    have g:Below w.heap.size w wa:=c.drew.trans (d.mono c.drew.size);by_cases hc:0≤bI x y
    · have z:=ac (A.out hc)
      go_wp2;go_ret;exact⟨br z.out,g⟩
    · have C:=ac (B.out (by omega))
      go_wp2;go_roundw
      case rel=>exact⟨m+1,by omega,by simp,C,g⟩
      case measure=>simp[intOf];omega
  · have z:=hid (show true=eb G from((nw G).2 fun j h=>K.out j h (by omega)).symm)
    go_wp2;go_ret;exact⟨br z.out,c⟩
def gn (w:World) (g:Nat) (cb:Array Value) (pr:Gr→Bool):Prop:=
 (∀args w,(callFunc g args).run prog w= .ok (.enter g args) w)∧
 ∀(W:World),Below w.heap.size w W→ ∀e:Gr,Calls prog g (#[.agg #[.string e.fo,.string e.wh,.int .i64 e.ri]]++cb) W fun r W'=>r= .returned (.bool (pr e))∧Below W.heap.size W W'
theorem gn.below {w w':World} {g:Nat} {a:Array Value} {d:Gr→Bool} (h:gn w g a d) (c:Below w.heap.size w w'):gn w' g a d:=
 ⟨h.1,fun W f=>h.2 W (c.trans (f.mono c.size))⟩
def ip (G:List Gr) (pr:Gr→Bool):Int:=match G.findIdx? pr with
 |some i=>(i:Int)
 |none=> -1
theorem zE {G:List Gr} {a:Gr→Bool} {k:Nat} (c:k<G.length) (h: ∀j (h:j<G.length),j<k→a G[j]=false) (f:a G[k]=true):(k:Int)=ip G a:=by
 have:G.findIdx? a=some k:=List.findIdx?_eq_some_iff_getElem.2 ⟨c,f,fun j d=>by rw[h j (by omega) d];simp⟩
 rw[ip,this]
theorem zG {G:List Gr} {a:Gr→Bool} (h: ∀j (h:j<G.length),a G[j]=false): -1=ip G a:=by
 have:G.findIdx? a=none:=List.findIdx?_eq_none_iff.2 fun x d=>by
  obtain⟨j,c,rfl⟩:=List.getElem_of_mem d
  exact h j c
 rw[ip,this]
theorem tD (G:List Gr) (c:Gr→Bool):(ip G c= -1∧G.find? c=none∧G.any c=false)∨ ∃k,∃h:k<G.length,ip G c=(k:Int)∧G.find? c=some G[k]∧G.any c=true:=by
 cases f:G.findIdx? c with
 |none=>
  have i:=List.findIdx?_eq_none_iff.1 f;refine Or.inl ⟨by rw[ip,f],?_,?_⟩
  · rw[List.find?_eq_none]
    intro x g;simp[i x g]
  · exact List.any_eq_false.2 fun x g=>by simp[i x g]
 |some k=>
  obtain⟨a,o,d⟩:=List.findIdx?_eq_some_iff_getElem.1 f
  refine Or.inr ⟨k,a,by rw[ip,f],?_,List.any_eq_true.2 ⟨G[k],List.getElem_mem a,o⟩⟩
  rw[List.find?_eq_some_iff_getElem];exact⟨o,k,a,rfl,fun j s=>by have:=d j s;simpa using this⟩
theorem ny (G:List Gr) (v:Value) (g:Nat) (F:Array Value) (f:Gr→Bool) (w:World) (T:bj w v G) (E:gn w g F f):
    Calls prog 133 #[v,.func (.func g) #[] F] w fun e w'=>e= .returned (.int .i64 (ip G f))∧Below w.heap.size w w':=by
 obtain⟨a,P,rfl,H,C,s⟩:=T
 have K:Hid (∀i (h:i<G.length),∃b o,a=some ⟨b,o,none⟩∧b<w.heap.size∧em w b (o+i*3) G[i]):=s;have J:=ac E;have U:=E.1;clear s E;go_enter func133,ntmps133
 go_wp2;go_loopw [8] (fun i wr=> ∃k:Nat,k≤G.length∧i= .int .i64 k∧Hid (∀j (h:j<G.length),j<k→f G[j]=false)∧Below w.heap.size w wr) (fun i _=>G.length-(intOf i).toNat)
 case atStart=>exact⟨0,Nat.zero_le _,rfl,(fun j _ h=>absurd h (Nat.not_lt_zero _): ∀j (h:j<G.length),j<0→f G[j]=false),aw⟩
 case round=>
  obtain⟨k,X,rfl,A,c⟩:=hrel
  by_cases x:k<G.length
  · obtain⟨b,o,rfl,R,S⟩:=K.out k x
    obtain⟨M,N,O⟩:=S.below R c
    go_wp2_with fail;refine(J.out.2 _ c G[k]).mono ?_
    rintro e Y ⟨rfl,u⟩;have d:=aG c u;clear M N O c u;cases I:f G[k]with
    |true=>
     have z:=hid (show(k:Int)=ip G f from zE x A.out I);go_wp2;go_ret;exact⟨aB z.out,d⟩
    |false=>
     have B:=hid (show∀j (h:j<G.length),j<k+1→f G[j]=false from fun j Q V=>by
      by_cases e:j=k
      · subst e;exact I
      · exact A.out j Q (by omega))
     go_wp2;go_roundw
     case rel=>exact⟨k+1,by omega,by simp,B,d⟩
     case measure=>simp[intOf];omega
  · have z:=hid (show-1=ip G f from zG (fun j h=>A.out j h (by omega)))
    go_wp2;go_ret;exact⟨aB z.out,c⟩
theorem zH (G:List Gr) (v:Value) (g:Nat) (u:Array Value) (f:Gr→Bool) (w:World) (z:bj w v G) (x:gn w g u f):
    Calls prog 156 #[v,.func (.func g) #[] u] w fun e w'=>e= .returned (.bool (G.any f))∧Below w.heap.size w w':=by
 have s:=ac z;have o:=ac x;clear z x;rcases tD G f with⟨d,_,c⟩|⟨k,B,d,_,c⟩
 · have j:=ac d
   have i:=ac c;clear d c;go_enter func156,ntmps156
   go_wp2_with fail;refine(ny G _ _ _ f _ s.out o.out).mono ?_
   rintro e A ⟨rfl,a⟩;rw[j.out];go_wp2;go_ret;exact⟨by rw[i.out];rfl,a⟩
 · have j:=ac d
   have i:=ac c;clear d c;go_enter func156,ntmps156
   go_wp2_with fail;refine(ny G _ _ _ f _ s.out o.out).mono ?_
   rintro e A ⟨rfl,a⟩;rw[j.out];go_wp2;go_ret;exact⟨by rw[i.out];rfl,a⟩
theorem pO (G:List Gr) (v:Value) (g:Nat) (f:Array Value) (a:Gr→Bool) (w:World) (j:bj w v G) (i:gn w g f a):
    Calls prog 128 #[v,.func (.func g) #[] f] w fun e w'=>e= .returned (.bool (G.any a))∧Below w.heap.size w w':=by
 have u:=ac j;have o:=ac i;clear j i;go_enter func128,ntmps128
 go_wp2_with fail;refine(zH G _ _ _ a _ u.out o.out).mono ?_
 rintro e x ⟨rfl,c⟩;obtain⟨r,d⟩: ∃r,G.any a=r:=⟨_,rfl⟩
 rw[d];have s:=ac d;clear d;go_wp2;go_ret;exact⟨by rw[s.out];rfl,c⟩
def eo (f:ByteArray) (e:Gr):Bool:=e.fo.toList==f.toList
def cF (f:ByteArray) (e:Gr):Bool:=(e.fo.toList==f.toList) && (e.ri==3)
def dI (f h:ByteArray) (e:Gr):Bool:=(e.fo.toList==f.toList) && (e.wh.toList==h.toList)
theorem zI (e:Gr) (f:ByteArray) (b:Nat) (w:World) (d:b<w.heap.size) (g:w.cell? ⟨b,0,none⟩=some (.string f)):
    Calls prog 129 #[.agg #[e.fo,e.wh,e.ri],.pointer (some ⟨b,0,none⟩)] w fun r w'=>r= .returned (.bool (cF f e))∧Below w.heap.size w w':=by
 have i: ∀o,(w.alloc o).cell? ⟨b,0,none⟩=some (.string f):=fun o=>(((Below.refl w.heap.size w).alloc ax o).cell (p:=⟨b,0,none⟩) d).trans g
 cases c:(e.fo.toList==f.toList)with
 |true=>
  have a:=hid (show(e.ri==3)=cF f e from by rw[cF,c];rfl);go_enter func129,ntmps129
  go_wp2;go_ret;exact⟨br a.out,ak⟩
 |false=>
  have a:=hid (show false=cF f e from by rw[cF,c];rfl);go_enter func129,ntmps129
  go_wp2;go_ret;exact⟨br a.out,ak⟩
theorem nA (G:List Gr) (v:Value) (f:ByteArray) (w:World) (j:bj w v G):
    Calls prog 91 #[v,f] w fun e w'=>e= .returned (.bool (G.any (cF f)))∧Below w.heap.size w w':=by
 have u:=ac j;clear j
 have g:gn (w.alloc (.cells #[f] 9)) 129 #[.pointer (some ⟨w.heap.size,0,none⟩)] (cF f):=by
  refine⟨enters_of func129 (by kernel_rfl) rfl,fun W i e=>?_⟩
  exact zI e f w.heap.size W (Nat.lt_of_lt_of_le (by simp) i.size) ((i.cell (p:=⟨w.heap.size,0,none⟩) (by simp)).trans (by simp))
 have s:=ac g;clear g;go_enter func91,ntmps91
 go_wp2_with fail;refine(pO G _ _ _ (cF f) _ (u.out.below ak) s.out).mono ?_
 rintro e x ⟨rfl,a⟩;have c:=(xu a).2.1;obtain⟨r,d⟩: ∃r,G.any (cF f)=r:=⟨_,rfl⟩
 rw[d];have o:=ac d;clear d;go_wp2;go_ret;exact⟨by rw[o.out];rfl,c⟩
def eP:List Gr→Int
 |[]=>0
 |g::r=>if b9 g=0 then eP r else b9 g
theorem pP: ∀{G:List Gr} {k:Nat} (a:k<G.length),(∀j (h:j<G.length),j<k→b9 G[j]=0)→ ¬b9 G[k]=0→eP G=b9 G[k]
 |[],k,a,_,_=>absurd a (by simp)
 |g::r,0,_,_,hk=>by rw[eP,if_neg (show¬b9 g=0 from hk)];rfl
 |g::r,k+1,a,h,hk=>by
  rw[eP,if_pos (show b9 g=0 from h 0 (by simp) (by omega))];have:=pP (G:=r) (k:=k) (by simpa using a) (fun j c d=>h (j+1) (by simpa using c) (by omega)) hk
  rw[this];rfl
theorem pQ: ∀{G:List Gr},(∀j (h:j<G.length),b9 G[j]=0)→eP G=0
 |[],_=>rfl
 |g::r,h=>by
  rw[eP,if_pos (show b9 g=0 from h 0 (by simp))];exact pQ fun j a=>h (j+1) (by simpa using a)
def iq (G:List Gr):Int:=if(G.all fun g=>G.any (cF g.fo))=true then 0 else 5
def bh (G:List Gr):Int:=if 60<G.length then 2 else if¬eP G=0 then eP G else if eb G=false then 4 else iq G
theorem pR {G:List Gr} (h:60<G.length):bh G=2:=if_pos h
theorem pS {G:List Gr} (h: ¬60<G.length) (a: ¬eP G=0):bh G=eP G:=by rw[bh,if_neg h,if_pos a]
theorem pT {G:List Gr} (h: ¬60<G.length) (a:eP G=0) (c:eb G=false):bh G=4:=by rw[bh,if_neg h,if_neg (fun x=>x a),if_pos c]
theorem pU {G:List Gr} (h: ¬60<G.length) (a:eP G=0) (c:eb G=true):bh G=iq G:=by rw[bh,if_neg h,if_neg (fun x=>x a),if_neg (by rw[c];decide)]
theorem tE {G:List Gr} {k:Nat} (a:k<G.length) (h:G.any (cF (G[k]).fo)=false):5=iq G:=by
 rw[iq,if_neg];rw[List.all_eq_true];intro c;have:=c G[k] (List.getElem_mem a)
 rw[h]at this;cases this
theorem tF {G:List Gr} (h: ∀j (h:j<G.length),G.any (cF (G[j]).fo)=true):0=iq G:=by
 rw[iq,if_pos];rw[List.all_eq_true];intro x c;obtain⟨j,a,rfl⟩:=List.getElem_of_mem c
 exact h j a
theorem zJ (G:List Gr) (v:Value) (w:World) (H:bj w v G):
    Calls prog 61 #[v] w fun e w'=>e= .returned (.int .i64 (iq G))∧Below w.heap.size w w':=by
 have J:=ac H;obtain⟨a,O,rfl,E,B,g⟩:=H
 have I:Hid (∀i (h:i<G.length),∃b o,a=some ⟨b,o,none⟩∧b<w.heap.size∧em w b (o+i*3) G[i]):=g;clear g;go_enter func61,ntmps61
 go_wp2;go_loopw [7] (fun i wr=> ∃k:Nat,k≤G.length∧i= .int .i64 k∧Hid (∀j (h:j<G.length),j<k→G.any (cF (G[j]).fo)=true)∧Below w.heap.size w wr) (fun i _=>G.length-(intOf i).toNat)
 case atStart=>exact⟨0,Nat.zero_le _,rfl,(fun j _ h=>absurd h (Nat.not_lt_zero _): ∀j (h:j<G.length),j<0→G.any (cF (G[j]).fo)=true),aw⟩
 case round=>
  obtain⟨k,Y,rfl,C,c⟩:=hrel
  by_cases u:k<G.length
  · obtain⟨b,o,rfl,T,U⟩:=I.out k u
    obtain⟨K,M,N⟩:=U.below T c
    have V:=c.size;go_wp2_with fail;refine(nA G _ (G[k]).fo _ (J.out.below (c.alloc c.size _))).mono ?_
    rintro e Z ⟨rfl,s⟩;obtain⟨P,Q,R,f,F⟩:=ey s
    have d:=aG c f;clear K M N c s f P Q R;cases x:G.any (cF (G[k]).fo)with
    |true=>
     have A:=hid (show∀j (h:j<G.length),j<k+1→G.any (cF (G[j]).fo)=true from fun j S X=>by
      by_cases e:j=k
      · subst e;exact x
      · exact C.out j S (by omega))
     clear x;go_wp2;go_roundw
     case rel=>exact⟨k+1,by omega,by simp,A,d⟩
     case measure=>simp[intOf];omega
    |false=>
     have z:=hid (show 5=iq G from tE u x);clear x;go_wp2;go_ret;exact⟨aB z.out,d⟩
  · have z:=hid (show 0=iq G from tF (fun j h=>C.out j h (by omega)))
    go_wp2;go_ret;exact⟨aB z.out,c⟩
theorem pV (G:List Gr) (v:Value) (w:World) (Q:bj w v G) (P:eu G):
    Calls prog 36 #[v] w fun e w'=>e= .returned (.int .i64 (bh G))∧Below w.heap.size w w':=by
 have N:=ac Q;have S:=ac P;obtain⟨a,X,rfl,O,K,C⟩:=Q
 have R:Hid (∀i (h:i<G.length),∃b o,a=some ⟨b,o,none⟩∧b<w.heap.size∧em w b (o+i*3) G[i]):=C;clear C P;by_cases g:60<G.length
 · have s:=hid (show 2=bh G from(pR g).symm)
   have B:60<(G.length:Int):=by omega
   go_enter func36,ntmps36
   go_wp2;go_ret;exact⟨aB s.out,aw⟩
 · have B: ¬60<(G.length:Int):=by omega
   go_enter func36,ntmps36
   go_wp2;go_loopw [11] (fun i wr=> ∃k:Nat,k≤G.length∧i= .int .i64 k∧Hid (∀j (h:j<G.length),j<k→b9 G[j]=0)∧Below w.heap.size w wr) (fun i _=>G.length-(intOf i).toNat)
   case atStart=>exact⟨0,Nat.zero_le _,rfl,(fun j _ h=>absurd h (Nat.not_lt_zero _): ∀j (h:j<G.length),j<0→b9 G[j]=0),aw⟩
   case round=>
    obtain⟨k,hk,rfl,F,d⟩:=hrel
    by_cases u:k<G.length
    · obtain⟨b,o,rfl,Z,he⟩:=R.out k u
      obtain⟨T,U,V⟩:=he.below Z d
      have E:=S.out _ (List.getElem_mem u);go_wp2_with fail;refine(zj G[k] _ E.1 E.2).mono ?_
      rintro e w1 ⟨rfl,f⟩
      first
       |(have c:=aG d f)
       |(have c:=aG d (ey f).2.2.2.1)
      clear T U V d f;by_cases z:b9 G[k]=0
      · rw[z]
        have I:=hid (show∀j (h:j<G.length),j<k+1→b9 G[j]=0 from fun j Y h2=>by
         by_cases e:j=k
         · subst e;exact z
         · exact F.out j Y (by omega))
        clear z;go_wp2;go_roundw
        case rel=>exact⟨k+1,by omega,by simp,I,c⟩
        case measure=>simp[intOf];omega
      · have M:=pP u F.out z
        have s:=hid (show b9 G[k]=bh G from by rw[pS g (by rw[M];exact z),M]);have hz:(b9 G[k]==0)=false:=by simpa using z
        clear M z;generalize b9 G[k]=x at*;go_wp2;go_ret;exact⟨aB s.out,c⟩
    · have A:=ac (pQ (fun j h=>F.out j h (by omega)))
      clear F;go_wp2_with fail;refine(zD G _ _ (N.out.below d) (by omega)).mono ?_
      rintro e w1 ⟨rfl,f⟩;have c:=aG d f;clear d f;cases H:eb G with
      |false=>
       have s:=hid (show 4=bh G from(pT g A.out H).symm);clear H;go_wp2;go_ret;exact⟨aB s.out,c⟩
      |true=>
       have s:=hid (show iq G=bh G from(pU g A.out H).symm);clear H;go_wp2_with fail;refine(zJ G _ _ (N.out.below c)).mono ?_
       rintro e w2 ⟨rfl,J⟩;go_wp2;go_ret;exact⟨aB s.out,aG c J⟩
theorem ir (x y:ByteArray):(Op.bytesLess x.toList y.toList=true∧Op.bytesLess y.toList x.toList=false∧(x.toList==y.toList)=false∧(y.toList==x.toList)=false)∨
    (Op.bytesLess x.toList y.toList=false∧Op.bytesLess y.toList x.toList=false∧(x.toList==y.toList)=true∧(y.toList==x.toList)=true)∨
    (Op.bytesLess x.toList y.toList=false∧Op.bytesLess y.toList x.toList=true∧(x.toList==y.toList)=false∧(y.toList==x.toList)=false):=by
 have d: ∀z:ByteArray,Op.bytesLess z.toList z.toList=false:=fun z=>dU ⟨z,false,z,0⟩
 have i:Op.bytesLess x.toList y.toList=true→Op.bytesLess y.toList x.toList=true→False:=fun f c=>by
  have:=fY ⟨x,false,x,0⟩ ⟨y,false,y,0⟩ ⟨x,false,x,0⟩ f c
  have g:=d x;rw[show Op.bytesLess x.toList x.toList=Pp.lt ⟨x,false,x,0⟩ ⟨x,false,x,0⟩from rfl,this]at g;cases g
 have ne: ∀a b:ByteArray,Op.bytesLess a.toList b.toList=true→(a.toList==b.toList)=false∧(b.toList==a.toList)=false:=fun a b h=>by
  constructor<;>(rw[beq_eq_false_iff_ne];intro e)
  · rw[e]at h;rw[d b]at h;cases h
  · rw[e]at h;rw[d a]at h;cases h
 cases f:Op.bytesLess x.toList y.toList with
 |true=>
  have c:Op.bytesLess y.toList x.toList=false:=by
   cases c:Op.bytesLess y.toList x.toList with
   |false=>rfl
   |true=>exact(i f c).elim
  exact Or.inl ⟨rfl,c,(ne x y f).1,(ne x y f).2⟩
 |false=>
  cases c:Op.bytesLess y.toList x.toList with
  |true=>exact Or.inr (Or.inr ⟨rfl,rfl,(ne y x c).2,(ne y x c).1⟩)
  |false=>
   have e:x.data.toList=y.data.toList:=kS (x:=⟨x,false,x,0⟩) (y:=⟨y,false,y,0⟩) f c;refine Or.inr (Or.inl ⟨rfl,rfl,?_,?_⟩)
   · rw[Lib.toList_data,Lib.toList_data,e];simp
   · rw[Lib.toList_data,Lib.toList_data,e];simp
theorem gp (G:List Gr) (v:Value) (f:ByteArray) (w:World) (S:bj w v G):
    Calls prog 44 #[v,f] w fun e w'=>e= .returned (.bool (G.any (cF f)))∧Below w.heap.size w w':=by
 obtain⟨a,M,rfl,I,B,s⟩:=S
 have J:Hid (∀i (h:i<G.length),∃b o,a=some ⟨b,o,none⟩∧b<w.heap.size∧em w b (o+i*3) G[i]):=s;clear s;obtain⟨r,C⟩: ∃r,r=G.any (cF f):=⟨_,rfl⟩
 rw[←C];have H:=ac C;clear C;go_enter func44,ntmps44
 go_wp2;go_loopw [5] (fun i wr=> ∃k:Nat,k≤G.length∧i= .int .i64 k∧Hid (∀j (h:j<G.length),j<k→cF f G[j]=false)∧Below w.heap.size w wr) (fun i _=>G.length-(intOf i).toNat)
 case atStart=>exact⟨0,Nat.zero_le _,rfl,(fun j _ h=>absurd h (Nat.not_lt_zero _): ∀j (h:j<G.length),j<0→cF f G[j]=false),aw⟩
 case round=>
  obtain⟨k,Y,rfl,F,c⟩:=hrel
  by_cases u:k<G.length
  · obtain⟨b,o,rfl,O,P⟩:=J.out k u
    obtain⟨U,V,X⟩:=P.below O c
    have K:=hid (show cF f G[k]=true→true=r from fun h=>by rw[H.out];exact(List.any_eq_true.2 ⟨G[k],List.getElem_mem u,h⟩).symm)
    have E:=hid (show cF f G[k]=false→ ∀j (h:j<G.length),j<k+1→cF f G[j]=false from fun R j g A=>by
     by_cases e:j=k
     · subst e;exact R
     · exact F.out j g (by omega))
    generalize G[k]=x at*;cases g:(x.fo.toList==f.toList)with
    |true=>
     by_cases A:x.ri=3
     · have z:=ac (K.out (by rw[cF,g,A];rfl))
       go_wp2;go_ret;exact⟨br z.out,c⟩
     · have N:(x.ri==3)=false:=by simpa using A
       have d:=ac (E.out (by rw[cF,g,N];rfl));go_wp2;go_roundw
       case rel=>exact⟨k+1,by omega,by simp,d,c⟩
       case measure=>simp[intOf];omega
    |false=>
     have d:=ac (E.out (by rw[cF,g];rfl));go_wp2;go_roundw
     case rel=>exact⟨k+1,by omega,by simp,d,c⟩
     case measure=>simp[intOf];omega
  · have z:=hid (show false=r from by
     rw[H.out];symm
     rw[List.any_eq_false];intro x T;obtain⟨j,Q,rfl⟩:=List.getElem_of_mem T
     rw[F.out j Q (by omega)];decide)
    go_wp2;go_ret;exact⟨br z.out,c⟩
theorem nB {a b:Gr} (h:Op.bytesLess a.fo.toList b.fo.toList=true∨((a.fo.toList==b.fo.toList)=true∧Op.bytesLess a.fo.toList b.fo.toList=false∧Op.bytesLess a.wh.toList b.wh.toList=true)):bI a b<0:=by
 rcases h with h|⟨c,d,f⟩
 · rw[bI,if_neg (by rw[bx,if_pos h];decide),bx,if_pos h];decide
 · rw[bI,if_pos (by rw[bx,if_neg (by rw[d];decide),if_pos c]),bx,if_pos f];decide
theorem lj {a b:Gr} (h:(Op.bytesLess a.fo.toList b.fo.toList=false∧(a.fo.toList==b.fo.toList)=false)∨((a.fo.toList==b.fo.toList)=true∧Op.bytesLess a.fo.toList b.fo.toList=false∧Op.bytesLess a.wh.toList b.wh.toList=false)):0≤bI a b:=by
 rcases h with⟨c,d⟩|⟨c,d,f⟩
 · have:bx a.fo b.fo=1:=by rw[bx,if_neg (by rw[c];decide),if_neg (by rw[d];decide)]
   rw[bI,if_neg (by rw[this];decide),this];decide
 · rw[bI,if_pos (by rw[bx,if_neg (by rw[d];decide),if_pos c]),bx,if_neg (by rw[f];decide)]
   split<;>decide
theorem zK (G:List Gr) (v:Value) (w:World) (hv:bj w v G) (hs:eu G):
    Calls prog 14 #[v] w fun e w'=>e= .returned (.int .i64 (bh G))∧Below w.heap.size w w':=by
 have HV:=ac hv;have HS:=ac hs;obtain⟨a,E9,rfl,E8,E6,V⟩:=hv
 have HL:Hid (∀i (h:i<G.length),∃b o,a=some ⟨b,o,none⟩∧b<w.heap.size∧em w b (o+i*3) G[i]):=V;clear V hs;by_cases E:60<G.length
 · have s:=hid (show 2=bh G from(pR E).symm)
   have U:60<(G.length:Int):=by omega
   go_enter func14,ntmps14
   go_wp2;go_ret;exact⟨aB s.out,aw⟩
 · have U: ¬60<(G.length:Int):=by omega
   go_enter func14,ntmps14
   go_wp2;go_loopw [3] (fun i wr=> ∃k:Nat,k≤G.length∧i= .int .i64 k∧Hid (∀j (h:j<G.length),j<k→b9 G[j]=0)∧Below w.heap.size w wr) (fun i _=>G.length-(intOf i).toNat)
   case atStart=>exact⟨0,Nat.zero_le _,rfl,(fun j _ h=>absurd h (Nat.not_lt_zero _): ∀j (h:j<G.length),j<0→b9 G[j]=0),aw⟩
   case round=>
    obtain⟨k,hk,rfl,B,c⟩:=hrel
    by_cases K:k<G.length
    · obtain⟨b,o,rfl,X,Z⟩:=HL.out k K
      obtain⟨c0,c1,c2⟩:=Z.below X c
      have E3:=HS.out _ (List.getElem_mem K)
      have u:=hid (show¬b9 G[k]=0→b9 G[k]=bh G from fun F=>by
       have g:=pP K B.out F;rw[pS E (by rw[g];exact F),g])
      have T:=hid (show b9 G[k]=0→ ∀j (h:j<G.length),j<k+1→b9 G[j]=0 from fun F j J h2=>by
       by_cases e:j=k
       · subst e;exact F
       · exact B.out j J (by omega))
      generalize G[k]=x at*;go_wp2_with fail;refine(aM x.fo _ E3.1).mono ?_
      rintro e w1 ⟨rfl,hw⟩;rw[hw];clear hw w1;cases M:aA x.fo.data.toList with
      |false=>
       have g:b9 x=1:=by rw[b9,if_neg (by rw[jr,M,Bool.false_and];decide)]
       have s:=hid (show 1=bh G from by rw[←g];exact u.out (by rw[g];decide));clear g;go_wp2;go_ret;exact⟨aB s.out,c⟩
      |true=>
       go_wp2_with fail;refine(aM x.wh _ E3.2).mono ?_
       rintro e w1 ⟨rfl,hw⟩;rw[hw];clear hw w1;cases E2:aA x.wh.data.toList with
       |false=>
        have g:b9 x=1:=by rw[b9,if_neg (by rw[jr,M,E2];decide)]
        have s:=hid (show 1=bh G from by rw[←g];exact u.out (by rw[g];decide));clear g;go_wp2;go_ret;exact⟨aB s.out,c⟩
       |true=>
        have A:b9 x=if x.ri<1∨3<x.ri then 3 else 0:=by rw[b9,if_pos (by rw[jr,M,E2];rfl)]
        by_cases J:x.ri<1
        · have g:b9 x=3:=by rw[A,if_pos (Or.inl J)]
          have s:=hid (show 3=bh G from by rw[←g];exact u.out (by rw[g];decide));clear g A;go_wp2;go_ret;exact⟨aB s.out,c⟩
        · by_cases h3:3<x.ri
          · have g:b9 x=3:=by rw[A,if_pos (Or.inr h3)]
            have s:=hid (show 3=bh G from by rw[←g];exact u.out (by rw[g];decide));clear g A;go_wp2;go_ret;exact⟨aB s.out,c⟩
          · have g:b9 x=0:=by rw[A,if_neg (by omega)]
            have z:=ac (T.out g);clear g A;go_wp2;go_roundw
            case rel=>exact⟨k+1,by omega,by simp,z,c⟩
            case measure=>simp[intOf];omega
    · have R:=ac (pQ (fun j h=>B.out j h (by omega)))
      obtain⟨wx,N⟩: ∃wx,wx=wr:=⟨_,rfl⟩
      rw[←N];rw[←N]at c;clear N B hk;go_wp2;go_loopw [4] (fun i wr=> ∃m:Nat,(m=0∨m<G.length)∧i= .int .i64 ((m:Int)+1)∧Hid (∀j (h:j+1<G.length),j<m→bI G[j] G[j+1]<0)∧Below w.heap.size w wr) (fun i _=>G.length+2-(intOf i).toNat)
      case atStart=>exact⟨0,Or.inl rfl,rfl,(fun j _ h=>absurd h (Nat.not_lt_zero _): ∀j (h:j+1<G.length),j<0→bI G[j] G[j+1]<0),c⟩
      case round=>
       clear c;obtain⟨m,hk,rfl,B,c⟩:=hrel
       by_cases E1:m+1<G.length
       · obtain⟨b,o,rfl,X,Z⟩:=HL.out (m+1) E1
         obtain⟨b',o',E4,E5,E7⟩:=HL.out m (by omega)
         cases E4
         obtain⟨c0,c1,c2⟩:=Z.below X c
         obtain⟨d0,d1,d2⟩:=E7.below E5 c
         have EH:(0:Int)≤(m:Int):=by omega
         have EI:(m:Int)<(G.length:Int):=by omega
         have EJ:(m:Int)+1<(G.length:Int):=by omega
         have EK:(0:Int)≤(m:Int)+1:=by omega
         have EL:((m:Int)+1).toNat=m+1:=by omega
         have EM:IntKind.i64.wrap ((m:Int)+1-1)=(m:Int):=by rw[IntKind.wrap_i64];omega
         have EN:IntKind.i64.wrap (m:Int)=(m:Int):=by rw[IntKind.wrap_i64];omega
         have u:=hid (show 0≤bI G[m] G[m+1]→4=bh G from fun h=>(pT E R.out (tC E1 h)).symm)
         have z:=hid (show bI G[m] G[m+1]<0→ ∀j (h:j+1<G.length),j<m+1→bI G[j] G[j+1]<0 from fun h0 j J h2=>by
          by_cases e:j=m
          · subst e;exact h0
          · exact B.out j J (by omega))
         generalize G[m]=x at*;generalize G[m+1]=y at*;rcases ir x.fo y.fo with⟨P,t2,Q,t4⟩|⟨P,t2,Q,t4⟩|⟨P,t2,Q,t4⟩
         · have HQ:=ac (z.out (nB (Or.inl P)))
           go_wp2;go_quiet (fail)
           generalize f:World.drewN wr _=H;have d:Below w.heap.size w H:=f▸⟨c.os,c.tape,c.output,c.size,c.block⟩;clear f;go_wp2;go_roundw
           case rel=>exact⟨m+1,by omega,by simp,HQ,d⟩
           case measure=>simp[intOf];omega
         · rcases ir x.wh y.wh with⟨r1,r2,r3,r4⟩|⟨r1,r2,r3,r4⟩|⟨r1,r2,r3,r4⟩
           · have HQ:=ac (z.out (nB (Or.inr ⟨Q,P,r1⟩)))
             go_wp2;go_quiet (fail)
             generalize f:World.drewN wr _=H;have d:Below w.heap.size w H:=f▸⟨c.os,c.tape,c.output,c.size,c.block⟩;clear f;go_wp2;go_roundw
             case rel=>exact⟨m+1,by omega,by simp,HQ,d⟩
             case measure=>simp[intOf];omega
           · have s:=ac (u.out (lj (Or.inr ⟨Q,P,r1⟩)))
             go_wp2;go_quiet (fail)
             generalize f:World.drewN wr _=H;have d:Below w.heap.size w H:=f▸⟨c.os,c.tape,c.output,c.size,c.block⟩;clear f;go_wp2;go_ret;exact⟨aB s.out,d⟩
           · have s:=ac (u.out (lj (Or.inr ⟨Q,P,r1⟩)))
             go_wp2;go_quiet (fail)
             generalize f:World.drewN wr _=H;have d:Below w.heap.size w H:=f▸⟨c.os,c.tape,c.output,c.size,c.block⟩;clear f;go_wp2;go_ret;exact⟨aB s.out,d⟩
         · have s:=ac (u.out (lj (Or.inl ⟨P,Q⟩)))
           go_wp2;go_quiet (fail)
           generalize f:World.drewN wr _=H;have d:Below w.heap.size w H:=f▸⟨c.os,c.tape,c.output,c.size,c.block⟩;clear f;go_wp2;go_ret;exact⟨aB s.out,d⟩
       · have I:eb G=true:=(nw G).2 fun j h=>B.out j h (by omega)
         have S:=ac (pU E R.out I);obtain⟨wy,O⟩: ∃wy,wy=wr:=⟨_,rfl⟩
         rw[←O];rw[←O]at c;clear O B hk I;go_wp2;go_loopw [5] (fun i wr=> ∃k:Nat,k≤G.length∧i= .int .i64 k∧Hid (∀j (h:j<G.length),j<k→G.any (cF (G[j]).fo)=true)∧Below w.heap.size w wr) (fun i _=>G.length-(intOf i).toNat)
         case atStart=>exact⟨0,Nat.zero_le _,rfl,(fun j _ h=>absurd h (Nat.not_lt_zero _): ∀j (h:j<G.length),j<0→G.any (cF (G[j]).fo)=true),c⟩
         case round=>
          clear c;obtain⟨k,hk,rfl,B,c⟩:=hrel
          by_cases E0:k<G.length
          · obtain⟨b,o,rfl,X,Z⟩:=HL.out k E0
            obtain⟨c0,c1,c2⟩:=Z.below X c
            go_wp2_with fail;refine(gp G _ (G[k]).fo _ (HV.out.below c)).mono ?_
            rintro e w1 ⟨rfl,Y⟩;have C:=aG c Y;clear c0 c1 c2 c Y;cases F:G.any (cF (G[k]).fo)with
            |true=>
             have z:=hid (show∀j (h:j<G.length),j<k+1→G.any (cF (G[j]).fo)=true from fun j J h2=>by
              by_cases e:j=k
              · subst e;exact F
              · exact B.out j J (by omega))
             clear F;go_wp2;go_roundw
             case rel=>exact⟨k+1,by omega,by simp,z,C⟩
             case measure=>simp[intOf];omega
            |false=>
             have s:=hid (show 5=bh G from(tE E0 F).trans S.out.symm);clear F;go_wp2;go_ret;exact⟨aB s.out,C⟩
          · have s:=hid (show 0=bh G from(tF (fun j h=>B.out j h (by omega))).trans S.out.symm)
            go_wp2;go_ret;exact⟨aB s.out,c⟩
theorem fM (k:Int) (p q t:ByteArray) (b:Int) (w:World) (F:p.size≤1000000000) (N:q.size≤1000000000) (V:t.size≤1000000000000000):
    Calls prog 112 #[.agg #[k,p,q,t,b]] w fun e w'=>e= .returned (.int .i64 (aQ ⟨k,p,q,t,b⟩))∧Below w.heap.size w w':=by
 by_cases K:k<1
 · have d:=hid (show 7=aQ ⟨k,p,q,t,b⟩from by rw[aQ,if_pos (Or.inl K)])
   go_enter func112,ntmps112
   go_wp2;go_ret;exact⟨aB d.out,ak⟩
 by_cases M:4<k
 · have d:=hid (show 7=aQ ⟨k,p,q,t,b⟩from by rw[aQ,if_pos (Or.inr M)])
   go_enter func112,ntmps112
   go_wp2;go_ret;exact⟨aB d.out,ak⟩
 by_cases s:aD p.data.toList=0
 · have H:Hid (aD p.data.toList=0):=s
   have P:(k=1∨k=4)∨k=2∨k=3:=by omega
   clear K M;rcases P with h|rfl|rfl
   · have c:=sL h p q t b s
     clear s;rcases h with rfl|rfl
     all_goals
      rcases c with⟨o,d⟩|⟨o,u,d⟩|⟨o,u,C,I,d⟩|⟨o,u,C,I,d⟩|⟨o,u,C,I,U,d⟩
     all_goals
      go_enter func112,ntmps112
      go_wp2_with fail;refine(ig p _ F).mono ?_
      rintro e J ⟨rfl,a⟩;rw[H.out];obtain⟨v,x,z,A,B,f,j⟩:=aC a
      clear a;go_wp2;go_ret;exact⟨aB d.out,f⟩
   · have c:=k8 p q t b s
     clear s;rcases c with⟨o,d⟩|⟨o,u,d⟩|⟨o,u,C,d⟩|⟨o,u,C,d⟩|⟨o,u,C,I,d⟩
     all_goals
      go_enter func112,ntmps112
      go_wp2_with fail;refine(ig p _ F).mono ?_
      rintro e J ⟨rfl,a⟩;rw[H.out];obtain⟨v,x,z,A,B,f,j⟩:=aC a
      clear a;go_wp2;go_ret;exact⟨aB d.out,f⟩
   · by_cases G:aD q.data.toList=0
     · have c:=sM p q t b s G
       have O:Hid (aD q.data.toList=0):=G;clear s G;rcases c with⟨o,d⟩|⟨o,u,C,d⟩|⟨o,u,C,d⟩|⟨o,u,C,I,d⟩
       all_goals
        go_enter func112,ntmps112
        go_wp2_with fail;refine(ig p _ F).mono ?_
        rintro e J ⟨rfl,a⟩;rw[H.out];obtain⟨v,x,z,A,B,f,j⟩:=aC a
        go_wp2_with fail;refine(ig q _ N).mono ?_
        rintro e T ⟨rfl,i⟩;rw[O.out];have g:=a.trans (i.mono a.size);clear v x z A B f j a i;obtain⟨v,x,z,A,B,f,j⟩:=aC g
        clear g;go_wp2;go_ret;exact⟨aB d.out,f⟩
     · have d:=hid (show aD q.data.toList=aQ ⟨3,p,q,t,b⟩from by simp[aQ,s,G])
       have R:(aD q.data.toList==0)=false:=by simpa using G
       clear s;go_enter func112,ntmps112
       go_wp2_with fail;refine(ig p _ F).mono ?_
       rintro e J ⟨rfl,a⟩;rw[H.out];obtain⟨v,x,z,A,B,f,j⟩:=aC a
       go_wp2_with fail;refine(ig q _ N).mono ?_
       rintro e T ⟨rfl,i⟩;have g:=a.trans (i.mono a.size);clear v x z A B f j a i;obtain⟨v,x,z,A,B,f,j⟩:=aC g
       clear g;go_wp2;go_ret;exact⟨aB d.out,f⟩
 · have d:=hid (show aD p.data.toList=aQ ⟨k,p,q,t,b⟩from by rw[aQ,if_neg (by simp only;omega),if_pos s])
   have S:(aD p.data.toList==0)=false:=by simpa using s
   go_enter func112,ntmps112
   go_wp2_with fail;refine(ig p _ F).mono ?_
   rintro e J ⟨rfl,E⟩;obtain⟨v,x,z,A,B,Q,j⟩:=aC E
   clear E;go_wp2;go_ret;exact⟨aB d.out,Q⟩
end Go.Proofs.YtdlpjlfefjipkaaGreat
