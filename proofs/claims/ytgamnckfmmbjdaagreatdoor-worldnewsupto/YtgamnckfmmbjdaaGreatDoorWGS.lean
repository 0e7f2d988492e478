/- append to a slice that has no room, in a region that draws its order. -/
import Derived.Lib.SliceRun
import Derived.Test.YtgamnckfmmbjdaaGreatDoorWGQ
set_option linter.unusedSimpArgs false
set_option linter.unusedVariables false
namespace Go.Proofs.YtgamnckfmmbjdaaGreatDoor
open Go.RowKit Go.Proofs.Tryz
set_option maxHeartbeats 1000000
set_option maxRecDepth 100000
theorem xi {P:Program} (w:World) (t ty e:TypeId) (i:TypeInfo) (z:Value) (size bytes:Nat) (ht:P.underlying t=some (.slice e)) (O:P.info? e=some i) (hz:i.zero=some z)
    (H:i.size=size) (U:i.bytes=bytes) (Z:z.cells.size=size) (Y:0<size) (a:Option Addr) (R:List (List Value)) (hR:aJ size w (.slice a R.length R.length) R)
    (ad:Addr) (c:Nat) (r:List Value) (I:r.length=size∧ ∀u∈r,u.oneCell'=true) (f: ∀j u,r[j]?=some u→w.cell? (ad.add j)=some u) (hn:R.length≤1000000000) (hb:bytes≤1000):
    ∃v' w',(Builtin.append_ #[t,t] ty #[.slice a R.length R.length,.slice (some ad) 1 c]).run P w= .ok v' w'∧aJ size w' v' (R++[r])∧aw w.heap.size w' v'∧Below w.heap.size w w':=by
 subst H;subst U;obtain⟨a',C3,hv,h1,h2,S,Q⟩:=hR
 injection hv with ay e2 e3
 subst ay
 have N: ∀x∈R++[r],x.length=i.size∧ ∀u∈x,u.oneCell'=true:=fun x y=>by
  rcases List.mem_append.1 y with y|y
  · exact S x y
  · rw[List.mem_singleton]at y;rw[y];exact I
 have J:R.flatten.length=R.length*i.size:=fy (fun x y=>(S x y).1);have M:(R.length+1)*i.bytes≤(1000000000+1)*1000:=Nat.mul_le_mul (by omega) hb
 have ei: ∀d,R.length+1≤d→(w.drew.alloc (.cells (R.flatten.toArray++r.toArray++Builtin.zeroCells z.cells (d-(R.length+1))) e)).ownsRow w.heap.size e i.size (.slice (some ⟨w.heap.size,0,none⟩) (R.length+1) d) (R.length+1) (R++[r]).flatten→aJ i.size (w.drew.alloc (.cells (R.flatten.toArray++r.toArray++Builtin.zeroCells z.cells (d-(R.length+1))) e)) (.slice (some ⟨w.heap.size,0,none⟩) (R.length+1) d) (R++[r])∧aw w.heap.size (w.drew.alloc (.cells (R.flatten.toArray++r.toArray++Builtin.zeroCells z.cells (d-(R.length+1))) e)) (.slice (some ⟨w.heap.size,0,none⟩) (R.length+1) d)∧Below w.heap.size w (w.drew.alloc (.cells (R.flatten.toArray++r.toArray++Builtin.zeroCells z.cells (d-(R.length+1))) e)):=fun d A ho=>
  ⟨gY (by simpa using ho) (by simp;omega) N,fO ho,((Below.refl _ _).drew).alloc (Nat.le_refl _) _⟩
 have own: ∀d,R.length+1≤d→d≤maxLen→(w.drew.alloc (.cells (R.flatten.toArray++r.toArray++Builtin.zeroCells z.cells (d-(R.length+1))) e)).ownsRow w.heap.size e i.size (.slice (some ⟨w.heap.size,0,none⟩) (R.length+1) d) (R.length+1) (R++[r]).flatten:=fun d A V=>by
  have hl:(R++[r]).flatten.length=(R.length+1)*i.size:=by
   rw[fy (fun x y=>(N x y).1)];simp
  refine⟨hl,.inr ⟨w.heap.size,_,_,rfl,Nat.le_refl _,heap_alloc_new w.drew _,A,V,?_,?_⟩⟩
  · simp only[Array.size_append,List.size_toArray,size_zeroCells,Z,J,I.1]
    have:R.length*i.size+i.size+(d-(R.length+1))*i.size=(R.length+1+(d-(R.length+1)))*i.size:=by
     rw[Nat.add_mul,Nat.add_mul];omega
    rw[this];congr 1
    omega
  · simp only[Array.toList_append,List.append_assoc]
    rw[←hl];have e:R.flatten.toArray.toList++(r.toArray.toList++(Builtin.zeroCells z.cells (d-(R.length+1))).toList)=(R++[r]).flatten++(Builtin.zeroCells z.cells (d-(R.length+1))).toList:=by simp
    rw[e];exact List.take_left
 have K:R.length+1≤maxLen:=by unfold maxLen;omega
 cases a with
 |none=>
  have T:R=[]:=by
   cases R with
   |nil=>rfl
   |cons s r=>obtain⟨b,o,hb,_⟩:=Q 0 (by simp);cases hb
  subst T;have G:=run_append_nil (P:=P) w t ty e i z ht O hz ad 1 c r (by rw[I.1,Nat.one_mul]) f (by decide) (by decide) (by simp at M⊢;omega);have X:=own (grownCap w 1 0 e) (grownCap_ge w 1 0 e) (grownCap_le_maxLen w 1 0 e K);have hf:=ei (grownCap w 1 0 e) (grownCap_ge w 1 0 e) X;refine⟨_,_,G,?_⟩
  simpa using hf
 |some aH=>
  have F: ∀j u,R.flatten[j]?=some u→w.cell? (aH.add j)=some u:=by
   cases R with
   |nil=>intro j u hj;simp at hj
   |cons s r=>
    obtain⟨b,o,hb,_⟩:=Q 0 (by simp)
    injection hb with hb
    subst hb
    exact gX Y (fun r I=>(S r I).1) fun i O=>by
     obtain⟨b',o',E,_,he⟩:=Q i O
     injection E with E
     injection E with h1 h2
     subst h1;subst h2;exact he
  have G:=run_append_grow (P:=P) w t ty e i z ht O hz aH R.length R.length R.flatten J F ad 1 c r (by rw[I.1,Nat.one_mul]) f (by omega) (by omega) (growslice_fits (by omega) (by omega));have X:=own (grownCap w (R.length+1) R.length e) (grownCap_ge w _ _ e) (grownCap_le_maxLen w _ _ e K);exact⟨_,_,G,ei _ (grownCap_ge w _ _ e) X⟩
theorem xj {P:Program} {A:Array Oper} {o:Oper} {a:Act} {w:World} {K:Act→World→Prop} {Q:Exit→Act→World→Prop} {E:Prop}
    (U:o.guard=none) (s x:Operand) (t:TypeId) (J:o.op=Op.call {callee:=Callee.builtin Builtin.append,args:= #[s,x],argTypes:= #[t,t]})
    (e:TypeId) (i:TypeInfo) (z:Value) (size bytes:Nat) (ht:P.underlying t=some (.slice e)) (V:P.info? e=some i) (hz:i.zero=some z)
    (f:i.size=size) (I:i.bytes=bytes) (N:z.cells.size=size) (M:0<size) (G:Option Addr) (R:List (List Value)) (n:Nat) (H:R.length=n) (Z:a.eval s= .slice G n n) (T:aJ size w (.slice G n n) R)
    (ad:Addr) (c:Nat) (hx:a.eval x= .slice (some ad) 1 c) (r:List Value) (Y:r.length=size∧ ∀u∈r,u.oneCell'=true) (d: ∀j u,r[j]?=some u→w.cell? (ad.add j)=some u) (X:R.length≤1000000000) (hb:bytes≤1000)
    (S: ∀F w',aJ size w' F (R++[r])∧aw w.heap.size w' F∧Below w.heap.size w w'→K (a.put o.dst F) w'):
    if Region.wanted o (yielded A a.tmps)=true then Oper.wp P o a w K Q else E:=by
 have hw:Region.wanted o (yielded A a.tmps)=true:=by simp[Region.wanted,U]
 rw[if_pos hw];subst H;obtain⟨F,w',y,O⟩:=xi (P:=P) w t o.type e i z size bytes ht V hz f I N M G R T ad c r Y d X hb
 unfold Oper.wp;simp[execOp,J,resolve,invoke,builtin,Z,hx,y,Result.andThen]
 exact S _ _ O
def Jn.newE (J:Jo) (l:List ar):Int:=if l=[]then 1 else if 1000000<Jn.last J+1 then 3 else bJ (Jn.tree J) l (Jn.last J+1)
def xk:Jo:=⟨[],0,[]⟩
theorem xl {T:List En} {cs:List ar} {n:Int} (h:bJ T cs n=0):cs.length≤20:=by
 have a:aA T=0:=by
  by_cases a:aA T=0
  · exact a
  · rw[(mM a cs n).1]at h;exact absurd h a
 rcases Nat.lt_or_ge 20 cs.length with d|d
 · rw[(kY a d n).1]at h;cases h
 · exact d
theorem rf: ∀{n:Int} {T:List En} {l:List Co},(cz n T l).1=0→ ∀c∈l,c.ch.length≤20
 |n,T,[],_,c,hc=>by cases hc
 |n,T,d::r,h,c,hc=>by
  rw[cz]at h;by_cases e:bW d n=0
  · rw[if_neg (fun x=>x e)]at h
    by_cases a:bJ T d.ch d.nu=0
    · rw[if_neg (fun x=>x a)]at h
      rcases List.mem_cons.1 hc with rfl|hc
      · exact xl a
      · exact rf h c hc
    · rw[if_pos a]at h;exact absurd h a
  · rw[if_pos e]at h;exact absurd h e
theorem xn {J:Jo} (h:bo J=0): ∀c∈J.cos,c.ch.length≤20:=by
 obtain⟨_,_,_,a,_⟩:=qu h
 exact rf (n:=J.first) (T:=J.base) (by rw[a])
theorem Nb.refl (w:World) (g:Nat):w.grownBy w (some g):=⟨rfl,rfl,rfl,Nat.le_refl _,fun _ _ _=>rfl⟩
theorem Nb.trans {a b c:World} {g:Nat} (h:a.grownBy b (some g)) (k:b.grownBy c (some g)):a.grownBy c (some g):=
 ⟨k.os.trans h.os,k.tape.trans h.tape,k.output.trans h.output,Nat.le_trans h.size k.size,fun q e d=>(k.block q (Nat.lt_of_lt_of_le e h.size) d).trans (h.block q e d)⟩
theorem Nb.below {a b:World} (g:Nat) (h:Below a.heap.size a b):a.grownBy b (some g):=
 ⟨h.os,h.tape,h.output,h.size,fun q d _=>h.block q d⟩
theorem Nb.«to» {B:Nat} {w w':World} {g:Nat} (h:w.grownBy w' (some g)) (a:B≤w.heap.size) (f:B≤g):Below B w w':=
 ⟨h.os,h.tape,h.output,h.size,fun k d=>h.block k (Nat.lt_of_lt_of_le d a) (fun e=>by injection e with e;omega)⟩
theorem Nb.cell {w w':World} {g:Nat} (h:w.grownBy w' (some g)) {p:Addr} (d:p.block<w.heap.size) (a:p.block≠g):w'.cell? p=w.cell? p:=
 World.cell?_of_block (w:=w) (h.block p.block d (fun e=>a (by injection e)))
theorem Nb.frozen {w w':World} {g:Nat} (h:w.grownBy w' (some g)) {p:Addr} (d:p.block<w.heap.size) (a:p.block≠g):w'.frozen? p=w.frozen? p:=
 World.frozen?_of_block (w:=w) (h.block p.block d (fun e=>a (by injection e)))
theorem ac (w:World) (g o:Nat) (v:Value):w.grownBy (w.setCell ⟨g,o,none⟩ v) (some g):=by
 exact⟨rfl,rfl,rfl,by simp,fun k _ a=>Below.heap_setCell w _ v k (fun e=>a (by rw[e]))⟩
theorem i6 (g:Nat): ∀(ag:List Value) (o:Nat) (w:World),w.grownBy (w.setCells g o ag) (some g)
 |[],_,w=>Nb.refl w g
 |v::r,o,w=>Nb.trans (ac w g o v) (i6 g r (o+1) (w.setCell ⟨g,o,none⟩ v))
def gF (W:World) (g:Nat) (T:TypeId) (n:Nat):Prop:= ∃cur,W.heap[g]?=some (.cells cur T (0,0))∧cur.size=n
def eA (g:Nat) (w W:World):Prop:= ∀T n,gF w g T n→gF W g T n
theorem gF.lt {W:World} {g n:Nat} {T:TypeId} (h:gF W g T n):g<W.heap.size:=by
 obtain⟨cur,a,_⟩:=h
 rcases Nat.lt_or_ge g W.heap.size with h|h
 · exact h
 · rw[Array.getElem?_eq_none h]at a;cases a
theorem gF.below {W d:World} {g n:Nat} {T:TypeId} (h:gF W g T n) (j:Below W.heap.size W d):gF d g T n:=by
 have a:=h.lt;obtain⟨cur,e,f⟩:=h
 exact⟨cur,(j.block g a).trans e,f⟩
theorem gF.nb {W f:World} {g b n:Nat} {T:TypeId} (h:gF W g T n) (u:W.grownBy f (some b)) (d:g≠b):gF f g T n:=by
 have a:=h.lt;obtain⟨cur,j,o⟩:=h
 exact⟨cur,(u.block g a (fun e=>d (by injection e))).trans j,o⟩
theorem eA.refl (g:Nat) (w:World):eA g w w:=fun _ _ h=>h
theorem eA.trans {g:Nat} {a b c:World} (h:eA g a b) (k:eA g b c):eA g a c:=fun T n x=>k T n (h T n x)
theorem eA.below {g:Nat} {a b:World} (h:Below a.heap.size a b):eA g a b:=fun _ _ x=>x.below h
theorem eA.setCell (g o:Nat) (v:Value) (w:World):eA g w (w.setCell ⟨g,o,none⟩ v):=by
 intro T n h;obtain⟨cur,a,d⟩:=h
 refine⟨cur.setIfInBounds o v,?_,by simpa using d⟩
 unfold World.setCell;simp only[Array.getElem?_modify,a,if_true,Option.map_some];rfl
theorem eA.setCells (g:Nat): ∀(ag:List Value) (o:Nat) (w:World),eA g w (w.setCells g o ag)
 |[],_,w=>eA.refl g w
 |v::r,o,w=>(eA.setCell g o v w).trans (eA.setCells g r (o+1) (w.setCell ⟨g,o,none⟩ v))
def gG (s:Se):List Value:=[.int .i64 s.nu,.string s.wh,.string s.tx,.int .i64 s.si,.int .i64 s.ti]
def fe (w:World) (g:Nat) (d:List Se):Prop:=g<w.heap.size∧ ∀i (h:i<d.length),∀c,c<5→w.cell? ⟨g,i*5+c,none⟩=(gG d[i])[c]?∧w.frozen? ⟨g,i*5+c,none⟩=false
theorem fe.at {w:World} {g:Nat} {d:List Se} (h:fe w g d) {i:Nat} (a:i<d.length):eu w g (i*5) d[i]:=
 ⟨by have:=(h.2 i a 0 (by decide)).1;simpa[gG]using this,by have:=(h.2 i a 1 (by decide)).1;simpa[gG]using this,by have:=(h.2 i a 2 (by decide)).1;simpa[gG]using this,by have:=(h.2 i a 3 (by decide)).1;simpa[gG]using this,by have:=(h.2 i a 4 (by decide)).1;simpa[gG]using this⟩
theorem fe.below {w w':World} {g:Nat} {d:List Se} (h:fe w g d) (a:Below w.heap.size w w'):fe w' g d:=
 ⟨Nat.lt_of_lt_of_le h.1 a.size,fun i f c e=>⟨(a.cell (p:=⟨g,i*5+c,none⟩) h.1).trans (h.2 i f c e).1,(a.frozen (p:=⟨g,i*5+c,none⟩) h.1).trans (h.2 i f c e).2⟩⟩
theorem fe.lies {w:World} {g cap:Nat} {d:List Se} (h:fe w g d) (a:d.length≤cap) (f:d.length≤1000000000000000):bR w (.slice (some ⟨g,0,none⟩) d.length cap) d:=
 ⟨_,cap,rfl,a,f,fun i e=>⟨g,0,rfl,h.1,by rw[Nat.zero_add];exact h.at e⟩⟩
theorem fe.take {w:World} {g:Nat} {d:List Se} (h:fe w g d) (k:Nat):fe w g (d.take k):=
 ⟨h.1,fun i f c e=>by
  have a:i<d.length:=by rw[List.length_take]at f;omega
  have:=h.2 i a c e
  rw[List.getElem_take];exact this⟩
theorem fe.set {w:World} {g:Nat} {d:List Se} (h:fe w g d) {i:Nat} (E:i<d.length) (s:Se):fe (w.setCells g (i*5) (gG s)) g (d.set i s):=by
 refine⟨Nat.lt_of_lt_of_le h.1 (i6 g _ _ w).size,fun j z c f=>⟨?_,?_⟩⟩
 · have y:j<d.length:=by simpa using z
   by_cases e:j=i
   · subst e
     have:=World.cell?_setCells_in g (gG s) (j*5) w (fun o u=>by
      have a:o<5:=u;rw[(h.2 j E o a).1];match o,a with
      |0,_=>rfl
      |1,_=>rfl
      |2,_=>rfl
      |3,_=>rfl
      |4,_=>rfl) c f
     rw[this];simp only[List.getElem_set_self];exact(List.getElem?_eq_getElem (show c<(gG s).length from f)).symm
   · rw[World.cell?_setCells_out g _ _ _ _ (fun _ _=>by simp only[show(gG s).length=5 from rfl];omega),(h.2 j y c f).1]
     rw[List.getElem_set_ne (fun A=>e A.symm)]
 · rw[World.frozen?_setCells];exact(h.2 j (by simpa using z) c f).2
def kr (w:World) (v:Value) (N:List ByteArray):Prop:= ∃a cap,v= .slice a N.length cap∧N.length≤cap∧N.length≤1000000∧ ∀i (h:i<N.length),∃b o,a=some ⟨b,o,none⟩∧b<w.heap.size∧w.cell? ⟨b,o+i,none⟩=some (.string N[i])
theorem kr.below {w w':World} {v:Value} {N:List ByteArray} (h:kr w v N) (e:Below w.heap.size w w'):kr w' v N:=by
 obtain⟨a,d,E,f,j,u⟩:=h
 refine⟨a,d,E,f,j,fun i A=>?_⟩
 obtain⟨b,o,y,hb,z⟩:=u i A
 exact⟨b,o,y,Nat.lt_of_lt_of_le hb e.size,(e.cell (p:=⟨b,o+i,none⟩) hb).trans z⟩
def dF (N:List ByteArray):List Value:=N.map Value.string
theorem xo (N:List ByteArray) (x:ByteArray):dF N++[.string x]=dF (N++[x]):=by simp[dF]
theorem xr {w:World} {base:Nat} {v:Value} {N:List ByteArray} (h:w.ownsRow base 9 1 v N.length (dF N)) (j:N.length≤1000000):kr w v N:=by
 have y:=h;obtain⟨E,z⟩:=h
 rcases z with⟨rfl,u⟩|⟨g,a,cur,rfl,A,o,e,F,u,f⟩
 · exact⟨none,0,by rw[u],by omega,j,fun i h=>absurd h (by omega)⟩
 · have d:g<w.heap.size:=by
    rcases Nat.lt_or_ge g w.heap.size with h|h
    · exact h
    · rw[Array.getElem?_eq_none h]at o;cases o
   refine⟨some ⟨g,0,none⟩,a,rfl,e,j,fun i h=>⟨g,0,rfl,d,?_⟩⟩
   rw[Nat.zero_add,y.cellAt i (by omega)];simp[dF,h]
theorem Tryz.infoS9:(prog.info? 9).map (fun i=>(i.zero,i.size,i.bytes))=some (some (.string ⟨#[]⟩),1,16):=by kernel_rfl
def c9 (G:List Gr) (f:ByteArray):List ByteArray:=(G.filter (iA f)).map Gr.wh
theorem xt (G:List Gr) (v:Value) (f:ByteArray) (w:World) (hv:bt w v G) (hn:G.length≤1000):
    Calls prog 32 #[v,.string f] w fun e w'=> ∃u,e= .returned u∧kr w' u (c9 G f)∧Below w.heap.size w w':=by
 obtain⟨aQ,Q,S,T,U⟩:=info_parts Tryz.infoS9
 obtain⟨a,C3,rfl,V,P,K⟩:=hv
 have HL:Hid (∀i (h:i<G.length),∃b o,a=some ⟨b,o,none⟩∧b<w.heap.size∧dQ w b (o+i*3) G[i]):=K;clear K;go_enter func32,ntmps32
 go_wp2_with fail;go_loopw [5,6] (fun u i wr=> ∃k:Nat,k≤G.length∧i= .int .i64 k∧wr.ownsRow w.heap.size 9 1 u (c9 (G.take k) f).length (dF (c9 (G.take k) f))∧Below w.heap.size w wr) (fun _ i _=>G.length-(intOf i).toNat)
 case atStart=>exact⟨0,Nat.zero_le _,rfl,World.ownsRow_nil _ _ _ _,Below.refl _ _⟩
 case round=>
  obtain⟨k,hk,rfl,y,d⟩:=hrel
  by_cases F:k<G.length
  · obtain⟨b,o,rfl,hb,he⟩:=HL.out k F
    obtain⟨c0,c1,c2⟩:=he.below hb d
    have C4:(c9 (G.take k) f).length≤1000:=by
     rw[c9,List.length_map];exact Nat.le_trans (List.length_filter_le _ _) (by rw[List.length_take];omega)
    cases J:iA f G[k]with
    |true=>
     have h1:((G[k]).fo.toList==f.toList)=true:=J;have N:=hid (show c9 (G.take (k+1)) f=c9 (G.take k) f++[(G[k]).wh]from by rw[c9,wV F J,List.map_append];rfl);clear J;generalize c9 (G.take k) f=X at*;go_wp2_with (at_builtin;refine wpList_append_own _ rfl _ _ 98 rfl w.heap.size 9 aQ (.string ⟨#[]⟩) 1 16 underlying98 Q S T U rfl (by decide) _ _ _ rfl (y.alloc _) ⟨wr.heap.size,0,none⟩ 1 1 [.string (G[k]).wh] rfl rfl (by intro j u I;match j,I with|0,I=>simp at I;subst I;simp[Addr.add]|j+1,I=>simp at I) (by intro u Y;simp at Y;subst Y;rfl) (by unfold maxLen;omega) (by omega) (by have:=d.size;simp at this⊢;omega) ?_)
     intro v2 Z H A M;have E:Below w.heap.size w Z:=(d.alloc d.size _).grown A (by have:=d.size;simp at this⊢;omega) (fun g hg=>(y.lt g hg).1);rw[xo]at H;have z:Z.ownsRow w.heap.size 9 1 v2 (X++[(G[k]).wh]).length (dF (X++[(G[k]).wh])):=by rw[List.length_append];exact H
     have HO:=ai z;clear H A M z y d c0 c1 c2;go_wp2_with fail;go_roundw
     case rel=>exact⟨k+1,by omega,by simp,by rw[N.out];exact HO.out,E⟩
     case measure=>simp[intOf];omega
    |false=>
     have h1:((G[k]).fo.toList==f.toList)=false:=J;have N:=hid (show c9 (G.take (k+1)) f=c9 (G.take k) f from by rw[c9,wW F J];rfl);clear J;go_wp2_with fail;go_roundw
     case rel=>exact⟨k+1,by omega,by simp,by rw[N.out];exact y,d⟩
     case measure=>simp[intOf];omega
  · have e:G.take k=G:=List.take_of_length_le (by omega)
    rw[e]at y
    have O:=ai (xr y (by
     rw[c9,List.length_map];exact Nat.le_trans (List.length_filter_le _ _) (by omega)))
    go_wp2_with fail;go_ret;exact⟨_,rfl,O.out,d⟩
theorem xu (G:List Gr) (v u:Value) (w:World) (Q:bt w v G) (P:bt w u G):
    Calls prog 69 #[v,u] w fun e w'=>e= .returned (.bool true)∧Below w.heap.size w w':=by
 obtain⟨a,N,rfl,J,E,I⟩:=Q
 have K:Hid (∀i (h:i<G.length),∃b o,a=some ⟨b,o,none⟩∧b<w.heap.size∧dQ w b (o+i*3) G[i]):=I;obtain⟨M,H,rfl,A,_,f⟩:=P
 have y:Hid (∀i (h:i<G.length),∃b o,M=some ⟨b,o,none⟩∧b<w.heap.size∧dQ w b (o+i*3) G[i]):=f;clear I f;go_enter func69,ntmps69
 go_wp2_with fail;go_loopw [5] (fun i wr=> ∃k:Nat,k≤G.length∧i= .int .i64 k∧Below w.heap.size w wr) (fun i _=>G.length-(intOf i).toNat)
 case atStart=>exact⟨0,Nat.zero_le _,rfl,Below.refl _ _⟩
 case round=>
  obtain⟨k,hk,rfl,d⟩:=hrel
  by_cases j:k<G.length
  · obtain⟨b,o,rfl,hb,O⟩:=K.out k j
    obtain⟨S,o',rfl,z,F⟩:=y.out k j
    obtain⟨T,U,V⟩:=O.below hb d
    obtain⟨X,Y,Z⟩:=F.below z d
    go_wp2_with fail;go_region
    go_wp2_with fail;go_roundw
    case rel=>exact⟨k+1,by omega,by simp,d.drew⟩
    case measure=>simp[intOf];omega
  · go_wp2_with fail
    go_ret;exact⟨rfl,d⟩
end Go.Proofs.YtgamnckfmmbjdaaGreatDoor
