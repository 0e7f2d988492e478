/- Names: path.Join of nothing and a text, word.Names. -/
import Derived.Test.YtgamnckfmmbjdaaGreatDoorWGE
import Derived.Test.YtgamnckfmmbjdaaGreatDoorWGF
import Derived.Test.YtgamnckfmmbjdaaGreatDoorWGG
set_option linter.unusedSimpArgs false
set_option linter.unusedVariables false
namespace Go.Proofs.YtgamnckfmmbjdaaGreatDoor
open Go.RowKit Go.Proofs.Tryz
set_option maxHeartbeats 2000000
set_option maxRecDepth 100000
theorem ai {p:Prop} (h:p):Hid p:=h
theorem uK {l:List UInt8} (h:az l=true):47∉l:=by
 intro a
 have d: ∀c∈l,cD c=true:=by
  simp only[az,Bool.and_eq_true,List.all_eq_true]at h;first|exact h.1|exact h.1.1|exact h.1.1.1|exact h.1.1.1.1|exact h.1.1.1.1.1|exact h.1.1.1.1.1.1|exact fun c e=>(h.1 c e)|simp_all
 exact absurd (d 47 a) (by decide)
theorem uL {l:List UInt8} (h:az l=true):l.length≤20:=by
 simp only[az,Bool.and_eq_true,decide_eq_true_eq]at h;omega
theorem uM {l:List UInt8} (h:az l=true):al l=0:=by
 have a:ah l=[l]:=il l (uK h);have d:(ah l).all az=true:=by rw[a];simp[h]
 rw[my d,if_neg];have:=uL h
 simp[Pp.big,a]
 omega
def ki (l:List UInt8):Int:=if az l=true then 0 else 1
def bf (ns:List ByteArray):Int:=if(ns.all fun s=>az s.data.toList)=true then 0 else 1
theorem uN (s:ByteArray) (w:World) (A:s.size≤1000000000000000):
    Calls prog 146 #[.string ⟨#[]⟩,.string s] w fun e w'=> ∃u,e= .returned (.tuple #[u,.int .i64 (ki s.data.toList)])∧Below w.heap.size w w':=by
 have z:s.size≤maxLen:=by unfold maxLen;omega
 cases d:az s.data.toList with
 |true=>
  have j:=ai d;have E:=ai (uM d);have f:=hid (show ki s.data.toList=0 from if_pos d);have F:=hid (show(⟨(ip [] s.data.toList).toArray⟩:ByteArray)=s from by rw[ip,if_pos rfl]);clear d;go_enter func146,ntmps146
  go_wp2_with fail;refine(jj s _ z).mono ?_
  rintro e y ⟨rfl,a⟩;rw[a,j.out];clear a y;go_wp2_with fail;refine(ud ⟨#[]⟩ s _ (by decide) A).mono ?_
  rintro e G ⟨rfl,a⟩;rw[a,show(⟨(ip (⟨#[]⟩:ByteArray).data.toList s.data.toList).toArray⟩:ByteArray)=s from F.out];clear a G;go_wp2_with fail;refine(pB s _ A E.out).mono ?_
  rintro e H ⟨rfl,o⟩;go_wp2;go_ret2;exact⟨_,by rw[f.out];rfl,o⟩
 |false=>
  have j:=ai d;have f:=hid (show ki s.data.toList=1 from if_neg (by rw[d];decide));clear d;go_enter func146,ntmps146
  go_wp2_with fail;refine(jj s _ z).mono ?_
  rintro e y ⟨rfl,a⟩;rw[a,j.out];clear a y;go_wp2_with fail;go_ret2;exact⟨_,by rw[f.out];rfl,Below.refl _ _⟩
theorem kj (a:List ByteArray) (g o cap:Nat) (w:World) (S:g<w.heap.size) (J: ∀i (h:i<a.length),(a[i]).size≤1000000000000000) (X:a.length≤1000) (H: ∀i (h:i<a.length),w.cell? ⟨g,o+i,none⟩=some (.string a[i])):
    Calls prog 104 #[.slice (some ⟨g,o,none⟩) a.length cap] w fun e w'=>e= .returned (.int .i64 (bf a))∧Below w.heap.size w w':=by
 have K:=ai H;have M:=ai J;clear H J;go_enter func104,ntmps104
 have N:=hid (show∀k (h:k<a.length),(∀j (h:j<a.length),j<k→az (a[j]).data.toList=true)→az (a[k]).data.toList=false→(a.all fun s=>az s.data.toList)=false from fun k h _ I=>List.all_eq_false.2 ⟨a[k],List.getElem_mem h,by rw[I];decide⟩)
 have O:=hid (show(∀j (h:j<a.length),az (a[j]).data.toList=true)→(a.all fun s=>az s.data.toList)=true from fun h=>List.all_eq_true.2 fun x U=>by
  obtain⟨j,T,rfl⟩:=List.getElem_of_mem U
  exact h j T)
 go_wp2_with fail;go_loopw [9] (fun i wr=> ∃k:Nat,k≤a.length∧i= .int .i64 k∧Hid (∀j (h:j<a.length),j<k→az (a[j]).data.toList=true)∧Below w.heap.size w wr) (fun i _=>a.length-(intOf i).toNat)
 case atStart=>exact⟨0,Nat.zero_le _,rfl,(fun j _ h=>absurd h (Nat.not_lt_zero _): ∀j (h:j<a.length),j<0→az (a[j]).data.toList=true),Below.refl _ _⟩
 case round=>
  obtain⟨k,I,rfl,F,d⟩:=hrel
  by_cases y:k<a.length
  · have P:=(d.cell (p:=⟨g,o+k,none⟩) S).trans (K.out k y)
    go_wp2_with fail;refine(uN a[k] _ (M.out k y)).mono ?_
    rintro e Y ⟨u,rfl,A⟩;have f:=bj d A;clear d A P;cases z:az (a[k]).data.toList with
    |true=>
     rw[ki,if_pos z]
     have G:=hid (show∀j (h:j<a.length),j<k+1→az (a[j]).data.toList=true from fun j Q V=>by
      by_cases e:j=k
      · subst e;exact z
      · exact F.out j Q (by omega))
     clear z;go_wp2_with fail;go_roundw
     case rel=>exact⟨k+1,by omega,by simp,G,f⟩
     case measure=>simp[intOf];omega
    |false=>
     rw[ki,if_neg (by rw[z];decide)];have E:=hid (show(1:Int)=bf a from by rw[bf,if_neg (by rw[N.out k y F.out z];decide)]);clear z;go_wp2_with fail;go_ret;exact⟨an E.out,f⟩
  · have E:=hid (show(0:Int)=bf a from by rw[bf,if_pos (O.out (fun j h=>F.out j h (by omega)))])
    go_wp2_with fail;go_ret;exact⟨an E.out,d⟩
def fQ (w:World) (v:Value):Prop:= ∀g,v.ownBlock=some g→cy w g
theorem li {w:World} {g:Nat} {cur:Array Value} {T:TypeId} {a:Nat×Nat} (h:w.heap[g]?=some (.cells cur T a)) (e: ∀s,Value.string s∉cur.toList):cy w g:=by
 intro o s d;have:cur.toList[o]?=some (.string s):=by simpa[World.cell?,h]using d
 exact e s (List.mem_of_getElem? this)
theorem pT {w:World} {g:Nat} {cur:Array Value} {T:TypeId} {a:Nat×Nat} (h:w.heap[g]?=some (.cells cur T a)) (d:cy w g): ∀s,Value.string s∉cur.toList:=by
 intro s f;obtain⟨o,e⟩:=List.getElem?_of_mem f
 exact d o s (by simpa[World.cell?,h]using e)
theorem cy.keep {w w':World} {g:Nat} (h:cy w g) (hb:w'.heap[g]?=w.heap[g]?):cy w' g:=by
 intro o s;rw[World.cell?_of_block (w:=w) (a:=⟨g,o,none⟩) hb];exact h o s
theorem fQ.below {w w':World} {v:Value} (h:fQ w v) (d: ∀g,v.ownBlock=some g→g<w.heap.size) (e:Below w.heap.size w w'):fQ w' v:=fun g a=>(h g a).keep (e.block g (d g a))
theorem pU {z:Array Value} (o: ∀s,Value.string s∉z.toList) (n:Nat) (s:ByteArray):Value.string s∉(Builtin.zeroCells z n).toList:=by
 intro h;simp only[Builtin.zeroCells]at h;simp at h
 obtain⟨k,j,f⟩:=h
 have a:0<z.size:=by
  rcases Nat.eq_zero_or_pos z.size with d|d
  · rw[d]at j;simp at j
  · exact d
 have e:k % z.size<z.size:=Nat.mod_lt _ a;rw[getElem!_pos z _ e]at f;exact o s (by rw[←f];simp)
theorem uO {P:Program} (w:World) (base:Nat) (t X e:TypeId) (i:TypeInfo) (z:Value) (size bytes:Nat) (ht:P.underlying t=some (.slice e)) (hi:P.info? e=some i) (hz:i.zero=some z)
    (K:i.size=size) (Z:i.bytes=bytes) (C8:z.cells.size=size) (C7:0<size) (v:Value) (n:Nat) (xs:List Value) (F:w.ownsRow base e size v n xs)
    (a:Addr) (m c:Nat) (d:List Value) (U:d.length=m*size) (y: ∀j u,d[j]?=some u→w.cell? (a.add j)=some u) (h1: ∀u∈d,u.oneCell'=true)
    (Y:n+m≤maxLen) (E:(n+m)*bytes≤140737488355328) (hm:0<m) (S: ∀s,Value.string s∉z.cells.toList) (J: ∀s,Value.string s∉d) (Q:fQ w v)
    {v':Value} {w':World} (hr:(Builtin.append_ #[t,t] X #[v,.slice (some a) m c]).run P w= .ok v' w'):fQ w' v':=by
 subst K;subst Z;have V:n+m≤9223372036854775807:=by simp only[maxLen]at Y;omega
 rcases F.2 with⟨rfl,rfl⟩|⟨g,I,cur,rfl,C4,T,C6,C5,C3,M⟩
 · have A:=run_append_nil (P:=P) w t X e i z ht hi hz a m c d U y hm (by omega) (by have hb:=E;simp only[Nat.zero_add]at hb;omega)
   rw[hr]at A;injection A with A N
   subst A;subst N;intro g o;simp only[Value.ownBlock,Option.some.injEq]at o;subst o;refine li (heap_alloc_new w.drew _) ?_
   intro s f;rw[Array.toList_append,List.mem_append]at f;rcases f with f|f
   · exact J s f
   · exact pU S _ s f
 · by_cases G:n+m≤I
   · have O:n*i.size+d.length≤cur.size:=by rw[U,C3,←Nat.add_mul];exact Nat.mul_le_mul_right _ G
     have A:=run_append_room (P:=P) w t X e i ht hi g n I cur T a m c d U y h1 G O;rw[hr]at A;injection A with A N
     subst A;subst N;have H:=pT T (Q g rfl);intro g' o;simp only[Value.ownBlock,Option.some.injEq]at o;subst o;refine li (setRow_heap w g cur _ e _ T) ?_
     intro s f;simp only[List.mem_append]at f;rcases f with(f|f)|f
     · exact H s (List.mem_of_mem_take f)
     · exact J s f
     · exact H s (List.mem_of_mem_drop f)
   · have A:=run_append_grow (P:=P) w t X e i z ht hi hz ⟨g,0,none⟩ n I xs F.1 (F.cells (g:=g) rfl) a m c d U y (by omega) (by omega) (growslice_fits (by omega) E)
     rw[hr]at A;injection A with A N
     subst A;subst N;have H:=pT T (Q g rfl);intro g' o;simp only[Value.ownBlock,Option.some.injEq]at o;subst o;refine li (heap_alloc_new w.drew _) ?_
     intro s f;rw[Array.toList_append,Array.toList_append,List.mem_append,List.mem_append]at f;rcases f with(f|f)|f
     · have:Value.string s∈xs:=by simpa using f
       rw[←M]at this;exact H s (List.mem_of_mem_take this)
     · exact J s (by simpa using f)
     · exact pU S _ s f
theorem uP {P:Program} (w:World) {K:Array Oper} {rest:List Oper} {o:Oper} {a:Act} {Q:Exit→Act→World→Prop} (N:o.guard=none) (s x:Operand) (t:TypeId)
    (ho:o.op= .call {callee:= .builtin .append,args:= #[s,x],argTypes:= #[t,t]})
    (base:Nat) (e:TypeId) (i:TypeInfo) (z:Value) (size bytes:Nat) (Z:P.underlying t=some (.slice e)) (V:P.info? e=some i) (hz:i.zero=some z)
    (A:i.size=size) (H:i.bytes=bytes) (J:z.cells.size=size) (I:0<size)
    (v:Value) (n:Nat) (xs:List Value) (hs:a.eval s=v) (E:w.ownsRow base e size v n xs)
    (ad:Addr) (m c:Nat) (d:List Value) (hx:a.eval x= .slice (some ad) m c) (X:d.length=m*size) (y: ∀j u,d[j]?=some u→w.cell? (ad.add j)=some u) (U: ∀u∈d,u.oneCell'=true)
    (G:n+m≤maxLen) (f:(n+m)*bytes≤140737488355328) (F:base≤w.heap.size) (hm:0<m) (T: ∀s,Value.string s∉z.cells.toList) (O: ∀s,Value.string s∉d) (S:fQ w v)
    (h: ∀M w',w'.ownsRow base e size M (n+m) (xs++d)→w.grownBy w' v.ownBlock→fQ w' M→wpList P K Q rest (a.put o.dst M) w'):wpList P K Q (o::rest) a w:=by
 refine wpList_plain N fun _ hK=>?_
 obtain⟨M,w',Y,h2,h3,h4⟩:=run_append_own (P:=P) w base t o.type e i z size bytes Z V hz A H J I v n xs E ad m c d X y U G f F
 have h5:=uO (P:=P) w base t o.type e i z size bytes Z V hz A H J I v n xs E ad m c d X y U G f hm T O S Y;unfold Oper.wp execOp;simp only[ho,resolve,invoke,builtin,Sem.run_bind,Sem.run_pure,Result.andThen_ok,List.map_toArray,List.map_cons,List.map_nil,hs,hx,Y];exact hK _ _ (h M w' h2 h3 h5)
theorem aj.row {w w':World} {x v:Value} {L:List En} (h:aj w x L) (a:w.grownBy w' v.ownBlock) (f:fQ w v):aj w' x L:=by
 cases d:v.ownBlock with
 |none=>
  rw[d]at a;exact h.below ⟨a.os,a.tape,a.output,a.size,fun k e=>a.block k e (by simp)⟩
 |some g=>
  rw[d]at a;exact h.nb a (f g d)
def aJ (n:Nat) (w:World) (v:Value) (R:List (List Value)):Prop:= ∃a cap,v= .slice a R.length cap∧R.length≤cap∧R.length≤1000000000000000∧(∀r∈R,r.length=n∧ ∀u∈r,u.oneCell'=true)∧
 ∀i (h:i<R.length),∃b o,a=some ⟨b,o,none⟩∧b<w.heap.size∧ ∀c u,R[i][c]?=some u→w.cell? ⟨b,o+i*n+c,none⟩=some u
theorem aJ.below {n:Nat} {w w':World} {v:Value} {R:List (List Value)} (h:aJ n w v R) (e:Below w.heap.size w w'):aJ n w' v R:=by
 obtain⟨a,d,H,f,j,z,y⟩:=h
 refine⟨a,d,H,f,j,z,fun i F=>?_⟩
 obtain⟨b,o,A,hb,E⟩:=y i F
 exact⟨b,o,A,Nat.lt_of_lt_of_le hb e.size,fun c u G=>(e.cell (p:=⟨b,o+i*n+c,none⟩) hb).trans (E c u G)⟩
theorem fy {n:Nat}: ∀{R:List (List Value)},(∀r∈R,r.length=n)→R.flatten.length=R.length*n
 |[],_=>by simp
 |r::R,h=>by
  rw[List.flatten_cons,List.length_append,h r (by simp),fy (fun x a=>h x (by simp[a])),List.length_cons,Nat.add_mul];omega
theorem mU {n:Nat}: ∀{R:List (List Value)} (i c:Nat) (h:i<R.length),(∀r∈R,r.length=n)→c<n→R.flatten[i*n+c]?=R[i][c]?
 |[],i,c,h,_,_=>absurd h (Nat.not_lt_zero _)
 |r::R,0,c,_,hr,hc=>by
  rw[List.flatten_cons,Nat.zero_mul,Nat.zero_add,List.getElem?_append_left (by rw[hr r (by simp)];exact hc)];rfl
 |r::R,i+1,c,h,hr,hc=>by
  have a:=hr r (by simp);rw[List.flatten_cons,List.getElem?_append_right (by rw[a,Nat.add_mul];omega),a];have e:(i+1)*n+c-n=i*n+c:=by rw[Nat.add_mul];omega
  rw[e,mU i c (by simpa using h) (fun x d=>hr x (by simp[d])) hc];rfl
theorem gX {n:Nat} (A:0<n) {w:World} {b o:Nat} {R:List (List Value)} (E: ∀r∈R,r.length=n) (h: ∀i (h:i<R.length),∀c u,R[i][c]?=some u→w.cell? ⟨b,o+i*n+c,none⟩=some u): ∀j u,R.flatten[j]?=some u→w.cell? ((⟨b,o,none⟩:Addr).add j)=some u:=by
 intro j u z
 have a:j<R.length*n:=by
  have:=(List.getElem?_eq_some_iff.1 z).1
  rw[fy E]at this;exact this
 have d:j/n<R.length:=(Nat.div_lt_iff_lt_mul A).2 a;have e:j/n*n+j % n=j:=Nat.div_add_mod' j n;have f:=mU (j/n) (j % n) d E (Nat.mod_lt _ A);rw[e,z]at f;have y:=h _ d _ u f.symm;rw[Addr.add_lit];rw[Nat.add_assoc,e]at y;exact y
theorem gY {n:Nat} {w:World} {base:Nat} {T:TypeId} {v:Value} {R:List (List Value)} (h:w.ownsRow base T n v R.length R.flatten) (J:R.length≤1000000000000000) (j: ∀r∈R,r.length=n∧ ∀u∈r,u.oneCell'=true):aJ n w v R:=by
 have E:=h;obtain⟨_,F⟩:=h
 rcases F with⟨rfl,A⟩|⟨g,d,cur,rfl,K,I,H,M,A,y⟩
 · have:R=[]:=List.length_eq_zero_iff.1 A
   subst this;exact⟨none,0,rfl,Nat.le_refl _,by simp,by simp,fun i a=>absurd a (by simp)⟩
 · refine⟨some ⟨g,0,none⟩,d,rfl,H,J,j,fun i a=>⟨g,0,rfl,cn I,fun c u z=>?_⟩⟩
   have e:c<n:=by
    have:=(List.getElem?_eq_some_iff.1 z).1
    rw[(j _ (List.getElem_mem a)).1]at this;exact this
   have f:i*n+c<R.length*n:=by
    have G:(i+1)*n≤R.length*n:=Nat.mul_le_mul_right n a;rw[Nat.add_mul]at G;omega
   rw[Nat.zero_add,E.cellAt (i*n+c) f,mU i c a (fun r o=>(j r o).1) e];exact z
theorem iv {n:Nat} {R:List (List Value)} (e: ∀r∈R,r.length=n∧ ∀u∈r,u.oneCell'=true): ∀u∈R.flatten,u.oneCell'=true:=by
 intro u f;obtain⟨r,a,d⟩:=List.mem_flatten.1 f
 exact(e r a).2 u d
theorem lj (k:Int) (p q t:ByteArray) (b:Int) (w:World) (N:p.size≤1000000000000000) (V:q.size≤1000000000000000) (ht:t.size≤1000000000000000):
    Calls prog 225 #[.agg #[.int .i64 k,.string p,.string q,.string t,.int .i64 b]] w fun e w'=>e= .returned (.int .i64 (aC ⟨k,p,q,t,b⟩))∧Below w.heap.size w w':=by
 by_cases T:k<1
 · have f:=hid (show 7=aC ⟨k,p,q,t,b⟩from by rw[aC,if_pos (Or.inl T)])
   go_enter func225,ntmps225
   go_wp2;go_ret;exact⟨an f.out,(Below.refl _ _).alloc (Nat.le_refl _) _⟩
 by_cases U:4<k
 · have f:=hid (show 7=aC ⟨k,p,q,t,b⟩from by rw[aC,if_pos (Or.inr U)])
   go_enter func225,ntmps225
   go_wp2;go_ret;exact⟨an f.out,(Below.refl _ _).alloc (Nat.le_refl _) _⟩
 by_cases A:al p.data.toList=0
 · have P:Hid (al p.data.toList=0):=A
   have Y:(k=1∨k=4)∨k=2∨k=3:=by omega
   clear T U;rcases Y with h|rfl|rfl
   · have d:=pJ h p q t b A
     clear A;rcases h with rfl|rfl
     all_goals
      rcases d with⟨z,f⟩|⟨z,E,f⟩|⟨z,E,K,Q,f⟩|⟨z,E,K,Q,f⟩|⟨z,E,K,Q,f5,f⟩
     all_goals
      go_enter func225,ntmps225
      go_wp2_with fail;refine(d9 p _ N).mono ?_
      rintro e S ⟨rfl,a⟩;rw[P.out];obtain⟨F,G,H,I,J,j,y⟩:=ak a
      clear a;go_wp2_with fail;go_ret;exact⟨an f.out,j⟩
   · have d:=pK p q t b A
     clear A;rcases d with⟨z,f⟩|⟨z,E,f⟩|⟨z,E,K,f⟩|⟨z,E,K,f⟩|⟨z,E,K,Q,f⟩
     all_goals
      go_enter func225,ntmps225
      go_wp2_with fail;refine(d9 p _ N).mono ?_
      rintro e S ⟨rfl,a⟩;rw[P.out];obtain⟨F,G,H,I,J,j,y⟩:=ak a
      clear a;go_wp2_with fail;go_ret;exact⟨an f.out,j⟩
   · by_cases O:al q.data.toList=0
     · have d:=pL p q t b A O
       have X:Hid (al q.data.toList=0):=O;clear A O;rcases d with⟨z,f⟩|⟨z,E,K,f⟩|⟨z,E,K,f⟩|⟨z,E,K,Q,f⟩
       all_goals
        go_enter func225,ntmps225
        go_wp2_with fail;refine(d9 p _ N).mono ?_
        rintro e S ⟨rfl,a⟩;rw[P.out];obtain⟨F,G,H,I,J,j,y⟩:=ak a
        go_wp2_with fail;refine(d9 q _ V).mono ?_
        rintro e w2 ⟨rfl,u⟩;rw[X.out];have o:=a.trans (u.mono a.size);clear F G H I J j y a u;obtain⟨F,G,H,I,J,j,y⟩:=ak o
        clear o;go_wp2_with fail;go_ret;exact⟨an f.out,j⟩
     · have f:=hid (show al q.data.toList=aC ⟨3,p,q,t,b⟩from by simp[aC,A,O])
       have Z:(al q.data.toList==0)=false:=by simpa using O
       clear A;go_enter func225,ntmps225
       go_wp2_with fail;refine(d9 p _ N).mono ?_
       rintro e S ⟨rfl,a⟩;rw[P.out];obtain⟨F,G,H,I,J,j,y⟩:=ak a
       go_wp2_with fail;refine(d9 q _ V).mono ?_
       rintro e w2 ⟨rfl,u⟩;have o:=a.trans (u.mono a.size);clear F G H I J j y a u;obtain⟨F,G,H,I,J,j,y⟩:=ak o
       clear o;go_wp2_with fail;go_ret;exact⟨an f.out,j⟩
 · have f:=hid (show al p.data.toList=aC ⟨k,p,q,t,b⟩from by rw[aC,if_neg (by simp only;omega),if_pos A])
   have C3:(al p.data.toList==0)=false:=by simpa using A
   go_enter func225,ntmps225
   go_wp2_with fail;refine(d9 p _ N).mono ?_
   rintro e S ⟨rfl,M⟩;obtain⟨F,G,H,I,J,hb,y⟩:=ak M
   clear M;go_wp2_with fail;go_ret;exact⟨an f.out,hb⟩
def gC (L:List En) (p q:List UInt8):Int:=if aI q p=true then 3 else if(L.find? (aE q)).isSome=true then 6 else 0
theorem uQ (L:List En) (v:Value) (k:Int) (p q t:ByteArray) (b:Int) (w:World) (V:aj w v L) (U: ∀e∈L,e.path.size≤1000000000000000) (S:p.size≤1000000000000000) (T:q.size≤1000000000000000) (P:al p.data.toList=0) (Q:al q.data.toList=0):
    Calls prog 272 #[v,.agg #[.int .i64 k,.string p,.string q,.string t,.int .i64 b]] w fun e w'=>e= .returned (.int .i64 (gC L p.data.toList q.data.toList))∧Below w.heap.size w w':=by
 have HV:Hid (aj w v L):=V;have Z:Hid (∀e∈L,e.path.size≤1000000000000000):=U;have o:(bq [q.data.toList,p.data.toList]==0)=true:=by simp[bq,P,Q]
 clear V U P Q;cases z:aI q.data.toList p.data.toList with
 |true=>
  have N:=hid (show(bq [q.data.toList,p.data.toList]==0 && aI q.data.toList p.data.toList)=true from by rw[o,z];rfl);have M:=hid (show 3=gC L p.data.toList q.data.toList from by rw[gC,if_pos z]);clear z o;go_enter func272,ntmps272
  go_wp2_with fail;refine(mO q p _ T S).mono ?_
  rintro e X ⟨rfl,d⟩;rw[N.out];obtain⟨A,E,F,G,H,a,j⟩:=ak d
  clear d;go_wp2_with fail;go_ret;exact⟨an M.out,a⟩
 |false=>
  have N:=hid (show(bq [q.data.toList,p.data.toList]==0 && aI q.data.toList p.data.toList)=false from by rw[o,z];rfl);have ae:gC L p.data.toList q.data.toList=if(L.find? (aE q.data.toList)).isSome=true then 6 else 0:=by rw[gC,if_neg (by rw[z];decide)]
  clear z o
  have O:(L.find? (aE q.data.toList)=none∧Hid (0=gC L p.data.toList q.data.toList))∨ ∃x,L.find? (aE q.data.toList)=some x∧Hid (6=gC L p.data.toList q.data.toList):=by
   cases y:L.find? (aE q.data.toList)with
   |none=>exact Or.inl ⟨rfl,(by rw[ae,y];rfl:0=gC L p.data.toList q.data.toList)⟩
   |some x=>exact Or.inr ⟨x,rfl,(by rw[ae,y];rfl:6=gC L p.data.toList q.data.toList)⟩
  clear ae;rcases O with⟨y,M⟩|⟨x,y,M⟩
  all_goals
   have Y:=hid y;clear y;go_enter func272,ntmps272
   go_wp2_with fail;refine(mO q p _ T S).mono ?_
   rintro e X ⟨rfl,d⟩;rw[N.out];obtain⟨A,E,F,G,H,a,j⟩:=ak d
   go_wp2_with fail;refine(gS q _).mono ?_
   rintro e w2 ⟨rfl,K,I⟩;have HT:Hid (cj w2 263 #[.pointer (some ⟨X.heap.size,0,none⟩)] (aE q.data.toList)):=K;have f:=d.trans (I.mono d.size);clear K A E F G H a j d I;obtain⟨A,E,F,G,H,a,j⟩:=ak f
   go_wp2_with fail;refine(gA L v _ _ _ _ (HV.out.below a) HT.out Z.out).mono ?_
   rintro e w4 ⟨rfl,J⟩;rw[Y.out,fM];have u:=f.trans (J.mono f.size);clear A E F G H a j f J;obtain⟨A,E,F,G,H,a,j⟩:=ak u
   clear u;go_wp2_with fail;go_ret;exact⟨an M.out,a.alloc (Nat.le_of_lt j) _⟩
theorem pV {L:List En} {c:ar} (h: ¬aB L (ax (Pp.goal c))=0):aB L (ax (Pp.goal c))=be L c:=by rw[be,if_pos h]
theorem pW {L:List En} {c:ar} (h:aB L (ax (Pp.goal c))=0) (a:L.find? (aE c.p.data.toList)=none):be L c=if c.k=3∨c.k=4 then 5 else 0:=by rw[be,if_neg (fun x=>x h),a]
theorem pX {L:List En} {c:ar} (h:aB L (ax (Pp.goal c))=0) {x:En} (a:L.find? (aE c.p.data.toList)=some x):be L c=if c.k=1 then 6 else if c.k=2 then(if x.folder=true then 4 else 0)else if c.k=3 then gC L c.p.data.toList c.q.data.toList else 0:=by
 rw[be,if_neg (fun x=>x h),a];rfl
theorem mV (L:List En) (v:Value) (k:Int) (p q t:ByteArray) (b:Int) (w:World) (hv:aj w v L) (hs: ∀e∈L,e.path.size≤1000000000000000) (hp:p.size≤1000000000000000) (hq:q.size≤1000000000000000) (hg:aC ⟨k,p,q,t,b⟩=0):
    Calls prog 226 #[v,.agg #[.int .i64 k,.string p,.string q,.string t,.int .i64 b]] w fun e w'=>e= .returned (.int .i64 (be L ⟨k,p,q,t,b⟩))∧Below w.heap.size w w':=by
 have C7:=gU hg;have X:Hid (al p.data.toList=0):=fN hg;have U:Hid (aj w v L):=hv;have T:Hid (∀e∈L,e.path.size≤1000000000000000):=hs;have h4:(k=1∨k=2∨k=4)∨k=3:=by simp only at C7;omega
 clear hv hs C7;rcases h4 with h4|rfl
 · have M:Pp.goal ⟨k,p,q,t,b⟩=p.data.toList:=by rw[Pp.goal,if_neg (by simp only;omega)]
   clear hg;by_cases H:aB L (ax p.data.toList)=0
   · have HP:Hid (aB L (ax p.data.toList)=0):=H
     rw[←M]at H
     have C3:(L.find? (aE p.data.toList)=none)∨ ∃x,L.find? (aE p.data.toList)=some x:=by
      cases L.find? (aE p.data.toList)with
      |none=>exact Or.inl rfl
      |some x=>exact Or.inr ⟨x,rfl⟩
     rcases C3 with Q|⟨x,Q⟩
     · have ae:=pW (c:=⟨k,p,q,t,b⟩) H Q
       have Y:=hid Q;clear Q H M;rcases h4 with rfl|rfl|rfl
       all_goals
        simp only[Int.reduceEq,or_self,or_true,or_false,if_true,if_false]at ae;have S:=hid ae;clear ae;go_enter func226,ntmps226
        go_wp2_with fail;refine(gy p _ hp).mono ?_
        rintro e w1 ⟨rfl,o⟩;rw[X.out,eH rfl];obtain⟨y,z,A,E,F,a,d⟩:=ak o
        go_wp2_with fail;refine(iO L v ⟨(ax p.data.toList).toArray⟩ _ (U.out.below a) T.out).mono ?_
        rintro e V ⟨rfl,J⟩;rw[show aB L _=0 from HP.out];have f:=o.trans (J.mono o.size);clear y z A E F a d o J;obtain⟨y,z,A,E,F,a,d⟩:=ak f
        go_wp2_with fail;refine(gS p _).mono ?_
        rintro e w3 ⟨rfl,P,N⟩;have Z:Hid (cj w3 263 #[.pointer (some ⟨V.heap.size,0,none⟩)] (aE p.data.toList)):=P;have j:=f.trans (N.mono f.size);clear P y z A E F a d f N;obtain⟨y,z,A,E,F,a,d⟩:=ak j
        go_wp2_with fail;refine(gA L v _ _ _ _ (U.out.below a) Z.out T.out).mono ?_
        rintro e w4 ⟨rfl,O⟩;rw[Y.out,fM];have I:=j.trans (O.mono j.size);clear y z A E F a d j O;obtain⟨y,z,A,E,F,a,d⟩:=ak I
        clear I;go_wp2_with fail;go_ret;exact⟨an S.out.symm,a.alloc (Nat.le_of_lt d) _⟩
     · have ae:=pX (c:=⟨k,p,q,t,b⟩) H Q
       have Y:=hid Q;clear Q H M;rcases h4 with rfl|rfl|rfl
       all_goals
        cases hx:x.folder
       all_goals
        simp only[Int.reduceEq,hx,or_self,or_true,or_false,if_true,if_false,Bool.false_eq_true]at ae;have S:=hid ae;clear ae;go_enter func226,ntmps226
        go_wp2_with fail;refine(gy p _ hp).mono ?_
        rintro e w1 ⟨rfl,o⟩;rw[X.out,eH rfl];obtain⟨y,z,A,E,F,a,d⟩:=ak o
        go_wp2_with fail;refine(iO L v ⟨(ax p.data.toList).toArray⟩ _ (U.out.below a) T.out).mono ?_
        rintro e V ⟨rfl,J⟩;rw[show aB L _=0 from HP.out];have f:=o.trans (J.mono o.size);clear y z A E F a d o J;obtain⟨y,z,A,E,F,a,d⟩:=ak f
        go_wp2_with fail;refine(gS p _).mono ?_
        rintro e w3 ⟨rfl,P,N⟩;have Z:Hid (cj w3 263 #[.pointer (some ⟨V.heap.size,0,none⟩)] (aE p.data.toList)):=P;have j:=f.trans (N.mono f.size);clear P y z A E F a d f N;obtain⟨y,z,A,E,F,a,d⟩:=ak j
        go_wp2_with fail;refine(gA L v _ _ _ _ (U.out.below a) Z.out T.out).mono ?_
        rintro e w4 ⟨rfl,O⟩;rw[Y.out,fM,hx];have I:=j.trans (O.mono j.size);clear y z A E F a d j O;obtain⟨y,z,A,E,F,a,d⟩:=ak I
        clear I;go_wp2_with fail;go_ret;exact⟨an S.out.symm,a.alloc (Nat.le_of_lt d) _⟩
   · have C4:(aB L (ax p.data.toList)==0)=false:=by simpa using H
     have S:=hid (show aB L (ax p.data.toList)=be L ⟨k,p,q,t,b⟩from by rw[←pV (by rw[M];exact H),M]);clear H M;rcases h4 with rfl|rfl|rfl
     all_goals
      go_enter func226,ntmps226
      go_wp2_with fail;refine(gy p _ hp).mono ?_
      rintro e w1 ⟨rfl,o⟩;rw[X.out,eH rfl];obtain⟨y,z,A,E,F,a,d⟩:=ak o
      go_wp2_with fail;refine(iO L v ⟨(ax p.data.toList).toArray⟩ _ (U.out.below a) T.out).mono ?_
      rintro e V ⟨rfl,J⟩;have f:=o.trans (J.mono o.size);clear y z A E F a d o J;obtain⟨y,z,A,E,F,a,d⟩:=ak f
      clear f;have C8:(aB L (⟨(ax p.data.toList).toArray⟩:ByteArray).data.toList==0)=false:=C4;generalize hG:aB L (⟨(ax p.data.toList).toArray⟩:ByteArray).data.toList=G at*;have C9:(G==0)=false:=C8;go_wp2_with fail;go_ret;exact⟨an S.out,a⟩
 · have M:Pp.goal ⟨3,p,q,t,b⟩=q.data.toList:=rfl
   have HQ:Hid (al q.data.toList=0):=jt hg rfl;clear hg;by_cases H:aB L (ax q.data.toList)=0
   · have HP:Hid (aB L (ax q.data.toList)=0):=H
     rw[←M]at H
     have C3:(L.find? (aE p.data.toList)=none)∨ ∃x,L.find? (aE p.data.toList)=some x:=by
      cases L.find? (aE p.data.toList)with
      |none=>exact Or.inl rfl
      |some x=>exact Or.inr ⟨x,rfl⟩
     rcases C3 with Q|⟨x,Q⟩
     · have ae:=pW (c:=⟨3,p,q,t,b⟩) H Q
       have Y:=hid Q;clear Q H M;simp only[Int.reduceEq,or_self,or_true,or_false,if_true,if_false]at ae;have S:=hid ae;clear ae;go_enter func226,ntmps226
       go_wp2_with fail;refine(gy p _ hp).mono ?_
       rintro e w0 ⟨rfl,K⟩;rw[X.out,eH rfl];obtain⟨y,z,A,E,F,a,d⟩:=ak K
       go_wp2_with fail;refine(gy q _ hq).mono ?_
       rintro e w1 ⟨rfl,o⟩;rw[HQ.out,eH rfl];have u:=K.trans (o.mono K.size);clear y z A E F a d K o;obtain⟨y,z,A,E,F,a,d⟩:=ak u
       go_wp2_with fail;refine(iO L v ⟨(ax q.data.toList).toArray⟩ _ (U.out.below a) T.out).mono ?_
       rintro e V ⟨rfl,J⟩;rw[show aB L _=0 from HP.out];have f:=u.trans (J.mono u.size);clear y z A E F a d u J;obtain⟨y,z,A,E,F,a,d⟩:=ak f
       go_wp2_with fail;refine(gS p _).mono ?_
       rintro e w3 ⟨rfl,P,N⟩;have Z:Hid (cj w3 263 #[.pointer (some ⟨V.heap.size,0,none⟩)] (aE p.data.toList)):=P;have j:=f.trans (N.mono f.size);clear P y z A E F a d f N;obtain⟨y,z,A,E,F,a,d⟩:=ak j
       go_wp2_with fail;refine(gA L v _ _ _ _ (U.out.below a) Z.out T.out).mono ?_
       rintro e w4 ⟨rfl,O⟩;rw[Y.out,fM];have I:=j.trans (O.mono j.size);clear y z A E F a d j O;obtain⟨y,z,A,E,F,a,d⟩:=ak I
       clear I;go_wp2_with fail;go_ret;exact⟨an S.out.symm,a.alloc (Nat.le_of_lt d) _⟩
     · have ae:=pX (c:=⟨3,p,q,t,b⟩) H Q
       have Y:=hid Q;clear Q H M;simp only[Int.reduceEq,or_self,or_true,or_false,if_true,if_false]at ae;have S:=hid ae;clear ae;go_enter func226,ntmps226
       go_wp2_with fail;refine(gy p _ hp).mono ?_
       rintro e w0 ⟨rfl,K⟩;rw[X.out,eH rfl];obtain⟨y,z,A,E,F,a,d⟩:=ak K
       go_wp2_with fail;refine(gy q _ hq).mono ?_
       rintro e w1 ⟨rfl,o⟩;rw[HQ.out,eH rfl];have u:=K.trans (o.mono K.size);clear y z A E F a d K o;obtain⟨y,z,A,E,F,a,d⟩:=ak u
       go_wp2_with fail;refine(iO L v ⟨(ax q.data.toList).toArray⟩ _ (U.out.below a) T.out).mono ?_
       rintro e V ⟨rfl,J⟩;rw[show aB L _=0 from HP.out];have f:=u.trans (J.mono u.size);clear y z A E F a d u J;obtain⟨y,z,A,E,F,a,d⟩:=ak f
       go_wp2_with fail;refine(gS p _).mono ?_
       rintro e w3 ⟨rfl,P,N⟩;have Z:Hid (cj w3 263 #[.pointer (some ⟨V.heap.size,0,none⟩)] (aE p.data.toList)):=P;have j:=f.trans (N.mono f.size);clear P y z A E F a d f N;obtain⟨y,z,A,E,F,a,d⟩:=ak j
       go_wp2_with fail;refine(gA L v _ _ _ _ (U.out.below a) Z.out T.out).mono ?_
       rintro e w4 ⟨rfl,O⟩;rw[Y.out,fM];have I:=j.trans (O.mono j.size);clear y z A E F a d j O;obtain⟨y,z,A,E,F,a,d⟩:=ak I
       go_wp2_with fail;refine(uQ L v 3 p q t b _ (U.out.below (a.alloc (Nat.le_of_lt d) _)) T.out hp hq X.out HQ.out).mono ?_
       rintro e w5 ⟨rfl,C6⟩;have C5:Below w.heap.size w w5:=(a.alloc (Nat.le_of_lt d) _).trans (C6.mono (by simp;omega));clear y z A E F a d I C6;go_wp2_with fail;go_ret;exact⟨an S.out.symm,C5⟩
   · have C4:(aB L (ax q.data.toList)==0)=false:=by simpa using H
     have S:=hid (show aB L (ax q.data.toList)=be L ⟨3,p,q,t,b⟩from by rw[←pV (by rw[M];exact H),M]);clear H M;go_enter func226,ntmps226
     go_wp2_with fail;refine(gy p _ hp).mono ?_
     rintro e w0 ⟨rfl,K⟩;rw[X.out,eH rfl];obtain⟨y,z,A,E,F,a,d⟩:=ak K
     go_wp2_with fail;refine(gy q _ hq).mono ?_
     rintro e w1 ⟨rfl,o⟩;rw[HQ.out,eH rfl];have u:=K.trans (o.mono K.size);clear y z A E F a d K o;obtain⟨y,z,A,E,F,a,d⟩:=ak u
     go_wp2_with fail;refine(iO L v ⟨(ax q.data.toList).toArray⟩ _ (U.out.below a) T.out).mono ?_
     rintro e V ⟨rfl,J⟩;have f:=u.trans (J.mono u.size);clear y z A E F a d u J;obtain⟨y,z,A,E,F,a,d⟩:=ak f
     clear f;have C8:(aB L (⟨(ax q.data.toList).toArray⟩:ByteArray).data.toList==0)=false:=C4;generalize hG:aB L (⟨(ax q.data.toList).toArray⟩:ByteArray).data.toList=G at*;go_wp2_with fail;go_ret;exact⟨an S.out,a⟩
structure Gr where
 fo:ByteArray
 wh:ByteArray
 ri:Int
def dQ (w:World) (b o:Nat) (g:Gr):Prop:=w.cell? ⟨b,o,none⟩=some (.string g.fo)∧w.cell? ⟨b,o+1,none⟩=some (.string g.wh)∧w.cell? ⟨b,o+2,none⟩=some (.int .i64 g.ri)
def bt (w:World) (v:Value) (G:List Gr):Prop:= ∃a cap,v= .slice a G.length cap∧G.length≤cap∧G.length≤1000000000000000∧ ∀i (h:i<G.length),∃b o,a=some ⟨b,o,none⟩∧b<w.heap.size∧dQ w b (o+i*3) G[i]
theorem dQ.below {w w':World} {b o:Nat} {g:Gr} (h:dQ w b o g) (hb:b<w.heap.size) (a:Below w.heap.size w w'):dQ w' b o g:=
 ⟨(a.cell (p:=⟨b,o,none⟩) hb).trans h.1,(a.cell (p:=⟨b,o+1,none⟩) hb).trans h.2.1,(a.cell (p:=⟨b,o+2,none⟩) hb).trans h.2.2⟩
theorem bt.below {w w':World} {v:Value} {G:List Gr} (h:bt w v G) (e:Below w.heap.size w w'):bt w' v G:=by
 obtain⟨a,d,E,f,j,u⟩:=h
 refine⟨a,d,E,f,j,fun i A=>?_⟩
 obtain⟨b,o,y,hb,z⟩:=u i A
 exact⟨b,o,y,Nat.lt_of_lt_of_le hb e.size,z.below hb e⟩
theorem lk (w:World):bt w (.slice none 0 0) []:=⟨none,0,rfl,Nat.le_refl _,by decide,fun i h=>absurd h (by simp)⟩
def gZ (G:List Gr):Prop:= ∀g∈G,g.fo.size≤150000000000000∧g.wh.size≤150000000000000
theorem mW {w d:World} {a b c:Value} {T:TypeId} (h:Below (w.alloc (.cells #[a,b,c] T)).heap.size (w.alloc (.cells #[a,b,c] T)) d):
    d.cell? ⟨w.heap.size,0,none⟩=some a∧d.cell? ⟨w.heap.size,1,none⟩=some b∧d.cell? ⟨w.heap.size,2,none⟩=some c∧Below w.heap.size w d∧w.heap.size<d.heap.size:=by
 have e:w.heap.size<(w.alloc (.cells #[a,b,c] T)).heap.size:=by simp
 refine⟨?_,?_,?_,((Below.refl _ _).alloc (Nat.le_refl _) _).trans (h.mono (Nat.le_of_lt e)),Nat.lt_of_lt_of_le e h.size⟩
 · exact(h.cell (p:=⟨w.heap.size,0,none⟩) e).trans (by simp)
 · exact(h.cell (p:=⟨w.heap.size,1,none⟩) e).trans (by simp)
 · exact(h.cell (p:=⟨w.heap.size,2,none⟩) e).trans (by simp)
def iT (g:Gr):Bool:=az g.fo.data.toList && az g.wh.data.toList
def bE (g:Gr):Int:=if iT g=true then(if g.ri<1∨3<g.ri then 3 else 0)else 1
theorem uR (g:Gr) (w:World) (G:g.fo.size≤150000000000000) (H:g.wh.size≤150000000000000):
    Calls prog 129 #[.agg #[.string g.fo,.string g.wh,.int .i64 g.ri]] w fun e w'=>e= .returned (.int .i64 (bE g))∧Below w.heap.size w w':=by
 have j:bf [g.fo,g.wh]=if iT g=true then 0 else 1:=by simp[bf,iT]
 have y:(bf [g.fo,g.wh]=1∧bE g=1)∨(bf [g.fo,g.wh]=0∧g.ri<1∧bE g=3)∨(bf [g.fo,g.wh]=0∧1≤g.ri∧3<g.ri∧bE g=3)∨(bf [g.fo,g.wh]=0∧1≤g.ri∧g.ri≤3∧bE g=0):=by
  rw[j,bE];cases iT g with
  |false=>left;simp
  |true=>
   right
   by_cases o:g.ri<1
   · left;simp[o]
   · right
     by_cases F:3<g.ri
     · left;simp[F];omega
     · right;simp;omega
 clear j;rcases y with⟨f,ae⟩|⟨f,o,ae⟩|⟨f,o,E,ae⟩|⟨f,o,E,ae⟩
 all_goals
  have A:=ai f;have z:=ai ae;clear f ae;go_enter func129,ntmps129
  go_wp2_with fail;refine(kj [g.fo,g.wh] (w.heap.size+1) 0 2 _ (by simp) (fun i h=>by match i,h with|0,_=>exact Nat.le_trans G (by decide)|1,_=>exact Nat.le_trans H (by decide)) (by simp) (fun i h=>by match i,h with|0,_=>simp|1,_=>simp)).mono ?_
  rintro e J ⟨rfl,a⟩;rw[A.out];have d:Below (w.alloc (.cells #[.string g.fo,.string g.wh,.int .i64 g.ri] 97)).heap.size (w.alloc (.cells #[.string g.fo,.string g.wh,.int .i64 g.ri] 97)) J:=((Below.refl _ _).alloc (Nat.le_refl _) _).trans (a.mono (by simp));obtain⟨K,M,N,u,I⟩:=mW d
  clear a d;go_wp2_with fail;go_ret;exact⟨by rw[z.out];rfl,u⟩
theorem mX (L:List En) (v u:Value) (w:World) (P:aj w v L) (O:aj w u L):
    Calls prog 72 #[v,u] w fun e w'=>e= .returned (.bool true)∧Below w.heap.size w w':=by
 obtain⟨a,M,rfl,I,E,H⟩:=P
 have J:Hid (∀i (h:i<L.length),∃b o,a=some ⟨b,o,none⟩∧b<w.heap.size∧cM w b (o+i*4) L[i]):=H;obtain⟨K,G,rfl,A,_,f⟩:=O
 have y:Hid (∀i (h:i<L.length),∃b o,K=some ⟨b,o,none⟩∧b<w.heap.size∧cM w b (o+i*4) L[i]):=f;clear H f;go_enter func72,ntmps72
 go_wp2_with fail;go_loopw [5] (fun i wr=> ∃k:Nat,k≤L.length∧i= .int .i64 k∧Below w.heap.size w wr) (fun i _=>L.length-(intOf i).toNat)
 case atStart=>exact⟨0,Nat.zero_le _,rfl,Below.refl _ _⟩
 case round=>
  obtain⟨k,hk,rfl,d⟩:=hrel
  by_cases j:k<L.length
  · obtain⟨b,o,rfl,hb,N⟩:=J.out k j
    obtain⟨Q,o',rfl,z,F⟩:=y.out k j
    obtain⟨S,T,U,V⟩:=N.below hb d
    obtain⟨X,Y,Z,d3⟩:=F.below z d
    go_wp2_with fail;go_region
    go_wp2_with fail;go_roundw
    case rel=>exact⟨k+1,by omega,by simp,d.drew⟩
    case measure=>simp[intOf];omega
  · go_wp2_with fail
    go_ret;exact⟨rfl,d⟩
theorem uS (L:List ar) (v u:Value) (w:World) (P:bk w v L) (O:bk w u L):
    Calls prog 73 #[v,u] w fun e w'=>e= .returned (.bool true)∧Below w.heap.size w w':=by
 obtain⟨a,M,rfl,I,E,H⟩:=P
 have J:Hid (∀i (h:i<L.length),∃b o,a=some ⟨b,o,none⟩∧b<w.heap.size∧eJ w b (o+i*5) L[i]):=H;obtain⟨K,G,rfl,A,_,f⟩:=O
 have y:Hid (∀i (h:i<L.length),∃b o,K=some ⟨b,o,none⟩∧b<w.heap.size∧eJ w b (o+i*5) L[i]):=f;clear H f;go_enter func73,ntmps73
 go_wp2_with fail;go_loopw [5] (fun i wr=> ∃k:Nat,k≤L.length∧i= .int .i64 k∧Below w.heap.size w wr) (fun i _=>L.length-(intOf i).toNat)
 case atStart=>exact⟨0,Nat.zero_le _,rfl,Below.refl _ _⟩
 case round=>
  obtain⟨k,hk,rfl,d⟩:=hrel
  by_cases j:k<L.length
  · obtain⟨b,o,rfl,hb,N⟩:=J.out k j
    obtain⟨Q,o',rfl,z,F⟩:=y.out k j
    obtain⟨S,T,U,V,X⟩:=N.below hb d
    obtain⟨Y,Z,d2,d3,d4⟩:=F.below z d
    go_wp2_with fail;go_region
    go_wp2_with fail;go_roundw
    case rel=>exact⟨k+1,by omega,by simp,d.drew⟩
    case measure=>simp[intOf];omega
  · go_wp2_with fail
    go_ret;exact⟨rfl,d⟩
end Go.Proofs.YtgamnckfmmbjdaaGreatDoor
