/- The program's writer: rows of texts and of numbers. -/
import Derived.Test.YtcmlnelpcjfocaaGreatDoorWYU
import Derived.Test.YtcmlnelpcjfocaaGreatDoorWYP
set_option linter.unusedSimpArgs false
set_option linter.unusedVariables false
namespace Go.Proofs.YtcmlnelpcjfocaaGreatDoor
open Go.RowKit Go.Proofs.Tryz
set_option maxHeartbeats 4000000
set_option maxRecDepth 100000
theorem bR.row {B b g:Nat} {cs:Array Value} {T:TypeId} {f:Nat×Nat} {w w':World} (h:bR B b w w') (A:w.heap[g]?=some (.cells cs T f)) (d:g≠b) (z:T≠5):w'.heap[g]?=some (.cells cs T f):=
 h.2 g _ A (fun e=>d (by injection e)) (fun c y e=>by injection e with _ aE _;exact z aE)
theorem Wr.take_next {d:Type} (f:d→aN) (s:Ws) (xs:List d) (k:Nat) (h:k<xs.length):Wr.run s ((xs.take (k+1)).map f)=Wr.put (Wr.run s ((xs.take k).map f)) (f xs[k]):=by
 rw[List.take_succ_eq_append_getElem h,List.map_append,rO];rfl
theorem Wr.take_len {d:Type} (f:d→aN) (s:Ws) (xs:List d) (k:Nat) (z: ∀x∈xs,(f x).wf) (G:s.l.length+1021*xs.length≤1000000000):(Wr.run s ((xs.take k).map f)).l.length≤1000000000:=by
 have:=Wr.run_len ((xs.take k).map f) s (fun y E=>by
  obtain⟨x,A,rfl⟩:=List.mem_map.1 E
  exact z x (List.mem_of_mem_take A))
 have F:((xs.take k).map f).length≤xs.length:=by rw[List.length_map,List.length_take];omega
 omega
theorem xA (xs:List ByteArray) (B b g:Nat) (s:Ws) (w:World) (h:Wt B b s w) (J:w.heap[g]?=some (.cells (xs.map Value.string).toArray 9 (0,0))) (F:g≠b) (d:s.l.length+1021*xs.length≤1000000000) (I:3<B) (K:eA w) (M: ∀x∈xs,(x.size:Int)≤9223372036854775807):
    Calls prog 200 #[.pointer (some ⟨b,0,none⟩),.slice (some ⟨g,0,none⟩) xs.length xs.length] w fun e w'=>e= .returned (.tuple #[])∧Wt B b (Wr.run s (xs.map .t)) w'∧bR B b w w':=by
 have O:=hid J;have S:=hid M;have Q:=hid K;have P:=hid (show∀k,(Wr.run s ((xs.take k).map aN.t)).l.length≤1000000000 from fun k=>Wr.take_len _ s xs k (fun _ _=>trivial) d);have U:xs.length≤1000000:=by omega
 clear J M K d;go_enter func200,ntmps200
 go_wp2_with fail;go_loopw [8] (fun i wr=> ∃k:Nat,k≤xs.length∧i= .int .i64 k∧Hid (Wt B b (Wr.run s ((xs.take k).map .t)) wr)∧bR B b w wr) (fun i _=>xs.length-(intOf i).toNat)
 case atStart=>exact⟨0,Nat.zero_le _,rfl,(by rw[List.take_zero];exact h:Wt B b (Wr.run s ((xs.take 0).map .t)) w),bR.refl _ _ _⟩
 case round=>
  obtain⟨k,X,rfl,G,z⟩:=hrel
  by_cases f:k<xs.length
  · have T:wr.cell? ⟨g,k,none⟩=some (.string xs[k]):=by rw[Lib.cell_of_heap (z.row O.out F (by decide))];simp[f]
    have y:=Q.out.fr I z;have A:=hid y;clear y;go_wp2_with fail;refine(DA B b _ xs[k] wr G.out (P.out k) I A.out (S.out _ (List.getElem_mem f))).mono ?_
    rintro e V ⟨rfl,H,E⟩;have N:=hid H;clear H T;go_wp2_with fail;go_roundw
    case rel=>exact⟨k+1,by omega,by simp,(by rw[Wr.take_next _ s xs k f];exact N.out:Wt B b (Wr.run s ((xs.take (k+1)).map .t)) V),z.trans E⟩
    case measure=>simp[intOf];omega
  · obtain rfl:k=xs.length:=by omega
    go_wp2_with fail;go_end0
    exact⟨rfl,by have:=G.out;rw[List.take_length]at this;exact this,z⟩
theorem Ee (xs:List Int) (B b g:Nat) (s:Ws) (w:World) (h:Wt B b s w) (K:w.heap[g]?=some (.cells (xs.map (Value.int .i64)).toArray 3 (0,0))) (F:g≠b) (d:s.l.length+1021*xs.length≤1000000000) (J:3<B) (M:eA w) (G: ∀x∈xs,dz x):
    Calls prog 201 #[.pointer (some ⟨b,0,none⟩),.slice (some ⟨g,0,none⟩) xs.length xs.length] w fun e w'=>e= .returned (.tuple #[])∧Wt B b (Wr.run s (xs.map .n)) w'∧bR B b w w':=by
 have O:=hid K;have S:=hid G;have Q:=hid M;have P:=hid (show∀k,(Wr.run s ((xs.take k).map aN.n)).l.length≤1000000000 from fun k=>Wr.take_len _ s xs k G d);have U:xs.length≤1000000:=by omega
 clear K G M d;go_enter func201,ntmps201
 go_wp2_with fail;go_loopw [8] (fun i wr=> ∃k:Nat,k≤xs.length∧i= .int .i64 k∧Hid (Wt B b (Wr.run s ((xs.take k).map .n)) wr)∧bR B b w wr) (fun i _=>xs.length-(intOf i).toNat)
 case atStart=>exact⟨0,Nat.zero_le _,rfl,(by rw[List.take_zero];exact h:Wt B b (Wr.run s ((xs.take 0).map .n)) w),bR.refl _ _ _⟩
 case round=>
  obtain⟨k,X,rfl,H,z⟩:=hrel
  by_cases f:k<xs.length
  · have T:wr.cell? ⟨g,k,none⟩=some (.int .i64 xs[k]):=by rw[Lib.cell_of_heap (z.row O.out F (by decide))];simp[f]
    have y:=Q.out.fr J z;have A:=hid y;clear y;go_wp2_with fail;refine(nL B b _ xs[k] wr H.out (S.out _ (List.getElem_mem f)) (P.out k) J A.out).mono ?_
    rintro e V ⟨rfl,I,E⟩;have N:=hid I;clear I T;go_wp2_with fail;go_roundw
    case rel=>exact⟨k+1,by omega,by simp,(by rw[Wr.take_next _ s xs k f];exact N.out:Wt B b (Wr.run s ((xs.take (k+1)).map .n)) V),z.trans E⟩
    case measure=>simp[intOf];omega
  · obtain rfl:k=xs.length:=by omega
    go_wp2_with fail;go_end0
    exact⟨rfl,by have:=H.out;rw[List.take_length]at this;exact this,z⟩
def Wr.lst {α:Type} (m:Nat) (f:α→List aN) (l:List α):List aN:=if l.length≤m then .n l.length::l.flatMap f else[.big]
def bI (c:ay):List aN:=[.n c.k,.t c.p,.t c.q,.t c.t,.n c.b]
def dE (q:Rq):List aN:=[.n q.kind,.t q.who,.t q.fo,.t q.name,.t q.key,.t q.text,.n q.num,.n q.off,.n q.base]++Wr.lst 20 bI q.ch
theorem Ef {d:Type} (f:d→List aN) (s:Ws) (xs:List d) (k:Nat) (h:k<xs.length):Wr.run s ((xs.take (k+1)).flatMap f)=Wr.run (Wr.run s ((xs.take k).flatMap f)) (f xs[k]):=by
 rw[List.take_succ_eq_append_getElem h,List.flatMap_append,rO];simp
theorem pc {d:Type} (f:d→List aN) (m:Nat): ∀(xs:List d),(∀x∈xs,(f x).length≤m)→(xs.flatMap f).length≤m*xs.length
 |[],_=>by simp
 |x::xs,h=>by
  have A:=h x (by simp);have E:=pc f m xs (fun y z=>h y (by simp[z]));rw[List.flatMap_cons,List.length_append,List.length_cons,Nat.mul_succ];omega
theorem Eg {d:Type} (f:d→List aN) (m:Nat) (s:Ws) (xs:List d) (k:Nat) (h: ∀x∈xs,(f x).length≤m∧ ∀y∈f x,y.wf):(Wr.run s ((xs.take k).flatMap f)).l.length≤s.l.length+1021*(m*xs.length):=by
 have E:=Wr.run_len ((xs.take k).flatMap f) s (fun y A=>by
  obtain⟨x,z,A⟩:=List.mem_flatMap.1 A
  exact(h x (List.mem_of_mem_take z)).2 y A)
 have F:=pc f m (xs.take k) (fun x z=>(h x (List.mem_of_mem_take z)).1);have G:m*(xs.take k).length≤m*xs.length:=Nat.mul_le_mul_left _ (by rw[List.length_take];omega);omega
def gY (x:ByteArray):Prop:=(x.size:Int)≤9223372036854775807
structure je (c:ay):Prop where
 k:dz c.k
 b:dz c.b
 p:gY c.p
 q:gY c.q
 t:gY c.t
theorem je.it {c:ay} (h:je c):(bI c).length≤5∧ ∀y∈bI c,y.wf:=by
 refine⟨by simp[bI],fun y d=>?_⟩
 simp only[bI,List.mem_cons,List.not_mem_nil,or_false]at d;rcases d with rfl|rfl|rfl|rfl|rfl
 · exact h.k
 · trivial
 · trivial
 · trivial
 · exact h.b
def jg (w:World) (b g:Nat):Prop:=w.heap[g]?=some (.cells #[.pointer (some ⟨b,0,none⟩)] 263 (0,0))∧g≠b
theorem jg.fr {B b g:Nat} {w w':World} (h:jg w b g) (d:bR B b w w'):jg w' b g:=⟨d.row h.1 h.2 (by decide),h.2⟩
theorem jg.below {b g:Nat} {w w':World} (h:jg w b g) (d:Below w.heap.size w w'):jg w' b g:=⟨(d.block g (cM h.1)).trans h.1,h.2⟩
theorem jg.cell {b g:Nat} {w:World} (h:jg w b g):w.cell? ⟨g,0,none⟩=some (.pointer (some ⟨b,0,none⟩)):=by rw[Lib.cell_of_heap h.1];rfl
theorem bO (w:World) (o:Obj):Below w.heap.size w (w.alloc o):=(Below.refl _ w).alloc (Nat.le_refl _) o
theorem Eh (c:ay) (B b g:Nat) (s:Ws) (w:World) (h:Wt B b s w) (hg:jg w b g) (IF:s.l.length+6000≤1000000000) (H:3<B) (ht:eA w) (hc:je c):
    Calls prog 236 #[.agg #[.int .i64 c.k,.string c.p,.string c.q,.string c.t,.int .i64 c.b],.pointer (some ⟨g,0,none⟩)] w fun e w'=>e= .returned (.tuple #[])∧Wt B b (Wr.run s (bI c)) w'∧bR B b w w':=by
 obtain⟨k,p,q,t,cb⟩:=c
 have IC:B≤w.heap.size:=Nat.le_of_lt (Nat.lt_of_le_of_lt h.B h.lt);obtain⟨P,d⟩: ∃P,P=w.alloc (.cells #[.int .i64 k,.string p,.string q,.string t,.int .i64 cb] 72):=⟨_,rfl⟩
 have I:Below w.heap.size w P:=by rw[d];exact bO _ _
 have I5:bR B b w P:=kV I IC;have I8:P.heap[w.heap.size]?=some (.cells #[.int .i64 k,.string p,.string q,.string t,.int .i64 cb] 72 (0,0)):=by rw[d];exact heap_alloc_new w _
 have M:w.heap.size≠b:=fun e=>by have:=h.lt;omega
 have h0:=h.below I;have J:=hg.below I;have N:=ht.fr H I5;have a0:=J.cell;rw[d]at a0;have HK:=hid (nL B b s k P h0 hc.k (by omega) H N);have l1:=Wr.num_len (s:=s) hc.k;rw[d]at HK;have U:=hid I8;have S:=hid J;have X:=hid N;have HC:=hid hc;have Iz:=hid d;clear d I8 J N hg ht hc h0;go_enter func236,ntmps236
 go_wp2_with fail;refine HK.out.mono ?_
 rintro e f ⟨rfl,Z,z⟩;rw[←Iz.out]at z;have K:=S.out.fr z;have F:=z.row U.out M (by decide);have O:=X.out.fr H z;have IB:B≤f.heap.size:=Nat.le_of_lt (Nat.lt_of_le_of_lt Z.B Z.lt);obtain⟨Q,G⟩: ∃Q,Q=f.alloc (.cells #[.string p,.string q,.string t] 9):=⟨_,rfl⟩
 have I0:Below f.heap.size f Q:=by rw[G];exact bO _ _
 have A:bR B b f Q:=kV I0 IB;have Iy:Q.heap[f.heap.size]?=some (.cells (([p,q,t]:List ByteArray).map Value.string).toArray 9 (0,0)):=by rw[G];exact heap_alloc_new f _
 have IE:f.heap.size≠b:=fun e=>by have:=Z.lt;omega
 have c0:=K.cell;have c1:f.cell? ⟨w.heap.size,1,none⟩=some (.string p):=by rw[Lib.cell_of_heap F];rfl
 have c2:f.cell? ⟨w.heap.size,2,none⟩=some (.string q):=by rw[Lib.cell_of_heap F];rfl
 have c3:f.cell? ⟨w.heap.size,3,none⟩=some (.string t):=by rw[Lib.cell_of_heap F];rfl
 have HX:=hid (xA [p,q,t] B b f.heap.size (Wr.num s k) Q (Z.below I0) Iy IE (by simp only[List.length_cons,List.length_nil];omega) H (O.fr H A) (by
  intro x hx;simp only[List.mem_cons,List.not_mem_nil,or_false]at hx;rcases hx with rfl|rfl|rfl
  · exact HC.out.p
  · exact HC.out.q
  · exact HC.out.t))
 have I6:=K.fr A;have I9:=A.row F M (by decide);have Iw:=O.fr H A;rw[G]at HX;have IA:=hid G;have T:=hid I6;have V:=hid I9;have Y:=hid Iw;clear G I6 I9 Iw K F O U S X HK a0 Iy Z;go_wp2_with fail;refine HX.out.mono ?_
 rintro e w3 ⟨rfl,h5,E⟩;rw[←IA.out]at E;have I7:=T.out.fr E;have Iv:=E.row V.out M (by decide);have Ix:=Y.out.fr H E;have d0:=I7.cell;have d1:w3.cell? ⟨w.heap.size,4,none⟩=some (.int .i64 cb):=by rw[Lib.cell_of_heap Iv];rfl
 have l2:=Wr.run_len (([p,q,t]:List ByteArray).map aN.t) (Wr.num s k) (by
  intro y hy;simp only[List.map_cons,List.map_nil,List.mem_cons,List.not_mem_nil,or_false]at hy;rcases hy with rfl|rfl|rfl<;>trivial)
 simp only[List.map_cons,List.map_nil,List.length_cons,List.length_nil]at l2;have HN:=hid (nL B b _ cb w3 h5 HC.out.b (by simp only[List.map_cons,List.map_nil];omega) H Ix);clear c0 c1 c2 c3 HX I7 Iv Ix T V Y h5;go_wp2_with fail;refine HN.out.mono ?_
 rintro e w4 ⟨rfl,h6,ID⟩;go_wp2_with fail;go_end0
 exact⟨rfl,h6,I5.trans (z.trans (A.trans (E.trans ID)))⟩
theorem Ei: ∀d w,(callFunc 236 d).run prog w= .ok (.enter 236 d) w:=enters_of func236 (by kernel_rfl) rfl
theorem Ej (d:World) (cs:List ay) (v:Value) (b g:Nat) (s:Ws) (w:World) (hL:cj d v cs) (hW:Below d.heap.size d w) (h:Wt d.heap.size b s w) (hg:jg w b g) (I5:s.l.length+200000≤1000000000) (T:3<d.heap.size) (ht:eA w) (X: ∀c∈cs,je c):
    Calls prog 235 #[.pointer (some ⟨b,0,none⟩),v,.int .i64 20,.func (.func 236) #[] #[.pointer (some ⟨g,0,none⟩)]] w fun e w'=>e= .returned (.tuple #[])∧Wt d.heap.size b (Wr.run s (Wr.lst 20 bI cs)) w'∧bR d.heap.size b w w':=by
 obtain⟨a,I6,rfl,I0,Y,G⟩:=hL
 have F:=xi d.heap.size b s cs.length 20 w h ⟨by omega,by omega⟩ (by omega) T ht;by_cases N:(cs.length:Int)≤20
 · rw[if_pos N,decide_eq_true N]at F
   have l1:=Wr.num_len (s:=s) (n:=cs.length) ⟨by omega,by omega⟩
   have HL:=hid (show∀k,(Wr.run (Wr.num s cs.length) ((cs.take k).flatMap bI)).l.length+6000≤1000000000 from fun k=>by
    have:=Eg bI 5 (Wr.num s cs.length) cs k (fun x hx=>(X x hx).it)
    omega)
   have HE:=hid (show Wr.run (Wr.num s cs.length) ((cs.take cs.length).flatMap bI)=Wr.run s (Wr.lst 20 bI cs)from by rw[List.take_length,Wr.lst,if_pos (by omega)];rfl);have HC:=hid F;have HD:=hid X;have HM:=hid G;have HG:=hid hg;have HT:=hid ht;have HW:=hid hW;have eg:=Ei;clear F X G hg ht hW;go_enter func235,ntmps235
   go_wp2_with fail;refine HC.out.mono ?_
   rintro e w1 ⟨rfl,E,y⟩;have P:=hid (show Wt d.heap.size b (Wr.run (Wr.num s cs.length) ((cs.take 0).flatMap bI)) w1 from E);have I7:d.heap.size≤w1.heap.size:=Nat.le_of_lt (Nat.lt_of_le_of_lt E.B E.lt);clear E;go_wp2_with fail;go_loopw [18] (fun i wr=> ∃k:Nat,k≤cs.length∧i= .int .i64 k∧Hid (Wt d.heap.size b (Wr.run (Wr.num s cs.length) ((cs.take k).flatMap bI)) wr)∧bR d.heap.size b w wr) (fun i _=>cs.length-(intOf i).toNat)
   case atStart=>exact⟨0,Nat.zero_le _,rfl,P,y⟩
   case round=>
    obtain⟨k,hk,rfl,M,I⟩:=hrel
    by_cases A:k<cs.length
    · obtain⟨bb,o,rfl,V,he⟩:=HM.out k A
      obtain⟨c0,c1,c2,c3,c4⟩:=he.below V (HW.out.trans I.1)
      have Z:=M.out.lt;have U:d.heap.size≤wr.heap.size:=Nat.le_of_lt (Nat.lt_of_le_of_lt M.out.B Z);obtain⟨K,f⟩: ∃K,K=wr.alloc (.cells #[.int .i64 cs[k].k,.string cs[k].p,.string cs[k].q,.string cs[k].t,.int .i64 cs[k].b] 72):=⟨_,rfl⟩
      have H:Below wr.heap.size wr K:=by rw[f];exact bO _ _
      have z:bR d.heap.size b wr K:=kV H U;have O:=hid (Eh cs[k] d.heap.size b g _ K (M.out.below H) (HG.out.fr (I.trans z)) (HL.out k) T (HT.out.fr T (I.trans z)) (HD.out _ (List.getElem_mem A)));rw[f]at O;have Q:=hid f;clear f he;go_wp2_with fail;refine O.out.mono ?_
      rintro e w2 ⟨rfl,S,J⟩;rw[←Q.out]at J;rw[←Ef _ _ _ _ A]at S;have H2:=hid S;clear S O c0 c1 c2 c3 c4;go_wp2_with fail;go_roundw
      case rel=>exact⟨k+1,by omega,by simp,H2,I.trans (z.trans J)⟩
      case measure=>simp[intOf];omega
    · obtain rfl:k=cs.length:=by omega
      go_wp2_with fail;go_end0
      exact⟨rfl,by rw[←HE.out];exact M.out,I⟩
 · rw[if_neg N,decide_eq_false N]at F
   go_enter func235,ntmps235
   go_wp2_with fail;refine F.mono ?_
   rintro e w1 ⟨rfl,E,y⟩;go_wp2_with fail;refine bodyPost_ret (results_none rfl _ _ _) rfl ?_
   exact⟨rfl,by rw[Wr.lst,if_neg (by omega)];exact E,y⟩
theorem Ek (f:World) (cs:List ay) (v:Value) (b:Nat) (s:Ws) (w:World) (N:cj f v cs) (S:Below f.heap.size f w) (h:Wt f.heap.size b s w) (G:s.l.length+200000≤1000000000) (M:3<f.heap.size) (O:eA w) (T: ∀c∈cs,je c):
    Calls prog 202 #[.pointer (some ⟨b,0,none⟩),v] w fun e w'=>e= .returned (.tuple #[])∧Wt f.heap.size b (Wr.run s (Wr.lst 20 bI cs)) w'∧bR f.heap.size b w w':=by
 have U: ∀(K:Fn) (first cap:Array Value) (w:World),(Instr.makeFunc K first cap).run prog w= .ok (.func K first cap) w:=fun _ _ _ _=>rfl
 have I:=h.lt;have Q:f.heap.size≤w.heap.size:=Nat.le_of_lt (Nat.lt_of_le_of_lt h.B I);obtain⟨z,d⟩: ∃z,z=w.alloc (.cells #[.pointer (some ⟨b,0,none⟩)] 263):=⟨_,rfl⟩
 have A:Below w.heap.size w z:=by rw[d];exact bO _ _
 have y:bR f.heap.size b w z:=kV A Q;have F:jg z b w.heap.size:=⟨by rw[d];exact heap_alloc_new w _,by omega⟩
 have J:=hid (Ej f cs v b w.heap.size s z N (S.trans y.1) (h.below A) F G M (O.fr M y) T);rw[d]at J;have H:=hid d;clear d F N O h;go_enter func202,ntmps202
 go_wp2_with fail;refine J.out.mono ?_
 rintro e V ⟨rfl,P,E⟩;rw[←H.out]at E;go_wp2_with fail;go_end0
 exact⟨rfl,P,y.trans E⟩
theorem Ws.fin_many {s:Ws} (h:s.mn=true):cI s=(⟨#[]⟩,2):=by rw[cI,if_pos h]
theorem Ws.fin_far {s:Ws} (h:s.mn=false) (d:s.fr=true):cI s=(⟨#[]⟩,3):=by rw[cI,if_neg (by simp[h]),if_pos d]
theorem Ws.fin_ok {s:Ws} (h:s.mn=false) (d:s.fr=false):cI s=(⟨s.l.toArray⟩,0):=by rw[cI,if_neg (by simp[h]),if_neg (by simp[d])]
theorem El (B b:Nat) (s:Ws) (w:World) (h:Wt B b s w) (G:s.l≠[]):
    Calls prog 203 #[.pointer (some ⟨b,0,none⟩)] w fun e w'=>e= .returned (.tuple #[.string (cI s).1,.int .i64 (cI s).2])∧Below B w w':=by
 obtain⟨p,_,v,d,_,_⟩:=h.at
 have A:w.cell? ⟨b,2,none⟩=some (.bool s.mn):=by rw[Lib.cell_of_heap d];rfl
 have E:w.cell? ⟨b,3,none⟩=some (.bool s.fr):=by rw[Lib.cell_of_heap d];rfl
 have F:=hid (Dz B b s w h G);clear d;cases f:s.mn with
 |true=>
  rw[f]at A;rw[Ws.fin_many f];go_enter func203,ntmps203
  go_wp2_with fail;go_ret2;exact⟨rfl,Below.refl _ _⟩
 |false=>
  rw[f]at A;cases y:s.fr with
  |true=>
   rw[y]at E;rw[Ws.fin_far f y];go_enter func203,ntmps203
   go_wp2_with fail;go_ret2;exact⟨rfl,Below.refl _ _⟩
  |false=>
   rw[y]at E;rw[Ws.fin_ok f y];go_enter func203,ntmps203
   go_wp2_with fail;refine F.out.mono ?_
   rintro e H ⟨rfl,z⟩;go_wp2_with fail;go_ret2;exact⟨rfl,z⟩
def aL:Ws:=⟨[],false,false⟩
theorem Em {s:Ws} {x:aN} (h:s.l≠[]):(Wr.put s x).l≠[]:=by
 cases x with
 |n i=>simp[Wr.put,Wr.num]
 |t x=>
  show(iy s x).l≠[]
  unfold iy;split
  · exact h
  · simp[Wr.num]
 |big=>exact h
theorem pd: ∀{l:List aN} {s:Ws},s.l≠[]→(Wr.run s l).l≠[]
 |[],_,h=>h
 |x::l,s,h=>pd (l:=l) (Em h)
theorem Eo {s:Ws} {n:Int}:(Wr.num s n).l≠[]:=by simp[Wr.num]
theorem Ep {d:Type} (f:d→List aN) (m j:Nat) (xs:List d) (h: ∀x∈xs,(f x).length≤j):(Wr.lst m f xs).length≤1+j*m:=by
 unfold Wr.lst;split
 · rename_i y
   have z:=pc f j xs h;have A:j*xs.length≤j*m:=Nat.mul_le_mul_left _ y;rw[List.length_cons];omega
 · simp
theorem Er {d:Type} (f:d→List aN) (m:Nat) (xs:List d) (F:m≤1000000) (h: ∀x∈xs,∀y∈f x,y.wf): ∀y∈Wr.lst m f xs,y.wf:=by
 intro y z;unfold Wr.lst at z;split at z
 · rename_i E
   rw[List.mem_cons]at z;rcases z with rfl|z
   · exact(show dz _ from⟨by omega,by omega⟩)
   · obtain⟨x,A,z⟩:=List.mem_flatMap.1 z
     exact h x A y z
 · simp at z;subst z;trivial
theorem Es (W:World) (B b:Nat) (d:B≤b) (h:W.heap[b]?=some (.cells #[.pointer none,.slice none 0 0,.bool false,.bool false] 268 (0,0))):Wt B b aL W:=
 Or.inl ⟨d,.slice none 0 0,h,⟨by simp[aL,Lib.byteCells],Or.inl ⟨rfl,rfl⟩⟩,by simp[Value.ownBlock]⟩
structure pe (q:Rq):Prop where
 kind:dz q.kind
 num:dz q.num
 off:dz q.off
 base:dz q.base
 who:gY q.who
 fo:gY q.fo
 name:gY q.name
 key:gY q.key
 text:gY q.text
 ch: ∀c∈q.ch,je c
theorem Et (q:Rq) (v:Value) (w:World) (hq:jV w v q) (hz:pe q) (A:3<w.heap.size) (ht:eA w):
    Calls prog 157 #[v] w fun e w'=>e= .returned (.tuple #[.string (cI (Wr.run aL (dE q))).1,.int .i64 (cI (Wr.run aL (dE q))).2])∧Below w.heap.size w w':=by
 obtain⟨va,rfl,hL⟩:=hq
 obtain⟨kind,who,fo,name,key,text,num,off,base,ch⟩:=q
 obtain⟨zk,zn,zo,zb,z1,z2,z3,z4,z5,zc⟩:=hz
 simp only at hL zk zn zo zb z1 z2 z3 z4 z5 zc⊢;obtain⟨V,X,rfl,IX⟩: ∃V X,va= .slice V ch.length X∧True:=by obtain⟨a,c,h,_⟩:=hL;exact⟨a,c,h,trivial⟩
 obtain⟨T,z⟩: ∃T,T=w.alloc (.cells #[.int .i64 kind,.string who,.string fo,.string name,.string key,.string text,.int .i64 num,.int .i64 off,.int .i64 base,.slice V ch.length X] 61):=⟨_,rfl⟩
 obtain⟨K,J⟩: ∃K,K=T.alloc (.cells #[.pointer none,.slice none 0 0,.bool false,.bool false] 268):=⟨_,rfl⟩
 have sa:T.heap.size=w.heap.size+1:=by rw[z];simp
 have IC:Below w.heap.size w T:=by rw[z];exact bO _ _
 have Z:Below T.heap.size T K:=by rw[J];exact bO _ _
 have Y:Below w.heap.size w K:=IC.trans (Z.mono (by omega))
 have IE:K.heap[w.heap.size]?=some (.cells #[.int .i64 kind,.string who,.string fo,.string name,.string key,.string text,.int .i64 num,.int .i64 off,.int .i64 base,.slice V ch.length X] 61 (0,0)):=by
  rw[Z.block _ (by omega),z];exact heap_alloc_new w _
 have IL:K.heap[w.heap.size+1]?=some (.cells #[.pointer none,.slice none 0 0,.bool false,.bool false] 268 (0,0)):=by
  rw[←sa,J];exact heap_alloc_new T _
 have G:w.heap.size≠w.heap.size+1:=by omega
 have h0:=Es K w.heap.size (w.heap.size+1) (by omega) IL;have I5:=ht.belowB A Y;have U:=hid (nL w.heap.size (w.heap.size+1) aL kind K h0 zk (by simp[aL]) A I5);have l1:=Wr.num_len (s:=aL) zk;have l0:aL.l.length=0:=rfl;rw[J,z]at U;have IT:Hid (K=(w.alloc (.cells #[.int .i64 kind,.string who,.string fo,.string name,.string key,.string text,.int .i64 num,.int .i64 off,.int .i64 base,.slice V ch.length X] 61)).alloc (.cells #[.pointer none,.slice none 0 0,.bool false,.bool false] 268)):=(by rw[J,z]:K=_)
 have I8:=hid IE;have Ix:=hid I5;have HL:=hid hL;have HZ:=hid (And.intro (And.intro zn (And.intro zo zb)) (And.intro z1 (And.intro z2 (And.intro z3 (And.intro z4 z5)))));have HC:=hid zc;have c0:=(show Cs (w.alloc (.cells #[.int .i64 kind,.string who,.string fo,.string name,.string key,.string text,.int .i64 num,.int .i64 off,.int .i64 base,.slice V ch.length X] 61)) w.heap.size _ from⟨_,heap_alloc_new w _⟩)
 clear J z sa Z IC IE IL h0 I5 ht hL IX zk zn zo zb z1 z2 z3 z4 z5 zc c0;go_enter func157,ntmps157
 go_wp2_with fail;refine U.out.mono ?_
 rintro e f ⟨rfl,h1,M⟩;rw[←IT.out]at M;have d:=M.row I8.out G (by decide);have I6:=Ix.out.fr A M;have IU:w.heap.size≤f.heap.size:=Nat.le_of_lt (Nat.lt_of_le_of_lt h1.B h1.lt);obtain⟨w2,H⟩: ∃w2,w2=f.alloc (.cells #[.string who,.string fo,.string name,.string key,.string text] 9):=⟨_,rfl⟩
 have IA:Below f.heap.size f w2:=by rw[H];exact bO _ _
 have N:bR w.heap.size (w.heap.size+1) f w2:=kV IA IU;have IM:w2.heap[f.heap.size]?=some (.cells (([who,fo,name,key,text]:List ByteArray).map Value.string).toArray 9 (0,0)):=by rw[H];exact heap_alloc_new f _
 have IZ:f.heap.size≠w.heap.size+1:=fun e=>by have:=h1.lt;omega
 have c1:f.cell? ⟨w.heap.size,1,none⟩=some (.string who):=by rw[Lib.cell_of_heap d];rfl
 have c2:f.cell? ⟨w.heap.size,2,none⟩=some (.string fo):=by rw[Lib.cell_of_heap d];rfl
 have c3:f.cell? ⟨w.heap.size,3,none⟩=some (.string name):=by rw[Lib.cell_of_heap d];rfl
 have c4:f.cell? ⟨w.heap.size,4,none⟩=some (.string key):=by rw[Lib.cell_of_heap d];rfl
 have c5:f.cell? ⟨w.heap.size,5,none⟩=some (.string text):=by rw[Lib.cell_of_heap d];rfl
 have HX:=hid (xA [who,fo,name,key,text] w.heap.size (w.heap.size+1) f.heap.size (Wr.num aL kind) w2 (h1.below IA) IM IZ (by simp only[List.length_cons,List.length_nil];omega) A (I6.fr A N) (by
  intro x hx;obtain⟨_,z1,z2,z3,z4,z5⟩:=HZ.out
  simp only[List.mem_cons,List.not_mem_nil,or_false]at hx;rcases hx with rfl|rfl|rfl|rfl|rfl
  · exact z1
  · exact z2
  · exact z3
  · exact z4
  · exact z5))
 have IF:=N.row d G (by decide);have II:=I6.fr A N;rw[H]at HX;have IR:=hid H;have I9:=hid IF;have Iy:=hid II;have n1:Hid ((Wr.num aL kind).l≠[]):=Eo;clear H IF II d I6 I8 Ix U IM h1;go_wp2_with fail;refine HX.out.mono ?_
 rintro e E ⟨rfl,h5,O⟩;rw[←IR.out]at O
 have l2:=Wr.run_len (([who,fo,name,key,text]:List ByteArray).map aN.t) (Wr.num aL kind) (by
  intro y hy;obtain⟨x,_,rfl⟩:=List.mem_map.1 hy
  trivial)
 rw[List.length_map]at l2;simp only[List.length_cons,List.length_nil]at l2;obtain⟨s2,I0⟩: ∃s2,s2=Wr.run (Wr.num aL kind) (([who,fo,name,key,text]:List ByteArray).map aN.t):=⟨_,rfl⟩
 rw[←I0]at h5 l2;have Iw:=hid I0;clear I0;have F:=O.row I9.out G (by decide);have I7:=Iy.out.fr A O;have IV:w.heap.size≤E.heap.size:=Nat.le_of_lt (Nat.lt_of_le_of_lt h5.B h5.lt);obtain⟨w4,I⟩: ∃w4,w4=E.alloc (.cells #[.int .i64 num,.int .i64 off,.int .i64 base] 3):=⟨_,rfl⟩
 have IB:Below E.heap.size E w4:=by rw[I];exact bO _ _
 have P:bR w.heap.size (w.heap.size+1) E w4:=kV IB IV;have IN:w4.heap[E.heap.size]?=some (.cells (([num,off,base]:List Int).map (Value.int .i64)).toArray 3 (0,0)):=by rw[I];exact heap_alloc_new E _
 have IP:E.heap.size≠w.heap.size+1:=fun e=>by have:=h5.lt;omega
 have d1:E.cell? ⟨w.heap.size,6,none⟩=some (.int .i64 num):=by rw[Lib.cell_of_heap F];rfl
 have d2:E.cell? ⟨w.heap.size,7,none⟩=some (.int .i64 off):=by rw[Lib.cell_of_heap F];rfl
 have d3:E.cell? ⟨w.heap.size,8,none⟩=some (.int .i64 base):=by rw[Lib.cell_of_heap F];rfl
 have HY:=hid (Ee [num,off,base] w.heap.size (w.heap.size+1) E.heap.size s2 w4 (h5.below IB) IN IP (by simp only[List.length_cons,List.length_nil];omega) A (I7.fr A P) (by
  intro x hx;obtain⟨⟨zn,zo,zb⟩,_⟩:=HZ.out
  simp only[List.mem_cons,List.not_mem_nil,or_false]at hx;rcases hx with rfl|rfl|rfl
  · exact zn
  · exact zo
  · exact zb))
 have IG:=P.row F G (by decide);have IJ:=I7.fr A P;rw[I]at HY;have IS:=hid I;have Iv:=hid IG;have Iz:=hid IJ;clear I IG IJ F I7 I9 Iy HX IN h5 c1 c2 c3 c4 c5;go_wp2_with fail;refine HY.out.mono ?_
 rintro e w5 ⟨rfl,h7,Q⟩;rw[←IS.out]at Q
 have l3:=Wr.run_len (([num,off,base]:List Int).map aN.n) s2 (by
  intro y hy;obtain⟨⟨zn,zo,zb⟩,_⟩:=HZ.out
  simp only[List.map_cons,List.map_nil,List.mem_cons,List.not_mem_nil,or_false]at hy;rcases hy with rfl|rfl|rfl
  · exact zn
  · exact zo
  · exact zb)
 rw[List.length_map]at l3;simp only[List.length_cons,List.length_nil]at l3;obtain⟨s3,S⟩: ∃s3,s3=Wr.run s2 (([num,off,base]:List Int).map aN.n):=⟨_,rfl⟩
 rw[←S]at h7 l3
 have HE:=hid (show Wr.run s3 (Wr.lst 20 bI ch)=Wr.run aL (dE ⟨kind,who,fo,name,key,text,num,off,base,ch⟩)from by
  rw[S,Iw.out,dE,rO];rfl)
 have IQ:Hid ((Wr.run s3 (Wr.lst 20 bI ch)).l≠[]):=pd (by rw[S];exact pd (by rw[Iw.out];exact pd n1.out));clear S;have IH:=Q.row Iv.out G (by decide);have IK:=Iz.out.fr A Q;have g1:w5.cell? ⟨w.heap.size,9,none⟩=some (.slice V ch.length X):=by rw[Lib.cell_of_heap IH];rfl
 have ID:bR w.heap.size (w.heap.size+1) K w5:=M.trans (N.trans (O.trans (P.trans Q)));have HP:=hid (Ek w ch _ (w.heap.size+1) s3 w5 HL.out (Y.trans ID.1) h7 (by omega) A IK HC.out);clear IH IK Iv Iz HY d1 d2 d3 h7;go_wp2_with fail;refine HP.out.mono ?_
 rintro e w6 ⟨rfl,h8,IY⟩;have HQ:=hid (El w.heap.size (w.heap.size+1) _ w6 h8 IQ.out);clear h8 g1 HP;go_wp2_with fail;refine HQ.out.mono ?_
 rintro e w7 ⟨rfl,IW⟩;go_wp2_with fail;go_ret2;rw[HE.out];exact⟨rfl,Y.trans (ID.1.trans (IY.1.trans IW))⟩
theorem nS (a b:ByteArray):bH [a,b]=if aM a.data.toList=true∧aM b.data.toList=true then 0 else 1:=by
 rw[bH];simp only[List.all_cons,List.all_nil,Bool.and_true,Bool.and_eq_true]
theorem xB {a b:ByteArray} (h: ¬(aM a.data.toList=true∧aM b.data.toList=true)):eu a b=1:=by
 have d:bH [a,b]=1:=by rw[nS,if_neg h]
 rw[eu,d,if_pos (by decide)]
theorem Eu {a b:ByteArray} (f:aM a.data.toList=true) (y:aM b.data.toList=true) (h:cZ a.data.toList=false):eu a b=1:=by
 have d:bH [a,b]=0:=by rw[nS,if_pos ⟨f,y⟩]
 rw[eu,d,if_neg (by decide),kG h];split<;>rfl
theorem Ev {a b:ByteArray} (f:aM a.data.toList=true) (y:aM b.data.toList=true) (h:10<a.size):eu a b=1:=by
 have d:bH [a,b]=0:=by rw[nS,if_pos ⟨f,y⟩]
 rw[eu,d,if_neg (by decide),if_pos h]
theorem Ew {a b:ByteArray} (f:aM a.data.toList=true) (y:aM b.data.toList=true) (z:cZ a.data.toList=true) (h: ¬10<a.size):eu a b=0:=by
 have d:bH [a,b]=0:=by rw[nS,if_pos ⟨f,y⟩]
 rw[eu,d,if_neg (by decide),if_neg h,ma z]
theorem Ex {c:Cn} (h:(decide (0≤c.cur) && decide (c.cur≤1000000))=false):fV c=true:=by
 simp only[fV,Bool.or_eq_true,decide_eq_true_eq];simp only[Bool.and_eq_false_iff,decide_eq_false_iff_not]at h;omega
theorem Ey {c:Cn} (h:(decide (0≤c.keys) && decide (c.keys≤1000000))=false):fV c=true:=by
 simp only[fV,Bool.or_eq_true,decide_eq_true_eq];simp only[Bool.and_eq_false_iff,decide_eq_false_iff_not]at h;omega
theorem Ez {c:Cn} (h:(decide (0≤c.cur) && decide (c.cur≤1000000))=true) (d:(decide (0≤c.keys) && decide (c.keys≤1000000))=true):fV c=false:=by
 simp only[Bool.and_eq_true,decide_eq_true_eq]at h d;simp only[fV,Bool.or_eq_false_iff,decide_eq_false_iff_not];omega
theorem xC (n:Int) (w:World):Calls prog 37 #[.int .i64 n] w fun e w'=>e= .returned (.bool (decide (0≤n) && decide (n≤1000000)))∧w'=w:=by
 by_cases f:0≤n
 · by_cases y:n≤1000000
   · have d:=hid (show(decide (0≤n) && decide (n≤1000000))=true from by simp[f,y])
     rw[d.out];go_enter func37,ntmps37
     go_wp2_with fail;go_ret;exact⟨rfl,rfl⟩
   · have d:=hid (show(decide (0≤n) && decide (n≤1000000))=false from by simp[y])
     rw[d.out];go_enter func37,ntmps37
     go_wp2_with fail;go_ret;exact⟨rfl,rfl⟩
 · have d:=hid (show(decide (0≤n) && decide (n≤1000000))=false from by simp[f])
   have z:decide (0≤n)=false:=decide_eq_false f;rw[d.out];go_enter func37,ntmps37
   go_wp2_with fail;go_ret;exact⟨rfl,rfl⟩
theorem EA (c:Cn) (v:Value) (w:World) (hv:fU w v c) (hs:iO c) (U: ∀e∈c.base,e.path.size≤1000000000) (V: ∀e∈c.mine,e.path.size≤1000000000):
    Calls prog 12 #[v] w fun e w'=>e= .returned (.int .i64 (bo c))∧Below w.heap.size w w':=by
 obtain⟨vb,vm,va,rfl,hb,hm,ha⟩:=hv
 have HB:=hid hb;have HM:=hid hm;have I0:=hid U;have I5:=hid V;obtain⟨ab,cb,rfl,_⟩:=hb
 obtain⟨am,bh,rfl,_⟩:=hm
 obtain⟨aa,ca,rfl,_,Iy,_⟩:=ha
 obtain⟨r,hr⟩: ∃r,r=bo c:=⟨_,rfl⟩
 rw[←hr];have HR:=hid hr;have X:=hs.who;have I7:=hs.fo;have I9:=hs.key;clear hr hs U V;obtain⟨wz,H⟩: ∃wz,wz=w.alloc (.cells #[.string c.who,.string c.fo,.slice ab c.base.length cb,.int .i64 c.cur,.slice am c.mine.length bh,.string c.key,.slice aa c.ask.length ca,.int .i64 c.keys] 47):=⟨_,rfl⟩
 have A:Below w.heap.size w wz:=by rw[H];exact(Below.refl _ _).alloc (Nat.le_refl _) _
 have HX:=hid (show Cs wz w.heap.size [.string c.who,.string c.fo,.slice ab c.base.length cb,.int .i64 c.cur,.slice am c.mine.length bh,.string c.key,.slice aa c.ask.length ca,.int .i64 c.keys]from by rw[H];exact Cs.new _ [.string c.who,.string c.fo,.slice ab c.base.length cb,.int .i64 c.cur,.slice am c.mine.length bh,.string c.key,.slice aa c.ask.length ca,.int .i64 c.keys] _);have bad: ∀{n:Int},eu c.who c.fo=n→ ¬n=0→Hid (r=n):=fun h1 h2=>(by rw[HR.out,bo,if_pos (by rw[h1];exact h2),h1]:r=_)
 go_enter func12,ntmps12
 go_wp2_with fail;rw[←H];clear H;refine(js c.who _ X).mono ?_
 rintro e w1 ⟨rfl,rfl⟩;have x0:=HX.out.cell 0 rfl;have x1:=HX.out.cell 1 rfl;cases K:aM c.who.data.toList with
 |false=>
  have y:=bad (xB (fun h=>by rw[K]at h;cases h.1)) (by decide);clear bad;go_wp2_with fail;go_ret;exact⟨by rw[y.out];rfl,A⟩
 |true=>
  go_wp2_with fail;refine(js c.fo _ I7).mono ?_
  rintro e w1 ⟨rfl,rfl⟩;cases Y:aM c.fo.data.toList with
  |false=>
   have y:=bad (xB (fun h=>by rw[Y]at h;cases h.2)) (by decide);clear bad;go_wp2_with fail;go_ret;exact⟨by rw[y.out];rfl,A⟩
  |true=>
   go_wp2_with fail;refine(nf c.who _ (by unfold maxLen;omega)).mono ?_
   rintro e w1 ⟨rfl,rfl⟩;cases n3:cZ c.who.data.toList with
   |false=>
    have y:=bad (Eu K Y n3) (by decide);clear bad;go_wp2_with fail;go_ret;exact⟨by rw[y.out];rfl,A⟩
   |true=>
    by_cases n4:10<c.who.size
    · have y:=bad (Ev K Y n4) (by decide)
      have Z:10<(c.who.size:Int):=by omega
      clear bad;go_wp2_with fail;go_ret;exact⟨by rw[y.out];rfl,A⟩
    · have HN:=hid (Ew K Y n3 n4)
      have Z:decide (10<(c.who.size:Int))=false:=decide_eq_false (by omega);clear bad;have aY:=HX.out.cell 2 rfl;go_wp2_with fail;refine(mD c.base _ _ (HB.out.below A) I0.out).mono ?_
      rintro e w2 ⟨rfl,S⟩;have E:=ag A S;have O:=hid (HX.out.below S);clear x0 x1 aY K Y n3 n4 Z;by_cases ae:aH c.base=0
      · have N:=hid ae
        rw[ae];clear ae;have x4:=O.out.cell 4 rfl;go_wp2_with fail;refine(mD c.mine _ _ (HM.out.below E) I5.out).mono ?_
        rintro e w3 ⟨rfl,T⟩;have f:=ag E T;have G:=hid (O.out.below T);clear x4;by_cases hF:aH c.mine=0
        · have F:=hid (show r=if fV c=true then 3 else ew c.key c.ask.length from by rw[HR.out,bo,if_neg (fun x=>x HN.out),if_neg (fun x=>x N.out),if_neg (fun x=>x hF)])
          rw[hF];clear hF;have x3:=G.out.cell 3 rfl;have x5:=G.out.cell 5 rfl;have x6:=G.out.cell 6 rfl;have x7:=G.out.cell 7 rfl;go_wp2_with fail;refine(xC c.cur _).mono ?_
          rintro e w4 ⟨rfl,rfl⟩;cases g1:(decide (0≤c.cur) && decide (c.cur≤1000000))with
          |false=>
           have y:=hid (show r=3 from by rw[F.out,if_pos (Ex g1)]);go_wp2_with fail;go_ret;exact⟨by rw[y.out];rfl,f⟩
          |true=>
           go_wp2_with fail;refine(xC c.keys _).mono ?_
           rintro e w4 ⟨rfl,rfl⟩;cases g2:(decide (0≤c.keys) && decide (c.keys≤1000000))with
           |false=>
            have y:=hid (show r=3 from by rw[F.out,if_pos (Ey g2)]);go_wp2_with fail;go_ret;exact⟨by rw[y.out];rfl,f⟩
           |true=>
            have z:=hid (show r=ew c.key c.ask.length from by rw[F.out,if_neg (by rw[Ez g1 g2];decide)]);clear F g1 g2;obtain⟨n,hn⟩: ∃n,n=c.ask.length:=⟨_,rfl⟩
            rw[←hn]at z x6;clear hn;by_cases J:c.key.size=0
            · have ke:c.key=⟨#[]⟩:=by
               cases I6:c.key with
               |mk d=>rw[I6]at J;have h:d.size=0:=J;rw[Array.size_eq_zero_iff.1 h]
              by_cases I:n=0
              · have y:=hid (show r=0 from by rw[z.out,ke,I];rfl)
                rw[ke]at x5;rw[I]at x6;go_wp2_with fail;go_ret;exact⟨by rw[y.out];rfl,f⟩
              · have y:=hid (show r=4 from by rw[z.out,ew,if_neg (fun h=>h.1 J),if_pos (by rw[decide_eq_true J];simp[I])])
                have K:0<(n:Int):=by omega
                rw[ke]at x5;go_wp2_with fail;go_ret;exact⟨by rw[y.out];rfl,f⟩
            · have kl: ¬c.key.toList=[]:=by
               rw[Lib.toList_data];intro e;have:c.key.data.toList.length=c.key.size:=Array.length_toList
               rw[e]at this;exact J this.symm
              have kb:(c.key.toList==([]:List UInt8))=false:=beq_eq_false_iff_ne.2 kl;have I8:(c.key.toList==(⟨#[]⟩:ByteArray).toList)=false:=by rw[Lib.toList_data ⟨#[]⟩];exact kb
              have Iz:(c.key.toList !=(⟨#[]⟩:ByteArray).toList)=true:=by rw[bne,I8];rfl
              go_wp2_with fail;refine(nf c.key _ (by unfold maxLen;omega)).mono ?_
              rintro e w4 ⟨rfl,rfl⟩;cases hK:cZ c.key.data.toList with
              |false=>
               have y:=hid (show r=1 from by rw[z.out,ew,if_pos ⟨J,by rw[kG hK];decide⟩]);go_wp2_with fail;go_ret;exact⟨by rw[y.out];rfl,f⟩
              |true=>
               have M: ¬(¬c.key.size=0∧ ¬eN c.key.data.toList=0):=fun h=>h.2 (ma hK)
               by_cases I:n=0
               · have y:=hid (show r=4 from by rw[z.out,ew,if_neg M,if_pos (by simp[J,I])])
                 rw[I]at x6;clear M;go_wp2_with fail;go_ret;exact⟨by rw[y.out];rfl,f⟩
               · have K:((n:Int)==0)=false:=by simpa using (by omega: ¬(n:Int)=0)
                 have hd: ¬decide (c.key.size=0)≠decide (n=0):=by simp[J,I]
                 by_cases P:20<n
                 · have y:=hid (show r=2 from by rw[z.out,ew,if_neg M,if_neg hd,if_pos P])
                   have Q:20<(n:Int):=by omega
                   clear M hd I;go_wp2_with fail;go_ret;exact⟨by rw[y.out];rfl,f⟩
                 · have y:=hid (show r=0 from by rw[z.out,ew,if_neg M,if_neg hd,if_neg P])
                   have Q: ¬20<(n:Int):=by omega
                   clear M hd I;go_wp2_with fail;go_ret;exact⟨by rw[y.out];rfl,f⟩
        · have y:=hid (show r=aH c.mine from by rw[HR.out,bo,if_neg (fun x=>x HN.out),if_neg (fun x=>x N.out),if_pos hF])
          have Ix:(aH c.mine !=0)=true:=by simpa using hF
          generalize aH c.mine=n at*;clear hF;go_wp2_with fail;go_ret;exact⟨by rw[y.out];rfl,f⟩
      · have y:=hid (show r=aH c.base from by rw[HR.out,bo,if_neg (fun x=>x HN.out),if_pos ae])
        have Iv:(aH c.base !=0)=true:=by simpa using ae
        have Iw:(aH c.base==0)=false:=by simpa using ae
        generalize aH c.base=n at*;clear ae;go_wp2_with fail;go_ret;exact⟨by rw[y.out];rfl,E⟩
def gZ (c:UInt8):Bool:=decide (48≤c.toNat) && decide (c.toNat≤57)
def eT (v:Nat):List UInt8→Nat×List UInt8
 |[]=>(v,[])
 |c::l=>if gZ c=true∧v<1125899906842624 then eT (10*v+(c.toNat-48)) l else(v,c::l)
theorem sr {v:Nat} {c:UInt8} {l:List UInt8} (h: ¬(gZ c=true∧v<1125899906842624)):eT v (c::l)=(v,c::l):=by rw[eT,if_neg h]
theorem pf {v:Nat} {c:UInt8} {l:List UInt8} (h:gZ c=true∧v<1125899906842624):eT v (c::l)=eT (10*v+(c.toNat-48)) l:=by rw[eT,if_pos h]
theorem st: ∀(l:List UInt8) (v:Nat),∃p,l=p++(eT v l).2∧(v/10<1125899906842624→(eT v l).1/10<1125899906842624)
 |[],v=>⟨[],by simp[eT],fun h=>by simpa[eT]using h⟩
 |c::l,v=>by
  by_cases h:gZ c=true∧v<1125899906842624
  · rw[pf h]
    obtain⟨p,d,f⟩:=st l (10*v+(c.toNat-48))
    refine⟨c::p,by rw[List.cons_append,←d],fun _=>f ?_⟩
    simp only[gZ,Bool.and_eq_true,decide_eq_true_eq]at h;omega
  · rw[sr h];exact⟨[],by simp,fun h=>h⟩
theorem su: ∀(n u:Nat),u<n→u/10<1125899906842624→ ∀t,eT 0 (Lib.decDigits u++t)=eT u t
 |0,u,h,_,_=>absurd h (Nat.not_lt_zero _)
 |n+1,u,h,hb,t=>by
  rw[Lib.decDigits];by_cases d:u<10
  · rw[dif_pos d,List.singleton_append,pf ⟨by simp only[gZ,lG u d];simp;omega,by omega⟩,lG u d]
    congr 1;omega
  · rw[dif_neg d,List.append_assoc,su n (u/10) (by omega) (by omega),List.singleton_append]
    have e:=lG (u % 10) (by omega);rw[pf ⟨by simp only[gZ,e];simp;omega,hb⟩,e];congr 1;omega
theorem xD (v:Nat) (r:List UInt8):eT v (59::r)=(v,59::r):=sr (fun h=>by have:=h.1;simp[gZ]at this)
def kY (l:List UInt8):Bool:=match l with
 |45::_=>true
 |_=>false
def gj (l:List UInt8):Nat×List UInt8:=eT 0 (if kY l=true then l.drop 1 else l)
def mE (l:List UInt8):Int:=if kY l=true then-((gj l).1:Int)else(gj l).1
def mF (l:List UInt8):List UInt8:=l.take (l.length-(gj l).2.length)
def kn (l:List UInt8):Option (Int×List UInt8):=if(gj l).2.head?=some 59∧mF l=Lib.itoa (mE l)then some (mE l,(gj l).2.drop 1)else none
theorem EB (l:List UInt8):l=mF l++(gj l).2∧(gj l).1/10<1125899906842624:=by
 unfold mF gj;by_cases A:kY l=true
 · rw[if_pos A]
   obtain⟨p,d,f⟩:=st (l.drop 1) 0
   have y:l=l.take 1++(p++(eT 0 (l.drop 1)).2):=by rw[←d,List.take_append_drop]
   refine⟨?_,f (by omega)⟩
   generalize eT 0 (l.drop 1)=z at*;conv=>lhs;rw[y]
   rw[←List.append_assoc];congr 1
   conv=>rhs;rw[y,←List.append_assoc]
   rw[List.length_append,Nat.add_sub_cancel,List.take_left]
 · rw[if_neg A]
   obtain⟨p,d,f⟩:=st l 0
   refine⟨?_,f (by omega)⟩
   generalize eT 0 l=z at*;conv=>lhs;rw[d]
   congr 1
   conv=>rhs;rw[d]
   rw[List.length_append,Nat.add_sub_cancel,List.take_left]
theorem EC (n:Int) (r:List UInt8):kY (Lib.itoa n++r)=decide (n<0):=by
 by_cases h:n<0
 · obtain⟨u,rfl⟩: ∃u:Nat,n= -(u:Int):=⟨n.natAbs,by omega⟩
   rw[Lib.itoa_neg u (by omega),decide_eq_true h];rfl
 · obtain⟨u,rfl⟩: ∃u:Nat,n=u:=⟨n.toNat,by omega⟩
   rw[Lib.itoa_nonneg,decide_eq_false h];have z:=rR u;have A:=oP (u+1) u (Nat.lt_succ_self u);cases y:Lib.decDigits u with
   |nil=>exact absurd y z
   |cons c l=>
    have f:=A c (by rw[y];simp);rw[List.cons_append];unfold kY;split
    · rename_i d;injection d with e _;rw[e]at f;exact absurd f.1 (by decide)
    · rfl
theorem ED (l:List UInt8):kn l=aS aF l:=by
 have key: ∀n r,kn l=some (n,r)↔aS aF l=some (n,r):=fun n r=>by
  rw[xe oS];constructor
  · intro h
    unfold kn at h;split at h
    · rename_i y
      simp only[Option.some.injEq,Prod.mk.injEq]at h;obtain⟨rfl,rfl⟩:=h
      obtain⟨f,A⟩:=EB l
      refine⟨?_,?_⟩
      · simp only[aF,decide_eq_true_eq]
        unfold mE;split<;>omega
      · rw[y.2]at f
        conv=>lhs;rw[f]
        congr 1
        cases F:(gj l).2 with
        |nil=>rw[F]at y;simp at y
        |cons c t=>rw[F]at y;simp at y;rw[y.1];rfl
    · cases h
  · rintro ⟨G,rfl⟩
    simp only[aF,decide_eq_true_eq]at G;have E:=EC n (59::r)
    have d:gj (Lib.itoa n++59::r)=(n.natAbs,59::r):=by
     unfold gj;rw[E];by_cases h:n<0
     · obtain⟨u,rfl⟩: ∃u:Nat,n= -(u:Int):=⟨n.natAbs,by omega⟩
       rw[if_pos (decide_eq_true h),Lib.itoa_neg u (by omega),List.cons_append,List.drop_succ_cons,List.drop_zero,su (u+1) u (by omega) (by omega),xD];congr 1;omega
     · obtain⟨u,rfl⟩: ∃u:Nat,n=u:=⟨n.toNat,by omega⟩
       rw[if_neg (by simp),Lib.itoa_nonneg,su (u+1) u (by omega) (by omega),xD];congr 1
    have I:mE (Lib.itoa n++59::r)=n:=by
     unfold mE;rw[d,E];by_cases h:n<0
     · rw[if_pos (decide_eq_true h)];simp only;omega
     · rw[if_neg (by simpa using h)];simp only;omega
    have H:mF (Lib.itoa n++59::r)=Lib.itoa n:=by
     unfold mF;rw[d,List.length_append,Nat.add_sub_cancel,List.take_left]
    unfold kn;rw[d,I,H,if_pos ⟨rfl,rfl⟩];rfl
 cases f:kn l with
 |some z=>obtain⟨n,r⟩:=z;exact((key n r).1 f).symm
 |none=>
  cases A:aS aF l with
  |none=>rfl
  |some z=>obtain⟨n,r⟩:=z;rw[(key n r).2 A]at f;cases f
end Go.Proofs.YtcmlnelpcjfocaaGreatDoor
