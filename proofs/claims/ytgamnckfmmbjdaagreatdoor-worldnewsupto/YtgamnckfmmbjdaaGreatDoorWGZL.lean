/- The program's Ask: a request as a text. -/
import Derived.Test.YtgamnckfmmbjdaaGreatDoorWGZJ
set_option linter.unusedSimpArgs false
set_option linter.unusedVariables false
namespace Go.Proofs.YtgamnckfmmbjdaaGreatDoor
open Go.RowKit Go.ChangeShapes Go.WideShapes Go.ChangeAt Go.Proofs.Tryz
set_option maxHeartbeats 1000000
set_option maxRecDepth 100000
def aP:Ws:=⟨[],false,false⟩
theorem Bf {s:Ws} {x:aL} (h:s.l≠[]):(Wr.put s x).l≠[]:=by
 cases x with
 |n i=>simp[Wr.put,Wr.num]
 |t x=>
  show(hZ s x).l≠[]
  unfold hZ;split
  · exact h
  · simp[Wr.num]
 |big=>exact h
theorem l8: ∀{l:List aL} {s:Ws},s.l≠[]→(Wr.run s l).l≠[]
 |[],_,h=>h
 |x::l,s,h=>l8 (l:=l) (Bf h)
theorem Bg {s:Ws} {n:Int}:(Wr.num s n).l≠[]:=by simp[Wr.num]
theorem Bh (W:World) (B b:Nat) (a:B≤b) (h:W.heap[b]?=some (.cells #[.pointer none,.slice none 0 0,.bool false,.bool false] 259 (0,0))):Wt B b aP W:=
 Or.inl ⟨a,.slice none 0 0,h,⟨by simp[aP,Lib.byteCells],Or.inl ⟨rfl,rfl⟩⟩,by simp[Value.ownBlock]⟩
structure sL (q:Rq):Prop where
 kind:eh q.kind
 num:eh q.num
 off:eh q.off
 base:eh q.base
 who:iG q.who
 fo:iG q.fo
 name:iG q.name
 key:iG q.key
 text:iG q.text
 ch: ∀c∈q.ch,jI c
theorem Bi (q:Rq) (v:Value) (w:World) (hq:iZ w v q) (hz:sL q) (o:3<w.heap.size) (ht:df w):
    Calls prog 148 #[v] w fun e w'=>e= .returned (.tuple #[.string (ei (Wr.run aP (eD q))).1,.int .i64 (ei (Wr.run aP (eD q))).2])∧Below w.heap.size w w':=by
 obtain⟨va,rfl,hL⟩:=hq
 obtain⟨kind,who,fo,name,key,text,num,off,base,ch⟩:=q
 obtain⟨zk,zn,zo,zb,z1,z2,z3,z4,z5,zc⟩:=hz
 simp only at hL zk zn zo zb z1 z2 z3 z4 z5 zc⊢;obtain⟨S,T,rfl,CZ⟩: ∃S T,va= .slice S ch.length T∧True:=by obtain⟨a,c,h,_⟩:=hL;exact⟨a,c,h,trivial⟩
 obtain⟨P,j⟩: ∃P,P=w.alloc (.cells #[.int .i64 kind,.string who,.string fo,.string name,.string key,.string text,.int .i64 num,.int .i64 off,.int .i64 base,.slice S ch.length T] 57):=⟨_,rfl⟩
 obtain⟨H,G⟩: ∃H,H=P.alloc (.cells #[.pointer none,.slice none 0 0,.bool false,.bool false] 259):=⟨_,rfl⟩
 have sa:P.heap.size=w.heap.size+1:=by rw[j];simp
 have CF:Below w.heap.size w P:=by rw[j];exact dA _ _
 have V:Below P.heap.size P H:=by rw[G];exact dA _ _
 have U:Below w.heap.size w H:=CF.trans (V.mono (by omega))
 have CH:H.heap[w.heap.size]?=some (.cells #[.int .i64 kind,.string who,.string fo,.string name,.string key,.string text,.int .i64 num,.int .i64 off,.int .i64 base,.slice S ch.length T] 57 (0,0)):=by
  rw[V.block _ (by omega),j];exact heap_alloc_new w _
 have CO:H.heap[w.heap.size+1]?=some (.cells #[.pointer none,.slice none 0 0,.bool false,.bool false] 259 (0,0)):=by
  rw[←sa,G];exact heap_alloc_new P _
 have A:w.heap.size≠w.heap.size+1:=by omega
 have h0:=Bh H w.heap.size (w.heap.size+1) (by omega) CO;have Y:=ht.belowB o U;have Q:=hid (ku w.heap.size (w.heap.size+1) aP kind H h0 zk (by simp[aP]) o Y);have l1:=Wr.num_len (s:=aP) zk;have l0:aP.l.length=0:=rfl;rw[G,j]at Q;have CV:Hid (H=(w.alloc (.cells #[.int .i64 kind,.string who,.string fo,.string name,.string key,.string text,.int .i64 num,.int .i64 off,.int .i64 base,.slice S ch.length T] 57)).alloc (.cells #[.pointer none,.slice none 0 0,.bool false,.bool false] 259)):=(by rw[G,j]:H=_)
 have C4:=hid CH;have C8:=hid Y;have HL:=hid hL;have HZ:=hid (And.intro (And.intro zn (And.intro zo zb)) (And.intro z1 (And.intro z2 (And.intro z3 (And.intro z4 z5)))));have HC:=hid zc;have c0:=(show Cs (w.alloc (.cells #[.int .i64 kind,.string who,.string fo,.string name,.string key,.string text,.int .i64 num,.int .i64 off,.int .i64 base,.slice S ch.length T] 57)) w.heap.size _ from⟨_,heap_alloc_new w _⟩)
 clear G j sa V CF CH CO h0 Y ht hL CZ zk zn zo zb z1 z2 z3 z4 z5 zc c0;go_enter func148,ntmps148
 go_wp2_with fail;refine Q.out.mono ?_
 rintro e f ⟨rfl,h1,I⟩;rw[←CV.out]at I;have d:=I.row C4.out A (by decide);have Z:=C8.out.fr o I;have CW:w.heap.size≤f.heap.size:=Nat.le_of_lt (Nat.lt_of_le_of_lt h1.B h1.lt);obtain⟨w2,E⟩: ∃w2,w2=f.alloc (.cells #[.string who,.string fo,.string name,.string key,.string text] 9):=⟨_,rfl⟩
 have CD:Below f.heap.size f w2:=by rw[E];exact dA _ _
 have J:bg w.heap.size (w.heap.size+1) f w2:=iC CD CW;have CP:w2.heap[f.heap.size]?=some (.cells (([who,fo,name,key,text]:List ByteArray).map Value.string).toArray 9 (0,0)):=by rw[E];exact heap_alloc_new f _
 have D4:f.heap.size≠w.heap.size+1:=fun e=>by have:=h1.lt;omega
 have c1:f.cell? ⟨w.heap.size,1,none⟩=some (.string who):=by rw[Lib.cell_of_heap d];rfl
 have c2:f.cell? ⟨w.heap.size,2,none⟩=some (.string fo):=by rw[Lib.cell_of_heap d];rfl
 have c3:f.cell? ⟨w.heap.size,3,none⟩=some (.string name):=by rw[Lib.cell_of_heap d];rfl
 have c4:f.cell? ⟨w.heap.size,4,none⟩=some (.string key):=by rw[Lib.cell_of_heap d];rfl
 have c5:f.cell? ⟨w.heap.size,5,none⟩=some (.string text):=by rw[Lib.cell_of_heap d];rfl
 have HX:=hid (rJ [who,fo,name,key,text] w.heap.size (w.heap.size+1) f.heap.size (Wr.num aP kind) w2 (h1.below CD) CP D4 (by simp only[List.length_cons,List.length_nil];omega) o (Z.fr o J) (by
  intro x hx;obtain⟨_,z1,z2,z3,z4,z5⟩:=HZ.out
  simp only[List.mem_cons,List.not_mem_nil,or_false]at hx;rcases hx with rfl|rfl|rfl|rfl|rfl
  · exact z1
  · exact z2
  · exact z3
  · exact z4
  · exact z5))
 have CI:=J.row d A (by decide);have CL:=Z.fr o J;rw[E]at HX;have CT:=hid E;have C5:=hid CI;have C9:=hid CL;have n1:Hid ((Wr.num aP kind).l≠[]):=Bg;clear E CI CL d Z C4 C8 Q CP h1;go_wp2_with fail;refine HX.out.mono ?_
 rintro e u ⟨rfl,h5,K⟩;rw[←CT.out]at K
 have l2:=Wr.run_len (([who,fo,name,key,text]:List ByteArray).map aL.t) (Wr.num aP kind) (by
  intro y hy;obtain⟨x,_,rfl⟩:=List.mem_map.1 hy
  trivial)
 rw[List.length_map]at l2;simp only[List.length_cons,List.length_nil]at l2;obtain⟨s2,X⟩: ∃s2,s2=Wr.run (Wr.num aP kind) (([who,fo,name,key,text]:List ByteArray).map aL.t):=⟨_,rfl⟩
 rw[←X]at h5 l2;have C7:=hid X;clear X;have z:=K.row C5.out A (by decide);have C3:=C9.out.fr o K;have CX:w.heap.size≤u.heap.size:=Nat.le_of_lt (Nat.lt_of_le_of_lt h5.B h5.lt);obtain⟨w4,F⟩: ∃w4,w4=u.alloc (.cells #[.int .i64 num,.int .i64 off,.int .i64 base] 3):=⟨_,rfl⟩
 have CE:Below u.heap.size u w4:=by rw[F];exact dA _ _
 have M:bg w.heap.size (w.heap.size+1) u w4:=iC CE CX;have CQ:w4.heap[u.heap.size]?=some (.cells (([num,off,base]:List Int).map (Value.int .i64)).toArray 3 (0,0)):=by rw[F];exact heap_alloc_new u _
 have CR:u.heap.size≠w.heap.size+1:=fun e=>by have:=h5.lt;omega
 have d1:u.cell? ⟨w.heap.size,6,none⟩=some (.int .i64 num):=by rw[Lib.cell_of_heap z];rfl
 have d2:u.cell? ⟨w.heap.size,7,none⟩=some (.int .i64 off):=by rw[Lib.cell_of_heap z];rfl
 have d3:u.cell? ⟨w.heap.size,8,none⟩=some (.int .i64 base):=by rw[Lib.cell_of_heap z];rfl
 have HY:=hid (yz [num,off,base] w.heap.size (w.heap.size+1) u.heap.size s2 w4 (h5.below CE) CQ CR (by simp only[List.length_cons,List.length_nil];omega) o (C3.fr o M) (by
  intro x hx;obtain⟨⟨zn,zo,zb⟩,_⟩:=HZ.out
  simp only[List.mem_cons,List.not_mem_nil,or_false]at hx;rcases hx with rfl|rfl|rfl
  · exact zn
  · exact zo
  · exact zb))
 have CJ:=M.row z A (by decide);have CM:=C3.fr o M;rw[F]at HY;have CU:=hid F;have C6:=hid CJ;have CC:=hid CM;clear F CJ CM z C3 C5 C9 HX CQ h5 c1 c2 c3 c4 c5;go_wp2_with fail;refine HY.out.mono ?_
 rintro e w5 ⟨rfl,h7,N⟩;rw[←CU.out]at N
 have l3:=Wr.run_len (([num,off,base]:List Int).map aL.n) s2 (by
  intro y hy;obtain⟨⟨zn,zo,zb⟩,_⟩:=HZ.out
  simp only[List.map_cons,List.map_nil,List.mem_cons,List.not_mem_nil,or_false]at hy;rcases hy with rfl|rfl|rfl
  · exact zn
  · exact zo
  · exact zb)
 rw[List.length_map]at l3;simp only[List.length_cons,List.length_nil]at l3;obtain⟨s3,O⟩: ∃s3,s3=Wr.run s2 (([num,off,base]:List Int).map aL.n):=⟨_,rfl⟩
 rw[←O]at h7 l3
 have HE:=hid (show Wr.run s3 (Wr.lst 20 bZ ch)=Wr.run aP (eD ⟨kind,who,fo,name,key,text,num,off,base,ch⟩)from by
  rw[O,C7.out,eD,n8];rfl)
 have CS:Hid ((Wr.run s3 (Wr.lst 20 bZ ch)).l≠[]):=l8 (by rw[O];exact l8 (by rw[C7.out];exact l8 n1.out));clear O;have CK:=N.row C6.out A (by decide);have CN:=CC.out.fr o N;have g1:w5.cell? ⟨w.heap.size,9,none⟩=some (.slice S ch.length T):=by rw[Lib.cell_of_heap CK];rfl
 have CG:bg w.heap.size (w.heap.size+1) H w5:=I.trans (J.trans (K.trans (M.trans N)));have HP:=hid (zy w ch _ (w.heap.size+1) s3 w5 HL.out (U.trans CG.1) h7 (by omega) o CN HC.out);clear CK CN C6 CC HY d1 d2 d3 h7;go_wp2_with fail;refine HP.out.mono ?_
 rintro e w6 ⟨rfl,h8,D3⟩;have HQ:=hid (zz w.heap.size (w.heap.size+1) _ w6 h8 CS.out);clear h8 g1 HP;go_wp2_with fail;refine HQ.out.mono ?_
 rintro e w7 ⟨rfl,CY⟩;go_wp2_with fail;go_ret2;rw[HE.out];exact⟨rfl,U.trans (CG.1.trans (D3.1.trans CY))⟩
theorem ji {a d:Type} {p:bO a} {f:a→bO d} {l r:List UInt8} {y:d}:bG p f l=some (y,r)↔ ∃x j,p l=some (x,j)∧f x j=some (y,r):=by
 unfold bG;cases h:p l with
 |none=>simp
 |some z=>
  obtain⟨x,j⟩:=z
  constructor
  · exact fun h=>⟨x,j,rfl,h⟩
  · rintro ⟨e,b,o,u⟩
    simp only[Option.some.injEq,Prod.mk.injEq]at o;obtain⟨rfl,rfl⟩:=o
    exact u
theorem l9 {a:Type} {x y:a} {l r:List UInt8}:fj x l=some (y,r)↔x=y∧l=r:=by simp[fj]
def gP {α:Type} (p:bO α) (enc:α→List aL) (OK:α→Prop):Prop:= ∀l x r,p l=some (x,r)↔OK x∧l=Wr.bytes (enc x)++r
theorem eU {g:Int→Bool} (a: ∀n,g n=true→fE n):gP (bC g) (fun n=>[.n n]) (fun n=>g n=true):=fun l x r=>by
 rw[xI a];simp[Wr.bytes,aL.bytes]
theorem ma {g:Int→Bool} (e: ∀n,g n=true→fE n) (m:Int):gP (dK g m) (fun n=>[.n n]) (fun n=>g n=true∧0≤n∧n≤m):=fun l x r=>by
 unfold dK;rw[ji];constructor
 · rintro ⟨n,o,d,a⟩
   split at a
   · rename_i j
     simp only[Option.some.injEq,Prod.mk.injEq]at a;obtain⟨rfl,rfl⟩:=a
     have:=(eU e l n o).1 d
     exact⟨⟨this.1,j⟩,this.2⟩
   · cases a
 · rintro ⟨⟨d,a⟩,f⟩
   exact⟨x,r,(eU e l x r).2 ⟨d,f⟩,by rw[if_pos a]⟩
theorem eo {g:Int→Bool} (u: ∀n,g n=true→fE n) (m:Int):gP (bu g m) (fun x=>[.t x]) (fun x=>g x.size=true∧(x.size:Int)≤m):=fun l x r=>by
 unfold bu;rw[ji];constructor
 · rintro ⟨n,o,e,a⟩
   obtain⟨⟨f,y,j⟩,rfl⟩:=(ma u m l n o).1 e
   split at a
   · rename_i z
     simp only[Option.some.injEq,Prod.mk.injEq]at a;obtain⟨rfl,rfl⟩:=a
     obtain⟨k,rfl⟩: ∃k:Nat,n=k:=⟨n.toNat,by omega⟩
     have A:k≤o.length:=by omega
     have d:(⟨(o.take k).toArray⟩:ByteArray).size=k:=by rw[Lib.size_eq];simp;omega
     simp only[Int.toNat_natCast];refine⟨by rw[d];exact⟨f,j⟩,?_⟩
     simp only[Wr.bytes,List.flatMap_cons,List.flatMap_nil,aL.bytes,d,List.append_nil];simp
   · cases a
 · rintro ⟨⟨e,a⟩,rfl⟩
   have d:x.size=x.data.toList.length:=Lib.size_eq x;refine⟨x.size,x.data.toList++r,(ma u m _ _ _).2 ⟨⟨e,by omega,a⟩,by simp[Wr.bytes,aL.bytes]⟩,?_⟩
   rw[if_pos (by rw[List.length_append,←d];omega)];simp only[Int.toNat_natCast];rw[d,List.take_left,List.drop_left]
theorem me {a:Type} {p:bO a} {enc:a→List aL} {u:a→Prop} (j:gP p enc u): ∀n,gP (eS p n) (fun xs=>xs.flatMap enc) (fun xs=>xs.length=n∧ ∀x∈xs,u x)
 |0=>fun l xs r=>by
  rw[show eS p 0=fj []from rfl,l9];constructor
  · rintro ⟨rfl,rfl⟩;simp[Wr.bytes]
  · rintro ⟨⟨d,_⟩,rfl⟩
    obtain rfl:=List.length_eq_zero_iff.1 d;simp[Wr.bytes]
 |n+1=>fun l xs r=>by
  rw[show eS p (n+1)=bG p (fun x=>bG (eS p n) fun xs=>fj (x::xs))from rfl,ji];simp only[ji,l9];constructor
  · rintro ⟨x,z,d,o,E,f,rfl,rfl⟩
    obtain⟨A,rfl⟩:=(j l x z).1 d
    obtain⟨⟨b1,b2⟩,rfl⟩:=(me j n z o E).1 f
    refine⟨⟨by simp[b1],fun y e=>?_⟩,?_⟩
    · rcases List.mem_cons.1 e with rfl|e
      · exact A
      · exact b2 y e
    · rw[List.flatMap_cons,rq,List.append_assoc]
  · rintro ⟨⟨d,f⟩,rfl⟩
    match xs,d with
    |x::o,d=>
     refine⟨x,Wr.bytes (o.flatMap enc)++r,(j _ _ _).2 ⟨f x (by simp),by rw[List.flatMap_cons,rq,List.append_assoc]⟩,o,r,(me j n _ _ _).2 ⟨⟨by simpa using d,fun y e=>f y (by simp[e])⟩,rfl⟩,rfl,rfl⟩
theorem Bj {a:Type} {p:bO a} {enc:a→List aL} {f:a→Prop} {g:Int→Bool} (j: ∀n,g n=true→fE n) (m:Nat) (y: ∀n:Nat,n≤m→g n=true) (o:gP p enc f):gP (fF g m p) (fun xs=>Wr.lst m enc xs) (fun xs=>xs.length≤m∧ ∀x∈xs,f x):=fun l xs r=>by
 unfold fF;rw[ji];constructor
 · rintro ⟨n,u,d,e⟩
   obtain⟨⟨z,A,E⟩,rfl⟩:=(ma j m l n u).1 d
   obtain⟨⟨b1,b2⟩,rfl⟩:=(me o _ u xs r).1 e
   have F:(xs.length:Int)=n:=by omega
   refine⟨⟨by omega,b2⟩,?_⟩
   dsimp only;rw[Wr.lst,if_pos (by omega),n9,←F];simp[Wr.bytes]
 · rintro ⟨⟨d,e⟩,rfl⟩
   refine⟨xs.length,Wr.bytes (xs.flatMap enc)++r,(ma j m _ _ _).2 ⟨⟨y _ d,by omega,by omega⟩,?_⟩,(me o _ _ _ _).2 ⟨⟨by simp,e⟩,rfl⟩⟩
   dsimp only;rw[Wr.lst,if_pos d,n9];simp[Wr.bytes]
structure oI (g:Int→Bool) (m:Int) (c:ar):Prop where
 k:g c.k=true
 b:g c.b=true
 p:g c.p.size=true∧(c.p.size:Int)≤m
 q:g c.q.size=true∧(c.q.size:Int)≤m
 t:g c.t.size=true∧(c.t.size:Int)≤m
theorem Bl {g:Int→Bool} (a: ∀n,g n=true→fE n) (m:Int):gP (dX g m) bZ (oI g m):=fun l c r=>by
 unfold dX;simp only[ji,l9];constructor
 · rintro ⟨k,F,u,p,G,y,q,H,z,t,I,A,b,J,E,rfl,rfl⟩
   obtain⟨d,rfl⟩:=(eU a _ _ _).1 u
   obtain⟨e,rfl⟩:=(eo a m _ _ _).1 y
   obtain⟨f,rfl⟩:=(eo a m _ _ _).1 z
   obtain⟨j,rfl⟩:=(eo a m _ _ _).1 A
   obtain⟨o,rfl⟩:=(eU a _ _ _).1 E
   exact⟨⟨d,o,e,f,j⟩,by simp[bZ,Wr.bytes]⟩
 · rintro ⟨⟨d,o,e,f,j⟩,rfl⟩
   exact⟨_,_,(eU a _ c.k (Wr.bytes [.t c.p,.t c.q,.t c.t,.n c.b]++r)).2 ⟨d,by simp[bZ,Wr.bytes]⟩,_,_,(eo a m _ c.p (Wr.bytes [.t c.q,.t c.t,.n c.b]++r)).2 ⟨e,by simp[Wr.bytes]⟩,_,_,(eo a m _ c.q (Wr.bytes [.t c.t,.n c.b]++r)).2 ⟨f,by simp[Wr.bytes]⟩,_,_,(eo a m _ c.t (Wr.bytes [.n c.b]++r)).2 ⟨j,by simp[Wr.bytes]⟩,_,_,(eU a _ c.b r).2 ⟨o,by simp[Wr.bytes]⟩,rfl,rfl⟩
structure sM (g:Int→Bool) (m:Int) (q:Rq):Prop where
 kind:g q.kind=true
 who:g q.who.size=true∧(q.who.size:Int)≤m
 fo:g q.fo.size=true∧(q.fo.size:Int)≤m
 name:g q.name.size=true∧(q.name.size:Int)≤m
 key:g q.key.size=true∧(q.key.size:Int)≤m
 text:g q.text.size=true∧(q.text.size:Int)≤m
 num:g q.num=true
 off:g q.off=true
 base:g q.base=true
 ch:q.ch.length≤20∧ ∀c∈q.ch,oI g m c
theorem Bm {g:Int→Bool} (f: ∀n,g n=true→fE n) (Z: ∀n:Nat,n≤20→g n=true) (m:Int):gP (eE g m) eD (sM g m):=fun l q r=>by
 have N:=fun l x r=>Bj f 20 Z (Bl f m) l x r
 unfold eE;simp only[ji,l9];constructor
 · rintro ⟨k,r1,O,a,r2,P,b,r3,Q,c,r4,S,d,r5,T,e,r6,U,x,r7,V,y,r8,X,z,r9,Y,cs,C3,M,rfl,rfl⟩
   obtain⟨o,rfl⟩:=(eU f _ _ _).1 O
   obtain⟨u,rfl⟩:=(eo f m _ _ _).1 P
   obtain⟨A,rfl⟩:=(eo f m _ _ _).1 Q
   obtain⟨F,rfl⟩:=(eo f m _ _ _).1 S
   obtain⟨G,rfl⟩:=(eo f m _ _ _).1 T
   obtain⟨H,rfl⟩:=(eo f m _ _ _).1 U
   obtain⟨I,rfl⟩:=(eU f _ _ _).1 V
   obtain⟨J,rfl⟩:=(eU f _ _ _).1 X
   obtain⟨K,rfl⟩:=(eU f _ _ _).1 Y
   obtain⟨j,rfl⟩:=(N _ _ _).1 M
   exact⟨⟨o,u,A,F,G,H,I,J,K,j⟩,by simp[eD,Wr.bytes]⟩
 · rintro ⟨⟨o,u,A,F,G,H,I,J,K,j⟩,rfl⟩
   obtain⟨k,a,b,c,d,e,x,y,z,cs⟩:=q
   have E:=rfl (a:=Wr.bytes (Wr.lst 20 bZ cs)++r)
   exact⟨_,_,(eU f _ k (Wr.bytes [.t a,.t b,.t c,.t d,.t e,.n x,.n y,.n z]++(Wr.bytes (Wr.lst 20 bZ cs)++r))).2 ⟨o,by simp[eD,Wr.bytes]⟩,
    _,_,(eo f m _ a (Wr.bytes [.t b,.t c,.t d,.t e,.n x,.n y,.n z]++(Wr.bytes (Wr.lst 20 bZ cs)++r))).2 ⟨u,by simp[Wr.bytes]⟩,
    _,_,(eo f m _ b (Wr.bytes [.t c,.t d,.t e,.n x,.n y,.n z]++(Wr.bytes (Wr.lst 20 bZ cs)++r))).2 ⟨A,by simp[Wr.bytes]⟩,
    _,_,(eo f m _ c (Wr.bytes [.t d,.t e,.n x,.n y,.n z]++(Wr.bytes (Wr.lst 20 bZ cs)++r))).2 ⟨F,by simp[Wr.bytes]⟩,
    _,_,(eo f m _ d (Wr.bytes [.t e,.n x,.n y,.n z]++(Wr.bytes (Wr.lst 20 bZ cs)++r))).2 ⟨G,by simp[Wr.bytes]⟩,
    _,_,(eo f m _ e (Wr.bytes [.n x,.n y,.n z]++(Wr.bytes (Wr.lst 20 bZ cs)++r))).2 ⟨H,by simp[Wr.bytes]⟩,
    _,_,(eU f _ x (Wr.bytes [.n y,.n z]++(Wr.bytes (Wr.lst 20 bZ cs)++r))).2 ⟨I,by simp[Wr.bytes]⟩,
    _,_,(eU f _ y (Wr.bytes [.n z]++(Wr.bytes (Wr.lst 20 bZ cs)++r))).2 ⟨J,by simp[Wr.bytes]⟩,
    _,_,(eU f _ z (Wr.bytes (Wr.lst 20 bZ cs)++r)).2 ⟨K,by simp[Wr.bytes]⟩,
    _,_,(N _ cs r).2 ⟨j,rfl⟩,rfl,rfl⟩
theorem sN: ∀(l:List aL) (s:Ws),Wr.ok l=true→Wr.run s l=⟨s.l++Wr.bytes l,s.mn,s.fr⟩
 |[],s,_=>by simp[Wr.run,Wr.bytes]
 |x::l,s,h=>by
  simp only[Wr.ok,List.all_cons,Bool.and_eq_true]at h
  have d:Wr.put s x=⟨s.l++x.bytes,s.mn,s.fr⟩:=by
   cases x with
   |n i=>simp only[aL.ok]at h;simp[Wr.put,Wr.num,aL.bytes,h.1]
   |t x=>
    simp only[aL.ok,decide_eq_true_eq]at h;have a:eB (x.size:Int)=true:=by rw[jD];omega
    simp only[Wr.put,hZ];rw[if_neg (by omega)];simp[Wr.num,aL.bytes,a]
   |big=>simp[aL.ok]at h
  rw[rp,d,sN l _ h.2,n9];simp
theorem oJ {l:List aL} (h:Wr.ok l=true):ei (Wr.run aP l)=(⟨(Wr.bytes l).toArray⟩,0):=by
 rw[sN l _ h];simp[ei,aP]
theorem Bn (a b:List aL):Wr.ok (a++b)=(Wr.ok a && Wr.ok b):=by simp[Wr.ok]
theorem Bo {a:Type} (m:Nat) (e:m≤1000) (enc:a→List aL) (xs:List a):Wr.ok (Wr.lst m enc xs)=true↔xs.length≤m∧ ∀x∈xs,Wr.ok (enc x)=true:=by
 unfold Wr.lst;split
 · rename_i h
   have d:eB (xs.length:Int)=true:=by rw[jD];omega
   simp only[Wr.ok,List.all_cons,aL.ok,d,Bool.true_and,h,true_and,List.all_flatMap,List.all_eq_true]
 · rename_i h;simp[Wr.ok,aL.ok,h]
theorem Bp (c:ar):Wr.ok (bZ c)=true↔oI aF 1000 c:=by
 have o: ∀x:ByteArray,x.size≤1000↔aF x.size=true∧(x.size:Int)≤1000:=fun x=>by
  rw[aF,jD];omega
 simp only[Wr.ok,bZ,List.all_cons,List.all_nil,aL.ok,Bool.and_eq_true,decide_eq_true_eq,Bool.and_true,o];constructor
 · rintro ⟨a,d,e,f,j⟩;exact⟨a,j,d,e,f⟩
 · rintro ⟨a,j,d,e,f⟩;exact⟨a,d,e,f,j⟩
theorem Bq (q:Rq):Wr.ok (eD q)=true↔sM aF 1000 q:=by
 have E: ∀x:ByteArray,x.size≤1000↔aF x.size=true∧(x.size:Int)≤1000:=fun x=>by
  rw[aF,jD];omega
 rw[eD,Bn,Bool.and_eq_true,Bo 20 (by omega)];simp only[Bp];simp only[Wr.ok,List.all_cons,List.all_nil,aL.ok,Bool.and_eq_true,decide_eq_true_eq,Bool.and_true,E];constructor
 · rintro ⟨⟨d,e,f,j,o,u,y,z,A⟩,a⟩;exact⟨d,e,f,j,o,u,y,z,A,a⟩
 · rintro ⟨d,e,f,j,o,u,y,z,A,a⟩;exact⟨⟨d,e,f,j,o,u,y,z,A⟩,a⟩
theorem Br: ∀n:Nat,n≤60→aF n=true:=fun n h=>by rw[aF,jD];omega
theorem Bs {d:Type} {p:bO d} {enc:d→List aL} {e:d→Prop} (j:gP p enc e) {l:List UInt8} {x:d}:Wr.whole (p l)=some x↔e x∧l=Wr.bytes (enc x):=by
 have f:=j l x [];rw[List.append_nil]at f;rw[←f];cases h:p l with
 |none=>simp[Wr.whole]
 |some z=>
  obtain⟨y,r⟩:=z
  cases r with
  |nil=>simp[Wr.whole]
  |cons a r=>simp[Wr.whole]
theorem Bt {l:List UInt8} {q:Rq}:Wr.whole (eE aF 1000 l)=some q↔Wr.ok (eD q)=true∧l=Wr.bytes (eD q):=by
 rw[Bq];exact Bs (Bm xJ (fun n h=>Br n (by omega)) 1000)
def bD:Rq:=⟨2,⟨#[97]⟩,⟨#[102]⟩,⟨#[]⟩,⟨#[]⟩,⟨#[]⟩,0,0,0,[]⟩
def cI:List UInt8:=[50,59,49,59,97,49,59,102,48,59,48,59,48,59,48,59,48,59,48,59,48,59]
theorem oK (u:Nat) (h:u<10):Lib.itoa u=[UInt8.ofNat (48+u)]:=by rw[Lib.itoa_nonneg,Lib.decDigits,dif_pos h]
theorem aQ:Lib.itoa 0=[48]:=oK 0 (by omega)
theorem b8:Lib.itoa 1=[49]:=oK 1 (by omega)
theorem dY:Lib.itoa 2=[50]:=oK 2 (by omega)
theorem sO:Wr.bytes (eD bD)=cI:=by
 have a:(⟨#[]⟩:ByteArray).size=0:=rfl;have d:(⟨#[97]⟩:ByteArray).size=1:=rfl;have e:(⟨#[102]⟩:ByteArray).size=1:=rfl;simp[eD,bD,Wr.lst,Wr.bytes,aL.bytes,aQ,b8,dY,a,d,e,cI]
theorem sP:Wr.ok (eD bD)=true:=by decide
theorem Bu:ei (Wr.run aP (eD bD))=(⟨cI.toArray⟩,0):=by rw[oJ sP,sO]
theorem Bv:Wr.whole (eE aF 1000 cI)=some bD:=Bt.2 ⟨sP,sO.symm⟩
theorem Bw:sL bD:=by
 refine⟨?_,?_,?_,?_,?_,?_,?_,?_,?_,?_⟩
 · exact⟨by decide,by decide⟩
 · exact⟨by decide,by decide⟩
 · exact⟨by decide,by decide⟩
 · exact⟨by decide,by decide⟩
 · show(1:Int)≤_;decide
 · show(1:Int)≤_;decide
 · show(0:Int)≤_;decide
 · show(0:Int)≤_;decide
 · show(0:Int)≤_;decide
 · intro c a;exact absurd a (by simp[bD])
def Bx (W:World) (b:Nat) (a0 a1 a2 a3:Value):Prop:=b<W.heap.size∧(W.cell? ⟨b,0,none⟩=some a0∧W.cell? ⟨b,1,none⟩=some a1∧W.cell? ⟨b,2,none⟩=some a2∧W.cell? ⟨b,3,none⟩=some a3)∧W.frozen? ⟨b,0,none⟩=false∧W.frozen? ⟨b,1,none⟩=false∧W.frozen? ⟨b,2,none⟩=false∧W.frozen? ⟨b,3,none⟩=false
theorem Bx.below {W d:World} {b:Nat} {e f j o:Value} (h:Bx W b e f j o) (a:Below W.heap.size W d):Bx d b e f j o:=by
 obtain⟨hb,⟨u,y,z,A⟩,E,F,G,H⟩:=h
 exact⟨Nat.lt_of_lt_of_le hb a.size,⟨(a.cell (p:=⟨b,0,none⟩) hb).trans u,(a.cell (p:=⟨b,1,none⟩) hb).trans y,(a.cell (p:=⟨b,2,none⟩) hb).trans z,(a.cell (p:=⟨b,3,none⟩) hb).trans A⟩,(a.frozen (p:=⟨b,0,none⟩) hb).trans E,(a.frozen (p:=⟨b,1,none⟩) hb).trans F,(a.frozen (p:=⟨b,2,none⟩) hb).trans G,(a.frozen (p:=⟨b,3,none⟩) hb).trans H⟩
theorem Bx.nb {W e:World} {b g:Nat} {f j o u:Value} (h:Bx W b f j o u) (d:W.grownBy e (some g)) (a:b≠g):Bx e b f j o u:=by
 obtain⟨hb,⟨y,z,A,E⟩,F,G,H,I⟩:=h
 exact⟨Nat.lt_of_lt_of_le hb d.size,⟨(Nb.cell d (p:=⟨b,0,none⟩) hb a).trans y,(Nb.cell d (p:=⟨b,1,none⟩) hb a).trans z,(Nb.cell d (p:=⟨b,2,none⟩) hb a).trans A,(Nb.cell d (p:=⟨b,3,none⟩) hb a).trans E⟩,(Nb.frozen d (p:=⟨b,0,none⟩) hb a).trans F,(Nb.frozen d (p:=⟨b,1,none⟩) hb a).trans G,(Nb.frozen d (p:=⟨b,2,none⟩) hb a).trans H,(Nb.frozen d (p:=⟨b,3,none⟩) hb a).trans I⟩
theorem Bx.new (w:World) (a d e f:Value) (T:TypeId):Bx (w.alloc (.cells #[a,d,e,f] T)) w.heap.size a d e f:=
 ⟨by simp,⟨by simp,by simp,by simp,by simp⟩,World.frozen?_alloc_at _ _ _ _ rfl,World.frozen?_alloc_at _ _ _ _ rfl,World.frozen?_alloc_at _ _ _ _ rfl,World.frozen?_alloc_at _ _ _ _ rfl⟩
theorem Bx.set {W:World} {b a o:Nat} {f j y z u:Value} (h:Bx W b f j y z) (d:a≠b):Bx (W.setCell ⟨a,o,none⟩ u) b f j y z:=h.nb (ac W a o u) (fun e=>d e.symm)
theorem Tryz.cellsCo:prog.cellsOf 111=3:=by kernel_rfl
theorem Tryz.cellsSC:prog.cellsOf 48=1:=by kernel_rfl
theorem Tryz.cellsSO:prog.cellsOf 67=1:=by kernel_rfl
theorem Tryz.cellsSE:prog.cellsOf 47=1:=by kernel_rfl
theorem sQ {d:Type} {l:List d} (h:l.length=3): ∃a b c,l=[a,b,c]:=by
 rcases l with _|⟨a,_|⟨b,_|⟨c,_|⟨e,r⟩⟩⟩⟩
 all_goals first|exact⟨a,b,c,rfl⟩|(simp at h)
theorem By {H:Type} {enc:TypeId×Value→H} {P:Program} {w:World} {base:Nat} {a:Nat→Bool} {d:Bool} {t:TypeId} {e f j:Field} {fuel:Nat} {cs:List Value} {x:DataW H×List MemPlace} (F:P.underlying t=some (.struct #[e,f,j])) (h:DataW.trod enc P w base a d fuel t cs=some x):
    ∃u y z n,x=(.agg [u.1,y.1,z.1],u.2++(y.2++z.2))∧cs.length=P.cellsOf t∧DataW.trod enc P w base a d n e.type ((cs.drop e.offset).take (P.cellsOf e.type))=some u∧
     DataW.trod enc P w base a d n f.type ((cs.drop f.offset).take (P.cellsOf f.type))=some y∧DataW.trod enc P w base a d n j.type ((cs.drop j.offset).take (P.cellsOf j.type))=some z:=by
 obtain⟨xs,n,_,rfl,E,o,A⟩:=DataW.trod_struct F h
 match xs,o with
 |[u,y,z],_=>exact⟨u,y,z,n,by simp,E,by simpa using A 0 e rfl,by simpa using A 1 f rfl,by simpa using A 2 j rfl⟩
theorem sR {H:Type} (a b c:DataW H):Rows.uptoBulk (.agg [a,b,c])=1+(Rows.uptoBulk a+(Rows.uptoBulk b+Rows.uptoBulk c)):=by
 rw[Rows.uptoBulk,Rows.uptoBulkAll,Rows.uptoBulkAll,Rows.uptoBulkAll,Rows.uptoBulkAll];omega
theorem Bz {B:Nat} (hB:B≤1000000000) {H:Type} {enc:TypeId×Value→H} {W:World} {n i:Nat} {a:Addr} {x:DataW H} {pl:List MemPlace} {j:List Value} (ha:a.spot=none)
    (P:W.cells? 0 (a.add (i*prog.cellsOf 111)) (prog.cellsOf 111)=some j) (Z:DataW.trod enc prog W 0 (fun _=>true) true n 111 j=some (x,pl)) (E:Rows.uptoBulk x≤B):
    ∃c:Co,(1≤Rows.uptoBulk x∧c.ke.size≤B∧iQ B c.ch)∧a.spot=none∧fB W a.block (a.off+i*3) c:=by
 rw[Tryz.cellsCo]at P;obtain⟨_,o,A⟩:=World.cells?_some P
 obtain⟨y0,y1,V,G,f,_,cI,t1,t2⟩:=By underlying111 Z
 obtain⟨M,N,O,rfl⟩:=sQ o
 have I:DataW.trod enc prog W 0 (fun _=>true) true G 3 [M]=some y0:=by simpa[Tryz.cells3]using cI
 have J:DataW.trod enc prog W 0 (fun _=>true) true G 9 [N]=some y1:=by simpa[Tryz.cells9]using t1
 have K:DataW.trod enc prog W 0 (fun _=>true) true G 48 [O]=some V:=by simpa[Tryz.cellsSC]using t2
 obtain⟨U,aP,X,_⟩:=DataW.trod_int underlying3 I
 obtain⟨u,ay,Y,_⟩:=DataW.trod_string underlying9 J
 obtain rfl:M= .int .i64 U:=by simpa using aP
 obtain rfl:N= .string u:=by simpa using ay
 subst X;subst Y;obtain⟨d2,p2⟩:=V
 simp only[Prod.mk.injEq]at f;have C3:=E;rw[f.1,sR]at E
 have z:Rows.uptoBulk (.lit (.string u.data.toList):DataW H)=u.size+1:=by
  rw[Rows.uptoBulk,Lib.size_eq]
 rw[z]at E;obtain⟨l,hl,_,F⟩:=rM (B:=B) hB K (by omega)
 have Q:=A 0 (by omega);have S:=A 1 (by omega);have T:=A 2 (by omega);obtain⟨ab,ao,y⟩:=a
 obtain rfl:y=none:=ha;refine⟨⟨U,u,l⟩,⟨by rw[f.1,sR];omega,by show u.size≤B;omega,F⟩,rfl,?_,?_,O,?_,hl⟩
 · by_cases d:i=0
   · subst d;simpa[Addr.add]using Q
   · have e:i*3≠0:=by omega
     simpa[Addr.add,e]using Q
 · by_cases d:i=0
   · subst d;simpa[Addr.add]using S
   · have e:i*3≠0:=by omega
     simpa[Addr.add,e,Nat.add_assoc]using S
 · by_cases d:i=0
   · subst d;simpa[Addr.add]using T
   · have e:i*3≠0:=by omega
     simpa[Addr.add,e,Nat.add_assoc]using T
theorem BA {B:Nat} (X:B≤1000000000) {H:Type} {enc:TypeId×Value→H} {W:World} {v:Value} {d:DataW H} {p:List MemPlace} {fuel:Nat} (Z:DataW.trod enc prog W 0 (fun _=>true) true fuel 67 [v]=some (d,p)) (hk:Rows.uptoBulk d≤B):
    ∃l:List Co,dd W v l∧l.length≤B∧dR B l:=by
 haveI:Inhabited Co:=⟨⟨0,⟨#[]⟩,[]⟩⟩
 rcases Go.Deep.open_slice underlying67 Z with⟨f,T⟩|⟨a,len,o,m,n,D,Pl,f,hb,hl,hm,F,T,z⟩
 · obtain rfl:v= .slice none 0 0:=by simpa using f
   exact⟨[],vz _,by simp,fun e M=>by cases M⟩
 obtain rfl:v= .slice (some a) len o:=by simpa using f
 have Q:m=o:=F.trans (if_pos rfl);clear F;have K:=(Prod.mk.inj T).1;clear T;subst Q
 have J:Rows.uptoBulkAll ((List.range len).map D)≤B:=by
  rw[K,Rows.uptoBulk]at hk;omega
 have S:0<len→a.spot=none:=fun h=>by
  obtain⟨G,y,_⟩:=z 0 (by omega)
  rw[Tryz.cellsCo]at y;obtain⟨_,A,Y⟩:=World.cells?_some y
  obtain⟨V,c1,c2,rfl⟩:=sQ A
  have k0:=Y 0 (by omega);exact kh (v:=V) (by simpa[Addr.add]using k0)
 have u: ∀i,i<len→ ∃e:Co,(1≤Rows.uptoBulk (D i)∧e.ke.size≤B∧iQ B e.ch)∧a.spot=none∧fB W a.block (a.off+i*3) e:=fun i j=>by
  obtain⟨G,y,I⟩:=z i (by omega)
  exact Bz X (S (by omega)) y I (Nat.le_trans (Bk.mem (List.mem_map.2 ⟨i,List.mem_range.2 j,rfl⟩)) J)
 obtain⟨E,ae⟩:=Go.Deep.choose_lt u
 have O:=Bk.len (l:=(List.range len).map D) (fun d K=>by
  obtain⟨i,j,rfl⟩:=List.mem_map.1 K
  exact(ae i (List.mem_range.1 j)).1.1)
 simp only[List.length_map,List.length_range]at O;refine⟨(List.range len).map E,⟨some a,_,by simp;rfl,by simpa using hl,by simp;omega,fun i j=>?_⟩,by simp;omega,fun e M=>?_⟩
 · have N:i<len:=by simpa using j
   obtain⟨y,I,U⟩:=ae i N
   have P:a.block<W.heap.size:=by
    have k:=U.1;rcases Nat.lt_or_ge a.block W.heap.size with h|h
    · exact h
    · unfold World.cell? at k;rw[Array.getElem?_eq_none h]at k;cases k
   refine⟨a.block,a.off,?_,P,by simpa using U⟩
   rw[←I]
 · obtain⟨i,j,rfl⟩:=List.mem_map.1 M
   exact(ae i (List.mem_range.1 j)).1.2
end Go.Proofs.YtgamnckfmmbjdaaGreatDoor
