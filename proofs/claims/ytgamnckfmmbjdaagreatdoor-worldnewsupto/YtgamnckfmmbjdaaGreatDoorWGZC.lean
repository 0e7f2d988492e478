/- The program's reader: counts, texts; as mathematics. -/
import Derived.Test.YtgamnckfmmbjdaaGreatDoorWGY
import Derived.Test.YtgamnckfmmbjdaaGreatDoorWGZA
import Derived.Test.YtgamnckfmmbjdaaGreatDoorWGX
import Derived.Test.YtgamnckfmmbjdaaGreatDoorWGZ
import Derived.SizedLaws
set_option linter.unusedSimpArgs false
set_option linter.unusedVariables false
namespace Go.Proofs.YtgamnckfmmbjdaaGreatDoor
open Go.RowKit Go.ChangeShapes Go.WideShapes Go.ChangeAt Go.Proofs.Tryz
set_option maxHeartbeats 1000000
set_option maxRecDepth 100000
abbrev bO (α:Type):=List UInt8→Option (α×List UInt8)
def bG {α β:Type} (p:bO α) (f:α→bO β):bO β:=fun l=>match p l with
 |none=>none
 |some (x,r)=>f x r
def fj {α:Type} (x:α):bO α:=fun l=>some (x,l)
theorem dW {a d:Type} {p:bO a} {f:a→bO d} {l:List UInt8} (h:p l=none):bG p f l=none:=by rw[bG,h]
theorem Wr.bind_some {a d:Type} {p:bO a} {f:a→bO d} {l r:List UInt8} {x:a} (h:p l=some (x,r)):bG p f l=f x r:=by rw[bG,h]
def dK (g:Int→Bool) (m:Int):bO Int:=bG (bC g) fun n r=>if 0≤n∧n≤m then some (n,r)else none
def bu (g:Int→Bool) (m:Int):bO ByteArray:=bG (dK g m) fun n r=>if n≤r.length then some (⟨(r.take n.toNat).toArray⟩,r.drop n.toNat)else none
def eS {α:Type} (p:bO α):Nat→bO (List α)
 |0=>fj []
 |k+1=>bG p fun x=>bG (eS p k) fun xs=>fj (x::xs)
def fF {α:Type} (g:Int→Bool) (m:Int) (p:bO α):bO (List α):=bG (dK g m) fun n=>eS p n.toNat
theorem Wr.rd_some {g:Int→Bool} {l r:List UInt8} {n:Int} (h:bC g l=some (n,r)):Lib.atoiAll (Wr.upto l)= .ok n∧(59:UInt8)∈l∧Lib.itoa n=Wr.upto l∧g n=true∧r=Wr.behind l:=by
 unfold bC at h;split at h
 · rename_i m d
   split at h
   · rename_i a
     simp only[Option.some.injEq,Prod.mk.injEq]at h;obtain⟨rfl,rfl⟩:=h
     exact⟨d,a.1,a.2.1,a.2.2,rfl⟩
   · cases h
 · cases h
theorem Wr.rd_none {g:Int→Bool} {l:List UInt8} (h:bC g l=none):(∀n,Lib.atoiAll (Wr.upto l)≠ .ok n)∨ ∃n,Lib.atoiAll (Wr.upto l)= .ok n∧((59:UInt8)∉l∨Lib.itoa n≠Wr.upto l∨g n=false):=by
 unfold bC at h;split at h
 · rename_i m a
   split at h
   · cases h
   · rename_i f
     refine Or.inr ⟨m,a,?_⟩
     by_cases d:(59:UInt8)∈l
     · by_cases e:Lib.itoa m=Wr.upto l
       · exact Or.inr (Or.inr (by cases j:g m with
          |false=>rfl
          |true=>exact absurd ⟨d,e,j⟩ f))
       · exact Or.inr (Or.inl e)
     · exact Or.inl d
 · rename_i o
   exact Or.inl (fun n a=>o n a)
theorem rX: ∀l:List UInt8,(Wr.behind l).length≤l.length
 |[]=>by simp[Wr.behind]
 |x::l=>by
  have ih:=rX l;unfold Wr.behind at ih⊢;rw[List.dropWhile_cons];split
  · simp only[List.length_cons];omega
  · simp
theorem gi {g:Int→Bool} {l r:List UInt8} {n:Int} (h:bC g l=some (n,r)):r.length≤l.length:=by
 rw[(Wr.rd_some h).2.2.2.2];exact rX l
theorem lQ {g:Int→Bool} {m:Int} {l r:List UInt8} {n:Int} (h:dK g m l=some (n,r)):bC g l=some (n,r)∧0≤n∧n≤m:=by
 unfold dK bG at h;split at h
 · cases h
 · rename_i x e d
   dsimp only at h;split at h
   · rename_i a
     simp only[Option.some.injEq,Prod.mk.injEq]at h;obtain⟨rfl,rfl⟩:=h
     exact⟨d,a⟩
   · cases h
theorem Wr.cnt_none {g:Int→Bool} {m:Int} {l:List UInt8} (h:dK g m l=none):bC g l=none∨ ∃n r,bC g l=some (n,r)∧(n<0∨m<n):=by
 unfold dK bG at h;split at h
 · rename_i a;exact Or.inl a
 · rename_i x d a
   dsimp only at h;split at h
   · cases h
   · rename_i e
     exact Or.inr ⟨x,d,a,by omega⟩
theorem lR {g:Int→Bool} {m:Int} {l r:List UInt8} {n:Int} (h:dK g m l=some (n,r)):r.length≤l.length:=gi (lQ h).1
theorem rY {g:Int→Bool} {m:Int} {l r:List UInt8} {x:ByteArray} (h:bu g m l=some (x,r)): ∃n a,dK g m l=some (n,a)∧n≤a.length∧x=⟨(a.take n.toNat).toArray⟩∧r=a.drop n.toNat:=by
 unfold bu bG at h;split at h
 · cases h
 · rename_i n a e
   dsimp only at h;split at h
   · rename_i d
     simp only[Option.some.injEq,Prod.mk.injEq]at h;exact⟨n,a,e,d,h.1.symm,h.2.symm⟩
   · cases h
theorem zr {g:Int→Bool} {m:Int} {l:List UInt8} (h:bu g m l=none):dK g m l=none∨ ∃n r,dK g m l=some (n,r)∧(r.length:Int)<n:=by
 unfold bu bG at h;split at h
 · rename_i a;exact Or.inl a
 · rename_i x d a
   dsimp only at h;split at h
   · cases h
   · rename_i e
     exact Or.inr ⟨x,d,a,by omega⟩
theorem eC {g:Int→Bool} {m:Int} {l r:List UInt8} {x:ByteArray} (h:bu g m l=some (x,r)):r.length≤l.length:=by
 obtain⟨n,e,a,d,_,rfl⟩:=rY h
 have:=lR a
 rw[List.length_drop];omega
abbrev cF:Nat:=140737488351232
theorem ic {b:Nat} {l r:List UInt8} {n:Int} {w:World} (h:Rd b l w) (y:l.length≤cF) (o:5<b) (z:aR w) (u:bC aF l=some (n,r)):
    Calls prog 139 #[.pointer (some ⟨b,0,none⟩)] w fun e w'=>e= .returned (.int .i64 n)∧Rd b r w'∧w.grownBy w' (some b):=by
 obtain⟨a,d,f,j,rfl⟩:=Wr.rd_some u
 exact yP b l n w h y o z a d (Lib.atoiAll_bounds a) f j
theorem lS {b:Nat} {l:List UInt8} {w:World} (h:Rd b l w) (j:l.length≤cF) (f:5<b) (o:aR w) (z:bC aF l=none):
    Calls prog 139 #[.pointer (some ⟨b,0,none⟩)] w fun e w'=>el e∧w.grownBy w' (some b):=by
 by_cases d:(59:UInt8)∈l
 · rcases Wr.rd_none z with a|⟨n,a,u|u|u⟩
   · exact yN b l w h j f o a d
   · exact absurd d u
   · exact rR b l n w h j f o a d (Lib.atoiAll_bounds a) u
   · by_cases y:Lib.itoa n=Wr.upto l
     · exact yO b l n w h j f o a d (Lib.atoiAll_bounds a) y u
     · exact rR b l n w h j f o a d (Lib.atoiAll_bounds a) y
 · rcases Wr.rd_none z with a|⟨n,a,_⟩
   · exact yL b l w h j f o a d
   · exact yM b l n w h j f o a d
theorem oy {b:Nat} {l r:List UInt8} {m n:Int} {w:World} (h:Rd b l w) (z:l.length≤cF) (y:5<b) (o:aR w) (j:dK aF m l=some (n,r)):
    Calls prog 182 #[.pointer (some ⟨b,0,none⟩),.int .i64 m] w fun e w'=>e= .returned (.int .i64 n)∧Rd b r w'∧w.grownBy w' (some b):=by
 obtain⟨f,A,E⟩:=lQ j
 have u:=hid (ic h z y o f);have F: ¬n<0:=by omega
 have G: ¬m<n:=by omega
 clear h o j f;go_enter func182,ntmps182
 go_wp2_with fail;refine u.out.mono ?_
 rintro e H ⟨rfl,d,a⟩;go_wp2_with fail;go_ret;exact⟨rfl,d,a⟩
theorem rZ {b:Nat} {l:List UInt8} {m:Int} {w:World} (h:Rd b l w) (E:l.length≤cF) (A:5<b) (o:aR w) (y:dK aF m l=none):
    Calls prog 182 #[.pointer (some ⟨b,0,none⟩),.int .i64 m] w fun e w'=>el e∧w.grownBy w' (some b):=by
 rcases Wr.cnt_none y with f|⟨n,r,f,u⟩
 · have d:=hid (lS h E A o f)
   clear h o y f;go_enter func182,ntmps182
   go_wp2_with fail;refine d.out.mono ?_
   rintro e z ⟨rfl,a⟩;exact dr rfl ⟨rfl,a⟩
 · have d:=hid (ic h E A o f)
   clear h o y f;rcases u with u|u
   · go_enter func182,ntmps182
     go_wp2_with fail;refine d.out.mono ?_
     rintro e z ⟨rfl,j,a⟩;go_wp2_with fail;refine(gJ _).mono ?_
     rintro e F ⟨rfl,rfl⟩;exact dr rfl ⟨rfl,a⟩
   · by_cases G:n<0
     · go_enter func182,ntmps182
       go_wp2_with fail;refine d.out.mono ?_
       rintro e z ⟨rfl,j,a⟩;go_wp2_with fail;refine(gJ _).mono ?_
       rintro e F ⟨rfl,rfl⟩;exact dr rfl ⟨rfl,a⟩
     · go_enter func182,ntmps182
       go_wp2_with fail;refine d.out.mono ?_
       rintro e z ⟨rfl,j,a⟩;go_wp2_with fail;refine(gJ _).mono ?_
       rintro e F ⟨rfl,rfl⟩;exact dr rfl ⟨rfl,a⟩
theorem eT {b:Nat} {l r:List UInt8} {x:ByteArray} {w:World} (h:Rd b l w) (I:l.length≤cF) (H:5<b) (z:aR w) (y:bu aF 1000 l=some (x,r)):
    Calls prog 143 #[.pointer (some ⟨b,0,none⟩)] w fun e w'=>e= .returned (.string x)∧Rd b r w'∧w.grownBy w' (some b):=by
 obtain⟨n,a,f,G,rfl,rfl⟩:=rY y
 have F:=hid (oy h I H z f);have O:=lR f;obtain⟨_,J,K⟩:=lQ f
 obtain⟨k,rfl⟩: ∃k:Nat,n=k:=⟨n.toNat,by omega⟩
 have u:(⟨a.toArray⟩:ByteArray).size=a.length:=by rw[Lib.size_eq]
 have S: ¬(k:Int)>a.length:=by omega
 have Q:(k:Int)≤(⟨a.toArray⟩:ByteArray).size:=by rw[u];omega
 have P: ¬(k:Int)>(⟨a.toArray⟩:ByteArray).size:=by rw[u];omega
 have A:=hid (show(⟨a.toArray⟩:ByteArray).extract 0 k=⟨(a.take k).toArray⟩from dZ (by rw[Lib.extract_data];simp));have E:=hid (show(⟨a.toArray⟩:ByteArray).extract k (⟨a.toArray⟩:ByteArray).size=⟨(a.drop k).toArray⟩from dZ (by rw[Lib.extract_data,u];simp[List.take_of_length_le]));clear h z y f G J K;go_enter func143,ntmps143
 go_wp2_with fail;refine F.out.mono ?_
 rintro e T ⟨rfl,d,o⟩;have M:=d.cell;have N:=d.fr;have j:=hid d;clear d;go_wp2_with fail;go_ret;refine⟨by rw[show((k:Int).toNat)=k from rfl,←A.out];simp,?_,db o (au _ b 0 _)⟩
 rw[show((k:Int).toNat)=k from rfl];have:=j.out.set (r:=a.drop k)
 rw[←E.out]at this;exact this
theorem lT {b:Nat} {l:List UInt8} {w:World} (h:Rd b l w) (z:l.length≤cF) (y:5<b) (f:aR w) (o:bu aF 1000 l=none):
    Calls prog 143 #[.pointer (some ⟨b,0,none⟩)] w fun e w'=>el e∧w.grownBy w' (some b):=by
 rcases zr o with d|⟨n,r,d,G⟩
 · have j:=hid (rZ h z y f d)
   clear h f o d;go_enter func143,ntmps143
   go_wp2_with fail;refine j.out.mono ?_
   rintro e E ⟨rfl,a⟩;exact dr rfl ⟨rfl,a⟩
 · have j:=hid (oy h z y f d)
   have A:(⟨r.toArray⟩:ByteArray).size=r.length:=by rw[Lib.size_eq]
   have H:(n:Int)>(⟨r.toArray⟩:ByteArray).size:=by rw[A];omega
   clear h f o d;go_enter func143,ntmps143
   go_wp2_with fail;refine j.out.mono ?_
   rintro e E ⟨rfl,u,a⟩;have F:=u.cell;go_wp2_with fail;refine(gJ _).mono ?_
   rintro e I ⟨rfl,rfl⟩;exact dr rfl ⟨rfl,a⟩
def Wr.lst {α:Type} (m:Nat) (f:α→List aL) (l:List α):List aL:=if l.length≤m then .n l.length::l.flatMap f else[.big]
def bZ (c:ar):List aL:=[.n c.k,.t c.p,.t c.q,.t c.t,.n c.b]
def eD (q:Rq):List aL:=[.n q.kind,.t q.who,.t q.fo,.t q.name,.t q.key,.t q.text,.n q.num,.n q.off,.n q.base]++Wr.lst 20 bZ q.ch
theorem zt {a:Type} (f:a→List aL) (s:Ws) (xs:List a) (k:Nat) (h:k<xs.length):Wr.run s ((xs.take (k+1)).flatMap f)=Wr.run (Wr.run s ((xs.take k).flatMap f)) (f xs[k]):=by
 rw[List.take_succ_eq_append_getElem h,List.flatMap_append,n8];simp
theorem se {a:Type} (f:a→List aL) (m:Nat): ∀(xs:List a),(∀x∈xs,(f x).length≤m)→(xs.flatMap f).length≤m*xs.length
 |[],_=>by simp
 |x::xs,h=>by
  have e:=h x (by simp);have j:=se f m xs (fun y d=>h y (by simp[d]));rw[List.flatMap_cons,List.length_append,List.length_cons,Nat.mul_succ];omega
theorem zu {a:Type} (f:a→List aL) (m:Nat) (s:Ws) (xs:List a) (k:Nat) (h: ∀x∈xs,(f x).length≤m∧ ∀y∈f x,y.wf):(Wr.run s ((xs.take k).flatMap f)).l.length≤s.l.length+1021*(m*xs.length):=by
 have j:=Wr.run_len ((xs.take k).flatMap f) s (fun y e=>by
  obtain⟨x,d,e⟩:=List.mem_flatMap.1 e
  exact(h x (List.mem_of_mem_take d)).2 y e)
 have o:=se f m (xs.take k) (fun x d=>(h x (List.mem_of_mem_take d)).1);have u:m*(xs.take k).length≤m*xs.length:=Nat.mul_le_mul_left _ (by rw[List.length_take];omega);omega
def iG (x:ByteArray):Prop:=(x.size:Int)≤9223372036854775807
structure jI (c:ar):Prop where
 k:eh c.k
 b:eh c.b
 p:iG c.p
 q:iG c.q
 t:iG c.t
theorem jI.it {c:ar} (h:jI c):(bZ c).length≤5∧ ∀y∈bZ c,y.wf:=by
 refine⟨by simp[bZ],fun y a=>?_⟩
 simp only[bZ,List.mem_cons,List.not_mem_nil,or_false]at a;rcases a with rfl|rfl|rfl|rfl|rfl
 · exact h.k
 · trivial
 · trivial
 · trivial
 · exact h.b
def gj (w:World) (b g:Nat):Prop:=w.heap[g]?=some (.cells #[.pointer (some ⟨b,0,none⟩)] 254 (0,0))∧g≠b
theorem gj.fr {B b g:Nat} {w w':World} (h:gj w b g) (a:bg B b w w'):gj w' b g:=⟨a.row h.1 h.2 (by decide),h.2⟩
theorem gj.below {b g:Nat} {w w':World} (h:gj w b g) (a:Below w.heap.size w w'):gj w' b g:=⟨(a.block g (cn h.1)).trans h.1,h.2⟩
theorem gj.cell {b g:Nat} {w:World} (h:gj w b g):w.cell? ⟨g,0,none⟩=some (.pointer (some ⟨b,0,none⟩)):=by rw[Lib.cell_of_heap h.1];rfl
theorem dA (w:World) (o:Obj):Below w.heap.size w (w.alloc o):=(Below.refl _ w).alloc (Nat.le_refl _) o
theorem zv (c:ar) (B b g:Nat) (s:Ws) (w:World) (h:Wt B b s w) (hg:gj w b g) (CH:s.l.length+6000≤1000000000) (A:3<B) (ht:df w) (hc:jI c):
    Calls prog 233 #[.agg #[.int .i64 c.k,.string c.p,.string c.q,.string c.t,.int .i64 c.b],.pointer (some ⟨g,0,none⟩)] w fun e w'=>e= .returned (.tuple #[])∧Wt B b (Wr.run s (bZ c)) w'∧bg B b w w':=by
 obtain⟨k,p,q,t,cb⟩:=c
 have CE:B≤w.heap.size:=Nat.le_of_lt (Nat.lt_of_le_of_lt h.B h.lt);obtain⟨K,a⟩: ∃K,K=w.alloc (.cells #[.int .i64 k,.string p,.string q,.string t,.int .i64 cb] 55):=⟨_,rfl⟩
 have E:Below w.heap.size w K:=by rw[a];exact dA _ _
 have X:bg B b w K:=iC E CE;have C3:K.heap[w.heap.size]?=some (.cells #[.int .i64 k,.string p,.string q,.string t,.int .i64 cb] 55 (0,0)):=by rw[a];exact heap_alloc_new w _
 have H:w.heap.size≠b:=fun e=>by have:=h.lt;omega
 have h0:=h.below E;have F:=hg.below E;have I:=ht.fr A X;have a0:=F.cell;rw[a]at a0;have HK:=hid (ku B b s k K h0 hc.k (by omega) A I);have l1:=Wr.num_len (s:=s) hc.k;rw[a]at HK;have P:=hid C3;have N:=hid F;have S:=hid I;have HC:=hid hc;have C9:=hid a;clear a C3 F I hg ht hc h0;go_enter func233,ntmps233
 go_wp2_with fail;refine HK.out.mono ?_
 rintro e d ⟨rfl,U,f⟩;rw[←C9.out]at f;have G:=N.out.fr f;have u:=f.row P.out H (by decide);have J:=S.out.fr A f;have CD:B≤d.heap.size:=Nat.le_of_lt (Nat.lt_of_le_of_lt U.B U.lt);obtain⟨M,z⟩: ∃M,M=d.alloc (.cells #[.string p,.string q,.string t] 9):=⟨_,rfl⟩
 have V:Below d.heap.size d M:=by rw[z];exact dA _ _
 have j:bg B b d M:=iC V CD;have C8:M.heap[d.heap.size]?=some (.cells (([p,q,t]:List ByteArray).map Value.string).toArray 9 (0,0)):=by rw[z];exact heap_alloc_new d _
 have CG:d.heap.size≠b:=fun e=>by have:=U.lt;omega
 have c0:=G.cell;have c1:d.cell? ⟨w.heap.size,1,none⟩=some (.string p):=by rw[Lib.cell_of_heap u];rfl
 have c2:d.cell? ⟨w.heap.size,2,none⟩=some (.string q):=by rw[Lib.cell_of_heap u];rfl
 have c3:d.cell? ⟨w.heap.size,3,none⟩=some (.string t):=by rw[Lib.cell_of_heap u];rfl
 have HX:=hid (rJ [p,q,t] B b d.heap.size (Wr.num s k) M (U.below V) C8 CG (by simp only[List.length_cons,List.length_nil];omega) A (J.fr A j) (by
  intro x hx;simp only[List.mem_cons,List.not_mem_nil,or_false]at hx;rcases hx with rfl|rfl|rfl
  · exact HC.out.p
  · exact HC.out.q
  · exact HC.out.t))
 have Y:=G.fr j;have C4:=j.row u H (by decide);have C6:=J.fr A j;rw[z]at HX;have CC:=hid z;have O:=hid Y;have Q:=hid C4;have T:=hid C6;clear z Y C4 C6 G u J P N S HK a0 C8 U;go_wp2_with fail;refine HX.out.mono ?_
 rintro e w3 ⟨rfl,h5,o⟩;rw[←CC.out]at o;have Z:=O.out.fr o;have C5:=o.row Q.out H (by decide);have C7:=T.out.fr A o;have d0:=Z.cell;have d1:w3.cell? ⟨w.heap.size,4,none⟩=some (.int .i64 cb):=by rw[Lib.cell_of_heap C5];rfl
 have l2:=Wr.run_len (([p,q,t]:List ByteArray).map aL.t) (Wr.num s k) (by
  intro y hy;simp only[List.map_cons,List.map_nil,List.mem_cons,List.not_mem_nil,or_false]at hy;rcases hy with rfl|rfl|rfl<;>trivial)
 simp only[List.map_cons,List.map_nil,List.length_cons,List.length_nil]at l2;have HN:=hid (ku B b _ cb w3 h5 HC.out.b (by simp only[List.map_cons,List.map_nil];omega) A C7);clear c0 c1 c2 c3 HX Z C5 C7 O Q T h5;go_wp2_with fail;refine HN.out.mono ?_
 rintro e w4 ⟨rfl,h6,CF⟩;go_wp2_with fail;go_end0
 exact⟨rfl,h6,X.trans (f.trans (j.trans (o.trans CF)))⟩
theorem zw: ∀a w,(callFunc 233 a).run prog w= .ok (.enter 233 a) w:=enters_of func233 (by kernel_rfl) rfl
theorem zx (d:World) (cs:List ar) (v:Value) (b g:Nat) (s:Ws) (w:World) (hL:bk d v cs) (hW:Below d.heap.size d w) (h:Wt d.heap.size b s w) (hg:gj w b g) (C4:s.l.length+200000≤1000000000) (Q:3<d.heap.size) (Y:df w) (U: ∀c∈cs,jI c):
    Calls prog 232 #[.pointer (some ⟨b,0,none⟩),v,.int .i64 20,.func (.func 233) #[] #[.pointer (some ⟨g,0,none⟩)]] w fun e w'=>e= .returned (.tuple #[])∧Wt d.heap.size b (Wr.run s (Wr.lst 20 bZ cs)) w'∧bg d.heap.size b w w':=by
 obtain⟨a,C5,rfl,C3,V,E⟩:=hL
 have A:=rD d.heap.size b s cs.length 20 w h ⟨by omega,by omega⟩ (by omega) Q Y;by_cases K:(cs.length:Int)≤20
 · rw[if_pos K,decide_eq_true K]at A
   have l1:=Wr.num_len (s:=s) (n:=cs.length) ⟨by omega,by omega⟩
   have HL:=hid (show∀k,(Wr.run (Wr.num s cs.length) ((cs.take k).flatMap bZ)).l.length+6000≤1000000000 from fun k=>by
    have:=zu bZ 5 (Wr.num s cs.length) cs k (fun x hx=>(U x hx).it)
    omega)
   have HE:=hid (show Wr.run (Wr.num s cs.length) ((cs.take cs.length).flatMap bZ)=Wr.run s (Wr.lst 20 bZ cs)from by rw[List.take_length,Wr.lst,if_pos (by omega)];rfl);have HC:=hid A;have HD:=hid U;have HM:=hid E;have HG:=hid hg;have HT:=hid Y;have HW:=hid hW;have eg:=zw;clear A U E hg Y hW;go_enter func232,ntmps232
   go_wp2_with fail;refine HC.out.mono ?_
   rintro e Z ⟨rfl,z,j⟩;have N:=hid (show Wt d.heap.size b (Wr.run (Wr.num s cs.length) ((cs.take 0).flatMap bZ)) Z from z);have C6:d.heap.size≤Z.heap.size:=Nat.le_of_lt (Nat.lt_of_le_of_lt z.B z.lt);clear z;go_wp2_with fail;go_loopw [18] (fun i wr=> ∃k:Nat,k≤cs.length∧i= .int .i64 k∧Hid (Wt d.heap.size b (Wr.run (Wr.num s cs.length) ((cs.take k).flatMap bZ)) wr)∧bg d.heap.size b w wr) (fun i _=>cs.length-(intOf i).toNat)
   case atStart=>exact⟨0,Nat.zero_le _,rfl,N,j⟩
   case round=>
    obtain⟨k,hk,rfl,J,G⟩:=hrel
    by_cases y:k<cs.length
    · obtain⟨bb,o,rfl,T,he⟩:=HM.out k y
      obtain⟨c0,c1,c2,c3,c4⟩:=he.below T (HW.out.trans G.1)
      have X:=J.out.lt;have S:d.heap.size≤wr.heap.size:=Nat.le_of_lt (Nat.lt_of_le_of_lt J.out.B X);obtain⟨I,f⟩: ∃I,I=wr.alloc (.cells #[.int .i64 cs[k].k,.string cs[k].p,.string cs[k].q,.string cs[k].t,.int .i64 cs[k].b] 55):=⟨_,rfl⟩
      have F:Below wr.heap.size wr I:=by rw[f];exact dA _ _
      have u:bg d.heap.size b wr I:=iC F S;have M:=hid (zv cs[k] d.heap.size b g _ I (J.out.below F) (HG.out.fr (G.trans u)) (HL.out k) Q (HT.out.fr Q (G.trans u)) (HD.out _ (List.getElem_mem y)));rw[f]at M;have O:=hid f;clear f he;go_wp2_with fail;refine M.out.mono ?_
      rintro e w2 ⟨rfl,P,H⟩;rw[←O.out]at H;rw[←zt _ _ _ _ y]at P;have H2:=hid P;clear P M c0 c1 c2 c3 c4;go_wp2_with fail;go_roundw
      case rel=>exact⟨k+1,by omega,by simp,H2,G.trans (u.trans H)⟩
      case measure=>simp[intOf];omega
    · obtain rfl:k=cs.length:=by omega
      go_wp2_with fail;go_end0
      exact⟨rfl,by rw[←HE.out];exact J.out,G⟩
 · rw[if_neg K,decide_eq_false K]at A
   go_enter func232,ntmps232
   go_wp2_with fail;refine A.mono ?_
   rintro e Z ⟨rfl,z,j⟩;go_wp2_with fail;refine bodyPost_ret (results_none rfl _ _ _) rfl ?_
   exact⟨rfl,by rw[Wr.lst,if_neg (by omega)];exact z,j⟩
theorem zy (d:World) (cs:List ar) (v:Value) (b:Nat) (s:Ws) (w:World) (I:bk d v cs) (N:Below d.heap.size d w) (h:Wt d.heap.size b s w) (z:s.l.length+200000≤1000000000) (H:3<d.heap.size) (J:df w) (O: ∀c∈cs,jI c):
    Calls prog 194 #[.pointer (some ⟨b,0,none⟩),v] w fun e w'=>e= .returned (.tuple #[])∧Wt d.heap.size b (Wr.run s (Wr.lst 20 bZ cs)) w'∧bg d.heap.size b w w':=by
 have P: ∀(G:Fn) (first cap:Array Value) (w:World),(Instr.makeFunc G first cap).run prog w= .ok (.func G first cap) w:=fun _ _ _ _=>rfl
 have E:=h.lt;have M:d.heap.size≤w.heap.size:=Nat.le_of_lt (Nat.lt_of_le_of_lt h.B E);obtain⟨j,a⟩: ∃j,j=w.alloc (.cells #[.pointer (some ⟨b,0,none⟩)] 254):=⟨_,rfl⟩
 have o:Below w.heap.size w j:=by rw[a];exact dA _ _
 have f:bg d.heap.size b w j:=iC o M;have y:gj j b w.heap.size:=⟨by rw[a];exact heap_alloc_new w _,by omega⟩
 have F:=hid (zx d cs v b w.heap.size s j I (N.trans f.1) (h.below o) y z H (J.fr H f) O);rw[a]at F;have A:=hid a;clear a y I J h;go_enter func194,ntmps194
 go_wp2_with fail;refine F.out.mono ?_
 rintro e Q ⟨rfl,K,u⟩;rw[←A.out]at u;go_wp2_with fail;go_end0
 exact⟨rfl,K,f.trans u⟩
theorem Ws.fin_many {s:Ws} (h:s.mn=true):ei s=(⟨#[]⟩,2):=by rw[ei,if_pos h]
theorem Ws.fin_far {s:Ws} (h:s.mn=false) (a:s.fr=true):ei s=(⟨#[]⟩,3):=by rw[ei,if_neg (by simp[h]),if_pos a]
theorem Ws.fin_ok {s:Ws} (h:s.mn=false) (a:s.fr=false):ei s=(⟨s.l.toArray⟩,0):=by rw[ei,if_neg (by simp[h]),if_neg (by simp[a])]
theorem zz (B b:Nat) (s:Ws) (w:World) (h:Wt B b s w) (z:s.l≠[]):
    Calls prog 195 #[.pointer (some ⟨b,0,none⟩)] w fun e w'=>e= .returned (.tuple #[.string (ei s).1,.int .i64 (ei s).2])∧Below B w w':=by
 obtain⟨p,_,v,a,_,_⟩:=h.at
 have o:w.cell? ⟨b,2,none⟩=some (.bool s.mn):=by rw[Lib.cell_of_heap a];rfl
 have u:w.cell? ⟨b,3,none⟩=some (.bool s.fr):=by rw[Lib.cell_of_heap a];rfl
 have y:=hid (xM B b s w h z);clear a;cases d:s.mn with
 |true=>
  rw[d]at o;rw[Ws.fin_many d];go_enter func195,ntmps195
  go_wp2_with fail;go_ret2;exact⟨rfl,Below.refl _ _⟩
 |false=>
  rw[d]at o;cases f:s.fr with
  |true=>
   rw[f]at u;rw[Ws.fin_far d f];go_enter func195,ntmps195
   go_wp2_with fail;go_ret2;exact⟨rfl,Below.refl _ _⟩
  |false=>
   rw[f]at u;rw[Ws.fin_ok d f];go_enter func195,ntmps195
   go_wp2_with fail;refine y.out.mono ?_
   rintro e A ⟨rfl,j⟩;go_wp2_with fail;go_ret2;exact⟨rfl,j⟩
theorem zA (L:List En) (v:Value) (k:Int) (p q t:ByteArray) (b n:Int) (w:World) (G:aj w v L) (y:p.size≤1000000000) (z:q.size≤1000000000) (F:t.size≤1000000000) (E:Pp.Good L) (f:aM n=0):
    Calls prog 159 #[v,.agg #[.int .i64 k,.string p,.string q,.string t,.int .i64 b],.int .i64 n] w fun e w'=> ∃u,e= .returned (.tuple #[u,.int .i64 (bn L ⟨k,p,q,t,b⟩ n)])∧(bn L ⟨k,p,q,t,b⟩ n=0→aj w' u (bN L ⟨k,p,q,t,b⟩ n))∧Below w.heap.size w w':=by
 have K: ∀e∈L,e.path.size≤1000000000:=fun e U=>by
  have:=js (fJ (E.ents e U))
  rw[Lib.size_eq];omega
 by_cases a:aC ⟨k,p,q,t,b⟩=0
 · by_cases d:be L ⟨k,p,q,t,b⟩=0
   · have J:bn L ⟨k,p,q,t,b⟩ n=bx L ⟨k,p,q,t,b⟩ n:=by
      rw[bn,if_neg (fun x=>x f),if_neg (fun x=>x a),if_neg (fun x=>x d)];rfl
     rw[J];have T:1≤k∧k≤4:=gU a;obtain⟨H,N⟩:=xV T d
     have A:=iu a;rcases N with⟨rfl,o⟩|⟨rfl,o⟩|⟨rfl,j,I,o,S⟩|⟨rfl,⟨j,I,o⟩,S,P,O⟩|⟨rfl,j,I,o⟩
     · have Q:t=⟨#[]⟩:=by
        rcases A.2.1 with M|M
        · exact absurd (show(1:Int)=2 from M) (by decide)
        · exact yt M
       subst Q;exact yH L v p q b n w G K y z E a (hid (by simpa[Pp.goal]using H)) o
     · exact yu L v p q t b n w G K y z F E a (hid (by simpa[Pp.goal]using H)) o
     · exact zl L v p q t b n w G K y z F E a (hid (by simpa[Pp.goal]using H)) j I o S
     · exact zp L v p q t b n w G K y z F E a (hid (by simpa[Pp.goal]using H)) j I o S P O
     · exact zm L v p q t b n w G K y z F E a (hid (by simpa[Pp.goal]using H)) j I o
   · have J:bn L ⟨k,p,q,t,b⟩ n=be L ⟨k,p,q,t,b⟩:=qJ f a d
     rw[J];refine(xX L v k p q t b n w G y z F a d).mono ?_
     rintro e V ⟨rfl,hb⟩;exact⟨_,rfl,fun h=>absurd h d,hb⟩
 · have J:bn L ⟨k,p,q,t,b⟩ n=aC ⟨k,p,q,t,b⟩:=qI f a
   rw[J];refine(xW L v k p q t b n w y z F a).mono ?_
   rintro e V ⟨rfl,hb⟩;exact⟨_,rfl,fun h=>absurd h a,hb⟩
theorem Tryz.cellsCl:prog.cellsOf 50=8:=by kernel_rfl
theorem Tryz.cellsClC:prog.cellsOf 48=1:=by kernel_rfl
theorem Tryz.cellsClE:prog.cellsOf 47=1:=by kernel_rfl
theorem sh {a:Type} {l:List a} (h:l.length=8): ∃e aD f j o u y z,l=[e,aD,f,j,o,u,y,z]:=by
 rcases l with _|⟨e,_|⟨aD,_|⟨f,_|⟨j,_|⟨o,_|⟨u,_|⟨y,_|⟨z,_|⟨d,r⟩⟩⟩⟩⟩⟩⟩⟩⟩
 all_goals first|exact⟨e,aD,f,j,o,u,y,z,rfl⟩|(simp at h)
theorem zB {H:Type} {enc:TypeId×Value→H} {P:Program} {w:World} {base:Nat} {a:Nat→Bool} {d:Bool} {t:TypeId} {f j o u y z A E:Field} {fuel:Nat} {cs:List Value} {x:DataW H×List MemPlace} (T:P.underlying t=some (.struct #[f,j,o,u,y,z,A,E])) (h:DataW.trod enc P w base a d fuel t cs=some x):
    ∃G I J K M N O Q n U,x=(.agg [G.1,I.1,J.1,K.1,M.1,N.1,O.1,Q.1],U)∧cs.length=P.cellsOf t∧DataW.trod enc P w base a d n f.type ((cs.drop f.offset).take (P.cellsOf f.type))=some G∧DataW.trod enc P w base a d n j.type ((cs.drop j.offset).take (P.cellsOf j.type))=some I∧DataW.trod enc P w base a d n o.type ((cs.drop o.offset).take (P.cellsOf o.type))=some J∧DataW.trod enc P w base a d n u.type ((cs.drop u.offset).take (P.cellsOf u.type))=some K∧DataW.trod enc P w base a d n y.type ((cs.drop y.offset).take (P.cellsOf y.type))=some M∧DataW.trod enc P w base a d n z.type ((cs.drop z.offset).take (P.cellsOf z.type))=some N∧DataW.trod enc P w base a d n A.type ((cs.drop A.offset).take (P.cellsOf A.type))=some O∧DataW.trod enc P w base a d n E.type ((cs.drop E.offset).take (P.cellsOf E.type))=some Q:=by
 obtain⟨xs,n,_,rfl,S,F,e⟩:=DataW.trod_struct T h
 match xs,F with
 |[G,I,J,K,M,N,O,Q],_=>exact⟨G,I,J,K,M,N,O,Q,n,_,rfl,S,by simpa using e 0 f rfl,by simpa using e 1 j rfl,by simpa using e 2 o rfl,by simpa using e 3 u rfl,by simpa using e 4 y rfl,by simpa using e 5 z rfl,by simpa using e 6 A rfl,by simpa using e 7 E rfl⟩
theorem sj {H:Type} (a aD d e f j o u:DataW H):Rows.uptoBulk (.agg [a,aD,d,e,f,j,o,u])=1+(Rows.uptoBulk a+(Rows.uptoBulk aD+(Rows.uptoBulk d+(Rows.uptoBulk e+(Rows.uptoBulk f+(Rows.uptoBulk j+(Rows.uptoBulk o+(Rows.uptoBulk u)))))))):=by
 rw[Rows.uptoBulk,Rows.uptoBulkAll,Rows.uptoBulkAll,Rows.uptoBulkAll,Rows.uptoBulkAll,Rows.uptoBulkAll,Rows.uptoBulkAll,Rows.uptoBulkAll,Rows.uptoBulkAll,Rows.uptoBulkAll];omega
theorem Tryz.cellsSe:prog.cellsOf 125=5:=by kernel_rfl
theorem Tryz.cellsS9:prog.cellsOf 9=1:=by kernel_rfl
theorem Tryz.cellsS3:prog.cellsOf 3=1:=by kernel_rfl
theorem Tryz.bytesSe:prog.bytesOf 125=56:=by kernel_rfl
def lU {H:Type} (e:Se):DataW H:= .agg [.lit (.int .i64 e.nu),.lit (.string e.wh.data.toList),.lit (.string e.tx.data.toList),.lit (.int .i64 e.si),.lit (.int .i64 e.ti)]
theorem sk {f:Type} {l:List f} (h:l.length=5): ∃a b c d e,l=[a,b,c,d,e]:=by
 rcases l with _|⟨a,_|⟨b,_|⟨c,_|⟨d,_|⟨e,_|⟨j,r⟩⟩⟩⟩⟩⟩
 all_goals first|exact⟨a,b,c,d,e,rfl⟩|(simp at h)
theorem zC {W:World} {a:Addr} {v:Value} (k:W.cell? a=some v):a.spot=none:=by
 unfold World.cell? at k;cases d:a.spot with
 |none=>rfl
 |some z=>rw[d]at k;simp at k;split at k<;>cases k
theorem zD {H:Type} {enc:TypeId×Value→H} {P:Program} {w:World} {base:Nat} {a:Nat→Bool} {d:Bool} {t:TypeId} {e f j o u:Field} {fuel:Nat} {cs:List Value} {x:DataW H×List MemPlace} (K:P.underlying t=some (.struct #[e,f,j,o,u])) (h:DataW.trod enc P w base a d fuel t cs=some x):
    ∃A E F G I n,x=(.agg [A.1,E.1,F.1,G.1,I.1],A.2++(E.2++(F.2++(G.2++I.2))))∧cs.length=P.cellsOf t∧DataW.trod enc P w base a d n e.type ((cs.drop e.offset).take (P.cellsOf e.type))=some A∧
     DataW.trod enc P w base a d n f.type ((cs.drop f.offset).take (P.cellsOf f.type))=some E∧DataW.trod enc P w base a d n j.type ((cs.drop j.offset).take (P.cellsOf j.type))=some F∧DataW.trod enc P w base a d n o.type ((cs.drop o.offset).take (P.cellsOf o.type))=some G∧DataW.trod enc P w base a d n u.type ((cs.drop u.offset).take (P.cellsOf u.type))=some I:=by
 obtain⟨xs,n,_,rfl,J,z,y⟩:=DataW.trod_struct K h
 match xs,z with
 |[A,E,F,G,I],_=>exact⟨A,E,F,G,I,n,by simp,J,by simpa using y 0 e rfl,by simpa using y 1 f rfl,by simpa using y 2 j rfl,by simpa using y 3 o rfl,by simpa using y 4 u rfl⟩
theorem sl {H:Type} {P:Program} {e:TypeId}: ∀{l:List (DataW H)} {d:DataW H},d∈l→ ∀n∈d.weights P e,n∈DataW.weightsAll P e l
 |[],_,h=>by cases h
 |x::r,d,h=>by
  intro n a;rw[DataW.weightsAll];rcases List.mem_cons.1 h with rfl|h
  · exact List.mem_append_left _ a
  · exact List.mem_append_right _ (sl h n a)
theorem zE {H:Type} {enc:TypeId×Value→H} {W:World} {n i:Nat} {a:Addr} {x:DataW H} {pl:List MemPlace} {j:List Value} (ha:a.spot=none)
    (Q:W.cells? 0 (a.add (i*prog.cellsOf 125)) (prog.cellsOf 125)=some j) (h2:DataW.trod enc prog W 0 (fun _=>true) true n 125 j=some (x,pl)):
    ∃e:Se,x=lU e∧a.spot=none∧eu W a.block (a.off+i*5) e:=by
 rw[Tryz.cellsSe]at Q;obtain⟨_,u,o⟩:=World.cells?_some Q
 obtain⟨y0,y1,y2,y3,y4,z,y,_,cI,t1,t2,t3,t4⟩:=zD underlying125 h2
 obtain⟨K,M,N,O,P,rfl⟩:=sk u
 have E:DataW.trod enc prog W 0 (fun _=>true) true z 3 [K]=some y0:=by simpa[Tryz.cellsS3]using cI
 have F:DataW.trod enc prog W 0 (fun _=>true) true z 9 [M]=some y1:=by simpa[Tryz.cellsS9]using t1
 have G:DataW.trod enc prog W 0 (fun _=>true) true z 9 [N]=some y2:=by simpa[Tryz.cellsS9]using t2
 have I:DataW.trod enc prog W 0 (fun _=>true) true z 3 [O]=some y3:=by simpa[Tryz.cellsS3]using t3
 have J:DataW.trod enc prog W 0 (fun _=>true) true z 3 [P]=some y4:=by simpa[Tryz.cellsS3]using t4
 obtain⟨Y,aP,g0,_⟩:=DataW.trod_int underlying3 E
 obtain⟨Z,ay,g1,_⟩:=DataW.trod_string underlying9 F
 obtain⟨s2,e2,g2,_⟩:=DataW.trod_string underlying9 G
 obtain⟨s3,e3,g3,_⟩:=DataW.trod_int underlying3 I
 obtain⟨s4,e4,g4,_⟩:=DataW.trod_int underlying3 J
 obtain rfl:K= .int .i64 Y:=by simpa using aP
 obtain rfl:M= .string Z:=by simpa using ay
 obtain rfl:N= .string s2:=by simpa using e2
 obtain rfl:O= .int .i64 s3:=by simpa using e3
 obtain rfl:P= .int .i64 s4:=by simpa using e4
 subst g0;subst g1;subst g2;subst g3;subst g4;simp only[Prod.mk.injEq]at y;have S:=o 0 (by omega);have T:=o 1 (by omega);have U:=o 2 (by omega);have V:=o 3 (by omega);have X:=o 4 (by omega);obtain⟨ab,ao,A⟩:=a
 obtain rfl:A=none:=ha;refine⟨⟨Y,Z,s2,s3,s4⟩,y.1,rfl,?_,?_,?_,?_,?_⟩
 · by_cases d:i=0
   · subst d;simpa[Addr.add]using S
   · have f:i*5≠0:=by omega
     simpa[Addr.add,f]using S
 · by_cases d:i=0
   · subst d;simpa[Addr.add]using T
   · have f:i*5≠0:=by omega
     simpa[Addr.add,f,Nat.add_assoc]using T
 · by_cases d:i=0
   · subst d;simpa[Addr.add]using U
   · have f:i*5≠0:=by omega
     simpa[Addr.add,f,Nat.add_assoc]using U
 · by_cases d:i=0
   · subst d;simpa[Addr.add]using V
   · have f:i*5≠0:=by omega
     simpa[Addr.add,f,Nat.add_assoc]using V
 · by_cases d:i=0
   · subst d;simpa[Addr.add]using X
   · have f:i*5≠0:=by omega
     simpa[Addr.add,f,Nat.add_assoc]using X
theorem zF {H:Type} {enc:TypeId×Value→H} {W:World} {v:Value} {d:DataW H} {p:List MemPlace} {fuel:Nat} (hf:DataW.trod enc prog W 0 (fun _=>true) true fuel 24 [v]=some (d,p)) (Y: ∀n∈d.weights prog 24,n≤reachBytes):
    ∃L:List Se,bR W v L∧jv L:=by
 haveI:Inhabited Se:=⟨⟨0,⟨#[]⟩,⟨#[]⟩,0,0⟩⟩
 rcases Go.Deep.open_slice underlying24 hf with⟨o,V⟩|⟨a,len,y,m,n,D,Pl,o,hb,hl,hm,J,V,F⟩
 · obtain rfl:v= .slice none 0 0:=by simpa using o
   exact⟨[],uV _,fun e P=>by cases P⟩
 obtain rfl:v= .slice (some a) len y:=by simpa using o
 have T:m=y:=J.trans (if_pos rfl);clear J;have hd:=(Prod.mk.inj V).1;clear V;subst T
 have U:0<len→a.spot=none:=fun h=>by
  obtain⟨N,f,_⟩:=F 0 (by omega)
  rw[Tryz.cellsSe]at f;obtain⟨_,I,hc⟩:=World.cells?_some f
  obtain⟨Z,c1,c2,c3,c4,rfl⟩:=sk I
  have k0:=hc 0 (by omega);exact zC (v:=Z) (by simpa[Addr.add]using k0)
 have z: ∀i,i<len→ ∃e:Se,D i=lU e∧a.spot=none∧eu W a.block (a.off+i*5) e:=fun i u=>by
  obtain⟨N,f,O⟩:=F i (by omega)
  exact zE (U (by omega)) f O
 obtain⟨E,ae⟩:=Go.Deep.choose_lt z
 obtain⟨M,A⟩: ∃M,d= .slice ((List.range len).map D) M:=⟨_,hd⟩
 have j:(len+M.length)*56≤reachBytes:=by
  have:=Y ((len+M.length)*56) (by
   rw[A,DataW.weights];simp only[underlying24,Tryz.bytesSe,List.length_map,List.length_range];exact List.mem_cons_self ..)
  exact this
 have G: ∀i,i<len→ ∀n∈(D i).weights prog 125,n≤reachBytes:=fun i u n hn=>Y n (by
  rw[A,DataW.weights];simp only[underlying24];refine List.mem_cons_of_mem _ (List.mem_append_left _ (sl (List.mem_map.2 ⟨i,List.mem_range.2 u,rfl⟩) n hn)))
 have K:reachBytes=140737488351232:=by decide
 refine⟨(List.range len).map E,⟨some a,_,by simp;rfl,by simpa using hl,?_,fun i u=>?_⟩,fun e P=>?_⟩
 · rw[K]at j
   simp only[List.length_map,List.length_range];omega
 · have Q:i<len:=by simpa using u
   obtain⟨f,O,X⟩:=ae i Q
   have S:a.block<W.heap.size:=by
    have k:=X.1;rcases Nat.lt_or_ge a.block W.heap.size with h|h
    · exact h
    · unfold World.cell? at k;rw[Array.getElem?_eq_none h]at k;cases k
   refine⟨a.block,a.off,?_,S,by simpa using X⟩
   rw[←O]
 · obtain⟨i,u,rfl⟩:=List.mem_map.1 P
   have f:=G i (List.mem_range.1 u);rw[(ae i (List.mem_range.1 u)).1]at f
   have hw:DataW.weights prog 125 (lU (H:=H) (E i))=[(E i).wh.data.toList.length,(E i).tx.data.toList.length]:=by
    rw[lU,DataW.weights];simp only[underlying125];simp[DataW.weightsEach,DataW.weights]
   rw[hw,K]at f;rw[Lib.size_eq,Lib.size_eq];have a1:=f _ (List.mem_cons_self ..);have a2:=f _ (List.mem_cons_of_mem _ (List.mem_cons_self ..));exact⟨by omega,by omega⟩
end Go.Proofs.YtgamnckfmmbjdaaGreatDoor
