/- Where a folder is among folders that rise, or would be: hub.place, over slices.BinarySearchFunc. -/
import Derived.Test.YtgamnckfmmbjdaaGreatDoorWGV
import Derived.Test.YtgamnckfmmbjdaaGreatDoorWGW
import Derived.Test.YtgamnckfmmbjdaaGreatDoorWGT
import Derived.Test.YtgamnckfmmbjdaaGreatDoorWGU
set_option linter.unusedSimpArgs false
set_option linter.unusedVariables false
namespace Go.Proofs.YtgamnckfmmbjdaaGreatDoor
open Go.RowKit Go.ChangeShapes Go.WideShapes Go.ChangeAt Go.Proofs.Tryz
set_option maxHeartbeats 4000000
set_option maxRecDepth 100000
def aO (s:Sh) (x:ByteArray):Int:=Lib.compareBytes s.na.data.toList x.data.toList
theorem lK (s t:Sh):Hu.lt s t=decide (Lib.compareBytes s.na.data.toList t.na.data.toList<0):=by rw[Hu.lt,jU,Lib.toList_data,Lib.toList_data]
theorem lL {L:List Sh} (a:dz L=true): ∀(d i:Nat) (h:i+d+1<L.length),Lib.compareBytes (L[i]'(by omega)).na.data.toList (L[i+d+1]).na.data.toList<0
 |0,i,h=>by
  have:=(jB L).1 a i h
  rw[lK]at this;exact of_decide_eq_true this
 |d+1,i,h=>by
  have f:=lL a d i (by omega);have e:=(jB L).1 a (i+d+1) (by omega);rw[lK]at e;exact jT _ _ _ f (of_decide_eq_true e)
theorem rG {L:List Sh} (o:dz L=true) {x:ByteArray} {i j:Nat} (a:i≤j) (f:j<L.length) (h:aO L[j] x<0):aO (L[i]'(by omega)) x<0:=by
 by_cases e:i=j
 · subst e;exact h
 · obtain⟨d,rfl⟩: ∃d,j=i+d+1:=⟨j-i-1,by omega⟩
   exact jT _ _ _ (lL o d i f) h
def f9 (L:List Sh) (x:ByteArray):Nat:=L.findIdx (fun s=>decide (0≤aO s x))
def bS (L:List Sh) (x:ByteArray):Bool:=L.any (fun s=>decide (aO s x=0))
theorem rH {L:List Sh} {x:ByteArray} {p:Nat} (j:p≤L.length) (a: ∀m (h:m<L.length),m<p→aO L[m] x<0) (e: ∀m (h:m<L.length),p≤m→0≤aO L[m] x):f9 L x=p:=by
 by_cases h:p<L.length
 · exact(List.findIdx_eq h).2 ⟨decide_eq_true (e p h (Nat.le_refl _)),fun m d=>by have:=a m (by omega) d;simp;omega⟩
 · obtain rfl:p=L.length:=by omega
   exact List.findIdx_eq_length.2 fun s f=>by
    obtain⟨m,d,rfl⟩:=List.getElem_of_mem f
    have:=a m d d;simp;omega
theorem yv {L:List Sh} {x:ByteArray} {p:Nat} (E:dz L=true) (h:p<L.length) (f: ∀m (h:m<L.length),m<p→aO L[m] x<0) (a: ∀m (h:m<L.length),p≤m→0≤aO L[m] x):bS L x=decide (aO L[p] x=0):=by
 by_cases e:aO L[p] x=0
 · rw[decide_eq_true e]
   exact List.any_eq_true.2 ⟨L[p],List.getElem_mem h,decide_eq_true e⟩
 · rw[decide_eq_false e]
   refine List.any_eq_false.2 fun s F=>?_
   obtain⟨m,o,rfl⟩:=List.getElem_of_mem F
   simp only[decide_eq_true_eq];intro u;by_cases y:m<p
   · have:=f m o y;omega
   · by_cases z:m=p
     · subst z;exact e u
     · obtain⟨d,rfl⟩: ∃d,m=p+d+1:=⟨m-p-1,by omega⟩
       have j:=lL E d p o;have A:L[p+d+1].na.data.toList=x.data.toList:=iM _ _ u;rw[A]at j;have G:=a p h (Nat.le_refl _);have H:aO L[p] x<0:=j;omega
theorem yw {L:List Sh} {x:ByteArray} (a: ∀m (h:m<L.length),aO L[m] x<0):bS L x=false:=by
 refine List.any_eq_false.2 fun s e=>?_
 obtain⟨m,d,rfl⟩:=List.getElem_of_mem e
 have:=a m d
 simp;omega
theorem rI (na y:ByteArray) (o u:Option Addr) (d c1 j c2:Nat) (f:Int) (w:World):
    Calls prog 163 #[.agg #[.string na,.slice o d c1,.int .i64 f,.slice u j c2],.string y] w fun e w'=>e= .returned (.int .i64 (Lib.compareBytes na.data.toList y.data.toList))∧Below w.heap.size w w':=by
 have a:Below w.heap.size w (w.alloc (.cells #[.string na,.slice o d c1,.int .i64 f,.slice u j c2] 92)):=(Below.refl _ _).alloc (Nat.le_refl _) _;go_enter func163,ntmps163
 go_wp2_with fail;refine(Tryz.strings_Compare _ _ _).mono ?_
 rintro e z ⟨rfl,rfl⟩;go_wp2_with fail;go_ret;exact⟨rfl,a⟩
theorem yx (L:List Sh) (v:Value) (x:ByteArray) (w:World) (hv:dt w v L) (hr:dz L=true) (h8:L.length≤8):
    Calls prog 162 #[v,.string x,.func (.func 163) #[] #[]] w fun e w'=>e= .returned (.tuple #[.int .i64 (f9 L x),.bool (bS L x)])∧Below w.heap.size w w':=by
 have U:=hid hr;obtain⟨a,C8,rfl,C6,C3,G⟩:=hv
 have HL:Hid (∀i (h:i<L.length),∃b o,a=some ⟨b,o,none⟩∧b<w.heap.size∧fD w b (o+i*4) L[i]):=G;clear G hr;go_enter func162,ntmps162
 go_wp2_with fail;go_loopw [9,10] (fun vi vj wr=> ∃i j:Nat,i≤j∧j≤L.length∧vi= .int .i64 i∧vj= .int .i64 j∧Hid (∀m (h:m<L.length),m<i→aO L[m] x<0)∧Hid (∀m (h:m<L.length),j≤m→0≤aO L[m] x)∧Below w.heap.size w wr) (fun vi vj _=>(intOf vj-intOf vi).toNat)
 case atStart=>exact⟨0,L.length,Nat.zero_le _,Nat.le_refl _,rfl,rfl,(fun m _ h=>absurd h (Nat.not_lt_zero _): ∀m (h:m<L.length),m<0→aO L[m] x<0),(fun m h h2=>absurd h (by omega): ∀m (h:m<L.length),L.length≤m→0≤aO L[m] x),Below.refl _ _⟩
 case round=>
  obtain⟨i,j,C9,hj,rfl,rfl,E,M,f⟩:=hrel
  by_cases CD:i<j
  · obtain⟨k,hk⟩: ∃k:Nat,k=(i+j)/2:=⟨_,rfl⟩
    have C7:(i:Int)<j:=by omega
    have C4:i≤k:=by omega
    have CC:k<j:=by omega
    have I:k<L.length:=by omega
    obtain⟨b,o,rfl,hb,H⟩:=HL.out k I
    obtain⟨V,u,z,X,Y,Z,J,K⟩:=H.below hb f
    have T:=hid (show aO L[k] x<0→ ∀m (h:m<L.length),m<k+1→aO L[m] x<0 from fun h m h1 h2=>rG U.out (by omega) I h)
    have S:=hid (show¬aO L[k] x<0→ ∀m (h:m<L.length),k≤m→0≤aO L[m] x from fun h m h1 h2=>by
     by_cases e:aO L[m] x<0
     · exact absurd (rG U.out h2 h1 e) h
     · omega)
    clear H;have Q:=hid (show Lib.compareBytes L[k].na.data.toList x.data.toList=aO L[k] x from rfl);generalize L[k]=s at*;obtain⟨na,⟨jb,N,jc⟩⟩:=s
    simp only at V X Y Z J K;obtain⟨ua,uc,rfl,_⟩:=J
    obtain⟨xa,xc,rfl,_⟩:=K
    have y:((i:Int)+j)/2=(k:Int):=by omega
    have CE:Op.shift .shr .u64 ((i:Int)+j) .u64 1=pure (.int .u64 (k:Int)):=by rw[shift_shr_any _ _ _ _ (by decide),←y];rfl
    have CF:IntKind.i64.wrap (k:Int)=k:=by rw[IntKind.wrap_i64];omega
    clear y hk;go_wp2_with fail;refine(rI na x ua xa _ uc _ xc N _).mono ?_
    rintro e w1 ⟨rfl,A⟩;rw[Q.out];have d:=af f A;by_cases hc:aO ⟨na,⟨jb,N,jc⟩⟩ x<0
    · have O:=hid (T.out hc)
      go_wp2_with fail;go_roundw
      case rel=>exact⟨k+1,j,by omega,hj,by simp,rfl,O,M,d⟩
      case measure=>simp[intOf];omega
    · have P:=hid (S.out (by omega))
      go_wp2_with fail;go_roundw
      case rel=>exact⟨i,k,C4,by omega,rfl,by simp,E,P,d⟩
      case measure=>simp[intOf];omega
  · obtain rfl:i=j:=by omega
    by_cases hn:i<L.length
    · have C5:(i:Int)<L.length:=by omega
      obtain⟨b,o,rfl,hb,H⟩:=HL.out i hn
      obtain⟨V,u,z,X,Y,Z,J,K⟩:=H.below hb f
      have Q:=hid (show Lib.compareBytes L[i].na.data.toList x.data.toList=aO L[i] x from rfl);have F:=hid (show f9 L x=i∧bS L x=decide (aO L[i] x=0)from⟨rH hj E.out M.out,yv U.out hn E.out M.out⟩);clear H;generalize L[i]=s at*;obtain⟨na,⟨jb,N,jc⟩⟩:=s
      simp only at V X Y Z J K;obtain⟨ua,uc,rfl,_⟩:=J
      obtain⟨xa,xc,rfl,_⟩:=K
      go_wp2_with fail;refine(rI na x ua xa _ uc _ xc N _).mono ?_
      rintro e w1 ⟨rfl,A⟩;rw[Q.out];have d:=af f A;go_wp2_with fail;go_ret2;exact⟨by rw[F.out.1,F.out.2];rfl,d⟩
    · have C5: ¬(i:Int)<L.length:=by omega
      obtain rfl:i=L.length:=by omega
      have F:=hid (show f9 L x=L.length∧bS L x=false from⟨rH hj E.out M.out,yw fun m h=>E.out m h h⟩);go_wp2_with fail;go_ret2;exact⟨by rw[F.out.1,F.out.2];rfl,f⟩
theorem yy (L:List Sh) (v:Value) (x:ByteArray) (g:Nat) (w:World) (y:w.cell? ⟨g,0,none⟩=some v) (d:dt w v L) (u:dz L=true) (o:L.length≤8):
    Calls prog 132 #[.pointer (some ⟨g,0,none⟩),.string x] w fun e w'=>e= .returned (.tuple #[.int .i64 (f9 L x),.bool (bS L x)])∧Below w.heap.size w w':=by
 have f:=hid d;obtain⟨a,j,rfl,_⟩:=d
 go_enter func132,ntmps132
 go_wp2_with fail;refine(yx L _ x _ f.out u o).mono ?_
 rintro e z ⟨rfl,hb⟩;go_wp2_with fail;go_ret2;exact⟨rfl,hb⟩
theorem bg.row {B b g:Nat} {cs:Array Value} {T:TypeId} {d:Nat×Nat} {w w':World} (h:bg B b w w') (u:w.heap[g]?=some (.cells cs T d)) (a:g≠b) (o:T≠5):w'.heap[g]?=some (.cells cs T d):=
 h.2 g _ u (fun e=>a (by injection e)) (fun c j e=>by injection e with _ f _;exact o f)
theorem Wr.take_next {a:Type} (f:a→aL) (s:Ws) (xs:List a) (k:Nat) (h:k<xs.length):Wr.run s ((xs.take (k+1)).map f)=Wr.put (Wr.run s ((xs.take k).map f)) (f xs[k]):=by
 rw[List.take_succ_eq_append_getElem h,List.map_append,n8];rfl
theorem Wr.take_len {a:Type} (f:a→aL) (s:Ws) (xs:List a) (k:Nat) (d: ∀x∈xs,(f x).wf) (u:s.l.length+1021*xs.length≤1000000000):(Wr.run s ((xs.take k).map f)).l.length≤1000000000:=by
 have:=Wr.run_len ((xs.take k).map f) s (fun y j=>by
  obtain⟨x,e,rfl⟩:=List.mem_map.1 j
  exact d x (List.mem_of_mem_take e))
 have o:((xs.take k).map f).length≤xs.length:=by rw[List.length_map,List.length_take];omega
 omega
theorem rJ (xs:List ByteArray) (B b g:Nat) (s:Ws) (w:World) (h:Wt B b s w) (F:w.heap[g]?=some (.cells (xs.map Value.string).toArray 9 (0,0))) (y:g≠b) (a:s.l.length+1021*xs.length≤1000000000) (E:3<B) (G:df w) (H: ∀x∈xs,(x.size:Int)≤9223372036854775807):
    Calls prog 192 #[.pointer (some ⟨b,0,none⟩),.slice (some ⟨g,0,none⟩) xs.length xs.length] w fun e w'=>e= .returned (.tuple #[])∧Wt B b (Wr.run s (xs.map .t)) w'∧bg B b w w':=by
 have J:=hid F;have N:=hid H;have M:=hid G;have K:=hid (show∀k,(Wr.run s ((xs.take k).map aL.t)).l.length≤1000000000 from fun k=>Wr.take_len _ s xs k (fun _ _=>trivial) a);have P:xs.length≤1000000:=by omega
 clear F H G a;go_enter func192,ntmps192
 go_wp2_with fail;go_loopw [8] (fun i wr=> ∃k:Nat,k≤xs.length∧i= .int .i64 k∧Hid (Wt B b (Wr.run s ((xs.take k).map .t)) wr)∧bg B b w wr) (fun i _=>xs.length-(intOf i).toNat)
 case atStart=>exact⟨0,Nat.zero_le _,rfl,(by rw[List.take_zero];exact h:Wt B b (Wr.run s ((xs.take 0).map .t)) w),bg.refl _ _ _⟩
 case round=>
  obtain⟨k,S,rfl,z,j⟩:=hrel
  by_cases d:k<xs.length
  · have O:wr.cell? ⟨g,k,none⟩=some (.string xs[k]):=by rw[Lib.cell_of_heap (j.row J.out y (by decide))];simp[d]
    have f:=M.out.fr E j;have o:=hid f;clear f;go_wp2_with fail;refine(xN B b _ xs[k] wr z.out (K.out k) E o.out (N.out _ (List.getElem_mem d))).mono ?_
    rintro e Q ⟨rfl,A,u⟩;have I:=hid A;clear A O;go_wp2_with fail;go_roundw
    case rel=>exact⟨k+1,by omega,by simp,(by rw[Wr.take_next _ s xs k d];exact I.out:Wt B b (Wr.run s ((xs.take (k+1)).map .t)) Q),j.trans u⟩
    case measure=>simp[intOf];omega
  · obtain rfl:k=xs.length:=by omega
    go_wp2_with fail;go_end0
    exact⟨rfl,by have:=z.out;rw[List.take_length]at this;exact this,j⟩
theorem yz (xs:List Int) (B b g:Nat) (s:Ws) (w:World) (h:Wt B b s w) (G:w.heap[g]?=some (.cells (xs.map (Value.int .i64)).toArray 3 (0,0))) (y:g≠b) (a:s.l.length+1021*xs.length≤1000000000) (F:3<B) (H:df w) (z: ∀x∈xs,eh x):
    Calls prog 193 #[.pointer (some ⟨b,0,none⟩),.slice (some ⟨g,0,none⟩) xs.length xs.length] w fun e w'=>e= .returned (.tuple #[])∧Wt B b (Wr.run s (xs.map .n)) w'∧bg B b w w':=by
 have J:=hid G;have N:=hid z;have M:=hid H;have K:=hid (show∀k,(Wr.run s ((xs.take k).map aL.n)).l.length≤1000000000 from fun k=>Wr.take_len _ s xs k z a);have P:xs.length≤1000000:=by omega
 clear G z H a;go_enter func193,ntmps193
 go_wp2_with fail;go_loopw [8] (fun i wr=> ∃k:Nat,k≤xs.length∧i= .int .i64 k∧Hid (Wt B b (Wr.run s ((xs.take k).map .n)) wr)∧bg B b w wr) (fun i _=>xs.length-(intOf i).toNat)
 case atStart=>exact⟨0,Nat.zero_le _,rfl,(by rw[List.take_zero];exact h:Wt B b (Wr.run s ((xs.take 0).map .n)) w),bg.refl _ _ _⟩
 case round=>
  obtain⟨k,S,rfl,A,j⟩:=hrel
  by_cases d:k<xs.length
  · have O:wr.cell? ⟨g,k,none⟩=some (.int .i64 xs[k]):=by rw[Lib.cell_of_heap (j.row J.out y (by decide))];simp[d]
    have f:=M.out.fr F j;have o:=hid f;clear f;go_wp2_with fail;refine(ku B b _ xs[k] wr A.out (N.out _ (List.getElem_mem d)) (K.out k) F o.out).mono ?_
    rintro e Q ⟨rfl,E,u⟩;have I:=hid E;clear E O;go_wp2_with fail;go_roundw
    case rel=>exact⟨k+1,by omega,by simp,(by rw[Wr.take_next _ s xs k d];exact I.out:Wt B b (Wr.run s ((xs.take (k+1)).map .n)) Q),j.trans u⟩
    case measure=>simp[intOf];omega
  · obtain rfl:k=xs.length:=by omega
    go_wp2_with fail;go_end0
    exact⟨rfl,by have:=A.out;rw[List.take_length]at this;exact this,j⟩
theorem lM (a b:ByteArray):bf [a,b]=if az a.data.toList=true∧az b.data.toList=true then 0 else 1:=by
 rw[bf];simp only[List.all_cons,List.all_nil,Bool.and_true,Bool.and_eq_true]
theorem rK {a b:ByteArray} (h: ¬(az a.data.toList=true∧az b.data.toList=true)):dm a b=1:=by
 have d:bf [a,b]=1:=by rw[lM,if_neg h]
 rw[dm,d,if_pos (by decide)]
theorem yA {a b:ByteArray} (e:az a.data.toList=true) (f:az b.data.toList=true) (h:bV a.data.toList=false):dm a b=1:=by
 have d:bf [a,b]=0:=by rw[lM,if_pos ⟨e,f⟩]
 rw[dm,d,if_neg (by decide),iq h];split<;>rfl
theorem yB {a b:ByteArray} (e:az a.data.toList=true) (f:az b.data.toList=true) (h:10<a.size):dm a b=1:=by
 have d:bf [a,b]=0:=by rw[lM,if_pos ⟨e,f⟩]
 rw[dm,d,if_neg (by decide),if_pos h]
theorem yC {a b:ByteArray} (e:az a.data.toList=true) (f:az b.data.toList=true) (j:bV a.data.toList=true) (h: ¬10<a.size):dm a b=0:=by
 have d:bf [a,b]=0:=by rw[lM,if_pos ⟨e,f⟩]
 rw[dm,d,if_neg (by decide),if_neg h,jl j]
theorem yD {c:Cn} (h:(decide (0≤c.cur) && decide (c.cur≤1000000))=false):eb c=true:=by
 simp only[eb,Bool.or_eq_true,decide_eq_true_eq];simp only[Bool.and_eq_false_iff,decide_eq_false_iff_not]at h;omega
theorem yE {c:Cn} (h:(decide (0≤c.keys) && decide (c.keys≤1000000))=false):eb c=true:=by
 simp only[eb,Bool.or_eq_true,decide_eq_true_eq];simp only[Bool.and_eq_false_iff,decide_eq_false_iff_not]at h;omega
theorem yF {c:Cn} (h:(decide (0≤c.cur) && decide (c.cur≤1000000))=true) (a:(decide (0≤c.keys) && decide (c.keys≤1000000))=true):eb c=false:=by
 simp only[Bool.and_eq_true,decide_eq_true_eq]at h a;simp only[eb,Bool.or_eq_false_iff,decide_eq_false_iff_not];omega
theorem rL (n:Int) (w:World):Calls prog 36 #[.int .i64 n] w fun e w'=>e= .returned (.bool (decide (0≤n) && decide (n≤1000000)))∧w'=w:=by
 by_cases d:0≤n
 · by_cases f:n≤1000000
   · have a:=hid (show(decide (0≤n) && decide (n≤1000000))=true from by simp[d,f])
     rw[a.out];go_enter func36,ntmps36
     go_wp2_with fail;go_ret;exact⟨rfl,rfl⟩
   · have a:=hid (show(decide (0≤n) && decide (n≤1000000))=false from by simp[f])
     rw[a.out];go_enter func36,ntmps36
     go_wp2_with fail;go_ret;exact⟨rfl,rfl⟩
 · have a:=hid (show(decide (0≤n) && decide (n≤1000000))=false from by simp[d])
   have j:decide (0≤n)=false:=decide_eq_false d;rw[a.out];go_enter func36,ntmps36
   go_wp2_with fail;go_ret;exact⟨rfl,rfl⟩
theorem yG (c:Cn) (v:Value) (w:World) (hv:dD w v c) (hs:fR c) (Q: ∀e∈c.base,e.path.size≤1000000000) (S: ∀e∈c.mine,e.path.size≤1000000000):
    Calls prog 15 #[v] w fun e w'=>e= .returned (.int .i64 (aU c))∧Below w.heap.size w w':=by
 obtain⟨vb,vm,va,rfl,hb,hm,ha⟩:=hv
 have HB:=hid hb;have HM:=hid hm;have C3:=hid Q;have C4:=hid S;obtain⟨ab,cb,rfl,_⟩:=hb
 obtain⟨am,aO,rfl,_⟩:=hm
 obtain⟨aa,ca,rfl,_,CE,_⟩:=ha
 obtain⟨r,hr⟩: ∃r,r=aU c:=⟨_,rfl⟩
 rw[←hr];have X:=hid hr;have T:=hs.who;have C6:=hs.fo;have C8:=hs.key;clear hr hs Q S;obtain⟨wz,E⟩: ∃wz,wz=w.alloc (.cells #[.string c.who,.string c.fo,.slice ab c.base.length cb,.int .i64 c.cur,.slice am c.mine.length aO,.string c.key,.slice aa c.ask.length ca,.int .i64 c.keys] 50):=⟨_,rfl⟩
 have u:Below w.heap.size w wz:=by rw[E];exact(Below.refl _ _).alloc (Nat.le_refl _) _
 have Y:=hid (show Cs wz w.heap.size [.string c.who,.string c.fo,.slice ab c.base.length cb,.int .i64 c.cur,.slice am c.mine.length aO,.string c.key,.slice aa c.ask.length ca,.int .i64 c.keys]from by rw[E];exact Cs.new _ [.string c.who,.string c.fo,.slice ab c.base.length cb,.int .i64 c.cur,.slice am c.mine.length aO,.string c.key,.slice aa c.ask.length ca,.int .i64 c.keys] _);have j: ∀{n:Int},dm c.who c.fo=n→ ¬n=0→Hid (r=n):=fun h1 h2=>(by rw[X.out,aU,if_pos (by rw[h1];exact h2),h1]:r=_)
 go_enter func15,ntmps15
 go_wp2_with fail;rw[←E];clear E;refine(gB c.who _ T).mono ?_
 rintro e w1 ⟨rfl,rfl⟩;have x0:=Y.out.cell 0 rfl;have aD:=Y.out.cell 1 rfl;cases H:az c.who.data.toList with
 |false=>
  have f:=j (rK (fun h=>by rw[H]at h;cases h.1)) (by decide);clear j;go_wp2_with fail;go_ret;exact⟨by rw[f.out];rfl,u⟩
 |true=>
  go_wp2_with fail;refine(gB c.fo _ C6).mono ?_
  rintro e w1 ⟨rfl,rfl⟩;cases U:az c.fo.data.toList with
  |false=>
   have f:=j (rK (fun h=>by rw[U]at h;cases h.2)) (by decide);clear j;go_wp2_with fail;go_ret;exact⟨by rw[f.out];rfl,u⟩
  |true=>
   go_wp2_with fail;refine(jR c.who _ (by unfold maxLen;omega)).mono ?_
   rintro e w1 ⟨rfl,rfl⟩;cases n3:bV c.who.data.toList with
   |false=>
    have f:=j (yA H U n3) (by decide);clear j;go_wp2_with fail;go_ret;exact⟨by rw[f.out];rfl,u⟩
   |true=>
    by_cases n4:10<c.who.size
    · have f:=j (yB H U n4) (by decide)
      have V:10<(c.who.size:Int):=by omega
      clear j;go_wp2_with fail;go_ret;exact⟨by rw[f.out];rfl,u⟩
    · have HN:=hid (yC H U n3 n4)
      have V:decide (10<(c.who.size:Int))=false:=decide_eq_false (by omega);clear j;have x2:=Y.out.cell 2 rfl;go_wp2_with fail;refine(jF c.base _ _ (HB.out.below u) C3.out).mono ?_
      rintro e w2 ⟨rfl,O⟩;have y:=af u O;have K:=hid (Y.out.below O);clear x0 aD x2 H U n3 n4 V;by_cases ae:aA c.base=0
      · have J:=hid ae
        rw[ae];clear ae;have x4:=K.out.cell 4 rfl;go_wp2_with fail;refine(jF c.mine _ _ (HM.out.below y) C4.out).mono ?_
        rintro e w3 ⟨rfl,P⟩;have a:=af y P;have A:=hid (K.out.below P);clear x4;by_cases hF:aA c.mine=0
        · have z:=hid (show r=if eb c=true then 3 else dp c.key c.ask.length from by rw[X.out,aU,if_neg (fun x=>x HN.out),if_neg (fun x=>x J.out),if_neg (fun x=>x hF)])
          rw[hF];clear hF;have x3:=A.out.cell 3 rfl;have x5:=A.out.cell 5 rfl;have x6:=A.out.cell 6 rfl;have x7:=A.out.cell 7 rfl;go_wp2_with fail;refine(rL c.cur _).mono ?_
          rintro e w4 ⟨rfl,rfl⟩;cases g1:(decide (0≤c.cur) && decide (c.cur≤1000000))with
          |false=>
           have f:=hid (show r=3 from by rw[z.out,if_pos (yD g1)]);go_wp2_with fail;go_ret;exact⟨by rw[f.out];rfl,a⟩
          |true=>
           go_wp2_with fail;refine(rL c.keys _).mono ?_
           rintro e w4 ⟨rfl,rfl⟩;cases g2:(decide (0≤c.keys) && decide (c.keys≤1000000))with
           |false=>
            have f:=hid (show r=3 from by rw[z.out,if_pos (yE g2)]);go_wp2_with fail;go_ret;exact⟨by rw[f.out];rfl,a⟩
           |true=>
            have o:=hid (show r=dp c.key c.ask.length from by rw[z.out,if_neg (by rw[yF g1 g2];decide)]);clear z g1 g2;obtain⟨n,hn⟩: ∃n,n=c.ask.length:=⟨_,rfl⟩
            rw[←hn]at o x6;clear hn;by_cases G:c.key.size=0
            · have ke:c.key=⟨#[]⟩:=by
               cases C5:c.key with
               |mk d=>rw[C5]at G;have h:d.size=0:=G;rw[Array.size_eq_zero_iff.1 h]
              by_cases F:n=0
              · have f:=hid (show r=0 from by rw[o.out,ke,F];rfl)
                rw[ke]at x5;rw[F]at x6;go_wp2_with fail;go_ret;exact⟨by rw[f.out];rfl,a⟩
              · have f:=hid (show r=4 from by rw[o.out,dp,if_neg (fun h=>h.1 G),if_pos (by rw[decide_eq_true G];simp[F])])
                have H:0<(n:Int):=by omega
                rw[ke]at x5;go_wp2_with fail;go_ret;exact⟨by rw[f.out];rfl,a⟩
            · have kl: ¬c.key.toList=[]:=by
               rw[Lib.toList_data];intro e;have:c.key.data.toList.length=c.key.size:=Array.length_toList
               rw[e]at this;exact G this.symm
              have kb:(c.key.toList==([]:List UInt8))=false:=beq_eq_false_iff_ne.2 kl;have C7:(c.key.toList==(⟨#[]⟩:ByteArray).toList)=false:=by rw[Lib.toList_data ⟨#[]⟩];exact kb
              have CF:(c.key.toList !=(⟨#[]⟩:ByteArray).toList)=true:=by rw[bne,C7];rfl
              go_wp2_with fail;refine(jR c.key _ (by unfold maxLen;omega)).mono ?_
              rintro e w4 ⟨rfl,rfl⟩;cases hK:bV c.key.data.toList with
              |false=>
               have f:=hid (show r=1 from by rw[o.out,dp,if_pos ⟨G,by rw[iq hK];decide⟩]);go_wp2_with fail;go_ret;exact⟨by rw[f.out];rfl,a⟩
              |true=>
               have I: ¬(¬c.key.size=0∧ ¬dy c.key.data.toList=0):=fun h=>h.2 (jl hK)
               by_cases F:n=0
               · have f:=hid (show r=4 from by rw[o.out,dp,if_neg I,if_pos (by simp[G,F])])
                 rw[F]at x6;clear I;go_wp2_with fail;go_ret;exact⟨by rw[f.out];rfl,a⟩
               · have H:((n:Int)==0)=false:=by simpa using (by omega: ¬(n:Int)=0)
                 have Z: ¬decide (c.key.size=0)≠decide (n=0):=by simp[G,F]
                 by_cases M:20<n
                 · have f:=hid (show r=2 from by rw[o.out,dp,if_neg I,if_neg Z,if_pos M])
                   have N:20<(n:Int):=by omega
                   clear I Z F;go_wp2_with fail;go_ret;exact⟨by rw[f.out];rfl,a⟩
                 · have f:=hid (show r=0 from by rw[o.out,dp,if_neg I,if_neg Z,if_neg M])
                   have N: ¬20<(n:Int):=by omega
                   clear I Z F;go_wp2_with fail;go_ret;exact⟨by rw[f.out];rfl,a⟩
        · have f:=hid (show r=aA c.mine from by rw[X.out,aU,if_neg (fun x=>x HN.out),if_neg (fun x=>x J.out),if_pos hF])
          have CD:(aA c.mine !=0)=true:=by simpa using hF
          generalize aA c.mine=n at*;clear hF;go_wp2_with fail;go_ret;exact⟨by rw[f.out];rfl,a⟩
      · have f:=hid (show r=aA c.base from by rw[X.out,aU,if_neg (fun x=>x HN.out),if_pos ae])
        have C9:(aA c.base !=0)=true:=by simpa using ae
        have CC:(aA c.base==0)=false:=by simpa using ae
        generalize aA c.base=n at*;clear ae;go_wp2_with fail;go_ret;exact⟨by rw[f.out];rfl,y⟩
theorem yH (L:List En) (v:Value) (p q:ByteArray) (b n:Int) (w:World) (hv:aj w v L) (hs: ∀e∈L,e.path.size≤1000000000) (hp:p.size≤1000000000) (hq:q.size≤1000000000) (hL:Pp.Good L) (hc:aC ⟨1,p,q,(⟨#[]⟩:ByteArray),b⟩=0) (H0:Hid (aB L (ax p.data.toList)=0)) (HI:Hid (bX L p.data.toList= -1)):
    Calls prog 159 #[v,.agg #[.int .i64 1,.string p,.string q,.string (⟨#[]⟩:ByteArray),.int .i64 b],.int .i64 n] w fun e w'=> ∃u,e= .returned (.tuple #[u,.int .i64 (bx L ⟨1,p,q,(⟨#[]⟩:ByteArray),b⟩ n)])∧(bx L ⟨1,p,q,(⟨#[]⟩:ByteArray),b⟩ n=0→aj w' u (bN L ⟨1,p,q,(⟨#[]⟩:ByteArray),b⟩ n))∧Below w.heap.size w w':=by
 obtain⟨aQ,D6,D8,D9,Da⟩:=info_parts Tryz.infoE
 have HV:=hid hv;have HC:=hid hc;have HS:=hid hs;have HR:=hid hL.rise;have CZ:=hid hL;have CW:L.length≤60:=hL.len;have CR: -1≤b:=(iu hc).2.2.2.1;have D7:(⟨#[]⟩:ByteArray).size≤1000000000:=by decide
 have HE:=hid (show et L ⟨1,p,q,⟨#[]⟩,b⟩ n=if 60<(bI (Pp.newE ⟨1,p,q,⟨#[]⟩,b⟩ n) L).length+1 then 2 else 0 from if_pos (Or.inl rfl));have HQ:=hid (show bN L ⟨1,p,q,⟨#[]⟩,b⟩ n=br (Pp.newE ⟨1,p,q,⟨#[]⟩,b⟩ n) (bI (Pp.newE ⟨1,p,q,⟨#[]⟩,b⟩ n) L)from if_pos (Or.inl rfl));obtain⟨a,D3,rfl,CV,CS,CD⟩:=hv
 have HL:Hid (∀i (h:i<L.length),∃b o,a=some ⟨b,o,none⟩∧b<w.heap.size∧cM w b (o+i*4) L[i]):=CD;obtain⟨C,hC⟩: ∃C:ar,C=⟨1,p,q,(⟨#[]⟩:ByteArray),b⟩:=⟨_,rfl⟩
 rw[←hC]at HC HE HQ⊢;have Q:=hid hC;clear hC CD hL hs hc;go_enter func159,ntmps159
 go_wp2_with fail;refine(eN _ p q _ b _ hp hq (by omega)).mono ?_
 rintro e w1 ⟨rfl,F⟩;rw[←Q.out,HC.out];obtain⟨V,P,X,Y,T,f,z⟩:=ak F
 go_wp2_with fail;refine(ex p _ hp).mono ?_
 rintro e w2 ⟨rfl,CG⟩;have H:=F.trans (CG.mono F.size);clear V P X Y T f z F CG;obtain⟨V,P,X,Y,T,f,z⟩:=ak H
 go_wp2_with fail;refine(ez L _ ⟨(ax p.data.toList).toArray⟩ _ (HV.out.below f)).mono ?_
 rintro e w3 ⟨rfl,CH⟩;rw[show aB L _=0 from H0.out];have I:=H.trans (CH.mono H.size);clear V P X Y T f z H CH;obtain⟨V,P,X,Y,T,f,z⟩:=ak I
 go_wp2_with fail;refine(ed L _ p _ (HV.out.below f)).mono ?_
 rintro e w4 ⟨rfl,CI⟩;rw[HI.out];have C3:=I.trans (CI.mono I.size);clear V P X Y T f z I CI;obtain⟨V,P,X,Y,T,f,z⟩:=ak C3
 have HB:=hid C3;go_wp2_with fail;clear V P X Y T f z;go_loopw [11] (fun i wr=> ∃m:Nat,m≤L.length∧i= .int .i64 m∧Hid (∀j (h:j<L.length),j<m→b9 p.data.toList b L[j]=false)∧Below w4.heap.size w4 wr) (fun i _=>L.length-(intOf i).toNat)
 case atStart=>exact⟨0,Nat.zero_le _,rfl,(fun j _ h=>absurd h (Nat.not_lt_zero _): ∀j (h:j<L.length),j<0→b9 p.data.toList b L[j]=false),Below.refl _ _⟩
 case round=>
  obtain⟨m,hm,rfl,HP,E⟩:=hrel
  have C5:=HB.out.trans (E.mono HB.out.size);obtain⟨V,P,X,Y,T,f,z⟩:=ak C5
  by_cases CL:m<L.length∧0≤b
  · obtain⟨Z,CQ⟩:=CL
    obtain⟨b1,o1,CE,F,he⟩:=HL.out m Z
    first|subst CE|(have CF:=Option.some.inj CE;injection CF with ay e2 e3;have CO:=ay.symm;have CP:=e2.symm;subst CO;subst CP)
    obtain⟨d0,d1,d2,d3⟩:=he.below F f
    have C8:b1<wr.heap.size:=Nat.lt_of_lt_of_le F f.size;cases O:aI (L[m]).path.data.toList p.data.toList with
    |false=>
     have C6:=hid O;have N:=hid (kB (b:=b) (e:=L[m]) O);clear O;go_wp2_with fail;refine wp_region_held_drew (S:=fun W=>W.cell? ⟨b1,o1+m*4,none⟩=some (.string L[m].path)∧W.cell? ⟨w.heap.size,1,none⟩=some (.string p)) (by kernel_rfl) ⟨by simpa using d0,by simpa using P⟩ (fun d=>?_)
     refine wpAnyH_take (i:=0) (oi:=⟨some 103,Op.move (Operand.tmp 0),47,_,_,none⟩) (v:=?_) rfl (by kernel_rfl) (by kernel_rfl) (by kernel_rfl) (fun _ _ _ h=>h) (Or.inl ⟨by rfl,?_⟩) d ?_
     rotate_left
     · (intro W y;obtain⟨s0,s1⟩:=y;go_simp<;>with_reducible rfl)
     simp only[Act.put,List.setIfInBounds_toArray,List.set_cons_zero,List.set_cons_succ];refine wpAnyH_take (i:=1) (oi:=⟨some 104,Op.move (Operand.tmp 11),3,_,_,none⟩) (v:=?_) rfl (by kernel_rfl) (by kernel_rfl) (by kernel_rfl) (fun _ _ _ h=>h) (Or.inl ⟨by rfl,?_⟩) d ?_
     rotate_left
     · (intro W y;obtain⟨s0,s1⟩:=y;go_simp<;>with_reducible rfl)
     simp only[Act.put,List.setIfInBounds_toArray,List.set_cons_zero,List.set_cons_succ];refine wpAnyH_take (i:=2) (oi:=⟨some 105,Op.indexAddr 47 (Operand.tmp 103) (Operand.tmp 104),0,_,_,none⟩) (v:=?_) rfl (by kernel_rfl) (by kernel_rfl) (by kernel_rfl) (fun _ _ _ h=>h) (Or.inl ⟨by rfl,?_⟩) d ?_
     rotate_left
     · (intro W y;obtain⟨s0,s1⟩:=y;go_simp<;>with_reducible rfl)
     simp only[Act.put,List.setIfInBounds_toArray,List.set_cons_zero,List.set_cons_succ];refine wpAnyH_take (i:=3) (oi:=⟨some 106,Op.fieldAddr 108 (Operand.tmp 105) 0,0,_,_,none⟩) (v:=?_) rfl (by kernel_rfl) (by kernel_rfl) (by kernel_rfl) (fun _ _ _ h=>h) (Or.inl ⟨by rfl,?_⟩) d ?_
     rotate_left
     · (intro W y;obtain⟨s0,s1⟩:=y;go_simp<;>with_reducible rfl)
     simp only[Act.put,List.setIfInBounds_toArray,List.set_cons_zero,List.set_cons_succ];refine wpAnyH_take (i:=4) (oi:=⟨some 107,Op.load 9 (Operand.tmp 106),9,_,_,none⟩) (v:=?_) rfl (by kernel_rfl) (by kernel_rfl) (by kernel_rfl) (fun _ _ _ h=>h) (Or.inl ⟨by rfl,?_⟩) d ?_
     rotate_left
     · (intro W y;obtain⟨s0,s1⟩:=y;go_simp<;>with_reducible rfl)
     simp only[Act.put,List.setIfInBounds_toArray,List.set_cons_zero,List.set_cons_succ];refine wpAnyH_take (i:=5) (oi:=⟨some 108,Op.fieldAddr 55 (Operand.tmp 4) 1,0,_,_,none⟩) (v:=?_) rfl (by kernel_rfl) (by kernel_rfl) (by kernel_rfl) (fun _ _ _ h=>h) (Or.inl ⟨by rfl,?_⟩) d ?_
     rotate_left
     · (intro W y;obtain⟨s0,s1⟩:=y;go_simp<;>with_reducible rfl)
     simp only[Act.put,List.setIfInBounds_toArray,List.set_cons_zero,List.set_cons_succ];refine wpAnyH_take (i:=6) (oi:=⟨some 109,Op.load 9 (Operand.tmp 108),9,_,_,none⟩) (v:=?_) rfl (by kernel_rfl) (by kernel_rfl) (by kernel_rfl) (fun _ _ _ h=>h) (Or.inl ⟨by rfl,?_⟩) d ?_
     rotate_left
     · (intro W y;obtain⟨s0,s1⟩:=y;go_simp<;>with_reducible rfl)
     simp only[Act.put,List.setIfInBounds_toArray,List.set_cons_zero,List.set_cons_succ];refine wpAnyH_ready (rs:=[7]) (by kernel_rfl) (by simp) ?_
     refine AllReadyH.cons (o:=⟨some 110,Op.call ⟨Callee.value (Operand.func 210),#[Operand.tmp 107,Operand.tmp 109],#[9,9]⟩,4,_,_,none⟩) rfl (fun K hK=>?_) AllReadyH.nil
     go_simp
     refine(ee L[m].path p _ (HS.out _ (List.getElem_mem Z)) hp).mono ?_
     rintro e U ⟨rfl,A⟩;rw[C6.out];have k1:U.cell? ⟨b1,o1+m*4,none⟩=some (.string L[m].path):=(A.cell (p:=⟨b1,o1+m*4,none⟩) C8).trans d0;have k2:U.cell? ⟨w.heap.size,1,none⟩=some (.string p):=(A.cell (p:=⟨w.heap.size,1,none⟩) z).trans P;go_wp2_with fail;refine hK.out _ _ ⟨k1,k2⟩ (fun d=>?_)
     clear hK K;try simp only[Act.put,List.setIfInBounds_toArray,List.set_cons_zero,List.set_cons_succ]
     refine wpAnyH_take (i:=8) (oi:=⟨some 111,Op.move (Operand.tmp 110),4,_,_,none⟩) (v:=?_) rfl (by kernel_rfl) (by kernel_rfl) (by kernel_rfl) (fun _ _ _ h=>h) (Or.inl ⟨by rfl,?_⟩) d ?_
     rotate_left
     · (intro W y;obtain⟨s0,s1⟩:=y;go_simp<;>with_reducible rfl)
     simp only[Act.put,List.setIfInBounds_toArray,List.set_cons_zero,List.set_cons_succ];refine jG (g:=8) (dg:=111) (by kernel_rfl) (by kernel_rfl) (fun _ _ _ _ _ h=>h) d (fuel:=1) [(9,112),(10,113),(11,114),(12,115),(13,116),(14,117),(15,118),(16,119)] _ _ (by kernel_rfl) (by kernel_rfl) ?_
     simp only[i9,ja,Act.put,List.setIfInBounds_toArray,List.set_cons_zero,List.set_cons_succ];refine wpAnyH_take (i:=17) (oi:=⟨some 120,Op.pick (Operand.tmp 111) (Operand.tmp 119) (Operand.const (Value.bool false)),4,_,_,none⟩) (v:=?_) rfl (by kernel_rfl) (by kernel_rfl) (by kernel_rfl) (fun _ _ _ h=>h) (Or.inl ⟨by rfl,?_⟩) d ?_
     rotate_left
     · (intro W y;obtain⟨s0,s1⟩:=y;go_simp<;>with_reducible rfl)
     simp only[Act.put,List.setIfInBounds_toArray,List.set_cons_zero,List.set_cons_succ];refine wpAnyH_done (by kernel_rfl) ?_ _
     have G:Below w4.heap.size w4 U:=E.drew.trans (A.mono E.drew.size);go_wp2_with fail;go_roundw
     case rel=>exact⟨m+1,by omega,by simp,(fun j h1 h2=>by
      by_cases e:j=m
      · subst e;exact N.out
      · exact HP.out j h1 (by omega): ∀j (h:j<L.length),j<m+1→b9 p.data.toList b L[j]=false),G⟩
     case measure=>simp[intOf];omega
    |true=>
     have C6:=hid O;have HY:=hid (show b<(L[m]).ver→ ∀(k:Int) (q t:ByteArray),cO L ⟨k,p,q,t,b⟩=true from fun J k q t=>kA CQ Z O J);clear O;go_wp2_with fail
     go_region_held3 (fun W=>W.cell? ⟨b1,o1+m*4,none⟩=some (.string L[m].path)∧W.cell? ⟨w.heap.size,1,none⟩=some (.string p)∧W.cell? ⟨b1,o1+m*4+3,none⟩=some (.int .i64 L[m].ver)∧W.cell? ⟨w.heap.size,4,none⟩=some (.int .i64 b)) (go_keep) (first
      |(go_at_call 210;refine(ee L[m].path p _ (HS.out _ (List.getElem_mem Z)) hp).mono ?_;rintro e U ⟨rfl,A⟩;rw[C6.out];have k1:U.cell? ⟨b1,o1+m*4,none⟩=some (.string L[m].path):=(A.cell (p:=⟨b1,o1+m*4,none⟩) C8).trans d0;have k2:U.cell? ⟨w.heap.size,1,none⟩=some (.string p):=(A.cell (p:=⟨w.heap.size,1,none⟩) z).trans P;have k3:U.cell? ⟨b1,o1+m*4+3,none⟩=some (.int .i64 L[m].ver):=(A.cell (p:=⟨b1,o1+m*4+3,none⟩) C8).trans d3;have k4:U.cell? ⟨w.heap.size,4,none⟩=some (.int .i64 b):=(A.cell (p:=⟨w.heap.size,4,none⟩) z).trans T))
     by_cases J:b<(L[m]).ver
     · have N:=hid (HY.out J)
       have CK:Below w.heap.size w U:=f.drew.trans (A.mono f.drew.size);go_wp2_with fail;go_ret2;exact⟨_,by rw[bx,if_pos (by rw[Q.out];exact N.out _ _ _)];rfl,fun h=>by rw[bx,if_pos (by rw[Q.out];exact N.out _ _ _)]at h;exact absurd h (by decide),CK⟩
     · have N:=hid (kC (p:=p.data.toList) (b:=b) (e:=L[m]) J)
       have G:Below w4.heap.size w4 U:=E.drew.trans (A.mono E.drew.size);go_wp2_with fail;go_roundw
       case rel=>exact⟨m+1,by omega,by simp,(fun j h1 h2=>by
        by_cases e:j=m
        · subst e;exact N.out
        · exact HP.out j h1 (by omega): ∀j (h:j<L.length),j<m+1→b9 p.data.toList b L[j]=false),G⟩
       case measure=>simp[intOf];omega
  · have hN:cO L C=false:=by
     rw[Q.out];exact kw CR (fun j h h0=>HP.out j h (by omega))
    have HN:=hid hN;have CM: ¬m<L.length∨(m<L.length∧ ¬0≤b):=by omega
    clear hN CL HP hm;rcases CM with CM|⟨CX,CY⟩
    all_goals
     go_wp2_with fail;refine(lC L _ ⟨p,true,⟨#[]⟩,n⟩ _ (HV.out.below f) (by omega)).mono ?_
     rintro e w6 ⟨u,rfl,ho,CJ⟩;have HO:=hid (show w6.ownsRow wr.heap.size 108 4 u (eZ (Pp.newE C n) L).length (bw (eZ (Pp.newE C n) L))from by rw[Q.out];exact ho);have C4:Below w.heap.size w w6:=f.trans (CJ.mono f.size);clear ho CJ V P X Y T C5 E f z;rw[lB HR.out]at HO;have hM:=og (Pp.newE C n) (bI (Pp.newE C n) L);have hO:(bI (Pp.newE C n) L).length≤L.length:=List.length_filter_le _ _;rw[←HQ.out]at HO hM;obtain⟨M,C7⟩: ∃M,M=bN L C n:=⟨_,rfl⟩
     rw[←C7]at HO hM;have CN:=hid C7;clear C7;have C9:=hid (iw HO.out (by omega));obtain⟨a6,CT,rfl,D5,CU,_⟩:=C9.out
     by_cases D4:60<M.length
     · have CC:60<(M.length:Int):=by omega
       have HX:=hid (show bx L C n=2 from by rw[bx,if_neg (by rw[HN.out];decide),HE.out,if_pos (by omega)]);clear hM hO HO;go_wp2_with fail;go_ret2;exact⟨_,by rw[HX.out];rfl,fun h=>absurd (HX.out.symm.trans h) (by decide),C4⟩
     · have CC: ¬60<(M.length:Int):=by omega
       have HX:=hid (show bx L C n=0 from by rw[bx,if_neg (by rw[HN.out];decide),HE.out,if_neg (by omega)]);clear hM hO HO;go_wp2_with fail;go_ret2;exact⟨_,by rw[HX.out];rfl,fun _=>by rw[←CN.out];exact C9.out,C4⟩
def lN {H:Type} (c:ar):DataW H:= .agg [.lit (.int .i64 c.k),.lit (.string c.p.data.toList),.lit (.string c.q.data.toList),.lit (.string c.t.data.toList),.lit (.int .i64 c.b)]
theorem oh {H:Type} (c:ar):Rows.uptoBulk (lN (H:=H) c)=c.p.size+c.q.size+c.t.size+6:=by
 rw[lN,Rows.uptoBulk,Rows.uptoBulkAll,Rows.uptoBulkAll,Rows.uptoBulkAll,Rows.uptoBulkAll,Rows.uptoBulkAll,Rows.uptoBulkAll,Rows.uptoBulk,Rows.uptoBulk,Rows.uptoBulk,Rows.uptoBulk,Rows.uptoBulk,Lib.size_eq,Lib.size_eq,Lib.size_eq]
 · omega
 · intro b h;cases h
 · intro b h;cases h
theorem yI {H:Type} {enc:TypeId×Value→H} {W:World} {n i:Nat} {a:Addr} {x:DataW H} {pl:List MemPlace} {f:List Value} (ha:a.spot=none)
    (P:W.cells? 0 (a.add (i*prog.cellsOf 55)) (prog.cellsOf 55)=some f) (h2:DataW.trod enc prog W 0 (fun _=>true) true n 55 f=some (x,pl)):
    ∃c:ar,x=lN c∧a.spot=none∧eJ W a.block (a.off+i*5) c:=by
 rw[Tryz.cellsC]at P;obtain⟨_,o,j⟩:=World.cells?_some P
 obtain⟨y0,y1,y2,y3,y4,y,u,_,cI,t1,t2,t3,t4⟩:=uJ underlying55 h2
 obtain⟨J,K,M,N,O,rfl⟩:=pS o
 have A:DataW.trod enc prog W 0 (fun _=>true) true y 3 [J]=some y0:=by simpa[Tryz.cells3]using cI
 have E:DataW.trod enc prog W 0 (fun _=>true) true y 9 [K]=some y1:=by simpa[Tryz.cells9]using t1
 have F:DataW.trod enc prog W 0 (fun _=>true) true y 9 [M]=some y2:=by simpa[Tryz.cells9]using t2
 have G:DataW.trod enc prog W 0 (fun _=>true) true y 9 [N]=some y3:=by simpa[Tryz.cells9]using t3
 have I:DataW.trod enc prog W 0 (fun _=>true) true y 3 [O]=some y4:=by simpa[Tryz.cells3]using t4
 obtain⟨X,aP,g0,_⟩:=DataW.trod_int underlying3 A
 obtain⟨Y,ay,g1,_⟩:=DataW.trod_string underlying9 E
 obtain⟨Z,e2,g2,_⟩:=DataW.trod_string underlying9 F
 obtain⟨s3,e3,g3,_⟩:=DataW.trod_string underlying9 G
 obtain⟨s4,e4,g4,_⟩:=DataW.trod_int underlying3 I
 obtain rfl:J= .int .i64 X:=by simpa using aP
 obtain rfl:K= .string Y:=by simpa using ay
 obtain rfl:M= .string Z:=by simpa using e2
 obtain rfl:N= .string s3:=by simpa using e3
 obtain rfl:O= .int .i64 s4:=by simpa using e4
 subst g0;subst g1;subst g2;subst g3;subst g4;simp only[Prod.mk.injEq]at u;have Q:=j 0 (by omega);have S:=j 1 (by omega);have T:=j 2 (by omega);have U:=j 3 (by omega);have V:=j 4 (by omega);obtain⟨ab,ao,z⟩:=a
 obtain rfl:z=none:=ha;refine⟨⟨X,Y,Z,s3,s4⟩,u.1,rfl,?_,?_,?_,?_,?_⟩
 · by_cases d:i=0
   · subst d;simpa[Addr.add]using Q
   · have e:i*5≠0:=by omega
     simpa[Addr.add,e]using Q
 · by_cases d:i=0
   · subst d;simpa[Addr.add]using S
   · have e:i*5≠0:=by omega
     simpa[Addr.add,e,Nat.add_assoc]using S
 · by_cases d:i=0
   · subst d;simpa[Addr.add]using T
   · have e:i*5≠0:=by omega
     simpa[Addr.add,e,Nat.add_assoc]using T
 · by_cases d:i=0
   · subst d;simpa[Addr.add]using U
   · have e:i*5≠0:=by omega
     simpa[Addr.add,e,Nat.add_assoc]using U
 · by_cases d:i=0
   · subst d;simpa[Addr.add]using V
   · have e:i*5≠0:=by omega
     simpa[Addr.add,e,Nat.add_assoc]using V
theorem rM {B:Nat} (hB:B≤1000000000) {H:Type} {enc:TypeId×Value→H} {W:World} {v:Value} {d:DataW H} {p:List MemPlace} {fuel:Nat} (X:DataW.trod enc prog W 0 (fun _=>true) true fuel 48 [v]=some (d,p)) (Y:Rows.uptoBulk d≤B):
    ∃cs:List ar,bk W v cs∧cs.length≤B∧iQ B cs:=by
 haveI:Inhabited ar:=⟨⟨0,⟨#[]⟩,⟨#[]⟩,⟨#[]⟩,0⟩⟩
 rcases Go.Deep.open_slice underlying48 X with⟨o,Q⟩|⟨a,len,u,m,n,D,Pl,o,hb,Z,hm,G,Q,A⟩
 · obtain rfl:v= .slice none 0 0:=by simpa using o
   exact⟨[],⟨none,0,rfl,Nat.le_refl _,by simp,fun i f=>absurd f (by simp)⟩,by simp,fun e K=>by cases K⟩
 obtain rfl:v= .slice (some a) len u:=by simpa using o
 have O:m=u:=G.trans (if_pos rfl);clear G;have z:=(Prod.mk.inj Q).1;clear Q;subst O
 have P:0<len→a.spot=none:=fun h=>by
  obtain⟨I,j,_⟩:=A 0 (by omega)
  rw[Tryz.cellsC]at j;obtain⟨_,F,V⟩:=World.cells?_some j
  obtain⟨T,c1,c2,c3,c4,rfl⟩:=pS F
  have k0:=V 0 (by omega);exact kh (v:=T) (by simpa[Addr.add]using k0)
 have y: ∀i,i<len→ ∃e:ar,D i=lN e∧a.spot=none∧eJ W a.block (a.off+i*5) e:=fun i f=>by
  obtain⟨I,j,J⟩:=A i (by omega)
  exact yI (P (by omega)) j J
 obtain⟨E,ae⟩:=Go.Deep.choose_lt y
 have U:Rows.uptoBulkAll ((List.range len).map D)≤B:=by
  rw[z,Rows.uptoBulk]at Y;omega
 refine⟨(List.range len).map E,⟨some a,_,by simp;rfl,by simpa using Z,?_,fun i f=>?_⟩,?_,fun e K=>?_⟩
 · have:=Bk.len (l:=(List.range len).map D) (fun d z=>by
    obtain⟨i,f,rfl⟩:=List.mem_map.1 z
    rw[(ae i (List.mem_range.1 f)).1,oh];omega)
   simp at this⊢
   omega
 · have M:i<len:=by simpa using f
   obtain⟨j,J,S⟩:=ae i M
   have N:a.block<W.heap.size:=by
    have k:=S.1;rcases Nat.lt_or_ge a.block W.heap.size with h|h
    · exact h
    · unfold World.cell? at k;rw[Array.getElem?_eq_none h]at k;cases k
   refine⟨a.block,a.off,?_,N,by simpa using S⟩
   rw[←J]
 · have:=Bk.len (l:=(List.range len).map D) (fun d z=>by
    obtain⟨i,f,rfl⟩:=List.mem_map.1 z
    rw[(ae i (List.mem_range.1 f)).1,oh];omega)
   simp at this⊢
   omega
 · obtain⟨i,f,rfl⟩:=List.mem_map.1 K
   have j:=Bk.mem (List.mem_map.2 ⟨i,f,rfl⟩:D i∈(List.range len).map D);rw[(ae i (List.mem_range.1 f)).1,oh]at j;refine⟨?_,?_,?_⟩<;>omega
end Go.Proofs.YtgamnckfmmbjdaaGreatDoor
