/- An operation of a region, taken first. -/
import Derived.WalkKit
import Derived.Deep.RegionHeld3
import Derived.Lib.IndexMore
import Derived.Lib.LastIndexLaws
import Derived.Lib.CutLaws
import Derived.Lib.LastIndexByte
import Derived.Lib.TrimByte
import Derived.Lib.ItoaNum
import Derived.Lib.SmallJoins
import Derived.Lib.Bytealg
import Derived.Test.YtdlpjlfefjipkaaGreatShelf
import Derived.WalkSpells
import Derived.WalkLawsBesides
import Derived.Handy
import Derived.Deep.QuietTactic
import Derived.BigQuiet
import Derived.RegionTactic
import Derived.Test.YtdlpjlfefjipkaaGreatProg
set_option linter.unusedSimpArgs false
set_option linter.unusedVariables false
namespace Go.Proofs.YtdlpjlfefjipkaaGreat
open Go.RowKit Go.Proofs.Tryz
set_option maxHeartbeats 800000
instance:Coe Int Value:=⟨fun n=> .int .i64 n⟩
instance:Coe Nat Value:=⟨fun n=> .int .i64 n⟩
instance:Coe ByteArray Value:=⟨fun n=> .string n⟩
instance:Coe Bool Value:=⟨fun n=> .bool n⟩
inductive CoZ|cozero
inductive CoN|conil
inductive CoU|coup
inductive CoV|coan
inductive CoH|cohb
def ah:CoZ:=.cozero
def al:CoN:=.conil
def aJ:CoU:=.coup
def bC:CoV:=.coan
def cy:CoH:=.cohb
instance:Coe CoZ Value:=⟨fun _=> .int .i64 0⟩
instance:Coe CoN Value:=⟨fun _=> .slice none 0 0⟩
instance:Coe CoU (List Value):=⟨fun _=>[.slice none 0 0,.int .i64 0,.int .i64 0,.int .i64 0]⟩
instance:Coe CoV (List Value):=⟨fun _=>[.int .i64 0,.int .i64 0,.bool false,.slice none 0 0,.slice none 0 0,.int .i64 0,.bool false]⟩
instance:Coe CoH (List Value):=⟨fun _=>[.slice none 0 0,.slice none 0 0,.slice none 0 0,.int .i64 0,.int .i64 0,.int .i64 0,.int .i64 0]⟩
instance:Coe CoU (Array Value):=⟨fun _=>#[.slice none 0 0,.int .i64 0,.int .i64 0,.int .i64 0]⟩
instance:Coe CoV (Array Value):=⟨fun _=>#[.int .i64 0,.int .i64 0,.bool false,.slice none 0 0,.slice none 0 0,.int .i64 0,.bool false]⟩
instance:Coe CoH (Array Value):=⟨fun _=>#[.slice none 0 0,.slice none 0 0,.slice none 0 0,.int .i64 0,.int .i64 0,.int .i64 0,.int .i64 0]⟩
theorem aw {n:Nat} {w:World}:Below n w w:=Below.refl _ _
theorem ak {w:World} {o:Obj}:Below w.heap.size w (w.alloc o):=(Below.refl _ _).alloc (Nat.le_refl _) _
theorem ax {n:Nat}:n≤n:=Nat.le_refl _
theorem pu:(∀(a:Act) (d:Option Tmp) (v:Value),a.put d v=match d with|some i=>{a with tmps:=a.tmps.setIfInBounds i v}|none=>a)∧(∀(c:Type) (l:List c) (i:Nat) (x:c),l.toArray.setIfInBounds i x=(l.set i x).toArray)∧(∀(c:Type) (a b:c) (l:List c),(b::l).set 0 a=a::l)∧(∀(c:Type) (n:Nat) (a b:c) (l:List c),(b::l).set (n+1) a=b::l.set n a):=
 ⟨fun _ _ _=>rfl,fun _ _ _ _=>List.setIfInBounds_toArray ..,fun _ _ _ _=>rfl,fun _ _ _ _ _=>rfl⟩
theorem tk {P:Program} {g:Region.Mode} {f:Array Oper} {Q:Exit→Act→World→Prop} {S:World→Prop} (i:Nat) (oi:Oper) {v:Value} {fuel:Nat} {d:Array Bool} {a:Act} {w:World} (s:S w)
    (h:wpAnyH P g f Q S fuel (d.setIfInBounds i true) (a.put oi.dst v) w)
    (x:f[i]?=some oi:=by rfl) (A:Region.noSelect f=true:=by kernel_rfl) (u:Region.free g f d i=true:=by kernel_rfl) (z:(Region.ready g f d).contains i=true:=by kernel_rfl)
    (o: ∀c a w,Q (.panic c) (a.put oi.dst v) w→Q (.panic c) a w:=by exact fun _ _ _ h=>h) (B:YieldsIf P f S oi v a:=by exact Or.inl ⟨by rfl,by intro W j;(try dsimp only at j);go_simp<;>with_reducible rfl⟩):wpAnyH P g f Q S (fuel+1) d a w:=
 wpAnyH_take x A u z o B s h
structure Tg (n:Nat) (p:Prop):Prop where
 out:p
def dD (c:UInt8):Bool:=(97≤c && c≤122)||(65≤c && c≤90)||(48≤c && c≤57)||c==45||c==95||c==46||c==40||c==41||c==32
def aA (l:List UInt8):Bool:=l.all dD && decide (1≤l.length) && decide (l.length≤20) && (l.head? !=some 32) && (l.getLast? !=some 32) && l !=[46] && l !=[46,46]
def az:List UInt8→List (List UInt8)
 |[]=>[[]]
 |c::r=>if c=47 then[]::az r else match az r with
  |[]=>[[c]]
  |h::t=>(c::h)::t
def bv (l:List UInt8):Bool:=decide (6<(az l).length)||decide (80<l.length)
def aD (l:List UInt8):Int:=if(az l).all aA=true then(if bv l=true then 2 else 0)else 1
def cr:List (List UInt8)→List UInt8
 |[]=>[]
 |[a]=>a
 |a::b::r=>a++47::cr (b::r)
theorem jB (l:List UInt8):az l≠[]:=by
 cases l with
 |nil=>simp[az]
 | cons c r => rw [az]; split; · simp
               split<;>simp
theorem jC: ∀(a:List UInt8),47∉a→az a=[a]
 |[],_=>rfl
 |c::r,h=>by
  have d:c≠47:=fun e=>h (by simp[e])
  have f:47∉r:=fun e=>h (by simp[e])
  rw[az,if_neg d,jC r f]
theorem ox: ∀(a b:List UInt8),47∉a→az (a++47::b)=a::az b
 |[],b,_=>by simp[az]
 |c::r,b,h=>by
  have d:c≠47:=fun e=>h (by simp[e])
  have f:47∉r:=fun e=>h (by simp[e])
  rw[List.cons_append,az,if_neg d,ox r b f]
theorem jX: ∀(l:List UInt8),cr (az l)=l
 |[]=>rfl
 |c::r=>by
  have ih:=jX r;have a:=jB r;rw[az];split
  · rename_i h
    subst h;cases e:az r with
    |nil=>exact absurd e a
    |cons x t=>rw[e]at ih;simp[cr,ih]
  · cases e:az r with
    |nil=>exact absurd e a
    |cons x t=>
     rw[e]at ih;cases t with
     |nil=>simp[cr]at ih⊢;exact ih
     |cons y u=>simp[cr]at ih⊢;exact ih
theorem i6: ∀(l:List UInt8),(az l).length≤l.length+1
 |[]=>by simp[az]
 |c::r=>by
  have ih:=i6 r;rw[az];split
  · simp;omega
  · cases e:az r with
    |nil=>simp
    |cons x t=>rw[e]at ih;simp at ih⊢;omega
theorem rj (l:List UInt8) (c:UInt8):(Lib.indexByte l c= -1∧c∉l)∨ ∃i:Nat,Lib.indexByte l c=i∧i<l.length∧c∉l.take i∧l=l.take i++c::l.drop (i+1):=by
 induction l with
 |nil=>left;simp[Lib.indexByte]
 |cons b r ih=>
  by_cases h:b=c
  · right
    subst h;exact⟨0,by simp[Lib.indexByte],by simp,by simp,by simp⟩
  · rcases ih with⟨e,a⟩|⟨i,e,g,a,f⟩
    · left
      refine⟨?_,by simp[a,Ne.symm h]⟩
      simp[Lib.indexByte,e,h]
    · right
      refine⟨i+1,?_,by simp;omega,by simp[a,Ne.symm h],by simp[←f]⟩
      have d: ¬((i:Int)= -1):=by omega
      simp[Lib.indexByte,e,d,h]
theorem wX (a b:List UInt8) (c:UInt8) (h:c∉a):Lib.indexByte (a++c::b) c=a.length:=by
 induction a with
 |nil=>simp[Lib.indexByte]
 |cons x r ih=>
  have d: ¬x=c:=fun e=>h (by simp[e])
  have f:c∉r:=fun e=>h (by simp[e])
  have g: ¬((r.length:Int)= -1):=by omega
  simp[Lib.indexByte,d,ih f,g]
theorem wY (l:List UInt8) (c:UInt8) (h:c∉l):Lib.indexByte l c= -1:=by
 rcases rj l c with⟨e,_⟩|⟨i,_,d,_,a⟩
 · exact e
 · exact absurd (by rw[a];simp) h
theorem oy (l:List UInt8) (c:UInt8) (h:c∈l): ∃a b,c∉a∧l=a++c::b:=by
 rcases rj l c with⟨_,d⟩|⟨i,e,g,d,f⟩
 · exact absurd h d
 · exact⟨_,_,d,f⟩
theorem gE {s:ByteArray} {l:List UInt8} (h:s.data.toList=l):s=⟨l.toArray⟩:=by
 cases s;subst h;simp
theorem jY (c:UInt8):dD c=true↔(97≤c.toNat∧c.toNat≤122)∨(65≤c.toNat∧c.toNat≤90)∨(48≤c.toNat∧c.toNat≤57)∨c.toNat=45∨c.toNat=95∨c.toNat=46∨c.toNat=40∨c.toNat=41∨c.toNat=32:=by
 simp[dD,UInt8.le_iff_toNat_le,←UInt8.toNat_inj,or_assoc]
theorem wZ (c:UInt8):decide (0≤Lib.indexByte [45,95,46,40,41,32] c)=true↔c.toNat=45∨c.toNat=95∨c.toNat=46∨c.toNat=40∨c.toNat=41∨c.toNat=32:=by
 simp only[Lib.indexByte,beq_iff_eq,←UInt8.toNat_inj,decide_eq_true_eq];simp
 omega
theorem xd (c:UInt8) (h:(97≤c.toNat∧c.toNat≤122)∨(65≤c.toNat∧c.toNat≤90)∨(48≤c.toNat∧c.toNat≤57)):true=dD c:=
 ((jY c).2 (by omega)).symm
theorem xe (c:UInt8) (a: ¬(97≤c.toNat∧c.toNat≤122)) (d: ¬(65≤c.toNat∧c.toNat≤90)) (f: ¬(48≤c.toNat∧c.toNat≤57)):decide (0≤Lib.indexByte [45,95,46,40,41,32] c)=dD c:=by
 rw[Bool.eq_iff_iff,wZ,jY];omega
theorem i7 (l:List UInt8):(⟨l.toArray⟩:ByteArray).size=l.length:=by rw[Lib.size_eq]
theorem br {a b:Bool} (h:a=b):Ending.returned (.bool a)= .returned (.bool b):=by rw[h]
theorem aB {k:IntKind} {a b:Int} (h:a=b):Ending.returned (.int k a)= .returned (.int k b):=by rw[h]
theorem jD (s:ByteArray) (h:s.size<1∨20<s.size∨s.toList=[46]∨s.toList=[46,46]):false=aA s.data.toList:=by
 rw[ByteArray.toList_eq]at h;have d:s.size=s.data.toList.length:=Lib.size_eq s;rw[d]at h;generalize s.data.toList=l at h
 have: ¬(aA l=true):=by
  simp only[aA,Bool.and_eq_true,decide_eq_true_eq,bne_iff_ne];rintro ⟨⟨⟨⟨⟨⟨_,f⟩,g⟩,_⟩,_⟩,a⟩,c⟩;rcases h with h|h|h|h
  · omega
  · omega
  · exact a h
  · exact c h
 simpa using this
theorem rk (s:ByteArray) (a:0<s.size) (h:(s[0].toNat:Int)=32):false=aA s.data.toList:=by
 have c:0<s.data.toList.length:=by simpa using a
 have e:s.data.toList.head?=some s[0]:=by rw[List.head?_eq_getElem?,List.getElem?_eq_getElem c,byte_at' s 0 a c]
 have e2:s[0]=32:=UInt8.toNat_inj.1 (by simpa using Int.ofNat.inj h)
 have: ¬(aA s.data.toList=true):=by
  simp only[aA,Bool.and_eq_true,decide_eq_true_eq,bne_iff_ne,e,e2];rintro ⟨⟨⟨⟨⟨⟨_,_⟩,_⟩,d⟩,_⟩,_⟩,_⟩;exact d rfl
 simpa using this
theorem rl (s:ByteArray) (a:s.size-1<s.size) (h:(s[s.size-1].toNat:Int)=32):false=aA s.data.toList:=by
 have c:s.size-1<s.data.toList.length:=by simpa using a
 have e:s.data.toList.getLast?=some s[s.size-1]:=by rw[List.getLast?_eq_getElem?,←Lib.size_eq,List.getElem?_eq_getElem c,byte_at' s _ a c]
 have e2:s[s.size-1]=32:=UInt8.toNat_inj.1 (by simpa using Int.ofNat.inj h)
 have: ¬(aA s.data.toList=true):=by
  simp only[aA,Bool.and_eq_true,decide_eq_true_eq,bne_iff_ne,e,e2];rintro ⟨⟨⟨⟨⟨⟨_,_⟩,_⟩,_⟩,d⟩,_⟩,_⟩;exact d rfl
 simpa using this
theorem rm (s:ByteArray) (k:Nat) (a:k<s.size) (h:dD s[k]=false):false=aA s.data.toList:=by
 have c:k<s.data.toList.length:=by simpa using a
 have f:s[k]∈s.data.toList:=by rw[←byte_at' s k a c];exact List.getElem_mem c
 have: ¬(aA s.data.toList=true):=by
  simp only[aA,Bool.and_eq_true,decide_eq_true_eq,bne_iff_ne,List.all_eq_true];rintro ⟨⟨⟨⟨⟨⟨d,_⟩,_⟩,_⟩,_⟩,_⟩,_⟩;rw[d _ f]at h;cases h
 simpa using this
theorem rn (s:ByteArray) (u:1≤s.size) (v:s.size≤20) (f:s.toList≠[46]) (g:s.toList≠[46,46]) (d:0<s.size) (x:(s[0].toNat:Int)≠32)
    (i:s.size-1<s.size) (z:(s[s.size-1].toNat:Int)≠32) (A:s.data.toList.all dD=true):true=aA s.data.toList:=by
 rw[ByteArray.toList_eq]at f g;have j:0<s.data.toList.length:=by simpa using d
 have e:s.data.toList.head?=some s[0]:=by rw[List.head?_eq_getElem?,List.getElem?_eq_getElem j,byte_at' s 0 d j]
 have c:s.size-1<s.data.toList.length:=by simpa using i
 have o:s.data.toList.getLast?=some s[s.size-1]:=by rw[List.getLast?_eq_getElem?,←Lib.size_eq,List.getElem?_eq_getElem c,byte_at' s _ i c]
 symm
 simp only[aA,Bool.and_eq_true,decide_eq_true_eq,bne_iff_ne,e,o,←Lib.size_eq];refine⟨⟨⟨⟨⟨⟨A,u⟩,v⟩,?_⟩,?_⟩,f⟩,g⟩
 · intro a;rw[Option.some.injEq]at a;exact x (by rw[a];rfl)
 · intro a;rw[Option.some.injEq]at a;exact z (by rw[a];rfl)
theorem xf (s:ByteArray) (k:Nat) (h:k<s.size):s.data.toList.take (k+1)=s.data.toList.take k++[s[k]]:=by
 rw[List.take_succ_eq_append_getElem (by simpa using h)];rfl
theorem rp (s:ByteArray) (k:Nat) (h:k<s.size) (a:(s.data.toList.take k).all dD=true) (c:dD s[k]=true):(s.data.toList.take (k+1)).all dD=true:=by
 rw[xf s k h,List.all_append,a];simp[c]
theorem rq (s:ByteArray) {dn:List (List UInt8)} (a:az s.data.toList=dn) (c:dn.all aA=true) (d:(6:Int)<dn.length∨(80:Int)<s.size):2=aD s.data.toList:=by
 have:bv s.data.toList=true:=by
  simp only[bv,a,Bool.or_eq_true,decide_eq_true_eq,←Lib.size_eq];omega
 simp[aD,a,c,this]
theorem xg (s:ByteArray) {dn:List (List UInt8)} (a:az s.data.toList=dn) (c:dn.all aA=true) (d:(dn.length:Int)≤6) (f:(s.size:Int)≤80):0=aD s.data.toList:=by
 have:bv s.data.toList=false:=by
  simp only[bv,a,Bool.or_eq_false_iff,decide_eq_false_iff_not,←Lib.size_eq];omega
 simp[aD,a,c,this]
theorem oz (s:ByteArray) {dn r:List (List UInt8)} {n:List UInt8} (a:az s.data.toList=dn++n::r) (h:aA n=false):1=aD s.data.toList:=by
 simp[aD,a,h]
theorem oA {dn:List (List UInt8)} {n:List UInt8} (h:dn.all aA=true) (a:aA n=true):(dn++[n]).all aA=true:=by
 rw[List.all_append,h];simp[a]
theorem xh (s t:ByteArray) {dn:List (List UInt8)} (h:az s.data.toList=dn++az t.data.toList):dn.length+1≤s.size+1:=by
 have a:=i6 s.data.toList;have c:(az t.data.toList).length≠0:=fun e=>jB _ (List.length_eq_zero_iff.1 e)
 rw[h,List.length_append,←Lib.size_eq]at a;omega
theorem lG (a b:List UInt8):az (a++47::b)=az a++az b:=by
 induction a with
 |nil=>simp[az]
 |cons c r ih=>
  rw[List.cons_append,az,az,ih];split
  · simp
  · cases e:az r with
    |nil=>exact absurd e (jB r)
    |cons x t=>simp
def aI (l:List UInt8):List UInt8:=cr (az l).dropLast
def Pp.lst (l:List UInt8):List UInt8:=(az l).getLastD []
theorem oB {l:List UInt8} (h:47∉l):aI l=[]:=by simp[aI,jC l h,cr]
theorem xi {l:List UInt8} (h:47∉l):Pp.lst l=l:=by simp[Pp.lst,jC l h]
theorem fE (a:List UInt8) {b:List UInt8} (h:47∉b):aI (a++47::b)=a:=by
 rw[aI,lG,jC b h,List.dropLast_concat,jX]
theorem xj (a:List UInt8) {b:List UInt8} (h:47∉b):Pp.lst (a++47::b)=b:=by
 rw[Pp.lst,lG,jC b h];simp
theorem rt (s:ByteArray) (k:Nat) (h:k<s.data.toList.length):s.data[k]! =s.data.toList[k]:=by
 have a:k<s.data.size:=by simpa using h
 rw[getElem!_pos s.data k a,Array.getElem_toList]
theorem xk (s:ByteArray) (c:UInt8):(Lib.lastIndexByte s (c.toNat:Int)= -1∧c∉s.data.toList)∨
    ∃a b,Lib.lastIndexByte s (c.toNat:Int)=(a.length:Int)∧c∉b∧s.data.toList=a++c::b:=by
 have f: ∀j (d:j<s.data.toList.length),((s.data[j]!).toNat:Int)≠c.toNat→s.data.toList[j]≠c:=by
  intro j d h e;rw[rt s j d,e]at h;exact h rfl
 rcases Lib.lastIndexByte_spec s c.toNat with⟨e,v⟩|⟨i,o,e,x,v⟩
 · left
   refine⟨e,fun u=>?_⟩
   obtain⟨j,d,g⟩:=List.getElem_of_mem u
   exact f j d (v j (by rw[Lib.size_eq];exact d)) g
 · right
   rw[Lib.size_eq]at o
   have z:s.data.toList[i]=c:=by
    rw[rt s i o]at x;exact UInt8.toNat_inj.1 (Int.ofNat.inj x)
   refine⟨s.data.toList.take i,s.data.toList.drop (i+1),by rw[e,List.length_take];omega,fun u=>?_,?_⟩
   · obtain⟨j,d,g⟩:=List.getElem_of_mem u
     rw[List.length_drop]at d;rw[List.getElem_drop]at g;exact f (i+1+j) (by omega) (v (i+1+j) (by omega) (by rw[Lib.size_eq];omega)) g
   · conv=>lhs;rw[←List.take_append_drop i s.data.toList,List.drop_eq_getElem_cons o,z]
def jE (p n:List UInt8):List UInt8:=if p=[]then n else p++47::n
def bZ:List (List UInt8)→Int
 |[]=>0
 |a::r=>if aD a=0 then bZ r else aD a
def kQ (e:Int) (x:List UInt8):List UInt8:=if e=0 then x else[]
theorem fF {e:Int} (h:e=0) (x:List UInt8):kQ e x=x:=if_pos h
theorem lH {e:Int} (h: ¬e=0) (x:List UInt8):kQ e x=[]:=if_neg h
theorem ru (l:List UInt8):(aI l).length≤l.length:=by
 by_cases h:47∈l.reverse
 · obtain⟨a,b,d,c⟩:=oy _ _ h
   have e:l=b.reverse++47::a.reverse:=by
    have:=congrArg List.reverse c
    simpa using this
   rw[e,fE _ (by simpa using d)];simp
 · rw[oB (by simpa using h)];simp
theorem rv (d:List (List UInt8)) (x:List UInt8) (h:d≠[]):cr (d++[x])=cr d++47::x:=by
 induction d with
 |nil=>exact absurd rfl h
 |cons a r ih=>
  cases r with
  |nil=>simp[cr]
  |cons b t=>
   have:=ih (by simp)
   simp only[List.cons_append,cr]at this⊢;rw[this];simp
theorem rx (d e:List (List UInt8)) (c:d≠[]) (f:e≠[]):cr (d++e)=cr d++47::cr e:=by
 induction d with
 |nil=>exact absurd rfl c
 |cons a r ih=>
  cases r with
  |nil=>
   cases e with
   |nil=>exact absurd rfl f
   |cons b t=>simp[cr]
  |cons b t=>
   have:=ih (by simp)
   simp only[List.cons_append,cr]at this⊢;rw[this];simp
theorem oC (L:List (List UInt8)) (k:Nat):(cr (L.take k)).length≤(cr L).length:=by
 by_cases a:L.take k=[]
 · rw[a];simp[cr]
 by_cases c:L.drop k=[]
 · have:L.take k=L:=by
    have:=List.take_append_drop k L
    rw[c,List.append_nil]at this;exact this
   rw[this];exact ax
 · conv=>rhs;rw[←List.take_append_drop k L,rx _ _ a c]
   rw[List.length_append];omega
theorem xl (L:List (List UInt8)) (k:Nat) (h:k<L.length) (a:0<k):(⟨(cr (L.take k)).toArray⟩:ByteArray)++⟨#[47]⟩++⟨(L[k]).toArray⟩=⟨(cr (L.take (k+1))).toArray⟩:=by
 apply gE
 rw[Joins.data_append,Joins.data_append,List.take_succ_eq_append_getElem h,rv _ _ (by intro e;have:=List.length_take_of_le (show k≤L.length by omega);rw[e]at this;simp at this;omega)];simp
theorem xm (L:List (List UInt8)) (h:0<L.length):(⟨#[]⟩:ByteArray)++⟨(L[0]).toArray⟩=⟨(cr (L.take 1)).toArray⟩:=by
 apply gE
 rw[Joins.data_append];cases L with
 |nil=>simp at h
 |cons a r=>simp[cr]
theorem xn (L:List (List UInt8)) (k:Nat) (h:k<L.length):(L[k]).length≤(cr L).length:=by
 have a:=oC L (k+1);rw[List.take_succ_eq_append_getElem h]at a;by_cases e:L.take k=[]
 · rw[e]at a;simpa[cr]using a
 · rw[rv _ _ e]at a;simp at a;omega
theorem xo {a b:List UInt8} (h:az a=az b):a=b:=by rw[←jX a,←jX b,h]
theorem oD {l:List UInt8} (h:aD l=0):(az l).all aA=true:=by
 unfold aD at h;split at h
 · assumption
 · simp at h
theorem oE {l:List UInt8} (h:(az l).all aA=true):aD l=if bv l=true then 2 else 0:=by
 rw[aD,if_pos h]
theorem xp {l:List UInt8} (h:aD l=0):bv l=false:=by
 rw[oE (oD h)]at h;cases e:bv l with
 |false=>rfl
 |true=>rw[e]at h;simp at h
theorem xq {a b:List (List UInt8)} (h:a.all aA=true) (c:b.all aA=true):(a++b).all aA=true:=by
 rw[List.all_append,h,c];rfl
def a8 (p q:List UInt8):Bool:=(az q).isPrefixOf (az p)
theorem eK (p q:List UInt8):a8 p q=true↔p=q∨ ∃r,p=q++47::r:=by
 unfold a8;rw[List.isPrefixOf_iff_prefix];constructor
 · rintro ⟨t,a⟩
   by_cases e:t=[]
   · left
     rw[e,List.append_nil]at a;exact(xo a).symm
   · right
     refine⟨cr t,?_⟩
     rw[←jX p,←a,rx _ _ (jB q) e,jX]
 · rintro (h|⟨r,h⟩)
   · rw[h];exact List.prefix_refl _
   · rw[h,lG];exact List.prefix_append _ _
theorem xr (p q:List UInt8):(p==q||Lib.hasPrefix p (q++[47]))=a8 p q:=by
 rw[Bool.eq_iff_iff,eK,Bool.or_eq_true,beq_iff_eq,Lib.hasPrefix,List.isPrefixOf_iff_prefix];constructor
 · rintro (h|⟨t,h⟩)
   · exact Or.inl h
   · exact Or.inr ⟨t,by rw[←h];simp⟩
 · rintro (h|⟨t,h⟩)
   · exact Or.inl h
   · exact Or.inr ⟨t,by rw[h];simp⟩
def bV (p f t:List UInt8):List UInt8:=t++p.drop f.length
theorem ry {p f:List UInt8} (t:List UInt8) (h:a8 p f=true):az (bV p f t)=az t++(az p).drop (az f).length:=by
 rcases(eK p f).1 h with e|⟨r,e⟩
 · subst e;simp[bV]
 · have:p.drop f.length=47::r:=by rw[e];simp
   rw[bV,this,lG,e,lG];simp
theorem xt {p f:List UInt8} (t:List UInt8) (h:a8 p f=true):cr (az t++(az p).drop (az f).length)=bV p f t:=by
 rw[←ry t h,jX]
def gX (p f t:List UInt8):Int:=if bZ [p,f,t]=0 then(if a8 p f=true then aD (bV p f t)else 5)else bZ [p,f,t]
theorem oF {a:List UInt8} {r:List (List UInt8)} (h:bZ (a::r)=0):aD a=0∧bZ r=0:=by
 unfold bZ at h;split at h
 · rename_i e;exact⟨e,h⟩
 · rename_i e;exact absurd h e
theorem rz {p f t:List UInt8} (h:bZ [p,f,t]=0) (d:a8 p f=true):aD (bV p f t)=if bv (bV p f t)=true then 2 else 0:=by
 obtain⟨a,h⟩:=oF h
 obtain⟨i,h⟩:=oF h
 obtain⟨c,_⟩:=oF h
 apply oE
 rw[ry t d];refine xq (oD c) ?_
 have:=oD a
 rw[List.all_eq_true]at this⊢;exact fun x g=>this x (List.mem_of_mem_drop g)
structure En where
 path:ByteArray
 folder:Bool
 text:ByteArray
 ver:Int
def dJ (w:World) (b o:Nat) (e:En):Prop:=w.cell? ⟨b,o,none⟩=some (.string e.path)∧w.cell? ⟨b,o+1,none⟩=some (.bool e.folder)∧w.cell? ⟨b,o+2,none⟩=some (.string e.text)∧w.cell? ⟨b,o+3,none⟩=some (.int .i64 e.ver)
def aF (w:World) (v:Value) (L:List En):Prop:= ∃a cap,v= .slice a L.length cap∧L.length≤cap∧L.length≤1000000000000000∧ ∀i (h:i<L.length),∃b o,a=some ⟨b,o,none⟩∧b<w.heap.size∧dJ w b (o+i*4) L[i]
theorem dJ.below {w w':World} {b o:Nat} {e:En} (h:dJ w b o e) (a:b<w.heap.size) (c:Below w.heap.size w w'):dJ w' b o e:=
 ⟨(c.cell (p:=⟨b,o,none⟩) a).trans h.1,(c.cell (p:=⟨b,o+1,none⟩) a).trans h.2.1,(c.cell (p:=⟨b,o+2,none⟩) a).trans h.2.2.1,(c.cell (p:=⟨b,o+3,none⟩) a).trans h.2.2.2⟩
theorem aF.below {w w':World} {v:Value} {L:List En} (h:aF w v L) (f:Below w.heap.size w w'):aF w' v L:=by
 obtain⟨a,c,A,g,j,s⟩:=h
 refine⟨a,c,A,g,j,fun i z=>?_⟩
 obtain⟨b,o,u,d,x⟩:=s i z
 exact⟨b,o,u,Nat.lt_of_lt_of_le d f.size,x.below d f⟩
theorem dK {w f:World} {a b c d:Value} {T:TypeId} (h:Below (w.alloc (.cells #[a,b,c,d] T)).heap.size (w.alloc (.cells #[a,b,c,d] T)) f):
    f.cell? ⟨w.heap.size,0,none⟩=some a∧f.cell? ⟨w.heap.size,1,none⟩=some b∧f.cell? ⟨w.heap.size,2,none⟩=some c∧f.cell? ⟨w.heap.size,3,none⟩=some d∧Below w.heap.size w f∧w.heap.size<f.heap.size:=by
 have g:w.heap.size<(w.alloc (.cells #[a,b,c,d] T)).heap.size:=by simp
 refine⟨?_,?_,?_,?_, ak.trans (h.mono (Nat.le_of_lt g)),Nat.lt_of_lt_of_le g h.size⟩
 · exact(h.cell (p:=⟨w.heap.size,0,none⟩) g).trans (by simp)
 · exact(h.cell (p:=⟨w.heap.size,1,none⟩) g).trans (by simp)
 · exact(h.cell (p:=⟨w.heap.size,2,none⟩) g).trans (by simp)
 · exact(h.cell (p:=⟨w.heap.size,3,none⟩) g).trans (by simp)
theorem gF {w f:World} {a b c d:Value} {T:TypeId} (h:Below (w.alloc (.cells #[a,b,c,d] T)).heap.size (w.alloc (.cells #[a,b,c,d] T)) f) (i:Nat):f.frozen? ⟨w.heap.size,i,none⟩=false:=
 (h.frozen (p:=⟨w.heap.size,i,none⟩) (by simp)).trans (World.frozen?_alloc_at _ _ _ _ rfl)
theorem xu {w c:World} {a:Value} {T:TypeId} (h:Below (w.alloc (.cells #[a] T)).heap.size (w.alloc (.cells #[a] T)) c):
    c.cell? ⟨w.heap.size,0,none⟩=some a∧Below w.heap.size w c∧w.heap.size<c.heap.size:=by
 have d:w.heap.size<(w.alloc (.cells #[a] T)).heap.size:=by simp
 refine⟨?_, ak.trans (h.mono (Nat.le_of_lt d)),Nat.lt_of_lt_of_le d h.size⟩
 exact(h.cell (p:=⟨w.heap.size,0,none⟩) d).trans (by simp)
def bm (n:Int):Int:=if n<1∨1000000<n then 3 else 0
def bT (e:En):Int:=if aD e.path.data.toList=0 then(if e.folder=true∧ ¬e.text.data.toList=[]then 1 else if 300<e.text.size then 2 else bm e.ver)else aD e.path.data.toList
def cI:List En→Int
 |[]=>0
 |e::r=>if bT e=0 then cI r else bT e
def Pp.lt (a b:En):Bool:=Op.bytesLess a.path.toList b.path.toList
def dP:List En→Bool
 |[]=>true
 |[_]=>true
 |a::b::r=>Pp.lt a b && dP (b::r)
def aR (p:List UInt8) (e:En):Bool:=e.path.data.toList==p
def aO (L:List En) (p:List UInt8):Int:=if p=[]then 0 else match L.find? (aR p)with
 |none=>5
 |some e=>if e.folder=true then 0 else 4
def bE (L:List En) (e:En):Int:=aO L (aI e.path.data.toList)
def ex (L M:List En):Int:=if M.any (fun e=>bE L e==5)=true then 5 else if M.any (fun e=>bE L e==4)=true then 4 else 0
def bg (L:List En):Int:=if 60<L.length then 2 else if cI L=0 then(if dP L=true then ex L L else 4)else cI L
theorem oG (L:List En) (p:List UInt8):aO L p=0∨aO L p=4∨aO L p=5:=by
 unfold aO;split
 · simp
 · split
   · simp
   · split<;>simp
theorem gY {e:En} (h:bT e=0):aD e.path.data.toList=0:=by
 unfold bT at h;split at h
 · assumption
 · rename_i a;exact absurd h a
theorem rA {L:List En} (h:cI L=0): ∀e∈L,bT e=0:=by
 induction L with
 |nil=>intro e c;cases c
 |cons a r ih=>
  unfold cI at h;split at h
  · rename_i d
    intro e c;rcases List.mem_cons.1 c with rfl|c
    · exact d
    · exact ih h e c
  · rename_i d;exact absurd h d
theorem lI: ∀a:List UInt8,Lib.compareBytes a a=0
 |[]=>rfl
 |a::r=>by simp[Lib.compareBytes,lI r]
theorem jZ: ∀a b:List UInt8,Lib.compareBytes b a= -Lib.compareBytes a b
 |[],[]=>rfl
 |[],_::_=>rfl
 |_::_,[]=>rfl
 |a::r,b::s=>by
  rw[Lib.compareBytes,Lib.compareBytes];by_cases c:a<b
  · have d: ¬b<a:=fun h=>by rw[UInt8.lt_iff_toNat_lt]at h c;omega
    simp[c,d]
  · by_cases d:b<a
    · simp[c,d]
    · simp[c,d,jZ r s]
theorem i9: ∀a b:List UInt8,Lib.compareBytes a b=0→a=b
 |[],[],_=>rfl
 |[],_::_,h=>by simp[Lib.compareBytes]at h
 |_::_,[],h=>by simp[Lib.compareBytes]at h
 |a::r,b::s,h=>by
  rw[Lib.compareBytes]at h;by_cases c:a<b
  · simp[c]at h
  · by_cases d:b<a
    · simp[c,d]at h
    · simp only[c,d,if_false]at h
      have e:a=b:=UInt8.toNat_inj.1 (by rw[UInt8.lt_iff_toNat_lt]at c d;omega);rw[e,i9 r s h]
theorem lJ: ∀a b c:List UInt8,Lib.compareBytes a b<0→Lib.compareBytes b c<0→Lib.compareBytes a c<0
 |[],[],_,h,_=>by simp[Lib.compareBytes]at h
 |_,_::_,[],_,h=>by simp[Lib.compareBytes]at h
 |_::_,[],_,h,_=>by simp[Lib.compareBytes]at h
 |[],_::_,_::_,_,_=>by simp[Lib.compareBytes]
 |a::r,b::s,c::t,h1,h2=>by
  rw[Lib.compareBytes]at h1 h2⊢;simp only[UInt8.lt_iff_toNat_lt]at*;by_cases g:a.toNat<b.toNat
  · by_cases d:b.toNat<c.toNat
    · rw[if_pos (by omega)];omega
    · by_cases f:c.toNat<b.toNat
      · rw[if_neg d,if_pos f]at h2;omega
      · rw[if_pos (by omega)];omega
  · by_cases i:b.toNat<a.toNat
    · rw[if_neg g,if_pos i]at h1;omega
    · rw[if_neg g,if_neg i]at h1
      by_cases d:b.toNat<c.toNat
      · rw[if_pos (by omega)];omega
      · by_cases f:c.toNat<b.toNat
        · rw[if_neg d,if_pos f]at h2;omega
        · rw[if_neg d,if_neg f]at h2
          rw[if_neg (by omega),if_neg (by omega)];exact lJ r s t h1 h2
theorem kR: ∀a b:List UInt8,Op.bytesLess a b=decide (Lib.compareBytes a b<0)
 |[],[]=>by simp[Op.bytesLess,Lib.compareBytes]
 |[],_::_=>by simp[Op.bytesLess,Lib.compareBytes]
 |_::_,[]=>by simp[Op.bytesLess,Lib.compareBytes]
 |a::r,b::s=>by
  have ih:=kR r s;rw[Lib.compareBytes];by_cases c:a<b
  · simp[Op.bytesLess,c]
  · by_cases d:b<a
    · simp[Op.bytesLess,c,d];try (intro e;subst e;exact absurd d (by simp))
    · have e:a=b:=UInt8.toNat_inj.1 (by rw[UInt8.lt_iff_toNat_lt]at c d;omega)
      subst e;simp[Op.bytesLess,ih]
def Pp.cfE (x y:En):Int:=Lib.compareBytes x.path.data.toList y.path.data.toList
theorem gZ (x y:En):Pp.lt x y=decide (Pp.cfE x y<0):=by rw[Pp.lt,kR,Lib.toList_data,Lib.toList_data];rfl
theorem dU (x:En):Pp.lt x x=false:=by rw[gZ,Pp.cfE,lI];rfl
theorem fY (x y z:En) (a:Pp.lt x y=true) (c:Pp.lt y z=true):Pp.lt x z=true:=by
 rw[gZ]at*;simp only[decide_eq_true_eq]at*;exact lJ _ _ _ a c
theorem rB (x y z:En) (a:Pp.lt x y=false) (c:Pp.lt y z=false):Pp.lt x z=false:=by
 rw[gZ,decide_eq_false_iff_not]at a c⊢;unfold Pp.cfE at a c⊢;intro h;have f:=jZ x.path.data.toList y.path.data.toList;have g:=jZ y.path.data.toList z.path.data.toList;by_cases d:Lib.compareBytes x.path.data.toList y.path.data.toList=0
 · rw[i9 _ _ d]at h;exact c h
 · by_cases e2:Lib.compareBytes y.path.data.toList z.path.data.toList=0
   · rw[←i9 _ _ e2]at h;exact a h
   · have:=lJ _ _ _ (show Lib.compareBytes z.path.data.toList y.path.data.toList<0 by omega) (show Lib.compareBytes y.path.data.toList x.path.data.toList<0 by omega)
     have i:=jZ x.path.data.toList z.path.data.toList;omega
theorem kS {x y:En} (a:Pp.lt x y=false) (c:Pp.lt y x=false):x.path.data.toList=y.path.data.toList:=by
 rw[gZ,decide_eq_false_iff_not]at a c;unfold Pp.cfE at a c;have d:=jZ x.path.data.toList y.path.data.toList;exact i9 _ _ (by omega)
theorem oH: ∀{a b:List En},a.Perm b→a.Pairwise (fun x y=>Pp.lt x y=true)→b.Pairwise (fun x y=>Pp.lt x y=true)→a=b
 |[],b,h,_,_=>by rw[List.nil_perm]at h;exact h.symm
 |x::r,b,h,h1,h2=>by
  cases b with
  |nil=>exact absurd h.length_eq (by simp)
  |cons y s=>
   have e:x=y:=by
    have c:x∈y::s:=h.subset (List.mem_cons_self ..);have d:y∈x::r:=h.symm.subset (List.mem_cons_self ..);rcases List.mem_cons.1 c with e|c
    · exact e
    · rcases List.mem_cons.1 d with e|d
      · exact e.symm
      · have f:=(List.pairwise_cons.1 h1).1 y d
        have g:=(List.pairwise_cons.1 h2).1 x c;have:=fY x y x f g
        rw[dU]at this;cases this
   subst e;rw[oH (List.perm_cons x|>.1 h) (List.pairwise_cons.1 h1).2 (List.pairwise_cons.1 h2).2]
theorem oI: ∀(L:List En),dP L=true↔L.Pairwise (fun x y=>Pp.lt x y=true)
 |[]=>by simp[dP]
 |[_]=>by simp[dP]
 |a::b::r=>by
  rw[dP,Bool.and_eq_true,oI (b::r)];constructor
  · rintro ⟨d,f⟩
    refine List.pairwise_cons.2 ⟨fun x c=>?_,f⟩
    rcases List.mem_cons.1 c with rfl|c
    · exact d
    · exact fY a b x d ((List.pairwise_cons.1 f).1 x c)
  · intro h
    have h:=List.pairwise_cons.1 h;exact⟨h.1 b (by simp),h.2⟩
def b7 (x:En):List En→List En
 |[]=>[x]
 |y::r=>if Pp.lt y x=true then y::b7 x r else x::y::r
theorem jF (x:En): ∀L:List En,(b7 x L).Perm (x::L)
 |[]=>List.Perm.refl _
 |y::r=>by
  rw[b7];split
  · exact((jF x r).cons y).trans (List.Perm.swap x y r)
  · exact List.Perm.refl _
theorem mQ (x:En): ∀{L:List En},L.Pairwise (fun x y=>Pp.lt x y=true)→(∀y∈L,y.path.data.toList≠x.path.data.toList)→(b7 x L).Pairwise (fun x y=>Pp.lt x y=true)
 |[],_,_=>by simp[b7]
 |y::r,h,hne=>by
  rw[b7];split
  · rename_i d
    rw[List.pairwise_cons];refine⟨fun z a=>?_,mQ x (List.pairwise_cons.1 h).2 fun z a=>hne z (List.mem_cons_of_mem _ a)⟩
    rcases List.mem_cons.1 ((jF x r).subset a)with rfl|a
    · exact d
    · exact(List.pairwise_cons.1 h).1 z a
  · rename_i d
    have f:Pp.lt y x=false:=by simpa using d
    have c:Pp.lt x y=true:=by
     cases e:Pp.lt x y with
     |true=>rfl
     |false=>exact absurd (kS f e) (hne y (by simp))
    rw[List.pairwise_cons];refine⟨fun z a=>?_,h⟩
    rcases List.mem_cons.1 a with rfl|a
    · exact c
    · exact fY x y z c ((List.pairwise_cons.1 h).1 z a)
theorem xv {x:En} {L M:List En} (u:M.Perm (L++[x])) (s:M.Pairwise (fun a b=>Pp.lt b a=false)) (o:L.Pairwise (fun x y=>Pp.lt x y=true)) (i: ∀y∈L,y.path.data.toList≠x.path.data.toList):M=b7 x L:=by
 have j:=mQ x o i;have c:M.Perm (b7 x L):=u.trans ((List.perm_append_singleton x L).trans (jF x L).symm);refine oH c ?_ j
 have g:(b7 x L).Pairwise (fun a b=>a.path.data.toList≠b.path.data.toList):=j.imp fun {a b} h e=>by
  have:Pp.lt a b=Pp.lt a a:=by rw[gZ,gZ];unfold Pp.cfE;rw[←e]
  rw[this,dU]at h;cases h
 have f:M.Pairwise (fun a b=>a.path.data.toList≠b.path.data.toList):=c.symm.pairwise g (fun h e=>h e.symm);have d:=s.and f;refine d.imp fun {a b} h=>?_
 cases e:Pp.lt a b with
 |true=>rfl
 |false=>exact absurd (kS e h.1) h.2
theorem rC (c:UInt8) (w:World):
    Calls prog 154 #[.int .u8 (c.toNat:Int)] w fun e w'=>e= .returned (.bool (dD c))∧w'=w:=by
 go_enter func154,ntmps154
 go_wp2_with (go_at_call 173;refine(Tryz.strings_IndexByte _ _ _).mono ?_;rintro e w' ⟨rfl,rfl⟩)
 all_goals go_ret
 all_goals first
  |exact⟨br (xd c (by omega)),rfl⟩
  |exact⟨br (xe c (by omega) (by omega) (by omega)),rfl⟩
theorem kT (s:ByteArray) (w:World) (C:s.size≤maxLen):
    Calls prog 123 #[s] w fun e w'=>e= .returned (.bool (aA s.data.toList))∧w'=w:=by
 unfold maxLen at C;by_cases E:(s.size:Int)<1
 · go_enter func123,ntmps123
   go_wp2;go_ret;exact⟨br (jD s (Or.inl (by omega))),rfl⟩
 by_cases F:20<(s.size:Int)
 · go_enter func123,ntmps123
   go_wp2;go_ret;exact⟨br (jD s (Or.inr (Or.inl (by omega)))),rfl⟩
 cases j:(s.toList==[46])with
 |true=>
  have c:=hid (show s.toList=[46]from by simpa using j);go_enter func123,ntmps123
  go_wp2;go_ret;exact⟨br (jD s (Or.inr (Or.inr (Or.inl c.out)))),rfl⟩
 |false=>
 cases o:(s.toList==[46,46])with
 |true=>
  have c:=hid (show s.toList=[46,46]from by simpa using o);go_enter func123,ntmps123
  go_wp2;go_ret;exact⟨br (jD s (Or.inr (Or.inr (Or.inr c.out)))),rfl⟩
 |false=>
 have x:0<s.size:=by omega
 have z:s.size-1<s.size:=by omega
 cases u:((s[0].toNat:Int)==32)with
 |true=>
  have c:=hid (show(s[0].toNat:Int)=32 from by simpa using u);go_enter func123,ntmps123
  go_wp2;go_ret;exact⟨br (rk s x c.out),rfl⟩
 |false=>
 cases v:((s[s.size-1].toNat:Int)==32)with
 |true=>
  have c:=hid (show(s[s.size-1].toNat:Int)=32 from by simpa using v);go_enter func123,ntmps123
  go_wp2;go_ret;exact⟨br (rl s z c.out),rfl⟩
 |false=>
 have A:Hid (s.data.toList.all dD=true→true=aA s.data.toList):=fun B=>
  rn s (by omega) (by omega) (by simpa using j) (by simpa using o) x (by simpa using u) z (by simpa using v) B
 go_enter func123,ntmps123
 go_wp2_with fail;go_loop [33] (fun i=> ∃k:Nat,k≤s.size∧i= .int .i64 k∧(s.data.toList.take k).all dD=true) (fun i=>s.size-(intOf i).toNat)
 case atStart=>exact⟨0,Nat.zero_le _,rfl,by simp⟩
 case round=>
  obtain⟨k,G,rfl,a⟩:=hrel
  have g:Hid ((s.data.toList.take k).all dD=true):=a;clear a;by_cases d:k<s.size
  · cases f:dD s[k]with
    |true=>
     go_wp2_with (go_at_call 154;refine(rC _ _).mono ?_;rintro e w' ⟨rfl,rfl⟩)
     go_round
     case rel=>exact⟨k+1,by omega,by go_num,rp s k d g.out f⟩
     case measure=>simp[intOf];omega
    |false=>
     go_wp2_with (go_at_call 154;refine(rC _ _).mono ?_;rintro e w' ⟨rfl,rfl⟩)
     go_ret;exact⟨br (rm s k d f),rfl⟩
  · go_wp2
    go_ret;exact⟨br (A.out (by have:=g.out;rwa [List.take_of_length_le (by simp;omega)]at this)),rfl⟩
theorem xw (s:ByteArray) (w:World) (c:s.size≤maxLen) (h:47∉s.data.toList):
    Calls prog 184 #[s,.string ⟨#[47]⟩] w fun e w'=>e= .returned (.tuple #[s,.string ⟨#[]⟩,false])∧Below w.heap.size w w':=by
 unfold maxLen at c;have a:Hid (Lib.indexByte s.data.toList 47= -1):=wY _ _ h;clear h;go_enter func184,ntmps184
 go_wp2_with (go_at_call 204;refine(Tryz.stringslite_Index_one _ _ _).mono ?_;rintro e w' ⟨rfl,rfl⟩;rw[a.out])
 go_ret3;exact⟨rfl,aw⟩
theorem xx (s:ByteArray) (a b:List UInt8) (w:World) (j:s.size≤maxLen) (h:47∉a) (c:s.data.toList=a++47::b):
    Calls prog 184 #[s,.string ⟨#[47]⟩] w fun e w'=>e= .returned (.tuple #[.string ⟨a.toArray⟩,.string ⟨b.toArray⟩,true])∧Below w.heap.size w w':=by
 unfold maxLen at j;have i:=hid (show Lib.indexByte s.data.toList 47=a.length from by rw[c];exact wX a b 47 h);have d:s.size=a.length+b.length+1:=by rw[Lib.size_eq,c];simp;try omega
 have o:(a.length:Int)≤s.size:=by omega
 have u:(a.length:Int)+1≤s.size:=by omega
 have f:=hid (show s.extract 0 a.length=⟨a.toArray⟩from gE (by rw[Lib.extract_data,c];simp));have g:=hid (show s.extract (a.length+1) s.size=⟨b.toArray⟩from gE (by rw[Lib.extract_data,c,d];simp));clear h c d;go_enter func184,ntmps184
 go_wp2_with (go_at_call 204;refine(Tryz.stringslite_Index_one _ _ _).mono ?_;rintro e w' ⟨rfl,rfl⟩;rw[i.out])
 go_region
 go_wp2;go_ret3;exact⟨by rw[f.out,g.out];rfl, aw.drew⟩
theorem rD (s:ByteArray) (w:World) (a:s.size≤maxLen) (h:47∉s.data.toList):
    Calls prog 172 #[s,.string ⟨#[47]⟩] w fun e w'=>e= .returned (.tuple #[s,.string ⟨#[]⟩,false])∧Below w.heap.size w w':=by
 go_enter func172,ntmps172
 go_wp2_with fail;refine(xw s _ a h).mono ?_
 rintro e w' ⟨rfl,c⟩;clear a h;go_wp2;go_ret3;exact⟨rfl,c⟩
theorem rE (s:ByteArray) (a b:List UInt8) (w:World) (f:s.size≤maxLen) (h:47∉a) (c:s.data.toList=a++47::b):
    Calls prog 172 #[s,.string ⟨#[47]⟩] w fun e w'=>e= .returned (.tuple #[.string ⟨a.toArray⟩,.string ⟨b.toArray⟩,true])∧Below w.heap.size w w':=by
 have d:Hid (s.data.toList=a++47::b):=c;clear c;go_enter func172,ntmps172
 go_wp2_with fail;refine(xx s a b _ f h d.out).mono ?_
 rintro e w' ⟨rfl,g⟩;clear f h;go_wp2;go_ret3;exact⟨rfl,g⟩
def oJ (r m:Value):Nat:=match m,r with
 | .bool true,.string s=>s.size+1
 |_,_=>0
theorem eV (s:ByteArray) (w:World) (O:s.size≤1000000000000000):
    Calls prog 153 #[s] w fun e w'=>e= .returned (.int .i64 (aD s.data.toList))∧Below w.heap.size w w':=by
 go_enter func153,ntmps153
 go_wp2
 go_loopw [3, 4, 5] (fun d r m wr => ∃ (g : List (List UInt8)) (t : ByteArray) (b : Bool), d = .int .i64 g.length ∧ r = .string t ∧ m = .bool b ∧ g.all aA = true ∧ t.size ≤ s.size ∧ g.length ≤ s.size + 1 ∧
     (b=true→az s.data.toList=g++az t.data.toList)∧(b=false→az s.data.toList=g)∧Below w.heap.size w wr) (fun _ r m _=>oJ r m)
 case atStart=>exact⟨[],s,true,rfl,rfl,rfl,rfl,ax,by simp,fun _=>rfl,(fun h=>by cases h),aw⟩
 case round=>
  obtain⟨g,t,b,rfl,rfl,rfl,x,N,M,C,E,c⟩:=hrel
  have A:Hid (g.all aA=true):=x;clear x;cases b with
  |false=>
   have z:Hid (az s.data.toList=g):=E rfl;clear C E;by_cases K:6<(g.length:Int)
   · go_wp2
     go_ret;exact⟨aB (rq s z.out A.out (Or.inl K)),c⟩
   by_cases J:80<(s.size:Int)
   · go_wp2
     go_ret;exact⟨aB (rq s z.out A.out (Or.inr J)),c⟩
   go_wp2;go_ret;exact⟨aB (xg s z.out A.out (by omega) (by omega)),c⟩
  |true=>
   have z:Hid (az s.data.toList=g++az t.data.toList):=C rfl;clear C E;have I:=xh s t z.out;by_cases o:47∈t.data.toList
   · obtain⟨a,b,F,u⟩:=oy _ _ o
     have B:Hid (t.data.toList=a++47::b):=u;have J:t.size=a.length+b.length+1:=by rw[Lib.size_eq,u];simp;try omega
     have j:=hid (show az s.data.toList=g++a::az b from by rw[z.out,u,ox a b F]);clear o u;cases v:aA a with
     |true=>
      have i:Hid (aA a=true):=v;clear v;go_wp2_with fail;refine(rE t a b _ (by unfold maxLen;omega) F B.out).mono ?_
      rintro e G ⟨rfl,f⟩;go_wp2_with fail;refine(kT ⟨a.toArray⟩ _ (by unfold maxLen;rw[i7];omega)).mono ?_
      rintro e H ⟨rfl,rfl⟩;simp only[i.out];go_wp2;go_roundw
      case rel=>exact⟨g++[a],⟨b.toArray⟩,true,by simp,rfl,rfl,oA A.out i.out,by rw[i7];omega,by simp;omega,(fun _=>by rw[j.out];simp),(fun h=>by cases h),c.trans (f.mono c.size)⟩
      case measure=>simp only[oJ,i7];omega
     |false=>
      have i:Hid (aA a=false):=v;clear v;go_wp2_with fail;refine(rE t a b _ (by unfold maxLen;omega) F B.out).mono ?_
      rintro e G ⟨rfl,f⟩;go_wp2_with fail;refine(kT ⟨a.toArray⟩ _ (by unfold maxLen;rw[i7];omega)).mono ?_
      rintro e H ⟨rfl,rfl⟩;simp only[i.out];go_wp2;go_ret;exact⟨aB (oz s j.out i.out),c.trans (f.mono c.size)⟩
   · have j:=hid (show az s.data.toList=g++[t.data.toList]from by rw[z.out,jC _ o])
     cases v:aA t.data.toList with
     |true=>
      have i:Hid (aA t.data.toList=true):=v;clear v;go_wp2_with fail;refine(rD t _ (by unfold maxLen;omega) o).mono ?_
      rintro e G ⟨rfl,f⟩;go_wp2_with fail;refine(kT t _ (by unfold maxLen;omega)).mono ?_
      rintro e H ⟨rfl,rfl⟩;simp only[i.out];go_wp2;go_roundw
      case rel=>exact⟨g++[t.data.toList],⟨#[]⟩,false,by simp,rfl,rfl,oA A.out i.out,by rw[Lib.size_eq];simp,by simp;omega,(fun h=>by cases h),(fun _=>j.out),c.trans (f.mono c.size)⟩
      case measure=>simp only[oJ];omega
     |false=>
      have i:Hid (aA t.data.toList=false):=v;clear v;go_wp2_with fail;refine(rD t _ (by unfold maxLen;omega) o).mono ?_
      rintro e G ⟨rfl,f⟩;go_wp2_with fail;refine(kT t _ (by unfold maxLen;omega)).mono ?_
      rintro e H ⟨rfl,rfl⟩;simp only[i.out];go_wp2;go_ret;exact⟨aB (oz s j.out i.out),c.trans (f.mono c.size)⟩
theorem oK (ls:List ByteArray) (b cap:Nat) (w:World) (C:b<w.heap.size) (G:ls.length≤1000) (A: ∀i (h:i<ls.length),(ls[i]).size≤1000000000000000)
    (z: ∀i (h:i<ls.length),w.cell? ⟨b,i,none⟩=some (.string ls[i])):
    Calls prog 122 #[.slice (some ⟨b,0,none⟩) ls.length cap] w fun e w'=>e= .returned (.int .i64 (bZ (ls.map fun s=>s.data.toList)))∧Below w.heap.size w w':=by
 have x:Hid (∀i (h:i<ls.length),(ls[i]).size≤1000000000000000):=A;have B:Hid (∀i (h:i<ls.length),w.cell? ⟨b,i,none⟩=some (.string ls[i])):=z;clear A z;go_enter func122,ntmps122
 go_wp2;go_loopw [8] (fun i wr=> ∃k:Nat,k≤ls.length∧i= .int .i64 k∧bZ (ls.map fun s=>s.data.toList)=bZ ((ls.drop k).map fun s=>s.data.toList)∧Below w.heap.size w wr) (fun i _=>ls.length-(intOf i).toNat)
 case atStart=>exact⟨0,Nat.zero_le _,rfl,rfl,aw⟩
 case round=>
  obtain⟨k,F,rfl,f,a⟩:=hrel
  have j:Hid (bZ (ls.map fun s=>s.data.toList)=bZ ((ls.drop k).map fun s=>s.data.toList)):=f;clear f;by_cases c:k<ls.length
  · have o:wr.cell? ⟨b,k,none⟩=some (.string ls[k]):=(a.cell (p:=⟨b,k,none⟩) C).trans (B.out k c)
    have v:Hid (ls.drop k=ls[k]::ls.drop (k+1)):=List.drop_eq_getElem_cons c;cases u:(aD (ls[k]).data.toList==0)with
    |true=>
     have g:=hid (show aD (ls[k]).data.toList=0 from by simpa using u);clear u;go_wp2_with fail;refine(eV _ _ (x.out k c)).mono ?_
     rintro e E ⟨rfl,d⟩;rw[g.out];go_wp2;go_roundw
     case rel=>exact⟨k+1,by omega,by simp,by rw[j.out,v.out,List.map_cons,bZ,if_pos g.out],a.trans (d.mono a.size)⟩
     case measure=>simp[intOf];omega
    |false=>
     have g:=hid (show¬aD (ls[k]).data.toList=0 from by simpa using u);go_wp2_with fail;refine(eV _ _ (x.out k c)).mono ?_
     rintro e E ⟨rfl,d⟩;go_wp2;go_ret;exact⟨aB (by rw[j.out,v.out,List.map_cons,bZ,if_neg g.out]),a.trans (d.mono a.size)⟩
  · go_wp2
    go_ret;exact⟨aB (by rw[j.out,List.drop_of_length_le (by omega)];rfl),a⟩
theorem aG {a b c:World} (d:Below a.heap.size a b) (f:Below b.heap.size b c):Below a.heap.size a c:=d.trans (f.mono d.size)
theorem rF (s:ByteArray) (c:UInt8) (w:World) (a:s.size≤1000000000000000):
    Calls prog 196 #[s,.string ⟨#[c]⟩] w fun e w'=>e= .returned (.int .i64 (Lib.lastIndexByte s (c.toNat:Int)))∧w'=w:=
 Tryz.strings_LastIndex_one s ⟨#[c]⟩ rfl (by omega) w
theorem xy (s:ByteArray) (w:World) (j:s.size≤1000000000000000):
    Calls prog 177 #[s] w fun e w'=>e= .returned (.tuple #[.string ⟨(aI s.data.toList).toArray⟩,.string ⟨(Pp.lst s.data.toList).toArray⟩])∧Below w.heap.size w w':=by
 rcases xk s 47 with⟨e,c⟩|⟨a,b,e,c,d⟩
 · have f:Hid (Lib.lastIndexByte s ((47:UInt8).toNat:Int)= -1):=e
   have i:=hid (show s.extract 0 0=⟨(aI s.data.toList).toArray⟩from gE (by rw[Lib.extract_data,oB c];simp));have g:=hid (show⟨(Pp.lst s.data.toList).toArray⟩=s from by rw[xi c]);clear e c;go_enter func177,ntmps177
   go_wp2_with fail;refine(rF s 47 _ j).mono ?_
   rintro e w' ⟨rfl,rfl⟩;rw[f.out];go_wp2_with fail;go_region
   go_wp2;go_ret2;exact⟨by rw[show(max (-1:Int) 0).toNat=0 from rfl,i.out,g.out];rfl, aw.drew⟩
 · have f:Hid (Lib.lastIndexByte s ((47:UInt8).toNat:Int)=a.length):=e
   have o:s.size=a.length+b.length+1:=by rw[Lib.size_eq,d];simp;try omega
   have u:(a.length:Int)≤s.size:=by omega
   have v:(a.length:Int)+1≤s.size:=by omega
   have i:=hid (show s.extract 0 a.length=⟨(aI s.data.toList).toArray⟩from gE (by rw[Lib.extract_data,d,fE a c];simp));have g:=hid (show s.extract (a.length+1) s.size=⟨(Pp.lst s.data.toList).toArray⟩from gE (by rw[Lib.extract_data,d,xj a c,o];simp));clear e c d o;go_enter func177,ntmps177
   go_wp2_with fail;refine(rF s 47 _ j).mono ?_
   rintro e w' ⟨rfl,rfl⟩;rw[f.out];go_wp2_with fail;go_region
   go_wp2;go_ret2;exact⟨by rw[i.out,g.out];rfl, aw.drew⟩
structure aE where
 k:Int
 p:ByteArray
 q:ByteArray
 t:ByteArray
 b:Int
def aQ (c:aE):Int:=
 if c.k<1∨4<c.k then 7 else if¬aD c.p.data.toList=0 then aD c.p.data.toList
 else if c.k=3∧ ¬aD c.q.data.toList=0 then aD c.q.data.toList
 else if(¬c.k=3∧ ¬c.q.data.toList=[])∨(¬c.k=2∧ ¬c.t.data.toList=[])then 1
 else if 300<c.t.size then 2 else if c.b< -1∨1000000<c.b then 3 else 0
def Pp.goal (c:aE):List UInt8:=if c.k=3 then c.q.data.toList else c.p.data.toList
def bN (L:List En) (c:aE):Int:=
 if¬aO L (aI (Pp.goal c))=0 then aO L (aI (Pp.goal c))else match L.find? (aR c.p.data.toList)with
 |none=>if c.k=3∨c.k=4 then 5 else 0
 |some x=>if c.k=1 then 6 else if c.k=2 then(if x.folder=true then 4 else 0)
  else if c.k=3 then(if a8 c.q.data.toList c.p.data.toList=true then 3 else if(L.find? (aR c.q.data.toList)).isSome=true then 6 else 0)else 0
def bf (q:List UInt8) (e:En):Bool:=a8 e.path.data.toList q
def da (q:List UInt8) (b:Int) (e:En):Bool:=decide (b<e.ver) && bf q e
def dL (L:List En) (c:aE):Bool:= !(c.b== -1) && L.any (da c.p.data.toList c.b)
def Pp.newE (c:aE) (n:Int):En:=⟨c.p,decide (c.k=1),c.t,n⟩
def cJ (x:En) (L:List En):List En:=L.filter (fun e=> !aR x.path.data.toList e)
def cT (L:List En) (c:aE):List En:=L.filter (fun e=> !bf c.p.data.toList e)
def cp (c:aE) (e:En):List UInt8:=bV e.path.data.toList c.p.data.toList c.q.data.toList
def bG (c:aE) (n:Int) (e:En):En:=⟨⟨(cp c e).toArray⟩,e.folder,e.text,if e.path.data.toList=c.p.data.toList then n else e.ver⟩
def dw (L:List En) (c:aE):List En:=L.filter (bf c.p.data.toList)
def eM (L:List En) (c:aE) (n:Int):List En:=(dw L c).map (bG c n)
def eN (ms K:List En):List En:=ms.foldl (fun a x=>b7 x a) K
def fk (L:List En) (c:aE) (n:Int):Int:=
 if c.k=1∨c.k=2 then(if 60<(cJ (Pp.newE c n) L).length+1 then 2 else 0)
 else if c.k=3 then(if(dw L c).any (fun e=>bv (cp c e))=true then 2 else 0)else 0
def cN (L:List En) (c:aE) (n:Int):List En:=
 if c.k=1∨c.k=2 then b7 (Pp.newE c n) (cJ (Pp.newE c n) L)
 else if c.k=3 then eN (eM L c n) (cT L c)else cT L c
def bW (L:List En) (c:aE) (n:Int):Int:=
 if¬bm n=0 then bm n else if¬aQ c=0 then aQ c else if¬bN L c=0 then bN L c else if dL L c=true then 8 else fk L c n
theorem kU: ∀(c K:List En),(eN c K).Perm (K++c)
 |[],K=>by simp[eN]
 |x::r,K=>by
  have h:=kU r (b7 x K);refine(show eN (x::r) K=eN r (b7 x K)from rfl)▸h.trans ?_
  refine((jF x K).append_right r).trans ?_
  exact(List.perm_middle (l₁:=K) (a:=x) (l₂:=r)).symm
def fZ (a b:En):Prop:=a.path.data.toList≠b.path.data.toList
theorem rG {a b:En} (h:fZ a b):fZ b a:=fun e=>h e.symm
theorem lK {a b:En} (h:Pp.lt a b=true):fZ a b:=fun e=>by
 have:Pp.lt a b=Pp.lt a a:=by rw[gZ,gZ];unfold Pp.cfE;rw[←e]
 rw[this,dU]at h;cases h
theorem mR: ∀(d:List En) {K:List En},K.Pairwise (fun x y=>Pp.lt x y=true)→(K++d).Pairwise fZ→(eN d K).Pairwise (fun x y=>Pp.lt x y=true)
 |[],K,h,_=>h
 |x::r,K,h,hd=>by
  have c:=List.pairwise_append.1 hd;refine mR r (K:=b7 x K) (mQ x h fun y g=>c.2.2 y g x (by simp)) ?_
  have f:(K++x::r).Perm (b7 x K++r):=(List.perm_middle (l₁:=K) (a:=x) (l₂:=r)).trans ((jF x K).symm.append_right r);exact f.pairwise hd (fun h=>rG h)
theorem xz {c K M:List En} (g:M.Perm (K++c)) (j:M.Pairwise (fun a b=>Pp.lt b a=false)) (i:K.Pairwise (fun x y=>Pp.lt x y=true)) (f:(K++c).Pairwise fZ):M=eN c K:=by
 refine oH (g.trans (kU c K).symm) ?_ (mR c i f)
 have d:M.Pairwise fZ:=g.symm.pairwise f (fun h=>rG h);refine(j.and d).imp fun {a b} h=>?_
 cases e:Pp.lt a b with
 |true=>rfl
 |false=>exact absurd (kS e h.1) h.2
theorem lL {l:List UInt8} (h:47∈l): ∃a b,47∉b∧l=a++47::b:=by
 obtain⟨a,b,c,e⟩:=oy l.reverse 47 (by simpa using h)
 refine⟨b.reverse,a.reverse,by simpa using c,?_⟩
 have:=congrArg List.reverse e
 simpa using this
structure Pp.Good (L:List En):Prop where
 len:L.length≤60
 ents: ∀e∈L,bT e=0
 rise:L.Pairwise (fun x y=>Pp.lt x y=true)
 pars: ∀e∈L,aO L (aI e.path.data.toList)=0
theorem xA {L:List En} (h: ∀e∈L,bT e=0):cI L=0:=by
 induction L with
 |nil=>rfl
 |cons a r ih=>rw[cI,if_pos (h a (by simp))];exact ih fun e c=>h e (by simp[c])
theorem g9 (L:List En):bg L=0↔Pp.Good L:=by
 constructor
 · intro h
   have d: ¬60<L.length:=by
    intro u;rw[bg,if_pos u]at h;cases h
   have f:cI L=0:=by
    by_cases a:cI L=0
    · exact a
    · rw[bg,if_neg d,if_neg a]at h;exact h
   rw[bg,if_neg d,if_pos f]at h
   have g:dP L=true:=by
    cases c:dP L with
    |true=>rfl
    |false=>rw[if_neg (by rw[c];decide)]at h;cases h
   rw[if_pos g,ex]at h
   have i:L.any (fun e=>bE L e==5)=false:=by
    cases c:L.any (fun e=>bE L e==5)with
    |false=>rfl
    |true=>rw[if_pos c]at h;cases h
   rw[if_neg (by rw[i];decide)]at h
   have s:L.any (fun e=>bE L e==4)=false:=by
    cases c:L.any (fun e=>bE L e==4)with
    |false=>rfl
    |true=>rw[if_pos c]at h;cases h
   refine⟨by omega,rA f,(oI L).1 g,fun e a=>?_⟩
   have o: ¬bE L e=5:=fun x=>by
    have:=List.any_eq_false.1 i e a;simp[x]at this
   have j: ¬bE L e=4:=fun x=>by
    have:=List.any_eq_false.1 s e a;simp[x]at this
   rcases oG L (aI e.path.data.toList)with h|h|h
   · exact h
   · exact absurd h j
   · exact absurd h o
 · intro h
   have z:L.any (fun e=>bE L e==5)=false:=List.any_eq_false.2 fun e a=>by
    have:=h.pars e a;rw[bE,this];decide
   have v:L.any (fun e=>bE L e==4)=false:=List.any_eq_false.2 fun e a=>by
    have:=h.pars e a;rw[bE,this];decide
   rw[bg,if_neg (by have:=h.len;omega),if_pos (xA h.ents),if_pos ((oI L).2 h.rise),ex,if_neg (by rw[z];decide),if_neg (by rw[v];decide)]
theorem lM {L:List En} {p:List UInt8} (h:aO L p=0) (d:p≠[]): ∃x,x∈L∧x.path.data.toList=p∧x.folder=true∧L.find? (aR p)=some x:=by
 rw[aO,if_neg d]at h;cases a:L.find? (aR p)with
 |none=>rw[a]at h;cases h
 |some x=>
  rw[a]at h;have c:=List.find?_some a;refine⟨x,List.mem_of_find?_eq_some a,by simpa[aR]using c,?_,rfl⟩
  cases f:x.folder with
  |true=>rfl
  |false=>simp[f]at h
theorem rH {L:List En} (s:L.Pairwise (fun x y=>Pp.lt x y=true)) {x:En} (o:x∈L):L.find? (aR x.path.data.toList)=some x:=by
 have a:L.Pairwise fZ:=s.imp fun h=>lK h
 cases c:L.find? (aR x.path.data.toList)with
 |none=>have:=List.find?_eq_none.1 c x o;simp[aR]at this
 |some y=>
  have d:y.path.data.toList=x.path.data.toList:=by have:=List.find?_some c;simpa[aR]using this
  have u:=List.mem_of_find?_eq_some c;obtain⟨i,f,rfl⟩:=List.getElem_of_mem o
  obtain⟨j,g,rfl⟩:=List.getElem_of_mem u
  rw[List.pairwise_iff_getElem]at a;rcases Nat.lt_trichotomy i j with h|h|h
  · exact absurd d.symm (a i j f g h)
  · subst h;rfl
  · exact absurd d (a j i g f h)
theorem mS {l:List UInt8} (h:aD l=0):l≠[]:=by
 intro e;subst e;exact absurd h (by decide)
theorem xB {L:List En} (F: ∀e∈L,aO L (aI e.path.data.toList)=0) {q:List UInt8} (G:q≠[]): ∀(n:Nat) (e:En),e∈L→e.path.data.toList.length≤n→a8 e.path.data.toList q=true→ ∃x∈L,x.path.data.toList=q:=by
 intro n;induction n with
 |zero=>
  intro e g o j;rcases(eK _ _).1 j with h|⟨r,h⟩
  · exact⟨e,g,h⟩
  · rw[h]at o;simp at o
 |succ n ih=>
  intro e g o j;rcases(eK _ _).1 j with h|⟨r,h⟩
  · exact⟨e,g,h⟩
  · obtain⟨a,b,i,e2⟩:=lL (l:=e.path.data.toList) (by rw[h];simp)
    have c:aI e.path.data.toList=a:=by rw[e2];exact fE a i
    have z:=F e g;rw[c]at z
    have d:a8 a q=true:=by
     rw[eK];have v:a++47::b=q++47::r:=e2.symm.trans h;by_cases A:47∈r
     · obtain⟨B,I,s,C⟩:=lL A
       have:aI (a++47::b)=aI ((q++47::B)++47::I):=by rw[v,C];simp
       rw[fE a i,fE _ s]at this;exact Or.inr ⟨B,this⟩
     · have:aI (a++47::b)=aI (q++47::r):=by rw[v]
       rw[fE a i,fE _ A]at this;exact Or.inl this
    have E:a≠[]:=by
     intro u;rcases(eK _ _).1 d with h|⟨r,h⟩
     · exact G (h.symm.trans u)
     · rw[u]at h;simp at h
    obtain⟨x,H,f,_,_⟩:=lM z E
    refine ih x H ?_ (by rw[f];exact d)
    rw[f];have:e.path.data.toList.length=a.length+b.length+1:=by rw[e2];simp;omega
    omega
theorem xC {L:List En} (d: ∀e∈L,aO L (aI e.path.data.toList)=0) {q:List UInt8} (f:q≠[]) {e:En} (a:e∈L) (c:a8 e.path.data.toList q=true): ∃x∈L,x.path.data.toList=q:=xB d f _ e a ax c
theorem xD (p:List UInt8):a8 p p=true:=(eK p p).2 (Or.inl rfl)
theorem oL {p q:List UInt8} (h:a8 p q=true): ∃s,p=q++s:=by
 rcases(eK p q).1 h with h|⟨r,h⟩
 · exact⟨[],by simpa using h⟩
 · exact⟨_,h⟩
theorem xE {p f t:List UInt8} (h:a8 p f=true):a8 (bV p f t) t=true:=by
 rcases(eK p f).1 h with h|⟨r,h⟩
 · rw[eK,bV,h];simp
 · rw[eK,bV,h];simp
theorem xF {p a f t:List UInt8} (h:a8 p f=true) (c:a8 a f=true) (e:bV p f t=bV a f t):p=a:=by
 obtain⟨s,rfl⟩:=oL h
 obtain⟨d,rfl⟩:=oL c
 simpa[bV]using e
theorem lN {R:List En} (d:R.Pairwise (fun x y=>Pp.lt x y=true)) {x:En} (f:x∈R) {p:List UInt8} (c:x.path.data.toList=p) (a:x.folder=true):aO R p=0:=by
 subst c;rw[aO];split
 · rfl
 · rw[rH d f];simp[a]
theorem oM (L:List En):aO L []=0:=by rw[aO,if_pos rfl]
theorem rI {l p:List UInt8} (h:a8 (aI l) p=true) (f:aI l≠[]):a8 l p=true:=by
 by_cases c:47∈l
 · obtain⟨a,b,d,e⟩:=lL c
   rw[e,fE a d]at h;rw[eK,e];rcases(eK a p).1 h with h|⟨r,h⟩
   · exact Or.inr ⟨b,by rw[h]⟩
   · exact Or.inr ⟨r++47::b,by rw[h];simp⟩
 · exact absurd (oB c) f
theorem xG {p r:List UInt8}: ∃a b,47∉b∧p++47::r=a++47::b∧a8 a p=true∧aI (p++47::r)=a:=by
 obtain⟨a,b,c,e2⟩:=lL (l:=p++47::r) (by simp)
 refine⟨a,b,c,e2,?_,by rw[e2];exact fE a c⟩
 rw[eK];by_cases f:47∈r
 · obtain⟨g,j,d,i⟩:=lL f
   have:aI (a++47::b)=aI ((p++47::g)++47::j):=by rw[←e2,i];simp
   rw[fE a c,fE _ d]at this;exact Or.inr ⟨g,this⟩
 · have:aI (a++47::b)=aI (p++47::r):=by rw[←e2]
   rw[fE a c,fE _ f]at this;exact Or.inl this
theorem je {c:aE} (h:aQ c=0):1≤c.k∧c.k≤4:=by
 by_cases a:c.k<1∨4<c.k
 · rw[aQ,if_pos a]at h;cases h
 · omega
theorem hD {c:aE} (h:aQ c=0):aD c.p.data.toList=0:=by
 have d:=je h;by_cases a:aD c.p.data.toList=0
 · exact a
 · rw[aQ,if_neg (by omega),if_pos a]at h;exact h
theorem kV {c:aE} (h:aQ c=0) (d:c.k=3):aD c.q.data.toList=0:=by
 have g:=je h;have f:=hD h;by_cases a:aD c.q.data.toList=0
 · exact a
 · rw[aQ,if_neg (by omega),if_neg (fun x=>x f),if_pos ⟨d,a⟩]at h;exact h
theorem jG {c:aE} (h:aQ c=0):(c.k=3∨c.q.data.toList=[])∧(c.k=2∨c.t.data.toList=[])∧c.t.size≤300∧ -1≤c.b∧c.b≤1000000:=by
 have s:=je h;have i:=hD h;have j:=fun g=>kV h g
 rw[aQ,if_neg (by omega),if_neg (fun x=>x i),if_neg (fun x=>x.2 (j x.1))]at h;split at h
 · cases h
 · rename_i f
   split at h
   · cases h
   · rename_i o
     split at h
     · cases h
     · rename_i g
       refine⟨?_,?_,by omega,by omega,by omega⟩
       · by_cases a:c.k=3
         · exact Or.inl a
         · exact Or.inr (Classical.byContradiction fun d=>f (Or.inl ⟨a,d⟩))
       · by_cases a:c.k=2
         · exact Or.inl a
         · exact Or.inr (Classical.byContradiction fun d=>f (Or.inr ⟨a,d⟩))
theorem mT {L:List En} {c:aE} (h:bN L c=0):aO L (aI (Pp.goal c))=0:=by
 by_cases a:aO L (aI (Pp.goal c))=0
 · exact a
 · rw[bN,if_pos a]at h;exact h
theorem oN {L:List En} {c:aE} (h:bN L c=0) (j:1≤c.k∧c.k≤4):
    (c.k=1∧L.find? (aR c.p.data.toList)=none)∨(c.k=2∧ ∀x,L.find? (aR c.p.data.toList)=some x→x.folder=false)∨
    (c.k=3∧(∃x,L.find? (aR c.p.data.toList)=some x)∧a8 c.q.data.toList c.p.data.toList=false∧L.find? (aR c.q.data.toList)=none)∨
    (c.k=4∧ ∃x,L.find? (aR c.p.data.toList)=some x):=by
 have g:=mT h;rw[bN,if_neg (fun x=>x g)]at h;have f:c.k=1∨c.k=2∨c.k=3∨c.k=4:=by omega
 cases d:L.find? (aR c.p.data.toList)with
 |none=>
  rw[d]at h;rcases f with e|e|e|e
  · exact Or.inl ⟨e,rfl⟩
  · exact Or.inr (Or.inl ⟨e,fun x d=>by cases d⟩)
  · simp[e]at h
  · simp[e]at h
 |some x=>
  rw[d]at h;rcases f with e|e|e|e
  · simp[e]at h
  · refine Or.inr (Or.inl ⟨e,fun y i=>?_⟩)
    cases i
    cases a:x.folder with
    |false=>rfl
    |true=>simp[e,a]at h
  · refine Or.inr (Or.inr (Or.inl ⟨e,⟨x,rfl⟩,?_,?_⟩))
    · cases a:a8 c.q.data.toList c.p.data.toList with
      |false=>rfl
      |true=>simp[e,a]at h
    · cases a:L.find? (aR c.q.data.toList)with
      |none=>rfl
      |some y=>simp only[e,a]at h;simp at h;split at h<;>cases h
  · exact Or.inr (Or.inr (Or.inr ⟨e,x,rfl⟩))
theorem mU {x y:En} {L:List En}:y∈cJ x L↔y∈L∧y.path.data.toList≠x.path.data.toList:=by
 rw[cJ,List.mem_filter];simp[aR]
theorem xH {L:List En} (o:Pp.Good L) {c:aE} {n:Int} (s:aQ c=0) (A:bN L c=0) (J:bm n=0) (M:c.k=1∨c.k=2) (N: ¬60<(cJ (Pp.newE c n) L).length+1):Pp.Good (b7 (Pp.newE c n) (cJ (Pp.newE c n) L)):=by
 have g:(b7 (Pp.newE c n) (cJ (Pp.newE c n) L)).Pairwise (fun x y=>Pp.lt x y=true):=mQ _ (List.Pairwise.filter _ o.rise) fun y i=>(mU.1 i).2
 have d: ∀y,y∈b7 (Pp.newE c n) (cJ (Pp.newE c n) L)↔y=Pp.newE c n∨y∈cJ (Pp.newE c n) L:=fun y=>by rw[(jF _ _).mem_iff,List.mem_cons]
 have f:=jG s;refine⟨?_,fun y i=>?_,g,fun y i=>?_⟩
 · rw[(jF _ _).length_eq,List.length_cons];omega
 · rcases(d y).1 i with rfl|i
   · have E:aD (Pp.newE c n).path.data.toList=0:=hD s
     have F:(Pp.newE c n).text.size=c.t.size:=rfl;rw[bT,if_pos E,if_neg,if_neg]
     · exact J
     · rw[F];have:=f.2.2.1;omega
     · rintro ⟨G,H⟩
       have I:c.k=1:=by simpa[Pp.newE]using G
       rcases f.2.1 with h|h
       · omega
       · exact H h
   · exact o.ents y (mU.1 i).1
 · by_cases v:aI y.path.data.toList=[]
   · rw[v];exact oM _
   have hF:aO L (aI y.path.data.toList)=0:=by
    rcases(d y).1 i with rfl|i
    · have:=mT A
      rw[Pp.goal,if_neg (by omega)]at this;exact this
    · exact o.pars y (mU.1 i).1
   obtain⟨z,B,u,j,K⟩:=lM hF v
   refine lN g (x:=z) ((d z).2 (Or.inr (mU.2 ⟨B,fun e=>?_⟩))) u j
   have C:z.path.data.toList=c.p.data.toList:=e;have a:=rH o.rise B;rw[C]at a;rcases oN A (je s)with h|h|h|h
   · rw[h.2]at a;cases a
   · have:=h.2 z a;rw[j]at this;cases this
   · omega
   · omega
theorem kW {L:List En} {c:aE} {y:En}:y∈cT L c↔y∈L∧a8 y.path.data.toList c.p.data.toList=false:=by
 rw[cT,List.mem_filter];simp[bf]
theorem jg {L:List En} {c:aE} {y:En}:y∈dw L c↔y∈L∧a8 y.path.data.toList c.p.data.toList=true:=by
 rw[dw,List.mem_filter];simp[bf]
theorem rJ {L:List En} (o:Pp.Good L) {c:aE} {y:En} (s:y∈cT L c) (i:aI y.path.data.toList≠[]): ∃z∈cT L c,z.path.data.toList=aI y.path.data.toList∧z.folder=true:=by
 obtain⟨f,a⟩:=kW.1 s
 obtain⟨z,u,d,g,_⟩:=lM (o.pars y f) i
 refine⟨z,kW.2 ⟨u,?_⟩,d,g⟩
 cases j:a8 z.path.data.toList c.p.data.toList with
 |false=>rfl
 |true=>rw[d]at j;rw[rI j i]at a;cases a
theorem xI {L:List En} (d:Pp.Good L) (c:aE):Pp.Good (cT L c):=by
 have a:(cT L c).Pairwise (fun x y=>Pp.lt x y=true):=List.Pairwise.filter _ d.rise;refine⟨Nat.le_trans (List.length_filter_le _ _) d.len,fun y f=>d.ents y (kW.1 f).1,a,fun y f=>?_⟩
 by_cases j:aI y.path.data.toList=[]
 · rw[j];exact oM _
 · obtain⟨z,o,i,g⟩:=rJ d f j
   exact lN a o i g
theorem mV (c:aE) (n:Int) (e:En):(bG c n e).path.data.toList=cp c e:=rfl
theorem xJ {L:List En} (c:Pp.Good L) {q:List UInt8} (i:q≠[]) (g:L.find? (aR q)=none) {e:En} (f:e∈L):a8 e.path.data.toList q=false:=by
 cases d:a8 e.path.data.toList q with
 |false=>rfl
 |true=>
  obtain⟨x,j,a⟩:=xC c.pars i f d
  have:=List.find?_eq_none.1 g x j
  simp[aR,a]at this
theorem oO {L:List En} (g:Pp.Good L) {c:aE} (n:Int) (u:c.q.data.toList≠[]) (s:L.find? (aR c.q.data.toList)=none):(cT L c++eM L c n).Pairwise fZ:=by
 have i:L.Pairwise fZ:=g.rise.imp fun h=>lK h
 rw[List.pairwise_append];refine⟨List.Pairwise.filter _ i,?_,fun a j b o e=>?_⟩
 · rw[eM,List.pairwise_map]
   have d:(dw L c).Pairwise fZ:=List.Pairwise.filter _ i;refine(List.Pairwise.and_mem.1 d).imp fun {a b} h e=>?_
   exact h.2.2 (xF (jg.1 h.1).2 (jg.1 h.2.1).2 e)
 · obtain⟨x,v,rfl⟩:=List.mem_map.1 o
   have d:=xE (t:=c.q.data.toList) (jg.1 v).2;have f:=xJ g u s (kW.1 j).1;rw[e,mV]at f;rw[cp,d]at f;cases f
theorem xK {L:List En} (i:Pp.Good L) {c:aE} (a:aQ c=0) (g:c.k=3) {e:En} (u:e∈dw L c):aD (cp c e)=if bv (cp c e)=true then 2 else 0:=by
 obtain⟨d,f⟩:=jg.1 u
 refine rz ?_ f
 have j:=gY (i.ents e d);have o:=hD a;have s:=kV a g;simp[bZ,j,o,s]
theorem xL {L:List En} (u:Pp.Good L) {c:aE} {n:Int} (M:aQ c=0) (V:bN L c=0) (hv:bm n=0) (N:c.k=3) (hb:(dw L c).any (fun e=>bv (cp c e))=false):Pp.Good (eN (eM L c n) (cT L c)):=by
 obtain⟨_,⟨x0,E0⟩,I,S⟩:c.k=3∧(∃x,L.find? (aR c.p.data.toList)=some x)∧a8 c.q.data.toList c.p.data.toList=false∧L.find? (aR c.q.data.toList)=none:=by
  rcases oN V (je M)with h|h|h|h
  · omega
  · omega
  · exact h
  · omega
 have R:=mS (kV M N);have d:(eN (eM L c n) (cT L c)).Pairwise (fun x y=>Pp.lt x y=true):=mR _ (List.Pairwise.filter _ u.rise) (oO u n R S)
 have f: ∀y,y∈eN (eM L c n) (cT L c)↔y∈cT L c∨ ∃e∈dw L c,bG c n e=y:=fun y=>by
  rw[(kU _ _).mem_iff,List.mem_append,eM,List.mem_map]
 refine⟨?_,fun y A=>?_,d,fun y A=>?_⟩
 · rw[(kU _ _).length_eq,List.length_append,eM,List.length_map]
   have U:(cT L c).length+(dw L c).length=L.length:=by
    rw[cT,dw];have:=(List.filter_append_perm (fun e=> !bf c.p.data.toList e) L).length_eq
    rw[List.length_append]at this;have X:(List.filter (fun x=> !(fun e=> !bf c.p.data.toList e) x) L)=List.filter (bf c.p.data.toList) L:=by congr 1;funext x;simp
    rw[X]at this;exact this
   have:=u.len
   omega
 · rcases(f y).1 A with A|⟨e,F,rfl⟩
   · exact u.ents y (kW.1 A).1
   · have v:=u.ents e (jg.1 F).1
     have U:aD (bG c n e).path.data.toList=0:=by
      rw[mV,xK u M N F,if_neg];have:=List.any_eq_false.1 hb e F
      exact this
     have Z:=gY v;rw[bT,if_pos Z]at v;rw[bT,if_pos U];have h5:(bG c n e).folder=e.folder:=rfl;have h6:(bG c n e).text=e.text:=rfl;rw[h5,h6];split at v
     · cases v
     · rename_i ha
       rw[if_neg ha];split at v
       · cases v
       · rename_i P
         rw[if_neg P];by_cases H:e.path.data.toList=c.p.data.toList
         · have:(bG c n e).ver=n:=by simp[bG,H]
           rw[this];exact hv
         · have:(bG c n e).ver=e.ver:=by simp[bG,H]
           rw[this];exact v
 · by_cases B:aI y.path.data.toList=[]
   · rw[B];exact oM _
   rcases(f y).1 A with A|⟨e,F,rfl⟩
   · obtain⟨z,J,g,j⟩:=rJ u A B
     exact lN d ((f z).2 (Or.inl J)) g j
   · rw[mV]at B⊢
     obtain⟨he1,he2⟩:=jg.1 F
     rcases(eK _ _).1 he2 with K|⟨r,K⟩
     · have Q:cp c e=c.q.data.toList:=by rw[cp,bV,K];simp
       rw[Q]at B⊢;have i:=mT V;rw[Pp.goal,if_pos N]at i;obtain⟨z,J,g,j,_⟩:=lM i B
       refine lN d ((f z).2 (Or.inl (kW.2 ⟨J,?_⟩))) g j
       cases E:a8 z.path.data.toList c.p.data.toList with
       |false=>rfl
       |true=>rw[g]at E;rw[rI E B]at I;cases I
     · obtain⟨a,b,C,e2,o,G⟩:=xG (p:=c.p.data.toList) (r:=r)
       have O:a≠[]:=by
        intro Y;rw[Y]at o;rcases(eK _ _).1 o with h|⟨s,h⟩
        · exact mS (hD M) h.symm
        · have h:=congrArg List.length h
          simp at h
       have i:=u.pars e he1;rw[K,G]at i;obtain⟨z,J,g,j,_⟩:=lM i O
       have T:z∈dw L c:=jg.2 ⟨J,by rw[g];exact o⟩;refine lN d (x:=bG c n z) ((f _).2 (Or.inr ⟨z,T,rfl⟩)) ?_ j
       rw[mV,cp,g,cp,K,e2];obtain⟨s,hs⟩:=oL o
       have:bV (a++47::b) c.p.data.toList c.q.data.toList=bV a c.p.data.toList c.q.data.toList++47::b:=by
        rw[bV,bV,hs];simp
       rw[this,fE _ C]
theorem oP {L:List En} (f:Pp.Good L) {c:aE} {n:Int} (h:bW L c n=0):Pp.Good (cN L c n):=by
 have o:bm n=0:=by
  by_cases a:bm n=0
  · exact a
  · rw[bW,if_pos a]at h;exact h
 rw[bW,if_neg (fun x=>x o)]at h
 have g:aQ c=0:=by
  by_cases a:aQ c=0
  · exact a
  · rw[if_pos a]at h;exact h
 rw[if_neg (fun x=>x g)]at h
 have j:bN L c=0:=by
  by_cases a:bN L c=0
  · exact a
  · rw[if_pos a]at h;exact h
 rw[if_neg (fun x=>x j)]at h;split at h
 · cases h
 · rw[fk]at h
   rw[cN];by_cases i:c.k=1∨c.k=2
   · rw[if_pos i]at h⊢
     refine xH f g j o i fun s=>?_
     rw[if_pos s]at h;cases h
   · rw[if_neg i]at h⊢
     by_cases d:c.k=3
     · rw[if_pos d]at h⊢
       refine xL f g j o d ?_
       cases u:(dw L c).any (fun e=>bv (cp c e))with
       |false=>rfl
       |true=>rw[if_pos u]at h;cases h
     · rw[if_neg d]
       exact xI f c
theorem rK {a b:Bool} (h:a=b):Ending.returned (.bool a)= .returned (.bool b):=by rw[h]
def ep (c:UInt8):Bool:=decide (97≤(c.toNat:Int)∧(c.toNat:Int)≤122∨65≤(c.toNat:Int)∧(c.toNat:Int)≤90∨48≤(c.toNat:Int)∧(c.toNat:Int)≤57∨(c.toNat:Int)=45)
def cK (l:List UInt8):Bool:=decide (1≤l.length) && decide (l.length≤20) && l.all ep
def hY (l:List UInt8):Int:=if cK l=true then 0 else 1
theorem lO {l:List UInt8} (h:cK l=true):hY l=0:=if_pos h
theorem j8 {l:List UInt8} (h:cK l=false):hY l=1:=if_neg (by rw[h];decide)
theorem rL {l:List UInt8} (h:l.length<1):cK l=false:=by simp[cK];omega
theorem rM {l:List UInt8} (h:20<l.length):cK l=false:=by simp[cK];omega
theorem rN {l:List UInt8} {k:Nat} (a:k<l.length) (h:ep l[k]=false):cK l=false:=by
 have:l.all ep=false:=by
  rw[List.all_eq_false];exact⟨l[k],List.getElem_mem a,by simp[h]⟩
 simp[cK,this]
theorem rO {l:List UInt8} (a: ¬l.length<1) (c: ¬20<l.length) (h:l.all ep=true):cK l=true:=by
 simp only[cK,h,Bool.and_true,Bool.and_eq_true,decide_eq_true_eq];omega
theorem rP {l:List UInt8} {f:UInt8→Bool} {k:Nat} (c:k<l.length) (h:(l.take k).all f=true) (a:f l[k]=true):(l.take (k+1)).all f=true:=by
 rw[List.take_succ_eq_append_getElem c,List.all_append,h];simp[a]
theorem xM {c:UInt8} (h:97≤(c.toNat:Int)∧(c.toNat:Int)≤122∨65≤(c.toNat:Int)∧(c.toNat:Int)≤90∨48≤(c.toNat:Int)∧(c.toNat:Int)≤57):true=ep c:=by
 rw[ep,eq_comm,decide_eq_true_eq];omega
theorem xN {c:UInt8} (h: ¬(97≤(c.toNat:Int)∧(c.toNat:Int)≤122∨65≤(c.toNat:Int)∧(c.toNat:Int)≤90∨48≤(c.toNat:Int)∧(c.toNat:Int)≤57)):((c.toNat:Int)==45)=ep c:=by
 rw[ep,Bool.eq_iff_iff,beq_iff_eq,decide_eq_true_eq];omega
theorem rQ (c:UInt8) (w:World):
    Calls prog 163 #[.int .u8 (c.toNat:Int)] w fun e w'=>e= .returned (.bool (ep c))∧w'=w:=by
 go_enter func163,ntmps163
 go_wp2
 all_goals go_ret
 all_goals first
  |exact⟨rK (xM (by omega)),rfl⟩
  |exact⟨rK (xN (by omega)),rfl⟩
theorem lP (s:ByteArray) (w:World) (z:s.size≤maxLen):
    Calls prog 141 #[s] w fun e w'=>e= .returned (.int .i64 (hY s.data.toList))∧w'=w:=by
 unfold maxLen at z;have o:s.data.toList.length=s.size:=Array.length_toList;by_cases A:(s.size:Int)<1
 · rw[j8 (rL (by omega))]
   go_enter func141,ntmps141
   go_wp2;go_ret;exact⟨rfl,rfl⟩
 by_cases B:20<(s.size:Int)
 · rw[j8 (rM (by omega))]
   go_enter func141,ntmps141
   go_wp2;go_ret;exact⟨rfl,rfl⟩
 have f:Hid (s.data.toList.length=s.size):=o;have x:Hid (s.data.toList.all ep=true→hY s.data.toList=0):=fun h=>lO (rO (by omega) (by omega) h)
 clear o;go_enter func141,ntmps141
 go_wp2_with fail;go_loop [14] (fun i=> ∃k:Nat,k≤s.size∧i= .int .i64 k∧(s.data.toList.take k).all ep=true) (fun i=>s.size-(intOf i).toNat)
 case atStart=>exact⟨0,Nat.zero_le _,rfl,by simp⟩
 case round=>
  obtain⟨k,C,rfl,a⟩:=hrel
  have g:Hid ((s.data.toList.take k).all ep=true):=a;clear a;by_cases c:k<s.size
  · cases j:ep s[k]with
    |true=>
     have v:Hid ((s.data.toList.take (k+1)).all ep=true):=rP (by rw[f.out];exact c) g.out j;go_wp2_with (go_at_call 163;refine(rQ _ _).mono ?_;rintro e w' ⟨rfl,rfl⟩)
     go_round
     case rel=>exact⟨k+1,by omega,by go_num,v.out⟩
     case measure=>simp[intOf];omega
    |false=>
     have u:Hid (hY s.data.toList=1):=j8 (rN (by rw[f.out];exact c) j);go_wp2_with (go_at_call 163;refine(rQ _ _).mono ?_;rintro e w' ⟨rfl,rfl⟩)
     go_ret;exact⟨by rw[u.out];rfl,rfl⟩
  · have d:Hid (hY s.data.toList=0):=x.out (by have:=g.out;rwa [List.take_of_length_le (by rw[f.out];omega)]at this)
    go_wp2;go_ret;exact⟨by rw[d.out];rfl,rfl⟩
theorem lQ (s:ByteArray) (w:World) (I:s.size≤maxLen):
    Calls prog 52 #[s] w fun e w'=>e= .returned (.bool (cK s.data.toList))∧w'=w:=by
 unfold maxLen at I;have G:s.data.toList.length=s.size:=Array.length_toList;have d:Hid (s.data.toList.length=s.size):=G;clear G;go_enter func52,ntmps52
 go_wp2_with fail;go_loop [3] (fun i=> ∃k:Nat,k≤s.size∧i= .int .i64 k∧(s.data.toList.take k).all ep=true) (fun i=>s.size-(intOf i).toNat)
 case atStart=>exact⟨0,Nat.zero_le _,rfl,by simp⟩
 case round=>
  obtain⟨k,N,rfl,c⟩:=hrel
  have A:Hid ((s.data.toList.take k).all ep=true):=c;clear c;by_cases g:k<s.size
  · cases u:ep s[k]with
    |true=>
     have o:Hid ((s.data.toList.take (k+1)).all ep=true):=rP (by rw[d.out];exact g) A.out u;have f:=of_decide_eq_true u;rcases f with⟨z,F⟩|⟨z,F⟩|⟨z,F⟩|z
     · go_wp2_with fail
       go_round
       case rel=>exact⟨k+1,by omega,by go_num,o.out⟩
       case measure=>simp[intOf];omega
     · have x: ¬97≤(s[k].toNat:Int):=by omega
       go_wp2_with fail;go_round
       case rel=>exact⟨k+1,by omega,by go_num,o.out⟩
       case measure=>simp[intOf];omega
     · have x: ¬97≤(s[k].toNat:Int):=by omega
       have B: ¬65≤(s[k].toNat:Int):=by omega
       go_wp2_with fail;go_round
       case rel=>exact⟨k+1,by omega,by go_num,o.out⟩
       case measure=>simp[intOf];omega
     · have x: ¬97≤(s[k].toNat:Int):=by omega
       have B: ¬65≤(s[k].toNat:Int):=by omega
       have C: ¬48≤(s[k].toNat:Int):=by omega
       go_wp2_with fail;go_round
       case rel=>exact⟨k+1,by omega,by go_num,o.out⟩
       case measure=>simp[intOf];omega
    |false=>
     have j:Hid (cK s.data.toList=false):=rN (by rw[d.out];exact g) u;have f:=of_decide_eq_false u;have M:((s[k].toNat:Int)==45)=false:=by simp;omega
     by_cases x:97≤(s[k].toNat:Int)
     · have B: ¬(s[k].toNat:Int)≤122:=by omega
       have C:65≤(s[k].toNat:Int):=by omega
       have H: ¬(s[k].toNat:Int)≤90:=by omega
       have E:48≤(s[k].toNat:Int):=by omega
       have g7: ¬(s[k].toNat:Int)≤57:=by omega
       clear f;go_wp2;go_ret;exact⟨by rw[j.out];rfl,rfl⟩
     by_cases C:65≤(s[k].toNat:Int)
     · have H: ¬(s[k].toNat:Int)≤90:=by omega
       have E:48≤(s[k].toNat:Int):=by omega
       have g7: ¬(s[k].toNat:Int)≤57:=by omega
       clear f;go_wp2;go_ret;exact⟨by rw[j.out];rfl,rfl⟩
     by_cases E:48≤(s[k].toNat:Int)
     · have g7: ¬(s[k].toNat:Int)≤57:=by omega
       clear f;go_wp2;go_ret;exact⟨by rw[j.out];rfl,rfl⟩
     · clear f
       go_wp2;go_ret;exact⟨by rw[j.out];rfl,rfl⟩
  · have v:=hid (show s.data.toList.all ep=true from by have:=A.out;rwa [List.take_of_length_le (by rw[d.out];omega)]at this)
    by_cases J:1≤(s.size:Int)
    · by_cases K:(s.size:Int)≤20
      · have a:Hid (cK s.data.toList=true):=rO (by rw[d.out];omega) (by rw[d.out];omega) v.out
        go_wp2;go_ret;exact⟨by rw[a.out];rfl,rfl⟩
      · have a:Hid (cK s.data.toList=false):=rM (by rw[d.out];omega)
        go_wp2;go_ret;exact⟨by rw[a.out];rfl,rfl⟩
    · have a:Hid (cK s.data.toList=false):=rL (by rw[d.out];omega)
      go_wp2;go_ret;exact⟨by rw[a.out];rfl,rfl⟩
theorem rR (s:ByteArray) (w:World) (d:s.size≤1000000000000000) (h:aD s.data.toList=0):
    Calls prog 124 #[s] w fun e w'=>e= .returned (.tuple #[s,ah])∧Below w.heap.size w w':=by
 have c:Hid (aD s.data.toList=0):=h;clear h;go_enter func124,ntmps124
 go_wp2_with fail;refine(eV _ _ d).mono ?_
 rintro e f ⟨rfl,a⟩;rw[c.out];go_wp2;go_ret2;exact⟨rfl,a⟩
theorem xO (s:ByteArray) (w:World) (c:s.size≤1000000000000000) (h: ¬aD s.data.toList=0):
    Calls prog 124 #[s] w fun e w'=>e= .returned (.tuple #[.string ⟨#[]⟩,aD s.data.toList])∧Below w.heap.size w w':=by
 have d:(aD s.data.toList==0)=false:=by simpa using h
 clear h;go_enter func124,ntmps124
 go_wp2_with fail;refine(eV _ _ c).mono ?_
 rintro e f ⟨rfl,a⟩;go_wp2;go_ret2;exact⟨rfl,a⟩
theorem xP (s t:ByteArray) (w:World) (d:s.size≤1000000000000000) (f:t.size≤1000000000000000):
    Calls prog 125 #[s,t] w fun e w'=>e= .returned (.string ⟨(jE s.data.toList t.data.toList).toArray⟩)∧w'=w:=by
 cases a:s.toList.isEmpty with
 |true=>
  have c:=hid (show⟨(jE s.data.toList t.data.toList).toArray⟩=t from by rw[Lib.toList_data,List.isEmpty_iff]at a;rw[jE,if_pos a]);go_enter func125,ntmps125
  go_wp2;go_ret;exact⟨by rw[c.out];rfl,rfl⟩
 |false=>
  have c:=hid (show s++⟨#[47]⟩++t=⟨(jE s.data.toList t.data.toList).toArray⟩from gE (by
   rw[Lib.toList_data]at a;rw[Joins.data_append,Joins.data_append,jE,if_neg (by intro h;rw[h]at a;cases a)];simp))
  go_enter func125,ntmps125
  go_wp2;go_ret;exact⟨by rw[←c.out];rfl,rfl⟩
end Go.Proofs.YtdlpjlfefjipkaaGreat
