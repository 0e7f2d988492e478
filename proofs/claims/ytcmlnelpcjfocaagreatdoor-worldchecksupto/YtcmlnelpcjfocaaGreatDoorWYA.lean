/- Plain mathematics of paths: names between slashes, what is a name, what Check answers, parent and last name, what goes aside; lists of bytes alone, no program. -/
import Derived.WalkKit
import Derived.Lib.IndexMore
import Derived.Lib.LastIndexLaws
import Derived.Lib.CutLaws
import Derived.Lib.LastIndexByte
import Derived.Lib.TrimByte
import Derived.Lib.ItoaNum
import Derived.Lib.SmallJoins
import Derived.Lib.Bytealg
set_option linter.unusedSimpArgs false
set_option linter.unusedVariables false
namespace Go.Proofs.YtcmlnelpcjfocaaGreatDoor
open Go.RowKit
def dB (c:UInt8):Bool:=(97≤c && c≤122)||(65≤c && c≤90)||(48≤c && c≤57)||c==45||c==95||c==46||c==40||c==41||c==32
def aM (l:List UInt8):Bool:=l.all dB && decide (1≤l.length) && decide (l.length≤20) && (l.head? !=some 32) && (l.getLast? !=some 32) && l !=[46] && l !=[46,46]
def aj:List UInt8→List (List UInt8)
 |[]=>[[]]
 |c::r=>if c=47 then[]::aj r else match aj r with
  |[]=>[[c]]
  |h::t=>(c::h)::t
def Pp.big (l:List UInt8):Bool:=decide (6<(aj l).length)||decide (80<l.length)
def az (l:List UInt8):Int:=if(aj l).all aM=true then(if Pp.big l=true then 2 else 0)else 1
def cB:List (List UInt8)→List UInt8
 |[]=>[]
 |[a]=>a
 |a::b::r=>a++47::cB (b::r)
theorem kA (l:List UInt8):aj l≠[]:=by
 cases l with
 |nil=>simp[aj]
 | cons c r => rw [aj]; split; · simp
               split<;>simp
theorem kB: ∀(a:List UInt8),47∉a→aj a=[a]
 |[],_=>rfl
 |c::r,h=>by
  have d:c≠47:=fun e=>h (by simp[e])
  have f:47∉r:=fun e=>h (by simp[e])
  rw[aj,if_neg d,kB r f]
theorem pI: ∀(a b:List UInt8),47∉a→aj (a++47::b)=a::aj b
 |[],b,_=>by simp[aj]
 |c::r,b,h=>by
  have d:c≠47:=fun e=>h (by simp[e])
  have f:47∉r:=fun e=>h (by simp[e])
  rw[List.cons_append,aj,if_neg d,pI r b f]
theorem lh: ∀(l:List UInt8),cB (aj l)=l
 |[]=>rfl
 |c::r=>by
  have ih:=lh r;have d:=kA r;rw[aj];split
  · rename_i h
    subst h;cases e:aj r with
    |nil=>exact absurd e d
    |cons x t=>rw[e]at ih;simp[cB,ih]
  · cases e:aj r with
    |nil=>exact absurd e d
    |cons x t=>
     rw[e]at ih;cases t with
     |nil=>simp[cB]at ih⊢;exact ih
     |cons y u=>simp[cB]at ih⊢;exact ih
theorem jP: ∀(l:List UInt8),(aj l).length≤l.length+1
 |[]=>by simp[aj]
 |c::r=>by
  have ih:=jP r;rw[aj];split
  · simp;omega
  · cases e:aj r with
    |nil=>simp
    |cons x t=>rw[e]at ih;simp at ih⊢;omega
theorem tw (l:List UInt8) (c:UInt8):(Lib.indexByte l c= -1∧c∉l)∨ ∃i:Nat,Lib.indexByte l c=i∧i<l.length∧c∉l.take i∧l=l.take i++c::l.drop (i+1):=by
 induction l with
 |nil=>left;simp[Lib.indexByte]
 |cons b r ih=>
  by_cases h:b=c
  · right
    subst h;exact⟨0,by simp[Lib.indexByte],by simp,by simp,by simp⟩
  · rcases ih with⟨e,d⟩|⟨i,e,z,d,y⟩
    · left
      refine⟨?_,by simp[d,Ne.symm h]⟩
      simp[Lib.indexByte,e,h]
    · right
      refine⟨i+1,?_,by simp;omega,by simp[d,Ne.symm h],by simp[←y]⟩
      have f: ¬((i:Int)= -1):=by omega
      simp[Lib.indexByte,e,f,h]
theorem tz (a b:List UInt8) (c:UInt8) (h:c∉a):Lib.indexByte (a++c::b) c=a.length:=by
 induction a with
 |nil=>simp[Lib.indexByte]
 |cons x r ih=>
  have d: ¬x=c:=fun e=>h (by simp[e])
  have f:c∉r:=fun e=>h (by simp[e])
  have y: ¬((r.length:Int)= -1):=by omega
  simp[Lib.indexByte,d,ih f,y]
theorem tA (l:List UInt8) (c:UInt8) (h:c∉l):Lib.indexByte l c= -1:=by
 rcases tw l c with⟨e,_⟩|⟨i,_,f,_,d⟩
 · exact e
 · exact absurd (by rw[d];simp) h
theorem pJ (l:List UInt8) (c:UInt8) (h:c∈l): ∃a b,c∉a∧l=a++c::b:=by
 rcases tw l c with⟨_,d⟩|⟨i,e,y,d,f⟩
 · exact absurd h d
 · exact⟨_,_,d,f⟩
theorem dN {s:ByteArray} {l:List UInt8} (h:s.data.toList=l):s=⟨l.toArray⟩:=by
 cases s;subst h;simp
theorem lj (c:UInt8):dB c=true↔(97≤c.toNat∧c.toNat≤122)∨(65≤c.toNat∧c.toNat≤90)∨(48≤c.toNat∧c.toNat≤57)∨c.toNat=45∨c.toNat=95∨c.toNat=46∨c.toNat=40∨c.toNat=41∨c.toNat=32:=by
 simp[dB,UInt8.le_iff_toNat_le,←UInt8.toNat_inj,or_assoc]
theorem zx (c:UInt8):decide (0≤Lib.indexByte [45,95,46,40,41,32] c)=true↔c.toNat=45∨c.toNat=95∨c.toNat=46∨c.toNat=40∨c.toNat=41∨c.toNat=32:=by
 simp only[Lib.indexByte,beq_iff_eq,←UInt8.toNat_inj,decide_eq_true_eq];simp
 omega
theorem zy (c:UInt8) (h:(97≤c.toNat∧c.toNat≤122)∨(65≤c.toNat∧c.toNat≤90)∨(48≤c.toNat∧c.toNat≤57)):true=dB c:=
 ((lj c).2 (by omega)).symm
theorem zz (c:UInt8) (d: ¬(97≤c.toNat∧c.toNat≤122)) (f: ¬(65≤c.toNat∧c.toNat≤90)) (y: ¬(48≤c.toNat∧c.toNat≤57)):decide (0≤Lib.indexByte [45,95,46,40,41,32] c)=dB c:=by
 rw[Bool.eq_iff_iff,zx,lj];omega
theorem jQ (l:List UInt8):(⟨l.toArray⟩:ByteArray).size=l.length:=by rw[Lib.size_eq]
theorem bt {a b:Bool} (h:a=b):Ending.returned (.bool a)= .returned (.bool b):=by rw[h]
theorem aD {k:IntKind} {a b:Int} (h:a=b):Ending.returned (.int k a)= .returned (.int k b):=by rw[h]
theorem kC (s:ByteArray) (h:s.size<1∨20<s.size∨s.toList=[46]∨s.toList=[46,46]):false=aM s.data.toList:=by
 rw[ByteArray.toList_eq]at h;have y:s.size=s.data.toList.length:=Lib.size_eq s;rw[y]at h;generalize s.data.toList=l at h
 have: ¬(aM l=true):=by
  simp only[aM,Bool.and_eq_true,decide_eq_true_eq,bne_iff_ne];rintro ⟨⟨⟨⟨⟨⟨_,z⟩,A⟩,_⟩,_⟩,d⟩,f⟩;rcases h with h|h|h|h
  · omega
  · omega
  · exact d h
  · exact f h
 simpa using this
theorem tB (s:ByteArray) (d:0<s.size) (h:(s[0].toNat:Int)=32):false=aM s.data.toList:=by
 have f:0<s.data.toList.length:=by simpa using d
 have e:s.data.toList.head?=some s[0]:=by rw[List.head?_eq_getElem?,List.getElem?_eq_getElem f,byte_at' s 0 d f]
 have aE:s[0]=32:=UInt8.toNat_inj.1 (by simpa using Int.ofNat.inj h)
 have: ¬(aM s.data.toList=true):=by
  simp only[aM,Bool.and_eq_true,decide_eq_true_eq,bne_iff_ne,e,aE];rintro ⟨⟨⟨⟨⟨⟨_,_⟩,_⟩,y⟩,_⟩,_⟩,_⟩;exact y rfl
 simpa using this
theorem tC (s:ByteArray) (d:s.size-1<s.size) (h:(s[s.size-1].toNat:Int)=32):false=aM s.data.toList:=by
 have f:s.size-1<s.data.toList.length:=by simpa using d
 have e:s.data.toList.getLast?=some s[s.size-1]:=by rw[List.getLast?_eq_getElem?,←Lib.size_eq,List.getElem?_eq_getElem f,byte_at' s _ d f]
 have aE:s[s.size-1]=32:=UInt8.toNat_inj.1 (by simpa using Int.ofNat.inj h)
 have: ¬(aM s.data.toList=true):=by
  simp only[aM,Bool.and_eq_true,decide_eq_true_eq,bne_iff_ne,e,aE];rintro ⟨⟨⟨⟨⟨⟨_,_⟩,_⟩,_⟩,y⟩,_⟩,_⟩;exact y rfl
 simpa using this
theorem tD (s:ByteArray) (k:Nat) (d:k<s.size) (h:dB s[k]=false):false=aM s.data.toList:=by
 have f:k<s.data.toList.length:=by simpa using d
 have z:s[k]∈s.data.toList:=by rw[←byte_at' s k d f];exact List.getElem_mem f
 have: ¬(aM s.data.toList=true):=by
  simp only[aM,Bool.and_eq_true,decide_eq_true_eq,bne_iff_ne,List.all_eq_true];rintro ⟨⟨⟨⟨⟨⟨y,_⟩,_⟩,_⟩,_⟩,_⟩,_⟩;rw[y _ z]at h;cases h
 simpa using this
theorem tE (s:ByteArray) (H:1≤s.size) (I:s.size≤20) (z:s.toList≠[46]) (A:s.toList≠[46,46]) (y:0<s.size) (J:(s[0].toNat:Int)≠32)
    (E:s.size-1<s.size) (K:(s[s.size-1].toNat:Int)≠32) (M:s.data.toList.all dB=true):true=aM s.data.toList:=by
 rw[ByteArray.toList_eq]at z A;have F:0<s.data.toList.length:=by simpa using y
 have e:s.data.toList.head?=some s[0]:=by rw[List.head?_eq_getElem?,List.getElem?_eq_getElem F,byte_at' s 0 y F]
 have f:s.size-1<s.data.toList.length:=by simpa using E
 have G:s.data.toList.getLast?=some s[s.size-1]:=by rw[List.getLast?_eq_getElem?,←Lib.size_eq,List.getElem?_eq_getElem f,byte_at' s _ E f]
 symm
 simp only[aM,Bool.and_eq_true,decide_eq_true_eq,bne_iff_ne,e,G,←Lib.size_eq];refine⟨⟨⟨⟨⟨⟨M,H⟩,I⟩,?_⟩,?_⟩,z⟩,A⟩
 · intro d;rw[Option.some.injEq]at d;exact J (by rw[d];rfl)
 · intro d;rw[Option.some.injEq]at d;exact K (by rw[d];rfl)
theorem zA (s:ByteArray) (k:Nat) (h:k<s.size):s.data.toList.take (k+1)=s.data.toList.take k++[s[k]]:=by
 rw[List.take_succ_eq_append_getElem (by simpa using h)];rfl
theorem tF (s:ByteArray) (k:Nat) (h:k<s.size) (d:(s.data.toList.take k).all dB=true) (f:dB s[k]=true):(s.data.toList.take (k+1)).all dB=true:=by
 rw[zA s k h,List.all_append,d];simp[f]
theorem tG (s:ByteArray) {dn:List (List UInt8)} (d:aj s.data.toList=dn) (f:dn.all aM=true) (hb:(6:Int)<dn.length∨(80:Int)<s.size):2=az s.data.toList:=by
 have:Pp.big s.data.toList=true:=by
  simp only[Pp.big,d,Bool.or_eq_true,decide_eq_true_eq,←Lib.size_eq];omega
 simp[az,d,f,this]
theorem zB (s:ByteArray) {dn:List (List UInt8)} (d:aj s.data.toList=dn) (f:dn.all aM=true) (y:(dn.length:Int)≤6) (z:(s.size:Int)≤80):0=az s.data.toList:=by
 have:Pp.big s.data.toList=false:=by
  simp only[Pp.big,d,Bool.or_eq_false_iff,decide_eq_false_iff_not,←Lib.size_eq];omega
 simp[az,d,f,this]
theorem pK (s:ByteArray) {dn r:List (List UInt8)} {n:List UInt8} (d:aj s.data.toList=dn++n::r) (h:aM n=false):1=az s.data.toList:=by
 simp[az,d,h]
theorem pL {dn:List (List UInt8)} {n:List UInt8} (h:dn.all aM=true) (d:aM n=true):(dn++[n]).all aM=true:=by
 rw[List.all_append,h];simp[d]
theorem zC (s t:ByteArray) {dn:List (List UInt8)} (h:aj s.data.toList=dn++aj t.data.toList):dn.length+1≤s.size+1:=by
 have d:=jP s.data.toList;have f:(aj t.data.toList).length≠0:=fun e=>kA _ (List.length_eq_zero_iff.1 e)
 rw[h,List.length_append,←Lib.size_eq]at d;omega
theorem m5 (a b:List UInt8):aj (a++47::b)=aj a++aj b:=by
 induction a with
 |nil=>simp[aj]
 |cons c r ih=>
  rw[List.cons_append,aj,aj,ih];split
  · simp
  · cases e:aj r with
    |nil=>exact absurd e (kA r)
    |cons x t=>simp
def aC (l:List UInt8):List UInt8:=cB (aj l).dropLast
def Pp.lst (l:List UInt8):List UInt8:=(aj l).getLastD []
theorem m6 {l:List UInt8} (h:47∉l):aC l=[]:=by simp[aC,kB l h,cB]
theorem Pp.lst_none {l:List UInt8} (h:47∉l):Pp.lst l=l:=by simp[Pp.lst,kB l h]
theorem gn (a:List UInt8) {b:List UInt8} (h:47∉b):aC (a++47::b)=a:=by
 rw[aC,m5,kB b h,List.dropLast_concat,lh]
theorem zD (a:List UInt8) {b:List UInt8} (h:47∉b):Pp.lst (a++47::b)=b:=by
 rw[Pp.lst,m5,kB b h];simp
theorem tH (s:ByteArray) (k:Nat) (h:k<s.data.toList.length):s.data[k]! =s.data.toList[k]:=by
 have d:k<s.data.size:=by simpa using h
 rw[getElem!_pos s.data k d,Array.getElem_toList]
theorem zE (s:ByteArray) (c:UInt8):(Lib.lastIndexByte s (c.toNat:Int)= -1∧c∉s.data.toList)∨
    ∃a b,Lib.lastIndexByte s (c.toNat:Int)=(a.length:Int)∧c∉b∧s.data.toList=a++c::b:=by
 have f: ∀j (d:j<s.data.toList.length),((s.data[j]!).toNat:Int)≠c.toNat→s.data.toList[j]≠c:=by
  intro j d h e;rw[tH s j d,e]at h;exact h rfl
 rcases Lib.lastIndexByte_spec s c.toNat with⟨e,E⟩|⟨i,z,e,F,E⟩
 · left
   refine⟨e,fun A=>?_⟩
   obtain⟨j,d,y⟩:=List.getElem_of_mem A
   exact f j d (E j (by rw[Lib.size_eq];exact d)) y
 · right
   rw[Lib.size_eq]at z
   have G:s.data.toList[i]=c:=by
    rw[tH s i z]at F;exact UInt8.toNat_inj.1 (Int.ofNat.inj F)
   refine⟨s.data.toList.take i,s.data.toList.drop (i+1),by rw[e,List.length_take];omega,fun A=>?_,?_⟩
   · obtain⟨j,d,y⟩:=List.getElem_of_mem A
     rw[List.length_drop]at d;rw[List.getElem_drop]at y;exact f (i+1+j) (by omega) (E (i+1+j) (by omega) (by rw[Lib.size_eq];omega)) y
   · conv=>lhs;rw[←List.take_append_drop i s.data.toList,List.drop_eq_getElem_cons z,G]
def kD (p n:List UInt8):List UInt8:=if p=[]then n else p++47::n
def cd:List (List UInt8)→Int
 |[]=>0
 |a::r=>if az a=0 then cd r else az a
def lW (e:Int) (x:List UInt8):List UInt8:=if e=0 then x else[]
theorem gu {e:Int} (h:e=0) (x:List UInt8):lW e x=x:=if_pos h
theorem m7 {e:Int} (h: ¬e=0) (x:List UInt8):lW e x=[]:=if_neg h
theorem pM (l:List UInt8):(aC l).length≤l.length:=by
 by_cases h:47∈l.reverse
 · obtain⟨a,b,f,d⟩:=pJ _ _ h
   have e:l=b.reverse++47::a.reverse:=by
    have:=congrArg List.reverse d
    simpa using this
   rw[e,gn _ (by simpa using f)];simp
 · rw[m6 (by simpa using h)];simp
theorem tI (d:List (List UInt8)) (x:List UInt8) (h:d≠[]):cB (d++[x])=cB d++47::x:=by
 induction d with
 |nil=>exact absurd rfl h
 |cons a r ih=>
  cases r with
  |nil=>simp[cB]
  |cons b t=>
   have:=ih (by simp)
   simp only[List.cons_append,cB]at this⊢;rw[this];simp
theorem tJ (d e:List (List UInt8)) (f:d≠[]) (y:e≠[]):cB (d++e)=cB d++47::cB e:=by
 induction d with
 |nil=>exact absurd rfl f
 |cons a r ih=>
  cases r with
  |nil=>
   cases e with
   |nil=>exact absurd rfl y
   |cons b t=>simp[cB]
  |cons b t=>
   have:=ih (by simp)
   simp only[List.cons_append,cB]at this⊢;rw[this];simp
theorem pN (L:List (List UInt8)) (k:Nat):(cB (L.take k)).length≤(cB L).length:=by
 by_cases d:L.take k=[]
 · rw[d];simp[cB]
 by_cases f:L.drop k=[]
 · have:L.take k=L:=by
    have:=List.take_append_drop k L
    rw[f,List.append_nil]at this;exact this
   rw[this];exact Nat.le_refl _
 · conv=>rhs;rw[←List.take_append_drop k L,tJ _ _ d f]
   rw[List.length_append];omega
theorem zF (L:List (List UInt8)) (k:Nat) (h:k<L.length) (d:0<k):(⟨(cB (L.take k)).toArray⟩:ByteArray)++⟨#[47]⟩++⟨(L[k]).toArray⟩=⟨(cB (L.take (k+1))).toArray⟩:=by
 apply dN
 rw[Joins.data_append,Joins.data_append,List.take_succ_eq_append_getElem h,tI _ _ (by intro e;have:=List.length_take_of_le (show k≤L.length by omega);rw[e]at this;simp at this;omega)];simp
theorem zG (L:List (List UInt8)) (h:0<L.length):(⟨#[]⟩:ByteArray)++⟨(L[0]).toArray⟩=⟨(cB (L.take 1)).toArray⟩:=by
 apply dN
 rw[Joins.data_append];cases L with
 |nil=>simp at h
 |cons a r=>simp[cB]
theorem zH (L:List (List UInt8)) (k:Nat) (h:k<L.length):(L[k]).length≤(cB L).length:=by
 have d:=pN L (k+1);rw[List.take_succ_eq_append_getElem h]at d;by_cases e:L.take k=[]
 · rw[e]at d;simpa[cB]using d
 · rw[tI _ _ e]at d;simp at d;omega
theorem zI {a b:List UInt8} (h:aj a=aj b):a=b:=by rw[←lh a,←lh b,h]
theorem pO {l:List UInt8} (h:az l=0):(aj l).all aM=true:=by
 unfold az at h;split at h
 · assumption
 · simp at h
theorem pP {l:List UInt8} (h:(aj l).all aM=true):az l=if Pp.big l=true then 2 else 0:=by
 rw[az,if_pos h]
theorem zJ {l:List UInt8} (h:az l=0):Pp.big l=false:=by
 rw[pP (pO h)]at h;cases e:Pp.big l with
 |false=>rfl
 |true=>rw[e]at h;simp at h
theorem zK {a b:List (List UInt8)} (h:a.all aM=true) (d:b.all aM=true):(a++b).all aM=true:=by
 rw[List.all_append,h,d];rfl
def aU (p q:List UInt8):Bool:=(aj q).isPrefixOf (aj p)
theorem fy (p q:List UInt8):aU p q=true↔p=q∨ ∃r,p=q++47::r:=by
 unfold aU;rw[List.isPrefixOf_iff_prefix];constructor
 · rintro ⟨t,d⟩
   by_cases e:t=[]
   · left
     rw[e,List.append_nil]at d;exact(zI d).symm
   · right
     refine⟨cB t,?_⟩
     rw[←lh p,←d,tJ _ _ (kA q) e,lh]
 · rintro (h|⟨r,h⟩)
   · rw[h];exact List.prefix_refl _
   · rw[h,m5];exact List.prefix_append _ _
theorem zL (p q:List UInt8):(p==q||Lib.hasPrefix p (q++[47]))=aU p q:=by
 rw[Bool.eq_iff_iff,fy,Bool.or_eq_true,beq_iff_eq,Lib.hasPrefix,List.isPrefixOf_iff_prefix];constructor
 · rintro (h|⟨t,h⟩)
   · exact Or.inl h
   · exact Or.inr ⟨t,by rw[←h];simp⟩
 · rintro (h|⟨t,h⟩)
   · exact Or.inl h
   · exact Or.inr ⟨t,by rw[h];simp⟩
def bW (p f t:List UInt8):List UInt8:=t++p.drop f.length
theorem tK {p f:List UInt8} (t:List UInt8) (h:aU p f=true):aj (bW p f t)=aj t++(aj p).drop (aj f).length:=by
 rcases(fy p f).1 h with e|⟨r,e⟩
 · subst e;simp[bW]
 · have:p.drop f.length=47::r:=by rw[e];simp
   rw[bW,this,m5,e,m5];simp
theorem zM {p f:List UInt8} (t:List UInt8) (h:aU p f=true):cB (aj t++(aj p).drop (aj f).length)=bW p f t:=by
 rw[←tK t h,lh]
def iD (p f t:List UInt8):Int:=if cd [p,f,t]=0 then(if aU p f=true then az (bW p f t)else 5)else cd [p,f,t]
theorem pQ {a:List UInt8} {r:List (List UInt8)} (h:cd (a::r)=0):az a=0∧cd r=0:=by
 unfold cd at h;split at h
 · rename_i e;exact⟨e,h⟩
 · rename_i e;exact absurd h e
theorem tL {p f t:List UInt8} (h:cd [p,f,t]=0) (z:aU p f=true):az (bW p f t)=if Pp.big (bW p f t)=true then 2 else 0:=by
 obtain⟨d,h⟩:=pQ h
 obtain⟨E,h⟩:=pQ h
 obtain⟨y,_⟩:=pQ h
 apply pP
 rw[tK t z];refine zK (pO y) ?_
 have:=pO d
 rw[List.all_eq_true]at this⊢;exact fun x A=>this x (List.mem_of_mem_drop A)
structure En where
 path:ByteArray
 folder:Bool
 text:ByteArray
 ver:Int
def dp (w:World) (b o:Nat) (e:En):Prop:=w.cell? ⟨b,o,none⟩=some (.string e.path)∧w.cell? ⟨b,o+1,none⟩=some (.bool e.folder)∧w.cell? ⟨b,o+2,none⟩=some (.string e.text)∧w.cell? ⟨b,o+3,none⟩=some (.int .i64 e.ver)
def an (w:World) (v:Value) (L:List En):Prop:= ∃a cap,v= .slice a L.length cap∧L.length≤cap∧L.length≤1000000000000000∧ ∀i (h:i<L.length),∃b o,a=some ⟨b,o,none⟩∧b<w.heap.size∧dp w b (o+i*4) L[i]
theorem dp.below {w w':World} {b o:Nat} {e:En} (h:dp w b o e) (hb:b<w.heap.size) (d:Below w.heap.size w w'):dp w' b o e:=
 ⟨(d.cell (p:=⟨b,o,none⟩) hb).trans h.1,(d.cell (p:=⟨b,o+1,none⟩) hb).trans h.2.1,(d.cell (p:=⟨b,o+2,none⟩) hb).trans h.2.2.1,(d.cell (p:=⟨b,o+3,none⟩) hb).trans h.2.2.2⟩
theorem an.below {w w':World} {v:Value} {L:List En} (h:an w v L) (f:Below w.heap.size w w'):an w' v L:=by
 obtain⟨a,d,H,y,z,A⟩:=h
 refine⟨a,d,H,y,z,fun i G=>?_⟩
 obtain⟨b,o,E,hb,F⟩:=A i G
 exact⟨b,o,E,Nat.lt_of_lt_of_le hb f.size,F.below hb f⟩
theorem dO {w f:World} {a b c d:Value} {T:TypeId} (h:Below (w.alloc (.cells #[a,b,c,d] T)).heap.size (w.alloc (.cells #[a,b,c,d] T)) f):
    f.cell? ⟨w.heap.size,0,none⟩=some a∧f.cell? ⟨w.heap.size,1,none⟩=some b∧f.cell? ⟨w.heap.size,2,none⟩=some c∧f.cell? ⟨w.heap.size,3,none⟩=some d∧Below w.heap.size w f∧w.heap.size<f.heap.size:=by
 have y:w.heap.size<(w.alloc (.cells #[a,b,c,d] T)).heap.size:=by simp
 refine⟨?_,?_,?_,?_,((Below.refl _ _).alloc (Nat.le_refl _) _).trans (h.mono (Nat.le_of_lt y)),Nat.lt_of_lt_of_le y h.size⟩
 · exact(h.cell (p:=⟨w.heap.size,0,none⟩) y).trans (by simp)
 · exact(h.cell (p:=⟨w.heap.size,1,none⟩) y).trans (by simp)
 · exact(h.cell (p:=⟨w.heap.size,2,none⟩) y).trans (by simp)
 · exact(h.cell (p:=⟨w.heap.size,3,none⟩) y).trans (by simp)
theorem ip {w f:World} {a b c d:Value} {T:TypeId} (h:Below (w.alloc (.cells #[a,b,c,d] T)).heap.size (w.alloc (.cells #[a,b,c,d] T)) f) (i:Nat):f.frozen? ⟨w.heap.size,i,none⟩=false:=
 (h.frozen (p:=⟨w.heap.size,i,none⟩) (by simp)).trans (World.frozen?_alloc_at _ _ _ _ rfl)
theorem zN {w d:World} {a:Value} {T:TypeId} (h:Below (w.alloc (.cells #[a] T)).heap.size (w.alloc (.cells #[a] T)) d):
    d.cell? ⟨w.heap.size,0,none⟩=some a∧Below w.heap.size w d∧w.heap.size<d.heap.size:=by
 have f:w.heap.size<(w.alloc (.cells #[a] T)).heap.size:=by simp
 refine⟨?_,((Below.refl _ _).alloc (Nat.le_refl _) _).trans (h.mono (Nat.le_of_lt f)),Nat.lt_of_lt_of_le f h.size⟩
 exact(h.cell (p:=⟨w.heap.size,0,none⟩) f).trans (by simp)
def bi (n:Int):Int:=if n<1∨1000000<n then 3 else 0
def bM (e:En):Int:=if az e.path.data.toList=0 then(if e.folder=true∧ ¬e.text.data.toList=[]then 1 else if 300<e.text.size then 2 else bi e.ver)else az e.path.data.toList
def cK:List En→Int
 |[]=>0
 |e::r=>if bM e=0 then cK r else bM e
def Pp.lt (a b:En):Bool:=Op.bytesLess a.path.toList b.path.toList
def dX:List En→Bool
 |[]=>true
 |[_]=>true
 |a::b::r=>Pp.lt a b && dX (b::r)
def aO (p:List UInt8) (e:En):Bool:=e.path.data.toList==p
def aP (L:List En) (p:List UInt8):Int:=if p=[]then 0 else match L.find? (aO p)with
 |none=>5
 |some e=>if e.folder=true then 0 else 4
def bw (L:List En) (e:En):Int:=aP L (aC e.path.data.toList)
def fh (L M:List En):Int:=if M.any (fun e=>bw L e==5)=true then 5 else if M.any (fun e=>bw L e==4)=true then 4 else 0
def aH (L:List En):Int:=if 60<L.length then 2 else if cK L=0 then(if dX L=true then fh L L else 4)else cK L
theorem pR (L:List En) (p:List UInt8):aP L p=0∨aP L p=4∨aP L p=5:=by
 unfold aP;split
 · simp
 · split
   · simp
   · split<;>simp
theorem gv {e:En} (h:bM e=0):az e.path.data.toList=0:=by
 unfold bM at h;split at h
 · assumption
 · rename_i d;exact absurd h d
theorem tM {L:List En} (h:cK L=0): ∀e∈L,bM e=0:=by
 induction L with
 |nil=>intro e d;cases d
 |cons a r ih=>
  unfold cK at h;split at h
  · rename_i f
    intro e d;rcases List.mem_cons.1 d with rfl|d
    · exact f
    · exact ih h e d
  · rename_i f;exact absurd h f
theorem m8: ∀a:List UInt8,Lib.compareBytes a a=0
 |[]=>rfl
 |a::r=>by simp[Lib.compareBytes,m8 r]
theorem ln: ∀a b:List UInt8,Lib.compareBytes b a= -Lib.compareBytes a b
 |[],[]=>rfl
 |[],_::_=>rfl
 |_::_,[]=>rfl
 |a::r,b::s=>by
  rw[Lib.compareBytes,Lib.compareBytes];by_cases d:a<b
  · have f: ¬b<a:=fun h=>by rw[UInt8.lt_iff_toNat_lt]at h d;omega
    simp[d,f]
  · by_cases f:b<a
    · simp[d,f]
    · simp[d,f,ln r s]
theorem jR: ∀a b:List UInt8,Lib.compareBytes a b=0→a=b
 |[],[],_=>rfl
 |[],_::_,h=>by simp[Lib.compareBytes]at h
 |_::_,[],h=>by simp[Lib.compareBytes]at h
 |a::r,b::s,h=>by
  rw[Lib.compareBytes]at h;by_cases d:a<b
  · simp[d]at h
  · by_cases f:b<a
    · simp[d,f]at h
    · simp only[d,f,if_false]at h
      have e:a=b:=UInt8.toNat_inj.1 (by rw[UInt8.lt_iff_toNat_lt]at d f;omega);rw[e,jR r s h]
theorem m9: ∀a b c:List UInt8,Lib.compareBytes a b<0→Lib.compareBytes b c<0→Lib.compareBytes a c<0
 |[],[],_,h,_=>by simp[Lib.compareBytes]at h
 |_,_::_,[],_,h=>by simp[Lib.compareBytes]at h
 |_::_,[],_,h,_=>by simp[Lib.compareBytes]at h
 |[],_::_,_::_,_,_=>by simp[Lib.compareBytes]
 |a::r,b::s,c::t,h1,h2=>by
  rw[Lib.compareBytes]at h1 h2⊢;simp only[UInt8.lt_iff_toNat_lt]at*;by_cases f:a.toNat<b.toNat
  · by_cases d:b.toNat<c.toNat
    · rw[if_pos (by omega)];omega
    · by_cases al:c.toNat<b.toNat
      · rw[if_neg d,if_pos al]at h2;omega
      · rw[if_pos (by omega)];omega
  · by_cases aY:b.toNat<a.toNat
    · rw[if_neg f,if_pos aY]at h1;omega
    · rw[if_neg f,if_neg aY]at h1
      by_cases d:b.toNat<c.toNat
      · rw[if_pos (by omega)];omega
      · by_cases al:c.toNat<b.toNat
        · rw[if_neg d,if_pos al]at h2;omega
        · rw[if_neg d,if_neg al]at h2
          rw[if_neg (by omega),if_neg (by omega)];exact m9 r s t h1 h2
theorem nd: ∀a b:List UInt8,Op.bytesLess a b=decide (Lib.compareBytes a b<0)
 |[],[]=>by simp[Op.bytesLess,Lib.compareBytes]
 |[],_::_=>by simp[Op.bytesLess,Lib.compareBytes]
 |_::_,[]=>by simp[Op.bytesLess,Lib.compareBytes]
 |a::r,b::s=>by
  have ih:=nd r s;rw[Lib.compareBytes];by_cases d:a<b
  · simp[Op.bytesLess,d]
  · by_cases f:b<a
    · simp[Op.bytesLess,d,f];try (intro e;subst e;exact absurd f (by simp))
    · have e:a=b:=UInt8.toNat_inj.1 (by rw[UInt8.lt_iff_toNat_lt]at d f;omega)
      subst e;simp[Op.bytesLess,ih]
def Pp.cfE (x y:En):Int:=Lib.compareBytes x.path.data.toList y.path.data.toList
theorem iF (x y:En):Pp.lt x y=decide (Pp.cfE x y<0):=by rw[Pp.lt,nd,Lib.toList_data,Lib.toList_data];rfl
theorem fA (x:En):Pp.lt x x=false:=by rw[iF,Pp.cfE,m8];rfl
theorem hU (x y z:En) (d:Pp.lt x y=true) (f:Pp.lt y z=true):Pp.lt x z=true:=by
 rw[iF]at*;simp only[decide_eq_true_eq]at*;exact m9 _ _ _ d f
theorem zO (x y z:En) (d:Pp.lt x y=false) (f:Pp.lt y z=false):Pp.lt x z=false:=by
 rw[iF,decide_eq_false_iff_not]at d f⊢;unfold Pp.cfE at d f⊢;intro h;have E:=ln x.path.data.toList y.path.data.toList;have F:=ln y.path.data.toList z.path.data.toList;by_cases A:Lib.compareBytes x.path.data.toList y.path.data.toList=0
 · rw[jR _ _ A]at h;exact f h
 · by_cases aE:Lib.compareBytes y.path.data.toList z.path.data.toList=0
   · rw[←jR _ _ aE]at h;exact d h
   · have:=m9 _ _ _ (show Lib.compareBytes z.path.data.toList y.path.data.toList<0 by omega) (show Lib.compareBytes y.path.data.toList x.path.data.toList<0 by omega)
     have G:=ln x.path.data.toList z.path.data.toList;omega
theorem lX {x y:En} (d:Pp.lt x y=false) (f:Pp.lt y x=false):x.path.data.toList=y.path.data.toList:=by
 rw[iF,decide_eq_false_iff_not]at d f;unfold Pp.cfE at d f;have z:=ln x.path.data.toList y.path.data.toList;exact jR _ _ (by omega)
theorem pS: ∀{a b:List En},a.Perm b→a.Pairwise (fun x y=>Pp.lt x y=true)→b.Pairwise (fun x y=>Pp.lt x y=true)→a=b
 |[],b,h,_,_=>by rw[List.nil_perm]at h;exact h.symm
 |x::r,b,h,h1,h2=>by
  cases b with
  |nil=>exact absurd h.length_eq (by simp)
  |cons y s=>
   have e:x=y:=by
    have d:x∈y::s:=h.subset (List.mem_cons_self ..);have f:y∈x::r:=h.symm.subset (List.mem_cons_self ..);rcases List.mem_cons.1 d with e|d
    · exact e
    · rcases List.mem_cons.1 f with e|f
      · exact e.symm
      · have z:=(List.pairwise_cons.1 h1).1 y f
        have A:=(List.pairwise_cons.1 h2).1 x d;have:=hU x y x z A
        rw[fA]at this;cases this
   subst e;rw[pS (List.perm_cons x|>.1 h) (List.pairwise_cons.1 h1).2 (List.pairwise_cons.1 h2).2]
theorem pT: ∀(L:List En),dX L=true↔L.Pairwise (fun x y=>Pp.lt x y=true)
 |[]=>by simp[dX]
 |[_]=>by simp[dX]
 |a::b::r=>by
  rw[dX,Bool.and_eq_true,pT (b::r)];constructor
  · rintro ⟨f,z⟩
    refine List.pairwise_cons.2 ⟨fun x d=>?_,z⟩
    rcases List.mem_cons.1 d with rfl|d
    · exact f
    · exact hU a b x f ((List.pairwise_cons.1 z).1 x d)
  · intro h
    have h:=List.pairwise_cons.1 h;exact⟨h.1 b (by simp),h.2⟩
def cg (x:En):List En→List En
 |[]=>[x]
 |y::r=>if Pp.lt y x=true then y::cg x r else x::y::r
theorem kE (x:En): ∀L:List En,(cg x L).Perm (x::L)
 |[]=>List.Perm.refl _
 |y::r=>by
  rw[cg];split
  · exact((kE x r).cons y).trans (List.Perm.swap x y r)
  · exact List.Perm.refl _
theorem n7 (x:En): ∀{L:List En},L.Pairwise (fun x y=>Pp.lt x y=true)→(∀y∈L,y.path.data.toList≠x.path.data.toList)→(cg x L).Pairwise (fun x y=>Pp.lt x y=true)
 |[],_,_=>by simp[cg]
 |y::r,h,hne=>by
  rw[cg];split
  · rename_i A
    rw[List.pairwise_cons];refine⟨fun z d=>?_,n7 x (List.pairwise_cons.1 h).2 fun z d=>hne z (List.mem_cons_of_mem _ d)⟩
    rcases List.mem_cons.1 ((kE x r).subset d)with rfl|d
    · exact A
    · exact(List.pairwise_cons.1 h).1 z d
  · rename_i A
    have E:Pp.lt y x=false:=by simpa using A
    have f:Pp.lt x y=true:=by
     cases e:Pp.lt x y with
     |true=>rfl
     |false=>exact absurd (lX E e) (hne y (by simp))
    rw[List.pairwise_cons];refine⟨fun z d=>?_,h⟩
    rcases List.mem_cons.1 d with rfl|d
    · exact f
    · exact hU x y z f ((List.pairwise_cons.1 h).1 z d)
theorem zP {x:En} {L M:List En} (I:M.Perm (L++[x])) (H:M.Pairwise (fun a b=>Pp.lt b a=false)) (G:L.Pairwise (fun x y=>Pp.lt x y=true)) (E: ∀y∈L,y.path.data.toList≠x.path.data.toList):M=cg x L:=by
 have F:=n7 x G E;have d:M.Perm (cg x L):=I.trans ((List.perm_append_singleton x L).trans (kE x L).symm);refine pS d ?_ F
 have A:(cg x L).Pairwise (fun a b=>a.path.data.toList≠b.path.data.toList):=F.imp fun {a b} h e=>by
  have:Pp.lt a b=Pp.lt a a:=by rw[iF,iF];unfold Pp.cfE;rw[←e]
  rw[this,fA]at h;cases h
 have z:M.Pairwise (fun a b=>a.path.data.toList≠b.path.data.toList):=d.symm.pairwise A (fun h e=>h e.symm);have f:=H.and z;refine f.imp fun {a b} h=>?_
 cases e:Pp.lt a b with
 |true=>rfl
 |false=>exact absurd (lX e h.1) h.2
structure ay where
 k:Int
 p:ByteArray
 q:ByteArray
 t:ByteArray
 b:Int
def aQ (c:ay):Int:=
 if c.k<1∨4<c.k then 7 else if¬az c.p.data.toList=0 then az c.p.data.toList
 else if c.k=3∧ ¬az c.q.data.toList=0 then az c.q.data.toList
 else if(¬c.k=3∧ ¬c.q.data.toList=[])∨(¬c.k=2∧ ¬c.t.data.toList=[])then 1
 else if 300<c.t.size then 2 else if c.b< -1∨1000000<c.b then 3 else 0
def Pp.goal (c:ay):List UInt8:=if c.k=3 then c.q.data.toList else c.p.data.toList
def bP (L:List En) (c:ay):Int:=
 if¬aP L (aC (Pp.goal c))=0 then aP L (aC (Pp.goal c))else match L.find? (aO c.p.data.toList)with
 |none=>if c.k=3∨c.k=4 then 5 else 0
 |some x=>if c.k=1 then 6 else if c.k=2 then(if x.folder=true then 4 else 0)
  else if c.k=3 then(if aU c.q.data.toList c.p.data.toList=true then 3 else if(L.find? (aO c.q.data.toList)).isSome=true then 6 else 0)else 0
def be (q:List UInt8) (e:En):Bool:=aU e.path.data.toList q
def dd (q:List UInt8) (b:Int) (e:En):Bool:=decide (b<e.ver) && be q e
def dP (L:List En) (c:ay):Bool:= !(c.b== -1) && L.any (dd c.p.data.toList c.b)
def Pp.newE (c:ay) (n:Int):En:=⟨c.p,decide (c.k=1),c.t,n⟩
def cL (x:En) (L:List En):List En:=L.filter (fun e=> !aO x.path.data.toList e)
def cW (L:List En) (c:ay):List En:=L.filter (fun e=> !be c.p.data.toList e)
def cn (c:ay) (e:En):List UInt8:=bW e.path.data.toList c.p.data.toList c.q.data.toList
def bx (c:ay) (n:Int) (e:En):En:=⟨⟨(cn c e).toArray⟩,e.folder,e.text,if e.path.data.toList=c.p.data.toList then n else e.ver⟩
def dw (L:List En) (c:ay):List En:=L.filter (be c.p.data.toList)
def fB (L:List En) (c:ay) (n:Int):List En:=(dw L c).map (bx c n)
def fC (ms K:List En):List En:=ms.foldl (fun a x=>cg x a) K
def gx (L:List En) (c:ay) (n:Int):Int:=
 if c.k=1∨c.k=2 then(if 60<(cL (Pp.newE c n) L).length+1 then 2 else 0)
 else if c.k=3 then(if(dw L c).any (fun e=>Pp.big (cn c e))=true then 2 else 0)else 0
def cQ (L:List En) (c:ay) (n:Int):List En:=
 if c.k=1∨c.k=2 then cg (Pp.newE c n) (cL (Pp.newE c n) L)
 else if c.k=3 then fC (fB L c n) (cW L c)else cW L c
def bX (L:List En) (c:ay) (n:Int):Int:=
 if¬bi n=0 then bi n else if¬aQ c=0 then aQ c else if¬bP L c=0 then bP L c else if dP L c=true then 8 else gx L c n
theorem lY: ∀(d K:List En),(fC d K).Perm (K++d)
 |[],K=>by simp[fC]
 |x::r,K=>by
  have h:=lY r (cg x K);refine(show fC (x::r) K=fC r (cg x K)from rfl)▸h.trans ?_
  refine((kE x K).append_right r).trans ?_
  exact(List.perm_middle (l₁:=K) (a:=x) (l₂:=r)).symm
def gJ (a b:En):Prop:=a.path.data.toList≠b.path.data.toList
theorem tN {a b:En} (h:gJ a b):gJ b a:=fun e=>h e.symm
theorem lZ {a b:En} (h:Pp.lt a b=true):gJ a b:=fun e=>by
 have:Pp.lt a b=Pp.lt a a:=by rw[iF,iF];unfold Pp.cfE;rw[←e]
 rw[this,fA]at h;cases h
theorem n8: ∀(f:List En) {K:List En},K.Pairwise (fun x y=>Pp.lt x y=true)→(K++f).Pairwise gJ→(fC f K).Pairwise (fun x y=>Pp.lt x y=true)
 |[],K,h,_=>h
 |x::r,K,h,hd=>by
  have d:=List.pairwise_append.1 hd;refine n8 r (K:=cg x K) (n7 x h fun y A=>d.2.2 y A x (by simp)) ?_
  have z:(K++x::r).Perm (cg x K++r):=(List.perm_middle (l₁:=K) (a:=x) (l₂:=r)).trans ((kE x K).symm.append_right r);exact z.pairwise hd (fun h=>tN h)
theorem zQ {d K M:List En} (A:M.Perm (K++d)) (F:M.Pairwise (fun a b=>Pp.lt b a=false)) (E:K.Pairwise (fun x y=>Pp.lt x y=true)) (z:(K++d).Pairwise gJ):M=fC d K:=by
 refine pS (A.trans (lY d K).symm) ?_ (n8 d E z)
 have f:M.Pairwise gJ:=A.symm.pairwise z (fun h=>tN h);refine(F.and f).imp fun {a b} h=>?_
 cases e:Pp.lt a b with
 |true=>rfl
 |false=>exact absurd (lX e h.1) h.2
theorem l6 {l:List UInt8} (h:47∈l): ∃a b,47∉b∧l=a++47::b:=by
 obtain⟨a,b,d,e⟩:=pJ l.reverse 47 (by simpa using h)
 refine⟨b.reverse,a.reverse,by simpa using d,?_⟩
 have:=congrArg List.reverse e
 simpa using this
structure Pp.Good (L:List En):Prop where
 len:L.length≤60
 ents: ∀e∈L,bM e=0
 rise:L.Pairwise (fun x y=>Pp.lt x y=true)
 pars: ∀e∈L,aP L (aC e.path.data.toList)=0
theorem zR {L:List En} (h: ∀e∈L,bM e=0):cK L=0:=by
 induction L with
 |nil=>rfl
 |cons a r ih=>rw[cK,if_pos (h a (by simp))];exact ih fun e d=>h e (by simp[d])
theorem fP (L:List En):aH L=0↔Pp.Good L:=by
 constructor
 · intro h
   have y: ¬60<L.length:=by
    intro I;rw[aH,if_pos I]at h;cases h
   have z:cK L=0:=by
    by_cases d:cK L=0
    · exact d
    · rw[aH,if_neg y,if_neg d]at h;exact h
   rw[aH,if_neg y,if_pos z]at h
   have A:dX L=true:=by
    cases f:dX L with
    |true=>rfl
    |false=>rw[if_neg (by rw[f];decide)]at h;cases h
   rw[if_pos A,fh]at h
   have E:L.any (fun e=>bw L e==5)=false:=by
    cases f:L.any (fun e=>bw L e==5)with
    |false=>rfl
    |true=>rw[if_pos f]at h;cases h
   rw[if_neg (by rw[E];decide)]at h
   have H:L.any (fun e=>bw L e==4)=false:=by
    cases f:L.any (fun e=>bw L e==4)with
    |false=>rfl
    |true=>rw[if_pos f]at h;cases h
   refine⟨by omega,tM z,(pT L).1 A,fun e d=>?_⟩
   have G: ¬bw L e=5:=fun x=>by
    have:=List.any_eq_false.1 E e d;simp[x]at this
   have F: ¬bw L e=4:=fun x=>by
    have:=List.any_eq_false.1 H e d;simp[x]at this
   rcases pR L (aC e.path.data.toList)with h|h|h
   · exact h
   · exact absurd h F
   · exact absurd h G
 · intro h
   have K:L.any (fun e=>bw L e==5)=false:=List.any_eq_false.2 fun e d=>by
    have:=h.pars e d;rw[bw,this];decide
   have J:L.any (fun e=>bw L e==4)=false:=List.any_eq_false.2 fun e d=>by
    have:=h.pars e d;rw[bw,this];decide
   rw[aH,if_neg (by have:=h.len;omega),if_pos (zR h.ents),if_pos ((pT L).2 h.rise),fh,if_neg (by rw[K];decide),if_neg (by rw[J];decide)]
theorem l8 {L:List En} {p:List UInt8} (h:aP L p=0) (y:p≠[]): ∃x,x∈L∧x.path.data.toList=p∧x.folder=true∧L.find? (aO p)=some x:=by
 rw[aP,if_neg y]at h;cases d:L.find? (aO p)with
 |none=>rw[d]at h;cases h
 |some x=>
  rw[d]at h;have f:=List.find?_some d;refine⟨x,List.mem_of_find?_eq_some d,by simpa[aO]using f,?_,rfl⟩
  cases z:x.folder with
  |true=>rfl
  |false=>simp[z]at h
theorem Pp.Good.uniq {L:List En} (h:Pp.Good L) {x y:En} (A:x∈L) (E:y∈L) (e:x.path.data.toList=y.path.data.toList):x=y:=by
 have d:L.Pairwise gJ:=h.rise.imp fun h=>lZ h
 obtain⟨i,f,rfl⟩:=List.getElem_of_mem A
 obtain⟨j,z,rfl⟩:=List.getElem_of_mem E
 rw[List.pairwise_iff_getElem]at d;rcases Nat.lt_trichotomy i j with h|h|h
 · exact absurd e (d i j f z h)
 · subst h;rfl
 · exact absurd e.symm (d j i z f h)
theorem tO {L:List En} (G:L.Pairwise (fun x y=>Pp.lt x y=true)) {x:En} (F:x∈L):L.find? (aO x.path.data.toList)=some x:=by
 have d:L.Pairwise gJ:=G.imp fun h=>lZ h
 cases f:L.find? (aO x.path.data.toList)with
 |none=>have:=List.find?_eq_none.1 f x F;simp[aO]at this
 |some y=>
  have z:y.path.data.toList=x.path.data.toList:=by have:=List.find?_some f;simpa[aO]using this
  have H:=List.mem_of_find?_eq_some f;obtain⟨i,A,rfl⟩:=List.getElem_of_mem F
  obtain⟨j,E,rfl⟩:=List.getElem_of_mem H
  rw[List.pairwise_iff_getElem]at d;rcases Nat.lt_trichotomy i j with h|h|h
  · exact absurd z.symm (d i j A E h)
  · subst h;rfl
  · exact absurd z (d j i E A h)
theorem n9 {l:List UInt8} (h:az l=0):l≠[]:=by
 intro e;subst e;exact absurd h (by decide)
theorem zS {L:List En} (N: ∀e∈L,aP L (aC e.path.data.toList)=0) {q:List UInt8} (O:q≠[]): ∀(n:Nat) (e:En),e∈L→e.path.data.toList.length≤n→aU e.path.data.toList q=true→ ∃x∈L,x.path.data.toList=q:=by
 intro n;induction n with
 |zero=>
  intro e z E A;rcases(fy _ _).1 A with h|⟨r,h⟩
  · exact⟨e,z,h⟩
  · rw[h]at E;simp at E
 |succ n ih=>
  intro e z E A;rcases(fy _ _).1 A with h|⟨r,h⟩
  · exact⟨e,z,h⟩
  · obtain⟨a,b,hb,aE⟩:=l6 (l:=e.path.data.toList) (by rw[h];simp)
    have d:aC e.path.data.toList=a:=by rw[aE];exact gn a hb
    have H:=N e z;rw[d]at H
    have f:aU a q=true:=by
     rw[fy];have G:a++47::b=q++47::r:=aE.symm.trans h;by_cases I:47∈r
     · obtain⟨J,Q,F,K⟩:=l6 I
       have:aC (a++47::b)=aC ((q++47::J)++47::Q):=by rw[G,K];simp
       rw[gn a hb,gn _ F]at this;exact Or.inr ⟨J,this⟩
     · have:aC (a++47::b)=aC (q++47::r):=by rw[G]
       rw[gn a hb,gn _ I]at this;exact Or.inl this
    have M:a≠[]:=by
     intro aL;rcases(fy _ _).1 f with h|⟨r,h⟩
     · exact O (h.symm.trans aL)
     · rw[aL]at h;simp at h
    obtain⟨x,P,y,_,_⟩:=l8 H M
    refine ih x P ?_ (by rw[y];exact f)
    rw[y];have:e.path.data.toList.length=a.length+b.length+1:=by rw[aE];simp;omega
    omega
theorem zT {L:List En} (y: ∀e∈L,aP L (aC e.path.data.toList)=0) {q:List UInt8} (z:q≠[]) {e:En} (d:e∈L) (f:aU e.path.data.toList q=true): ∃x∈L,x.path.data.toList=q:=zS y z _ e d (Nat.le_refl _) f
theorem zU (p:List UInt8):aU p p=true:=(fy p p).2 (Or.inl rfl)
theorem pU {p q:List UInt8} (h:aU p q=true): ∃s,p=q++s:=by
 rcases(fy p q).1 h with h|⟨r,h⟩
 · exact⟨[],by simpa using h⟩
 · exact⟨_,h⟩
theorem zV {p f t:List UInt8} (h:aU p f=true):aU (bW p f t) t=true:=by
 rcases(fy p f).1 h with h|⟨r,h⟩
 · rw[fy,bW,h];simp
 · rw[fy,bW,h];simp
theorem zW {p d f t:List UInt8} (h:aU p f=true) (y:aU d f=true) (e:bW p f t=bW d f t):p=d:=by
 obtain⟨s,rfl⟩:=pU h
 obtain⟨z,rfl⟩:=pU y
 simpa[bW]using e
end Go.Proofs.YtcmlnelpcjfocaaGreatDoor
