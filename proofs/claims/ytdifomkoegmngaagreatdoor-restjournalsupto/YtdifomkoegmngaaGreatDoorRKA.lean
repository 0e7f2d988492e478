/- Plain mathematics of paths: names between slashes, what is a name, what Check answers, parent and last name, what goes aside; lists of bytes alone, no program. -/
import Derived.WalkKit
import Derived.Lib.IndexMore
import Derived.Lib.LastIndexLaws
import Derived.Lib.CutLaws
import Derived.Lib.LastIndexByte
import Derived.Lib.TrimByte
import Derived.Lib.ItoaNum
import Derived.Lib.SmallJoins
import Derived.Lib.Bytealg
import Derived.Test.YtdifomkoegmngaaGreatDoorShelf
import Derived.WalkSpells
import Derived.WalkLawsBesides
import Derived.Handy
set_option linter.unusedSimpArgs false
set_option linter.unusedVariables false
namespace Go.Proofs.YtdifomkoegmngaaGreatDoor.Pp

def okB (c:UInt8):Bool:=(97≤c && c≤122)||(65≤c && c≤90)||(48≤c && c≤57)||c==45||c==95||c==46||c==40||c==41||c==32
def nameB (l:List UInt8):Bool:=l.all okB && decide (1≤l.length) && decide (l.length≤20) && (l.head? !=some 32) && (l.getLast? !=some 32) && l !=[46] && l !=[46,46]
def nm:List UInt8→List (List UInt8)
 |[]=>[[]]
 |c::r=>if c=47 then[]::nm r else match nm r with
  |[]=>[[c]]
  |h::t=>(c::h)::t
def big (l:List UInt8):Bool:=decide (6<(nm l).length)||decide (80<l.length)
def chk (l:List UInt8):Int:=if(nm l).all nameB=true then(if big l=true then 2 else 0)else 1
def join:List (List UInt8)→List UInt8
 |[]=>[]
 |[a]=>a
 |a::b::r=>a++47::join (b::r)
theorem nm_ne (l:List UInt8):nm l≠[]:=by
 cases l with
 |nil=>simp[nm]
 | cons c r => rw [nm]; split; · simp
               split<;>simp
theorem nm_none: ∀(a:List UInt8),47∉a→nm a=[a]
 |[],_=>rfl
 |c::r,h=>by
  have h1:c≠47:=fun e=>h (by simp[e])
  have h2:47∉r:=fun e=>h (by simp[e])
  rw[nm,if_neg h1,nm_none r h2]
theorem nm_cut: ∀(a b:List UInt8),47∉a→nm (a++47::b)=a::nm b
 |[],b,_=>by simp[nm]
 |c::r,b,h=>by
  have h1:c≠47:=fun e=>h (by simp[e])
  have h2:47∉r:=fun e=>h (by simp[e])
  rw[List.cons_append,nm,if_neg h1,nm_cut r b h2]
theorem join_nm: ∀(l:List UInt8),join (nm l)=l
 |[]=>rfl
 |c::r=>by
  have ih:=join_nm r;have hn:=nm_ne r;rw[nm];split
  · rename_i h
    subst h;cases e:nm r with
    |nil=>exact absurd e hn
    |cons x t=>rw[e]at ih;simp[join,ih]
  · cases e:nm r with
    |nil=>exact absurd e hn
    |cons x t=>
     rw[e]at ih;cases t with
     |nil=>simp[join]at ih⊢;exact ih
     |cons y u=>simp[join]at ih⊢;exact ih
theorem nm_len_le: ∀(l:List UInt8),(nm l).length≤l.length+1
 |[]=>by simp[nm]
 |c::r=>by
  have ih:=nm_len_le r;rw[nm];split
  · simp;omega
  · cases e:nm r with
    |nil=>simp
    |cons x t=>rw[e]at ih;simp at ih⊢;omega
/-- Where a byte stands first. -/
theorem idx_one (l:List UInt8) (c:UInt8):(Lib.indexByte l c= -1∧c∉l)∨ ∃i:Nat,Lib.indexByte l c=i∧i<l.length∧c∉l.take i∧l=l.take i++c::l.drop (i+1):=by
 induction l with
 |nil=>left;simp[Lib.indexByte]
 |cons b r ih=>
  by_cases h:b=c
  · right
    subst h;exact⟨0,by simp[Lib.indexByte],by simp,by simp,by simp⟩
  · rcases ih with⟨e,hn⟩|⟨i,e,hi,hn,hl⟩
    · left
      refine⟨?_,by simp[hn,Ne.symm h]⟩
      simp[Lib.indexByte,e,h]
    · right
      refine⟨i+1,?_,by simp;omega,by simp[hn,Ne.symm h],by simp[←hl]⟩
      have h3: ¬((i:Int)= -1):=by omega
      simp[Lib.indexByte,e,h3,h]
theorem idx_of (a b:List UInt8) (c:UInt8) (h:c∉a):Lib.indexByte (a++c::b) c=a.length:=by
 induction a with
 |nil=>simp[Lib.indexByte]
 |cons x r ih=>
  have h1: ¬x=c:=fun e=>h (by simp[e])
  have h2:c∉r:=fun e=>h (by simp[e])
  have h3: ¬((r.length:Int)= -1):=by omega
  simp[Lib.indexByte,h1,ih h2,h3]
theorem idx_none (l:List UInt8) (c:UInt8) (h:c∉l):Lib.indexByte l c= -1:=by
 rcases idx_one l c with⟨e,_⟩|⟨i,_,hi,_,hl⟩
 · exact e
 · exact absurd (by rw[hl];simp) h
theorem split_at (l:List UInt8) (c:UInt8) (h:c∈l): ∃a b,c∉a∧l=a++c::b:=by
 rcases idx_one l c with⟨_,hn⟩|⟨i,e,hi,hn,hl⟩
 · exact absurd h hn
 · exact⟨_,_,hn,hl⟩
theorem bytes_eq {s:ByteArray} {l:List UInt8} (h:s.data.toList=l):s=⟨l.toArray⟩:=by
 cases s;subst h;simp
theorem okB_iff (c:UInt8):okB c=true↔(97≤c.toNat∧c.toNat≤122)∨(65≤c.toNat∧c.toNat≤90)∨(48≤c.toNat∧c.toNat≤57)∨c.toNat=45∨c.toNat=95∨c.toNat=46∨c.toNat=40∨c.toNat=41∨c.toNat=32:=by
 simp[okB,UInt8.le_iff_toNat_le,←UInt8.toNat_inj,or_assoc]
theorem idx_iff (c:UInt8):decide (0≤Lib.indexByte [45,95,46,40,41,32] c)=true↔c.toNat=45∨c.toNat=95∨c.toNat=46∨c.toNat=40∨c.toNat=41∨c.toNat=32:=by
 simp only[Lib.indexByte,beq_iff_eq,←UInt8.toNat_inj,decide_eq_true_eq];simp
 omega
theorem okB_l (c:UInt8) (h:(97≤c.toNat∧c.toNat≤122)∨(65≤c.toNat∧c.toNat≤90)∨(48≤c.toNat∧c.toNat≤57)):true=okB c:=
 ((okB_iff c).2 (by omega)).symm
theorem okB_o (c:UInt8) (h1: ¬(97≤c.toNat∧c.toNat≤122)) (h2: ¬(65≤c.toNat∧c.toNat≤90)) (h3: ¬(48≤c.toNat∧c.toNat≤57)):decide (0≤Lib.indexByte [45,95,46,40,41,32] c)=okB c:=by
 rw[Bool.eq_iff_iff,idx_iff,okB_iff];omega
theorem sz (l:List UInt8):(⟨l.toArray⟩:ByteArray).size=l.length:=by rw[Lib.size_eq]
theorem ret_bool {a b:Bool} (h:a=b):Ending.returned (.bool a)= .returned (.bool b):=by rw[h]
theorem ret_int {k:IntKind} {a b:Int} (h:a=b):Ending.returned (.int k a)= .returned (.int k b):=by rw[h]
theorem nameB_no (s:ByteArray) (h:s.size<1∨20<s.size∨s.toList=[46]∨s.toList=[46,46]):false=nameB s.data.toList:=by
 rw[ByteArray.toList_eq]at h;have hz:s.size=s.data.toList.length:=Lib.size_eq s;rw[hz]at h;generalize s.data.toList=l at h
 have: ¬(nameB l=true):=by
  simp only[nameB,Bool.and_eq_true,decide_eq_true_eq,bne_iff_ne];rintro ⟨⟨⟨⟨⟨⟨_,h1⟩,h2⟩,_⟩,_⟩,h3⟩,h4⟩;rcases h with h|h|h|h
  · omega
  · omega
  · exact h3 h
  · exact h4 h
 simpa using this
theorem nameB_head (s:ByteArray) (h0:0<s.size) (h:(s[0].toNat:Int)=32):false=nameB s.data.toList:=by
 have hl:0<s.data.toList.length:=by simpa using h0
 have e:s.data.toList.head?=some s[0]:=by rw[List.head?_eq_getElem?,List.getElem?_eq_getElem hl,byte_at' s 0 h0 hl]
 have e2:s[0]=32:=UInt8.toNat_inj.1 (by simpa using Int.ofNat.inj h)
 have: ¬(nameB s.data.toList=true):=by
  simp only[nameB,Bool.and_eq_true,decide_eq_true_eq,bne_iff_ne,e,e2];rintro ⟨⟨⟨⟨⟨⟨_,_⟩,_⟩,h3⟩,_⟩,_⟩,_⟩;exact h3 rfl
 simpa using this
theorem nameB_last (s:ByteArray) (h0:s.size-1<s.size) (h:(s[s.size-1].toNat:Int)=32):false=nameB s.data.toList:=by
 have hl:s.size-1<s.data.toList.length:=by simpa using h0
 have e:s.data.toList.getLast?=some s[s.size-1]:=by rw[List.getLast?_eq_getElem?,←Lib.size_eq,List.getElem?_eq_getElem hl,byte_at' s _ h0 hl]
 have e2:s[s.size-1]=32:=UInt8.toNat_inj.1 (by simpa using Int.ofNat.inj h)
 have: ¬(nameB s.data.toList=true):=by
  simp only[nameB,Bool.and_eq_true,decide_eq_true_eq,bne_iff_ne,e,e2];rintro ⟨⟨⟨⟨⟨⟨_,_⟩,_⟩,_⟩,h3⟩,_⟩,_⟩;exact h3 rfl
 simpa using this
theorem nameB_bad (s:ByteArray) (k:Nat) (hk:k<s.size) (h:okB s[k]=false):false=nameB s.data.toList:=by
 have hl:k<s.data.toList.length:=by simpa using hk
 have hm:s[k]∈s.data.toList:=by rw[←byte_at' s k hk hl];exact List.getElem_mem hl
 have: ¬(nameB s.data.toList=true):=by
  simp only[nameB,Bool.and_eq_true,decide_eq_true_eq,bne_iff_ne,List.all_eq_true];rintro ⟨⟨⟨⟨⟨⟨h3,_⟩,_⟩,_⟩,_⟩,_⟩,_⟩;rw[h3 _ hm]at h;cases h
 simpa using this
theorem nameB_yes (s:ByteArray) (h1:1≤s.size) (h2:s.size≤20) (h3:s.toList≠[46]) (h4:s.toList≠[46,46]) (h0:0<s.size) (h5:(s[0].toNat:Int)≠32)
    (h6:s.size-1<s.size) (h7:(s[s.size-1].toNat:Int)≠32) (h8:s.data.toList.all okB=true):true=nameB s.data.toList:=by
 rw[ByteArray.toList_eq]at h3 h4;have hl:0<s.data.toList.length:=by simpa using h0
 have e:s.data.toList.head?=some s[0]:=by rw[List.head?_eq_getElem?,List.getElem?_eq_getElem hl,byte_at' s 0 h0 hl]
 have hl2:s.size-1<s.data.toList.length:=by simpa using h6
 have e':s.data.toList.getLast?=some s[s.size-1]:=by rw[List.getLast?_eq_getElem?,←Lib.size_eq,List.getElem?_eq_getElem hl2,byte_at' s _ h6 hl2]
 symm
 simp only[nameB,Bool.and_eq_true,decide_eq_true_eq,bne_iff_ne,e,e',←Lib.size_eq];refine⟨⟨⟨⟨⟨⟨h8,h1⟩,h2⟩,?_⟩,?_⟩,h3⟩,h4⟩
 · intro e3;rw[Option.some.injEq]at e3;exact h5 (by rw[e3];rfl)
 · intro e3;rw[Option.some.injEq]at e3;exact h7 (by rw[e3];rfl)
theorem take_snoc (s:ByteArray) (k:Nat) (h:k<s.size):s.data.toList.take (k+1)=s.data.toList.take k++[s[k]]:=by
 rw[List.take_succ_eq_append_getElem (by simpa using h)];rfl
theorem all_snoc (s:ByteArray) (k:Nat) (h:k<s.size) (h1:(s.data.toList.take k).all okB=true) (h2:okB s[k]=true):(s.data.toList.take (k+1)).all okB=true:=by
 rw[take_snoc s k h,List.all_append,h1];simp[h2]
theorem chk_two (s:ByteArray) {dn:List (List UInt8)} (hn:nm s.data.toList=dn) (ha:dn.all nameB=true) (hb:(6:Int)<dn.length∨(80:Int)<s.size):2=chk s.data.toList:=by
 have:big s.data.toList=true:=by
  simp only[big,hn,Bool.or_eq_true,decide_eq_true_eq,←Lib.size_eq];omega
 simp[chk,hn,ha,this]
theorem chk_zero (s:ByteArray) {dn:List (List UInt8)} (hn:nm s.data.toList=dn) (ha:dn.all nameB=true) (h1:(dn.length:Int)≤6) (h2:(s.size:Int)≤80):0=chk s.data.toList:=by
 have:big s.data.toList=false:=by
  simp only[big,hn,Bool.or_eq_false_iff,decide_eq_false_iff_not,←Lib.size_eq];omega
 simp[chk,hn,ha,this]
theorem chk_one (s:ByteArray) {dn r:List (List UInt8)} {n:List UInt8} (hn:nm s.data.toList=dn++n::r) (h:nameB n=false):1=chk s.data.toList:=by
 simp[chk,hn,h]
theorem all_add {dn:List (List UInt8)} {n:List UInt8} (h:dn.all nameB=true) (h1:nameB n=true):(dn++[n]).all nameB=true:=by
 rw[List.all_append,h];simp[h1]
theorem len_add (s t:ByteArray) {dn:List (List UInt8)} (h:nm s.data.toList=dn++nm t.data.toList):dn.length+1≤s.size+1:=by
 have h1:=nm_len_le s.data.toList;have h2:(nm t.data.toList).length≠0:=fun e=>nm_ne _ (List.length_eq_zero_iff.1 e)
 rw[h,List.length_append,←Lib.size_eq]at h1;omega
theorem nm_app (a b:List UInt8):nm (a++47::b)=nm a++nm b:=by
 induction a with
 |nil=>simp[nm]
 |cons c r ih=>
  rw[List.cons_append,nm,nm,ih];split
  · simp
  · cases e:nm r with
    |nil=>exact absurd e (nm_ne r)
    |cons x t=>simp
def par (l:List UInt8):List UInt8:=join (nm l).dropLast
def lst (l:List UInt8):List UInt8:=(nm l).getLastD []
theorem par_none {l:List UInt8} (h:47∉l):par l=[]:=by simp[par,nm_none l h,join]
theorem lst_none {l:List UInt8} (h:47∉l):lst l=l:=by simp[lst,nm_none l h]
theorem par_cut (a:List UInt8) {b:List UInt8} (h:47∉b):par (a++47::b)=a:=by
 rw[par,nm_app,nm_none b h,List.dropLast_concat,join_nm]
theorem lst_cut (a:List UInt8) {b:List UInt8} (h:47∉b):lst (a++47::b)=b:=by
 rw[lst,nm_app,nm_none b h];simp
theorem data_bang (s:ByteArray) (k:Nat) (h:k<s.data.toList.length):s.data[k]! =s.data.toList[k]:=by
 have h':k<s.data.size:=by simpa using h
 rw[getElem!_pos s.data k h',Array.getElem_toList]
theorem last_cases (s:ByteArray) (c:UInt8):(Lib.lastIndexByte s (c.toNat:Int)= -1∧c∉s.data.toList)∨
    ∃a b,Lib.lastIndexByte s (c.toNat:Int)=(a.length:Int)∧c∉b∧s.data.toList=a++c::b:=by
 have hne: ∀j (hj:j<s.data.toList.length),((s.data[j]!).toNat:Int)≠c.toNat→s.data.toList[j]≠c:=by
  intro j hj h e;rw[data_bang s j hj,e]at h;exact h rfl
 rcases Lib.lastIndexByte_spec s c.toNat with⟨e,hn⟩|⟨i,hi,e,hc,hn⟩
 · left
   refine⟨e,fun hm=>?_⟩
   obtain⟨j,hj,ej⟩:=List.getElem_of_mem hm
   exact hne j hj (hn j (by rw[Lib.size_eq];exact hj)) ej
 · right
   rw[Lib.size_eq]at hi
   have ec:s.data.toList[i]=c:=by
    rw[data_bang s i hi]at hc;exact UInt8.toNat_inj.1 (Int.ofNat.inj hc)
   refine⟨s.data.toList.take i,s.data.toList.drop (i+1),by rw[e,List.length_take];omega,fun hm=>?_,?_⟩
   · obtain⟨j,hj,ej⟩:=List.getElem_of_mem hm
     rw[List.length_drop]at hj;rw[List.getElem_drop]at ej;exact hne (i+1+j) (by omega) (hn (i+1+j) (by omega) (by rw[Lib.size_eq];omega)) ej
   · conv=>lhs;rw[←List.take_append_drop i s.data.toList,List.drop_eq_getElem_cons hi,ec]
def chks:List (List UInt8)→Int
 |[]=>0
 |a::r=>if chk a=0 then chks r else chk a
def ifc (e:Int) (x:List UInt8):List UInt8:=if e=0 then x else[]
theorem ifc_yes {e:Int} (h:e=0) (x:List UInt8):ifc e x=x:=if_pos h
theorem ifc_no {e:Int} (h: ¬e=0) (x:List UInt8):ifc e x=[]:=if_neg h
theorem len_par (l:List UInt8):(par l).length≤l.length:=by
 by_cases h:47∈l.reverse
 · obtain⟨a,b,ha,hab⟩:=split_at _ _ h
   have e:l=b.reverse++47::a.reverse:=by
    have:=congrArg List.reverse hab
    simpa using this
   rw[e,par_cut _ (by simpa using ha)];simp
 · rw[par_none (by simpa using h)];simp
theorem join_snoc (d:List (List UInt8)) (x:List UInt8) (h:d≠[]):join (d++[x])=join d++47::x:=by
 induction d with
 |nil=>exact absurd rfl h
 |cons a r ih=>
  cases r with
  |nil=>simp[join]
  |cons b t=>
   have:=ih (by simp)
   simp only[List.cons_append,join]at this⊢;rw[this];simp
theorem join_app (d e:List (List UInt8)) (hd:d≠[]) (he:e≠[]):join (d++e)=join d++47::join e:=by
 induction d with
 |nil=>exact absurd rfl hd
 |cons a r ih=>
  cases r with
  |nil=>
   cases e with
   |nil=>exact absurd rfl he
   |cons b t=>simp[join]
  |cons b t=>
   have:=ih (by simp)
   simp only[List.cons_append,join]at this⊢;rw[this];simp
theorem join_take_le (L:List (List UInt8)) (k:Nat):(join (L.take k)).length≤(join L).length:=by
 by_cases h1:L.take k=[]
 · rw[h1];simp[join]
 by_cases h2:L.drop k=[]
 · have:L.take k=L:=by
    have:=List.take_append_drop k L
    rw[h2,List.append_nil]at this;exact this
   rw[this];exact Nat.le_refl _
 · conv=>rhs;rw[←List.take_append_drop k L,join_app _ _ h1 h2]
   rw[List.length_append];omega
theorem join_step (L:List (List UInt8)) (k:Nat) (h:k<L.length) (h0:0<k):(⟨(join (L.take k)).toArray⟩:ByteArray)++⟨#[47]⟩++⟨(L[k]).toArray⟩=⟨(join (L.take (k+1))).toArray⟩:=by
 apply bytes_eq
 rw[Joins.data_append,Joins.data_append,List.take_succ_eq_append_getElem h,join_snoc _ _ (by intro e;have:=List.length_take_of_le (show k≤L.length by omega);rw[e]at this;simp at this;omega)];simp
theorem join_first (L:List (List UInt8)) (h:0<L.length):(⟨#[]⟩:ByteArray)++⟨(L[0]).toArray⟩=⟨(join (L.take 1)).toArray⟩:=by
 apply bytes_eq
 rw[Joins.data_append];cases L with
 |nil=>simp at h
 |cons a r=>simp[join]
theorem mem_join_len (L:List (List UInt8)) (k:Nat) (h:k<L.length):(L[k]).length≤(join L).length:=by
 have h1:=join_take_le L (k+1);rw[List.take_succ_eq_append_getElem h]at h1;by_cases e:L.take k=[]
 · rw[e]at h1;simpa[join]using h1
 · rw[join_snoc _ _ e]at h1;simp at h1;omega
theorem nm_inj {a b:List UInt8} (h:nm a=nm b):a=b:=by rw[←join_nm a,←join_nm b,h]
theorem chk_names {l:List UInt8} (h:chk l=0):(nm l).all nameB=true:=by
 unfold chk at h;split at h
 · assumption
 · simp at h
theorem chk_big {l:List UInt8} (h:(nm l).all nameB=true):chk l=if big l=true then 2 else 0:=by
 rw[chk,if_pos h]
theorem chk_not_big {l:List UInt8} (h:chk l=0):big l=false:=by
 rw[chk_big (chk_names h)]at h;cases e:big l with
 |false=>rfl
 |true=>rw[e]at h;simp at h
theorem all_app {a b:List (List UInt8)} (h:a.all nameB=true) (h1:b.all nameB=true):(a++b).all nameB=true:=by
 rw[List.all_append,h,h1];rfl
def isInB (p q:List UInt8):Bool:=(nm q).isPrefixOf (nm p)
theorem isIn_of (p q:List UInt8):isInB p q=true↔p=q∨ ∃r,p=q++47::r:=by
 unfold isInB;rw[List.isPrefixOf_iff_prefix];constructor
 · rintro ⟨t,ht⟩
   by_cases e:t=[]
   · left
     rw[e,List.append_nil]at ht;exact(nm_inj ht).symm
   · right
     refine⟨join t,?_⟩
     rw[←join_nm p,←ht,join_app _ _ (nm_ne q) e,join_nm]
 · rintro (h|⟨r,h⟩)
   · rw[h];exact List.prefix_refl _
   · rw[h,nm_app];exact List.prefix_append _ _
theorem isIn_eq (p q:List UInt8):(p==q||Lib.hasPrefix p (q++[47]))=isInB p q:=by
 rw[Bool.eq_iff_iff,isIn_of,Bool.or_eq_true,beq_iff_eq,Lib.hasPrefix,List.isPrefixOf_iff_prefix];constructor
 · rintro (h|⟨t,h⟩)
   · exact Or.inl h
   · exact Or.inr ⟨t,by rw[←h];simp⟩
 · rintro (h|⟨t,h⟩)
   · exact Or.inl h
   · exact Or.inr ⟨t,by rw[h];simp⟩
def mvT (p f t:List UInt8):List UInt8:=t++p.drop f.length
theorem mv_names {p f:List UInt8} (t:List UInt8) (h:isInB p f=true):nm (mvT p f t)=nm t++(nm p).drop (nm f).length:=by
 rcases(isIn_of p f).1 h with e|⟨r,e⟩
 · subst e;simp[mvT]
 · have:p.drop f.length=47::r:=by rw[e];simp
   rw[mvT,this,nm_app,e,nm_app];simp
theorem mv_join {p f:List UInt8} (t:List UInt8) (h:isInB p f=true):join (nm t++(nm p).drop (nm f).length)=mvT p f t:=by
 rw[←mv_names t h,join_nm]
def mvE (p f t:List UInt8):Int:=if chks [p,f,t]=0 then(if isInB p f=true then chk (mvT p f t)else 5)else chks [p,f,t]
theorem chks_zero {a:List UInt8} {r:List (List UInt8)} (h:chks (a::r)=0):chk a=0∧chks r=0:=by
 unfold chks at h;split at h
 · rename_i e;exact⟨e,h⟩
 · rename_i e;exact absurd h e
theorem mv_chk {p f t:List UInt8} (h:chks [p,f,t]=0) (hi:isInB p f=true):chk (mvT p f t)=if big (mvT p f t)=true then 2 else 0:=by
 obtain⟨h1,h⟩:=chks_zero h
 obtain⟨h2,h⟩:=chks_zero h
 obtain⟨h3,_⟩:=chks_zero h
 apply chk_big
 rw[mv_names t hi];refine all_app (chk_names h3) ?_
 have:=chk_names h1
 rw[List.all_eq_true]at this⊢;exact fun x hx=>this x (List.mem_of_mem_drop hx)
end Go.Proofs.YtdifomkoegmngaaGreatDoor.Pp
namespace Go.Proofs.YtdifomkoegmngaaGreatDoor
open Go.RowKit

structure En where
 path:ByteArray
 folder:Bool
 text:ByteArray
 ver:Int
def EnAt (w:World) (b o:Nat) (e:En):Prop:=w.cell? ⟨b,o,none⟩=some (.string e.path)∧w.cell? ⟨b,o+1,none⟩=some (.bool e.folder)∧w.cell? ⟨b,o+2,none⟩=some (.string e.text)∧w.cell? ⟨b,o+3,none⟩=some (.int .i64 e.ver)
def Lies (w:World) (v:Value) (L:List En):Prop:= ∃a cap,v= .slice a L.length cap∧L.length≤cap∧L.length≤1000000000000000∧ ∀i (h:i<L.length),∃b o,a=some ⟨b,o,none⟩∧b<w.heap.size∧EnAt w b (o+i*4) L[i]
theorem EnAt.below {w w':World} {b o:Nat} {e:En} (h:EnAt w b o e) (hb:b<w.heap.size) (hw:Below w.heap.size w w'):EnAt w' b o e:=
 ⟨(hw.cell (p:=⟨b,o,none⟩) hb).trans h.1,(hw.cell (p:=⟨b,o+1,none⟩) hb).trans h.2.1,(hw.cell (p:=⟨b,o+2,none⟩) hb).trans h.2.2.1,(hw.cell (p:=⟨b,o+3,none⟩) hb).trans h.2.2.2⟩
theorem Lies.below {w w':World} {v:Value} {L:List En} (h:Lies w v L) (hw:Below w.heap.size w w'):Lies w' v L:=by
 obtain⟨a,cap,hv,h1,h2,h3⟩:=h
 refine⟨a,cap,hv,h1,h2,fun i hi=>?_⟩
 obtain⟨b,o,ha,hb,he⟩:=h3 i hi
 exact⟨b,o,ha,Nat.lt_of_lt_of_le hb hw.size,he.below hb hw⟩
theorem box4 {w w1:World} {a b c d:Value} {T:TypeId} (h:Below (w.alloc (.cells #[a,b,c,d] T)).heap.size (w.alloc (.cells #[a,b,c,d] T)) w1):
    w1.cell? ⟨w.heap.size,0,none⟩=some a∧w1.cell? ⟨w.heap.size,1,none⟩=some b∧w1.cell? ⟨w.heap.size,2,none⟩=some c∧w1.cell? ⟨w.heap.size,3,none⟩=some d∧Below w.heap.size w w1∧w.heap.size<w1.heap.size:=by
 have hz:w.heap.size<(w.alloc (.cells #[a,b,c,d] T)).heap.size:=by simp
 refine⟨?_,?_,?_,?_,((Below.refl _ _).alloc (Nat.le_refl _) _).trans (h.mono (Nat.le_of_lt hz)),Nat.lt_of_lt_of_le hz h.size⟩
 · exact(h.cell (p:=⟨w.heap.size,0,none⟩) hz).trans (by simp)
 · exact(h.cell (p:=⟨w.heap.size,1,none⟩) hz).trans (by simp)
 · exact(h.cell (p:=⟨w.heap.size,2,none⟩) hz).trans (by simp)
 · exact(h.cell (p:=⟨w.heap.size,3,none⟩) hz).trans (by simp)
theorem box4f {w w1:World} {a b c d:Value} {T:TypeId} (h:Below (w.alloc (.cells #[a,b,c,d] T)).heap.size (w.alloc (.cells #[a,b,c,d] T)) w1) (i:Nat):w1.frozen? ⟨w.heap.size,i,none⟩=false:=
 (h.frozen (p:=⟨w.heap.size,i,none⟩) (by simp)).trans (World.frozen?_alloc_at _ _ _ _ rfl)
namespace Pp
def verE (n:Int):Int:=if n<1∨1000000<n then 3 else 0
def entE (e:En):Int:=if chk e.path.data.toList=0 then(if e.folder=true∧ ¬e.text.data.toList=[]then 1 else if 300<e.text.size then 2 else verE e.ver)else chk e.path.data.toList
def entsE:List En→Int
 |[]=>0
 |e::r=>if entE e=0 then entsE r else entE e
def lt (a b:En):Bool:=Op.bytesLess a.path.toList b.path.toList
def risesB:List En→Bool
 |[]=>true
 |[_]=>true
 |a::b::r=>lt a b && risesB (b::r)
def atB (p:List UInt8) (e:En):Bool:=e.path.data.toList==p
def foldE (L:List En) (p:List UInt8):Int:=if p=[]then 0 else match L.find? (atB p)with
 |none=>5
 |some e=>if e.folder=true then 0 else 4
def parF (L:List En) (e:En):Int:=foldE L (par e.path.data.toList)
def parsE (L M:List En):Int:=if M.any (fun e=>parF L e==5)=true then 5 else if M.any (fun e=>parF L e==4)=true then 4 else 0
def treeE (L:List En):Int:=if 60<L.length then 2 else if entsE L=0 then(if risesB L=true then parsE L L else 4)else entsE L
theorem foldE_range (L:List En) (p:List UInt8):foldE L p=0∨foldE L p=4∨foldE L p=5:=by
 unfold foldE;split
 · simp
 · split
   · simp
   · split<;>simp
theorem entE_path {e:En} (h:entE e=0):chk e.path.data.toList=0:=by
 unfold entE at h;split at h
 · assumption
 · rename_i hz;exact absurd h hz
theorem entsE_all {L:List En} (h:entsE L=0): ∀e∈L,entE e=0:=by
 induction L with
 |nil=>intro e he;cases he
 |cons a r ih=>
  unfold entsE at h;split at h
  · rename_i ha
    intro e he;rcases List.mem_cons.1 he with rfl|he
    · exact ha
    · exact ih h e he
  · rename_i ha;exact absurd h ha
end Pp
end Go.Proofs.YtdifomkoegmngaaGreatDoor
namespace Go.Proofs.YtdifomkoegmngaaGreatDoor.Pp

theorem cmp_self: ∀a:List UInt8,Lib.compareBytes a a=0
 |[]=>rfl
 |a::r=>by simp[Lib.compareBytes,cmp_self r]
theorem cmp_anti: ∀a b:List UInt8,Lib.compareBytes b a= -Lib.compareBytes a b
 |[],[]=>rfl
 |[],_::_=>rfl
 |_::_,[]=>rfl
 |a::r,b::s=>by
  rw[Lib.compareBytes,Lib.compareBytes];by_cases h1:a<b
  · have h2: ¬b<a:=fun h=>by rw[UInt8.lt_iff_toNat_lt]at h h1;omega
    simp[h1,h2]
  · by_cases h2:b<a
    · simp[h1,h2]
    · simp[h1,h2,cmp_anti r s]
theorem cmp_zero: ∀a b:List UInt8,Lib.compareBytes a b=0→a=b
 |[],[],_=>rfl
 |[],_::_,h=>by simp[Lib.compareBytes]at h
 |_::_,[],h=>by simp[Lib.compareBytes]at h
 |a::r,b::s,h=>by
  rw[Lib.compareBytes]at h;by_cases h1:a<b
  · simp[h1]at h
  · by_cases h2:b<a
    · simp[h1,h2]at h
    · simp only[h1,h2,if_false]at h
      have e:a=b:=UInt8.toNat_inj.1 (by rw[UInt8.lt_iff_toNat_lt]at h1 h2;omega);rw[e,cmp_zero r s h]
theorem cmp_trans: ∀a b c:List UInt8,Lib.compareBytes a b<0→Lib.compareBytes b c<0→Lib.compareBytes a c<0
 |[],[],_,h,_=>by simp[Lib.compareBytes]at h
 |_,_::_,[],_,h=>by simp[Lib.compareBytes]at h
 |_::_,[],_,h,_=>by simp[Lib.compareBytes]at h
 |[],_::_,_::_,_,_=>by simp[Lib.compareBytes]
 |a::r,b::s,c::t,h1,h2=>by
  rw[Lib.compareBytes]at h1 h2⊢;simp only[UInt8.lt_iff_toNat_lt]at*;by_cases x1:a.toNat<b.toNat
  · by_cases y1:b.toNat<c.toNat
    · rw[if_pos (by omega)];omega
    · by_cases y2:c.toNat<b.toNat
      · rw[if_neg y1,if_pos y2]at h2;omega
      · rw[if_pos (by omega)];omega
  · by_cases x2:b.toNat<a.toNat
    · rw[if_neg x1,if_pos x2]at h1;omega
    · rw[if_neg x1,if_neg x2]at h1
      by_cases y1:b.toNat<c.toNat
      · rw[if_pos (by omega)];omega
      · by_cases y2:c.toNat<b.toNat
        · rw[if_neg y1,if_pos y2]at h2;omega
        · rw[if_neg y1,if_neg y2]at h2
          rw[if_neg (by omega),if_neg (by omega)];exact cmp_trans r s t h1 h2
theorem less_cmp: ∀a b:List UInt8,Op.bytesLess a b=decide (Lib.compareBytes a b<0)
 |[],[]=>by simp[Op.bytesLess,Lib.compareBytes]
 |[],_::_=>by simp[Op.bytesLess,Lib.compareBytes]
 |_::_,[]=>by simp[Op.bytesLess,Lib.compareBytes]
 |a::r,b::s=>by
  have ih:=less_cmp r s;rw[Lib.compareBytes];by_cases h1:a<b
  · simp[Op.bytesLess,h1]
  · by_cases h2:b<a
    · simp[Op.bytesLess,h1,h2];try (intro e;subst e;exact absurd h2 (by simp))
    · have e:a=b:=UInt8.toNat_inj.1 (by rw[UInt8.lt_iff_toNat_lt]at h1 h2;omega)
      subst e;simp[Op.bytesLess,ih]
def cfE (x y:En):Int:=Lib.compareBytes x.path.data.toList y.path.data.toList
theorem lt_cfE (x y:En):lt x y=decide (cfE x y<0):=by rw[lt,less_cmp,Lib.toList_data,Lib.toList_data];rfl
theorem lt_irrefl (x:En):lt x x=false:=by rw[lt_cfE,cfE,cmp_self];rfl
theorem lt_trans (x y z:En) (h1:lt x y=true) (h2:lt y z=true):lt x z=true:=by
 rw[lt_cfE]at*;simp only[decide_eq_true_eq]at*;exact cmp_trans _ _ _ h1 h2
theorem lt_ntrans (x y z:En) (h1:lt x y=false) (h2:lt y z=false):lt x z=false:=by
 rw[lt_cfE,decide_eq_false_iff_not]at h1 h2⊢;unfold cfE at h1 h2⊢;intro h;have a1:=cmp_anti x.path.data.toList y.path.data.toList;have a2:=cmp_anti y.path.data.toList z.path.data.toList;by_cases e1:Lib.compareBytes x.path.data.toList y.path.data.toList=0
 · rw[cmp_zero _ _ e1]at h;exact h2 h
 · by_cases e2:Lib.compareBytes y.path.data.toList z.path.data.toList=0
   · rw[←cmp_zero _ _ e2]at h;exact h1 h
   · have:=cmp_trans _ _ _ (show Lib.compareBytes z.path.data.toList y.path.data.toList<0 by omega) (show Lib.compareBytes y.path.data.toList x.path.data.toList<0 by omega)
     have a3:=cmp_anti x.path.data.toList z.path.data.toList;omega
/-- Neither before the other: one path. -/
theorem lt_same {x y:En} (h1:lt x y=false) (h2:lt y x=false):x.path.data.toList=y.path.data.toList:=by
 rw[lt_cfE,decide_eq_false_iff_not]at h1 h2;unfold cfE at h1 h2;have a1:=cmp_anti x.path.data.toList y.path.data.toList;exact cmp_zero _ _ (by omega)
/-- Two lists in strict order that have the same entries are one. -/
theorem sorted_eq: ∀{a b:List En},a.Perm b→a.Pairwise (fun x y=>lt x y=true)→b.Pairwise (fun x y=>lt x y=true)→a=b
 |[],b,h,_,_=>by rw[List.nil_perm]at h;exact h.symm
 |x::r,b,h,h1,h2=>by
  cases b with
  |nil=>exact absurd h.length_eq (by simp)
  |cons y s=>
   have e:x=y:=by
    have hx:x∈y::s:=h.subset (List.mem_cons_self ..);have hy:y∈x::r:=h.symm.subset (List.mem_cons_self ..);rcases List.mem_cons.1 hx with e|hx
    · exact e
    · rcases List.mem_cons.1 hy with e|hy
      · exact e.symm
      · have l1:=(List.pairwise_cons.1 h1).1 y hy
        have l2:=(List.pairwise_cons.1 h2).1 x hx;have:=lt_trans x y x l1 l2
        rw[lt_irrefl]at this;cases this
   subst e;rw[sorted_eq (List.perm_cons x|>.1 h) (List.pairwise_cons.1 h1).2 (List.pairwise_cons.1 h2).2]
theorem rises_pair: ∀(L:List En),risesB L=true↔L.Pairwise (fun x y=>lt x y=true)
 |[]=>by simp[risesB]
 |[_]=>by simp[risesB]
 |a::b::r=>by
  rw[risesB,Bool.and_eq_true,rises_pair (b::r)];constructor
  · rintro ⟨h1,h2⟩
    refine List.pairwise_cons.2 ⟨fun x hx=>?_,h2⟩
    rcases List.mem_cons.1 hx with rfl|hx
    · exact h1
    · exact lt_trans a b x h1 ((List.pairwise_cons.1 h2).1 x hx)
  · intro h
    have h:=List.pairwise_cons.1 h;exact⟨h.1 b (by simp),h.2⟩
/-- Where an entry belongs. -/
def ins (x:En):List En→List En
 |[]=>[x]
 |y::r=>if lt y x=true then y::ins x r else x::y::r
theorem ins_perm (x:En): ∀L:List En,(ins x L).Perm (x::L)
 |[]=>List.Perm.refl _
 |y::r=>by
  rw[ins];split
  · exact((ins_perm x r).cons y).trans (List.Perm.swap x y r)
  · exact List.Perm.refl _
theorem ins_sorted (x:En): ∀{L:List En},L.Pairwise (fun x y=>lt x y=true)→(∀y∈L,y.path.data.toList≠x.path.data.toList)→(ins x L).Pairwise (fun x y=>lt x y=true)
 |[],_,_=>by simp[ins]
 |y::r,h,hne=>by
  rw[ins];split
  · rename_i hy
    rw[List.pairwise_cons];refine⟨fun z hz=>?_,ins_sorted x (List.pairwise_cons.1 h).2 fun z hz=>hne z (List.mem_cons_of_mem _ hz)⟩
    rcases List.mem_cons.1 ((ins_perm x r).subset hz)with rfl|hz
    · exact hy
    · exact(List.pairwise_cons.1 h).1 z hz
  · rename_i hy
    have hyf:lt y x=false:=by simpa using hy
    have hxy:lt x y=true:=by
     cases e:lt x y with
     |true=>rfl
     |false=>exact absurd (lt_same hyf e) (hne y (by simp))
    rw[List.pairwise_cons];refine⟨fun z hz=>?_,h⟩
    rcases List.mem_cons.1 hz with rfl|hz
    · exact hxy
    · exact lt_trans x y z hxy ((List.pairwise_cons.1 h).1 z hz)
/-- What a sort by paths gives, where an entry came behind entries in order that are at other paths. -/
theorem sort_ins {x:En} {L M:List En} (hp:M.Perm (L++[x])) (hM:M.Pairwise (fun a b=>lt b a=false)) (hL:L.Pairwise (fun x y=>lt x y=true)) (hne: ∀y∈L,y.path.data.toList≠x.path.data.toList):M=ins x L:=by
 have hI:=ins_sorted x hL hne;have hperm:M.Perm (ins x L):=hp.trans ((List.perm_append_singleton x L).trans (ins_perm x L).symm);refine sorted_eq hperm ?_ hI
 have hnd:(ins x L).Pairwise (fun a b=>a.path.data.toList≠b.path.data.toList):=hI.imp fun {a b} h e=>by
  have:lt a b=lt a a:=by rw[lt_cfE,lt_cfE];unfold cfE;rw[←e]
  rw[this,lt_irrefl]at h;cases h
 have hnd2:M.Pairwise (fun a b=>a.path.data.toList≠b.path.data.toList):=hperm.symm.pairwise hnd (fun h e=>h e.symm);have hboth:=hM.and hnd2;refine hboth.imp fun {a b} h=>?_
 cases e:lt a b with
 |true=>rfl
 |false=>exact absurd (lt_same e h.1) h.2
/-- A change: its kind, its path, where to, its text, its base. -/
structure Ch where
 k:Int
 p:ByteArray
 q:ByteArray
 t:ByteArray
 b:Int
def chgE (c:Ch):Int:=
 if c.k<1∨4<c.k then 7 else if¬chk c.p.data.toList=0 then chk c.p.data.toList
 else if c.k=3∧ ¬chk c.q.data.toList=0 then chk c.q.data.toList
 else if(¬c.k=3∧ ¬c.q.data.toList=[])∨(¬c.k=2∧ ¬c.t.data.toList=[])then 1
 else if 300<c.t.size then 2 else if c.b< -1∨1000000<c.b then 3 else 0
def goal (c:Ch):List UInt8:=if c.k=3 then c.q.data.toList else c.p.data.toList
def plcE (L:List En) (c:Ch):Int:=
 if¬foldE L (par (goal c))=0 then foldE L (par (goal c))else match L.find? (atB c.p.data.toList)with
 |none=>if c.k=3∨c.k=4 then 5 else 0
 |some x=>if c.k=1 then 6 else if c.k=2 then(if x.folder=true then 4 else 0)
  else if c.k=3 then(if isInB c.q.data.toList c.p.data.toList=true then 3 else if(L.find? (atB c.q.data.toList)).isSome=true then 6 else 0)else 0
/-- Is an entry at a path, or within? -/
def wi (q:List UInt8) (e:En):Bool:=isInB e.path.data.toList q
def stW (q:List UInt8) (b:Int) (e:En):Bool:=decide (b<e.ver) && wi q e
def stl (L:List En) (c:Ch):Bool:= !(c.b== -1) && L.any (stW c.p.data.toList c.b)
def newE (c:Ch) (n:Int):En:=⟨c.p,decide (c.k=1),c.t,n⟩
def outE (x:En) (L:List En):List En:=L.filter (fun e=> !atB x.path.data.toList e)
def keptL (L:List En) (c:Ch):List En:=L.filter (fun e=> !wi c.p.data.toList e)
def mvP (c:Ch) (e:En):List UInt8:=mvT e.path.data.toList c.p.data.toList c.q.data.toList
def mvd (c:Ch) (n:Int) (e:En):En:=⟨⟨(mvP c e).toArray⟩,e.folder,e.text,if e.path.data.toList=c.p.data.toList then n else e.ver⟩
def goL (L:List En) (c:Ch):List En:=L.filter (wi c.p.data.toList)
def mvL (L:List En) (c:Ch) (n:Int):List En:=(goL L c).map (mvd c n)
def insAll (ms K:List En):List En:=ms.foldl (fun a x=>ins x a) K
def chdE (L:List En) (c:Ch) (n:Int):Int:=
 if c.k=1∨c.k=2 then(if 60<(outE (newE c n) L).length+1 then 2 else 0)
 else if c.k=3 then(if(goL L c).any (fun e=>big (mvP c e))=true then 2 else 0)else 0
def chdR (L:List En) (c:Ch) (n:Int):List En:=
 if c.k=1∨c.k=2 then ins (newE c n) (outE (newE c n) L)
 else if c.k=3 then insAll (mvL L c n) (keptL L c)else keptL L c
def appE (L:List En) (c:Ch) (n:Int):Int:=
 if¬verE n=0 then verE n else if¬chgE c=0 then chgE c else if¬plcE L c=0 then plcE L c else if stl L c=true then 8 else chdE L c n
theorem insAll_perm: ∀(ms K:List En),(insAll ms K).Perm (K++ms)
 |[],K=>by simp[insAll]
 |x::r,K=>by
  have h:=insAll_perm r (ins x K);refine(show insAll (x::r) K=insAll r (ins x K)from rfl)▸h.trans ?_
  refine((ins_perm x K).append_right r).trans ?_
  exact(List.perm_middle (l₁:=K) (a:=x) (l₂:=r)).symm
def dif (a b:En):Prop:=a.path.data.toList≠b.path.data.toList
theorem dif_symm {a b:En} (h:dif a b):dif b a:=fun e=>h e.symm
theorem lt_dif {a b:En} (h:lt a b=true):dif a b:=fun e=>by
 have:lt a b=lt a a:=by rw[lt_cfE,lt_cfE];unfold cfE;rw[←e]
 rw[this,lt_irrefl]at h;cases h
theorem insAll_sorted: ∀(ms:List En) {K:List En},K.Pairwise (fun x y=>lt x y=true)→(K++ms).Pairwise dif→(insAll ms K).Pairwise (fun x y=>lt x y=true)
 |[],K,h,_=>h
 |x::r,K,h,hd=>by
  have hd2:=List.pairwise_append.1 hd;refine insAll_sorted r (K:=ins x K) (ins_sorted x h fun y hy=>hd2.2.2 y hy x (by simp)) ?_
  have hp:(K++x::r).Perm (ins x K++r):=(List.perm_middle (l₁:=K) (a:=x) (l₂:=r)).trans ((ins_perm x K).symm.append_right r);exact hp.pairwise hd (fun h=>dif_symm h)
/-- What a sort by paths gives, where entries came behind entries in order, all at other paths. -/
theorem sort_all {ms K M:List En} (hp:M.Perm (K++ms)) (hM:M.Pairwise (fun a b=>lt b a=false)) (hK:K.Pairwise (fun x y=>lt x y=true)) (hd:(K++ms).Pairwise dif):M=insAll ms K:=by
 refine sorted_eq (hp.trans (insAll_perm ms K).symm) ?_ (insAll_sorted ms hK hd)
 have hnd:M.Pairwise dif:=hp.symm.pairwise hd (fun h=>dif_symm h);refine(hM.and hnd).imp fun {a b} h=>?_
 cases e:lt a b with
 |true=>rfl
 |false=>exact absurd (lt_same e h.1) h.2
theorem last_split {l:List UInt8} (h:47∈l): ∃a b,47∉b∧l=a++47::b:=by
 obtain⟨a,b,ha,e⟩:=split_at l.reverse 47 (by simpa using h)
 refine⟨b.reverse,a.reverse,by simpa using ha,?_⟩
 have:=congrArg List.reverse e
 simpa using this
/-- A tree that passes Check. -/
structure Good (L:List En):Prop where
 len:L.length≤60
 ents: ∀e∈L,entE e=0
 rise:L.Pairwise (fun x y=>lt x y=true)
 pars: ∀e∈L,foldE L (par e.path.data.toList)=0
theorem ents_zero {L:List En} (h: ∀e∈L,entE e=0):entsE L=0:=by
 induction L with
 |nil=>rfl
 |cons a r ih=>rw[entsE,if_pos (h a (by simp))];exact ih fun e he=>h e (by simp[he])
theorem good_iff (L:List En):treeE L=0↔Good L:=by
 constructor
 · intro h
   have h1: ¬60<L.length:=by
    intro h6;rw[treeE,if_pos h6]at h;cases h
   have h2:entsE L=0:=by
    by_cases he:entsE L=0
    · exact he
    · rw[treeE,if_neg h1,if_neg he]at h;exact h
   rw[treeE,if_neg h1,if_pos h2]at h
   have h3:risesB L=true:=by
    cases hr:risesB L with
    |true=>rfl
    |false=>rw[if_neg (by rw[hr];decide)]at h;cases h
   rw[if_pos h3,parsE]at h
   have h5:L.any (fun e=>parF L e==5)=false:=by
    cases hr:L.any (fun e=>parF L e==5)with
    |false=>rfl
    |true=>rw[if_pos hr]at h;cases h
   rw[if_neg (by rw[h5];decide)]at h
   have h4:L.any (fun e=>parF L e==4)=false:=by
    cases hr:L.any (fun e=>parF L e==4)with
    |false=>rfl
    |true=>rw[if_pos hr]at h;cases h
   refine⟨by omega,entsE_all h2,(rises_pair L).1 h3,fun e he=>?_⟩
   have a5: ¬parF L e=5:=fun x=>by
    have:=List.any_eq_false.1 h5 e he;simp[x]at this
   have a4: ¬parF L e=4:=fun x=>by
    have:=List.any_eq_false.1 h4 e he;simp[x]at this
   rcases foldE_range L (par e.path.data.toList)with h|h|h
   · exact h
   · exact absurd h a4
   · exact absurd h a5
 · intro h
   have n5:L.any (fun e=>parF L e==5)=false:=List.any_eq_false.2 fun e he=>by
    have:=h.pars e he;rw[parF,this];decide
   have n4:L.any (fun e=>parF L e==4)=false:=List.any_eq_false.2 fun e he=>by
    have:=h.pars e he;rw[parF,this];decide
   rw[treeE,if_neg (by have:=h.len;omega),if_pos (ents_zero h.ents),if_pos ((rises_pair L).2 h.rise),parsE,if_neg (by rw[n5];decide),if_neg (by rw[n4];decide)]
theorem fold_zero {L:List En} {p:List UInt8} (h:foldE L p=0) (hp:p≠[]): ∃x,x∈L∧x.path.data.toList=p∧x.folder=true∧L.find? (atB p)=some x:=by
 rw[foldE,if_neg hp]at h;cases hf:L.find? (atB p)with
 |none=>rw[hf]at h;cases h
 |some x=>
  rw[hf]at h;have h1:=List.find?_some hf;refine⟨x,List.mem_of_find?_eq_some hf,by simpa[atB]using h1,?_,rfl⟩
  cases hx:x.folder with
  |true=>rfl
  |false=>simp[hx]at h
theorem sorted_find {L:List En} (hr:L.Pairwise (fun x y=>lt x y=true)) {x:En} (hx:x∈L):L.find? (atB x.path.data.toList)=some x:=by
 have hd:L.Pairwise dif:=hr.imp fun h=>lt_dif h
 cases hf:L.find? (atB x.path.data.toList)with
 |none=>have:=List.find?_eq_none.1 hf x hx;simp[atB]at this
 |some y=>
  have h1:y.path.data.toList=x.path.data.toList:=by have:=List.find?_some hf;simpa[atB]using this
  have hy:=List.mem_of_find?_eq_some hf;obtain⟨i,hi,rfl⟩:=List.getElem_of_mem hx
  obtain⟨j,hj,rfl⟩:=List.getElem_of_mem hy
  rw[List.pairwise_iff_getElem]at hd;rcases Nat.lt_trichotomy i j with h|h|h
  · exact absurd h1.symm (hd i j hi hj h)
  · subst h;rfl
  · exact absurd h1 (hd j i hj hi h)
theorem chk_path_ne {l:List UInt8} (h:chk l=0):l≠[]:=by
 intro e;subst e;exact absurd h (by decide)
/-- Whatever is within a path is so by its parents. -/
theorem anc {L:List En} (hp: ∀e∈L,foldE L (par e.path.data.toList)=0) {q:List UInt8} (hq:q≠[]): ∀(n:Nat) (e:En),e∈L→e.path.data.toList.length≤n→isInB e.path.data.toList q=true→ ∃x∈L,x.path.data.toList=q:=by
 intro n;induction n with
 |zero=>
  intro e he hl hi;rcases(isIn_of _ _).1 hi with h|⟨r,h⟩
  · exact⟨e,he,h⟩
  · rw[h]at hl;simp at hl
 |succ n ih=>
  intro e he hl hi;rcases(isIn_of _ _).1 hi with h|⟨r,h⟩
  · exact⟨e,he,h⟩
  · obtain⟨a,b,hb,e2⟩:=last_split (l:=e.path.data.toList) (by rw[h];simp)
    have hpar:par e.path.data.toList=a:=by rw[e2];exact par_cut a hb
    have hf:=hp e he;rw[hpar]at hf
    have hqa:isInB a q=true:=by
     rw[isIn_of];have e3:a++47::b=q++47::r:=e2.symm.trans h;by_cases hr:47∈r
     · obtain⟨r1,r2,hr2,er⟩:=last_split hr
       have:par (a++47::b)=par ((q++47::r1)++47::r2):=by rw[e3,er];simp
       rw[par_cut a hb,par_cut _ hr2]at this;exact Or.inr ⟨r1,this⟩
     · have:par (a++47::b)=par (q++47::r):=by rw[e3]
       rw[par_cut a hb,par_cut _ hr]at this;exact Or.inl this
    have ha:a≠[]:=by
     intro e0;rcases(isIn_of _ _).1 hqa with h|⟨r,h⟩
     · exact hq (h.symm.trans e0)
     · rw[e0]at h;simp at h
    obtain⟨x,hx,hxp,_,_⟩:=fold_zero hf ha
    refine ih x hx ?_ (by rw[hxp];exact hqa)
    rw[hxp];have:e.path.data.toList.length=a.length+b.length+1:=by rw[e2];simp;omega
    omega
theorem anc' {L:List En} (hp: ∀e∈L,foldE L (par e.path.data.toList)=0) {q:List UInt8} (hq:q≠[]) {e:En} (he:e∈L) (hi:isInB e.path.data.toList q=true): ∃x∈L,x.path.data.toList=q:=anc hp hq _ e he (Nat.le_refl _) hi
theorem isIn_refl (p:List UInt8):isInB p p=true:=(isIn_of p p).2 (Or.inl rfl)
theorem isIn_pre {p q:List UInt8} (h:isInB p q=true): ∃s,p=q++s:=by
 rcases(isIn_of p q).1 h with h|⟨r,h⟩
 · exact⟨[],by simpa using h⟩
 · exact⟨_,h⟩
theorem mvT_in {p f t:List UInt8} (h:isInB p f=true):isInB (mvT p f t) t=true:=by
 rcases(isIn_of p f).1 h with h|⟨r,h⟩
 · rw[isIn_of,mvT,h];simp
 · rw[isIn_of,mvT,h];simp
theorem mvT_inj {p p' f t:List UInt8} (h:isInB p f=true) (h':isInB p' f=true) (e:mvT p f t=mvT p' f t):p=p':=by
 obtain⟨s,rfl⟩:=isIn_pre h
 obtain⟨s',rfl⟩:=isIn_pre h'
 simpa[mvT]using e
end Go.Proofs.YtdifomkoegmngaaGreatDoor.Pp
namespace Go.Proofs.YtdifomkoegmngaaGreatDoor
open Go.RowKit

/-- A change lies at a place: its five cells. -/
def ChAt (w:World) (b o:Nat) (c:Pp.Ch):Prop:=w.cell? ⟨b,o,none⟩=some (.int .i64 c.k)∧w.cell? ⟨b,o+1,none⟩=some (.string c.p)∧w.cell? ⟨b,o+2,none⟩=some (.string c.q)∧w.cell? ⟨b,o+3,none⟩=some (.string c.t)∧w.cell? ⟨b,o+4,none⟩=some (.int .i64 c.b)
def LiesC (w:World) (v:Value) (cs:List Pp.Ch):Prop:= ∃a cap,v= .slice a cs.length cap∧cs.length≤cap∧cs.length≤1000000000000000∧ ∀i (h:i<cs.length),∃b o,a=some ⟨b,o,none⟩∧b<w.heap.size∧ChAt w b (o+i*5) cs[i]
theorem ChAt.below {w w':World} {b o:Nat} {c:Pp.Ch} (h:ChAt w b o c) (hb:b<w.heap.size) (hw:Below w.heap.size w w'):ChAt w' b o c:=
 ⟨(hw.cell (p:=⟨b,o,none⟩) hb).trans h.1,(hw.cell (p:=⟨b,o+1,none⟩) hb).trans h.2.1,(hw.cell (p:=⟨b,o+2,none⟩) hb).trans h.2.2.1,(hw.cell (p:=⟨b,o+3,none⟩) hb).trans h.2.2.2.1,(hw.cell (p:=⟨b,o+4,none⟩) hb).trans h.2.2.2.2⟩
theorem LiesC.below {w w':World} {v:Value} {cs:List Pp.Ch} (h:LiesC w v cs) (hw:Below w.heap.size w w'):LiesC w' v cs:=by
 obtain⟨a,cap,hv,h1,h2,h3⟩:=h
 refine⟨a,cap,hv,h1,h2,fun i hi=>?_⟩
 obtain⟨b,o,ha,hb,he⟩:=h3 i hi
 exact⟨b,o,ha,Nat.lt_of_lt_of_le hb hw.size,he.below hb hw⟩
def SizedC (B:Nat) (cs:List Pp.Ch):Prop:= ∀c∈cs,c.p.size≤B∧c.q.size≤B∧c.t.size≤B
set_option maxHeartbeats 400000 in
theorem inNames_any (c:UInt8) (w:World):
    Calls Tryz.prog 138 #[.int .u8 (c.toNat:Int)] w fun e w'=>e= .returned (.bool (Pp.okB c))∧w'=w:=by
 go_enter Tryz.func138,Tryz.ntmps138
 go_wp2_with (go_at_call 156;refine(Tryz.strings_IndexByte _ _ _).mono ?_;rintro e w' ⟨rfl,rfl⟩)
 all_goals go_ret
 all_goals first
  |exact⟨Pp.ret_bool (Pp.okB_l c (by omega)),rfl⟩
  |exact⟨Pp.ret_bool (Pp.okB_o c (by omega) (by omega) (by omega)),rfl⟩
set_option maxHeartbeats 800000 in
theorem isName_any (s:ByteArray) (w:World) (hs:s.size≤maxLen):
    Calls Tryz.prog 118 #[.string s] w fun e w'=>e= .returned (.bool (Pp.nameB s.data.toList))∧w'=w:=by
 unfold maxLen at hs;by_cases c1:(s.size:Int)<1
 · go_enter Tryz.func118,Tryz.ntmps118
   go_wp2_with fail;go_ret;exact⟨Pp.ret_bool (Pp.nameB_no s (Or.inl (by omega))),rfl⟩
 by_cases c2:20<(s.size:Int)
 · go_enter Tryz.func118,Tryz.ntmps118
   go_wp2_with fail;go_ret;exact⟨Pp.ret_bool (Pp.nameB_no s (Or.inr (Or.inl (by omega)))),rfl⟩
 cases c3:(s.toList==[46])with
 |true=>
  have HN:=hid (show s.toList=[46]from by simpa using c3);go_enter Tryz.func118,Tryz.ntmps118
  go_wp2_with fail;go_ret;exact⟨Pp.ret_bool (Pp.nameB_no s (Or.inr (Or.inr (Or.inl HN.out)))),rfl⟩
 |false=>
 cases c4:(s.toList==[46,46])with
 |true=>
  have HN:=hid (show s.toList=[46,46]from by simpa using c4);go_enter Tryz.func118,Tryz.ntmps118
  go_wp2_with fail;go_ret;exact⟨Pp.ret_bool (Pp.nameB_no s (Or.inr (Or.inr (Or.inr HN.out)))),rfl⟩
 |false=>
 have h0:0<s.size:=by omega
 have h6:s.size-1<s.size:=by omega
 cases c5:((s[0].toNat:Int)==32)with
 |true=>
  have HN:=hid (show(s[0].toNat:Int)=32 from by simpa using c5);go_enter Tryz.func118,Tryz.ntmps118
  go_wp2_with fail;go_ret;exact⟨Pp.ret_bool (Pp.nameB_head s h0 HN.out),rfl⟩
 |false=>
 cases c6:((s[s.size-1].toNat:Int)==32)with
 |true=>
  have HN:=hid (show(s[s.size-1].toNat:Int)=32 from by simpa using c6);go_enter Tryz.func118,Tryz.ntmps118
  go_wp2_with fail;go_ret;exact⟨Pp.ret_bool (Pp.nameB_last s h6 HN.out),rfl⟩
 |false=>
 have HY:Hid (s.data.toList.all Pp.okB=true→true=Pp.nameB s.data.toList):=fun h8=>
  Pp.nameB_yes s (by omega) (by omega) (by simpa using c3) (by simpa using c4) h0 (by simpa using c5) h6 (by simpa using c6) h8
 go_enter Tryz.func118,Tryz.ntmps118
 go_wp2_with fail;go_loop [33] (fun i=> ∃k:Nat,k≤s.size∧i= .int .i64 k∧(s.data.toList.take k).all Pp.okB=true) (fun i=>s.size-(intOf i).toNat)
 case atStart=>exact⟨0,Nat.zero_le _,rfl,by simp⟩
 case round=>
  obtain⟨k,hk,rfl,hall⟩:=hrel
  have HA:Hid ((s.data.toList.take k).all Pp.okB=true):=hall;clear hall;by_cases hlt:k<s.size
  · cases hok:Pp.okB s[k]with
    |true=>
     go_wp2_with (go_at_call 138;refine(inNames_any _ _).mono ?_;rintro e w' ⟨rfl,rfl⟩)
     go_round
     case rel=>exact⟨k+1,by omega,by go_num,Pp.all_snoc s k hlt HA.out hok⟩
     case measure=>simp[intOf];omega
    |false=>
     go_wp2_with (go_at_call 138;refine(inNames_any _ _).mono ?_;rintro e w' ⟨rfl,rfl⟩)
     go_ret;exact⟨Pp.ret_bool (Pp.nameB_bad s k hlt hok),rfl⟩
  · go_wp2_with fail
    go_ret;exact⟨Pp.ret_bool (HY.out (by have:=HA.out;rwa [List.take_of_length_le (by simp;omega)]at this)),rfl⟩
end Go.Proofs.YtdifomkoegmngaaGreatDoor
