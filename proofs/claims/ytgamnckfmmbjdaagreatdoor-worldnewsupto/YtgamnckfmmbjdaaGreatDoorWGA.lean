/- Plain mathematics of paths: names between slashes, what is a name, what Check answers, parent and last name, what goes aside; lists of bytes alone, no program. -/
import Derived.WalkKit
import Derived.Lib.IndexMore
import Derived.Lib.LastIndexLaws
import Derived.Lib.CutLaws
import Derived.Test.YtgamnckfmmbjdaaGreatDoorShelf
import Derived.WalkSpells
import Derived.WalkLawsBesides
import Derived.Handy
import Derived.Deep.QuietTactic
import Derived.BigQuiet
import Derived.RegionTactic
import Derived.Lib.LastIndexByte
import Derived.Lib.TrimByte
import Derived.Lib.ItoaNum
import Derived.Lib.SmallJoins
set_option linter.unusedSimpArgs false
set_option linter.unusedVariables false
namespace Go.Proofs.YtgamnckfmmbjdaaGreatDoor
open Go.RowKit Go.Proofs.Tryz
set_option maxHeartbeats 800000
def cD (c:UInt8):Bool:=(97≤c && c≤122)||(65≤c && c≤90)||(48≤c && c≤57)||c==45||c==95||c==46||c==40||c==41||c==32
def az (l:List UInt8):Bool:=l.all cD && decide (1≤l.length) && decide (l.length≤20) && (l.head? !=some 32) && (l.getLast? !=some 32) && l !=[46] && l !=[46,46]
def ah:List UInt8→List (List UInt8)
 |[]=>[[]]
 |c::r=>if c=47 then[]::ah r else match ah r with
  |[]=>[[c]]
  |h::t=>(c::h)::t
def Pp.big (l:List UInt8):Bool:=decide (6<(ah l).length)||decide (80<l.length)
def al (l:List UInt8):Int:=if(ah l).all az=true then(if Pp.big l=true then 2 else 0)else 1
def bB:List (List UInt8)→List UInt8
 |[]=>[]
 |[a]=>a
 |a::b::r=>a++47::bB (b::r)
theorem ik (l:List UInt8):ah l≠[]:=by
 cases l with
 |nil=>simp[ah]
 | cons c r => rw [ah]; split; · simp
               split<;>simp
theorem il: ∀(a:List UInt8),47∉a→ah a=[a]
 |[],_=>rfl
 |c::r,h=>by
  have d:c≠47:=fun e=>h (by simp[e])
  have f:47∉r:=fun e=>h (by simp[e])
  rw[ah,if_neg d,il r f]
theorem mm: ∀(a b:List UInt8),47∉a→ah (a++47::b)=a::ah b
 |[],b,_=>by simp[ah]
 |c::r,b,h=>by
  have d:c≠47:=fun e=>h (by simp[e])
  have f:47∉r:=fun e=>h (by simp[e])
  rw[List.cons_append,ah,if_neg d,mm r b f]
theorem iJ: ∀(l:List UInt8),bB (ah l)=l
 |[]=>rfl
 |c::r=>by
  have ih:=iJ r;have a:=ik r;rw[ah];split
  · rename_i h
    subst h;cases e:ah r with
    |nil=>exact absurd e a
    |cons x t=>rw[e]at ih;simp[bB,ih]
  · cases e:ah r with
    |nil=>exact absurd e a
    |cons x t=>
     rw[e]at ih;cases t with
     |nil=>simp[bB]at ih⊢;exact ih
     |cons y u=>simp[bB]at ih⊢;exact ih
theorem gQ: ∀(l:List UInt8),(ah l).length≤l.length+1
 |[]=>by simp[ah]
 |c::r=>by
  have ih:=gQ r;rw[ah];split
  · simp;omega
  · cases e:ah r with
    |nil=>simp
    |cons x t=>rw[e]at ih;simp at ih⊢;omega
theorem oM (l:List UInt8) (c:UInt8):(Lib.indexByte l c= -1∧c∉l)∨ ∃i:Nat,Lib.indexByte l c=i∧i<l.length∧c∉l.take i∧l=l.take i++c::l.drop (i+1):=by
 induction l with
 |nil=>left;simp[Lib.indexByte]
 |cons b r ih=>
  by_cases h:b=c
  · right
    subst h;exact⟨0,by simp[Lib.indexByte],by simp,by simp,by simp⟩
  · rcases ih with⟨e,a⟩|⟨i,e,j,a,f⟩
    · left
      refine⟨?_,by simp[a,Ne.symm h]⟩
      simp[Lib.indexByte,e,h]
    · right
      refine⟨i+1,?_,by simp;omega,by simp[a,Ne.symm h],by simp[←f]⟩
      have d: ¬((i:Int)= -1):=by omega
      simp[Lib.indexByte,e,d,h]
theorem oN (a b:List UInt8) (c:UInt8) (h:c∉a):Lib.indexByte (a++c::b) c=a.length:=by
 induction a with
 |nil=>simp[Lib.indexByte]
 |cons x r ih=>
  have d: ¬x=c:=fun e=>h (by simp[e])
  have f:c∉r:=fun e=>h (by simp[e])
  have j: ¬((r.length:Int)= -1):=by omega
  simp[Lib.indexByte,d,ih f,j]
theorem oO (l:List UInt8) (c:UInt8) (h:c∉l):Lib.indexByte l c= -1:=by
 rcases oM l c with⟨e,_⟩|⟨i,_,d,_,a⟩
 · exact e
 · exact absurd (by rw[a];simp) h
theorem mo (l:List UInt8) (c:UInt8) (h:c∈l): ∃a b,c∉a∧l=a++c::b:=by
 rcases oM l c with⟨_,d⟩|⟨i,e,j,d,f⟩
 · exact absurd h d
 · exact⟨_,_,d,f⟩
theorem dZ {s:ByteArray} {l:List UInt8} (h:s.data.toList=l):s=⟨l.toArray⟩:=by
 cases s;subst h;simp
theorem iK (c:UInt8):cD c=true↔(97≤c.toNat∧c.toNat≤122)∨(65≤c.toNat∧c.toNat≤90)∨(48≤c.toNat∧c.toNat≤57)∨c.toNat=45∨c.toNat=95∨c.toNat=46∨c.toNat=40∨c.toNat=41∨c.toNat=32:=by
 simp[cD,UInt8.le_iff_toNat_le,←UInt8.toNat_inj,or_assoc]
theorem tk (c:UInt8):decide (0≤Lib.indexByte [45,95,46,40,41,32] c)=true↔c.toNat=45∨c.toNat=95∨c.toNat=46∨c.toNat=40∨c.toNat=41∨c.toNat=32:=by
 simp only[Lib.indexByte,beq_iff_eq,←UInt8.toNat_inj,decide_eq_true_eq];simp
 omega
theorem tl (c:UInt8) (h:(97≤c.toNat∧c.toNat≤122)∨(65≤c.toNat∧c.toNat≤90)∨(48≤c.toNat∧c.toNat≤57)):true=cD c:=
 ((iK c).2 (by omega)).symm
theorem tn (c:UInt8) (a: ¬(97≤c.toNat∧c.toNat≤122)) (d: ¬(65≤c.toNat∧c.toNat≤90)) (e: ¬(48≤c.toNat∧c.toNat≤57)):decide (0≤Lib.indexByte [45,95,46,40,41,32] c)=cD c:=by
 rw[Bool.eq_iff_iff,tk,iK];omega
theorem gR (l:List UInt8):(⟨l.toArray⟩:ByteArray).size=l.length:=by rw[Lib.size_eq]
theorem aV {a b:Bool} (h:a=b):Ending.returned (.bool a)= .returned (.bool b):=by rw[h]
theorem an {k:IntKind} {a b:Int} (h:a=b):Ending.returned (.int k a)= .returned (.int k b):=by rw[h]
theorem im (s:ByteArray) (h:s.size<1∨20<s.size∨s.toList=[46]∨s.toList=[46,46]):false=az s.data.toList:=by
 rw[ByteArray.toList_eq]at h;have e:s.size=s.data.toList.length:=Lib.size_eq s;rw[e]at h;generalize s.data.toList=l at h
 have: ¬(az l=true):=by
  simp only[az,Bool.and_eq_true,decide_eq_true_eq,bne_iff_ne];rintro ⟨⟨⟨⟨⟨⟨_,f⟩,j⟩,_⟩,_⟩,a⟩,d⟩;rcases h with h|h|h|h
  · omega
  · omega
  · exact a h
  · exact d h
 simpa using this
theorem oP (s:ByteArray) (a:0<s.size) (h:(s[0].toNat:Int)=32):false=az s.data.toList:=by
 have d:0<s.data.toList.length:=by simpa using a
 have e:s.data.toList.head?=some s[0]:=by rw[List.head?_eq_getElem?,List.getElem?_eq_getElem d,byte_at' s 0 a d]
 have f:s[0]=32:=UInt8.toNat_inj.1 (by simpa using Int.ofNat.inj h)
 have: ¬(az s.data.toList=true):=by
  simp only[az,Bool.and_eq_true,decide_eq_true_eq,bne_iff_ne,e,f];rintro ⟨⟨⟨⟨⟨⟨_,_⟩,_⟩,j⟩,_⟩,_⟩,_⟩;exact j rfl
 simpa using this
theorem oQ (s:ByteArray) (a:s.size-1<s.size) (h:(s[s.size-1].toNat:Int)=32):false=az s.data.toList:=by
 have d:s.size-1<s.data.toList.length:=by simpa using a
 have e:s.data.toList.getLast?=some s[s.size-1]:=by rw[List.getLast?_eq_getElem?,←Lib.size_eq,List.getElem?_eq_getElem d,byte_at' s _ a d]
 have f:s[s.size-1]=32:=UInt8.toNat_inj.1 (by simpa using Int.ofNat.inj h)
 have: ¬(az s.data.toList=true):=by
  simp only[az,Bool.and_eq_true,decide_eq_true_eq,bne_iff_ne,e,f];rintro ⟨⟨⟨⟨⟨⟨_,_⟩,_⟩,_⟩,j⟩,_⟩,_⟩;exact j rfl
 simpa using this
theorem oR (s:ByteArray) (k:Nat) (a:k<s.size) (h:cD s[k]=false):false=az s.data.toList:=by
 have d:k<s.data.toList.length:=by simpa using a
 have f:s[k]∈s.data.toList:=by rw[←byte_at' s k a d];exact List.getElem_mem d
 have: ¬(az s.data.toList=true):=by
  simp only[az,Bool.and_eq_true,decide_eq_true_eq,bne_iff_ne,List.all_eq_true];rintro ⟨⟨⟨⟨⟨⟨e,_⟩,_⟩,_⟩,_⟩,_⟩,_⟩;rw[e _ f]at h;cases h
 simpa using this
theorem oS (s:ByteArray) (A:1≤s.size) (E:s.size≤20) (j:s.toList≠[46]) (o:s.toList≠[46,46]) (f:0<s.size) (F:(s[0].toNat:Int)≠32)
    (u:s.size-1<s.size) (G:(s[s.size-1].toNat:Int)≠32) (H:s.data.toList.all cD=true):true=az s.data.toList:=by
 rw[ByteArray.toList_eq]at j o;have y:0<s.data.toList.length:=by simpa using f
 have e:s.data.toList.head?=some s[0]:=by rw[List.head?_eq_getElem?,List.getElem?_eq_getElem y,byte_at' s 0 f y]
 have d:s.size-1<s.data.toList.length:=by simpa using u
 have z:s.data.toList.getLast?=some s[s.size-1]:=by rw[List.getLast?_eq_getElem?,←Lib.size_eq,List.getElem?_eq_getElem d,byte_at' s _ u d]
 symm
 simp only[az,Bool.and_eq_true,decide_eq_true_eq,bne_iff_ne,e,z,←Lib.size_eq];refine⟨⟨⟨⟨⟨⟨H,A⟩,E⟩,?_⟩,?_⟩,j⟩,o⟩
 · intro a;rw[Option.some.injEq]at a;exact F (by rw[a];rfl)
 · intro a;rw[Option.some.injEq]at a;exact G (by rw[a];rfl)
theorem tq (s:ByteArray) (k:Nat) (h:k<s.size):s.data.toList.take (k+1)=s.data.toList.take k++[s[k]]:=by
 rw[List.take_succ_eq_append_getElem (by simpa using h)];rfl
theorem oT (s:ByteArray) (k:Nat) (h:k<s.size) (a:(s.data.toList.take k).all cD=true) (d:cD s[k]=true):(s.data.toList.take (k+1)).all cD=true:=by
 rw[tq s k h,List.all_append,a];simp[d]
theorem oU (s:ByteArray) {dn:List (List UInt8)} (a:ah s.data.toList=dn) (d:dn.all az=true) (hb:(6:Int)<dn.length∨(80:Int)<s.size):2=al s.data.toList:=by
 have:Pp.big s.data.toList=true:=by
  simp only[Pp.big,a,Bool.or_eq_true,decide_eq_true_eq,←Lib.size_eq];omega
 simp[al,a,d,this]
theorem ts (s:ByteArray) {dn:List (List UInt8)} (a:ah s.data.toList=dn) (d:dn.all az=true) (e:(dn.length:Int)≤6) (f:(s.size:Int)≤80):0=al s.data.toList:=by
 have:Pp.big s.data.toList=false:=by
  simp only[Pp.big,a,Bool.or_eq_false_iff,decide_eq_false_iff_not,←Lib.size_eq];omega
 simp[al,a,d,this]
theorem mq (s:ByteArray) {dn r:List (List UInt8)} {n:List UInt8} (a:ah s.data.toList=dn++n::r) (h:az n=false):1=al s.data.toList:=by
 simp[al,a,h]
theorem mr {dn:List (List UInt8)} {n:List UInt8} (h:dn.all az=true) (a:az n=true):(dn++[n]).all az=true:=by
 rw[List.all_append,h];simp[a]
theorem tu (s t:ByteArray) {dn:List (List UInt8)} (h:ah s.data.toList=dn++ah t.data.toList):dn.length+1≤s.size+1:=by
 have a:=gQ s.data.toList;have d:(ah t.data.toList).length≠0:=fun e=>ik _ (List.length_eq_zero_iff.1 e)
 rw[h,List.length_append,←Lib.size_eq]at a;omega
theorem oV (c:UInt8) (w:World):
    Calls prog 224 #[.int .u8 (c.toNat:Int)] w fun e w'=>e= .returned (.bool (cD c))∧w'=w:=by
 go_enter func224,ntmps224
 go_wp2_with (go_at_call 271;refine(Tryz.strings_IndexByte _ _ _).mono ?_;rintro e w' ⟨rfl,rfl⟩)
 all_goals go_ret
 all_goals first
  |exact⟨aV (tl c (by omega)),rfl⟩
  |exact⟨aV (tn c (by omega) (by omega) (by omega)),rfl⟩
theorem jj (s:ByteArray) (w:World) (I:s.size≤maxLen):
    Calls prog 187 #[.string s] w fun e w'=>e= .returned (.bool (az s.data.toList))∧w'=w:=by
 unfold maxLen at I;by_cases J:(s.size:Int)<1
 · go_enter func187,ntmps187
   go_wp2_with fail;go_ret;exact⟨aV (im s (Or.inl (by omega))),rfl⟩
 by_cases K:20<(s.size:Int)
 · go_enter func187,ntmps187
   go_wp2_with fail;go_ret;exact⟨aV (im s (Or.inr (Or.inl (by omega)))),rfl⟩
 cases u:(s.toList==[46])with
 |true=>
  have d:=hid (show s.toList=[46]from by simpa using u);go_enter func187,ntmps187
  go_wp2_with fail;go_ret;exact⟨aV (im s (Or.inr (Or.inr (Or.inl d.out)))),rfl⟩
 |false=>
 cases y:(s.toList==[46,46])with
 |true=>
  have d:=hid (show s.toList=[46,46]from by simpa using y);go_enter func187,ntmps187
  go_wp2_with fail;go_ret;exact⟨aV (im s (Or.inr (Or.inr (Or.inr d.out)))),rfl⟩
 |false=>
 have E:0<s.size:=by omega
 have F:s.size-1<s.size:=by omega
 cases z:((s[0].toNat:Int)==32)with
 |true=>
  have d:=hid (show(s[0].toNat:Int)=32 from by simpa using z);go_enter func187,ntmps187
  go_wp2_with fail;go_ret;exact⟨aV (oP s E d.out),rfl⟩
 |false=>
 cases A:((s[s.size-1].toNat:Int)==32)with
 |true=>
  have d:=hid (show(s[s.size-1].toNat:Int)=32 from by simpa using A);go_enter func187,ntmps187
  go_wp2_with fail;go_ret;exact⟨aV (oQ s F d.out),rfl⟩
 |false=>
 have G:Hid (s.data.toList.all cD=true→true=az s.data.toList):=fun H=>
  oS s (by omega) (by omega) (by simpa using u) (by simpa using y) E (by simpa using z) F (by simpa using A) H
 go_enter func187,ntmps187
 go_wp2_with fail;go_loop [33] (fun i=> ∃k:Nat,k≤s.size∧i= .int .i64 k∧(s.data.toList.take k).all cD=true) (fun i=>s.size-(intOf i).toNat)
 case atStart=>exact⟨0,Nat.zero_le _,rfl,by simp⟩
 case round=>
  obtain⟨k,M,rfl,a⟩:=hrel
  have o:Hid ((s.data.toList.take k).all cD=true):=a;clear a;by_cases f:k<s.size
  · cases j:cD s[k]with
    |true=>
     go_wp2_with (go_at_call 224;refine(oV _ _).mono ?_;rintro e w' ⟨rfl,rfl⟩)
     go_round
     case rel=>exact⟨k+1,by omega,by go_num,oT s k f o.out j⟩
     case measure=>simp[intOf];omega
    |false=>
     go_wp2_with (go_at_call 224;refine(oV _ _).mono ?_;rintro e w' ⟨rfl,rfl⟩)
     go_ret;exact⟨aV (oR s k f j),rfl⟩
  · go_wp2_with fail
    go_ret;exact⟨aV (G.out (by have:=o.out;rwa [List.take_of_length_le (by simp;omega)]at this)),rfl⟩
theorem tv (s:ByteArray) (w:World) (d:s.size≤maxLen) (h:47∉s.data.toList):
    Calls prog 220 #[.string s,.string ⟨#[47]⟩] w fun e w'=>e= .returned (.tuple #[.string s,.string ⟨#[]⟩,.bool false])∧Below w.heap.size w w':=by
 unfold maxLen at d;have a:Hid (Lib.indexByte s.data.toList 47= -1):=oO _ _ h;clear h;go_enter func220,ntmps220
 go_wp2_with (go_at_call 264;refine(Tryz.stringslite_Index_one _ _ _).mono ?_;rintro e w' ⟨rfl,rfl⟩;rw[a.out])
 go_ret3;exact⟨rfl,Below.refl _ _⟩
theorem tw (s:ByteArray) (a b:List UInt8) (w:World) (y:s.size≤maxLen) (h:47∉a) (d:s.data.toList=a++47::b):
    Calls prog 220 #[.string s,.string ⟨#[47]⟩] w fun e w'=>e= .returned (.tuple #[.string ⟨a.toArray⟩,.string ⟨b.toArray⟩,.bool true])∧Below w.heap.size w w':=by
 unfold maxLen at y;have u:=hid (show Lib.indexByte s.data.toList 47=a.length from by rw[d];exact oN a b 47 h);have f:s.size=a.length+b.length+1:=by rw[Lib.size_eq,d];simp;try omega
 have z:(a.length:Int)≤s.size:=by omega
 have A:(a.length:Int)+1≤s.size:=by omega
 have j:=hid (show s.extract 0 a.length=⟨a.toArray⟩from dZ (by rw[Lib.extract_data,d];simp));have o:=hid (show s.extract (a.length+1) s.size=⟨b.toArray⟩from dZ (by rw[Lib.extract_data,d,f];simp));clear h d f;go_enter func220,ntmps220
 go_wp2_with (go_at_call 264;refine(Tryz.stringslite_Index_one _ _ _).mono ?_;rintro e w' ⟨rfl,rfl⟩;rw[u.out])
 go_region
 go_wp2;go_ret3;exact⟨by rw[j.out,o.out];rfl,(Below.refl _ _).drew⟩
theorem oW (s:ByteArray) (w:World) (a:s.size≤maxLen) (h:47∉s.data.toList):
    Calls prog 172 #[.string s,.string ⟨#[47]⟩] w fun e w'=>e= .returned (.tuple #[.string s,.string ⟨#[]⟩,.bool false])∧Below w.heap.size w w':=by
 go_enter func172,ntmps172
 go_wp2_with fail;refine(tv s _ a h).mono ?_
 rintro e w' ⟨rfl,hb⟩;clear a h;go_wp2;go_ret3;exact⟨rfl,hb⟩
theorem oX (s:ByteArray) (a b:List UInt8) (w:World) (j:s.size≤maxLen) (h:47∉a) (d:s.data.toList=a++47::b):
    Calls prog 172 #[.string s,.string ⟨#[47]⟩] w fun e w'=>e= .returned (.tuple #[.string ⟨a.toArray⟩,.string ⟨b.toArray⟩,.bool true])∧Below w.heap.size w w':=by
 have f:Hid (s.data.toList=a++47::b):=d;clear d;go_enter func172,ntmps172
 go_wp2_with fail;refine(tw s a b _ j h f.out).mono ?_
 rintro e w' ⟨rfl,hb⟩;clear j h;go_wp2;go_ret3;exact⟨rfl,hb⟩
def mu (r m:Value):Nat:=match m,r with
 | .bool true,.string s=>s.size+1
 |_,_=>0
theorem d9 (s:ByteArray) (w:World) (V:s.size≤1000000000000000):
    Calls prog 166 #[.string s] w fun e w'=>e= .returned (.int .i64 (al s.data.toList))∧Below w.heap.size w w':=by
 go_enter func166,ntmps166
 go_wp2_with fail
 go_loopw [3, 4, 5] (fun d r m wr => ∃ (o : List (List UInt8)) (t : ByteArray) (b : Bool), d = .int .i64 o.length ∧ r = .string t ∧ m = .bool b ∧ o.all az = true ∧ t.size ≤ s.size ∧ o.length ≤ s.size + 1 ∧
     (b=true→ah s.data.toList=o++ah t.data.toList)∧(b=false→ah s.data.toList=o)∧Below w.heap.size w wr) (fun _ r m _=>mu r m)
 case atStart=>exact⟨[],s,true,rfl,rfl,rfl,rfl,Nat.le_refl _,by simp,fun _=>rfl,(fun h=>by cases h),Below.refl _ _⟩
 case round=>
  obtain⟨o,t,b,rfl,rfl,rfl,F,U,T,J,K,f⟩:=hrel
  have H:Hid (o.all az=true):=F;clear F;cases b with
  |false=>
   have G:Hid (ah s.data.toList=o):=K rfl;clear J K;by_cases S:6<(o.length:Int)
   · go_wp2_with fail
     go_ret;exact⟨an (oU s G.out H.out (Or.inl S)),f⟩
   by_cases Q:80<(s.size:Int)
   · go_wp2_with fail
     go_ret;exact⟨an (oU s G.out H.out (Or.inr Q)),f⟩
   go_wp2_with fail;go_ret;exact⟨an (ts s G.out H.out (by omega) (by omega)),f⟩
  |true=>
   have G:Hid (ah s.data.toList=o++ah t.data.toList):=J rfl;clear J K;have P:=tu s t G.out;by_cases z:47∈t.data.toList
   · obtain⟨a,b,M,A⟩:=mo _ _ z
     have I:Hid (t.data.toList=a++47::b):=A;have Q:t.size=a.length+b.length+1:=by rw[Lib.size_eq,A];simp;try omega
     have y:=hid (show ah s.data.toList=o++a::ah b from by rw[G.out,A,mm a b M]);clear z A;cases E:az a with
     |true=>
      have u:Hid (az a=true):=E;clear E;go_wp2_with fail;refine(oX t a b _ (by unfold maxLen;omega) M I.out).mono ?_
      rintro e N ⟨rfl,j⟩;go_wp2_with fail;refine(jj ⟨a.toArray⟩ _ (by unfold maxLen;rw[gR];omega)).mono ?_
      rintro e O ⟨rfl,rfl⟩;simp only[u.out];go_wp2_with fail;go_roundw
      case rel=>exact⟨o++[a],⟨b.toArray⟩,true,by simp,rfl,rfl,mr H.out u.out,by rw[gR];omega,by simp;omega,(fun _=>by rw[y.out];simp),(fun h=>by cases h),f.trans (j.mono f.size)⟩
      case measure=>simp only[mu,gR];omega
     |false=>
      have u:Hid (az a=false):=E;clear E;go_wp2_with fail;refine(oX t a b _ (by unfold maxLen;omega) M I.out).mono ?_
      rintro e N ⟨rfl,j⟩;go_wp2_with fail;refine(jj ⟨a.toArray⟩ _ (by unfold maxLen;rw[gR];omega)).mono ?_
      rintro e O ⟨rfl,rfl⟩;simp only[u.out];go_wp2_with fail;go_ret;exact⟨an (mq s y.out u.out),f.trans (j.mono f.size)⟩
   · have y:=hid (show ah s.data.toList=o++[t.data.toList]from by rw[G.out,il _ z])
     cases E:az t.data.toList with
     |true=>
      have u:Hid (az t.data.toList=true):=E;clear E;go_wp2_with fail;refine(oW t _ (by unfold maxLen;omega) z).mono ?_
      rintro e N ⟨rfl,j⟩;go_wp2_with fail;refine(jj t _ (by unfold maxLen;omega)).mono ?_
      rintro e O ⟨rfl,rfl⟩;simp only[u.out];go_wp2_with fail;go_roundw
      case rel=>exact⟨o++[t.data.toList],⟨#[]⟩,false,by simp,rfl,rfl,mr H.out u.out,by rw[Lib.size_eq];simp,by simp;omega,(fun h=>by cases h),(fun _=>y.out),f.trans (j.mono f.size)⟩
      case measure=>simp only[mu];omega
     |false=>
      have u:Hid (az t.data.toList=false):=E;clear E;go_wp2_with fail;refine(oW t _ (by unfold maxLen;omega) z).mono ?_
      rintro e N ⟨rfl,j⟩;go_wp2_with fail;refine(jj t _ (by unfold maxLen;omega)).mono ?_
      rintro e O ⟨rfl,rfl⟩;simp only[u.out];go_wp2_with fail;go_ret;exact⟨an (mq s y.out u.out),f.trans (j.mono f.size)⟩
theorem jP (a b:List UInt8):ah (a++47::b)=ah a++ah b:=by
 induction a with
 |nil=>simp[ah]
 |cons c r ih=>
  rw[List.cons_append,ah,ah,ih];split
  · simp
  · cases e:ah r with
    |nil=>exact absurd e (ik r)
    |cons x t=>simp
def ax (l:List UInt8):List UInt8:=bB (ah l).dropLast
def Pp.lst (l:List UInt8):List UInt8:=(ah l).getLastD []
theorem mv {l:List UInt8} (h:47∉l):ax l=[]:=by simp[ax,il l h,bB]
theorem Pp.lst_none {l:List UInt8} (h:47∉l):Pp.lst l=l:=by simp[Pp.lst,il l h]
theorem eG (a:List UInt8) {b:List UInt8} (h:47∉b):ax (a++47::b)=a:=by
 rw[ax,jP,il b h,List.dropLast_concat,iJ]
theorem tz (a:List UInt8) {b:List UInt8} (h:47∉b):Pp.lst (a++47::b)=b:=by
 rw[Pp.lst,jP,il b h];simp
theorem oY (s:ByteArray) (k:Nat) (h:k<s.data.toList.length):s.data[k]! =s.data.toList[k]:=by
 have a:k<s.data.size:=by simpa using h
 rw[getElem!_pos s.data k a,Array.getElem_toList]
theorem tA (s:ByteArray) (c:UInt8):(Lib.lastIndexByte s (c.toNat:Int)= -1∧c∉s.data.toList)∨
    ∃a b,Lib.lastIndexByte s (c.toNat:Int)=(a.length:Int)∧c∉b∧s.data.toList=a++c::b:=by
 have f: ∀j (d:j<s.data.toList.length),((s.data[j]!).toNat:Int)≠c.toNat→s.data.toList[j]≠c:=by
  intro j d h e;rw[oY s j d,e]at h;exact h rfl
 rcases Lib.lastIndexByte_spec s c.toNat with⟨e,z⟩|⟨i,u,e,A,z⟩
 · left
   refine⟨e,fun y=>?_⟩
   obtain⟨j,d,o⟩:=List.getElem_of_mem y
   exact f j d (z j (by rw[Lib.size_eq];exact d)) o
 · right
   rw[Lib.size_eq]at u
   have E:s.data.toList[i]=c:=by
    rw[oY s i u]at A;exact UInt8.toNat_inj.1 (Int.ofNat.inj A)
   refine⟨s.data.toList.take i,s.data.toList.drop (i+1),by rw[e,List.length_take];omega,fun y=>?_,?_⟩
   · obtain⟨j,d,o⟩:=List.getElem_of_mem y
     rw[List.length_drop]at d;rw[List.getElem_drop]at o;exact f (i+1+j) (by omega) (z (i+1+j) (by omega) (by rw[Lib.size_eq];omega)) o
   · conv=>lhs;rw[←List.take_append_drop i s.data.toList,List.drop_eq_getElem_cons u,E]
def ip (p n:List UInt8):List UInt8:=if p=[]then n else p++47::n
def bq:List (List UInt8)→Int
 |[]=>0
 |a::r=>if al a=0 then bq r else al a
def jk (e:Int) (x:List UInt8):List UInt8:=if e=0 then x else[]
theorem eH {e:Int} (h:e=0) (x:List UInt8):jk e x=x:=if_pos h
theorem jQ {e:Int} (h: ¬e=0) (x:List UInt8):jk e x=[]:=if_neg h
theorem oZ (l:List UInt8):(ax l).length≤l.length:=by
 by_cases h:47∈l.reverse
 · obtain⟨a,b,f,d⟩:=mo _ _ h
   have e:l=b.reverse++47::a.reverse:=by
    have:=congrArg List.reverse d
    simpa using this
   rw[e,eG _ (by simpa using f)];simp
 · rw[mv (by simpa using h)];simp
theorem pa (d:List (List UInt8)) (x:List UInt8) (h:d≠[]):bB (d++[x])=bB d++47::x:=by
 induction d with
 |nil=>exact absurd rfl h
 |cons a r ih=>
  cases r with
  |nil=>simp[bB]
  |cons b t=>
   have:=ih (by simp)
   simp only[List.cons_append,bB]at this⊢;rw[this];simp
theorem pc (d e:List (List UInt8)) (f:d≠[]) (j:e≠[]):bB (d++e)=bB d++47::bB e:=by
 induction d with
 |nil=>exact absurd rfl f
 |cons a r ih=>
  cases r with
  |nil=>
   cases e with
   |nil=>exact absurd rfl j
   |cons b t=>simp[bB]
  |cons b t=>
   have:=ih (by simp)
   simp only[List.cons_append,bB]at this⊢;rw[this];simp
theorem mw (L:List (List UInt8)) (k:Nat):(bB (L.take k)).length≤(bB L).length:=by
 by_cases a:L.take k=[]
 · rw[a];simp[bB]
 by_cases d:L.drop k=[]
 · have:L.take k=L:=by
    have:=List.take_append_drop k L
    rw[d,List.append_nil]at this;exact this
   rw[this];exact Nat.le_refl _
 · conv=>rhs;rw[←List.take_append_drop k L,pc _ _ a d]
   rw[List.length_append];omega
theorem tB (L:List (List UInt8)) (k:Nat) (h:k<L.length) (a:0<k):(⟨(bB (L.take k)).toArray⟩:ByteArray)++⟨#[47]⟩++⟨(L[k]).toArray⟩=⟨(bB (L.take (k+1))).toArray⟩:=by
 apply dZ
 rw[Joins.data_append,Joins.data_append,List.take_succ_eq_append_getElem h,pa _ _ (by intro e;have:=List.length_take_of_le (show k≤L.length by omega);rw[e]at this;simp at this;omega)];simp
theorem tC (L:List (List UInt8)) (h:0<L.length):(⟨#[]⟩:ByteArray)++⟨(L[0]).toArray⟩=⟨(bB (L.take 1)).toArray⟩:=by
 apply dZ
 rw[Joins.data_append];cases L with
 |nil=>simp at h
 |cons a r=>simp[bB]
theorem tD (L:List (List UInt8)) (k:Nat) (h:k<L.length):(L[k]).length≤(bB L).length:=by
 have a:=mw L (k+1);rw[List.take_succ_eq_append_getElem h]at a;by_cases e:L.take k=[]
 · rw[e]at a;simpa[bB]using a
 · rw[pa _ _ e]at a;simp at a;omega
theorem tE {a b:List UInt8} (h:ah a=ah b):a=b:=by rw[←iJ a,←iJ b,h]
theorem mx {l:List UInt8} (h:al l=0):(ah l).all az=true:=by
 unfold al at h;split at h
 · assumption
 · simp at h
theorem my {l:List UInt8} (h:(ah l).all az=true):al l=if Pp.big l=true then 2 else 0:=by
 rw[al,if_pos h]
theorem tF {l:List UInt8} (h:al l=0):Pp.big l=false:=by
 rw[my (mx h)]at h;cases e:Pp.big l with
 |false=>rfl
 |true=>rw[e]at h;simp at h
theorem tG {a b:List (List UInt8)} (h:a.all az=true) (d:b.all az=true):(a++b).all az=true:=by
 rw[List.all_append,h,d];rfl
def aI (p q:List UInt8):Bool:=(ah q).isPrefixOf (ah p)
theorem dN (p q:List UInt8):aI p q=true↔p=q∨ ∃r,p=q++47::r:=by
 unfold aI;rw[List.isPrefixOf_iff_prefix];constructor
 · rintro ⟨t,a⟩
   by_cases e:t=[]
   · left
     rw[e,List.append_nil]at a;exact(tE a).symm
   · right
     refine⟨bB t,?_⟩
     rw[←iJ p,←a,pc _ _ (ik q) e,iJ]
 · rintro (h|⟨r,h⟩)
   · rw[h];exact List.prefix_refl _
   · rw[h,jP];exact List.prefix_append _ _
theorem tH (p q:List UInt8):(p==q||Lib.hasPrefix p (q++[47]))=aI p q:=by
 rw[Bool.eq_iff_iff,dN,Bool.or_eq_true,beq_iff_eq,Lib.hasPrefix,List.isPrefixOf_iff_prefix];constructor
 · rintro (h|⟨t,h⟩)
   · exact Or.inl h
   · exact Or.inr ⟨t,by rw[←h];simp⟩
 · rintro (h|⟨t,h⟩)
   · exact Or.inl h
   · exact Or.inr ⟨t,by rw[h];simp⟩
def bm (p f t:List UInt8):List UInt8:=t++p.drop f.length
theorem pd {p f:List UInt8} (t:List UInt8) (h:aI p f=true):ah (bm p f t)=ah t++(ah p).drop (ah f).length:=by
 rcases(dN p f).1 h with e|⟨r,e⟩
 · subst e;simp[bm]
 · have:p.drop f.length=47::r:=by rw[e];simp
   rw[bm,this,jP,e,jP];simp
theorem tI {p f:List UInt8} (t:List UInt8) (h:aI p f=true):bB (ah t++(ah p).drop (ah f).length)=bm p f t:=by
 rw[←pd t h,iJ]
def fI (p f t:List UInt8):Int:=if bq [p,f,t]=0 then(if aI p f=true then al (bm p f t)else 5)else bq [p,f,t]
theorem mz {a:List UInt8} {r:List (List UInt8)} (h:bq (a::r)=0):al a=0∧bq r=0:=by
 unfold bq at h;split at h
 · rename_i e;exact⟨e,h⟩
 · rename_i e;exact absurd h e
theorem pe {p f t:List UInt8} (h:bq [p,f,t]=0) (e:aI p f=true):al (bm p f t)=if Pp.big (bm p f t)=true then 2 else 0:=by
 obtain⟨a,h⟩:=mz h
 obtain⟨o,h⟩:=mz h
 obtain⟨d,_⟩:=mz h
 apply my
 rw[pd t e];refine tG (mx d) ?_
 have:=mx a
 rw[List.all_eq_true]at this⊢;exact fun x j=>this x (List.mem_of_mem_drop j)
structure En where
 path:ByteArray
 folder:Bool
 text:ByteArray
 ver:Int
def cM (w:World) (b o:Nat) (e:En):Prop:=w.cell? ⟨b,o,none⟩=some (.string e.path)∧w.cell? ⟨b,o+1,none⟩=some (.bool e.folder)∧w.cell? ⟨b,o+2,none⟩=some (.string e.text)∧w.cell? ⟨b,o+3,none⟩=some (.int .i64 e.ver)
def aj (w:World) (v:Value) (L:List En):Prop:= ∃a cap,v= .slice a L.length cap∧L.length≤cap∧L.length≤1000000000000000∧ ∀i (h:i<L.length),∃b o,a=some ⟨b,o,none⟩∧b<w.heap.size∧cM w b (o+i*4) L[i]
theorem cM.below {w w':World} {b o:Nat} {e:En} (h:cM w b o e) (hb:b<w.heap.size) (a:Below w.heap.size w w'):cM w' b o e:=
 ⟨(a.cell (p:=⟨b,o,none⟩) hb).trans h.1,(a.cell (p:=⟨b,o+1,none⟩) hb).trans h.2.1,(a.cell (p:=⟨b,o+2,none⟩) hb).trans h.2.2.1,(a.cell (p:=⟨b,o+3,none⟩) hb).trans h.2.2.2⟩
theorem aj.below {w w':World} {v:Value} {L:List En} (h:aj w v L) (e:Below w.heap.size w w'):aj w' v L:=by
 obtain⟨a,d,E,f,j,u⟩:=h
 refine⟨a,d,E,f,j,fun i A=>?_⟩
 obtain⟨b,o,y,hb,z⟩:=u i A
 exact⟨b,o,y,Nat.lt_of_lt_of_le hb e.size,z.below hb e⟩
theorem cN {w e:World} {a b c d:Value} {T:TypeId} (h:Below (w.alloc (.cells #[a,b,c,d] T)).heap.size (w.alloc (.cells #[a,b,c,d] T)) e):
    e.cell? ⟨w.heap.size,0,none⟩=some a∧e.cell? ⟨w.heap.size,1,none⟩=some b∧e.cell? ⟨w.heap.size,2,none⟩=some c∧e.cell? ⟨w.heap.size,3,none⟩=some d∧Below w.heap.size w e∧w.heap.size<e.heap.size:=by
 have f:w.heap.size<(w.alloc (.cells #[a,b,c,d] T)).heap.size:=by simp
 refine⟨?_,?_,?_,?_,((Below.refl _ _).alloc (Nat.le_refl _) _).trans (h.mono (Nat.le_of_lt f)),Nat.lt_of_lt_of_le f h.size⟩
 · exact(h.cell (p:=⟨w.heap.size,0,none⟩) f).trans (by simp)
 · exact(h.cell (p:=⟨w.heap.size,1,none⟩) f).trans (by simp)
 · exact(h.cell (p:=⟨w.heap.size,2,none⟩) f).trans (by simp)
 · exact(h.cell (p:=⟨w.heap.size,3,none⟩) f).trans (by simp)
theorem fs {w e:World} {a b c d:Value} {T:TypeId} (h:Below (w.alloc (.cells #[a,b,c,d] T)).heap.size (w.alloc (.cells #[a,b,c,d] T)) e) (i:Nat):e.frozen? ⟨w.heap.size,i,none⟩=false:=
 (h.frozen (p:=⟨w.heap.size,i,none⟩) (by simp)).trans (World.frozen?_alloc_at _ _ _ _ rfl)
theorem tJ {w d:World} {a:Value} {T:TypeId} (h:Below (w.alloc (.cells #[a] T)).heap.size (w.alloc (.cells #[a] T)) d):
    d.cell? ⟨w.heap.size,0,none⟩=some a∧Below w.heap.size w d∧w.heap.size<d.heap.size:=by
 have e:w.heap.size<(w.alloc (.cells #[a] T)).heap.size:=by simp
 refine⟨?_,((Below.refl _ _).alloc (Nat.le_refl _) _).trans (h.mono (Nat.le_of_lt e)),Nat.lt_of_lt_of_le e h.size⟩
 exact(h.cell (p:=⟨w.heap.size,0,none⟩) e).trans (by simp)
def aM (n:Int):Int:=if n<1∨1000000<n then 3 else 0
def bi (e:En):Int:=if al e.path.data.toList=0 then(if e.folder=true∧ ¬e.text.data.toList=[]then 1 else if 300<e.text.size then 2 else aM e.ver)else al e.path.data.toList
def bH:List En→Int
 |[]=>0
 |e::r=>if bi e=0 then bH r else bi e
def Pp.lt (a b:En):Bool:=Op.bytesLess a.path.toList b.path.toList
def cW:List En→Bool
 |[]=>true
 |[_]=>true
 |a::b::r=>Pp.lt a b && cW (b::r)
def aE (p:List UInt8) (e:En):Bool:=e.path.data.toList==p
def aB (L:List En) (p:List UInt8):Int:=if p=[]then 0 else match L.find? (aE p)with
 |none=>5
 |some e=>if e.folder=true then 0 else 4
def aW (L:List En) (e:En):Int:=aB L (ax e.path.data.toList)
def dC (L M:List En):Int:=if M.any (fun e=>aW L e==5)=true then 5 else if M.any (fun e=>aW L e==4)=true then 4 else 0
def aA (L:List En):Int:=if 60<L.length then 2 else if bH L=0 then(if cW L=true then dC L L else 4)else bH L
theorem mA (L:List En) (p:List UInt8):aB L p=0∨aB L p=4∨aB L p=5:=by
 unfold aB;split
 · simp
 · split
   · simp
   · split<;>simp
theorem fJ {e:En} (h:bi e=0):al e.path.data.toList=0:=by
 unfold bi at h;split at h
 · assumption
 · rename_i a;exact absurd h a
theorem pf {L:List En} (h:bH L=0): ∀e∈L,bi e=0:=by
 induction L with
 |nil=>intro e d;cases d
 |cons a r ih=>
  unfold bH at h;split at h
  · rename_i f
    intro e d;rcases List.mem_cons.1 d with rfl|d
    · exact f
    · exact ih h e d
  · rename_i f;exact absurd h f
end Go.Proofs.YtgamnckfmmbjdaaGreatDoor
