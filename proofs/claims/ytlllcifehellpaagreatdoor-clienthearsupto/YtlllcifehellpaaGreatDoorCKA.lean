/- Keys: what word.inKeys and word.Key answer, for every byte and every text. -/
import Derived.Test.YtlllcifehellpaaGreatDoorProg
import Derived.WalkKit
import Derived.WalkSpells
import Derived.WalkLawsBesides
import Derived.Handy
import Derived.Lib.IndexMore
import Derived.Lib.LastIndexLaws
import Derived.Lib.CutLaws
import Derived.Test.YtlllcifehellpaaGreatDoorShelf
import Derived.Deep.QuietTactic
import Derived.BigQuiet
import Derived.RegionTactic
import Derived.Lib.LastIndexByte
import Derived.Lib.TrimByte
import Derived.Lib.ItoaNum
import Derived.Lib.SmallJoins
set_option linter.unusedSimpArgs false
set_option linter.unusedVariables false
namespace Go.Proofs.YtlllcifehellpaaGreatDoor
open Go.RowKit

namespace Pp
theorem retB {a b:Bool} (h:a=b):Ending.returned (.bool a)= .returned (.bool b):=by rw[h]
def okK (c:UInt8):Bool:=decide (97≤(c.toNat:Int)∧(c.toNat:Int)≤122∨65≤(c.toNat:Int)∧(c.toNat:Int)≤90∨48≤(c.toNat:Int)∧(c.toNat:Int)≤57∨(c.toNat:Int)=45)
def keyB (l:List UInt8):Bool:=decide (1≤l.length) && decide (l.length≤20) && l.all okK
def keyE (l:List UInt8):Int:=if keyB l=true then 0 else 1
theorem keyE_yes {l:List UInt8} (h:keyB l=true):keyE l=0:=if_pos h
theorem keyE_no {l:List UInt8} (h:keyB l=false):keyE l=1:=if_neg (by rw[h];decide)
theorem keyB_short {l:List UInt8} (h:l.length<1):keyB l=false:=by simp[keyB];omega
theorem keyB_long {l:List UInt8} (h:20<l.length):keyB l=false:=by simp[keyB];omega
theorem keyB_bad {l:List UInt8} {k:Nat} (hk:k<l.length) (h:okK l[k]=false):keyB l=false:=by
 have:l.all okK=false:=by
  rw[List.all_eq_false];exact⟨l[k],List.getElem_mem hk,by simp[h]⟩
 simp[keyB,this]
theorem keyB_ok {l:List UInt8} (h1: ¬l.length<1) (h2: ¬20<l.length) (h:l.all okK=true):keyB l=true:=by
 simp only[keyB,h,Bool.and_true,Bool.and_eq_true,decide_eq_true_eq];omega
theorem all_take {l:List UInt8} {f:UInt8→Bool} {k:Nat} (hk:k<l.length) (h:(l.take k).all f=true) (hf:f l[k]=true):(l.take (k+1)).all f=true:=by
 rw[List.take_succ_eq_append_getElem hk,List.all_append,h];simp[hf]
theorem okK_yes {c:UInt8} (h:97≤(c.toNat:Int)∧(c.toNat:Int)≤122∨65≤(c.toNat:Int)∧(c.toNat:Int)≤90∨48≤(c.toNat:Int)∧(c.toNat:Int)≤57):true=okK c:=by
 rw[okK,eq_comm,decide_eq_true_eq];omega
theorem okK_last {c:UInt8} (h: ¬(97≤(c.toNat:Int)∧(c.toNat:Int)≤122∨65≤(c.toNat:Int)∧(c.toNat:Int)≤90∨48≤(c.toNat:Int)∧(c.toNat:Int)≤57)):((c.toNat:Int)==45)=okK c:=by
 rw[okK,Bool.eq_iff_iff,beq_iff_eq,decide_eq_true_eq];omega
end Pp

set_option maxHeartbeats 400000 in
theorem inKeys_any (c:UInt8) (w:World):
    Calls Tryz.prog 90 #[.int .u8 (c.toNat:Int)] w fun e w'=>e= .returned (.bool (Pp.okK c))∧w'=w:=by
 go_enter Tryz.func90,Tryz.ntmps90
 go_wp2
 all_goals go_ret
 all_goals first
  |exact⟨Pp.retB (Pp.okK_yes (by omega)),rfl⟩
  |exact⟨Pp.retB (Pp.okK_last (by omega)),rfl⟩
set_option maxHeartbeats 800000 in
theorem key_any (s:ByteArray) (w:World) (hs:s.size≤maxLen):
    Calls Tryz.prog 67 #[.string s] w fun e w'=>e= .returned (.int .i64 (Pp.keyE s.data.toList))∧w'=w:=by
 unfold maxLen at hs;have hz:s.data.toList.length=s.size:=Array.length_toList;by_cases c1:(s.size:Int)<1
 · rw[Pp.keyE_no (Pp.keyB_short (by omega))]
   go_enter Tryz.func67,Tryz.ntmps67
   go_wp2_with fail;go_ret;exact⟨rfl,rfl⟩
 by_cases c2:20<(s.size:Int)
 · rw[Pp.keyE_no (Pp.keyB_long (by omega))]
   go_enter Tryz.func67,Tryz.ntmps67
   go_wp2_with fail;go_ret;exact⟨rfl,rfl⟩
 have HZ:Hid (s.data.toList.length=s.size):=hz;have HY:Hid (s.data.toList.all Pp.okK=true→Pp.keyE s.data.toList=0):=fun h=>Pp.keyE_yes (Pp.keyB_ok (by omega) (by omega) h)
 clear hz;go_enter Tryz.func67,Tryz.ntmps67
 go_wp2_with fail;go_loop [14] (fun i=> ∃k:Nat,k≤s.size∧i= .int .i64 k∧(s.data.toList.take k).all Pp.okK=true) (fun i=>s.size-(intOf i).toNat)
 case atStart=>exact⟨0,Nat.zero_le _,rfl,by simp⟩
 case round=>
  obtain⟨k,hk,rfl,hall⟩:=hrel
  have HA:Hid ((s.data.toList.take k).all Pp.okK=true):=hall;clear hall;by_cases hlt:k<s.size
  · cases ho:Pp.okK s[k]with
    |true=>
     have HN:Hid ((s.data.toList.take (k+1)).all Pp.okK=true):=Pp.all_take (by rw[HZ.out];exact hlt) HA.out ho;go_wp2_with (go_at_call 90;refine(inKeys_any _ _).mono ?_;rintro e w' ⟨rfl,rfl⟩)
     go_round
     case rel=>exact⟨k+1,by omega,by go_num,HN.out⟩
     case measure=>simp[intOf];omega
    |false=>
     have HE:Hid (Pp.keyE s.data.toList=1):=Pp.keyE_no (Pp.keyB_bad (by rw[HZ.out];exact hlt) ho);go_wp2_with (go_at_call 90;refine(inKeys_any _ _).mono ?_;rintro e w' ⟨rfl,rfl⟩)
     go_ret;exact⟨by rw[HE.out];rfl,rfl⟩
  · have HE2:Hid (Pp.keyE s.data.toList=0):=HY.out (by have:=HA.out;rwa [List.take_of_length_le (by rw[HZ.out];omega)]at this)
    go_wp2_with fail;go_ret;exact⟨by rw[HE2.out];rfl,rfl⟩
set_option maxHeartbeats 800000 in
theorem isKey_any (s:ByteArray) (w:World) (hs:s.size≤maxLen):
    Calls Tryz.prog 13 #[.string s] w fun e w'=>e= .returned (.bool (Pp.keyB s.data.toList))∧w'=w:=by
 unfold maxLen at hs;have hz:s.data.toList.length=s.size:=Array.length_toList;have HZ:Hid (s.data.toList.length=s.size):=hz;clear hz;go_enter Tryz.func13,Tryz.ntmps13
 go_wp2_with fail;go_loop [3] (fun i=> ∃k:Nat,k≤s.size∧i= .int .i64 k∧(s.data.toList.take k).all Pp.okK=true) (fun i=>s.size-(intOf i).toNat)
 case atStart=>exact⟨0,Nat.zero_le _,rfl,by simp⟩
 case round=>
  obtain⟨k,hk,rfl,hall⟩:=hrel
  have HA:Hid ((s.data.toList.take k).all Pp.okK=true):=hall;clear hall;by_cases hlt:k<s.size
  · cases ho:Pp.okK s[k]with
    |true=>
     have HN:Hid ((s.data.toList.take (k+1)).all Pp.okK=true):=Pp.all_take (by rw[HZ.out];exact hlt) HA.out ho;have HC:=of_decide_eq_true ho;rcases HC with⟨h1,h2⟩|⟨h1,h2⟩|⟨h1,h2⟩|h1
     · go_wp2_with fail
       go_round
       case rel=>exact⟨k+1,by omega,by go_num,HN.out⟩
       case measure=>simp[intOf];omega
     · have g1: ¬97≤(s[k].toNat:Int):=by omega
       go_wp2_with fail;go_round
       case rel=>exact⟨k+1,by omega,by go_num,HN.out⟩
       case measure=>simp[intOf];omega
     · have g1: ¬97≤(s[k].toNat:Int):=by omega
       have g2: ¬65≤(s[k].toNat:Int):=by omega
       go_wp2_with fail;go_round
       case rel=>exact⟨k+1,by omega,by go_num,HN.out⟩
       case measure=>simp[intOf];omega
     · have g1: ¬97≤(s[k].toNat:Int):=by omega
       have g2: ¬65≤(s[k].toNat:Int):=by omega
       have g3: ¬48≤(s[k].toNat:Int):=by omega
       go_wp2_with fail;go_round
       case rel=>exact⟨k+1,by omega,by go_num,HN.out⟩
       case measure=>simp[intOf];omega
    |false=>
     have HE:Hid (Pp.keyB s.data.toList=false):=Pp.keyB_bad (by rw[HZ.out];exact hlt) ho;have HC:=of_decide_eq_false ho;have g4:((s[k].toNat:Int)==45)=false:=by simp;omega
     by_cases g1:97≤(s[k].toNat:Int)
     · have g2: ¬(s[k].toNat:Int)≤122:=by omega
       have g3:65≤(s[k].toNat:Int):=by omega
       have g5: ¬(s[k].toNat:Int)≤90:=by omega
       have g6:48≤(s[k].toNat:Int):=by omega
       have g7: ¬(s[k].toNat:Int)≤57:=by omega
       clear HC;go_wp2_with fail;go_ret;exact⟨by rw[HE.out];rfl,rfl⟩
     by_cases g3:65≤(s[k].toNat:Int)
     · have g5: ¬(s[k].toNat:Int)≤90:=by omega
       have g6:48≤(s[k].toNat:Int):=by omega
       have g7: ¬(s[k].toNat:Int)≤57:=by omega
       clear HC;go_wp2_with fail;go_ret;exact⟨by rw[HE.out];rfl,rfl⟩
     by_cases g6:48≤(s[k].toNat:Int)
     · have g7: ¬(s[k].toNat:Int)≤57:=by omega
       clear HC;go_wp2_with fail;go_ret;exact⟨by rw[HE.out];rfl,rfl⟩
     · clear HC
       go_wp2_with fail;go_ret;exact⟨by rw[HE.out];rfl,rfl⟩
  · have HAL:=hid (show s.data.toList.all Pp.okK=true from by have:=HA.out;rwa [List.take_of_length_le (by rw[HZ.out];omega)]at this)
    by_cases c1:1≤(s.size:Int)
    · by_cases c2:(s.size:Int)≤20
      · have HE2:Hid (Pp.keyB s.data.toList=true):=Pp.keyB_ok (by rw[HZ.out];omega) (by rw[HZ.out];omega) HAL.out
        go_wp2_with fail;go_ret;exact⟨by rw[HE2.out];rfl,rfl⟩
      · have HE2:Hid (Pp.keyB s.data.toList=false):=Pp.keyB_long (by rw[HZ.out];omega)
        go_wp2_with fail;go_ret;exact⟨by rw[HE2.out];rfl,rfl⟩
    · have HE2:Hid (Pp.keyB s.data.toList=false):=Pp.keyB_short (by rw[HZ.out];omega)
      go_wp2_with fail;go_ret;exact⟨by rw[HE2.out];rfl,rfl⟩
end Go.Proofs.YtlllcifehellpaaGreatDoor
namespace Go.Proofs.YtlllcifehellpaaGreatDoor.Pp

def okB (c:UInt8):Bool:=(97≤c && c≤122)||(65≤c && c≤90)||(48≤c && c≤57)||c==45||c==95||c==46||c==40||c==41||c==32
def nameB (l:List UInt8):Bool:=l.all okB && decide (1≤l.length) && decide (l.length≤20) && (l.head? !=some 32) && (l.getLast? !=some 32) && l !=[46] && l !=[46,46]
def nm:List UInt8→List (List UInt8)
 |[]=>[[]]
 |c::r=>if c=47 then[]::nm r else match nm r with
  |[]=>[[c]]
  |h::t=>(c::h)::t
def big (l:List UInt8):Bool:=decide (6<(nm l).length)||decide (80<l.length)
def chk (l:List UInt8):Int:=if(nm l).all nameB=true then(if big l=true then 2 else 0)else 1
def join:List (List UInt8)→List UInt8
 |[]=>[]
 |[a]=>a
 |a::b::r=>a++47::join (b::r)
theorem nm_ne (l:List UInt8):nm l≠[]:=by
 cases l with
 |nil=>simp[nm]
 | cons c r => rw [nm]; split; · simp
               split<;>simp
theorem nm_none: ∀(a:List UInt8),47∉a→nm a=[a]
 |[],_=>rfl
 |c::r,h=>by
  have h1:c≠47:=fun e=>h (by simp[e])
  have h2:47∉r:=fun e=>h (by simp[e])
  rw[nm,if_neg h1,nm_none r h2]
theorem nm_cut: ∀(a b:List UInt8),47∉a→nm (a++47::b)=a::nm b
 |[],b,_=>by simp[nm]
 |c::r,b,h=>by
  have h1:c≠47:=fun e=>h (by simp[e])
  have h2:47∉r:=fun e=>h (by simp[e])
  rw[List.cons_append,nm,if_neg h1,nm_cut r b h2]
theorem join_nm: ∀(l:List UInt8),join (nm l)=l
 |[]=>rfl
 |c::r=>by
  have ih:=join_nm r;have hn:=nm_ne r;rw[nm];split
  · rename_i h
    subst h;cases e:nm r with
    |nil=>exact absurd e hn
    |cons x t=>rw[e]at ih;simp[join,ih]
  · cases e:nm r with
    |nil=>exact absurd e hn
    |cons x t=>
     rw[e]at ih;cases t with
     |nil=>simp[join]at ih⊢;exact ih
     |cons y u=>simp[join]at ih⊢;exact ih
theorem nm_len_le: ∀(l:List UInt8),(nm l).length≤l.length+1
 |[]=>by simp[nm]
 |c::r=>by
  have ih:=nm_len_le r;rw[nm];split
  · simp;omega
  · cases e:nm r with
    |nil=>simp
    |cons x t=>rw[e]at ih;simp at ih⊢;omega
/-- Where a byte stands first. -/
theorem idx_one (l:List UInt8) (c:UInt8):(Lib.indexByte l c= -1∧c∉l)∨ ∃i:Nat,Lib.indexByte l c=i∧i<l.length∧c∉l.take i∧l=l.take i++c::l.drop (i+1):=by
 induction l with
 |nil=>left;simp[Lib.indexByte]
 |cons b r ih=>
  by_cases h:b=c
  · right
    subst h;exact⟨0,by simp[Lib.indexByte],by simp,by simp,by simp⟩
  · rcases ih with⟨e,hn⟩|⟨i,e,hi,hn,hl⟩
    · left
      refine⟨?_,by simp[hn,Ne.symm h]⟩
      simp[Lib.indexByte,e,h]
    · right
      refine⟨i+1,?_,by simp;omega,by simp[hn,Ne.symm h],by simp[←hl]⟩
      have h3: ¬((i:Int)= -1):=by omega
      simp[Lib.indexByte,e,h3,h]
theorem idx_of (a b:List UInt8) (c:UInt8) (h:c∉a):Lib.indexByte (a++c::b) c=a.length:=by
 induction a with
 |nil=>simp[Lib.indexByte]
 |cons x r ih=>
  have h1: ¬x=c:=fun e=>h (by simp[e])
  have h2:c∉r:=fun e=>h (by simp[e])
  have h3: ¬((r.length:Int)= -1):=by omega
  simp[Lib.indexByte,h1,ih h2,h3]
theorem idx_none (l:List UInt8) (c:UInt8) (h:c∉l):Lib.indexByte l c= -1:=by
 rcases idx_one l c with⟨e,_⟩|⟨i,_,hi,_,hl⟩
 · exact e
 · exact absurd (by rw[hl];simp) h
theorem split_at (l:List UInt8) (c:UInt8) (h:c∈l): ∃a b,c∉a∧l=a++c::b:=by
 rcases idx_one l c with⟨_,hn⟩|⟨i,e,hi,hn,hl⟩
 · exact absurd h hn
 · exact⟨_,_,hn,hl⟩
theorem bytes_eq {s:ByteArray} {l:List UInt8} (h:s.data.toList=l):s=⟨l.toArray⟩:=by
 cases s;subst h;simp
theorem okB_iff (c:UInt8):okB c=true↔(97≤c.toNat∧c.toNat≤122)∨(65≤c.toNat∧c.toNat≤90)∨(48≤c.toNat∧c.toNat≤57)∨c.toNat=45∨c.toNat=95∨c.toNat=46∨c.toNat=40∨c.toNat=41∨c.toNat=32:=by
 simp[okB,UInt8.le_iff_toNat_le,←UInt8.toNat_inj,or_assoc]
theorem idx_iff (c:UInt8):decide (0≤Lib.indexByte [45,95,46,40,41,32] c)=true↔c.toNat=45∨c.toNat=95∨c.toNat=46∨c.toNat=40∨c.toNat=41∨c.toNat=32:=by
 simp only[Lib.indexByte,beq_iff_eq,←UInt8.toNat_inj,decide_eq_true_eq];simp
 omega
theorem okB_l (c:UInt8) (h:(97≤c.toNat∧c.toNat≤122)∨(65≤c.toNat∧c.toNat≤90)∨(48≤c.toNat∧c.toNat≤57)):true=okB c:=
 ((okB_iff c).2 (by omega)).symm
theorem okB_o (c:UInt8) (h1: ¬(97≤c.toNat∧c.toNat≤122)) (h2: ¬(65≤c.toNat∧c.toNat≤90)) (h3: ¬(48≤c.toNat∧c.toNat≤57)):decide (0≤Lib.indexByte [45,95,46,40,41,32] c)=okB c:=by
 rw[Bool.eq_iff_iff,idx_iff,okB_iff];omega
theorem sz (l:List UInt8):(⟨l.toArray⟩:ByteArray).size=l.length:=by rw[Lib.size_eq]
theorem ret_bool {a b:Bool} (h:a=b):Ending.returned (.bool a)= .returned (.bool b):=by rw[h]
theorem ret_int {k:IntKind} {a b:Int} (h:a=b):Ending.returned (.int k a)= .returned (.int k b):=by rw[h]
theorem nameB_no (s:ByteArray) (h:s.size<1∨20<s.size∨s.toList=[46]∨s.toList=[46,46]):false=nameB s.data.toList:=by
 rw[ByteArray.toList_eq]at h;have hz:s.size=s.data.toList.length:=Lib.size_eq s;rw[hz]at h;generalize s.data.toList=l at h
 have: ¬(nameB l=true):=by
  simp only[nameB,Bool.and_eq_true,decide_eq_true_eq,bne_iff_ne];rintro ⟨⟨⟨⟨⟨⟨_,h1⟩,h2⟩,_⟩,_⟩,h3⟩,h4⟩;rcases h with h|h|h|h
  · omega
  · omega
  · exact h3 h
  · exact h4 h
 simpa using this
theorem nameB_head (s:ByteArray) (h0:0<s.size) (h:(s[0].toNat:Int)=32):false=nameB s.data.toList:=by
 have hl:0<s.data.toList.length:=by simpa using h0
 have e:s.data.toList.head?=some s[0]:=by rw[List.head?_eq_getElem?,List.getElem?_eq_getElem hl,byte_at' s 0 h0 hl]
 have e2:s[0]=32:=UInt8.toNat_inj.1 (by simpa using Int.ofNat.inj h)
 have: ¬(nameB s.data.toList=true):=by
  simp only[nameB,Bool.and_eq_true,decide_eq_true_eq,bne_iff_ne,e,e2];rintro ⟨⟨⟨⟨⟨⟨_,_⟩,_⟩,h3⟩,_⟩,_⟩,_⟩;exact h3 rfl
 simpa using this
theorem nameB_last (s:ByteArray) (h0:s.size-1<s.size) (h:(s[s.size-1].toNat:Int)=32):false=nameB s.data.toList:=by
 have hl:s.size-1<s.data.toList.length:=by simpa using h0
 have e:s.data.toList.getLast?=some s[s.size-1]:=by rw[List.getLast?_eq_getElem?,←Lib.size_eq,List.getElem?_eq_getElem hl,byte_at' s _ h0 hl]
 have e2:s[s.size-1]=32:=UInt8.toNat_inj.1 (by simpa using Int.ofNat.inj h)
 have: ¬(nameB s.data.toList=true):=by
  simp only[nameB,Bool.and_eq_true,decide_eq_true_eq,bne_iff_ne,e,e2];rintro ⟨⟨⟨⟨⟨⟨_,_⟩,_⟩,_⟩,h3⟩,_⟩,_⟩;exact h3 rfl
 simpa using this
theorem nameB_bad (s:ByteArray) (k:Nat) (hk:k<s.size) (h:okB s[k]=false):false=nameB s.data.toList:=by
 have hl:k<s.data.toList.length:=by simpa using hk
 have hm:s[k]∈s.data.toList:=by rw[←byte_at' s k hk hl];exact List.getElem_mem hl
 have: ¬(nameB s.data.toList=true):=by
  simp only[nameB,Bool.and_eq_true,decide_eq_true_eq,bne_iff_ne,List.all_eq_true];rintro ⟨⟨⟨⟨⟨⟨h3,_⟩,_⟩,_⟩,_⟩,_⟩,_⟩;rw[h3 _ hm]at h;cases h
 simpa using this
theorem nameB_yes (s:ByteArray) (h1:1≤s.size) (h2:s.size≤20) (h3:s.toList≠[46]) (h4:s.toList≠[46,46]) (h0:0<s.size) (h5:(s[0].toNat:Int)≠32)
    (h6:s.size-1<s.size) (h7:(s[s.size-1].toNat:Int)≠32) (h8:s.data.toList.all okB=true):true=nameB s.data.toList:=by
 rw[ByteArray.toList_eq]at h3 h4;have hl:0<s.data.toList.length:=by simpa using h0
 have e:s.data.toList.head?=some s[0]:=by rw[List.head?_eq_getElem?,List.getElem?_eq_getElem hl,byte_at' s 0 h0 hl]
 have hl2:s.size-1<s.data.toList.length:=by simpa using h6
 have e':s.data.toList.getLast?=some s[s.size-1]:=by rw[List.getLast?_eq_getElem?,←Lib.size_eq,List.getElem?_eq_getElem hl2,byte_at' s _ h6 hl2]
 symm
 simp only[nameB,Bool.and_eq_true,decide_eq_true_eq,bne_iff_ne,e,e',←Lib.size_eq];refine⟨⟨⟨⟨⟨⟨h8,h1⟩,h2⟩,?_⟩,?_⟩,h3⟩,h4⟩
 · intro e3;rw[Option.some.injEq]at e3;exact h5 (by rw[e3];rfl)
 · intro e3;rw[Option.some.injEq]at e3;exact h7 (by rw[e3];rfl)
theorem take_snoc (s:ByteArray) (k:Nat) (h:k<s.size):s.data.toList.take (k+1)=s.data.toList.take k++[s[k]]:=by
 rw[List.take_succ_eq_append_getElem (by simpa using h)];rfl
theorem all_snoc (s:ByteArray) (k:Nat) (h:k<s.size) (h1:(s.data.toList.take k).all okB=true) (h2:okB s[k]=true):(s.data.toList.take (k+1)).all okB=true:=by
 rw[take_snoc s k h,List.all_append,h1];simp[h2]
theorem chk_two (s:ByteArray) {dn:List (List UInt8)} (hn:nm s.data.toList=dn) (ha:dn.all nameB=true) (hb:(6:Int)<dn.length∨(80:Int)<s.size):2=chk s.data.toList:=by
 have:big s.data.toList=true:=by
  simp only[big,hn,Bool.or_eq_true,decide_eq_true_eq,←Lib.size_eq];omega
 simp[chk,hn,ha,this]
theorem chk_zero (s:ByteArray) {dn:List (List UInt8)} (hn:nm s.data.toList=dn) (ha:dn.all nameB=true) (h1:(dn.length:Int)≤6) (h2:(s.size:Int)≤80):0=chk s.data.toList:=by
 have:big s.data.toList=false:=by
  simp only[big,hn,Bool.or_eq_false_iff,decide_eq_false_iff_not,←Lib.size_eq];omega
 simp[chk,hn,ha,this]
theorem chk_one (s:ByteArray) {dn r:List (List UInt8)} {n:List UInt8} (hn:nm s.data.toList=dn++n::r) (h:nameB n=false):1=chk s.data.toList:=by
 simp[chk,hn,h]
theorem all_add {dn:List (List UInt8)} {n:List UInt8} (h:dn.all nameB=true) (h1:nameB n=true):(dn++[n]).all nameB=true:=by
 rw[List.all_append,h];simp[h1]
theorem len_add (s t:ByteArray) {dn:List (List UInt8)} (h:nm s.data.toList=dn++nm t.data.toList):dn.length+1≤s.size+1:=by
 have h1:=nm_len_le s.data.toList;have h2:(nm t.data.toList).length≠0:=fun e=>nm_ne _ (List.length_eq_zero_iff.1 e)
 rw[h,List.length_append,←Lib.size_eq]at h1;omega
end Go.Proofs.YtlllcifehellpaaGreatDoor.Pp
namespace Go.Proofs.YtlllcifehellpaaGreatDoor
open Go.RowKit

set_option maxHeartbeats 400000 in
theorem inNames_any (c:UInt8) (w:World):
    Calls Tryz.prog 136 #[.int .u8 (c.toNat:Int)] w fun e w'=>e= .returned (.bool (Pp.okB c))∧w'=w:=by
 go_enter Tryz.func136,Tryz.ntmps136
 go_wp2_with (go_at_call 153;refine(Tryz.strings_IndexByte _ _ _).mono ?_;rintro e w' ⟨rfl,rfl⟩)
 all_goals go_ret
 all_goals first
  |exact⟨Pp.ret_bool (Pp.okB_l c (by omega)),rfl⟩
  |exact⟨Pp.ret_bool (Pp.okB_o c (by omega) (by omega) (by omega)),rfl⟩
set_option maxHeartbeats 800000 in
theorem isName_any (s:ByteArray) (w:World) (hs:s.size≤maxLen):
    Calls Tryz.prog 114 #[.string s] w fun e w'=>e= .returned (.bool (Pp.nameB s.data.toList))∧w'=w:=by
 unfold maxLen at hs;by_cases c1:(s.size:Int)<1
 · go_enter Tryz.func114,Tryz.ntmps114
   go_wp2_with fail;go_ret;exact⟨Pp.ret_bool (Pp.nameB_no s (Or.inl (by omega))),rfl⟩
 by_cases c2:20<(s.size:Int)
 · go_enter Tryz.func114,Tryz.ntmps114
   go_wp2_with fail;go_ret;exact⟨Pp.ret_bool (Pp.nameB_no s (Or.inr (Or.inl (by omega)))),rfl⟩
 cases c3:(s.toList==[46])with
 |true=>
  have HN:=hid (show s.toList=[46]from by simpa using c3);go_enter Tryz.func114,Tryz.ntmps114
  go_wp2_with fail;go_ret;exact⟨Pp.ret_bool (Pp.nameB_no s (Or.inr (Or.inr (Or.inl HN.out)))),rfl⟩
 |false=>
 cases c4:(s.toList==[46,46])with
 |true=>
  have HN:=hid (show s.toList=[46,46]from by simpa using c4);go_enter Tryz.func114,Tryz.ntmps114
  go_wp2_with fail;go_ret;exact⟨Pp.ret_bool (Pp.nameB_no s (Or.inr (Or.inr (Or.inr HN.out)))),rfl⟩
 |false=>
 have h0:0<s.size:=by omega
 have h6:s.size-1<s.size:=by omega
 cases c5:((s[0].toNat:Int)==32)with
 |true=>
  have HN:=hid (show(s[0].toNat:Int)=32 from by simpa using c5);go_enter Tryz.func114,Tryz.ntmps114
  go_wp2_with fail;go_ret;exact⟨Pp.ret_bool (Pp.nameB_head s h0 HN.out),rfl⟩
 |false=>
 cases c6:((s[s.size-1].toNat:Int)==32)with
 |true=>
  have HN:=hid (show(s[s.size-1].toNat:Int)=32 from by simpa using c6);go_enter Tryz.func114,Tryz.ntmps114
  go_wp2_with fail;go_ret;exact⟨Pp.ret_bool (Pp.nameB_last s h6 HN.out),rfl⟩
 |false=>
 have HY:Hid (s.data.toList.all Pp.okB=true→true=Pp.nameB s.data.toList):=fun h8=>
  Pp.nameB_yes s (by omega) (by omega) (by simpa using c3) (by simpa using c4) h0 (by simpa using c5) h6 (by simpa using c6) h8
 go_enter Tryz.func114,Tryz.ntmps114
 go_wp2_with fail;go_loop [33] (fun i=> ∃k:Nat,k≤s.size∧i= .int .i64 k∧(s.data.toList.take k).all Pp.okB=true) (fun i=>s.size-(intOf i).toNat)
 case atStart=>exact⟨0,Nat.zero_le _,rfl,by simp⟩
 case round=>
  obtain⟨k,hk,rfl,hall⟩:=hrel
  have HA:Hid ((s.data.toList.take k).all Pp.okB=true):=hall;clear hall;by_cases hlt:k<s.size
  · cases hok:Pp.okB s[k]with
    |true=>
     go_wp2_with (go_at_call 136;refine(inNames_any _ _).mono ?_;rintro e w' ⟨rfl,rfl⟩)
     go_round
     case rel=>exact⟨k+1,by omega,by go_num,Pp.all_snoc s k hlt HA.out hok⟩
     case measure=>simp[intOf];omega
    |false=>
     go_wp2_with (go_at_call 136;refine(inNames_any _ _).mono ?_;rintro e w' ⟨rfl,rfl⟩)
     go_ret;exact⟨Pp.ret_bool (Pp.nameB_bad s k hlt hok),rfl⟩
  · go_wp2_with fail
    go_ret;exact⟨Pp.ret_bool (HY.out (by have:=HA.out;rwa [List.take_of_length_le (by simp;omega)]at this)),rfl⟩
set_option maxHeartbeats 400000 in
theorem scut_miss (s:ByteArray) (w:World) (hs:s.size≤maxLen) (h:47∉s.data.toList):
    Calls Tryz.prog 137 #[.string s,.string ⟨#[47]⟩] w fun e w'=>e= .returned (.tuple #[.string s,.string ⟨#[]⟩,.bool false])∧Below w.heap.size w w':=by
 unfold maxLen at hs;have HI:Hid (Lib.indexByte s.data.toList 47= -1):=Pp.idx_none _ _ h;clear h;go_enter Tryz.func137,Tryz.ntmps137
 go_wp2_with (go_at_call 154;refine(Tryz.stringslite_Index_one _ _ _).mono ?_;rintro e w' ⟨rfl,rfl⟩;rw[HI.out])
 go_ret3;exact⟨rfl,Below.refl _ _⟩
set_option maxHeartbeats 400000 in
theorem scut_hit (s:ByteArray) (a b:List UInt8) (w:World) (hs:s.size≤maxLen) (h:47∉a) (hab:s.data.toList=a++47::b):
    Calls Tryz.prog 137 #[.string s,.string ⟨#[47]⟩] w fun e w'=>e= .returned (.tuple #[.string ⟨a.toArray⟩,.string ⟨b.toArray⟩,.bool true])∧Below w.heap.size w w':=by
 unfold maxLen at hs;have HI:=hid (show Lib.indexByte s.data.toList 47=a.length from by rw[hab];exact Pp.idx_of a b 47 h);have hz:s.size=a.length+b.length+1:=by rw[Lib.size_eq,hab];simp;try omega
 have l1:(a.length:Int)≤s.size:=by omega
 have l2:(a.length:Int)+1≤s.size:=by omega
 have HA:=hid (show s.extract 0 a.length=⟨a.toArray⟩from Pp.bytes_eq (by rw[Lib.extract_data,hab];simp));have HB:=hid (show s.extract (a.length+1) s.size=⟨b.toArray⟩from Pp.bytes_eq (by rw[Lib.extract_data,hab,hz];simp));clear h hab hz;go_enter Tryz.func137,Tryz.ntmps137
 go_wp2_with (go_at_call 154;refine(Tryz.stringslite_Index_one _ _ _).mono ?_;rintro e w' ⟨rfl,rfl⟩;rw[HI.out])
 go_region
 go_wp2;go_ret3;exact⟨by rw[HA.out,HB.out];rfl,(Below.refl _ _).drew⟩
set_option maxHeartbeats 400000 in
theorem cut_miss (s:ByteArray) (w:World) (hs:s.size≤maxLen) (h:47∉s.data.toList):
    Calls Tryz.prog 117 #[.string s,.string ⟨#[47]⟩] w fun e w'=>e= .returned (.tuple #[.string s,.string ⟨#[]⟩,.bool false])∧Below w.heap.size w w':=by
 go_enter Tryz.func117,Tryz.ntmps117
 go_wp2_with fail;refine(scut_miss s _ hs h).mono ?_
 rintro e w' ⟨rfl,hb⟩;clear hs h;go_wp2;go_ret3;exact⟨rfl,hb⟩
set_option maxHeartbeats 400000 in
theorem cut_hit (s:ByteArray) (a b:List UInt8) (w:World) (hs:s.size≤maxLen) (h:47∉a) (hab:s.data.toList=a++47::b):
    Calls Tryz.prog 117 #[.string s,.string ⟨#[47]⟩] w fun e w'=>e= .returned (.tuple #[.string ⟨a.toArray⟩,.string ⟨b.toArray⟩,.bool true])∧Below w.heap.size w w':=by
 have HAB:Hid (s.data.toList=a++47::b):=hab;clear hab;go_enter Tryz.func117,Tryz.ntmps117
 go_wp2_with fail;refine(scut_hit s a b _ hs h HAB.out).mono ?_
 rintro e w' ⟨rfl,hb⟩;clear hs h;go_wp2;go_ret3;exact⟨rfl,hb⟩
def msr (r m:Value):Nat:=match m,r with
 | .bool true,.string s=>s.size+1
 |_,_=>0
set_option maxHeartbeats 800000 in
theorem check_any (s:ByteArray) (w:World) (hs:s.size≤1000000000000000):
    Calls Tryz.prog 91 #[.string s] w fun e w'=>e= .returned (.int .i64 (Pp.chk s.data.toList))∧Below w.heap.size w w':=by
 go_enter Tryz.func91,Tryz.ntmps91
 go_wp2_with fail
 go_loopw [3, 4, 5] (fun d r m wr => ∃ (dn : List (List UInt8)) (t : ByteArray) (b : Bool), d = .int .i64 dn.length ∧ r = .string t ∧ m = .bool b ∧ dn.all Pp.nameB = true ∧ t.size ≤ s.size ∧ dn.length ≤ s.size + 1 ∧
     (b=true→Pp.nm s.data.toList=dn++Pp.nm t.data.toList)∧(b=false→Pp.nm s.data.toList=dn)∧Below w.heap.size w wr) (fun _ r m _=>msr r m)
 case atStart=>exact⟨[],s,true,rfl,rfl,rfl,rfl,Nat.le_refl _,by simp,fun _=>rfl,(fun h=>by cases h),Below.refl _ _⟩
 case round=>
  obtain⟨dn,t,b,rfl,rfl,rfl,hall,hts,hdn,h1,h2,hbel⟩:=hrel
  have HA:Hid (dn.all Pp.nameB=true):=hall;clear hall;cases b with
  |false=>
   have HN:Hid (Pp.nm s.data.toList=dn):=h2 rfl;clear h1 h2;by_cases hd:6<(dn.length:Int)
   · go_wp2_with fail
     go_ret;exact⟨Pp.ret_int (Pp.chk_two s HN.out HA.out (Or.inl hd)),hbel⟩
   by_cases hz:80<(s.size:Int)
   · go_wp2_with fail
     go_ret;exact⟨Pp.ret_int (Pp.chk_two s HN.out HA.out (Or.inr hz)),hbel⟩
   go_wp2_with fail;go_ret;exact⟨Pp.ret_int (Pp.chk_zero s HN.out HA.out (by omega) (by omega)),hbel⟩
  |true=>
   have HN:Hid (Pp.nm s.data.toList=dn++Pp.nm t.data.toList):=h1 rfl;clear h1 h2;have hlen:=Pp.len_add s t HN.out;by_cases h47:47∈t.data.toList
   · obtain⟨a,b,ha,hab⟩:=Pp.split_at _ _ h47
     have HAB:Hid (t.data.toList=a++47::b):=hab;have hz:t.size=a.length+b.length+1:=by rw[Lib.size_eq,hab];simp;try omega
     have HN2:=hid (show Pp.nm s.data.toList=dn++a::Pp.nm b from by rw[HN.out,hab,Pp.nm_cut a b ha]);clear h47 hab;cases hn:Pp.nameB a with
     |true=>
      have HM:Hid (Pp.nameB a=true):=hn;clear hn;go_wp2_with fail;refine(cut_hit t a b _ (by unfold maxLen;omega) ha HAB.out).mono ?_
      rintro e w1 ⟨rfl,hb1⟩;go_wp2_with fail;refine(isName_any ⟨a.toArray⟩ _ (by unfold maxLen;rw[Pp.sz];omega)).mono ?_
      rintro e w2 ⟨rfl,rfl⟩;simp only[HM.out];go_wp2_with fail;go_roundw
      case rel=>exact⟨dn++[a],⟨b.toArray⟩,true,by simp,rfl,rfl,Pp.all_add HA.out HM.out,by rw[Pp.sz];omega,by simp;omega,(fun _=>by rw[HN2.out];simp),(fun h=>by cases h),hbel.trans (hb1.mono hbel.size)⟩
      case measure=>simp only[msr,Pp.sz];omega
     |false=>
      have HM:Hid (Pp.nameB a=false):=hn;clear hn;go_wp2_with fail;refine(cut_hit t a b _ (by unfold maxLen;omega) ha HAB.out).mono ?_
      rintro e w1 ⟨rfl,hb1⟩;go_wp2_with fail;refine(isName_any ⟨a.toArray⟩ _ (by unfold maxLen;rw[Pp.sz];omega)).mono ?_
      rintro e w2 ⟨rfl,rfl⟩;simp only[HM.out];go_wp2_with fail;go_ret;exact⟨Pp.ret_int (Pp.chk_one s HN2.out HM.out),hbel.trans (hb1.mono hbel.size)⟩
   · have HN2:=hid (show Pp.nm s.data.toList=dn++[t.data.toList]from by rw[HN.out,Pp.nm_none _ h47])
     cases hn:Pp.nameB t.data.toList with
     |true=>
      have HM:Hid (Pp.nameB t.data.toList=true):=hn;clear hn;go_wp2_with fail;refine(cut_miss t _ (by unfold maxLen;omega) h47).mono ?_
      rintro e w1 ⟨rfl,hb1⟩;go_wp2_with fail;refine(isName_any t _ (by unfold maxLen;omega)).mono ?_
      rintro e w2 ⟨rfl,rfl⟩;simp only[HM.out];go_wp2_with fail;go_roundw
      case rel=>exact⟨dn++[t.data.toList],⟨#[]⟩,false,by simp,rfl,rfl,Pp.all_add HA.out HM.out,by rw[Lib.size_eq];simp,by simp;omega,(fun h=>by cases h),(fun _=>HN2.out),hbel.trans (hb1.mono hbel.size)⟩
      case measure=>simp only[msr];omega
     |false=>
      have HM:Hid (Pp.nameB t.data.toList=false):=hn;clear hn;go_wp2_with fail;refine(cut_miss t _ (by unfold maxLen;omega) h47).mono ?_
      rintro e w1 ⟨rfl,hb1⟩;go_wp2_with fail;refine(isName_any t _ (by unfold maxLen;omega)).mono ?_
      rintro e w2 ⟨rfl,rfl⟩;simp only[HM.out];go_wp2_with fail;go_ret;exact⟨Pp.ret_int (Pp.chk_one s HN2.out HM.out),hbel.trans (hb1.mono hbel.size)⟩
end Go.Proofs.YtlllcifehellpaaGreatDoor
namespace Go.Proofs.YtlllcifehellpaaGreatDoor.Pp

theorem nm_app (a b:List UInt8):nm (a++47::b)=nm a++nm b:=by
 induction a with
 |nil=>simp[nm]
 |cons c r ih=>
  rw[List.cons_append,nm,nm,ih];split
  · simp
  · cases e:nm r with
    |nil=>exact absurd e (nm_ne r)
    |cons x t=>simp
def par (l:List UInt8):List UInt8:=join (nm l).dropLast
def lst (l:List UInt8):List UInt8:=(nm l).getLastD []
theorem par_none {l:List UInt8} (h:47∉l):par l=[]:=by simp[par,nm_none l h,join]
theorem lst_none {l:List UInt8} (h:47∉l):lst l=l:=by simp[lst,nm_none l h]
theorem par_cut (a:List UInt8) {b:List UInt8} (h:47∉b):par (a++47::b)=a:=by
 rw[par,nm_app,nm_none b h,List.dropLast_concat,join_nm]
theorem lst_cut (a:List UInt8) {b:List UInt8} (h:47∉b):lst (a++47::b)=b:=by
 rw[lst,nm_app,nm_none b h];simp
theorem data_bang (s:ByteArray) (k:Nat) (h:k<s.data.toList.length):s.data[k]! =s.data.toList[k]:=by
 have h':k<s.data.size:=by simpa using h
 rw[getElem!_pos s.data k h',Array.getElem_toList]
theorem last_cases (s:ByteArray) (c:UInt8):(Lib.lastIndexByte s (c.toNat:Int)= -1∧c∉s.data.toList)∨
    ∃a b,Lib.lastIndexByte s (c.toNat:Int)=(a.length:Int)∧c∉b∧s.data.toList=a++c::b:=by
 have hne: ∀j (hj:j<s.data.toList.length),((s.data[j]!).toNat:Int)≠c.toNat→s.data.toList[j]≠c:=by
  intro j hj h e;rw[data_bang s j hj,e]at h;exact h rfl
 rcases Lib.lastIndexByte_spec s c.toNat with⟨e,hn⟩|⟨i,hi,e,hc,hn⟩
 · left
   refine⟨e,fun hm=>?_⟩
   obtain⟨j,hj,ej⟩:=List.getElem_of_mem hm
   exact hne j hj (hn j (by rw[Lib.size_eq];exact hj)) ej
 · right
   rw[Lib.size_eq]at hi
   have ec:s.data.toList[i]=c:=by
    rw[data_bang s i hi]at hc;exact UInt8.toNat_inj.1 (Int.ofNat.inj hc)
   refine⟨s.data.toList.take i,s.data.toList.drop (i+1),by rw[e,List.length_take];omega,fun hm=>?_,?_⟩
   · obtain⟨j,hj,ej⟩:=List.getElem_of_mem hm
     rw[List.length_drop]at hj;rw[List.getElem_drop]at ej;exact hne (i+1+j) (by omega) (hn (i+1+j) (by omega) (by rw[Lib.size_eq];omega)) ej
   · conv=>lhs;rw[←List.take_append_drop i s.data.toList,List.drop_eq_getElem_cons hi,ec]
/-- The stem and the ending of a name: it begins at the last dot that is not the first byte. -/
def dot (l:List UInt8):Nat→Nat
 |0=>l.length
 |k+1=>if 1≤k∧l[k]?=some 46 then k else dot l k
def stem (l:List UInt8):List UInt8:=l.take (dot l l.length)
def ending (l:List UInt8):List UInt8:=l.drop (dot l l.length)
theorem dot_none (l:List UInt8): ∀k,(∀j,1≤j→j<k→l[j]?≠some 46)→dot l k=l.length
 |0,_=>rfl
 |k+1,h=>by
  rw[dot,if_neg (fun e=>h k e.1 (Nat.lt_succ_self k) e.2)];exact dot_none l k fun j h1 h2=>h j h1 (by omega)
theorem dot_hit (l:List UInt8) (i:Nat) (h1:1≤i) (h:l[i]?=some 46): ∀k,i<k→(∀j,i<j→j<k→l[j]?≠some 46)→dot l k=i
 |0,hk,_=>absurd hk (Nat.not_lt_zero _)
 |k+1,hk,hn=>by
  rw[dot];by_cases e:i=k
  · subst e;rw[if_pos ⟨h1,h⟩]
  · rw[if_neg (fun e2=>hn k (by omega) (Nat.lt_succ_self k) e2.2)]
    exact dot_hit l i h1 h k (by omega) fun j h3 h4=>hn j h3 (by omega)
theorem parts_none {l:List UInt8} (h:46∉l):stem l=l∧ending l=[]:=by
 have:dot l l.length=l.length:=dot_none l _ fun j _ _ e=>h (List.mem_of_getElem? e)
 simp[stem,ending,this]
theorem parts_first {b:List UInt8} (h:46∉b):stem (46::b)=46::b∧ending (46::b)=[]:=by
 have:dot (46::b) (46::b).length=(46::b).length:=dot_none _ _ fun j h1 _ e=>by
  obtain⟨j,rfl⟩: ∃i,j=i+1:=⟨j-1,by omega⟩
  rw[List.getElem?_cons_succ]at e;exact h (List.mem_of_getElem? e)
 rw[stem,ending,this];simp
theorem parts_cut {a b:List UInt8} (ha:1≤a.length) (h:46∉b):stem (a++46::b)=a∧ending (a++46::b)=46::b:=by
 have:dot (a++46::b) (a++46::b).length=a.length:=dot_hit _ a.length ha (by simp) _ (by simp) fun j h1 _ e=>by
  rw[List.getElem?_append_right (by omega)]at e;obtain⟨k,hk⟩: ∃i,j-a.length=i+1:=⟨j-a.length-1,by omega⟩
  rw[hk,List.getElem?_cons_succ]at e;exact h (List.mem_of_getElem? e)
 rw[stem,ending,this];simp
/-- What is left of a stem. -/
def short (l:List UInt8) (room:Int):List UInt8:=if(l.length:Int)≤room then l else Lib.trimRightB (l.take room.toNat) 32
def jn (p n:List UInt8):List UInt8:=if p=[]then n else p++47::n
def mark (n:Nat):List UInt8:=32::40::(Lib.decDigits n++[41])
def asideT (l:List UInt8) (n:Nat):List UInt8:=jn (par l) (short (stem (lst l)) (20-(mark n).length-(ending (lst l)).length)++mark n++ending (lst l))
def chks:List (List UInt8)→Int
 |[]=>0
 |a::r=>if chk a=0 then chks r else chk a
def ifc (e:Int) (x:List UInt8):List UInt8:=if e=0 then x else[]
theorem ifc_yes {e:Int} (h:e=0) (x:List UInt8):ifc e x=x:=if_pos h
theorem ifc_no {e:Int} (h: ¬e=0) (x:List UInt8):ifc e x=[]:=if_neg h
def asideS (l:List UInt8) (n:Nat):List UInt8:=short (stem (lst l)) (20-(mark n).length-(ending (lst l)).length)
def asideE (l:List UInt8) (n:Int):Int:=if chk l=0 then(if n<1∨99<n then 3 else if asideS l n.toNat=[]then 2 else chk (asideT l n.toNat))else chk l
theorem dec_len (i:Nat) (h:i<100):(Lib.decDigits i).length≤2:=by
 have: ∀k:Fin 100,(Lib.decDigits k.1).length≤2:=by decide+kernel
 exact this ⟨i,h⟩
theorem mark_len (i:Nat):(mark i).length=(Lib.decDigits i).length+3:=by simp[mark]
theorem aside_room (l:List UInt8) (i:Nat):short (stem (lst l)) (20-(2+((Lib.decDigits i).length:Int)+1)-(ending (lst l)).length)=asideS l i:=by
 have e:(20-(2+((Lib.decDigits i).length:Int)+1)-(ending (lst l)).length)=20-((mark i).length:Int)-(ending (lst l)).length:=by rw[mark_len];omega
 rw[e,asideS]
theorem asideE_in (l:List UInt8) (i:Nat) (h:chk l=0) (h1:1≤(i:Int)) (h2:(i:Int)≤99):asideE l i=if asideS l i=[]then 2 else chk (asideT l i):=by
 rw[asideE,if_pos h,if_neg (by omega),Int.toNat_natCast]
theorem asideT_eq (l:List UInt8) (i:Nat):asideT l i=jn (par l) (asideS l i++mark i++ending (lst l)):=rfl
theorem len_par (l:List UInt8):(par l).length≤l.length:=by
 by_cases h:47∈l.reverse
 · obtain⟨a,b,ha,hab⟩:=split_at _ _ h
   have e:l=b.reverse++47::a.reverse:=by
    have:=congrArg List.reverse hab
    simpa using this
   rw[e,par_cut _ (by simpa using ha)];simp
 · rw[par_none (by simpa using h)];simp
theorem len_lst (l:List UInt8):(lst l).length≤l.length:=by
 by_cases h:47∈l.reverse
 · obtain⟨a,b,ha,hab⟩:=split_at _ _ h
   have e:l=b.reverse++47::a.reverse:=by
    have:=congrArg List.reverse hab
    simpa using this
   rw[e,lst_cut _ (by simpa using ha)];simp;omega
 · rw[lst_none (by simpa using h)];exact Nat.le_refl _
theorem len_stem (l:List UInt8):(stem l).length≤l.length:=by simp[stem];omega
theorem len_ending (l:List UInt8):(ending l).length≤l.length:=by simp[ending]
theorem len_trim (l:List UInt8) (c:UInt8):(Lib.trimRightB l c).length≤l.length:=by
 unfold Lib.trimRightB;have:=(List.dropWhile_sublist (l:=l.reverse) (p:=(· ==c))).length_le
 simpa using this
theorem len_short (l:List UInt8) (r:Int):(short l r).length≤l.length:=by
 unfold short;split
 · exact Nat.le_refl _
 · refine Nat.le_trans (len_trim _ _) ?_
   simp;omega
theorem len_asideS (l:List UInt8) (i:Nat):(asideS l i).length≤(stem (lst l)).length:=len_short _ _
theorem len_jn (p n:List UInt8):(jn p n).length≤p.length+n.length+1:=by
 unfold jn;split
 · omega
 · simp;omega
end Go.Proofs.YtlllcifehellpaaGreatDoor.Pp
namespace Go.Proofs.YtlllcifehellpaaGreatDoor
open Go.RowKit

set_option maxHeartbeats 400000 in
theorem checkAll_any (ls:List ByteArray) (b cap:Nat) (w:World) (hb:b<w.heap.size) (hn:ls.length≤1000) (hs: ∀i (h:i<ls.length),(ls[i]).size≤1000000000000000)
    (hc: ∀i (h:i<ls.length),w.cell? ⟨b,i,none⟩=some (.string ls[i])):
    Calls Tryz.prog 113 #[.slice (some ⟨b,0,none⟩) ls.length cap] w fun e w'=>e= .returned (.int .i64 (Pp.chks (ls.map fun s=>s.data.toList)))∧Below w.heap.size w w':=by
 have HS:Hid (∀i (h:i<ls.length),(ls[i]).size≤1000000000000000):=hs;have HC:Hid (∀i (h:i<ls.length),w.cell? ⟨b,i,none⟩=some (.string ls[i])):=hc;clear hs hc;go_enter Tryz.func113,Tryz.ntmps113
 go_wp2_with fail;go_loopw [8] (fun i wr=> ∃k:Nat,k≤ls.length∧i= .int .i64 k∧Pp.chks (ls.map fun s=>s.data.toList)=Pp.chks ((ls.drop k).map fun s=>s.data.toList)∧Below w.heap.size w wr) (fun i _=>ls.length-(intOf i).toNat)
 case atStart=>exact⟨0,Nat.zero_le _,rfl,rfl,Below.refl _ _⟩
 case round=>
  obtain⟨k,hk,rfl,heq,hbel⟩:=hrel
  have HE:Hid (Pp.chks (ls.map fun s=>s.data.toList)=Pp.chks ((ls.drop k).map fun s=>s.data.toList)):=heq;clear heq;by_cases hlt:k<ls.length
  · have hcell:wr.cell? ⟨b,k,none⟩=some (.string ls[k]):=(hbel.cell (p:=⟨b,k,none⟩) hb).trans (HC.out k hlt)
    have HD:Hid (ls.drop k=ls[k]::ls.drop (k+1)):=List.drop_eq_getElem_cons hlt;cases hz:(Pp.chk (ls[k]).data.toList==0)with
    |true=>
     have HZ:=hid (show Pp.chk (ls[k]).data.toList=0 from by simpa using hz);clear hz;go_wp2_with fail;refine(check_any _ _ (HS.out k hlt)).mono ?_
     rintro e w1 ⟨rfl,hb1⟩;rw[HZ.out];go_wp2_with fail;go_roundw
     case rel=>exact⟨k+1,by omega,by simp,by rw[HE.out,HD.out,List.map_cons,Pp.chks,if_pos HZ.out],hbel.trans (hb1.mono hbel.size)⟩
     case measure=>simp[intOf];omega
    |false=>
     have HZ:=hid (show¬Pp.chk (ls[k]).data.toList=0 from by simpa using hz);go_wp2_with fail;refine(check_any _ _ (HS.out k hlt)).mono ?_
     rintro e w1 ⟨rfl,hb1⟩;go_wp2_with fail;go_ret;exact⟨Pp.ret_int (by rw[HE.out,HD.out,List.map_cons,Pp.chks,if_neg HZ.out]),hbel.trans (hb1.mono hbel.size)⟩
  · go_wp2_with fail
    go_ret;exact⟨Pp.ret_int (by rw[HE.out,List.drop_of_length_le (by omega)];rfl),hbel⟩
theorem below_trans {a b c:World} (h1:Below a.heap.size a b) (h2:Below b.heap.size b c):Below a.heap.size a c:=h1.trans (h2.mono h1.size)
set_option maxHeartbeats 400000 in
theorem checked_ok (s:ByteArray) (w:World) (hs:s.size≤1000000000000000) (h:Pp.chk s.data.toList=0):
    Calls Tryz.prog 115 #[.string s] w fun e w'=>e= .returned (.tuple #[.string s,.int .i64 0])∧Below w.heap.size w w':=by
 have HZ:Hid (Pp.chk s.data.toList=0):=h;clear h;go_enter Tryz.func115,Tryz.ntmps115
 go_wp2_with fail;refine(check_any _ _ hs).mono ?_
 rintro e w1 ⟨rfl,hb1⟩;rw[HZ.out];go_wp2;go_ret2;exact⟨rfl,hb1⟩
set_option maxHeartbeats 400000 in
theorem checked_no (s:ByteArray) (w:World) (hs:s.size≤1000000000000000) (h: ¬Pp.chk s.data.toList=0):
    Calls Tryz.prog 115 #[.string s] w fun e w'=>e= .returned (.tuple #[.string ⟨#[]⟩,.int .i64 (Pp.chk s.data.toList)])∧Below w.heap.size w w':=by
 have hz:(Pp.chk s.data.toList==0)=false:=by simpa using h
 clear h;go_enter Tryz.func115,Tryz.ntmps115
 go_wp2_with fail;refine(check_any _ _ hs).mono ?_
 rintro e w1 ⟨rfl,hb1⟩;go_wp2;go_ret2;exact⟨rfl,hb1⟩
set_option maxHeartbeats 400000 in
theorem joined_any (s t:ByteArray) (w:World) (hs:s.size≤1000000000000000) (ht:t.size≤1000000000000000):
    Calls Tryz.prog 116 #[.string s,.string t] w fun e w'=>e= .returned (.string ⟨(Pp.jn s.data.toList t.data.toList).toArray⟩)∧w'=w:=by
 cases hc:s.toList.isEmpty with
 |true=>
  have HP:=hid (show⟨(Pp.jn s.data.toList t.data.toList).toArray⟩=t from by rw[Lib.toList_data,List.isEmpty_iff]at hc;rw[Pp.jn,if_pos hc]);go_enter Tryz.func116,Tryz.ntmps116
  go_wp2;go_ret;exact⟨by rw[HP.out];rfl,rfl⟩
 |false=>
  have HP:=hid (show s++⟨#[47]⟩++t=⟨(Pp.jn s.data.toList t.data.toList).toArray⟩from Pp.bytes_eq (by
   rw[Lib.toList_data]at hc;rw[Joins.data_append,Joins.data_append,Pp.jn,if_neg (by intro h;rw[h]at hc;cases hc)];simp))
  go_enter Tryz.func116,Tryz.ntmps116
  go_wp2;go_ret;exact⟨by rw[←HP.out];rfl,rfl⟩
namespace Pp
theorem cls (c:UInt8):(97≤(c.toNat:Int)∧(c.toNat:Int)≤122)∨(65≤(c.toNat:Int)∧(c.toNat:Int)≤90)∨(48≤(c.toNat:Int)∧(c.toNat:Int)≤57)∨
    (c.toNat:Int)=45∨(c.toNat:Int)=95∨(c.toNat:Int)=46∨(c.toNat:Int)=40∨(c.toNat:Int)=41∨(c.toNat:Int)=32∨okB c=false:=by
 cases h:okB c with
 |false=>simp
 |true=>have:=(okB_iff c).1 h;omega
theorem not_ok (c:UInt8) (h:okB c=false):(c.toNat:Int)<32∨(32<(c.toNat:Int)∧(c.toNat:Int)<40)∨(41<(c.toNat:Int)∧(c.toNat:Int)<45)∨(46<(c.toNat:Int)∧(c.toNat:Int)<48)∨
    (57<(c.toNat:Int)∧(c.toNat:Int)<65)∨(90<(c.toNat:Int)∧(c.toNat:Int)<95)∨(95<(c.toNat:Int)∧(c.toNat:Int)<97)∨122<(c.toNat:Int):=by
 have h1: ¬(okB c=true):=by simp[h]
 rw[okB_iff]at h1;omega
def goodTo (s:ByteArray) (k:Nat):Prop:=(s.data.toList.take k).all okB=true∧ ∀j (h:j<s.size),j<k→(j=0∨j=s.size-1)→(s[j].toNat:Int)≠32
theorem good_zero (s:ByteArray):goodTo s 0:=⟨by simp,fun j h h1=>absurd h1 (Nat.not_lt_zero _)⟩
theorem good_step (s:ByteArray) (k:Nat) (hk:k<s.size) (h:goodTo s k) (h1:okB s[k]=true) (h2:(k=0∨k=s.size-1)→(s[k].toNat:Int)≠32):goodTo s (k+1):=by
 refine⟨all_snoc s k hk h.1 h1,fun j hj hj2 hj3=>?_⟩
 by_cases e:j=k
 · subst e;exact h2 hj3
 · exact h.2 j hj (by omega) hj3
theorem good_end (s:ByteArray) (h:goodTo s s.size) (h1:1≤s.size) (h2:s.size≤20) (h3:s.toList≠[46]) (h4:s.toList≠[46,46]):true=nameB s.data.toList:=
 nameB_yes s h1 h2 h3 h4 (by omega) (h.2 0 (by omega) (by omega) (Or.inl rfl)) (by omega) (h.2 (s.size-1) (by omega) (by omega) (Or.inr rfl))
  (by have:=h.1;rwa [List.take_of_length_le (by rw[←Lib.size_eq];exact Nat.le_refl _)]at this)
theorem blank_ok (c:UInt8) (h:(c.toNat:Int)=32):okB c=true:=(okB_iff c).2 (by omega)
end Pp

set_option maxRecDepth 100000 in
set_option maxHeartbeats 2000000 in
theorem rIsName_any (s:ByteArray) (w:World) (hs:s.size≤150000000000000):
    Calls Tryz.prog 12 #[.string s] w fun e w'=>e= .returned (.bool (Pp.nameB s.data.toList))∧w'=w:=by
 go_enter Tryz.func12,Tryz.ntmps12
 go_wp2_with fail;go_loop [3] (fun i=> ∃k:Nat,k≤s.size∧i= .int .i64 k∧Hid (Pp.goodTo s k)) (fun i=>s.size-(intOf i).toNat)
 case atStart=>exact⟨0,Nat.zero_le _,rfl,Pp.good_zero s⟩
 case round=>
  obtain⟨k,hk,rfl,HG⟩:=hrel
  by_cases hlt:k<s.size
  · rcases Pp.cls s[k]with⟨h1,h2⟩|⟨h1,h2⟩|⟨h1,h2⟩|h|h|h|h|h|h|h
    iterate 3
     · have HK:=hid (show Pp.okB s[k]=true from(Pp.okB_iff _).2 (by omega))
       have HB:=hid (show(k=0∨k=s.size-1)→(s[k].toNat:Int)≠32 from fun _=>by omega);go_wp2_with fail;go_round
       case rel=>exact⟨k+1,by omega,by go_num,Pp.good_step s k hlt HG.out HK.out HB.out⟩
       case measure=>simp[intOf];omega
    iterate 5
     · have HK:=hid (show Pp.okB s[k]=true from(Pp.okB_iff _).2 (by omega))
       have HB:=hid (show(k=0∨k=s.size-1)→(s[k].toNat:Int)≠32 from fun _=>by omega);go_wp2_with fail;go_round
       case rel=>exact⟨k+1,by omega,by go_num,Pp.good_step s k hlt HG.out HK.out HB.out⟩
       case measure=>simp[intOf];omega
    · have HK:=hid (show Pp.okB s[k]=true from Pp.blank_ok _ h)
      by_cases hk0:k=0
      · clear HK
        subst hk0;have HF:Hid (false=Pp.nameB s.data.toList):=Pp.nameB_head s hlt h;go_wp2_with fail;go_ret;exact⟨Pp.ret_bool HF.out,rfl⟩
      by_cases hk1:k=s.size-1
      · have HF:Hid (false=Pp.nameB s.data.toList):=Pp.nameB_last s (by omega) (by subst hk1;exact h)
        have hk2:((k:Int)==(s.size:Int)-1)=true:=by rw[beq_iff_eq];omega
        have hk3:((k:Int)==0)=false:=by rw[beq_eq_false_iff_ne];omega
        clear hk1 hk0;go_wp2_with fail;go_ret;exact⟨Pp.ret_bool HF.out,rfl⟩
      have HB:=hid (show(k=0∨k=s.size-1)→(s[k].toNat:Int)≠32 from fun e=>by omega);have hk2:((k:Int)==(s.size:Int)-1)=false:=by rw[beq_eq_false_iff_ne];omega
      have hk3:((k:Int)==0)=false:=by rw[beq_eq_false_iff_ne];omega
      clear hk1 hk0;go_wp2_with fail;go_round
      case rel=>exact⟨k+1,by omega,by go_num,Pp.good_step s k hlt HG.out HK.out HB.out⟩
      case measure=>simp[intOf];omega
    · have HF:Hid (false=Pp.nameB s.data.toList):=Pp.nameB_bad s k hlt h
      rcases Pp.not_ok _ h with g1|⟨g1,g2⟩|⟨g1,g2⟩|⟨g1,g2⟩|⟨g1,g2⟩|⟨g1,g2⟩|⟨g1,g2⟩|g1
      all_goals
       clear h;go_wp2_with fail;go_ret;exact⟨Pp.ret_bool HF.out,rfl⟩
  · obtain rfl:k=s.size:=by omega
    clear hlt hk;cases c0:s.toList.isEmpty with
    |true=>
     have HF:=hid (show false=Pp.nameB s.data.toList from Pp.nameB_no s (Or.inl (by rw[Lib.toList_data]at c0;rw[Lib.size_eq];rw[List.isEmpty_iff]at c0;rw[c0];decide)));go_wp2_with fail;go_ret;exact⟨Pp.ret_bool HF.out,rfl⟩
    |false=>
    by_cases c2:20<(s.size:Int)
    · have HF:=hid (show false=Pp.nameB s.data.toList from Pp.nameB_no s (Or.inr (Or.inl (by omega))))
      go_wp2_with fail;go_ret;exact⟨Pp.ret_bool HF.out,rfl⟩
    cases c3:(s.toList==[46])with
    |true=>
     have HF:=hid (show false=Pp.nameB s.data.toList from Pp.nameB_no s (Or.inr (Or.inr (Or.inl (by simpa using c3)))));go_wp2_with fail;go_ret;exact⟨Pp.ret_bool HF.out,rfl⟩
    |false=>
    cases c4:(s.toList==[46,46])with
    |true=>
     have HF:=hid (show false=Pp.nameB s.data.toList from Pp.nameB_no s (Or.inr (Or.inr (Or.inr (by simpa using c4)))));go_wp2_with fail;go_ret;exact⟨Pp.ret_bool HF.out,rfl⟩
    |false=>
     have HF:=hid (show true=Pp.nameB s.data.toList from Pp.good_end s HG.out (by
      rw[Lib.toList_data]at c0;rw[Lib.size_eq];cases e:s.data.toList with
      |nil=>rw[e]at c0;cases c0
      |cons _ _=>simp) (by omega) (by simpa using c3) (by simpa using c4))
     go_wp2_with fail;go_ret;exact⟨Pp.ret_bool HF.out,rfl⟩
end Go.Proofs.YtlllcifehellpaaGreatDoor
namespace Go.Proofs.YtlllcifehellpaaGreatDoor.Pp

theorem join_snoc (d:List (List UInt8)) (x:List UInt8) (h:d≠[]):join (d++[x])=join d++47::x:=by
 induction d with
 |nil=>exact absurd rfl h
 |cons a r ih=>
  cases r with
  |nil=>simp[join]
  |cons b t=>
   have:=ih (by simp)
   simp only[List.cons_append,join]at this⊢;rw[this];simp
theorem join_app (d e:List (List UInt8)) (hd:d≠[]) (he:e≠[]):join (d++e)=join d++47::join e:=by
 induction d with
 |nil=>exact absurd rfl hd
 |cons a r ih=>
  cases r with
  |nil=>
   cases e with
   |nil=>exact absurd rfl he
   |cons b t=>simp[join]
  |cons b t=>
   have:=ih (by simp)
   simp only[List.cons_append,join]at this⊢;rw[this];simp
theorem join_take_le (L:List (List UInt8)) (k:Nat):(join (L.take k)).length≤(join L).length:=by
 by_cases h1:L.take k=[]
 · rw[h1];simp[join]
 by_cases h2:L.drop k=[]
 · have:L.take k=L:=by
    have:=List.take_append_drop k L
    rw[h2,List.append_nil]at this;exact this
   rw[this];exact Nat.le_refl _
 · conv=>rhs;rw[←List.take_append_drop k L,join_app _ _ h1 h2]
   rw[List.length_append];omega
theorem join_step (L:List (List UInt8)) (k:Nat) (h:k<L.length) (h0:0<k):(⟨(join (L.take k)).toArray⟩:ByteArray)++⟨#[47]⟩++⟨(L[k]).toArray⟩=⟨(join (L.take (k+1))).toArray⟩:=by
 apply bytes_eq
 rw[Joins.data_append,Joins.data_append,List.take_succ_eq_append_getElem h,join_snoc _ _ (by intro e;have:=List.length_take_of_le (show k≤L.length by omega);rw[e]at this;simp at this;omega)];simp
theorem join_first (L:List (List UInt8)) (h:0<L.length):(⟨#[]⟩:ByteArray)++⟨(L[0]).toArray⟩=⟨(join (L.take 1)).toArray⟩:=by
 apply bytes_eq
 rw[Joins.data_append];cases L with
 |nil=>simp at h
 |cons a r=>simp[join]
theorem mem_join_len (L:List (List UInt8)) (k:Nat) (h:k<L.length):(L[k]).length≤(join L).length:=by
 have h1:=join_take_le L (k+1);rw[List.take_succ_eq_append_getElem h]at h1;by_cases e:L.take k=[]
 · rw[e]at h1;simpa[join]using h1
 · rw[join_snoc _ _ e]at h1;simp at h1;omega
theorem nm_inj {a b:List UInt8} (h:nm a=nm b):a=b:=by rw[←join_nm a,←join_nm b,h]
theorem no_slash {n:List UInt8} (h:nameB n=true):47∉n:=by
 intro hm;simp only[nameB,Bool.and_eq_true,List.all_eq_true]at h;have:=h.1.1.1.1.1.1 47 hm
 revert this;decide
theorem chk_names {l:List UInt8} (h:chk l=0):(nm l).all nameB=true:=by
 unfold chk at h;split at h
 · assumption
 · simp at h
theorem chk_big {l:List UInt8} (h:(nm l).all nameB=true):chk l=if big l=true then 2 else 0:=by
 rw[chk,if_pos h]
theorem chk_not_big {l:List UInt8} (h:chk l=0):big l=false:=by
 rw[chk_big (chk_names h)]at h;cases e:big l with
 |false=>rfl
 |true=>rw[e]at h;simp at h
theorem all_app {a b:List (List UInt8)} (h:a.all nameB=true) (h1:b.all nameB=true):(a++b).all nameB=true:=by
 rw[List.all_append,h,h1];rfl
def isInB (p q:List UInt8):Bool:=(nm q).isPrefixOf (nm p)
theorem isIn_of (p q:List UInt8):isInB p q=true↔p=q∨ ∃r,p=q++47::r:=by
 unfold isInB;rw[List.isPrefixOf_iff_prefix];constructor
 · rintro ⟨t,ht⟩
   by_cases e:t=[]
   · left
     rw[e,List.append_nil]at ht;exact(nm_inj ht).symm
   · right
     refine⟨join t,?_⟩
     rw[←join_nm p,←ht,join_app _ _ (nm_ne q) e,join_nm]
 · rintro (h|⟨r,h⟩)
   · rw[h];exact List.prefix_refl _
   · rw[h,nm_app];exact List.prefix_append _ _
theorem isIn_eq (p q:List UInt8):(p==q||Lib.hasPrefix p (q++[47]))=isInB p q:=by
 rw[Bool.eq_iff_iff,isIn_of,Bool.or_eq_true,beq_iff_eq,Lib.hasPrefix,List.isPrefixOf_iff_prefix];constructor
 · rintro (h|⟨t,h⟩)
   · exact Or.inl h
   · exact Or.inr ⟨t,by rw[←h];simp⟩
 · rintro (h|⟨t,h⟩)
   · exact Or.inl h
   · exact Or.inr ⟨t,by rw[h];simp⟩
def mvT (p f t:List UInt8):List UInt8:=t++p.drop f.length
theorem mv_names {p f:List UInt8} (t:List UInt8) (h:isInB p f=true):nm (mvT p f t)=nm t++(nm p).drop (nm f).length:=by
 rcases(isIn_of p f).1 h with e|⟨r,e⟩
 · subst e;simp[mvT]
 · have:p.drop f.length=47::r:=by rw[e];simp
   rw[mvT,this,nm_app,e,nm_app];simp
theorem mv_join {p f:List UInt8} (t:List UInt8) (h:isInB p f=true):join (nm t++(nm p).drop (nm f).length)=mvT p f t:=by
 rw[←mv_names t h,join_nm]
def mvE (p f t:List UInt8):Int:=if chks [p,f,t]=0 then(if isInB p f=true then chk (mvT p f t)else 5)else chks [p,f,t]
theorem chks_zero {a:List UInt8} {r:List (List UInt8)} (h:chks (a::r)=0):chk a=0∧chks r=0:=by
 unfold chks at h;split at h
 · rename_i e;exact⟨e,h⟩
 · rename_i e;exact absurd h e
theorem mv_chk {p f t:List UInt8} (h:chks [p,f,t]=0) (hi:isInB p f=true):chk (mvT p f t)=if big (mvT p f t)=true then 2 else 0:=by
 obtain⟨h1,h⟩:=chks_zero h
 obtain⟨h2,h⟩:=chks_zero h
 obtain⟨h3,_⟩:=chks_zero h
 apply chk_big
 rw[mv_names t hi];refine all_app (chk_names h3) ?_
 have:=chk_names h1
 rw[List.all_eq_true]at this⊢;exact fun x hx=>this x (List.mem_of_mem_drop hx)
end Go.Proofs.YtlllcifehellpaaGreatDoor.Pp
namespace Go.Proofs.YtlllcifehellpaaGreatDoor
open Go.RowKit

structure En where
 path:ByteArray
 folder:Bool
 text:ByteArray
 ver:Int
def EnAt (w:World) (b o:Nat) (e:En):Prop:=w.cell? ⟨b,o,none⟩=some (.string e.path)∧w.cell? ⟨b,o+1,none⟩=some (.bool e.folder)∧w.cell? ⟨b,o+2,none⟩=some (.string e.text)∧w.cell? ⟨b,o+3,none⟩=some (.int .i64 e.ver)
def Lies (w:World) (v:Value) (L:List En):Prop:= ∃a cap,v= .slice a L.length cap∧L.length≤cap∧L.length≤1000000000000000∧ ∀i (h:i<L.length),∃b o,a=some ⟨b,o,none⟩∧b<w.heap.size∧EnAt w b (o+i*4) L[i]
theorem EnAt.below {w w':World} {b o:Nat} {e:En} (h:EnAt w b o e) (hb:b<w.heap.size) (hw:Below w.heap.size w w'):EnAt w' b o e:=
 ⟨(hw.cell (p:=⟨b,o,none⟩) hb).trans h.1,(hw.cell (p:=⟨b,o+1,none⟩) hb).trans h.2.1,(hw.cell (p:=⟨b,o+2,none⟩) hb).trans h.2.2.1,(hw.cell (p:=⟨b,o+3,none⟩) hb).trans h.2.2.2⟩
theorem Lies.below {w w':World} {v:Value} {L:List En} (h:Lies w v L) (hw:Below w.heap.size w w'):Lies w' v L:=by
 obtain⟨a,cap,hv,h1,h2,h3⟩:=h
 refine⟨a,cap,hv,h1,h2,fun i hi=>?_⟩
 obtain⟨b,o,ha,hb,he⟩:=h3 i hi
 exact⟨b,o,ha,Nat.lt_of_lt_of_le hb hw.size,he.below hb hw⟩
theorem box4 {w w1:World} {a b c d:Value} {T:TypeId} (h:Below (w.alloc (.cells #[a,b,c,d] T)).heap.size (w.alloc (.cells #[a,b,c,d] T)) w1):
    w1.cell? ⟨w.heap.size,0,none⟩=some a∧w1.cell? ⟨w.heap.size,1,none⟩=some b∧w1.cell? ⟨w.heap.size,2,none⟩=some c∧w1.cell? ⟨w.heap.size,3,none⟩=some d∧Below w.heap.size w w1∧w.heap.size<w1.heap.size:=by
 have hz:w.heap.size<(w.alloc (.cells #[a,b,c,d] T)).heap.size:=by simp
 refine⟨?_,?_,?_,?_,((Below.refl _ _).alloc (Nat.le_refl _) _).trans (h.mono (Nat.le_of_lt hz)),Nat.lt_of_lt_of_le hz h.size⟩
 · exact(h.cell (p:=⟨w.heap.size,0,none⟩) hz).trans (by simp)
 · exact(h.cell (p:=⟨w.heap.size,1,none⟩) hz).trans (by simp)
 · exact(h.cell (p:=⟨w.heap.size,2,none⟩) hz).trans (by simp)
 · exact(h.cell (p:=⟨w.heap.size,3,none⟩) hz).trans (by simp)
theorem box4f {w w1:World} {a b c d:Value} {T:TypeId} (h:Below (w.alloc (.cells #[a,b,c,d] T)).heap.size (w.alloc (.cells #[a,b,c,d] T)) w1) (i:Nat):w1.frozen? ⟨w.heap.size,i,none⟩=false:=
 (h.frozen (p:=⟨w.heap.size,i,none⟩) (by simp)).trans (World.frozen?_alloc_at _ _ _ _ rfl)
namespace Pp
def verE (n:Int):Int:=if n<1∨1000000<n then 3 else 0
def entE (e:En):Int:=if chk e.path.data.toList=0 then(if e.folder=true∧ ¬e.text.data.toList=[]then 1 else if 300<e.text.size then 2 else verE e.ver)else chk e.path.data.toList
def entsE:List En→Int
 |[]=>0
 |e::r=>if entE e=0 then entsE r else entE e
def lt (a b:En):Bool:=Op.bytesLess a.path.toList b.path.toList
def risesB:List En→Bool
 |[]=>true
 |[_]=>true
 |a::b::r=>lt a b && risesB (b::r)
def atB (p:List UInt8) (e:En):Bool:=e.path.data.toList==p
def foldE (L:List En) (p:List UInt8):Int:=if p=[]then 0 else match L.find? (atB p)with
 |none=>5
 |some e=>if e.folder=true then 0 else 4
def parF (L:List En) (e:En):Int:=foldE L (par e.path.data.toList)
def parsE (L M:List En):Int:=if M.any (fun e=>parF L e==5)=true then 5 else if M.any (fun e=>parF L e==4)=true then 4 else 0
def treeE (L:List En):Int:=if 60<L.length then 2 else if entsE L=0 then(if risesB L=true then parsE L L else 4)else entsE L
theorem foldE_range (L:List En) (p:List UInt8):foldE L p=0∨foldE L p=4∨foldE L p=5:=by
 unfold foldE;split
 · simp
 · split
   · simp
   · split<;>simp
theorem entE_path {e:En} (h:entE e=0):chk e.path.data.toList=0:=by
 unfold entE at h;split at h
 · assumption
 · rename_i hz;exact absurd h hz
theorem entsE_all {L:List En} (h:entsE L=0): ∀e∈L,entE e=0:=by
 induction L with
 |nil=>intro e he;cases he
 |cons a r ih=>
  unfold entsE at h;split at h
  · rename_i ha
    intro e he;rcases List.mem_cons.1 he with rfl|he
    · exact ha
    · exact ih h e he
  · rename_i ha;exact absurd h ha
end Pp
end Go.Proofs.YtlllcifehellpaaGreatDoor
