/- What the document's own IsName answers, for every text. -/
import Derived.Test.YtcmlnelpcjfocaaGreatDoorWYA
import Derived.Test.YtcmlnelpcjfocaaGreatDoorProg
import Derived.WalkSpells
import Derived.WalkLawsBesides
import Derived.Handy
set_option linter.unusedSimpArgs false
set_option linter.unusedVariables false
namespace Go.Proofs.YtcmlnelpcjfocaaGreatDoor
open Go.RowKit Go.Proofs.Tryz
set_option maxHeartbeats 2000000
set_option maxRecDepth 100000
theorem Pp.cls (c:UInt8):(97≤(c.toNat:Int)∧(c.toNat:Int)≤122)∨(65≤(c.toNat:Int)∧(c.toNat:Int)≤90)∨(48≤(c.toNat:Int)∧(c.toNat:Int)≤57)∨
    (c.toNat:Int)=45∨(c.toNat:Int)=95∨(c.toNat:Int)=46∨(c.toNat:Int)=40∨(c.toNat:Int)=41∨(c.toNat:Int)=32∨dB c=false:=by
 cases h:dB c with
 |false=>simp
 |true=>have:=(lj c).1 h;omega
theorem Ao (c:UInt8) (h:dB c=false):(c.toNat:Int)<32∨(32<(c.toNat:Int)∧(c.toNat:Int)<40)∨(41<(c.toNat:Int)∧(c.toNat:Int)<45)∨(46<(c.toNat:Int)∧(c.toNat:Int)<48)∨
    (57<(c.toNat:Int)∧(c.toNat:Int)<65)∨(90<(c.toNat:Int)∧(c.toNat:Int)<95)∨(95<(c.toNat:Int)∧(c.toNat:Int)<97)∨122<(c.toNat:Int):=by
 have d: ¬(dB c=true):=by simp[h]
 rw[lj]at d;omega
def nj (s:ByteArray) (k:Nat):Prop:=(s.data.toList.take k).all dB=true∧ ∀j (h:j<s.size),j<k→(j=0∨j=s.size-1)→(s[j].toNat:Int)≠32
theorem Ap (s:ByteArray):nj s 0:=⟨by simp,fun j h d=>absurd d (Nat.not_lt_zero _)⟩
theorem qj (s:ByteArray) (k:Nat) (E:k<s.size) (h:nj s k) (f:dB s[k]=true) (y:(k=0∨k=s.size-1)→(s[k].toNat:Int)≠32):nj s (k+1):=by
 refine⟨tF s k E h.1 f,fun j z A d=>?_⟩
 by_cases e:j=k
 · subst e;exact y d
 · exact h.2 j z (by omega) d
theorem Aq (s:ByteArray) (h:nj s s.size) (d:1≤s.size) (f:s.size≤20) (y:s.toList≠[46]) (z:s.toList≠[46,46]):true=aM s.data.toList:=
 tE s d f y z (by omega) (h.2 0 (by omega) (by omega) (Or.inl rfl)) (by omega) (h.2 (s.size-1) (by omega) (by omega) (Or.inr rfl))
  (by have:=h.1;rwa [List.take_of_length_le (by rw[←Lib.size_eq];exact Nat.le_refl _)]at this)
theorem Ar (c:UInt8) (h:(c.toNat:Int)=32):dB c=true:=(lj c).2 (by omega)
theorem js (s:ByteArray) (w:World) (T:s.size≤150000000000000):
    Calls prog 30 #[.string s] w fun e w'=>e= .returned (.bool (aM s.data.toList))∧w'=w:=by
 go_enter func30,ntmps30
 go_wp2_with fail;go_loop [3] (fun i=> ∃k:Nat,k≤s.size∧i= .int .i64 k∧Hid (nj s k)) (fun i=>s.size-(intOf i).toNat)
 case atStart=>exact⟨0,Nat.zero_le _,rfl,Ap s⟩
 case round=>
  obtain⟨k,Q,rfl,I⟩:=hrel
  by_cases f:k<s.size
  · rcases Pp.cls s[k]with⟨O,P⟩|⟨O,P⟩|⟨O,P⟩|h|h|h|h|h|h|h
    iterate 3
     · have E:=hid (show dB s[k]=true from(lj _).2 (by omega))
       have G:=hid (show(k=0∨k=s.size-1)→(s[k].toNat:Int)≠32 from fun _=>by omega);go_wp2_with fail;go_round
       case rel=>exact⟨k+1,by omega,by go_num,qj s k f I.out E.out G.out⟩
       case measure=>simp[intOf];omega
    iterate 5
     · have E:=hid (show dB s[k]=true from(lj _).2 (by omega))
       have G:=hid (show(k=0∨k=s.size-1)→(s[k].toNat:Int)≠32 from fun _=>by omega);go_wp2_with fail;go_round
       case rel=>exact⟨k+1,by omega,by go_num,qj s k f I.out E.out G.out⟩
       case measure=>simp[intOf];omega
    · have E:=hid (show dB s[k]=true from Ar _ h)
      by_cases z:k=0
      · clear E
        subst z;have d:Hid (false=aM s.data.toList):=tB s f h;go_wp2_with fail;go_ret;exact⟨bt d.out,rfl⟩
      by_cases A:k=s.size-1
      · have d:Hid (false=aM s.data.toList):=tC s (by omega) (by subst A;exact h)
        have J:((k:Int)==(s.size:Int)-1)=true:=by rw[beq_iff_eq];omega
        have K:((k:Int)==0)=false:=by rw[beq_eq_false_iff_ne];omega
        clear A z;go_wp2_with fail;go_ret;exact⟨bt d.out,rfl⟩
      have G:=hid (show(k=0∨k=s.size-1)→(s[k].toNat:Int)≠32 from fun e=>by omega);have J:((k:Int)==(s.size:Int)-1)=false:=by rw[beq_eq_false_iff_ne];omega
      have K:((k:Int)==0)=false:=by rw[beq_eq_false_iff_ne];omega
      clear A z;go_wp2_with fail;go_round
      case rel=>exact⟨k+1,by omega,by go_num,qj s k f I.out E.out G.out⟩
      case measure=>simp[intOf];omega
    · have d:Hid (false=aM s.data.toList):=tD s k f h
      rcases Ao _ h with y|⟨y,H⟩|⟨y,H⟩|⟨y,H⟩|⟨y,H⟩|⟨y,H⟩|⟨y,H⟩|y
      all_goals
       clear h;go_wp2_with fail;go_ret;exact⟨bt d.out,rfl⟩
  · obtain rfl:k=s.size:=by omega
    clear f Q;cases F:s.toList.isEmpty with
    |true=>
     have d:=hid (show false=aM s.data.toList from kC s (Or.inl (by rw[Lib.toList_data]at F;rw[Lib.size_eq];rw[List.isEmpty_iff]at F;rw[F];decide)));go_wp2_with fail;go_ret;exact⟨bt d.out,rfl⟩
    |false=>
    by_cases S:20<(s.size:Int)
    · have d:=hid (show false=aM s.data.toList from kC s (Or.inr (Or.inl (by omega))))
      go_wp2_with fail;go_ret;exact⟨bt d.out,rfl⟩
    cases M:(s.toList==[46])with
    |true=>
     have d:=hid (show false=aM s.data.toList from kC s (Or.inr (Or.inr (Or.inl (by simpa using M)))));go_wp2_with fail;go_ret;exact⟨bt d.out,rfl⟩
    |false=>
    cases N:(s.toList==[46,46])with
    |true=>
     have d:=hid (show false=aM s.data.toList from kC s (Or.inr (Or.inr (Or.inr (by simpa using N)))));go_wp2_with fail;go_ret;exact⟨bt d.out,rfl⟩
    |false=>
     have d:=hid (show true=aM s.data.toList from Aq s I.out (by
      rw[Lib.toList_data]at F;rw[Lib.size_eq];cases e:s.data.toList with
      |nil=>rw[e]at F;cases F
      |cons _ _=>simp) (by omega) (by simpa using M) (by simpa using N))
     go_wp2_with fail;go_ret;exact⟨bt d.out,rfl⟩
end Go.Proofs.YtcmlnelpcjfocaaGreatDoor
