/- What the document's own IsName answers, for every text. -/
import Derived.Test.YtgamnckfmmbjdaaGreatDoorWGA
import Derived.Test.YtgamnckfmmbjdaaGreatDoorProg
set_option linter.unusedSimpArgs false
set_option linter.unusedVariables false
namespace Go.Proofs.YtgamnckfmmbjdaaGreatDoor
open Go.RowKit Go.Proofs.Tryz
set_option maxHeartbeats 2000000
set_option maxRecDepth 100000
theorem Pp.cls (c:UInt8):(97≤(c.toNat:Int)∧(c.toNat:Int)≤122)∨(65≤(c.toNat:Int)∧(c.toNat:Int)≤90)∨(48≤(c.toNat:Int)∧(c.toNat:Int)≤57)∨
    (c.toNat:Int)=45∨(c.toNat:Int)=95∨(c.toNat:Int)=46∨(c.toNat:Int)=40∨(c.toNat:Int)=41∨(c.toNat:Int)=32∨cD c=false:=by
 cases h:cD c with
 |false=>simp
 |true=>have:=(iK c).1 h;omega
theorem uw (c:UInt8) (h:cD c=false):(c.toNat:Int)<32∨(32<(c.toNat:Int)∧(c.toNat:Int)<40)∨(41<(c.toNat:Int)∧(c.toNat:Int)<45)∨(46<(c.toNat:Int)∧(c.toNat:Int)<48)∨
    (57<(c.toNat:Int)∧(c.toNat:Int)<65)∨(90<(c.toNat:Int)∧(c.toNat:Int)<95)∨(95<(c.toNat:Int)∧(c.toNat:Int)<97)∨122<(c.toNat:Int):=by
 have a: ¬(cD c=true):=by simp[h]
 rw[iK]at a;omega
def jZ (s:ByteArray) (k:Nat):Prop:=(s.data.toList.take k).all cD=true∧ ∀j (h:j<s.size),j<k→(j=0∨j=s.size-1)→(s[j].toNat:Int)≠32
theorem ux (s:ByteArray):jZ s 0:=⟨by simp,fun j h a=>absurd a (Nat.not_lt_zero _)⟩
theorem mK (s:ByteArray) (k:Nat) (y:k<s.size) (h:jZ s k) (d:cD s[k]=true) (f:(k=0∨k=s.size-1)→(s[k].toNat:Int)≠32):jZ s (k+1):=by
 refine⟨oT s k y h.1 d,fun j o u a=>?_⟩
 by_cases e:j=k
 · subst e;exact f a
 · exact h.2 j o (by omega) a
theorem uy (s:ByteArray) (h:jZ s s.size) (a:1≤s.size) (d:s.size≤20) (e:s.toList≠[46]) (f:s.toList≠[46,46]):true=az s.data.toList:=
 oS s a d e f (by omega) (h.2 0 (by omega) (by omega) (Or.inl rfl)) (by omega) (h.2 (s.size-1) (by omega) (by omega) (Or.inr rfl))
  (by have:=h.1;rwa [List.take_of_length_le (by rw[←Lib.size_eq];exact Nat.le_refl _)]at this)
theorem uz (c:UInt8) (h:(c.toNat:Int)=32):cD c=true:=(iK c).2 (by omega)
theorem gB (s:ByteArray) (w:World) (O:s.size≤150000000000000):
    Calls prog 28 #[.string s] w fun e w'=>e= .returned (.bool (az s.data.toList))∧w'=w:=by
 go_enter func28,ntmps28
 go_wp2_with fail;go_loop [3] (fun i=> ∃k:Nat,k≤s.size∧i= .int .i64 k∧Hid (jZ s k)) (fun i=>s.size-(intOf i).toNat)
 case atStart=>exact⟨0,Nat.zero_le _,rfl,ux s⟩
 case round=>
  obtain⟨k,M,rfl,E⟩:=hrel
  by_cases d:k<s.size
  · rcases Pp.cls s[k]with⟨J,K⟩|⟨J,K⟩|⟨J,K⟩|h|h|h|h|h|h|h
    iterate 3
     · have u:=hid (show cD s[k]=true from(iK _).2 (by omega))
       have z:=hid (show(k=0∨k=s.size-1)→(s[k].toNat:Int)≠32 from fun _=>by omega);go_wp2_with fail;go_round
       case rel=>exact⟨k+1,by omega,by go_num,mK s k d E.out u.out z.out⟩
       case measure=>simp[intOf];omega
    iterate 5
     · have u:=hid (show cD s[k]=true from(iK _).2 (by omega))
       have z:=hid (show(k=0∨k=s.size-1)→(s[k].toNat:Int)≠32 from fun _=>by omega);go_wp2_with fail;go_round
       case rel=>exact⟨k+1,by omega,by go_num,mK s k d E.out u.out z.out⟩
       case measure=>simp[intOf];omega
    · have u:=hid (show cD s[k]=true from uz _ h)
      by_cases j:k=0
      · clear u
        subst j;have a:Hid (false=az s.data.toList):=oP s d h;go_wp2_with fail;go_ret;exact⟨aV a.out,rfl⟩
      by_cases o:k=s.size-1
      · have a:Hid (false=az s.data.toList):=oQ s (by omega) (by subst o;exact h)
        have F:((k:Int)==(s.size:Int)-1)=true:=by rw[beq_iff_eq];omega
        have G:((k:Int)==0)=false:=by rw[beq_eq_false_iff_ne];omega
        clear o j;go_wp2_with fail;go_ret;exact⟨aV a.out,rfl⟩
      have z:=hid (show(k=0∨k=s.size-1)→(s[k].toNat:Int)≠32 from fun e=>by omega);have F:((k:Int)==(s.size:Int)-1)=false:=by rw[beq_eq_false_iff_ne];omega
      have G:((k:Int)==0)=false:=by rw[beq_eq_false_iff_ne];omega
      clear o j;go_wp2_with fail;go_round
      case rel=>exact⟨k+1,by omega,by go_num,mK s k d E.out u.out z.out⟩
      case measure=>simp[intOf];omega
    · have a:Hid (false=az s.data.toList):=oR s k d h
      rcases uw _ h with f|⟨f,A⟩|⟨f,A⟩|⟨f,A⟩|⟨f,A⟩|⟨f,A⟩|⟨f,A⟩|f
      all_goals
       clear h;go_wp2_with fail;go_ret;exact⟨aV a.out,rfl⟩
  · obtain rfl:k=s.size:=by omega
    clear d M;cases y:s.toList.isEmpty with
    |true=>
     have a:=hid (show false=az s.data.toList from im s (Or.inl (by rw[Lib.toList_data]at y;rw[Lib.size_eq];rw[List.isEmpty_iff]at y;rw[y];decide)));go_wp2_with fail;go_ret;exact⟨aV a.out,rfl⟩
    |false=>
    by_cases N:20<(s.size:Int)
    · have a:=hid (show false=az s.data.toList from im s (Or.inr (Or.inl (by omega))))
      go_wp2_with fail;go_ret;exact⟨aV a.out,rfl⟩
    cases H:(s.toList==[46])with
    |true=>
     have a:=hid (show false=az s.data.toList from im s (Or.inr (Or.inr (Or.inl (by simpa using H)))));go_wp2_with fail;go_ret;exact⟨aV a.out,rfl⟩
    |false=>
    cases I:(s.toList==[46,46])with
    |true=>
     have a:=hid (show false=az s.data.toList from im s (Or.inr (Or.inr (Or.inr (by simpa using I)))));go_wp2_with fail;go_ret;exact⟨aV a.out,rfl⟩
    |false=>
     have a:=hid (show true=az s.data.toList from uy s E.out (by
      rw[Lib.toList_data]at y;rw[Lib.size_eq];cases e:s.data.toList with
      |nil=>rw[e]at y;cases y
      |cons _ _=>simp) (by omega) (by simpa using H) (by simpa using I))
     go_wp2_with fail;go_ret;exact⟨aV a.out,rfl⟩
end Go.Proofs.YtgamnckfmmbjdaaGreatDoor
