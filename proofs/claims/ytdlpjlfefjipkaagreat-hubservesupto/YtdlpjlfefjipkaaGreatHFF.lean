/- What the document's own IsName answers, for every text. -/
import Derived.Test.YtdlpjlfefjipkaaGreatHFA
set_option linter.unusedSimpArgs false
set_option linter.unusedVariables false
namespace Go.Proofs.YtdlpjlfefjipkaaGreat
open Go.RowKit Go.Proofs.Tryz
set_option maxHeartbeats 2000000
set_option maxRecDepth 100000
theorem yu (c:UInt8):(97≤(c.toNat:Int)∧(c.toNat:Int)≤122)∨(65≤(c.toNat:Int)∧(c.toNat:Int)≤90)∨(48≤(c.toNat:Int)∧(c.toNat:Int)≤57)∨
    (c.toNat:Int)=45∨(c.toNat:Int)=95∨(c.toNat:Int)=46∨(c.toNat:Int)=40∨(c.toNat:Int)=41∨(c.toNat:Int)=32∨dD c=false:=by
 cases h:dD c with
 |false=>simp
 |true=>have:=(jY c).1 h;omega
theorem yv (c:UInt8) (h:dD c=false):(c.toNat:Int)<32∨(32<(c.toNat:Int)∧(c.toNat:Int)<40)∨(41<(c.toNat:Int)∧(c.toNat:Int)<45)∨(46<(c.toNat:Int)∧(c.toNat:Int)<48)∨
    (57<(c.toNat:Int)∧(c.toNat:Int)<65)∨(90<(c.toNat:Int)∧(c.toNat:Int)<95)∨(95<(c.toNat:Int)∧(c.toNat:Int)<97)∨122<(c.toNat:Int):=by
 have a: ¬(dD c=true):=by simp[h]
 rw[jY]at a;omega
def lV (s:ByteArray) (k:Nat):Prop:=(s.data.toList.take k).all dD=true∧ ∀j (h:j<s.size),j<k→(j=0∨j=s.size-1)→(s[j].toNat:Int)≠32
theorem yw (s:ByteArray):lV s 0:=⟨by simp,fun j h a=>absurd a (Nat.not_lt_zero _)⟩
theorem o7 (s:ByteArray) (k:Nat) (i:k<s.size) (h:lV s k) (c:dD s[k]=true) (d:(k=0∨k=s.size-1)→(s[k].toNat:Int)≠32):lV s (k+1):=by
 refine⟨rp s k i h.1 c,fun j f g a=>?_⟩
 by_cases e:j=k
 · subst e;exact d a
 · exact h.2 j f (by omega) a
theorem yx (s:ByteArray) (h:lV s s.size) (a:1≤s.size) (c:s.size≤20) (d:s.toList≠[46]) (f:s.toList≠[46,46]):true=aA s.data.toList:=
 rn s a c d f (by omega) (h.2 0 (by omega) (by omega) (Or.inl rfl)) (by omega) (h.2 (s.size-1) (by omega) (by omega) (Or.inr rfl))
  (by have:=h.1;rwa [List.take_of_length_le (by rw[←Lib.size_eq];exact ax)]at this)
theorem yy (c:UInt8) (h:(c.toNat:Int)=32):dD c=true:=(jY c).2 (by omega)
theorem aM (s:ByteArray) (w:World) (I:s.size≤150000000000000):
    Calls prog 12 #[s] w fun e w'=>e= .returned (.bool (aA s.data.toList))∧w'=w:=by
 go_enter func12,ntmps12
 go_wp2_with fail;go_loop [3] (fun i=> ∃k:Nat,k≤s.size∧i= .int .i64 k∧Hid (lV s k)) (fun i=>s.size-(intOf i).toNat)
 case atStart=>exact⟨0,Nat.zero_le _,rfl,yw s⟩
 case round=>
  obtain⟨k,G,rfl,x⟩:=hrel
  by_cases c:k<s.size
  · rcases yu s[k]with⟨E,F⟩|⟨E,F⟩|⟨E,F⟩|h|h|h|h|h|h|h
    iterate 3
     · have j:=hid (show dD s[k]=true from(jY _).2 (by omega))
       have u:=hid (show(k=0∨k=s.size-1)→(s[k].toNat:Int)≠32 from fun _=>by omega);go_wp2_with fail;go_round
       case rel=>exact⟨k+1,by omega,by go_num,o7 s k c x.out j.out u.out⟩
       case measure=>simp[intOf];omega
    iterate 5
     · have j:=hid (show dD s[k]=true from(jY _).2 (by omega))
       have u:=hid (show(k=0∨k=s.size-1)→(s[k].toNat:Int)≠32 from fun _=>by omega);go_wp2_with fail;go_round
       case rel=>exact⟨k+1,by omega,by go_num,o7 s k c x.out j.out u.out⟩
       case measure=>simp[intOf];omega
    · have j:=hid (show dD s[k]=true from yy _ h)
      by_cases f:k=0
      · clear j
        subst f;have a:Hid (false=aA s.data.toList):=rk s c h;go_wp2;go_ret;exact⟨br a.out,rfl⟩
      by_cases g:k=s.size-1
      · have a:Hid (false=aA s.data.toList):=rl s (by omega) (by subst g;exact h)
        have z:((k:Int)==(s.size:Int)-1)=true:=by rw[beq_iff_eq];omega
        have A:((k:Int)==0)=false:=by rw[beq_eq_false_iff_ne];omega
        clear g f;go_wp2;go_ret;exact⟨br a.out,rfl⟩
      have u:=hid (show(k=0∨k=s.size-1)→(s[k].toNat:Int)≠32 from fun e=>by omega);have z:((k:Int)==(s.size:Int)-1)=false:=by rw[beq_eq_false_iff_ne];omega
      have A:((k:Int)==0)=false:=by rw[beq_eq_false_iff_ne];omega
      clear g f;go_wp2_with fail;go_round
      case rel=>exact⟨k+1,by omega,by go_num,o7 s k c x.out j.out u.out⟩
      case measure=>simp[intOf];omega
    · have a:Hid (false=aA s.data.toList):=rm s k c h
      rcases yv _ h with d|⟨d,v⟩|⟨d,v⟩|⟨d,v⟩|⟨d,v⟩|⟨d,v⟩|⟨d,v⟩|d
      all_goals
       clear h;go_wp2;go_ret;exact⟨br a.out,rfl⟩
  · obtain rfl:k=s.size:=by omega
    clear c G;cases o:s.toList.isEmpty with
    |true=>
     have a:=hid (show false=aA s.data.toList from jD s (Or.inl (by rw[Lib.toList_data]at o;rw[Lib.size_eq];rw[List.isEmpty_iff]at o;rw[o];decide)));go_wp2;go_ret;exact⟨br a.out,rfl⟩
    |false=>
    by_cases H:20<(s.size:Int)
    · have a:=hid (show false=aA s.data.toList from jD s (Or.inr (Or.inl (by omega))))
      go_wp2;go_ret;exact⟨br a.out,rfl⟩
    cases B:(s.toList==[46])with
    |true=>
     have a:=hid (show false=aA s.data.toList from jD s (Or.inr (Or.inr (Or.inl (by simpa using B)))));go_wp2;go_ret;exact⟨br a.out,rfl⟩
    |false=>
    cases C:(s.toList==[46,46])with
    |true=>
     have a:=hid (show false=aA s.data.toList from jD s (Or.inr (Or.inr (Or.inr (by simpa using C)))));go_wp2;go_ret;exact⟨br a.out,rfl⟩
    |false=>
     have a:=hid (show true=aA s.data.toList from yx s x.out (by
      rw[Lib.toList_data]at o;rw[Lib.size_eq];cases e:s.data.toList with
      |nil=>rw[e]at o;cases o
      |cons _ _=>simp) (by omega) (by simpa using B) (by simpa using C))
     go_wp2;go_ret;exact⟨br a.out,rfl⟩
end Go.Proofs.YtdlpjlfefjipkaaGreat
