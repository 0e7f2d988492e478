/- What the reference's CheckTree answers, for every tree. -/
import Derived.Test.YtcmlnelpcjfocaaGreatDoorWYN
set_option linter.unusedSimpArgs false
set_option linter.unusedVariables false
namespace Go.Proofs.YtcmlnelpcjfocaaGreatDoor
open Go.RowKit Go.Proofs.Tryz
set_option maxHeartbeats 2000000
theorem Ea (e:En):
    (¬az e.path.data.toList=0∧bM e=az e.path.data.toList)∨
    (az e.path.data.toList=0∧e.folder=true∧e.text.toList.isEmpty=false∧bM e=1)∨
    (az e.path.data.toList=0∧e.folder=false∧300<(e.text.size:Int)∧bM e=2)∨
    (az e.path.data.toList=0∧e.folder=true∧e.text.toList.isEmpty=true∧(e.text.size:Int)≤300∧bM e=bi e.ver)∨
    (az e.path.data.toList=0∧e.folder=false∧(e.text.size:Int)≤300∧bM e=bi e.ver):=by
 by_cases d:az e.path.data.toList=0
 · refine Or.inr ?_
   have ae:bM e=if e.folder=true∧ ¬e.text.data.toList=[]then 1 else if 300<e.text.size then 2 else bi e.ver:=by rw[bM,if_pos d]
   cases y:e.folder with
   |true=>
    cases f:e.text.toList.isEmpty with
    |false=>exact Or.inl ⟨d,rfl,rfl,by rw[ae,if_pos ⟨y,kF f⟩]⟩
    |true=>
     have A:e.text.size=0:=by rw[Lib.size_eq,(iH e.text).1 f];rfl
     exact Or.inr (Or.inr (Or.inl ⟨d,rfl,rfl,by omega,by rw[ae,if_neg (fun h=>h.2 ((iH e.text).1 f)),if_neg (by omega)]⟩))
   |false=>
    by_cases z:300<e.text.size
    · exact Or.inr (Or.inl ⟨d,rfl,by omega,by rw[ae,y,if_neg (fun h=>by cases h.1),if_pos z]⟩)
    · exact Or.inr (Or.inr (Or.inr ⟨d,rfl,by omega,by rw[ae,y,if_neg (fun h=>by cases h.1),if_neg z]⟩))
 · exact Or.inl ⟨d,by rw[bM,if_neg d]⟩
theorem Eb {L:List En} {k:Nat} (f:k<L.length) (h: ∀j (h:j<L.length),bw L L[j]≠5) (F:bw L L[k]≠0):4=fh L L:=by
 have y:bw L L[k]=4:=by
  rcases pR L (aC (L[k]).path.data.toList)with d|d|d
  · exact absurd d F
  · exact d
  · exact absurd d (h k f)
 have H: ¬L.any (fun e=>bw L e==5)=true:=by
  intro z;obtain⟨x,G,A⟩:=List.any_eq_true.1 z
  obtain⟨j,E,rfl⟩:=List.getElem_of_mem G
  exact h j E (by simpa using A)
 have I:L.any (fun e=>bw L e==4)=true:=List.any_eq_true.2 ⟨L[k],List.getElem_mem f,by simp[y]⟩;rw[fh,if_neg H,if_pos I]
theorem Ec {L:List En} (h: ∀j (h:j<L.length),bw L L[j]=0):0=fh L L:=by
 have n: ∀c:Int,c≠0→ ¬L.any (fun e=>bw L e==c)=true:=by
  intro c y f;obtain⟨x,A,d⟩:=List.any_eq_true.1 f
  obtain⟨j,z,rfl⟩:=List.getElem_of_mem A
  rw[h j z]at d;exact y (by simpa using d:(0:Int)=c).symm
 rw[fh,if_neg (n 5 (by decide)),if_neg (n 4 (by decide))]
theorem Pp.lt_flip {x y:En} (h:Pp.lt x y=true):Pp.lt y x=false∧(y.path.toList==x.path.toList)=false:=by
 constructor
 · cases d:Pp.lt y x with
   |false=>rfl
   |true=>
    have:=hU _ _ _ h d
    rw[fA]at this;cases this
 · rw[beq_eq_false_iff_ne]
   intro e;have aE:Pp.lt x y=Pp.lt x x:=by rw[Pp.lt,Pp.lt,e]
   rw[aE,fA]at h;cases h
theorem Ed {x y:En} (h:Pp.lt x y=false):Pp.lt y x=true∨(Pp.lt y x=false∧(y.path.toList==x.path.toList)=true):=by
 cases d:Pp.lt y x with
 |true=>exact Or.inl rfl
 |false=>
  refine Or.inr ⟨rfl,?_⟩
  rw[Lib.toList_data,Lib.toList_data,lX d h];simp
theorem so {n:Int}:bi n=0↔1≤n∧n≤1000000:=by
 unfold bi;split<;>omega
theorem mC (n:Int) (w:World):
    Calls prog 66 #[.int .i64 n] w fun e w'=>e= .returned (.bool (bi n==0))∧w'=w:=by
 by_cases f:1≤n
 · by_cases y:n≤1000000
   · have d:=hid (show true=(bi n==0)from by rw[so.2 ⟨f,y⟩];rfl)
     go_enter func66,ntmps66
     go_wp2;go_ret;exact⟨bt d.out,rfl⟩
   · have d:=hid (show false=(bi n==0)from by symm;rw[beq_eq_false_iff_ne];exact fun h=>y (so.1 h).2)
     go_enter func66,ntmps66
     go_wp2;go_ret;exact⟨bt d.out,rfl⟩
 · have d:=hid (show false=(bi n==0)from by symm;rw[beq_eq_false_iff_ne];exact fun h=>f (so.1 h).1)
   go_enter func66,ntmps66
   go_wp2;go_ret;exact⟨bt d.out,rfl⟩
theorem mD (L:List En) (v:Value) (w:World) (hv:an w v L) (hs: ∀e∈L,e.path.size≤1000000000):
    Calls prog 36 #[v] w fun e w'=>e= .returned (.int .i64 (aH L))∧Below w.heap.size w w':=by
 have HV:Hid (an w v L):=hv;have HS:Hid (∀e∈L,e.path.size≤1000000000):=hs;obtain⟨a,Ix,rfl,Iv,I6,hL⟩:=hv
 have V:Hid (∀i (h:i<L.length),∃b o,a=some ⟨b,o,none⟩∧b<w.heap.size∧dp w b (o+i*4) L[i]):=hL;clear hL hs;by_cases IA:60<(L.length:Int)
 · have E:=hid (show 2=aH L from by rw[aH,if_pos (by omega)])
   go_enter func36,ntmps36
   go_wp2_with fail;go_ret;exact⟨aD E.out,Below.refl _ _⟩
 have HT:=hid (show aH L=if cK L=0 then(if dX L=true then fh L L else 4)else cK L from by rw[aH,if_neg (by omega)]);go_enter func36,ntmps36
 go_wp2_with fail;go_loopw [3] (fun i wr=> ∃k:Nat,k≤L.length∧i= .int .i64 k∧Hid (cK L=cK (L.drop k))∧Below w.heap.size w wr) (fun i _=>L.length-(intOf i).toNat)
 case atStart=>exact⟨0,Nat.zero_le _,rfl,(rfl:cK L=cK (L.drop 0)),Below.refl _ _⟩
 case round=>
  obtain⟨k,hk,rfl,HQ,d⟩:=hrel
  by_cases z:k<L.length
  · obtain⟨b,o,rfl,hb,N⟩:=V.out k z
    obtain⟨O,J,K,M⟩:=N.below hb d
    have HD:Hid (L.drop k=L[k]::L.drop (k+1)):=List.drop_eq_getElem_cons z;have F:=HS.out L[k] (List.getElem_mem z)
    have HN := hid (show bM L[k] ≠ 0 → bM L[k] = aH L from fun G => by
        have e1:cK L=bM L[k]:=by rw[HQ.out,HD.out,cK,if_neg G]
        rw[HT.out,if_neg (by rw[e1];exact G),e1])
    have HG:=hid (show bM L[k]=0→cK L=cK (L.drop (k+1))from fun G=>by rw[HQ.out,HD.out,cK,if_pos G]);rcases Ea L[k]with⟨G,ae⟩|⟨G,Q,hc,ae⟩|⟨G,Q,hc,ae⟩|⟨G,Q,hc,I5,ae⟩|⟨G,Q,I5,ae⟩
    · have E:=hid (show az (L[k]).path.data.toList=aH L from by rw[←ae];exact HN.out (by rw[ae];exact G))
      have IC:(az (L[k]).path.data.toList==0)=false:=by simpa using G
      clear ae;go_wp2_with fail;refine(iW (L[k]).path _ F).mono ?_
      rintro e w1 ⟨rfl,y⟩;have f:=bn d y;clear O J K M d y;go_wp2_with fail;go_ret;exact⟨aD E.out,f⟩
    · have E:=hid (show 1=aH L from by rw[←HN.out (by rw[ae];decide),ae])
      have X:Hid (az (L[k]).path.data.toList=0):=G;clear ae G;go_wp2_with fail;refine(iW (L[k]).path _ F).mono ?_
      rintro e w1 ⟨rfl,y⟩;rw[X.out];have f:=bn d y;obtain⟨d0,T,d2,d3⟩:=N.below hb f
      rw[Q]at T;clear O J K M d y Q;go_wp2_with fail;go_ret;exact⟨aD E.out,f⟩
    · have E:=hid (show 2=aH L from by rw[←HN.out (by rw[ae];decide),ae])
      have X:Hid (az (L[k]).path.data.toList=0):=G;clear ae G;go_wp2_with fail;refine(iW (L[k]).path _ F).mono ?_
      rintro e w1 ⟨rfl,y⟩;rw[X.out];have f:=bn d y;obtain⟨d0,T,d2,d3⟩:=N.below hb f
      rw[Q]at T;clear O J K M d y Q;go_wp2_with fail;go_ret;exact⟨aD E.out,f⟩
    all_goals
     have X:Hid (az (L[k]).path.data.toList=0):=G;have S:Hid (bM L[k]=bi (L[k]).ver):=ae;clear ae G;go_wp2_with fail;refine(iW (L[k]).path _ F).mono ?_
     rintro e w1 ⟨rfl,y⟩;rw[X.out];have f:=bn d y;obtain⟨d0,T,d2,d3⟩:=N.below hb f
     rw[Q]at T;clear O J K M d y Q;go_wp2_with fail;refine(mC (L[k]).ver _).mono ?_
     rintro e w2 ⟨rfl,rfl⟩;cases hq:(bi (L[k]).ver==0)with
     |true=>
      have HR:=hid (show cK L=cK (L.drop (k+1))from HG.out (by rw[S.out];simpa using hq));clear hq;go_wp2_with fail;go_roundw
      case rel=>exact⟨k+1,by omega,by simp,HR,f⟩
      case measure=>simp[intOf];omega
     |false=>
      have E:=hid (show 3=aH L from by
       have U:bi (L[k]).ver≠0:=by simpa using hq
       have h3:bi (L[k]).ver=3:=by unfold bi at U⊢;split<;>simp_all
       rw[←HN.out (by rw[S.out];exact U),S.out,h3])
      clear hq;go_wp2_with fail;go_ret;exact⟨aD E.out,f⟩
  · have HX:=hid (show aH L=if dX L=true then fh L L else 4 from by
     have aL:cK L=0:=by rw[HQ.out,List.drop_eq_nil_of_le (by omega)];rfl
     rw[HT.out,if_pos aL])
    clear HQ HT;go_wp2_with fail;clear z hk;go_loopw [5] (fun i wr=> ∃m:Nat,m≤L.length∧i= .int .i64 ((m:Int)+1)∧Hid (∀i (h:i+1<L.length),i<m→Pp.lt L[i] L[i+1]=true)∧Below w.heap.size w wr) (fun i _=>L.length+2-(intOf i).toNat)
    case atStart=>exact⟨0,Nat.zero_le _,rfl,(fun i _ h=>absurd h (Nat.not_lt_zero _): ∀i (h:i+1<L.length),i<0→Pp.lt L[i] L[i+1]=true),d⟩
    case round=>
     clear d;obtain⟨m,hm,rfl,I,d⟩:=hrel
     by_cases z:m+1<L.length
     · obtain⟨b,o,rfl,hb,N⟩:=V.out m (by omega)
       obtain⟨O,J,K,M⟩:=N.below hb d
       obtain⟨b',o',I0,IB,I7⟩:=V.out (m+1) z
       obtain⟨rfl,rfl⟩:b=b'∧o=o':=by simpa using I0
       obtain⟨d0,T,d2,d3⟩:=I7.below hb d
       have Iw:(m:Int)+1<L.length:=by omega
       clear J K M T d2 d3 I0;cases hl:Pp.lt L[m] L[m+1]with
       |true=>
        have P:Op.bytesLess (L[m+1]).path.toList (L[m]).path.toList=false:=(Pp.lt_flip hl).1;have I8:((L[m+1]).path.toList==(L[m]).path.toList)=false:=(Pp.lt_flip hl).2;go_wp2_with fail;go_region
        go_wp2;go_roundw
        case rel=>exact⟨m+1,by omega,by simp,(fun i Y h2=>by
         by_cases e:i=m
         · subst e;exact hl
         · exact I.out i Y (by omega): ∀i (h:i+1<L.length),i<m+1→Pp.lt L[i] L[i+1]=true),d.drew⟩
        case measure=>simp[intOf];omega
       |false=>
        have E:=hid (show 4=aH L from by rw[HX.out,←ur z hl];rfl);rcases Ed hl with P|⟨P,I8⟩
        · have I9:Op.bytesLess (L[m+1]).path.toList (L[m]).path.toList=true:=P
          go_wp2_with fail;go_region
          go_wp2;go_ret;exact⟨aD E.out,d.drew⟩
        · have I9:Op.bytesLess (L[m+1]).path.toList (L[m]).path.toList=false:=P
          go_wp2_with fail;go_region
          go_wp2;go_ret;exact⟨aD E.out,d.drew⟩
     · have HY:=hid (show aH L=fh L L from by rw[HX.out,←uu fun i h=>I.out i h (by omega)];rfl)
       clear HX I;go_wp2_with fail;clear z hm;go_loopw [6] (fun i wr=> ∃k:Nat,k≤L.length∧i= .int .i64 k∧Hid (∀j (h:j<L.length),j<k→bw L L[j]≠5)∧Below w.heap.size w wr) (fun i _=>L.length-(intOf i).toNat)
       case atStart=>exact⟨0,Nat.zero_le _,rfl,(fun j _ h=>absurd h (Nat.not_lt_zero _): ∀j (h:j<L.length),j<0→bw L L[j]≠5),d⟩
       case round=>
        clear d;obtain⟨k,hk,rfl,I,d⟩:=hrel
        by_cases z:k<L.length
        · obtain⟨b,o,rfl,hb,N⟩:=V.out k z
          obtain⟨O,J,K,M⟩:=N.below hb d
          have F:=HS.out L[k] (List.getElem_mem z);go_wp2_with fail;refine(gB (L[k]).path _ F).mono ?_
          rintro e w1 ⟨rfl,y⟩;have f:=bn d y;clear O J K M d y;go_wp2_with fail;refine(gD L _ ⟨(aC (L[k]).path.data.toList).toArray⟩ _ (HV.out.below f)).mono ?_
          rintro e w2 ⟨rfl,H⟩;have A:=bn f H;clear f H;rw[show aP L _=bw L L[k]from rfl];by_cases Z:bw L L[k]=5
          · have H5:Hid (bw L L[k]=5):=Z
            have E:=hid (show 5=aH L from by rw[HY.out];exact uq z Z);clear Z;rw[H5.out];go_wp2_with fail;go_ret;exact⟨aD E.out,A⟩
          · have Iz:(bw L L[k]==5)=false:=by simpa using Z
            go_wp2_with fail;go_roundw
            case rel=>exact⟨k+1,by omega,by simp,(fun j Y h2=>by
             by_cases e:j=k
             · subst e;exact Z
             · exact I.out j Y (by omega): ∀j (h:j<L.length),j<k+1→bw L L[j]≠5),A⟩
            case measure=>simp[intOf];omega
        · have H5:=hid (show∀j (h:j<L.length),bw L L[j]≠5 from fun j h=>I.out j h (by omega))
          clear I;go_wp2_with fail;clear z hk;go_loopw [7] (fun i wr=> ∃k:Nat,k≤L.length∧i= .int .i64 k∧Hid (∀j (h:j<L.length),j<k→bw L L[j]=0)∧Below w.heap.size w wr) (fun i _=>L.length-(intOf i).toNat)
          case atStart=>exact⟨0,Nat.zero_le _,rfl,(fun j _ h=>absurd h (Nat.not_lt_zero _): ∀j (h:j<L.length),j<0→bw L L[j]=0),d⟩
          case round=>
           clear d;obtain⟨k,hk,rfl,I,d⟩:=hrel
           by_cases z:k<L.length
           · obtain⟨b,o,rfl,hb,N⟩:=V.out k z
             obtain⟨O,J,K,M⟩:=N.below hb d
             have F:=HS.out L[k] (List.getElem_mem z);go_wp2_with fail;refine(gB (L[k]).path _ F).mono ?_
             rintro e w1 ⟨rfl,y⟩;have f:=bn d y;clear O J K M d y;go_wp2_with fail;refine(gD L _ ⟨(aC (L[k]).path.data.toList).toArray⟩ _ (HV.out.below f)).mono ?_
             rintro e w2 ⟨rfl,H⟩;have A:=bn f H;clear f H;rw[show aP L _=bw L L[k]from rfl];by_cases U:bw L L[k]=0
             · have H0:Hid (bw L L[k]=0):=U
               clear U;rw[H0.out];go_wp2_with fail;go_roundw
               case rel=>exact⟨k+1,by omega,by simp,(fun j Y h2=>by
                by_cases e:j=k
                · subst e;exact H0.out
                · exact I.out j Y (by omega): ∀j (h:j<L.length),j<k+1→bw L L[j]=0),A⟩
               case measure=>simp[intOf];omega
             · have Iy:(bw L L[k]==0)=false:=by simpa using U
               have E:=hid (show 4=aH L from by rw[HY.out];exact Eb z H5.out U);go_wp2_with fail;go_ret;exact⟨aD E.out,A⟩
           · have E:=hid (show 0=aH L from by rw[HY.out];exact Ec (fun j h=>I.out j h (by omega)))
             go_wp2_with fail;go_ret;exact⟨aD E.out,d⟩
end Go.Proofs.YtcmlnelpcjfocaaGreatDoor
