/- What the reference's CheckTree answers, for every tree. -/
import Derived.Test.YtgamnckfmmbjdaaGreatDoorWGQ
set_option linter.unusedSimpArgs false
set_option linter.unusedVariables false
namespace Go.Proofs.YtgamnckfmmbjdaaGreatDoor
open Go.RowKit Go.Proofs.Tryz
set_option maxHeartbeats 2000000
theorem xQ (e:En):
    (¬al e.path.data.toList=0∧bi e=al e.path.data.toList)∨
    (al e.path.data.toList=0∧e.folder=true∧e.text.toList.isEmpty=false∧bi e=1)∨
    (al e.path.data.toList=0∧e.folder=false∧300<(e.text.size:Int)∧bi e=2)∨
    (al e.path.data.toList=0∧e.folder=true∧e.text.toList.isEmpty=true∧(e.text.size:Int)≤300∧bi e=aM e.ver)∨
    (al e.path.data.toList=0∧e.folder=false∧(e.text.size:Int)≤300∧bi e=aM e.ver):=by
 by_cases a:al e.path.data.toList=0
 · refine Or.inr ?_
   have ae:bi e=if e.folder=true∧ ¬e.text.data.toList=[]then 1 else if 300<e.text.size then 2 else aM e.ver:=by rw[bi,if_pos a]
   cases f:e.folder with
   |true=>
    cases d:e.text.toList.isEmpty with
    |false=>exact Or.inl ⟨a,rfl,rfl,by rw[ae,if_pos ⟨f,is d⟩]⟩
    |true=>
     have o:e.text.size=0:=by rw[Lib.size_eq,(fL e.text).1 d];rfl
     exact Or.inr (Or.inr (Or.inl ⟨a,rfl,rfl,by omega,by rw[ae,if_neg (fun h=>h.2 ((fL e.text).1 d)),if_neg (by omega)]⟩))
   |false=>
    by_cases j:300<e.text.size
    · exact Or.inr (Or.inl ⟨a,rfl,by omega,by rw[ae,f,if_neg (fun h=>by cases h.1),if_pos j]⟩)
    · exact Or.inr (Or.inr (Or.inr ⟨a,rfl,by omega,by rw[ae,f,if_neg (fun h=>by cases h.1),if_neg j]⟩))
 · exact Or.inl ⟨a,by rw[bi,if_neg a]⟩
theorem xR {L:List En} {k:Nat} (d:k<L.length) (h: ∀j (h:j<L.length),aW L L[j]≠5) (z:aW L L[k]≠0):4=dC L L:=by
 have f:aW L L[k]=4:=by
  rcases mA L (ax (L[k]).path.data.toList)with a|a|a
  · exact absurd a z
  · exact a
  · exact absurd a (h k d)
 have E: ¬L.any (fun e=>aW L e==5)=true:=by
  intro o;obtain⟨x,A,u⟩:=List.any_eq_true.1 o
  obtain⟨j,y,rfl⟩:=List.getElem_of_mem A
  exact h j y (by simpa using u)
 have F:L.any (fun e=>aW L e==4)=true:=List.any_eq_true.2 ⟨L[k],List.getElem_mem d,by simp[f]⟩;rw[dC,if_neg E,if_pos F]
theorem xS {L:List En} (h: ∀j (h:j<L.length),aW L L[j]=0):0=dC L L:=by
 have n: ∀c:Int,c≠0→ ¬L.any (fun e=>aW L e==c)=true:=by
  intro c f d;obtain⟨x,u,a⟩:=List.any_eq_true.1 d
  obtain⟨j,o,rfl⟩:=List.getElem_of_mem u
  rw[h j o]at a;exact f (by simpa using a:(0:Int)=c).symm
 rw[dC,if_neg (n 5 (by decide)),if_neg (n 4 (by decide))]
theorem Pp.lt_flip {x y:En} (h:Pp.lt x y=true):Pp.lt y x=false∧(y.path.toList==x.path.toList)=false:=by
 constructor
 · cases d:Pp.lt y x with
   |false=>rfl
   |true=>
    have:=fu _ _ _ h d
    rw[ft]at this;cases this
 · rw[beq_eq_false_iff_ne]
   intro e;have a:Pp.lt x y=Pp.lt x x:=by rw[Pp.lt,Pp.lt,e]
   rw[a,ft]at h;cases h
theorem xT {x y:En} (h:Pp.lt x y=false):Pp.lt y x=true∨(Pp.lt y x=false∧(y.path.toList==x.path.toList)=true):=by
 cases a:Pp.lt y x with
 |true=>exact Or.inl rfl
 |false=>
  refine Or.inr ⟨rfl,?_⟩
  rw[Lib.toList_data,Lib.toList_data,jq a h];simp
theorem od {n:Int}:aM n=0↔1≤n∧n≤1000000:=by
 unfold aM;split<;>omega
theorem jE (n:Int) (w:World):
    Calls prog 79 #[.int .i64 n] w fun e w'=>e= .returned (.bool (aM n==0))∧w'=w:=by
 by_cases d:1≤n
 · by_cases f:n≤1000000
   · have a:=hid (show true=(aM n==0)from by rw[od.2 ⟨d,f⟩];rfl)
     go_enter func79,ntmps79
     go_wp2;go_ret;exact⟨aV a.out,rfl⟩
   · have a:=hid (show false=(aM n==0)from by symm;rw[beq_eq_false_iff_ne];exact fun h=>f (od.1 h).2)
     go_enter func79,ntmps79
     go_wp2;go_ret;exact⟨aV a.out,rfl⟩
 · have a:=hid (show false=(aM n==0)from by symm;rw[beq_eq_false_iff_ne];exact fun h=>d (od.1 h).1)
   go_enter func79,ntmps79
   go_wp2;go_ret;exact⟨aV a.out,rfl⟩
theorem jF (L:List En) (v:Value) (w:World) (hv:aj w v L) (hs: ∀e∈L,e.path.size≤1000000000):
    Calls prog 35 #[v] w fun e w'=>e= .returned (.int .i64 (aA L))∧Below w.heap.size w w':=by
 have HV:Hid (aj w v L):=hv;have HS:Hid (∀e∈L,e.path.size≤1000000000):=hs;obtain⟨a,CC,rfl,C8,C4,hL⟩:=hv
 have U:Hid (∀i (h:i<L.length),∃b o,a=some ⟨b,o,none⟩∧b<w.heap.size∧cM w b (o+i*4) L[i]):=hL;clear hL hs;by_cases CF:60<(L.length:Int)
 · have A:=hid (show 2=aA L from by rw[aA,if_pos (by omega)])
   go_enter func35,ntmps35
   go_wp2_with fail;go_ret;exact⟨an A.out,Below.refl _ _⟩
 have HT:=hid (show aA L=if bH L=0 then(if cW L=true then dC L L else 4)else bH L from by rw[aA,if_neg (by omega)]);go_enter func35,ntmps35
 go_wp2_with fail;go_loopw [3] (fun i wr=> ∃k:Nat,k≤L.length∧i= .int .i64 k∧Hid (bH L=bH (L.drop k))∧Below w.heap.size w wr) (fun i _=>L.length-(intOf i).toNat)
 case atStart=>exact⟨0,Nat.zero_le _,rfl,(rfl:bH L=bH (L.drop 0)),Below.refl _ _⟩
 case round=>
  obtain⟨k,hk,rfl,HQ,d⟩:=hrel
  by_cases y:k<L.length
  · obtain⟨b,o,rfl,hb,M⟩:=U.out k y
    obtain⟨N,I,J,K⟩:=M.below hb d
    have HD:Hid (L.drop k=L[k]::L.drop (k+1)):=List.drop_eq_getElem_cons y;have E:=HS.out L[k] (List.getElem_mem y)
    have HN := hid (show bi L[k] ≠ 0 → bi L[k] = aA L from fun F => by
        have ay:bH L=bi L[k]:=by rw[HQ.out,HD.out,bH,if_neg F]
        rw[HT.out,if_neg (by rw[ay];exact F),ay])
    have HG:=hid (show bi L[k]=0→bH L=bH (L.drop (k+1))from fun F=>by rw[HQ.out,HD.out,bH,if_pos F]);rcases xQ L[k]with⟨F,ae⟩|⟨F,P,hc,ae⟩|⟨F,P,hc,ae⟩|⟨F,P,hc,C3,ae⟩|⟨F,P,C3,ae⟩
    · have A:=hid (show al (L[k]).path.data.toList=aA L from by rw[←ae];exact HN.out (by rw[ae];exact F))
      have CH:(al (L[k]).path.data.toList==0)=false:=by simpa using F
      clear ae;go_wp2_with fail;refine(fT (L[k]).path _ E).mono ?_
      rintro e w1 ⟨rfl,u⟩;have f:=bj d u;clear N I J K d u;go_wp2_with fail;go_ret;exact⟨an A.out,f⟩
    · have A:=hid (show 1=aA L from by rw[←HN.out (by rw[ae];decide),ae])
      have V:Hid (al (L[k]).path.data.toList=0):=F;clear ae F;go_wp2_with fail;refine(fT (L[k]).path _ E).mono ?_
      rintro e w1 ⟨rfl,u⟩;rw[V.out];have f:=bj d u;obtain⟨d0,S,d2,d3⟩:=M.below hb f
      rw[P]at S;clear N I J K d u P;go_wp2_with fail;go_ret;exact⟨an A.out,f⟩
    · have A:=hid (show 2=aA L from by rw[←HN.out (by rw[ae];decide),ae])
      have V:Hid (al (L[k]).path.data.toList=0):=F;clear ae F;go_wp2_with fail;refine(fT (L[k]).path _ E).mono ?_
      rintro e w1 ⟨rfl,u⟩;rw[V.out];have f:=bj d u;obtain⟨d0,S,d2,d3⟩:=M.below hb f
      rw[P]at S;clear N I J K d u P;go_wp2_with fail;go_ret;exact⟨an A.out,f⟩
    all_goals
     have V:Hid (al (L[k]).path.data.toList=0):=F;have Q:Hid (bi L[k]=aM (L[k]).ver):=ae;clear ae F;go_wp2_with fail;refine(fT (L[k]).path _ E).mono ?_
     rintro e w1 ⟨rfl,u⟩;rw[V.out];have f:=bj d u;obtain⟨d0,S,d2,d3⟩:=M.below hb f
     rw[P]at S;clear N I J K d u P;go_wp2_with fail;refine(jE (L[k]).ver _).mono ?_
     rintro e w2 ⟨rfl,rfl⟩;cases hq:(aM (L[k]).ver==0)with
     |true=>
      have HR:=hid (show bH L=bH (L.drop (k+1))from HG.out (by rw[Q.out];simpa using hq));clear hq;go_wp2_with fail;go_roundw
      case rel=>exact⟨k+1,by omega,by simp,HR,f⟩
      case measure=>simp[intOf];omega
     |false=>
      have A:=hid (show 3=aA L from by
       have T:aM (L[k]).ver≠0:=by simpa using hq
       have h3:aM (L[k]).ver=3:=by unfold aM at T⊢;split<;>simp_all
       rw[←HN.out (by rw[Q.out];exact T),Q.out,h3])
      clear hq;go_wp2_with fail;go_ret;exact⟨an A.out,f⟩
  · have HX:=hid (show aA L=if cW L=true then dC L L else 4 from by
     have aP:bH L=0:=by rw[HQ.out,List.drop_eq_nil_of_le (by omega)];rfl
     rw[HT.out,if_pos aP])
    clear HQ HT;go_wp2_with fail;clear y hk;go_loopw [5] (fun i wr=> ∃m:Nat,m≤L.length∧i= .int .i64 ((m:Int)+1)∧Hid (∀i (h:i+1<L.length),i<m→Pp.lt L[i] L[i+1]=true)∧Below w.heap.size w wr) (fun i _=>L.length+2-(intOf i).toNat)
    case atStart=>exact⟨0,Nat.zero_le _,rfl,(fun i _ h=>absurd h (Nat.not_lt_zero _): ∀i (h:i+1<L.length),i<0→Pp.lt L[i] L[i+1]=true),d⟩
    case round=>
     clear d;obtain⟨m,hm,rfl,H,d⟩:=hrel
     by_cases y:m+1<L.length
     · obtain⟨b,o,rfl,hb,M⟩:=U.out m (by omega)
       obtain⟨N,I,J,K⟩:=M.below hb d
       obtain⟨b',o',Z,CG,C5⟩:=U.out (m+1) y
       obtain⟨rfl,rfl⟩:b=b'∧o=o':=by simpa using Z
       obtain⟨d0,S,d2,d3⟩:=C5.below hb d
       have C9:(m:Int)+1<L.length:=by omega
       clear I J K S d2 d3 Z;cases hl:Pp.lt L[m] L[m+1]with
       |true=>
        have O:Op.bytesLess (L[m+1]).path.toList (L[m]).path.toList=false:=(Pp.lt_flip hl).1;have C6:((L[m+1]).path.toList==(L[m]).path.toList)=false:=(Pp.lt_flip hl).2;go_wp2_with fail;go_region
        go_wp2;go_roundw
        case rel=>exact⟨m+1,by omega,by simp,(fun i X h2=>by
         by_cases e:i=m
         · subst e;exact hl
         · exact H.out i X (by omega): ∀i (h:i+1<L.length),i<m+1→Pp.lt L[i] L[i+1]=true),d.drew⟩
        case measure=>simp[intOf];omega
       |false=>
        have A:=hid (show 4=aA L from by rw[HX.out,←pC y hl];rfl);rcases xT hl with O|⟨O,C6⟩
        · have C7:Op.bytesLess (L[m+1]).path.toList (L[m]).path.toList=true:=O
          go_wp2_with fail;go_region
          go_wp2;go_ret;exact⟨an A.out,d.drew⟩
        · have C7:Op.bytesLess (L[m+1]).path.toList (L[m]).path.toList=false:=O
          go_wp2_with fail;go_region
          go_wp2;go_ret;exact⟨an A.out,d.drew⟩
     · have HY:=hid (show aA L=dC L L from by rw[HX.out,←pD fun i h=>H.out i h (by omega)];rfl)
       clear HX H;go_wp2_with fail;clear y hm;go_loopw [6] (fun i wr=> ∃k:Nat,k≤L.length∧i= .int .i64 k∧Hid (∀j (h:j<L.length),j<k→aW L L[j]≠5)∧Below w.heap.size w wr) (fun i _=>L.length-(intOf i).toNat)
       case atStart=>exact⟨0,Nat.zero_le _,rfl,(fun j _ h=>absurd h (Nat.not_lt_zero _): ∀j (h:j<L.length),j<0→aW L L[j]≠5),d⟩
       case round=>
        clear d;obtain⟨k,hk,rfl,H,d⟩:=hrel
        by_cases y:k<L.length
        · obtain⟨b,o,rfl,hb,M⟩:=U.out k y
          obtain⟨N,I,J,K⟩:=M.below hb d
          have E:=HS.out L[k] (List.getElem_mem y);go_wp2_with fail;refine(ex (L[k]).path _ E).mono ?_
          rintro e w1 ⟨rfl,u⟩;have f:=bj d u;clear N I J K d u;go_wp2_with fail;refine(ez L _ ⟨(ax (L[k]).path.data.toList).toArray⟩ _ (HV.out.below f)).mono ?_
          rintro e w2 ⟨rfl,G⟩;have z:=bj f G;clear f G;rw[show aB L _=aW L L[k]from rfl];by_cases Y:aW L L[k]=5
          · have H5:Hid (aW L L[k]=5):=Y
            have A:=hid (show 5=aA L from by rw[HY.out];exact pA y Y);clear Y;rw[H5.out];go_wp2_with fail;go_ret;exact⟨an A.out,z⟩
          · have CE:(aW L L[k]==5)=false:=by simpa using Y
            go_wp2_with fail;go_roundw
            case rel=>exact⟨k+1,by omega,by simp,(fun j X h2=>by
             by_cases e:j=k
             · subst e;exact Y
             · exact H.out j X (by omega): ∀j (h:j<L.length),j<k+1→aW L L[j]≠5),z⟩
            case measure=>simp[intOf];omega
        · have H5:=hid (show∀j (h:j<L.length),aW L L[j]≠5 from fun j h=>H.out j h (by omega))
          clear H;go_wp2_with fail;clear y hk;go_loopw [7] (fun i wr=> ∃k:Nat,k≤L.length∧i= .int .i64 k∧Hid (∀j (h:j<L.length),j<k→aW L L[j]=0)∧Below w.heap.size w wr) (fun i _=>L.length-(intOf i).toNat)
          case atStart=>exact⟨0,Nat.zero_le _,rfl,(fun j _ h=>absurd h (Nat.not_lt_zero _): ∀j (h:j<L.length),j<0→aW L L[j]=0),d⟩
          case round=>
           clear d;obtain⟨k,hk,rfl,H,d⟩:=hrel
           by_cases y:k<L.length
           · obtain⟨b,o,rfl,hb,M⟩:=U.out k y
             obtain⟨N,I,J,K⟩:=M.below hb d
             have E:=HS.out L[k] (List.getElem_mem y);go_wp2_with fail;refine(ex (L[k]).path _ E).mono ?_
             rintro e w1 ⟨rfl,u⟩;have f:=bj d u;clear N I J K d u;go_wp2_with fail;refine(ez L _ ⟨(ax (L[k]).path.data.toList).toArray⟩ _ (HV.out.below f)).mono ?_
             rintro e w2 ⟨rfl,G⟩;have z:=bj f G;clear f G;rw[show aB L _=aW L L[k]from rfl];by_cases T:aW L L[k]=0
             · have H0:Hid (aW L L[k]=0):=T
               clear T;rw[H0.out];go_wp2_with fail;go_roundw
               case rel=>exact⟨k+1,by omega,by simp,(fun j X h2=>by
                by_cases e:j=k
                · subst e;exact H0.out
                · exact H.out j X (by omega): ∀j (h:j<L.length),j<k+1→aW L L[j]=0),z⟩
               case measure=>simp[intOf];omega
             · have CD:(aW L L[k]==0)=false:=by simpa using T
               have A:=hid (show 4=aA L from by rw[HY.out];exact xR y H5.out T);go_wp2_with fail;go_ret;exact⟨an A.out,z⟩
           · have A:=hid (show 0=aA L from by rw[HY.out];exact xS (fun j h=>H.out j h (by omega)))
             go_wp2_with fail;go_ret;exact⟨an A.out,d⟩
end Go.Proofs.YtgamnckfmmbjdaaGreatDoor
