/- Who works out what parts a tree from another one has that one, as plain mathematics. -/
import Derived.Test.YtagibnejodgeeaaGreatDoorRUH
import Derived.Test.YtagibnejodgeeaaGreatDoorRUE
import Derived.Test.YtagibnejodgeeaaGreatDoorRUF
import Derived.Test.YtagibnejodgeeaaGreatDoorProg
import Derived.WalkKit
import Derived.Carry
import Derived.Test.YtagibnejodgeeaaGreatDoorRUA
import Derived.Test.YtagibnejodgeeaaGreatDoorRUB
import Derived.Maps.OwnSet
import Derived.Test.YtagibnejodgeeaaGreatDoorRUC
import Derived.Test.YtagibnejodgeeaaGreatDoorRUG
set_option linter.unusedSimpArgs false
set_option linter.unusedVariables false
namespace Go.Proofs.YtagibnejodgeeaaGreatDoor
open Go.RowKit

namespace Sp
theorem len_le {α:Type} [DecidableEq α]: ∀{l M:List α},l.Nodup→(∀x∈l,x∈M)→l.length≤M.length
 |[],M,_,_=>Nat.zero_le _
 |a::r,M,hn,hs=>by
  rw[List.nodup_cons]at hn;have ha:=hs a (by simp);have h1:r.length≤(M.erase a).length:=len_le hn.2 fun x hx=>(List.mem_erase_of_ne (by rintro rfl;exact hn.1 hx)).2 (hs x (by simp[hx]))
  have h2:=List.length_erase_of_mem ha;have h3:0<M.length:=List.length_pos_of_mem ha;rw[List.length_cons];omega
theorem del_chg {e:En} (h:Pp.chk e.path.data.toList=0):Pp.chgE (delC e)=0:=by
 rw[delC,Pp.chgE,if_neg (show¬((4:Int)<1∨4<(4:Int)) by decide),if_neg (fun x=>x h),if_neg (fun x=>absurd (show(4:Int)=3 from x.1) (by decide)),if_neg (by simp),if_neg (show¬300<(⟨#[]⟩:ByteArray).size by decide),if_neg (show¬((-1:Int)< -1∨1000000<(-1:Int)) by decide)]
theorem stl_any {L:List En} {c:Pp.Ch} (h:c.b= -1):Pp.stl L c=false:=by rw[Pp.stl,h];rfl
theorem del_app {L:List En} (hL:Pp.Good L) {e:En} (he:e∈L) {n:Int} (hv:Pp.verE n=0):Pp.appE L (delC e) n=0∧Pp.chdR L (delC e) n=L.filter (fun x=> !Pp.wi e.path.data.toList x):=by
 have h1:=del_chg (Pp.entE_path (hL.ents e he))
 have h2:Pp.plcE L (delC e)=0:=by
  have hg:Pp.goal (delC e)=e.path.data.toList:=rfl;rw[Pp.plcE,hg,if_neg (fun x=>x (hL.pars e he))];show(match L.find? (Pp.atB e.path.data.toList)with|none=>_|some x=>_)=_
  rw[Pp.sorted_find hL.rise he];rfl
 refine⟨?_,rfl⟩
 rw[Pp.appE,if_neg (fun x=>x hv),if_neg (fun x=>x h1),if_neg (fun x=>x h2),if_neg (by rw[stl_any rfl];decide)];rfl
theorem runs_dels {A B:List En} (hA:Pp.Good A) (hB:Pp.Good B) {n:Int} (hv:Pp.verE n=0): ∀k,k≤A.length→Pp.Runs n A (dels (A.take k) B) (stay A B k):=by
 intro k;induction k with
 |zero=>intro _;rw[stay_zero];exact Pp.runs_nil n A
 |succ k ih=>
  intro hk;have hlt:k<A.length:=by omega
  cases hg:goes B A[k]with
  |false=>rw[dels_miss hlt hg,stay_miss hlt hg];exact ih (by omega)
  |true=>
   have hm:A[k]∈stay A B k:=(stay_mem hA hB hlt).2 (by
    rw[goes]at hg;exact(Bool.and_eq_true_iff.1 hg).2)
   obtain⟨h1,h2⟩:=del_app (stay_good (B:=B) hA k) hm hv
   rw[dels_hit hlt hg,stay_hit hlt hg,←h2];exact Pp.runs_snoc h1 (ih (by omega))
/-- What stays is at a path of the other tree, and of its kind. -/
theorem stay_in {A B:List En} (hA:Pp.Good A) (hB:Pp.Good B) {t:En} (ht:t∈stay A B A.length): ∃b∈B,b.path.data.toList=t.path.data.toList∧b.folder=t.folder:=by
 obtain⟨h1,h2⟩:=List.mem_filter.1 ht
 rw[List.take_length]at h2;have hno:inB (A.filter (goes B)) t=false:=by simpa using h2
 have hg:goes B t=false:=by
  cases hg:goes B t with
  |false=>rfl
  |true=>
   have:=inB_iff.2 ⟨t,List.mem_filter.2 ⟨h1,hg⟩,Pp.isIn_refl _⟩
   rw[hno]at this;cases this
 obtain⟨i,hi,rfl⟩:=List.getElem_of_mem h1
 have hp:hasP B A[i].path.data.toList=true:=by
  cases hp:hasP B A[i].path.data.toList with
  |true=>rfl
  |false=>
   have h3:=gone hA hB hi;rw[hp,Bool.not_false]at h3;obtain⟨d,hd,hdi⟩:=inB_iff.1 h3
   obtain⟨hd1,hd2⟩:=List.mem_filter.1 hd
   have:=inB_iff.2 ⟨d,List.mem_filter.2 ⟨List.mem_of_mem_take hd1,hd2⟩,hdi⟩
   rw[hno]at this;cases this
 rw[goes_eq hp]at hg;have hw:wh A[i]=wAt B A[i].path.data.toList:=by simpa using hg
 obtain⟨x,_,hx,hxp,hxf⟩:=wAt_some hw
 exact⟨x,hx,hxp,hxf⟩
/-- How it stands behind the first makes. -/
structure Mid (A B:List En) (n:Int) (m:Nat) (T:List En):Prop where
 runs:Pp.Runs n A (dels A B++mks A (B.take m)) T
 good:Pp.Good T
 kin: ∀t∈T,∃b∈B,b.path.data.toList=t.path.data.toList∧b.folder=t.folder
 done: ∀j (h:j<B.length),j<m→ ∃t∈T,likeE t B[j]=true
 rest: ∀j (h:j<B.length),m≤j→ ∀x:En,x.path.data.toList=B[j].path.data.toList→(x∈T↔x∈stay A B A.length)
theorem mid_zero {A B:List En} (hA:Pp.Good A) (hB:Pp.Good B) {n:Int} (hv:Pp.verE n=0):Mid A B n 0 (stay A B A.length):=by
 refine⟨?_,stay_good hA _,fun t ht=>stay_in hA hB ht,fun j _ h=>absurd h (Nat.not_lt_zero _),fun _ _ _ _ _=>Iff.rfl⟩
 have h:=runs_dels hA hB hv A.length (Nat.le_refl _);rw[List.take_length]at h;have e:mks A (B.take 0)=[]:=rfl;rw[e,List.append_nil];exact h
theorem mk_chg {b:En} (h:Pp.entE b=0):Pp.chgE (mkC b)=0:=by
 have hc:=Pp.entE_path h
 have h300:b.text.size≤300:=by
  rw[Pp.entE,if_pos hc]at h;split at h
  · cases h
  · split at h
    · cases h
    · omega
 rw[mkC];by_cases hf:b.folder=true
 · rw[if_pos hf,Pp.chgE,if_neg (show¬((1:Int)<1∨4<(1:Int)) by decide),if_neg (fun x=>x hc),if_neg (fun x=>absurd (show(1:Int)=3 from x.1) (by decide)),if_neg (by simp),if_neg (show¬300<(⟨#[]⟩:ByteArray).size by decide),if_neg (show¬((-1:Int)< -1∨1000000<(-1:Int)) by decide)]
 · rw[if_neg hf,Pp.chgE,if_neg (show¬((2:Int)<1∨4<(2:Int)) by decide),if_neg (fun x=>x hc),if_neg (fun x=>absurd (show(2:Int)=3 from x.1) (by decide)),if_neg (by simp),if_neg (show¬300<b.text.size by omega),if_neg (show¬((-1:Int)< -1∨1000000<(-1:Int)) by decide)]
theorem mkC_p (b:En):(mkC b).p=b.path:=by rw[mkC];split<;>rfl
theorem mkC_b (b:En):(mkC b).b= -1:=by rw[mkC];split<;>rfl
theorem mkC_k (b:En):(b.folder=true∧(mkC b).k=1)∨(b.folder=false∧(mkC b).k=2):=by
 rw[mkC];cases b.folder<;>simp
theorem new_like {b:En} (h:Pp.entE b=0) (n:Int):likeE (Pp.newE (mkC b) n) b=true∧(Pp.newE (mkC b) n).path.data.toList=b.path.data.toList∧(Pp.newE (mkC b) n).folder=b.folder:=by
 have h1:(Pp.newE (mkC b) n).folder=b.folder:=by
  rcases mkC_k b with⟨e1,e2⟩|⟨e1,e2⟩
  · show decide ((mkC b).k=1)=_;rw[e1,e2];rfl
  · show decide ((mkC b).k=1)=_;rw[e1,e2];rfl
 have h2:(Pp.newE (mkC b) n).path=b.path:=mkC_p b
 have h3:(Pp.newE (mkC b) n).text=b.text:=by
  show(mkC b).t=_
  rw[mkC_good h]
 exact⟨likeE_iff.2 ⟨by rw[h2],h1,by rw[h3]⟩,by rw[h2],h1⟩
theorem mid_next {A B:List En} (hA:Pp.Good A) (hB:Pp.Good B) {n:Int} (hv:Pp.verE n=0) {m:Nat} (hm:m<B.length) {T:List En} (h:Mid A B n m T): ∃T',Mid A B n (m+1) T':=by
 have hb:B[m]∈B:=List.getElem_mem hm;obtain⟨s1,s2⟩:=stay_at hA hB hb
 have aS:=apart_rise (stay_good (B:=B) hA A.length).rise;have aB:=apart_rise hB.rise
 have apj: ∀j (hj:j<B.length),j≠m→B[j].path.data.toList≠B[m].path.data.toList:=fun j hj hne e=>by
  have:=aB
  rw[Apart,List.pairwise_iff_getElem]at this;rcases Nat.lt_or_gt_of_ne hne with h1|h1
  · exact this j m hj hm h1 e
  · exact this m j hm hj h1 e.symm
 cases hn:newB A B[m]with
 |false=>
  refine⟨T,by rw[mks_miss hm hn];exact h.runs,h.good,h.kin,fun j hj hjm=>?_,fun j hj hjm=>h.rest j hj (by omega)⟩
  by_cases e:j=m
  · subst e
    cases hs:at_ (stay A B A.length) B[j].path.data.toList with
    |none=>rw[newB_none (s2 hs)]at hn;cases hn
    |some x=>
     obtain⟨h1,h2⟩:=s1 x hs
     obtain⟨h3,h4⟩:=at_mem hs
     rw[newB_some h1 h2]at hn;refine⟨x,(h.rest j hj (Nat.le_refl _) x h4).2 h3,likeE_iff.2 ⟨h4,h2,?_⟩⟩
     cases hf:B[j].folder with
     |true=>rw[entE_text (hA.ents x (at_mem h1).1) (h2.trans hf),entE_text (hB.ents _ hb) hf]
     |false=>
      rw[hf]at hn;have:x.text.toList=B[j].text.toList:=by simpa using hn
      rwa [Lib.toList_data,Lib.toList_data]at this
  · exact h.done j hj (by omega)
 |true=>
  obtain⟨l1,l2,l3⟩:=new_like (hB.ents _ hb) n
  -- what is there
  have hat: ∀x,x∈T→x.path.data.toList=B[m].path.data.toList→x.folder=B[m].folder∧B[m].folder=false:=fun x hx hxp=>by
   have h1:=(h.rest m hm (Nat.le_refl _) x hxp).1 hx;have h2:=at_self aS h1;rw[hxp]at h2;obtain⟨h3,h4⟩:=s1 x h2
   rw[newB_some h3 h4]at hn;refine⟨h4,?_⟩
   cases hf:B[m].folder with
   |false=>rfl
   |true=>rw[hf]at hn;simp at hn
  have hchg:=mk_chg (hB.ents _ hb)
  have hgoal:Pp.goal (mkC B[m])=B[m].path.data.toList:=by
   rw[Pp.goal,if_neg (by rcases mkC_k B[m]with⟨_,e⟩|⟨_,e⟩<;>rw[e]<;>decide),mkC_p]
  have hfold:Pp.foldE T (Pp.par B[m].path.data.toList)=0:=by
   by_cases hp:Pp.par B[m].path.data.toList=[]
   · rw[hp];exact Pp.fold_nil _
   · obtain⟨x,hx,hxp,hxf,_⟩:=Pp.fold_zero (hB.pars _ hb) hp
     have hin:Pp.isInB B[m].path.data.toList x.path.data.toList=true:=by
      rw[hxp];exact Pp.par_in (Pp.isIn_refl _) hp
     have hne:B[m].path.data.toList≠x.path.data.toList:=fun e=>by
      have h1:=par_lt hp;rw[←hxp,←e]at h1;omega
     have hxt:=mem_take hm hB.rise hx (lt_in hin hne);obtain⟨j,hj,rfl⟩:=List.mem_take_iff_getElem.1 hxt
     obtain⟨t,ht,hl⟩:=h.done j (by omega) (by omega)
     obtain⟨k1,k2,_⟩:=likeE_iff.1 hl
     exact Pp.fold_mem h.good.rise ht (k1.trans hxp) (k2.trans hxf)
  have hplc:Pp.plcE T (mkC B[m])=0:=by
   rw[Pp.plcE,hgoal,if_neg (fun x=>x hfold),mkC_p];cases hf:T.find? (Pp.atB B[m].path.data.toList)with
   |none=>
    simp only;rw[if_neg (by rcases mkC_k B[m]with⟨_,e⟩|⟨_,e⟩<;>rw[e]<;>decide)]
   |some x=>
    obtain⟨k1,k2⟩:=at_mem (L:=T) hf
    obtain⟨k3,k4⟩:=hat x k1 k2
    rcases mkC_k B[m]with⟨e,_⟩|⟨_,e⟩
    · rw[k4]at e;cases e
    · simp only
      rw[e,if_neg (by decide),if_pos rfl,if_neg (by rw[k3,k4];decide)]
  have hk12:(mkC B[m]).k=1∨(mkC B[m]).k=2:=by rcases mkC_k B[m]with⟨_,e⟩|⟨_,e⟩<;>simp[e]
  have hroom: ¬60<(Pp.outE (Pp.newE (mkC B[m]) n) T).length+1:=by
   have hle:(B[m].path.data.toList::(Pp.outE (Pp.newE (mkC B[m]) n) T).map (fun e=>e.path.data.toList)).length≤(B.map (fun e=>e.path.data.toList)).length:=by
    refine len_le ?_ ?_
    · rw[List.nodup_cons]
      refine⟨fun hmem=>?_,?_⟩
      · obtain⟨y,hy,hyp⟩:=List.mem_map.1 hmem
        exact(Pp.mem_outE.1 hy).2 (hyp.trans l2.symm)
      · have:=(apart_rise h.good.rise).filter (fun e=> !Pp.atB (Pp.newE (mkC B[m]) n).path.data.toList e)
        exact List.pairwise_map.2 this
    · intro x hx
      rcases List.mem_cons.1 hx with e|hx
      · rw[e];exact List.mem_map.2 ⟨_,hb,rfl⟩
      · obtain⟨y,hy,rfl⟩:=List.mem_map.1 hx
        obtain⟨b,hb2,hbp,_⟩:=h.kin y (Pp.mem_outE.1 hy).1
        exact List.mem_map.2 ⟨b,hb2,hbp⟩
   rw[List.length_cons,List.length_map,List.length_map]at hle;have:=hB.len
   omega
  have happ:Pp.appE T (mkC B[m]) n=0:=by
   rw[Pp.appE,if_neg (fun x=>x hv),if_neg (fun x=>x hchg),if_neg (fun x=>x hplc),if_neg (by rw[stl_any (mkC_b _)];decide),Pp.chdE,if_pos hk12,if_neg hroom]
  have hR:Pp.chdR T (mkC B[m]) n=Pp.ins (Pp.newE (mkC B[m]) n) (Pp.outE (Pp.newE (mkC B[m]) n) T):=by rw[Pp.chdR,if_pos hk12]
  have hmem: ∀y,y∈Pp.chdR T (mkC B[m]) n↔y=Pp.newE (mkC B[m]) n∨(y∈T∧y.path.data.toList≠B[m].path.data.toList):=fun y=>by
   rw[hR,(Pp.ins_perm _ _).mem_iff,List.mem_cons,Pp.mem_outE,l2]
  refine⟨Pp.chdR T (mkC B[m]) n,?_,Pp.app_good h.good happ,fun t ht=>?_,fun j hj hjm=>?_,fun j hj hjm x hxp=>?_⟩
  · rw[mks_hit hm hn,←List.append_assoc]
    exact Pp.runs_snoc happ h.runs
  · rcases(hmem t).1 ht with e|⟨e,_⟩
    · subst e;exact⟨_,hb,l2.symm,l3.symm⟩
    · exact h.kin t e
  · by_cases e:j=m
    · subst e;exact⟨_,(hmem _).2 (Or.inl rfl),l1⟩
    · obtain⟨t,ht,hl⟩:=h.done j hj (by omega)
      exact⟨t,(hmem t).2 (Or.inr ⟨ht,by rw[(likeE_iff.1 hl).1];exact apj j hj e⟩),hl⟩
  · have hne:x.path.data.toList≠B[m].path.data.toList:=by rw[hxp];exact apj j hj (by omega)
    rw[←h.rest j hj (by omega) x hxp,hmem];constructor
    · rintro (e|e)
      · exact absurd (by rw[e];exact l2) hne
      · exact e.1
    · exact fun e=>Or.inr ⟨e,hne⟩
theorem mid_all {A B:List En} (hA:Pp.Good A) (hB:Pp.Good B) {n:Int} (hv:Pp.verE n=0): ∀m,m≤B.length→ ∃T,Mid A B n m T:=by
 intro m;induction m with
 |zero=>intro _;exact⟨_,mid_zero hA hB hv⟩
 |succ m ih=>
  intro hm;obtain⟨T,hT⟩:=ih (by omega)
  exact mid_next hA hB hv (by omega) hT
/-- All changes made: a tree like the other one. -/
theorem back {A B:List En} (hA:Pp.Good A) (hB:Pp.Good B) {n:Int} (hv:Pp.verE n=0): ∃T,Pp.Runs n A (dels A B++mks A B) T∧Pp.Good T∧likeP T B:=by
 obtain⟨T,h⟩:=mid_all hA hB hv B.length (Nat.le_refl _)
 have hr:=h.runs;rw[List.take_length]at hr
 have hpe:T.map (fun e=>e.path.data.toList)=B.map (fun e=>e.path.data.toList):=by
  refine rise_eq (rise_map h.good.rise) (rise_map hB.rise) fun x=>⟨fun hx=>?_,fun hx=>?_⟩
  · obtain⟨e,he,rfl⟩:=List.mem_map.1 hx
    obtain⟨b,hb,hbp,_⟩:=h.kin e he
    exact List.mem_map.2 ⟨b,hb,hbp⟩
  · obtain⟨e,he,rfl⟩:=List.mem_map.1 hx
    obtain⟨j,hj,rfl⟩:=List.getElem_of_mem he
    obtain⟨t,ht,hl⟩:=h.done j hj hj
    exact List.mem_map.2 ⟨t,ht,(likeE_iff.1 hl).1⟩
 refine⟨T,hr,h.good,by simpa using congrArg List.length hpe,fun j hj hj2=>?_⟩
 have hp:T[j].path.data.toList=B[j].path.data.toList:=by
  have:=congrArg (fun l=>l[j]?) hpe
  simpa[hj,hj2]using this
 obtain⟨t,ht,hl⟩:=h.done j hj2 hj2
 have:t=T[j]:=h.good.uniq ht (List.getElem_mem hj) ((likeE_iff.1 hl).1.trans hp.symm)
 rw[←this];exact hl
end Sp
end Go.Proofs.YtagibnejodgeeaaGreatDoor
namespace Go.Proofs.YtagibnejodgeeaaGreatDoor
open Go.RowKit

namespace Sp
theorem pat_back {A B:List En} (hA:Pp.Good A) (hB:Pp.Good B) {n:Int} (hv:Pp.verE n=0):Pp.patE A (dels A B++mks A B) n=0∧Pp.Good (Pp.patR A (dels A B++mks A B) n)∧likeP (Pp.patR A (dels A B++mks A B) n) B:=by
 obtain⟨T,h1,h2,h3⟩:=back hA hB hv
 have ht:=(Pp.good_iff A).2 hA
 have hl: ¬120<(dels A B++mks A B).length:=by
  have e1:=dels_len A B;have e2:=mks_len A B;have e3:=hA.len;have e4:=hB.len;rw[List.length_append];omega
 rw[Pp.patE,if_neg (fun x=>x ht),if_neg hl,Pp.patR,if_neg (fun x=>x ht),if_neg hl,show(Pp.runF n A (dels A B++mks A B)).2=(0,T)from h1];exact⟨rfl,h2,h3⟩
theorem good_dfE {A B:List En} (hA:Pp.Good A) (hB:Pp.Good B):dfE A B=0:=by rw[dfE,if_pos ((Pp.good_iff A).2 hA),(Pp.good_iff B).2 hB]
theorem good_small {R:List En} (hR:Pp.Good R): ∀e∈R,e.path.size≤1000000000∧e.text.size≤300:=fun e he=>by
 have h1:=Pp.chk_len (Pp.entE_path (hR.ents e he));have h2:=hR.ents e he;refine⟨by rw[Lib.size_eq];omega,?_⟩
 rw[Pp.entE,if_pos (Pp.entE_path h2)]at h2;split at h2
 · cases h2
 · split at h2
   · cases h2
   · omega
theorem size_none:(⟨#[]⟩:ByteArray).size≤150000000000000:=by decide
theorem sized_df {A B:List En} (hA:Pp.Good A) (hB:Pp.Good B):SizedC 150000000000000 (dels A B++mks A B):=by
 intro c hc;rcases List.mem_append.1 hc with h|h
 · obtain⟨e,he,rfl⟩:=List.mem_map.1 h
   have:=(good_small hA e (List.mem_filter.1 he).1).1
   exact⟨by show e.path.size≤_;omega,size_none,size_none⟩
 · obtain⟨e,he,rfl⟩:=List.mem_map.1 h
   have:=good_small hB e (List.mem_filter.1 he).1
   rw[mkC];split
   · exact⟨by show e.path.size≤_;omega,size_none,size_none⟩
   · exact⟨by show e.path.size≤_;omega,size_none,by show e.text.size≤_;omega⟩
end Sp

end Go.Proofs.YtagibnejodgeeaaGreatDoor
namespace Go.Proofs.YtagibnejodgeeaaGreatDoor
open Go.RowKit Go.Maps

/-- A block that holds just these cells, and may be written. -/
def Cs (W:World) (b:Nat) (vs:List Value):Prop:= ∃T,W.heap[b]?=some (.cells vs.toArray T (0,0))
theorem Cs.lt {W:World} {b:Nat} {vs:List Value} (h:Cs W b vs):b<W.heap.size:=h.elim fun _ h=>heap_lt h
theorem Cs.cell {W:World} {b:Nat} {vs:List Value} (h:Cs W b vs) (i:Nat) {v:Value} (hv:vs[i]?=some v):W.cell? ⟨b,i,none⟩=some v:=by
 obtain⟨T,h⟩:=h
 simp[World.cell?,h,hv]
theorem Cs.fr {W:World} {b:Nat} {vs:List Value} (h:Cs W b vs) (i:Nat):W.frozen? ⟨b,i,none⟩=false:=by
 obtain⟨T,h⟩:=h
 simp[World.frozen?,h]
theorem Cs.belowAt {W W':World} {b B:Nat} {vs:List Value} (h:Cs W b vs) (hw:Below B W W') (hb:b<B):Cs W' b vs:=by
 obtain⟨T,h⟩:=h
 exact⟨T,(hw.block b hb).trans h⟩
theorem Cs.below {W W':World} {b:Nat} {vs:List Value} (h:Cs W b vs) (hw:Below W.heap.size W W'):Cs W' b vs:=h.belowAt hw h.lt
theorem Cs.nb {W W':World} {b g:Nat} {vs:List Value} (h:Cs W b vs) (hw:W.grownBy W' (some g)) (hne:b≠g):Cs W' b vs:=by
 have hl:=h.lt;obtain⟨T,h⟩:=h
 exact⟨T,(hw.block b hl (fun e=>hne (by injection e))).trans h⟩
theorem Cs.new (w:World) (vs:List Value) (T:TypeId):Cs (w.alloc (.cells vs.toArray T)) w.heap.size vs:=⟨T,by show(w.heap.push _)[w.heap.size]?=_;simp⟩
theorem Cs.set {W:World} {b:Nat} {vs:List Value} (h:Cs W b vs) (i:Nat) (u:Value):Cs (W.setCell ⟨b,i,none⟩ u) b (vs.set i u):=by
 obtain⟨T,h⟩:=h
 refine⟨T,?_⟩
 unfold World.setCell;simp only[Array.getElem?_modify,h,if_true,Option.map_some];simp
theorem nb_set (W:World) (b o:Nat) (u:Value):W.grownBy (W.setCell ⟨b,o,none⟩ u) (some b):=
 ⟨rfl,rfl,rfl,by simp,fun k _ hk=>Below.heap_setCell W _ u k (fun e=>hk (by rw[e]))⟩
theorem Cs.other {W:World} {b b' o:Nat} {vs:List Value} (h:Cs W b vs) (hne:b≠b') (u:Value):Cs (W.setCell ⟨b',o,none⟩ u) b vs:=h.nb (nb_set W b' o u) hne
/-- A block without texts. -/
def NoStr (W:World) (g:Nat):Prop:= ∀o s,W.cell? ⟨g,o,none⟩≠some (.string s)
theorem EnAt.ne {W:World} {b o g:Nat} {e:En} (h:EnAt W b o e) (hn:NoStr W g):b≠g:=fun hb=>hn o e.path (hb▸h.1)
theorem ChAt.ne {W:World} {b o g:Nat} {c:Pp.Ch} (h:ChAt W b o c) (hn:NoStr W g):b≠g:=fun hb=>hn (o+1) c.p (hb▸h.2.1)
theorem cell_nb {W W':World} {g b:Nat} (hw:W.grownBy W' (some g)) (hb:b<W.heap.size) (hne:b≠g) (o:Nat):W'.cell? ⟨b,o,none⟩=W.cell? ⟨b,o,none⟩:=
 World.cell?_of_block (w:=W) (a:=⟨b,o,none⟩) (hw.block b hb (fun e=>hne (by injection e)))
theorem Lies.nb {W W':World} {v:Value} {L:List En} {g:Nat} (h:Lies W v L) (hw:W.grownBy W' (some g)) (hn:NoStr W g):Lies W' v L:=by
 obtain⟨a,cap,hv,h1,h2,h3⟩:=h
 refine⟨a,cap,hv,h1,h2,fun i hi=>?_⟩
 obtain⟨b,o,ha,hb,he⟩:=h3 i hi
 have c:=cell_nb hw hb (he.ne hn);exact⟨b,o,ha,Nat.lt_of_lt_of_le hb hw.size,(c _).trans he.1,(c _).trans he.2.1,(c _).trans he.2.2.1,(c _).trans he.2.2.2⟩
theorem LiesC.nb {W W':World} {v:Value} {L:List Pp.Ch} {g:Nat} (h:LiesC W v L) (hw:W.grownBy W' (some g)) (hn:NoStr W g):LiesC W' v L:=by
 obtain⟨a,cap,hv,h1,h2,h3⟩:=h
 refine⟨a,cap,hv,h1,h2,fun i hi=>?_⟩
 obtain⟨b,o,ha,hb,he⟩:=h3 i hi
 have c:=cell_nb hw hb (he.ne hn);exact⟨b,o,ha,Nat.lt_of_lt_of_le hb hw.size,(c _).trans he.1,(c _).trans he.2.1,(c _).trans he.2.2.1,(c _).trans he.2.2.2.1,(c _).trans he.2.2.2.2⟩
/-- Grown, and written in two blocks alone. -/
structure Nb2 (w w':World) (b m:Nat):Prop where
 os:w'.os=w.os
 tape:w'.tape=w.tape
 output:w'.output=w.output
 size:w.heap.size≤w'.heap.size
 block: ∀k,k<w.heap.size→k≠b→k≠m→w'.heap[k]?=w.heap[k]?
theorem Nb2.of_below {w w':World} (b m:Nat) (h:Below w.heap.size w w'):Nb2 w w' b m:=⟨h.os,h.tape,h.output,h.size,fun k hk _ _=>h.block k hk⟩
theorem Nb2.trans {a c d:World} {b m:Nat} (h:Nb2 a c b m) (k:Nb2 c d b m):Nb2 a d b m:=
 ⟨k.os.trans h.os,k.tape.trans h.tape,k.output.trans h.output,Nat.le_trans h.size k.size,fun q hq h1 h2=>(k.block q (Nat.lt_of_lt_of_le hq h.size) h1 h2).trans (h.block q hq h1 h2)⟩
theorem Nb2.to {w w':World} {b m B:Nat} (h:Nb2 w w' b m) (hB:B≤w.heap.size) (h1:B≤b) (h2:B≤m):Below B w w':=⟨h.os,h.tape,h.output,h.size,fun k hk=>h.block k (by omega) (by omega) (by omega)⟩
theorem Nb2.cell {w w':World} {b m k:Nat} (h:Nb2 w w' b m) (hk:k<w.heap.size) (h1:k≠b) (h2:k≠m) (o:Nat):w'.cell? ⟨k,o,none⟩=w.cell? ⟨k,o,none⟩:=World.cell?_of_block (w:=w) (a:=⟨k,o,none⟩) (h.block k hk h1 h2)
end Go.Proofs.YtagibnejodgeeaaGreatDoor
namespace Go.Proofs.YtagibnejodgeeaaGreatDoor
open Go.RowKit
theorem below_tr {w w1 w2:World} (h1:Below w.heap.size w w1) (h2:Below w1.heap.size w1 w2):Below w.heap.size w w2:=h1.trans (h2.mono h1.size)
/-- What is at a path. -/
structure Spo where
 w:Int
 t:ByteArray
 v:Int
def Spo.val (s:Spo):Value:= .agg #[.int .i64 s.w,.string s.t,.int .i64 s.v]
namespace Mg
def zero:Spo:=⟨0,⟨#[]⟩,0⟩
def lk (a b:Spo):Bool:=(a.w==b.w) && (a.t.toList==b.t.toList)
def stays (b m t:Spo):Spo:=if lk m t=true∨lk m b=true then t else if lk t b=true then m else if m.w=1∨t.w=0 then m else t
def goes (b m t:Spo):Spo:=if lk m t=true∨lk m b=true then zero else if lk t b=true then zero else if m.w=1∨t.w=0 then t else m
end Mg

set_option maxRecDepth 100000 in
set_option maxHeartbeats 4000000 in
theorem settled_any (b m t:Spo) (w:World):
    Calls Tryz.prog 83 #[b.val,m.val,t.val] w fun e w'=>e= .returned (.tuple #[(Mg.stays b m t).val,(Mg.goes b m t).val])∧Below w.heap.size w w':=by
 obtain⟨bw,bt,bv⟩:=b
 obtain⟨mw,mt,mv⟩:=m
 obtain⟨tw,tt,tv⟩:=t
 simp only[Spo.val];obtain⟨wz,hwz⟩: ∃wz,wz=(((((w.alloc (.cells #[.int .i64 bw,.string bt,.int .i64 bv] 89)).alloc (.cells #[.int .i64 mw,.string mt,.int .i64 mv] 89)).alloc (.cells #[.int .i64 tw,.string tt,.int .i64 tv] 89)).alloc (.cells #[.int .i64 0,.string ⟨#[]⟩,.int .i64 0] 89)).alloc (.cells #[.int .i64 0,.string ⟨#[]⟩,.int .i64 0] 89)):=⟨_,rfl⟩
 have hbz:Below w.heap.size w wz:=by rw[hwz];exact(((((Below.refl _ _).alloc (Nat.le_refl _) _).alloc (by simp) _).alloc (by simp;omega) _).alloc (by simp;omega) _).alloc (by simp;omega) _
 have HX0:=hid (show Cs wz (w.heap.size) [.int .i64 bw,.string bt,.int .i64 bv]from by
  have:=Cs.new w [.int .i64 bw,.string bt,.int .i64 bv] 89
  have e:w.heap.size=w.heap.size:=by simp
  rw[e]at this;rw[hwz];exact((((this.below ((Below.refl _ _).alloc (Nat.le_refl _) _)).below ((Below.refl _ _).alloc (Nat.le_refl _) _)).below ((Below.refl _ _).alloc (Nat.le_refl _) _)).below ((Below.refl _ _).alloc (Nat.le_refl _) _)))
 have HX1:=hid (show Cs wz (w.heap.size+1) [.int .i64 mw,.string mt,.int .i64 mv]from by
  have:=Cs.new (w.alloc (.cells #[.int .i64 bw,.string bt,.int .i64 bv] 89)) [.int .i64 mw,.string mt,.int .i64 mv] 89
  have e:(w.alloc (.cells #[.int .i64 bw,.string bt,.int .i64 bv] 89)).heap.size=w.heap.size+1:=by simp
  rw[e]at this;rw[hwz];exact(((this.below ((Below.refl _ _).alloc (Nat.le_refl _) _)).below ((Below.refl _ _).alloc (Nat.le_refl _) _)).below ((Below.refl _ _).alloc (Nat.le_refl _) _)))
 have HX2:=hid (show Cs wz (w.heap.size+1+1) [.int .i64 tw,.string tt,.int .i64 tv]from by
  have:=Cs.new ((w.alloc (.cells #[.int .i64 bw,.string bt,.int .i64 bv] 89)).alloc (.cells #[.int .i64 mw,.string mt,.int .i64 mv] 89)) [.int .i64 tw,.string tt,.int .i64 tv] 89
  have e:((w.alloc (.cells #[.int .i64 bw,.string bt,.int .i64 bv] 89)).alloc (.cells #[.int .i64 mw,.string mt,.int .i64 mv] 89)).heap.size=w.heap.size+1+1:=by simp
  rw[e]at this;rw[hwz];exact((this.below ((Below.refl _ _).alloc (Nat.le_refl _) _)).below ((Below.refl _ _).alloc (Nat.le_refl _) _)))
 have HX3:=hid (show Cs wz (w.heap.size+1+1+1) [.int .i64 0,.string ⟨#[]⟩,.int .i64 0]from by
  have:=Cs.new (((w.alloc (.cells #[.int .i64 bw,.string bt,.int .i64 bv] 89)).alloc (.cells #[.int .i64 mw,.string mt,.int .i64 mv] 89)).alloc (.cells #[.int .i64 tw,.string tt,.int .i64 tv] 89)) [.int .i64 0,.string ⟨#[]⟩,.int .i64 0] 89
  have e:(((w.alloc (.cells #[.int .i64 bw,.string bt,.int .i64 bv] 89)).alloc (.cells #[.int .i64 mw,.string mt,.int .i64 mv] 89)).alloc (.cells #[.int .i64 tw,.string tt,.int .i64 tv] 89)).heap.size=w.heap.size+1+1+1:=by simp
  rw[e]at this;rw[hwz];exact(this.below ((Below.refl _ _).alloc (Nat.le_refl _) _)))
 have HX4:=hid (show Cs wz (w.heap.size+1+1+1+1) [.int .i64 0,.string ⟨#[]⟩,.int .i64 0]from by
  have:=Cs.new ((((w.alloc (.cells #[.int .i64 bw,.string bt,.int .i64 bv] 89)).alloc (.cells #[.int .i64 mw,.string mt,.int .i64 mv] 89)).alloc (.cells #[.int .i64 tw,.string tt,.int .i64 tv] 89)).alloc (.cells #[.int .i64 0,.string ⟨#[]⟩,.int .i64 0] 89)) [.int .i64 0,.string ⟨#[]⟩,.int .i64 0] 89
  have e:((((w.alloc (.cells #[.int .i64 bw,.string bt,.int .i64 bv] 89)).alloc (.cells #[.int .i64 mw,.string mt,.int .i64 mv] 89)).alloc (.cells #[.int .i64 tw,.string tt,.int .i64 tv] 89)).alloc (.cells #[.int .i64 0,.string ⟨#[]⟩,.int .i64 0] 89)).heap.size=w.heap.size+1+1+1+1:=by simp
  rw[e]at this;rw[hwz];exact this)
 cases hmt:Mg.lk ⟨mw,mt,mv⟩ ⟨tw,tt,tv⟩with
 |true=>
  have HS:=hid (show Mg.stays ⟨bw,bt,bv⟩ ⟨mw,mt,mv⟩ ⟨tw,tt,tv⟩=⟨tw,tt,tv⟩from by rw[Mg.stays,if_pos (Or.inl hmt)]);have HGO:=hid (show Mg.goes ⟨bw,bt,bv⟩ ⟨mw,mt,mv⟩ ⟨tw,tt,tv⟩=Mg.zero from by rw[Mg.goes,if_pos (Or.inl hmt)]);have Hmt:Hid (((mw==tw) && (mt.toList==tt.toList))=true):=hmt;clear hmt;go_enter Tryz.func83,Tryz.ntmps83
  go_wp2_with fail;rw[←hwz];clear hwz;refine(like_any mw tw mt tt mv tv _).mono ?_
  rintro e w1 ⟨rfl,hb1⟩;rw[Hmt.out];have hb01:=below_tr hbz hb1;replace HX0:=hid (HX0.out.below hb1);replace HX1:=hid (HX1.out.below hb1);replace HX2:=hid (HX2.out.below hb1);replace HX3:=hid (HX3.out.below hb1);replace HX4:=hid (HX4.out.below hb1);try clear x00
  try clear x01
  try clear x02
  try clear x10
  try clear x11
  try clear x12
  try clear x20
  try clear x21
  try clear x22
  have x00:=HX0.out.cell 0 rfl;have x01:=HX0.out.cell 1 rfl;have x02:=HX0.out.cell 2 rfl;have x10:=HX1.out.cell 0 rfl;have x11:=HX1.out.cell 1 rfl;have x12:=HX1.out.cell 2 rfl;have x20:=HX2.out.cell 0 rfl;have x21:=HX2.out.cell 1 rfl;have x22:=HX2.out.cell 2 rfl;have y30:=HX3.out.cell 0 rfl;have g30:=HX3.out.fr 0;have y31:=HX3.out.cell 1 rfl;have g31:=HX3.out.fr 1;have y32:=HX3.out.cell 2 rfl;have g32:=HX3.out.fr 2;have y40:=HX4.out.cell 0 rfl;have g40:=HX4.out.fr 0;have y41:=HX4.out.cell 1 rfl;have g41:=HX4.out.fr 1;have y42:=HX4.out.cell 2 rfl;have g42:=HX4.out.fr 2;go_wp2_with fail;refine bodyPost_ret (v:= .tuple #[.agg #[.int .i64 tw,.string tt,.int .i64 tv],.agg #[.int .i64 0,.string ⟨#[]⟩,.int .i64 0]]) (by simp[results,Tryz.results83,go_sem,y30,y31,y32,y40,y41,y42]) rfl ⟨by rw[HS.out,HGO.out]<;>rfl,?_⟩
  exact((((((hb01.setCell (p:=⟨w.heap.size+1+1+1,0,none⟩) (by show w.heap.size≤w.heap.size+1+1+1;omega) _).setCell (p:=⟨w.heap.size+1+1+1,1,none⟩) (by show w.heap.size≤w.heap.size+1+1+1;omega) _).setCell (p:=⟨w.heap.size+1+1+1,2,none⟩) (by show w.heap.size≤w.heap.size+1+1+1;omega) _).setCell (p:=⟨w.heap.size+1+1+1+1,0,none⟩) (by show w.heap.size≤w.heap.size+1+1+1+1;omega) _).setCell (p:=⟨w.heap.size+1+1+1+1,1,none⟩) (by show w.heap.size≤w.heap.size+1+1+1+1;omega) _).setCell (p:=⟨w.heap.size+1+1+1+1,2,none⟩) (by show w.heap.size≤w.heap.size+1+1+1+1;omega) _)
 |false=>
  cases hmb:Mg.lk ⟨mw,mt,mv⟩ ⟨bw,bt,bv⟩with
  |true=>
   have HS:=hid (show Mg.stays ⟨bw,bt,bv⟩ ⟨mw,mt,mv⟩ ⟨tw,tt,tv⟩=⟨tw,tt,tv⟩from by rw[Mg.stays,if_pos (Or.inr hmb)]);have HGO:=hid (show Mg.goes ⟨bw,bt,bv⟩ ⟨mw,mt,mv⟩ ⟨tw,tt,tv⟩=Mg.zero from by rw[Mg.goes,if_pos (Or.inr hmb)]);have Hmt:Hid (((mw==tw) && (mt.toList==tt.toList))=false):=hmt;have Hmb:Hid (((mw==bw) && (mt.toList==bt.toList))=true):=hmb;clear hmt hmb;go_enter Tryz.func83,Tryz.ntmps83
   go_wp2_with fail;rw[←hwz];clear hwz;refine(like_any mw tw mt tt mv tv _).mono ?_
   rintro e w1 ⟨rfl,hb1⟩;rw[Hmt.out];have hb01:=below_tr hbz hb1;replace HX0:=hid (HX0.out.below hb1);replace HX1:=hid (HX1.out.below hb1);replace HX2:=hid (HX2.out.below hb1);replace HX3:=hid (HX3.out.below hb1);replace HX4:=hid (HX4.out.below hb1);try clear x00
   try clear x01
   try clear x02
   try clear x10
   try clear x11
   try clear x12
   try clear x20
   try clear x21
   try clear x22
   have x00:=HX0.out.cell 0 rfl;have x01:=HX0.out.cell 1 rfl;have x02:=HX0.out.cell 2 rfl;have x10:=HX1.out.cell 0 rfl;have x11:=HX1.out.cell 1 rfl;have x12:=HX1.out.cell 2 rfl;have x20:=HX2.out.cell 0 rfl;have x21:=HX2.out.cell 1 rfl;have x22:=HX2.out.cell 2 rfl;go_wp2_with fail;refine(like_any mw bw mt bt mv bv _).mono ?_
   rintro e w2 ⟨rfl,hb2⟩;rw[Hmb.out];have hb02:=below_tr hb01 hb2;replace HX0:=hid (HX0.out.below hb2);replace HX1:=hid (HX1.out.below hb2);replace HX2:=hid (HX2.out.below hb2);replace HX3:=hid (HX3.out.below hb2);replace HX4:=hid (HX4.out.below hb2);try clear x00
   try clear x01
   try clear x02
   try clear x10
   try clear x11
   try clear x12
   try clear x20
   try clear x21
   try clear x22
   have x00:=HX0.out.cell 0 rfl;have x01:=HX0.out.cell 1 rfl;have x02:=HX0.out.cell 2 rfl;have x10:=HX1.out.cell 0 rfl;have x11:=HX1.out.cell 1 rfl;have x12:=HX1.out.cell 2 rfl;have x20:=HX2.out.cell 0 rfl;have x21:=HX2.out.cell 1 rfl;have x22:=HX2.out.cell 2 rfl;have y30:=HX3.out.cell 0 rfl;have g30:=HX3.out.fr 0;have y31:=HX3.out.cell 1 rfl;have g31:=HX3.out.fr 1;have y32:=HX3.out.cell 2 rfl;have g32:=HX3.out.fr 2;have y40:=HX4.out.cell 0 rfl;have g40:=HX4.out.fr 0;have y41:=HX4.out.cell 1 rfl;have g41:=HX4.out.fr 1;have y42:=HX4.out.cell 2 rfl;have g42:=HX4.out.fr 2;go_wp2_with fail;refine bodyPost_ret (v:= .tuple #[.agg #[.int .i64 tw,.string tt,.int .i64 tv],.agg #[.int .i64 0,.string ⟨#[]⟩,.int .i64 0]]) (by simp[results,Tryz.results83,go_sem,y30,y31,y32,y40,y41,y42]) rfl ⟨by rw[HS.out,HGO.out]<;>rfl,?_⟩
   exact((((((hb02.setCell (p:=⟨w.heap.size+1+1+1,0,none⟩) (by show w.heap.size≤w.heap.size+1+1+1;omega) _).setCell (p:=⟨w.heap.size+1+1+1,1,none⟩) (by show w.heap.size≤w.heap.size+1+1+1;omega) _).setCell (p:=⟨w.heap.size+1+1+1,2,none⟩) (by show w.heap.size≤w.heap.size+1+1+1;omega) _).setCell (p:=⟨w.heap.size+1+1+1+1,0,none⟩) (by show w.heap.size≤w.heap.size+1+1+1+1;omega) _).setCell (p:=⟨w.heap.size+1+1+1+1,1,none⟩) (by show w.heap.size≤w.heap.size+1+1+1+1;omega) _).setCell (p:=⟨w.heap.size+1+1+1+1,2,none⟩) (by show w.heap.size≤w.heap.size+1+1+1+1;omega) _)
  |false=>
   have hno: ¬(Mg.lk ⟨mw,mt,mv⟩ ⟨tw,tt,tv⟩=true∨Mg.lk ⟨mw,mt,mv⟩ ⟨bw,bt,bv⟩=true):=by simp[hmt,hmb]
   cases htb:Mg.lk ⟨tw,tt,tv⟩ ⟨bw,bt,bv⟩with
   |true=>
    have HS:=hid (show Mg.stays ⟨bw,bt,bv⟩ ⟨mw,mt,mv⟩ ⟨tw,tt,tv⟩=⟨mw,mt,mv⟩from by rw[Mg.stays,if_neg hno,if_pos htb]);have HGO:=hid (show Mg.goes ⟨bw,bt,bv⟩ ⟨mw,mt,mv⟩ ⟨tw,tt,tv⟩=Mg.zero from by rw[Mg.goes,if_neg hno,if_pos htb]);have Hmt:Hid (((mw==tw) && (mt.toList==tt.toList))=false):=hmt;have Hmb:Hid (((mw==bw) && (mt.toList==bt.toList))=false):=hmb;have Htb:Hid (((tw==bw) && (tt.toList==bt.toList))=true):=htb;clear hmt hmb htb hno;go_enter Tryz.func83,Tryz.ntmps83
    go_wp2_with fail;rw[←hwz];clear hwz;refine(like_any mw tw mt tt mv tv _).mono ?_
    rintro e w1 ⟨rfl,hb1⟩;rw[Hmt.out];have hb01:=below_tr hbz hb1;replace HX0:=hid (HX0.out.below hb1);replace HX1:=hid (HX1.out.below hb1);replace HX2:=hid (HX2.out.below hb1);replace HX3:=hid (HX3.out.below hb1);replace HX4:=hid (HX4.out.below hb1);try clear x00
    try clear x01
    try clear x02
    try clear x10
    try clear x11
    try clear x12
    try clear x20
    try clear x21
    try clear x22
    have x00:=HX0.out.cell 0 rfl;have x01:=HX0.out.cell 1 rfl;have x02:=HX0.out.cell 2 rfl;have x10:=HX1.out.cell 0 rfl;have x11:=HX1.out.cell 1 rfl;have x12:=HX1.out.cell 2 rfl;have x20:=HX2.out.cell 0 rfl;have x21:=HX2.out.cell 1 rfl;have x22:=HX2.out.cell 2 rfl;go_wp2_with fail;refine(like_any mw bw mt bt mv bv _).mono ?_
    rintro e w2 ⟨rfl,hb2⟩;rw[Hmb.out];have hb02:=below_tr hb01 hb2;replace HX0:=hid (HX0.out.below hb2);replace HX1:=hid (HX1.out.below hb2);replace HX2:=hid (HX2.out.below hb2);replace HX3:=hid (HX3.out.below hb2);replace HX4:=hid (HX4.out.below hb2);try clear x00
    try clear x01
    try clear x02
    try clear x10
    try clear x11
    try clear x12
    try clear x20
    try clear x21
    try clear x22
    have x00:=HX0.out.cell 0 rfl;have x01:=HX0.out.cell 1 rfl;have x02:=HX0.out.cell 2 rfl;have x10:=HX1.out.cell 0 rfl;have x11:=HX1.out.cell 1 rfl;have x12:=HX1.out.cell 2 rfl;have x20:=HX2.out.cell 0 rfl;have x21:=HX2.out.cell 1 rfl;have x22:=HX2.out.cell 2 rfl;go_wp2_with fail;refine(like_any tw bw tt bt tv bv _).mono ?_
    rintro e w3 ⟨rfl,hb3⟩;rw[Htb.out];have hb03:=below_tr hb02 hb3;replace HX0:=hid (HX0.out.below hb3);replace HX1:=hid (HX1.out.below hb3);replace HX2:=hid (HX2.out.below hb3);replace HX3:=hid (HX3.out.below hb3);replace HX4:=hid (HX4.out.below hb3);try clear x00
    try clear x01
    try clear x02
    try clear x10
    try clear x11
    try clear x12
    try clear x20
    try clear x21
    try clear x22
    have x00:=HX0.out.cell 0 rfl;have x01:=HX0.out.cell 1 rfl;have x02:=HX0.out.cell 2 rfl;have x10:=HX1.out.cell 0 rfl;have x11:=HX1.out.cell 1 rfl;have x12:=HX1.out.cell 2 rfl;have x20:=HX2.out.cell 0 rfl;have x21:=HX2.out.cell 1 rfl;have x22:=HX2.out.cell 2 rfl;have y30:=HX3.out.cell 0 rfl;have g30:=HX3.out.fr 0;have y31:=HX3.out.cell 1 rfl;have g31:=HX3.out.fr 1;have y32:=HX3.out.cell 2 rfl;have g32:=HX3.out.fr 2;have y40:=HX4.out.cell 0 rfl;have g40:=HX4.out.fr 0;have y41:=HX4.out.cell 1 rfl;have g41:=HX4.out.fr 1;have y42:=HX4.out.cell 2 rfl;have g42:=HX4.out.fr 2;go_wp2_with fail;refine bodyPost_ret (v:= .tuple #[.agg #[.int .i64 mw,.string mt,.int .i64 mv],.agg #[.int .i64 0,.string ⟨#[]⟩,.int .i64 0]]) (by simp[results,Tryz.results83,go_sem,y30,y31,y32,y40,y41,y42]) rfl ⟨by rw[HS.out,HGO.out]<;>rfl,?_⟩
    exact((((((hb03.setCell (p:=⟨w.heap.size+1+1+1,0,none⟩) (by show w.heap.size≤w.heap.size+1+1+1;omega) _).setCell (p:=⟨w.heap.size+1+1+1,1,none⟩) (by show w.heap.size≤w.heap.size+1+1+1;omega) _).setCell (p:=⟨w.heap.size+1+1+1,2,none⟩) (by show w.heap.size≤w.heap.size+1+1+1;omega) _).setCell (p:=⟨w.heap.size+1+1+1+1,0,none⟩) (by show w.heap.size≤w.heap.size+1+1+1+1;omega) _).setCell (p:=⟨w.heap.size+1+1+1+1,1,none⟩) (by show w.heap.size≤w.heap.size+1+1+1+1;omega) _).setCell (p:=⟨w.heap.size+1+1+1+1,2,none⟩) (by show w.heap.size≤w.heap.size+1+1+1+1;omega) _)
   |false=>
    have hnt: ¬Mg.lk ⟨tw,tt,tv⟩ ⟨bw,bt,bv⟩=true:=by simp[htb]
    by_cases hm1:mw=1
    · have HS:=hid (show Mg.stays ⟨bw,bt,bv⟩ ⟨mw,mt,mv⟩ ⟨tw,tt,tv⟩=⟨mw,mt,mv⟩from by rw[Mg.stays,if_neg hno,if_neg hnt,if_pos (Or.inl hm1)])
      have HGO:=hid (show Mg.goes ⟨bw,bt,bv⟩ ⟨mw,mt,mv⟩ ⟨tw,tt,tv⟩=⟨tw,tt,tv⟩from by rw[Mg.goes,if_neg hno,if_neg hnt,if_pos (Or.inl hm1)]);have Hmt:Hid (((mw==tw) && (mt.toList==tt.toList))=false):=hmt;have Hmb:Hid (((mw==bw) && (mt.toList==bt.toList))=false):=hmb;have Htb:Hid (((tw==bw) && (tt.toList==bt.toList))=false):=htb;clear hmt hmb htb hno;have hm1':(mw==1)=true:=by simpa using hm1
      clear hm1 hnt;go_enter Tryz.func83,Tryz.ntmps83
      go_wp2_with fail;rw[←hwz];clear hwz;refine(like_any mw tw mt tt mv tv _).mono ?_
      rintro e w1 ⟨rfl,hb1⟩;rw[Hmt.out];have hb01:=below_tr hbz hb1;replace HX0:=hid (HX0.out.below hb1);replace HX1:=hid (HX1.out.below hb1);replace HX2:=hid (HX2.out.below hb1);replace HX3:=hid (HX3.out.below hb1);replace HX4:=hid (HX4.out.below hb1);try clear x00
      try clear x01
      try clear x02
      try clear x10
      try clear x11
      try clear x12
      try clear x20
      try clear x21
      try clear x22
      have x00:=HX0.out.cell 0 rfl;have x01:=HX0.out.cell 1 rfl;have x02:=HX0.out.cell 2 rfl;have x10:=HX1.out.cell 0 rfl;have x11:=HX1.out.cell 1 rfl;have x12:=HX1.out.cell 2 rfl;have x20:=HX2.out.cell 0 rfl;have x21:=HX2.out.cell 1 rfl;have x22:=HX2.out.cell 2 rfl;go_wp2_with fail;refine(like_any mw bw mt bt mv bv _).mono ?_
      rintro e w2 ⟨rfl,hb2⟩;rw[Hmb.out];have hb02:=below_tr hb01 hb2;replace HX0:=hid (HX0.out.below hb2);replace HX1:=hid (HX1.out.below hb2);replace HX2:=hid (HX2.out.below hb2);replace HX3:=hid (HX3.out.below hb2);replace HX4:=hid (HX4.out.below hb2);try clear x00
      try clear x01
      try clear x02
      try clear x10
      try clear x11
      try clear x12
      try clear x20
      try clear x21
      try clear x22
      have x00:=HX0.out.cell 0 rfl;have x01:=HX0.out.cell 1 rfl;have x02:=HX0.out.cell 2 rfl;have x10:=HX1.out.cell 0 rfl;have x11:=HX1.out.cell 1 rfl;have x12:=HX1.out.cell 2 rfl;have x20:=HX2.out.cell 0 rfl;have x21:=HX2.out.cell 1 rfl;have x22:=HX2.out.cell 2 rfl;go_wp2_with fail;refine(like_any tw bw tt bt tv bv _).mono ?_
      rintro e w3 ⟨rfl,hb3⟩;rw[Htb.out];have hb03:=below_tr hb02 hb3;replace HX0:=hid (HX0.out.below hb3);replace HX1:=hid (HX1.out.below hb3);replace HX2:=hid (HX2.out.below hb3);replace HX3:=hid (HX3.out.below hb3);replace HX4:=hid (HX4.out.below hb3);try clear x00
      try clear x01
      try clear x02
      try clear x10
      try clear x11
      try clear x12
      try clear x20
      try clear x21
      try clear x22
      have x00:=HX0.out.cell 0 rfl;have x01:=HX0.out.cell 1 rfl;have x02:=HX0.out.cell 2 rfl;have x10:=HX1.out.cell 0 rfl;have x11:=HX1.out.cell 1 rfl;have x12:=HX1.out.cell 2 rfl;have x20:=HX2.out.cell 0 rfl;have x21:=HX2.out.cell 1 rfl;have x22:=HX2.out.cell 2 rfl;have y30:=HX3.out.cell 0 rfl;have g30:=HX3.out.fr 0;have y31:=HX3.out.cell 1 rfl;have g31:=HX3.out.fr 1;have y32:=HX3.out.cell 2 rfl;have g32:=HX3.out.fr 2;have y40:=HX4.out.cell 0 rfl;have g40:=HX4.out.fr 0;have y41:=HX4.out.cell 1 rfl;have g41:=HX4.out.fr 1;have y42:=HX4.out.cell 2 rfl;have g42:=HX4.out.fr 2;go_wp2_with fail;go_region
      go_wp2_with fail;refine bodyPost_ret (v:= .tuple #[.agg #[.int .i64 mw,.string mt,.int .i64 mv],.agg #[.int .i64 tw,.string tt,.int .i64 tv]]) (by simp[results,Tryz.results83,go_sem,y30,y31,y32,y40,y41,y42]) rfl ⟨by rw[HS.out,HGO.out]<;>rfl,?_⟩
      exact((((((hb03.setCell (p:=⟨w.heap.size+1+1+1,0,none⟩) (by show w.heap.size≤w.heap.size+1+1+1;omega) _).setCell (p:=⟨w.heap.size+1+1+1,1,none⟩) (by show w.heap.size≤w.heap.size+1+1+1;omega) _).setCell (p:=⟨w.heap.size+1+1+1,2,none⟩) (by show w.heap.size≤w.heap.size+1+1+1;omega) _).setCell (p:=⟨w.heap.size+1+1+1+1,0,none⟩) (by show w.heap.size≤w.heap.size+1+1+1+1;omega) _).setCell (p:=⟨w.heap.size+1+1+1+1,1,none⟩) (by show w.heap.size≤w.heap.size+1+1+1+1;omega) _).setCell (p:=⟨w.heap.size+1+1+1+1,2,none⟩) (by show w.heap.size≤w.heap.size+1+1+1+1;omega) _).drew
    · have hm1':(mw==1)=false:=by simpa using hm1
      by_cases ht0:tw=0
      · have HS:=hid (show Mg.stays ⟨bw,bt,bv⟩ ⟨mw,mt,mv⟩ ⟨tw,tt,tv⟩=⟨mw,mt,mv⟩from by rw[Mg.stays,if_neg hno,if_neg hnt,if_pos (Or.inr ht0)])
        have HGO:=hid (show Mg.goes ⟨bw,bt,bv⟩ ⟨mw,mt,mv⟩ ⟨tw,tt,tv⟩=⟨tw,tt,tv⟩from by rw[Mg.goes,if_neg hno,if_neg hnt,if_pos (Or.inr ht0)]);have Hmt:Hid (((mw==tw) && (mt.toList==tt.toList))=false):=hmt;have Hmb:Hid (((mw==bw) && (mt.toList==bt.toList))=false):=hmb;have Htb:Hid (((tw==bw) && (tt.toList==bt.toList))=false):=htb;clear hmt hmb htb hno;have ht0':(tw==0)=true:=by simpa using ht0
        clear hm1 hnt ht0;go_enter Tryz.func83,Tryz.ntmps83
        go_wp2_with fail;rw[←hwz];clear hwz;refine(like_any mw tw mt tt mv tv _).mono ?_
        rintro e w1 ⟨rfl,hb1⟩;rw[Hmt.out];have hb01:=below_tr hbz hb1;replace HX0:=hid (HX0.out.below hb1);replace HX1:=hid (HX1.out.below hb1);replace HX2:=hid (HX2.out.below hb1);replace HX3:=hid (HX3.out.below hb1);replace HX4:=hid (HX4.out.below hb1);try clear x00
        try clear x01
        try clear x02
        try clear x10
        try clear x11
        try clear x12
        try clear x20
        try clear x21
        try clear x22
        have x00:=HX0.out.cell 0 rfl;have x01:=HX0.out.cell 1 rfl;have x02:=HX0.out.cell 2 rfl;have x10:=HX1.out.cell 0 rfl;have x11:=HX1.out.cell 1 rfl;have x12:=HX1.out.cell 2 rfl;have x20:=HX2.out.cell 0 rfl;have x21:=HX2.out.cell 1 rfl;have x22:=HX2.out.cell 2 rfl;go_wp2_with fail;refine(like_any mw bw mt bt mv bv _).mono ?_
        rintro e w2 ⟨rfl,hb2⟩;rw[Hmb.out];have hb02:=below_tr hb01 hb2;replace HX0:=hid (HX0.out.below hb2);replace HX1:=hid (HX1.out.below hb2);replace HX2:=hid (HX2.out.below hb2);replace HX3:=hid (HX3.out.below hb2);replace HX4:=hid (HX4.out.below hb2);try clear x00
        try clear x01
        try clear x02
        try clear x10
        try clear x11
        try clear x12
        try clear x20
        try clear x21
        try clear x22
        have x00:=HX0.out.cell 0 rfl;have x01:=HX0.out.cell 1 rfl;have x02:=HX0.out.cell 2 rfl;have x10:=HX1.out.cell 0 rfl;have x11:=HX1.out.cell 1 rfl;have x12:=HX1.out.cell 2 rfl;have x20:=HX2.out.cell 0 rfl;have x21:=HX2.out.cell 1 rfl;have x22:=HX2.out.cell 2 rfl;go_wp2_with fail;refine(like_any tw bw tt bt tv bv _).mono ?_
        rintro e w3 ⟨rfl,hb3⟩;rw[Htb.out];have hb03:=below_tr hb02 hb3;replace HX0:=hid (HX0.out.below hb3);replace HX1:=hid (HX1.out.below hb3);replace HX2:=hid (HX2.out.below hb3);replace HX3:=hid (HX3.out.below hb3);replace HX4:=hid (HX4.out.below hb3);try clear x00
        try clear x01
        try clear x02
        try clear x10
        try clear x11
        try clear x12
        try clear x20
        try clear x21
        try clear x22
        have x00:=HX0.out.cell 0 rfl;have x01:=HX0.out.cell 1 rfl;have x02:=HX0.out.cell 2 rfl;have x10:=HX1.out.cell 0 rfl;have x11:=HX1.out.cell 1 rfl;have x12:=HX1.out.cell 2 rfl;have x20:=HX2.out.cell 0 rfl;have x21:=HX2.out.cell 1 rfl;have x22:=HX2.out.cell 2 rfl;have y30:=HX3.out.cell 0 rfl;have g30:=HX3.out.fr 0;have y31:=HX3.out.cell 1 rfl;have g31:=HX3.out.fr 1;have y32:=HX3.out.cell 2 rfl;have g32:=HX3.out.fr 2;have y40:=HX4.out.cell 0 rfl;have g40:=HX4.out.fr 0;have y41:=HX4.out.cell 1 rfl;have g41:=HX4.out.fr 1;have y42:=HX4.out.cell 2 rfl;have g42:=HX4.out.fr 2;go_wp2_with fail;go_region
        go_wp2_with fail;refine bodyPost_ret (v:= .tuple #[.agg #[.int .i64 mw,.string mt,.int .i64 mv],.agg #[.int .i64 tw,.string tt,.int .i64 tv]]) (by simp[results,Tryz.results83,go_sem,y30,y31,y32,y40,y41,y42]) rfl ⟨by rw[HS.out,HGO.out]<;>rfl,?_⟩
        exact((((((hb03.setCell (p:=⟨w.heap.size+1+1+1,0,none⟩) (by show w.heap.size≤w.heap.size+1+1+1;omega) _).setCell (p:=⟨w.heap.size+1+1+1,1,none⟩) (by show w.heap.size≤w.heap.size+1+1+1;omega) _).setCell (p:=⟨w.heap.size+1+1+1,2,none⟩) (by show w.heap.size≤w.heap.size+1+1+1;omega) _).setCell (p:=⟨w.heap.size+1+1+1+1,0,none⟩) (by show w.heap.size≤w.heap.size+1+1+1+1;omega) _).setCell (p:=⟨w.heap.size+1+1+1+1,1,none⟩) (by show w.heap.size≤w.heap.size+1+1+1+1;omega) _).setCell (p:=⟨w.heap.size+1+1+1+1,2,none⟩) (by show w.heap.size≤w.heap.size+1+1+1+1;omega) _).drew
      · have hnn: ¬(mw=1∨tw=0):=by omega
        have HS:=hid (show Mg.stays ⟨bw,bt,bv⟩ ⟨mw,mt,mv⟩ ⟨tw,tt,tv⟩=⟨tw,tt,tv⟩from by rw[Mg.stays,if_neg hno,if_neg hnt,if_neg hnn]);have HGO:=hid (show Mg.goes ⟨bw,bt,bv⟩ ⟨mw,mt,mv⟩ ⟨tw,tt,tv⟩=⟨mw,mt,mv⟩from by rw[Mg.goes,if_neg hno,if_neg hnt,if_neg hnn]);have Hmt:Hid (((mw==tw) && (mt.toList==tt.toList))=false):=hmt;have Hmb:Hid (((mw==bw) && (mt.toList==bt.toList))=false):=hmb;have Htb:Hid (((tw==bw) && (tt.toList==bt.toList))=false):=htb;clear hmt hmb htb hno;have ht0':(tw==0)=false:=by simpa using ht0
        clear hm1 hnt ht0 hnn;go_enter Tryz.func83,Tryz.ntmps83
        go_wp2_with fail;rw[←hwz];clear hwz;refine(like_any mw tw mt tt mv tv _).mono ?_
        rintro e w1 ⟨rfl,hb1⟩;rw[Hmt.out];have hb01:=below_tr hbz hb1;replace HX0:=hid (HX0.out.below hb1);replace HX1:=hid (HX1.out.below hb1);replace HX2:=hid (HX2.out.below hb1);replace HX3:=hid (HX3.out.below hb1);replace HX4:=hid (HX4.out.below hb1);try clear x00
        try clear x01
        try clear x02
        try clear x10
        try clear x11
        try clear x12
        try clear x20
        try clear x21
        try clear x22
        have x00:=HX0.out.cell 0 rfl;have x01:=HX0.out.cell 1 rfl;have x02:=HX0.out.cell 2 rfl;have x10:=HX1.out.cell 0 rfl;have x11:=HX1.out.cell 1 rfl;have x12:=HX1.out.cell 2 rfl;have x20:=HX2.out.cell 0 rfl;have x21:=HX2.out.cell 1 rfl;have x22:=HX2.out.cell 2 rfl;go_wp2_with fail;refine(like_any mw bw mt bt mv bv _).mono ?_
        rintro e w2 ⟨rfl,hb2⟩;rw[Hmb.out];have hb02:=below_tr hb01 hb2;replace HX0:=hid (HX0.out.below hb2);replace HX1:=hid (HX1.out.below hb2);replace HX2:=hid (HX2.out.below hb2);replace HX3:=hid (HX3.out.below hb2);replace HX4:=hid (HX4.out.below hb2);try clear x00
        try clear x01
        try clear x02
        try clear x10
        try clear x11
        try clear x12
        try clear x20
        try clear x21
        try clear x22
        have x00:=HX0.out.cell 0 rfl;have x01:=HX0.out.cell 1 rfl;have x02:=HX0.out.cell 2 rfl;have x10:=HX1.out.cell 0 rfl;have x11:=HX1.out.cell 1 rfl;have x12:=HX1.out.cell 2 rfl;have x20:=HX2.out.cell 0 rfl;have x21:=HX2.out.cell 1 rfl;have x22:=HX2.out.cell 2 rfl;go_wp2_with fail;refine(like_any tw bw tt bt tv bv _).mono ?_
        rintro e w3 ⟨rfl,hb3⟩;rw[Htb.out];have hb03:=below_tr hb02 hb3;replace HX0:=hid (HX0.out.below hb3);replace HX1:=hid (HX1.out.below hb3);replace HX2:=hid (HX2.out.below hb3);replace HX3:=hid (HX3.out.below hb3);replace HX4:=hid (HX4.out.below hb3);try clear x00
        try clear x01
        try clear x02
        try clear x10
        try clear x11
        try clear x12
        try clear x20
        try clear x21
        try clear x22
        have x00:=HX0.out.cell 0 rfl;have x01:=HX0.out.cell 1 rfl;have x02:=HX0.out.cell 2 rfl;have x10:=HX1.out.cell 0 rfl;have x11:=HX1.out.cell 1 rfl;have x12:=HX1.out.cell 2 rfl;have x20:=HX2.out.cell 0 rfl;have x21:=HX2.out.cell 1 rfl;have x22:=HX2.out.cell 2 rfl;have y30:=HX3.out.cell 0 rfl;have g30:=HX3.out.fr 0;have y31:=HX3.out.cell 1 rfl;have g31:=HX3.out.fr 1;have y32:=HX3.out.cell 2 rfl;have g32:=HX3.out.fr 2;have y40:=HX4.out.cell 0 rfl;have g40:=HX4.out.fr 0;have y41:=HX4.out.cell 1 rfl;have g41:=HX4.out.fr 1;have y42:=HX4.out.cell 2 rfl;have g42:=HX4.out.fr 2;go_wp2_with fail;go_region
        go_wp2_with fail;refine bodyPost_ret (v:= .tuple #[.agg #[.int .i64 tw,.string tt,.int .i64 tv],.agg #[.int .i64 mw,.string mt,.int .i64 mv]]) (by simp[results,Tryz.results83,go_sem,y30,y31,y32,y40,y41,y42]) rfl ⟨by rw[HS.out,HGO.out]<;>rfl,?_⟩
        exact((((((hb03.setCell (p:=⟨w.heap.size+1+1+1,0,none⟩) (by show w.heap.size≤w.heap.size+1+1+1;omega) _).setCell (p:=⟨w.heap.size+1+1+1,1,none⟩) (by show w.heap.size≤w.heap.size+1+1+1;omega) _).setCell (p:=⟨w.heap.size+1+1+1,2,none⟩) (by show w.heap.size≤w.heap.size+1+1+1;omega) _).setCell (p:=⟨w.heap.size+1+1+1+1,0,none⟩) (by show w.heap.size≤w.heap.size+1+1+1+1;omega) _).setCell (p:=⟨w.heap.size+1+1+1+1,1,none⟩) (by show w.heap.size≤w.heap.size+1+1+1+1;omega) _).setCell (p:=⟨w.heap.size+1+1+1+1,2,none⟩) (by show w.heap.size≤w.heap.size+1+1+1+1;omega) _).drew
end Go.Proofs.YtagibnejodgeeaaGreatDoor
