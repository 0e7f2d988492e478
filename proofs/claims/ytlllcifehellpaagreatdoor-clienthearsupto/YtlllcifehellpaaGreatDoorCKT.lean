/- The reference's merge as mathematics: paths put in order, what stays and goes with one version, and that it is alike to what the program has. -/
import Derived.Test.YtlllcifehellpaaGreatDoorCKS
import Derived.Test.YtlllcifehellpaaGreatDoorCKO
import Derived.Test.YtlllcifehellpaaGreatDoorCKP
import Derived.Test.YtlllcifehellpaaGreatDoorCKM
import Derived.Test.YtlllcifehellpaaGreatDoorCKJ
set_option linter.unusedSimpArgs false
set_option linter.unusedVariables false
namespace Go.Proofs.YtlllcifehellpaaGreatDoor
open Go.RowKit Go.Maps

namespace Mg
def pths (L:List En):List (List UInt8):=L.map (fun e=>e.path.data.toList)
def bare (e:En):En:=⟨e.path,false,⟨#[]⟩,0⟩
theorem pths_bare (L:List En):pths (L.map bare)=pths L:=by simp[pths,bare]
theorem pths_ext {X Y:List En} (hX:Sp.Rise X) (hY:Sp.Rise Y) (h: ∀p:List UInt8,(∃x∈X,x.path.data.toList=p)↔ ∃y∈Y,y.path.data.toList=p):pths X=pths Y:=by
 have one: ∀{X Y:List En},(∀p:List UInt8,(∃x∈X,x.path.data.toList=p)→ ∃y∈Y,y.path.data.toList=p)→ ∀e,e∈X.map bare→e∈Y.map bare:=by
  intro X Y h e he;obtain⟨x,hx,rfl⟩:=List.mem_map.1 he
  obtain⟨y,hy,hp⟩:=h _ ⟨x,hx,rfl⟩
  exact List.mem_map.2 ⟨y,hy,by rw[bare,bare,ba_ext hp]⟩
 have:X.map bare=Y.map bare:=rise_ext (map_rise (f:=bare) (fun _=>rfl) hX) (map_rise (f:=bare) (fun _=>rfl) hY) (fun e=>⟨one (fun p=>(h p).1) e,one (fun p=>(h p).2) e⟩)
 rw[←pths_bare X,this,pths_bare]
/-- One that is there already. -/
theorem pths_there {e:En} {L:List En} (hL:Sp.Rise L) (h:e.path.data.toList∈pths L):pths (Sp.put1 e L)=pths L:=by
 obtain⟨z,hz,hzp⟩:=List.mem_map.1 h
 refine pths_ext (Sp.put1_rise hL) hL (fun p=>⟨?_,?_⟩)
 · rintro ⟨x,hx,rfl⟩
   rcases Sp.mem_put1.1 hx with rfl|⟨hx,_⟩
   · exact⟨z,hz,hzp⟩
   · exact⟨x,hx,rfl⟩
 · rintro ⟨y,hy,rfl⟩
   by_cases he:y.path.data.toList=e.path.data.toList
   · exact⟨e,Sp.mem_put1.2 (Or.inl rfl),he.symm⟩
   · exact⟨y,Sp.mem_put1.2 (Or.inr ⟨hy,he⟩),rfl⟩
theorem lt_less {x y:En}:Pp.lt x y=Op.bytesLess x.path.data.toList y.path.data.toList:=by rw[Pp.lt,Lib.toList_data,Lib.toList_data]
/-- One that is new, where it belongs. -/
theorem pths_new {e:En} {L:List En} (hL:Sp.Rise L) (h:e.path.data.toList∉pths L) {k:Nat} (hk:k≤L.length) (h1: ∀i (hi:i<k),Op.bytesLess ((L[i]'(by omega)).path.data.toList) e.path.data.toList=true) (h2: ∀hk:k<L.length,Op.bytesLess (L[k].path.data.toList) e.path.data.toList=false):pths (Sp.put1 e L)=(pths L).take k++e.path.data.toList::(pths L).drop k:=by
 have hne: ∀x∈L,x.path.data.toList≠e.path.data.toList:=fun x hx hp=>h (List.mem_map.2 ⟨x,hx,hp⟩)
 have ht: ∀x∈L.take k,Pp.lt x e=true:=fun x hx=>by
  obtain⟨i,hi,rfl⟩:=List.getElem_of_mem hx
  rw[List.length_take]at hi;rw[List.getElem_take,lt_less];exact h1 i (by omega)
 have hd: ∀x∈L.drop k,Pp.lt e x=true:=fun x hx=>by
  obtain⟨i,hi,rfl⟩:=List.getElem_of_mem hx
  rw[List.length_drop]at hi;rw[List.getElem_drop];have hk2:k<L.length:=by omega
  have a1:Pp.lt L[k] e=false:=by rw[lt_less];exact h2 hk2
  have a2:Pp.lt e L[k]=true:=by
   cases hc:Pp.lt e L[k]with
   |true=>rfl
   |false=>exact absurd (Pp.lt_same a1 hc) (hne _ (List.getElem_mem hk2))
  rcases Nat.eq_zero_or_pos i with h0|h0
  · subst h0;simpa using a2
  · exact Pp.lt_trans _ _ _ a2 (List.pairwise_iff_getElem.1 hL k (k+i) hk2 (by omega) (by omega))
 have hr:Sp.Rise (L.take k++e::L.drop k):=by
  have h3:Sp.Rise (L.take k):=List.Pairwise.sublist (List.take_sublist k L) hL;have h4:Sp.Rise (L.drop k):=List.Pairwise.sublist (List.drop_sublist k L) hL;refine List.pairwise_append.2 ⟨h3,List.pairwise_cons.2 ⟨hd,h4⟩,fun a ha b hb=>?_⟩
  rcases List.mem_cons.1 hb with rfl|hb
  · exact ht a ha
  · exact Pp.lt_trans _ _ _ (ht a ha) (hd b hb)
 have he:Sp.put1 e L=L.take k++e::L.drop k:=rise_ext (Sp.put1_rise hL) hr (fun x=>by
  rw[Sp.mem_put1,List.mem_append,List.mem_cons];constructor
  · rintro (rfl|⟨hx,_⟩)
    · exact Or.inr (Or.inl rfl)
    · rw[←List.take_append_drop k L,List.mem_append]at hx
      rcases hx with hx|hx
      · exact Or.inl hx
      · exact Or.inr (Or.inr hx)
  · rintro (hx|rfl|hx)
    · exact Or.inr ⟨List.mem_of_mem_take hx,hne x (List.mem_of_mem_take hx)⟩
    · exact Or.inl rfl
    · exact Or.inr ⟨List.mem_of_mem_drop hx,hne x (List.mem_of_mem_drop hx)⟩)
 rw[he,pths,pths,List.map_append,List.map_cons,List.map_take,List.map_drop]
theorem over_nil {B:List En} (h:Sp.Rise B):over [] B=B:=by
 refine rise_ext (over_rise List.Pairwise.nil B) h (fun e=>?_)
 have ha:=at_over (L:=[]) List.Pairwise.nil B (Sp.apart_rise h);constructor
 · intro he
   rcases over_mem he with he|he
   · cases he
   · exact he
 · intro he
   have h1:=ha e.path.data.toList;rw[at_mem h he]at h1;exact((Sp.at_iff (Sp.apart_rise (over_rise List.Pairwise.nil B))).1 h1).1
theorem over_take {L M:List En} {k:Nat} (h:k<M.length):over L (M.take (k+1))=Sp.put1 M[k] (over L (M.take k)):=by
 rw[List.take_succ_eq_append_getElem h,over_snoc]
/-- What is settled, with the version that all have till the end. -/
def one (s:Spo):Spo:=if s.w=0 then zero else⟨s.w,s.t,1⟩
theorem one_ok {s:Spo} (h:Ok s):Ok (one s):=by
 rw[one];split
 · exact Or.inl rfl
 · rename_i h0
   rcases h with h|h|h
   · rw[h]at h0;exact absurd rfl h0
   · exact Or.inr (Or.inl h)
   · exact Or.inr (Or.inr h)
theorem one_lk {s:Spo} (h:Ok s):lk s (one s)=true:=by
 rw[one];split
 · rename_i h0
   rw[h.zero h0];exact lk_refl _
 · exact lk_iff.2 ⟨rfl,rfl⟩
theorem one_w (s:Spo):(one s).w=s.w:=by
 rw[one];split
 · rename_i h;rw[h];rfl
 · rfl
theorem one_zero {s:Spo} (h:s=zero):one s=zero:=by rw[h];rfl
def fR (B M T:List En) (p:List UInt8):Spo:=one (fS B M T p)
def nowR (B M T:List En) (U:List En):List En:=sets (fR B M T) U
theorem sets_take {f:List UInt8→Spo} {U:List En} (h:Sp.Rise U) {k:Nat} (hk:k<U.length) (h0: ¬(f U[k].path.data.toList).w=0):sets f (U.take (k+1))=sets f (U.take k)++[enOf U[k].path (f U[k].path.data.toList)]:=by
 rw[sets,List.take_succ_eq_append_getElem hk,List.filterMap_append];simp[sets,List.filterMap_cons,set1,h0]
theorem sets_take0 {f:List UInt8→Spo} {U:List En} {k:Nat} (hk:k<U.length) (h0:(f U[k].path.data.toList).w=0):sets f (U.take (k+1))=sets f (U.take k):=by
 rw[sets,List.take_succ_eq_append_getElem hk,List.filterMap_append];simp[sets,List.filterMap_cons,set1,h0]
theorem sets_put {f:List UInt8→Spo} {U:List En} (h:Sp.Rise U) {k:Nat} (hk:k<U.length) (h0: ¬(f U[k].path.data.toList).w=0):sets f (U.take (k+1))=Sp.put1 (enOf U[k].path (f U[k].path.data.toList)) (sets f (U.take k)):=by
 have hr: ∀n,Sp.Rise (sets f (U.take n)):=fun n=>sets_rise (List.Pairwise.sublist (List.take_sublist n U) h)
 have hlt: ∀x∈sets f (U.take k),x.path.data.toList≠U[k].path.data.toList:=fun x hx hp=>by
  obtain⟨e,he,hs⟩:=mem_sets.1 hx
  obtain⟨i,hi,rfl⟩:=List.getElem_of_mem he
  rw[List.length_take]at hi;rw[List.getElem_take]at hs;have hl:=List.pairwise_iff_getElem.1 h i k (by omega) hk (by omega);rw[(set1_path hs).1]at hp;exact Pp.lt_dif hl hp
 refine rise_ext (hr _) (Sp.put1_rise (hr _)) (fun x=>?_)
 rw[sets_take h hk h0,Sp.mem_put1,List.mem_append,List.mem_singleton];constructor
 · rintro (hx|hx)
   · exact Or.inr ⟨hx,hlt x hx⟩
   · exact Or.inl hx
 · rintro (hx|⟨hx,_⟩)
   · exact Or.inr hx
   · exact Or.inl hx
theorem st_nowR {B M T:List En} (h:Sp.Rise B) (hM:Sp.Apart M) (hT:Sp.Apart T) (p:List UInt8):st (nowR B M T (uni B M T)) p=one (fS B M T p):=st_sets (uni_rise h M T) (fun p=>one_ok (fS_ok B M T p)) (fun p hp=>one_zero (fS_none h hM hT p hp)) p
theorem sim_now {B M T:List En} (h:Sp.Rise B) (hM:Sp.Apart M) (hT:Sp.Apart T):Sim (now0 B M T) (nowR B M T (uni B M T)):=fun p=>by
 rw[st_now0 h hM hT,st_nowR h hM hT];exact one_lk (fS_ok B M T p)
theorem sim_trans {N N' N'':List En} (h:Sim N N') (h1:Sim N' N''):Sim N N'':=fun p=>lk_trans (h p) (h1 p)
theorem sim_len {N N':List En} (hN:Sp.Rise N) (hN':Sp.Rise N') (h:Sim N N'):N.length=N'.length:=by
 have:=congrArg List.length (strips_eq hN hN' h)
 simpa using this
theorem sim_get {N N':List En} (hN:Sp.Rise N) (hN':Sp.Rise N') (h:Sim N N') {i:Nat} (hi:i<N.length) (hi':i<N'.length):N[i].path=N'[i].path∧Sp.wh N[i]=Sp.wh N'[i]∧Sp.tx N[i]=Sp.tx N'[i]:=by
 have he:=strips_eq hN hN' h;have h3:(N.map strip)[i]'(by simpa using hi)=(N'.map strip)[i]'(by simpa using hi'):=by simp only[he]
 rw[List.getElem_map,List.getElem_map]at h3;have e1:N[i].path=N'[i].path:=(congrArg En.path h3:(strip N[i]).path=(strip N'[i]).path)
 have e2:(Sp.wh N[i]==1)=(Sp.wh N'[i]==1):=(congrArg En.folder h3:(strip N[i]).folder=(strip N'[i]).folder)
 have e3:Sp.tx N[i]=Sp.tx N'[i]:=(congrArg En.text h3:(strip N[i]).text=(strip N'[i]).text)
 refine⟨e1,?_,e3⟩
 rcases wh_12 N[i]with h1|h1<;>rcases wh_12 N'[i]with h2|h2
 · rw[h1,h2]
 · rw[h1,h2]at e2;cases e2
 · rw[h1,h2]at e2;cases e2
 · rw[h1,h2]
theorem sim_pths {N N':List En} (hN:Sp.Rise N) (hN':Sp.Rise N') (h:Sim N N'):N.map En.path=N'.map En.path:=by
 refine List.ext_getElem (by simpa using sim_len hN hN' h) (fun i h1 h2=>?_)
 rw[List.getElem_map,List.getElem_map];exact(sim_get hN hN' h (by simpa using h1) (by simpa using h2)).1
theorem allP_map (N:List En):allP N N.length=(N.map En.path).flatMap (fun p=>pres p p.size):=by
 rw[allP,List.take_length,List.flatMap_map]
theorem sim_allP {N N':List En} (hN:Sp.Rise N) (hN':Sp.Rise N') (h:Sim N N'):allP N N.length=allP N' N'.length:=by
 rw[allP_map,allP_map,sim_pths hN hN' h]
theorem sim_outs {M T N N':List En} (hN:Sp.Rise N) (hN':Sp.Rise N') (h:Sim N N'):outs M T N=outs M T N':=by
 refine List.ext_getElem (by rw[outs,outs,List.length_map,List.length_map];exact sim_len hN hN' h) (fun i h1 h2=>?_)
 have hi:i<N.length:=by rw[outs,List.length_map]at h1;exact h1
 have hi':i<N'.length:=by rw[outs,List.length_map]at h2;exact h2
 obtain⟨e1,e2,e3⟩:=sim_get hN hN' h hi hi'
 simp only[outs,List.getElem_map]
 have hv: ∀p,ver M T N p=ver M T N' p:=fun p=>by
  have hl: ∀s:Spo,lk (st N p) s=lk (st N' p) s:=fun s=>by
   cases hc:lk (st N' p) s with
   |true=>exact lk_trans (h p) hc
   |false=>
    cases hd:lk (st N p) s with
    |false=>rfl
    |true=>exact absurd (lk_trans (lk_symm (h p)) hd) (by rw[hc];decide)
  rw[ver,ver,hl,hl]
 rw[out1,out1,e1,e2,e3,hv]
/-- Asides of lists that are alike. -/
theorem asds_sim {M T:List En}: ∀(A N N':List En) (C:CC),Sp.Rise N→Sp.Rise N'→Sim N N'→(∀a∈A,Sp.wh a=2)→ ∀(f:En→En),(∀a∈A,(f a).path=a.path∧Sp.wh (f a)=2∧Sp.tx (f a)=Sp.tx a)→(asds M T A (N,C)=none→asds M T (A.map f) (N',C)=none)∧ ∀X Y,asds M T A (N,C)=some (X,Y)→ ∃X',asds M T (A.map f) (N',C)=some (X',Y)∧Sp.Rise X∧Sp.Rise X'∧Sim X X'
 |[],N,N',C,hN,hN',h,_,f,_=>⟨fun hh=>(by cases hh),fun X Y hh=>by
  injection hh with hh
  injection hh with e1 e2
  rw[←e1,←e2];exact⟨N',rfl,hN,hN',h⟩⟩
 |a::r,N,N',C,hN,hN',h,hw,f,hf=>by
  obtain⟨f1,f2,f3⟩:=hf a (by simp)
  rw[List.map_cons,asds,asds,f1,asd_sim h];cases hq:asd M T N' a.path.data.toList with
  |none=>exact⟨fun _=>rfl,fun X Y hh=>by cases hh⟩
  |some q=>
   exact asds_sim r _ _ _ (Sp.put1_rise hN) (Sp.put1_rise hN') (h.put (e:=file q (spo a)) (e':=file q (spo (f a))) hN hN' rfl (lk_iff.2 ⟨rfl,f3.symm⟩)) (fun x hx=>hw x (by simp[hx])) f (fun x hx=>hf x (by simp[hx]))
end Mg
end Go.Proofs.YtlllcifehellpaaGreatDoor
namespace Go.Proofs.YtlllcifehellpaaGreatDoor
open Go.RowKit Go.Maps

namespace Mg
def fold1 (q:ByteArray):En:=⟨q,true,⟨#[]⟩,1⟩
/-- One folder, as the reference makes it. -/
def mkR (M T N:List En) (C:CC) (q:ByteArray):Option (List En×CC):=
 if(st N q.data.toList).w=1 then some (N,C)else if(st N q.data.toList).w=2 then(asd M T (Sp.put1 (fold1 q) N) q.data.toList).map (fun r=>(Sp.put1 (file r ⟨2,(st N q.data.toList).t,1⟩) (Sp.put1 (fold1 q) N),C++[(q,⟨r.toArray⟩)]))else some (Sp.put1 (fold1 q) N,C)
def mksR (M T:List En):List ByteArray→List En×CC→Option (List En×CC)
 |[],s=>some s
 |q::r,s=>(mkR M T s.1 s.2 q).bind (mksR M T r)
theorem mksR_app (M T:List En): ∀(a b:List ByteArray) (s:List En×CC),mksR M T (a++b) s=(mksR M T a s).bind (mksR M T b)
 |[],b,s=>rfl
 |q::r,b,s=>by
  rw[List.cons_append,mksR,mksR,Option.bind_assoc];congr 1
  funext t
  exact mksR_app M T r b t
theorem mksR_none {M T:List En} {a b:List ByteArray} {q:ByteArray} {s:List En×CC} {N:List En} {C:CC} (h:mksR M T a s=some (N,C)) (h1:mkR M T N C q=none):mksR M T (a++[q]++b) s=none:=by
 rw[mksR_app,mksR_app,h];simp[mksR,h1]
theorem mksR_some {M T:List En} {a:List ByteArray} {q:ByteArray} {s t:List En×CC} {N:List En} {C:CC} (h:mksR M T a s=some (N,C)) (h1:mkR M T N C q=some t):mksR M T (a++[q]) s=some t:=by
 rw[mksR_app,h];simp[mksR,h1]
theorem asdF_free {M T N N':List En} (h: ∀r,free M T N r=free M T N' r) (p:List UInt8): ∀f n,asdF M T N p f n=asdF M T N' p f n
 |0,_=>rfl
 |f+1,n=>by rw[asdF,asdF,h,asdF_free h p f (n+1)]
theorem asd_fold1 {M T N:List En} {q:ByteArray} (hN:Sp.Rise N) (h:(st N q.data.toList).w=2) (p:List UInt8):asd M T (Sp.put1 (fold1 q) N) p=asd M T N p:=by
 refine asdF_free (fun r=>?_) p 99 1
 rw[free,free,st_put1 hN];by_cases hr:(fold1 q).path.data.toList=r
 · rw[if_pos hr]
   have hr':q.data.toList=r:=hr;have e1:((spo (fold1 q)).w==0)=false:=rfl;have e2:((st N r).w==0)=false:=by rw[←hr',h];rfl
   rw[e1,e2]
 · rw[if_neg hr]
theorem mkR_sim {M T N N':List En} {C:CC} {q:ByteArray} (hN:Sp.Rise N) (hN':Sp.Rise N') (h:Sim N N'):(mkf M T N C q=none→mkR M T N' C q=none)∧ ∀X Y,mkf M T N C q=some (X,Y)→ ∃X',mkR M T N' C q=some (X',Y)∧Sp.Rise X∧Sp.Rise X'∧Sim X X':=by
 have hw:=h.w q.data.toList;have ht:=(lk_iff.1 (h q.data.toList)).2;by_cases h2:(st N q.data.toList).w=2
 · have h2':(st N' q.data.toList).w=2:=by omega
   have h1': ¬(st N' q.data.toList).w=1:=by omega
   have ha0:asd M T (Sp.put1 (fold1 q) N') q.data.toList=asd M T N q.data.toList:=by rw[asd_fold1 hN' h2',asd_sim h]
   rw[mkR,if_neg h1',if_pos h2',ha0];cases ha:asd M T N q.data.toList with
   |none=>
    rw[mkf_no h2 ha];exact⟨fun _=>rfl,fun X Y hh=>by cases hh⟩
   |some r=>
    rw[mkf_some h2 ha];refine⟨fun hh=>(by cases hh),fun X Y hh=>?_⟩
    injection hh with hh
    injection hh with e1 e2
    rw[←e1,←e2];have hr1:=Sp.put1_rise (e:=file r (st N q.data.toList)) hN;have hr2:=Sp.put1_rise (e:=fold1 q) hN';refine⟨_,rfl,Sp.put1_rise hr1,Sp.put1_rise hr2,fun p=>?_⟩
    have hfr:=(asd_some ha).2.2.2
    have hne: ¬r=q.data.toList:=fun e=>by
     rw[e,free,h2]at hfr;simp at hfr
    rw[st_put1 hr1,st_put1 hN,st_put1 hr2,st_put1 hN'];have p1: ∀s,(file r s).path.data.toList=r:=fun s=>by simp[file]
    have p2:(fold q).path.data.toList=q.data.toList:=rfl;have p3:(fold1 q).path.data.toList=q.data.toList:=rfl;rw[p1,p1,p2,p3];by_cases hq:q.data.toList=p
    · rw[if_pos hq,if_neg (fun e=>hne (e.trans hq.symm)),if_pos hq]
      exact lk_iff.2 ⟨rfl,rfl⟩
    · rw[if_neg hq]
      by_cases hrp:r=p
      · rw[if_pos hrp,if_pos hrp]
        exact lk_iff.2 ⟨rfl,ht⟩
      · rw[if_neg hrp,if_neg hrp,if_neg hq]
        exact h p
 · have h2': ¬(st N' q.data.toList).w=2:=by omega
   rw[mkf_else h2];refine⟨fun hh=>(by cases hh),fun X Y hh=>?_⟩
   injection hh with hh
   injection hh with e1 e2
   rw[←e1,←e2];by_cases h1:(st N' q.data.toList).w=1
   · refine⟨N',by rw[mkR,if_pos h1],Sp.put1_rise hN,hN',fun p=>?_⟩
     rw[st_put1 hN];split
     · rename_i hp
       have hp:q.data.toList=p:=hp;rw[spo_fold,←hp];exact lk_iff.2 ⟨h1.symm,((ok_st N' q.data.toList).fold h1).symm⟩
     · exact h p
   · refine⟨Sp.put1 (fold1 q) N',by rw[mkR,if_neg h1,if_neg h2'],Sp.put1_rise hN,Sp.put1_rise hN',h.put (e:=fold q) (e':=fold1 q) hN hN' rfl (lk_iff.2 ⟨rfl,rfl⟩)⟩
theorem mksR_sim {M T:List En}: ∀(Q:List ByteArray) (N N':List En) (C:CC),Sp.Rise N→Sp.Rise N'→Sim N N'→(mks M T Q (N,C)=none→mksR M T Q (N',C)=none)∧ ∀X Y,mks M T Q (N,C)=some (X,Y)→ ∃X',mksR M T Q (N',C)=some (X',Y)∧Sp.Rise X∧Sp.Rise X'∧Sim X X'
 |[],N,N',C,hN,hN',h=>⟨fun hh=>(by cases hh),fun X Y hh=>by
  injection hh with hh
  injection hh with e1 e2
  rw[←e1,←e2];exact⟨N',rfl,hN,hN',h⟩⟩
 |q::r,N,N',C,hN,hN',h=>by
  obtain⟨k1,k2⟩:=mkR_sim (M:=M) (T:=T) (C:=C) (q:=q) hN hN' h
  rw[mks,mksR];cases hq:mkf M T N C q with
  |none=>
   rw[k1 hq];exact⟨fun _=>rfl,fun X Y hh=>by cases hh⟩
  |some x=>
   obtain⟨X1,Y1⟩:=x
   obtain⟨X1',e1,r1,r2,s1⟩:=k2 X1 Y1 hq
   rw[e1];exact mksR_sim r X1 X1' Y1 r1 r2 s1
/-- The folders of a path, by its bytes. -/
def preL:List UInt8→List (List UInt8)
 |[]=>[]
 |c::r=>if c=47 then[]::(preL r).map (47:: ·)else(preL r).map (c:: ·)
theorem preL_range: ∀l:List UInt8,(List.range l.length).filterMap (fun i=>if l[i]?=some 47 then some (l.take i)else none)=preL l
 |[]=>rfl
 |c::r=>by
  have ih:=preL_range r;rw[List.length_cons,List.range_succ_eq_map,List.filterMap_cons,List.filterMap_map]
  have e:((fun i=>if(c::r)[i]?=some 47 then some ((c::r).take i)else none)∘Nat.succ)=fun i=>(if r[i]?=some 47 then some (r.take i)else none).map (c:: ·):=by
   funext i
   simp only[Function.comp,Nat.succ_eq_add_one,List.getElem?_cons_succ,List.take_succ_cons];split<;>rfl
  have e2:(List.range r.length).filterMap (fun i=>(if r[i]?=some 47 then some (r.take i)else none).map (c:: ·))=(preL r).map (c:: ·):=by
   rw[←ih,List.map_filterMap]
  rw[e,e2,preL];by_cases hc:c=47
  · subst hc;simp
  · simp[hc]
theorem join_cons {a:List UInt8} {R:List (List UInt8)} (h:R≠[]):Pp.join (a::R)=a++47::Pp.join R:=by
 cases R with
 |nil=>exact absurd rfl h
 |cons b r=>rfl
theorem preL_names: ∀l:List UInt8,preL l=(List.range ((Pp.nm l).length-1)).map (fun k=>Pp.join ((Pp.nm l).take (k+1)))
 |[]=>rfl
 |c::r=>by
  have ih:=preL_names r;have hn:=Pp.nm_ne r;cases e:Pp.nm r with
  |nil=>exact absurd e hn
  |cons h t=>
   rw[e]at ih;rw[preL,Pp.nm,e];by_cases hc:c=47
   · subst hc
     rw[if_pos rfl,if_pos rfl,ih];simp only[List.length_cons,Nat.add_sub_cancel,List.range_succ_eq_map,List.map_cons,List.map_map];refine List.cons_eq_cons.2 ⟨rfl,?_⟩
     refine List.map_congr_left (fun k _=>?_)
     simp only[Function.comp,Nat.succ_eq_add_one,List.take_succ_cons];rw[join_cons (a:=[]) (by simp)];rfl
   · rw[if_neg hc,if_neg hc,ih]
     simp only[List.length_cons,Nat.add_sub_cancel,List.map_map];refine List.map_congr_left (fun k _=>?_)
     simp only[Function.comp,List.take_succ_cons];cases ht:t.take k with
     |nil=>rfl
     |cons b u=>rfl
def presN (p:ByteArray) (k:Nat):List ByteArray:=(List.range k).map (fun j=>(⟨(Pp.join ((Pp.nm p.data.toList).take (j+1))).toArray⟩:ByteArray))
theorem presN_succ (p:ByteArray) (k:Nat):presN p (k+1)=presN p k++[⟨(Pp.join ((Pp.nm p.data.toList).take (k+1))).toArray⟩]:=by
 rw[presN,presN,List.range_succ,List.map_append];rfl
theorem extract_take (p:ByteArray) (i:Nat):p.extract 0 i=⟨(p.data.toList.take i).toArray⟩:=by
 refine ba_ext ?_
 rw[ByteArray.data_extract];simp[Array.toList_extract,List.extract]
theorem pres_names (p:ByteArray):pres p p.size=presN p ((Pp.nm p.data.toList).length-1):=by
 have h1:pres p p.size=(preL p.data.toList).map (fun x=>(⟨x.toArray⟩:ByteArray)):=by
  rw[←preL_range,List.map_filterMap,pres];have hl:p.data.toList.length=p.size:=Array.length_toList;rw[hl];refine congrArg (fun f=>List.filterMap f (List.range p.size)) ?_
  funext i
  rw[extract_take];split<;>rfl
 rw[h1,preL_names,presN,List.map_map];rfl
/-- All folders of the first paths. -/
def allR (N:List En) (k:Nat):List ByteArray:=(N.take k).flatMap (fun e=>presN e.path ((Pp.nm e.path.data.toList).length-1))
theorem allR_eq (N:List En) (k:Nat):allR N k=allP N k:=by
 rw[allR,allP];refine congrArg (fun f=>List.flatMap f (N.take k)) ?_
 funext e
 rw[pres_names]
theorem allR_succ {N:List En} {k:Nat} (hk:k<N.length):allR N (k+1)=allR N k++presN N[k].path ((Pp.nm N[k].path.data.toList).length-1):=by
 rw[allR,allR,List.take_succ_eq_append_getElem hk,List.flatMap_append];simp
theorem allR_more (N:List En) {k:Nat} (h:k≤N.length): ∃r,allR N N.length=allR N k++r:=by
 refine⟨(N.drop k).flatMap (fun e=>presN e.path ((Pp.nm e.path.data.toList).length-1)),?_⟩
 rw[allR,allR,←List.flatMap_append,List.take_length,List.take_append_drop]
theorem presN_more (p:ByteArray) {k n:Nat} (h:k≤n): ∃r,presN p n=presN p k++r:=by
 refine⟨(presN p n).drop k,?_⟩
 have:(presN p n).take k=presN p k:=by
  rw[presN,presN,←List.map_take,List.take_range,Nat.min_eq_left h]
 rw[←this,List.take_append_drop]
theorem chk_pre2 {p:List UInt8} (h:Pp.chk p=0) {k:Nat} (hk:k+1<(Pp.nm p).length):Pp.chk (Pp.join ((Pp.nm p).take (k+1)))=0:=by
 have hm:Pp.join ((Pp.nm p).take (k+1))∈preL p:=by
  rw[preL_names];exact List.mem_map.2 ⟨k,List.mem_range.2 (by omega),rfl⟩
 rw[←preL_range,List.mem_filterMap]at hm;obtain⟨i,hi,he⟩:=hm
 split at he
 · rename_i h47
   injection he with he
   rw[←he];have hlt:i<p.length:=List.mem_range.1 hi
   have e2:p[i]=47:=by
    rw[List.getElem?_eq_getElem hlt]at h47;injection h47
   have hp:p=p.take i++47::p.drop (i+1):=by rw[←e2,List.getElem_cons_drop,List.take_append_drop]
   generalize p.take i=a at*;generalize p.drop (i+1)=b at*;have hn:=Pp.chk_names h;have hb:=Pp.chk_not_big h;rw[hp,Pp.nm_app]at hn;rw[List.all_append,Bool.and_eq_true]at hn;rw[Pp.chk_big hn.1]
   have:Pp.big a=false:=by
    rw[hp,Pp.big,Pp.nm_app]at hb;rw[Pp.big];simp only[List.length_append,List.length_cons,Bool.or_eq_false_iff,decide_eq_false_iff_not]at hb⊢;omega
   rw[this];rfl
 · cases he
end Mg
end Go.Proofs.YtlllcifehellpaaGreatDoor
namespace Go.Proofs.YtlllcifehellpaaGreatDoor
open Go.RowKit Go.Maps

namespace Mg
theorem st_ways (L:List En) (p:List UInt8):(Pp.idx L p= -1∧st L p=⟨0,⟨#[]⟩,0⟩)∨(∃k,∃h:k<L.length,Pp.idx L p=(k:Int)∧L[k].folder=true∧st L p=⟨1,⟨#[]⟩,L[k].ver⟩)∨ ∃k,∃h:k<L.length,Pp.idx L p=(k:Int)∧L[k].folder=false∧st L p=⟨2,L[k].text,L[k].ver⟩:=by
 rcases Pp.idx_cases L p with⟨h1,h2⟩|⟨k,h,h1,h2⟩
 · exact Or.inl ⟨h1,st_none h2⟩
 · have h3:st L p=spo L[k]:=st_some h2
   cases hf:L[k].folder with
   |true=>exact Or.inr (Or.inl ⟨k,h,h1,hf,by rw[h3,spo,Sp.wh,Sp.tx,if_pos hf,if_pos hf]⟩)
   |false=>exact Or.inr (Or.inr ⟨k,h,h1,hf,by rw[h3,spo,Sp.wh,Sp.tx,if_neg (by rw[hf];decide),if_neg (by rw[hf];decide)]⟩)
end Mg

set_option maxRecDepth 100000 in
set_option maxHeartbeats 2000000 in
theorem stateAt_any (L:List En) (v:Value) (p:ByteArray) (w:World) (hv:Lies w v L):
    Calls Tryz.prog 37 #[v,.string p] w fun e w'=>e= .returned (.tuple #[.int .i64 (Mg.st L p.data.toList).w,.string (Mg.st L p.data.toList).t])∧Below w.heap.size w w':=by
 have HV:=hid hv;obtain⟨a,cap,rfl,hcap,hcap2,hL⟩:=hv
 have HL:=hid hL;clear hL;go_enter Tryz.func37,Tryz.ntmps37
 go_wp2_with fail;refine(entryAt_any L _ p _ HV.out).mono ?_
 rintro e w1 ⟨rfl,hb1⟩;rcases Mg.st_ways L p.data.toList with⟨z1,z2⟩|⟨k,hk,z1,z2,z3⟩|⟨k,hk,z1,z2,z3⟩
 · rw[z1]
   have HZ:=hid z2;clear z1 z2;go_wp2_with fail;refine bodyPost_ret (v:= .tuple #[.int .i64 0,.string ⟨#[]⟩]) (by simp[results,Tryz.results37,go_sem]) rfl ⟨by rw[HZ.out],hb1⟩
 · rw[z1]
   obtain⟨b,o,rfl,hb,he⟩:=HL.out k hk
   obtain⟨c0,c1,c2,c3⟩:=he.below hb hb1
   rw[z2]at c1;have hk2:(k:Int)<L.length:=by omega
   have hk3: ¬(k:Int)<0:=by omega
   have HZ:=hid z3;clear z1 z2 z3 he;go_wp2_with fail;refine bodyPost_ret (v:= .tuple #[.int .i64 1,.string ⟨#[]⟩]) (by simp[results,Tryz.results37,go_sem]) rfl ⟨by rw[HZ.out],hb1⟩
 · rw[z1]
   obtain⟨b,o,rfl,hb,he⟩:=HL.out k hk
   obtain⟨c0,c1,c2,c3⟩:=he.below hb hb1
   rw[z2]at c1;have hk2:(k:Int)<L.length:=by omega
   have hk3: ¬(k:Int)<0:=by omega
   have HZ:=hid z3;clear z1 z2 z3 he;go_wp2_with fail;first|go_region|skip
   all_goals
    try go_wp2_with fail
    refine bodyPost_ret (v:= .tuple #[.int .i64 2,.string L[k].text]) (by simp[results,Tryz.results37,go_sem]) rfl ⟨by rw[HZ.out],(by first|exact hb1.drew|exact hb1)⟩
set_option maxRecDepth 100000 in
set_option maxHeartbeats 2000000 in
theorem alike_any (A B:List En) (va vb:Value) (p:ByteArray) (w:World) (hA:Lies w va A) (hB:Lies w vb B):
    Calls Tryz.prog 38 #[va,vb,.string p] w fun e w'=>e= .returned (.bool (Mg.lk (Mg.st A p.data.toList) (Mg.st B p.data.toList)))∧Below w.heap.size w w':=by
 have HA:=hid hA;have HB:=hid hB;obtain⟨a,cap,rfl,_⟩:=hA
 obtain⟨b,cap',rfl,_⟩:=hB
 have HE:=hid (show Mg.lk (Mg.st A p.data.toList) (Mg.st B p.data.toList)=(((Mg.st A p.data.toList).w==(Mg.st B p.data.toList).w) && ((Mg.st A p.data.toList).t.toList==(Mg.st B p.data.toList).t.toList))from rfl);go_enter Tryz.func38,Tryz.ntmps38
 go_wp2_with fail;refine(stateAt_any A _ p _ HA.out).mono ?_
 rintro e w1 ⟨rfl,hb1⟩;go_wp2_with fail;refine(stateAt_any B _ p _ (HB.out.below hb1)).mono ?_
 rintro e w2 ⟨rfl,hb2⟩;have hb02:=below_tr hb1 hb2;cases hw:((Mg.st A p.data.toList).w==(Mg.st B p.data.toList).w)with
 |true=>
  rw[hw]at HE;go_wp2_with fail;go_ret;exact⟨by rw[HE.out,Bool.true_and];rfl,hb02⟩
 |false=>
  rw[hw]at HE;go_wp2_with fail;go_ret;exact⟨by rw[HE.out,Bool.false_and];rfl,hb02⟩
end Go.Proofs.YtlllcifehellpaaGreatDoor
namespace Go.Proofs.YtlllcifehellpaaGreatDoor
open Go.RowKit Go.Maps

theorem Mg.putR_put1 {x:En} {L:List En} (h:Sp.Rise L):Pp.putR x L=Sp.put1 x L:=Pp.putR_eq h
set_option maxRecDepth 100000 in
set_option maxHeartbeats 2000000 in
theorem mput_pos {w:World} {bo:Nat} {vo:Value} {N:List En} (hb:Cs w bo [vo]) (hv:Lies w vo N) (hr:Sp.Rise N) (hn:N.length≤1000000) (p t:ByteArray) {k:Int} (hk:0<k):
    Calls Tryz.prog 32 #[.string p,.int .i64 k,.string t,.pointer (some ⟨bo,0,none⟩)] w fun e w'=>e= .returned (.tuple #[])∧ ∃u w1,w'=w1.setCell ⟨bo,0,none⟩ u∧Below w.heap.size w w1∧w1.ownsRow w.heap.size 64 4 u (Sp.put1 ⟨p,k==1,t,1⟩ N).length (Pp.flat (Sp.put1 ⟨p,k==1,t,1⟩ N)):=by
 have HR:=hid hr;have HV:=hid hv;have HBX:=hid hb;have c0:=hb.cell 0 rfl;have f0:=hb.fr 0;have hlt:=hb.lt;obtain⟨a,cap,rfl⟩: ∃a cap,vo= .slice a N.length cap:=by obtain⟨a,cap,h,_⟩:=hv;exact⟨a,cap,h⟩
 clear hb hv hr;go_enter Tryz.func32,Tryz.ntmps32
 go_wp2_with fail;refine(putEntry_any N _ ⟨p,k==1,t,1⟩ w HV.out hn).mono ?_
 rintro e w1 ⟨u,rfl,hrow,hb1⟩;rw[Mg.putR_put1 HR.out]at hrow;obtain⟨ua,ucap,rfl⟩:=ownsRow_shape hrow
 have HRW:=hid hrow;have HB1:=hid (HBX.out.below hb1);have g0:=HB1.out.fr 0;have y0:=HB1.out.cell 0 rfl;clear hrow c0 f0;go_wp2_with fail;go_end0
 exact⟨rfl,_,w1,rfl,hb1,HRW.out⟩
set_option maxRecDepth 100000 in
set_option maxHeartbeats 2000000 in
theorem mput_no {w:World} {bo:Nat} (p t:ByteArray) {k:Int} (hk: ¬0<k):
    Calls Tryz.prog 32 #[.string p,.int .i64 k,.string t,.pointer (some ⟨bo,0,none⟩)] w fun e w'=>e= .returned (.tuple #[])∧w'=w:=by
 go_enter Tryz.func32,Tryz.ntmps32
 go_wp2_with fail;go_end0
 exact⟨rfl,rfl⟩
end Go.Proofs.YtlllcifehellpaaGreatDoor
namespace Go.Proofs.YtlllcifehellpaaGreatDoor
open Go.RowKit

set_option maxHeartbeats 400000 in
theorem lastOf_any (s:ByteArray) (w:World) (hs:s.size≤1000000000):
    Calls Tryz.prog 60 #[.string s] w fun e w'=>e= .returned (.string ⟨(Pp.lst s.data.toList).toArray⟩)∧Below w.heap.size w w':=by
 have hn:(Pp.nm s.data.toList).length≤s.size+1:=by have:=Pp.nm_len_le s.data.toList;rwa [←Lib.size_eq]at this
 have h1:1≤(Pp.nm s.data.toList).length:=Nat.pos_of_ne_zero (fun e=>Pp.nm_ne _ (List.length_eq_zero_iff.1 e));have h3:(Pp.nm s.data.toList).length-1<(Pp.nm s.data.toList).length:=by omega
 have HP:=hid (show(Pp.nm s.data.toList)[(Pp.nm s.data.toList).length-1]=Pp.lst s.data.toList from by
  rw[Pp.lst,List.getLastD_eq_getLast?,List.getLast?_eq_getElem?,List.getElem?_eq_getElem h3];rfl)
 go_enter Tryz.func60,Tryz.ntmps60
 go_wp2_with fail;refine(rNames_at s _ hs).mono ?_
 rintro e w1 ⟨g,cap,rfl,hc1,hc2,hg1,hg2,hcell,hb⟩;have hce:=hcell _ h3;rw[HP.out]at hce;clear hcell;go_wp2;go_ret;exact⟨rfl,hb⟩
set_option maxHeartbeats 400000 in
theorem rJoined_any (s t:ByteArray) (w:World) (hs:s.size≤1000000000) (ht:t.size≤1000000000):
    Calls Tryz.prog 62 #[.string s,.string t] w fun e w'=>e= .returned (.string ⟨(Pp.jn s.data.toList t.data.toList).toArray⟩)∧w'=w:=by
 cases hc:s.toList.isEmpty with
 |true=>
  have HP:=hid (show⟨(Pp.jn s.data.toList t.data.toList).toArray⟩=t from by rw[Lib.toList_data,List.isEmpty_iff]at hc;rw[Pp.jn,if_pos hc]);go_enter Tryz.func62,Tryz.ntmps62
  go_wp2;go_ret;exact⟨by rw[HP.out];rfl,rfl⟩
 |false=>
  have HP:=hid (show s++⟨#[47]⟩++t=⟨(Pp.jn s.data.toList t.data.toList).toArray⟩from Pp.bytes_eq (by
   rw[Lib.toList_data]at hc;rw[Joins.data_append,Joins.data_append,Pp.jn,if_neg (by intro h;rw[h]at hc;cases hc)];simp))
  go_enter Tryz.func62,Tryz.ntmps62
  go_wp2;go_ret;exact⟨by rw[←HP.out];rfl,rfl⟩
namespace Pp
theorem own_atW {w:World} {base:Nat} {v:Value} {L:List (List UInt8)} (h:w.ownsRow base 9 1 v L.length (vs L)) (h0:L≠[]):
    ∃g cap,v= .slice (some ⟨g,0,none⟩) L.length cap∧base≤g∧g<w.heap.size∧ ∀i (h:i<L.length),w.cell? ⟨g,i,none⟩=some (.string ⟨(L[i]).toArray⟩):=by
 have hcopy:=h;obtain⟨hl,h2⟩:=h
 rcases h2 with⟨_,hz⟩|⟨g,cap,cur,rfl,hg,hh,hn,hm,hz,htake⟩
 · exact absurd (List.length_eq_zero_iff.1 hz) h0
 · have hlt:g<w.heap.size:=by
    rcases Nat.lt_or_ge g w.heap.size with h|h
    · exact h
    · rw[Array.getElem?_eq_none h]at hh;cases hh
   refine⟨g,cap,rfl,hg,hlt,fun i h=>?_⟩
   rw[hcopy.cellAt i (by omega)];simp[vs,h]
theorem vs_appW (a b:List (List UInt8)):vs a++vs b=vs (a++b):=by simp[vs]
theorem vs_cellsW {w:World} {g:Nat} {L:List (List UInt8)} (h: ∀i (h:i<L.length),w.cell? ⟨g,i,none⟩=some (.string ⟨(L[i]).toArray⟩)) (o:Nat): ∀j u,(vs (L.drop o))[j]?=some u→w.cell? ((⟨g,o,none⟩:Addr).add j)=some u:=by
 intro j u hu;simp only[vs,List.getElem?_map,List.getElem?_drop,Option.map_eq_some_iff]at hu;obtain⟨x,hx,rfl⟩:=hu
 obtain⟨hlt,rfl⟩:=List.getElem?_eq_some_iff.1 hx
 have e:=h (o+j) hlt;by_cases hj:j=0
 · subst hj;simpa[Addr.add]using e
 · simpa[Addr.add,hj]using e
theorem vs_oneW (L:List (List UInt8)): ∀u∈vs L,u.oneCell'=true:=by
 intro u hu;simp only[vs,List.mem_map]at hu;obtain⟨x,_,rfl⟩:=hu
 rfl
end Pp

theorem pathOf_nW (L:List (List UInt8)) (n g o cap:Nat) (w:World) (he:n=L.length) (hL:(Pp.join L).length≤1000000000) (hn:L.length≤1000000000) (hcell: ∀i (h:i<L.length),w.cell? ⟨g,o+i,none⟩=some (.string ⟨(L[i]).toArray⟩)):
    Calls Tryz.prog 40 #[.slice (some ⟨g,o,none⟩) n cap] w fun e w'=>e= .returned (.string ⟨(Pp.join L).toArray⟩)∧w'=w:=by
 subst he;exact pathOf_any L g o cap w hL hn hcell
end Go.Proofs.YtlllcifehellpaaGreatDoor
namespace Go.Proofs.YtlllcifehellpaaGreatDoor
open Go.RowKit

namespace Pp
theorem dec_le: ∀(n u:Nat),u<n→(Lib.decDigits u).length≤u+1
 |0,u,h=>absurd h (Nat.not_lt_zero _)
 |n+1,u,h=>by
  rw[Lib.decDigits];split
  · simp
  · rename_i h1
    have:=dec_le n (u/10) (by omega)
    simp only[List.length_append,List.length_cons,List.length_nil];omega
theorem dec_small {u:Nat} (h:u<10):Lib.decDigits u=[UInt8.ofNat (48+u)]:=by rw[Lib.decDigits,dif_pos h]
theorem dec_more {u:Nat} (h: ¬u<10):Lib.decDigits u=Lib.decDigits (u/10)++[UInt8.ofNat (48+u % 10)]:=by rw[Lib.decDigits,dif_neg h]
def dg (u:Nat):UInt8:=UInt8.ofNat (48+u % 10)
theorem dig_toNat (u:Nat):(dg u).toNat=48+u % 10:=by
 rw[dg,UInt8.toNat_ofNat'];omega
theorem dec_one {u:Nat} (h:u<10):Lib.decDigits u=[dg u]:=by rw[dec_small h,dg,Nat.mod_eq_of_lt h]
theorem dec_two {u:Nat} (h: ¬u<10):Lib.decDigits u=Lib.decDigits (u/10)++[dg u]:=dec_more h
end Pp

theorem conv_one (u:Nat) (w:World) (ty:TypeId):
    (convert 123 9 (.slice (some ⟨w.heap.size,0,none⟩) 1 1)).run Tryz.prog (w.alloc (.cells #[.int .u8 (48+(u:Int) % 10)] ty))= .ok (.string ⟨#[Pp.dg u]⟩) (w.alloc (.cells #[.int .u8 (48+(u:Int) % 10)] ty)):=by
 refine run_convert_bytes_back (P:=Tryz.prog) (w.alloc (.cells #[.int .u8 (48+(u:Int) % 10)] ty)) 123 9 5 ⟨w.heap.size,0,none⟩ 1 [Pp.dg u] Tryz.underlying123 Tryz.underlying5 Tryz.underlying9 ?_
 intro j hj;match j,hj with
 |0,_=>
  have e:((Pp.dg u).toNat:Int)=48+(u:Int) % 10:=by rw[Pp.dig_toNat];omega
  simp only[List.getElem_cons_zero];rw[e];simp[Addr.add]
set_option maxHeartbeats 600000 in
theorem decimal_any (n:Nat) (w:World) (hn:n≤1000000000):
    Calls Tryz.prog 61 #[.int .i64 n] w fun e w'=>e= .returned (.string ⟨(Lib.decDigits n).toArray⟩)∧Below w.heap.size w w':=by
 have hlen:=Pp.dec_le (n+1) n (Nat.lt_succ_self n);have h0: ¬(n:Int)<0:=by omega
 go_enter Tryz.func61,Tryz.ntmps61
 go_wp2_with fail;go_loopw [0,3] (fun m r wr=> ∃(u:Nat) (l:List UInt8),m= .int .i64 u∧r= .string ⟨l.toArray⟩∧u≤n∧l.length≤n+1∧Hid (Lib.decDigits n=Lib.decDigits u++l)∧Below w.heap.size w wr) (fun m _ _=>(intOf m).toNat)
 case atStart=>exact⟨n,[],rfl,rfl,Nat.le_refl _,by simp,(by simp:Lib.decDigits n=Lib.decDigits n++[]),Below.refl _ _⟩
 case round=>
  obtain⟨u,l,rfl,rfl,hu,hl,HD,hbel⟩:=hrel
  have hcv:=fun ty=>conv_one u wr ty
  by_cases hlt:u<10
  · have HR:=hid (show(⟨#[Pp.dg u]⟩:ByteArray)++⟨l.toArray⟩=⟨(Lib.decDigits n).toArray⟩from Pp.bytes_eq (by
     rw[Joins.data_append,HD.out,Pp.dec_one hlt]))
    have hq:((u:Int)/10==0)=true:=by rw[beq_iff_eq];omega
    go_wp2_with fail;go_ret;exact⟨by rw[←HR.out];rfl,hbel.alloc hbel.size _⟩
  · have HR:=hid (show(⟨#[Pp.dg u]⟩:ByteArray)++⟨l.toArray⟩=⟨(Pp.dg u::l).toArray⟩from Pp.bytes_eq (by rw[Joins.data_append];rfl))
    have HD2:=hid (show Lib.decDigits n=Lib.decDigits (u/10)++(Pp.dg u::l)from by rw[HD.out,Pp.dec_two hlt];simp)
    have hl2:(Pp.dg u::l).length≤n+1:=by
     have:=congrArg List.length HD2.out
     rw[List.length_append]at this;omega
    have hq:((u:Int)/10==0)=false:=by rw[beq_eq_false_iff_ne];omega
    go_wp2_with fail;go_roundw
    case rel=>exact⟨u/10,Pp.dg u::l,by simp,by rw[HR.out],by omega,hl2,HD2.out,hbel.alloc hbel.size _⟩
    case measure=>simp[intOf];omega
end Go.Proofs.YtlllcifehellpaaGreatDoor
namespace Go.Proofs.YtlllcifehellpaaGreatDoor
open Go.RowKit

namespace Pp
theorem dot_hit_step (l:List UInt8) (k:Nat) (h1:1≤k) (h:l[k]?=some 46):dot l (k+1)=k:=by rw[dot,if_pos ⟨h1,h⟩]
theorem dot_miss_step (l:List UInt8) (k:Nat) (h: ¬l[k]?=some 46):dot l (k+1)=dot l k:=by rw[dot,if_neg (fun e=>h e.2)]
theorem dot_le (l:List UInt8): ∀k,k≤l.length→dot l k≤l.length
 |0,_=>Nat.le_refl _
 |k+1,h=>by
  rw[dot];split
  · omega
  · exact dot_le l k (by omega)
theorem dot_one (l:List UInt8):dot l 1=l.length:=by rw[dot,if_neg (by omega),dot]
theorem get_byte (s:ByteArray) (k:Nat) (hk:k<s.size):s.data.toList[k]?=some s[k]:=by
 have hl:k<s.data.toList.length:=by simpa using hk
 rw[List.getElem?_eq_getElem hl,byte_at' s k hk hl]
theorem is46 (c:UInt8):(c.toNat:Int)=46↔c=46:=by
 constructor
 · intro h;exact UInt8.toNat_inj.1 (by simpa using Int.ofNat.inj h)
 · intro h;rw[h];rfl
/-- The stem, shortened from its end: byte by byte. -/
theorem trim_eq (l:List UInt8):Lib.trimRightB l 32=if l.getLast?=some 32 then Lib.trimRightB l.dropLast 32 else l:=by
 rcases List.eq_nil_or_concat l with rfl|⟨r,c,rfl⟩
 · simp[Lib.trimRightB]
 · rw[List.concat_eq_append]
   simp only[Lib.trimRightB,List.reverse_append,List.reverse_cons,List.reverse_nil,List.nil_append,List.singleton_append,List.dropWhile_cons,List.getLast?_append,List.getLast?_singleton,List.dropLast_concat];by_cases h:c=32
   · subst h;simp
   · simp[h]
/-- What the loop keeps: what is left of the stem comes to R. -/
def leads (room:Int) (R x:List UInt8):Prop:=Lib.trimRightB (x.take room.toNat) 32=R
theorem leads_start {l:List UInt8} {room:Int} (h:room<l.length):leads room (short l room) l:=by
 rw[leads,short,if_neg (by omega)]
theorem leads_long {room:Int} {R x:List UInt8} (h:leads room R x) (hl:room<x.length):leads room R x.dropLast:=by
 unfold leads at h⊢;rw[List.dropLast_eq_take,List.take_take,show min room.toNat (x.length-1)=room.toNat by omega];exact h
theorem leads_blank {room:Int} {R x:List UInt8} (h:leads room R x) (hl:(x.length:Int)≤room) (hb:x.getLast?=some 32):leads room R x.dropLast:=by
 unfold leads at h⊢;rw[List.take_of_length_le (by omega),trim_eq,if_pos hb]at h;rw[List.take_of_length_le (by rw[List.length_dropLast];omega)];exact h
theorem leads_nil {room:Int} {R:List UInt8} (h:leads room R []):R=[]:=by
 unfold leads at h;rw[←h];simp[Lib.trimRightB]
theorem leads_end {room:Int} {R x:List UInt8} (h:leads room R x) (hl:(x.length:Int)≤room) (hb: ¬x.getLast?=some 32):R=x:=by
 unfold leads at h;rw[List.take_of_length_le (by omega),trim_eq,if_neg hb]at h;exact h.symm
theorem cut_last (X:ByteArray):(X.extract 0 (X.size-1)).data.toList=X.data.toList.dropLast:=by
 rw[Lib.extract_data,List.dropLast_eq_take,Lib.size_eq];simp
theorem last_byte (X:ByteArray) (h:X.size-1<X.size):X.data.toList.getLast?=some X[X.size-1]:=by
 have hl2:X.size-1<X.data.toList.length:=by simpa using h
 rw[List.getLast?_eq_getElem?,←Lib.size_eq,List.getElem?_eq_getElem hl2,byte_at' X _ h hl2]
theorem is32 (c:UInt8):(c.toNat:Int)=32↔c=32:=by
 constructor
 · intro h;exact UInt8.toNat_inj.1 (by simpa using Int.ofNat.inj h)
 · intro h;rw[h];rfl
def strLen (v:Value):Nat:=match v with
 | .string s=>s.size
 |_=>0
theorem lst_long {l:List UInt8} (h:chk l=0):1≤(lst l).length:=by
 have h1:=chk_names h
 have hm:lst l∈nm l:=by
  rw[lst,List.getLastD_eq_getLast?];cases e:(nm l).getLast? with
  |none=>exact absurd (List.getLast?_eq_none_iff.1 e) (nm_ne l)
  |some x=>exact List.mem_of_getLast? e
 have:=(List.all_eq_true.1 h1) _ hm
 simp only[nameB,Bool.and_eq_true,decide_eq_true_eq]at this;omega
end Pp

set_option maxRecDepth 100000 in
set_option maxHeartbeats 1000000 in
theorem asideOf_any (s:ByteArray) (n:Nat) (w:World) (hs:s.size≤1048576) (hn1:1≤(n:Int)) (hn2:(n:Int)≤99) (hz:Pp.chk s.data.toList=0):
    Calls Tryz.prog 35 #[.string s,.int .i64 n] w fun e w'=>e= .returned (.tuple #[.string ⟨(Pp.ifc (Pp.asideE s.data.toList n) (Pp.asideT s.data.toList n)).toArray⟩,.int .i64 (Pp.asideE s.data.toList n)])∧Below w.heap.size w w':=by
 have hM1:=Pp.lst_long hz;have b0:=Pp.dec_len n (by omega);have b1:=Pp.len_par s.data.toList;have b2:=Pp.len_lst s.data.toList;rw[←Lib.size_eq]at b1 b2;obtain⟨M,hM⟩: ∃M:ByteArray,M=⟨(Pp.lst s.data.toList).toArray⟩:=⟨_,rfl⟩
 have HM:Hid ((⟨(Pp.lst s.data.toList).toArray⟩:ByteArray)=M):=hM.symm;have HML:=hid (show M.data.toList=Pp.lst s.data.toList from by rw[hM]);have hMs:M.size=(Pp.lst s.data.toList).length:=by rw[hM,Pp.sz]
 have hM1':1≤M.size:=by omega
 have hM2:M.size≤1048576:=by omega
 clear hM hMs;have HZ:Hid (Pp.chk s.data.toList=0):=hz;clear hz;go_enter Tryz.func35,Tryz.ntmps35
 go_wp2_with fail;refine(lastOf_any s _ (by omega)).mono ?_
 rintro e w1 ⟨rfl,hb1⟩;rw[HM.out];go_wp2_with fail;go_loop [7,8] (fun a i=> ∃k:Nat,1≤k∧k≤M.size∧i= .int .i64 k∧a= .int .i64 (Pp.dot M.data.toList k)) (fun _ i=>M.size-(intOf i).toNat)
 case atStart=>exact⟨1,Nat.le_refl _,hM1',rfl,by rw[Pp.dot_one,←Lib.size_eq]⟩
 case round=>
  obtain⟨k,hk1,hk,rfl,rfl⟩:=hrel
  by_cases hlt:k<M.size
  · cases hc:((M[k].toNat:Int)==46)with
    |true=>
     have HD:=hid (show Pp.dot M.data.toList (k+1)=k from Pp.dot_hit_step _ k hk1 (by rw[Pp.get_byte M k hlt,(Pp.is46 M[k]).1 (by simpa using hc)]));go_wp2_with fail;go_round
     case rel=>exact⟨k+1,by omega,by omega,by go_num,by rw[HD.out]⟩
     case measure=>simp[intOf];omega
    |false=>
     have HD:=hid (show Pp.dot M.data.toList (k+1)=Pp.dot M.data.toList k from Pp.dot_miss_step _ k (by rw[Pp.get_byte M k hlt];intro e;rw[Option.some.injEq]at e;have:=(Pp.is46 M[k]).2 e;simp at hc;exact hc this));go_wp2_with fail;go_round
     case rel=>exact⟨k+1,by omega,by omega,by go_num,by rw[HD.out]⟩
     case measure=>simp[intOf];omega
  · obtain rfl:k=M.size:=by omega
    have hdle:=Pp.dot_le M.data.toList M.size (by rw[Lib.size_eq];exact Nat.le_refl _);rw[←Lib.size_eq]at hdle;have hd2:(Pp.dot M.data.toList M.size:Int)≤M.size:=by omega
    obtain⟨X0,hX0⟩: ∃X:ByteArray,X=⟨(Pp.stem (Pp.lst s.data.toList)).toArray⟩:=⟨_,rfl⟩
    have HX0:=hid (show X0.data.toList=Pp.stem (Pp.lst s.data.toList)from by rw[hX0]);have b3:X0.size≤M.size:=by rw[Lib.size_eq,HX0.out,Lib.size_eq,HML.out];exact Pp.len_stem _
    have b4:(Pp.ending (Pp.lst s.data.toList)).length≤M.size:=by rw[Lib.size_eq,HML.out];exact Pp.len_ending _
    have HS:=hid (show M.extract 0 (Pp.dot M.data.toList M.size)=X0 from by rw[hX0];exact Pp.bytes_eq (by rw[Lib.extract_data,←HML.out,Pp.stem,Lib.size_eq];simp));have HT:=hid (show M.extract (Pp.dot M.data.toList M.size) M.size=⟨(Pp.ending (Pp.lst s.data.toList)).toArray⟩from by rw[Pp.piece_end,HML.out,Pp.ending];rw[←HML.out,Lib.size_eq]);clear hX0;go_wp2_with fail;go_region
    rw[HS.out,HT.out];go_wp2_with fail;refine(decimal_any n _ (by omega)).mono ?_
    rintro e w2 ⟨rfl,hb2⟩;have hbb:Below w.heap.size w w2:=below_trans hb1.drew hb2;clear hb1 hb2;have HA:=hid (show Pp.asideS s.data.toList n=Pp.short X0.data.toList (20-(2+((Lib.decDigits n).length:Int)+1)-(Pp.ending (Pp.lst s.data.toList)).length)from by rw[HX0.out,Pp.aside_room]);by_cases hroom:20<(X0.size:Int)+(2+((Lib.decDigits n).length:Int)+1)+(Pp.ending (Pp.lst s.data.toList)).length
    · go_wp2_with fail
      go_loop [9] (fun st=> ∃X:ByteArray,st= .string X∧X.size≤X0.size∧Hid (Pp.leads (20-(2+((Lib.decDigits n).length:Int)+1)-(Pp.ending (Pp.lst s.data.toList)).length) (Pp.asideS s.data.toList n) X.data.toList)) (fun st=>Pp.strLen st)
      case atStart=>exact⟨X0,rfl,Nat.le_refl _,(by rw[HA.out];exact Pp.leads_start (by rw[←Lib.size_eq];omega):Pp.leads (20-(2+((Lib.decDigits n).length:Int)+1)-(Pp.ending (Pp.lst s.data.toList)).length) (Pp.asideS s.data.toList n) X0.data.toList)⟩
      case round=>
       obtain⟨X,rfl,hX,HLD⟩:=hrel
       cases hemp:X.toList.isEmpty with
       |true=>
        have HX:=hid (show X.data.toList=Pp.asideS s.data.toList n from by have e:=(Pp.empty_iff X).1 hemp;have h:=HLD.out;rw[e]at h⊢;exact(Pp.leads_nil h).symm);have b6:=Pp.mark_len n;have b7:=Pp.len_jn (Pp.par s.data.toList) (X.data.toList++Pp.mark n++Pp.ending (Pp.lst s.data.toList));rw[List.length_append,List.length_append,b6,←Lib.size_eq]at b7;have HTT:=hid (show Pp.jn (Pp.par s.data.toList) (X.data.toList++Pp.mark n++Pp.ending (Pp.lst s.data.toList))=Pp.asideT s.data.toList n from by rw[Pp.asideT_eq,HX.out]);rw[HTT.out]at b7;have B8:=hid (show(X.data.toList++Pp.mark n++Pp.ending (Pp.lst s.data.toList)).length≤1000000000 from by rw[List.length_append,List.length_append,b6,←Lib.size_eq];omega);clear b6
        have HB:Hid (X++(⟨#[32,40]⟩++⟨(Lib.decDigits n).toArray⟩++⟨#[41]⟩)++⟨(Pp.ending (Pp.lst s.data.toList)).toArray⟩=⟨(X.data.toList++Pp.mark n++Pp.ending (Pp.lst s.data.toList)).toArray⟩):=
         (Pp.bytes_eq (by rw[Joins.data_append,Joins.data_append,Joins.data_append,Joins.data_append];simp[Pp.mark]):X++(⟨#[32,40]⟩++⟨(Lib.decDigits n).toArray⟩++⟨#[41]⟩)++⟨(Pp.ending (Pp.lst s.data.toList)).toArray⟩=⟨(X.data.toList++Pp.mark n++Pp.ending (Pp.lst s.data.toList)).toArray⟩)
        go_wp2_with fail;refine(parentOf_any s _ (by omega)).mono ?_
        rintro e w3 ⟨rfl,hb3⟩;go_wp2_with fail;rw[HB.out];refine(rJoined_any _ ⟨(X.data.toList++Pp.mark n++Pp.ending (Pp.lst s.data.toList)).toArray⟩ _ (by rw[Pp.sz];omega) (by rw[Pp.sz];exact B8.out)).mono ?_
        rintro e w4 ⟨rfl,rfl⟩;rw[show Pp.jn _ _=Pp.asideT s.data.toList n from HTT.out];have HE:=hid (show Pp.asideE s.data.toList n=2 from by rw[Pp.asideE_in _ n HZ.out hn1 hn2,if_pos (by rw[←HX.out];exact(Pp.empty_iff X).1 hemp)]);go_wp2_with fail;go_ret2;exact⟨by rw[HE.out,Pp.ifc_no (by decide)];rfl,below_trans hbb hb3⟩
       |false=>
        have hx1:1≤X.size:=by
         rw[Lib.size_eq];exact Nat.pos_of_ne_zero (fun e=>Pp.not_empty hemp (List.length_eq_zero_iff.1 e))
        have hx2:X.size-1<X.size:=by omega
        by_cases hlong:20<(X.size:Int)+(2+((Lib.decDigits n).length:Int)+1)+(Pp.ending (Pp.lst s.data.toList)).length
        · have HN:=hid (show Pp.leads (20-(2+((Lib.decDigits n).length:Int)+1)-(Pp.ending (Pp.lst s.data.toList)).length) (Pp.asideS s.data.toList n) (X.extract 0 (X.size-1)).data.toList from by rw[Pp.cut_last];exact Pp.leads_long HLD.out (by rw[←Lib.size_eq];omega))
          have hsz:(X.extract 0 (X.size-1)).size=X.size-1:=by rw[Lib.size_eq,Pp.cut_last,List.length_dropLast,←Lib.size_eq]
          have HSZ:Hid ((X.extract 0 (X.size-1)).size=X.size-1):=hsz;clear hsz;go_wp2_with fail;go_round
          case rel=>exact⟨X.extract 0 (X.size-1),rfl,by rw[HSZ.out];omega,HN.out⟩
          case measure=>simp only[Pp.strLen];rw[HSZ.out];omega
        · cases hbl:((X[X.size-1].toNat:Int)==32)with
          |true=>
           have HN:=hid (show Pp.leads (20-(2+((Lib.decDigits n).length:Int)+1)-(Pp.ending (Pp.lst s.data.toList)).length) (Pp.asideS s.data.toList n) (X.extract 0 (X.size-1)).data.toList from by rw[Pp.cut_last];exact Pp.leads_blank HLD.out (by rw[←Lib.size_eq];omega) (by rw[Pp.last_byte X hx2,(Pp.is32 X[X.size-1]).1 (by simpa using hbl)]));have hsz:(X.extract 0 (X.size-1)).size=X.size-1:=by rw[Lib.size_eq,Pp.cut_last,List.length_dropLast,←Lib.size_eq]
           have HSZ:Hid ((X.extract 0 (X.size-1)).size=X.size-1):=hsz;clear hsz;go_wp2_with fail;go_round
           case rel=>exact⟨X.extract 0 (X.size-1),rfl,by rw[HSZ.out];omega,HN.out⟩
           case measure=>simp only[Pp.strLen];rw[HSZ.out];omega
          |false=>
           have HX:=hid (show X.data.toList=Pp.asideS s.data.toList n from(Pp.leads_end HLD.out (by rw[←Lib.size_eq];omega) (by rw[Pp.last_byte X hx2];intro e;rw[Option.some.injEq]at e;have:=(Pp.is32 X[X.size-1]).2 e;simp at hbl;exact hbl this)).symm);have b6:=Pp.mark_len n;have b7:=Pp.len_jn (Pp.par s.data.toList) (X.data.toList++Pp.mark n++Pp.ending (Pp.lst s.data.toList));rw[List.length_append,List.length_append,b6,←Lib.size_eq]at b7;have HTT:=hid (show Pp.jn (Pp.par s.data.toList) (X.data.toList++Pp.mark n++Pp.ending (Pp.lst s.data.toList))=Pp.asideT s.data.toList n from by rw[Pp.asideT_eq,HX.out]);rw[HTT.out]at b7;have B8:=hid (show(X.data.toList++Pp.mark n++Pp.ending (Pp.lst s.data.toList)).length≤1000000000 from by rw[List.length_append,List.length_append,b6,←Lib.size_eq];omega);clear b6
           have HB:Hid (X++(⟨#[32,40]⟩++⟨(Lib.decDigits n).toArray⟩++⟨#[41]⟩)++⟨(Pp.ending (Pp.lst s.data.toList)).toArray⟩=⟨(X.data.toList++Pp.mark n++Pp.ending (Pp.lst s.data.toList)).toArray⟩):=
            (Pp.bytes_eq (by rw[Joins.data_append,Joins.data_append,Joins.data_append,Joins.data_append];simp[Pp.mark]):X++(⟨#[32,40]⟩++⟨(Lib.decDigits n).toArray⟩++⟨#[41]⟩)++⟨(Pp.ending (Pp.lst s.data.toList)).toArray⟩=⟨(X.data.toList++Pp.mark n++Pp.ending (Pp.lst s.data.toList)).toArray⟩)
           go_wp2_with fail;refine(parentOf_any s _ (by omega)).mono ?_
           rintro e w3 ⟨rfl,hb3⟩;go_wp2_with fail;rw[HB.out];refine(rJoined_any _ ⟨(X.data.toList++Pp.mark n++Pp.ending (Pp.lst s.data.toList)).toArray⟩ _ (by rw[Pp.sz];omega) (by rw[Pp.sz];exact B8.out)).mono ?_
           rintro e w4 ⟨rfl,rfl⟩;rw[show Pp.jn _ _=Pp.asideT s.data.toList n from HTT.out];have hne:Pp.asideS s.data.toList n≠[]:=by rw[←HX.out];exact Pp.not_empty hemp
           have hE:Pp.asideE s.data.toList n=if Pp.big (Pp.asideT s.data.toList n)=true then 2 else 0:=by
            rw[Pp.asideE_in _ n HZ.out hn1 hn2,if_neg hne,Pp.asideT_chk n HZ.out hne]
           clear hne;cases hbig:Pp.big (Pp.asideT s.data.toList n)with
           |true=>
            have HBG:Hid (Pp.big (Pp.asideT s.data.toList n)=true):=hbig;have HE:=hid (show Pp.asideE s.data.toList n=2 from by rw[hE,hbig];rfl);clear hbig hE;go_wp2_with fail;refine(rTooGreat_any ⟨(Pp.asideT s.data.toList n).toArray⟩ _ (by rw[Pp.sz];omega)).mono ?_
            rintro e w5 ⟨rfl,hb5⟩;rw[show Pp.big _=_ from HBG.out];go_wp2_with fail;go_ret2;exact⟨by rw[HE.out,Pp.ifc_no (by decide)];rfl,below_trans (below_trans hbb hb3) hb5⟩
           |false=>
            have HBG:Hid (Pp.big (Pp.asideT s.data.toList n)=false):=hbig;have HE:=hid (show Pp.asideE s.data.toList n=0 from by rw[hE,hbig];rfl);clear hbig hE;go_wp2_with fail;refine(rTooGreat_any ⟨(Pp.asideT s.data.toList n).toArray⟩ _ (by rw[Pp.sz];omega)).mono ?_
            rintro e w5 ⟨rfl,hb5⟩;rw[show Pp.big _=_ from HBG.out];go_wp2_with fail;go_ret2;exact⟨by rw[HE.out,Pp.ifc_yes rfl];rfl,below_trans (below_trans hbb hb3) hb5⟩
    · obtain⟨X,hXe⟩: ∃X:ByteArray,X=X0:=⟨_,rfl⟩
      subst hXe;have HX:=hid (show X.data.toList=Pp.asideS s.data.toList n from by rw[HA.out,Pp.short,if_pos (by rw[←Lib.size_eq];omega)]);have b6:=Pp.mark_len n;have b7:=Pp.len_jn (Pp.par s.data.toList) (X.data.toList++Pp.mark n++Pp.ending (Pp.lst s.data.toList));rw[List.length_append,List.length_append,b6,←Lib.size_eq]at b7;have HTT:=hid (show Pp.jn (Pp.par s.data.toList) (X.data.toList++Pp.mark n++Pp.ending (Pp.lst s.data.toList))=Pp.asideT s.data.toList n from by rw[Pp.asideT_eq,HX.out]);rw[HTT.out]at b7;have B8:=hid (show(X.data.toList++Pp.mark n++Pp.ending (Pp.lst s.data.toList)).length≤1000000000 from by rw[List.length_append,List.length_append,b6,←Lib.size_eq];omega);clear b6
      have HB:Hid (X++(⟨#[32,40]⟩++⟨(Lib.decDigits n).toArray⟩++⟨#[41]⟩)++⟨(Pp.ending (Pp.lst s.data.toList)).toArray⟩=⟨(X.data.toList++Pp.mark n++Pp.ending (Pp.lst s.data.toList)).toArray⟩):=
       (Pp.bytes_eq (by rw[Joins.data_append,Joins.data_append,Joins.data_append,Joins.data_append];simp[Pp.mark]):X++(⟨#[32,40]⟩++⟨(Lib.decDigits n).toArray⟩++⟨#[41]⟩)++⟨(Pp.ending (Pp.lst s.data.toList)).toArray⟩=⟨(X.data.toList++Pp.mark n++Pp.ending (Pp.lst s.data.toList)).toArray⟩)
      go_wp2_with fail;refine(parentOf_any s _ (by omega)).mono ?_
      rintro e w3 ⟨rfl,hb3⟩;go_wp2_with fail;rw[HB.out];refine(rJoined_any _ ⟨(X.data.toList++Pp.mark n++Pp.ending (Pp.lst s.data.toList)).toArray⟩ _ (by rw[Pp.sz];omega) (by rw[Pp.sz];exact B8.out)).mono ?_
      rintro e w4 ⟨rfl,rfl⟩;rw[show Pp.jn _ _=Pp.asideT s.data.toList n from HTT.out];cases hq:X.toList.isEmpty with
      |true=>
       have HE:=hid (show Pp.asideE s.data.toList n=2 from by rw[Pp.asideE_in _ n HZ.out hn1 hn2,if_pos (by rw[←HX.out];exact(Pp.empty_iff X).1 hq)]);go_wp2_with fail;go_ret2;exact⟨by rw[HE.out,Pp.ifc_no (by decide)];rfl,below_trans hbb hb3⟩
      |false=>
       have hne:Pp.asideS s.data.toList n≠[]:=by rw[←HX.out];exact Pp.not_empty hq
       have hE:Pp.asideE s.data.toList n=if Pp.big (Pp.asideT s.data.toList n)=true then 2 else 0:=by
        rw[Pp.asideE_in _ n HZ.out hn1 hn2,if_neg hne,Pp.asideT_chk n HZ.out hne]
       clear hne;cases hbig:Pp.big (Pp.asideT s.data.toList n)with
       |true=>
        have HBG:Hid (Pp.big (Pp.asideT s.data.toList n)=true):=hbig;have HE:=hid (show Pp.asideE s.data.toList n=2 from by rw[hE,hbig];rfl);clear hbig hE;go_wp2_with fail;refine(rTooGreat_any ⟨(Pp.asideT s.data.toList n).toArray⟩ _ (by rw[Pp.sz];omega)).mono ?_
        rintro e w5 ⟨rfl,hb5⟩;rw[show Pp.big _=_ from HBG.out];go_wp2_with fail;go_ret2;exact⟨by rw[HE.out,Pp.ifc_no (by decide)];rfl,below_trans (below_trans hbb hb3) hb5⟩
       |false=>
        have HBG:Hid (Pp.big (Pp.asideT s.data.toList n)=false):=hbig;have HE:=hid (show Pp.asideE s.data.toList n=0 from by rw[hE,hbig];rfl);clear hbig hE;go_wp2_with fail;refine(rTooGreat_any ⟨(Pp.asideT s.data.toList n).toArray⟩ _ (by rw[Pp.sz];omega)).mono ?_
        rintro e w5 ⟨rfl,hb5⟩;rw[show Pp.big _=_ from HBG.out];go_wp2_with fail;go_ret2;exact⟨by rw[HE.out,Pp.ifc_yes rfl];rfl,below_trans (below_trans hbb hb3) hb5⟩
end Go.Proofs.YtlllcifehellpaaGreatDoor
