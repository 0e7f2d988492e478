/- What the reference's SameEntries answers, of the same trees. -/
import Derived.Test.YtagibnejodgeeaaGreatDoorRUA
import Derived.Test.YtagibnejodgeeaaGreatDoorProg
import Derived.WalkKit
import Derived.WalkSpells
import Derived.WalkLawsBesides
import Derived.Handy
import Derived.Test.YtagibnejodgeeaaGreatDoorRUM
import Derived.Test.YtagibnejodgeeaaGreatDoorRUH
import Derived.Test.YtagibnejodgeeaaGreatDoorRUB
import Derived.BigQuiet
import Derived.Deep.QuietTactic
import Derived.Test.YtagibnejodgeeaaGreatDoorRUE
import Derived.Test.YtagibnejodgeeaaGreatDoorRUC
import Derived.Test.YtagibnejodgeeaaGreatDoorRUG
set_option linter.unusedSimpArgs false
set_option linter.unusedVariables false
namespace Go.Proofs.YtagibnejodgeeaaGreatDoor
open Go.RowKit

set_option maxHeartbeats 1000000 in
theorem same_yes (L:List En) (v u:Value) (w:World) (hv:Lies w v L) (hu:Lies w u L):
    Calls Tryz.prog 11 #[v,u] w fun e w'=>e= .returned (.bool true)∧Below w.heap.size w w':=by
 obtain⟨a,cap,rfl,hcap,hcap2,hL⟩:=hv
 have HL:Hid (∀i (h:i<L.length),∃b o,a=some ⟨b,o,none⟩∧b<w.heap.size∧EnAt w b (o+i*4) L[i]):=hL;obtain⟨a',cap',rfl,hcap',_,hL'⟩:=hu
 have HL':Hid (∀i (h:i<L.length),∃b o,a'=some ⟨b,o,none⟩∧b<w.heap.size∧EnAt w b (o+i*4) L[i]):=hL';clear hL hL';go_enter Tryz.func11,Tryz.ntmps11
 go_wp2_with fail;go_loopw [5] (fun i wr=> ∃k:Nat,k≤L.length∧i= .int .i64 k∧Below w.heap.size w wr) (fun i _=>L.length-(intOf i).toNat)
 case atStart=>exact⟨0,Nat.zero_le _,rfl,Below.refl _ _⟩
 case round=>
  obtain⟨k,hk,rfl,hbel⟩:=hrel
  by_cases hlt:k<L.length
  · obtain⟨b,o,rfl,hb,he⟩:=HL.out k hlt
    obtain⟨b',o',rfl,hb',he'⟩:=HL'.out k hlt
    obtain⟨c0,c1,c2,c3⟩:=he.below hb hbel
    obtain⟨d0,d1,d2,d3⟩:=he'.below hb' hbel
    go_wp2_with fail;go_region
    go_wp2_with fail;go_roundw
    case rel=>exact⟨k+1,by omega,by simp,hbel.drew⟩
    case measure=>simp[intOf];omega
  · go_wp2_with fail
    go_ret;exact⟨rfl,hbel⟩
--@if tetherpost/tetherpostlaw.treeIs
end Go.Proofs.YtagibnejodgeeaaGreatDoor
namespace Go.Proofs.YtagibnejodgeeaaGreatDoor
open Go.RowKit Go.Maps

theorem lies_shape {w:World} {v:Value} {L:List En} (h:Lies w v L): ∃a cap,v= .slice a L.length cap:=by
 obtain⟨a,cap,h1,_⟩:=h
 exact⟨a,cap,h1⟩
namespace Mg
/-- Alike at each path. -/
def Sim (N N':List En):Prop:= ∀p,lk (st N p) (st N' p)=true
theorem Sim.w {N N':List En} (h:Sim N N') (p:List UInt8):(st N p).w=(st N' p).w:=(lk_iff.1 (h p)).1
theorem free_sim {M T N N':List En} (h:Sim N N') (p:List UInt8):free M T N p=free M T N' p:=by rw[free,free,h.w]
theorem asdF_sim {M T N N':List En} (h:Sim N N') (p:List UInt8): ∀f n,asdF M T N p f n=asdF M T N' p f n
 |0,_=>rfl
 |f+1,n=>by rw[asdF,asdF,free_sim h,asdF_sim h p f (n+1)]
theorem asd_sim {M T N N':List En} (h:Sim N N') (p:List UInt8):asd M T N p=asd M T N' p:=asdF_sim h p 99 1
theorem Sim.put {N N':List En} {e e':En} (hN:Sp.Rise N) (hN':Sp.Rise N') (h:Sim N N') (hp:e.path.data.toList=e'.path.data.toList) (he:lk (spo e) (spo e')=true):Sim (Sp.put1 e N) (Sp.put1 e' N'):=by
 intro p;rw[st_put1 hN,st_put1 hN',hp];split
 · exact he
 · exact h p
end Mg
end Go.Proofs.YtagibnejodgeeaaGreatDoor
namespace Go.Proofs.YtagibnejodgeeaaGreatDoor
open Go.RowKit Go.Maps

namespace Mg
def pths (L:List En):List (List UInt8):=L.map (fun e=>e.path.data.toList)
def bare (e:En):En:=⟨e.path,false,⟨#[]⟩,0⟩
theorem pths_bare (L:List En):pths (L.map bare)=pths L:=by simp[pths,bare]
theorem pths_ext {X Y:List En} (hX:Sp.Rise X) (hY:Sp.Rise Y) (h: ∀p:List UInt8,(∃x∈X,x.path.data.toList=p)↔ ∃y∈Y,y.path.data.toList=p):pths X=pths Y:=by
 have one: ∀{X Y:List En},(∀p:List UInt8,(∃x∈X,x.path.data.toList=p)→ ∃y∈Y,y.path.data.toList=p)→ ∀e,e∈X.map bare→e∈Y.map bare:=by
  intro X Y h e he;obtain⟨x,hx,rfl⟩:=List.mem_map.1 he
  obtain⟨y,hy,hp⟩:=h _ ⟨x,hx,rfl⟩
  exact List.mem_map.2 ⟨y,hy,by rw[bare,bare,ba_ext hp]⟩
 have:X.map bare=Y.map bare:=rise_ext (map_rise (f:=bare) (fun _=>rfl) hX) (map_rise (f:=bare) (fun _=>rfl) hY) (fun e=>⟨one (fun p=>(h p).1) e,one (fun p=>(h p).2) e⟩)
 rw[←pths_bare X,this,pths_bare]
/-- One that is there already. -/
theorem pths_there {e:En} {L:List En} (hL:Sp.Rise L) (h:e.path.data.toList∈pths L):pths (Sp.put1 e L)=pths L:=by
 obtain⟨z,hz,hzp⟩:=List.mem_map.1 h
 refine pths_ext (Sp.put1_rise hL) hL (fun p=>⟨?_,?_⟩)
 · rintro ⟨x,hx,rfl⟩
   rcases Sp.mem_put1.1 hx with rfl|⟨hx,_⟩
   · exact⟨z,hz,hzp⟩
   · exact⟨x,hx,rfl⟩
 · rintro ⟨y,hy,rfl⟩
   by_cases he:y.path.data.toList=e.path.data.toList
   · exact⟨e,Sp.mem_put1.2 (Or.inl rfl),he.symm⟩
   · exact⟨y,Sp.mem_put1.2 (Or.inr ⟨hy,he⟩),rfl⟩
theorem lt_less {x y:En}:Pp.lt x y=Op.bytesLess x.path.data.toList y.path.data.toList:=by rw[Pp.lt,Lib.toList_data,Lib.toList_data]
/-- One that is new, where it belongs. -/
theorem pths_new {e:En} {L:List En} (hL:Sp.Rise L) (h:e.path.data.toList∉pths L) {k:Nat} (hk:k≤L.length) (h1: ∀i (hi:i<k),Op.bytesLess ((L[i]'(by omega)).path.data.toList) e.path.data.toList=true) (h2: ∀hk:k<L.length,Op.bytesLess (L[k].path.data.toList) e.path.data.toList=false):pths (Sp.put1 e L)=(pths L).take k++e.path.data.toList::(pths L).drop k:=by
 have hne: ∀x∈L,x.path.data.toList≠e.path.data.toList:=fun x hx hp=>h (List.mem_map.2 ⟨x,hx,hp⟩)
 have ht: ∀x∈L.take k,Pp.lt x e=true:=fun x hx=>by
  obtain⟨i,hi,rfl⟩:=List.getElem_of_mem hx
  rw[List.length_take]at hi;rw[List.getElem_take,lt_less];exact h1 i (by omega)
 have hd: ∀x∈L.drop k,Pp.lt e x=true:=fun x hx=>by
  obtain⟨i,hi,rfl⟩:=List.getElem_of_mem hx
  rw[List.length_drop]at hi;rw[List.getElem_drop];have hk2:k<L.length:=by omega
  have a1:Pp.lt L[k] e=false:=by rw[lt_less];exact h2 hk2
  have a2:Pp.lt e L[k]=true:=by
   cases hc:Pp.lt e L[k]with
   |true=>rfl
   |false=>exact absurd (Pp.lt_same a1 hc) (hne _ (List.getElem_mem hk2))
  rcases Nat.eq_zero_or_pos i with h0|h0
  · subst h0;simpa using a2
  · exact Pp.lt_trans _ _ _ a2 (List.pairwise_iff_getElem.1 hL k (k+i) hk2 (by omega) (by omega))
 have hr:Sp.Rise (L.take k++e::L.drop k):=by
  have h3:Sp.Rise (L.take k):=List.Pairwise.sublist (List.take_sublist k L) hL;have h4:Sp.Rise (L.drop k):=List.Pairwise.sublist (List.drop_sublist k L) hL;refine List.pairwise_append.2 ⟨h3,List.pairwise_cons.2 ⟨hd,h4⟩,fun a ha b hb=>?_⟩
  rcases List.mem_cons.1 hb with rfl|hb
  · exact ht a ha
  · exact Pp.lt_trans _ _ _ (ht a ha) (hd b hb)
 have he:Sp.put1 e L=L.take k++e::L.drop k:=rise_ext (Sp.put1_rise hL) hr (fun x=>by
  rw[Sp.mem_put1,List.mem_append,List.mem_cons];constructor
  · rintro (rfl|⟨hx,_⟩)
    · exact Or.inr (Or.inl rfl)
    · rw[←List.take_append_drop k L,List.mem_append]at hx
      rcases hx with hx|hx
      · exact Or.inl hx
      · exact Or.inr (Or.inr hx)
  · rintro (hx|rfl|hx)
    · exact Or.inr ⟨List.mem_of_mem_take hx,hne x (List.mem_of_mem_take hx)⟩
    · exact Or.inl rfl
    · exact Or.inr ⟨List.mem_of_mem_drop hx,hne x (List.mem_of_mem_drop hx)⟩)
 rw[he,pths,pths,List.map_append,List.map_cons,List.map_take,List.map_drop]
theorem over_nil {B:List En} (h:Sp.Rise B):over [] B=B:=by
 refine rise_ext (over_rise List.Pairwise.nil B) h (fun e=>?_)
 have ha:=at_over (L:=[]) List.Pairwise.nil B (Sp.apart_rise h);constructor
 · intro he
   rcases over_mem he with he|he
   · cases he
   · exact he
 · intro he
   have h1:=ha e.path.data.toList;rw[at_mem h he]at h1;exact((Sp.at_iff (Sp.apart_rise (over_rise List.Pairwise.nil B))).1 h1).1
theorem over_take {L M:List En} {k:Nat} (h:k<M.length):over L (M.take (k+1))=Sp.put1 M[k] (over L (M.take k)):=by
 rw[List.take_succ_eq_append_getElem h,over_snoc]
/-- What is settled, with the version that all have till the end. -/
def one (s:Spo):Spo:=if s.w=0 then zero else⟨s.w,s.t,1⟩
theorem one_ok {s:Spo} (h:Ok s):Ok (one s):=by
 rw[one];split
 · exact Or.inl rfl
 · rename_i h0
   rcases h with h|h|h
   · rw[h]at h0;exact absurd rfl h0
   · exact Or.inr (Or.inl h)
   · exact Or.inr (Or.inr h)
theorem one_lk {s:Spo} (h:Ok s):lk s (one s)=true:=by
 rw[one];split
 · rename_i h0
   rw[h.zero h0];exact lk_refl _
 · exact lk_iff.2 ⟨rfl,rfl⟩
theorem one_w (s:Spo):(one s).w=s.w:=by
 rw[one];split
 · rename_i h;rw[h];rfl
 · rfl
theorem one_zero {s:Spo} (h:s=zero):one s=zero:=by rw[h];rfl
def fR (B M T:List En) (p:List UInt8):Spo:=one (fS B M T p)
def nowR (B M T:List En) (U:List En):List En:=sets (fR B M T) U
theorem sets_take {f:List UInt8→Spo} {U:List En} (h:Sp.Rise U) {k:Nat} (hk:k<U.length) (h0: ¬(f U[k].path.data.toList).w=0):sets f (U.take (k+1))=sets f (U.take k)++[enOf U[k].path (f U[k].path.data.toList)]:=by
 rw[sets,List.take_succ_eq_append_getElem hk,List.filterMap_append];simp[sets,List.filterMap_cons,set1,h0]
theorem sets_take0 {f:List UInt8→Spo} {U:List En} {k:Nat} (hk:k<U.length) (h0:(f U[k].path.data.toList).w=0):sets f (U.take (k+1))=sets f (U.take k):=by
 rw[sets,List.take_succ_eq_append_getElem hk,List.filterMap_append];simp[sets,List.filterMap_cons,set1,h0]
theorem sets_put {f:List UInt8→Spo} {U:List En} (h:Sp.Rise U) {k:Nat} (hk:k<U.length) (h0: ¬(f U[k].path.data.toList).w=0):sets f (U.take (k+1))=Sp.put1 (enOf U[k].path (f U[k].path.data.toList)) (sets f (U.take k)):=by
 have hr: ∀n,Sp.Rise (sets f (U.take n)):=fun n=>sets_rise (List.Pairwise.sublist (List.take_sublist n U) h)
 have hlt: ∀x∈sets f (U.take k),x.path.data.toList≠U[k].path.data.toList:=fun x hx hp=>by
  obtain⟨e,he,hs⟩:=mem_sets.1 hx
  obtain⟨i,hi,rfl⟩:=List.getElem_of_mem he
  rw[List.length_take]at hi;rw[List.getElem_take]at hs;have hl:=List.pairwise_iff_getElem.1 h i k (by omega) hk (by omega);rw[(set1_path hs).1]at hp;exact Pp.lt_dif hl hp
 refine rise_ext (hr _) (Sp.put1_rise (hr _)) (fun x=>?_)
 rw[sets_take h hk h0,Sp.mem_put1,List.mem_append,List.mem_singleton];constructor
 · rintro (hx|hx)
   · exact Or.inr ⟨hx,hlt x hx⟩
   · exact Or.inl hx
 · rintro (hx|⟨hx,_⟩)
   · exact Or.inr hx
   · exact Or.inl hx
theorem st_nowR {B M T:List En} (h:Sp.Rise B) (hM:Sp.Apart M) (hT:Sp.Apart T) (p:List UInt8):st (nowR B M T (uni B M T)) p=one (fS B M T p):=st_sets (uni_rise h M T) (fun p=>one_ok (fS_ok B M T p)) (fun p hp=>one_zero (fS_none h hM hT p hp)) p
theorem sim_now {B M T:List En} (h:Sp.Rise B) (hM:Sp.Apart M) (hT:Sp.Apart T):Sim (now0 B M T) (nowR B M T (uni B M T)):=fun p=>by
 rw[st_now0 h hM hT,st_nowR h hM hT];exact one_lk (fS_ok B M T p)
theorem sim_trans {N N' N'':List En} (h:Sim N N') (h1:Sim N' N''):Sim N N'':=fun p=>lk_trans (h p) (h1 p)
theorem sim_len {N N':List En} (hN:Sp.Rise N) (hN':Sp.Rise N') (h:Sim N N'):N.length=N'.length:=by
 have:=congrArg List.length (strips_eq hN hN' h)
 simpa using this
theorem sim_get {N N':List En} (hN:Sp.Rise N) (hN':Sp.Rise N') (h:Sim N N') {i:Nat} (hi:i<N.length) (hi':i<N'.length):N[i].path=N'[i].path∧Sp.wh N[i]=Sp.wh N'[i]∧Sp.tx N[i]=Sp.tx N'[i]:=by
 have he:=strips_eq hN hN' h;have h3:(N.map strip)[i]'(by simpa using hi)=(N'.map strip)[i]'(by simpa using hi'):=by simp only[he]
 rw[List.getElem_map,List.getElem_map]at h3;have e1:N[i].path=N'[i].path:=(congrArg En.path h3:(strip N[i]).path=(strip N'[i]).path)
 have e2:(Sp.wh N[i]==1)=(Sp.wh N'[i]==1):=(congrArg En.folder h3:(strip N[i]).folder=(strip N'[i]).folder)
 have e3:Sp.tx N[i]=Sp.tx N'[i]:=(congrArg En.text h3:(strip N[i]).text=(strip N'[i]).text)
 refine⟨e1,?_,e3⟩
 rcases wh_12 N[i]with h1|h1<;>rcases wh_12 N'[i]with h2|h2
 · rw[h1,h2]
 · rw[h1,h2]at e2;cases e2
 · rw[h1,h2]at e2;cases e2
 · rw[h1,h2]
theorem sim_pths {N N':List En} (hN:Sp.Rise N) (hN':Sp.Rise N') (h:Sim N N'):N.map En.path=N'.map En.path:=by
 refine List.ext_getElem (by simpa using sim_len hN hN' h) (fun i h1 h2=>?_)
 rw[List.getElem_map,List.getElem_map];exact(sim_get hN hN' h (by simpa using h1) (by simpa using h2)).1
theorem allP_map (N:List En):allP N N.length=(N.map En.path).flatMap (fun p=>pres p p.size):=by
 rw[allP,List.take_length,List.flatMap_map]
theorem sim_allP {N N':List En} (hN:Sp.Rise N) (hN':Sp.Rise N') (h:Sim N N'):allP N N.length=allP N' N'.length:=by
 rw[allP_map,allP_map,sim_pths hN hN' h]
theorem sim_outs {M T N N':List En} (hN:Sp.Rise N) (hN':Sp.Rise N') (h:Sim N N'):outs M T N=outs M T N':=by
 refine List.ext_getElem (by rw[outs,outs,List.length_map,List.length_map];exact sim_len hN hN' h) (fun i h1 h2=>?_)
 have hi:i<N.length:=by rw[outs,List.length_map]at h1;exact h1
 have hi':i<N'.length:=by rw[outs,List.length_map]at h2;exact h2
 obtain⟨e1,e2,e3⟩:=sim_get hN hN' h hi hi'
 simp only[outs,List.getElem_map]
 have hv: ∀p,ver M T N p=ver M T N' p:=fun p=>by
  have hl: ∀s:Spo,lk (st N p) s=lk (st N' p) s:=fun s=>by
   cases hc:lk (st N' p) s with
   |true=>exact lk_trans (h p) hc
   |false=>
    cases hd:lk (st N p) s with
    |false=>rfl
    |true=>exact absurd (lk_trans (lk_symm (h p)) hd) (by rw[hc];decide)
  rw[ver,ver,hl,hl]
 rw[out1,out1,e1,e2,e3,hv]
/-- Asides of lists that are alike. -/
theorem asds_sim {M T:List En}: ∀(A N N':List En) (C:CC),Sp.Rise N→Sp.Rise N'→Sim N N'→(∀a∈A,Sp.wh a=2)→ ∀(f:En→En),(∀a∈A,(f a).path=a.path∧Sp.wh (f a)=2∧Sp.tx (f a)=Sp.tx a)→(asds M T A (N,C)=none→asds M T (A.map f) (N',C)=none)∧ ∀X Y,asds M T A (N,C)=some (X,Y)→ ∃X',asds M T (A.map f) (N',C)=some (X',Y)∧Sp.Rise X∧Sp.Rise X'∧Sim X X'
 |[],N,N',C,hN,hN',h,_,f,_=>⟨fun hh=>(by cases hh),fun X Y hh=>by
  injection hh with hh
  injection hh with e1 e2
  rw[←e1,←e2];exact⟨N',rfl,hN,hN',h⟩⟩
 |a::r,N,N',C,hN,hN',h,hw,f,hf=>by
  obtain⟨f1,f2,f3⟩:=hf a (by simp)
  rw[List.map_cons,asds,asds,f1,asd_sim h];cases hq:asd M T N' a.path.data.toList with
  |none=>exact⟨fun _=>rfl,fun X Y hh=>by cases hh⟩
  |some q=>
   exact asds_sim r _ _ _ (Sp.put1_rise hN) (Sp.put1_rise hN') (h.put (e:=file q (spo a)) (e':=file q (spo (f a))) hN hN' rfl (lk_iff.2 ⟨rfl,f3.symm⟩)) (fun x hx=>hw x (by simp[hx])) f (fun x hx=>hf x (by simp[hx]))
end Mg
end Go.Proofs.YtagibnejodgeeaaGreatDoor
namespace Go.Proofs.YtagibnejodgeeaaGreatDoor
open Go.RowKit Go.Maps

namespace Mg
def fold1 (q:ByteArray):En:=⟨q,true,⟨#[]⟩,1⟩
/-- One folder, as the reference makes it. -/
def mkR (M T N:List En) (C:CC) (q:ByteArray):Option (List En×CC):=
 if(st N q.data.toList).w=1 then some (N,C)else if(st N q.data.toList).w=2 then(asd M T (Sp.put1 (fold1 q) N) q.data.toList).map (fun r=>(Sp.put1 (file r ⟨2,(st N q.data.toList).t,1⟩) (Sp.put1 (fold1 q) N),C++[(q,⟨r.toArray⟩)]))else some (Sp.put1 (fold1 q) N,C)
def mksR (M T:List En):List ByteArray→List En×CC→Option (List En×CC)
 |[],s=>some s
 |q::r,s=>(mkR M T s.1 s.2 q).bind (mksR M T r)
theorem mksR_app (M T:List En): ∀(a b:List ByteArray) (s:List En×CC),mksR M T (a++b) s=(mksR M T a s).bind (mksR M T b)
 |[],b,s=>rfl
 |q::r,b,s=>by
  rw[List.cons_append,mksR,mksR,Option.bind_assoc];congr 1
  funext t
  exact mksR_app M T r b t
theorem mksR_none {M T:List En} {a b:List ByteArray} {q:ByteArray} {s:List En×CC} {N:List En} {C:CC} (h:mksR M T a s=some (N,C)) (h1:mkR M T N C q=none):mksR M T (a++[q]++b) s=none:=by
 rw[mksR_app,mksR_app,h];simp[mksR,h1]
theorem mksR_some {M T:List En} {a:List ByteArray} {q:ByteArray} {s t:List En×CC} {N:List En} {C:CC} (h:mksR M T a s=some (N,C)) (h1:mkR M T N C q=some t):mksR M T (a++[q]) s=some t:=by
 rw[mksR_app,h];simp[mksR,h1]
theorem asdF_free {M T N N':List En} (h: ∀r,free M T N r=free M T N' r) (p:List UInt8): ∀f n,asdF M T N p f n=asdF M T N' p f n
 |0,_=>rfl
 |f+1,n=>by rw[asdF,asdF,h,asdF_free h p f (n+1)]
theorem asd_fold1 {M T N:List En} {q:ByteArray} (hN:Sp.Rise N) (h:(st N q.data.toList).w=2) (p:List UInt8):asd M T (Sp.put1 (fold1 q) N) p=asd M T N p:=by
 refine asdF_free (fun r=>?_) p 99 1
 rw[free,free,st_put1 hN];by_cases hr:(fold1 q).path.data.toList=r
 · rw[if_pos hr]
   have hr':q.data.toList=r:=hr;have e1:((spo (fold1 q)).w==0)=false:=rfl;have e2:((st N r).w==0)=false:=by rw[←hr',h];rfl
   rw[e1,e2]
 · rw[if_neg hr]
theorem mkR_sim {M T N N':List En} {C:CC} {q:ByteArray} (hN:Sp.Rise N) (hN':Sp.Rise N') (h:Sim N N'):(mkf M T N C q=none→mkR M T N' C q=none)∧ ∀X Y,mkf M T N C q=some (X,Y)→ ∃X',mkR M T N' C q=some (X',Y)∧Sp.Rise X∧Sp.Rise X'∧Sim X X':=by
 have hw:=h.w q.data.toList;have ht:=(lk_iff.1 (h q.data.toList)).2;by_cases h2:(st N q.data.toList).w=2
 · have h2':(st N' q.data.toList).w=2:=by omega
   have h1': ¬(st N' q.data.toList).w=1:=by omega
   have ha0:asd M T (Sp.put1 (fold1 q) N') q.data.toList=asd M T N q.data.toList:=by rw[asd_fold1 hN' h2',asd_sim h]
   rw[mkR,if_neg h1',if_pos h2',ha0];cases ha:asd M T N q.data.toList with
   |none=>
    rw[mkf_no h2 ha];exact⟨fun _=>rfl,fun X Y hh=>by cases hh⟩
   |some r=>
    rw[mkf_some h2 ha];refine⟨fun hh=>(by cases hh),fun X Y hh=>?_⟩
    injection hh with hh
    injection hh with e1 e2
    rw[←e1,←e2];have hr1:=Sp.put1_rise (e:=file r (st N q.data.toList)) hN;have hr2:=Sp.put1_rise (e:=fold1 q) hN';refine⟨_,rfl,Sp.put1_rise hr1,Sp.put1_rise hr2,fun p=>?_⟩
    have hfr:=(asd_some ha).2.2.2
    have hne: ¬r=q.data.toList:=fun e=>by
     rw[e,free,h2]at hfr;simp at hfr
    rw[st_put1 hr1,st_put1 hN,st_put1 hr2,st_put1 hN'];have p1: ∀s,(file r s).path.data.toList=r:=fun s=>by simp[file]
    have p2:(fold q).path.data.toList=q.data.toList:=rfl;have p3:(fold1 q).path.data.toList=q.data.toList:=rfl;rw[p1,p1,p2,p3];by_cases hq:q.data.toList=p
    · rw[if_pos hq,if_neg (fun e=>hne (e.trans hq.symm)),if_pos hq]
      exact lk_iff.2 ⟨rfl,rfl⟩
    · rw[if_neg hq]
      by_cases hrp:r=p
      · rw[if_pos hrp,if_pos hrp]
        exact lk_iff.2 ⟨rfl,ht⟩
      · rw[if_neg hrp,if_neg hrp,if_neg hq]
        exact h p
 · have h2': ¬(st N' q.data.toList).w=2:=by omega
   rw[mkf_else h2];refine⟨fun hh=>(by cases hh),fun X Y hh=>?_⟩
   injection hh with hh
   injection hh with e1 e2
   rw[←e1,←e2];by_cases h1:(st N' q.data.toList).w=1
   · refine⟨N',by rw[mkR,if_pos h1],Sp.put1_rise hN,hN',fun p=>?_⟩
     rw[st_put1 hN];split
     · rename_i hp
       have hp:q.data.toList=p:=hp;rw[spo_fold,←hp];exact lk_iff.2 ⟨h1.symm,((ok_st N' q.data.toList).fold h1).symm⟩
     · exact h p
   · refine⟨Sp.put1 (fold1 q) N',by rw[mkR,if_neg h1,if_neg h2'],Sp.put1_rise hN,Sp.put1_rise hN',h.put (e:=fold q) (e':=fold1 q) hN hN' rfl (lk_iff.2 ⟨rfl,rfl⟩)⟩
theorem mksR_sim {M T:List En}: ∀(Q:List ByteArray) (N N':List En) (C:CC),Sp.Rise N→Sp.Rise N'→Sim N N'→(mks M T Q (N,C)=none→mksR M T Q (N',C)=none)∧ ∀X Y,mks M T Q (N,C)=some (X,Y)→ ∃X',mksR M T Q (N',C)=some (X',Y)∧Sp.Rise X∧Sp.Rise X'∧Sim X X'
 |[],N,N',C,hN,hN',h=>⟨fun hh=>(by cases hh),fun X Y hh=>by
  injection hh with hh
  injection hh with e1 e2
  rw[←e1,←e2];exact⟨N',rfl,hN,hN',h⟩⟩
 |q::r,N,N',C,hN,hN',h=>by
  obtain⟨k1,k2⟩:=mkR_sim (M:=M) (T:=T) (C:=C) (q:=q) hN hN' h
  rw[mks,mksR];cases hq:mkf M T N C q with
  |none=>
   rw[k1 hq];exact⟨fun _=>rfl,fun X Y hh=>by cases hh⟩
  |some x=>
   obtain⟨X1,Y1⟩:=x
   obtain⟨X1',e1,r1,r2,s1⟩:=k2 X1 Y1 hq
   rw[e1];exact mksR_sim r X1 X1' Y1 r1 r2 s1
/-- The folders of a path, by its bytes. -/
def preL:List UInt8→List (List UInt8)
 |[]=>[]
 |c::r=>if c=47 then[]::(preL r).map (47:: ·)else(preL r).map (c:: ·)
theorem preL_range: ∀l:List UInt8,(List.range l.length).filterMap (fun i=>if l[i]?=some 47 then some (l.take i)else none)=preL l
 |[]=>rfl
 |c::r=>by
  have ih:=preL_range r;rw[List.length_cons,List.range_succ_eq_map,List.filterMap_cons,List.filterMap_map]
  have e:((fun i=>if(c::r)[i]?=some 47 then some ((c::r).take i)else none)∘Nat.succ)=fun i=>(if r[i]?=some 47 then some (r.take i)else none).map (c:: ·):=by
   funext i
   simp only[Function.comp,Nat.succ_eq_add_one,List.getElem?_cons_succ,List.take_succ_cons];split<;>rfl
  have e2:(List.range r.length).filterMap (fun i=>(if r[i]?=some 47 then some (r.take i)else none).map (c:: ·))=(preL r).map (c:: ·):=by
   rw[←ih,List.map_filterMap]
  rw[e,e2,preL];by_cases hc:c=47
  · subst hc;simp
  · simp[hc]
theorem join_cons {a:List UInt8} {R:List (List UInt8)} (h:R≠[]):Pp.join (a::R)=a++47::Pp.join R:=by
 cases R with
 |nil=>exact absurd rfl h
 |cons b r=>rfl
theorem preL_names: ∀l:List UInt8,preL l=(List.range ((Pp.nm l).length-1)).map (fun k=>Pp.join ((Pp.nm l).take (k+1)))
 |[]=>rfl
 |c::r=>by
  have ih:=preL_names r;have hn:=Pp.nm_ne r;cases e:Pp.nm r with
  |nil=>exact absurd e hn
  |cons h t=>
   rw[e]at ih;rw[preL,Pp.nm,e];by_cases hc:c=47
   · subst hc
     rw[if_pos rfl,if_pos rfl,ih];simp only[List.length_cons,Nat.add_sub_cancel,List.range_succ_eq_map,List.map_cons,List.map_map];refine List.cons_eq_cons.2 ⟨rfl,?_⟩
     refine List.map_congr_left (fun k _=>?_)
     simp only[Function.comp,Nat.succ_eq_add_one,List.take_succ_cons];rw[join_cons (a:=[]) (by simp)];rfl
   · rw[if_neg hc,if_neg hc,ih]
     simp only[List.length_cons,Nat.add_sub_cancel,List.map_map];refine List.map_congr_left (fun k _=>?_)
     simp only[Function.comp,List.take_succ_cons];cases ht:t.take k with
     |nil=>rfl
     |cons b u=>rfl
def presN (p:ByteArray) (k:Nat):List ByteArray:=(List.range k).map (fun j=>(⟨(Pp.join ((Pp.nm p.data.toList).take (j+1))).toArray⟩:ByteArray))
theorem presN_succ (p:ByteArray) (k:Nat):presN p (k+1)=presN p k++[⟨(Pp.join ((Pp.nm p.data.toList).take (k+1))).toArray⟩]:=by
 rw[presN,presN,List.range_succ,List.map_append];rfl
theorem extract_take (p:ByteArray) (i:Nat):p.extract 0 i=⟨(p.data.toList.take i).toArray⟩:=by
 refine ba_ext ?_
 rw[ByteArray.data_extract];simp[Array.toList_extract,List.extract]
theorem pres_names (p:ByteArray):pres p p.size=presN p ((Pp.nm p.data.toList).length-1):=by
 have h1:pres p p.size=(preL p.data.toList).map (fun x=>(⟨x.toArray⟩:ByteArray)):=by
  rw[←preL_range,List.map_filterMap,pres];have hl:p.data.toList.length=p.size:=Array.length_toList;rw[hl];refine congrArg (fun f=>List.filterMap f (List.range p.size)) ?_
  funext i
  rw[extract_take];split<;>rfl
 rw[h1,preL_names,presN,List.map_map];rfl
/-- All folders of the first paths. -/
def allR (N:List En) (k:Nat):List ByteArray:=(N.take k).flatMap (fun e=>presN e.path ((Pp.nm e.path.data.toList).length-1))
theorem allR_eq (N:List En) (k:Nat):allR N k=allP N k:=by
 rw[allR,allP];refine congrArg (fun f=>List.flatMap f (N.take k)) ?_
 funext e
 rw[pres_names]
theorem allR_succ {N:List En} {k:Nat} (hk:k<N.length):allR N (k+1)=allR N k++presN N[k].path ((Pp.nm N[k].path.data.toList).length-1):=by
 rw[allR,allR,List.take_succ_eq_append_getElem hk,List.flatMap_append];simp
theorem allR_more (N:List En) {k:Nat} (h:k≤N.length): ∃r,allR N N.length=allR N k++r:=by
 refine⟨(N.drop k).flatMap (fun e=>presN e.path ((Pp.nm e.path.data.toList).length-1)),?_⟩
 rw[allR,allR,←List.flatMap_append,List.take_length,List.take_append_drop]
theorem presN_more (p:ByteArray) {k n:Nat} (h:k≤n): ∃r,presN p n=presN p k++r:=by
 refine⟨(presN p n).drop k,?_⟩
 have:(presN p n).take k=presN p k:=by
  rw[presN,presN,←List.map_take,List.take_range,Nat.min_eq_left h]
 rw[←this,List.take_append_drop]
theorem chk_pre2 {p:List UInt8} (h:Pp.chk p=0) {k:Nat} (hk:k+1<(Pp.nm p).length):Pp.chk (Pp.join ((Pp.nm p).take (k+1)))=0:=by
 have hm:Pp.join ((Pp.nm p).take (k+1))∈preL p:=by
  rw[preL_names];exact List.mem_map.2 ⟨k,List.mem_range.2 (by omega),rfl⟩
 rw[←preL_range,List.mem_filterMap]at hm;obtain⟨i,hi,he⟩:=hm
 split at he
 · rename_i h47
   injection he with he
   rw[←he];have hlt:i<p.length:=List.mem_range.1 hi
   have e2:p[i]=47:=by
    rw[List.getElem?_eq_getElem hlt]at h47;injection h47
   have hp:p=p.take i++47::p.drop (i+1):=by rw[←e2,List.getElem_cons_drop,List.take_append_drop]
   generalize p.take i=a at*;generalize p.drop (i+1)=b at*;have hn:=Pp.chk_names h;have hb:=Pp.chk_not_big h;rw[hp,Pp.nm_app]at hn;rw[List.all_append,Bool.and_eq_true]at hn;rw[Pp.chk_big hn.1]
   have:Pp.big a=false:=by
    rw[hp,Pp.big,Pp.nm_app]at hb;rw[Pp.big];simp only[List.length_append,List.length_cons,Bool.or_eq_false_iff,decide_eq_false_iff_not]at hb⊢;omega
   rw[this];rfl
 · cases he
end Mg
end Go.Proofs.YtagibnejodgeeaaGreatDoor
namespace Go.Proofs.YtagibnejodgeeaaGreatDoor
open Go.RowKit

namespace Pp
def stp (x:En) (s:List En×Bool) (y:En):List En×Bool:=
 (if y.path.data.toList=x.path.data.toList then(if s.2=false∧lt y x=false then s.1++[x]else s.1)else(if s.2=false∧lt y x=false then s.1++[x]else s.1)++[y],s.2|| !(lt y x))
def putS (x:En) (L:List En):List En×Bool:=L.foldl (stp x) ([],false)
def putR (x:En) (L:List En):List En:=if(putS x L).2=true then(putS x L).1 else(putS x L).1++[x]
theorem putS_snoc (x:En) (A:List En) (y:En):putS x (A++[y])=stp x (putS x A) y:=by rw[putS,List.foldl_append];rfl
theorem ins_pre {x:En}: ∀{A:List En},(∀y∈A,lt y x=true)→ ∀B,ins x (A++B)=A++ins x B
 |[],_,_=>rfl
 |y::r,h,B=>by
  rw[List.cons_append,ins,if_pos (h y (by simp)),ins_pre (fun z hz=>h z (by simp[hz]))];rfl
theorem ins_snoc {x y:En} (h:lt y x=false): ∀K,ins x (K++[y])=ins x K++[y]
 |[]=>by simp[ins,h]
 |z::r=>by
  rw[List.cons_append,ins,ins];split
  · rw[ins_snoc h r];rfl
  · rfl
theorem at_yes {x y:En} (h:y.path.data.toList=x.path.data.toList):atB x.path.data.toList y=true:=by rw[atB,h];exact beq_self_eq_true _
theorem at_no {x y:En} (h: ¬y.path.data.toList=x.path.data.toList):atB x.path.data.toList y=false:=by rw[atB];exact beq_eq_false_iff_ne.2 h
theorem out_one {x y:En} (h:y.path.data.toList=x.path.data.toList):outE x [y]=[]:=by rw[outE,List.filter_cons,at_yes h];rfl
theorem out_other {x y:En} (h: ¬y.path.data.toList=x.path.data.toList):outE x [y]=[y]:=by rw[outE,List.filter_cons,at_no h];rfl
theorem out_all {x:En} {A:List En} (h: ∀y∈A,lt y x=true):outE x A=A:=by
 rw[outE,List.filter_eq_self];intro y hy;rw[at_no (lt_dif (h y hy))];rfl
theorem out_app (x:En) (A B:List En):outE x (A++B)=outE x A++outE x B:=by rw[outE,List.filter_append];rfl
theorem lt_path {x x' y:En} (h:x.path.data.toList=x'.path.data.toList):lt y x=lt y x':=by
 rw[lt_cfE,lt_cfE];unfold cfE;rw[h]
theorem putS_take {x:En} {L:List En} (hL:L.Pairwise (fun x y=>lt x y=true)): ∀k,k≤L.length→putS x (L.take k)=if(L.take k).all (fun y=>lt y x)=true then(L.take k,false)else(ins x (outE x (L.take k)),true):=by
 intro k;induction k with
 |zero=>intro _;simp[putS]
 |succ k ih=>
  intro hk;have hlt:k<L.length:=by omega
  have ih:=ih (by omega)
  have hpre: ∀z∈L.take k,lt z L[k]=true:=fun z hz=>by
   obtain⟨i,hi,rfl⟩:=List.getElem_of_mem hz
   rw[List.length_take]at hi;rw[List.getElem_take];exact List.pairwise_iff_getElem.1 hL i k (by omega) hlt (by omega)
  rw[List.take_succ_eq_append_getElem hlt,putS_snoc,ih];generalize L[k]=y at*;generalize L.take k=A at*;cases hall:A.all (fun y=>lt y x)with
  |true=>
   have hA: ∀z∈A,lt z x=true:=fun z hz=>List.all_eq_true.1 hall z hz
   cases hy:lt y x with
   |true=>
    have hd:=lt_dif hy;have e1:(A++[y]).all (fun y=>lt y x)=true:=by rw[List.all_append,hall];simp[hy]
    rw[if_pos rfl,if_pos e1,stp];simp only[hy,if_neg (show¬y.path.data.toList=x.path.data.toList from hd)];simp
   |false=>
    have e1:(A++[y]).all (fun y=>lt y x)=false:=by rw[List.all_append,hall];simp[hy]
    rw[if_pos rfl,if_neg (by rw[e1];decide),stp,out_app,out_all hA,ins_pre hA];by_cases hp:y.path.data.toList=x.path.data.toList
    · have e2:=out_one hp
      rw[e2];simp only[hp,hy,ins,if_true,if_false,and_self,Bool.false_eq_true,Bool.not_false,Bool.or_true,List.append_assoc,List.cons_append,List.nil_append]
    · have e2:=out_other hp
      rw[e2];simp only[hp,hy,ins,if_true,if_false,and_self,Bool.false_eq_true,Bool.not_false,Bool.or_true,List.append_assoc,List.cons_append,List.nil_append]
  |false=>
   obtain⟨z,hz,hzx⟩: ∃z∈A,lt z x=false:=by
    have:=List.all_eq_false.1 hall
    simpa using this
   have hzy:=hpre z hz
   have hy:lt y x=false:=by
    cases hh:lt y x with
    |false=>rfl
    |true=>rw[lt_trans z y x hzy hh]at hzx;cases hzx
   have hp: ¬y.path.data.toList=x.path.data.toList:=fun e=>by
    rw[lt_path e,hzx]at hzy;cases hzy
   have e1:(A++[y]).all (fun y=>lt y x)=false:=by rw[List.all_append,hall];rfl
   have e2:=out_other hp;rw[if_neg (by decide),if_neg (by rw[e1];decide),stp,out_app,e2,ins_snoc hy];simp only[hp,if_false,Bool.true_eq_false,false_and,Bool.true_or]
theorem putR_eq {x:En} {L:List En} (hL:L.Pairwise (fun x y=>lt x y=true)):putR x L=ins x (outE x L):=by
 have h:=putS_take (x:=x) hL L.length (Nat.le_refl _);rw[List.take_length]at h;rw[putR,h];cases hall:L.all (fun y=>lt y x)with
 |true=>
  have hA: ∀z∈L,lt z x=true:=fun z hz=>List.all_eq_true.1 hall z hz
  have e:=ins_pre hA [];rw[List.append_nil]at e;rw[out_all hA,e];simp[ins]
 |false=>simp
end Pp

set_option maxRecDepth 100000 in
set_option maxHeartbeats 2000000 in
theorem putEntry_any (L:List En) (v:Value) (x:En) (w:World) (hv:Lies w v L) (hn:L.length≤1000000):
    Calls Tryz.prog 36 #[v,.agg #[.string x.path,.bool x.folder,.string x.text,.int .i64 x.ver]] w fun e w'=> ∃u,e= .returned u∧w'.ownsRow w.heap.size 27 4 u (Pp.putR x L).length (Pp.flat (Pp.putR x L))∧Below w.heap.size w w':=by
 obtain⟨i0,hi0,hz0,hz1,hz2⟩:=info_parts Tryz.infoE
 obtain⟨a,cap,rfl,hcap,hcap2,hL⟩:=hv
 have HL:Hid (∀i (h:i<L.length),∃b o,a=some ⟨b,o,none⟩∧b<w.heap.size∧EnAt w b (o+i*4) L[i]):=hL;clear hL;go_enter Tryz.func36,Tryz.ntmps36
 go_wp2_with fail;have HX:=hid (show∀k,∀h:k<L.length,Pp.putS x (L.take (k+1))=Pp.stp x (Pp.putS x (L.take k)) L[k]from fun k h=>by rw[List.take_succ_eq_append_getElem h,Pp.putS_snoc]);go_loopw [5,6,7] (fun o pt i wr=> ∃k:Nat,k≤L.length∧i= .int .i64 k∧pt= .bool (Pp.putS x (L.take k)).2∧(Pp.putS x (L.take k)).1.length≤2*k∧wr.ownsRow (w.heap.size+1) 27 4 o (Pp.putS x (L.take k)).1.length (Pp.flat (Pp.putS x (L.take k)).1)∧Below (w.alloc (.cells #[.string x.path,.bool x.folder,.string x.text,.int .i64 x.ver] 27)).heap.size (w.alloc (.cells #[.string x.path,.bool x.folder,.string x.text,.int .i64 x.ver] 27)) wr) (fun _ _ i _=>L.length-(intOf i).toNat)
 case atStart=>exact⟨0,Nat.zero_le _,rfl,rfl,by simp[Pp.putS],World.ownsRow_nil _ _ _ _,Below.refl _ _⟩
 case round=>
  obtain⟨k,hk,rfl,rfl,hle,hown,hbel⟩:=hrel
  obtain⟨r0,r1,r2,r3,hbw,hlt0⟩:=box4 hbel
  by_cases hlt:k<L.length
  · obtain⟨b,o,rfl,hb,he⟩:=HL.out k hlt
    obtain⟨c0,c1,c2,c3⟩:=he.below hb hbw
    have hstp:=HX.out k hlt;generalize Pp.putS x (L.take k)=S at*;obtain⟨X,pb⟩:=S
    simp only at hle hown;have hownD:=hown.drew.drew;have hbelD:=hbel.drew.drew;have hownE:=hown.drew;have hbelE:=hbel.drew;cases pb with
    |true=>
     cases hp:(L[k].path.toList==x.path.toList)with
     |true=>
      have hp2:L[k].path.data.toList=x.path.data.toList:=by rw[Lib.toList_data,Lib.toList_data]at hp;simpa using hp
      have HST:=hid (show Pp.putS x (L.take (k+1))=(X,true)from by rw[hstp,Pp.stp];simp only[hp2,if_true,Bool.true_eq_false,false_and,if_false,Bool.true_or]);clear hstp hp2;go_wp2_with fail;go_region
      go_wp2_with fail;go_region
      go_wp2_with fail;go_roundw
      case rel=>exact⟨k+1,by omega,by simp,by rw[HST.out],by rw[HST.out];simp only;omega,by rw[HST.out];exact hownD,hbelD⟩
      case measure=>simp[intOf];omega
     |false=>
      have hp2: ¬L[k].path.data.toList=x.path.data.toList:=by rw[Lib.toList_data,Lib.toList_data]at hp;simpa using hp
      have HST:=hid (show Pp.putS x (L.take (k+1))=(X++[L[k]],true)from by rw[hstp,Pp.stp];simp only[hp2,if_false,Bool.true_eq_false,false_and,Bool.true_or]);clear hstp hp2;go_wp2_with fail;go_region
      go_wp2_with fail;go_region
      go_wp2_with (at_builtin;refine wpList_append_own _ rfl _ _ 22 rfl (w.heap.size+1) 27 i0 (.agg #[.string ⟨#[]⟩,.bool false,.string ⟨#[]⟩,.int .i64 0]) 4 48 Tryz.underlying22 hi0 hz0 hz1 hz2 rfl (by decide) _ _ _ rfl (hownD.alloc _) ⟨wr.heap.size,0,none⟩ 1 1 (Pp.cells L[k]) rfl rfl (Pp.new_cells wr.drew.drew L[k] _) (Pp.cells_one _) (by unfold maxLen;omega) (by omega) (by have:=hbelD.size;simp at this⊢;omega) ?_)
      intro v2 w2 ho2 hgr2 hnn2;have hbel2:Below (w.alloc (.cells #[.string x.path,.bool x.folder,.string x.text,.int .i64 x.ver] 27)).heap.size (w.alloc (.cells #[.string x.path,.bool x.folder,.string x.text,.int .i64 x.ver] 27)) w2:=(hbelD.alloc hbelD.size _).grown hgr2 (by have:=hbelD.size;simp at this⊢;omega) (fun g hg=>by have:=(hownD.lt g hg).1;simp;omega);rw[Pp.flat_snoc]at ho2;have hown2:w2.ownsRow (w.heap.size+1) 27 4 v2 (X++[L[k]]).length (Pp.flat (X++[L[k]])):=by rw[List.length_append];exact ho2
      clear ho2 hgr2 hnn2;have HO:=hid hown2;clear hown2 hown hbel hownD hbelD hownE hbelE c0 c1 c2 c3 r0 r1 r2 r3 he;go_wp2_with fail;go_roundw
      case rel=>exact⟨k+1,by omega,by simp,by rw[HST.out],by rw[HST.out,List.length_append];simp only[List.length_singleton];omega,by rw[HST.out];exact HO.out,hbel2⟩
      case measure=>simp[intOf];omega
    |false=>
     cases hl:Pp.lt L[k] x with
     |true=>
      have hl1:Op.bytesLess L[k].path.toList x.path.toList=true:=hl
      have hl2:Op.bytesLess x.path.toList L[k].path.toList=false:=by
       cases hh:Op.bytesLess x.path.toList L[k].path.toList with
       |false=>rfl
       |true=>have:=Pp.lt_trans L[k] x L[k] hl hh;rw[Pp.lt_irrefl]at this;cases this
      have hp2: ¬L[k].path.data.toList=x.path.data.toList:=Pp.lt_dif hl;have hp:(L[k].path.toList==x.path.toList)=false:=by rw[Lib.toList_data,Lib.toList_data];exact beq_eq_false_iff_ne.2 hp2
      have HST:=hid (show Pp.putS x (L.take (k+1))=(X++[L[k]],false)from by rw[hstp,Pp.stp,hl];simp only[hp2,if_false,Bool.true_eq_false,and_false,Bool.not_true,Bool.or_false]);clear hstp hp2 hl;go_wp2_with fail;go_region
      go_wp2_with fail;go_region
      go_wp2_with (at_builtin;refine wpList_append_own _ rfl _ _ 22 rfl (w.heap.size+1) 27 i0 (.agg #[.string ⟨#[]⟩,.bool false,.string ⟨#[]⟩,.int .i64 0]) 4 48 Tryz.underlying22 hi0 hz0 hz1 hz2 rfl (by decide) _ _ _ rfl (hownD.alloc _) ⟨wr.heap.size,0,none⟩ 1 1 (Pp.cells L[k]) rfl rfl (Pp.new_cells wr.drew.drew L[k] _) (Pp.cells_one _) (by unfold maxLen;omega) (by omega) (by have:=hbelD.size;simp at this⊢;omega) ?_)
      intro v2 w2 ho2 hgr2 hnn2;have hbel2:Below (w.alloc (.cells #[.string x.path,.bool x.folder,.string x.text,.int .i64 x.ver] 27)).heap.size (w.alloc (.cells #[.string x.path,.bool x.folder,.string x.text,.int .i64 x.ver] 27)) w2:=(hbelD.alloc hbelD.size _).grown hgr2 (by have:=hbelD.size;simp at this⊢;omega) (fun g hg=>by have:=(hownD.lt g hg).1;simp;omega);rw[Pp.flat_snoc]at ho2;have hown2:w2.ownsRow (w.heap.size+1) 27 4 v2 (X++[L[k]]).length (Pp.flat (X++[L[k]])):=by rw[List.length_append];exact ho2
      clear ho2 hgr2 hnn2;have HO:=hid hown2;clear hown2 hown hbel hownD hbelD hownE hbelE c0 c1 c2 c3 r0 r1 r2 r3 he;go_wp2_with fail;go_roundw
      case rel=>exact⟨k+1,by omega,by simp,by rw[HST.out],by rw[HST.out,List.length_append];simp only[List.length_singleton];omega,by rw[HST.out];exact HO.out,hbel2⟩
      case measure=>simp[intOf];omega
     |false=>
      have hl1:Op.bytesLess L[k].path.toList x.path.toList=false:=hl;cases hp:(L[k].path.toList==x.path.toList)with
      |true=>
       have hp2:L[k].path.data.toList=x.path.data.toList:=by rw[Lib.toList_data,Lib.toList_data]at hp;simpa using hp
       have hl2:Op.bytesLess x.path.toList L[k].path.toList=false:=by
        have:=Pp.lt_irrefl x
        rw[←Pp.lt_path (x:=L[k]) (x':=x) (y:=x) hp2]at this;exact this
       have HST:=hid (show Pp.putS x (L.take (k+1))=(X++[x],true)from by rw[hstp,Pp.stp,hl];simp only[hp2,if_true,and_self,Bool.not_false,Bool.or_true]);clear hstp hp2 hl;go_wp2_with fail;go_region
       go_wp2_with (at_builtin;refine wpList_append_own _ rfl _ _ 22 rfl (w.heap.size+1) 27 i0 (.agg #[.string ⟨#[]⟩,.bool false,.string ⟨#[]⟩,.int .i64 0]) 4 48 Tryz.underlying22 hi0 hz0 hz1 hz2 rfl (by decide) _ _ _ rfl (hownE.alloc _) ⟨wr.heap.size,0,none⟩ 1 1 (Pp.cells x) rfl rfl (Pp.new_cells wr.drew x _) (Pp.cells_one _) (by unfold maxLen;omega) (by omega) (by have:=hbelE.size;simp at this⊢;omega) ?_)
       intro v2 w2 ho2 hgr2 hnn2;have hbel2:Below (w.alloc (.cells #[.string x.path,.bool x.folder,.string x.text,.int .i64 x.ver] 27)).heap.size (w.alloc (.cells #[.string x.path,.bool x.folder,.string x.text,.int .i64 x.ver] 27)) w2:=(hbelE.alloc hbelE.size _).grown hgr2 (by have:=hbelE.size;simp at this⊢;omega) (fun g hg=>by have:=(hownE.lt g hg).1;simp;omega);rw[Pp.flat_snoc]at ho2;have hown2:w2.ownsRow (w.heap.size+1) 27 4 v2 (X++[x]).length (Pp.flat (X++[x])):=by rw[List.length_append];exact ho2
       clear ho2 hgr2 hnn2;obtain⟨s0,s1,s2,s3,hbw2,hlt2⟩:=box4 hbel2
       obtain⟨d0,d1,d2,d3⟩:=he.below hb hbw2
       have HO:=hid hown2;clear hown2 hown hbel hownD hbelD hownE hbelE c0 c1 c2 c3 r0 r1 r2 r3 he;go_wp2_with fail;go_region
       go_wp2_with fail;go_roundw
       case rel=>exact⟨k+1,by omega,by simp,by rw[HST.out],by rw[HST.out,List.length_append];simp only[List.length_singleton];omega,by rw[HST.out];exact HO.out.drew,hbel2.drew⟩
       case measure=>simp[intOf];omega
      |false=>
       have hp2: ¬L[k].path.data.toList=x.path.data.toList:=by rw[Lib.toList_data,Lib.toList_data]at hp;simpa using hp
       have hl2:Op.bytesLess x.path.toList L[k].path.toList=true:=by
        cases hh:Op.bytesLess x.path.toList L[k].path.toList with
        |true=>rfl
        |false=>exact absurd (Pp.lt_same hl hh) hp2
       have HST:=hid (show Pp.putS x (L.take (k+1))=(X++[x]++[L[k]],true)from by rw[hstp,Pp.stp,hl];simp only[hp2,if_true,if_false,and_self,Bool.not_false,Bool.or_true]);clear hstp hp2 hl;go_wp2_with fail;go_region
       go_wp2_with (at_builtin;refine wpList_append_own _ rfl _ _ 22 rfl (w.heap.size+1) 27 i0 (.agg #[.string ⟨#[]⟩,.bool false,.string ⟨#[]⟩,.int .i64 0]) 4 48 Tryz.underlying22 hi0 hz0 hz1 hz2 rfl (by decide) _ _ _ rfl (hownE.alloc _) ⟨wr.heap.size,0,none⟩ 1 1 (Pp.cells x) rfl rfl (Pp.new_cells wr.drew x _) (Pp.cells_one _) (by unfold maxLen;omega) (by omega) (by have:=hbelE.size;simp at this⊢;omega) ?_)
       intro v2 w2 ho2 hgr2 hnn2;have hbel2:Below (w.alloc (.cells #[.string x.path,.bool x.folder,.string x.text,.int .i64 x.ver] 27)).heap.size (w.alloc (.cells #[.string x.path,.bool x.folder,.string x.text,.int .i64 x.ver] 27)) w2:=(hbelE.alloc hbelE.size _).grown hgr2 (by have:=hbelE.size;simp at this⊢;omega) (fun g hg=>by have:=(hownE.lt g hg).1;simp;omega);rw[Pp.flat_snoc]at ho2;have hown2:w2.ownsRow (w.heap.size+1) 27 4 v2 (X++[x]).length (Pp.flat (X++[x])):=by rw[List.length_append];exact ho2
       clear ho2 hgr2 hnn2;obtain⟨s0,s1,s2,s3,hbw2,hlt2⟩:=box4 hbel2
       obtain⟨d0,d1,d2,d3⟩:=he.below hb hbw2
       have hXl:(X++[x]).length≤X.length+1:=by simp
       generalize X++[x]=Y at*;clear hown hbel hownD hbelD hownE hbelE c0 c1 c2 c3 r0 r1 r2 r3;go_wp2_with fail;go_region
       go_wp2_with (at_builtin;refine wpList_append_own _ rfl _ _ 22 rfl (w.heap.size+1) 27 i0 (.agg #[.string ⟨#[]⟩,.bool false,.string ⟨#[]⟩,.int .i64 0]) 4 48 Tryz.underlying22 hi0 hz0 hz1 hz2 rfl (by decide) _ _ _ rfl (hown2.drew.alloc _) ⟨w2.heap.size,0,none⟩ 1 1 (Pp.cells L[k]) rfl rfl (Pp.new_cells w2.drew L[k] _) (Pp.cells_one _) (by unfold maxLen;omega) (by omega) (by have:=hbel2.size;simp at this⊢;omega) ?_)
       intro v3 w3 ho2 hgr2 hnn2;have hbel3:Below (w.alloc (.cells #[.string x.path,.bool x.folder,.string x.text,.int .i64 x.ver] 27)).heap.size (w.alloc (.cells #[.string x.path,.bool x.folder,.string x.text,.int .i64 x.ver] 27)) w3:=(hbel2.drew.alloc hbel2.drew.size _).grown hgr2 (by have:=hbel2.size;simp at this⊢;omega) (fun g hg=>by have:=(hown2.drew.lt g hg).1;simp;omega);rw[Pp.flat_snoc]at ho2;have hown3:w3.ownsRow (w.heap.size+1) 27 4 v3 (Y++[L[k]]).length (Pp.flat (Y++[L[k]])):=by rw[List.length_append];exact ho2
       clear ho2 hgr2 hnn2;have HO:=hid hown3;clear hown3 hown2 hbel2 d0 d1 d2 d3 s0 s1 s2 s3 he;go_wp2_with fail;go_roundw
       case rel=>exact⟨k+1,by omega,by simp,by rw[HST.out],by rw[HST.out,List.length_append];simp only[List.length_singleton];omega,by rw[HST.out];exact HO.out,hbel3⟩
       case measure=>simp[intOf];omega
  · have ek:L.take k=L:=List.take_of_length_le (by omega)
    rw[ek]at hown hle⊢;have hR:Pp.putR x L=if(Pp.putS x L).2=true then(Pp.putS x L).1 else(Pp.putS x L).1++[x]:=rfl
    generalize Pp.putS x L=S at*;obtain⟨X,pb⟩:=S
    simp only at hle hown hR;cases pb with
    |true=>
     rw[if_pos rfl]at hR;have HR:=hid hR;clear hR;go_wp2_with fail;go_ret;exact⟨_,rfl,by rw[HR.out];exact Pp.own_mono hown (by simp),hbw⟩
    |false=>
     rw[if_neg (by decide)]at hR;have HR:=hid hR;clear hR;go_wp2_with (at_builtin;refine wpList_append_own _ rfl _ _ 22 rfl (w.heap.size+1) 27 i0 (.agg #[.string ⟨#[]⟩,.bool false,.string ⟨#[]⟩,.int .i64 0]) 4 48 Tryz.underlying22 hi0 hz0 hz1 hz2 rfl (by decide) _ _ _ rfl (hown.alloc _) ⟨wr.heap.size,0,none⟩ 1 1 (Pp.cells x) rfl rfl (Pp.new_cells wr x _) (Pp.cells_one _) (by unfold maxLen;omega) (by omega) (by have:=hbel.size;simp at this⊢;omega) ?_)
     intro v2 w2 ho2 hgr2 hnn2;have hbel2:Below (w.alloc (.cells #[.string x.path,.bool x.folder,.string x.text,.int .i64 x.ver] 27)).heap.size (w.alloc (.cells #[.string x.path,.bool x.folder,.string x.text,.int .i64 x.ver] 27)) w2:=(hbel.alloc hbel.size _).grown hgr2 (by have:=hbel.size;simp at this⊢;omega) (fun g hg=>by have:=(hown.lt g hg).1;simp;omega);rw[Pp.flat_snoc]at ho2;have hown2:w2.ownsRow (w.heap.size+1) 27 4 v2 (X++[x]).length (Pp.flat (X++[x])):=by rw[List.length_append];exact ho2
     clear ho2 hgr2 hnn2;obtain⟨s0,s1,s2,s3,hbw2,hlt2⟩:=box4 hbel2
     have HO:=hid hown2;clear hown2 hown hbel r0 r1 r2 r3 s0 s1 s2 s3;go_wp2_with fail;go_ret;exact⟨_,rfl,by rw[HR.out];exact Pp.own_mono HO.out (by simp),hbw2⟩
end Go.Proofs.YtagibnejodgeeaaGreatDoor
namespace Go.Proofs.YtagibnejodgeeaaGreatDoor
open Go.RowKit Go.Maps

namespace Mg
theorem st_ways (L:List En) (p:List UInt8):(Pp.idx L p= -1∧st L p=⟨0,⟨#[]⟩,0⟩)∨(∃k,∃h:k<L.length,Pp.idx L p=(k:Int)∧L[k].folder=true∧st L p=⟨1,⟨#[]⟩,L[k].ver⟩)∨ ∃k,∃h:k<L.length,Pp.idx L p=(k:Int)∧L[k].folder=false∧st L p=⟨2,L[k].text,L[k].ver⟩:=by
 rcases Pp.idx_cases L p with⟨h1,h2⟩|⟨k,h,h1,h2⟩
 · exact Or.inl ⟨h1,st_none h2⟩
 · have h3:st L p=spo L[k]:=st_some h2
   cases hf:L[k].folder with
   |true=>exact Or.inr (Or.inl ⟨k,h,h1,hf,by rw[h3,spo,Sp.wh,Sp.tx,if_pos hf,if_pos hf]⟩)
   |false=>exact Or.inr (Or.inr ⟨k,h,h1,hf,by rw[h3,spo,Sp.wh,Sp.tx,if_neg (by rw[hf];decide),if_neg (by rw[hf];decide)]⟩)
end Mg

set_option maxRecDepth 100000 in
set_option maxHeartbeats 2000000 in
theorem stateAt_any (L:List En) (v:Value) (p:ByteArray) (w:World) (hv:Lies w v L):
    Calls Tryz.prog 45 #[v,.string p] w fun e w'=>e= .returned (.tuple #[.int .i64 (Mg.st L p.data.toList).w,.string (Mg.st L p.data.toList).t])∧Below w.heap.size w w':=by
 have HV:=hid hv;obtain⟨a,cap,rfl,hcap,hcap2,hL⟩:=hv
 have HL:=hid hL;clear hL;go_enter Tryz.func45,Tryz.ntmps45
 go_wp2_with fail;refine(entryAt_any L _ p _ HV.out).mono ?_
 rintro e w1 ⟨rfl,hb1⟩;rcases Mg.st_ways L p.data.toList with⟨z1,z2⟩|⟨k,hk,z1,z2,z3⟩|⟨k,hk,z1,z2,z3⟩
 · rw[z1]
   have HZ:=hid z2;clear z1 z2;go_wp2_with fail;refine bodyPost_ret (v:= .tuple #[.int .i64 0,.string ⟨#[]⟩]) (by simp[results,Tryz.results45,go_sem]) rfl ⟨by rw[HZ.out],hb1⟩
 · rw[z1]
   obtain⟨b,o,rfl,hb,he⟩:=HL.out k hk
   obtain⟨c0,c1,c2,c3⟩:=he.below hb hb1
   rw[z2]at c1;have hk2:(k:Int)<L.length:=by omega
   have hk3: ¬(k:Int)<0:=by omega
   have HZ:=hid z3;clear z1 z2 z3 he;go_wp2_with fail;refine bodyPost_ret (v:= .tuple #[.int .i64 1,.string ⟨#[]⟩]) (by simp[results,Tryz.results45,go_sem]) rfl ⟨by rw[HZ.out],hb1⟩
 · rw[z1]
   obtain⟨b,o,rfl,hb,he⟩:=HL.out k hk
   obtain⟨c0,c1,c2,c3⟩:=he.below hb hb1
   rw[z2]at c1;have hk2:(k:Int)<L.length:=by omega
   have hk3: ¬(k:Int)<0:=by omega
   have HZ:=hid z3;clear z1 z2 z3 he;go_wp2_with fail;first|go_region|skip
   all_goals
    try go_wp2_with fail
    refine bodyPost_ret (v:= .tuple #[.int .i64 2,.string L[k].text]) (by simp[results,Tryz.results45,go_sem]) rfl ⟨by rw[HZ.out],(by first|exact hb1.drew|exact hb1)⟩
set_option maxRecDepth 100000 in
set_option maxHeartbeats 2000000 in
theorem alike_any (A B:List En) (va vb:Value) (p:ByteArray) (w:World) (hA:Lies w va A) (hB:Lies w vb B):
    Calls Tryz.prog 46 #[va,vb,.string p] w fun e w'=>e= .returned (.bool (Mg.lk (Mg.st A p.data.toList) (Mg.st B p.data.toList)))∧Below w.heap.size w w':=by
 have HA:=hid hA;have HB:=hid hB;obtain⟨a,cap,rfl,_⟩:=hA
 obtain⟨b,cap',rfl,_⟩:=hB
 have HE:=hid (show Mg.lk (Mg.st A p.data.toList) (Mg.st B p.data.toList)=(((Mg.st A p.data.toList).w==(Mg.st B p.data.toList).w) && ((Mg.st A p.data.toList).t.toList==(Mg.st B p.data.toList).t.toList))from rfl);go_enter Tryz.func46,Tryz.ntmps46
 go_wp2_with fail;refine(stateAt_any A _ p _ HA.out).mono ?_
 rintro e w1 ⟨rfl,hb1⟩;go_wp2_with fail;refine(stateAt_any B _ p _ (HB.out.below hb1)).mono ?_
 rintro e w2 ⟨rfl,hb2⟩;have hb02:=below_tr hb1 hb2;cases hw:((Mg.st A p.data.toList).w==(Mg.st B p.data.toList).w)with
 |true=>
  rw[hw]at HE;go_wp2_with fail;go_ret;exact⟨by rw[HE.out,Bool.true_and];rfl,hb02⟩
 |false=>
  rw[hw]at HE;go_wp2_with fail;go_ret;exact⟨by rw[HE.out,Bool.false_and];rfl,hb02⟩
end Go.Proofs.YtagibnejodgeeaaGreatDoor
namespace Go.Proofs.YtagibnejodgeeaaGreatDoor
open Go.RowKit Go.Maps

theorem Mg.putR_put1 {x:En} {L:List En} (h:Sp.Rise L):Pp.putR x L=Sp.put1 x L:=Pp.putR_eq h
set_option maxRecDepth 100000 in
set_option maxHeartbeats 2000000 in
theorem mput_pos {w:World} {bo:Nat} {vo:Value} {N:List En} (hb:Cs w bo [vo]) (hv:Lies w vo N) (hr:Sp.Rise N) (hn:N.length≤1000000) (p t:ByteArray) {k:Int} (hk:0<k):
    Calls Tryz.prog 42 #[.string p,.int .i64 k,.string t,.pointer (some ⟨bo,0,none⟩)] w fun e w'=>e= .returned (.tuple #[])∧ ∃u w1,w'=w1.setCell ⟨bo,0,none⟩ u∧Below w.heap.size w w1∧w1.ownsRow w.heap.size 27 4 u (Sp.put1 ⟨p,k==1,t,1⟩ N).length (Pp.flat (Sp.put1 ⟨p,k==1,t,1⟩ N)):=by
 have HR:=hid hr;have HV:=hid hv;have HBX:=hid hb;have c0:=hb.cell 0 rfl;have f0:=hb.fr 0;have hlt:=hb.lt;obtain⟨a,cap,rfl⟩: ∃a cap,vo= .slice a N.length cap:=by obtain⟨a,cap,h,_⟩:=hv;exact⟨a,cap,h⟩
 clear hb hv hr;go_enter Tryz.func42,Tryz.ntmps42
 go_wp2_with fail;refine(putEntry_any N _ ⟨p,k==1,t,1⟩ w HV.out hn).mono ?_
 rintro e w1 ⟨u,rfl,hrow,hb1⟩;rw[Mg.putR_put1 HR.out]at hrow;obtain⟨ua,ucap,rfl⟩:=ownsRow_shape hrow
 have HRW:=hid hrow;have HB1:=hid (HBX.out.below hb1);have g0:=HB1.out.fr 0;have y0:=HB1.out.cell 0 rfl;clear hrow c0 f0;go_wp2_with fail;go_end0
 exact⟨rfl,_,w1,rfl,hb1,HRW.out⟩
set_option maxRecDepth 100000 in
set_option maxHeartbeats 2000000 in
theorem mput_no {w:World} {bo:Nat} (p t:ByteArray) {k:Int} (hk: ¬0<k):
    Calls Tryz.prog 42 #[.string p,.int .i64 k,.string t,.pointer (some ⟨bo,0,none⟩)] w fun e w'=>e= .returned (.tuple #[])∧w'=w:=by
 go_enter Tryz.func42,Tryz.ntmps42
 go_wp2_with fail;go_end0
 exact⟨rfl,rfl⟩
end Go.Proofs.YtagibnejodgeeaaGreatDoor
namespace Go.Proofs.YtagibnejodgeeaaGreatDoor
open Go.RowKit

set_option maxHeartbeats 400000 in
theorem lastOf_any (s:ByteArray) (w:World) (hs:s.size≤1000000000):
    Calls Tryz.prog 68 #[.string s] w fun e w'=>e= .returned (.string ⟨(Pp.lst s.data.toList).toArray⟩)∧Below w.heap.size w w':=by
 have hn:(Pp.nm s.data.toList).length≤s.size+1:=by have:=Pp.nm_len_le s.data.toList;rwa [←Lib.size_eq]at this
 have h1:1≤(Pp.nm s.data.toList).length:=Nat.pos_of_ne_zero (fun e=>Pp.nm_ne _ (List.length_eq_zero_iff.1 e));have h3:(Pp.nm s.data.toList).length-1<(Pp.nm s.data.toList).length:=by omega
 have HP:=hid (show(Pp.nm s.data.toList)[(Pp.nm s.data.toList).length-1]=Pp.lst s.data.toList from by
  rw[Pp.lst,List.getLastD_eq_getLast?,List.getLast?_eq_getElem?,List.getElem?_eq_getElem h3];rfl)
 go_enter Tryz.func68,Tryz.ntmps68
 go_wp2_with fail;refine(rNames_at s _ hs).mono ?_
 rintro e w1 ⟨g,cap,rfl,hc1,hc2,hg1,hg2,hcell,hb⟩;have hce:=hcell _ h3;rw[HP.out]at hce;clear hcell;go_wp2;go_ret;exact⟨rfl,hb⟩
end Go.Proofs.YtagibnejodgeeaaGreatDoor
