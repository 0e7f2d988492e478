/- What passes Check goes on passing it: of Apply of a change, as plain mathematics. -/
import Derived.Test.YtdifomkoegmngaaGreatDoorRKA
import Derived.Test.YtdifomkoegmngaaGreatDoorProg
import Derived.WalkKit
import Derived.WalkSpells
import Derived.WalkLawsBesides
import Derived.Handy
import Derived.Test.YtdifomkoegmngaaGreatDoorRKB
import Derived.Maps.OwnSet
import Derived.StringKeys
import Derived.Deep.RegionHeld3
set_option linter.unusedSimpArgs false
set_option linter.unusedVariables false
namespace Go.Proofs.YtdifomkoegmngaaGreatDoor.Pp

theorem fold_mem {R:List En} (hr:R.Pairwise (fun x y=>lt x y=true)) {x:En} (hx:x∈R) {p:List UInt8} (hp:x.path.data.toList=p) (hf:x.folder=true):foldE R p=0:=by
 subst hp;rw[foldE];split
 · rfl
 · rw[sorted_find hr hx];simp[hf]
theorem fold_nil (L:List En):foldE L []=0:=by rw[foldE,if_pos rfl]
theorem par_in {l p:List UInt8} (h:isInB (par l) p=true) (hn:par l≠[]):isInB l p=true:=by
 by_cases hs:47∈l
 · obtain⟨a,b,hb,e⟩:=last_split hs
   rw[e,par_cut a hb]at h;rw[isIn_of,e];rcases(isIn_of a p).1 h with h|⟨r,h⟩
   · exact Or.inr ⟨b,by rw[h]⟩
   · exact Or.inr ⟨r++47::b,by rw[h];simp⟩
 · exact absurd (par_none hs) hn
/-- The parent of what is truly within is within. -/
theorem par_down {p r:List UInt8}: ∃a b,47∉b∧p++47::r=a++47::b∧isInB a p=true∧par (p++47::r)=a:=by
 obtain⟨a,b,hb,e2⟩:=last_split (l:=p++47::r) (by simp)
 refine⟨a,b,hb,e2,?_,by rw[e2];exact par_cut a hb⟩
 rw[isIn_of];by_cases hr:47∈r
 · obtain⟨r1,r2,hr2,er⟩:=last_split hr
   have:par (a++47::b)=par ((p++47::r1)++47::r2):=by rw[←e2,er];simp
   rw[par_cut a hb,par_cut _ hr2]at this;exact Or.inr ⟨r1,this⟩
 · have:par (a++47::b)=par (p++47::r):=by rw[←e2]
   rw[par_cut a hb,par_cut _ hr]at this;exact Or.inl this
theorem chg_kind {c:Ch} (h:chgE c=0):1≤c.k∧c.k≤4:=by
 by_cases h1:c.k<1∨4<c.k
 · rw[chgE,if_pos h1]at h;cases h
 · omega
theorem chg_path {c:Ch} (h:chgE c=0):chk c.p.data.toList=0:=by
 have hk:=chg_kind h;by_cases h2:chk c.p.data.toList=0
 · exact h2
 · rw[chgE,if_neg (by omega),if_pos h2]at h;exact h
theorem chg_to {c:Ch} (h:chgE c=0) (h3:c.k=3):chk c.q.data.toList=0:=by
 have hk:=chg_kind h;have hp:=chg_path h;by_cases h2:chk c.q.data.toList=0
 · exact h2
 · rw[chgE,if_neg (by omega),if_neg (fun x=>x hp),if_pos ⟨h3,h2⟩]at h;exact h
theorem chg_rest {c:Ch} (h:chgE c=0):(c.k=3∨c.q.data.toList=[])∧(c.k=2∨c.t.data.toList=[])∧c.t.size≤300∧ -1≤c.b∧c.b≤1000000:=by
 have hk:=chg_kind h;have hp:=chg_path h;have ht:=fun h3=>chg_to h h3
 rw[chgE,if_neg (by omega),if_neg (fun x=>x hp),if_neg (fun x=>x.2 (ht x.1))]at h;split at h
 · cases h
 · rename_i h1
   split at h
   · cases h
   · rename_i h2
     split at h
     · cases h
     · rename_i h3
       refine⟨?_,?_,by omega,by omega,by omega⟩
       · by_cases hh:c.k=3
         · exact Or.inl hh
         · exact Or.inr (Classical.byContradiction fun hq=>h1 (Or.inl ⟨hh,hq⟩))
       · by_cases hh:c.k=2
         · exact Or.inl hh
         · exact Or.inr (Classical.byContradiction fun hq=>h1 (Or.inr ⟨hh,hq⟩))
theorem plc_fold {L:List En} {c:Ch} (h:plcE L c=0):foldE L (par (goal c))=0:=by
 by_cases h1:foldE L (par (goal c))=0
 · exact h1
 · rw[plcE,if_pos h1]at h;exact h
theorem plc_rest {L:List En} {c:Ch} (h:plcE L c=0) (hk:1≤c.k∧c.k≤4):
    (c.k=1∧L.find? (atB c.p.data.toList)=none)∨(c.k=2∧ ∀x,L.find? (atB c.p.data.toList)=some x→x.folder=false)∨
    (c.k=3∧(∃x,L.find? (atB c.p.data.toList)=some x)∧isInB c.q.data.toList c.p.data.toList=false∧L.find? (atB c.q.data.toList)=none)∨
    (c.k=4∧ ∃x,L.find? (atB c.p.data.toList)=some x):=by
 have hf:=plc_fold h;rw[plcE,if_neg (fun x=>x hf)]at h;have h4:c.k=1∨c.k=2∨c.k=3∨c.k=4:=by omega
 cases hx:L.find? (atB c.p.data.toList)with
 |none=>
  rw[hx]at h;rcases h4 with e|e|e|e
  · exact Or.inl ⟨e,rfl⟩
  · exact Or.inr (Or.inl ⟨e,fun x hx=>by cases hx⟩)
  · simp[e]at h
  · simp[e]at h
 |some x=>
  rw[hx]at h;rcases h4 with e|e|e|e
  · simp[e]at h
  · refine Or.inr (Or.inl ⟨e,fun y hy=>?_⟩)
    cases hy
    cases hb:x.folder with
    |false=>rfl
    |true=>simp[e,hb]at h
  · refine Or.inr (Or.inr (Or.inl ⟨e,⟨x,rfl⟩,?_,?_⟩))
    · cases hb:isInB c.q.data.toList c.p.data.toList with
      |false=>rfl
      |true=>simp[e,hb]at h
    · cases hb:L.find? (atB c.q.data.toList)with
      |none=>rfl
      |some y=>simp only[e,hb]at h;simp at h;split at h<;>cases h
  · exact Or.inr (Or.inr (Or.inr ⟨e,x,rfl⟩))
theorem mem_outE {x y:En} {L:List En}:y∈outE x L↔y∈L∧y.path.data.toList≠x.path.data.toList:=by
 rw[outE,List.mem_filter];simp[atB]
theorem new_good {L:List En} (hL:Good L) {c:Ch} {n:Int} (hc:chgE c=0) (hp:plcE L c=0) (hv:verE n=0) (hk:c.k=1∨c.k=2) (hr: ¬60<(outE (newE c n) L).length+1):Good (ins (newE c n) (outE (newE c n) L)):=by
 have hsort:(ins (newE c n) (outE (newE c n) L)).Pairwise (fun x y=>lt x y=true):=ins_sorted _ (List.Pairwise.filter _ hL.rise) fun y hy=>(mem_outE.1 hy).2
 have hmem: ∀y,y∈ins (newE c n) (outE (newE c n) L)↔y=newE c n∨y∈outE (newE c n) L:=fun y=>by rw[(ins_perm _ _).mem_iff,List.mem_cons]
 have hrest:=chg_rest hc;refine⟨?_,fun y hy=>?_,hsort,fun y hy=>?_⟩
 · rw[(ins_perm _ _).length_eq,List.length_cons];omega
 · rcases(hmem y).1 hy with rfl|hy
   · have h1:chk (newE c n).path.data.toList=0:=chg_path hc
     have h2:(newE c n).text.size=c.t.size:=rfl;rw[entE,if_pos h1,if_neg,if_neg]
     · exact hv
     · rw[h2];have:=hrest.2.2.1;omega
     · rintro ⟨ha,hb⟩
       have hk1:c.k=1:=by simpa[newE]using ha
       rcases hrest.2.1 with h|h
       · omega
       · exact hb h
   · exact hL.ents y (mem_outE.1 hy).1
 · by_cases hP:par y.path.data.toList=[]
   · rw[hP];exact fold_nil _
   have hF:foldE L (par y.path.data.toList)=0:=by
    rcases(hmem y).1 hy with rfl|hy
    · have:=plc_fold hp
      rw[goal,if_neg (by omega)]at this;exact this
    · exact hL.pars y (mem_outE.1 hy).1
   obtain⟨z,hz,hzp,hzf,hzs⟩:=fold_zero hF hP
   refine fold_mem hsort (x:=z) ((hmem z).2 (Or.inr (mem_outE.2 ⟨hz,fun e=>?_⟩))) hzp hzf
   have e':z.path.data.toList=c.p.data.toList:=e;have hfind:=sorted_find hL.rise hz;rw[e']at hfind;rcases plc_rest hp (chg_kind hc)with h|h|h|h
   · rw[h.2]at hfind;cases hfind
   · have:=h.2 z hfind;rw[hzf]at this;cases this
   · omega
   · omega
theorem mem_keptL {L:List En} {c:Ch} {y:En}:y∈keptL L c↔y∈L∧isInB y.path.data.toList c.p.data.toList=false:=by
 rw[keptL,List.mem_filter];simp[wi]
theorem mem_goL {L:List En} {c:Ch} {y:En}:y∈goL L c↔y∈L∧isInB y.path.data.toList c.p.data.toList=true:=by
 rw[goL,List.mem_filter];simp[wi]
theorem kept_par {L:List En} (hL:Good L) {c:Ch} {y:En} (hy:y∈keptL L c) (hP:par y.path.data.toList≠[]): ∃z∈keptL L c,z.path.data.toList=par y.path.data.toList∧z.folder=true:=by
 obtain⟨hy1,hy2⟩:=mem_keptL.1 hy
 obtain⟨z,hz,hzp,hzf,_⟩:=fold_zero (hL.pars y hy1) hP
 refine⟨z,mem_keptL.2 ⟨hz,?_⟩,hzp,hzf⟩
 cases hb:isInB z.path.data.toList c.p.data.toList with
 |false=>rfl
 |true=>rw[hzp]at hb;rw[par_in hb hP]at hy2;cases hy2
theorem kept_good {L:List En} (hL:Good L) (c:Ch):Good (keptL L c):=by
 have hsort:(keptL L c).Pairwise (fun x y=>lt x y=true):=List.Pairwise.filter _ hL.rise;refine⟨Nat.le_trans (List.length_filter_le _ _) hL.len,fun y hy=>hL.ents y (mem_keptL.1 hy).1,hsort,fun y hy=>?_⟩
 by_cases hP:par y.path.data.toList=[]
 · rw[hP];exact fold_nil _
 · obtain⟨z,hz,hzp,hzf⟩:=kept_par hL hy hP
   exact fold_mem hsort hz hzp hzf
theorem path_mvd (c:Ch) (n:Int) (e:En):(mvd c n e).path.data.toList=mvP c e:=rfl
theorem nothing_in {L:List En} (hL:Good L) {q:List UInt8} (hq:q≠[]) (hf:L.find? (atB q)=none) {e:En} (he:e∈L):isInB e.path.data.toList q=false:=by
 cases hb:isInB e.path.data.toList q with
 |false=>rfl
 |true=>
  obtain⟨x,hx,hxp⟩:=anc' hL.pars hq he hb
  have:=List.find?_eq_none.1 hf x hx
  simp[atB,hxp]at this
theorem mv_dif {L:List En} (hL:Good L) {c:Ch} (n:Int) (hq:c.q.data.toList≠[]) (hf:L.find? (atB c.q.data.toList)=none):(keptL L c++mvL L c n).Pairwise dif:=by
 have hd:L.Pairwise dif:=hL.rise.imp fun h=>lt_dif h
 rw[List.pairwise_append];refine⟨List.Pairwise.filter _ hd,?_,fun a ha b hb e=>?_⟩
 · rw[mvL,List.pairwise_map]
   have h1:(goL L c).Pairwise dif:=List.Pairwise.filter _ hd;refine(List.Pairwise.and_mem.1 h1).imp fun {a b} h e=>?_
   exact h.2.2 (mvT_inj (mem_goL.1 h.1).2 (mem_goL.1 h.2.1).2 e)
 · obtain⟨x,hx,rfl⟩:=List.mem_map.1 hb
   have h1:=mvT_in (t:=c.q.data.toList) (mem_goL.1 hx).2;have h2:=nothing_in hL hq hf (mem_keptL.1 ha).1;rw[e,path_mvd]at h2;rw[mvP,h1]at h2;cases h2
theorem mv_chk0 {L:List En} (hL:Good L) {c:Ch} (hc:chgE c=0) (h3:c.k=3) {e:En} (he:e∈goL L c):chk (mvP c e)=if big (mvP c e)=true then 2 else 0:=by
 obtain⟨h1,h2⟩:=mem_goL.1 he
 refine mv_chk ?_ h2
 have ha:=entE_path (hL.ents e h1);have hb:=chg_path hc;have hd:=chg_to hc h3;simp[chks,ha,hb,hd]
theorem mv_good {L:List En} (hL:Good L) {c:Ch} {n:Int} (hc:chgE c=0) (hp:plcE L c=0) (hv:verE n=0) (h3:c.k=3) (hb:(goL L c).any (fun e=>big (mvP c e))=false):Good (insAll (mvL L c n) (keptL L c)):=by
 obtain⟨_,⟨x0,hx0⟩,hqp,hqf⟩:c.k=3∧(∃x,L.find? (atB c.p.data.toList)=some x)∧isInB c.q.data.toList c.p.data.toList=false∧L.find? (atB c.q.data.toList)=none:=by
  rcases plc_rest hp (chg_kind hc)with h|h|h|h
  · omega
  · omega
  · exact h
  · omega
 have hq0:=chk_path_ne (chg_to hc h3);have hsort:(insAll (mvL L c n) (keptL L c)).Pairwise (fun x y=>lt x y=true):=insAll_sorted _ (List.Pairwise.filter _ hL.rise) (mv_dif hL n hq0 hqf)
 have hmem: ∀y,y∈insAll (mvL L c n) (keptL L c)↔y∈keptL L c∨ ∃e∈goL L c,mvd c n e=y:=fun y=>by
  rw[(insAll_perm _ _).mem_iff,List.mem_append,mvL,List.mem_map]
 refine⟨?_,fun y hy=>?_,hsort,fun y hy=>?_⟩
 · rw[(insAll_perm _ _).length_eq,List.length_append,mvL,List.length_map]
   have h1:(keptL L c).length+(goL L c).length=L.length:=by
    rw[keptL,goL];have:=(List.filter_append_perm (fun e=> !wi c.p.data.toList e) L).length_eq
    rw[List.length_append]at this;have e1:(List.filter (fun x=> !(fun e=> !wi c.p.data.toList e) x) L)=List.filter (wi c.p.data.toList) L:=by congr 1;funext x;simp
    rw[e1]at this;exact this
   have:=hL.len
   omega
 · rcases(hmem y).1 hy with hy|⟨e,he,rfl⟩
   · exact hL.ents y (mem_keptL.1 hy).1
   · have h0:=hL.ents e (mem_goL.1 he).1
     have h1:chk (mvd c n e).path.data.toList=0:=by
      rw[path_mvd,mv_chk0 hL hc h3 he,if_neg];have:=List.any_eq_false.1 hb e he
      exact this
     have h2:=entE_path h0;rw[entE,if_pos h2]at h0;rw[entE,if_pos h1];have h5:(mvd c n e).folder=e.folder:=rfl;have h6:(mvd c n e).text=e.text:=rfl;rw[h5,h6];split at h0
     · cases h0
     · rename_i ha
       rw[if_neg ha];split at h0
       · cases h0
       · rename_i hb2
         rw[if_neg hb2];by_cases hpp:e.path.data.toList=c.p.data.toList
         · have:(mvd c n e).ver=n:=by simp[mvd,hpp]
           rw[this];exact hv
         · have:(mvd c n e).ver=e.ver:=by simp[mvd,hpp]
           rw[this];exact h0
 · by_cases hP:par y.path.data.toList=[]
   · rw[hP];exact fold_nil _
   rcases(hmem y).1 hy with hy|⟨e,he,rfl⟩
   · obtain⟨z,hz,hzp,hzf⟩:=kept_par hL hy hP
     exact fold_mem hsort ((hmem z).2 (Or.inl hz)) hzp hzf
   · rw[path_mvd]at hP⊢
     obtain⟨he1,he2⟩:=mem_goL.1 he
     rcases(isIn_of _ _).1 he2 with e0|⟨r,e0⟩
     · have hpq:mvP c e=c.q.data.toList:=by rw[mvP,mvT,e0];simp
       rw[hpq]at hP⊢;have hfo:=plc_fold hp;rw[goal,if_pos h3]at hfo;obtain⟨z,hz,hzp,hzf,_⟩:=fold_zero hfo hP
       refine fold_mem hsort ((hmem z).2 (Or.inl (mem_keptL.2 ⟨hz,?_⟩))) hzp hzf
       cases hbb:isInB z.path.data.toList c.p.data.toList with
       |false=>rfl
       |true=>rw[hzp]at hbb;rw[par_in hbb hP]at hqp;cases hqp
     · obtain⟨a,b,hb47,e2,hap,hpar⟩:=par_down (p:=c.p.data.toList) (r:=r)
       have ha0:a≠[]:=by
        intro ea;rw[ea]at hap;rcases(isIn_of _ _).1 hap with h|⟨s,h⟩
        · exact chk_path_ne (chg_path hc) h.symm
        · have h:=congrArg List.length h
          simp at h
       have hfo:=hL.pars e he1;rw[e0,hpar]at hfo;obtain⟨z,hz,hzp,hzf,_⟩:=fold_zero hfo ha0
       have hzg:z∈goL L c:=mem_goL.2 ⟨hz,by rw[hzp];exact hap⟩;refine fold_mem hsort (x:=mvd c n z) ((hmem _).2 (Or.inr ⟨z,hzg,rfl⟩)) ?_ hzf
       rw[path_mvd,mvP,hzp,mvP,e0,e2];obtain⟨s,hs⟩:=isIn_pre hap
       have:mvT (a++47::b) c.p.data.toList c.q.data.toList=mvT a c.p.data.toList c.q.data.toList++47::b:=by
        rw[mvT,mvT,hs];simp
       rw[this,par_cut _ hb47]
theorem app_good {L:List En} (hL:Good L) {c:Ch} {n:Int} (h:appE L c n=0):Good (chdR L c n):=by
 have hv:verE n=0:=by
  by_cases h1:verE n=0
  · exact h1
  · rw[appE,if_pos h1]at h;exact h
 rw[appE,if_neg (fun x=>x hv)]at h
 have hc:chgE c=0:=by
  by_cases h1:chgE c=0
  · exact h1
  · rw[if_pos h1]at h;exact h
 rw[if_neg (fun x=>x hc)]at h
 have hp:plcE L c=0:=by
  by_cases h1:plcE L c=0
  · exact h1
  · rw[if_pos h1]at h;exact h
 rw[if_neg (fun x=>x hp)]at h;split at h
 · cases h
 · rw[chdE]at h
   rw[chdR];by_cases hk:c.k=1∨c.k=2
   · rw[if_pos hk]at h⊢
     refine new_good hL hc hp hv hk fun h6=>?_
     rw[if_pos h6]at h;cases h
   · rw[if_neg hk]at h⊢
     by_cases h3:c.k=3
     · rw[if_pos h3]at h⊢
       refine mv_good hL hc hp hv h3 ?_
       cases hb:(goL L c).any (fun e=>big (mvP c e))with
       |false=>rfl
       |true=>rw[if_pos hb]at h;cases h
     · rw[if_neg h3]
       exact kept_good hL c
end Go.Proofs.YtdifomkoegmngaaGreatDoor.Pp
namespace Go.Proofs.YtdifomkoegmngaaGreatDoor
open Go.RowKit

namespace Pp
theorem retB {a b:Bool} (h:a=b):Ending.returned (.bool a)= .returned (.bool b):=by rw[h]
def okK (c:UInt8):Bool:=decide (97≤(c.toNat:Int)∧(c.toNat:Int)≤122∨65≤(c.toNat:Int)∧(c.toNat:Int)≤90∨48≤(c.toNat:Int)∧(c.toNat:Int)≤57∨(c.toNat:Int)=45)
def keyB (l:List UInt8):Bool:=decide (1≤l.length) && decide (l.length≤20) && l.all okK
def keyE (l:List UInt8):Int:=if keyB l=true then 0 else 1
theorem keyE_yes {l:List UInt8} (h:keyB l=true):keyE l=0:=if_pos h
theorem keyE_no {l:List UInt8} (h:keyB l=false):keyE l=1:=if_neg (by rw[h];decide)
theorem keyB_short {l:List UInt8} (h:l.length<1):keyB l=false:=by simp[keyB];omega
theorem keyB_long {l:List UInt8} (h:20<l.length):keyB l=false:=by simp[keyB];omega
theorem keyB_bad {l:List UInt8} {k:Nat} (hk:k<l.length) (h:okK l[k]=false):keyB l=false:=by
 have:l.all okK=false:=by
  rw[List.all_eq_false];exact⟨l[k],List.getElem_mem hk,by simp[h]⟩
 simp[keyB,this]
theorem keyB_ok {l:List UInt8} (h1: ¬l.length<1) (h2: ¬20<l.length) (h:l.all okK=true):keyB l=true:=by
 simp only[keyB,h,Bool.and_true,Bool.and_eq_true,decide_eq_true_eq];omega
theorem all_take {l:List UInt8} {f:UInt8→Bool} {k:Nat} (hk:k<l.length) (h:(l.take k).all f=true) (hf:f l[k]=true):(l.take (k+1)).all f=true:=by
 rw[List.take_succ_eq_append_getElem hk,List.all_append,h];simp[hf]
theorem okK_yes {c:UInt8} (h:97≤(c.toNat:Int)∧(c.toNat:Int)≤122∨65≤(c.toNat:Int)∧(c.toNat:Int)≤90∨48≤(c.toNat:Int)∧(c.toNat:Int)≤57):true=okK c:=by
 rw[okK,eq_comm,decide_eq_true_eq];omega
theorem okK_last {c:UInt8} (h: ¬(97≤(c.toNat:Int)∧(c.toNat:Int)≤122∨65≤(c.toNat:Int)∧(c.toNat:Int)≤90∨48≤(c.toNat:Int)∧(c.toNat:Int)≤57)):((c.toNat:Int)==45)=okK c:=by
 rw[okK,Bool.eq_iff_iff,beq_iff_eq,decide_eq_true_eq];omega
end Pp

set_option maxHeartbeats 400000 in
theorem inKeys_any (c:UInt8) (w:World):
    Calls Tryz.prog 54 #[.int .u8 (c.toNat:Int)] w fun e w'=>e= .returned (.bool (Pp.okK c))∧w'=w:=by
 go_enter Tryz.func54,Tryz.ntmps54
 go_wp2
 all_goals go_ret
 all_goals first
  |exact⟨Pp.retB (Pp.okK_yes (by omega)),rfl⟩
  |exact⟨Pp.retB (Pp.okK_last (by omega)),rfl⟩
set_option maxHeartbeats 800000 in
theorem key_any (s:ByteArray) (w:World) (hs:s.size≤maxLen):
    Calls Tryz.prog 26 #[.string s] w fun e w'=>e= .returned (.int .i64 (Pp.keyE s.data.toList))∧w'=w:=by
 unfold maxLen at hs;have hz:s.data.toList.length=s.size:=Array.length_toList;by_cases c1:(s.size:Int)<1
 · rw[Pp.keyE_no (Pp.keyB_short (by omega))]
   go_enter Tryz.func26,Tryz.ntmps26
   go_wp2_with fail;go_ret;exact⟨rfl,rfl⟩
 by_cases c2:20<(s.size:Int)
 · rw[Pp.keyE_no (Pp.keyB_long (by omega))]
   go_enter Tryz.func26,Tryz.ntmps26
   go_wp2_with fail;go_ret;exact⟨rfl,rfl⟩
 have HZ:Hid (s.data.toList.length=s.size):=hz;have HY:Hid (s.data.toList.all Pp.okK=true→Pp.keyE s.data.toList=0):=fun h=>Pp.keyE_yes (Pp.keyB_ok (by omega) (by omega) h)
 clear hz;go_enter Tryz.func26,Tryz.ntmps26
 go_wp2_with fail;go_loop [14] (fun i=> ∃k:Nat,k≤s.size∧i= .int .i64 k∧(s.data.toList.take k).all Pp.okK=true) (fun i=>s.size-(intOf i).toNat)
 case atStart=>exact⟨0,Nat.zero_le _,rfl,by simp⟩
 case round=>
  obtain⟨k,hk,rfl,hall⟩:=hrel
  have HA:Hid ((s.data.toList.take k).all Pp.okK=true):=hall;clear hall;by_cases hlt:k<s.size
  · cases ho:Pp.okK s[k]with
    |true=>
     have HN:Hid ((s.data.toList.take (k+1)).all Pp.okK=true):=Pp.all_take (by rw[HZ.out];exact hlt) HA.out ho;go_wp2_with (go_at_call 54;refine(inKeys_any _ _).mono ?_;rintro e w' ⟨rfl,rfl⟩)
     go_round
     case rel=>exact⟨k+1,by omega,by go_num,HN.out⟩
     case measure=>simp[intOf];omega
    |false=>
     have HE:Hid (Pp.keyE s.data.toList=1):=Pp.keyE_no (Pp.keyB_bad (by rw[HZ.out];exact hlt) ho);go_wp2_with (go_at_call 54;refine(inKeys_any _ _).mono ?_;rintro e w' ⟨rfl,rfl⟩)
     go_ret;exact⟨by rw[HE.out];rfl,rfl⟩
  · have HE2:Hid (Pp.keyE s.data.toList=0):=HY.out (by have:=HA.out;rwa [List.take_of_length_le (by rw[HZ.out];omega)]at this)
    go_wp2_with fail;go_ret;exact⟨by rw[HE2.out];rfl,rfl⟩
set_option maxHeartbeats 800000 in
theorem isKey_any (s:ByteArray) (w:World) (hs:s.size≤maxLen):
    Calls Tryz.prog 41 #[.string s] w fun e w'=>e= .returned (.bool (Pp.keyB s.data.toList))∧w'=w:=by
 unfold maxLen at hs;have hz:s.data.toList.length=s.size:=Array.length_toList;have HZ:Hid (s.data.toList.length=s.size):=hz;clear hz;go_enter Tryz.func41,Tryz.ntmps41
 go_wp2_with fail;go_loop [3] (fun i=> ∃k:Nat,k≤s.size∧i= .int .i64 k∧(s.data.toList.take k).all Pp.okK=true) (fun i=>s.size-(intOf i).toNat)
 case atStart=>exact⟨0,Nat.zero_le _,rfl,by simp⟩
 case round=>
  obtain⟨k,hk,rfl,hall⟩:=hrel
  have HA:Hid ((s.data.toList.take k).all Pp.okK=true):=hall;clear hall;by_cases hlt:k<s.size
  · cases ho:Pp.okK s[k]with
    |true=>
     have HN:Hid ((s.data.toList.take (k+1)).all Pp.okK=true):=Pp.all_take (by rw[HZ.out];exact hlt) HA.out ho;have HC:=of_decide_eq_true ho;rcases HC with⟨h1,h2⟩|⟨h1,h2⟩|⟨h1,h2⟩|h1
     · go_wp2_with fail
       go_round
       case rel=>exact⟨k+1,by omega,by go_num,HN.out⟩
       case measure=>simp[intOf];omega
     · have g1: ¬97≤(s[k].toNat:Int):=by omega
       go_wp2_with fail;go_round
       case rel=>exact⟨k+1,by omega,by go_num,HN.out⟩
       case measure=>simp[intOf];omega
     · have g1: ¬97≤(s[k].toNat:Int):=by omega
       have g2: ¬65≤(s[k].toNat:Int):=by omega
       go_wp2_with fail;go_round
       case rel=>exact⟨k+1,by omega,by go_num,HN.out⟩
       case measure=>simp[intOf];omega
     · have g1: ¬97≤(s[k].toNat:Int):=by omega
       have g2: ¬65≤(s[k].toNat:Int):=by omega
       have g3: ¬48≤(s[k].toNat:Int):=by omega
       go_wp2_with fail;go_round
       case rel=>exact⟨k+1,by omega,by go_num,HN.out⟩
       case measure=>simp[intOf];omega
    |false=>
     have HE:Hid (Pp.keyB s.data.toList=false):=Pp.keyB_bad (by rw[HZ.out];exact hlt) ho;have HC:=of_decide_eq_false ho;have g4:((s[k].toNat:Int)==45)=false:=by simp;omega
     by_cases g1:97≤(s[k].toNat:Int)
     · have g2: ¬(s[k].toNat:Int)≤122:=by omega
       have g3:65≤(s[k].toNat:Int):=by omega
       have g5: ¬(s[k].toNat:Int)≤90:=by omega
       have g6:48≤(s[k].toNat:Int):=by omega
       have g7: ¬(s[k].toNat:Int)≤57:=by omega
       clear HC;go_wp2_with fail;go_ret;exact⟨by rw[HE.out];rfl,rfl⟩
     by_cases g3:65≤(s[k].toNat:Int)
     · have g5: ¬(s[k].toNat:Int)≤90:=by omega
       have g6:48≤(s[k].toNat:Int):=by omega
       have g7: ¬(s[k].toNat:Int)≤57:=by omega
       clear HC;go_wp2_with fail;go_ret;exact⟨by rw[HE.out];rfl,rfl⟩
     by_cases g6:48≤(s[k].toNat:Int)
     · have g7: ¬(s[k].toNat:Int)≤57:=by omega
       clear HC;go_wp2_with fail;go_ret;exact⟨by rw[HE.out];rfl,rfl⟩
     · clear HC
       go_wp2_with fail;go_ret;exact⟨by rw[HE.out];rfl,rfl⟩
  · have HAL:=hid (show s.data.toList.all Pp.okK=true from by have:=HA.out;rwa [List.take_of_length_le (by rw[HZ.out];omega)]at this)
    by_cases c1:1≤(s.size:Int)
    · by_cases c2:(s.size:Int)≤20
      · have HE2:Hid (Pp.keyB s.data.toList=true):=Pp.keyB_ok (by rw[HZ.out];omega) (by rw[HZ.out];omega) HAL.out
        go_wp2_with fail;go_ret;exact⟨by rw[HE2.out];rfl,rfl⟩
      · have HE2:Hid (Pp.keyB s.data.toList=false):=Pp.keyB_long (by rw[HZ.out];omega)
        go_wp2_with fail;go_ret;exact⟨by rw[HE2.out];rfl,rfl⟩
    · have HE2:Hid (Pp.keyB s.data.toList=false):=Pp.keyB_short (by rw[HZ.out];omega)
      go_wp2_with fail;go_ret;exact⟨by rw[HE2.out];rfl,rfl⟩
end Go.Proofs.YtdifomkoegmngaaGreatDoor
namespace Go.Proofs.YtdifomkoegmngaaGreatDoor
open Go.RowKit

/-- A commit: its number, its key, its changes. -/
structure Co where
 nu:Int
 ke:ByteArray
 ch:List Pp.Ch
/-- A journal: the tree ahead of its first commit, that one's number, its commits. -/
structure Jo where
 base:List En
 first:Int
 cos:List Co
def CoAt (w:World) (b o:Nat) (c:Co):Prop:=w.cell? ⟨b,o,none⟩=some (.int .i64 c.nu)∧w.cell? ⟨b,o+1,none⟩=some (.string c.ke)∧ ∃u,w.cell? ⟨b,o+2,none⟩=some u∧LiesC w u c.ch
def LiesO (w:World) (v:Value) (l:List Co):Prop:= ∃a cap,v= .slice a l.length cap∧l.length≤cap∧l.length≤1000000000000000∧ ∀i (h:i<l.length),∃b o,a=some ⟨b,o,none⟩∧b<w.heap.size∧CoAt w b (o+i*3) l[i]
def LiesJ (w:World) (v:Value) (J:Jo):Prop:= ∃vb vc,v= .agg #[vb,.int .i64 J.first,vc]∧Lies w vb J.base∧LiesO w vc J.cos
theorem CoAt.below {w w':World} {b o:Nat} {c:Co} (h:CoAt w b o c) (hb:b<w.heap.size) (hw:Below w.heap.size w w'):CoAt w' b o c:=by
 obtain⟨h0,h1,u,h2,h3⟩:=h
 exact⟨(hw.cell (p:=⟨b,o,none⟩) hb).trans h0,(hw.cell (p:=⟨b,o+1,none⟩) hb).trans h1,u,(hw.cell (p:=⟨b,o+2,none⟩) hb).trans h2,h3.below hw⟩
theorem LiesO.below {w w':World} {v:Value} {l:List Co} (h:LiesO w v l) (hw:Below w.heap.size w w'):LiesO w' v l:=by
 obtain⟨a,cap,hv,h1,h2,h3⟩:=h
 refine⟨a,cap,hv,h1,h2,fun i hi=>?_⟩
 obtain⟨b,o,ha,hb,he⟩:=h3 i hi
 exact⟨b,o,ha,Nat.lt_of_lt_of_le hb hw.size,he.below hb hw⟩
theorem LiesJ.below {w w':World} {v:Value} {J:Jo} (h:LiesJ w v J) (hw:Below w.heap.size w w'):LiesJ w' v J:=by
 obtain⟨vb,vc,rfl,h1,h2⟩:=h
 exact⟨vb,vc,rfl,h1.below hw,h2.below hw⟩
theorem liesO_nil (w:World):LiesO w (.slice none 0 0) []:=⟨none,0,rfl,Nat.le_refl _,by decide,fun i h=>absurd h (by simp)⟩
def SizedO (B:Nat) (l:List Co):Prop:= ∀c∈l,c.ke.size≤B∧SizedC B c.ch
theorem SizedO.mono {B B':Nat} {l:List Co} (h:SizedO B l) (hb:B≤B'):SizedO B' l:=fun c hc=>⟨Nat.le_trans (h c hc).1 hb,fun x hx=>⟨Nat.le_trans ((h c hc).2 x hx).1 hb,Nat.le_trans ((h c hc).2 x hx).2.1 hb,Nat.le_trans ((h c hc).2 x hx).2.2 hb⟩⟩
namespace Jn
/-- Of one commit, but for its changes: its number must be this one. -/
def coE (c:Co) (n:Int):Int:=if¬c.nu=n then 4 else if 1000000<n then 3 else if¬Pp.keyB c.ke.data.toList=true then 1 else if c.ch=[]then 1 else 0
/-- Commit by commit. -/
def runJ:Int→List En→List Co→Int×List En
 |_,T,[]=>(0,T)
 |n,T,c::r=>if¬coE c n=0 then(coE c n,[])else if¬Pp.allE T c.ch c.nu=0 then(Pp.allE T c.ch c.nu,[])else runJ (n+1) (Pp.allR T c.ch c.nu) r
def Apart (l:List Co):Prop:=l.Pairwise (fun x y=>x.ke.data.toList≠y.ke.data.toList)
instance (l:List Co):Decidable (Apart l):=by unfold Apart;infer_instance
def chkE (J:Jo):Int:=if¬Pp.treeE J.base=0 then Pp.treeE J.base else if¬Pp.verE J.first=0 then 3 else if 30<J.cos.length then 2 else
 if¬(runJ J.first J.base J.cos).1=0 then(runJ J.first J.base J.cos).1 else if¬Apart J.cos then 6 else 0
def tree (J:Jo):List En:=(runJ J.first J.base J.cos).2
def last (J:Jo):Int:=J.first-1+J.cos.length
/-- What is left to do behind the first commits. -/
def LeftJ (J:Jo) (S:List En) (k:Nat):Prop:=runJ J.first J.base J.cos=runJ (J.first+k) S (J.cos.drop k)
theorem left_zero (J:Jo):LeftJ J J.base 0:=by rw[LeftJ];simp
theorem left_step {J:Jo} {S:List En} {k:Nat} (h:LeftJ J S k) (hk:k<J.cos.length):runJ J.first J.base J.cos=if¬coE J.cos[k] (J.first+k)=0 then(coE J.cos[k] (J.first+k),[])else if¬Pp.allE S J.cos[k].ch J.cos[k].nu=0 then(Pp.allE S J.cos[k].ch J.cos[k].nu,[])else runJ (J.first+(k+1:Nat)) (Pp.allR S J.cos[k].ch J.cos[k].nu) (J.cos.drop (k+1)):=by
 rw[LeftJ,List.drop_eq_getElem_cons hk,runJ]at h;rw[h,show J.first+(k:Int)+1=J.first+((k+1:Nat):Int) by omega]
theorem left_bad {J:Jo} {S:List En} {k:Nat} (h:LeftJ J S k) (hk:k<J.cos.length) (h0: ¬coE J.cos[k] (J.first+k)=0):runJ J.first J.base J.cos=(coE J.cos[k] (J.first+k),[]):=by
 rw[left_step h hk,if_pos h0]
theorem left_all {J:Jo} {S:List En} {k:Nat} (h:LeftJ J S k) (hk:k<J.cos.length) (h0:coE J.cos[k] (J.first+k)=0) (h1: ¬Pp.allE S J.cos[k].ch J.cos[k].nu=0):runJ J.first J.base J.cos=(Pp.allE S J.cos[k].ch J.cos[k].nu,[]):=by
 rw[left_step h hk,if_neg (fun x=>x h0),if_pos h1]
theorem left_next {J:Jo} {S:List En} {k:Nat} (h:LeftJ J S k) (hk:k<J.cos.length) (h0:coE J.cos[k] (J.first+k)=0) (h1:Pp.allE S J.cos[k].ch J.cos[k].nu=0):LeftJ J (Pp.allR S J.cos[k].ch J.cos[k].nu) (k+1):=by
 rw[LeftJ,left_step h hk,if_neg (fun x=>x h0),if_neg (fun x=>x h1)]
theorem left_end {J:Jo} {S:List En} (h:LeftJ J S J.cos.length):runJ J.first J.base J.cos=(0,S):=by
 rw[LeftJ,List.drop_length,runJ]at h;exact h
theorem ver_iff {n:Int}:Pp.verE n=0↔1≤n∧n≤1000000:=by
 unfold Pp.verE;split
 · exact⟨(fun h=>by cases h),fun h=>by omega⟩
 · exact⟨fun _=>by omega,fun _=>rfl⟩
theorem chk_tree {J:Jo} (h: ¬Pp.treeE J.base=0):chkE J=Pp.treeE J.base:=by rw[chkE,if_pos h]
theorem chk_first {J:Jo} (h:Pp.treeE J.base=0) (h1: ¬Pp.verE J.first=0):chkE J=3:=by rw[chkE,if_neg (fun x=>x h),if_pos h1]
theorem chk_many {J:Jo} (h:Pp.treeE J.base=0) (h1:Pp.verE J.first=0) (h2:30<J.cos.length):chkE J=2:=by rw[chkE,if_neg (fun x=>x h),if_neg (fun x=>x h1),if_pos h2]
theorem chk_run {J:Jo} (h:Pp.treeE J.base=0) (h1:Pp.verE J.first=0) (h2: ¬30<J.cos.length) {e:Int} {T:List En} (hr:runJ J.first J.base J.cos=(e,T)) (he: ¬e=0):chkE J=e:=by
 rw[chkE,if_neg (fun x=>x h),if_neg (fun x=>x h1),if_neg h2,hr,if_pos he]
theorem chk_twice {J:Jo} (h:Pp.treeE J.base=0) (h1:Pp.verE J.first=0) (h2: ¬30<J.cos.length) {T:List En} (hr:runJ J.first J.base J.cos=(0,T)) (ha: ¬Apart J.cos):chkE J=6:=by
 rw[chkE,if_neg (fun x=>x h),if_neg (fun x=>x h1),if_neg h2,hr,if_neg (fun x=>x rfl),if_pos ha]
theorem chk_ok {J:Jo} (h:Pp.treeE J.base=0) (h1:Pp.verE J.first=0) (h2: ¬30<J.cos.length) {T:List En} (hr:runJ J.first J.base J.cos=(0,T)) (ha:Apart J.cos):chkE J=0:=by
 rw[chkE,if_neg (fun x=>x h),if_neg (fun x=>x h1),if_neg h2,hr,if_neg (fun x=>x rfl),if_neg (fun x=>x ha)]
theorem tree_of {J:Jo} {T:List En} (hr:runJ J.first J.base J.cos=(0,T)):tree J=T:=by rw[tree,hr]
/-- What it takes to pass Check. -/
theorem chk_parts {J:Jo} (h:chkE J=0):Pp.treeE J.base=0∧Pp.verE J.first=0∧ ¬30<J.cos.length∧runJ J.first J.base J.cos=(0,tree J)∧Apart J.cos:=by
 by_cases h1:Pp.treeE J.base=0
 · by_cases h2:Pp.verE J.first=0
   · by_cases h3:30<J.cos.length
     · rw[chk_many h1 h2 h3]at h;cases h
     · rcases hr:runJ J.first J.base J.cos with⟨e,T⟩
       by_cases he:e=0
       · subst he
         by_cases ha:Apart J.cos
         · exact⟨h1,h2,h3,by rw[tree_of hr],ha⟩
         · rw[chk_twice h1 h2 h3 hr ha]at h;cases h
       · rw[chk_run h1 h2 h3 hr he]at h;exact absurd h he
   · rw[chk_first h1 h2]at h;cases h
 · rw[chk_tree h1]at h;exact absurd h h1
theorem all_good {T:List En} {cs:List Pp.Ch} {n:Int} (h:Pp.allE T cs n=0):Pp.Good (Pp.allR T cs n):=by
 have ht:Pp.treeE T=0:=by
  by_cases ht:Pp.treeE T=0
  · exact ht
  · rw[(Pp.all_no ht cs n).1]at h;exact absurd h ht
 have hm: ¬20<cs.length:=fun hm=>by rw[(Pp.all_many ht hm n).1]at h;cases h
 have hr:=Pp.all_run ht hm (n:=n) (k:=(Pp.runF n T cs).1) (e:=(Pp.runF n T cs).2.1) (R:=(Pp.runF n T cs).2.2) rfl;rw[hr.1]at h;rw[hr.2.2];have hT:=(Pp.good_iff T).1 ht;clear hr ht hm;induction cs generalizing T with
 |nil=>exact hT
 |cons c r ih=>
  rw[Pp.runF]at h⊢;by_cases h0:Pp.appE T c n=0
  · rw[if_pos h0]at h⊢
    exact ih h (Pp.app_good hT h0)
  · rw[if_neg h0]at h
    exact absurd h h0
theorem run_good: ∀{n:Int} {T:List En} {l:List Co},Pp.Good T→(runJ n T l).1=0→Pp.Good (runJ n T l).2
 |n,T,[],hT,_=>hT
 |n,T,c::r,hT,h=>by
  rw[runJ]at h⊢;by_cases h0:coE c n=0
  · rw[if_neg (fun x=>x h0)]at h⊢
    by_cases h1:Pp.allE T c.ch c.nu=0
    · rw[if_neg (fun x=>x h1)]at h⊢
      exact run_good (all_good h1) h
    · rw[if_pos h1]at h;exact absurd h h1
  · rw[if_pos h0]at h;exact absurd h h0
theorem tree_good {J:Jo} (h:chkE J=0):Pp.Good (tree J):=by
 obtain⟨h1,_,_,h4,_⟩:=chk_parts h
 have:=run_good (n:=J.first) (l:=J.cos) ((Pp.good_iff _).1 h1) (by rw[h4])
 rwa [h4]at this
/-- The tree behind the first k commits. -/
def trAt (J:Jo) (k:Nat):List En:=(J.cos.take k).foldl (fun T c=>Pp.allR T c.ch c.nu) J.base
theorem trAt_zero (J:Jo):trAt J 0=J.base:=by simp[trAt]
theorem trAt_succ {J:Jo} {k:Nat} (hk:k<J.cos.length):trAt J (k+1)=Pp.allR (trAt J k) J.cos[k].ch J.cos[k].nu:=by
 rw[trAt,List.take_succ_eq_append_getElem hk,List.foldl_append];rfl
theorem run_tree: ∀{n:Int} {T:List En} {l:List Co},(runJ n T l).1=0→(runJ n T l).2=l.foldl (fun T c=>Pp.allR T c.ch c.nu) T
 |n,T,[],_=>rfl
 |n,T,c::r,h=>by
  rw[runJ]at h⊢;by_cases h0:coE c n=0
  · rw[if_neg (fun x=>x h0)]at h⊢
    by_cases h1:Pp.allE T c.ch c.nu=0
    · rw[if_neg (fun x=>x h1)]at h⊢
      exact run_tree h
    · rw[if_pos h1]at h;exact absurd h h1
  · rw[if_pos h0]at h;exact absurd h h0
theorem tree_trAt {J:Jo} (h:chkE J=0):tree J=trAt J J.cos.length:=by
 obtain⟨_,_,_,h4,_⟩:=chk_parts h
 rw[trAt,List.take_length,tree,run_tree (by rw[h4])]
/-- No key of the first i commits is there twice; none of the first k is that of commit i. -/
def ApK (l:List Co) (i k:Nat):Prop:= ∀x∈l.take k,∀y,l[i]?=some y→x.ke.data.toList≠y.ke.data.toList
theorem apK_zero (l:List Co) (i:Nat):ApK l i 0:=fun x hx=>by simp at hx
theorem apK_succ {l:List Co} {i k:Nat} (h:ApK l i k) (hk:k<l.length) (hi:i<l.length) (hne:l[k].ke.data.toList≠l[i].ke.data.toList):ApK l i (k+1):=by
 intro x hx y hy;rw[List.take_succ_eq_append_getElem hk,List.mem_append,List.mem_singleton]at hx;rcases hx with hx|rfl
 · exact h x hx y hy
 · rw[List.getElem?_eq_getElem hi]at hy
   injection hy with hy
   rw[←hy];exact hne
theorem apart_succ {l:List Co} {i:Nat} (hi:i<l.length) (h:Apart (l.take i)) (hk:ApK l i i):Apart (l.take (i+1)):=by
 rw[List.take_succ_eq_append_getElem hi,Apart,List.pairwise_append];refine⟨h,by simp,fun x hx y hy=>?_⟩
 rw[List.mem_singleton]at hy;exact hk x hx y (by rw[hy];exact List.getElem?_eq_getElem hi)
theorem not_apart {l:List Co} {i k:Nat} (hi:i<l.length) (hk:k<i) (he:l[k].ke.data.toList=l[i].ke.data.toList): ¬Apart l:=fun h=>(List.pairwise_iff_getElem.1 h k i (by omega) hi hk) he
/-! Numbers by keys. -/
def key (p:ByteArray):Lit:= .string p.data.toList
def num (n:Int):DataW Unit:= .lit (.int .i64 n)
def D (l:List Co):DataW Unit:=l.foldl (fun m c=>m.put (key c.ke) (num c.nu)) (.map [])
theorem D_snoc (l:List Co) (c:Co):D (l++[c])=(D l).put (key c.ke) (num c.nu):=by simp[D]
theorem D_take {l:List Co} {k:Nat} (hk:k<l.length):D (l.take (k+1))=(D (l.take k)).put (key l[k].ke) (num l[k].nu):=by
 rw[List.take_succ_eq_append_getElem hk,D_snoc]
theorem key_lit (p:ByteArray):WideAt.IsKeyLit (key p):=by simp[key,WideAt.IsKeyLit]
theorem key_inj {p q:ByteArray} (h:key p=key q):p.data.toList=q.data.toList:=by simpa[key]using h
theorem D_tidy (l:List Co):Maps.Tidy (D l):=by
 have: ∀(l:List Co) (m:DataW Unit),Maps.Tidy m→Maps.Tidy (l.foldl (fun m c=>m.put (key c.ke) (num c.nu)) m):=by
  intro l;induction l with
  |nil=>intro m h;exact h
  |cons c r ih=>intro m h;exact ih _ (h.put (key_lit _) _)
 exact this l _ Maps.tidy_empty
def hasB (l:List Co) (p:List UInt8):Bool:=l.any (fun c=>c.ke.data.toList==p)
theorem snoc_ind {α:Type} {P:List α→Prop} (h0:P []) (h1: ∀L e,P L→P (L++[e])) (L:List α):P L:=by
 have h: ∀R:List α,P R.reverse:=fun R=>by
  induction R with
  |nil=>exact h0
  |cons a r ih=>rw[List.reverse_cons];exact h1 _ _ ih
 have h2:=h L.reverse;rwa [List.reverse_reverse]at h2
theorem D_has (l:List Co) (p:ByteArray):Maps.has (D l) (key p)=hasB l p.data.toList:=by
 refine snoc_ind (P:=fun l=>Maps.has (D l) (key p)=hasB l p.data.toList) rfl ?_ l
 intro l c ih;rw[D_snoc,hasB,List.any_append];by_cases hk:key p=key c.ke
 · rw[hk,Maps.has_put_same (D_tidy l).isMap (key_lit _)]
   simp[key_inj hk]
 · rw[Maps.has_put_other hk,ih,hasB]
   have hd: ¬c.ke.data=p.data:=fun h=>hk (by rw[key,key,h])
   simp[hd]
theorem D_size (l:List Co):Maps.size (D l)≤l.length∧(Maps.size (D l)=l.length↔Apart l):=by
 refine snoc_ind (P:=fun l=>Maps.size (D l)≤l.length∧(Maps.size (D l)=l.length↔Apart l)) ⟨Nat.le_refl _,⟨fun _=>List.Pairwise.nil,fun _=>rfl⟩⟩ ?_ l
 intro l c ⟨ih1,ih2⟩;rw[D_snoc,Maps.size_put (D_tidy l),D_has,List.length_append,Apart,List.pairwise_append];cases hb:hasB l c.ke.data.toList with
 |true=>
  rw[if_pos rfl];refine⟨by omega,⟨fun h=>?_,fun h=>?_⟩⟩
  · simp at h;omega
  · obtain⟨x,hx,he⟩:=List.any_eq_true.1 hb
    exact absurd (by simpa using he) (h.2.2 x hx c (by simp))
 |false=>
  rw[if_neg (by simp)];refine⟨by simp;omega,⟨fun h=>?_,fun h=>?_⟩⟩
  · refine⟨ih2.1 (by simp at h;omega),by simp,fun a ha b hbm=>?_⟩
    simp at hbm
    subst hbm;intro he;have:=List.any_eq_false.1 hb a ha
    simp[he]at this
  · have:=ih2.2 h.1
    simp;omega
def numOf (l:List Co) (p:List UInt8):Int:=match l.find? (fun c=>c.ke.data.toList==p)with
 |some c=>c.nu
 |none=>0
theorem D_at {l:List Co} (h:Apart l) (p:ByteArray) (z:Int):hasB l p.data.toList=true→(D l).atKey (key p) (num z)=num (numOf l p.data.toList):=by
 revert h
 refine snoc_ind (P:=fun l=>Apart l→hasB l p.data.toList=true→(D l).atKey (key p) (num z)=num (numOf l p.data.toList)) (fun _ h=>by cases h) ?_ l
 intro l c ih ha hb;rw[Apart,List.pairwise_append]at ha;rw[D_snoc];by_cases hk:key p=key c.ke
 · have hp:=key_inj hk
   rw[hk,Maps.atKey_put_same (D_tidy l).isMap (key_lit _)]
   have hnone:l.find? (fun c=>c.ke.data.toList==p.data.toList)=none:=by
    rw[List.find?_eq_none];intro x hx hh;exact ha.2.2 x hx c (by simp) (by simp at hh;rw[hh,hp])
   rw[numOf,List.find?_append,hnone];simp[hp]
 · rw[Maps.atKey_put_other hk]
   have hd: ¬c.ke.data=p.data:=fun h=>hk (by rw[key,key,h])
   rw[hasB,List.any_append]at hb;simp[hd]at hb
   rw[ih ha.1 (by rw[hasB,List.any_eq_true];simpa using hb),numOf,numOf,List.find?_append];simp[hd]
end Jn
end Go.Proofs.YtdifomkoegmngaaGreatDoor
namespace Go.Proofs.YtdifomkoegmngaaGreatDoor
open Go.RowKit Go.Maps

/-- A block that holds just these cells, and may be written. -/
def Cs (W:World) (b:Nat) (vs:List Value):Prop:= ∃T,W.heap[b]?=some (.cells vs.toArray T (0,0))
theorem Cs.lt {W:World} {b:Nat} {vs:List Value} (h:Cs W b vs):b<W.heap.size:=h.elim fun _ h=>heap_lt h
theorem Cs.cell {W:World} {b:Nat} {vs:List Value} (h:Cs W b vs) (i:Nat) {v:Value} (hv:vs[i]?=some v):W.cell? ⟨b,i,none⟩=some v:=by
 obtain⟨T,h⟩:=h
 simp[World.cell?,h,hv]
theorem Cs.fr {W:World} {b:Nat} {vs:List Value} (h:Cs W b vs) (i:Nat):W.frozen? ⟨b,i,none⟩=false:=by
 obtain⟨T,h⟩:=h
 simp[World.frozen?,h]
theorem Cs.belowAt {W W':World} {b B:Nat} {vs:List Value} (h:Cs W b vs) (hw:Below B W W') (hb:b<B):Cs W' b vs:=by
 obtain⟨T,h⟩:=h
 exact⟨T,(hw.block b hb).trans h⟩
theorem Cs.below {W W':World} {b:Nat} {vs:List Value} (h:Cs W b vs) (hw:Below W.heap.size W W'):Cs W' b vs:=h.belowAt hw h.lt
theorem Cs.nb {W W':World} {b g:Nat} {vs:List Value} (h:Cs W b vs) (hw:W.grownBy W' (some g)) (hne:b≠g):Cs W' b vs:=by
 have hl:=h.lt;obtain⟨T,h⟩:=h
 exact⟨T,(hw.block b hl (fun e=>hne (by injection e))).trans h⟩
theorem Cs.new (w:World) (vs:List Value) (T:TypeId):Cs (w.alloc (.cells vs.toArray T)) w.heap.size vs:=⟨T,by show(w.heap.push _)[w.heap.size]?=_;simp⟩
theorem Cs.set {W:World} {b:Nat} {vs:List Value} (h:Cs W b vs) (i:Nat) (u:Value):Cs (W.setCell ⟨b,i,none⟩ u) b (vs.set i u):=by
 obtain⟨T,h⟩:=h
 refine⟨T,?_⟩
 unfold World.setCell;simp only[Array.getElem?_modify,h,if_true,Option.map_some];simp
theorem nb_set (W:World) (b o:Nat) (u:Value):W.grownBy (W.setCell ⟨b,o,none⟩ u) (some b):=
 ⟨rfl,rfl,rfl,by simp,fun k _ hk=>Below.heap_setCell W _ u k (fun e=>hk (by rw[e]))⟩
theorem Cs.other {W:World} {b b' o:Nat} {vs:List Value} (h:Cs W b vs) (hne:b≠b') (u:Value):Cs (W.setCell ⟨b',o,none⟩ u) b vs:=h.nb (nb_set W b' o u) hne
/-- A block without texts. -/
def NoStr (W:World) (g:Nat):Prop:= ∀o s,W.cell? ⟨g,o,none⟩≠some (.string s)
theorem Cs.noStr {W:World} {b:Nat} {vs:List Value} (h:Cs W b vs) (hv: ∀s,Value.string s∉vs):NoStr W b:=by
 obtain⟨T,h⟩:=h
 intro o s;simp only[World.cell?,h];intro he;have:vs[o]?=some (.string s):=by simpa using he
 exact hv s (List.mem_of_getElem? this)
theorem noStr_map {W:World} {P:Program} {k:TypeId} {R:Value→Option (DataW Unit×List MemPlace)} {b n:Nat} {D:DataW Unit} (h:W.ownsMap P k R b n D):NoStr W b:=by
 obtain⟨es,clock,hb,_⟩:=h
 intro o s;simp[World.cell?,hb]
theorem EnAt.ne {W:World} {b o g:Nat} {e:En} (h:EnAt W b o e) (hn:NoStr W g):b≠g:=fun hb=>hn o e.path (hb▸h.1)
theorem ChAt.ne {W:World} {b o g:Nat} {c:Pp.Ch} (h:ChAt W b o c) (hn:NoStr W g):b≠g:=fun hb=>hn (o+1) c.p (hb▸h.2.1)
theorem cell_nb {W W':World} {g b:Nat} (hw:W.grownBy W' (some g)) (hb:b<W.heap.size) (hne:b≠g) (o:Nat):W'.cell? ⟨b,o,none⟩=W.cell? ⟨b,o,none⟩:=
 World.cell?_of_block (w:=W) (a:=⟨b,o,none⟩) (hw.block b hb (fun e=>hne (by injection e)))
theorem Lies.nb {W W':World} {v:Value} {L:List En} {g:Nat} (h:Lies W v L) (hw:W.grownBy W' (some g)) (hn:NoStr W g):Lies W' v L:=by
 obtain⟨a,cap,hv,h1,h2,h3⟩:=h
 refine⟨a,cap,hv,h1,h2,fun i hi=>?_⟩
 obtain⟨b,o,ha,hb,he⟩:=h3 i hi
 have c:=cell_nb hw hb (he.ne hn);exact⟨b,o,ha,Nat.lt_of_lt_of_le hb hw.size,(c _).trans he.1,(c _).trans he.2.1,(c _).trans he.2.2.1,(c _).trans he.2.2.2⟩
theorem LiesC.nb {W W':World} {v:Value} {L:List Pp.Ch} {g:Nat} (h:LiesC W v L) (hw:W.grownBy W' (some g)) (hn:NoStr W g):LiesC W' v L:=by
 obtain⟨a,cap,hv,h1,h2,h3⟩:=h
 refine⟨a,cap,hv,h1,h2,fun i hi=>?_⟩
 obtain⟨b,o,ha,hb,he⟩:=h3 i hi
 have c:=cell_nb hw hb (he.ne hn);exact⟨b,o,ha,Nat.lt_of_lt_of_le hb hw.size,(c _).trans he.1,(c _).trans he.2.1,(c _).trans he.2.2.1,(c _).trans he.2.2.2.1,(c _).trans he.2.2.2.2⟩
/-- Grown, and written in two blocks alone. -/
structure Nb2 (w w':World) (b m:Nat):Prop where
 os:w'.os=w.os
 tape:w'.tape=w.tape
 output:w'.output=w.output
 size:w.heap.size≤w'.heap.size
 block: ∀k,k<w.heap.size→k≠b→k≠m→w'.heap[k]?=w.heap[k]?
theorem Nb2.of_below {w w':World} (b m:Nat) (h:Below w.heap.size w w'):Nb2 w w' b m:=⟨h.os,h.tape,h.output,h.size,fun k hk _ _=>h.block k hk⟩
theorem Nb2.of_left {w w':World} {b:Nat} (m:Nat) (h:w.grownBy w' (some b)):Nb2 w w' b m:=⟨h.os,h.tape,h.output,h.size,fun k hk hb _=>h.block k hk (fun e=>hb (by injection e))⟩
theorem Nb2.of_right {w w':World} {m:Nat} (b:Nat) (h:w.grownBy w' (some m)):Nb2 w w' b m:=⟨h.os,h.tape,h.output,h.size,fun k hk _ hm=>h.block k hk (fun e=>hm (by injection e))⟩
theorem Nb2.trans {a c d:World} {b m:Nat} (h:Nb2 a c b m) (k:Nb2 c d b m):Nb2 a d b m:=
 ⟨k.os.trans h.os,k.tape.trans h.tape,k.output.trans h.output,Nat.le_trans h.size k.size,fun q hq h1 h2=>(k.block q (Nat.lt_of_lt_of_le hq h.size) h1 h2).trans (h.block q hq h1 h2)⟩
theorem Nb2.to {w w':World} {b m B:Nat} (h:Nb2 w w' b m) (hB:B≤w.heap.size) (h1:B≤b) (h2:B≤m):Below B w w':=⟨h.os,h.tape,h.output,h.size,fun k hk=>h.block k (by omega) (by omega) (by omega)⟩
theorem Nb2.cell {w w':World} {b m k:Nat} (h:Nb2 w w' b m) (hk:k<w.heap.size) (h1:k≠b) (h2:k≠m) (o:Nat):w'.cell? ⟨k,o,none⟩=w.cell? ⟨k,o,none⟩:=World.cell?_of_block (w:=w) (a:=⟨k,o,none⟩) (h.block k hk h1 h2)
theorem Cs.nb2 {w w':World} {b m k:Nat} {vs:List Value} (h:Cs w k vs) (hn:Nb2 w w' b m) (h1:k≠b) (h2:k≠m):Cs w' k vs:=by
 have hl:=h.lt;obtain⟨T,h⟩:=h
 exact⟨T,(hn.block k hl h1 h2).trans h⟩
end Go.Proofs.YtdifomkoegmngaaGreatDoor
namespace Go.Proofs.YtdifomkoegmngaaGreatDoor
open Go.RowKit

theorem hid {p:Prop} (h:p):Hid p:=h
theorem lies_nil (w:World):Lies w (.slice none 0 0) []:=⟨none,0,rfl,Nat.le_refl _,by simp,fun i hi=>absurd hi (by simp)⟩
namespace Pp
theorem chk_len {l:List UInt8} (h:chk l=0):l.length≤80:=by
 have h1:=chk_not_big h;rw[big,Bool.or_eq_false_iff]at h1;have:=of_decide_eq_false h1.2
 omega
end Pp
end Go.Proofs.YtdifomkoegmngaaGreatDoor
namespace Go.Proofs.YtdifomkoegmngaaGreatDoor
open Go.RowKit

theorem bx5 {w w1:World} {a b c d e:Value} {T:TypeId} (h:Below (w.alloc (.cells #[a,b,c,d,e] T)).heap.size (w.alloc (.cells #[a,b,c,d,e] T)) w1):
    w1.cell? ⟨w.heap.size,0,none⟩=some a∧w1.cell? ⟨w.heap.size,1,none⟩=some b∧w1.cell? ⟨w.heap.size,2,none⟩=some c∧w1.cell? ⟨w.heap.size,3,none⟩=some d∧w1.cell? ⟨w.heap.size,4,none⟩=some e∧Below w.heap.size w w1∧w.heap.size<w1.heap.size:=by
 have hz:w.heap.size<(w.alloc (.cells #[a,b,c,d,e] T)).heap.size:=by simp
 refine⟨?_,?_,?_,?_,?_,((Below.refl _ _).alloc (Nat.le_refl _) _).trans (h.mono (Nat.le_of_lt hz)),Nat.lt_of_lt_of_le hz h.size⟩
 · exact(h.cell (p:=⟨w.heap.size,0,none⟩) hz).trans (by simp)
 · exact(h.cell (p:=⟨w.heap.size,1,none⟩) hz).trans (by simp)
 · exact(h.cell (p:=⟨w.heap.size,2,none⟩) hz).trans (by simp)
 · exact(h.cell (p:=⟨w.heap.size,3,none⟩) hz).trans (by simp)
 · exact(h.cell (p:=⟨w.heap.size,4,none⟩) hz).trans (by simp)
namespace Pp
theorem cc14 {k:Int} (hk:k=1∨k=4) (p q t:ByteArray) (b:Int) (hz:chk p.data.toList=0):
    (q.toList.isEmpty=false∧Hid (1=chgE ⟨k,p,q,t,b⟩))∨(q.toList.isEmpty=true∧t.toList.isEmpty=false∧Hid (1=chgE ⟨k,p,q,t,b⟩))∨
    (q.toList.isEmpty=true∧t.toList.isEmpty=true∧(t.size:Int)≤300∧b< -1∧Hid (3=chgE ⟨k,p,q,t,b⟩))∨
    (q.toList.isEmpty=true∧t.toList.isEmpty=true∧(t.size:Int)≤300∧1000000<b∧Hid (3=chgE ⟨k,p,q,t,b⟩))∨
    (q.toList.isEmpty=true∧t.toList.isEmpty=true∧(t.size:Int)≤300∧ -1≤b∧b≤1000000∧Hid (0=chgE ⟨k,p,q,t,b⟩)):=by
 have h3: ¬k=3:=by omega
 have h2: ¬k=2:=by omega
 have hkk: ¬(k<1∨4<k):=by omega
 have hE:chgE ⟨k,p,q,t,b⟩=if(¬q.data.toList=[])∨(¬t.data.toList=[])then 1 else if 300<t.size then 2 else if b< -1∨1000000<b then 3 else 0:=by
  simp only[chgE,hkk,if_false,hz,not_true,h3,h2,false_and,not_false_iff,true_and]
 cases hq:q.toList.isEmpty with
 |false=>exact Or.inl ⟨rfl,(by rw[hE,if_pos (Or.inl (not_empty hq))]:1=chgE ⟨k,p,q,t,b⟩)⟩
 |true=>
  have hq':=(empty_iff q).1 hq;cases ht:t.toList.isEmpty with
  |false=>exact Or.inr (Or.inl ⟨rfl,rfl,(by rw[hE,if_pos (Or.inr (not_empty ht))]:1=chgE ⟨k,p,q,t,b⟩)⟩)
  |true=>
   have ht':=(empty_iff t).1 ht;have hs:t.size=0:=by rw[Lib.size_eq,ht'];rfl
   rw[if_neg (by simp[hq',ht']),if_neg (by omega)]at hE;by_cases h1:b< -1
   · exact Or.inr (Or.inr (Or.inl ⟨rfl,rfl,by omega,h1,(by rw[hE,if_pos (Or.inl h1)]:3=chgE ⟨k,p,q,t,b⟩)⟩))
   · by_cases h5:1000000<b
     · exact Or.inr (Or.inr (Or.inr (Or.inl ⟨rfl,rfl,by omega,h5,(by rw[hE,if_pos (Or.inr h5)]:3=chgE ⟨k,p,q,t,b⟩)⟩)))
     · exact Or.inr (Or.inr (Or.inr (Or.inr ⟨rfl,rfl,by omega,by omega,by omega,(by rw[hE,if_neg (by omega)]:0=chgE ⟨k,p,q,t,b⟩)⟩)))
theorem cc2 (p q t:ByteArray) (b:Int) (hz:chk p.data.toList=0):
    (q.toList.isEmpty=false∧Hid (1=chgE ⟨2,p,q,t,b⟩))∨(q.toList.isEmpty=true∧300<(t.size:Int)∧Hid (2=chgE ⟨2,p,q,t,b⟩))∨
    (q.toList.isEmpty=true∧(t.size:Int)≤300∧b< -1∧Hid (3=chgE ⟨2,p,q,t,b⟩))∨
    (q.toList.isEmpty=true∧(t.size:Int)≤300∧1000000<b∧Hid (3=chgE ⟨2,p,q,t,b⟩))∨
    (q.toList.isEmpty=true∧(t.size:Int)≤300∧ -1≤b∧b≤1000000∧Hid (0=chgE ⟨2,p,q,t,b⟩)):=by
 have hE:chgE ⟨2,p,q,t,b⟩=if(¬q.data.toList=[])then 1 else if 300<t.size then 2 else if b< -1∨1000000<b then 3 else 0:=by
  simp[chgE,hz]
 cases hq:q.toList.isEmpty with
 |false=>exact Or.inl ⟨rfl,(by rw[hE,if_pos (not_empty hq)]:1=chgE ⟨2,p,q,t,b⟩)⟩
 |true=>
  have hq':=(empty_iff q).1 hq;rw[if_neg (by simp[hq'])]at hE;by_cases hs:300<(t.size:Int)
  · exact Or.inr (Or.inl ⟨rfl,hs,(by rw[hE,if_pos (by omega)]:2=chgE ⟨2,p,q,t,b⟩)⟩)
  · rw[if_neg (by omega)]at hE
    by_cases h1:b< -1
    · exact Or.inr (Or.inr (Or.inl ⟨rfl,by omega,h1,(by rw[hE,if_pos (Or.inl h1)]:3=chgE ⟨2,p,q,t,b⟩)⟩))
    · by_cases h5:1000000<b
      · exact Or.inr (Or.inr (Or.inr (Or.inl ⟨rfl,by omega,h5,(by rw[hE,if_pos (Or.inr h5)]:3=chgE ⟨2,p,q,t,b⟩)⟩)))
      · exact Or.inr (Or.inr (Or.inr (Or.inr ⟨rfl,by omega,by omega,by omega,(by rw[hE,if_neg (by omega)]:0=chgE ⟨2,p,q,t,b⟩)⟩)))
theorem cc3 (p q t:ByteArray) (b:Int) (hz:chk p.data.toList=0) (hy:chk q.data.toList=0):
    (t.toList.isEmpty=false∧Hid (1=chgE ⟨3,p,q,t,b⟩))∨
    (t.toList.isEmpty=true∧(t.size:Int)≤300∧b< -1∧Hid (3=chgE ⟨3,p,q,t,b⟩))∨
    (t.toList.isEmpty=true∧(t.size:Int)≤300∧1000000<b∧Hid (3=chgE ⟨3,p,q,t,b⟩))∨
    (t.toList.isEmpty=true∧(t.size:Int)≤300∧ -1≤b∧b≤1000000∧Hid (0=chgE ⟨3,p,q,t,b⟩)):=by
 have hE:chgE ⟨3,p,q,t,b⟩=if(¬t.data.toList=[])then 1 else if 300<t.size then 2 else if b< -1∨1000000<b then 3 else 0:=by
  simp[chgE,hz,hy]
 cases ht:t.toList.isEmpty with
 |false=>exact Or.inl ⟨rfl,(by rw[hE,if_pos (not_empty ht)]:1=chgE ⟨3,p,q,t,b⟩)⟩
 |true=>
  have ht':=(empty_iff t).1 ht;have hs:t.size=0:=by rw[Lib.size_eq,ht'];rfl
  rw[if_neg (by simp[ht']),if_neg (by omega)]at hE;by_cases h1:b< -1
  · exact Or.inr (Or.inl ⟨rfl,by omega,h1,(by rw[hE,if_pos (Or.inl h1)]:3=chgE ⟨3,p,q,t,b⟩)⟩)
  · by_cases h5:1000000<b
    · exact Or.inr (Or.inr (Or.inl ⟨rfl,by omega,h5,(by rw[hE,if_pos (Or.inr h5)]:3=chgE ⟨3,p,q,t,b⟩)⟩))
    · exact Or.inr (Or.inr (Or.inr ⟨rfl,by omega,by omega,by omega,(by rw[hE,if_neg (by omega)]:0=chgE ⟨3,p,q,t,b⟩)⟩))
end Pp
end Go.Proofs.YtdifomkoegmngaaGreatDoor
namespace Go.Proofs.YtdifomkoegmngaaGreatDoor
open Go.RowKit

namespace Jn
theorem co_cases (c:Co) (n:Int):((c.nu==n)=false∧coE c n=4)∨(c.nu=n∧1000000<n∧coE c n=3)∨(c.nu=n∧ ¬1000000<n∧Pp.keyE c.ke.data.toList=1∧coE c n=1)∨
    (c.nu=n∧ ¬1000000<n∧Pp.keyE c.ke.data.toList=0∧c.ch.length=0∧coE c n=1)∨(c.nu=n∧ ¬1000000<n∧Pp.keyE c.ke.data.toList=0∧0<c.ch.length∧coE c n=0):=by
 by_cases h1:c.nu=n
 · by_cases h2:1000000<n
   · exact Or.inr (Or.inl ⟨h1,h2,by rw[coE,if_neg (fun x=>x h1),if_pos h2]⟩)
   · cases h3:Pp.keyB c.ke.data.toList with
     |false=>exact Or.inr (Or.inr (Or.inl ⟨h1,h2,Pp.keyE_no h3,by rw[coE,if_neg (fun x=>x h1),if_neg h2,if_pos (by simp[h3])]⟩))
     |true=>
      by_cases h4:c.ch=[]
      · exact Or.inr (Or.inr (Or.inr (Or.inl ⟨h1,h2,Pp.keyE_yes h3,by rw[h4];rfl,by rw[coE,if_neg (fun x=>x h1),if_neg h2,if_neg (fun x=>x h3),if_pos h4]⟩)))
      · exact Or.inr (Or.inr (Or.inr (Or.inr ⟨h1,h2,Pp.keyE_yes h3,List.length_pos_iff.2 h4,by rw[coE,if_neg (fun x=>x h1),if_neg h2,if_neg (fun x=>x h3),if_neg h4]⟩)))
 · exact Or.inl ⟨by simpa using h1,by rw[coE,if_pos h1]⟩
end Jn

set_option maxRecDepth 100000 in
set_option maxHeartbeats 1000000 in
theorem checkCommit_any (c:Co) (u:Value) (n:Int) (w:World) (hu:LiesC w u c.ch) (hke:c.ke.size≤maxLen):
    Calls Tryz.prog 52 #[.agg #[.int .i64 c.nu,.string c.ke,u],.int .i64 n] w fun e w'=>e= .returned (.int .i64 (Jn.coE c n))∧Below w.heap.size w w':=by
 obtain⟨a,cap,rfl,hcap,hcap2,_⟩:=hu
 have hbw:Below w.heap.size w (w.alloc (.cells #[.int .i64 c.nu,.string c.ke,.slice a c.ch.length cap] 84)):=(Below.refl _ _).alloc (Nat.le_refl _) _;rcases Jn.co_cases c n with⟨h1,hE⟩|⟨h1,h2,hE⟩|⟨h1,h2,h3,hE⟩|⟨h1,h2,h3,h4,hE⟩|⟨h1,h2,h3,h4,hE⟩
 · have HE:=hid hE
   clear hE;go_enter Tryz.func52,Tryz.ntmps52
   go_wp2;go_ret;exact⟨by rw[HE.out];rfl,hbw⟩
 · have HE:=hid hE
   clear hE;obtain⟨nu,ke,ch⟩:=c
   simp only at h1 h2 hbw hke⊢;subst h1;go_enter Tryz.func52,Tryz.ntmps52
   go_wp2;go_ret;exact⟨by rw[HE.out];rfl,hbw⟩
 all_goals
  have HE:=hid hE;have H3:=hid h3;clear hE h3;try (have h4':((c.ch.length:Int)==0)=true:=by rw[beq_iff_eq];omega)
  try (have h4':((c.ch.length:Int)==0)=false:=by rw[beq_eq_false_iff_ne];omega)
  try clear h4
  obtain⟨nu,ke,ch⟩:=c
  simp only at h1 h2 hbw hke hcap hcap2⊢;try simp only at h4'
  subst h1;go_enter Tryz.func52,Tryz.ntmps52
  go_wp2_with fail;refine(key_any ke _ hke).mono ?_
  rintro e w1 ⟨rfl,hw⟩;rw[hw,H3.out];clear hw w1;go_wp2;go_ret;exact⟨by rw[HE.out];rfl,hbw⟩
end Go.Proofs.YtdifomkoegmngaaGreatDoor
