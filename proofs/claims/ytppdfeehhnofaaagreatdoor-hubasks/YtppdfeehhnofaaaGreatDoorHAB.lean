/- Changes that lie in memory. -/
import Derived.Test.YtppdfeehhnofaaaGreatDoorHAA
import Derived.Test.YtppdfeehhnofaaaGreatDoorProg
import Derived.WalkKit
import Derived.WalkSpells
import Derived.WalkLawsBesides
import Derived.Handy
import Derived.Maps.OwnSet
import Derived.StringKeys
set_option linter.unusedSimpArgs false
set_option linter.unusedVariables false
namespace Go.Proofs.YtppdfeehhnofaaaGreatDoor
open Go.RowKit

/-- A change lies at a place: its five cells. -/
def ChAt (w:World) (b o:Nat) (c:Pp.Ch):Prop:=w.cell? ⟨b,o,none⟩=some (.int .i64 c.k)∧w.cell? ⟨b,o+1,none⟩=some (.string c.p)∧w.cell? ⟨b,o+2,none⟩=some (.string c.q)∧w.cell? ⟨b,o+3,none⟩=some (.string c.t)∧w.cell? ⟨b,o+4,none⟩=some (.int .i64 c.b)
def LiesC (w:World) (v:Value) (cs:List Pp.Ch):Prop:= ∃a cap,v= .slice a cs.length cap∧cs.length≤cap∧cs.length≤1000000000000000∧ ∀i (h:i<cs.length),∃b o,a=some ⟨b,o,none⟩∧b<w.heap.size∧ChAt w b (o+i*5) cs[i]
theorem ChAt.below {w w':World} {b o:Nat} {c:Pp.Ch} (h:ChAt w b o c) (hb:b<w.heap.size) (hw:Below w.heap.size w w'):ChAt w' b o c:=
 ⟨(hw.cell (p:=⟨b,o,none⟩) hb).trans h.1,(hw.cell (p:=⟨b,o+1,none⟩) hb).trans h.2.1,(hw.cell (p:=⟨b,o+2,none⟩) hb).trans h.2.2.1,(hw.cell (p:=⟨b,o+3,none⟩) hb).trans h.2.2.2.1,(hw.cell (p:=⟨b,o+4,none⟩) hb).trans h.2.2.2.2⟩
theorem LiesC.below {w w':World} {v:Value} {cs:List Pp.Ch} (h:LiesC w v cs) (hw:Below w.heap.size w w'):LiesC w' v cs:=by
 obtain⟨a,cap,hv,h1,h2,h3⟩:=h
 refine⟨a,cap,hv,h1,h2,fun i hi=>?_⟩
 obtain⟨b,o,ha,hb,he⟩:=h3 i hi
 exact⟨b,o,ha,Nat.lt_of_lt_of_le hb hw.size,he.below hb hw⟩
def SizedC (B:Nat) (cs:List Pp.Ch):Prop:= ∀c∈cs,c.p.size≤B∧c.q.size≤B∧c.t.size≤B
namespace Pp
/-- Change by change: how many were made, the error, and what came. -/
def runF (n:Int):List En→List Ch→Nat×Int×List En
 |T,[]=>(0,0,T)
 |T,c::r=>if appE T c n=0 then((runF n (chdR T c n) r).1+1,(runF n (chdR T c n) r).2)else(0,appE T c n,[])
/-- What is left to do behind the first changes. -/
def Left (n:Int) (L:List En) (cs:List Ch) (S:List En) (k:Nat):Prop:=runF n L cs=((runF n S (cs.drop k)).1+k,(runF n S (cs.drop k)).2)
theorem left_zero (n:Int) (L:List En) (cs:List Ch):Left n L cs L 0:=rfl
theorem left_next {n:Int} {L:List En} {cs:List Ch} {S:List En} {k:Nat} (h:Left n L cs S k) (hk:k<cs.length) (h0:appE S cs[k] n=0):Left n L cs (chdR S cs[k] n) (k+1):=by
 rw[Left]at h⊢;rw[List.drop_eq_getElem_cons hk,runF,if_pos h0]at h;rw[h];simp only[Prod.mk.injEq,and_true];omega
theorem left_stop {n:Int} {L:List En} {cs:List Ch} {S:List En} {k:Nat} (h:Left n L cs S k) (hk:k<cs.length) (h0: ¬appE S cs[k] n=0):runF n L cs=(k,appE S cs[k] n,[]):=by
 rw[Left,List.drop_eq_getElem_cons hk,runF,if_neg h0]at h;rw[h];simp
theorem left_end {n:Int} {L:List En} {cs:List Ch} {S:List En} (h:Left n L cs S cs.length):runF n L cs=(cs.length,0,S):=by
 rw[Left,List.drop_length,runF]at h;rw[h];simp
end Pp
end Go.Proofs.YtppdfeehhnofaaaGreatDoor
namespace Go.Proofs.YtppdfeehhnofaaaGreatDoor
open Go.RowKit

namespace Pp
/-- All: what is wrong with the tree, then how many there are, then change by change. -/
def allE (L:List En) (cs:List Ch) (n:Int):Int:=if¬treeE L=0 then treeE L else if 20<cs.length then 2 else(runF n L cs).2.1
def allN (L:List En) (cs:List Ch) (n:Int):Nat:=if¬treeE L=0 then 0 else if 20<cs.length then 0 else(runF n L cs).1
def allR (L:List En) (cs:List Ch) (n:Int):List En:=if¬treeE L=0 then[]else if 20<cs.length then[]else(runF n L cs).2.2
theorem all_no {L:List En} (h: ¬treeE L=0) (cs:List Ch) (n:Int):allE L cs n=treeE L∧allN L cs n=0∧allR L cs n=[]:=⟨if_pos h,if_pos h,if_pos h⟩
theorem all_many {L:List En} (h:treeE L=0) {cs:List Ch} (hm:20<cs.length) (n:Int):allE L cs n=2∧allN L cs n=0∧allR L cs n=[]:=
 ⟨by rw[allE,if_neg (fun x=>x h),if_pos hm],by rw[allN,if_neg (fun x=>x h),if_pos hm],by rw[allR,if_neg (fun x=>x h),if_pos hm]⟩
theorem all_run {L:List En} (h:treeE L=0) {cs:List Ch} (hm: ¬20<cs.length) {n:Int} {k:Nat} {e:Int} {R:List En} (hr:runF n L cs=(k,e,R)):allE L cs n=e∧allN L cs n=k∧allR L cs n=R:=
 ⟨by rw[allE,if_neg (fun x=>x h),if_neg hm,hr],by rw[allN,if_neg (fun x=>x h),if_neg hm,hr],by rw[allR,if_neg (fun x=>x h),if_neg hm,hr]⟩
end Pp

end Go.Proofs.YtppdfeehhnofaaaGreatDoor
namespace Go.Proofs.YtppdfeehhnofaaaGreatDoor.Pp

theorem fold_mem {R:List En} (hr:R.Pairwise (fun x y=>lt x y=true)) {x:En} (hx:x∈R) {p:List UInt8} (hp:x.path.data.toList=p) (hf:x.folder=true):foldE R p=0:=by
 subst hp;rw[foldE];split
 · rfl
 · rw[sorted_find hr hx];simp[hf]
theorem fold_nil (L:List En):foldE L []=0:=by rw[foldE,if_pos rfl]
theorem par_in {l p:List UInt8} (h:isInB (par l) p=true) (hn:par l≠[]):isInB l p=true:=by
 by_cases hs:47∈l
 · obtain⟨a,b,hb,e⟩:=last_split hs
   rw[e,par_cut a hb]at h;rw[isIn_of,e];rcases(isIn_of a p).1 h with h|⟨r,h⟩
   · exact Or.inr ⟨b,by rw[h]⟩
   · exact Or.inr ⟨r++47::b,by rw[h];simp⟩
 · exact absurd (par_none hs) hn
/-- The parent of what is truly within is within. -/
theorem par_down {p r:List UInt8}: ∃a b,47∉b∧p++47::r=a++47::b∧isInB a p=true∧par (p++47::r)=a:=by
 obtain⟨a,b,hb,e2⟩:=last_split (l:=p++47::r) (by simp)
 refine⟨a,b,hb,e2,?_,by rw[e2];exact par_cut a hb⟩
 rw[isIn_of];by_cases hr:47∈r
 · obtain⟨r1,r2,hr2,er⟩:=last_split hr
   have:par (a++47::b)=par ((p++47::r1)++47::r2):=by rw[←e2,er];simp
   rw[par_cut a hb,par_cut _ hr2]at this;exact Or.inr ⟨r1,this⟩
 · have:par (a++47::b)=par (p++47::r):=by rw[←e2]
   rw[par_cut a hb,par_cut _ hr]at this;exact Or.inl this
theorem chg_kind {c:Ch} (h:chgE c=0):1≤c.k∧c.k≤4:=by
 by_cases h1:c.k<1∨4<c.k
 · rw[chgE,if_pos h1]at h;cases h
 · omega
theorem chg_path {c:Ch} (h:chgE c=0):chk c.p.data.toList=0:=by
 have hk:=chg_kind h;by_cases h2:chk c.p.data.toList=0
 · exact h2
 · rw[chgE,if_neg (by omega),if_pos h2]at h;exact h
theorem chg_to {c:Ch} (h:chgE c=0) (h3:c.k=3):chk c.q.data.toList=0:=by
 have hk:=chg_kind h;have hp:=chg_path h;by_cases h2:chk c.q.data.toList=0
 · exact h2
 · rw[chgE,if_neg (by omega),if_neg (fun x=>x hp),if_pos ⟨h3,h2⟩]at h;exact h
theorem chg_rest {c:Ch} (h:chgE c=0):(c.k=3∨c.q.data.toList=[])∧(c.k=2∨c.t.data.toList=[])∧c.t.size≤300∧ -1≤c.b∧c.b≤1000000:=by
 have hk:=chg_kind h;have hp:=chg_path h;have ht:=fun h3=>chg_to h h3
 rw[chgE,if_neg (by omega),if_neg (fun x=>x hp),if_neg (fun x=>x.2 (ht x.1))]at h;split at h
 · cases h
 · rename_i h1
   split at h
   · cases h
   · rename_i h2
     split at h
     · cases h
     · rename_i h3
       refine⟨?_,?_,by omega,by omega,by omega⟩
       · by_cases hh:c.k=3
         · exact Or.inl hh
         · exact Or.inr (Classical.byContradiction fun hq=>h1 (Or.inl ⟨hh,hq⟩))
       · by_cases hh:c.k=2
         · exact Or.inl hh
         · exact Or.inr (Classical.byContradiction fun hq=>h1 (Or.inr ⟨hh,hq⟩))
theorem plc_fold {L:List En} {c:Ch} (h:plcE L c=0):foldE L (par (goal c))=0:=by
 by_cases h1:foldE L (par (goal c))=0
 · exact h1
 · rw[plcE,if_pos h1]at h;exact h
theorem plc_rest {L:List En} {c:Ch} (h:plcE L c=0) (hk:1≤c.k∧c.k≤4):
    (c.k=1∧L.find? (atB c.p.data.toList)=none)∨(c.k=2∧ ∀x,L.find? (atB c.p.data.toList)=some x→x.folder=false)∨
    (c.k=3∧(∃x,L.find? (atB c.p.data.toList)=some x)∧isInB c.q.data.toList c.p.data.toList=false∧L.find? (atB c.q.data.toList)=none)∨
    (c.k=4∧ ∃x,L.find? (atB c.p.data.toList)=some x):=by
 have hf:=plc_fold h;rw[plcE,if_neg (fun x=>x hf)]at h;have h4:c.k=1∨c.k=2∨c.k=3∨c.k=4:=by omega
 cases hx:L.find? (atB c.p.data.toList)with
 |none=>
  rw[hx]at h;rcases h4 with e|e|e|e
  · exact Or.inl ⟨e,rfl⟩
  · exact Or.inr (Or.inl ⟨e,fun x hx=>by cases hx⟩)
  · simp[e]at h
  · simp[e]at h
 |some x=>
  rw[hx]at h;rcases h4 with e|e|e|e
  · simp[e]at h
  · refine Or.inr (Or.inl ⟨e,fun y hy=>?_⟩)
    cases hy
    cases hb:x.folder with
    |false=>rfl
    |true=>simp[e,hb]at h
  · refine Or.inr (Or.inr (Or.inl ⟨e,⟨x,rfl⟩,?_,?_⟩))
    · cases hb:isInB c.q.data.toList c.p.data.toList with
      |false=>rfl
      |true=>simp[e,hb]at h
    · cases hb:L.find? (atB c.q.data.toList)with
      |none=>rfl
      |some y=>simp only[e,hb]at h;simp at h;split at h<;>cases h
  · exact Or.inr (Or.inr (Or.inr ⟨e,x,rfl⟩))
theorem mem_outE {x y:En} {L:List En}:y∈outE x L↔y∈L∧y.path.data.toList≠x.path.data.toList:=by
 rw[outE,List.mem_filter];simp[atB]
theorem new_good {L:List En} (hL:Good L) {c:Ch} {n:Int} (hc:chgE c=0) (hp:plcE L c=0) (hv:verE n=0) (hk:c.k=1∨c.k=2) (hr: ¬60<(outE (newE c n) L).length+1):Good (ins (newE c n) (outE (newE c n) L)):=by
 have hsort:(ins (newE c n) (outE (newE c n) L)).Pairwise (fun x y=>lt x y=true):=ins_sorted _ (List.Pairwise.filter _ hL.rise) fun y hy=>(mem_outE.1 hy).2
 have hmem: ∀y,y∈ins (newE c n) (outE (newE c n) L)↔y=newE c n∨y∈outE (newE c n) L:=fun y=>by rw[(ins_perm _ _).mem_iff,List.mem_cons]
 have hrest:=chg_rest hc;refine⟨?_,fun y hy=>?_,hsort,fun y hy=>?_⟩
 · rw[(ins_perm _ _).length_eq,List.length_cons];omega
 · rcases(hmem y).1 hy with rfl|hy
   · have h1:chk (newE c n).path.data.toList=0:=chg_path hc
     have h2:(newE c n).text.size=c.t.size:=rfl;rw[entE,if_pos h1,if_neg,if_neg]
     · exact hv
     · rw[h2];have:=hrest.2.2.1;omega
     · rintro ⟨ha,hb⟩
       have hk1:c.k=1:=by simpa[newE]using ha
       rcases hrest.2.1 with h|h
       · omega
       · exact hb h
   · exact hL.ents y (mem_outE.1 hy).1
 · by_cases hP:par y.path.data.toList=[]
   · rw[hP];exact fold_nil _
   have hF:foldE L (par y.path.data.toList)=0:=by
    rcases(hmem y).1 hy with rfl|hy
    · have:=plc_fold hp
      rw[goal,if_neg (by omega)]at this;exact this
    · exact hL.pars y (mem_outE.1 hy).1
   obtain⟨z,hz,hzp,hzf,hzs⟩:=fold_zero hF hP
   refine fold_mem hsort (x:=z) ((hmem z).2 (Or.inr (mem_outE.2 ⟨hz,fun e=>?_⟩))) hzp hzf
   have e':z.path.data.toList=c.p.data.toList:=e;have hfind:=sorted_find hL.rise hz;rw[e']at hfind;rcases plc_rest hp (chg_kind hc)with h|h|h|h
   · rw[h.2]at hfind;cases hfind
   · have:=h.2 z hfind;rw[hzf]at this;cases this
   · omega
   · omega
theorem mem_keptL {L:List En} {c:Ch} {y:En}:y∈keptL L c↔y∈L∧isInB y.path.data.toList c.p.data.toList=false:=by
 rw[keptL,List.mem_filter];simp[wi]
theorem mem_goL {L:List En} {c:Ch} {y:En}:y∈goL L c↔y∈L∧isInB y.path.data.toList c.p.data.toList=true:=by
 rw[goL,List.mem_filter];simp[wi]
theorem kept_par {L:List En} (hL:Good L) {c:Ch} {y:En} (hy:y∈keptL L c) (hP:par y.path.data.toList≠[]): ∃z∈keptL L c,z.path.data.toList=par y.path.data.toList∧z.folder=true:=by
 obtain⟨hy1,hy2⟩:=mem_keptL.1 hy
 obtain⟨z,hz,hzp,hzf,_⟩:=fold_zero (hL.pars y hy1) hP
 refine⟨z,mem_keptL.2 ⟨hz,?_⟩,hzp,hzf⟩
 cases hb:isInB z.path.data.toList c.p.data.toList with
 |false=>rfl
 |true=>rw[hzp]at hb;rw[par_in hb hP]at hy2;cases hy2
theorem kept_good {L:List En} (hL:Good L) (c:Ch):Good (keptL L c):=by
 have hsort:(keptL L c).Pairwise (fun x y=>lt x y=true):=List.Pairwise.filter _ hL.rise;refine⟨Nat.le_trans (List.length_filter_le _ _) hL.len,fun y hy=>hL.ents y (mem_keptL.1 hy).1,hsort,fun y hy=>?_⟩
 by_cases hP:par y.path.data.toList=[]
 · rw[hP];exact fold_nil _
 · obtain⟨z,hz,hzp,hzf⟩:=kept_par hL hy hP
   exact fold_mem hsort hz hzp hzf
theorem path_mvd (c:Ch) (n:Int) (e:En):(mvd c n e).path.data.toList=mvP c e:=rfl
theorem nothing_in {L:List En} (hL:Good L) {q:List UInt8} (hq:q≠[]) (hf:L.find? (atB q)=none) {e:En} (he:e∈L):isInB e.path.data.toList q=false:=by
 cases hb:isInB e.path.data.toList q with
 |false=>rfl
 |true=>
  obtain⟨x,hx,hxp⟩:=anc' hL.pars hq he hb
  have:=List.find?_eq_none.1 hf x hx
  simp[atB,hxp]at this
theorem mv_dif {L:List En} (hL:Good L) {c:Ch} (n:Int) (hq:c.q.data.toList≠[]) (hf:L.find? (atB c.q.data.toList)=none):(keptL L c++mvL L c n).Pairwise dif:=by
 have hd:L.Pairwise dif:=hL.rise.imp fun h=>lt_dif h
 rw[List.pairwise_append];refine⟨List.Pairwise.filter _ hd,?_,fun a ha b hb e=>?_⟩
 · rw[mvL,List.pairwise_map]
   have h1:(goL L c).Pairwise dif:=List.Pairwise.filter _ hd;refine(List.Pairwise.and_mem.1 h1).imp fun {a b} h e=>?_
   exact h.2.2 (mvT_inj (mem_goL.1 h.1).2 (mem_goL.1 h.2.1).2 e)
 · obtain⟨x,hx,rfl⟩:=List.mem_map.1 hb
   have h1:=mvT_in (t:=c.q.data.toList) (mem_goL.1 hx).2;have h2:=nothing_in hL hq hf (mem_keptL.1 ha).1;rw[e,path_mvd]at h2;rw[mvP,h1]at h2;cases h2
theorem mv_chk0 {L:List En} (hL:Good L) {c:Ch} (hc:chgE c=0) (h3:c.k=3) {e:En} (he:e∈goL L c):chk (mvP c e)=if big (mvP c e)=true then 2 else 0:=by
 obtain⟨h1,h2⟩:=mem_goL.1 he
 refine mv_chk ?_ h2
 have ha:=entE_path (hL.ents e h1);have hb:=chg_path hc;have hd:=chg_to hc h3;simp[chks,ha,hb,hd]
theorem mv_good {L:List En} (hL:Good L) {c:Ch} {n:Int} (hc:chgE c=0) (hp:plcE L c=0) (hv:verE n=0) (h3:c.k=3) (hb:(goL L c).any (fun e=>big (mvP c e))=false):Good (insAll (mvL L c n) (keptL L c)):=by
 obtain⟨_,⟨x0,hx0⟩,hqp,hqf⟩:c.k=3∧(∃x,L.find? (atB c.p.data.toList)=some x)∧isInB c.q.data.toList c.p.data.toList=false∧L.find? (atB c.q.data.toList)=none:=by
  rcases plc_rest hp (chg_kind hc)with h|h|h|h
  · omega
  · omega
  · exact h
  · omega
 have hq0:=chk_path_ne (chg_to hc h3);have hsort:(insAll (mvL L c n) (keptL L c)).Pairwise (fun x y=>lt x y=true):=insAll_sorted _ (List.Pairwise.filter _ hL.rise) (mv_dif hL n hq0 hqf)
 have hmem: ∀y,y∈insAll (mvL L c n) (keptL L c)↔y∈keptL L c∨ ∃e∈goL L c,mvd c n e=y:=fun y=>by
  rw[(insAll_perm _ _).mem_iff,List.mem_append,mvL,List.mem_map]
 refine⟨?_,fun y hy=>?_,hsort,fun y hy=>?_⟩
 · rw[(insAll_perm _ _).length_eq,List.length_append,mvL,List.length_map]
   have h1:(keptL L c).length+(goL L c).length=L.length:=by
    rw[keptL,goL];have:=(List.filter_append_perm (fun e=> !wi c.p.data.toList e) L).length_eq
    rw[List.length_append]at this;have e1:(List.filter (fun x=> !(fun e=> !wi c.p.data.toList e) x) L)=List.filter (wi c.p.data.toList) L:=by congr 1;funext x;simp
    rw[e1]at this;exact this
   have:=hL.len
   omega
 · rcases(hmem y).1 hy with hy|⟨e,he,rfl⟩
   · exact hL.ents y (mem_keptL.1 hy).1
   · have h0:=hL.ents e (mem_goL.1 he).1
     have h1:chk (mvd c n e).path.data.toList=0:=by
      rw[path_mvd,mv_chk0 hL hc h3 he,if_neg];have:=List.any_eq_false.1 hb e he
      exact this
     have h2:=entE_path h0;rw[entE,if_pos h2]at h0;rw[entE,if_pos h1];have h5:(mvd c n e).folder=e.folder:=rfl;have h6:(mvd c n e).text=e.text:=rfl;rw[h5,h6];split at h0
     · cases h0
     · rename_i ha
       rw[if_neg ha];split at h0
       · cases h0
       · rename_i hb2
         rw[if_neg hb2];by_cases hpp:e.path.data.toList=c.p.data.toList
         · have:(mvd c n e).ver=n:=by simp[mvd,hpp]
           rw[this];exact hv
         · have:(mvd c n e).ver=e.ver:=by simp[mvd,hpp]
           rw[this];exact h0
 · by_cases hP:par y.path.data.toList=[]
   · rw[hP];exact fold_nil _
   rcases(hmem y).1 hy with hy|⟨e,he,rfl⟩
   · obtain⟨z,hz,hzp,hzf⟩:=kept_par hL hy hP
     exact fold_mem hsort ((hmem z).2 (Or.inl hz)) hzp hzf
   · rw[path_mvd]at hP⊢
     obtain⟨he1,he2⟩:=mem_goL.1 he
     rcases(isIn_of _ _).1 he2 with e0|⟨r,e0⟩
     · have hpq:mvP c e=c.q.data.toList:=by rw[mvP,mvT,e0];simp
       rw[hpq]at hP⊢;have hfo:=plc_fold hp;rw[goal,if_pos h3]at hfo;obtain⟨z,hz,hzp,hzf,_⟩:=fold_zero hfo hP
       refine fold_mem hsort ((hmem z).2 (Or.inl (mem_keptL.2 ⟨hz,?_⟩))) hzp hzf
       cases hbb:isInB z.path.data.toList c.p.data.toList with
       |false=>rfl
       |true=>rw[hzp]at hbb;rw[par_in hbb hP]at hqp;cases hqp
     · obtain⟨a,b,hb47,e2,hap,hpar⟩:=par_down (p:=c.p.data.toList) (r:=r)
       have ha0:a≠[]:=by
        intro ea;rw[ea]at hap;rcases(isIn_of _ _).1 hap with h|⟨s,h⟩
        · exact chk_path_ne (chg_path hc) h.symm
        · have h:=congrArg List.length h
          simp at h
       have hfo:=hL.pars e he1;rw[e0,hpar]at hfo;obtain⟨z,hz,hzp,hzf,_⟩:=fold_zero hfo ha0
       have hzg:z∈goL L c:=mem_goL.2 ⟨hz,by rw[hzp];exact hap⟩;refine fold_mem hsort (x:=mvd c n z) ((hmem _).2 (Or.inr ⟨z,hzg,rfl⟩)) ?_ hzf
       rw[path_mvd,mvP,hzp,mvP,e0,e2];obtain⟨s,hs⟩:=isIn_pre hap
       have:mvT (a++47::b) c.p.data.toList c.q.data.toList=mvT a c.p.data.toList c.q.data.toList++47::b:=by
        rw[mvT,mvT,hs];simp
       rw[this,par_cut _ hb47]
theorem app_good {L:List En} (hL:Good L) {c:Ch} {n:Int} (h:appE L c n=0):Good (chdR L c n):=by
 have hv:verE n=0:=by
  by_cases h1:verE n=0
  · exact h1
  · rw[appE,if_pos h1]at h;exact h
 rw[appE,if_neg (fun x=>x hv)]at h
 have hc:chgE c=0:=by
  by_cases h1:chgE c=0
  · exact h1
  · rw[if_pos h1]at h;exact h
 rw[if_neg (fun x=>x hc)]at h
 have hp:plcE L c=0:=by
  by_cases h1:plcE L c=0
  · exact h1
  · rw[if_pos h1]at h;exact h
 rw[if_neg (fun x=>x hp)]at h;split at h
 · cases h
 · rw[chdE]at h
   rw[chdR];by_cases hk:c.k=1∨c.k=2
   · rw[if_pos hk]at h⊢
     refine new_good hL hc hp hv hk fun h6=>?_
     rw[if_pos h6]at h;cases h
   · rw[if_neg hk]at h⊢
     by_cases h3:c.k=3
     · rw[if_pos h3]at h⊢
       refine mv_good hL hc hp hv h3 ?_
       cases hb:(goL L c).any (fun e=>big (mvP c e))with
       |false=>rfl
       |true=>rw[if_pos hb]at h;cases h
     · rw[if_neg h3]
       exact kept_good hL c
end Go.Proofs.YtppdfeehhnofaaaGreatDoor.Pp
namespace Go.Proofs.YtppdfeehhnofaaaGreatDoor
open Go.RowKit

namespace Pp
theorem retB {a b:Bool} (h:a=b):Ending.returned (.bool a)= .returned (.bool b):=by rw[h]
def okK (c:UInt8):Bool:=decide (97≤(c.toNat:Int)∧(c.toNat:Int)≤122∨65≤(c.toNat:Int)∧(c.toNat:Int)≤90∨48≤(c.toNat:Int)∧(c.toNat:Int)≤57∨(c.toNat:Int)=45)
def keyB (l:List UInt8):Bool:=decide (1≤l.length) && decide (l.length≤20) && l.all okK
def keyE (l:List UInt8):Int:=if keyB l=true then 0 else 1
theorem keyE_yes {l:List UInt8} (h:keyB l=true):keyE l=0:=if_pos h
theorem keyE_no {l:List UInt8} (h:keyB l=false):keyE l=1:=if_neg (by rw[h];decide)
theorem keyB_short {l:List UInt8} (h:l.length<1):keyB l=false:=by simp[keyB];omega
theorem keyB_long {l:List UInt8} (h:20<l.length):keyB l=false:=by simp[keyB];omega
theorem keyB_bad {l:List UInt8} {k:Nat} (hk:k<l.length) (h:okK l[k]=false):keyB l=false:=by
 have:l.all okK=false:=by
  rw[List.all_eq_false];exact⟨l[k],List.getElem_mem hk,by simp[h]⟩
 simp[keyB,this]
theorem keyB_ok {l:List UInt8} (h1: ¬l.length<1) (h2: ¬20<l.length) (h:l.all okK=true):keyB l=true:=by
 simp only[keyB,h,Bool.and_true,Bool.and_eq_true,decide_eq_true_eq];omega
theorem all_take {l:List UInt8} {f:UInt8→Bool} {k:Nat} (hk:k<l.length) (h:(l.take k).all f=true) (hf:f l[k]=true):(l.take (k+1)).all f=true:=by
 rw[List.take_succ_eq_append_getElem hk,List.all_append,h];simp[hf]
theorem okK_yes {c:UInt8} (h:97≤(c.toNat:Int)∧(c.toNat:Int)≤122∨65≤(c.toNat:Int)∧(c.toNat:Int)≤90∨48≤(c.toNat:Int)∧(c.toNat:Int)≤57):true=okK c:=by
 rw[okK,eq_comm,decide_eq_true_eq];omega
theorem okK_last {c:UInt8} (h: ¬(97≤(c.toNat:Int)∧(c.toNat:Int)≤122∨65≤(c.toNat:Int)∧(c.toNat:Int)≤90∨48≤(c.toNat:Int)∧(c.toNat:Int)≤57)):((c.toNat:Int)==45)=okK c:=by
 rw[okK,Bool.eq_iff_iff,beq_iff_eq,decide_eq_true_eq];omega
end Pp

set_option maxHeartbeats 400000 in
theorem inKeys_any (c:UInt8) (w:World):
    Calls Tryz.prog 185 #[.int .u8 (c.toNat:Int)] w fun e w'=>e= .returned (.bool (Pp.okK c))∧w'=w:=by
 go_enter Tryz.func185,Tryz.ntmps185
 go_wp2
 all_goals go_ret
 all_goals first
  |exact⟨Pp.retB (Pp.okK_yes (by omega)),rfl⟩
  |exact⟨Pp.retB (Pp.okK_last (by omega)),rfl⟩
set_option maxHeartbeats 800000 in
theorem key_any (s:ByteArray) (w:World) (hs:s.size≤maxLen):
    Calls Tryz.prog 142 #[.string s] w fun e w'=>e= .returned (.int .i64 (Pp.keyE s.data.toList))∧w'=w:=by
 unfold maxLen at hs;have hz:s.data.toList.length=s.size:=Array.length_toList;by_cases c1:(s.size:Int)<1
 · rw[Pp.keyE_no (Pp.keyB_short (by omega))]
   go_enter Tryz.func142,Tryz.ntmps142
   go_wp2_with fail;go_ret;exact⟨rfl,rfl⟩
 by_cases c2:20<(s.size:Int)
 · rw[Pp.keyE_no (Pp.keyB_long (by omega))]
   go_enter Tryz.func142,Tryz.ntmps142
   go_wp2_with fail;go_ret;exact⟨rfl,rfl⟩
 have HZ:Hid (s.data.toList.length=s.size):=hz;have HY:Hid (s.data.toList.all Pp.okK=true→Pp.keyE s.data.toList=0):=fun h=>Pp.keyE_yes (Pp.keyB_ok (by omega) (by omega) h)
 clear hz;go_enter Tryz.func142,Tryz.ntmps142
 go_wp2_with fail;go_loop [14] (fun i=> ∃k:Nat,k≤s.size∧i= .int .i64 k∧(s.data.toList.take k).all Pp.okK=true) (fun i=>s.size-(intOf i).toNat)
 case atStart=>exact⟨0,Nat.zero_le _,rfl,by simp⟩
 case round=>
  obtain⟨k,hk,rfl,hall⟩:=hrel
  have HA:Hid ((s.data.toList.take k).all Pp.okK=true):=hall;clear hall;by_cases hlt:k<s.size
  · cases ho:Pp.okK s[k]with
    |true=>
     have HN:Hid ((s.data.toList.take (k+1)).all Pp.okK=true):=Pp.all_take (by rw[HZ.out];exact hlt) HA.out ho;go_wp2_with (go_at_call 185;refine(inKeys_any _ _).mono ?_;rintro e w' ⟨rfl,rfl⟩)
     go_round
     case rel=>exact⟨k+1,by omega,by go_num,HN.out⟩
     case measure=>simp[intOf];omega
    |false=>
     have HE:Hid (Pp.keyE s.data.toList=1):=Pp.keyE_no (Pp.keyB_bad (by rw[HZ.out];exact hlt) ho);go_wp2_with (go_at_call 185;refine(inKeys_any _ _).mono ?_;rintro e w' ⟨rfl,rfl⟩)
     go_ret;exact⟨by rw[HE.out];rfl,rfl⟩
  · have HE2:Hid (Pp.keyE s.data.toList=0):=HY.out (by have:=HA.out;rwa [List.take_of_length_le (by rw[HZ.out];omega)]at this)
    go_wp2_with fail;go_ret;exact⟨by rw[HE2.out];rfl,rfl⟩
end Go.Proofs.YtppdfeehhnofaaaGreatDoor
namespace Go.Proofs.YtppdfeehhnofaaaGreatDoor
open Go.RowKit

/-- A commit: its number, its key, its changes. -/
structure Co where
 nu:Int
 ke:ByteArray
 ch:List Pp.Ch
/-- A journal: the tree ahead of its first commit, that one's number, its commits. -/
structure Jo where
 base:List En
 first:Int
 cos:List Co
def CoAt (w:World) (b o:Nat) (c:Co):Prop:=w.cell? ⟨b,o,none⟩=some (.int .i64 c.nu)∧w.cell? ⟨b,o+1,none⟩=some (.string c.ke)∧ ∃u,w.cell? ⟨b,o+2,none⟩=some u∧LiesC w u c.ch
def LiesO (w:World) (v:Value) (l:List Co):Prop:= ∃a cap,v= .slice a l.length cap∧l.length≤cap∧l.length≤1000000000000000∧ ∀i (h:i<l.length),∃b o,a=some ⟨b,o,none⟩∧b<w.heap.size∧CoAt w b (o+i*3) l[i]
def LiesJ (w:World) (v:Value) (J:Jo):Prop:= ∃vb vc,v= .agg #[vb,.int .i64 J.first,vc]∧Lies w vb J.base∧LiesO w vc J.cos
theorem CoAt.below {w w':World} {b o:Nat} {c:Co} (h:CoAt w b o c) (hb:b<w.heap.size) (hw:Below w.heap.size w w'):CoAt w' b o c:=by
 obtain⟨h0,h1,u,h2,h3⟩:=h
 exact⟨(hw.cell (p:=⟨b,o,none⟩) hb).trans h0,(hw.cell (p:=⟨b,o+1,none⟩) hb).trans h1,u,(hw.cell (p:=⟨b,o+2,none⟩) hb).trans h2,h3.below hw⟩
theorem LiesO.below {w w':World} {v:Value} {l:List Co} (h:LiesO w v l) (hw:Below w.heap.size w w'):LiesO w' v l:=by
 obtain⟨a,cap,hv,h1,h2,h3⟩:=h
 refine⟨a,cap,hv,h1,h2,fun i hi=>?_⟩
 obtain⟨b,o,ha,hb,he⟩:=h3 i hi
 exact⟨b,o,ha,Nat.lt_of_lt_of_le hb hw.size,he.below hb hw⟩
theorem LiesJ.below {w w':World} {v:Value} {J:Jo} (h:LiesJ w v J) (hw:Below w.heap.size w w'):LiesJ w' v J:=by
 obtain⟨vb,vc,rfl,h1,h2⟩:=h
 exact⟨vb,vc,rfl,h1.below hw,h2.below hw⟩
theorem liesO_nil (w:World):LiesO w (.slice none 0 0) []:=⟨none,0,rfl,Nat.le_refl _,by decide,fun i h=>absurd h (by simp)⟩
def SizedO (B:Nat) (l:List Co):Prop:= ∀c∈l,c.ke.size≤B∧SizedC B c.ch
theorem SizedO.mono {B B':Nat} {l:List Co} (h:SizedO B l) (hb:B≤B'):SizedO B' l:=fun c hc=>⟨Nat.le_trans (h c hc).1 hb,fun x hx=>⟨Nat.le_trans ((h c hc).2 x hx).1 hb,Nat.le_trans ((h c hc).2 x hx).2.1 hb,Nat.le_trans ((h c hc).2 x hx).2.2 hb⟩⟩
namespace Jn
/-- Of one commit, but for its changes: its number must be this one. -/
def coE (c:Co) (n:Int):Int:=if¬c.nu=n then 4 else if 1000000<n then 3 else if¬Pp.keyB c.ke.data.toList=true then 1 else if c.ch=[]then 1 else 0
/-- Commit by commit. -/
def runJ:Int→List En→List Co→Int×List En
 |_,T,[]=>(0,T)
 |n,T,c::r=>if¬coE c n=0 then(coE c n,[])else if¬Pp.allE T c.ch c.nu=0 then(Pp.allE T c.ch c.nu,[])else runJ (n+1) (Pp.allR T c.ch c.nu) r
def Apart (l:List Co):Prop:=l.Pairwise (fun x y=>x.ke.data.toList≠y.ke.data.toList)
instance (l:List Co):Decidable (Apart l):=by unfold Apart;infer_instance
def chkE (J:Jo):Int:=if¬Pp.treeE J.base=0 then Pp.treeE J.base else if¬Pp.verE J.first=0 then 3 else if 30<J.cos.length then 2 else
 if¬(runJ J.first J.base J.cos).1=0 then(runJ J.first J.base J.cos).1 else if¬Apart J.cos then 6 else 0
def tree (J:Jo):List En:=(runJ J.first J.base J.cos).2
def last (J:Jo):Int:=J.first-1+J.cos.length
/-- What is left to do behind the first commits. -/
def LeftJ (J:Jo) (S:List En) (k:Nat):Prop:=runJ J.first J.base J.cos=runJ (J.first+k) S (J.cos.drop k)
theorem left_zero (J:Jo):LeftJ J J.base 0:=by rw[LeftJ];simp
theorem left_step {J:Jo} {S:List En} {k:Nat} (h:LeftJ J S k) (hk:k<J.cos.length):runJ J.first J.base J.cos=if¬coE J.cos[k] (J.first+k)=0 then(coE J.cos[k] (J.first+k),[])else if¬Pp.allE S J.cos[k].ch J.cos[k].nu=0 then(Pp.allE S J.cos[k].ch J.cos[k].nu,[])else runJ (J.first+(k+1:Nat)) (Pp.allR S J.cos[k].ch J.cos[k].nu) (J.cos.drop (k+1)):=by
 rw[LeftJ,List.drop_eq_getElem_cons hk,runJ]at h;rw[h,show J.first+(k:Int)+1=J.first+((k+1:Nat):Int) by omega]
theorem left_bad {J:Jo} {S:List En} {k:Nat} (h:LeftJ J S k) (hk:k<J.cos.length) (h0: ¬coE J.cos[k] (J.first+k)=0):runJ J.first J.base J.cos=(coE J.cos[k] (J.first+k),[]):=by
 rw[left_step h hk,if_pos h0]
theorem left_all {J:Jo} {S:List En} {k:Nat} (h:LeftJ J S k) (hk:k<J.cos.length) (h0:coE J.cos[k] (J.first+k)=0) (h1: ¬Pp.allE S J.cos[k].ch J.cos[k].nu=0):runJ J.first J.base J.cos=(Pp.allE S J.cos[k].ch J.cos[k].nu,[]):=by
 rw[left_step h hk,if_neg (fun x=>x h0),if_pos h1]
theorem left_next {J:Jo} {S:List En} {k:Nat} (h:LeftJ J S k) (hk:k<J.cos.length) (h0:coE J.cos[k] (J.first+k)=0) (h1:Pp.allE S J.cos[k].ch J.cos[k].nu=0):LeftJ J (Pp.allR S J.cos[k].ch J.cos[k].nu) (k+1):=by
 rw[LeftJ,left_step h hk,if_neg (fun x=>x h0),if_neg (fun x=>x h1)]
theorem left_end {J:Jo} {S:List En} (h:LeftJ J S J.cos.length):runJ J.first J.base J.cos=(0,S):=by
 rw[LeftJ,List.drop_length,runJ]at h;exact h
theorem ver_iff {n:Int}:Pp.verE n=0↔1≤n∧n≤1000000:=by
 unfold Pp.verE;split
 · exact⟨(fun h=>by cases h),fun h=>by omega⟩
 · exact⟨fun _=>by omega,fun _=>rfl⟩
theorem chk_tree {J:Jo} (h: ¬Pp.treeE J.base=0):chkE J=Pp.treeE J.base:=by rw[chkE,if_pos h]
theorem chk_first {J:Jo} (h:Pp.treeE J.base=0) (h1: ¬Pp.verE J.first=0):chkE J=3:=by rw[chkE,if_neg (fun x=>x h),if_pos h1]
theorem chk_many {J:Jo} (h:Pp.treeE J.base=0) (h1:Pp.verE J.first=0) (h2:30<J.cos.length):chkE J=2:=by rw[chkE,if_neg (fun x=>x h),if_neg (fun x=>x h1),if_pos h2]
theorem chk_run {J:Jo} (h:Pp.treeE J.base=0) (h1:Pp.verE J.first=0) (h2: ¬30<J.cos.length) {e:Int} {T:List En} (hr:runJ J.first J.base J.cos=(e,T)) (he: ¬e=0):chkE J=e:=by
 rw[chkE,if_neg (fun x=>x h),if_neg (fun x=>x h1),if_neg h2,hr,if_pos he]
theorem chk_twice {J:Jo} (h:Pp.treeE J.base=0) (h1:Pp.verE J.first=0) (h2: ¬30<J.cos.length) {T:List En} (hr:runJ J.first J.base J.cos=(0,T)) (ha: ¬Apart J.cos):chkE J=6:=by
 rw[chkE,if_neg (fun x=>x h),if_neg (fun x=>x h1),if_neg h2,hr,if_neg (fun x=>x rfl),if_pos ha]
theorem chk_ok {J:Jo} (h:Pp.treeE J.base=0) (h1:Pp.verE J.first=0) (h2: ¬30<J.cos.length) {T:List En} (hr:runJ J.first J.base J.cos=(0,T)) (ha:Apart J.cos):chkE J=0:=by
 rw[chkE,if_neg (fun x=>x h),if_neg (fun x=>x h1),if_neg h2,hr,if_neg (fun x=>x rfl),if_neg (fun x=>x ha)]
theorem tree_of {J:Jo} {T:List En} (hr:runJ J.first J.base J.cos=(0,T)):tree J=T:=by rw[tree,hr]
/-- What it takes to pass Check. -/
theorem chk_parts {J:Jo} (h:chkE J=0):Pp.treeE J.base=0∧Pp.verE J.first=0∧ ¬30<J.cos.length∧runJ J.first J.base J.cos=(0,tree J)∧Apart J.cos:=by
 by_cases h1:Pp.treeE J.base=0
 · by_cases h2:Pp.verE J.first=0
   · by_cases h3:30<J.cos.length
     · rw[chk_many h1 h2 h3]at h;cases h
     · rcases hr:runJ J.first J.base J.cos with⟨e,T⟩
       by_cases he:e=0
       · subst he
         by_cases ha:Apart J.cos
         · exact⟨h1,h2,h3,by rw[tree_of hr],ha⟩
         · rw[chk_twice h1 h2 h3 hr ha]at h;cases h
       · rw[chk_run h1 h2 h3 hr he]at h;exact absurd h he
   · rw[chk_first h1 h2]at h;cases h
 · rw[chk_tree h1]at h;exact absurd h h1
theorem all_good {T:List En} {cs:List Pp.Ch} {n:Int} (h:Pp.allE T cs n=0):Pp.Good (Pp.allR T cs n):=by
 have ht:Pp.treeE T=0:=by
  by_cases ht:Pp.treeE T=0
  · exact ht
  · rw[(Pp.all_no ht cs n).1]at h;exact absurd h ht
 have hm: ¬20<cs.length:=fun hm=>by rw[(Pp.all_many ht hm n).1]at h;cases h
 have hr:=Pp.all_run ht hm (n:=n) (k:=(Pp.runF n T cs).1) (e:=(Pp.runF n T cs).2.1) (R:=(Pp.runF n T cs).2.2) rfl;rw[hr.1]at h;rw[hr.2.2];have hT:=(Pp.good_iff T).1 ht;clear hr ht hm;induction cs generalizing T with
 |nil=>exact hT
 |cons c r ih=>
  rw[Pp.runF]at h⊢;by_cases h0:Pp.appE T c n=0
  · rw[if_pos h0]at h⊢
    exact ih h (Pp.app_good hT h0)
  · rw[if_neg h0]at h
    exact absurd h h0
theorem run_good: ∀{n:Int} {T:List En} {l:List Co},Pp.Good T→(runJ n T l).1=0→Pp.Good (runJ n T l).2
 |n,T,[],hT,_=>hT
 |n,T,c::r,hT,h=>by
  rw[runJ]at h⊢;by_cases h0:coE c n=0
  · rw[if_neg (fun x=>x h0)]at h⊢
    by_cases h1:Pp.allE T c.ch c.nu=0
    · rw[if_neg (fun x=>x h1)]at h⊢
      exact run_good (all_good h1) h
    · rw[if_pos h1]at h;exact absurd h h1
  · rw[if_pos h0]at h;exact absurd h h0
theorem tree_good {J:Jo} (h:chkE J=0):Pp.Good (tree J):=by
 obtain⟨h1,_,_,h4,_⟩:=chk_parts h
 have:=run_good (n:=J.first) (l:=J.cos) ((Pp.good_iff _).1 h1) (by rw[h4])
 rwa [h4]at this
/-- The tree behind the first k commits. -/
def trAt (J:Jo) (k:Nat):List En:=(J.cos.take k).foldl (fun T c=>Pp.allR T c.ch c.nu) J.base
theorem trAt_zero (J:Jo):trAt J 0=J.base:=by simp[trAt]
theorem trAt_succ {J:Jo} {k:Nat} (hk:k<J.cos.length):trAt J (k+1)=Pp.allR (trAt J k) J.cos[k].ch J.cos[k].nu:=by
 rw[trAt,List.take_succ_eq_append_getElem hk,List.foldl_append];rfl
/-! Numbers by keys. -/
def key (p:ByteArray):Lit:= .string p.data.toList
def num (n:Int):DataW Unit:= .lit (.int .i64 n)
def D (l:List Co):DataW Unit:=l.foldl (fun m c=>m.put (key c.ke) (num c.nu)) (.map [])
theorem D_snoc (l:List Co) (c:Co):D (l++[c])=(D l).put (key c.ke) (num c.nu):=by simp[D]
theorem D_take {l:List Co} {k:Nat} (hk:k<l.length):D (l.take (k+1))=(D (l.take k)).put (key l[k].ke) (num l[k].nu):=by
 rw[List.take_succ_eq_append_getElem hk,D_snoc]
theorem key_lit (p:ByteArray):WideAt.IsKeyLit (key p):=by simp[key,WideAt.IsKeyLit]
theorem key_inj {p q:ByteArray} (h:key p=key q):p.data.toList=q.data.toList:=by simpa[key]using h
theorem D_tidy (l:List Co):Maps.Tidy (D l):=by
 have: ∀(l:List Co) (m:DataW Unit),Maps.Tidy m→Maps.Tidy (l.foldl (fun m c=>m.put (key c.ke) (num c.nu)) m):=by
  intro l;induction l with
  |nil=>intro m h;exact h
  |cons c r ih=>intro m h;exact ih _ (h.put (key_lit _) _)
 exact this l _ Maps.tidy_empty
def hasB (l:List Co) (p:List UInt8):Bool:=l.any (fun c=>c.ke.data.toList==p)
theorem snoc_ind {α:Type} {P:List α→Prop} (h0:P []) (h1: ∀L e,P L→P (L++[e])) (L:List α):P L:=by
 have h: ∀R:List α,P R.reverse:=fun R=>by
  induction R with
  |nil=>exact h0
  |cons a r ih=>rw[List.reverse_cons];exact h1 _ _ ih
 have h2:=h L.reverse;rwa [List.reverse_reverse]at h2
theorem D_has (l:List Co) (p:ByteArray):Maps.has (D l) (key p)=hasB l p.data.toList:=by
 refine snoc_ind (P:=fun l=>Maps.has (D l) (key p)=hasB l p.data.toList) rfl ?_ l
 intro l c ih;rw[D_snoc,hasB,List.any_append];by_cases hk:key p=key c.ke
 · rw[hk,Maps.has_put_same (D_tidy l).isMap (key_lit _)]
   simp[key_inj hk]
 · rw[Maps.has_put_other hk,ih,hasB]
   have hd: ¬c.ke.data=p.data:=fun h=>hk (by rw[key,key,h])
   simp[hd]
theorem D_size (l:List Co):Maps.size (D l)≤l.length∧(Maps.size (D l)=l.length↔Apart l):=by
 refine snoc_ind (P:=fun l=>Maps.size (D l)≤l.length∧(Maps.size (D l)=l.length↔Apart l)) ⟨Nat.le_refl _,⟨fun _=>List.Pairwise.nil,fun _=>rfl⟩⟩ ?_ l
 intro l c ⟨ih1,ih2⟩;rw[D_snoc,Maps.size_put (D_tidy l),D_has,List.length_append,Apart,List.pairwise_append];cases hb:hasB l c.ke.data.toList with
 |true=>
  rw[if_pos rfl];refine⟨by omega,⟨fun h=>?_,fun h=>?_⟩⟩
  · simp at h;omega
  · obtain⟨x,hx,he⟩:=List.any_eq_true.1 hb
    exact absurd (by simpa using he) (h.2.2 x hx c (by simp))
 |false=>
  rw[if_neg (by simp)];refine⟨by simp;omega,⟨fun h=>?_,fun h=>?_⟩⟩
  · refine⟨ih2.1 (by simp at h;omega),by simp,fun a ha b hbm=>?_⟩
    simp at hbm
    subst hbm;intro he;have:=List.any_eq_false.1 hb a ha
    simp[he]at this
  · have:=ih2.2 h.1
    simp;omega
def numOf (l:List Co) (p:List UInt8):Int:=match l.find? (fun c=>c.ke.data.toList==p)with
 |some c=>c.nu
 |none=>0
theorem D_at {l:List Co} (h:Apart l) (p:ByteArray) (z:Int):hasB l p.data.toList=true→(D l).atKey (key p) (num z)=num (numOf l p.data.toList):=by
 revert h
 refine snoc_ind (P:=fun l=>Apart l→hasB l p.data.toList=true→(D l).atKey (key p) (num z)=num (numOf l p.data.toList)) (fun _ h=>by cases h) ?_ l
 intro l c ih ha hb;rw[Apart,List.pairwise_append]at ha;rw[D_snoc];by_cases hk:key p=key c.ke
 · have hp:=key_inj hk
   rw[hk,Maps.atKey_put_same (D_tidy l).isMap (key_lit _)]
   have hnone:l.find? (fun c=>c.ke.data.toList==p.data.toList)=none:=by
    rw[List.find?_eq_none];intro x hx hh;exact ha.2.2 x hx c (by simp) (by simp at hh;rw[hh,hp])
   rw[numOf,List.find?_append,hnone];simp[hp]
 · rw[Maps.atKey_put_other hk]
   have hd: ¬c.ke.data=p.data:=fun h=>hk (by rw[key,key,h])
   rw[hasB,List.any_append]at hb;simp[hd]at hb
   rw[ih ha.1 (by rw[hasB,List.any_eq_true];simpa using hb),numOf,numOf,List.find?_append];simp[hd]
end Jn
end Go.Proofs.YtppdfeehhnofaaaGreatDoor
