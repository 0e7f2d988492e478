/- Rows of cells in memory, whatever they hold; and rows of one's own. -/
import Derived.Test.YtdifomkoegmngaaGreatDoorRKF
import Derived.Test.YtdifomkoegmngaaGreatDoorRKB
import Derived.Test.YtdifomkoegmngaaGreatDoorRKD
set_option linter.unusedSimpArgs false
set_option linter.unusedVariables false
namespace Go.Proofs.YtdifomkoegmngaaGreatDoor
open Go.RowKit

/-- A slice whose elements have these cells, n each. -/
def LiesR (n:Nat) (w:World) (v:Value) (R:List (List Value)):Prop:= ∃a cap,v= .slice a R.length cap∧R.length≤cap∧R.length≤1000000000000000∧(∀r∈R,r.length=n∧ ∀u∈r,u.oneCell'=true)∧
 ∀i (h:i<R.length),∃b o,a=some ⟨b,o,none⟩∧b<w.heap.size∧ ∀c u,R[i][c]?=some u→w.cell? ⟨b,o+i*n+c,none⟩=some u
theorem LiesR.below {n:Nat} {w w':World} {v:Value} {R:List (List Value)} (h:LiesR n w v R) (hw:Below w.heap.size w w'):LiesR n w' v R:=by
 obtain⟨a,cap,hv,h1,h2,h4,h3⟩:=h
 refine⟨a,cap,hv,h1,h2,h4,fun i hi=>?_⟩
 obtain⟨b,o,ha,hb,he⟩:=h3 i hi
 exact⟨b,o,ha,Nat.lt_of_lt_of_le hb hw.size,fun c u hu=>(hw.cell (p:=⟨b,o+i*n+c,none⟩) hb).trans (he c u hu)⟩
theorem flatten_len {n:Nat}: ∀{R:List (List Value)},(∀r∈R,r.length=n)→R.flatten.length=R.length*n
 |[],_=>by simp
 |r::R,h=>by
  rw[List.flatten_cons,List.length_append,h r (by simp),flatten_len (fun x hx=>h x (by simp[hx])),List.length_cons,Nat.add_mul];omega
theorem flatten_at {n:Nat}: ∀{R:List (List Value)} (i c:Nat) (h:i<R.length),(∀r∈R,r.length=n)→c<n→R.flatten[i*n+c]?=R[i][c]?
 |[],i,c,h,_,_=>absurd h (Nat.not_lt_zero _)
 |r::R,0,c,_,hr,hc=>by
  rw[List.flatten_cons,Nat.zero_mul,Nat.zero_add,List.getElem?_append_left (by rw[hr r (by simp)];exact hc)];rfl
 |r::R,i+1,c,h,hr,hc=>by
  have hl:=hr r (by simp);rw[List.flatten_cons,List.getElem?_append_right (by rw[hl,Nat.add_mul];omega),hl];have e:(i+1)*n+c-n=i*n+c:=by rw[Nat.add_mul];omega
  rw[e,flatten_at i c (by simpa using h) (fun x hx=>hr x (by simp[hx])) hc];rfl
theorem liesR_cells {n:Nat} (hn:0<n) {w:World} {b o:Nat} {R:List (List Value)} (hr: ∀r∈R,r.length=n) (h: ∀i (h:i<R.length),∀c u,R[i][c]?=some u→w.cell? ⟨b,o+i*n+c,none⟩=some u): ∀j u,R.flatten[j]?=some u→w.cell? ((⟨b,o,none⟩:Addr).add j)=some u:=by
 intro j u hj
 have hjl:j<R.length*n:=by
  have:=(List.getElem?_eq_some_iff.1 hj).1
  rw[flatten_len hr]at this;exact this
 have h1:j/n<R.length:=(Nat.div_lt_iff_lt_mul hn).2 hjl;have h2:j/n*n+j % n=j:=Nat.div_add_mod' j n;have h3:=flatten_at (j/n) (j % n) h1 hr (Nat.mod_lt _ hn);rw[h2,hj]at h3;have h4:=h _ h1 _ u h3.symm;rw[Addr.add_lit];rw[Nat.add_assoc,h2]at h4;exact h4
theorem liesR_own {n:Nat} {w:World} {base:Nat} {T:TypeId} {v:Value} {R:List (List Value)} (h:w.ownsRow base T n v R.length R.flatten) (hn:R.length≤1000000000000000) (hr: ∀r∈R,r.length=n∧ ∀u∈r,u.oneCell'=true):LiesR n w v R:=by
 have h':=h;obtain⟨_,h2⟩:=h
 rcases h2 with⟨rfl,hz⟩|⟨g,cap,cur,rfl,hg,hh,hc,hm,hz,htake⟩
 · have:R=[]:=List.length_eq_zero_iff.1 hz
   subst this;exact⟨none,0,rfl,Nat.le_refl _,by simp,by simp,fun i hi=>absurd hi (by simp)⟩
 · refine⟨some ⟨g,0,none⟩,cap,rfl,hc,hn,hr,fun i hi=>⟨g,0,rfl,heap_lt hh,fun c u hu=>?_⟩⟩
   have hc':c<n:=by
    have:=(List.getElem?_eq_some_iff.1 hu).1
    rw[(hr _ (List.getElem_mem hi)).1]at this;exact this
   have hlt:i*n+c<R.length*n:=by
    have h5:(i+1)*n≤R.length*n:=Nat.mul_le_mul_right n hi;rw[Nat.add_mul]at h5;omega
   rw[Nat.zero_add,h'.cellAt (i*n+c) hlt,flatten_at i c hi (fun r hr'=>(hr r hr').1) hc'];exact hu
theorem flatten_one {n:Nat} {R:List (List Value)} (hr: ∀r∈R,r.length=n∧ ∀u∈r,u.oneCell'=true): ∀u∈R.flatten,u.oneCell'=true:=by
 intro u hu;obtain⟨r,h1,h2⟩:=List.mem_flatten.1 hu
 exact(hr r h1).2 u h2
namespace Pp
def chC (c:Ch):List Value:=[.int .i64 c.k,.string c.p,.string c.q,.string c.t,.int .i64 c.b]
end Pp
theorem liesR_en {w:World} {v:Value} {L:List En}:Lies w v L↔LiesR 4 w v (L.map Pp.cells):=by
 constructor
 · rintro ⟨a,cap,hv,h1,h2,h3⟩
   refine⟨a,cap,by simpa using hv,by simpa using h1,by simpa using h2,?_,fun i hi=>?_⟩
   · intro r hr
     obtain⟨e,_,rfl⟩:=List.mem_map.1 hr
     exact⟨rfl,Pp.cells_one e⟩
   · obtain⟨b,o,ha,hb,he⟩:=h3 i (by simpa using hi)
     refine⟨b,o,ha,hb,fun c u hu=>?_⟩
     rw[List.getElem_map]at hu;obtain⟨e0,e1,e2,e3⟩:=he
     match c,hu with
     |0,hu=>simp[Pp.cells]at hu;subst hu;exact e0
     |1,hu=>simp[Pp.cells]at hu;subst hu;exact e1
     |2,hu=>simp[Pp.cells]at hu;subst hu;exact e2
     |3,hu=>simp[Pp.cells]at hu;subst hu;exact e3
     |c+4,hu=>simp[Pp.cells]at hu
 · rintro ⟨a,cap,hv,h1,h2,_,h3⟩
   refine⟨a,cap,by simpa using hv,by simpa using h1,by simpa using h2,fun i hi=>?_⟩
   obtain⟨b,o,ha,hb,he⟩:=h3 i (by simpa using hi)
   rw[List.getElem_map]at he;exact⟨b,o,ha,hb,he 0 _ rfl,he 1 _ rfl,he 2 _ rfl,he 3 _ rfl⟩
theorem liesR_ch {w:World} {v:Value} {L:List Pp.Ch}:LiesC w v L↔LiesR 5 w v (L.map Pp.chC):=by
 constructor
 · rintro ⟨a,cap,hv,h1,h2,h3⟩
   refine⟨a,cap,by simpa using hv,by simpa using h1,by simpa using h2,?_,fun i hi=>?_⟩
   · intro r hr
     obtain⟨e,_,rfl⟩:=List.mem_map.1 hr
     refine⟨rfl,fun u hu=>?_⟩
     simp only[Pp.chC,List.mem_cons,List.not_mem_nil,or_false]at hu;rcases hu with rfl|rfl|rfl|rfl|rfl<;>rfl
   · obtain⟨b,o,ha,hb,he⟩:=h3 i (by simpa using hi)
     refine⟨b,o,ha,hb,fun c u hu=>?_⟩
     rw[List.getElem_map]at hu;obtain⟨e0,e1,e2,e3,e4⟩:=he
     match c,hu with
     |0,hu=>simp[Pp.chC]at hu;subst hu;exact e0
     |1,hu=>simp[Pp.chC]at hu;subst hu;exact e1
     |2,hu=>simp[Pp.chC]at hu;subst hu;exact e2
     |3,hu=>simp[Pp.chC]at hu;subst hu;exact e3
     |4,hu=>simp[Pp.chC]at hu;subst hu;exact e4
     |c+5,hu=>simp[Pp.chC]at hu
 · rintro ⟨a,cap,hv,h1,h2,_,h3⟩
   refine⟨a,cap,by simpa using hv,by simpa using h1,by simpa using h2,fun i hi=>?_⟩
   obtain⟨b,o,ha,hb,he⟩:=h3 i (by simpa using hi)
   rw[List.getElem_map]at he;exact⟨b,o,ha,hb,he 0 _ rfl,he 1 _ rfl,he 2 _ rfl,he 3 _ rfl,he 4 _ rfl⟩
theorem Tryz.infoRE:(Tryz.prog.info? 72).map (fun i=>(i.zero,i.size,i.bytes))=some (some (.agg #[.string ⟨#[]⟩,.bool false,.string ⟨#[]⟩,.int .i64 0]),4,48):=by kernel_rfl
set_option maxHeartbeats 1000000 in
theorem cloneE (R:List (List Value)) (v:Value) (w:World) (hv:LiesR 4 w v R) (hn:R.length≤1000000000000):
    Calls Tryz.prog 30 #[v] w fun e w'=> ∃u,e= .returned u∧LiesR 4 w' u R∧Own w.heap.size w' u∧Below w.heap.size w w':=by
 obtain⟨i0,hi0,hz0,hz1,hz2⟩:=info_parts Tryz.infoRE
 obtain⟨a,cap,rfl,hcap,hcap2,hR,hLL⟩:=hv
 have HR:=hid hR;have q22: ∀(w:World) (a:Option Addr) (n c n' c':Nat),(binOp .eql 22 (.slice a n c) (.slice none n' c')).run Tryz.prog w= .ok (.bool a.isNone) w:=fun w a n c n' c'=>Lib.run_eql_slice_nil w _ _ a n c n' c' Tryz.underlying22
 cases a with
 |none=>
  have hL:R=[]:=by
   cases R with
   |nil=>rfl
   |cons s r=>obtain⟨b,o,hb,_⟩:=hLL 0 (by simp);cases hb
  subst hL;clear hR;go_enter Tryz.func30,Tryz.ntmps30
  go_wp2;go_ret;exact⟨_,rfl,⟨none,0,rfl,Nat.le_refl _,by simp,HR.out,fun i h=>absurd h (by simp)⟩,own_nil _ _,Below.refl _ _⟩
 |some ad=>
  have hcells: ∀j u,R.flatten[j]?=some u→w.cell? (ad.add j)=some u:=by
   cases R with
   |nil=>intro j u hj;simp at hj
   |cons s r=>
    obtain⟨b,o,hb,_⟩:=hLL 0 (by simp)
    injection hb with hb
    subst hb
    exact liesR_cells (by decide) (fun r hr=>(hR r hr).1) fun i hi=>by
     obtain⟨b',o',hb',_,he⟩:=hLL i hi
     injection hb' with hb'
     injection hb' with h1 h2
     subst h1;subst h2;exact he
  have HC:=hid hcells;have HFL:=hid (flatten_len (fun r hr=>(hR r hr).1):R.flatten.length=R.length*4);clear hcells hLL hR;go_enter Tryz.func30,Tryz.ntmps30
  go_wp2_with (at_builtin;refine wpList_append_own _ rfl _ _ 22 rfl w.heap.size 72 i0 (.agg #[.string ⟨#[]⟩,.bool false,.string ⟨#[]⟩,.int .i64 0]) 4 48 Tryz.underlying22 hi0 hz0 hz1 hz2 rfl (by decide) _ _ _ rfl (World.ownsRow_made w #[] 0 (Nat.le_refl _) (Nat.zero_le _) (by simp)) ad R.length cap R.flatten rfl ?qc1 ?qc2 ?qc3 ?qc4 ?qc5 ?qc6 ?_)
  case qc1=>exact HFL.out
  case qc2=>intro j u hj;exact Lib.cell?_alloc_some _ (HC.out j u hj)
  case qc3=>exact flatten_one HR.out
  case qc4=>unfold maxLen;omega
  case qc5=>omega
  case qc6=>simp
  intro v2 w2 ho2 hgr2 hnn2;have hbel2:Below w.heap.size w w2:=((Below.refl _ _).alloc (Nat.le_refl _) _).grown hgr2 (by simp) (fun k hk=>by simp[Value.ownBlock]at hk;omega);have ho3:w2.ownsRow w.heap.size 72 4 v2 R.length R.flatten:=by simpa using ho2
  have HCL:=hid (liesR_own ho3 (by omega) HR.out);have HOW:=hid (own_row ho3);obtain⟨a2,cap2,hv2,_,_,_⟩:=HCL.out
  clear ho2 ho3 hgr2 hnn2;go_wp2_with fail;go_ret;exact⟨_,rfl,HCL.out,HOW.out,hbel2⟩
theorem Tryz.infoRC:(Tryz.prog.info? 53).map (fun i=>(i.zero,i.size,i.bytes))=some (some (.agg #[.int .i64 0,.string ⟨#[]⟩,.string ⟨#[]⟩,.string ⟨#[]⟩,.int .i64 0]),5,64):=by kernel_rfl
set_option maxHeartbeats 1000000 in
theorem cloneC (R:List (List Value)) (v:Value) (w:World) (hv:LiesR 5 w v R) (hn:R.length≤1000000000000):
    Calls Tryz.prog 59 #[v] w fun e w'=> ∃u,e= .returned u∧LiesR 5 w' u R∧Own w.heap.size w' u∧Below w.heap.size w w':=by
 obtain⟨i0,hi0,hz0,hz1,hz2⟩:=info_parts Tryz.infoRC
 obtain⟨a,cap,rfl,hcap,hcap2,hR,hLL⟩:=hv
 have HR:=hid hR;have q22: ∀(w:World) (a:Option Addr) (n c n' c':Nat),(binOp .eql 26 (.slice a n c) (.slice none n' c')).run Tryz.prog w= .ok (.bool a.isNone) w:=fun w a n c n' c'=>Lib.run_eql_slice_nil w _ _ a n c n' c' Tryz.underlying26
 cases a with
 |none=>
  have hL:R=[]:=by
   cases R with
   |nil=>rfl
   |cons s r=>obtain⟨b,o,hb,_⟩:=hLL 0 (by simp);cases hb
  subst hL;clear hR;go_enter Tryz.func59,Tryz.ntmps59
  go_wp2;go_ret;exact⟨_,rfl,⟨none,0,rfl,Nat.le_refl _,by simp,HR.out,fun i h=>absurd h (by simp)⟩,own_nil _ _,Below.refl _ _⟩
 |some ad=>
  have hcells: ∀j u,R.flatten[j]?=some u→w.cell? (ad.add j)=some u:=by
   cases R with
   |nil=>intro j u hj;simp at hj
   |cons s r=>
    obtain⟨b,o,hb,_⟩:=hLL 0 (by simp)
    injection hb with hb
    subst hb
    exact liesR_cells (by decide) (fun r hr=>(hR r hr).1) fun i hi=>by
     obtain⟨b',o',hb',_,he⟩:=hLL i hi
     injection hb' with hb'
     injection hb' with h1 h2
     subst h1;subst h2;exact he
  have HC:=hid hcells;have HFL:=hid (flatten_len (fun r hr=>(hR r hr).1):R.flatten.length=R.length*5);clear hcells hLL hR;go_enter Tryz.func59,Tryz.ntmps59
  go_wp2_with (at_builtin;refine wpList_append_own _ rfl _ _ 26 rfl w.heap.size 53 i0 (.agg #[.int .i64 0,.string ⟨#[]⟩,.string ⟨#[]⟩,.string ⟨#[]⟩,.int .i64 0]) 5 64 Tryz.underlying26 hi0 hz0 hz1 hz2 rfl (by decide) _ _ _ rfl (World.ownsRow_made w #[] 0 (Nat.le_refl _) (Nat.zero_le _) (by simp)) ad R.length cap R.flatten rfl ?qc1 ?qc2 ?qc3 ?qc4 ?qc5 ?qc6 ?_)
  case qc1=>exact HFL.out
  case qc2=>intro j u hj;exact Lib.cell?_alloc_some _ (HC.out j u hj)
  case qc3=>exact flatten_one HR.out
  case qc4=>unfold maxLen;omega
  case qc5=>omega
  case qc6=>simp
  intro v2 w2 ho2 hgr2 hnn2;have hbel2:Below w.heap.size w w2:=((Below.refl _ _).alloc (Nat.le_refl _) _).grown hgr2 (by simp) (fun k hk=>by simp[Value.ownBlock]at hk;omega);have ho3:w2.ownsRow w.heap.size 53 5 v2 R.length R.flatten:=by simpa using ho2
  have HCL:=hid (liesR_own ho3 (by omega) HR.out);have HOW:=hid (own_row ho3);obtain⟨a2,cap2,hv2,_,_,_⟩:=HCL.out
  clear ho2 ho3 hgr2 hnn2;go_wp2_with fail;go_ret;exact⟨_,rfl,HCL.out,HOW.out,hbel2⟩
theorem LiesC.nbo {W W':World} {v:Value} {L:List Pp.Ch} {g:Nat} (h:LiesC W v L) (hw:W.grownBy W' (some g)) (hn: ∀b,v.ownBlock=some b→b≠g):LiesC W' v L:=by
 obtain⟨a,cap,rfl,h1,h2,h3⟩:=h
 refine⟨a,cap,rfl,h1,h2,fun i hi=>?_⟩
 obtain⟨b,o,rfl,hb,he⟩:=h3 i hi
 have c:=cell_nb hw hb (hn b rfl);exact⟨b,o,rfl,Nat.lt_of_lt_of_le hb hw.size,(c _).trans he.1,(c _).trans he.2.1,(c _).trans he.2.2.1,(c _).trans he.2.2.2.1,(c _).trans he.2.2.2.2⟩
theorem Own.nb {B:Nat} {w w':World} {v:Value} {g:Nat} (h:Own B w v) (hw:w.grownBy w' (some g)) (hn: ∀b,v.ownBlock=some b→b≠g):Own B w' v:=fun b hb=>by
 obtain⟨h1,cur,T,hh⟩:=h b hb
 exact⟨h1,cur,T,(hw.block b (heap_lt hh) (fun e=>hn b hb (by injection e))).trans hh⟩
theorem Own.setCell {B:Nat} {w:World} {v:Value} (h:Own B w v) (b o:Nat) (u:Value):Own B (w.setCell ⟨b,o,none⟩ u) v:=fun g hg=>by
 obtain⟨h1,cur,T,hh⟩:=h g hg
 by_cases hb:b=g
 · subst hb
   refine⟨h1,cur.setIfInBounds o u,T,?_⟩
   unfold World.setCell;simp only[Array.getElem?_modify,hh,if_true,Option.map_some];rfl
 · exact⟨h1,cur,T,((nb_set w b o u).block g (heap_lt hh) (fun e=>hb (by injection e with e;exact e.symm))).trans hh⟩
theorem Lies.nbo {W W':World} {v:Value} {L:List En} {g:Nat} (h:Lies W v L) (hw:W.grownBy W' (some g)) (hn: ∀b,v.ownBlock=some b→b≠g):Lies W' v L:=by
 obtain⟨a,cap,rfl,h1,h2,h3⟩:=h
 refine⟨a,cap,rfl,h1,h2,fun i hi=>?_⟩
 obtain⟨b,o,rfl,hb,he⟩:=h3 i hi
 have c:=cell_nb hw hb (hn b rfl);exact⟨b,o,rfl,Nat.lt_of_lt_of_le hb hw.size,(c _).trans he.1,(c _).trans he.2.1,(c _).trans he.2.2.1,(c _).trans he.2.2.2⟩
theorem LiesR.nbo {n:Nat} {W W':World} {v:Value} {R:List (List Value)} {g:Nat} (h:LiesR n W v R) (hw:W.grownBy W' (some g)) (hn: ∀b,v.ownBlock=some b→b≠g):LiesR n W' v R:=by
 obtain⟨a,cap,rfl,h1,h2,h4,h3⟩:=h
 refine⟨a,cap,rfl,h1,h2,h4,fun i hi=>?_⟩
 obtain⟨b,o,rfl,hb,he⟩:=h3 i hi
 have c:=cell_nb hw hb (hn b rfl);exact⟨b,o,rfl,Nat.lt_of_lt_of_le hb hw.size,fun d u hu=>(c _).trans (he d u hu)⟩
end Go.Proofs.YtdifomkoegmngaaGreatDoor
namespace Go.Proofs.YtdifomkoegmngaaGreatDoor
open Go.RowKit

theorem Tryz.infoRO:(Tryz.prog.info? 84).map (fun i=>(i.zero,i.size,i.bytes))=some (some (.agg #[.int .i64 0,.string ⟨#[]⟩,.slice none 0 0]),3,48):=by kernel_rfl
set_option maxHeartbeats 1000000 in
theorem cloneO (R:List (List Value)) (v:Value) (w:World) (hv:LiesR 3 w v R) (hn:R.length≤1000000000000):
    Calls Tryz.prog 58 #[v] w fun e w'=> ∃u,e= .returned u∧LiesR 3 w' u R∧Own w.heap.size w' u∧Below w.heap.size w w':=by
 obtain⟨i0,hi0,hz0,hz1,hz2⟩:=info_parts Tryz.infoRO
 obtain⟨a,cap,rfl,hcap,hcap2,hR,hLL⟩:=hv
 have HR:=hid hR;have q22: ∀(w:World) (a:Option Addr) (n c n' c':Nat),(binOp .eql 23 (.slice a n c) (.slice none n' c')).run Tryz.prog w= .ok (.bool a.isNone) w:=fun w a n c n' c'=>Lib.run_eql_slice_nil w _ _ a n c n' c' Tryz.underlying23
 cases a with
 |none=>
  have hL:R=[]:=by
   cases R with
   |nil=>rfl
   |cons s r=>obtain⟨b,o,hb,_⟩:=hLL 0 (by simp);cases hb
  subst hL;clear hR;go_enter Tryz.func58,Tryz.ntmps58
  go_wp2;go_ret;exact⟨_,rfl,⟨none,0,rfl,Nat.le_refl _,by simp,HR.out,fun i h=>absurd h (by simp)⟩,own_nil _ _,Below.refl _ _⟩
 |some ad=>
  have hcells: ∀j u,R.flatten[j]?=some u→w.cell? (ad.add j)=some u:=by
   cases R with
   |nil=>intro j u hj;simp at hj
   |cons s r=>
    obtain⟨b,o,hb,_⟩:=hLL 0 (by simp)
    injection hb with hb
    subst hb
    exact liesR_cells (by decide) (fun r hr=>(hR r hr).1) fun i hi=>by
     obtain⟨b',o',hb',_,he⟩:=hLL i hi
     injection hb' with hb'
     injection hb' with h1 h2
     subst h1;subst h2;exact he
  have HC:=hid hcells;have HFL:=hid (flatten_len (fun r hr=>(hR r hr).1):R.flatten.length=R.length*3);clear hcells hLL hR;go_enter Tryz.func58,Tryz.ntmps58
  go_wp2_with (at_builtin;refine wpList_append_own _ rfl _ _ 23 rfl w.heap.size 84 i0 (.agg #[.int .i64 0,.string ⟨#[]⟩,.slice none 0 0]) 3 48 Tryz.underlying23 hi0 hz0 hz1 hz2 rfl (by decide) _ _ _ rfl (World.ownsRow_made w #[] 0 (Nat.le_refl _) (Nat.zero_le _) (by simp)) ad R.length cap R.flatten rfl ?qc1 ?qc2 ?qc3 ?qc4 ?qc5 ?qc6 ?_)
  case qc1=>exact HFL.out
  case qc2=>intro j u hj;exact Lib.cell?_alloc_some _ (HC.out j u hj)
  case qc3=>exact flatten_one HR.out
  case qc4=>unfold maxLen;omega
  case qc5=>omega
  case qc6=>simp
  intro v2 w2 ho2 hgr2 hnn2;have hbel2:Below w.heap.size w w2:=((Below.refl _ _).alloc (Nat.le_refl _) _).grown hgr2 (by simp) (fun k hk=>by simp[Value.ownBlock]at hk;omega);have ho3:w2.ownsRow w.heap.size 84 3 v2 R.length R.flatten:=by simpa using ho2
  have HCL:=hid (liesR_own ho3 (by omega) HR.out);have HOW:=hid (own_row ho3);obtain⟨a2,cap2,hv2,_,_,_⟩:=HCL.out
  clear ho2 ho3 hgr2 hnn2;go_wp2_with fail;go_ret;exact⟨_,rfl,HCL.out,HOW.out,hbel2⟩
def rowO (c:Co) (u:Value):List Value:=[.int .i64 c.nu,.string c.ke,u]
def rowsO (l:List Co) (us:List Value):List (List Value):=List.zipWith rowO l us
theorem rowsO_len {l:List Co} {us:List Value} (h:us.length=l.length):(rowsO l us).length=l.length:=by simp[rowsO,h]
theorem rowsO_at {l:List Co} {us:List Value} (h:us.length=l.length) {i:Nat} (hi:i<l.length):(rowsO l us)[i]?=some (rowO l[i] (us[i]'(by omega))):=by
 rw[rowsO,List.getElem?_zipWith,List.getElem?_eq_getElem hi,List.getElem?_eq_getElem (by omega)]
theorem rowsO_set {l:List Co} {us:List Value} (h:us.length=l.length) {i:Nat} (hi:i<l.length) (u:Value):(rowsO l us).set i (rowO l[i] u)=rowsO l (us.set i u):=by
 apply List.ext_getElem?
 intro j;rw[List.getElem?_set,rowsO,rowsO,List.getElem?_zipWith,List.getElem?_zipWith,List.getElem?_set];by_cases hj:i=j
 · subst hj
   have h1:i<(List.zipWith rowO l us).length:=by simp[h];omega
   simp[h,hi,List.getElem?_eq_getElem hi,show i<us.length by omega]
 · simp[hj]
/-- The changes of commits, by their slices. -/
def ChsAt (w:World) (l:List Co) (us:List Value):Prop:=us.length=l.length∧ ∀(i:Nat) (c:Co) (u:Value),l[i]?=some c→us[i]?=some u→LiesC w u c.ch
theorem liesO_rows {w:World} {v:Value} {l:List Co} (h:LiesO w v l): ∃us,ChsAt w l us∧LiesR 3 w v (rowsO l us):=by
 obtain⟨a,cap,hv,h1,h2,h3⟩:=h
 have hex: ∀i:Fin l.length,∃u,LiesC w u l[i].ch∧ ∃b o,a=some ⟨b,o,none⟩∧b<w.heap.size∧w.cell? ⟨b,o+i*3,none⟩=some (.int .i64 l[i].nu)∧w.cell? ⟨b,o+i*3+1,none⟩=some (.string l[i].ke)∧w.cell? ⟨b,o+i*3+2,none⟩=some u:=fun i=>by
  obtain⟨b,o,ha,hb,c0,c1,u,c2,hu⟩:=h3 i i.2
  exact⟨u,hu,b,o,ha,hb,c0,c1,c2⟩
 have hlen:(List.ofFn fun i:Fin l.length=>Classical.choose (hex i)).length=l.length:=by simp
 refine⟨List.ofFn (fun i:Fin l.length=>Classical.choose (hex i)),⟨hlen,?_⟩,a,cap,by rw[rowsO_len hlen];exact hv,by rw[rowsO_len hlen];exact h1,by rw[rowsO_len hlen];exact h2,?_,?_⟩
 · intro i c u hc hu
   have hi:i<l.length:=(List.getElem?_eq_some_iff.1 hc).1;rw[List.getElem?_eq_getElem hi]at hc;injection hc with hc
   rw[List.getElem?_eq_getElem (by simpa using hi),List.getElem_ofFn]at hu;injection hu with hu
   rw[←hc,←hu];exact(Classical.choose_spec (hex ⟨i,hi⟩)).1
 · intro r hr
   obtain⟨i,hi⟩:=List.getElem?_of_mem hr
   have hil:i<l.length:=by
    have:=(List.getElem?_eq_some_iff.1 hi).1
    rw[rowsO_len hlen]at this;exact this
   rw[rowsO_at hlen hil]at hi;injection hi with hi
   rw[←hi];refine⟨rfl,fun u hu=>?_⟩
   simp only[rowO,List.mem_cons,List.not_mem_nil,or_false]at hu;rcases hu with rfl|rfl|rfl
   · rfl
   · rfl
   · rw[List.getElem_ofFn]
     obtain⟨_,_,hs,_⟩:=(Classical.choose_spec (hex ⟨i,hil⟩)).1
     rw[hs];rfl
 · intro i hi
   have hil:i<l.length:=by rw[rowsO_len hlen]at hi;exact hi
   obtain⟨b,o,ha,hb,c0,c1,c2⟩:=(Classical.choose_spec (hex ⟨i,hil⟩)).2
   refine⟨b,o,ha,hb,fun c u hu=>?_⟩
   have he:(rowsO l (List.ofFn fun i:Fin l.length=>Classical.choose (hex i)))[i]?=some (rowO l[i] (Classical.choose (hex ⟨i,hil⟩))):=by rw[rowsO_at hlen hil,List.getElem_ofFn]
   rw[List.getElem?_eq_getElem hi]at he;injection he with he
   rw[he]at hu;match c,hu with
   |0,hu=>simp[rowO]at hu;subst hu;exact c0
   |1,hu=>simp[rowO]at hu;subst hu;exact c1
   |2,hu=>simp[rowO]at hu;subst hu;exact c2
   |c+3,hu=>simp[rowO]at hu
theorem liesO_of {w:World} {v:Value} {l:List Co} {us:List Value} (hc:ChsAt w l us) (h:LiesR 3 w v (rowsO l us)):LiesO w v l:=by
 obtain⟨hlen,hch⟩:=hc
 obtain⟨a,cap,hv,h1,h2,_,h3⟩:=h
 rw[rowsO_len hlen]at hv h1 h2;refine⟨a,cap,hv,h1,h2,fun i hi=>?_⟩
 have hir:i<(rowsO l us).length:=by rw[rowsO_len hlen];exact hi
 obtain⟨b,o,ha,hb,he⟩:=h3 i hir
 have hr:=rowsO_at hlen hi;rw[List.getElem?_eq_getElem hir]at hr;injection hr with hr
 rw[hr]at he;exact⟨b,o,ha,hb,he 0 _ rfl,he 1 _ rfl,us[i]'(by omega),he 2 _ rfl,hch i _ _ (List.getElem?_eq_getElem hi) (List.getElem?_eq_getElem (by omega))⟩
/-- Commits in memory of the caller's own, their changes too. -/
def OwnO (B:Nat) (w:World) (v:Value) (l:List Co):Prop:= ∃us,ChsAt w l us∧LiesR 3 w v (rowsO l us)∧Own B w v∧ ∀u∈us,Own B w u
theorem OwnO.lies {B:Nat} {w:World} {v:Value} {l:List Co} (h:OwnO B w v l):LiesO w v l:=by
 obtain⟨us,h1,h2,_⟩:=h
 exact liesO_of h1 h2
theorem ChsAt.below {w w':World} {l:List Co} {us:List Value} (h:ChsAt w l us) (hw:Below w.heap.size w w'):ChsAt w' l us:=⟨h.1,fun i c u hc hu=>(h.2 i c u hc hu).below hw⟩
theorem OwnO.below {B:Nat} {w w':World} {v:Value} {l:List Co} (h:OwnO B w v l) (hw:Below w.heap.size w w'):OwnO B w' v l:=by
 obtain⟨us,h1,h2,h3,h4⟩:=h
 exact⟨us,h1.below hw,h2.below hw,h3.below hw,fun u hu=>(h4 u hu).below hw⟩
theorem OwnO.mono {B B':Nat} {w:World} {v:Value} {l:List Co} (h:OwnO B w v l) (hB:B'≤B):OwnO B' w v l:=by
 obtain⟨us,h1,h2,h3,h4⟩:=h
 exact⟨us,h1,h2,h3.mono hB,fun u hu=>(h4 u hu).mono hB⟩
theorem LiesR.set {n:Nat} {w:World} {a:Option Addr} {k cap b o:Nat} {R:List (List Value)} (h:LiesR n w (.slice a k cap) R) (ha:a=some ⟨b,o,none⟩) {i c:Nat} (hi:i<R.length) (hc:c<n) (u:Value) (hu:u.oneCell'=true):
    LiesR n (w.setCell ⟨b,o+i*n+c,none⟩ u) (.slice a k cap) (R.set i (R[i].set c u)):=by
 obtain⟨a',cap',hv,h1,h2,h4,h3⟩:=h
 injection hv with e1 e2 e3
 subst e1;subst e2;subst e3;refine⟨a,cap,by simp,by simpa using h1,by simpa using h2,?_,fun j hj=>?_⟩
 · intro r hr
   rcases List.mem_or_eq_of_mem_set hr with hr|rfl
   · exact h4 r hr
   · refine⟨by rw[List.length_set];exact(h4 _ (List.getElem_mem hi)).1,fun x hx=>?_⟩
     rcases List.mem_or_eq_of_mem_set hx with hx|rfl
     · exact(h4 _ (List.getElem_mem hi)).2 x hx
     · exact hu
 · have hj':j<R.length:=by simpa using hj
   obtain⟨b',o',ha',hb',he⟩:=h3 j hj'
   rw[ha]at ha';injection ha' with ha'
   injection ha' with e1 e2
   subst e1;subst e2;refine⟨b,o,ha,by simpa using hb',fun d x hx=>?_⟩
   have hn:R[j].length=n:=(h4 _ (List.getElem_mem hj')).1;by_cases hij:i=j
   · subst hij
     rw[List.getElem_set_self]at hx;by_cases hcd:c=d
     · subst hcd
       rw[List.getElem?_set_self (by rw[hn];exact hc)]at hx;injection hx with hx
       subst hx;have hold:=he c (R[i][c]'(by rw[hn];exact hc)) (List.getElem?_eq_getElem _);exact World.cell?_setCell_same' _ _ _ (by rw[hold];rfl)
     · rw[List.getElem?_set_ne hcd]at hx
       rw[World.cell?_setCell_other (h:=fun e=>hcd (by injection e with _ e2;omega))];exact he d x hx
   · rw[List.getElem_set_ne hij]at hx
     have hd:d<n:=by
      have:=(List.getElem?_eq_some_iff.1 hx).1
      rw[hn]at this;exact this
     rw[World.cell?_setCell_other (h:=fun e=>by
      injection e with _ e2
      rcases Nat.lt_or_ge i j with h|h
      · have h5:(i+1)*n≤j*n:=Nat.mul_le_mul_right n h
        rw[Nat.add_mul]at h5;omega
      · have h5:(j+1)*n≤i*n:=Nat.mul_le_mul_right n (by omega)
        rw[Nat.add_mul]at h5;omega)]
     exact he d x hx
/-- The first k changes are copied. -/
def Cl (N:Nat) (ga:Value) (wr:World) (l:List Co) (us0 us:List Value) (k:Nat):Prop:=us.length=l.length∧
 (∀(j:Nat) (c:Co) (u:Value),j<k→l[j]?=some c→us[j]?=some u→LiesC wr u c.ch∧Own N wr u∧ ∀b,u.ownBlock=some b→ga.ownBlock≠some b)∧ ∀j,k≤j→us[j]?=us0[j]?
theorem Cl.below {N:Nat} {ga:Value} {w w':World} {l:List Co} {us0 us:List Value} {k:Nat} (h:Cl N ga w l us0 us k) (hw:Below w.heap.size w w'):Cl N ga w' l us0 us k:=
 ⟨h.1,fun j c u hj hc hu=>⟨(h.2.1 j c u hj hc hu).1.below hw,(h.2.1 j c u hj hc hu).2.1.below hw,(h.2.1 j c u hj hc hu).2.2⟩,h.2.2⟩
theorem Cl.next {N:Nat} {w:World} {l:List Co} {us0 us:List Value} {k b o x n cap:Nat} {u:Value} (h:Cl N (.slice (some ⟨b,o,none⟩) n cap) w l us0 us k) (hk:k<l.length) (hu:LiesC w u l[k].ch) (ho:Own N w u) (hne: ∀g,u.ownBlock=some g→b≠g):
    Cl N (.slice (some ⟨b,o,none⟩) n cap) (w.setCell ⟨b,x,none⟩ u) l us0 (us.set k u) (k+1):=by
 obtain⟨h1,h2,h3⟩:=h
 refine⟨by rw[List.length_set];exact h1,fun j c y hj hc hy=>?_,fun j hj=>?_⟩
 · by_cases hjk:k=j
   · subst hjk
     rw[List.getElem?_set_self (by omega)]at hy;injection hy with hy
     subst hy;rw[List.getElem?_eq_getElem hk]at hc;injection hc with hc
     subst hc;exact⟨hu.nbo (nb_set _ _ _ _) (fun g hg e=>hne g hg e.symm),ho.setCell _ _ _,fun g hg e=>hne g hg (by simpa[Value.ownBlock]using e)⟩
   · rw[List.getElem?_set_ne hjk]at hy
     obtain⟨g1,g2,g3⟩:=h2 j c y (by omega) hc hy
     exact⟨g1.nbo (nb_set _ _ _ _) (fun g hg e=>g3 g hg (by simp[Value.ownBlock,e])),g2.setCell _ _ _,g3⟩
 · rw[List.getElem?_set_ne (by omega)]
   exact h3 j (by omega)
theorem Cl.done {N:Nat} {ga:Value} {w:World} {l:List Co} {us0 us:List Value} (h:Cl N ga w l us0 us l.length):ChsAt w l us∧ ∀u∈us,Own N w u:=by
 obtain⟨h1,h2,_⟩:=h
 refine⟨⟨h1,fun i c u hc hu=>(h2 i c u (List.getElem?_eq_some_iff.1 hc).1 hc hu).1⟩,fun u hu=>?_⟩
 obtain⟨i,hi⟩:=List.getElem?_of_mem hu
 have hil:i<l.length:=by have:=(List.getElem?_eq_some_iff.1 hi).1;omega
 exact(h2 i _ u hil (List.getElem?_eq_getElem hil) hi).2.1
set_option maxRecDepth 100000 in
set_option maxHeartbeats 1000000 in
theorem ownCommits_any (l:List Co) (v:Value) (w:World) (hv:LiesO w v l) (hn:l.length≤1000) (hcl: ∀c∈l,c.ch.length≤1000000000):
    Calls Tryz.prog 31 #[v] w fun e w'=> ∃u,e= .returned u∧OwnO w.heap.size w' u l∧Below w.heap.size w w':=by
 have HV:=hid hv;have HCL0:=hid hcl;clear hcl;obtain⟨us0,hch0,hR0⟩:=liesO_rows hv
 have HCH0:=hid hch0;have HR0:=hid hR0;have hl0:=hch0.1;obtain⟨_,_,rfl,_⟩:=hv
 clear hch0 hR0;go_enter Tryz.func31,Tryz.ntmps31
 go_wp2_with fail;refine(cloneO (rowsO l us0) _ _ HR0.out (by rw[rowsO_len hl0];omega)).mono ?_
 rintro e w1 ⟨u,rfl,hR1,hO1,hb1⟩;have HR1:=hid hR1;have HO1:=hid hO1;have hlr:=rowsO_len hl0;obtain⟨ga,gcap,rfl,hg1,_⟩:=hR1
 rw[hlr]at HR1 HO1 hg1⊢;clear hO1;go_wp2_with fail;go_loopw [9] (fun i wr=> ∃(k:Nat) (us:List Value),k≤l.length∧i= .int .i64 k∧Hid (LiesR 3 wr (.slice ga l.length gcap) (rowsO l us))∧Hid (Own w.heap.size wr (.slice ga l.length gcap))∧Hid (Cl w.heap.size (.slice ga l.length gcap) wr l us0 us k)∧Below w.heap.size w wr) (fun i _=>l.length-(intOf i).toNat)
 case atStart=>exact⟨0,us0,Nat.zero_le _,rfl,HR1,HO1,⟨hl0,fun j c u hj=>absurd hj (Nat.not_lt_zero _),fun j _=>rfl⟩,hb1⟩
 case round=>
  obtain⟨k,us,hk,rfl,HR,HO,HCL,hbel⟩:=hrel
  clear HR1 HO1;by_cases hlt:k<l.length
  · have hul:=HCL.out.1
    have hkr:k<(rowsO l us).length:=by rw[rowsO_len hul];exact hlt
    have hrk:=rowsO_at hul hlt;rw[List.getElem?_eq_getElem hkr]at hrk;injection hrk with hrk
    obtain⟨a',cap',hv',_,_,_,hat⟩:=HR.out
    injection hv' with e1 e2 e3
    subst e1;clear e2 e3;obtain⟨b,o,hga,hb,he⟩:=hat k hkr
    subst hga;rw[hrk]at he;have c2:=he 2 _ rfl
    have hus:us[k]'(by omega)=us0[k]'(by omega):=by
     have:=HCL.out.2.2 k (Nat.le_refl _)
     rw[List.getElem?_eq_getElem (by omega),List.getElem?_eq_getElem (by omega)]at this;injection this
    rw[hus]at c2;have hLC:=HCH0.out.2 k l[k] (us0[k]'(by omega)) (List.getElem?_eq_getElem hlt) (List.getElem?_eq_getElem (by omega));have HLC:=hid (liesR_ch.1 (hLC.below hbel));have HLN:=hid (show((l[k]).ch.map Pp.chC).length≤1000000000000 from by rw[List.length_map];exact Nat.le_trans (HCL0.out _ (List.getElem_mem hlt)) (by decide));obtain⟨xa,xc,hx,_⟩:=hLC
    rw[hx]at c2 HLC;have HRK:=hid hrk;have HNX:Hid (∀(w':World) (y:Value),Cl w.heap.size (.slice (some ⟨b,o,none⟩) l.length gcap) w' l us0 us k→LiesC w' y (l[k]).ch→Own w.heap.size w' y→(∀g,y.ownBlock=some g→b≠g)→Cl w.heap.size (.slice (some ⟨b,o,none⟩) l.length gcap) (w'.setCell ⟨b,o+k*3+2,none⟩ y) l us0 (us.set k y) (k+1)):=(fun w' y h1 h2 h3 h4=>h1.next hlt h2 h3 h4:_)
    have HRS:=hid (show∀y,(rowsO l us).set k (((rowsO l us)[k]).set 2 y)=rowsO l (us.set k y)from fun y=>by rw[hrk,←rowsO_set hul hlt];rfl);clear hrk hat he hus hx;generalize hchk:(l[k]).ch=chk at*;clear hchk;go_wp2_with fail;refine(cloneC (chk.map Pp.chC) _ _ HLC.out HLN.out).mono ?_
    rintro e w2 ⟨y,rfl,hR2,hO2,hb2⟩;have HLY:=hid (liesR_ch.2 hR2);have HOY:=hid hO2;obtain⟨ya,yc,rfl,_⟩:=HLY.out
    have HR2:=hid (HR.out.below hb2);have HO2:=hid (HO.out.below hb2);have HCL2:=hid (HCL.out.below hb2);have hb02:=below_tr hbel hb2;have hNb:w.heap.size≤b:=(HO.out b rfl).1;obtain⟨_,cur,TT,hcur⟩:=HO2.out b rfl
    have hfr:w2.frozen? ⟨b,o+k*3+2,none⟩=false:=by simp[World.frozen?,hcur]
    have d2:=(hb2.cell (p:=⟨b,o+k*3+2,none⟩) hb).trans c2;have HNE:=hid (show∀g,(Value.slice ya chk.length yc).ownBlock=some g→b≠g from fun g hg=>by have:=(HOY.out g hg).1;omega);have HOY2:=hid (HOY.out.mono (Nat.le_trans hNb (Nat.le_of_lt hb)));have HC3:=hid (HNX.out w2 _ HCL2.out HLY.out HOY2.out HNE.out);have HR3:=HR2.out.set rfl hkr (by decide:2<3) (.slice ya chk.length yc) rfl;rw[HRS.out]at HR3;have HR4:=hid HR3;have HO3:=hid (HO2.out.setCell b (o+k*3+2) (.slice ya chk.length yc));have hb03:Below w.heap.size w (w2.setCell ⟨b,o+k*3+2,none⟩ (.slice ya chk.length yc)):=hb02.setCell (p:=⟨b,o+k*3+2,none⟩) hNb _;clear hR2 hO2 HR3 hcur HNX HRS HRK;go_wp2_with fail;go_roundw
    case rel=>exact⟨k+1,_,by omega,by simp,HR4,HO3,HC3,hb03⟩
    case measure=>simp[intOf];omega
  · obtain rfl:k=l.length:=by omega
    obtain⟨h1,h2⟩:=HCL.out.done
    have HD:=hid (show OwnO w.heap.size wr (.slice ga l.length gcap) l from⟨us,h1,HR.out,HO.out,h2⟩);clear h1 h2;go_wp2_with fail;go_ret;exact⟨_,rfl,HD.out,hbel⟩
theorem OwnO.nbo {B:Nat} {W W':World} {v:Value} {l:List Co} {g:Nat} (h:OwnO B W v l) (hw:W.grownBy W' (some g)) (hg:g<B):OwnO B W' v l:=by
 obtain⟨us,h1,h2,h3,h4⟩:=h
 have k3: ∀b,v.ownBlock=some b→b≠g:=fun b hb=>by have:=(h3 b hb).1;omega
 have k4: ∀u∈us,∀b,u.ownBlock=some b→b≠g:=fun u hu b hb=>by have:=(h4 u hu b hb).1;omega
 exact⟨us,⟨h1.1,fun i c u hc hu=>(h1.2 i c u hc hu).nbo hw (k4 u (List.mem_of_getElem? hu))⟩,h2.nbo hw k3,h3.nb hw k3,fun u hu=>(h4 u hu).nb hw (k4 u hu)⟩
/-- A journal in memory of the caller's own. -/
def OwnJ (B:Nat) (w:World) (v:Value) (J:Jo):Prop:= ∃vb vc,v= .agg #[vb,.int .i64 J.first,vc]∧Lies w vb J.base∧Own B w vb∧OwnO B w vc J.cos
theorem OwnJ.lies {B:Nat} {w:World} {v:Value} {J:Jo} (h:OwnJ B w v J):LiesJ w v J:=by
 obtain⟨vb,vc,h1,h2,_,h4⟩:=h
 exact⟨vb,vc,h1,h2,h4.lies⟩
theorem OwnJ.below {B:Nat} {w w':World} {v:Value} {J:Jo} (h:OwnJ B w v J) (hw:Below w.heap.size w w'):OwnJ B w' v J:=by
 obtain⟨vb,vc,h1,h2,h3,h4⟩:=h
 exact⟨vb,vc,h1,h2.below hw,h3.below hw,h4.below hw⟩
theorem OwnJ.mono {B B':Nat} {w:World} {v:Value} {J:Jo} (h:OwnJ B w v J) (hB:B'≤B):OwnJ B' w v J:=by
 obtain⟨vb,vc,h1,h2,h3,h4⟩:=h
 exact⟨vb,vc,h1,h2,h3.mono hB,h4.mono hB⟩
set_option maxRecDepth 100000 in
set_option maxHeartbeats 1000000 in
theorem ownJournal_any (J:Jo) (v:Value) (w:World) (hv:LiesJ w v J) (hn:J.cos.length≤1000) (hbn:J.base.length≤1000) (hcl: ∀c∈J.cos,c.ch.length≤1000000000):
    Calls Tryz.prog 55 #[v] w fun e w'=> ∃u,e= .returned u∧OwnJ w.heap.size w' u J∧Below w.heap.size w w':=by
 obtain⟨vb,vc,rfl,hvb,hvc⟩:=hv
 have HVB:=hid hvb;have HVC:=hid hvc;have HCL:=hid hcl;obtain⟨ba,bc,rfl,_⟩:=hvb
 obtain⟨ca,cc,rfl,_⟩:=hvc
 clear hcl;obtain⟨wz,hwz⟩: ∃wz,wz=(w.alloc (.cells #[.slice ba J.base.length bc,.int .i64 J.first,.slice ca J.cos.length cc] 25)).alloc (.cells #[.slice none 0 0,.int .i64 0,.slice none 0 0] 25):=⟨_,rfl⟩
 have hbz:Below w.heap.size w wz:=by rw[hwz];exact((Below.refl _ _).alloc (Nat.le_refl _) _).alloc (by simp) _
 have HBX:=hid (show Cs wz w.heap.size [.slice ba J.base.length bc,.int .i64 J.first,.slice ca J.cos.length cc]from by rw[hwz];exact(Cs.new w [.slice ba J.base.length bc,.int .i64 J.first,.slice ca J.cos.length cc] _).below ((Below.refl _ _).alloc (Nat.le_refl _) _))
 have HBY:=hid (show Cs wz (w.heap.size+1) [.slice none 0 0,.int .i64 0,.slice none 0 0]from by
  have:=Cs.new (w.alloc (.cells #[.slice ba J.base.length bc,.int .i64 J.first,.slice ca J.cos.length cc] 25)) [.slice none 0 0,.int .i64 0,.slice none 0 0] 25
  rw[hwz];simpa using this)
 go_enter Tryz.func55,Tryz.ntmps55
 go_wp2_with fail;rw[←hwz];clear hwz;refine(cloneE (J.base.map Pp.cells) _ _ (liesR_en.1 (HVB.out.below hbz)) (by simp;omega)).mono ?_
 rintro e w1 ⟨u1,rfl,hR1,hO1,hb1⟩;have HL1:=hid (liesR_en.2 hR1);have HO1:=hid hO1;obtain⟨xa,xc,rfl,_⟩:=HL1.out
 have hNz:w.heap.size+1<wz.heap.size:=HBY.out.lt;have hs1:=hb1.size;have HB1:=hid (HBX.out.below hb1);have c0:=HB1.out.cell 0 rfl;have f0:=HB1.out.fr 0;have d2:=HB1.out.cell 2 rfl;obtain⟨w2,hw2⟩: ∃w2,w2=w1.setCell ⟨w.heap.size,0,none⟩ (.slice xa J.base.length xc):=⟨_,rfl⟩
 have hs2:w2.heap.size=w1.heap.size:=by rw[hw2];simp
 have HB2:=hid (show Cs w2 w.heap.size [.slice xa J.base.length xc,.int .i64 J.first,.slice ca J.cos.length cc]from by rw[hw2];exact HB1.out.set 0 _);have HY2:=hid (show Cs w2 (w.heap.size+1) [.slice none 0 0,.int .i64 0,.slice none 0 0]from by rw[hw2];exact(HBY.out.below hb1).other (by omega) _);have HL2:=hid (show Lies w2 (.slice xa J.base.length xc) J.base from by rw[hw2];exact HL1.out.nbo (nb_set _ _ _ _) (fun b hb=>by have:=(HO1.out b hb).1;omega));have HO2:=hid (show Own wz.heap.size w2 (.slice xa J.base.length xc)from by rw[hw2];exact HO1.out.setCell _ _ _);have hb2:Below w.heap.size w w2:=by rw[hw2];exact(below_tr hbz hb1).setCell (p:=⟨w.heap.size,0,none⟩) (Nat.le_refl _) _
 clear hR1 hO1;go_wp2_with fail;rw[←hw2];clear hw2 c0 f0 d2;refine(ownCommits_any J.cos _ _ (HVC.out.below hb2) hn HCL.out).mono ?_
 rintro e w3 ⟨u3,rfl,hO3,hb3⟩;have HO3:=hid hO3;obtain⟨us3,hch3,⟨ya,yc,hy,_⟩,_⟩:=hO3
 rw[rowsO_len hch3.1]at hy;subst hy;clear hch3;have hs3:=hb3.size;have HB3:=hid (HB2.out.below hb3);have HY3:=hid (HY2.out.below hb3);have c0:=HB3.out.cell 0 rfl;have c1:=HB3.out.cell 1 rfl;have c2:=HB3.out.cell 2 rfl;have f2:=HB3.out.fr 2;have y0:=HY3.out.cell 0 rfl;have y1:=HY3.out.cell 1 rfl;have y2:=HY3.out.cell 2 rfl;have g0:=HY3.out.fr 0;have g1:=HY3.out.fr 1;have g2:=HY3.out.fr 2;have hb03:=below_tr hb2 hb3;have HL3:=hid (HL2.out.below hb3);have HOB3:=hid (HO2.out.below hb3);have hne: ¬w.heap.size=w.heap.size+1:=by omega
 go_wp2_with fail;refine bodyPost_ret (v:= .agg #[.slice xa J.base.length xc,.int .i64 J.first,.slice ya J.cos.length yc]) (by simp[results,Tryz.results55,go_sem,y0,y1,y2]) rfl ⟨_,rfl,?_,?_⟩
 · have k0: ∀b,(Value.slice xa J.base.length xc).ownBlock=some b→b≠w.heap.size:=fun b hb=>by have:=(HOB3.out b hb).1;omega
   have k1: ∀b,(Value.slice xa J.base.length xc).ownBlock=some b→b≠w.heap.size+1:=fun b hb=>by have:=(HOB3.out b hb).1;omega
   refine⟨_,_,rfl,(((HL3.out.nbo (nb_set _ _ _ _) k0).nbo (nb_set _ _ _ _) k1).nbo (nb_set _ _ _ _) k1).nbo (nb_set _ _ _ _) k1,((((HOB3.out.setCell _ _ _).setCell _ _ _).setCell _ _ _).setCell _ _ _).mono (by omega),?_⟩
   exact((((HO3.out.nbo (nb_set _ _ _ _) (by omega)).nbo (nb_set _ _ _ _) (by omega)).nbo (nb_set _ _ _ _) (by omega)).nbo (nb_set _ _ _ _) (by omega)).mono (by omega)
 · exact(((hb03.setCell (p:=⟨w.heap.size,2,none⟩) (Nat.le_refl _) _).setCell (p:=⟨w.heap.size+1,0,none⟩) (Nat.le_succ _) _).setCell (p:=⟨w.heap.size+1,1,none⟩) (Nat.le_succ _) _).setCell (p:=⟨w.heap.size+1,2,none⟩) (Nat.le_succ _) _
set_option maxRecDepth 100000 in
set_option maxHeartbeats 1000000 in
theorem kJournal_any (J:Jo) (b:Nat) (vb vc vt vm:Value) (w:World) (hk:Cs w b [vb,.int .i64 J.first,vc,vt,vm]) (hvb:Lies w vb J.base) (hvc:LiesO w vc J.cos) (hn:J.cos.length≤1000) (hbn:J.base.length≤1000) (hcl: ∀c∈J.cos,c.ch.length≤1000000000):
    Calls Tryz.prog 27 #[.pointer (some ⟨b,0,none⟩)] w fun e w'=> ∃u,e= .returned u∧OwnJ w.heap.size w' u J∧Below w.heap.size w w':=by
 have HVB:=hid hvb;have HVC:=hid hvc;have HCL:=hid hcl;have hbl:=hk.lt;have k0:=hk.cell 0 rfl;have k1:=hk.cell 1 rfl;have k2:=hk.cell 2 rfl;obtain⟨ba,bc,rfl,_⟩:=hvb
 obtain⟨ca,cc,rfl,_⟩:=hvc
 clear hcl hk;obtain⟨wz,hwz⟩: ∃wz,wz=w.alloc (.cells #[.slice none 0 0,.int .i64 0,.slice none 0 0] 25):=⟨_,rfl⟩
 have hbz:Below w.heap.size w wz:=by rw[hwz];exact(Below.refl _ _).alloc (Nat.le_refl _) _
 have HBY:=hid (show Cs wz w.heap.size [.slice none 0 0,.int .i64 0,.slice none 0 0]from by rw[hwz];exact Cs.new w [.slice none 0 0,.int .i64 0,.slice none 0 0] _);have hlz:=HBY.out.lt;go_enter Tryz.func27,Tryz.ntmps27
 go_wp2_with fail;rw[←hwz];clear hwz;refine(ownJournal_any J _ _ ⟨_,_,rfl,HVB.out.below hbz,HVC.out.below hbz⟩ hn hbn HCL.out).mono ?_
 rintro e w1 ⟨u1,rfl,⟨xb,xc,rfl,hxb,hxo,hxc⟩,hb1⟩;have HXB:=hid hxb;have HXO:=hid hxo;have HXC:=hid hxc;obtain⟨ea,ec,rfl,_⟩:=hxb
 obtain⟨us3,hch3,⟨ya,yc,hy,_⟩,_⟩:=hxc
 rw[rowsO_len hch3.1]at hy;subst hy;have HY:=hid (HBY.out.below hb1);have y0:=HY.out.cell 0 rfl;have y1:=HY.out.cell 1 rfl;have y2:=HY.out.cell 2 rfl;have g0:=HY.out.fr 0;have g1:=HY.out.fr 1;have g2:=HY.out.fr 2;have hb01:=below_tr hbz hb1;clear hxo hch3;go_wp2_with fail;refine bodyPost_ret (v:= .agg #[.slice ea J.base.length ec,.int .i64 J.first,.slice ya J.cos.length yc]) (by simp[results,Tryz.results27,go_sem,y0,y1,y2]) rfl ⟨_,rfl,?_,?_⟩
 · have k0: ∀b,(Value.slice ea J.base.length ec).ownBlock=some b→b≠w.heap.size:=fun b hb=>by have:=(HXO.out b hb).1;omega
   refine⟨_,_,rfl,((HXB.out.nbo (nb_set _ _ _ _) k0).nbo (nb_set _ _ _ _) k0).nbo (nb_set _ _ _ _) k0,(((HXO.out.setCell _ _ _).setCell _ _ _).setCell _ _ _).mono (by omega),?_⟩
   exact(((HXC.out.nbo (nb_set _ _ _ _) (by omega)).nbo (nb_set _ _ _ _) (by omega)).nbo (nb_set _ _ _ _) (by omega)).mono (by omega)
 · exact((hb01.setCell (p:=⟨w.heap.size,0,none⟩) (Nat.le_refl _) _).setCell (p:=⟨w.heap.size,1,none⟩) (Nat.le_refl _) _).setCell (p:=⟨w.heap.size,2,none⟩) (Nat.le_refl _) _
set_option maxRecDepth 100000 in
set_option maxHeartbeats 1000000 in
theorem kLast_any (fi:Int) (n cap b:Nat) (vb vt vm:Value) (ca:Option Addr) (w:World) (hk:Cs w b [vb,.int .i64 fi,.slice ca n cap,vt,vm]) (h1:1≤fi) (h2:fi≤2000000) (hn:n≤1000):
    Calls Tryz.prog 29 #[.pointer (some ⟨b,0,none⟩)] w fun e w'=>e= .returned (.int .i64 (fi-1+n))∧Below w.heap.size w w':=by
 have k1:=hk.cell 1 rfl;have k2:=hk.cell 2 rfl;have e1:IntKind.i64.wrap (fi-1)=fi-1:=by rw[IntKind.wrap_i64];omega
 have e2:IntKind.i64.wrap (fi-1+(n:Int))=fi-1+n:=by rw[IntKind.wrap_i64];omega
 clear hk;go_enter Tryz.func29,Tryz.ntmps29
 go_wp2_with fail;go_region
 go_wp2_with fail;go_ret;exact⟨rfl,(Below.refl _ _).drew⟩
end Go.Proofs.YtdifomkoegmngaaGreatDoor
