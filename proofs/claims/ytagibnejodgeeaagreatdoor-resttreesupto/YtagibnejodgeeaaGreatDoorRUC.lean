/- What the law's spoilEntries and spoilChanges do: they write in one row alone, of one's own. -/
import Derived.Test.YtagibnejodgeeaaGreatDoorRUA
import Derived.Test.YtagibnejodgeeaaGreatDoorRUB
set_option linter.unusedSimpArgs false
set_option linter.unusedVariables false
namespace Go.Proofs.YtagibnejodgeeaaGreatDoor
open Go.RowKit

/-- A block of so many cells that may be written. -/
def BlkW (W:World) (g n:Nat):Prop:= ∃cur T,W.heap[g]?=some (.cells cur T (0,0))∧cur.size=n
theorem BlkW.lt {W:World} {g n:Nat} (h:BlkW W g n):g<W.heap.size:=h.elim fun _ ⟨_,h,_⟩=>heap_lt h
theorem BlkW.cell {W:World} {g n o:Nat} (h:BlkW W g n) (ho:o<n): ∃u,W.cell? ⟨g,o,none⟩=some u:=by
 obtain⟨cur,T,hh,rfl⟩:=h
 exact⟨cur[o],by simp[World.cell?,hh,ho]⟩
theorem BlkW.fr {W:World} {g n:Nat} (h:BlkW W g n) (o:Nat):W.frozen? ⟨g,o,none⟩=false:=by
 obtain⟨cur,T,hh,rfl⟩:=h
 simp[World.frozen?,hh]
theorem blk_in {w:World} {b n j:Nat} {u:Value} (h:BlkW w b n) (hc:w.cell? ⟨b,j,none⟩=some u):j<n:=by
 obtain⟨cur,T,hh,rfl⟩:=h
 simp only[World.cell?,hh]at hc;rcases Nat.lt_or_ge j cur.size with h|h
 · exact h
 · simp[Array.getElem?_eq_none h]at hc
/-- All that may be written may still be. -/
def KeepW (w W:World):Prop:= ∀g n,BlkW w g n→BlkW W g n
theorem KeepW.refl (w:World):KeepW w w:=fun _ _ h=>h
theorem KeepW.trans {a b c:World} (h:KeepW a b) (k:KeepW b c):KeepW a c:=fun g n x=>k g n (h g n x)
theorem KeepW.below {a b:World} (h:Below a.heap.size a b):KeepW a b:=fun g n x=>by
 have hl:=x.lt;obtain⟨cur,T,hh,hs⟩:=x
 exact⟨cur,T,(h.block g hl).trans hh,hs⟩
theorem KeepW.set {w W:World} (h:KeepW w W) (b o:Nat) (u:Value):KeepW w (W.setCell ⟨b,o,none⟩ u):=fun g n x=>by
 obtain⟨cur,T,hh,hs⟩:=h g n x
 unfold World.setCell;by_cases hb:b=g
 · subst hb
   exact⟨cur.setIfInBounds o u,T,by simp only[Array.getElem?_modify,hh,if_true,Option.map_some];rfl,by simpa using hs⟩
 · exact⟨cur,T,by simp only[Array.getElem?_modify,if_neg hb];exact hh,hs⟩
/-- A row that may be spoilt, c cells each, in a block from B on. -/
def Spl (B c:Nat) (w:World) (v:Value):Prop:= ∃a n cap,v= .slice a n cap∧n≤1000000000000000∧(n=0∨ ∃b o m,a=some ⟨b,o,none⟩∧B≤b∧BlkW w b m∧o+n*c≤m)
theorem Spl.keep {B c:Nat} {w W:World} {v:Value} (h:Spl B c w v) (hk:KeepW w W):Spl B c W v:=by
 obtain⟨a,n,cap,hv,hn,h⟩:=h
 exact⟨a,n,cap,hv,hn,h.imp id fun⟨b,o,m,h1,h2,h3,h4⟩=>⟨b,o,m,h1,h2,hk _ _ h3,h4⟩⟩
theorem Spl.mono {A B c:Nat} {w:World} {v:Value} (h:Spl B c w v) (hA:A≤B):Spl A c w v:=by
 obtain⟨a,n,cap,hv,hn,h⟩:=h
 exact⟨a,n,cap,hv,hn,h.imp id fun⟨b,o,m,h1,h2,h3,h4⟩=>⟨b,o,m,h1,Nat.le_trans hA h2,h3,h4⟩⟩
theorem spl_of {B c n cap:Nat} {w:World} {a:Option Addr} (hO:Own B w (.slice a n cap)) (hc:0<c) (hn:n≤1000000000000000) (h: ∀i,i<n→ ∃b o,a=some ⟨b,o,none⟩∧ ∃u,w.cell? ⟨b,o+i*c+(c-1),none⟩=some u):Spl B c w (.slice a n cap):=by
 refine⟨a,n,cap,rfl,hn,?_⟩
 rcases Nat.eq_zero_or_pos n with h0|h0
 · exact Or.inl h0
 · obtain⟨b,o,rfl,u,hu⟩:=h (n-1) (by omega)
   obtain⟨h1,cur,T,h2⟩:=hO b rfl
   have hB:BlkW w b cur.size:=⟨cur,T,h2,rfl⟩
   have:=blk_in hB hu
   refine Or.inr ⟨b,o,cur.size,rfl,h1,hB,?_⟩
   have e:n*c=(n-1)*c+c:=by rw[←Nat.succ_mul];congr 1;omega
   omega
theorem spl_tree {B:Nat} {w:World} {v:Value} {L:List En} (h:Lies w v L) (hO:Own B w v):Spl B 4 w v:=by
 obtain⟨a,cap,rfl,_,hn,hL⟩:=h
 exact spl_of hO (by decide) hn fun i hi=>by
  obtain⟨b,o,ha,_,_,_,_,e3⟩:=hL i hi
  exact⟨b,o,ha,_,e3⟩
theorem spl_ch {B:Nat} {w:World} {v:Value} {L:List Pp.Ch} (h:LiesC w v L) (hO:Own B w v):Spl B 5 w v:=by
 obtain⟨a,cap,rfl,_,hn,hL⟩:=h
 exact spl_of hO (by decide) hn fun i hi=>by
  obtain⟨b,o,ha,_,_,_,_,_,e4⟩:=hL i hi
  exact⟨b,o,ha,_,e4⟩
set_option maxHeartbeats 1000000 in
theorem spoilE_any (v:Value) (B:Nat) (w:World) (h:Spl B 4 w v) (hBw:B≤w.heap.size):
    Calls Tryz.prog 18 #[v] w fun e w'=>e= .returned (.tuple #[])∧KeepW w w'∧Below B w w':=by
 obtain⟨a,n,cap,rfl,hn,h⟩:=h
 rcases h with rfl|⟨b,o,m,rfl,hB2,hB,hm⟩
 · go_enter Tryz.func18,Tryz.ntmps18
   go_wp2_with fail;go_loopw [2] (fun i wr=>i= .int .i64 0∧wr=w) (fun _ _=>0)
   case atStart=>exact⟨rfl,rfl⟩
   case round=>
    obtain⟨rfl,rfl⟩:=hrel
    go_wp2_with fail;go_end0
    exact⟨rfl,KeepW.refl _,Below.refl _ _⟩
 · have HB:Hid (BlkW w b m):=hB
   have HM:Hid (o+n*4≤m):=hm;clear hB hm;go_enter Tryz.func18,Tryz.ntmps18
   go_wp2_with fail;go_loopw [2] (fun i wr=> ∃j:Nat,j≤n∧i= .int .i64 j∧Hid (KeepW w wr)∧Below B w wr) (fun i _=>n-(intOf i).toNat)
   case atStart=>exact⟨0,Nat.zero_le _,rfl,KeepW.refl _,Below.refl _ _⟩
   case round=>
    obtain⟨j,hj,rfl,HK,hbel⟩:=hrel
    by_cases hlt:j<n
    · have hin:=HM.out
      have hjn:j*4+4≤n*4:=by omega
      have HK2:=HK.out _ _ HB.out;obtain⟨u0,c0⟩:=HK2.cell (show o+j*4<m by omega)
      obtain⟨u1,c1⟩:=HK2.cell (show o+j*4+1<m by omega)
      obtain⟨u2,c2⟩:=HK2.cell (show o+j*4+2<m by omega)
      obtain⟨u3,c3⟩:=HK2.cell (show o+j*4+3<m by omega)
      have f0:=HK2.fr (o+j*4);have f1:=HK2.fr (o+j*4+1);have f2:=HK2.fr (o+j*4+2);have f3:=HK2.fr (o+j*4+3);clear HK2;go_wp2_with fail;go_roundw
      case rel=>exact⟨j+1,by omega,by simp,((((HK.out.set _ _ _).set _ _ _).set _ _ _).set _ _ _),((((hbel.setCell hB2 _).setCell hB2 _).setCell hB2 _).setCell hB2 _)⟩
      case measure=>simp[intOf];omega
    · go_wp2_with fail
      go_end0
      exact⟨rfl,HK.out,hbel⟩
set_option maxHeartbeats 1000000 in
theorem spoilC_any (v:Value) (B:Nat) (w:World) (h:Spl B 5 w v) (hBw:B≤w.heap.size):
    Calls Tryz.prog 19 #[v] w fun e w'=>e= .returned (.tuple #[])∧KeepW w w'∧Below B w w':=by
 obtain⟨a,n,cap,rfl,hn,h⟩:=h
 rcases h with rfl|⟨b,o,m,rfl,hB2,hB,hm⟩
 · go_enter Tryz.func19,Tryz.ntmps19
   go_wp2_with fail;go_loopw [2] (fun i wr=>i= .int .i64 0∧wr=w) (fun _ _=>0)
   case atStart=>exact⟨rfl,rfl⟩
   case round=>
    obtain⟨rfl,rfl⟩:=hrel
    go_wp2_with fail;go_end0
    exact⟨rfl,KeepW.refl _,Below.refl _ _⟩
 · have HB:Hid (BlkW w b m):=hB
   have HM:Hid (o+n*5≤m):=hm;clear hB hm;go_enter Tryz.func19,Tryz.ntmps19
   go_wp2_with fail;go_loopw [2] (fun i wr=> ∃j:Nat,j≤n∧i= .int .i64 j∧Hid (KeepW w wr)∧Below B w wr) (fun i _=>n-(intOf i).toNat)
   case atStart=>exact⟨0,Nat.zero_le _,rfl,KeepW.refl _,Below.refl _ _⟩
   case round=>
    obtain⟨j,hj,rfl,HK,hbel⟩:=hrel
    by_cases hlt:j<n
    · have hin:=HM.out
      have hjn:j*5+5≤n*5:=by omega
      have HK2:=HK.out _ _ HB.out;obtain⟨u0,c0⟩:=HK2.cell (show o+j*5<m by omega)
      obtain⟨u1,c1⟩:=HK2.cell (show o+j*5+1<m by omega)
      obtain⟨u2,c2⟩:=HK2.cell (show o+j*5+2<m by omega)
      obtain⟨u3,c3⟩:=HK2.cell (show o+j*5+3<m by omega)
      obtain⟨u4,c4⟩:=HK2.cell (show o+j*5+4<m by omega)
      have f0:=HK2.fr (o+j*5);have f1:=HK2.fr (o+j*5+1);have f2:=HK2.fr (o+j*5+2);have f3:=HK2.fr (o+j*5+3);have f4:=HK2.fr (o+j*5+4);clear HK2;go_wp2_with fail;go_roundw
      case rel=>exact⟨j+1,by omega,by simp,(((((HK.out.set _ _ _).set _ _ _).set _ _ _).set _ _ _).set _ _ _),(((((hbel.setCell hB2 _).setCell hB2 _).setCell hB2 _).setCell hB2 _).setCell hB2 _)⟩
      case measure=>simp[intOf];omega
    · go_wp2_with fail
      go_end0
      exact⟨rfl,HK.out,hbel⟩
end Go.Proofs.YtagibnejodgeeaaGreatDoor
namespace Go.Proofs.YtagibnejodgeeaaGreatDoor.Pp

theorem fold_mem {R:List En} (hr:R.Pairwise (fun x y=>lt x y=true)) {x:En} (hx:x∈R) {p:List UInt8} (hp:x.path.data.toList=p) (hf:x.folder=true):foldE R p=0:=by
 subst hp;rw[foldE];split
 · rfl
 · rw[sorted_find hr hx];simp[hf]
theorem fold_nil (L:List En):foldE L []=0:=by rw[foldE,if_pos rfl]
theorem par_in {l p:List UInt8} (h:isInB (par l) p=true) (hn:par l≠[]):isInB l p=true:=by
 by_cases hs:47∈l
 · obtain⟨a,b,hb,e⟩:=last_split hs
   rw[e,par_cut a hb]at h;rw[isIn_of,e];rcases(isIn_of a p).1 h with h|⟨r,h⟩
   · exact Or.inr ⟨b,by rw[h]⟩
   · exact Or.inr ⟨r++47::b,by rw[h];simp⟩
 · exact absurd (par_none hs) hn
/-- The parent of what is truly within is within. -/
theorem par_down {p r:List UInt8}: ∃a b,47∉b∧p++47::r=a++47::b∧isInB a p=true∧par (p++47::r)=a:=by
 obtain⟨a,b,hb,e2⟩:=last_split (l:=p++47::r) (by simp)
 refine⟨a,b,hb,e2,?_,by rw[e2];exact par_cut a hb⟩
 rw[isIn_of];by_cases hr:47∈r
 · obtain⟨r1,r2,hr2,er⟩:=last_split hr
   have:par (a++47::b)=par ((p++47::r1)++47::r2):=by rw[←e2,er];simp
   rw[par_cut a hb,par_cut _ hr2]at this;exact Or.inr ⟨r1,this⟩
 · have:par (a++47::b)=par (p++47::r):=by rw[←e2]
   rw[par_cut a hb,par_cut _ hr]at this;exact Or.inl this
theorem chg_kind {c:Ch} (h:chgE c=0):1≤c.k∧c.k≤4:=by
 by_cases h1:c.k<1∨4<c.k
 · rw[chgE,if_pos h1]at h;cases h
 · omega
theorem chg_path {c:Ch} (h:chgE c=0):chk c.p.data.toList=0:=by
 have hk:=chg_kind h;by_cases h2:chk c.p.data.toList=0
 · exact h2
 · rw[chgE,if_neg (by omega),if_pos h2]at h;exact h
theorem chg_to {c:Ch} (h:chgE c=0) (h3:c.k=3):chk c.q.data.toList=0:=by
 have hk:=chg_kind h;have hp:=chg_path h;by_cases h2:chk c.q.data.toList=0
 · exact h2
 · rw[chgE,if_neg (by omega),if_neg (fun x=>x hp),if_pos ⟨h3,h2⟩]at h;exact h
theorem chg_rest {c:Ch} (h:chgE c=0):(c.k=3∨c.q.data.toList=[])∧(c.k=2∨c.t.data.toList=[])∧c.t.size≤300∧ -1≤c.b∧c.b≤1000000:=by
 have hk:=chg_kind h;have hp:=chg_path h;have ht:=fun h3=>chg_to h h3
 rw[chgE,if_neg (by omega),if_neg (fun x=>x hp),if_neg (fun x=>x.2 (ht x.1))]at h;split at h
 · cases h
 · rename_i h1
   split at h
   · cases h
   · rename_i h2
     split at h
     · cases h
     · rename_i h3
       refine⟨?_,?_,by omega,by omega,by omega⟩
       · by_cases hh:c.k=3
         · exact Or.inl hh
         · exact Or.inr (Classical.byContradiction fun hq=>h1 (Or.inl ⟨hh,hq⟩))
       · by_cases hh:c.k=2
         · exact Or.inl hh
         · exact Or.inr (Classical.byContradiction fun hq=>h1 (Or.inr ⟨hh,hq⟩))
theorem plc_fold {L:List En} {c:Ch} (h:plcE L c=0):foldE L (par (goal c))=0:=by
 by_cases h1:foldE L (par (goal c))=0
 · exact h1
 · rw[plcE,if_pos h1]at h;exact h
theorem plc_rest {L:List En} {c:Ch} (h:plcE L c=0) (hk:1≤c.k∧c.k≤4):
    (c.k=1∧L.find? (atB c.p.data.toList)=none)∨(c.k=2∧ ∀x,L.find? (atB c.p.data.toList)=some x→x.folder=false)∨
    (c.k=3∧(∃x,L.find? (atB c.p.data.toList)=some x)∧isInB c.q.data.toList c.p.data.toList=false∧L.find? (atB c.q.data.toList)=none)∨
    (c.k=4∧ ∃x,L.find? (atB c.p.data.toList)=some x):=by
 have hf:=plc_fold h;rw[plcE,if_neg (fun x=>x hf)]at h;have h4:c.k=1∨c.k=2∨c.k=3∨c.k=4:=by omega
 cases hx:L.find? (atB c.p.data.toList)with
 |none=>
  rw[hx]at h;rcases h4 with e|e|e|e
  · exact Or.inl ⟨e,rfl⟩
  · exact Or.inr (Or.inl ⟨e,fun x hx=>by cases hx⟩)
  · simp[e]at h
  · simp[e]at h
 |some x=>
  rw[hx]at h;rcases h4 with e|e|e|e
  · simp[e]at h
  · refine Or.inr (Or.inl ⟨e,fun y hy=>?_⟩)
    cases hy
    cases hb:x.folder with
    |false=>rfl
    |true=>simp[e,hb]at h
  · refine Or.inr (Or.inr (Or.inl ⟨e,⟨x,rfl⟩,?_,?_⟩))
    · cases hb:isInB c.q.data.toList c.p.data.toList with
      |false=>rfl
      |true=>simp[e,hb]at h
    · cases hb:L.find? (atB c.q.data.toList)with
      |none=>rfl
      |some y=>simp only[e,hb]at h;simp at h;split at h<;>cases h
  · exact Or.inr (Or.inr (Or.inr ⟨e,x,rfl⟩))
theorem mem_outE {x y:En} {L:List En}:y∈outE x L↔y∈L∧y.path.data.toList≠x.path.data.toList:=by
 rw[outE,List.mem_filter];simp[atB]
theorem new_good {L:List En} (hL:Good L) {c:Ch} {n:Int} (hc:chgE c=0) (hp:plcE L c=0) (hv:verE n=0) (hk:c.k=1∨c.k=2) (hr: ¬60<(outE (newE c n) L).length+1):Good (ins (newE c n) (outE (newE c n) L)):=by
 have hsort:(ins (newE c n) (outE (newE c n) L)).Pairwise (fun x y=>lt x y=true):=ins_sorted _ (List.Pairwise.filter _ hL.rise) fun y hy=>(mem_outE.1 hy).2
 have hmem: ∀y,y∈ins (newE c n) (outE (newE c n) L)↔y=newE c n∨y∈outE (newE c n) L:=fun y=>by rw[(ins_perm _ _).mem_iff,List.mem_cons]
 have hrest:=chg_rest hc;refine⟨?_,fun y hy=>?_,hsort,fun y hy=>?_⟩
 · rw[(ins_perm _ _).length_eq,List.length_cons];omega
 · rcases(hmem y).1 hy with rfl|hy
   · have h1:chk (newE c n).path.data.toList=0:=chg_path hc
     have h2:(newE c n).text.size=c.t.size:=rfl;rw[entE,if_pos h1,if_neg,if_neg]
     · exact hv
     · rw[h2];have:=hrest.2.2.1;omega
     · rintro ⟨ha,hb⟩
       have hk1:c.k=1:=by simpa[newE]using ha
       rcases hrest.2.1 with h|h
       · omega
       · exact hb h
   · exact hL.ents y (mem_outE.1 hy).1
 · by_cases hP:par y.path.data.toList=[]
   · rw[hP];exact fold_nil _
   have hF:foldE L (par y.path.data.toList)=0:=by
    rcases(hmem y).1 hy with rfl|hy
    · have:=plc_fold hp
      rw[goal,if_neg (by omega)]at this;exact this
    · exact hL.pars y (mem_outE.1 hy).1
   obtain⟨z,hz,hzp,hzf,hzs⟩:=fold_zero hF hP
   refine fold_mem hsort (x:=z) ((hmem z).2 (Or.inr (mem_outE.2 ⟨hz,fun e=>?_⟩))) hzp hzf
   have e':z.path.data.toList=c.p.data.toList:=e;have hfind:=sorted_find hL.rise hz;rw[e']at hfind;rcases plc_rest hp (chg_kind hc)with h|h|h|h
   · rw[h.2]at hfind;cases hfind
   · have:=h.2 z hfind;rw[hzf]at this;cases this
   · omega
   · omega
theorem mem_keptL {L:List En} {c:Ch} {y:En}:y∈keptL L c↔y∈L∧isInB y.path.data.toList c.p.data.toList=false:=by
 rw[keptL,List.mem_filter];simp[wi]
theorem mem_goL {L:List En} {c:Ch} {y:En}:y∈goL L c↔y∈L∧isInB y.path.data.toList c.p.data.toList=true:=by
 rw[goL,List.mem_filter];simp[wi]
theorem kept_par {L:List En} (hL:Good L) {c:Ch} {y:En} (hy:y∈keptL L c) (hP:par y.path.data.toList≠[]): ∃z∈keptL L c,z.path.data.toList=par y.path.data.toList∧z.folder=true:=by
 obtain⟨hy1,hy2⟩:=mem_keptL.1 hy
 obtain⟨z,hz,hzp,hzf,_⟩:=fold_zero (hL.pars y hy1) hP
 refine⟨z,mem_keptL.2 ⟨hz,?_⟩,hzp,hzf⟩
 cases hb:isInB z.path.data.toList c.p.data.toList with
 |false=>rfl
 |true=>rw[hzp]at hb;rw[par_in hb hP]at hy2;cases hy2
theorem kept_good {L:List En} (hL:Good L) (c:Ch):Good (keptL L c):=by
 have hsort:(keptL L c).Pairwise (fun x y=>lt x y=true):=List.Pairwise.filter _ hL.rise;refine⟨Nat.le_trans (List.length_filter_le _ _) hL.len,fun y hy=>hL.ents y (mem_keptL.1 hy).1,hsort,fun y hy=>?_⟩
 by_cases hP:par y.path.data.toList=[]
 · rw[hP];exact fold_nil _
 · obtain⟨z,hz,hzp,hzf⟩:=kept_par hL hy hP
   exact fold_mem hsort hz hzp hzf
theorem path_mvd (c:Ch) (n:Int) (e:En):(mvd c n e).path.data.toList=mvP c e:=rfl
theorem nothing_in {L:List En} (hL:Good L) {q:List UInt8} (hq:q≠[]) (hf:L.find? (atB q)=none) {e:En} (he:e∈L):isInB e.path.data.toList q=false:=by
 cases hb:isInB e.path.data.toList q with
 |false=>rfl
 |true=>
  obtain⟨x,hx,hxp⟩:=anc' hL.pars hq he hb
  have:=List.find?_eq_none.1 hf x hx
  simp[atB,hxp]at this
theorem mv_dif {L:List En} (hL:Good L) {c:Ch} (n:Int) (hq:c.q.data.toList≠[]) (hf:L.find? (atB c.q.data.toList)=none):(keptL L c++mvL L c n).Pairwise dif:=by
 have hd:L.Pairwise dif:=hL.rise.imp fun h=>lt_dif h
 rw[List.pairwise_append];refine⟨List.Pairwise.filter _ hd,?_,fun a ha b hb e=>?_⟩
 · rw[mvL,List.pairwise_map]
   have h1:(goL L c).Pairwise dif:=List.Pairwise.filter _ hd;refine(List.Pairwise.and_mem.1 h1).imp fun {a b} h e=>?_
   exact h.2.2 (mvT_inj (mem_goL.1 h.1).2 (mem_goL.1 h.2.1).2 e)
 · obtain⟨x,hx,rfl⟩:=List.mem_map.1 hb
   have h1:=mvT_in (t:=c.q.data.toList) (mem_goL.1 hx).2;have h2:=nothing_in hL hq hf (mem_keptL.1 ha).1;rw[e,path_mvd]at h2;rw[mvP,h1]at h2;cases h2
theorem mv_chk0 {L:List En} (hL:Good L) {c:Ch} (hc:chgE c=0) (h3:c.k=3) {e:En} (he:e∈goL L c):chk (mvP c e)=if big (mvP c e)=true then 2 else 0:=by
 obtain⟨h1,h2⟩:=mem_goL.1 he
 refine mv_chk ?_ h2
 have ha:=entE_path (hL.ents e h1);have hb:=chg_path hc;have hd:=chg_to hc h3;simp[chks,ha,hb,hd]
theorem mv_good {L:List En} (hL:Good L) {c:Ch} {n:Int} (hc:chgE c=0) (hp:plcE L c=0) (hv:verE n=0) (h3:c.k=3) (hb:(goL L c).any (fun e=>big (mvP c e))=false):Good (insAll (mvL L c n) (keptL L c)):=by
 obtain⟨_,⟨x0,hx0⟩,hqp,hqf⟩:c.k=3∧(∃x,L.find? (atB c.p.data.toList)=some x)∧isInB c.q.data.toList c.p.data.toList=false∧L.find? (atB c.q.data.toList)=none:=by
  rcases plc_rest hp (chg_kind hc)with h|h|h|h
  · omega
  · omega
  · exact h
  · omega
 have hq0:=chk_path_ne (chg_to hc h3);have hsort:(insAll (mvL L c n) (keptL L c)).Pairwise (fun x y=>lt x y=true):=insAll_sorted _ (List.Pairwise.filter _ hL.rise) (mv_dif hL n hq0 hqf)
 have hmem: ∀y,y∈insAll (mvL L c n) (keptL L c)↔y∈keptL L c∨ ∃e∈goL L c,mvd c n e=y:=fun y=>by
  rw[(insAll_perm _ _).mem_iff,List.mem_append,mvL,List.mem_map]
 refine⟨?_,fun y hy=>?_,hsort,fun y hy=>?_⟩
 · rw[(insAll_perm _ _).length_eq,List.length_append,mvL,List.length_map]
   have h1:(keptL L c).length+(goL L c).length=L.length:=by
    rw[keptL,goL];have:=(List.filter_append_perm (fun e=> !wi c.p.data.toList e) L).length_eq
    rw[List.length_append]at this;have e1:(List.filter (fun x=> !(fun e=> !wi c.p.data.toList e) x) L)=List.filter (wi c.p.data.toList) L:=by congr 1;funext x;simp
    rw[e1]at this;exact this
   have:=hL.len
   omega
 · rcases(hmem y).1 hy with hy|⟨e,he,rfl⟩
   · exact hL.ents y (mem_keptL.1 hy).1
   · have h0:=hL.ents e (mem_goL.1 he).1
     have h1:chk (mvd c n e).path.data.toList=0:=by
      rw[path_mvd,mv_chk0 hL hc h3 he,if_neg];have:=List.any_eq_false.1 hb e he
      exact this
     have h2:=entE_path h0;rw[entE,if_pos h2]at h0;rw[entE,if_pos h1];have h5:(mvd c n e).folder=e.folder:=rfl;have h6:(mvd c n e).text=e.text:=rfl;rw[h5,h6];split at h0
     · cases h0
     · rename_i ha
       rw[if_neg ha];split at h0
       · cases h0
       · rename_i hb2
         rw[if_neg hb2];by_cases hpp:e.path.data.toList=c.p.data.toList
         · have:(mvd c n e).ver=n:=by simp[mvd,hpp]
           rw[this];exact hv
         · have:(mvd c n e).ver=e.ver:=by simp[mvd,hpp]
           rw[this];exact h0
 · by_cases hP:par y.path.data.toList=[]
   · rw[hP];exact fold_nil _
   rcases(hmem y).1 hy with hy|⟨e,he,rfl⟩
   · obtain⟨z,hz,hzp,hzf⟩:=kept_par hL hy hP
     exact fold_mem hsort ((hmem z).2 (Or.inl hz)) hzp hzf
   · rw[path_mvd]at hP⊢
     obtain⟨he1,he2⟩:=mem_goL.1 he
     rcases(isIn_of _ _).1 he2 with e0|⟨r,e0⟩
     · have hpq:mvP c e=c.q.data.toList:=by rw[mvP,mvT,e0];simp
       rw[hpq]at hP⊢;have hfo:=plc_fold hp;rw[goal,if_pos h3]at hfo;obtain⟨z,hz,hzp,hzf,_⟩:=fold_zero hfo hP
       refine fold_mem hsort ((hmem z).2 (Or.inl (mem_keptL.2 ⟨hz,?_⟩))) hzp hzf
       cases hbb:isInB z.path.data.toList c.p.data.toList with
       |false=>rfl
       |true=>rw[hzp]at hbb;rw[par_in hbb hP]at hqp;cases hqp
     · obtain⟨a,b,hb47,e2,hap,hpar⟩:=par_down (p:=c.p.data.toList) (r:=r)
       have ha0:a≠[]:=by
        intro ea;rw[ea]at hap;rcases(isIn_of _ _).1 hap with h|⟨s,h⟩
        · exact chk_path_ne (chg_path hc) h.symm
        · have h:=congrArg List.length h
          simp at h
       have hfo:=hL.pars e he1;rw[e0,hpar]at hfo;obtain⟨z,hz,hzp,hzf,_⟩:=fold_zero hfo ha0
       have hzg:z∈goL L c:=mem_goL.2 ⟨hz,by rw[hzp];exact hap⟩;refine fold_mem hsort (x:=mvd c n z) ((hmem _).2 (Or.inr ⟨z,hzg,rfl⟩)) ?_ hzf
       rw[path_mvd,mvP,hzp,mvP,e0,e2];obtain⟨s,hs⟩:=isIn_pre hap
       have:mvT (a++47::b) c.p.data.toList c.q.data.toList=mvT a c.p.data.toList c.q.data.toList++47::b:=by
        rw[mvT,mvT,hs];simp
       rw[this,par_cut _ hb47]
theorem app_good {L:List En} (hL:Good L) {c:Ch} {n:Int} (h:appE L c n=0):Good (chdR L c n):=by
 have hv:verE n=0:=by
  by_cases h1:verE n=0
  · exact h1
  · rw[appE,if_pos h1]at h;exact h
 rw[appE,if_neg (fun x=>x hv)]at h
 have hc:chgE c=0:=by
  by_cases h1:chgE c=0
  · exact h1
  · rw[if_pos h1]at h;exact h
 rw[if_neg (fun x=>x hc)]at h
 have hp:plcE L c=0:=by
  by_cases h1:plcE L c=0
  · exact h1
  · rw[if_pos h1]at h;exact h
 rw[if_neg (fun x=>x hp)]at h;split at h
 · cases h
 · rw[chdE]at h
   rw[chdR];by_cases hk:c.k=1∨c.k=2
   · rw[if_pos hk]at h⊢
     refine new_good hL hc hp hv hk fun h6=>?_
     rw[if_pos h6]at h;cases h
   · rw[if_neg hk]at h⊢
     by_cases h3:c.k=3
     · rw[if_pos h3]at h⊢
       refine mv_good hL hc hp hv h3 ?_
       cases hb:(goL L c).any (fun e=>big (mvP c e))with
       |false=>rfl
       |true=>rw[if_pos hb]at h;cases h
     · rw[if_neg h3]
       exact kept_good hL c
end Go.Proofs.YtagibnejodgeeaaGreatDoor.Pp
namespace Go.Proofs.YtagibnejodgeeaaGreatDoor
open Go.RowKit

theorem hid {p:Prop} (h:p):Hid p:=h
theorem lies_nil (w:World):Lies w (.slice none 0 0) []:=⟨none,0,rfl,Nat.le_refl _,by simp,fun i hi=>absurd hi (by simp)⟩
namespace Pp
theorem chk_len {l:List UInt8} (h:chk l=0):l.length≤80:=by
 have h1:=chk_not_big h;rw[big,Bool.or_eq_false_iff]at h1;have:=of_decide_eq_false h1.2
 omega
end Pp
end Go.Proofs.YtagibnejodgeeaaGreatDoor
namespace Go.Proofs.YtagibnejodgeeaaGreatDoor
open Go.RowKit

theorem bx5 {w w1:World} {a b c d e:Value} {T:TypeId} (h:Below (w.alloc (.cells #[a,b,c,d,e] T)).heap.size (w.alloc (.cells #[a,b,c,d,e] T)) w1):
    w1.cell? ⟨w.heap.size,0,none⟩=some a∧w1.cell? ⟨w.heap.size,1,none⟩=some b∧w1.cell? ⟨w.heap.size,2,none⟩=some c∧w1.cell? ⟨w.heap.size,3,none⟩=some d∧w1.cell? ⟨w.heap.size,4,none⟩=some e∧Below w.heap.size w w1∧w.heap.size<w1.heap.size:=by
 have hz:w.heap.size<(w.alloc (.cells #[a,b,c,d,e] T)).heap.size:=by simp
 refine⟨?_,?_,?_,?_,?_,((Below.refl _ _).alloc (Nat.le_refl _) _).trans (h.mono (Nat.le_of_lt hz)),Nat.lt_of_lt_of_le hz h.size⟩
 · exact(h.cell (p:=⟨w.heap.size,0,none⟩) hz).trans (by simp)
 · exact(h.cell (p:=⟨w.heap.size,1,none⟩) hz).trans (by simp)
 · exact(h.cell (p:=⟨w.heap.size,2,none⟩) hz).trans (by simp)
 · exact(h.cell (p:=⟨w.heap.size,3,none⟩) hz).trans (by simp)
 · exact(h.cell (p:=⟨w.heap.size,4,none⟩) hz).trans (by simp)
namespace Pp
theorem cc14 {k:Int} (hk:k=1∨k=4) (p q t:ByteArray) (b:Int) (hz:chk p.data.toList=0):
    (q.toList.isEmpty=false∧Hid (1=chgE ⟨k,p,q,t,b⟩))∨(q.toList.isEmpty=true∧t.toList.isEmpty=false∧Hid (1=chgE ⟨k,p,q,t,b⟩))∨
    (q.toList.isEmpty=true∧t.toList.isEmpty=true∧(t.size:Int)≤300∧b< -1∧Hid (3=chgE ⟨k,p,q,t,b⟩))∨
    (q.toList.isEmpty=true∧t.toList.isEmpty=true∧(t.size:Int)≤300∧1000000<b∧Hid (3=chgE ⟨k,p,q,t,b⟩))∨
    (q.toList.isEmpty=true∧t.toList.isEmpty=true∧(t.size:Int)≤300∧ -1≤b∧b≤1000000∧Hid (0=chgE ⟨k,p,q,t,b⟩)):=by
 have h3: ¬k=3:=by omega
 have h2: ¬k=2:=by omega
 have hkk: ¬(k<1∨4<k):=by omega
 have hE:chgE ⟨k,p,q,t,b⟩=if(¬q.data.toList=[])∨(¬t.data.toList=[])then 1 else if 300<t.size then 2 else if b< -1∨1000000<b then 3 else 0:=by
  simp only[chgE,hkk,if_false,hz,not_true,h3,h2,false_and,not_false_iff,true_and]
 cases hq:q.toList.isEmpty with
 |false=>exact Or.inl ⟨rfl,(by rw[hE,if_pos (Or.inl (not_empty hq))]:1=chgE ⟨k,p,q,t,b⟩)⟩
 |true=>
  have hq':=(empty_iff q).1 hq;cases ht:t.toList.isEmpty with
  |false=>exact Or.inr (Or.inl ⟨rfl,rfl,(by rw[hE,if_pos (Or.inr (not_empty ht))]:1=chgE ⟨k,p,q,t,b⟩)⟩)
  |true=>
   have ht':=(empty_iff t).1 ht;have hs:t.size=0:=by rw[Lib.size_eq,ht'];rfl
   rw[if_neg (by simp[hq',ht']),if_neg (by omega)]at hE;by_cases h1:b< -1
   · exact Or.inr (Or.inr (Or.inl ⟨rfl,rfl,by omega,h1,(by rw[hE,if_pos (Or.inl h1)]:3=chgE ⟨k,p,q,t,b⟩)⟩))
   · by_cases h5:1000000<b
     · exact Or.inr (Or.inr (Or.inr (Or.inl ⟨rfl,rfl,by omega,h5,(by rw[hE,if_pos (Or.inr h5)]:3=chgE ⟨k,p,q,t,b⟩)⟩)))
     · exact Or.inr (Or.inr (Or.inr (Or.inr ⟨rfl,rfl,by omega,by omega,by omega,(by rw[hE,if_neg (by omega)]:0=chgE ⟨k,p,q,t,b⟩)⟩)))
theorem cc2 (p q t:ByteArray) (b:Int) (hz:chk p.data.toList=0):
    (q.toList.isEmpty=false∧Hid (1=chgE ⟨2,p,q,t,b⟩))∨(q.toList.isEmpty=true∧300<(t.size:Int)∧Hid (2=chgE ⟨2,p,q,t,b⟩))∨
    (q.toList.isEmpty=true∧(t.size:Int)≤300∧b< -1∧Hid (3=chgE ⟨2,p,q,t,b⟩))∨
    (q.toList.isEmpty=true∧(t.size:Int)≤300∧1000000<b∧Hid (3=chgE ⟨2,p,q,t,b⟩))∨
    (q.toList.isEmpty=true∧(t.size:Int)≤300∧ -1≤b∧b≤1000000∧Hid (0=chgE ⟨2,p,q,t,b⟩)):=by
 have hE:chgE ⟨2,p,q,t,b⟩=if(¬q.data.toList=[])then 1 else if 300<t.size then 2 else if b< -1∨1000000<b then 3 else 0:=by
  simp[chgE,hz]
 cases hq:q.toList.isEmpty with
 |false=>exact Or.inl ⟨rfl,(by rw[hE,if_pos (not_empty hq)]:1=chgE ⟨2,p,q,t,b⟩)⟩
 |true=>
  have hq':=(empty_iff q).1 hq;rw[if_neg (by simp[hq'])]at hE;by_cases hs:300<(t.size:Int)
  · exact Or.inr (Or.inl ⟨rfl,hs,(by rw[hE,if_pos (by omega)]:2=chgE ⟨2,p,q,t,b⟩)⟩)
  · rw[if_neg (by omega)]at hE
    by_cases h1:b< -1
    · exact Or.inr (Or.inr (Or.inl ⟨rfl,by omega,h1,(by rw[hE,if_pos (Or.inl h1)]:3=chgE ⟨2,p,q,t,b⟩)⟩))
    · by_cases h5:1000000<b
      · exact Or.inr (Or.inr (Or.inr (Or.inl ⟨rfl,by omega,h5,(by rw[hE,if_pos (Or.inr h5)]:3=chgE ⟨2,p,q,t,b⟩)⟩)))
      · exact Or.inr (Or.inr (Or.inr (Or.inr ⟨rfl,by omega,by omega,by omega,(by rw[hE,if_neg (by omega)]:0=chgE ⟨2,p,q,t,b⟩)⟩)))
theorem cc3 (p q t:ByteArray) (b:Int) (hz:chk p.data.toList=0) (hy:chk q.data.toList=0):
    (t.toList.isEmpty=false∧Hid (1=chgE ⟨3,p,q,t,b⟩))∨
    (t.toList.isEmpty=true∧(t.size:Int)≤300∧b< -1∧Hid (3=chgE ⟨3,p,q,t,b⟩))∨
    (t.toList.isEmpty=true∧(t.size:Int)≤300∧1000000<b∧Hid (3=chgE ⟨3,p,q,t,b⟩))∨
    (t.toList.isEmpty=true∧(t.size:Int)≤300∧ -1≤b∧b≤1000000∧Hid (0=chgE ⟨3,p,q,t,b⟩)):=by
 have hE:chgE ⟨3,p,q,t,b⟩=if(¬t.data.toList=[])then 1 else if 300<t.size then 2 else if b< -1∨1000000<b then 3 else 0:=by
  simp[chgE,hz,hy]
 cases ht:t.toList.isEmpty with
 |false=>exact Or.inl ⟨rfl,(by rw[hE,if_pos (not_empty ht)]:1=chgE ⟨3,p,q,t,b⟩)⟩
 |true=>
  have ht':=(empty_iff t).1 ht;have hs:t.size=0:=by rw[Lib.size_eq,ht'];rfl
  rw[if_neg (by simp[ht']),if_neg (by omega)]at hE;by_cases h1:b< -1
  · exact Or.inr (Or.inl ⟨rfl,by omega,h1,(by rw[hE,if_pos (Or.inl h1)]:3=chgE ⟨3,p,q,t,b⟩)⟩)
  · by_cases h5:1000000<b
    · exact Or.inr (Or.inr (Or.inl ⟨rfl,by omega,h5,(by rw[hE,if_pos (Or.inr h5)]:3=chgE ⟨3,p,q,t,b⟩)⟩))
    · exact Or.inr (Or.inr (Or.inr ⟨rfl,by omega,by omega,by omega,(by rw[hE,if_neg (by omega)]:0=chgE ⟨3,p,q,t,b⟩)⟩))
end Pp
end Go.Proofs.YtagibnejodgeeaaGreatDoor
namespace Go.Proofs.YtagibnejodgeeaaGreatDoor
open Go.RowKit

set_option maxHeartbeats 400000 in
theorem checked_ok (s:ByteArray) (w:World) (hs:s.size≤1000000000000000) (h:Pp.chk s.data.toList=0):
    Calls Tryz.prog 107 #[.string s] w fun e w'=>e= .returned (.tuple #[.string s,.int .i64 0])∧Below w.heap.size w w':=by
 have HZ:Hid (Pp.chk s.data.toList=0):=h;clear h;go_enter Tryz.func107,Tryz.ntmps107
 go_wp2_with fail;refine(check_any _ _ hs).mono ?_
 rintro e w1 ⟨rfl,hb1⟩;rw[HZ.out];go_wp2;go_ret2;exact⟨rfl,hb1⟩
set_option maxHeartbeats 400000 in
theorem checked_no (s:ByteArray) (w:World) (hs:s.size≤1000000000000000) (h: ¬Pp.chk s.data.toList=0):
    Calls Tryz.prog 107 #[.string s] w fun e w'=>e= .returned (.tuple #[.string ⟨#[]⟩,.int .i64 (Pp.chk s.data.toList)])∧Below w.heap.size w w':=by
 have hz:(Pp.chk s.data.toList==0)=false:=by simpa using h
 clear h;go_enter Tryz.func107,Tryz.ntmps107
 go_wp2_with fail;refine(check_any _ _ hs).mono ?_
 rintro e w1 ⟨rfl,hb1⟩;go_wp2;go_ret2;exact⟨rfl,hb1⟩
theorem checkAll2 (s t:ByteArray) (ty:TypeId) (w:World) (hs:s.size≤1000000000000000) (ht:t.size≤1000000000000000):
    Calls Tryz.prog 91 #[.slice (some ⟨w.heap.size,0,none⟩) 2 2] (w.alloc (.cells #[.string s,.string t] ty)) fun e w'=>e= .returned (.int .i64 (Pp.chks [s.data.toList,t.data.toList]))∧Below w.heap.size w w':=by
 refine(checkAll_any [s,t] w.heap.size 2 _ (by simp) (by simp) (fun i h=>?_) (fun i h=>?_)).mono ?_
 · match i,h with
   |0,_=>exact hs
   |1,_=>exact ht
 · match i,h with
   |0,_=>simp
   |1,_=>simp
 · rintro e w' ⟨rfl,hb⟩
   exact⟨rfl,((Below.refl _ _).alloc (Nat.le_refl _) _).trans (hb.mono (by simp))⟩
theorem checkAll3 (s t u:ByteArray) (ty:TypeId) (w:World) (hs:s.size≤1000000000000000) (ht:t.size≤1000000000000000) (hu:u.size≤1000000000000000):
    Calls Tryz.prog 91 #[.slice (some ⟨w.heap.size,0,none⟩) 3 3] (w.alloc (.cells #[.string s,.string t,.string u] ty)) fun e w'=>e= .returned (.int .i64 (Pp.chks [s.data.toList,t.data.toList,u.data.toList]))∧Below w.heap.size w w':=by
 refine(checkAll_any [s,t,u] w.heap.size 3 _ (by simp) (by simp) (fun i h=>?_) (fun i h=>?_)).mono ?_
 · match i,h with
   |0,_=>exact hs
   |1,_=>exact ht
   |2,_=>exact hu
 · match i,h with
   |0,_=>simp
   |1,_=>simp
   |2,_=>simp
 · rintro e w' ⟨rfl,hb⟩
   exact⟨rfl,((Below.refl _ _).alloc (Nat.le_refl _) _).trans (hb.mono (by simp))⟩
set_option maxHeartbeats 400000 in
theorem pwithin_any (s t:ByteArray) (w:World) (hs:s.size≤1000000000000000) (ht:t.size≤1000000000000000):
    Calls Tryz.prog 112 #[.string s,.string t] w fun e w'=>e= .returned (.bool (Pp.isInB s.data.toList t.data.toList))∧w'=w:=by
 have HI:=Pp.isIn_eq s.data.toList t.data.toList;cases hc:(s.toList==t.toList)with
 |true=>
  have HR:=hid (show true=Pp.isInB s.data.toList t.data.toList from by rw[←HI,←Lib.toList_data,←Lib.toList_data,hc];rfl);clear HI;go_enter Tryz.func112,Tryz.ntmps112
  go_wp2_with fail;go_ret;exact⟨Pp.ret_bool HR.out,rfl⟩
 |false=>
  have HR:=hid (show Lib.hasPrefix s.data.toList (t++⟨#[47]⟩).data.toList=Pp.isInB s.data.toList t.data.toList from by
   rw[←HI,Joins.data_append];rw[Lib.toList_data,Lib.toList_data]at hc;rw[hc];simp)
  clear HI;go_enter Tryz.func112,Tryz.ntmps112
  go_wp2_with fail;refine(Tryz.strings_HasPrefix _ _ _).mono ?_
  rintro e w1 ⟨rfl,rfl⟩;rw[HR.out];go_wp2;go_ret;exact⟨rfl,rfl⟩
set_option maxHeartbeats 400000 in
theorem within_any (s t:ByteArray) (w:World) (hs:s.size≤1000000000000000) (ht:t.size≤1000000000000000):
    Calls Tryz.prog 94 #[.string s,.string t] w fun e w'=>e= .returned (.tuple #[.bool (Pp.chks [s.data.toList,t.data.toList]==0 && Pp.isInB s.data.toList t.data.toList),.int .i64 (Pp.chks [s.data.toList,t.data.toList])])∧Below w.heap.size w w':=by
 cases hz:(Pp.chks [s.data.toList,t.data.toList]==0)with
 |true=>
  have HZ:=hid (show Pp.chks [s.data.toList,t.data.toList]=0 from by simpa using hz);clear hz;go_enter Tryz.func94,Tryz.ntmps94
  go_wp2_with fail;refine(checkAll2 s t _ _ hs ht).mono ?_
  rintro e w1 ⟨rfl,hb1⟩;rw[HZ.out];go_wp2_with fail;refine(pwithin_any s t _ hs ht).mono ?_
  rintro e w2 ⟨rfl,rfl⟩;go_wp2;go_ret2;exact⟨by rw[HZ.out];rfl,hb1⟩
 |false=>
  go_enter Tryz.func94,Tryz.ntmps94
  go_wp2_with fail;refine(checkAll2 s t _ _ hs ht).mono ?_
  rintro e w1 ⟨rfl,hb1⟩;go_wp2;go_ret2;exact⟨rfl,hb1⟩
namespace Pp
theorem mv_cut (p f t:ByteArray) (h:isInB p.data.toList f.data.toList=true):f.size≤p.size∧t++p.extract f.size p.size=⟨(mvT p.data.toList f.data.toList t.data.toList).toArray⟩:=by
 have hle:f.data.toList.length≤p.data.toList.length:=by
  rcases(isIn_of _ _).1 h with e|⟨r,e⟩
  · rw[e];exact Nat.le_refl _
  · rw[e];simp
 refine⟨by rw[Lib.size_eq,Lib.size_eq];exact hle,bytes_eq ?_⟩
 rw[Joins.data_append,Lib.extract_data,mvT,Lib.size_eq f,Lib.size_eq p,List.take_of_length_le (by rw[List.length_drop];exact Nat.le_refl _)]
theorem len_mv (p f t:List UInt8):(mvT p f t).length≤t.length+p.length:=by simp[mvT]
theorem mvE_no {p f t:List UInt8} (h: ¬chks [p,f,t]=0):mvE p f t=chks [p,f,t]:=by rw[mvE,if_neg h]
theorem mvE_out {p f t:List UInt8} (h:chks [p,f,t]=0) (hi:isInB p f=false):mvE p f t=5:=by rw[mvE,if_pos h,if_neg (by rw[hi];decide)]
theorem mvE_in {p f t:List UInt8} (h:chks [p,f,t]=0) (hi:isInB p f=true):mvE p f t=chk (mvT p f t):=by rw[mvE,if_pos h,if_pos hi]
end Pp

set_option maxHeartbeats 800000 in
theorem moved_any (p f t:ByteArray) (w:World) (hp:p.size≤200000000000000) (hf:f.size≤200000000000000) (ht:t.size≤200000000000000):
    Calls Tryz.prog 97 #[.string p,.string f,.string t] w fun e w'=>e= .returned (.tuple #[.string ⟨(Pp.ifc (Pp.mvE p.data.toList f.data.toList t.data.toList) (Pp.mvT p.data.toList f.data.toList t.data.toList)).toArray⟩,.int .i64 (Pp.mvE p.data.toList f.data.toList t.data.toList)])∧Below w.heap.size w w':=by
 have hlen:=Pp.len_mv p.data.toList f.data.toList t.data.toList;rw[←Lib.size_eq,←Lib.size_eq]at hlen;by_cases hz:Pp.chks [p.data.toList,f.data.toList,t.data.toList]=0
 · have HZ:Hid (Pp.chks [p.data.toList,f.data.toList,t.data.toList]=0):=hz
   cases hi:Pp.isInB p.data.toList f.data.toList with
   |false=>
    have HI:Hid (Pp.isInB p.data.toList f.data.toList=false):=hi;have HE:Hid (Pp.mvE p.data.toList f.data.toList t.data.toList=5):=Pp.mvE_out hz hi;clear hz hi;go_enter Tryz.func97,Tryz.ntmps97
    go_wp2_with fail;refine(checkAll3 p f t _ _ (by omega) (by omega) (by omega)).mono ?_
    rintro e w1 ⟨rfl,hb1⟩;rw[HZ.out];go_wp2_with fail;refine(pwithin_any p f _ (by omega) (by omega)).mono ?_
    rintro e w2 ⟨rfl,rfl⟩;rw[HI.out];go_wp2;go_ret2;exact⟨by rw[HE.out,Pp.ifc_no (by decide)];rfl,hb1⟩
   |true=>
    have HI:Hid (Pp.isInB p.data.toList f.data.toList=true):=hi;have HE:Hid (Pp.mvE p.data.toList f.data.toList t.data.toList=Pp.chk (Pp.mvT p.data.toList f.data.toList t.data.toList)):=Pp.mvE_in hz hi;obtain⟨hle,hcut⟩:=Pp.mv_cut p f t hi
    have HCUT:Hid (t++p.extract f.size p.size=⟨(Pp.mvT p.data.toList f.data.toList t.data.toList).toArray⟩):=hcut;clear hz hi hcut;have hle2:(f.size:Int)≤p.size:=by omega
    by_cases hq:Pp.chk (Pp.mvT p.data.toList f.data.toList t.data.toList)=0
    · have HQ:Hid (Pp.chk (Pp.mvT p.data.toList f.data.toList t.data.toList)=0):=hq
      clear hq;go_enter Tryz.func97,Tryz.ntmps97
      go_wp2_with fail;refine(checkAll3 p f t _ _ (by omega) (by omega) (by omega)).mono ?_
      rintro e w1 ⟨rfl,hb1⟩;rw[HZ.out];go_wp2_with fail;refine(pwithin_any p f _ (by omega) (by omega)).mono ?_
      rintro e w2 ⟨rfl,rfl⟩;rw[HI.out];go_wp2_with fail;rw[HCUT.out];refine(checked_ok ⟨(Pp.mvT p.data.toList f.data.toList t.data.toList).toArray⟩ _ (by rw[Pp.sz];omega) HQ.out).mono ?_
      rintro e w4 ⟨rfl,hb4⟩;go_wp2;go_ret2;exact⟨by rw[HE.out,HQ.out,Pp.ifc_yes rfl];rfl,below_trans hb1 hb4⟩
    · have HQ:Hid (¬Pp.chk (Pp.mvT p.data.toList f.data.toList t.data.toList)=0):=hq
      clear hq;go_enter Tryz.func97,Tryz.ntmps97
      go_wp2_with fail;refine(checkAll3 p f t _ _ (by omega) (by omega) (by omega)).mono ?_
      rintro e w1 ⟨rfl,hb1⟩;rw[HZ.out];go_wp2_with fail;refine(pwithin_any p f _ (by omega) (by omega)).mono ?_
      rintro e w2 ⟨rfl,rfl⟩;rw[HI.out];go_wp2_with fail;rw[HCUT.out];refine(checked_no ⟨(Pp.mvT p.data.toList f.data.toList t.data.toList).toArray⟩ _ (by rw[Pp.sz];omega) HQ.out).mono ?_
      rintro e w4 ⟨rfl,hb4⟩;go_wp2;go_ret2;exact⟨by rw[HE.out,Pp.ifc_no HQ.out];rfl,below_trans hb1 hb4⟩
 · have HE:Hid (Pp.mvE p.data.toList f.data.toList t.data.toList=Pp.chks [p.data.toList,f.data.toList,t.data.toList]):=Pp.mvE_no hz
   have HZ:Hid (¬Pp.chks [p.data.toList,f.data.toList,t.data.toList]=0):=hz;have hz2:(Pp.chks [p.data.toList,f.data.toList,t.data.toList]==0)=false:=by simpa using hz
   clear hz;go_enter Tryz.func97,Tryz.ntmps97
   go_wp2_with fail;refine(checkAll3 p f t _ _ (by omega) (by omega) (by omega)).mono ?_
   rintro e w1 ⟨rfl,hb1⟩;go_wp2;go_ret2;exact⟨by rw[HE.out,Pp.ifc_no HZ.out];rfl,hb1⟩
end Go.Proofs.YtagibnejodgeeaaGreatDoor
namespace Go.Proofs.YtagibnejodgeeaaGreatDoor
open Go.RowKit

set_option maxHeartbeats 400000 in
theorem not1_any (e:En) (g:Nat) (cb:Array Value) (pr:En→Bool) (b:Nat) (w:World) (hb:b<w.heap.size) (hc:w.cell? ⟨b,0,none⟩=some (.func (.func g) #[] cb)) (hg:Tells w g cb pr) (hs:e.path.size≤1000000000000000):
    Calls Tryz.prog 98 #[.agg #[.string e.path,.bool e.folder,.string e.text,.int .i64 e.ver],.pointer (some ⟨b,0,none⟩)] w fun r w'=>r= .returned (.bool (!pr e))∧Below w.heap.size w w':=by
 have hc2: ∀o,(w.alloc o).cell? ⟨b,0,none⟩=some (.func (.func g) #[] cb):=fun o=>(((Below.refl w.heap.size w).alloc (Nat.le_refl _) o).cell (p:=⟨b,0,none⟩) hb).trans hc
 have HG:Hid (Tells w g cb pr):=hg;have eg:=hg.1;clear hg;go_enter Tryz.func98,Tryz.ntmps98
 go_wp2_with fail;refine(HG.out.2 _ ((Below.refl _ _).alloc (Nat.le_refl _) _) e hs).mono ?_
 rintro r w1 ⟨rfl,hb1⟩;obtain⟨d0,d1,d2,d3,hb1w,hlt1⟩:=box4 hb1
 clear hb1 eg;go_wp2;go_ret;exact⟨rfl,hb1w⟩
set_option maxHeartbeats 400000 in
theorem not_any (g:Nat) (cb:Array Value) (pr:En→Bool) (w:World) (hg:Tells w g cb pr):
    Calls Tryz.prog 81 #[.func (.func g) #[] cb] w fun e w'=>e= .returned (.func (.func 98) #[] #[.pointer (some ⟨w.heap.size,0,none⟩)])∧Tells w' 98 #[.pointer (some ⟨w.heap.size,0,none⟩)] (fun e=> !pr e)∧Below w.heap.size w w':=by
 have HG:Hid (Tells w g cb pr):=hg;clear hg;go_enter Tryz.func81,Tryz.ntmps81
 go_wp2;go_ret;refine⟨rfl,⟨enters_of Tryz.func98 (by kernel_rfl) rfl,fun W hW e he=>?_⟩,(Below.refl _ _).alloc (Nat.le_refl _) _⟩
 exact not1_any e g cb pr w.heap.size W (Nat.lt_of_lt_of_le (by simp) hW.size) ((hW.cell (p:=⟨w.heap.size,0,none⟩) (by simp)).trans (by simp)) (HG.out.below (((Below.refl _ _).alloc (Nat.le_refl _) _).trans (hW.mono (by simp)))) he
namespace Pp
def inB (q:List UInt8) (e:En):Bool:=chks [e.path.data.toList,q]==0 && isInB e.path.data.toList q
end Pp
set_option maxHeartbeats 400000 in
theorem within1_any (e:En) (q:ByteArray) (b:Nat) (w:World) (hb:b<w.heap.size) (hc:w.cell? ⟨b,0,none⟩=some (.string q)) (hs:e.path.size≤1000000000000000) (hq:q.size≤1000000000000000):
    Calls Tryz.prog 95 #[.agg #[.string e.path,.bool e.folder,.string e.text,.int .i64 e.ver],.pointer (some ⟨b,0,none⟩)] w fun r w'=>r= .returned (.bool (Pp.inB q.data.toList e))∧Below w.heap.size w w':=by
 have hc2: ∀o,(w.alloc o).cell? ⟨b,0,none⟩=some (.string q):=fun o=>(((Below.refl w.heap.size w).alloc (Nat.le_refl _) o).cell (p:=⟨b,0,none⟩) hb).trans hc
 have HI:Hid ((Pp.chks [e.path.data.toList,q.data.toList]==0 && Pp.isInB e.path.data.toList q.data.toList)=Pp.inB q.data.toList e):=rfl;go_enter Tryz.func95,Tryz.ntmps95
 go_wp2_with fail;refine(within_any e.path q _ hs hq).mono ?_
 rintro r w1 ⟨rfl,hb1⟩;rw[HI.out];obtain⟨d0,d1,d2,d3,hb1w,hlt1⟩:=box4 hb1
 clear hb1;go_wp2;go_ret;exact⟨rfl,hb1w⟩
set_option maxHeartbeats 400000 in
theorem twithin_any (q:ByteArray) (w:World) (hq:q.size≤1000000000000000):
    Calls Tryz.prog 77 #[.string q] w fun e w'=>e= .returned (.func (.func 95) #[] #[.pointer (some ⟨w.heap.size,0,none⟩)])∧Tells w' 95 #[.pointer (some ⟨w.heap.size,0,none⟩)] (Pp.inB q.data.toList)∧Below w.heap.size w w':=by
 go_enter Tryz.func77,Tryz.ntmps77
 go_wp2;go_ret;refine⟨rfl,⟨enters_of Tryz.func95 (by kernel_rfl) rfl,fun W hW e he=>?_⟩,(Below.refl _ _).alloc (Nat.le_refl _) _⟩
 exact within1_any e q w.heap.size W (Nat.lt_of_lt_of_le (by simp) hW.size) ((hW.cell (p:=⟨w.heap.size,0,none⟩) (by simp)).trans (by simp)) he hq
set_option maxRecDepth 100000 in
set_option maxHeartbeats 1000000 in
theorem every_any (L:List En) (v:Value) (g:Nat) (cb:Array Value) (pr:En→Bool) (w:World) (hv:Lies w v L) (hg:Tells w g cb pr) (hn:L.length≤1000000000) (hs:Sized L):
    Calls Tryz.prog 47 #[v,.func (.func g) #[] cb] w fun e w'=> ∃u,e= .returned u∧w'.ownsRow w.heap.size 27 4 u (L.filter pr).length (Pp.flat (L.filter pr))∧u≠ .slice none 0 0∧Below w.heap.size w w':=by
 obtain⟨i0,hi0,hz0,hz1,hz2⟩:=info_parts Tryz.infoE
 obtain⟨a,cap,rfl,hcap,hcap2,hL⟩:=hv
 have HL:Hid (∀i (h:i<L.length),∃b o,a=some ⟨b,o,none⟩∧b<w.heap.size∧EnAt w b (o+i*4) L[i]):=hL;have HG:Hid (Tells w g cb pr):=hg;have HS:Hid (Sized L):=hs;have eg:=hg.1;clear hL hg hs;go_enter Tryz.func47,Tryz.ntmps47
 go_wp2_with (at_make;refine wpList_make_own _ rfl _ _ 22 rfl w.heap.size 27 i0 (.agg #[.string ⟨#[]⟩,.bool false,.string ⟨#[]⟩,.int .i64 0]) 4 Tryz.underlying22 hi0 hz0 hz1 .i64 .i64 (L.length:Int) L.length rfl rfl rfl ?m2 ?m3 ?m4 ?_)
 case m2=>rw[hz2];omega
 case m3=>unfold maxLen;omega
 case m4=>exact Nat.le_refl _
 intro w0 ho0 hgr0;have hb0:Below w.heap.size w w0:=(Below.refl _ _).grown hgr0 (Nat.le_refl _) (fun k hk=>by cases hk);clear hgr0;go_wp2_with fail;go_loopw [5,13] (fun u i wr=> ∃k:Nat,k≤L.length∧i= .int .i64 k∧wr.ownsRow w.heap.size 27 4 u ((L.take k).filter pr).length (Pp.flat ((L.take k).filter pr))∧u≠ .slice none 0 0∧Below w.heap.size w wr) (fun _ i _=>L.length-(intOf i).toNat)
 case atStart=>exact⟨0,Nat.zero_le _,rfl,ho0,by simp,hb0⟩
 case round=>
  obtain⟨k,hk,rfl,hown,hnn,hbel⟩:=hrel
  clear ho0 hb0
  have hlenf:((L.take k).filter pr).length≤k:=by
   have h1:=List.length_filter_le pr (L.take k);have h2:=List.length_take_le k L;omega
  by_cases hlt:k<L.length
  · obtain⟨b,o,rfl,hb,he⟩:=HL.out k hlt
    obtain⟨c0,c1,c2,c3⟩:=he.below hb hbel
    have hsz:=HS.out L[k] (List.getElem_mem hlt);cases hp:pr L[k]with
    |true=>
     have HF:Hid ((L.take (k+1)).filter pr=(L.take k).filter pr++[L[k]]):=Pp.filter_hit hlt hp;go_wp2_with fail;refine(HG.out.2 _ (hbel.alloc hbel.size _) L[k] hsz.1).mono ?_
     rintro e w1 ⟨rfl,hb1⟩;obtain⟨d0,d1,d2,d3,hb1w,hlt1⟩:=box4 hb1
     have hbel1:=below_trans hbel hb1w;have hown1:=Pp.own_below hown hb1w;rw[hp];clear hb1 c0 c1 c2 c3 eg hown hbel hb1w;go_wp2_with (at_builtin;refine wpList_append_own _ rfl _ _ 22 rfl w.heap.size 27 i0 (.agg #[.string ⟨#[]⟩,.bool false,.string ⟨#[]⟩,.int .i64 0]) 4 48 Tryz.underlying22 hi0 hz0 hz1 hz2 rfl (by decide) _ _ _ rfl (hown1.alloc _) ⟨w1.heap.size,0,none⟩ 1 1 (Pp.cells L[k]) rfl rfl ?c1 ?c2 ?c3 ?c4 ?c5 ?_)
     case c1=>exact Pp.new_cells w1 L[k] _
     case c2=>exact Pp.cells_one _
     case c3=>unfold maxLen;omega
     case c4=>omega
     case c5=>have:=hbel1.size;simp;omega
     intro v2 w2 ho2 hgr2 hnn2;have hbel2:Below w.heap.size w w2:=(hbel1.alloc hbel1.size _).grown hgr2 (by have:=hbel1.size;simp;omega) (fun q hq=>(hown1.lt q hq).1);rw[Pp.flat_snoc]at ho2;have HO:Hid (w2.ownsRow w.heap.size 27 4 v2 (((L.take k).filter pr).length+1) (Pp.flat ((L.take k).filter pr++[L[k]]))):=ho2;have hnn3:v2≠ .slice none 0 0:=by simpa using hnn2
     clear ho2 hgr2 hnn2 hown1 hbel1 d0 d1 d2 d3 hnn;go_wp2_with fail;go_roundw
     case rel=>exact⟨k+1,by omega,by simp,by rw[HF.out,List.length_append];exact HO.out,hnn3,hbel2⟩
     case measure=>simp[intOf];omega
    |false=>
     have HF:Hid ((L.take (k+1)).filter pr=(L.take k).filter pr):=Pp.filter_miss hlt hp;go_wp2_with fail;refine(HG.out.2 _ (hbel.alloc hbel.size _) L[k] hsz.1).mono ?_
     rintro e w1 ⟨rfl,hb1⟩;obtain⟨d0,d1,d2,d3,hb1w,hlt1⟩:=box4 hb1
     have hbel1:=below_trans hbel hb1w;have hown1:=Pp.own_below hown hb1w;rw[hp];clear hb1 c0 c1 c2 c3 eg hown hbel hb1w;go_wp2_with fail;go_roundw
     case rel=>exact⟨k+1,by omega,by simp,by rw[HF.out];exact hown1,hnn,hbel1⟩
     case measure=>simp[intOf];omega
  · go_wp2_with fail
    go_ret;exact⟨_,rfl,by have e:L.take k=L:=List.take_of_length_le (by omega);rw[e]at hown;exact hown,hnn,hbel⟩
end Go.Proofs.YtagibnejodgeeaaGreatDoor
namespace Go.Proofs.YtagibnejodgeeaaGreatDoor
open Go.RowKit

set_option maxHeartbeats 2000000 in
theorem checkChange_any (k:Int) (p q t:ByteArray) (b:Int) (w:World) (hp:p.size≤1000000000000000) (hq:q.size≤1000000000000000) (ht:t.size≤1000000000000000):
    Calls Tryz.prog 53 #[.agg #[.int .i64 k,.string p,.string q,.string t,.int .i64 b]] w fun e w'=>e= .returned (.int .i64 (Pp.chgE ⟨k,p,q,t,b⟩))∧Below w.heap.size w w':=by
 by_cases h1:k<1
 · have HE:=hid (show 7=Pp.chgE ⟨k,p,q,t,b⟩from by rw[Pp.chgE,if_pos (Or.inl h1)])
   go_enter Tryz.func53,Tryz.ntmps53
   go_wp2;go_ret;exact⟨Pp.ret_int HE.out,(Below.refl _ _).alloc (Nat.le_refl _) _⟩
 by_cases h2:4<k
 · have HE:=hid (show 7=Pp.chgE ⟨k,p,q,t,b⟩from by rw[Pp.chgE,if_pos (Or.inr h2)])
   go_enter Tryz.func53,Tryz.ntmps53
   go_wp2;go_ret;exact⟨Pp.ret_int HE.out,(Below.refl _ _).alloc (Nat.le_refl _) _⟩
 by_cases hz:Pp.chk p.data.toList=0
 · have HZ:Hid (Pp.chk p.data.toList=0):=hz
   have h4:(k=1∨k=4)∨k=2∨k=3:=by omega
   clear h1 h2;rcases h4 with h|rfl|rfl
   · have hcases:=Pp.cc14 h p q t b hz
     clear hz;rcases h with rfl|rfl
     all_goals
      rcases hcases with⟨f1,HE⟩|⟨f1,f2,HE⟩|⟨f1,f2,f3,f4,HE⟩|⟨f1,f2,f3,f4,HE⟩|⟨f1,f2,f3,f4,f5,HE⟩
     all_goals
      go_enter Tryz.func53,Tryz.ntmps53
      go_wp2_with fail;refine(check_any p _ hp).mono ?_
      rintro e w1 ⟨rfl,hb1'⟩;rw[HZ.out];obtain⟨c0,c1,c2,c3,c4,hbw,hlt⟩:=bx5 hb1'
      clear hb1';go_wp2_with fail;go_ret;exact⟨Pp.ret_int HE.out,hbw⟩
   · have hcases:=Pp.cc2 p q t b hz
     clear hz;rcases hcases with⟨f1,HE⟩|⟨f1,f2,HE⟩|⟨f1,f2,f3,HE⟩|⟨f1,f2,f3,HE⟩|⟨f1,f2,f3,f4,HE⟩
     all_goals
      go_enter Tryz.func53,Tryz.ntmps53
      go_wp2_with fail;refine(check_any p _ hp).mono ?_
      rintro e w1 ⟨rfl,hb1'⟩;rw[HZ.out];obtain⟨c0,c1,c2,c3,c4,hbw,hlt⟩:=bx5 hb1'
      clear hb1';go_wp2_with fail;go_ret;exact⟨Pp.ret_int HE.out,hbw⟩
   · by_cases hy:Pp.chk q.data.toList=0
     · have hcases:=Pp.cc3 p q t b hz hy
       have HY:Hid (Pp.chk q.data.toList=0):=hy;clear hz hy;rcases hcases with⟨f1,HE⟩|⟨f1,f2,f3,HE⟩|⟨f1,f2,f3,HE⟩|⟨f1,f2,f3,f4,HE⟩
       all_goals
        go_enter Tryz.func53,Tryz.ntmps53
        go_wp2_with fail;refine(check_any p _ hp).mono ?_
        rintro e w1 ⟨rfl,hb1'⟩;rw[HZ.out];obtain⟨c0,c1,c2,c3,c4,hbw,hlt⟩:=bx5 hb1'
        go_wp2_with fail;refine(check_any q _ hq).mono ?_
        rintro e w2 ⟨rfl,hb2'⟩;rw[HY.out];have hb02:=hb1'.trans (hb2'.mono hb1'.size);clear c0 c1 c2 c3 c4 hbw hlt hb1' hb2';obtain⟨c0,c1,c2,c3,c4,hbw,hlt⟩:=bx5 hb02
        clear hb02;go_wp2_with fail;go_ret;exact⟨Pp.ret_int HE.out,hbw⟩
     · have HE:=hid (show Pp.chk q.data.toList=Pp.chgE ⟨3,p,q,t,b⟩from by simp[Pp.chgE,hz,hy])
       have hy2:(Pp.chk q.data.toList==0)=false:=by simpa using hy
       clear hz;go_enter Tryz.func53,Tryz.ntmps53
       go_wp2_with fail;refine(check_any p _ hp).mono ?_
       rintro e w1 ⟨rfl,hb1'⟩;rw[HZ.out];obtain⟨c0,c1,c2,c3,c4,hbw,hlt⟩:=bx5 hb1'
       go_wp2_with fail;refine(check_any q _ hq).mono ?_
       rintro e w2 ⟨rfl,hb2'⟩;have hb02:=hb1'.trans (hb2'.mono hb1'.size);clear c0 c1 c2 c3 c4 hbw hlt hb1' hb2';obtain⟨c0,c1,c2,c3,c4,hbw,hlt⟩:=bx5 hb02
       clear hb02;go_wp2_with fail;go_ret;exact⟨Pp.ret_int HE.out,hbw⟩
 · have HE:=hid (show Pp.chk p.data.toList=Pp.chgE ⟨k,p,q,t,b⟩from by rw[Pp.chgE,if_neg (by simp only;omega),if_pos hz])
   have hz2:(Pp.chk p.data.toList==0)=false:=by simpa using hz
   go_enter Tryz.func53,Tryz.ntmps53
   go_wp2_with fail;refine(check_any p _ hp).mono ?_
   rintro e w1 ⟨rfl,hb1⟩;obtain⟨c0,c1,c2,c3,c4,hb,hlt⟩:=bx5 hb1
   clear hb1;go_wp2_with fail;go_ret;exact⟨Pp.ret_int HE.out,hb⟩
end Go.Proofs.YtagibnejodgeeaaGreatDoor
