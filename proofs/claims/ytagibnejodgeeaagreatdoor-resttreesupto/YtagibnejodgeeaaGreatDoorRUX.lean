/- What the reference's ChangeOf answers, for every change of a tree that passes Check. -/
import Derived.Test.YtagibnejodgeeaaGreatDoorRUE
import Derived.Test.YtagibnejodgeeaaGreatDoorRUU
import Derived.Test.YtagibnejodgeeaaGreatDoorRUV
import Derived.Test.YtagibnejodgeeaaGreatDoorRUW
import Derived.Test.YtagibnejodgeeaaGreatDoorRUC
import Derived.Test.YtagibnejodgeeaaGreatDoorRUF
import Derived.Test.YtagibnejodgeeaaGreatDoorRUG
import Derived.Test.YtagibnejodgeeaaGreatDoorRUH
import Derived.Test.YtagibnejodgeeaaGreatDoorRUI
import Derived.Test.YtagibnejodgeeaaGreatDoorRUM
import Derived.Test.YtagibnejodgeeaaGreatDoorRUN
import Derived.Test.YtagibnejodgeeaaGreatDoorRUT
import Derived.Test.YtagibnejodgeeaaGreatDoorRUS
import Derived.Test.YtagibnejodgeeaaGreatDoorRUB
import Derived.Test.YtagibnejodgeeaaGreatDoorRows
import Derived.Deep.Slices
import Derived.Lib.SmallJoins
import Derived.Carry
set_option linter.unusedSimpArgs false
set_option linter.unusedVariables false
namespace Go.Proofs.YtagibnejodgeeaaGreatDoor
open Go.RowKit

theorem changeOf_any (L:List En) (v:Value) (k:Int) (p q t:ByteArray) (b n:Int) (w:World) (hv:Lies w v L) (hp:p.size≤1000000000) (hq:q.size≤1000000000) (ht:t.size≤1000000000) (hL:Pp.Good L) (hver:Pp.verE n=0):
    Calls Tryz.prog 13 #[v,.agg #[.int .i64 k,.string p,.string q,.string t,.int .i64 b],.int .i64 n] w fun e w'=> ∃u,e= .returned (.tuple #[u,.int .i64 (Pp.appE L ⟨k,p,q,t,b⟩ n)])∧(Pp.appE L ⟨k,p,q,t,b⟩ n=0→Lies w' u (Pp.chdR L ⟨k,p,q,t,b⟩ n))∧Below w.heap.size w w':=by
 have hs: ∀e∈L,e.path.size≤1000000000:=fun e he=>by
  have:=Pp.chk_len (Pp.entE_path (hL.ents e he))
  rw[Lib.size_eq];omega
 by_cases hc:Pp.chgE ⟨k,p,q,t,b⟩=0
 · by_cases hpl:Pp.plcE L ⟨k,p,q,t,b⟩=0
   · have hr:Pp.appE L ⟨k,p,q,t,b⟩ n=Pp.rstE L ⟨k,p,q,t,b⟩ n:=by
      rw[Pp.appE,if_neg (fun x=>x hver),if_neg (fun x=>x hc),if_neg (fun x=>x hpl)];rfl
     rw[hr];have h4:1≤k∧k≤4:=Pp.chg_kind hc;obtain⟨h0,hcs⟩:=Pp.plc_ok h4 hpl
     have hrest:=Pp.chg_rest hc;rcases hcs with⟨rfl,hi⟩|⟨rfl,hi⟩|⟨rfl,j,hj,hi,hx⟩|⟨rfl,⟨j,hj,hi⟩,hx,hi2,hf2⟩|⟨rfl,j,hj,hi⟩
     · have ht0:t=⟨#[]⟩:=by
        rcases hrest.2.1 with h2|h2
        · exact absurd (show(1:Int)=2 from h2) (by decide)
        · exact Pp.no_text h2
       subst ht0;exact changeOf_mk L v p q b n w hv hs hp hq hL hc (hid (by simpa[Pp.goal]using h0)) hi
     · exact changeOf_wr L v p q t b n w hv hs hp hq ht hL hc (hid (by simpa[Pp.goal]using h0)) hi
     · exact changeOf_rw L v p q t b n w hv hs hp hq ht hL hc (hid (by simpa[Pp.goal]using h0)) j hj hi hx
     · exact changeOf_mv L v p q t b n w hv hs hp hq ht hL hc (hid (by simpa[Pp.goal]using h0)) j hj hi hx hi2 hf2
     · exact changeOf_del L v p q t b n w hv hs hp hq ht hL hc (hid (by simpa[Pp.goal]using h0)) j hj hi
   · have hr:Pp.appE L ⟨k,p,q,t,b⟩ n=Pp.plcE L ⟨k,p,q,t,b⟩:=Pp.app_plc hver hc hpl
     rw[hr];refine(changeOf_place L v k p q t b n w hv hp hq ht hc hpl).mono ?_
     rintro e w1 ⟨rfl,hb⟩;exact⟨_,rfl,fun h=>absurd h hpl,hb⟩
 · have hr:Pp.appE L ⟨k,p,q,t,b⟩ n=Pp.chgE ⟨k,p,q,t,b⟩:=Pp.app_chg hver hc
   rw[hr];refine(changeOf_form L v k p q t b n w hp hq ht hc).mono ?_
   rintro e w1 ⟨rfl,hb⟩;exact⟨_,rfl,fun h=>absurd h hc,hb⟩
end Go.Proofs.YtagibnejodgeeaaGreatDoor
namespace Go.Proofs.YtagibnejodgeeaaGreatDoor
open Go.RowKit Go.Maps

/-- What may be appended: nil, or so many records that lie at an address. -/
def SrcN (w:World) (sx:Value) (m size:Nat) (news:List Value):Prop:=(∃c,sx= .slice none m c∧m=0∧news=[])∨ ∃ad c,sx= .slice (some ad) m c∧news.length=m*size∧(∀j u,news[j]?=some u→w.cell? (ad.add j)=some u)
theorem lies_src {w:World} {v:Value} {L:List En} (h:Lies w v L):SrcN w v L.length 4 (Pp.flat L):=by
 obtain⟨a,cap,rfl,hcap,hcap2,hL⟩:=h
 cases a with
 |none=>
  have:L=[]:=by
   cases L with
   |nil=>rfl
   |cons s r=>obtain⟨b,o,hb,_⟩:=hL 0 (by simp);cases hb
  subst this;exact Or.inl ⟨cap,rfl,rfl,rfl⟩
 |some ad=>
  refine Or.inr ⟨ad,cap,rfl,Pp.flat_len L,?_⟩
  cases L with
  |nil=>intro j u hj;simp[Pp.flat]at hj
  |cons s r=>
   obtain⟨b,o,hb,_⟩:=hL 0 (by simp)
   injection hb with hb
   subst hb
   exact lies_cells fun i hi=>by
    obtain⟨b',o',hb',_,he⟩:=hL i hi
    injection hb' with hb'
    injection hb' with h1 h2
    subst h1;subst h2;exact he
theorem run_append_none_cap {P:Program} {w:World} (base:Nat) (t ty e:TypeId) (i:TypeInfo) (size:Nat) (ht:P.underlying t=some (.slice e)) (hi:P.info? e=some i) (v:Value) (n c:Nat) (xs:List Value) (hown:w.ownsRow base e size v n xs):
    (Builtin.append_ #[t,t] ty #[v,.slice none 0 c]).run P w= .ok v w:=by
 rcases hown.2 with⟨rfl,rfl⟩|⟨g,cap,cur,rfl,_,_,hnc,_⟩
 · simp[Builtin.append_,run_underlying ht,sizeOf,typeInfo,hi,Builtin.lenOf,Builtin.firstCells]
 · simp[Builtin.append_,run_underlying ht,sizeOf,typeInfo,hi,Builtin.lenOf,Builtin.firstCells,hnc,storeCells]
theorem wpList_append_src {P:Program} {w:World} {ops:Array Oper} {rest:List Oper} {o:Oper} {a:Act} {Q:Exit→Act→World→Prop} (hgd:o.guard=none)
    (s x:Operand) (t:TypeId) (hop:o.op=Op.call {callee:=Callee.builtin Builtin.append,args:= #[s,x],argTypes:= #[t,t]})
    (base:Nat) (e:TypeId) (i:TypeInfo) (z:Value) (size bytes:Nat) (ht:P.underlying t=some (.slice e)) (hi:P.info? e=some i) (hz:i.zero=some z)
    (hsize:i.size=size) (hby:i.bytes=bytes) (hzs:z.cells.size=size) (hsz:0<size)
    (v:Value) (n:Nat) (xs:List Value) (hs:a.eval s=v) (hown:w.ownsRow base e size v n xs)
    (sx:Value) (m:Nat) (news:List Value) (hx:a.eval x=sx) (hsx:SrcN w sx m size news) (h1: ∀u∈news,u.oneCell'=true)
    (h63:n+m≤maxLen) (hbytes:(n+m)*bytes≤140737488355328) (hbase:base≤w.heap.size)
    (h: ∀v' w',w'.ownsRow base e size v' (n+m) (xs++news)→w.grownBy w' v.ownBlock→wpList P ops Q rest (a.put o.dst v') w'):
    wpList P ops Q (o::rest) a w:=by
 rcases hsx with⟨c,rfl,rfl,rfl⟩|⟨ad,c,rfl,hl,hnews⟩
 · refine wpList_plain hgd fun K hK=>?_
   have hrun:=run_append_none_cap (P:=P) (w:=w) base t o.type e i size ht hi v n c xs hown;unfold Oper.wp;simp[execOp,hop,resolve,invoke,builtin,hs,hx,hrun,Result.andThen]
   exact hK _ _ (h v w (by simpa using hown) (World.grownBy.refl _ _))
 · exact wpList_append_own w hgd s x t hop base e i z size bytes ht hi hz hsize hby hzs hsz v n xs hs hown ad m c news hx hl hnews h1 h63 hbytes hbase fun v' w' h1 h2 _=>h v' w' h1 h2
theorem spl_cp {B:Nat} {w:World} {v:Value} {C:Mg.CC} (h:LiesK w v C) (hO:Own B w v):Spl B 2 w v:=by
 obtain⟨a,cap,rfl,_,hn,hL⟩:=h
 exact spl_of hO (by decide) hn fun i hi=>by
  obtain⟨b,o,ha,_,_,e1⟩:=hL i hi
  exact⟨b,o,ha,_,e1⟩
/-- The room: an entry more behind a tree. -/
def roomE:En:=⟨⟨#[114,111,111,109]⟩,false,⟨#[]⟩,0⟩
theorem lies_init {w:World} {g cap:Nat} {A:List En} {e:En} {k:Nat} (h:Lies w (.slice (some ⟨g,0,none⟩) k cap) (A++[e])):Lies w (.slice (some ⟨g,0,none⟩) A.length cap) A:=by
 obtain⟨a,c,hv,h1,h2,h3⟩:=h
 injection hv with e1 e2 e3
 subst e1;subst e3;rw[List.length_append,List.length_singleton]at h1 h2;refine⟨_,_,rfl,by omega,by omega,fun i hi=>?_⟩
 obtain⟨b,o,ha,hb,he⟩:=h3 i (by rw[List.length_append];omega)
 rw[List.getElem_append_left hi]at he;exact⟨b,o,ha,hb,he⟩
theorem lies_last {w:World} {g cap:Nat} {A:List En} {e:En} {k:Nat} (h:Lies w (.slice (some ⟨g,0,none⟩) k cap) (A++[e])):w.cell? ⟨g,A.length*4,none⟩=some (.string e.path)∧g<w.heap.size:=by
 obtain⟨a,c,hv,h1,h2,h3⟩:=h
 injection hv with e1 e2 e3
 subst e1;subst e3;obtain⟨b,o,ha,hb,he⟩:=h3 A.length (by rw[List.length_append,List.length_singleton];omega)
 cases ha
 have h0:=he.1;rw[Nat.zero_add,List.getElem_append_right (Nat.le_refl _)]at h0;simp only[Nat.sub_self,List.getElem_cons_zero]at h0;exact⟨h0,hb⟩
namespace Sp
theorem dfL_len (A B:List En):(dfL A B).length≤1000000000000000∧SizedC 150000000000000 (dfL A B):=by
 by_cases h0:dfE A B=0
 · have hab:Pp.treeE A=0∧Pp.treeE B=0:=by
    by_cases ha:Pp.treeE A=0
    · rw[dfE,if_pos ha]at h0;exact⟨ha,h0⟩
    · rw[dfE,if_neg ha]at h0;exact absurd h0 ha
   have hgA:=(Pp.good_iff A).1 hab.1;have hgB:=(Pp.good_iff B).1 hab.2;rw[dfL,if_pos h0];refine⟨?_,sized_df hgA hgB⟩
   have h1:=dels_len A B;have h2:=mks_len A B;have h3:=hgA.len;have h4:=hgB.len;rw[List.length_append];omega
 · rw[dfL,if_neg h0]
   exact⟨by simp,fun c hc=>by cases hc⟩
end Sp

set_option maxRecDepth 100000 in
set_option maxHeartbeats 8000000 in
theorem restTrees_walk (A B C:List En) (va vb vc:Value) (k:Int) (p q t:ByteArray) (bs:Int) (w:World) (hA:Lies w va A) (hB:Lies w vb B) (hC:Lies w vc C) (nA:A.length≤1048576) (nB:B.length≤1048576) (nC:C.length≤1048576) (zA: ∀e∈A,e.path.size≤1048576∧e.text.size≤1048576) (zB: ∀e∈B,e.path.size≤1048576∧e.text.size≤1048576) (zC: ∀e∈C,e.path.size≤1048576∧e.text.size≤1048576) (hp:p.size≤1048576) (hq:q.size≤1048576) (ht:t.size≤1048576):
    Calls Tryz.prog 3 #[va,vb,vc,.agg #[.int .i64 k,.string p,.string q,.string t,.int .i64 bs]] w fun e w'=>e= .returned (.bool true)∧Below w.heap.size w w':=by
 obtain⟨i0,hi0,hz0,hz1,hz2⟩:=info_parts Tryz.infoE
 have HA:=hid hA;have HB:=hid hB;have HC:=hid hC;have sz: ∀{L:List En},(∀e∈L,e.path.size≤1048576∧e.text.size≤1048576)→Sized L:=fun h e he=>⟨by have:=(h e he).1;omega,by have:=(h e he).2;omega⟩
 have sp: ∀{L:List En},(∀e∈L,e.path.size≤1048576∧e.text.size≤1048576)→ ∀e∈L,e.path.size≤1000000000:=fun h e he=>by have:=(h e he).1;omega
 have HSA:=hid (sz zA);have HSB:=hid (sz zB);have HSC:=hid (sz zC);have HPA:=hid (sp zA);have HPB:=hid (sp zB);have HPC:=hid (sp zC);have HDF:=hid (Sp.dfL_len A B);have HPQ:=hid (show p.size≤1048576∧q.size≤1048576∧t.size≤1048576 from⟨hp,hq,ht⟩);obtain⟨aa,ca,rfl⟩:=lies_shape hA
 obtain⟨ab,cb,rfl⟩:=lies_shape hB
 obtain⟨ac,cc,rfl⟩:=lies_shape hC
 clear hA hB hC sz sp zA zB zC hp hq ht;obtain⟨wz,hwz⟩: ∃wz,wz=w.alloc (.cells #[.int .i64 k,.string p,.string q,.string t,.int .i64 bs] 24):=⟨_,rfl⟩
 have hbz:Below w.heap.size w wz:=by rw[hwz];exact(Below.refl _ _).alloc (Nat.le_refl _) _
 have HX:=hid (show Cs wz w.heap.size [.int .i64 k,.string p,.string q,.string t,.int .i64 bs] by rw[hwz];exact Cs.new w [.int .i64 k,.string p,.string q,.string t,.int .i64 bs] _);go_enter Tryz.func3,Tryz.ntmps3
 go_upto_region 1 with fail;rw[←hwz];clear hwz;go_wp2_with fail;refine(begun_yes _).mono ?_
 rintro e w1 ⟨rfl,hb1⟩;go_wp2_with fail;refine(mergeBegun_yes _).mono ?_
 rintro e w2 ⟨rfl,hb2⟩;go_wp2_with fail;refine(deltaBegun_yes _).mono ?_
 rintro e w3 ⟨rfl,hb3⟩;have hb03:=below_tr hbz (below_tr hb1 (below_tr hb2 hb3));have HX3:=hid (HX.out.below (below_tr hb1 (below_tr hb2 hb3)));have HA3:=hid (HA.out.below hb03);have HB3:=hid (HB.out.below hb03);have HC3:=hid (HC.out.below hb03);clear hb1 hb2 hb3 HX hbz;go_wp2_with (at_builtin;refine wpList_append_src rfl _ _ 22 rfl w3.heap.size 27 i0 (.agg #[.string ⟨#[]⟩,.bool false,.string ⟨#[]⟩,.int .i64 0]) 4 48 Tryz.underlying22 hi0 hz0 hz1 hz2 rfl (by decide) _ _ _ rfl (World.ownsRow_made w3 #[] 0 (Nat.le_refl _) (Nat.zero_le _) (by simp)) _ A.length (Pp.flat A) rfl (lies_src (HA3.out.below ((Below.refl _ _).alloc (Nat.le_refl _) _))) (Pp.flat_one A) (by unfold maxLen;omega) (by omega) (by simp) ?_)
 intro v4 w4 ho4 hgr4;have hb4:Below w3.heap.size w3 w4:=((Below.refl _ _).alloc (Nat.le_refl _) _).grown hgr4 (by simp) (fun k hk=>by simp[Value.ownBlock]at hk;omega);have ho4':w4.ownsRow w3.heap.size 27 4 v4 A.length (Pp.flat A):=by simpa using ho4
 have s4:=hb4.size;clear ho4 hgr4;go_wp2_with (at_builtin;refine wpList_append_src rfl _ _ 22 rfl w3.heap.size 27 i0 (.agg #[.string ⟨#[]⟩,.bool false,.string ⟨#[]⟩,.int .i64 0]) 4 48 Tryz.underlying22 hi0 hz0 hz1 hz2 rfl (by decide) _ _ _ rfl (ho4'.alloc _) _ 1 (Pp.cells roomE) rfl (Or.inr ⟨⟨w4.heap.size,0,none⟩,1,rfl,rfl,Pp.new_cells w4 roomE _⟩) (Pp.cells_one roomE) (by unfold maxLen;omega) (by omega) (by simp;omega) ?_)
 intro v5 w5 ho5 hgr5;have hb5:Below w3.heap.size w3 w5:=(hb4.alloc s4 _).grown hgr5 (by simp;omega) (fun k hk=>(ho4'.lt k hk).1);rw[Pp.flat_snoc]at ho5;have ho5':w5.ownsRow w3.heap.size 27 4 v5 (A++[roomE]).length (Pp.flat (A++[roomE])):=by rw[List.length_append];exact ho5
 obtain⟨g,cap,rfl,hg1,hg2,hc1,hc2⟩:=Pp.own_shape ho5' (by simp)
 have hli:=lies_own ho5' (by rw[List.length_append,List.length_singleton];omega);have HIN:=hid (lies_init hli);have HRM:=hid (lies_last hli);have hcl:A.length+1≤cap:=by rw[List.length_append,List.length_singleton]at hc1;exact hc1
 have HX5:=hid (HX3.out.below hb5);have HB5:=hid (HB3.out.below hb5);have HC5:=hid (HC3.out.below hb5);have hb05:=below_tr hb03 hb5;have s5:=hb5.size;clear ho4' ho5 ho5' hgr5 hli hb4 hc1 hc2 hg1 hb5 s4 HB3 HC3 HX3;go_wp2_with (at_builtin;refine wpList_append_src rfl _ _ 22 rfl w5.heap.size 27 i0 (.agg #[.string ⟨#[]⟩,.bool false,.string ⟨#[]⟩,.int .i64 0]) 4 48 Tryz.underlying22 hi0 hz0 hz1 hz2 rfl (by decide) _ _ _ rfl (World.ownsRow_made w5 #[] 0 (Nat.le_refl _) (Nat.zero_le _) (by simp)) _ B.length (Pp.flat B) rfl (lies_src (HB5.out.below ((Below.refl _ _).alloc (Nat.le_refl _) _))) (Pp.flat_one B) (by unfold maxLen;omega) (by omega) (by simp) ?_)
 intro v6 w6 ho6 hgr6;have hb6:Below w5.heap.size w5 w6:=((Below.refl _ _).alloc (Nat.le_refl _) _).grown hgr6 (by simp) (fun k hk=>by simp[Value.ownBlock]at hk;omega);have ho6':w6.ownsRow w5.heap.size 27 4 v6 B.length (Pp.flat B):=by simpa using ho6
 have HOT:=hid (lies_own ho6' (by omega));have HC6:=hid (HC5.out.below hb6);obtain⟨ao,co,rfl⟩:=lies_shape HOT.out
 clear ho6 ho6' hgr6;go_wp2_with (at_builtin;refine wpList_append_src rfl _ _ 22 rfl w6.heap.size 27 i0 (.agg #[.string ⟨#[]⟩,.bool false,.string ⟨#[]⟩,.int .i64 0]) 4 48 Tryz.underlying22 hi0 hz0 hz1 hz2 rfl (by decide) _ _ _ rfl (World.ownsRow_made w6 #[] 0 (Nat.le_refl _) (Nat.zero_le _) (by simp)) _ C.length (Pp.flat C) rfl (lies_src (HC6.out.below ((Below.refl _ _).alloc (Nat.le_refl _) _))) (Pp.flat_one C) (by unfold maxLen;omega) (by omega) (by simp) ?_)
 intro v7 w7 ho7 hgr7;have hb7:Below w6.heap.size w6 w7:=((Below.refl _ _).alloc (Nat.le_refl _) _).grown hgr7 (by simp) (fun k hk=>by simp[Value.ownBlock]at hk;omega);have ho7':w7.ownsRow w6.heap.size 27 4 v7 C.length (Pp.flat C):=by simpa using ho7
 have HTH:=hid (lies_own ho7' (by omega));obtain⟨at1,ct,rfl⟩:=lies_shape HTH.out
 have hb57:=below_tr hb6 hb7;have hb07:=below_tr hb05 hb57;have HOT7:=hid (HOT.out.below hb7);have HIN7:=hid (HIN.out.below hb57);have HRM7:=hid (show w7.cell? ⟨g,A.length*4,none⟩=some (.string ⟨#[114,111,111,109]⟩)from(hb57.cell (p:=⟨g,A.length*4,none⟩) HRM.out.2).trans HRM.out.1);have HX7:=hid (HX5.out.below hb57);have HA7:=hid (HA.out.below hb07);have HB7:=hid (HB.out.below hb07);have HC7:=hid (HC.out.below hb07);have hg7:g<w7.heap.size:=Nat.lt_of_lt_of_le HRM.out.2 hb57.size;clear ho7 ho7' hgr7 hb6 hb7 hb57 HOT HIN HRM HX5 HB5 HC5 HC6 hb05 s5 hb03 HA3;have hcapA:(A.length:Int)≤cap:=by omega
 go_wp2_with fail;go_loopw [13] (fun i wr=> ∃j:Nat,j≤2∧i= .int .i64 j∧Below w7.heap.size w7 wr) (fun i _=>2-(intOf i).toNat)
 case atStart=>exact⟨0,Nat.zero_le _,rfl,Below.refl _ _⟩
 case round=>
  obtain⟨j,hj,rfl,hbel⟩:=hrel
  by_cases hlt:j<2
  · have hlt2:(j:Int)<2:=by omega
    obtain⟨z,hz⟩: ∃z,z=wr.heap.size:=⟨_,rfl⟩
    have HZ:=hid hz;have hXr:=HX7.out.below hbel;have x0:=hXr.cell 0 rfl;have x1:=hXr.cell 1 rfl;have x2:=hXr.cell 2 rfl;have x3:=hXr.cell 3 rfl;have x4:=hXr.cell 4 rfl;have hz7:=hbel.size;rw[←hz]at hz7;clear hXr hz;go_wp2_with fail;refine(tapply_allO A _ k p q t bs 5 _ (HIN7.out.below hbel) HSA.out (by have:=HPQ.out.1;omega) (by have:=HPQ.out.2.1;omega) (by have:=HPQ.out.2.2;omega)).mono ?_
    rintro e wa ⟨vt,rfl,hT,hba⟩;have HTl:=hid hT.1;have HTs:=hid (show Spl z 4 wa vt by rw[HZ.out];exact spl_tree hT.1 hT.2);have hza:z≤wa.heap.size:=by rw[HZ.out];exact hba.size
    have hb7a:=below_tr hbel hba;clear hT x0 x1 x2 x3 x4 hba hbel;go_wp2_with fail;refine(merge_own A B C _ _ _ _ (HIN7.out.below hb7a) (HOT7.out.below hb7a) (HTH.out.below hb7a) HSA.out HSB.out HSC.out).mono ?_
    rintro e wm ⟨ve,vk,rfl,hle,hke,⟨hoe,hok⟩,hbm⟩;have HEl:=hid hle;have HKl:=hid hke;have HEs:=hid ((spl_tree hle hoe).mono hza);have HKs:=hid ((spl_cp hke hok).mono hza);have hb7m:=below_tr hb7a hbm;have hzm:=Nat.le_trans hza hbm.size;clear hle hke hoe hok;go_wp2_with fail;refine(diff_any A B _ _ _ (HIN7.out.below hb7m) (HOT7.out.below hb7m) HSA.out HSB.out).mono ?_
    rintro e wd ⟨vd,rfl,hod,hbd⟩;have HDl:=hid (liesC_row hod HDF.out.1);have HDs:=hid ((spl_ch HDl.out (own_row hod)).mono hzm);have hb7d:=below_tr hb7m hbd;have hzd:=Nat.le_trans hzm hbd.size;obtain⟨ad,cd,rfl⟩:=own_slice hod
    clear hod;go_wp2_with fail;refine(patch_own A _ (Sp.dfL A B) _ 7 _ (HIN7.out.below hb7d) HSA.out HDl.out HDF.out.2).mono ?_
    rintro e wp ⟨vp,rfl,hP,hbp⟩;have HPs:=hid ((spl_tree hP.1 hP.2).mono hzd);have hb7p:=below_tr hb7d hbp;clear hP;go_wp2_with fail;refine(same_yes A _ _ _ (HIN7.out.below hb7p) (HA7.out.below hb7p)).mono ?_
    rintro e w8 ⟨rfl,hb8⟩;have hb78:=below_tr hb7p hb8;go_wp2_with fail;refine(same_yes B _ _ _ (HOT7.out.below hb78) (HB7.out.below hb78)).mono ?_
    rintro e w9 ⟨rfl,hb9⟩;have hb79:=below_tr hb78 hb9;go_wp2_with fail;refine(same_yes C _ _ _ (HTH.out.below hb79) (HC7.out.below hb79)).mono ?_
    rintro e w10 ⟨rfl,hb10⟩;have hb710:=below_tr hb79 hb10;have hbP:=below_tr hb8 (below_tr hb9 hb10);have hbD:=below_tr hbp hbP;have hbM:=below_tr hbd hbD;have hbA:=below_tr hbm hbM;have HTl2:=hid (HTl.out.below hbA);have HEl2:=hid (HEl.out.below hbM);have HKl2:=hid (HKl.out.below hbM);have HTs2:=hid (HTs.out.keep (KeepW.below hbA));have HEs2:=hid (HEs.out.keep (KeepW.below hbM));have HKs2:=hid (HKs.out.keep (KeepW.below hbM));have HDs2:=hid (HDs.out.keep (KeepW.below hbD));have HPs2:=hid (HPs.out.keep (KeepW.below hbP));have hz10:=Nat.le_trans hza hbA.size;clear HTl HEl HKl HTs HEs HKs HDs HPs HDl hb8 hb9 hb10 hb79 hb78 hb7p hbp hbd hbm hb7d hb7m hb7a hbP hbD hbM hbA hza hzm hzd;have hrm:w10.cell? ⟨g,A.length*4,none⟩=some (.string ⟨#[114,111,111,109]⟩):=(hb710.cell (p:=⟨g,A.length*4,none⟩) hg7).trans HRM7.out;go_wp2_with fail;refine(rCheckTree_any A _ _ (HA7.out.below hb710) HPA.out).mono ?_
    rintro e w11 ⟨rfl,hb11⟩;clear hrm;go_upto_if 112 with fail;go_cut [23,24]from 55 to 185 (fun x y W=>Below w10.heap.size w10 W)
    case first=>
     have hb711:=below_tr hb710 hb11;by_cases hT:Pp.treeE A=0
     · have HT0:=hid hT
       rw[hT];have hXr:=HX7.out.below hb711;have x0:=hXr.cell 0 rfl;have x1:=hXr.cell 1 rfl;have x2:=hXr.cell 2 rfl;have x3:=hXr.cell 3 rfl;have x4:=hXr.cell 4 rfl;clear hXr hT;go_wp2_with fail;refine(changeOf_any A _ k p q t bs 5 _ (HA7.out.below hb711) (by have:=HPQ.out.1;omega) (by have:=HPQ.out.2.1;omega) (by have:=HPQ.out.2.2;omega) ((Pp.good_iff A).1 HT0.out) (by decide)).mono ?_
       rintro e w12 ⟨u,rfl,hu,hb12⟩;rw[←Pp.tapE_yes HT0.out]at hu⊢;have HU:=hid hu;clear hu x0 x1 x2 x3 x4;have hbt:=below_tr hb11 hb12;go_wp2_with fail;refine(treeIs_yes (Pp.chdR A ⟨k,p,q,t,bs⟩ 5) (Pp.chdR A ⟨k,p,q,t,bs⟩ 5) _ _ _ _ (HTl2.out.below hbt) HU.out).mono ?_
       rintro e w13 ⟨rfl,hb13⟩;have hbt2:=below_tr hbt hb13;go_wp2_with fail;go_meet
       case rel=>exact hbt2
     · have hT2:(Pp.treeE A==0)=false:=by simpa using hT
       clear hT;go_wp2_with fail;go_meet
       case rel=>exact hb11
    case rest=>
     have hb7c:=below_tr hb710 hcut;go_wp2_with fail;refine(threeTrees_any A B C _ _ _ _ (HA7.out.below hb7c) (HB7.out.below hb7c) (HC7.out.below hb7c) HPA.out HPB.out HPC.out).mono ?_
     rintro e w14 ⟨rfl,hb14⟩;rw[show(if Sp.dfE A B=0 then Pp.treeE C else Sp.dfE A B)=Mg.thE A B C from rfl];have hbc14:=below_tr hcut hb14;go_upto_if 134 with fail;go_cut [25,26,27]from 55 to 185 (fun x y v W=>Below w10.heap.size w10 W)
     case first=>
      have hb714:=below_tr hb7c hb14;by_cases h0:Mg.thE A B C=0
      · obtain⟨gA,gB,gC⟩:=Mg.th_yes h0
        have hd1:(Sp.dfE A B !=0)=false:=by rw[Sp.good_dfE ((Pp.good_iff A).1 gA) ((Pp.good_iff B).1 gB)];rfl
        have hd2:(Pp.patE A (Sp.dfL A B) 7 !=0)=false:=by
         rw[Sp.dfL,if_pos (Sp.good_dfE ((Pp.good_iff A).1 gA) ((Pp.good_iff B).1 gB)),(Sp.pat_back ((Pp.good_iff A).1 gA) ((Pp.good_iff B).1 gB) (by decide)).1];rfl
        rw[h0];go_wp2_with fail;refine(mergeOf_any A B C _ _ _ _ (HA7.out.below hb714) (HB7.out.below hb714) (HC7.out.below hb714) ((Pp.good_iff A).1 gA) ((Pp.good_iff B).1 gB) ((Pp.good_iff C).1 gC)).mono ?_
        rintro e w15 ⟨hn,hs,hb15⟩;have hbt:=below_tr hbc14 hb15;have HEt:=hid (HEl2.out.below hbt);have HKt:=hid (HKl2.out.below hbt)
        obtain⟨X,D,ve2,vk2,he,hX,hK2,hXe,hDe⟩: ∃X D ve2 vk2,e= .returned (.tuple #[ve2,vk2,.int .i64 (Mg.mE A B C)])∧(Mg.mE A B C=0→Lies w15 ve2 X)∧LiesK w15 vk2 D∧Mg.mT A B C=Pp.ifz (Mg.mE A B C) X∧Mg.mC A B C=D:=by
         cases hr:Mg.mrg A B C with
         |none=>
          obtain⟨e1,e2,e3⟩:=Mg.m_none gA gB gC hr
          exact⟨[],[],_,_,by rw[e1];exact hn hr,fun h=>absurd (e1.symm.trans h) (by decide),LiesK.nil _,by rw[e1,e2];rfl,e3⟩
         |some x=>
          obtain⟨X,D⟩:=x
          obtain⟨e1,e2,e3⟩:=Mg.m_some gA gB gC hr
          obtain⟨ve2,vk2,he,hle2,hke2,_⟩:=hs X D hr
          exact⟨X,D,ve2,vk2,by rw[e1];exact he,fun _=>hle2,hke2,by rw[e1,e2];rfl,e3⟩
        subst he;have HXX:=hid hX;have HKK:=hid hK2;have HXE:=hid hXe;have HDE:=hid hDe;clear hn hs hX hK2 hXe hDe gA gB gC h0;go_wp2_with fail;refine(treeIs_yes X X _ _ _ _ (HXE.out▸HEt.out) HXX.out).mono ?_
        rintro e w16 ⟨rfl,hb16⟩;have hbt2:=below_tr hbt hb16;go_wp2_with fail;refine(sameCopies_yes D _ _ _ ((HDE.out▸HKt.out:LiesK w15 _ D).below hb16) (HKK.out.below hb16)).mono ?_
        rintro e w17 ⟨rfl,hb17⟩;have hbt3:=below_tr hbt2 hb17;go_wp2_with fail;go_meet
        case rel=>exact hbt3
      · have h02:(Mg.thE A B C==0)=false:=by simpa using h0
        clear h0;go_wp2_with fail;go_meet
        case rel=>exact hbc14
     case rest=>
      have hb7e:=below_tr hb710 hcut;have hkc:=KeepW.below hcut;have hzc:=Nat.le_trans hz10 hcut.size;have HE3:=hid (HEs2.out.keep hkc);have HK3:=hid (HKs2.out.keep hkc);have HD3:=hid (HDs2.out.keep hkc);have HP3:=hid (HPs2.out.keep hkc);go_wp2_with fail;refine(spoilE_any _ z _ (HTs2.out.keep hkc) hzc).mono ?_
      rintro e w18 ⟨rfl,hk18,hb18⟩;have hz18:=Nat.le_trans hzc hb18.size;go_wp2_with fail;refine(spoilE_any _ z _ (HE3.out.keep hk18) hz18).mono ?_
      rintro e w19 ⟨rfl,hk19,hb19⟩;have hz19:=Nat.le_trans hz18 hb19.size;go_wp2_with fail;refine(spoilE_any _ z _ ((HP3.out.keep hk18).keep hk19) hz19).mono ?_
      rintro e w20 ⟨rfl,hk20,hb20⟩;have hz20:=Nat.le_trans hz19 hb20.size;go_wp2_with fail;refine(spoilC_any _ z _ (((HD3.out.keep hk18).keep hk19).keep hk20) hz20).mono ?_
      rintro e w21 ⟨rfl,hk21,hb21⟩;have HB21:=hid (hb7e.trans (((hb18.trans hb19).trans (hb20.trans hb21)).mono hz7));obtain⟨ka,kn,kc,rfl,hkn,hkk⟩:=(((HK3.out.keep hk18).keep hk19).keep hk20).keep hk21
      have HKK:=hid hkk;clear hkk HE3 HK3 HD3 HP3 hk18 hk19 hk20 hk21 hb18 hb19 hb20 hb21 hz18 hz19 hz20 hb7e hkc hzc hcut hb710 hz10;go_wp2_with fail;go_loopw [28] (fun i W=> ∃m:Nat,m≤kn∧i= .int .i64 m∧Hid (KeepW w21 W)∧Below z w21 W) (fun i _=>kn-(intOf i).toNat)
      case atStart=>exact⟨0,Nat.zero_le _,rfl,KeepW.refl _,Below.refl _ _⟩
      case round=>
       obtain⟨m,hm,rfl,HKW,hbi⟩:=hrel
       by_cases hmn:m<kn
       · rcases HKK.out with h0|⟨b,o,M,rfl,hzb,hB,hM⟩
         · omega
         · have hB2:=HKW.out _ _ hB
           have hm2:m*2+2≤kn*2:=by omega
           obtain⟨u1,c1⟩:=hB2.cell (show o+m*2+1<M by omega)
           have f1:=hB2.fr (o+m*2+1);clear hB hB2 hM;go_wp2_with fail;go_roundw
           case rel=>exact⟨m+1,by omega,by simp,HKW.out.set _ _ _,hbi.setCell hzb _⟩
           case measure=>simp[intOf];omega
       · have hb7f:=HB21.out.trans (hbi.mono hz7)
         clear HKK HKW hbi;go_wp2_with fail;go_roundw
         case rel=>exact⟨j+1,by omega,by simp,hb7f⟩
         case measure=>simp[intOf];omega
  · have hlt2: ¬(j:Int)<2:=by omega
    go_wp2_with fail;go_ret;exact⟨rfl,hb07.trans (hbel.mono hb07.size)⟩
end Go.Proofs.YtagibnejodgeeaaGreatDoor
namespace Go.Proofs.YtagibnejodgeeaaGreatDoor
open Go.ChangeShapes Go.WideShapes Go.ChangeAt Go.RowKit

namespace Bk
theorem mem {H:Type} {d:DataW H}: ∀{l:List (DataW H)},d∈l→Rows.uptoBulk d≤Rows.uptoBulkAll l
 |[],h=>by cases h
 |x::r,h=>by
  rw[Rows.uptoBulkAll];rcases List.mem_cons.1 h with rfl|h
  · omega
  · have:=mem h;omega
theorem len {H:Type}: ∀{l:List (DataW H)},(∀d∈l,1≤Rows.uptoBulk d)→l.length≤Rows.uptoBulkAll l
 |[],_=>Nat.zero_le _
 |x::r,h=>by
  rw[Rows.uptoBulkAll,List.length_cons];have h1:=h x (by simp);have h2:=len (l:=r) fun d hd=>h d (by simp[hd])
  omega
end Bk

theorem Tryz.cellsE:Tryz.prog.cellsOf 27=4:=by kernel_rfl
theorem Tryz.cells9:Tryz.prog.cellsOf 9=1:=by kernel_rfl
theorem Tryz.cells4:Tryz.prog.cellsOf 4=1:=by kernel_rfl
theorem Tryz.cells3:Tryz.prog.cellsOf 3=1:=by kernel_rfl
def datE {H:Type} (e:En):DataW H:= .agg [.lit (.string e.path.data.toList),.lit (.bool e.folder),.lit (.string e.text.data.toList),.lit (.int .i64 e.ver)]
theorem bulkE {H:Type} (e:En):Rows.uptoBulk (datE (H:=H) e)=e.path.size+e.text.size+5:=by
 rw[datE,Rows.uptoBulk,Rows.uptoBulkAll,Rows.uptoBulkAll,Rows.uptoBulkAll,Rows.uptoBulkAll,Rows.uptoBulkAll,Rows.uptoBulk,Rows.uptoBulk,Rows.uptoBulk,Rows.uptoBulk,Lib.size_eq,Lib.size_eq]
 · omega
 · intro b h;cases h
 · intro b h;cases h
theorem list4 {α:Type} {l:List α} (h:l.length=4): ∃a b c d,l=[a,b,c,d]:=by
 rcases l with _|⟨a,_|⟨b,_|⟨c,_|⟨d,_|⟨e,r⟩⟩⟩⟩⟩
 all_goals first|exact⟨a,b,c,d,rfl⟩|(simp at h)
theorem spot_none {W:World} {a:Addr} {v:Value} (k:W.cell? a=some v):a.spot=none:=by
 unfold World.cell? at k;cases hq:a.spot with
 |none=>rfl
 |some z=>rw[hq]at k;simp at k;split at k<;>cases k
/-- One entry of a tree that is handed in. -/
theorem open_entry {H:Type} {enc:TypeId×Value→H} {W:World} {n i:Nat} {a:Addr} {x:DataW H} {pl:List MemPlace} {cs':List Value} (ha:a.spot=none)
    (h1:W.cells? 0 (a.add (i*Tryz.prog.cellsOf 27)) (Tryz.prog.cellsOf 27)=some cs') (h2:DataW.trod enc Tryz.prog W 0 (fun _=>true) true n 27 cs'=some (x,pl)):
    ∃e:En,x=datE e∧a.spot=none∧EnAt W a.block (a.off+i*4) e:=by
 rw[Tryz.cellsE]at h1;obtain⟨_,hlen,hc⟩:=World.cells?_some h1
 obtain⟨y0,y1,y2,y3,n',hx',_,t0,t1,t2,t3⟩:=Go.Joins.trod_struct4 Tryz.underlying27 h2
 obtain⟨c0,c1,c2,c3,rfl⟩:=list4 hlen
 have t0':DataW.trod enc Tryz.prog W 0 (fun _=>true) true n' 9 [c0]=some y0:=by simpa[Tryz.cells9]using t0
 have t1':DataW.trod enc Tryz.prog W 0 (fun _=>true) true n' 4 [c1]=some y1:=by simpa[Tryz.cells4]using t1
 have t2':DataW.trod enc Tryz.prog W 0 (fun _=>true) true n' 9 [c2]=some y2:=by simpa[Tryz.cells9]using t2
 have t3':DataW.trod enc Tryz.prog W 0 (fun _=>true) true n' 3 [c3]=some y3:=by simpa[Tryz.cells3]using t3
 obtain⟨s0,e0,g0,_⟩:=DataW.trod_string Tryz.underlying9 t0'
 obtain⟨s1,e1,g1⟩:=DataW.trod_bool Tryz.underlying4 t1'
 obtain⟨s2,e2,g2,_⟩:=DataW.trod_string Tryz.underlying9 t2'
 obtain⟨s3,e3,g3,_⟩:=DataW.trod_int Tryz.underlying3 t3'
 obtain rfl:c0= .string s0:=by simpa using e0
 obtain rfl:c1= .bool s1:=by simpa using e1
 obtain rfl:c2= .string s2:=by simpa using e2
 obtain rfl:c3= .int .i64 s3:=by simpa using e3
 subst g0;subst g1;subst g2;subst g3;simp only[Prod.mk.injEq]at hx';have k0:=hc 0 (by omega);have k1:=hc 1 (by omega);have k2:=hc 2 (by omega);have k3:=hc 3 (by omega);obtain⟨ab,ao,asp⟩:=a
 obtain rfl:asp=none:=ha;refine⟨⟨s0,s1,s2,s3⟩,hx'.1,rfl,?_,?_,?_,?_⟩
 · by_cases hi0:i=0
   · subst hi0;simpa[Addr.add]using k0
   · have hi4:i*4≠0:=by omega
     simpa[Addr.add,hi4]using k0
 · by_cases hi0:i=0
   · subst hi0;simpa[Addr.add]using k1
   · have hi4:i*4≠0:=by omega
     simpa[Addr.add,hi4,Nat.add_assoc]using k1
 · by_cases hi0:i=0
   · subst hi0;simpa[Addr.add]using k2
   · have hi4:i*4≠0:=by omega
     simpa[Addr.add,hi4,Nat.add_assoc]using k2
 · by_cases hi0:i=0
   · subst hi0;simpa[Addr.add]using k3
   · have hi4:i*4≠0:=by omega
     simpa[Addr.add,hi4,Nat.add_assoc]using k3
set_option maxRecDepth 100000 in
theorem open_tree {B:Nat} (hB:B≤1000000000) {H:Type} {enc:TypeId×Value→H} {W:World} {v:Value} {d:DataW H} {p:List MemPlace} {fuel:Nat} (hf:DataW.trod enc Tryz.prog W 0 (fun _=>true) true fuel 22 [v]=some (d,p)) (hk:Rows.uptoBulk d≤B):
    ∃L:List En,Lies W v L∧L.length≤B∧ ∀e∈L,e.path.size≤B∧e.text.size≤B:=by
 haveI:Inhabited En:=⟨⟨⟨#[]⟩,false,⟨#[]⟩,0⟩⟩
 rcases Go.Deep.open_slice Tryz.underlying22 hf with⟨hcs,hx⟩|⟨a,len,cap,m,n,D,Pl,hcs,hb,hl,hm,hmm,hx,hel⟩
 · obtain rfl:v= .slice none 0 0:=by simpa using hcs
   exact⟨[],⟨none,0,rfl,Nat.le_refl _,by simp,fun i hi=>absurd hi (by simp)⟩,by simp,fun e he=>by cases he⟩
 obtain rfl:v= .slice (some a) len cap:=by simpa using hcs
 have hm2:m=cap:=hmm.trans (if_pos rfl);clear hmm;have hd:=(Prod.mk.inj hx).1;clear hx;subst hm2
 have hsp:0<len→a.spot=none:=fun h=>by
  obtain⟨cs',h1,_⟩:=hel 0 (by omega)
  rw[Tryz.cellsE]at h1;obtain⟨_,hlen,hc⟩:=World.cells?_some h1
  obtain⟨c0,c1,c2,c3,rfl⟩:=list4 hlen
  have k0:=hc 0 (by omega);exact spot_none (v:=c0) (by simpa[Addr.add]using k0)
 have each: ∀i,i<len→ ∃e:En,D i=datE e∧a.spot=none∧EnAt W a.block (a.off+i*4) e:=fun i hi=>by
  obtain⟨cs',h1,h2⟩:=hel i (by omega)
  exact open_entry (hsp (by omega)) h1 h2
 obtain⟨E,hE⟩:=Go.Deep.choose_lt each
 have hbk:Rows.uptoBulkAll ((List.range len).map D)≤B:=by
  rw[hd,Rows.uptoBulk]at hk;omega
 refine⟨(List.range len).map E,⟨some a,_,by simp;rfl,by simpa using hl,?_,fun i hi=>?_⟩,?_,fun e he=>?_⟩
 · have:=Bk.len (l:=(List.range len).map D) (fun d hd=>by
    obtain⟨i,hi,rfl⟩:=List.mem_map.1 hd
    rw[(hE i (List.mem_range.1 hi)).1,bulkE];omega)
   simp at this⊢
   omega
 · have hi':i<len:=by simpa using hi
   obtain⟨h1,h2,h3⟩:=hE i hi'
   have hlt:a.block<W.heap.size:=by
    have k:=h3.1;rcases Nat.lt_or_ge a.block W.heap.size with h|h
    · exact h
    · unfold World.cell? at k;rw[Array.getElem?_eq_none h]at k;cases k
   refine⟨a.block,a.off,?_,hlt,by simpa using h3⟩
   rw[←h2]
 · have:=Bk.len (l:=(List.range len).map D) (fun d hd=>by
    obtain⟨i,hi,rfl⟩:=List.mem_map.1 hd
    rw[(hE i (List.mem_range.1 hi)).1,bulkE];omega)
   simp at this⊢
   omega
 · obtain⟨i,hi,rfl⟩:=List.mem_map.1 he
   have h1:=Bk.mem (List.mem_map.2 ⟨i,hi,rfl⟩:D i∈(List.range len).map D);rw[(hE i (List.mem_range.1 hi)).1,bulkE]at h1;omega
end Go.Proofs.YtagibnejodgeeaaGreatDoor
namespace Go.Proofs.YtagibnejodgeeaaGreatDoor
open Go.ChangeShapes Go.WideShapes Go.ChangeAt Go.RowKit

theorem Tryz.cellsC:Tryz.prog.cellsOf 24=5:=by kernel_rfl
theorem list5 {α:Type} {l:List α} (h:l.length=5): ∃a b c d e,l=[a,b,c,d,e]:=by
 rcases l with _|⟨a,_|⟨b,_|⟨c,_|⟨d,_|⟨e,_|⟨f,r⟩⟩⟩⟩⟩⟩
 all_goals first|exact⟨a,b,c,d,e,rfl⟩|(simp at h)
theorem fields5 {H:Type} {enc:TypeId×Value→H} {P:Program} {w:World} {base:Nat} {spare:Nat→Bool} {held:Bool} {t:TypeId} {f0 f1 f2 f3 f4:Field} {fuel:Nat} {cs:List Value} {x:DataW H×List MemPlace} (ht:P.underlying t=some (.struct #[f0,f1,f2,f3,f4])) (h:DataW.trod enc P w base spare held fuel t cs=some x):
    ∃y0 y1 y2 y3 y4 n,x=(.agg [y0.1,y1.1,y2.1,y3.1,y4.1],y0.2++(y1.2++(y2.2++(y3.2++y4.2))))∧cs.length=P.cellsOf t∧DataW.trod enc P w base spare held n f0.type ((cs.drop f0.offset).take (P.cellsOf f0.type))=some y0∧
     DataW.trod enc P w base spare held n f1.type ((cs.drop f1.offset).take (P.cellsOf f1.type))=some y1∧DataW.trod enc P w base spare held n f2.type ((cs.drop f2.offset).take (P.cellsOf f2.type))=some y2∧
     DataW.trod enc P w base spare held n f3.type ((cs.drop f3.offset).take (P.cellsOf f3.type))=some y3∧DataW.trod enc P w base spare held n f4.type ((cs.drop f4.offset).take (P.cellsOf f4.type))=some y4:=by
 obtain⟨xs,n,_,rfl,hl,hlen,hf⟩:=DataW.trod_struct ht h
 match xs,hlen with
 |[y0,y1,y2,y3,y4],_=>exact⟨y0,y1,y2,y3,y4,n,by simp,hl,by simpa using hf 0 f0 rfl,by simpa using hf 1 f1 rfl,by simpa using hf 2 f2 rfl,by simpa using hf 3 f3 rfl,by simpa using hf 4 f4 rfl⟩
set_option maxRecDepth 100000 in
theorem open_change {B:Nat} {H:Type} {enc:TypeId×Value→H} {W:World} {r:Reach} {b0:Nat} {v:Value} {d:DataW H} {pl:List MemPlace} (hv:Value.okWide Tryz.prog W r b0 24 v) (h:DataW.Trod enc Tryz.prog W 0 (fun _=>true) true 24 v d pl) (hk:Rows.uptoBulk d≤B):
    ∃(k:Int) (p q t:ByteArray) (b:Int),v= .agg #[.int .i64 k,.string p,.string q,.string t,.int .i64 b]∧p.size≤B∧q.size≤B∧t.size≤B:=by
 obtain⟨cs,rfl,hsz⟩:=okWide_struct Tryz.underlying24 hv
 obtain⟨fuel,hf⟩:=h
 have hf':DataW.trod enc Tryz.prog W 0 (fun _=>true) true fuel 24 cs.toList=some (d,pl):=by simpa[Value.cells]using hf
 obtain⟨y0,y1,y2,y3,y4,n',hx,hlen,t0,t1,t2,t3,t4⟩:=fields5 Tryz.underlying24 hf'
 rw[Tryz.cellsC]at hlen;obtain⟨c0,c1,c2,c3,c4,hcs⟩:=list5 hlen
 rw[hcs]at t0 t1 t2 t3 t4;have t0':DataW.trod enc Tryz.prog W 0 (fun _=>true) true n' 3 [c0]=some y0:=by simpa[Tryz.cells3]using t0
 have t1':DataW.trod enc Tryz.prog W 0 (fun _=>true) true n' 9 [c1]=some y1:=by simpa[Tryz.cells9]using t1
 have t2':DataW.trod enc Tryz.prog W 0 (fun _=>true) true n' 9 [c2]=some y2:=by simpa[Tryz.cells9]using t2
 have t3':DataW.trod enc Tryz.prog W 0 (fun _=>true) true n' 9 [c3]=some y3:=by simpa[Tryz.cells9]using t3
 have t4':DataW.trod enc Tryz.prog W 0 (fun _=>true) true n' 3 [c4]=some y4:=by simpa[Tryz.cells3]using t4
 obtain⟨s0,e0,g0,_⟩:=DataW.trod_int Tryz.underlying3 t0'
 obtain⟨s1,e1,g1,_⟩:=DataW.trod_string Tryz.underlying9 t1'
 obtain⟨s2,e2,g2,_⟩:=DataW.trod_string Tryz.underlying9 t2'
 obtain⟨s3,e3,g3,_⟩:=DataW.trod_string Tryz.underlying9 t3'
 obtain⟨s4,e4,g4,_⟩:=DataW.trod_int Tryz.underlying3 t4'
 obtain rfl:c0= .int .i64 s0:=by simpa using e0
 obtain rfl:c1= .string s1:=by simpa using e1
 obtain rfl:c2= .string s2:=by simpa using e2
 obtain rfl:c3= .string s3:=by simpa using e3
 obtain rfl:c4= .int .i64 s4:=by simpa using e4
 subst g0;subst g1;subst g2;subst g3;subst g4;simp only[Prod.mk.injEq]at hx;have hb:=hx.1;rw[hb,Rows.uptoBulk,Rows.uptoBulkAll,Rows.uptoBulkAll,Rows.uptoBulkAll,Rows.uptoBulkAll,Rows.uptoBulkAll,Rows.uptoBulkAll,Rows.uptoBulk,Rows.uptoBulk,Rows.uptoBulk,Rows.uptoBulk,Rows.uptoBulk]at hk
 · refine⟨s0,s1,s2,s3,s4,?_,?_,?_,?_⟩
   · congr 1
     exact Array.ext' (by simpa using hcs)
   · rw[Lib.size_eq];omega
   · rw[Lib.size_eq];omega
   · rw[Lib.size_eq];omega
 · intro b h;cases h
 · intro b h;cases h
end Go.Proofs.YtagibnejodgeeaaGreatDoor
namespace Go.Proofs.YtagibnejodgeeaaGreatDoor.Pp
def lay (cs:List Value) (o:Obj):Obj:=match o with
 | .cells _ t frozen=> .cells cs.toArray t frozen
 |o=>o
def u8s (l:List Nat):List Value:=l.map fun(n:Nat)=>Value.int .u8 (n:Int)
def pows:List Value:=[.int .u64 1,.int .u64 10,.int .u64 100,.int .u64 1000,.int .u64 10000,.int .u64 100000,.int .u64 1000000,.int .u64 10000000,.int .u64 100000000,.int .u64 1000000000,.int .u64 10000000000,.int .u64 100000000000,.int .u64 1000000000000,.int .u64 10000000000000,.int .u64 100000000000000,.int .u64 1000000000000000,.int .u64 10000000000000000,.int .u64 100000000000000000,.int .u64 1000000000000000000,.int .u64 10000000000000000000]
def tab32:List Value:=u8s [0,1,28,2,29,14,24,3,30,22,20,15,25,17,4,8,31,27,13,23,21,19,16,7,26,12,18,6,11,5,10,9]
def tab64:List Value:=u8s [0,1,56,2,57,49,28,3,61,58,42,50,38,29,17,4,62,47,59,36,45,43,51,22,53,39,33,30,24,18,12,5,63,55,48,27,60,41,37,16,46,35,44,21,52,32,23,11,54,26,40,15,34,20,31,10,25,14,19,9,13,8,7,6]
def ranges:List Value:=u8s [128,191,160,191,128,159,144,191,128,143,0,0,0,0,0,0,0,0,0,0,0,0,0,0,0,0,0,0,0,0,0,0]
def tabs (h:Array Obj):Array Obj:=((((h.modify 1 (lay pows)).modify 2 (lay tab32)).modify 3 (lay tab64)).modify 4 (lay (u8s Go.Pinned.utf8FirstZ))).modify 5 (lay ranges)
end Go.Proofs.YtagibnejodgeeaaGreatDoor.Pp
