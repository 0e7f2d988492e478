/- What delta.makes and delta.Diff answer of two trees. -/
import Derived.Test.YtlllcifehellpaaGreatDoorCKD
import Derived.Test.YtlllcifehellpaaGreatDoorCKB
import Derived.Laws.OwnMore
import Derived.Test.YtlllcifehellpaaGreatDoorCKG
import Derived.Test.YtlllcifehellpaaGreatDoorCKC
import Derived.Test.YtlllcifehellpaaGreatDoorCKE
import Derived.Test.YtlllcifehellpaaGreatDoorCKA
import Derived.Maps.OwnSet
import Derived.StringKeys
set_option linter.unusedSimpArgs false
set_option linter.unusedVariables false
namespace Go.Proofs.YtlllcifehellpaaGreatDoor
open Go.RowKit Go.Maps Go.WideMaps

set_option maxRecDepth 100000 in
set_option maxHeartbeats 4000000 in
theorem makes_any {b c n m:Nat} {w:World} {L M:List En} (h:w.ownsMap Tryz.prog 9 Sp.rd b n (Sp.D L)) (ho:w.ownsMap Tryz.prog 9 Sp.rd c m (Sp.D M)) (hM:M.Pairwise (fun x y=>Pp.lt x y=true)) (hL:Sp.Apart L) (hn:M.length≤1000) (hp: ∀e∈M,e.path.size≤1000000000):
    Calls Tryz.prog 87 #[.map (some b),.map (some c)] w fun e w'=> ∃v,e= .returned v∧w'.ownsRow w.heap.size 53 5 v (Sp.mks L M).length (Pp.flatC (Sp.mks L M))∧Below w.heap.size w w':=by
 obtain⟨i0,hi0,hz0,hz1,hz2⟩:=info_parts Tryz.infoChg
 have hblt:=h.lt;have hclt:=ho.lt;have hap:=Sp.apart_rise hM;have HC:=hid ho
 have HLK:=hid (show∀x∈M,∀W,Below w.heap.size w W→(Instr.lookup 96 (.map (some c)) (.string x.path) false).run Tryz.prog W= .ok (.agg #[.int .i64 (Sp.wh x),.string (Sp.tx x),.int .i64 x.ver]) W∧(Instr.lookup 96 (.map (some b)) (.string x.path) false).run Tryz.prog W= .ok (.agg #[.int .i64 (Sp.wAt L x.path.data.toList),.string (Sp.tAt L x.path.data.toList),.int .i64 (Sp.vAt L x.path.data.toList)]) W from fun x hx W hW=>by
  have hs:x.path.size≤maxLen:=by have:=hp x hx;unfold maxLen;omega
  have h1:=spotAt_any (omap_below ho hW hclt) hap x.path hs;have h2:=spotAt_any (omap_below h hW hblt) hL x.path hs;rw[Sp.val,Sp.at_self hap hx]at h1;rw[Sp.val_eq]at h2;exact⟨h1,h2⟩)
 have HM:=hid hM;clear h ho hp hap hM;have hfd:=Tryz.fieldWhat;go_enter Tryz.func87,Tryz.ntmps87
 go_wp2_with fail;refine(paths_good HC.out HM.out hn).mono ?_
 rintro e w1 ⟨v1,rfl,⟨a1,cap1,rfl,hcap1,hcells⟩,hb1⟩;have HCL:=hid hcells;rw[List.length_map]at hcap1⊢;have hsz1:=hb1.size;clear hcells;go_wp2_with fail;go_loopw [5,11] (fun x i wr=> ∃k:Nat,k≤M.length∧i= .int .i64 k∧Below w1.heap.size w1 wr∧wr.ownsRow w1.heap.size 53 5 x (Sp.mks L (M.take k)).length (Pp.flatC (Sp.mks L (M.take k)))) (fun _ i _=>M.length-(intOf i).toNat)
 case atStart=>exact⟨0,Nat.zero_le _,rfl,Below.refl _ _,World.ownsRow_nil _ _ _ _⟩
 case round=>
  obtain⟨k,hk,rfl,hbel,hown⟩:=hrel
  have hb0r:Below w.heap.size w wr:=hb1.trans (hbel.mono hsz1);by_cases hlt:k<M.length
  · obtain⟨g,rfl,hg1,hg2,hcell⟩:=HCL.out k (by rw[List.length_map];exact hlt)
    rw[List.getElem_map]at hcell;have c0:=(hbel.cell (p:=⟨g,k,none⟩) hg2).trans hcell;have hmem:M[k]∈M:=List.getElem_mem hlt;obtain⟨hl1,hl2⟩:=HLK.out M[k] hmem wr hb0r
    have HLX:=hid (HLK.out M[k] hmem);have HHIT:=hid (show Sp.newB L M[k]=true→Sp.mks L (M.take (k+1))=Sp.mks L (M.take k)++[Sp.mkC M[k]]from fun hh=>by rw[Sp.mks,Pp.filter_hitE hlt hh,List.map_append];rfl);have HMISS:=hid (show Sp.newB L M[k]=false→Sp.mks L (M.take (k+1))=Sp.mks L (M.take k)from fun hh=>by rw[Sp.mks,Pp.filter_missE hlt hh];rfl)
    have hXl:(Sp.mks L (M.take k)).length≤1000:=by
     have h1:(Sp.mks L (M.take k)).length≤(M.take k).length:=by rw[Sp.mks,List.length_map];exact List.length_filter_le _ _
     have h2:=List.length_take_le k M;omega
    have hrsz:=hbel.size;have HO:=hid hown;clear hown hcell hmem;generalize M[k]=x at*;generalize Sp.mks L (M.take k)=X at*;cases hlk:((Sp.wh x==Sp.wAt L x.path.data.toList) && ((Sp.tx x).toList==(Sp.tAt L x.path.data.toList).toList))with
    |true=>
     have HX:=hid (HMISS.out (by rw[Sp.newB,hlk];rfl));have HLI:=hid hlk;clear HHIT HMISS hlk;go_wp2_with fail;refine(like_any _ _ _ _ _ _ _).mono ?_
     rintro e w2 ⟨rfl,hb2⟩;rw[HLI.out];have hbel2:=below_trans hbel hb2;have HO2:=hid (HO.out.kept9 hb2);clear hb2 hl1 hl2 c0;go_wp2_with fail;go_roundw
     case rel=>exact⟨k+1,by omega,by simp,hbel2,by rw[HX.out];exact HO2.out⟩
     case measure=>simp[intOf];omega
    |false=>
     have HX:=hid (HHIT.out (by rw[Sp.newB,hlk];rfl));have HLI:=hid hlk;clear HHIT HMISS hlk;go_wp2_with fail;refine(like_any _ _ _ _ _ _ _).mono ?_
     rintro e w2 ⟨rfl,hb2⟩;rw[HLI.out];have hbel2:=below_trans hbel hb2;have hb02:=below_trans hb0r hb2;have HO2:=hid (HO.out.kept9 hb2);clear hb2 hl1 hl2;obtain⟨hl1,hl2⟩:=HLX.out w2 hb02
     go_wp2_with fail;refine(made_any x _).mono ?_
     rintro e w3 ⟨rfl,hb3⟩;have hbel3:=below_trans hbel2 hb3;have hO3:=HO2.out.kept9 hb3;have hsz3:=hbel3.size;clear hb3 hl1 hl2 c0;go_wp2_with (at_builtin;refine wpList_append_own _ rfl _ _ 23 rfl w1.heap.size 53 i0 (.agg #[.int .i64 0,.string ⟨#[]⟩,.string ⟨#[]⟩,.string ⟨#[]⟩,.int .i64 0]) 5 64 Tryz.underlying23 hi0 hz0 hz1 hz2 rfl (by decide) _ _ _ rfl (hO3.alloc _) ⟨w3.heap.size,0,none⟩ 1 1 (Pp.cellsC (Sp.mkC x)) rfl rfl (new_cellsC w3 (Sp.mkC x) _) (Pp.cellsC_one _) (by unfold maxLen;omega) (by omega) (by simp;omega) ?_)
     intro v5 w5 ho5 hgr5 hnn5;have hbel5:Below w1.heap.size w1 w5:=(hbel3.alloc hbel3.size _).grown hgr5 (by simp;omega) (fun q hq=>(hO3.lt q hq).1);rw[Pp.flatC_snoc]at ho5;have HO5:=hid (show w5.ownsRow w1.heap.size 53 5 v5 (X++[Sp.mkC x]).length (Pp.flatC (X++[Sp.mkC x]))from by rw[List.length_append];exact ho5);clear ho5 hgr5 hnn5 hO3;go_wp2_with fail;go_roundw
     case rel=>exact⟨k+1,by omega,by simp,hbel5,by rw[HX.out];exact HO5.out⟩
     case measure=>simp[intOf];omega
  · obtain rfl:k=M.length:=by omega
    rw[List.take_length]at hown;have HO:=hid (ownsRow_low hown hsz1);clear hown;go_wp2_with fail;go_ret;exact⟨_,rfl,HO.out,hb0r⟩
end Go.Proofs.YtlllcifehellpaaGreatDoor
namespace Go.Proofs.YtlllcifehellpaaGreatDoor
open Go.RowKit

/-- What may be appended: nil, or so many records that lie at an address. -/
def SrcC (w:World) (sx:Value) (m size:Nat) (news:List Value):Prop:=(sx= .slice none 0 0∧m=0∧news=[])∨ ∃ad c,sx= .slice (some ad) m c∧news.length=m*size∧(∀j u,news[j]?=some u→w.cell? (ad.add j)=some u)
theorem SrcC.own {w:World} {B:Nat} {e:TypeId} {size:Nat} {v:Value} {n:Nat} {xs:List Value} (h:w.ownsRow B e size v n xs):SrcC w v n size xs:=by
 have h':=h;obtain⟨hl,h2⟩:=h
 rcases h2 with⟨rfl,rfl⟩|⟨g,cap,cur,rfl,hg,hh,hn,hm,hz,htake⟩
 · exact Or.inl ⟨rfl,rfl,List.length_eq_zero_iff.1 (by rw[hl];simp)⟩
 · refine Or.inr ⟨⟨g,0,none⟩,cap,rfl,hl,fun j u hj=>?_⟩
   have hadd:(⟨g,0,none⟩:Addr).add j=⟨g,j,none⟩:=by unfold Addr.add;split<;>simp_all
   have hlt:j<n*size:=by
    have:=(List.getElem?_eq_some_iff.1 hj).1
    omega
   rw[hadd,h'.cellAt j hlt];exact hj
theorem wpList_append_may {P:Program} {w:World} {ops:Array Oper} {rest:List Oper} {o:Oper} {a:Act} {Q:Exit→Act→World→Prop} (hgd:o.guard=none)
    (s x:Operand) (t:TypeId) (hop:o.op=Op.call {callee:=Callee.builtin Builtin.append,args:= #[s,x],argTypes:= #[t,t]})
    (base:Nat) (e:TypeId) (i:TypeInfo) (z:Value) (size bytes:Nat) (ht:P.underlying t=some (.slice e)) (hi:P.info? e=some i) (hz:i.zero=some z)
    (hsize:i.size=size) (hby:i.bytes=bytes) (hzs:z.cells.size=size) (hsz:0<size)
    (v:Value) (n:Nat) (xs:List Value) (hs:a.eval s=v) (hown:w.ownsRow base e size v n xs)
    (sx:Value) (m:Nat) (news:List Value) (hx:a.eval x=sx) (hsx:SrcC w sx m size news) (h1: ∀u∈news,u.oneCell'=true)
    (h63:n+m≤maxLen) (hbytes:(n+m)*bytes≤140737488355328) (hbase:base≤w.heap.size)
    (h: ∀v' w',w'.ownsRow base e size v' (n+m) (xs++news)→w.grownBy w' v.ownBlock→wpList P ops Q rest (a.put o.dst v') w'):
    wpList P ops Q (o::rest) a w:=by
 rcases hsx with⟨rfl,rfl,rfl⟩|⟨ad,c,rfl,hl,hnews⟩
 · refine wpList_plain hgd fun K hK=>?_
   have hrun:=run_append_owned_none (P:=P) (w:=w) base t o.type e i size ht hi v n xs hown;unfold Oper.wp;simp[execOp,hop,resolve,invoke,builtin,hs,hx,hrun,Result.andThen]
   exact hK _ _ (h v w (by simpa using hown) (World.grownBy.refl _ _))
 · exact wpList_append_own w hgd s x t hop base e i z size bytes ht hi hz hsize hby hzs hsz v n xs hs hown ad m c news hx hl hnews h1 h63 hbytes hbase fun v' w' h1 h2 _=>h v' w' h1 h2
end Go.Proofs.YtlllcifehellpaaGreatDoor
namespace Go.Proofs.YtlllcifehellpaaGreatDoor
open Go.RowKit Go.Maps Go.WideMaps

namespace Sp
def dfL (A B:List En):List Pp.Ch:=if dfE A B=0 then dels A B++mks A B else[]
theorem flatC_one (l:List Pp.Ch): ∀u∈Pp.flatC l,u.oneCell'=true:=by
 intro u hu;obtain⟨s,_,hs⟩:=List.mem_flatMap.1 hu
 exact Pp.cellsC_one s u hs
theorem flatC_app (a b:List Pp.Ch):Pp.flatC (a++b)=Pp.flatC a++Pp.flatC b:=by simp[Pp.flatC]
theorem dels_len (A B:List En):(dels A B).length≤A.length:=by rw[dels,List.length_map];exact List.length_filter_le _ _
theorem mks_len (A B:List En):(mks A B).length≤B.length:=by rw[mks,List.length_map];exact List.length_filter_le _ _
theorem par_le {p:List UInt8}:(Pp.par p).length≤p.length:=Pp.len_par p
end Sp

set_option maxRecDepth 100000 in
set_option maxHeartbeats 2000000 in
theorem diff_any (A B:List En) (va vb:Value) (w:World) (hA:Lies w va A) (hB:Lies w vb B) (hsA:Sized A) (hsB:Sized B):
    Calls Tryz.prog 64 #[va,vb] w fun e w'=> ∃u,e= .returned (.tuple #[u,.int .i64 (Sp.dfE A B)])∧w'.ownsRow w.heap.size 53 5 u (Sp.dfL A B).length (Pp.flatC (Sp.dfL A B))∧Below w.heap.size w w':=by
 obtain⟨i0,hi0,hz0,hz1,hz2⟩:=info_parts Tryz.infoChg
 have HVA:=hid hA;have HVB:=hid hB;have HSA:=hid hsA;have HSB:=hid hsB;clear hA hB hsA hsB;by_cases ha:Pp.treeE A=0
 · by_cases hb:Pp.treeE B=0
   · have hdz:Sp.dfE A B=0:=by rw[Sp.dfE,if_pos ha,hb]
     have HDL:=hid (show Sp.dfL A B=Sp.dels A B++Sp.mks A B from by rw[Sp.dfL,if_pos hdz]);have HDZ:=hid hdz;have hgA:=(Pp.good_iff A).1 ha;have hgB:=(Pp.good_iff B).1 hb;have HGA:=hid hgA;have HGB:=hid hgB;have hlA:=hgA.len;have hlB:=hgB.len;have hdl:=Sp.dels_len A B;have hml:=Sp.mks_len A B
     have HPA:=hid (show∀e∈A,e.path.size≤1000000000∧Pp.chk e.path.data.toList=0∧(Pp.par e.path.data.toList).length≤e.path.size from fun e he=>by
      have h1:=Pp.chk_len (Pp.entE_path (hgA.ents e he));have h2:e.path.data.toList.length=e.path.size:=by rw[Lib.size_eq]
      exact⟨by omega,Pp.entE_path (hgA.ents e he),by rw[←h2];exact Sp.par_le⟩)
     have HPB:=hid (show∀e∈B,e.path.size≤1000000000 from fun e he=>by
      have h1:=Pp.chk_len (Pp.entE_path (hgB.ents e he));have h2:e.path.data.toList.length=e.path.size:=by rw[Lib.size_eq]
      omega)
     have HTA:=hid ha;have HTB:=hid hb;clear ha hb hdz hgA hgB;go_enter Tryz.func64,Tryz.ntmps64
     go_wp2_with fail;refine(tcheck_all A _ _ HVA.out HSA.out).mono ?_
     rintro e w1 ⟨rfl,hb1⟩;rw[HTA.out];go_wp2_with fail;refine(tcheck_all B _ _ (HVB.out.below hb1) HSB.out).mono ?_
     rintro e w2 ⟨rfl,hb2⟩;rw[HTB.out];have hb02:=below_trans hb1 hb2;clear hb1 hb2;go_wp2_with fail;refine(spotOf_any A _ _ (HVA.out.below hb02) (by omega) (fun e he=>by have:=(HPA.out e he).1;unfold maxLen;omega)).mono ?_
     rintro e w3 ⟨b,rfl,hbb,hob,hb3⟩;have HOB:=hid hob;have hb03:=below_trans hb02 hb3;clear hb3 hob;go_wp2_with fail;refine(spotOf_any B _ _ (HVB.out.below hb03) (by omega) (fun e he=>by have:=HPB.out e he;unfold maxLen;omega)).mono ?_
     rintro e w4 ⟨c,rfl,hcc,hoc,hb4⟩;have HOC:=hid hoc;have HOB4:=hid (omap_below HOB.out hb4 HOB.out.lt);have hb04:=below_trans hb03 hb4;clear hb4 hoc;go_wp2_with fail;refine(deletes_any HOB4.out HOC.out HGA.out.rise (Sp.apart_rise HGB.out.rise) (by omega) HPA.out).mono ?_
     rintro e w5 ⟨v5,rfl,hr5,hb5⟩;have HOB5:=hid (omap_below HOB4.out hb5 HOB4.out.lt);have HOC5:=hid (omap_below HOC.out hb5 HOC.out.lt);have HR5:=hid hr5;have hb05:=below_trans hb04 hb5;clear hb5 hr5;go_wp2_with fail;refine(makes_any HOB5.out HOC5.out HGB.out.rise (Sp.apart_rise HGA.out.rise) (by omega) HPB.out).mono ?_
     rintro e w6 ⟨v6,rfl,hr6,hb6⟩;have HR56:=hid (HR5.out.kept9 hb6);have HR6:=hid (SrcC.own hr6);have hb06:=below_trans hb05 hb6;have hsz6:=hb06.size;have hsz4:=hb04.size;clear hb6 hr6;go_wp2_with (at_builtin;refine wpList_append_may rfl _ _ 23 rfl w.heap.size 53 i0 (.agg #[.int .i64 0,.string ⟨#[]⟩,.string ⟨#[]⟩,.string ⟨#[]⟩,.int .i64 0]) 5 64 Tryz.underlying23 hi0 hz0 hz1 hz2 rfl (by decide) v5 (Sp.dels A B).length (Pp.flatC (Sp.dels A B)) rfl (ownsRow_low HR56.out hsz4) v6 (Sp.mks A B).length (Pp.flatC (Sp.mks A B)) rfl HR6.out (Sp.flatC_one _) (by unfold maxLen;omega) (by omega) hsz6 ?_)
     intro v7 w7 ho7 hgr7;have hb07:Below w.heap.size w w7:=hb06.grown hgr7 hsz6 (fun q hq=>Nat.le_trans hsz4 (HR56.out.lt q hq).1);rw[←Sp.flatC_app]at ho7;have HO7:=hid (show w7.ownsRow w.heap.size 53 5 v7 (Sp.dfL A B).length (Pp.flatC (Sp.dfL A B))from by rw[HDL.out,List.length_append];exact ho7);clear ho7 hgr7;go_wp2_with fail;go_ret2;exact⟨_,by rw[HDZ.out];rfl,HO7.out,hb07⟩
   · have hE:Sp.dfE A B=Pp.treeE B:=by rw[Sp.dfE,if_pos ha]
     have HE:=hid hE;have HL:=hid (show Sp.dfL A B=[]from by rw[Sp.dfL,if_neg (by rw[hE];exact hb)]);have HTA:=hid ha;have hz:(Pp.treeE B==0)=false:=by simpa using hb
     clear ha hb hE;go_enter Tryz.func64,Tryz.ntmps64
     go_wp2_with fail;refine(tcheck_all A _ _ HVA.out HSA.out).mono ?_
     rintro e w1 ⟨rfl,hb1⟩;rw[HTA.out];go_wp2_with fail;refine(tcheck_all B _ _ (HVB.out.below hb1) HSB.out).mono ?_
     rintro e w2 ⟨rfl,hb2⟩;have hb02:=below_trans hb1 hb2;generalize hy:Pp.treeE B=y at*;go_wp2_with fail;go_ret2;exact⟨_,by rw[HE.out];rfl,by rw[HL.out];exact World.ownsRow_nil _ _ _ _,hb02⟩
 · have hE:Sp.dfE A B=Pp.treeE A:=by rw[Sp.dfE,if_neg ha]
   have HE:=hid hE;have HL:=hid (show Sp.dfL A B=[]from by rw[Sp.dfL,if_neg (by rw[hE];exact ha)]);have hz:(Pp.treeE A==0)=false:=by simpa using ha
   clear ha hE;go_enter Tryz.func64,Tryz.ntmps64
   go_wp2_with fail;refine(tcheck_all A _ _ HVA.out HSA.out).mono ?_
   rintro e w1 ⟨rfl,hb1⟩;generalize hy:Pp.treeE A=y at*;go_wp2_with fail;go_ret2;exact⟨_,by rw[HE.out];rfl,by rw[HL.out];exact World.ownsRow_nil _ _ _ _,hb1⟩
end Go.Proofs.YtlllcifehellpaaGreatDoor
namespace Go.Proofs.YtlllcifehellpaaGreatDoor
open Go.RowKit

namespace Cy
def setB (b:Int) (x:Pp.Ch):Pp.Ch:=⟨x.k,x.p,x.q,x.t,b⟩
def akL (c:Cn):List Pp.Ch:=((Sp.dfL c.base c.mine).take 20).map (setB c.cur)
/-- Changes whose base is told so far. -/
def toB (b:Int) (l:List Pp.Ch) (i:Nat):List Pp.Ch:=(l.take i).map (setB b)++l.drop i
theorem toB_len (b:Int) (l:List Pp.Ch) (i:Nat):(toB b l i).length=l.length:=by
 rw[toB,List.length_append,List.length_map,List.length_take,List.length_drop];omega
theorem flatC_cons (c:Pp.Ch) (l:List Pp.Ch):Pp.flatC (c::l)= .int .i64 c.k:: .string c.p:: .string c.q:: .string c.t:: .int .i64 c.b::Pp.flatC l:=rfl
theorem toB_flat: ∀(b:Int) (l:List Pp.Ch) (i:Nat),i<l.length→Pp.flatC (toB b l (i+1))=(Pp.flatC (toB b l i)).set (i*5+4) (.int .i64 b)
 |b,c::l,0,_=>rfl
 |b,c::l,i+1,h=>by
  have ih:=toB_flat b l i (by simpa using h);have e1:toB b (c::l) (i+1+1)=setB b c::toB b l (i+1):=rfl;have e2:toB b (c::l) (i+1)=setB b c::toB b l i:=rfl;rw[e1,e2,flatC_cons,flatC_cons,ih,show(i+1)*5+4=(i*5+4)+1+1+1+1+1 by omega];simp
end Cy
theorem ownsRow_set' {w:World} {base g n cap size:Nat} {e:TypeId} {xs:List Value} (h:w.ownsRow base e size (.slice (some ⟨g,0,none⟩) n cap) n xs) (j:Nat) (u:Value):(w.setCell ⟨g,j,none⟩ u).ownsRow base e size (.slice (some ⟨g,0,none⟩) n cap) n (xs.set j u):=by
 obtain⟨hl,hc⟩:=h
 refine⟨by rw[List.length_set];exact hl,?_⟩
 rcases hc with⟨hc,_⟩|⟨g',cap',cur,hv,hg,hh,h1,h2,h3,h4⟩
 · cases hc
 · injection hv with e1 _ e3
   injection e1 with e1
   injection e1 with e1 _ _
   subst e1;subst e3;refine Or.inr ⟨g,cap,cur.setIfInBounds j u,rfl,hg,?_,h1,h2,by simpa using h3,?_⟩
   · unfold World.setCell
     simp only[Array.getElem?_modify,hh,if_true,Option.map_some];rfl
   · rw[Array.toList_setIfInBounds,List.take_set,h4]
set_option maxRecDepth 100000 in
set_option maxHeartbeats 8000000 in
theorem asking_some (c:Cn) (vb vm va:Value) (w:World) (hvb:Lies w vb c.base) (hvm:Lies w vm c.mine) (hva:LiesC w va c.ask) (hs:SizedN c) (hB:Pp.treeE c.base=0) (hM:Pp.treeE c.mine=0) (h0: ¬(Sp.dfL c.base c.mine).length=0) (hn:(Sp.dfL c.base c.mine).length≤1000) (hk:c.keys<1000000) (hk0:0≤c.keys) (num:ByteArray) (hnum:num.size≤1000)
    (hI: ∀W,Below w.heap.size w W→Calls Tryz.prog 65 #[.int .i64 (c.keys+1)] W fun e w'=>e= .returned (.string num)∧Below W.heap.size W w'):
    Calls Tryz.prog 42 #[.agg #[.string c.who,.string c.fo,vb,.int .i64 c.cur,vm,.string c.key,va,.int .i64 c.keys]] w fun e w'=> ∃u,e= .returned (.tuple #[.agg #[.string c.who,.string c.fo,vb,.int .i64 c.cur,vm,.string (c.who++⟨#[45]⟩++num),u,.int .i64 (c.keys+1)],.int .i64 0])∧LiesC w' u (Cy.akL c)∧Own w.heap.size w' u∧Below w.heap.size w w':=by
 have HS:=hid hs;have HI:=hid hI;have HE:=hid (show Sp.dfE c.base c.mine=0 from by rw[Sp.dfE,if_pos hB];exact hM);have HB:=hid hvb;have HM:=hid hvm;obtain⟨ab,cb,rfl,_⟩:=hvb
 obtain⟨am,cm,rfl,_⟩:=hvm
 obtain⟨aa,ca,rfl,_⟩:=hva
 clear hs hB hM hI;obtain⟨l,hl⟩: ∃l,l=Sp.dfL c.base c.mine:=⟨_,rfl⟩
 have HAK:=hid (show Cy.akL c=(l.take 20).map (Cy.setB c.cur)from by rw[hl];rfl);rw[←hl]at h0 hn;have HLL:=hid hl;clear hl;obtain⟨wz,hwz⟩: ∃wz,wz=(w.alloc (.cells #[.string c.who,.string c.fo,.slice ab c.base.length cb,.int .i64 c.cur,.slice am c.mine.length cm,.string c.key,.slice aa c.ask.length ca,.int .i64 c.keys] 25)).alloc (.cells #[.string ⟨#[]⟩,.string ⟨#[]⟩,.slice none 0 0,.int .i64 0,.slice none 0 0,.string ⟨#[]⟩,.slice none 0 0,.int .i64 0] 25):=⟨_,rfl⟩
 have hbz:Below w.heap.size w wz:=by rw[hwz];exact((Below.refl _ _).alloc (Nat.le_refl _) _).alloc (by simp) _
 have HX:Hid (Cs wz w.heap.size [.string c.who,.string c.fo,.slice ab c.base.length cb,.int .i64 c.cur,.slice am c.mine.length cm,.string c.key,.slice aa c.ask.length ca,.int .i64 c.keys]):=(by rw[hwz];exact(Cs.new w [.string c.who,.string c.fo,.slice ab c.base.length cb,.int .i64 c.cur,.slice am c.mine.length cm,.string c.key,.slice aa c.ask.length ca,.int .i64 c.keys] _).below ((Below.refl _ _).alloc (Nat.le_refl _) _):Cs wz w.heap.size _)
 have HY:=hid (show Cs wz (w.heap.size+1) zs from by
  have:=Cs.new (w.alloc (.cells #[.string c.who,.string c.fo,.slice ab c.base.length cb,.int .i64 c.cur,.slice am c.mine.length cm,.string c.key,.slice aa c.ask.length ca,.int .i64 c.keys] 25)) zs 25
  rw[hwz];simpa using this)
 have hNz:w.heap.size+1<wz.heap.size:=HY.out.lt;go_enter Tryz.func42,Tryz.ntmps42
 go_wp2_with fail;rw[←hwz];clear hwz;refine(diff_any c.base c.mine _ _ _ (HB.out.below hbz) (HM.out.below hbz) HS.out.base HS.out.mine).mono ?_
 rintro e w1 ⟨u1,rfl,hr1,hb1⟩;rw[HE.out];rw[←HLL.out]at hr1;have hb01:=below_tr hbz hb1;have hs1:=hb1.size;have HX1:=hid (HX.out.below hb1);have HY1:=hid (HY.out.below hb1)
 obtain⟨g,lc,rfl,hgl,hlc⟩: ∃g lc,u1= .slice (some ⟨g,0,none⟩) l.length lc∧wz.heap.size≤g∧l.length≤lc:=by
  obtain⟨_,h2⟩:=hr1
  rcases h2 with⟨_,h3⟩|⟨g,cap,cur,rfl,hg,_,hc,_⟩
  · exact absurd h3 h0
  · exact⟨g,cap,rfl,hg,hc⟩
 have HR1:=hid hr1;have hn0:((l.length:Int)==0)=false:=by simpa using (by omega: ¬(l.length:Int)=0)
 have hki: ¬1000000≤c.keys:=by omega
 have p7:=HX1.out.cell 7 rfl;obtain⟨m,hm⟩: ∃m,m=min l.length 20:=⟨_,rfl⟩
 have hmm:min (l.length:Int) 20=(m:Int):=by omega
 have hml:m≤l.length:=by omega
 have hmlc:m≤lc:=by omega
 clear hr1;go_wp2_with fail;go_loopw [35] (fun x wr=> ∃i:Nat,i≤m∧x= .int .i64 i∧Hid (wr.ownsRow wz.heap.size 53 5 (.slice (some ⟨g,0,none⟩) l.length lc) l.length (Pp.flatC (Cy.toB c.cur l i)))∧Hid (Cs wr w.heap.size [.string c.who,.string c.fo,.slice ab c.base.length cb,.int .i64 c.cur,.slice am c.mine.length cm,.string c.key,.slice aa c.ask.length ca,.int .i64 c.keys])∧Hid (Cs wr (w.heap.size+1) zs)∧Below w.heap.size w wr) (fun x _=>m-(intOf x).toNat)
 case atStart=>exact⟨0,Nat.zero_le _,rfl,(by rw[show Cy.toB c.cur l 0=l from by simp[Cy.toB]];exact HR1.out:w1.ownsRow wz.heap.size 53 5 (.slice (some ⟨g,0,none⟩) l.length lc) l.length (Pp.flatC (Cy.toB c.cur l 0))),HX1,HY1,hb01⟩
 case round=>
  obtain⟨i,hi,rfl,HR2,HX2,HY2,hbel⟩:=hrel
  clear HX1 HY1 HR1 p7;by_cases hil:i<m
  · have hili:(i:Int)<m:=by omega
    have p3:=HX2.out.cell 3 rfl;have r4:=HR2.out.cellAt (i*5+4) (by omega);rw[Pp.flatC_at _ i (by rw[Cy.toB_len];omega) 4 (by decide)]at r4;have f4:=HR2.out.frozenAt (i*5+4);obtain⟨ov,r4⟩: ∃ov:Int,wr.cell? ⟨g,i*5+4,none⟩=some (.int .i64 ov):=⟨_,r4⟩
    have hne: ¬w.heap.size=g:=by omega
    have HR3:=hid (show(wr.setCell ⟨g,i*5+4,none⟩ (.int .i64 c.cur)).ownsRow wz.heap.size 53 5 (.slice (some ⟨g,0,none⟩) l.length lc) l.length (Pp.flatC (Cy.toB c.cur l (i+1)))from by rw[Cy.toB_flat c.cur l i (by omega)];exact ownsRow_set' HR2.out _ _);have HX3:=hid (HX2.out.other (b':=g) (o:=i*5+4) (by omega) (.int .i64 c.cur));have HY3:=hid (HY2.out.other (b':=g) (o:=i*5+4) (by omega) (.int .i64 c.cur));have hbel3:Below w.heap.size w (wr.setCell ⟨g,i*5+4,none⟩ (.int .i64 c.cur)):=hbel.setCell (p:=⟨g,i*5+4,none⟩) (by show w.heap.size≤g;omega) _;clear HR2 HX2 HY2;go_wp2_with fail;go_roundw
    case rel=>exact⟨i+1,by omega,rfl,HR3,HX3,HY3,hbel3⟩
    case measure=>simp[intOf];omega
  · have hili: ¬(i:Int)<m:=by omega
    have HLC:=hid (show∀W,W.ownsRow wz.heap.size 53 5 (.slice (some ⟨g,0,none⟩) l.length lc) l.length (Pp.flatC (Cy.toB c.cur l i))→LiesC W (.slice (some ⟨g,0,none⟩) m lc) (Cy.akL c)∧Own w.heap.size W (.slice (some ⟨g,0,none⟩) m lc)from fun W h=>by
     have him:i=m:=by omega
     have hal:(Cy.akL c).length=m:=by rw[HAK.out,List.length_map,List.length_take];omega
     have hg: ∀(j:Nat) (hj:j<(Cy.akL c).length) (hj2:j<(Cy.toB c.cur l i).length),(Cy.toB c.cur l i)[j]=(Cy.akL c)[j]:=fun j hj hj2=>by
      have h20:j<20:=by omega
      have hjl:j<l.length:=by omega
      have e1:(Cy.akL c)[j]?=some (Cy.setB c.cur l[j]):=by rw[HAK.out];simp[h20,hjl]
      have e2:(Cy.toB c.cur l i)[j]?=some (Cy.setB c.cur l[j]):=by
       rw[Cy.toB,List.getElem?_append_left (by rw[List.length_map,List.length_take];omega)];have:j<i:=by omega
       simp[this,hjl]
      rw[List.getElem?_eq_getElem hj2]at e2;rw[List.getElem?_eq_getElem hj]at e1;injection e1 with e1
      injection e2 with e2
      rw[e1,e2]
     have hlC:LiesC W (.slice (some ⟨g,0,none⟩) l.length lc) (Cy.toB c.cur l i):=liesC_row (by rw[Cy.toB_len];exact h) (by rw[Cy.toB_len];omega);obtain⟨a',cap',e,h1,h2,h3⟩:=hlC
     injection e with ea el ec
     subst ea;subst ec;refine⟨⟨_,lc,by rw[hal],by rw[hal];exact hmlc,by rw[hal];omega,fun j hj=>?_⟩,fun b hb=>?_⟩
     · obtain⟨b,o,e1,e2,e3⟩:=h3 j (by rw[Cy.toB_len];omega)
       rw[hg j hj]at e3;exact⟨b,o,e1,e2,e3⟩
     · have h9:=own_row h b hb
       exact⟨by have:=h9.1;omega,h9.2⟩)
    have p7:=HX2.out.cell 7 rfl;have f7:=HX2.out.fr 7;obtain⟨w5,hw5⟩: ∃w5,w5=wr.setCell ⟨w.heap.size,7,none⟩ (.int .i64 (c.keys+1)):=⟨_,rfl⟩
    have HX5:Hid (Cs w5 w.heap.size [.string c.who,.string c.fo,.slice ab c.base.length cb,.int .i64 c.cur,.slice am c.mine.length cm,.string c.key,.slice aa c.ask.length ca,.int .i64 (c.keys+1)]):=(by rw[hw5];exact HX2.out.set 7 _:Cs w5 w.heap.size _)
    have HY5:=hid (show Cs w5 (w.heap.size+1) zs from by rw[hw5];exact HY2.out.other (by omega) _);have HR5:=hid (show w5.ownsRow wz.heap.size 53 5 (.slice (some ⟨g,0,none⟩) l.length lc) l.length (Pp.flatC (Cy.toB c.cur l i))from by rw[hw5];exact HR2.out.kept (row:=some w.heap.size) (nb_set _ _ _ _) (Or.inr (by simp[Value.ownBlock];omega)));have hb5:Below w.heap.size w w5:=by rw[hw5];exact hbel.setCell (p:=⟨w.heap.size,7,none⟩) (Nat.le_refl _) _
    clear HR2 HX2 HY2;go_upto_region 13 with fail;rw[←hw5];clear hw5 p7 f7;have p0:=HX5.out.cell 0 rfl;have p7:=HX5.out.cell 7 rfl;have p5:=HX5.out.cell 5 rfl;have f5:=HX5.out.fr 5;have hdr:Below w5.heap.size w5 w5.drew:=(Below.refl _ _).drew;have hws:=HS.out.who
    have hop1:Op.stringOp BinOp.add c.who ⟨#[45]⟩=pure (.string (c.who++⟨#[45]⟩)):=by
     unfold Op.stringOp;rw[if_neg (by show¬((c.who.size+1:Nat):Int)>9223372036854775807;omega)]
    have hop2:Op.stringOp BinOp.add (c.who++⟨#[45]⟩) num=pure (.string (c.who++⟨#[45]⟩++num)):=by
     unfold Op.stringOp;have hsz:(c.who++(⟨#[45]⟩:ByteArray)).size=c.who.size+1:=by rw[ByteArray.size_append];rfl
     rw[if_neg (by rw[hsz];show¬((c.who.size+1+num.size:Nat):Int)>9223372036854775807;omega)]
    go_region_held3 (fun W=>W.cell? ⟨w.heap.size,0,none⟩=some (.string c.who)∧W.cell? ⟨w.heap.size,7,none⟩=some (.int .i64 (c.keys+1))) (first|go_keep|exact⟨(World.cell?_setCell_other _ ⟨w.heap.size,5,none⟩ ⟨w.heap.size,0,none⟩ _ (by simp)).trans q0,(World.cell?_setCell_other _ ⟨w.heap.size,5,none⟩ ⟨w.heap.size,7,none⟩ _ (by simp)).trans q7⟩) (first
     |(go_at_call 65;refine(HI.out _ (below_tr hb5 hdr)).mono ?_;rintro e w6 ⟨rfl,hb6⟩;have hb56:=below_tr hdr hb6;have q0:=(HX5.out.below hb56).cell 0 rfl;have q7:=(HX5.out.below hb56).cell 7 rfl;have q5:=(HX5.out.below hb56).cell 5 rfl;have e5:=(HX5.out.below hb56).fr 5))
    subst hm;have HX6:=hid (HX5.out.below hb56);have HY6:=hid (HY5.out.below hb56);have HR6:=hid (HR5.out.kept9 hb56);have hb6w:=below_tr hb5 hb56;obtain⟨w8,hw8⟩: ∃w8,w8=(w6.setCell ⟨w.heap.size,5,none⟩ (.string (c.who++⟨#[45]⟩++num))).setCell ⟨w.heap.size,6,none⟩ (.slice (some ⟨g,0,none⟩) (min l.length 20) lc):=⟨_,rfl⟩
    have HX8:Hid (Cs w8 w.heap.size [.string c.who,.string c.fo,.slice ab c.base.length cb,.int .i64 c.cur,.slice am c.mine.length cm,.string (c.who++⟨#[45]⟩++num),.slice (some ⟨g,0,none⟩) (min l.length 20) lc,.int .i64 (c.keys+1)]):=(by rw[hw8];exact(HX6.out.set 5 _).set 6 _:Cs w8 w.heap.size _)
    have HY8:=hid (show Cs w8 (w.heap.size+1) zs from by rw[hw8];exact(HY6.out.other (by omega) _).other (by omega) _);have hne9:(Value.slice (some ⟨g,0,none⟩) l.length lc).ownBlock≠some w.heap.size:=by simp[Value.ownBlock];omega
    have HR8:=hid (show w8.ownsRow wz.heap.size 53 5 (.slice (some ⟨g,0,none⟩) l.length lc) l.length (Pp.flatC (Cy.toB c.cur l i))from by rw[hw8];exact(HR6.out.kept (row:=some w.heap.size) (nb_set _ _ _ _) (Or.inr hne9)).kept (row:=some w.heap.size) (nb_set _ _ _ _) (Or.inr hne9));have hb8:Below w.heap.size w w8:=by rw[hw8];exact(hb6w.setCell (p:=⟨w.heap.size,5,none⟩) (Nat.le_refl _) _).setCell (p:=⟨w.heap.size,6,none⟩) (Nat.le_refl _) _
    have t6:=(HX6.out.set 5 (.string (c.who++⟨#[45]⟩++num))).cell 6 rfl;have g6:=(HX6.out.set 5 (.string (c.who++⟨#[45]⟩++num))).fr 6;clear p0 p5 f5 p7 q0 q7 q5 e5 hop1 hop2 HX6 HY6 HR6 HX5 HY5 HR5;go_upto_region 15 with fail;rw[←hw8];clear hw8 t6 g6;have p0:=HX8.out.cell 0 rfl;have p1:=HX8.out.cell 1 rfl;have p2:=HX8.out.cell 2 rfl;have p3:=HX8.out.cell 3 rfl;have p4:=HX8.out.cell 4 rfl;have p5:=HX8.out.cell 5 rfl;have p6:=HX8.out.cell 6 rfl;have p7:=HX8.out.cell 7 rfl;have y0:=HY8.out.cell 0 rfl;have y1:=HY8.out.cell 1 rfl;have y2:=HY8.out.cell 2 rfl;have y3:=HY8.out.cell 3 rfl;have y4:=HY8.out.cell 4 rfl;have y5:=HY8.out.cell 5 rfl;have y6:=HY8.out.cell 6 rfl;have y7:=HY8.out.cell 7 rfl;have g0:=HY8.out.fr 0;have g1:=HY8.out.fr 1;have g2:=HY8.out.fr 2;have g3:=HY8.out.fr 3;have g4:=HY8.out.fr 4;have g5:=HY8.out.fr 5;have g6:=HY8.out.fr 6;have g7:=HY8.out.fr 7;have hne: ¬w.heap.size=w.heap.size+1:=by omega
    go_wp2_with fail;refine bodyPost_ret (v:= .tuple #[.agg #[.string c.who,.string c.fo,.slice ab c.base.length cb,.int .i64 c.cur,.slice am c.mine.length cm,.string (c.who++⟨#[45]⟩++num),.slice (some ⟨g,0,none⟩) (min l.length 20) lc,.int .i64 (c.keys+1)],.int .i64 0]) (by simp[results,Tryz.results42,go_sem,y0,y1,y2,y3,y4,y5,y6,y7]) rfl ⟨_,rfl,?_,?_,?_⟩
    · have hgz:w8.grownBy _ (some (w.heap.size+1)):=(grown_on (grown_on (grown_on (grown_on (grown_on (grown_on (grown_on (nb_set w8 (w.heap.size+1) 0 (.string c.who)) (nb_set _ (w.heap.size+1) 1 (.string c.fo))) (nb_set _ (w.heap.size+1) 2 (.slice ab c.base.length cb))) (nb_set _ (w.heap.size+1) 3 (.int .i64 c.cur))) (nb_set _ (w.heap.size+1) 4 (.slice am c.mine.length cm))) (nb_set _ (w.heap.size+1) 5 (.string (c.who++⟨#[45]⟩++num)))) (nb_set _ (w.heap.size+1) 6 (.slice (some ⟨g,0,none⟩) (min l.length 20) lc))) (nb_set _ (w.heap.size+1) 7 (.int .i64 (c.keys+1))))
      exact(HLC.out _ (HR8.out.kept (row:=some (w.heap.size+1)) hgz (Or.inr (by simp[Value.ownBlock];omega)))).1
    · have hgz:w8.grownBy _ (some (w.heap.size+1)):=(grown_on (grown_on (grown_on (grown_on (grown_on (grown_on (grown_on (nb_set w8 (w.heap.size+1) 0 (.string c.who)) (nb_set _ (w.heap.size+1) 1 (.string c.fo))) (nb_set _ (w.heap.size+1) 2 (.slice ab c.base.length cb))) (nb_set _ (w.heap.size+1) 3 (.int .i64 c.cur))) (nb_set _ (w.heap.size+1) 4 (.slice am c.mine.length cm))) (nb_set _ (w.heap.size+1) 5 (.string (c.who++⟨#[45]⟩++num)))) (nb_set _ (w.heap.size+1) 6 (.slice (some ⟨g,0,none⟩) (min l.length 20) lc))) (nb_set _ (w.heap.size+1) 7 (.int .i64 (c.keys+1))))
      exact(HLC.out _ (HR8.out.kept (row:=some (w.heap.size+1)) hgz (Or.inr (by simp[Value.ownBlock];omega)))).2
    · exact((((((((hb8.setCell (p:=⟨w.heap.size+1,0,none⟩) (Nat.le_succ _) _).setCell (p:=⟨w.heap.size+1,1,none⟩) (Nat.le_succ _) _).setCell (p:=⟨w.heap.size+1,2,none⟩) (Nat.le_succ _) _).setCell (p:=⟨w.heap.size+1,3,none⟩) (Nat.le_succ _) _).setCell (p:=⟨w.heap.size+1,4,none⟩) (Nat.le_succ _) _).setCell (p:=⟨w.heap.size+1,5,none⟩) (Nat.le_succ _) _).setCell (p:=⟨w.heap.size+1,6,none⟩) (Nat.le_succ _) _).setCell (p:=⟨w.heap.size+1,7,none⟩) (Nat.le_succ _) _)
end Go.Proofs.YtlllcifehellpaaGreatDoor
namespace Go.Proofs.YtlllcifehellpaaGreatDoor
open Go.RowKit

structure Rq where
 kind:Int
 who:ByteArray
 fo:ByteArray
 name:ByteArray
 key:ByteArray
 text:ByteArray
 num:Int
 off:Int
 base:Int
 ch:List Pp.Ch
/-- A request as a value: its changes lie in memory. -/
def LiesQ (w:World) (v:Value) (q:Rq):Prop:= ∃va,v= .agg #[.int .i64 q.kind,.string q.who,.string q.fo,.string q.name,.string q.key,.string q.text,.int .i64 q.num,.int .i64 q.off,.int .i64 q.base,va]∧LiesC w va q.ch
theorem LiesQ.below {w w':World} {v:Value} {q:Rq} (h:LiesQ w v q) (hw:Below w.heap.size w w'):LiesQ w' v q:=by
 obtain⟨va,e,h1⟩:=h
 exact⟨va,e,h1.below hw⟩
theorem liesC_nil (w:World):LiesC w (.slice none 0 0) []:=⟨none,0,rfl,Nat.le_refl _,Nat.zero_le _,fun i h=>absurd h (by simp)⟩
abbrev zq:List Value:=[.int .i64 0,.string ⟨#[]⟩,.string ⟨#[]⟩,.string ⟨#[]⟩,.string ⟨#[]⟩,.string ⟨#[]⟩,.int .i64 0,.int .i64 0,.int .i64 0,.slice none 0 0]
/-- Cells among which no entry and no change lies. -/
structure NoLies (cs:List Value):Prop where
 nb: ∀x,Value.bool x∉cs
 nc: ∀(i:Nat) (k:Int) (p q t:ByteArray) (n:Int),cs[i]?=some (.int .i64 k)→cs[i+1]?=some (.string p)→cs[i+2]?=some (.string q)→cs[i+3]?=some (.string t)→cs[i+4]?=some (.int .i64 n)→False
theorem LiesC.offbox {W W':World} {v:Value} {L:List Pp.Ch} {b:Nat} {cs:List Value} (h:LiesC W v L) (hc:Cs W b cs) (hn:NoLies cs) (hw:W.grownBy W' (some b)):LiesC W' v L:=by
 obtain⟨a,cap,rfl,h1,h2,h3⟩:=h
 refine⟨a,cap,rfl,h1,h2,fun i hi=>?_⟩
 obtain⟨g,o,rfl,hb,he⟩:=h3 i hi
 have hne:g≠b:=by
  rintro rfl;obtain⟨T,hh⟩:=hc
  obtain⟨e0,e1,e2,e3,e4⟩:=he
  simp[World.cell?,hh]at e0 e1 e2 e3 e4
  exact hn.nc _ _ _ _ _ _ e0 e1 e2 e3 e4
 have c:=cell_nb hw hb hne;exact⟨g,o,rfl,Nat.lt_of_lt_of_le hb hw.size,(c _).trans he.1,(c _).trans he.2.1,(c _).trans he.2.2.1,(c _).trans he.2.2.2.1,(c _).trans he.2.2.2.2⟩
theorem LiesN.off {W W':World} {v:Value} {c:Cn} {b:Nat} {cs:List Value} (h:LiesN W v c) (hc:Cs W b cs) (hn:NoLies cs) (hw:W.grownBy W' (some b)):LiesN W' v c:=by
 obtain⟨vb,vm,va,e,h1,h2,h3⟩:=h
 exact⟨vb,vm,va,e,h1.offbox hc hn.nb hw,h2.offbox hc hn.nb hw,h3.offbox hc hn hw⟩
theorem LiesQ.off {W W':World} {v:Value} {q:Rq} {b:Nat} {cs:List Value} (h:LiesQ W v q) (hc:Cs W b cs) (hn:NoLies cs) (hw:W.grownBy W' (some b)):LiesQ W' v q:=by
 obtain⟨va,e,h1⟩:=h
 exact⟨va,e,h1.offbox hc hn hw⟩
theorem noLies_cn (s0 s1 s5:ByteArray) (a2 a4 a6:Option Addr) (l2 l4 l6 c2 c4 c6:Nat) (i3 i7:Int):NoLies [.string s0,.string s1,.slice a2 l2 c2,.int .i64 i3,.slice a4 l4 c4,.string s5,.slice a6 l6 c6,.int .i64 i7]:=by
 refine⟨fun x h=>by simp at h,fun i k p q t n h0 h1 h2 h3 h4=>?_⟩
 rcases i with _|_|_|_|_|_|_|_|i<;>simp at h0 h1 h2
namespace Pp
/-- Change by change: how many were made, the error, and what came. -/
def runF (n:Int):List En→List Ch→Nat×Int×List En
 |T,[]=>(0,0,T)
 |T,c::r=>if appE T c n=0 then((runF n (chdR T c n) r).1+1,(runF n (chdR T c n) r).2)else(0,appE T c n,[])
/-- What is left to do behind the first changes. -/
def Left (n:Int) (L:List En) (cs:List Ch) (S:List En) (k:Nat):Prop:=runF n L cs=((runF n S (cs.drop k)).1+k,(runF n S (cs.drop k)).2)
theorem left_zero (n:Int) (L:List En) (cs:List Ch):Left n L cs L 0:=rfl
theorem left_next {n:Int} {L:List En} {cs:List Ch} {S:List En} {k:Nat} (h:Left n L cs S k) (hk:k<cs.length) (h0:appE S cs[k] n=0):Left n L cs (chdR S cs[k] n) (k+1):=by
 rw[Left]at h⊢;rw[List.drop_eq_getElem_cons hk,runF,if_pos h0]at h;rw[h];simp only[Prod.mk.injEq,and_true];omega
theorem left_stop {n:Int} {L:List En} {cs:List Ch} {S:List En} {k:Nat} (h:Left n L cs S k) (hk:k<cs.length) (h0: ¬appE S cs[k] n=0):runF n L cs=(k,appE S cs[k] n,[]):=by
 rw[Left,List.drop_eq_getElem_cons hk,runF,if_neg h0]at h;rw[h];simp
theorem left_end {n:Int} {L:List En} {cs:List Ch} {S:List En} (h:Left n L cs S cs.length):runF n L cs=(cs.length,0,S):=by
 rw[Left,List.drop_length,runF]at h;rw[h];simp
end Pp
end Go.Proofs.YtlllcifehellpaaGreatDoor
namespace Go.Proofs.YtlllcifehellpaaGreatDoor
open Go.RowKit

namespace Pp
/-- All: what is wrong with the tree, then how many there are, then change by change. -/
def allE (L:List En) (cs:List Ch) (n:Int):Int:=if¬treeE L=0 then treeE L else if 20<cs.length then 2 else(runF n L cs).2.1
def allN (L:List En) (cs:List Ch) (n:Int):Nat:=if¬treeE L=0 then 0 else if 20<cs.length then 0 else(runF n L cs).1
def allR (L:List En) (cs:List Ch) (n:Int):List En:=if¬treeE L=0 then[]else if 20<cs.length then[]else(runF n L cs).2.2
theorem all_no {L:List En} (h: ¬treeE L=0) (cs:List Ch) (n:Int):allE L cs n=treeE L∧allN L cs n=0∧allR L cs n=[]:=⟨if_pos h,if_pos h,if_pos h⟩
theorem all_many {L:List En} (h:treeE L=0) {cs:List Ch} (hm:20<cs.length) (n:Int):allE L cs n=2∧allN L cs n=0∧allR L cs n=[]:=
 ⟨by rw[allE,if_neg (fun x=>x h),if_pos hm],by rw[allN,if_neg (fun x=>x h),if_pos hm],by rw[allR,if_neg (fun x=>x h),if_pos hm]⟩
theorem all_run {L:List En} (h:treeE L=0) {cs:List Ch} (hm: ¬20<cs.length) {n:Int} {k:Nat} {e:Int} {R:List En} (hr:runF n L cs=(k,e,R)):allE L cs n=e∧allN L cs n=k∧allR L cs n=R:=
 ⟨by rw[allE,if_neg (fun x=>x h),if_neg hm,hr],by rw[allN,if_neg (fun x=>x h),if_neg hm,hr],by rw[allR,if_neg (fun x=>x h),if_neg hm,hr]⟩
end Pp

theorem runF_nil (n:Int) (L:List En):Pp.runF n L []=(0,0,L):=rfl
end Go.Proofs.YtlllcifehellpaaGreatDoor
namespace Go.Proofs.YtlllcifehellpaaGreatDoor
open Go.RowKit

/-- A commit: its number, its key, its changes. -/
structure Co where
 nu:Int
 ke:ByteArray
 ch:List Pp.Ch
/-- A journal: the tree ahead of its first commit, that one's number, its commits. -/
structure Jo where
 base:List En
 first:Int
 cos:List Co
def CoAt (w:World) (b o:Nat) (c:Co):Prop:=w.cell? ⟨b,o,none⟩=some (.int .i64 c.nu)∧w.cell? ⟨b,o+1,none⟩=some (.string c.ke)∧ ∃u,w.cell? ⟨b,o+2,none⟩=some u∧LiesC w u c.ch
def LiesO (w:World) (v:Value) (l:List Co):Prop:= ∃a cap,v= .slice a l.length cap∧l.length≤cap∧l.length≤1000000000000000∧ ∀i (h:i<l.length),∃b o,a=some ⟨b,o,none⟩∧b<w.heap.size∧CoAt w b (o+i*3) l[i]
def LiesJ (w:World) (v:Value) (J:Jo):Prop:= ∃vb vc,v= .agg #[vb,.int .i64 J.first,vc]∧Lies w vb J.base∧LiesO w vc J.cos
theorem CoAt.below {w w':World} {b o:Nat} {c:Co} (h:CoAt w b o c) (hb:b<w.heap.size) (hw:Below w.heap.size w w'):CoAt w' b o c:=by
 obtain⟨h0,h1,u,h2,h3⟩:=h
 exact⟨(hw.cell (p:=⟨b,o,none⟩) hb).trans h0,(hw.cell (p:=⟨b,o+1,none⟩) hb).trans h1,u,(hw.cell (p:=⟨b,o+2,none⟩) hb).trans h2,h3.below hw⟩
theorem LiesO.below {w w':World} {v:Value} {l:List Co} (h:LiesO w v l) (hw:Below w.heap.size w w'):LiesO w' v l:=by
 obtain⟨a,cap,hv,h1,h2,h3⟩:=h
 refine⟨a,cap,hv,h1,h2,fun i hi=>?_⟩
 obtain⟨b,o,ha,hb,he⟩:=h3 i hi
 exact⟨b,o,ha,Nat.lt_of_lt_of_le hb hw.size,he.below hb hw⟩
theorem LiesJ.below {w w':World} {v:Value} {J:Jo} (h:LiesJ w v J) (hw:Below w.heap.size w w'):LiesJ w' v J:=by
 obtain⟨vb,vc,rfl,h1,h2⟩:=h
 exact⟨vb,vc,rfl,h1.below hw,h2.below hw⟩
theorem liesO_nil (w:World):LiesO w (.slice none 0 0) []:=⟨none,0,rfl,Nat.le_refl _,by decide,fun i h=>absurd h (by simp)⟩
def SizedO (B:Nat) (l:List Co):Prop:= ∀c∈l,c.ke.size≤B∧SizedC B c.ch
theorem SizedO.mono {B B':Nat} {l:List Co} (h:SizedO B l) (hb:B≤B'):SizedO B' l:=fun c hc=>⟨Nat.le_trans (h c hc).1 hb,fun x hx=>⟨Nat.le_trans ((h c hc).2 x hx).1 hb,Nat.le_trans ((h c hc).2 x hx).2.1 hb,Nat.le_trans ((h c hc).2 x hx).2.2 hb⟩⟩
namespace Jn
/-- Of one commit, but for its changes: its number must be this one. -/
def coE (c:Co) (n:Int):Int:=if¬c.nu=n then 4 else if 1000000<n then 3 else if¬Pp.keyB c.ke.data.toList=true then 1 else if c.ch=[]then 1 else 0
/-- Commit by commit. -/
def runJ:Int→List En→List Co→Int×List En
 |_,T,[]=>(0,T)
 |n,T,c::r=>if¬coE c n=0 then(coE c n,[])else if¬Pp.allE T c.ch c.nu=0 then(Pp.allE T c.ch c.nu,[])else runJ (n+1) (Pp.allR T c.ch c.nu) r
def Apart (l:List Co):Prop:=l.Pairwise (fun x y=>x.ke.data.toList≠y.ke.data.toList)
instance (l:List Co):Decidable (Apart l):=by unfold Apart;infer_instance
def tree (J:Jo):List En:=(runJ J.first J.base J.cos).2
/-- What is left to do behind the first commits. -/
def LeftJ (J:Jo) (S:List En) (k:Nat):Prop:=runJ J.first J.base J.cos=runJ (J.first+k) S (J.cos.drop k)
theorem left_zero (J:Jo):LeftJ J J.base 0:=by rw[LeftJ];simp
theorem left_step {J:Jo} {S:List En} {k:Nat} (h:LeftJ J S k) (hk:k<J.cos.length):runJ J.first J.base J.cos=if¬coE J.cos[k] (J.first+k)=0 then(coE J.cos[k] (J.first+k),[])else if¬Pp.allE S J.cos[k].ch J.cos[k].nu=0 then(Pp.allE S J.cos[k].ch J.cos[k].nu,[])else runJ (J.first+(k+1:Nat)) (Pp.allR S J.cos[k].ch J.cos[k].nu) (J.cos.drop (k+1)):=by
 rw[LeftJ,List.drop_eq_getElem_cons hk,runJ]at h;rw[h,show J.first+(k:Int)+1=J.first+((k+1:Nat):Int) by omega]
theorem left_next {J:Jo} {S:List En} {k:Nat} (h:LeftJ J S k) (hk:k<J.cos.length) (h0:coE J.cos[k] (J.first+k)=0) (h1:Pp.allE S J.cos[k].ch J.cos[k].nu=0):LeftJ J (Pp.allR S J.cos[k].ch J.cos[k].nu) (k+1):=by
 rw[LeftJ,left_step h hk,if_neg (fun x=>x h0),if_neg (fun x=>x h1)]
theorem left_end {J:Jo} {S:List En} (h:LeftJ J S J.cos.length):runJ J.first J.base J.cos=(0,S):=by
 rw[LeftJ,List.drop_length,runJ]at h;exact h
theorem all_good {T:List En} {cs:List Pp.Ch} {n:Int} (h:Pp.allE T cs n=0):Pp.Good (Pp.allR T cs n):=by
 have ht:Pp.treeE T=0:=by
  by_cases ht:Pp.treeE T=0
  · exact ht
  · rw[(Pp.all_no ht cs n).1]at h;exact absurd h ht
 have hm: ¬20<cs.length:=fun hm=>by rw[(Pp.all_many ht hm n).1]at h;cases h
 have hr:=Pp.all_run ht hm (n:=n) (k:=(Pp.runF n T cs).1) (e:=(Pp.runF n T cs).2.1) (R:=(Pp.runF n T cs).2.2) rfl;rw[hr.1]at h;rw[hr.2.2];have hT:=(Pp.good_iff T).1 ht;clear hr ht hm;induction cs generalizing T with
 |nil=>exact hT
 |cons c r ih=>
  rw[Pp.runF]at h⊢;by_cases h0:Pp.appE T c n=0
  · rw[if_pos h0]at h⊢
    exact ih h (Pp.app_good hT h0)
  · rw[if_neg h0]at h
    exact absurd h h0
/-! Numbers by keys. -/
def key (p:ByteArray):Lit:= .string p.data.toList
def num (n:Int):DataW Unit:= .lit (.int .i64 n)
def D (l:List Co):DataW Unit:=l.foldl (fun m c=>m.put (key c.ke) (num c.nu)) (.map [])
theorem D_snoc (l:List Co) (c:Co):D (l++[c])=(D l).put (key c.ke) (num c.nu):=by simp[D]
theorem key_lit (p:ByteArray):WideAt.IsKeyLit (key p):=by simp[key,WideAt.IsKeyLit]
theorem key_inj {p q:ByteArray} (h:key p=key q):p.data.toList=q.data.toList:=by simpa[key]using h
theorem D_tidy (l:List Co):Maps.Tidy (D l):=by
 have: ∀(l:List Co) (m:DataW Unit),Maps.Tidy m→Maps.Tidy (l.foldl (fun m c=>m.put (key c.ke) (num c.nu)) m):=by
  intro l;induction l with
  |nil=>intro m h;exact h
  |cons c r ih=>intro m h;exact ih _ (h.put (key_lit _) _)
 exact this l _ Maps.tidy_empty
def hasB (l:List Co) (p:List UInt8):Bool:=l.any (fun c=>c.ke.data.toList==p)
theorem snoc_ind {α:Type} {P:List α→Prop} (h0:P []) (h1: ∀L e,P L→P (L++[e])) (L:List α):P L:=by
 have h: ∀R:List α,P R.reverse:=fun R=>by
  induction R with
  |nil=>exact h0
  |cons a r ih=>rw[List.reverse_cons];exact h1 _ _ ih
 have h2:=h L.reverse;rwa [List.reverse_reverse]at h2
theorem D_has (l:List Co) (p:ByteArray):Maps.has (D l) (key p)=hasB l p.data.toList:=by
 refine snoc_ind (P:=fun l=>Maps.has (D l) (key p)=hasB l p.data.toList) rfl ?_ l
 intro l c ih;rw[D_snoc,hasB,List.any_append];by_cases hk:key p=key c.ke
 · rw[hk,Maps.has_put_same (D_tidy l).isMap (key_lit _)]
   simp[key_inj hk]
 · rw[Maps.has_put_other hk,ih,hasB]
   have hd: ¬c.ke.data=p.data:=fun h=>hk (by rw[key,key,h])
   simp[hd]
theorem D_size (l:List Co):Maps.size (D l)≤l.length∧(Maps.size (D l)=l.length↔Apart l):=by
 refine snoc_ind (P:=fun l=>Maps.size (D l)≤l.length∧(Maps.size (D l)=l.length↔Apart l)) ⟨Nat.le_refl _,⟨fun _=>List.Pairwise.nil,fun _=>rfl⟩⟩ ?_ l
 intro l c ⟨ih1,ih2⟩;rw[D_snoc,Maps.size_put (D_tidy l),D_has,List.length_append,Apart,List.pairwise_append];cases hb:hasB l c.ke.data.toList with
 |true=>
  rw[if_pos rfl];refine⟨by omega,⟨fun h=>?_,fun h=>?_⟩⟩
  · simp at h;omega
  · obtain⟨x,hx,he⟩:=List.any_eq_true.1 hb
    exact absurd (by simpa using he) (h.2.2 x hx c (by simp))
 |false=>
  rw[if_neg (by simp)];refine⟨by simp;omega,⟨fun h=>?_,fun h=>?_⟩⟩
  · refine⟨ih2.1 (by simp at h;omega),by simp,fun a ha b hbm=>?_⟩
    simp at hbm
    subst hbm;intro he;have:=List.any_eq_false.1 hb a ha
    simp[he]at this
  · have:=ih2.2 h.1
    simp;omega
def numOf (l:List Co) (p:List UInt8):Int:=match l.find? (fun c=>c.ke.data.toList==p)with
 |some c=>c.nu
 |none=>0
theorem D_at {l:List Co} (h:Apart l) (p:ByteArray) (z:Int):hasB l p.data.toList=true→(D l).atKey (key p) (num z)=num (numOf l p.data.toList):=by
 revert h
 refine snoc_ind (P:=fun l=>Apart l→hasB l p.data.toList=true→(D l).atKey (key p) (num z)=num (numOf l p.data.toList)) (fun _ h=>by cases h) ?_ l
 intro l c ih ha hb;rw[Apart,List.pairwise_append]at ha;rw[D_snoc];by_cases hk:key p=key c.ke
 · have hp:=key_inj hk
   rw[hk,Maps.atKey_put_same (D_tidy l).isMap (key_lit _)]
   have hnone:l.find? (fun c=>c.ke.data.toList==p.data.toList)=none:=by
    rw[List.find?_eq_none];intro x hx hh;exact ha.2.2 x hx c (by simp) (by simp at hh;rw[hh,hp])
   rw[numOf,List.find?_append,hnone];simp[hp]
 · rw[Maps.atKey_put_other hk]
   have hd: ¬c.ke.data=p.data:=fun h=>hk (by rw[key,key,h])
   rw[hasB,List.any_append]at hb;simp[hd]at hb
   rw[ih ha.1 (by rw[hasB,List.any_eq_true];simpa using hb),numOf,numOf,List.find?_append];simp[hd]
end Jn
end Go.Proofs.YtlllcifehellpaaGreatDoor
namespace Go.Proofs.YtlllcifehellpaaGreatDoor
open Go.RowKit

/-- A page. -/
structure Pg where
 reset:Bool
 tree:List En
 cos:List Co
 cur:Int
 more:Bool
def LiesPg (w:World) (v:Value) (P:Pg):Prop:= ∃vt vc,v= .agg #[.bool P.reset,vt,vc,.int .i64 P.cur,.bool P.more]∧Lies w vt P.tree∧LiesO w vc P.cos
theorem LiesPg.below {w w':World} {v:Value} {P:Pg} (h:LiesPg w v P) (hw:Below w.heap.size w w'):LiesPg w' v P:=by
 obtain⟨vt,vc,h1,h2,h3⟩:=h
 exact⟨vt,vc,h1,h2.below hw,h3.below hw⟩
theorem liesO_shape {w:World} {v:Value} {l:List Co} (h:LiesO w v l): ∃a cap,v= .slice a l.length cap:=by
 obtain⟨a,cap,h,_⟩:=h
 exact⟨a,cap,h⟩
structure An where
 err:Int
 num:Int
 pg:Pg
/-- An answer as a value: its page's tree and commits lie in memory. -/
def LiesA (w:World) (v:Value) (a:An):Prop:= ∃vt vc,v= .agg #[.int .i64 a.err,.int .i64 a.num,.bool a.pg.reset,vt,vc,.int .i64 a.pg.cur,.bool a.pg.more]∧Lies w vt a.pg.tree∧LiesO w vc a.pg.cos
theorem LiesA.below {w w':World} {v:Value} {a:An} (h:LiesA w v a) (hw:Below w.heap.size w w'):LiesA w' v a:=by
 obtain⟨vt,vc,e,h1,h2⟩:=h
 exact⟨vt,vc,e,h1.below hw,h2.below hw⟩
structure SizedA (a:An):Prop where
 tree:Sized a.pg.tree
 cos:SizedO 150000000000000 a.pg.cos
end Go.Proofs.YtlllcifehellpaaGreatDoor
