/- What the server's give does. -/
import Derived.Test.YtppdfeehhnofaaaGreatDoorHAS
import Derived.Test.YtppdfeehhnofaaaGreatDoorHAZB
import Derived.Test.YtppdfeehhnofaaaGreatDoorHAY
import Derived.Test.YtppdfeehhnofaaaGreatDoorHAZ
import Derived.Laws.CopyOwn
import Derived.Lib.Overlaps
import Derived.Lib.AppendZerosOnto
import Derived.Laws.NewBlocks
import Derived.Laws.Externs
import Derived.Deep.RegionLaw
import Derived.Deep.DeepCutAuto
import Derived.WalkKit
set_option linter.unusedSimpArgs false
set_option linter.unusedVariables false
namespace Go.Proofs.YtppdfeehhnofaaaGreatDoor
open Go.RowKit

set_option maxRecDepth 100000 in
set_option maxHeartbeats 4000000 in
theorem sgive_any (H:Hb) (q:Rq) (vq:Value) (g mb:Nat) (w:World) (hsv:SvL w g mb H) (hs:SizedG H.gs) (hq:LiesQ w vq q) (hsq:SizedQ q):
    Calls Tryz.prog 92 #[.pointer (some ⟨g,0,none⟩),vq] w fun z w'=>z= .returned (.int .i64 (Pp.giE H.gs q.fo q.who q.name q.num))∧SvL w' g mb (Hu.gsH H (Pp.giE H.gs q.fo q.who q.name q.num) (Pp.giL H.gs q.fo q.who q.name q.num))∧w.grownBy w' (some g):=by
 have HSG:=hid hs;have HSQ:=hid hsq;clear hs hsq;obtain⟨va,rfl,lq⟩:=hq
 have HLQ:=hid lq;obtain⟨qa,qc,rfl,_⟩:=lq
 obtain⟨kind,who,fo,name,key,text,num,off,base,ch⟩:=q
 simp only at*;obtain⟨wz,hwz⟩: ∃wz,wz=w.alloc (.cells #[.int .i64 kind,.string who,.string fo,.string name,.string key,.string text,.int .i64 num,.int .i64 off,.int .i64 base,.slice qa ch.length qc] 31):=⟨_,rfl⟩
 have hbz:Below w.heap.size w wz:=by rw[hwz];exact(Below.refl _ _).alloc (Nat.le_refl _) _
 have HQX:Hid (Cs wz w.heap.size [.int .i64 kind,.string who,.string fo,.string name,.string key,.string text,.int .i64 num,.int .i64 off,.int .i64 base,.slice qa ch.length qc]):=(by rw[hwz];exact Cs.new w [.int .i64 kind,.string who,.string fo,.string name,.string key,.string text,.int .i64 num,.int .i64 off,.int .i64 base,.slice qa ch.length qc] _:Cs wz w.heap.size _)
 obtain⟨fos,gs,ss,nx,la,ro,now⟩:=H
 obtain⟨fa,fc,ga,gc,sa,sc,hC,hF,hG,hS⟩:=hsv.shape
 simp only at*;have HC:=hid hC;have HF:=hid hF;have HG:=hid hG;have HS:=hid hS;have hgl:=hC.lt;have HCz:=hid (HC.out.below hbz);have HGz:=hid (HG.out.below hbz);have hgz:g<wz.heap.size:=Nat.lt_of_lt_of_le hgl hbz.size;have hqz:=HQX.out.lt;clear hsv hF hG hS hC;have p1:=HCz.out.cell 1 rfl;have x2:=HQX.out.cell 2 rfl;have x1:=HQX.out.cell 1 rfl;have x3:=HQX.out.cell 3 rfl;have x6:=HQX.out.cell 6 rfl;obtain⟨E,hE⟩: ∃E,E=Pp.giE gs fo who name num:=⟨_,rfl⟩
 obtain⟨L,hL⟩: ∃L,L=Pp.giL gs fo who name num:=⟨_,rfl⟩
 rw[←hE,←hL];have HE:=hid hE;have HL:=hid hL;clear hE hL;go_enter Tryz.func92,Tryz.ntmps92
 go_upto_region 1 with fail;rw[←hwz];clear hwz
 go_region_held3 (fun W=>W.cell? ⟨g,1,none⟩=some (.slice ga gs.length gc)∧W.cell? ⟨w.heap.size,2,none⟩=some (.string fo)∧W.cell? ⟨w.heap.size,1,none⟩=some (.string who)∧W.cell? ⟨w.heap.size,3,none⟩=some (.string name)∧W.cell? ⟨w.heap.size,6,none⟩=some (.int .i64 num)) (go_keep) (first
  |(go_at_call 127;refine(give_any gs _ fo who name num _ (HGz.out.below (Below.refl _ _).drew) HSG.out HSQ.out.fo HSQ.out.who HSQ.out.name).mono ?_;rw[←HE.out,←HL.out];rintro e wa ⟨u,rfl,⟨hlu,_⟩,hba⟩;have hya:Below wz.heap.size wz wa:=((Below.refl _ _).drew).trans hba;have j0:=(hya.cell (p:=⟨g,1,none⟩) hgz).trans p1;have j1:=(hya.cell (p:=⟨w.heap.size,2,none⟩) hqz).trans x2;have j2:=(hya.cell (p:=⟨w.heap.size,1,none⟩) hqz).trans x1;have j3:=(hya.cell (p:=⟨w.heap.size,3,none⟩) hqz).trans x3;have j4:=(hya.cell (p:=⟨w.heap.size,6,none⟩) hqz).trans x6))
 have HLU:=hid hlu;obtain⟨ua,uc,rfl,_⟩:=hlu
 have hb0a:=below_tr hbz hya;have HCa:=hid (HC.out.below hb0a);clear p1 x1 x2 x3 x6 j0 j1 j2 j3 j4;by_cases he:E=0
 · subst he
   obtain⟨w2,hw2⟩: ∃w2,w2=wa.setCell ⟨g,1,none⟩ (.slice ua L.length uc):=⟨_,rfl⟩
   have hg2:wa.grownBy w2 (some g):=by rw[hw2];exact nb_set _ _ _ _
   have HC2:Hid (Cs w2 g [.slice fa fos.length fc,.slice ua L.length uc,.slice sa ss.length sc,.int .i64 nx,.int .i64 la,.int .i64 ro,.int .i64 now,.map (some mb)]):=(by rw[hw2];exact HCa.out.set 1 _:Cs w2 g _)
   have HNS:=hid (noStr_sv HCa.out);have HR:=hid (show SvL w2 g mb ⟨fos,L,ss,nx,la,ro,now⟩from⟨_,_,_,HC2.out,(HF.out.below hb0a).nb hg2 HNS.out,HLU.out.nb hg2 HNS.out,(HS.out.below hb0a).nb hg2 HNS.out⟩);have hg0:w.grownBy w2 (some g):=Nb.trans (Nb.below g hb0a) hg2;have p1:=HCa.out.cell 1 rfl;have f1:=HCa.out.fr 1;go_wp2_with fail;rw[←hw2];go_ret;exact⟨rfl,by rw[Hu.gsH,if_pos rfl];exact HR.out,hg0⟩
 · have hz:(E==0)=false:=by simpa using he
   have HNE:=hid he;have HR:=hid (show SvL wa g mb ⟨fos,gs,ss,nx,la,ro,now⟩from⟨_,_,_,HCa.out,HF.out.below hb0a,HG.out.below hb0a,HS.out.below hb0a⟩);clear he;go_wp2_with fail;go_ret;exact⟨rfl,by rw[Hu.gsH,if_neg HNE.out];exact HR.out,Nb.below g hb0a⟩
set_option maxRecDepth 100000 in
set_option maxHeartbeats 4000000 in
theorem snum_give (H:Hb) (q:Rq) (vq vf:Value) (g mb:Nat) (w:World) (hsv:SvL w g mb H) (hs:SizedG H.gs) (hq:LiesQ w vq q) (hsq:SizedQ q) (hk:q.kind=3):
    Calls Tryz.prog 51 #[.pointer (some ⟨g,0,none⟩),vq] w fun z w'=>z= .returned (.tuple #[.int .i64 0,.int .i64 (Pp.giE H.gs q.fo q.who q.name q.num)])∧SvL w' g mb (Hu.gsH H (Pp.giE H.gs q.fo q.who q.name q.num) (Pp.giL H.gs q.fo q.who q.name q.num))∧Nb2 w w' g (bo vf g):=by
 have HSG:=hid hs;clear hs;have HSV:=hid hsv;have HSQ:=hid hsq;clear hsv hsq;obtain⟨va,rfl,lq⟩:=hq
 have HLQ:=hid lq;obtain⟨qa,qc,rfl,_⟩:=lq
 obtain⟨kind,who,fo,name,key,text,num,off,base,ch⟩:=q
 simp only at*;obtain⟨wz,hwz⟩: ∃wz,wz=w.alloc (.cells #[.int .i64 kind,.string who,.string fo,.string name,.string key,.string text,.int .i64 num,.int .i64 off,.int .i64 base,.slice qa ch.length qc] 31):=⟨_,rfl⟩
 have hbz:Below w.heap.size w wz:=by rw[hwz];exact(Below.refl _ _).alloc (Nat.le_refl _) _
 have HQX:Hid (Cs wz w.heap.size [.int .i64 kind,.string who,.string fo,.string name,.string key,.string text,.int .i64 num,.int .i64 off,.int .i64 base,.slice qa ch.length qc]):=(by rw[hwz];exact Cs.new w [.int .i64 kind,.string who,.string fo,.string name,.string key,.string text,.int .i64 num,.int .i64 off,.int .i64 base,.slice qa ch.length qc] _:Cs wz w.heap.size _)
 subst hk;have x0:=HQX.out.cell 0 rfl;have x1:=HQX.out.cell 1 rfl;have x2:=HQX.out.cell 2 rfl;have x3:=HQX.out.cell 3 rfl;have x4:=HQX.out.cell 4 rfl;have x5:=HQX.out.cell 5 rfl;have x6:=HQX.out.cell 6 rfl;have x7:=HQX.out.cell 7 rfl;have x8:=HQX.out.cell 8 rfl;have x9:=HQX.out.cell 9 rfl;have hs01:=hbz.size;go_enter Tryz.func51,Tryz.ntmps51
 go_upto_region 1 with fail;rw[←hwz];clear hwz;go_wp2_with fail;refine(sgive_any H ⟨3,who,fo,name,key,text,num,off,base,ch⟩ _ g mb wz (HSV.out.below hbz) HSG.out ⟨_,rfl,HLQ.out.below hbz⟩ HSQ.out).mono ?_
 rintro z w3 ⟨rfl,hs3,hn3⟩;have HS3:=hid hs3;have HN3:=hid (show Nb2 w w3 g (bo vf g)from(Nb2.of_below _ _ hbz).trans (Nb2.of_left _ hn3));clear hs3 hn3;go_wp2_with fail;go_ret2;exact⟨rfl,HS3.out,HN3.out⟩
set_option maxRecDepth 100000 in
set_option maxHeartbeats 4000000 in
theorem snum_finish (H:Hb) (q:Rq) (vq vf vg vs:Value) (B g mb n:Nat) (w:World) (hsv:Sv B w g mb vf vg vs H) (hm:SvM w mb n H) (hgB:g<B) (hBw:B≤w.heap.size) (hs:SizedF H.fos) (hss:SizedS H.ss) (hq:LiesQ w vq q) (hsq:SizedQ q) (htx:(Hu.fnU H q.who q.num).tx.size≤150000000000000) (hi:Hu.whr H.fos H.gs q.fo<H.fos.length) (hk:q.kind=7):
    Calls Tryz.prog 51 #[.pointer (some ⟨g,0,none⟩),vq] w fun z w'=>z= .returned (.tuple #[.int .i64 (Hu.fnN H q (Hu.fnU H q.who q.num)),.int .i64 (Hu.fnE H q (Hu.fnU H q.who q.num))])∧SvL w' g mb (Hu.fnH H q (Hu.fnU H q.who q.num))∧Nb2 w w' g (bo vf g):=by
 have HSF:=hid hs;have HSS:=hid hss;have HM:=hid hm;have HI:=hid hi;have HTX:=hid htx;have HSV:=hid hsv;have HSQ:=hid hsq;clear hs hm hi htx hss hsv hsq;obtain⟨va,rfl,lq⟩:=hq
 have HLQ:=hid lq;obtain⟨qa,qc,rfl,_⟩:=lq
 obtain⟨kind,who,fo,name,key,text,num,off,base,ch⟩:=q
 simp only at*;obtain⟨wz,hwz⟩: ∃wz,wz=w.alloc (.cells #[.int .i64 kind,.string who,.string fo,.string name,.string key,.string text,.int .i64 num,.int .i64 off,.int .i64 base,.slice qa ch.length qc] 31):=⟨_,rfl⟩
 have hbz:Below w.heap.size w wz:=by rw[hwz];exact(Below.refl _ _).alloc (Nat.le_refl _) _
 have HQX:Hid (Cs wz w.heap.size [.int .i64 kind,.string who,.string fo,.string name,.string key,.string text,.int .i64 num,.int .i64 off,.int .i64 base,.slice qa ch.length qc]):=(by rw[hwz];exact Cs.new w [.int .i64 kind,.string who,.string fo,.string name,.string key,.string text,.int .i64 num,.int .i64 off,.int .i64 base,.slice qa ch.length qc] _:Cs wz w.heap.size _)
 subst hk;have x0:=HQX.out.cell 0 rfl;have x1:=HQX.out.cell 1 rfl;have x2:=HQX.out.cell 2 rfl;have x3:=HQX.out.cell 3 rfl;have x4:=HQX.out.cell 4 rfl;have x5:=HQX.out.cell 5 rfl;have x6:=HQX.out.cell 6 rfl;have x7:=HQX.out.cell 7 rfl;have x8:=HQX.out.cell 8 rfl;have x9:=HQX.out.cell 9 rfl;have hs01:=hbz.size;go_enter Tryz.func51,Tryz.ntmps51
 go_upto_region 1 with fail;rw[←hwz];clear hwz;go_wp2_with fail;refine(sfinish_any H ⟨7,who,fo,name,key,text,num,off,base,ch⟩ _ vf vg vs B g mb n wz (Hu.fnU H who num) (HSV.out.below hbz) (HM.out.below hbz) hgB (by omega) HSF.out ⟨_,rfl,HLQ.out.below hbz⟩ HSQ.out HTX.out HI.out (fun W v hv=>ufinish_all H v who num W HSS.out HSQ.out.who hv)).mono ?_
 rintro z w3 ⟨rfl,hs3,hn3⟩;have HS3:=hid hs3;have HN3:=hid (show Nb2 w w3 g (bo vf g)from(Nb2.of_below _ _ hbz).trans hn3);clear hs3 hn3;go_wp2_with fail;go_ret2;exact⟨rfl,HS3.out,HN3.out⟩
namespace Hu
theorem fn_tx {H:Hb} (hs:SizedS H.ss) (p:ByteArray) (n:Int):(fnU H p n).tx.size≤150000000000000:=by
 rw[fnU];split
 · rename_i h0
   obtain⟨hk,e1,_⟩:=fi_at h0
   rw[e1];simp only;split
   · show(0:Nat)≤_;omega
   · exact(hs _ (List.mem_filter.1 (List.getElem_mem hk)).1).2
 · show(0:Nat)≤_;omega
end Hu
end Go.Proofs.YtppdfeehhnofaaaGreatDoor
namespace Go.Proofs.YtppdfeehhnofaaaGreatDoor
open Go.RowKit

/-- copy of rows, each element of k cells, into a row that is known whole. -/
theorem copy_rows {P:Program} (w:World) (dT sT ty elem:TypeId) (k g o dLen dCap:Nat) (a:Addr) (sLen sCap:Nat) (cur:List Value) (t:TypeId) (cs:List Value)
    (hu:P.underlying dT=some (.slice elem)) (hs:(P.info? elem).map (·.size)=some k) (hg:w.heap[g]?=some (.cells cur.toArray t (0,0))) (hn:cs.length=Nat.min sLen dLen*k)
    (hsrc: ∀j v,cs[j]?=some v→w.cell? (a.add j)=some v) (hfit:o+cs.length≤cur.length) (h1: ∀v∈cs,v.oneCell'=true):
    (Builtin.copy_ #[dT,sT] ty #[.slice (some ⟨g,o,none⟩) dLen dCap,.slice (some a) sLen sCap]).run P w= .ok (goInt (Nat.min sLen dLen:Nat)) (w.setRow g (splice cur o cs).toArray):=by
 have hl:=run_firstCells_some (P:=P) w k (Nat.min sLen dLen) a sLen sCap cs hn hsrc;have hst:=run_storeCells_at P g o t cs 0 cur.toArray w hg (by simpa using hfit) h1;simp only[Nat.add_zero,List.append_assoc]at hst;cases hq:P.info? elem with
 |none=>simp[hq]at hs
 |some i=>
  have hi:i.size=k:=by simpa[hq]using hs
  subst hi;have hst':(storeCells ⟨g,o,none⟩ cs 0).run P w= .ok () (w.setRow g (splice cur o cs).toArray):=hst;simp[Builtin.copy_,run_underlying hu,Builtin.lenOf,Go.sizeOf,typeInfo,hq,hl,hst']
theorem wpList_copy_rows {P:Program} {w:World} {ops:Array Oper} {rest:List Oper} {o:Oper} {a:Act} {Q:Exit→Act→World→Prop} (hgd:o.guard=none) (d s:Operand) (dT sT:TypeId)
    (ho:o.op= .call {callee:= .builtin .copy,args:= #[d,s],argTypes:= #[dT,sT]}) (v u:Value) (hd:a.eval d=v) (hs:a.eval s=u) {v':Value} {w':World}
    (hr:(Builtin.copy_ #[dT,sT] o.type #[v,u]).run P w= .ok v' w') (h:wpList P ops Q rest (a.put o.dst v') w'):wpList P ops Q (o::rest) a w:=by
 refine wpList_plain hgd fun K hK=>?_
 unfold Oper.wp;simp[execOp,ho,resolve,invoke,builtin,hd,hs,hr,Result.andThen]
 exact hK _ _ h
theorem step_copy_rows {P:Program} {ops:Array Oper} {o:Oper} {a:Act} {w:World} {K:Act→World→Prop} {Q:Exit→Act→World→Prop} {E:Prop} (hgd:o.guard=none) (d s:Operand) (dT sT:TypeId)
    (ho:o.op= .call {callee:= .builtin .copy,args:= #[d,s],argTypes:= #[dT,sT]}) (v u:Value) (hd:a.eval d=v) (hs:a.eval s=u) {v':Value} {w':World}
    (hr:(Builtin.copy_ #[dT,sT] o.type #[v,u]).run P w= .ok v' w') (hK:K (a.put o.dst v') w'):
    if Region.wanted o (yielded ops a.tmps)=true then Oper.wp P o a w K Q else E:=by
 have hw:Region.wanted o (yielded ops a.tmps)=true:=by simp[Region.wanted,hgd]
 rw[if_pos hw];unfold Oper.wp;simp[execOp,ho,resolve,invoke,builtin,hd,hs,hr,Result.andThen]
 exact hK
theorem wpList_append_eq {P:Program} {w:World} {ops:Array Oper} {rest:List Oper} {o:Oper} {a:Act} {Q:Exit→Act→World→Prop} (hgd:o.guard=none) (d s:Operand) (dT sT:TypeId)
    (ho:o.op= .call {callee:= .builtin .append,args:= #[d,s],argTypes:= #[dT,sT]}) (v u:Value) (hd:a.eval d=v) (hs:a.eval s=u) {v':Value} {w':World}
    (hr:(Builtin.append_ #[dT,sT] o.type #[v,u]).run P w= .ok v' w') (h:wpList P ops Q rest (a.put o.dst v') w'):wpList P ops Q (o::rest) a w:=by
 refine wpList_plain hgd fun K hK=>?_
 unfold Oper.wp;simp[execOp,ho,resolve,invoke,builtin,hd,hs,hr,Result.andThen]
 exact hK _ _ h
namespace Hu
theorem flat_take {R:List (List Value)} {k:Nat} (h: ∀r∈R,r.length=k): ∀i,(R.take i).flatten=R.flatten.take (i*k):=by
 induction R with
 |nil=>intro i;simp
 |cons r R ih=>
  intro i;cases i with
  |zero=>simp
  |succ i=>
   have hr:=h r (List.mem_cons_self ..);have e:(i+1)*k-r.length=i*k:=by rw[hr,Nat.succ_mul];omega
   have t:r.take ((i+1)*k)=r:=List.take_of_length_le (by rw[hr,Nat.succ_mul];omega);rw[List.take_succ_cons,List.flatten_cons,List.flatten_cons,ih (fun x hx=>h x (List.mem_cons_of_mem _ hx)) i,List.take_append,t,e]
theorem flat_drop {R:List (List Value)} {k:Nat} (h: ∀r∈R,r.length=k): ∀i,(R.drop i).flatten=R.flatten.drop (i*k):=by
 induction R with
 |nil=>intro i;simp
 |cons r R ih=>
  intro i;cases i with
  |zero=>simp
  |succ i=>
   have hr:=h r (List.mem_cons_self ..);have e:(i+1)*k-r.length=i*k:=by rw[hr,Nat.succ_mul];omega
   have t:r.drop ((i+1)*k)=[]:=List.drop_eq_nil_of_le (by rw[hr,Nat.succ_mul];omega);rw[List.drop_succ_cons,List.flatten_cons,ih (fun x hx=>h x (List.mem_cons_of_mem _ hx)) i,List.drop_append,t,e,List.nil_append]
theorem take_app {α:Type} {X Y:List α} {n:Nat} (h:X.length≤n):(X++Y).take n=X++Y.take (n-X.length):=by rw[List.take_append,List.take_of_length_le h]
theorem drop_app {α:Type} {X Y:List α} {n:Nat} (h:X.length≤n):(X++Y).drop n=Y.drop (n-X.length):=by rw[List.drop_append,List.drop_eq_nil_of_le h,List.nil_append]
theorem len_take {α:Type} {X:List α} {n:Nat} (h:n≤X.length):(X.take n).length=n:=by rw[List.length_take,Nat.min_eq_left h]
/-- What stands in the row behind both copies. -/
theorem spl_two {cur X N:List Value} {a:Nat} (hN:N.length=4) (hX:X.length+4≤cur.length) (ha:a≤X.length) (hc:cur.take X.length=X):
    (splice (splice cur (a+4) (X.drop a)) a N).take (X.length+4)=X.take a++(N++X.drop a):=by
 have l1:(X.drop a).length=X.length-a:=List.length_drop ..;have l2:(cur.take (a+4)).length=a+4:=len_take (by omega);have l3:(X.take a).length=a:=len_take ha
 have e1:(splice cur (a+4) (X.drop a)).take a=X.take a:=by
  rw[splice,List.take_append,l2,show a-(a+4)=0 by omega,List.take_zero,List.append_nil,List.take_take,Nat.min_eq_left (by omega:a≤a+4)];conv=>rhs;rw[←hc,List.take_take,Nat.min_eq_left ha]
 have e2:(splice cur (a+4) (X.drop a)).drop (a+4)=X.drop a++cur.drop (a+4+(X.drop a).length):=by
  rw[splice,drop_app (by rw[l2];omega),l2,Nat.sub_self,List.drop_zero]
 rw[show splice (splice cur (a+4) (X.drop a)) a N=X.take a++(N++(X.drop a++cur.drop (a+4+(X.drop a).length))) by rw[splice,e1,hN,e2]];rw[take_app (by omega),l3,take_app (by omega),hN,take_app (by omega),l1,show X.length+4-a-4-(X.length-a)=0 by omega,List.take_zero,List.append_nil]
/-- .. of a new row. -/
theorem spl_new {cur X N:List Value} {a:Nat} (hN:N.length=4) (hX:X.length+4≤cur.length) (ha:a≤X.length) (hc:cur.take a=X.take a):
    (splice (splice cur a N) (a+4) (X.drop a)).take (X.length+4)=X.take a++(N++X.drop a):=by
 have l1:(X.drop a).length=X.length-a:=List.length_drop ..;have l2:(cur.take a).length=a:=len_take (by omega);have l3:(X.take a).length=a:=len_take ha;have l4:(X.take a++N).length=a+4:=by rw[List.length_append,l3,hN]
 have e1:(splice cur a N).take (a+4)=X.take a++N:=by
  rw[splice,take_app (by rw[l2];omega),l2,show a+4-a=4 by omega,take_app (by omega),hN,Nat.sub_self,List.take_zero,List.append_nil,hc]
 rw[show splice (splice cur a N) (a+4) (X.drop a)=(X.take a++N)++(X.drop a++(splice cur a N).drop (a+4+(X.drop a).length)) by rw[splice,e1]];rw[take_app (by omega),l4,take_app (by omega),l1,show X.length+4-(a+4)-(X.length-a)=0 by omega,List.take_zero,List.append_nil,List.append_assoc]
end Hu
theorem grown_setRow (w:World) (g:Nat) (cs:Array Value):w.grownBy (w.setRow g cs) (some g):=⟨rfl,rfl,rfl,by simp[World.setRow],fun k hk hne=>setRow_other w g k cs (fun e=>hne (by rw[e]))⟩
end Go.Proofs.YtppdfeehhnofaaaGreatDoor
namespace Go.Proofs.YtppdfeehhnofaaaGreatDoor
open Go.RowKit

theorem Tryz.sizeSh:(Tryz.prog.info? 90).map (·.size)=some 4:=by
 obtain⟨i0,hi0,_,hz1,_⟩:=info_parts Tryz.infoRF
 rw[hi0];simp[hz1]
theorem Tryz.sizeOfSh (w:World):(Go.sizeOf 90).run Tryz.prog w= .ok 4 w:=by
 obtain⟨i0,hi0,_,hz1,_⟩:=info_parts Tryz.infoRF
 simp[Go.sizeOf,typeInfo,hi0,hz1]
theorem cs_shape {W:World} {b:Nat} {vs:List Value} (h:Cs W b vs): ∃T,W.shape? b=some (T,vs.length):=by
 obtain⟨T,h⟩:=h
 exact⟨T,by simp[World.shape?,h]⟩
set_option maxRecDepth 100000 in
set_option maxHeartbeats 4000000 in
theorem insert_shift (g n cap i vb:Nat) (cur X:List Value) (na:ByteArray) (W:World) (hi:i<n) (hroom:n+1≤cap) (hcap:cap≤maxLen) (hh:W.heap[g]?=some (.cells cur.toArray 90 (0,0))) (hcl:cur.length=cap*4) (hX:X.length=n*4) (hc:cur.take X.length=X) (h1: ∀v∈X,v.oneCell'=true) (hN:Cs W vb (newC na)) (hvb:vb≠g):
    Calls Tryz.prog 126 #[.slice (some ⟨g,0,none⟩) n cap,.int .i64 i,.slice (some ⟨vb,0,none⟩) 1 1] W fun e w'=>e= .returned (.slice (some ⟨g,0,none⟩) (n+1) cap)∧w'.heap[g]?=some (.cells (splice (splice cur (i*4+4) (X.drop (i*4))) (i*4) (newC na)).toArray 90 (0,0))∧W.grownBy w' (some g):=by
 unfold maxLen at hcap;have HG:=hid hh;obtain⟨tA,hsa⟩:=cs_shape hN
 have hsb:W.shape? g=some (90,cur.length):=by simp[World.shape?,hh]
 have hfa:W.frozen? ⟨vb,0,none⟩=false:=hN.fr 0;have hfe:W.frozen? ⟨vb,(newC na).length,none⟩=false:=hN.fr _
 have hov: ∀lb cb,(callFunc 164 #[.slice (some ⟨vb,0,none⟩) 1 1,.slice (some ⟨g,(i+1)*4,none⟩) lb cb]).run Tryz.prog W= .ok (.value (.bool false)) W:=fun lb cb=>by
  rw[run_callFunc_extern Tryz.func164 (by kernel_rfl) (by kernel_rfl) (by kernel_rfl) (e:=Extern.SlicesOverlaps.overlaps #[22,22] #[4]) (by kernel_rfl),
   Lib.run_overlaps_apart W 22 4 90 Tryz.underlying22 4 Tryz.sizeOfSh ⟨vb,0,none⟩ ⟨g,(i+1)*4,none⟩ 1 1 lb cb hvb tA 90 _ _ hsa hsb (by omega) hfa hfe]
  rfl
 have hz2: ¬((i:Int)=(n:Int)):=by omega
 have hw1:IntKind.i64.wrap ((i:Int)+1)=(i:Int)+1:=by rw[IntKind.wrap_i64];omega
 have hw2:IntKind.i64.wrap ((n:Int)+1)=(n:Int)+1:=by rw[IntKind.wrap_i64];omega
 have hb1:(0:Int)≤(i:Int)+1:=by omega
 have hb0:(0:Int)≤(n:Int)+1:=by omega
 have hbi:(0:Int)≤(i:Int):=by omega
 have hin:i≤n:=by omega
 have htn:((i:Int)+1).toNat=i+1:=by omega
 have htm:((n:Int)+1).toNat=n+1:=by omega
 have hb2: ¬(cap=i+1):=by omega
 have hb3:(i:Int)≤(n:Int)+1:=by omega
 have hb4: ¬(cap=i):=by omega
 have hb5: ¬((cap:Int)<(n:Int)+1):=by omega
 have hb6:(n:Int)+1≤(cap:Int):=by omega
 have hb7:(i:Int)+1≤(n:Int)+1:=by omega
 have hXl:(X.drop (i*4)).length=(n-i)*4:=by rw[List.length_drop,hX];omega
 have hcx: ∀j,j<X.length→cur[j]?=X[j]?:=fun j hj=>by
  conv=>rhs;rw[←hc]
  rw[List.getElem?_take,if_pos hj]
 have e4:(i+1)*4=i*4+4:=by omega
 have hcp1: ∀ty dc sc,(Builtin.copy_ #[22,22] ty #[.slice (some ⟨g,(i+1)*4,none⟩) (n+1-(i+1)) dc,.slice (some ⟨g,i*4,none⟩) (n+1-i) sc]).run Tryz.prog W.drew= .ok (goInt (Nat.min (n+1-i) (n+1-(i+1)):Nat)) (W.drew.setRow g (splice cur ((i+1)*4) (X.drop (i*4))).toArray):=fun ty dc sc=>
  copy_rows W.drew _ _ ty 90 4 g ((i+1)*4) (n+1-(i+1)) dc ⟨g,i*4,none⟩ (n+1-i) sc cur 90 (X.drop (i*4)) Tryz.underlying22 Tryz.sizeSh hh (by rw[hXl];simp only[Nat.min_def];split<;>omega)
   (fun j v hj=>by
    rw[Addr.add_lit];rw[List.getElem?_drop]at hj;have hjl:i*4+j<X.length:=(List.getElem?_eq_some_iff.1 hj).1;have hcj:=(hcx _ hjl).trans hj;show W.cell? _=_
    simp only[World.cell?,hh];simpa using hcj) (by rw[hXl,hcl];omega) (fun v hv=>h1 v (List.mem_of_mem_drop hv))
 obtain⟨W1,hW1⟩: ∃W1,W1=W.drew.setRow g (splice cur ((i+1)*4) (X.drop (i*4))).toArray:=⟨_,rfl⟩
 rw[←hW1]at hcp1;have hH1:W1.heap[g]?=some (.cells (splice cur ((i+1)*4) (X.drop (i*4))).toArray 90 (0,0)):=by rw[hW1];exact setRow_heap W.drew g _ _ _ _ hh
 have hg1:W.grownBy W1 (some g):=by rw[hW1];exact Nb.trans (Nb.below g ((Below.refl W.heap.size W).drew)) (grown_setRow W.drew g _)
 have hsl:(splice cur ((i+1)*4) (X.drop (i*4))).length=cap*4:=by rw[length_splice _ _ _ (by rw[hXl,hcl];omega),hcl]
 have hN1:Cs W1 vb (newC na):=hN.nb hg1 hvb
 have hcp2: ∀ty dc,(Builtin.copy_ #[22,22] ty #[.slice (some ⟨g,i*4,none⟩) (n+1-i) dc,.slice (some ⟨vb,0,none⟩) 1 1]).run Tryz.prog W1= .ok (goInt (Nat.min 1 (n+1-i):Nat)) (W1.setRow g (splice (splice cur ((i+1)*4) (X.drop (i*4))) (i*4) (newC na)).toArray):=fun ty dc=>
  copy_rows W1 _ _ ty 90 4 g (i*4) (n+1-i) dc ⟨vb,0,none⟩ 1 1 _ 90 (newC na) Tryz.underlying22 Tryz.sizeSh hH1 (by rw[(newC_one na).1];simp only[Nat.min_def];split<;>omega)
   (fun j v hj=>by rw[Addr.add_lit,Nat.zero_add];exact hN1.cell j hj) (by rw[hsl,(newC_one na).1];omega) (newC_one na).2
 obtain⟨W2,hW2⟩: ∃W2,W2=W1.setRow g (splice (splice cur ((i+1)*4) (X.drop (i*4))) (i*4) (newC na)).toArray:=⟨_,rfl⟩
 rw[←hW2]at hcp2;have hH2:W2.heap[g]?=some (.cells (splice (splice cur (i*4+4) (X.drop (i*4))) (i*4) (newC na)).toArray 90 (0,0)):=by rw[←e4,hW2];exact setRow_heap W1 g _ _ _ _ hH1
 have hg2:W.grownBy W2 (some g):=by rw[hW2];exact grown_on hg1 (grown_setRow W1 g _)
 have HH2:=hid hH2;have HG2:=hid hg2;clear hXl hcx e4 hH1 hg1 hsl hN1 hH2 hg2 hW1 hW2 hc hX h1 hN hh HG hsa hsb hfa hfe hcl;go_enter Tryz.func126,Tryz.ntmps126
 go_wp2_with (simp only[hov])
 go_region_law (refine step_copy_rows rfl (.tmp 73) (.tmp 76) 22 22 rfl (.slice (some ⟨g,(i+1)*4,none⟩) (n+1-(i+1)) (cap-(i+1))) (.slice (some ⟨g,i*4,none⟩) (n+1-i) (cap-i)) (by simp[Act.eval,Act.put]) (by simp[Act.eval,Act.put]) (hcp1 _ _ _) ?_)
 go_wp2_with (at_builtin;refine wpList_copy_rows rfl _ _ 22 22 rfl (.slice (some ⟨g,i*4,none⟩) (n+1-i) (cap-i)) (.slice (some ⟨vb,0,none⟩) 1 1) (by simp[Act.eval,Act.put]) (by simp[Act.eval,Act.put]) (hcp2 _ _) ?_)
 go_ret;exact⟨rfl,HH2.out,HG2.out⟩
set_option maxRecDepth 100000 in
set_option maxHeartbeats 4000000 in
theorem insert_grow (g n i vb:Nat) (X:List Value) (na:ByteArray) (W:World) (hi:i<n) (h8:n≤8) (hcs: ∀j v,X[j]?=some v→W.cell? ⟨g,j,none⟩=some v) (hgl:g<W.heap.size) (hX:X.length=n*4) (h1: ∀v∈X,v.oneCell'=true) (hN:Cs W vb (newC na)):
    Calls Tryz.prog 126 #[.slice (some ⟨g,0,none⟩) n n,.int .i64 i,.slice (some ⟨vb,0,none⟩) 1 1] W fun e w'=> ∃(G:Nat) (cur:List Value),e= .returned (.slice (some ⟨W.heap.size,0,none⟩) (n+1) G)∧n+1≤G∧G≤maxLen∧cur.length=G*4∧cur.take (X.length+4)=X.take (i*4)++(newC na++X.drop (i*4))∧w'.heap[W.heap.size]?=some (.cells cur.toArray 90 (0,0))∧Below W.heap.size W w':=by
 obtain⟨i0,hi0,hz0,hzs,hzb⟩:=info_parts Tryz.infoRF
 have hold:(Builtin.firstCells i0.size i (.slice (some ⟨g,0,none⟩) i n)).run Tryz.prog W.drew= .ok (X.take (i*4)).toArray W.drew:=by
  rw[hzs]
  exact run_firstCells_some W.drew 4 i ⟨g,0,none⟩ i n (X.take (i*4)) (by rw[List.length_take,hX];omega) (fun j v hj=>by
   rw[Addr.add_lit,Nat.zero_add];rw[List.getElem?_take]at hj;split at hj
   · exact hcs j v hj
   · cases hj)
 obtain⟨G,hG⟩: ∃G,G=grownCap W (n+1) n 90:=⟨_,rfl⟩
 have hGn:n+1≤G:=by rw[hG];exact grownCap_ge W _ _ _
 have hGm:G≤maxLen:=by rw[hG];exact grownCap_le_maxLen W (n+1) n 90 (by unfold maxLen;omega)
 obtain⟨R,hR⟩: ∃R:List Value,R.toArray=(X.take (i*4)).toArray++Builtin.zeroCells (Value.agg #[.string ⟨#[]⟩,.slice none 0 0,.int .i64 0,.slice none 0 0]).cells (n+1-i)++Builtin.zeroCells (Value.agg #[.string ⟨#[]⟩,.slice none 0 0,.int .i64 0,.slice none 0 0]).cells (G-(n+1)):=⟨_,Array.toArray_toList⟩
 have hRl:R.length=G*4∧R.take (i*4)=X.take (i*4):=by
  have e:R=X.take (i*4)++((Builtin.zeroCells (Value.agg #[.string ⟨#[]⟩,.slice none 0 0,.int .i64 0,.slice none 0 0]).cells (n+1-i)).toList++(Builtin.zeroCells (Value.agg #[.string ⟨#[]⟩,.slice none 0 0,.int .i64 0,.slice none 0 0]).cells (G-(n+1))).toList):=by
   have:=congrArg Array.toList hR
   simpa using this
  have l0:(X.take (i*4)).length=i*4:=Hu.len_take (by omega);refine⟨?_,by rw[e,Hu.take_app (by omega),l0,Nat.sub_self,List.take_zero,List.append_nil]⟩
  rw[e];simp[Builtin.zeroCells,Value.cells,l0]
  omega
 obtain⟨W1,hW1⟩: ∃W1,W1=W.drew.alloc (.cells R.toArray 90):=⟨_,rfl⟩
 have hkk:(n:Int)+1-(i:Int)=((n+1-i:Nat):Int):=by omega
 have hrz: ∀ty,(Builtin.append_ #[22,3] ty #[.slice (some ⟨g,0,none⟩) i n,.int .i64 ((n:Int)+1-(i:Int))]).run Tryz.prog W= .ok (.slice (some ⟨W.heap.size,0,none⟩) (n+1) G) W1:=fun ty=>by
  have h:=Lib.run_append_grow_zeros W 22 3 ty 90 i0 _ .i64 .i64 Tryz.underlying22 Tryz.underlying3 hi0 hz0 (some ⟨g,0,none⟩) i n (X.take (i*4)) hold (n+1-i) (by omega) (by omega) (by omega) (by omega) (by rw[hzb];omega) (by rw[hzb,show i+(n+1-i)=n+1 by omega];exact growslice_fits (by omega) (by omega));rw[show i+(n+1-i)=n+1 by omega,←hG,←hR,←hW1]at h;rw[hkk];exact h
 have hb1:Below W.heap.size W W1:=by rw[hW1];exact((Below.refl _ _).drew).alloc (Nat.le_refl _) _
 have hH1:W1.heap[W.heap.size]?=some (.cells R.toArray 90 (0,0)):=by rw[hW1];show(W.heap.push _)[W.heap.size]?=_;simp
 have hN1:Cs W1 vb (newC na):=hN.below hb1;have hvl:=hN.lt
 have hcpA: ∀ty dc,(Builtin.copy_ #[22,22] ty #[.slice (some ⟨W.heap.size,i*4,none⟩) (n+1-i) dc,.slice (some ⟨vb,0,none⟩) 1 1]).run Tryz.prog W1= .ok (goInt (Nat.min 1 (n+1-i):Nat)) (W1.setRow W.heap.size (splice R (i*4) (newC na)).toArray):=fun ty dc=>
  copy_rows W1 _ _ ty 90 4 W.heap.size (i*4) (n+1-i) dc ⟨vb,0,none⟩ 1 1 R 90 (newC na) Tryz.underlying22 Tryz.sizeSh hH1 (by rw[(newC_one na).1];simp only[Nat.min_def];split<;>omega)
   (fun j v hj=>by rw[Addr.add_lit,Nat.zero_add];exact hN1.cell j hj) (by rw[hRl.1,(newC_one na).1];omega) (newC_one na).2
 obtain⟨W2,hW2⟩: ∃W2,W2=W1.setRow W.heap.size (splice R (i*4) (newC na)).toArray:=⟨_,rfl⟩
 rw[←hW2]at hcpA;have hH2:W2.heap[W.heap.size]?=some (.cells (splice R (i*4) (newC na)).toArray 90 (0,0)):=by rw[hW2];exact setRow_heap W1 _ _ _ _ _ hH1
 have hb2:Below W.heap.size W W2:=by rw[hW2];exact below_setRow hb1 (Nat.le_refl _) _
 have hl2:(splice R (i*4) (newC na)).length=G*4:=by rw[length_splice _ _ _ (by rw[(newC_one na).1,hRl.1];omega),hRl.1]
 have hXl:(X.drop (i*4)).length=(n-i)*4:=by rw[List.length_drop,hX];omega
 have hcpB: ∀ty dc sc,(Builtin.copy_ #[22,22] ty #[.slice (some ⟨W.heap.size,(i+1)*4,none⟩) (n+1-(i+1)) dc,.slice (some ⟨g,i*4,none⟩) (n-i) sc]).run Tryz.prog W2.drew= .ok (goInt (Nat.min (n-i) (n+1-(i+1)):Nat)) (W2.drew.setRow W.heap.size (splice (splice R (i*4) (newC na)) ((i+1)*4) (X.drop (i*4))).toArray):=fun ty dc sc=>
  copy_rows W2.drew _ _ ty 90 4 W.heap.size ((i+1)*4) (n+1-(i+1)) dc ⟨g,i*4,none⟩ (n-i) sc _ 90 (X.drop (i*4)) Tryz.underlying22 Tryz.sizeSh hH2 (by rw[hXl];simp only[Nat.min_def];split<;>omega)
   (fun j v hj=>by
    rw[Addr.add_lit];rw[List.getElem?_drop]at hj;exact(hb2.cell (p:=⟨g,i*4+j,none⟩) hgl).trans (hcs _ v hj)) (by rw[hXl,hl2];omega) (fun v hv=>h1 v (List.mem_of_mem_drop hv))
 obtain⟨W3,hW3⟩: ∃W3,W3=W2.drew.setRow W.heap.size (splice (splice R (i*4) (newC na)) ((i+1)*4) (X.drop (i*4))).toArray:=⟨_,rfl⟩
 rw[←hW3]at hcpB;have HH3:=hid (show W3.heap[W.heap.size]?=some (.cells (splice (splice R (i*4) (newC na)) (i*4+4) (X.drop (i*4))).toArray 90 (0,0))from by rw[show i*4+4=(i+1)*4 by omega,hW3];exact setRow_heap W2.drew _ _ _ _ _ hH2);have HB3:=hid (show Below W.heap.size W W3 from by rw[hW3];exact below_setRow hb2.drew (Nat.le_refl _) _);have HL3:=hid (show(splice (splice R (i*4) (newC na)) (i*4+4) (X.drop (i*4))).length=G*4∧(splice (splice R (i*4) (newC na)) (i*4+4) (X.drop (i*4))).take (X.length+4)=X.take (i*4)++(newC na++X.drop (i*4))from⟨by rw[length_splice _ _ _ (by rw[hXl,hl2];omega),hl2],Hu.spl_new (newC_one na).1 (by rw[hX,hRl.1];omega) (by omega) hRl.2⟩);have HGn:=hid hGn;have HGm:=hid hGm;have hz2: ¬((i:Int)=(n:Int)):=by omega
 have hw1:IntKind.i64.wrap ((i:Int)+1)=(i:Int)+1:=by rw[IntKind.wrap_i64];omega
 have hw2:IntKind.i64.wrap ((n:Int)+1)=(n:Int)+1:=by rw[IntKind.wrap_i64];omega
 have hw3:IntKind.i64.wrap ((n:Int)+1-(i:Int))=(n:Int)+1-(i:Int):=by rw[IntKind.wrap_i64];omega
 have hq1:(0:Int)≤(i:Int)+1:=by omega
 have hq0:(0:Int)≤(n:Int)+1:=by omega
 have hbi:(0:Int)≤(i:Int):=by omega
 have hin:i≤n:=by omega
 have htn:((i:Int)+1).toNat=i+1:=by omega
 have hq2: ¬(G=i+1):=by omega
 have hq4: ¬(G=i):=by omega
 have hq5:((n:Int)<(n:Int)+1):=by omega
 have hq6:(i:Int)≤(n:Int):=by omega
 have hq7:(i:Int)+1≤(n:Int)+1:=by omega
 have hq8: ¬(n=i):=by omega
 have hq9:(i:Int)≤(n:Int)+1:=by omega
 unfold maxLen at hGm;clear hold hR hRl hkk hb1 hH1 hN1 hH2 hb2 hl2 hXl hG hX h1 hcs hN hW1 hW2 hW3 hi0 hz0 hzs hzb;go_enter Tryz.func126,Tryz.ntmps126
 go_wp2_with (first
  |(at_builtin;refine wpList_append_eq rfl _ _ 22 3 rfl (.slice (some ⟨g,0,none⟩) i n) (.int .i64 ((n:Int)+1-(i:Int))) (by simp[Act.eval,Act.put]) (by simp[Act.eval,Act.put]) (hrz _) ?_)
  |(at_builtin;refine wpList_copy_rows rfl _ _ 22 22 rfl (.slice (some ⟨W.heap.size,i*4,none⟩) (n+1-i) (G-i)) (.slice (some ⟨vb,0,none⟩) 1 1) (by simp[Act.eval,Act.put]) (by simp[Act.eval,Act.put]) (hcpA _ _) ?_))
 go_region_law (refine step_copy_rows rfl (.tmp 50) (.tmp 53) 22 22 rfl (.slice (some ⟨W.heap.size,(i+1)*4,none⟩) (n+1-(i+1)) (G-(i+1))) (.slice (some ⟨g,i*4,none⟩) (n-i) (n-i)) (by simp[Act.eval,Act.put]) (by simp[Act.eval,Act.put]) (hcpB _ _ _) ?_)
 go_wp2_with fail;go_ret;exact⟨G,_,rfl,HGn.out,HGm.out,HL3.out.1,HL3.out.2,HH3.out,HB3.out⟩
theorem insert_any (B:Nat) (v:Value) (L:List Sh) (i:Nat) (na:ByteArray) (h8:L.length≤8) (hi:i≤L.length):InsOK B v L i na:=by
 by_cases hie:i=L.length
 · subst hie;exact insert_end B v L na h8
 intro W vb hO hM hc hb;obtain⟨us,hj,hr,ho,hx⟩:=hO
 have hlr:=rowsF_len hj.1;have hone: ∀r∈rowsF L us,r.length=4∧ ∀u∈r,u.oneCell'=true:=by obtain⟨_,_,_,_,_,h4,_⟩:=hr;exact h4
 have hfl: ∀r∈rowsF L us,r.length=4:=fun r hr=>(hone r hr).1
 have hrow:=own_of_rm hr hM (ho.mono (Nat.zero_le B));obtain⟨hl,h2⟩:=hrow
 rcases h2 with⟨_,hz⟩|⟨g,cap,cur,rfl,_,hh,hnc,hm,hz,htake⟩
 · rw[hlr]at hz;omega
 have hone': ∀u∈(rowsF L us).flatten,u.oneCell'=true:=fun u hu=>by
  obtain⟨r,hr,hu⟩:=List.mem_flatten.1 hu
  exact(hone r hr).2 u hu
 have hnew: ∀r∈(rowsF L us).take i++newC na::(rowsF L us).drop i,r.length=4∧ ∀u∈r,u.oneCell'=true:=fun r hr=>by
  rcases List.mem_append.1 hr with h|h
  · exact hone r (List.mem_of_mem_take h)
  · rcases List.mem_cons.1 h with rfl|h
    · exact newC_one na
    · exact hone r (List.mem_of_mem_drop h)
 have hnl:((rowsF L us).take i++newC na::(rowsF L us).drop i).length=L.length+1:=by simp[hlr];omega
 have hnf:((rowsF L us).take i++newC na::(rowsF L us).drop i).flatten=(rowsF L us).flatten.take (i*4)++(newC na++(rowsF L us).flatten.drop (i*4)):=by
  rw[List.flatten_append,List.flatten_cons,Hu.flat_take hfl,Hu.flat_drop hfl]
 have hnfl:((rowsF L us).take i++newC na::(rowsF L us).drop i).flatten.length=(L.length+1)*4:=by rw[flatten_len (n:=4) (fun r hr=>(hnew r hr).1),hnl]
 have hXl:(rowsF L us).flatten.length=L.length*4:=by rw[hl,hlr]
 have hvb:g<vb:=hb g rfl;rw[hlr]at hnc hx⊢;rw[hlr]at htake;by_cases hroom:L.length+1≤cap
 · refine(insert_shift g L.length cap i vb cur.toList (rowsF L us).flatten na W (by omega) hroom hm (by simpa using hh) (by simpa using hz) hXl (by rw[hXl];exact htake) hone' hc (by omega)).mono ?_
   rintro e w' ⟨rfl,hH,hG⟩;refine⟨_,rfl,?_,hG⟩
   have hsp:(splice (splice cur.toList (i*4+4) ((rowsF L us).flatten.drop (i*4))) (i*4) (newC na)).length=cap*4:=by
    have hd:((rowsF L us).flatten.drop (i*4)).length=(L.length-i)*4:=by rw[List.length_drop,hXl];omega
    rw[length_splice _ _ _ (by rw[length_splice _ _ _ (by rw[hd];simp;omega),(newC_one na).1];simp;omega),length_splice _ _ _ (by rw[hd];simp;omega)];simpa using hz
   have hown:w'.ownsRow 0 90 4 (.slice (some ⟨g,0,none⟩) (L.length+1) cap) ((rowsF L us).take i++newC na::(rowsF L us).drop i).length ((rowsF L us).take i++newC na::(rowsF L us).drop i).flatten:=by
    rw[hnl];refine⟨hnfl,Or.inr ⟨g,cap,_,rfl,Nat.zero_le _,hH,by omega,hm,by simpa using hsp,?_⟩⟩
    rw[hnf,←Hu.spl_two (cur:=cur.toList) (newC_one na).1 (by rw[hXl];simp;omega) (by rw[hXl];omega) (by rw[hXl];exact htake),hXl];simp[Nat.add_mul]
   exact liesF_new (josAt_row hj hx hG) (by omega) (liesR_own hown (by rw[hnl];omega) hnew)
 · obtain rfl:cap=L.length:=by omega
   have hcs: ∀j u,(rowsF L us).flatten[j]?=some u→W.cell? ⟨g,j,none⟩=some u:=fun j u hj=>by
    have hjl:j<L.length*4:=by rw[←hXl];exact(List.getElem?_eq_some_iff.1 hj).1
    simp only[World.cell?,hh];rw[←htake,List.getElem?_take,if_pos hjl]at hj;simpa using hj
   refine(insert_grow g L.length i vb (rowsF L us).flatten na W (by omega) h8 hcs (heap_lt hh) hXl hone' hc).mono ?_
   rintro e w' ⟨G,c2,rfl,hGn,hGm,hcl,htk,hH,hB⟩;have hG:W.grownBy w' (some g):=Nb.below g hB;refine⟨_,rfl,?_,hG⟩
   have hown:w'.ownsRow 0 90 4 (.slice (some ⟨W.heap.size,0,none⟩) (L.length+1) G) ((rowsF L us).take i++newC na::(rowsF L us).drop i).length ((rowsF L us).take i++newC na::(rowsF L us).drop i).flatten:=by
    rw[hnl];refine⟨hnfl,Or.inr ⟨W.heap.size,G,_,rfl,Nat.zero_le _,hH,by omega,hGm,by simpa using hcl,?_⟩⟩
    rw[hnf,←htk,hXl];simp[Nat.add_mul]
   exact liesF_new (josAt_row hj hx hG) (by omega) (liesR_own hown (by rw[hnl];omega) hnew)
end Go.Proofs.YtppdfeehhnofaaaGreatDoor
