/- What the reference's SameRequest answers, of the same requests. -/
import Derived.Test.YtdifomkoegmngaaGreatDoorRKR
import Derived.Test.YtdifomkoegmngaaGreatDoorRKW
import Derived.Test.YtdifomkoegmngaaGreatDoorRKF
import Derived.Test.YtdifomkoegmngaaGreatDoorRKH
import Derived.Test.YtdifomkoegmngaaGreatDoorRKP
import Derived.Test.YtdifomkoegmngaaGreatDoorRKO
import Derived.Test.YtdifomkoegmngaaGreatDoorRKU
import Derived.Test.YtdifomkoegmngaaGreatDoorRKB
import Derived.Test.YtdifomkoegmngaaGreatDoorRows
import Derived.Deep.Slices
import Derived.Lib.SmallJoins
import Derived.Carry
import Derived.Test.YtdifomkoegmngaaGreatDoorRKC
set_option linter.unusedSimpArgs false
set_option linter.unusedVariables false
namespace Go.Proofs.YtdifomkoegmngaaGreatDoor
open Go.RowKit

set_option maxRecDepth 100000 in
set_option maxHeartbeats 4000000 in
theorem sameRequest_yes (q:Rq) (v u:Value) (w:World) (hv:LiesQ w v q) (hu:LiesQ w u q):
    Calls Tryz.prog 13 #[v,u] w fun e w'=>e= .returned (.bool true)∧Below w.heap.size w w':=by
 obtain⟨va,rfl,la⟩:=hv
 obtain⟨ua,rfl,lb⟩:=hu
 have HA:=hid la;have HB:=hid lb;obtain⟨aa,ca,rfl,_⟩:=la
 obtain⟨ba,da,rfl,_⟩:=lb
 obtain⟨wz,hwz⟩: ∃wz,wz=(w.alloc (.cells #[.int .i64 q.kind,.string q.who,.string q.fo,.string q.name,.string q.key,.string q.text,.int .i64 q.num,.int .i64 q.off,.int .i64 q.base,.slice aa q.ch.length ca] 39)).alloc (.cells #[.int .i64 q.kind,.string q.who,.string q.fo,.string q.name,.string q.key,.string q.text,.int .i64 q.num,.int .i64 q.off,.int .i64 q.base,.slice ba q.ch.length da] 39):=⟨_,rfl⟩
 have hbz:Below w.heap.size w wz:=by rw[hwz];exact((Below.refl _ _).alloc (Nat.le_refl _) _).alloc (by simp) _
 go_enter Tryz.func13,Tryz.ntmps13
 go_wp2_with fail;rw[←hwz];clear hwz;refine(sameChg_yes q.ch _ _ _ (HA.out.below hbz) (HB.out.below hbz)).mono ?_
 rintro e w1 ⟨rfl,hb1⟩;have hb01:=below_tr hbz hb1;go_wp2_with fail;go_ret;exact⟨rfl,hb01⟩
/-- What was read of a text, in memory of its own. -/
theorem whq_own {l:List UInt8} {B:Nat} {e:Ending} {W:World} (h:WhPost (Wr.whole (Wr.rqP Wr.gN 1000 l)) (.agg zrq.toArray) (RqV B) e W) {q:Rq} (hq0:q=(Wr.whole (Wr.rqP Wr.gN 1000 l)).getD zeroQ) {E:Int} (hE:E=if(Wr.whole (Wr.rqP Wr.gN 1000 l)).isSome then 0 else 1):
    ∃a c,e= .returned (.tuple #[.agg #[.int .i64 q.kind,.string q.who,.string q.fo,.string q.name,.string q.key,.string q.text,.int .i64 q.num,.int .i64 q.off,.int .i64 q.base,.slice a q.ch.length c],.int .i64 E])∧LiesC W (.slice a q.ch.length c) q.ch∧Own B W (.slice a q.ch.length c):=by
 subst hq0;subst hE;cases hr:Wr.whole (Wr.rqP Wr.gN 1000 l)with
 |none=>
  rw[hr]at h;exact⟨none,0,h,liesC_nil W,own_nil _ _⟩
 |some q=>
  rw[hr]at h;obtain⟨v,rfl,hq⟩:=h
  have hok:=(Wr.ok_rq q).1 (Wr.whole_rq.1 hr).1;obtain⟨vc,rfl,hr2⟩:=hq
  have hL:=hr2.liesC (by have:=hok.ch.1;omega)
  have hO:Own B W vc:=by
   obtain⟨Z,_,h,_⟩:=hr2
   exact own_row h
  obtain⟨a,c,rfl,_⟩:=hL
  exact⟨a,c,rfl,hr2.liesC (by have:=hok.ch.1;omega),hO⟩
/-- What may be appended: nil, or rows that lie at an address. -/
def SrcJ (w:World) (sx:Value) (m size:Nat) (news:List Value):Prop:=(∃c,sx= .slice none m c∧m=0∧news=[])∨ ∃ad c,sx= .slice (some ad) m c∧news.length=m*size∧(∀j u,news[j]?=some u→w.cell? (ad.add j)=some u)
theorem rows_srcJ {w:World} {v:Value} {n:Nat} {R:List (List Value)} (h0:0<n) (h:LiesR n w v R):SrcJ w v R.length n R.flatten:=by
 obtain⟨a,cap,rfl,hcap,hcap2,hR,hLL⟩:=h
 cases a with
 |none=>
  have:R=[]:=by
   cases R with
   |nil=>rfl
   |cons s r=>obtain⟨b,o,hb,_⟩:=hLL 0 (by simp);cases hb
  subst this;exact Or.inl ⟨cap,rfl,rfl,rfl⟩
 |some ad=>
  refine Or.inr ⟨ad,cap,rfl,flatten_len (fun r hr=>(hR r hr).1),?_⟩
  cases R with
  |nil=>intro j u hj;simp at hj
  |cons s r=>
   obtain⟨b,o,hb,_⟩:=hLL 0 (by simp)
   injection hb with hb
   subst hb
   exact liesR_cells h0 (fun r hr=>(hR r hr).1) fun i hi=>by
    obtain⟨b',o',hb',_,he⟩:=hLL i hi
    injection hb' with hb'
    injection hb' with h1 h2
    subst h1;subst h2;exact he
theorem run_append_none_capJ {P:Program} {w:World} (base:Nat) (t ty e:TypeId) (i:TypeInfo) (size:Nat) (ht:P.underlying t=some (.slice e)) (hi:P.info? e=some i) (v:Value) (n c:Nat) (xs:List Value) (hown:w.ownsRow base e size v n xs):
    (Builtin.append_ #[t,t] ty #[v,.slice none 0 c]).run P w= .ok v w:=by
 rcases hown.2 with⟨rfl,rfl⟩|⟨g,cap,cur,rfl,_,_,hnc,_⟩
 · simp[Builtin.append_,run_underlying ht,sizeOf,typeInfo,hi,Builtin.lenOf,Builtin.firstCells]
 · simp[Builtin.append_,run_underlying ht,sizeOf,typeInfo,hi,Builtin.lenOf,Builtin.firstCells,hnc,storeCells]
theorem wpList_append_srcJ {P:Program} {w:World} {ops:Array Oper} {rest:List Oper} {o:Oper} {a:Act} {Q:Exit→Act→World→Prop} (hgd:o.guard=none)
    (s x:Operand) (t:TypeId) (hop:o.op=Op.call {callee:=Callee.builtin Builtin.append,args:= #[s,x],argTypes:= #[t,t]})
    (base:Nat) (e:TypeId) (i:TypeInfo) (z:Value) (size bytes:Nat) (ht:P.underlying t=some (.slice e)) (hi:P.info? e=some i) (hz:i.zero=some z)
    (hsize:i.size=size) (hby:i.bytes=bytes) (hzs:z.cells.size=size) (hsz:0<size)
    (v:Value) (n:Nat) (xs:List Value) (hs:a.eval s=v) (hown:w.ownsRow base e size v n xs)
    (sx:Value) (m:Nat) (news:List Value) (hx:a.eval x=sx) (hsx:SrcJ w sx m size news) (h1: ∀u∈news,u.oneCell'=true)
    (h63:n+m≤maxLen) (hbytes:(n+m)*bytes≤140737488355328) (hbase:base≤w.heap.size)
    (h: ∀v' w',w'.ownsRow base e size v' (n+m) (xs++news)→w.grownBy w' v.ownBlock→wpList P ops Q rest (a.put o.dst v') w'):
    wpList P ops Q (o::rest) a w:=by
 rcases hsx with⟨c,rfl,rfl,rfl⟩|⟨ad,c,rfl,hl,hnews⟩
 · refine wpList_plain hgd fun K hK=>?_
   have hrun:=run_append_none_capJ (P:=P) (w:=w) base t o.type e i size ht hi v n c xs hown;unfold Oper.wp;simp[execOp,hop,resolve,invoke,builtin,hs,hx,hrun,Result.andThen]
   exact hK _ _ (h v w (by simpa using hown) (World.grownBy.refl _ _))
 · exact wpList_append_own w hgd s x t hop base e i z size bytes ht hi hz hsize hby hzs hsz v n xs hs hown ad m c news hx hl hnews h1 h63 hbytes hbase fun v' w' h1 h2 _=>h v' w' h1 h2
set_option maxRecDepth 100000 in
set_option maxHeartbeats 8000000 in
theorem restJournals_walk (J:Jo) (v:Value) (key:ByteArray) (l:List Pp.Ch) (xl:Value) (cu:Int) (s:ByteArray) (w:World) (hv:LiesJ w v J) (hl:LiesC w xl l) (hp: ∀e∈J.base,e.path.size≤1000000000∧e.text.size≤1000000000) (hcs:SizedO 1000000000 J.cos) (hls:SizedC 1000000000 l) (hke:key.size≤1000000000) (nl:l.length≤1048576) (hs:s.size≤MaxL) (h6:5<w.heap.size) (hvs:VarsW w):
    Calls Tryz.prog 3 #[v,.string key,xl,.int .i64 cu,.string s] w fun e w'=>e= .returned (.bool true)∧Below w.heap.size w w':=by
 obtain⟨i0,hi0,hz0,hz1,hz2⟩:=info_parts Tryz.infoRC
 have HV:=hid hv;have HL:=hid hl;have HP:=hid (show∀e∈J.base,e.path.size≤1000000000 from fun e he=>(hp e he).1);have HS:=hid (show Sized J.base from fun e he=>⟨by have:=(hp e he).1;omega,by have:=(hp e he).2;omega⟩);have HCS:=hid hcs;have HCS2:=hid (hcs.mono (by decide:1000000000≤150000000000000));have HKE:=hid (show key.size≤maxLen from by unfold maxLen;omega);have HLS:=hid hls;have HLS2:=hid (show SizedC 150000000000000 l from fun c hc=>⟨Nat.le_trans (hls c hc).1 (by decide),Nat.le_trans (hls c hc).2.1 (by decide),Nat.le_trans (hls c hc).2.2 (by decide)⟩);have HVS:=hid (fun W (hW:Below w.heap.size w W)=>hvs.belowB h6 hW);have HSZ:=hid hs;have H6:=hid h6;have HNL:=hid nl;obtain⟨E,hE⟩: ∃E:Int,E=if(Wr.whole (Wr.rqP Wr.gN 1000 s.data.toList)).isSome then 0 else 1:=⟨_,rfl⟩
 obtain⟨q,hq⟩: ∃q:Rq,q=(Wr.whole (Wr.rqP Wr.gN 1000 s.data.toList)).getD zeroQ:=⟨_,rfl⟩
 have HE:=hid hE;have HQ:=hid hq;obtain⟨vb,vc,rfl,hvb,hvc⟩:=hv
 obtain⟨ba,bcap,rfl,_⟩:=hvb
 obtain⟨ca,ccap,rfl⟩:=liesO_shape hvc
 obtain⟨la,lcap,rfl,_⟩:=hl
 clear hp hcs hls hke hvs hs h6 nl hE hq hvc;obtain⟨wz,hwz⟩: ∃wz,wz=w.alloc (.cells #[.slice ba J.base.length bcap,.int .i64 J.first,.slice ca J.cos.length ccap] 25):=⟨_,rfl⟩
 have hbz:Below w.heap.size w wz:=by rw[hwz];exact(Below.refl _ _).alloc (Nat.le_refl _) _
 have HX:=hid (show Cs wz w.heap.size [.slice ba J.base.length bcap,.int .i64 J.first,.slice ca J.cos.length ccap] by rw[hwz];exact Cs.new w [.slice ba J.base.length bcap,.int .i64 J.first,.slice ca J.cos.length ccap] _);go_enter Tryz.func3,Tryz.ntmps3
 go_upto_region 1 with fail;rw[←hwz];clear hwz;go_wp2_with fail;refine(journalBegun_yes _).mono ?_
 rintro e w1 ⟨rfl,hb1⟩;have hb01:=below_tr hbz hb1;go_wp2_with fail;refine(wireBegun_yes w1 (by have:=H6.out;have:=hb01.size;omega) (HVS.out w1 hb01)).mono ?_
 rintro e w2 ⟨rfl,hb2⟩;have hb02:=below_tr hb01 hb2;have HX2:=hid (HX.out.below (below_tr hb1 hb2));have HL2:=hid (HL.out.below hb02)
 have HRM:=hid (show(∀u∈(l.map Pp.chC).flatten,u.oneCell'=true)∧(l.map Pp.chC).length=l.length∧(∀r∈l.map Pp.chC,r.length=5∧ ∀u∈r,u.oneCell'=true)from⟨by
  obtain⟨_,_,_,_,_,h,_⟩:=liesR_ch.1 HL.out
  exact flatten_one h,by simp,by
  obtain⟨_,_,_,_,_,h,_⟩:=liesR_ch.1 HL.out
  exact h⟩)
 have HSRC:=hid (fun(W:World) (h:LiesC W (.slice la l.length lcap) l)=>(by
  have h2:=rows_srcJ (by decide) (liesR_ch.1 h);rw[List.length_map]at h2;exact h2:SrcJ W (.slice la l.length lcap) l.length 5 (l.map Pp.chC).flatten))
 clear hb1 hb2 hb01 HX hbz;have hnl:=HNL.out;go_wp2_with (at_builtin;refine wpList_append_srcJ rfl _ _ 26 rfl w2.heap.size 53 i0 (.agg #[.int .i64 0,.string ⟨#[]⟩,.string ⟨#[]⟩,.string ⟨#[]⟩,.int .i64 0]) 5 64 Tryz.underlying26 hi0 hz0 hz1 hz2 rfl (by decide) _ _ _ rfl (World.ownsRow_made w2 #[] 0 (Nat.le_refl _) (Nat.zero_le _) (by simp)) _ l.length (l.map Pp.chC).flatten rfl (HSRC.out _ (HL2.out.below ((Below.refl _ _).alloc (Nat.le_refl _) _))) HRM.out.1 (by unfold maxLen;omega) (by omega) (by simp) ?_)
 intro v3 w3 ho3 hgr3;have hb3:Below w2.heap.size w2 w3:=((Below.refl _ _).alloc (Nat.le_refl _) _).grown hgr3 (by simp) (fun k hk=>by simp[Value.ownBlock]at hk;omega);have ho3':w3.ownsRow w2.heap.size 53 5 v3 (l.map Pp.chC).length (l.map Pp.chC).flatten:=by rw[HRM.out.2.1];simpa using ho3
 have HIN:=hid (liesR_ch.2 (liesR_own ho3' (by rw[HRM.out.2.1];omega) HRM.out.2.2));obtain⟨ia,icap,rfl,_⟩:=HIN.out
 have hb03:=below_tr hb02 hb3;have HX3:=hid (HX2.out.below hb3);clear ho3 ho3' hgr3 HX2 HL2 hnl hb3;have c0:=HX3.out.cell 0 rfl;have c1:=HX3.out.cell 1 rfl;have c2:=HX3.out.cell 2 rfl;go_wp2_with fail;refine(checkJournal_any J _ _ (HV.out.below hb03) HP.out HCS.out).mono ?_
 rintro e w7 ⟨rfl,hb7⟩;have hb07:=below_tr hb03 hb7;have HX7:=hid (HX3.out.below hb7);have HIN7:=hid (HIN.out.below hb7);have HV7:=hid (HV.out.below hb07);have HL7:=hid (HL.out.below hb07);clear c0 c1 c2 HX3 HIN hb03 hb7 hb02;have HRD:=hid (fun(W:World) (h:LiesJ W (.agg #[.slice ba J.base.length bcap,.int .i64 J.first,.slice ca J.cos.length ccap]) J) (h2:LiesC W (.slice ia l.length icap) l)=>jcommit_any J _ key l _ W h h2 HS.out HCS2.out HLS2.out HKE.out);have HRO:=hid (fun(h0:Jn.chkE J=0) (W:World) (h:LiesJ W (.agg #[.slice ba J.base.length bcap,.int .i64 J.first,.slice ca J.cos.length ccap]) J) (h2:LiesC W (.slice la l.length lcap) l)=>commitOf_any J _ key l _ W h h2 HP.out HCS.out HLS.out HKE.out h0);generalize Jn.comR J key l=X at HRD HRO;generalize Jn.comE J key l=E1 at HRD HRO;generalize Jn.comN J key l=N1 at HRD HRO;have HPD:=hid (fun(W:World) (h:LiesJ W (.agg #[.slice ba J.base.length bcap,.int .i64 J.first,.slice ca J.cos.length ccap]) J)=>jread_any J _ cu 4 W h HS.out HCS2.out);have HPO:=hid (fun(h0:Jn.chkE J=0) (W:World) (h:LiesJ W (.agg #[.slice ba J.base.length bcap,.int .i64 J.first,.slice ca J.cos.length ccap]) J)=>readOf_any J _ cu 4 W h HP.out HCS.out h0);generalize Jn.rdR J cu 4=P at HPD HPO;generalize Jn.rdE J cu 4=F at HPD HPO;go_wp2_with fail;go_loopw [13] (fun i wr=> ∃j:Nat,j≤2∧i= .int .i64 j∧Below w7.heap.size w7 wr) (fun i _=>2-(intOf i).toNat)
 case atStart=>exact⟨0,Nat.zero_le _,rfl,Below.refl _ _⟩
 case round=>
  obtain⟨j,hj,rfl,hbel⟩:=hrel
  by_cases hlt:j<2
  · have hlt2:(j:Int)<2:=by omega
    obtain⟨z,hz⟩: ∃z,z=wr.heap.size:=⟨_,rfl⟩
    have HZ:=hid hz;have hz7:=hbel.size;rw[←hz]at hz7;have HXr:=hid (HX7.out.below hbel);clear hz;have c0:=HXr.out.cell 0 rfl;have c1:=HXr.out.cell 1 rfl;have c2:=HXr.out.cell 2 rfl;go_wp2_with fail;refine(HRD.out _ (HV7.out.below hbel) (HIN7.out.below hbel)).mono ?_
    rintro e wa ⟨r,rfl,hli,hba⟩;have hb7a:=below_tr hbel hba;have hza:z≤wa.heap.size:=by rw[HZ.out];exact hba.size
    obtain⟨vt,vc,rfl,hx1,hx1o,hx2⟩:=hli
    have HT1:=hid (show SpN z 4 wa vt by rw[HZ.out];exact spn_tree hx1 hx1o);have HO1:=hid (show SpO z wa vc by rw[HZ.out];exact spo_own hx2);have HB1:=hid hx1;have HC1:=hid hx2.lies;obtain⟨x1,y1,rfl,_⟩:=hx1
    obtain⟨x2,y2,rfl⟩:=liesO_shape hx2.lies
    clear hx1o hx2 c0 c1 c2;obtain⟨wp,hwp⟩: ∃x,x=wa.alloc (.cells #[.slice x1 X.base.length y1,.int .i64 X.first,.slice x2 X.cos.length y2] 25):=⟨_,rfl⟩
    have hbwp:Below wa.heap.size wa wp:=by rw[hwp];exact(Below.refl _ _).alloc (Nat.le_refl _) _
    have HBX:=hid (show Cs wp wa.heap.size [.slice x1 X.base.length y1,.int .i64 X.first,.slice x2 X.cos.length y2] by rw[hwp];exact Cs.new wa [.slice x1 X.base.length y1,.int .i64 X.first,.slice x2 X.cos.length y2] _);have hb7p:=below_tr hb7a hbwp;have HXp:=hid (HX7.out.below hb7p);go_upto_region 9 with fail;try simp only[World.setCell_alloc_new]
    rw[←hwp];clear hwp;have c0:=HXp.out.cell 0 rfl;have c1:=HXp.out.cell 1 rfl;have c2:=HXp.out.cell 2 rfl;go_wp2_with fail;refine(HPD.out _ (HV7.out.below hb7p)).mono ?_
    rintro e wb ⟨r,rfl,hli,hbb⟩;have hb7b:=below_tr hb7p hbb;have hzb:=Nat.le_trans (Nat.le_trans hza hbwp.size) hbb.size;obtain⟨vt,vc,rfl,hx1,hx1o,hx2⟩:=hli
    have HT2:=hid ((spn_tree hx1 hx1o).mono (Nat.le_trans hza hbwp.size));have HO2:=hid ((spo_own hx2).mono (Nat.le_trans hza hbwp.size));have HB2:=hid hx1;have HC2:=hid hx2.lies;obtain⟨x3,y3,rfl,_⟩:=hx1
    obtain⟨x4,y4,rfl⟩:=liesO_shape hx2.lies
    clear hx1o hx2 c0 c1 c2;obtain⟨wq,hwq⟩: ∃x,x=wb.alloc (.cells #[.bool P.reset,.slice x3 P.tree.length y3,.slice x4 P.cos.length y4,.int .i64 P.cur,.bool P.more] 33):=⟨_,rfl⟩
    have hbwq:Below wb.heap.size wb wq:=by rw[hwq];exact(Below.refl _ _).alloc (Nat.le_refl _) _
    have HPX:=hid (show Cs wq wb.heap.size [.bool P.reset,.slice x3 P.tree.length y3,.slice x4 P.cos.length y4,.int .i64 P.cur,.bool P.more] by rw[hwq];exact Cs.new wb [.bool P.reset,.slice x3 P.tree.length y3,.slice x4 P.cos.length y4,.int .i64 P.cur,.bool P.more] _);have hb7q:=below_tr hb7b hbwq;have HXq:=hid (HX7.out.below hb7q);go_upto_region 10 with fail;try simp only[World.setCell_alloc_new]
    rw[←hwq];clear hwq;have c0:=HXq.out.cell 0 rfl;have c1:=HXq.out.cell 1 rfl;have c2:=HXq.out.cell 2 rfl;go_wp2_with fail;refine(jtree_any J _ _ (HV7.out.below hb7q) HS.out HCS2.out).mono ?_
    rintro e wc1 ⟨vtr,rfl,hx1,hx1o,hbc⟩;have hb7c:=below_tr hb7q hbc;have hzq:=Nat.le_trans hzb hbwq.size;have hzc:=Nat.le_trans hzq hbc.size;have HT3:=hid ((spn_tree hx1 hx1o).mono hzq);have HB3:=hid hx1;clear hx1 hx1o c0 c1 c2;go_wp2_with fail;refine(asked_any s wc1 HSZ.out (by have:=H6.out;have:=hb07.size;have:=hb7c.size;omega) (HVS.out wc1 (below_tr hb07 hb7c))).mono ?_
    rintro e wd ⟨hpq,hbd⟩;obtain⟨qa,qc,rfl,hql,hqo⟩:=whq_own hpq HQ.out HE.out
    have hb7d:=below_tr hb7c hbd;have hzd:=Nat.le_trans hzc hbd.size;have HT4:=hid ((spn_ch hql hqo).mono hzc);have HB4:=hid hql;clear hpq hql hqo;obtain⟨wf,hwf⟩: ∃x,x=wd.alloc (.cells #[.int .i64 q.kind,.string q.who,.string q.fo,.string q.name,.string q.key,.string q.text,.int .i64 q.num,.int .i64 q.off,.int .i64 q.base,.slice qa q.ch.length qc] 39):=⟨_,rfl⟩
    have hbwf:Below wd.heap.size wd wf:=by rw[hwf];exact(Below.refl _ _).alloc (Nat.le_refl _) _
    have HQX:=hid (show Cs wf wd.heap.size [.int .i64 q.kind,.string q.who,.string q.fo,.string q.name,.string q.key,.string q.text,.int .i64 q.num,.int .i64 q.off,.int .i64 q.base,.slice qa q.ch.length qc] by rw[hwf];exact Cs.new wd [.int .i64 q.kind,.string q.who,.string q.fo,.string q.name,.string q.key,.string q.text,.int .i64 q.num,.int .i64 q.off,.int .i64 q.base,.slice qa q.ch.length qc] _);have hb7f:=below_tr hb7d hbwf;go_upto_region 12 with fail;try simp only[World.setCell_alloc_new]
    rw[←hwf];clear hwf;go_wp2_with fail;refine(askedOf_any s wf (by have:=HSZ.out;unfold MaxL at this;omega)).mono ?_
    rintro e wg ⟨hpq,hbg⟩;obtain⟨qa2,qc2,rfl,hql,hqo⟩:=whq_own hpq HQ.out HE.out
    have hb7g:=below_tr hb7f hbg;have hzf:=Nat.le_trans hzd hbwf.size;have hzg:=Nat.le_trans hzf hbg.size;have HB5:=hid hql;clear hpq hql hqo;obtain⟨wh,hwh⟩: ∃x,x=wg.alloc (.cells #[.int .i64 q.kind,.string q.who,.string q.fo,.string q.name,.string q.key,.string q.text,.int .i64 q.num,.int .i64 q.off,.int .i64 q.base,.slice qa2 q.ch.length qc2] 39):=⟨_,rfl⟩
    have hbwh:Below wg.heap.size wg wh:=by rw[hwh];exact(Below.refl _ _).alloc (Nat.le_refl _) _
    have HRX:=hid (show Cs wh wg.heap.size [.int .i64 q.kind,.string q.who,.string q.fo,.string q.name,.string q.key,.string q.text,.int .i64 q.num,.int .i64 q.off,.int .i64 q.base,.slice qa2 q.ch.length qc2] by rw[hwh];exact Cs.new wg [.int .i64 q.kind,.string q.who,.string q.fo,.string q.name,.string q.key,.string q.text,.int .i64 q.num,.int .i64 q.off,.int .i64 q.base,.slice qa2 q.ch.length qc2] _);have hb7h:=below_tr hb7g hbwh;go_upto_region 13 with fail;try simp only[World.setCell_alloc_new]
    rw[←hwh];clear hwh;go_wp2_with fail;refine(sameChg_yes l _ _ _ (HIN7.out.below hb7h) (HL7.out.below hb7h)).mono ?_
    rintro e wi ⟨rfl,hbi⟩;have hb7i:=below_tr hb7h hbi;have hbgi:=below_tr hbwh hbi;have hbfi:=below_tr hbg hbgi;have hbdi:=below_tr hbwf hbfi;have hbci:=below_tr hbd hbdi;have hbqi:=below_tr hbc hbci;have hbbi:=below_tr hbwq hbqi;have hbpi:=below_tr hbb hbbi;have hbai:=below_tr hbwp hbpi;have HQX2:=hid (HQX.out.below hbfi);have HRX2:=hid (HRX.out.below hbi);have HB4i:=hid (HB4.out.below hbdi);have HB5i:=hid (HB5.out.below hbgi);clear hbgi;have x0:=HQX2.out.cell 0 rfl;have x1:=HQX2.out.cell 1 rfl;have x2:=HQX2.out.cell 2 rfl;have x3:=HQX2.out.cell 3 rfl;have x4:=HQX2.out.cell 4 rfl;have x5:=HQX2.out.cell 5 rfl;have x6:=HQX2.out.cell 6 rfl;have x7:=HQX2.out.cell 7 rfl;have x8:=HQX2.out.cell 8 rfl;have x9:=HQX2.out.cell 9 rfl;have y0:=HRX2.out.cell 0 rfl;have y1:=HRX2.out.cell 1 rfl;have y2:=HRX2.out.cell 2 rfl;have y3:=HRX2.out.cell 3 rfl;have y4:=HRX2.out.cell 4 rfl;have y5:=HRX2.out.cell 5 rfl;have y6:=HRX2.out.cell 6 rfl;have y7:=HRX2.out.cell 7 rfl;have y8:=HRX2.out.cell 8 rfl;have y9:=HRX2.out.cell 9 rfl;go_wp2_with fail;refine(sameRequest_yes q _ _ _ ⟨_,rfl,HB4i.out⟩ ⟨_,rfl,HB5i.out⟩).mono ?_
    rintro e wj ⟨rfl,hbj⟩;have hb7j:=below_tr hb7i hbj;have HBXj:=hid (HBX.out.below (below_tr hbpi hbj));have HPXj:=hid (HPX.out.below (below_tr hbqi hbj));have HQXj:=hid (HQX2.out.below hbj);have HB1j:=hid (HB1.out.below (below_tr hbai hbj));have HC1j:=hid (HC1.out.below (below_tr hbai hbj));have HB2j:=hid (HB2.out.below (below_tr hbbi hbj));have HC2j:=hid (HC2.out.below (below_tr hbbi hbj));have HB3j:=hid (HB3.out.below (below_tr hbci hbj));have HT1j:=hid (HT1.out.keep (StW.below (below_tr hbai hbj)));have HO1j:=hid (HO1.out.keep (StW.below (below_tr hbai hbj)));have HT2j:=hid (HT2.out.keep (StW.below (below_tr hbbi hbj)));have HO2j:=hid (HO2.out.keep (StW.below (below_tr hbbi hbj)));have HT3j:=hid (HT3.out.keep (StW.below (below_tr hbci hbj)));have HT4j:=hid (HT4.out.keep (StW.below (below_tr hbdi hbj)));have hzj:=Nat.le_trans hza (below_tr hbai hbj).size;have hLBX:=HBXj.out.lt;have hLPX:=HPXj.out.lt;clear x0 x1 x2 x3 x4 x5 x6 x7 x8 x9 y0 y1 y2 y3 y4 y5 y6 y7 y8 y9 HB1 HC1 HB2 HC2 HB3 HB4 HB5 HB4i HB5i HT1 HO1 HT2 HO2 HT3 HT4 HBX HPX HQX HRX HQX2 HRX2 hbai hbbi hbci hbdi hbfi hbpi hbqi hbi hbj hb7a hb7b hb7c hb7d hb7f hb7g hb7h hb7i hb7p hb7q hzb hzq hzc hzd hzf hzg hza hbwp hbwq hbwf hbwh hba hbb hbc hbd hbg HXp HXq HXr hbel;go_upto_if 90 with fail;go_cut [25,26,27,28,29]from 41 to 161 (fun x1 x2 x3 x4 x5 W=>Below wj.heap.size wj W)
    case first=>
     by_cases h0:Jn.chkE J=0
     · have H0:=hid h0
       have hd0:(Jn.chkE J==0)=true:=by rw[h0];rfl
       have hd1:(Jn.chkE J !=0)=false:=by rw[h0];rfl
       clear h0;have HXk:=hid (HX7.out.below hb7j);have c0:=HXk.out.cell 0 rfl;have c1:=HXk.out.cell 1 rfl;have c2:=HXk.out.cell 2 rfl;go_wp2_with fail;refine(HRO.out H0.out _ (HV7.out.below hb7j) (HL7.out.below hb7j)).mono ?_
       rintro e wk ⟨r,rfl,hx,hbk⟩;obtain⟨vt,vc,rfl,hx1,hx2⟩:=hx
       have HB6:=hid hx1;have HC6:=hid hx2;obtain⟨z1,u1,rfl,_⟩:=hx1
       obtain⟨z2,u2,rfl⟩:=liesO_shape hx2
       clear hx2 c0 c1 c2;obtain⟨wl,hwl⟩: ∃x,x=wk.alloc (.cells #[.slice z1 X.base.length u1,.int .i64 X.first,.slice z2 X.cos.length u2] 25):=⟨_,rfl⟩
       have hbwl:Below wk.heap.size wk wl:=by rw[hwl];exact(Below.refl _ _).alloc (Nat.le_refl _) _
       have HJX:=hid (show Cs wl wk.heap.size [.slice z1 X.base.length u1,.int .i64 X.first,.slice z2 X.cos.length u2] by rw[hwl];exact Cs.new wk [.slice z1 X.base.length u1,.int .i64 X.first,.slice z2 X.cos.length u2] _);have hbjl:=below_tr hbk hbwl;have hb7l:=below_tr hb7j hbjl;have HXl:=hid (HX7.out.below hb7l);go_upto_region 17 with fail;try simp only[World.setCell_alloc_new]
       rw[←hwl];clear hwl;have c0:=HXl.out.cell 0 rfl;have c1:=HXl.out.cell 1 rfl;have c2:=HXl.out.cell 2 rfl;go_wp2_with fail;refine(HPO.out H0.out _ (HV7.out.below hb7l)).mono ?_
       rintro e wm ⟨r,rfl,hx,hbm⟩;obtain⟨vt,vc,rfl,hx1,hx2⟩:=hx
       have HB7:=hid hx1;have HC7:=hid hx2;obtain⟨z3,u3,rfl,_⟩:=hx1
       obtain⟨z4,u4,rfl⟩:=liesO_shape hx2
       clear hx2 c0 c1 c2;obtain⟨wn,hwn⟩: ∃x,x=wm.alloc (.cells #[.bool P.reset,.slice z3 P.tree.length u3,.slice z4 P.cos.length u4,.int .i64 P.cur,.bool P.more] 33):=⟨_,rfl⟩
       have hbwn:Below wm.heap.size wm wn:=by rw[hwn];exact(Below.refl _ _).alloc (Nat.le_refl _) _
       have HGX:=hid (show Cs wn wm.heap.size [.bool P.reset,.slice z3 P.tree.length u3,.slice z4 P.cos.length u4,.int .i64 P.cur,.bool P.more] by rw[hwn];exact Cs.new wm [.bool P.reset,.slice z3 P.tree.length u3,.slice z4 P.cos.length u4,.int .i64 P.cur,.bool P.more] _);have hbln:=below_tr hbm hbwn;have hbkn:=below_tr hbwl hbln;have hbjn:=below_tr hbk hbkn;have hb7n:=below_tr hb7j hbjn;go_upto_region 18 with fail;try simp only[World.setCell_alloc_new]
       rw[←hwn];clear hwn;have HJn:=hid (show Cs wn wk.heap.size [.slice z1 X.base.length u1,.int .i64 X.first,.slice z2 X.cos.length u2]from HJX.out.below hbln);have HXn:=hid (HBXj.out.below hbjn);have HPn:=hid (HPXj.out.below hbjn);have HB1n:=hid (HB1j.out.below hbjn);have HC1n:=hid (HC1j.out.below hbjn);have HB6n:=hid (HB6.out.below hbkn);have HC6n:=hid (HC6.out.below hbkn);have HB2n:=hid (HB2j.out.below hbjn);have HC2n:=hid (HC2j.out.below hbjn);have HB7n:=hid (HB7.out.below hbwn);have HC7n:=hid (HC7.out.below hbwn);have HB3n:=hid (HB3j.out.below hbjn);clear HXk HXl HJX HB6 HC6 HB7 HC7 hbln hbkn hbm hbk hbwl hbwn hbjl hb7l;by_cases hE1:E1=0
       · have hEb:(E1==0)=true:=by rw[hE1];rfl
         clear hE1;have x0:=HXn.out.cell 0 rfl;have x1:=HXn.out.cell 1 rfl;have x2:=HXn.out.cell 2 rfl;have y0:=HJn.out.cell 0 rfl;have y1:=HJn.out.cell 1 rfl;have y2:=HJn.out.cell 2 rfl;go_wp2_with fail;refine(sameJ_yes X _ _ _ ⟨_,_,rfl,HB1n.out,HC1n.out⟩ ⟨_,_,rfl,HB6n.out,HC6n.out⟩).mono ?_
         rintro e wt ⟨rfl,hbt⟩;clear x0 x1 x2 y0 y1 y2;have HP9:=hid (HPn.out.below hbt);have HG9:=hid (HGX.out.below hbt);have x0:=HP9.out.cell 0 rfl;have x1:=HP9.out.cell 1 rfl;have x2:=HP9.out.cell 2 rfl;have x3:=HP9.out.cell 3 rfl;have x4:=HP9.out.cell 4 rfl;have y0:=HG9.out.cell 0 rfl;have y1:=HG9.out.cell 1 rfl;have y2:=HG9.out.cell 2 rfl;have y3:=HG9.out.cell 3 rfl;have y4:=HG9.out.cell 4 rfl;go_wp2_with fail;refine(samePg_yes P _ _ _ ⟨_,_,rfl,(HB2n.out.below hbt),(HC2n.out.below hbt)⟩ ⟨_,_,rfl,(HB7n.out.below hbt),(HC7n.out.below hbt)⟩).mono ?_
         rintro e wu ⟨rfl,hbu⟩;have hbju:=below_tr (below_tr hbjn hbt) hbu;have HXu:=hid (HX7.out.below (below_tr hb7j hbju));have c0:=HXu.out.cell 0 rfl;have c1:=HXu.out.cell 1 rfl;have c2:=HXu.out.cell 2 rfl;clear x0 x1 x2 x3 x4 y0 y1 y2 y3 y4;go_wp2_with fail;refine(treeOf_any J _ _ (HV7.out.below (below_tr hb7j hbju)) HP.out HCS.out H0.out).mono ?_
         rintro e wv ⟨vr,rfl,hvr,hbv⟩;have hbjv:=below_tr hbju hbv;have HVR:=hid hvr;clear c0 c1 c2 hvr;go_wp2_with fail;refine(same_yes (Jn.tree J) _ _ _ (by have h:=HB3j.out.below hbjv;rw[Pp.ifz_yes H0.out]at h;exact h) HVR.out).mono ?_
         rintro e wx ⟨rfl,hbx⟩;have hbjx:=below_tr hbjv hbx;go_wp2_with fail;go_meet
         case rel=>exact hbjx
       · have hEb:(E1==0)=false:=by simpa using hE1
         clear hE1;have HP9:=hid HPn.out;have HG9:=hid HGX.out;have x0:=HP9.out.cell 0 rfl;have x1:=HP9.out.cell 1 rfl;have x2:=HP9.out.cell 2 rfl;have x3:=HP9.out.cell 3 rfl;have x4:=HP9.out.cell 4 rfl;have y0:=HG9.out.cell 0 rfl;have y1:=HG9.out.cell 1 rfl;have y2:=HG9.out.cell 2 rfl;have y3:=HG9.out.cell 3 rfl;have y4:=HG9.out.cell 4 rfl;go_wp2_with fail;refine(samePg_yes P _ _ _ ⟨_,_,rfl,HB2n.out,HC2n.out⟩ ⟨_,_,rfl,HB7n.out,HC7n.out⟩).mono ?_
         rintro e wu ⟨rfl,hbu⟩;have hbju:=below_tr hbjn hbu;have HXu:=hid (HX7.out.below (below_tr hb7j hbju));have c0:=HXu.out.cell 0 rfl;have c1:=HXu.out.cell 1 rfl;have c2:=HXu.out.cell 2 rfl;clear x0 x1 x2 x3 x4 y0 y1 y2 y3 y4;go_wp2_with fail;refine(treeOf_any J _ _ (HV7.out.below (below_tr hb7j hbju)) HP.out HCS.out H0.out).mono ?_
         rintro e wv ⟨vr,rfl,hvr,hbv⟩;have hbjv:=below_tr hbju hbv;have HVR:=hid hvr;clear c0 c1 c2 hvr;go_wp2_with fail;refine(same_yes (Jn.tree J) _ _ _ (by have h:=HB3j.out.below hbjv;rw[Pp.ifz_yes H0.out]at h;exact h) HVR.out).mono ?_
         rintro e wx ⟨rfl,hbx⟩;have hbjx:=below_tr hbjv hbx;go_wp2_with fail;go_meet
         case rel=>exact hbjx
     · have hd0:(Jn.chkE J==0)=false:=by simpa using h0
       clear h0;go_wp2_with fail;go_meet
       case rel=>exact Below.refl _ _
    case rest=>
     have hkc:=StW.below hcut;have hzw:=Nat.le_trans hzj hcut.size;have hb7w:=below_tr hb7j hcut;have HBXw:=hid (HBXj.out.below hcut);have HPXw:=hid (HPXj.out.below hcut);have HQXw:=hid (HQXj.out.below hcut);have c0:=HBXw.out.cell 0 rfl;go_wp2_with fail;refine(spoilM_any _ z _ (HT1j.out.keep hkc) hzw).mono ?_
     rintro e s1 ⟨rfl,hk1,hs1⟩;have hz1':=Nat.le_trans hzw hs1.size;have d2:=hk1.sl _ _ _ _ _ (HBXw.out.cell 2 rfl);clear c0;go_wp2_with fail;refine(spoilO_any _ z _ ((HO1j.out.keep hkc).keep hk1) hz1').mono ?_
     rintro e s2 ⟨rfl,hk2,hs2⟩;have hk02:=hk1.trans hk2;have hz2':=Nat.le_trans hz1' hs2.size;have d1:=hk02.sl _ _ _ _ _ (HPXw.out.cell 1 rfl);clear d2;go_wp2_with fail;refine(spoilM_any _ z _ ((HT2j.out.keep hkc).keep hk02) hz2').mono ?_
     rintro e s3 ⟨rfl,hk3,hs3⟩;have hk03:=hk02.trans hk3;have hz3':=Nat.le_trans hz2' hs3.size;have d2:=hk03.sl _ _ _ _ _ (HPXw.out.cell 2 rfl);clear d1;go_wp2_with fail;refine(spoilO_any _ z _ ((HO2j.out.keep hkc).keep hk03) hz3').mono ?_
     rintro e s4 ⟨rfl,hk4,hs4⟩;have hk04:=hk03.trans hk4;have hz4':=Nat.le_trans hz3' hs4.size;clear d2;go_wp2_with fail;refine(spoilM_any _ z _ ((HT3j.out.keep hkc).keep hk04) hz4').mono ?_
     rintro e s5 ⟨rfl,hk5,hs5⟩;have hk05:=hk04.trans hk5;have hz5':=Nat.le_trans hz4' hs5.size;have d9:=hk05.sl _ _ _ _ _ (HQXw.out.cell 9 rfl);go_wp2_with fail;refine(spoilN_any _ z _ ((HT4j.out.keep hkc).keep hk05) hz5').mono ?_
     rintro e s6 ⟨rfl,hk6,hs6⟩;have hb7s:=hb7w.trans (((((hs1.trans hs2).trans hs3).trans hs4).trans (hs5.trans hs6)).mono hz7);clear d9 hk1 hk2 hk3 hk4 hk5 hk6 hk02 hk03 hk04 hk05 hs1 hs2 hs3 hs4 hs5 hs6 hz1' hz2' hz3' hz4' hz5' hzw hkc hb7w hcut;go_wp2_with fail;go_roundw
     case rel=>exact⟨j+1,by omega,by simp,hb7s⟩
     case measure=>simp[intOf];omega
  · have hlt2: ¬(j:Int)<2:=by omega
    go_wp2_with fail;go_ret;exact⟨rfl,hb07.trans (hbel.mono hb07.size)⟩
end Go.Proofs.YtdifomkoegmngaaGreatDoor
namespace Go.Proofs.YtdifomkoegmngaaGreatDoor
open Go.ChangeShapes Go.WideShapes Go.ChangeAt Go.RowKit

namespace Bk
theorem mem {H:Type} {d:DataW H}: ∀{l:List (DataW H)},d∈l→Rows.uptoBulk d≤Rows.uptoBulkAll l
 |[],h=>by cases h
 |x::r,h=>by
  rw[Rows.uptoBulkAll];rcases List.mem_cons.1 h with rfl|h
  · omega
  · have:=mem h;omega
theorem len {H:Type}: ∀{l:List (DataW H)},(∀d∈l,1≤Rows.uptoBulk d)→l.length≤Rows.uptoBulkAll l
 |[],_=>Nat.zero_le _
 |x::r,h=>by
  rw[Rows.uptoBulkAll,List.length_cons];have h1:=h x (by simp);have h2:=len (l:=r) fun d hd=>h d (by simp[hd])
  omega
end Bk

theorem Tryz.cellsE:Tryz.prog.cellsOf 72=4:=by kernel_rfl
theorem Tryz.cells9:Tryz.prog.cellsOf 9=1:=by kernel_rfl
theorem Tryz.cells4:Tryz.prog.cellsOf 4=1:=by kernel_rfl
theorem Tryz.cells3:Tryz.prog.cellsOf 3=1:=by kernel_rfl
def datE {H:Type} (e:En):DataW H:= .agg [.lit (.string e.path.data.toList),.lit (.bool e.folder),.lit (.string e.text.data.toList),.lit (.int .i64 e.ver)]
theorem bulkE {H:Type} (e:En):Rows.uptoBulk (datE (H:=H) e)=e.path.size+e.text.size+5:=by
 rw[datE,Rows.uptoBulk,Rows.uptoBulkAll,Rows.uptoBulkAll,Rows.uptoBulkAll,Rows.uptoBulkAll,Rows.uptoBulkAll,Rows.uptoBulk,Rows.uptoBulk,Rows.uptoBulk,Rows.uptoBulk,Lib.size_eq,Lib.size_eq]
 · omega
 · intro b h;cases h
 · intro b h;cases h
theorem list4 {α:Type} {l:List α} (h:l.length=4): ∃a b c d,l=[a,b,c,d]:=by
 rcases l with _|⟨a,_|⟨b,_|⟨c,_|⟨d,_|⟨e,r⟩⟩⟩⟩⟩
 all_goals first|exact⟨a,b,c,d,rfl⟩|(simp at h)
theorem spot_none {W:World} {a:Addr} {v:Value} (k:W.cell? a=some v):a.spot=none:=by
 unfold World.cell? at k;cases hq:a.spot with
 |none=>rfl
 |some z=>rw[hq]at k;simp at k;split at k<;>cases k
/-- One entry of a tree that is handed in. -/
theorem open_entry {H:Type} {enc:TypeId×Value→H} {W:World} {n i:Nat} {a:Addr} {x:DataW H} {pl:List MemPlace} {cs':List Value} (ha:a.spot=none)
    (h1:W.cells? 0 (a.add (i*Tryz.prog.cellsOf 72)) (Tryz.prog.cellsOf 72)=some cs') (h2:DataW.trod enc Tryz.prog W 0 (fun _=>true) true n 72 cs'=some (x,pl)):
    ∃e:En,x=datE e∧a.spot=none∧EnAt W a.block (a.off+i*4) e:=by
 rw[Tryz.cellsE]at h1;obtain⟨_,hlen,hc⟩:=World.cells?_some h1
 obtain⟨y0,y1,y2,y3,n',hx',_,t0,t1,t2,t3⟩:=Go.Joins.trod_struct4 Tryz.underlying72 h2
 obtain⟨c0,c1,c2,c3,rfl⟩:=list4 hlen
 have t0':DataW.trod enc Tryz.prog W 0 (fun _=>true) true n' 9 [c0]=some y0:=by simpa[Tryz.cells9]using t0
 have t1':DataW.trod enc Tryz.prog W 0 (fun _=>true) true n' 4 [c1]=some y1:=by simpa[Tryz.cells4]using t1
 have t2':DataW.trod enc Tryz.prog W 0 (fun _=>true) true n' 9 [c2]=some y2:=by simpa[Tryz.cells9]using t2
 have t3':DataW.trod enc Tryz.prog W 0 (fun _=>true) true n' 3 [c3]=some y3:=by simpa[Tryz.cells3]using t3
 obtain⟨s0,e0,g0,_⟩:=DataW.trod_string Tryz.underlying9 t0'
 obtain⟨s1,e1,g1⟩:=DataW.trod_bool Tryz.underlying4 t1'
 obtain⟨s2,e2,g2,_⟩:=DataW.trod_string Tryz.underlying9 t2'
 obtain⟨s3,e3,g3,_⟩:=DataW.trod_int Tryz.underlying3 t3'
 obtain rfl:c0= .string s0:=by simpa using e0
 obtain rfl:c1= .bool s1:=by simpa using e1
 obtain rfl:c2= .string s2:=by simpa using e2
 obtain rfl:c3= .int .i64 s3:=by simpa using e3
 subst g0;subst g1;subst g2;subst g3;simp only[Prod.mk.injEq]at hx';have k0:=hc 0 (by omega);have k1:=hc 1 (by omega);have k2:=hc 2 (by omega);have k3:=hc 3 (by omega);obtain⟨ab,ao,asp⟩:=a
 obtain rfl:asp=none:=ha;refine⟨⟨s0,s1,s2,s3⟩,hx'.1,rfl,?_,?_,?_,?_⟩
 · by_cases hi0:i=0
   · subst hi0;simpa[Addr.add]using k0
   · have hi4:i*4≠0:=by omega
     simpa[Addr.add,hi4]using k0
 · by_cases hi0:i=0
   · subst hi0;simpa[Addr.add]using k1
   · have hi4:i*4≠0:=by omega
     simpa[Addr.add,hi4,Nat.add_assoc]using k1
 · by_cases hi0:i=0
   · subst hi0;simpa[Addr.add]using k2
   · have hi4:i*4≠0:=by omega
     simpa[Addr.add,hi4,Nat.add_assoc]using k2
 · by_cases hi0:i=0
   · subst hi0;simpa[Addr.add]using k3
   · have hi4:i*4≠0:=by omega
     simpa[Addr.add,hi4,Nat.add_assoc]using k3
set_option maxRecDepth 100000 in
theorem open_tree {B:Nat} (hB:B≤1000000000) {H:Type} {enc:TypeId×Value→H} {W:World} {v:Value} {d:DataW H} {p:List MemPlace} {fuel:Nat} (hf:DataW.trod enc Tryz.prog W 0 (fun _=>true) true fuel 22 [v]=some (d,p)) (hk:Rows.uptoBulk d≤B):
    ∃L:List En,Lies W v L∧L.length≤B∧ ∀e∈L,e.path.size≤B∧e.text.size≤B:=by
 haveI:Inhabited En:=⟨⟨⟨#[]⟩,false,⟨#[]⟩,0⟩⟩
 rcases Go.Deep.open_slice Tryz.underlying22 hf with⟨hcs,hx⟩|⟨a,len,cap,m,n,D,Pl,hcs,hb,hl,hm,hmm,hx,hel⟩
 · obtain rfl:v= .slice none 0 0:=by simpa using hcs
   exact⟨[],⟨none,0,rfl,Nat.le_refl _,by simp,fun i hi=>absurd hi (by simp)⟩,by simp,fun e he=>by cases he⟩
 obtain rfl:v= .slice (some a) len cap:=by simpa using hcs
 have hm2:m=cap:=hmm.trans (if_pos rfl);clear hmm;have hd:=(Prod.mk.inj hx).1;clear hx;subst hm2
 have hsp:0<len→a.spot=none:=fun h=>by
  obtain⟨cs',h1,_⟩:=hel 0 (by omega)
  rw[Tryz.cellsE]at h1;obtain⟨_,hlen,hc⟩:=World.cells?_some h1
  obtain⟨c0,c1,c2,c3,rfl⟩:=list4 hlen
  have k0:=hc 0 (by omega);exact spot_none (v:=c0) (by simpa[Addr.add]using k0)
 have each: ∀i,i<len→ ∃e:En,D i=datE e∧a.spot=none∧EnAt W a.block (a.off+i*4) e:=fun i hi=>by
  obtain⟨cs',h1,h2⟩:=hel i (by omega)
  exact open_entry (hsp (by omega)) h1 h2
 obtain⟨E,hE⟩:=Go.Deep.choose_lt each
 have hbk:Rows.uptoBulkAll ((List.range len).map D)≤B:=by
  rw[hd,Rows.uptoBulk]at hk;omega
 refine⟨(List.range len).map E,⟨some a,_,by simp;rfl,by simpa using hl,?_,fun i hi=>?_⟩,?_,fun e he=>?_⟩
 · have:=Bk.len (l:=(List.range len).map D) (fun d hd=>by
    obtain⟨i,hi,rfl⟩:=List.mem_map.1 hd
    rw[(hE i (List.mem_range.1 hi)).1,bulkE];omega)
   simp at this⊢
   omega
 · have hi':i<len:=by simpa using hi
   obtain⟨h1,h2,h3⟩:=hE i hi'
   have hlt:a.block<W.heap.size:=by
    have k:=h3.1;rcases Nat.lt_or_ge a.block W.heap.size with h|h
    · exact h
    · unfold World.cell? at k;rw[Array.getElem?_eq_none h]at k;cases k
   refine⟨a.block,a.off,?_,hlt,by simpa using h3⟩
   rw[←h2]
 · have:=Bk.len (l:=(List.range len).map D) (fun d hd=>by
    obtain⟨i,hi,rfl⟩:=List.mem_map.1 hd
    rw[(hE i (List.mem_range.1 hi)).1,bulkE];omega)
   simp at this⊢
   omega
 · obtain⟨i,hi,rfl⟩:=List.mem_map.1 he
   have h1:=Bk.mem (List.mem_map.2 ⟨i,hi,rfl⟩:D i∈(List.range len).map D);rw[(hE i (List.mem_range.1 hi)).1,bulkE]at h1;omega
end Go.Proofs.YtdifomkoegmngaaGreatDoor
namespace Go.Proofs.YtdifomkoegmngaaGreatDoor
open Go.ChangeShapes Go.WideShapes Go.ChangeAt Go.RowKit

theorem Tryz.cellsC:Tryz.prog.cellsOf 53=5:=by kernel_rfl
theorem list5 {α:Type} {l:List α} (h:l.length=5): ∃a b c d e,l=[a,b,c,d,e]:=by
 rcases l with _|⟨a,_|⟨b,_|⟨c,_|⟨d,_|⟨e,_|⟨f,r⟩⟩⟩⟩⟩⟩
 all_goals first|exact⟨a,b,c,d,e,rfl⟩|(simp at h)
theorem fields5 {H:Type} {enc:TypeId×Value→H} {P:Program} {w:World} {base:Nat} {spare:Nat→Bool} {held:Bool} {t:TypeId} {f0 f1 f2 f3 f4:Field} {fuel:Nat} {cs:List Value} {x:DataW H×List MemPlace} (ht:P.underlying t=some (.struct #[f0,f1,f2,f3,f4])) (h:DataW.trod enc P w base spare held fuel t cs=some x):
    ∃y0 y1 y2 y3 y4 n,x=(.agg [y0.1,y1.1,y2.1,y3.1,y4.1],y0.2++(y1.2++(y2.2++(y3.2++y4.2))))∧cs.length=P.cellsOf t∧DataW.trod enc P w base spare held n f0.type ((cs.drop f0.offset).take (P.cellsOf f0.type))=some y0∧
     DataW.trod enc P w base spare held n f1.type ((cs.drop f1.offset).take (P.cellsOf f1.type))=some y1∧DataW.trod enc P w base spare held n f2.type ((cs.drop f2.offset).take (P.cellsOf f2.type))=some y2∧
     DataW.trod enc P w base spare held n f3.type ((cs.drop f3.offset).take (P.cellsOf f3.type))=some y3∧DataW.trod enc P w base spare held n f4.type ((cs.drop f4.offset).take (P.cellsOf f4.type))=some y4:=by
 obtain⟨xs,n,_,rfl,hl,hlen,hf⟩:=DataW.trod_struct ht h
 match xs,hlen with
 |[y0,y1,y2,y3,y4],_=>exact⟨y0,y1,y2,y3,y4,n,by simp,hl,by simpa using hf 0 f0 rfl,by simpa using hf 1 f1 rfl,by simpa using hf 2 f2 rfl,by simpa using hf 3 f3 rfl,by simpa using hf 4 f4 rfl⟩
def datC {H:Type} (c:Pp.Ch):DataW H:= .agg [.lit (.int .i64 c.k),.lit (.string c.p.data.toList),.lit (.string c.q.data.toList),.lit (.string c.t.data.toList),.lit (.int .i64 c.b)]
theorem bulkC {H:Type} (c:Pp.Ch):Rows.uptoBulk (datC (H:=H) c)=c.p.size+c.q.size+c.t.size+6:=by
 rw[datC,Rows.uptoBulk,Rows.uptoBulkAll,Rows.uptoBulkAll,Rows.uptoBulkAll,Rows.uptoBulkAll,Rows.uptoBulkAll,Rows.uptoBulkAll,Rows.uptoBulk,Rows.uptoBulk,Rows.uptoBulk,Rows.uptoBulk,Rows.uptoBulk,Lib.size_eq,Lib.size_eq,Lib.size_eq]
 · omega
 · intro b h;cases h
 · intro b h;cases h
/-- One change of a list that is handed in. -/
theorem open_ch {H:Type} {enc:TypeId×Value→H} {W:World} {n i:Nat} {a:Addr} {x:DataW H} {pl:List MemPlace} {cs':List Value} (ha:a.spot=none)
    (h1:W.cells? 0 (a.add (i*Tryz.prog.cellsOf 53)) (Tryz.prog.cellsOf 53)=some cs') (h2:DataW.trod enc Tryz.prog W 0 (fun _=>true) true n 53 cs'=some (x,pl)):
    ∃c:Pp.Ch,x=datC c∧a.spot=none∧ChAt W a.block (a.off+i*5) c:=by
 rw[Tryz.cellsC]at h1;obtain⟨_,hlen,hc⟩:=World.cells?_some h1
 obtain⟨y0,y1,y2,y3,y4,n',hx',_,t0,t1,t2,t3,t4⟩:=fields5 Tryz.underlying53 h2
 obtain⟨c0,c1,c2,c3,c4,rfl⟩:=list5 hlen
 have t0':DataW.trod enc Tryz.prog W 0 (fun _=>true) true n' 3 [c0]=some y0:=by simpa[Tryz.cells3]using t0
 have t1':DataW.trod enc Tryz.prog W 0 (fun _=>true) true n' 9 [c1]=some y1:=by simpa[Tryz.cells9]using t1
 have t2':DataW.trod enc Tryz.prog W 0 (fun _=>true) true n' 9 [c2]=some y2:=by simpa[Tryz.cells9]using t2
 have t3':DataW.trod enc Tryz.prog W 0 (fun _=>true) true n' 9 [c3]=some y3:=by simpa[Tryz.cells9]using t3
 have t4':DataW.trod enc Tryz.prog W 0 (fun _=>true) true n' 3 [c4]=some y4:=by simpa[Tryz.cells3]using t4
 obtain⟨s0,e0,g0,_⟩:=DataW.trod_int Tryz.underlying3 t0'
 obtain⟨s1,e1,g1,_⟩:=DataW.trod_string Tryz.underlying9 t1'
 obtain⟨s2,e2,g2,_⟩:=DataW.trod_string Tryz.underlying9 t2'
 obtain⟨s3,e3,g3,_⟩:=DataW.trod_string Tryz.underlying9 t3'
 obtain⟨s4,e4,g4,_⟩:=DataW.trod_int Tryz.underlying3 t4'
 obtain rfl:c0= .int .i64 s0:=by simpa using e0
 obtain rfl:c1= .string s1:=by simpa using e1
 obtain rfl:c2= .string s2:=by simpa using e2
 obtain rfl:c3= .string s3:=by simpa using e3
 obtain rfl:c4= .int .i64 s4:=by simpa using e4
 subst g0;subst g1;subst g2;subst g3;subst g4;simp only[Prod.mk.injEq]at hx';have k0:=hc 0 (by omega);have k1:=hc 1 (by omega);have k2:=hc 2 (by omega);have k3:=hc 3 (by omega);have k4:=hc 4 (by omega);obtain⟨ab,ao,asp⟩:=a
 obtain rfl:asp=none:=ha;refine⟨⟨s0,s1,s2,s3,s4⟩,hx'.1,rfl,?_,?_,?_,?_,?_⟩
 · by_cases hi0:i=0
   · subst hi0;simpa[Addr.add]using k0
   · have hi4:i*5≠0:=by omega
     simpa[Addr.add,hi4]using k0
 · by_cases hi0:i=0
   · subst hi0;simpa[Addr.add]using k1
   · have hi4:i*5≠0:=by omega
     simpa[Addr.add,hi4,Nat.add_assoc]using k1
 · by_cases hi0:i=0
   · subst hi0;simpa[Addr.add]using k2
   · have hi4:i*5≠0:=by omega
     simpa[Addr.add,hi4,Nat.add_assoc]using k2
 · by_cases hi0:i=0
   · subst hi0;simpa[Addr.add]using k3
   · have hi4:i*5≠0:=by omega
     simpa[Addr.add,hi4,Nat.add_assoc]using k3
 · by_cases hi0:i=0
   · subst hi0;simpa[Addr.add]using k4
   · have hi4:i*5≠0:=by omega
     simpa[Addr.add,hi4,Nat.add_assoc]using k4
set_option maxRecDepth 100000 in
theorem open_changes {B:Nat} (hB:B≤1000000000) {H:Type} {enc:TypeId×Value→H} {W:World} {v:Value} {d:DataW H} {p:List MemPlace} {fuel:Nat} (hf:DataW.trod enc Tryz.prog W 0 (fun _=>true) true fuel 26 [v]=some (d,p)) (hk:Rows.uptoBulk d≤B):
    ∃cs:List Pp.Ch,LiesC W v cs∧cs.length≤B∧SizedC B cs:=by
 haveI:Inhabited Pp.Ch:=⟨⟨0,⟨#[]⟩,⟨#[]⟩,⟨#[]⟩,0⟩⟩
 rcases Go.Deep.open_slice Tryz.underlying26 hf with⟨hcs,hx⟩|⟨a,len,cap,m,n,D,Pl,hcs,hb,hl,hm,hmm,hx,hel⟩
 · obtain rfl:v= .slice none 0 0:=by simpa using hcs
   exact⟨[],⟨none,0,rfl,Nat.le_refl _,by simp,fun i hi=>absurd hi (by simp)⟩,by simp,fun e he=>by cases he⟩
 obtain rfl:v= .slice (some a) len cap:=by simpa using hcs
 have hm2:m=cap:=hmm.trans (if_pos rfl);clear hmm;have hd:=(Prod.mk.inj hx).1;clear hx;subst hm2
 have hsp:0<len→a.spot=none:=fun h=>by
  obtain⟨cs',h1,_⟩:=hel 0 (by omega)
  rw[Tryz.cellsC]at h1;obtain⟨_,hlen,hc⟩:=World.cells?_some h1
  obtain⟨c0,c1,c2,c3,c4,rfl⟩:=list5 hlen
  have k0:=hc 0 (by omega);exact spot_none (v:=c0) (by simpa[Addr.add]using k0)
 have each: ∀i,i<len→ ∃e:Pp.Ch,D i=datC e∧a.spot=none∧ChAt W a.block (a.off+i*5) e:=fun i hi=>by
  obtain⟨cs',h1,h2⟩:=hel i (by omega)
  exact open_ch (hsp (by omega)) h1 h2
 obtain⟨E,hE⟩:=Go.Deep.choose_lt each
 have hbk:Rows.uptoBulkAll ((List.range len).map D)≤B:=by
  rw[hd,Rows.uptoBulk]at hk;omega
 refine⟨(List.range len).map E,⟨some a,_,by simp;rfl,by simpa using hl,?_,fun i hi=>?_⟩,?_,fun e he=>?_⟩
 · have:=Bk.len (l:=(List.range len).map D) (fun d hd=>by
    obtain⟨i,hi,rfl⟩:=List.mem_map.1 hd
    rw[(hE i (List.mem_range.1 hi)).1,bulkC];omega)
   simp at this⊢
   omega
 · have hi':i<len:=by simpa using hi
   obtain⟨h1,h2,h3⟩:=hE i hi'
   have hlt:a.block<W.heap.size:=by
    have k:=h3.1;rcases Nat.lt_or_ge a.block W.heap.size with h|h
    · exact h
    · unfold World.cell? at k;rw[Array.getElem?_eq_none h]at k;cases k
   refine⟨a.block,a.off,?_,hlt,by simpa using h3⟩
   rw[←h2]
 · have:=Bk.len (l:=(List.range len).map D) (fun d hd=>by
    obtain⟨i,hi,rfl⟩:=List.mem_map.1 hd
    rw[(hE i (List.mem_range.1 hi)).1,bulkC];omega)
   simp at this⊢
   omega
 · obtain⟨i,hi,rfl⟩:=List.mem_map.1 he
   have h1:=Bk.mem (List.mem_map.2 ⟨i,hi,rfl⟩:D i∈(List.range len).map D);rw[(hE i (List.mem_range.1 hi)).1,bulkC]at h1;refine⟨?_,?_,?_⟩<;>omega
theorem Tryz.cellsCo:Tryz.prog.cellsOf 84=3:=by kernel_rfl
theorem Tryz.cellsJo:Tryz.prog.cellsOf 25=3:=by kernel_rfl
theorem Tryz.cellsSC:Tryz.prog.cellsOf 26=1:=by kernel_rfl
theorem Tryz.cellsSO:Tryz.prog.cellsOf 23=1:=by kernel_rfl
theorem Tryz.cellsSE:Tryz.prog.cellsOf 22=1:=by kernel_rfl
theorem list3 {α:Type} {l:List α} (h:l.length=3): ∃a b c,l=[a,b,c]:=by
 rcases l with _|⟨a,_|⟨b,_|⟨c,_|⟨d,r⟩⟩⟩⟩
 all_goals first|exact⟨a,b,c,rfl⟩|(simp at h)
theorem fields3 {H:Type} {enc:TypeId×Value→H} {P:Program} {w:World} {base:Nat} {spare:Nat→Bool} {held:Bool} {t:TypeId} {f0 f1 f2:Field} {fuel:Nat} {cs:List Value} {x:DataW H×List MemPlace} (ht:P.underlying t=some (.struct #[f0,f1,f2])) (h:DataW.trod enc P w base spare held fuel t cs=some x):
    ∃y0 y1 y2 n,x=(.agg [y0.1,y1.1,y2.1],y0.2++(y1.2++y2.2))∧cs.length=P.cellsOf t∧DataW.trod enc P w base spare held n f0.type ((cs.drop f0.offset).take (P.cellsOf f0.type))=some y0∧
     DataW.trod enc P w base spare held n f1.type ((cs.drop f1.offset).take (P.cellsOf f1.type))=some y1∧DataW.trod enc P w base spare held n f2.type ((cs.drop f2.offset).take (P.cellsOf f2.type))=some y2:=by
 obtain⟨xs,n,_,rfl,hl,hlen,hf⟩:=DataW.trod_struct ht h
 match xs,hlen with
 |[y0,y1,y2],_=>exact⟨y0,y1,y2,n,by simp,hl,by simpa using hf 0 f0 rfl,by simpa using hf 1 f1 rfl,by simpa using hf 2 f2 rfl⟩
theorem bulk3 {H:Type} (a b c:DataW H):Rows.uptoBulk (.agg [a,b,c])=1+(Rows.uptoBulk a+(Rows.uptoBulk b+Rows.uptoBulk c)):=by
 rw[Rows.uptoBulk,Rows.uptoBulkAll,Rows.uptoBulkAll,Rows.uptoBulkAll,Rows.uptoBulkAll];omega
set_option maxRecDepth 100000 in
theorem open_co {B:Nat} (hB:B≤1000000000) {H:Type} {enc:TypeId×Value→H} {W:World} {n i:Nat} {a:Addr} {x:DataW H} {pl:List MemPlace} {cs':List Value} (ha:a.spot=none)
    (h1:W.cells? 0 (a.add (i*Tryz.prog.cellsOf 84)) (Tryz.prog.cellsOf 84)=some cs') (h2:DataW.trod enc Tryz.prog W 0 (fun _=>true) true n 84 cs'=some (x,pl)) (hk:Rows.uptoBulk x≤B):
    ∃c:Co,(1≤Rows.uptoBulk x∧c.ke.size≤B∧SizedC B c.ch)∧a.spot=none∧CoAt W a.block (a.off+i*3) c:=by
 rw[Tryz.cellsCo]at h1;obtain⟨_,hlen,hc⟩:=World.cells?_some h1
 obtain⟨y0,y1,y2,n',hx',_,t0,t1,t2⟩:=fields3 Tryz.underlying84 h2
 obtain⟨c0,c1,c2,rfl⟩:=list3 hlen
 have t0':DataW.trod enc Tryz.prog W 0 (fun _=>true) true n' 3 [c0]=some y0:=by simpa[Tryz.cells3]using t0
 have t1':DataW.trod enc Tryz.prog W 0 (fun _=>true) true n' 9 [c1]=some y1:=by simpa[Tryz.cells9]using t1
 have t2':DataW.trod enc Tryz.prog W 0 (fun _=>true) true n' 26 [c2]=some y2:=by simpa[Tryz.cellsSC]using t2
 obtain⟨s0,e0,g0,_⟩:=DataW.trod_int Tryz.underlying3 t0'
 obtain⟨s1,e1,g1,_⟩:=DataW.trod_string Tryz.underlying9 t1'
 obtain rfl:c0= .int .i64 s0:=by simpa using e0
 obtain rfl:c1= .string s1:=by simpa using e1
 subst g0;subst g1;obtain⟨d2,p2⟩:=y2
 simp only[Prod.mk.injEq]at hx';have hbx:=hk;rw[hx'.1,bulk3]at hk
 have hb1:Rows.uptoBulk (.lit (.string s1.data.toList):DataW H)=s1.size+1:=by
  rw[Rows.uptoBulk,Lib.size_eq]
 rw[hb1]at hk;obtain⟨l,hl,_,hls⟩:=open_changes (B:=B) hB t2' (by omega)
 have k0:=hc 0 (by omega);have k1:=hc 1 (by omega);have k2:=hc 2 (by omega);obtain⟨ab,ao,asp⟩:=a
 obtain rfl:asp=none:=ha;refine⟨⟨s0,s1,l⟩,⟨by rw[hx'.1,bulk3];omega,by show s1.size≤B;omega,hls⟩,rfl,?_,?_,c2,?_,hl⟩
 · by_cases hi0:i=0
   · subst hi0;simpa[Addr.add]using k0
   · have hi4:i*3≠0:=by omega
     simpa[Addr.add,hi4]using k0
 · by_cases hi0:i=0
   · subst hi0;simpa[Addr.add]using k1
   · have hi4:i*3≠0:=by omega
     simpa[Addr.add,hi4,Nat.add_assoc]using k1
 · by_cases hi0:i=0
   · subst hi0;simpa[Addr.add]using k2
   · have hi4:i*3≠0:=by omega
     simpa[Addr.add,hi4,Nat.add_assoc]using k2
set_option maxRecDepth 100000 in
theorem open_commits {B:Nat} (hB:B≤1000000000) {H:Type} {enc:TypeId×Value→H} {W:World} {v:Value} {d:DataW H} {p:List MemPlace} {fuel:Nat} (hf:DataW.trod enc Tryz.prog W 0 (fun _=>true) true fuel 23 [v]=some (d,p)) (hk:Rows.uptoBulk d≤B):
    ∃l:List Co,LiesO W v l∧l.length≤B∧SizedO B l:=by
 haveI:Inhabited Co:=⟨⟨0,⟨#[]⟩,[]⟩⟩
 rcases Go.Deep.open_slice Tryz.underlying23 hf with⟨hcs,hx⟩|⟨a,len,cap,m,n,D,Pl,hcs,hb,hl,hm,hmm,hx,hel⟩
 · obtain rfl:v= .slice none 0 0:=by simpa using hcs
   exact⟨[],liesO_nil _,by simp,fun e he=>by cases he⟩
 obtain rfl:v= .slice (some a) len cap:=by simpa using hcs
 have hm2:m=cap:=hmm.trans (if_pos rfl);clear hmm;have hd:=(Prod.mk.inj hx).1;clear hx;subst hm2
 have hbk:Rows.uptoBulkAll ((List.range len).map D)≤B:=by
  rw[hd,Rows.uptoBulk]at hk;omega
 have hsp:0<len→a.spot=none:=fun h=>by
  obtain⟨cs',h1,_⟩:=hel 0 (by omega)
  rw[Tryz.cellsCo]at h1;obtain⟨_,hlen,hc⟩:=World.cells?_some h1
  obtain⟨c0,c1,c2,rfl⟩:=list3 hlen
  have k0:=hc 0 (by omega);exact spot_none (v:=c0) (by simpa[Addr.add]using k0)
 have each: ∀i,i<len→ ∃e:Co,(1≤Rows.uptoBulk (D i)∧e.ke.size≤B∧SizedC B e.ch)∧a.spot=none∧CoAt W a.block (a.off+i*3) e:=fun i hi=>by
  obtain⟨cs',h1,h2⟩:=hel i (by omega)
  exact open_co hB (hsp (by omega)) h1 h2 (Nat.le_trans (Bk.mem (List.mem_map.2 ⟨i,List.mem_range.2 hi,rfl⟩)) hbk)
 obtain⟨E,hE⟩:=Go.Deep.choose_lt each
 have hlb:=Bk.len (l:=(List.range len).map D) (fun d hd=>by
  obtain⟨i,hi,rfl⟩:=List.mem_map.1 hd
  exact(hE i (List.mem_range.1 hi)).1.1)
 simp only[List.length_map,List.length_range]at hlb;refine⟨(List.range len).map E,⟨some a,_,by simp;rfl,by simpa using hl,by simp;omega,fun i hi=>?_⟩,by simp;omega,fun e he=>?_⟩
 · have hi':i<len:=by simpa using hi
   obtain⟨h1,h2,h3⟩:=hE i hi'
   have hlt:a.block<W.heap.size:=by
    have k:=h3.1;rcases Nat.lt_or_ge a.block W.heap.size with h|h
    · exact h
    · unfold World.cell? at k;rw[Array.getElem?_eq_none h]at k;cases k
   refine⟨a.block,a.off,?_,hlt,by simpa using h3⟩
   rw[←h2]
 · obtain⟨i,hi,rfl⟩:=List.mem_map.1 he
   exact(hE i (List.mem_range.1 hi)).1.2
set_option maxRecDepth 100000 in
theorem open_journal {B:Nat} (hB:B≤1000000000) {H:Type} {enc:TypeId×Value→H} {W:World} {r:Reach} {b0:Nat} {v:Value} {d:DataW H} {pl:List MemPlace} (hv:Value.okWide Tryz.prog W r b0 25 v) (h:DataW.Trod enc Tryz.prog W 0 (fun _=>true) true 25 v d pl) (hk:Rows.uptoBulk d≤B):
    ∃J:Jo,LiesJ W v J∧J.cos.length≤B∧SizedO B J.cos∧ ∀e∈J.base,e.path.size≤B∧e.text.size≤B:=by
 obtain⟨cs,rfl,hsz⟩:=okWide_struct Tryz.underlying25 hv
 obtain⟨fuel,hf⟩:=h
 have hf':DataW.trod enc Tryz.prog W 0 (fun _=>true) true fuel 25 cs.toList=some (d,pl):=by simpa[Value.cells]using hf
 obtain⟨y0,y1,y2,n',hx,hlen,t0,t1,t2⟩:=fields3 Tryz.underlying25 hf'
 rw[Tryz.cellsJo]at hlen;obtain⟨c0,c1,c2,hcs⟩:=list3 hlen
 rw[hcs]at t0 t1 t2;have t0':DataW.trod enc Tryz.prog W 0 (fun _=>true) true n' 22 [c0]=some y0:=by simpa[Tryz.cellsSE]using t0
 have t1':DataW.trod enc Tryz.prog W 0 (fun _=>true) true n' 3 [c1]=some y1:=by simpa[Tryz.cells3]using t1
 have t2':DataW.trod enc Tryz.prog W 0 (fun _=>true) true n' 23 [c2]=some y2:=by simpa[Tryz.cellsSO]using t2
 obtain⟨s1,e1,g1,_⟩:=DataW.trod_int Tryz.underlying3 t1'
 obtain rfl:c1= .int .i64 s1:=by simpa using e1
 subst g1;obtain⟨d0,p0⟩:=y0
 obtain⟨d2,p2⟩:=y2
 simp only[Prod.mk.injEq]at hx;rw[hx.1,bulk3]at hk;obtain⟨L,hL,_,hLs⟩:=open_tree (B:=B) hB (fuel:=n') t0' (by omega)
 obtain⟨l,hl,hll,hls⟩:=open_commits (B:=B) hB t2' (by omega)
 have hag:cs= #[c0,.int .i64 s1,c2]:=Array.ext' (by simpa using hcs);exact⟨⟨L,s1,l⟩,⟨c0,c2,by rw[hag],hL,hl⟩,hll,hls,hLs⟩
end Go.Proofs.YtdifomkoegmngaaGreatDoor
