/- The program's Ask: a request as a text. -/
import Derived.Test.YtppdfeehhnofaaaGreatDoorHAZF
import Derived.Deep.Cut
set_option linter.unusedSimpArgs false
set_option linter.unusedVariables false
namespace Go.Proofs.YtppdfeehhnofaaaGreatDoor
open Go.RowKit

namespace Wr
def e0:Ws:=⟨[],false,false⟩
theorem put_ne {s:Ws} {x:It} (h:s.l≠[]):(put s x).l≠[]:=by
 cases x with
 |n i=>simp[put,num]
 |t x=>
  show(txt s x).l≠[]
  unfold txt;split
  · exact h
  · simp[num]
 |big=>exact h
theorem run_ne: ∀{l:List It} {s:Ws},s.l≠[]→(run s l).l≠[]
 |[],_,h=>h
 |x::l,s,h=>run_ne (l:=l) (put_ne h)
theorem num_ne {s:Ws} {n:Int}:(num s n).l≠[]:=by simp[num]
theorem lst_len {α:Type} (f:α→List It) (m j:Nat) (xs:List α) (h: ∀x∈xs,(f x).length≤j):(lst m f xs).length≤1+j*m:=by
 unfold lst;split
 · rename_i hl
   have h1:=fm_count f j xs h;have h2:j*xs.length≤j*m:=Nat.mul_le_mul_left _ hl;rw[List.length_cons];omega
 · simp
theorem lst_wf {α:Type} (f:α→List It) (m:Nat) (xs:List α) (hm:m≤1000000) (h: ∀x∈xs,∀y∈f x,y.wf): ∀y∈lst m f xs,y.wf:=by
 intro y hy;unfold lst at hy;split at hy
 · rename_i hl
   rw[List.mem_cons]at hy;rcases hy with rfl|hy
   · exact(show I64 _ from⟨by omega,by omega⟩)
   · obtain⟨x,hx,hy⟩:=List.mem_flatMap.1 hy
     exact h x hx y hy
 · simp at hy;subst hy;trivial
end Wr
theorem wt_new (W:World) (B b:Nat) (hB:B≤b) (h:W.heap[b]?=some (.cells #[.pointer none,.slice none 0 0,.bool false,.bool false] 65 (0,0))):Wt B b Wr.e0 W:=
 Or.inl ⟨hB,.slice none 0 0,h,⟨by simp[Wr.e0,Lib.byteCells],Or.inl ⟨rfl,rfl⟩⟩,by simp[Value.ownBlock]⟩
structure WfQ (q:Rq):Prop where
 kind:I64 q.kind
 num:I64 q.num
 off:I64 q.off
 base:I64 q.base
 who:TxB q.who
 fo:TxB q.fo
 name:TxB q.name
 key:TxB q.key
 text:TxB q.text
 ch: ∀c∈q.ch,WfC c
set_option maxHeartbeats 1000000 in
theorem ask_any (q:Rq) (v:Value) (w:World) (hq:LiesQ w v q) (hz:WfQ q) (h3:3<w.heap.size) (ht:PowTab w):
    Calls Tryz.prog 6 #[v] w fun e w'=>e= .returned (.tuple #[.string (Wr.fin (Wr.run Wr.e0 (Wr.rqI q))).1,.int .i64 (Wr.fin (Wr.run Wr.e0 (Wr.rqI q))).2])∧Below w.heap.size w w':=by
 obtain⟨va,rfl,hL⟩:=hq
 obtain⟨kind,who,fo,name,key,text,num,off,base,ch⟩:=q
 obtain⟨zk,zn,zo,zb,z1,z2,z3,z4,z5,zc⟩:=hz
 simp only at hL zk zn zo zb z1 z2 z3 z4 z5 zc⊢;obtain⟨av,cv,rfl,hcv⟩: ∃av cv,va= .slice av ch.length cv∧True:=by obtain⟨a,c,h,_⟩:=hL;exact⟨a,c,h,trivial⟩
 obtain⟨wa,hwa⟩: ∃wa,wa=w.alloc (.cells #[.int .i64 kind,.string who,.string fo,.string name,.string key,.string text,.int .i64 num,.int .i64 off,.int .i64 base,.slice av ch.length cv] 31):=⟨_,rfl⟩
 obtain⟨wb,hwb⟩: ∃wb,wb=wa.alloc (.cells #[.pointer none,.slice none 0 0,.bool false,.bool false] 65):=⟨_,rfl⟩
 have sa:wa.heap.size=w.heap.size+1:=by rw[hwa];simp
 have hba:Below w.heap.size w wa:=by rw[hwa];exact below_alloc _ _
 have hbb:Below wa.heap.size wa wb:=by rw[hwb];exact below_alloc _ _
 have hab:Below w.heap.size w wb:=hba.trans (hbb.mono (by omega))
 have hm0:wb.heap[w.heap.size]?=some (.cells #[.int .i64 kind,.string who,.string fo,.string name,.string key,.string text,.int .i64 num,.int .i64 off,.int .i64 base,.slice av ch.length cv] 31 (0,0)):=by
  rw[hbb.block _ (by omega),hwa];exact heap_alloc_new w _
 have hwr:wb.heap[w.heap.size+1]?=some (.cells #[.pointer none,.slice none 0 0,.bool false,.bool false] 65 (0,0)):=by
  rw[←sa,hwb];exact heap_alloc_new wa _
 have hmb:w.heap.size≠w.heap.size+1:=by omega
 have h0:=wt_new wb w.heap.size (w.heap.size+1) (by omega) hwr;have ht0:=ht.belowB h3 hab;have HN1:=hid (wnum_any w.heap.size (w.heap.size+1) Wr.e0 kind wb h0 zk (by simp[Wr.e0]) h3 ht0);have l1:=Wr.num_len (s:=Wr.e0) zk;have l0:Wr.e0.l.length=0:=rfl;rw[hwb,hwa]at HN1;have HWB:Hid (wb=(w.alloc (.cells #[.int .i64 kind,.string who,.string fo,.string name,.string key,.string text,.int .i64 num,.int .i64 off,.int .i64 base,.slice av ch.length cv] 31)).alloc (.cells #[.pointer none,.slice none 0 0,.bool false,.bool false] 65)):=(by rw[hwb,hwa]:wb=_)
 have HM0:=hid hm0;have HT0:=hid ht0;have HL:=hid hL;have HZ:=hid (And.intro (And.intro zn (And.intro zo zb)) (And.intro z1 (And.intro z2 (And.intro z3 (And.intro z4 z5)))));have HC:=hid zc;have c0:=(show Cs (w.alloc (.cells #[.int .i64 kind,.string who,.string fo,.string name,.string key,.string text,.int .i64 num,.int .i64 off,.int .i64 base,.slice av ch.length cv] 31)) w.heap.size _ from⟨_,heap_alloc_new w _⟩)
 clear hwb hwa sa hbb hba hm0 hwr h0 ht0 ht hL hcv zk zn zo zb z1 z2 z3 z4 z5 zc c0;go_enter Tryz.func6,Tryz.ntmps6
 go_wp2_with fail;refine HN1.out.mono ?_
 rintro e w1 ⟨rfl,h1,hf1⟩;rw[←HWB.out]at hf1;have hm1:=hf1.row HM0.out hmb (by decide);have ht1:=HT0.out.fr h3 hf1;have hB1:w.heap.size≤w1.heap.size:=Nat.le_of_lt (Nat.lt_of_le_of_lt h1.B h1.lt);obtain⟨w2,hw2⟩: ∃w2,w2=w1.alloc (.cells #[.string who,.string fo,.string name,.string key,.string text] 9):=⟨_,rfl⟩
 have hb2:Below w1.heap.size w1 w2:=by rw[hw2];exact below_alloc _ _
 have hf2:FrW w.heap.size (w.heap.size+1) w1 w2:=fr_below hb2 hB1;have hx2:w2.heap[w1.heap.size]?=some (.cells (([who,fo,name,key,text]:List ByteArray).map Value.string).toArray 9 (0,0)):=by rw[hw2];exact heap_alloc_new w1 _
 have hxb:w1.heap.size≠w.heap.size+1:=fun e=>by have:=h1.lt;omega
 have c1:w1.cell? ⟨w.heap.size,1,none⟩=some (.string who):=by rw[Lib.cell_of_heap hm1];rfl
 have c2:w1.cell? ⟨w.heap.size,2,none⟩=some (.string fo):=by rw[Lib.cell_of_heap hm1];rfl
 have c3:w1.cell? ⟨w.heap.size,3,none⟩=some (.string name):=by rw[Lib.cell_of_heap hm1];rfl
 have c4:w1.cell? ⟨w.heap.size,4,none⟩=some (.string key):=by rw[Lib.cell_of_heap hm1];rfl
 have c5:w1.cell? ⟨w.heap.size,5,none⟩=some (.string text):=by rw[Lib.cell_of_heap hm1];rfl
 have HX:=hid (wtexts_any [who,fo,name,key,text] w.heap.size (w.heap.size+1) w1.heap.size (Wr.num Wr.e0 kind) w2 (h1.below hb2) hx2 hxb (by simp only[List.length_cons,List.length_nil];omega) h3 (ht1.fr h3 hf2) (by
  intro x hx;obtain⟨_,z1,z2,z3,z4,z5⟩:=HZ.out
  simp only[List.mem_cons,List.not_mem_nil,or_false]at hx;rcases hx with rfl|rfl|rfl|rfl|rfl
  · exact z1
  · exact z2
  · exact z3
  · exact z4
  · exact z5))
 have hm2:=hf2.row hm1 hmb (by decide);have ht2:=ht1.fr h3 hf2;rw[hw2]at HX;have HW2:=hid hw2;have HM2:=hid hm2;have HT2:=hid ht2;have n1:Hid ((Wr.num Wr.e0 kind).l≠[]):=Wr.num_ne;clear hw2 hm2 ht2 hm1 ht1 HM0 HT0 HN1 hx2 h1;go_wp2_with fail;refine HX.out.mono ?_
 rintro e w3 ⟨rfl,h5,hf3⟩;rw[←HW2.out]at hf3
 have l2:=Wr.run_len (([who,fo,name,key,text]:List ByteArray).map Wr.It.t) (Wr.num Wr.e0 kind) (by
  intro y hy;obtain⟨x,_,rfl⟩:=List.mem_map.1 hy
  trivial)
 rw[List.length_map]at l2;simp only[List.length_cons,List.length_nil]at l2;obtain⟨s2,hs2⟩: ∃s2,s2=Wr.run (Wr.num Wr.e0 kind) (([who,fo,name,key,text]:List ByteArray).map Wr.It.t):=⟨_,rfl⟩
 rw[←hs2]at h5 l2;have HS2:=hid hs2;clear hs2;have hm3:=hf3.row HM2.out hmb (by decide);have ht3:=HT2.out.fr h3 hf3;have hB3:w.heap.size≤w3.heap.size:=Nat.le_of_lt (Nat.lt_of_le_of_lt h5.B h5.lt);obtain⟨w4,hw4⟩: ∃w4,w4=w3.alloc (.cells #[.int .i64 num,.int .i64 off,.int .i64 base] 3):=⟨_,rfl⟩
 have hb4:Below w3.heap.size w3 w4:=by rw[hw4];exact below_alloc _ _
 have hf4:FrW w.heap.size (w.heap.size+1) w3 w4:=fr_below hb4 hB3;have hx4:w4.heap[w3.heap.size]?=some (.cells (([num,off,base]:List Int).map (Value.int .i64)).toArray 3 (0,0)):=by rw[hw4];exact heap_alloc_new w3 _
 have hxb4:w3.heap.size≠w.heap.size+1:=fun e=>by have:=h5.lt;omega
 have d1:w3.cell? ⟨w.heap.size,6,none⟩=some (.int .i64 num):=by rw[Lib.cell_of_heap hm3];rfl
 have d2:w3.cell? ⟨w.heap.size,7,none⟩=some (.int .i64 off):=by rw[Lib.cell_of_heap hm3];rfl
 have d3:w3.cell? ⟨w.heap.size,8,none⟩=some (.int .i64 base):=by rw[Lib.cell_of_heap hm3];rfl
 have HY:=hid (wnumbers_any [num,off,base] w.heap.size (w.heap.size+1) w3.heap.size s2 w4 (h5.below hb4) hx4 hxb4 (by simp only[List.length_cons,List.length_nil];omega) h3 (ht3.fr h3 hf4) (by
  intro x hx;obtain⟨⟨zn,zo,zb⟩,_⟩:=HZ.out
  simp only[List.mem_cons,List.not_mem_nil,or_false]at hx;rcases hx with rfl|rfl|rfl
  · exact zn
  · exact zo
  · exact zb))
 have hm4:=hf4.row hm3 hmb (by decide);have ht4:=ht3.fr h3 hf4;rw[hw4]at HY;have HW4:=hid hw4;have HM4:=hid hm4;have HT4:=hid ht4;clear hw4 hm4 ht4 hm3 ht3 HM2 HT2 HX hx4 h5 c1 c2 c3 c4 c5;go_wp2_with fail;refine HY.out.mono ?_
 rintro e w5 ⟨rfl,h7,hf5⟩;rw[←HW4.out]at hf5
 have l3:=Wr.run_len (([num,off,base]:List Int).map Wr.It.n) s2 (by
  intro y hy;obtain⟨⟨zn,zo,zb⟩,_⟩:=HZ.out
  simp only[List.map_cons,List.map_nil,List.mem_cons,List.not_mem_nil,or_false]at hy;rcases hy with rfl|rfl|rfl
  · exact zn
  · exact zo
  · exact zb)
 rw[List.length_map]at l3;simp only[List.length_cons,List.length_nil]at l3;obtain⟨s3,hs3⟩: ∃s3,s3=Wr.run s2 (([num,off,base]:List Int).map Wr.It.n):=⟨_,rfl⟩
 rw[←hs3]at h7 l3
 have HE:=hid (show Wr.run s3 (Wr.lst 20 Wr.chI ch)=Wr.run Wr.e0 (Wr.rqI ⟨kind,who,fo,name,key,text,num,off,base,ch⟩)from by
  rw[hs3,HS2.out,Wr.rqI,Wr.run_app];rfl)
 have HNE:Hid ((Wr.run s3 (Wr.lst 20 Wr.chI ch)).l≠[]):=Wr.run_ne (by rw[hs3];exact Wr.run_ne (by rw[HS2.out];exact Wr.run_ne n1.out));clear hs3;have hm5:=hf5.row HM4.out hmb (by decide);have ht5:=HT4.out.fr h3 hf5;have g1:w5.cell? ⟨w.heap.size,9,none⟩=some (.slice av ch.length cv):=by rw[Lib.cell_of_heap hm5];rfl
 have hfw:FrW w.heap.size (w.heap.size+1) wb w5:=hf1.trans (hf2.trans (hf3.trans (hf4.trans hf5)));have HP:=hid (wchanges_any w ch _ (w.heap.size+1) s3 w5 HL.out (hab.trans hfw.1) h7 (by omega) h3 ht5 HC.out);clear hm5 ht5 HM4 HT4 HY d1 d2 d3 h7;go_wp2_with fail;refine HP.out.mono ?_
 rintro e w6 ⟨rfl,h8,hf6⟩;have HQ:=hid (written_any w.heap.size (w.heap.size+1) _ w6 h8 HNE.out);clear h8 g1 HP;go_wp2_with fail;refine HQ.out.mono ?_
 rintro e w7 ⟨rfl,hb7⟩;go_wp2_with fail;go_ret2;rw[HE.out];exact⟨rfl,hab.trans (hfw.1.trans (hf6.1.trans hb7))⟩
end Go.Proofs.YtppdfeehhnofaaaGreatDoor
namespace Go.Proofs.YtppdfeehhnofaaaGreatDoor
open Go.RowKit

namespace Wr
def yn (b:Bool):It:= .n (if b=true then 1 else 0)
theorem yn_wf (b:Bool):(yn b).wf:=by cases b<;>exact(show I64 _ from⟨by decide,by decide⟩)
def enI (e:En):List It:=[.t e.path,yn e.folder,.t e.text,.n e.ver]
def coI (c:Co):List It:=[.n c.nu,.t c.ke]++lst 20 chI c.ch
def pgI (p:Pg):List It:=yn p.reset::(lst 60 enI p.tree++lst 10 coI p.cos++[.n p.cur,yn p.more])
def anI (a:An):List It:= .n a.err:: .n a.num::pgI a.pg
end Wr
structure WfE (e:En):Prop where
 v:I64 e.ver
 p:TxB e.path
 t:TxB e.text
structure WfO (c:Co):Prop where
 n:I64 c.nu
 k:TxB c.ke
 c: ∀x∈c.ch,WfC x
structure WfP (p:Pg):Prop where
 u:I64 p.cur
 t: ∀x∈p.tree,WfE x
 o: ∀x∈p.cos,WfO x
structure WfA (a:An):Prop where
 e:I64 a.err
 n:I64 a.num
 p:WfP a.pg
theorem WfE.it {e:En} (h:WfE e):(Wr.enI e).length≤4∧ ∀y∈Wr.enI e,y.wf:=by
 refine⟨by simp[Wr.enI],fun y hy=>?_⟩
 simp only[Wr.enI,List.mem_cons,List.not_mem_nil,or_false]at hy;rcases hy with rfl|rfl|rfl|rfl
 · trivial
 · exact Wr.yn_wf _
 · trivial
 · exact h.v
theorem WfO.it {c:Co} (h:WfO c):(Wr.coI c).length≤103∧ ∀y∈Wr.coI c,y.wf:=by
 have h1:=Wr.lst_len Wr.chI 20 5 c.ch (fun x hx=>(h.c x hx).it.1);refine⟨by simp only[Wr.coI,List.length_append,List.length_cons,List.length_nil];omega,fun y hy=>?_⟩
 simp only[Wr.coI,List.mem_append,List.mem_cons,List.not_mem_nil,or_false]at hy;rcases hy with(rfl|rfl)|hy
 · exact h.n
 · trivial
 · exact Wr.lst_wf _ 20 c.ch (by omega) (fun x hx=>(h.c x hx).it.2) y hy
end Go.Proofs.YtppdfeehhnofaaaGreatDoor
namespace Go.Proofs.YtppdfeehhnofaaaGreatDoor
open Go.RowKit

/-- A writer at work beside a record. -/
structure Wk (B b m:Nat) (cs:List Value) (T:TypeId) (s:Ws) (w:World):Prop where
 wt:Wt B b s w
 mem:w.heap[m]?=some (.cells cs.toArray T (0,0))
 tab:PowTab w
 ne:m≠b
 ty:T≠5
 b3:3<B
theorem Wk.step {B b m:Nat} {cs:List Value} {T:TypeId} {s s':Ws} {w w':World} (h:Wk B b m cs T s w) (hw:Wt B b s' w') (hf:FrW B b w w'):Wk B b m cs T s' w':=
 ⟨hw,hf.row h.mem h.ne h.ty,h.tab.fr h.b3 hf,h.ne,h.ty,h.b3⟩
theorem Wk.cell {B b m:Nat} {cs:List Value} {T:TypeId} {s:Ws} {w:World} (h:Wk B b m cs T s w) (i:Nat) {v:Value} (hi:cs[i]?=some v):w.cell? ⟨m,i,none⟩=some v:=by
 rw[Lib.cell_of_heap h.mem];simpa using hi
theorem Wk.new {B b:Nat} (cs:List Value) (T:TypeId) {s:Ws} {w:World} (h:Wt B b s w) (ht:PowTab w) (h3:3<B) (hT:T≠5):Wk B b w.heap.size cs T s (w.alloc (.cells cs.toArray T)):=by
 have hBw:B≤w.heap.size:=Nat.le_of_lt (Nat.lt_of_le_of_lt h.B h.lt);exact⟨h.below (below_alloc _ _),heap_alloc_new w _,ht.fr h3 (fr_below (b:=b) (below_alloc _ _) hBw),fun e=>by have:=h.lt;omega,hT,h3⟩
theorem fr_new {B b:Nat} {s:Ws} {w:World} (h:Wt B b s w) (o:Obj):FrW B b w (w.alloc o):=fr_below (b:=b) (below_alloc _ _) (Nat.le_of_lt (Nat.lt_of_le_of_lt h.B h.lt))
set_option maxHeartbeats 1000000 in
theorem wen1_any (x:En) (B b g:Nat) (t0:Ws) (w:World) (h:Wt B b t0 w) (hg:WBox w b g) (hlen:t0.l.length+6000≤1000000000) (h3:3<B) (ht:PowTab w) (hc:WfE x):
    Calls Tryz.prog 101 #[.agg #[.string x.path,.bool x.folder,.string x.text,.int .i64 x.ver],.pointer (some ⟨g,0,none⟩)] w fun e w'=>e= .returned (.tuple #[])∧Wt B b (Wr.run t0 (Wr.enI x)) w'∧FrW B b w w':=by
 obtain⟨p,f,t,v⟩:=x
 obtain⟨w0,hw0⟩: ∃w0,w0=w.alloc (.cells #[.string p,.bool f,.string t,.int .i64 v] 128):=⟨_,rfl⟩
 have H0:=hid (Wk.new [.string p,.bool f,.string t,.int .i64 v] 128 h ht h3 (by decide));have HF0:=fr_new h (.cells #[.string p,.bool f,.string t,.int .i64 v] 128);have G0:=hid (hg.fr HF0);have hw0':w.alloc (.cells (List.toArray [.string p,.bool f,.string t,.int .i64 v]) 128)=w0:=hw0.symm;rw[hw0']at H0;rw[←hw0]at HF0 G0;have HC:=hid hc;have HW:=hid hw0;clear ht h hg hc hw0 hw0';go_enter Tryz.func101,Tryz.ntmps101
 go_upto_region 1 with fail;rw[←HW.out];clear HW;have a0:=G0.out.cell;have c0:=H0.out.cell 0 rfl;go_wp2_with fail;refine(wtext_any B b t0 p w0 H0.out.wt (by omega) H0.out.b3 H0.out.tab HC.out.p).mono ?_
 rintro e w1 ⟨rfl,h1,hf1⟩;obtain⟨t1,ht1⟩: ∃tq,tq=Wr.txt t0 p:=⟨_,rfl⟩
 have L1:t1.l.length≤t0.l.length+1021:=by rw[ht1];exact Wr.put_len (s:=t0) (x:= .t p) trivial
 rw[←ht1]at h1;have HT1:=hid ht1;have H1:=hid (H0.out.step h1 hf1);have G1:=hid (G0.out.fr hf1);have HF1:=HF0.trans hf1;clear ht1 h1 hf1 c0 a0 H0 G0 HF0;have a0:=G1.out.cell;have c1:=H1.out.cell 1 rfl;go_wp2_with fail;refine(wyes_any B b t1 f w1 H1.out.wt (by omega) H1.out.b3 H1.out.tab).mono ?_
 rintro e w2 ⟨rfl,h1,hf1⟩;obtain⟨t2,ht1⟩: ∃tq,tq=Wr.num t1 (if f=true then 1 else 0):=⟨_,rfl⟩
 have L2:t2.l.length≤t1.l.length+1021:=by rw[ht1];exact Wr.put_len (s:=t1) (x:=Wr.yn f) (Wr.yn_wf _)
 rw[←ht1]at h1;have HT2:=hid ht1;have H2:=hid (H1.out.step h1 hf1);have G2:=hid (G1.out.fr hf1);have HF2:=HF1.trans hf1;clear ht1 h1 hf1 c1 a0 H1 G1 HF1;have a0:=G2.out.cell;have c2:=H2.out.cell 2 rfl;go_wp2_with fail;refine(wtext_any B b t2 t w2 H2.out.wt (by omega) H2.out.b3 H2.out.tab HC.out.t).mono ?_
 rintro e w3 ⟨rfl,h1,hf1⟩;obtain⟨t3,ht1⟩: ∃tq,tq=Wr.txt t2 t:=⟨_,rfl⟩
 have L3:t3.l.length≤t2.l.length+1021:=by rw[ht1];exact Wr.put_len (s:=t2) (x:= .t t) trivial
 rw[←ht1]at h1;have HT3:=hid ht1;have H3:=hid (H2.out.step h1 hf1);have G3:=hid (G2.out.fr hf1);have HF3:=HF2.trans hf1;clear ht1 h1 hf1 c2 a0 H2 G2 HF2;have a0:=G3.out.cell;have c3:=H3.out.cell 3 rfl;go_wp2_with fail;refine(wnum_any B b t3 v w3 H3.out.wt HC.out.v (by omega) H3.out.b3 H3.out.tab).mono ?_
 rintro e w4 ⟨rfl,h1,hf1⟩;obtain⟨t4,ht1⟩: ∃tq,tq=Wr.num t3 v:=⟨_,rfl⟩
 have L4:t4.l.length≤t3.l.length+1021:=by rw[ht1];exact Wr.put_len (s:=t3) (x:= .n v) HC.out.v
 rw[←ht1]at h1;have HT4:=hid ht1;have H4:=hid (H3.out.step h1 hf1);have G4:=hid (G3.out.fr hf1);have HF4:=HF3.trans hf1;clear ht1 h1 hf1 c3 a0 H3 G3 HF3;go_wp2_with fail;go_end0
 exact⟨rfl,by have h:=H4.out.wt;rw[HT4.out,HT3.out,HT2.out,HT1.out]at h;exact h,HF4⟩
set_option maxHeartbeats 1000000 in
theorem wco1_any (W0:World) (x:Co) (u:Value) (b g:Nat) (t0:Ws) (w:World) (hL:LiesC W0 u x.ch) (hW:Below W0.heap.size W0 w) (h:Wt W0.heap.size b t0 w) (hg:WBox w b g) (hlen:t0.l.length+400000≤1000000000) (h3:3<W0.heap.size) (ht:PowTab w) (hc:WfO x):
    Calls Tryz.prog 103 #[.agg #[.int .i64 x.nu,.string x.ke,u],.pointer (some ⟨g,0,none⟩)] w fun e w'=>e= .returned (.tuple #[])∧Wt W0.heap.size b (Wr.run t0 (Wr.coI x)) w'∧FrW W0.heap.size b w w':=by
 obtain⟨n,k,cs⟩:=x
 simp only at hL⊢;obtain⟨av,cv,rfl,hcv⟩: ∃av cv,u= .slice av cs.length cv∧True:=by obtain⟨a,c,h,_⟩:=hL;exact⟨a,c,h,trivial⟩
 obtain⟨B,hB⟩: ∃B,B=W0.heap.size:=⟨_,rfl⟩
 have HCH:=hid (fun(s:Ws) (W:World) (hw:Below W0.heap.size W0 W) (h:Wt B b s W) (hl:s.l.length+200000≤1000000000) (ht:PowTab W)=>by
  have:=wchanges_any W0 cs _ b s W hL hw (by rw[←hB];exact h) hl h3 ht hc.c
  rw[←hB]at this;exact this)
 rw[←hB]at h h3⊢;obtain⟨w0,hw0⟩: ∃w0,w0=w.alloc (.cells #[.int .i64 n,.string k,.slice av cs.length cv] 132):=⟨_,rfl⟩
 have H0:=hid (Wk.new [.int .i64 n,.string k,.slice av cs.length cv] 132 h ht h3 (by decide));have HF0:=fr_new h (.cells #[.int .i64 n,.string k,.slice av cs.length cv] 132);have G0:=hid (hg.fr HF0);have hw0':w.alloc (.cells (List.toArray [.int .i64 n,.string k,.slice av cs.length cv]) 132)=w0:=hw0.symm;rw[hw0']at H0;rw[←hw0]at HF0 G0;have HC:=hid hc;have HW:=hid hw0;have HBW:=hid (And.intro hB hW);clear ht h hg hc hw0 hw0' hL hcv hB hW;go_enter Tryz.func103,Tryz.ntmps103
 go_upto_region 1 with fail;rw[←HW.out];clear HW;have a0:=G0.out.cell;have c0:=H0.out.cell 0 rfl;go_wp2_with fail;refine(wnum_any B b t0 n w0 H0.out.wt HC.out.n (by omega) H0.out.b3 H0.out.tab).mono ?_
 rintro e w1 ⟨rfl,h1,hf1⟩;obtain⟨t1,ht1⟩: ∃tq,tq=Wr.num t0 n:=⟨_,rfl⟩
 have L1:t1.l.length≤t0.l.length+1021:=by rw[ht1];exact Wr.put_len (s:=t0) (x:= .n n) HC.out.n
 rw[←ht1]at h1;have HT1:=hid ht1;have H1:=hid (H0.out.step h1 hf1);have G1:=hid (G0.out.fr hf1);have HF1:=HF0.trans hf1;clear ht1 h1 hf1 c0 a0 H0 G0 HF0;have a0:=G1.out.cell;have c1:=H1.out.cell 1 rfl;go_wp2_with fail;refine(wtext_any B b t1 k w1 H1.out.wt (by omega) H1.out.b3 H1.out.tab HC.out.k).mono ?_
 rintro e w2 ⟨rfl,h1,hf1⟩;obtain⟨t2,ht1⟩: ∃tq,tq=Wr.txt t1 k:=⟨_,rfl⟩
 have L2:t2.l.length≤t1.l.length+1021:=by rw[ht1];exact Wr.put_len (s:=t1) (x:= .t k) trivial
 rw[←ht1]at h1;have HT2:=hid ht1;have H2:=hid (H1.out.step h1 hf1);have G2:=hid (G1.out.fr hf1);have HF2:=HF1.trans hf1;clear ht1 h1 hf1 c1 a0 H1 G1 HF1;have a0:=G2.out.cell;have c2:=H2.out.cell 2 rfl;go_wp2_with fail;refine(HCH.out t2 w2 (HBW.out.2.trans (by rw[←HBW.out.1];exact HF2.1)) H2.out.wt (by omega) H2.out.tab).mono ?_
 rintro e w3 ⟨rfl,h1,hf1⟩;clear a0 c2 HCH;go_wp2_with fail;go_end0
 exact⟨rfl,by rw[Wr.coI,Wr.run_app];rw[HT2.out,HT1.out]at h1;exact h1,HF2.trans hf1⟩
theorem wen1_enters: ∀args w,(callFunc 101 args).run Tryz.prog w= .ok (.enter 101 args) w:=enters_of Tryz.func101 (by kernel_rfl) rfl
theorem wco1_enters: ∀args w,(callFunc 103 args).run Tryz.prog w= .ok (.enter 103 args) w:=enters_of Tryz.func103 (by kernel_rfl) rfl
set_option maxHeartbeats 1000000 in
theorem wle_any (W0:World) (cs:List En) (v:Value) (b g:Nat) (s:Ws) (w:World) (hL:Lies W0 v cs) (hW:Below W0.heap.size W0 w) (h:Wt W0.heap.size b s w) (hg:WBox w b g) (hlen:s.l.length+300000≤1000000000) (h3:3<W0.heap.size) (ht:PowTab w) (hc: ∀c∈cs,WfE c):
    Calls Tryz.prog 100 #[.pointer (some ⟨b,0,none⟩),v,.int .i64 60,.func (.func 101) #[] #[.pointer (some ⟨g,0,none⟩)]] w fun e w'=>e= .returned (.tuple #[])∧Wt W0.heap.size b (Wr.run s (Wr.lst 60 Wr.enI cs)) w'∧FrW W0.heap.size b w w':=by
 obtain⟨a,cap,rfl,hcap,hcap2,hLL⟩:=hL
 have hC:=wcount_any W0.heap.size b s cs.length 60 w h ⟨by omega,by omega⟩ (by omega) h3 ht;by_cases hn:(cs.length:Int)≤60
 · rw[if_pos hn,decide_eq_true hn]at hC
   have l1:=Wr.num_len (s:=s) (n:=cs.length) ⟨by omega,by omega⟩
   have HL:=hid (show∀k,(Wr.run (Wr.num s cs.length) ((cs.take k).flatMap Wr.enI)).l.length+6000≤1000000000 from fun k=>by
    have:=Wr.fm_len Wr.enI 4 (Wr.num s cs.length) cs k (fun x hx=>(hc x hx).it)
    omega)
   have HE:=hid (show Wr.run (Wr.num s cs.length) ((cs.take cs.length).flatMap Wr.enI)=Wr.run s (Wr.lst 60 Wr.enI cs)from by rw[List.take_length,Wr.lst,if_pos (by omega)];rfl);have HC:=hid hC;have HD:=hid hc;have HM:=hid hLL;have HG:=hid hg;have HT:=hid ht;have HW:=hid hW;have eg:=wen1_enters;clear hC hc hLL hg ht hW;go_enter Tryz.func100,Tryz.ntmps100
   go_wp2_with fail;refine HC.out.mono ?_
   rintro e w1 ⟨rfl,h1,hf1⟩;have HW1:=hid (show Wt W0.heap.size b (Wr.run (Wr.num s cs.length) ((cs.take 0).flatMap Wr.enI)) w1 from h1);have hB1:W0.heap.size≤w1.heap.size:=Nat.le_of_lt (Nat.lt_of_le_of_lt h1.B h1.lt);clear h1;go_wp2_with fail;go_loopw [18] (fun i wr=> ∃k:Nat,k≤cs.length∧i= .int .i64 k∧Hid (Wt W0.heap.size b (Wr.run (Wr.num s cs.length) ((cs.take k).flatMap Wr.enI)) wr)∧FrW W0.heap.size b w wr) (fun i _=>cs.length-(intOf i).toNat)
   case atStart=>exact⟨0,Nat.zero_le _,rfl,HW1,hf1⟩
   case round=>
    obtain⟨k,hk,rfl,HV,hf⟩:=hrel
    by_cases hlt:k<cs.length
    · obtain⟨bb,o,rfl,hbb,he⟩:=HM.out k hlt
      obtain⟨c0,c1,c2,c3⟩:=he.below hbb (HW.out.trans hf.1)
      have hlr:=HV.out.lt;have hBr:W0.heap.size≤wr.heap.size:=Nat.le_of_lt (Nat.lt_of_le_of_lt HV.out.B hlr);obtain⟨wz,hwz⟩: ∃wz,wz=wr.alloc (.cells #[.string cs[k].path,.bool cs[k].folder,.string cs[k].text,.int .i64 cs[k].ver] 128):=⟨_,rfl⟩
      have hbz:Below wr.heap.size wr wz:=by rw[hwz];exact below_alloc _ _
      have hfz:FrW W0.heap.size b wr wz:=fr_below hbz hBr;have HK:=hid (wen1_any cs[k] W0.heap.size b g _ wz (HV.out.below hbz) (HG.out.fr (hf.trans hfz)) (HL.out k) h3 (HT.out.fr h3 (hf.trans hfz)) (HD.out _ (List.getElem_mem hlt)));rw[hwz]at HK;have HWZ:=hid hwz;clear hwz he;go_wp2_with fail;refine HK.out.mono ?_
      rintro e w2 ⟨rfl,h2,hf2⟩;rw[←HWZ.out]at hf2;rw[←Wr.fm_next _ _ _ _ hlt]at h2;have H2:=hid h2;clear h2 HK c0 c1 c2 c3;go_wp2_with fail;go_roundw
      case rel=>exact⟨k+1,by omega,by simp,H2,hf.trans (hfz.trans hf2)⟩
      case measure=>simp[intOf];omega
    · obtain rfl:k=cs.length:=by omega
      go_wp2_with fail;go_end0
      exact⟨rfl,by rw[←HE.out];exact HV.out,hf⟩
 · rw[if_neg hn,decide_eq_false hn]at hC
   go_enter Tryz.func100,Tryz.ntmps100
   go_wp2_with fail;refine hC.mono ?_
   rintro e w1 ⟨rfl,h1,hf1⟩;go_wp2_with fail;refine bodyPost_ret (results_none rfl _ _ _) rfl ?_
   exact⟨rfl,by rw[Wr.lst,if_neg (by omega)];exact h1,hf1⟩
set_option maxHeartbeats 1000000 in
theorem wlo_any (W0:World) (cs:List Co) (v:Value) (b g:Nat) (s:Ws) (w:World) (hL:LiesO W0 v cs) (hW:Below W0.heap.size W0 w) (h:Wt W0.heap.size b s w) (hg:WBox w b g) (hlen:s.l.length+2000000≤1000000000) (h3:3<W0.heap.size) (ht:PowTab w) (hc: ∀c∈cs,WfO c):
    Calls Tryz.prog 102 #[.pointer (some ⟨b,0,none⟩),v,.int .i64 10,.func (.func 103) #[] #[.pointer (some ⟨g,0,none⟩)]] w fun e w'=>e= .returned (.tuple #[])∧Wt W0.heap.size b (Wr.run s (Wr.lst 10 Wr.coI cs)) w'∧FrW W0.heap.size b w w':=by
 obtain⟨a,cap,rfl,hcap,hcap2,hLL⟩:=hL
 have hC:=wcount_any W0.heap.size b s cs.length 10 w h ⟨by omega,by omega⟩ (by omega) h3 ht;by_cases hn:(cs.length:Int)≤10
 · rw[if_pos hn,decide_eq_true hn]at hC
   have l1:=Wr.num_len (s:=s) (n:=cs.length) ⟨by omega,by omega⟩
   have HL:=hid (show∀k,(Wr.run (Wr.num s cs.length) ((cs.take k).flatMap Wr.coI)).l.length+400000≤1000000000 from fun k=>by
    have:=Wr.fm_len Wr.coI 103 (Wr.num s cs.length) cs k (fun x hx=>(hc x hx).it)
    omega)
   have HE:=hid (show Wr.run (Wr.num s cs.length) ((cs.take cs.length).flatMap Wr.coI)=Wr.run s (Wr.lst 10 Wr.coI cs)from by rw[List.take_length,Wr.lst,if_pos (by omega)];rfl);have HC:=hid hC;have HD:=hid hc;have HM:=hid hLL;have HG:=hid hg;have HT:=hid ht;have HW:=hid hW;have eg:=wco1_enters;clear hC hc hLL hg ht hW;go_enter Tryz.func102,Tryz.ntmps102
   go_wp2_with fail;refine HC.out.mono ?_
   rintro e w1 ⟨rfl,h1,hf1⟩;have HW1:=hid (show Wt W0.heap.size b (Wr.run (Wr.num s cs.length) ((cs.take 0).flatMap Wr.coI)) w1 from h1);have hB1:W0.heap.size≤w1.heap.size:=Nat.le_of_lt (Nat.lt_of_le_of_lt h1.B h1.lt);clear h1;go_wp2_with fail;go_loopw [18] (fun i wr=> ∃k:Nat,k≤cs.length∧i= .int .i64 k∧Hid (Wt W0.heap.size b (Wr.run (Wr.num s cs.length) ((cs.take k).flatMap Wr.coI)) wr)∧FrW W0.heap.size b w wr) (fun i _=>cs.length-(intOf i).toNat)
   case atStart=>exact⟨0,Nat.zero_le _,rfl,HW1,hf1⟩
   case round=>
    obtain⟨k,hk,rfl,HV,hf⟩:=hrel
    by_cases hlt:k<cs.length
    · obtain⟨bb,o,rfl,hbb,he⟩:=HM.out k hlt
      obtain⟨c0,c1,u,c2,hu⟩:=he
      have hLu:=hu;obtain⟨au,cu,rfl,_⟩:=hu
      have c0:=(((HW.out.trans hf.1).cell (p:=⟨bb,o+k*3,none⟩) hbb).trans c0)
      have c1:=(((HW.out.trans hf.1).cell (p:=⟨bb,o+k*3+1,none⟩) hbb).trans c1)
      have c2:=(((HW.out.trans hf.1).cell (p:=⟨bb,o+k*3+2,none⟩) hbb).trans c2)
      have hlr:=HV.out.lt;have hBr:W0.heap.size≤wr.heap.size:=Nat.le_of_lt (Nat.lt_of_le_of_lt HV.out.B hlr);obtain⟨wz,hwz⟩: ∃wz,wz=wr.alloc (.cells #[.int .i64 cs[k].nu,.string cs[k].ke,.slice au cs[k].ch.length cu] 132):=⟨_,rfl⟩
      have hbz:Below wr.heap.size wr wz:=by rw[hwz];exact below_alloc _ _
      have hfz:FrW W0.heap.size b wr wz:=fr_below hbz hBr;have HK:=hid (wco1_any W0 cs[k] _ b g _ wz hLu (HW.out.trans (hf.trans hfz).1) (HV.out.below hbz) (HG.out.fr (hf.trans hfz)) (HL.out k) h3 (HT.out.fr h3 (hf.trans hfz)) (HD.out _ (List.getElem_mem hlt)));rw[hwz]at HK;have HWZ:=hid hwz;clear hwz hLu;go_wp2_with fail;refine HK.out.mono ?_
      rintro e w2 ⟨rfl,h2,hf2⟩;rw[←HWZ.out]at hf2;rw[←Wr.fm_next _ _ _ _ hlt]at h2;have H2:=hid h2;clear h2 HK c0 c1 c2;go_wp2_with fail;go_roundw
      case rel=>exact⟨k+1,by omega,by simp,H2,hf.trans (hfz.trans hf2)⟩
      case measure=>simp[intOf];omega
    · obtain rfl:k=cs.length:=by omega
      go_wp2_with fail;go_end0
      exact⟨rfl,by rw[←HE.out];exact HV.out,hf⟩
 · rw[if_neg hn,decide_eq_false hn]at hC
   go_enter Tryz.func102,Tryz.ntmps102
   go_wp2_with fail;refine hC.mono ?_
   rintro e w1 ⟨rfl,h1,hf1⟩;go_wp2_with fail;refine bodyPost_ret (results_none rfl _ _ _) rfl ?_
   exact⟨rfl,by rw[Wr.lst,if_neg (by omega)];exact h1,hf1⟩
set_option maxHeartbeats 2000000 in
theorem wpage_any (W0:World) (P:Pg) (v:Value) (b:Nat) (t0:Ws) (w:World) (hL:LiesPg W0 v P) (hW:Below W0.heap.size W0 w) (h:Wt W0.heap.size b t0 w) (hlen:t0.l.length+5000000≤1000000000) (h3:3<W0.heap.size) (ht:PowTab w) (hc:WfP P):
    Calls Tryz.prog 52 #[.pointer (some ⟨b,0,none⟩),v] w fun e w'=>e= .returned (.tuple #[])∧Wt W0.heap.size b (Wr.run t0 (Wr.pgI P)) w'∧FrW W0.heap.size b w w':=by
 have hmf: ∀(fn:Fn) (first cap:Array Value) (w:World),(Instr.makeFunc fn first cap).run Tryz.prog w= .ok (.func fn first cap) w:=fun _ _ _ _=>rfl
 obtain⟨vt,vc,rfl,lt,lc⟩:=hL
 obtain⟨ta,tc,rfl,_⟩: ∃a c,vt= .slice a P.tree.length c∧True:=by obtain⟨a,c,h,_⟩:=lt;exact⟨a,c,h,trivial⟩
 obtain⟨ca,cc,rfl⟩:=liesO_shape lc
 obtain⟨rs,T,C,cu,mo⟩:=P
 simp only at lt lc⊢;obtain⟨B,hB⟩: ∃B,B=W0.heap.size:=⟨_,rfl⟩
 have HCT:=hid (fun(g:Nat) (s:Ws) (W:World) (hw:Below W0.heap.size W0 W) (h:Wt B b s W) (hg:WBox W b g) (hl:s.l.length+300000≤1000000000) (ht:PowTab W)=>by
  have:=wle_any W0 T _ b g s W lt hw (by rw[←hB];exact h) hg hl h3 ht hc.t
  rw[←hB]at this;exact this)
 have HCC:=hid (fun(g:Nat) (s:Ws) (W:World) (hw:Below W0.heap.size W0 W) (h:Wt B b s W) (hg:WBox W b g) (hl:s.l.length+2000000≤1000000000) (ht:PowTab W)=>by
  have:=wlo_any W0 C _ b g s W lc hw (by rw[←hB];exact h) hg hl h3 ht hc.o
  rw[←hB]at this;exact this)
 rw[←hB]at h h3⊢;obtain⟨wz,hwz⟩: ∃wz,wz=w.alloc (.cells #[.pointer (some ⟨b,0,none⟩)] 59):=⟨_,rfl⟩
 have hfz:FrW B b w wz:=by rw[hwz];exact fr_new h _
 have hgz:WBox wz b w.heap.size:=⟨by rw[hwz];exact heap_alloc_new w _,by have:=h.lt;omega⟩
 have hz:Wt B b t0 wz:=by rw[hwz];exact h.below (below_alloc _ _)
 obtain⟨tl,htl⟩: ∃n,n=T.length:=⟨_,rfl⟩
 obtain⟨cl,hcl⟩: ∃n,n=C.length:=⟨_,rfl⟩
 rw[←htl]at HCT⊢;rw[←hcl]at HCC⊢;obtain⟨w0,hw0⟩: ∃w0,w0=wz.alloc (.cells #[.bool rs,.slice ta tl tc,.slice ca cl cc,.int .i64 cu,.bool mo] 41):=⟨_,rfl⟩
 have H0:=hid (Wk.new [.bool rs,.slice ta tl tc,.slice ca cl cc,.int .i64 cu,.bool mo] 41 hz (ht.fr h3 hfz) h3 (by decide));have HF0:=hfz.trans (fr_new hz (.cells #[.bool rs,.slice ta tl tc,.slice ca cl cc,.int .i64 cu,.bool mo] 41));have G0:=hid (hgz.fr (fr_new hz (.cells #[.bool rs,.slice ta tl tc,.slice ca cl cc,.int .i64 cu,.bool mo] 41)));have hw0':wz.alloc (.cells (List.toArray [.bool rs,.slice ta tl tc,.slice ca cl cc,.int .i64 cu,.bool mo]) 41)=w0:=hw0.symm;rw[hw0']at H0;rw[←hw0]at HF0 G0;rw[show wz.heap.size=w.heap.size+1 from by rw[hwz];simp]at H0;have HC:=hid hc;have HW:=hid (show(w.alloc (.cells #[.pointer (some ⟨b,0,none⟩)] 59)).alloc (.cells #[.bool rs,.slice ta tl tc,.slice ca cl cc,.int .i64 cu,.bool mo] 41)=w0 from by rw[←hwz,←hw0]);have HBW:=hid (And.intro hB hW);clear ht h hc hw0 hw0' lt lc hB hW hwz hfz hgz hz htl hcl;go_enter Tryz.func52,Tryz.ntmps52
 go_upto_region 1 with fail;rw[HW.out];clear HW;have a0:=G0.out.cell;have c0:=H0.out.cell 0 rfl;go_wp2_with fail;refine(wyes_any B b t0 rs w0 H0.out.wt (by omega) H0.out.b3 H0.out.tab).mono ?_
 rintro e w1 ⟨rfl,h1,hf1⟩;obtain⟨t1,ht1⟩: ∃tq,tq=Wr.num t0 (if rs=true then 1 else 0):=⟨_,rfl⟩
 have L1:t1.l.length≤t0.l.length+1021:=by rw[ht1];exact Wr.put_len (s:=t0) (x:=Wr.yn rs) (Wr.yn_wf _)
 rw[←ht1]at h1;have HT1:=hid ht1;have H1:=hid (H0.out.step h1 hf1);have G1:=hid (G0.out.fr hf1);have HF1:=HF0.trans hf1;clear ht1 h1 hf1 c0 a0 H0 G0 HF0;have a0:=G1.out.cell;have c1:=H1.out.cell 1 rfl;go_wp2_with fail;refine(HCT.out w.heap.size t1 w1 (HBW.out.2.trans (by rw[←HBW.out.1];exact HF1.1)) H1.out.wt G1.out (by omega) H1.out.tab).mono ?_
 rintro e w2 ⟨rfl,h1,hf1⟩;obtain⟨t2,ht1⟩: ∃tq,tq=Wr.run t1 (Wr.lst 60 Wr.enI T):=⟨_,rfl⟩
 have L2:t2.l.length≤t1.l.length+1021*241:=by
  rw[ht1];have h8:=Wr.run_len (Wr.lst 60 Wr.enI T) t1 (Wr.lst_wf _ 60 T (by omega) (fun x hx=>(HC.out.t x hx).it.2));have h9:=Wr.lst_len Wr.enI 60 4 T (fun x hx=>by simp[Wr.enI]);omega
 rw[←ht1]at h1;have HT2:=hid ht1;have H2:=hid (H1.out.step h1 hf1);have G2:=hid (G1.out.fr hf1);have HF2:=HF1.trans hf1;clear ht1 h1 hf1 c1 a0 H1 G1 HF1 HCT;have a0:=G2.out.cell;have c2:=H2.out.cell 2 rfl;go_wp2_with fail;refine(HCC.out w.heap.size t2 w2 (HBW.out.2.trans (by rw[←HBW.out.1];exact HF2.1)) H2.out.wt G2.out (by omega) H2.out.tab).mono ?_
 rintro e w3 ⟨rfl,h1,hf1⟩;obtain⟨t3,ht1⟩: ∃tq,tq=Wr.run t2 (Wr.lst 10 Wr.coI C):=⟨_,rfl⟩
 have L3:t3.l.length≤t2.l.length+1021*1031:=by
  rw[ht1];have h8:=Wr.run_len (Wr.lst 10 Wr.coI C) t2 (Wr.lst_wf _ 10 C (by omega) (fun x hx=>(HC.out.o x hx).it.2));have h9:=Wr.lst_len Wr.coI 10 103 C (fun x hx=>(HC.out.o x hx).it.1);omega
 rw[←ht1]at h1;have HT3:=hid ht1;have H3:=hid (H2.out.step h1 hf1);have G3:=hid (G2.out.fr hf1);have HF3:=HF2.trans hf1;clear ht1 h1 hf1 c2 a0 H2 G2 HF2 HCC;have a0:=G3.out.cell;have c3:=H3.out.cell 3 rfl;go_wp2_with fail;refine(wnum_any B b t3 cu w3 H3.out.wt HC.out.u (by omega) H3.out.b3 H3.out.tab).mono ?_
 rintro e w4 ⟨rfl,h1,hf1⟩;obtain⟨t4,ht1⟩: ∃tq,tq=Wr.num t3 cu:=⟨_,rfl⟩
 have L4:t4.l.length≤t3.l.length+1021:=by rw[ht1];exact Wr.put_len (s:=t3) (x:= .n cu) HC.out.u
 rw[←ht1]at h1;have HT4:=hid ht1;have H4:=hid (H3.out.step h1 hf1);have G4:=hid (G3.out.fr hf1);have HF4:=HF3.trans hf1;clear ht1 h1 hf1 c3 a0 H3 G3 HF3;have a0:=G4.out.cell;have c4:=H4.out.cell 4 rfl;go_wp2_with fail;refine(wyes_any B b t4 mo w4 H4.out.wt (by omega) H4.out.b3 H4.out.tab).mono ?_
 rintro e w5 ⟨rfl,h1,hf1⟩;obtain⟨t5,ht1⟩: ∃tq,tq=Wr.num t4 (if mo=true then 1 else 0):=⟨_,rfl⟩
 have L5:t5.l.length≤t4.l.length+1021:=by rw[ht1];exact Wr.put_len (s:=t4) (x:=Wr.yn mo) (Wr.yn_wf _)
 rw[←ht1]at h1;have HT5:=hid ht1;have H5:=hid (H4.out.step h1 hf1);have G5:=hid (G4.out.fr hf1);have HF5:=HF4.trans hf1;clear ht1 h1 hf1 c4 a0 H4 G4 HF4;go_wp2_with fail;go_end0
 refine⟨rfl,?_,HF5⟩
 have h:=H5.out.wt;rw[HT5.out,HT4.out,HT3.out,HT2.out,HT1.out]at h;rw[Wr.pgI,Wr.run_cons,Wr.run_app,Wr.run_app];exact h
set_option maxHeartbeats 2000000 in
theorem wtell_any (A:An) (v:Value) (w:World) (hq:LiesA w v A) (hz:WfA A) (h3:3<w.heap.size) (ht:PowTab w):
    Calls Tryz.prog 22 #[v] w fun e w'=>e= .returned (.tuple #[.string (Wr.fin (Wr.run Wr.e0 (Wr.anI A))).1,.int .i64 (Wr.fin (Wr.run Wr.e0 (Wr.anI A))).2])∧Below w.heap.size w w':=by
 obtain⟨vt,vc,rfl,lt,lc⟩:=hq
 have hPG:LiesPg w (.agg #[.bool A.pg.reset,vt,vc,.int .i64 A.pg.cur,.bool A.pg.more]) A.pg:=⟨vt,vc,rfl,lt,lc⟩
 obtain⟨ta,tc,rfl,_⟩: ∃a c,vt= .slice a A.pg.tree.length c∧True:=by obtain⟨a,c,h,_⟩:=lt;exact⟨a,c,h,trivial⟩
 obtain⟨ca,cc,rfl⟩:=liesO_shape lc
 have HP:=hid (fun(b:Nat) (s:Ws) (W:World) (hw:Below w.heap.size w W) (h:Wt w.heap.size b s W) (hl:s.l.length+5000000≤1000000000) (ht:PowTab W)=>wpage_any w A.pg _ b s W hPG hw h hl h3 ht hz.p);clear hPG;obtain⟨er,nu,rs,T,C,cu,mo⟩:=A
 simp only at lt lc HP⊢;have HANI:=hid (show∀s:Ws,Wr.run s (Wr.anI ⟨er,nu,⟨rs,T,C,cu,mo⟩⟩)=Wr.run (Wr.num (Wr.num s er) nu) (Wr.pgI ⟨rs,T,C,cu,mo⟩)from fun s=>rfl);rw[HANI.out];obtain⟨PI,hPI⟩: ∃x,x=Wr.pgI ⟨rs,T,C,cu,mo⟩:=⟨_,rfl⟩
 rw[←hPI]at HP⊢;obtain⟨tl,htl⟩: ∃n,n=T.length:=⟨_,rfl⟩
 obtain⟨cl,hcl⟩: ∃n,n=C.length:=⟨_,rfl⟩
 rw[←htl,←hcl]at HP⊢;obtain⟨B,hB⟩: ∃B,B=w.heap.size:=⟨_,rfl⟩
 obtain⟨wz,hwz⟩: ∃wz,wz=w.alloc (.cells #[.int .i64 er,.int .i64 nu,.bool rs,.slice ta tl tc,.slice ca cl cc,.int .i64 cu,.bool mo] 43):=⟨_,rfl⟩
 have sz:wz.heap.size=w.heap.size+1:=by rw[hwz];simp
 have hbz:Below w.heap.size w wz:=by rw[hwz];exact below_alloc _ _
 obtain⟨w0,hw0⟩: ∃w0,w0=wz.alloc (.cells #[.pointer none,.slice none 0 0,.bool false,.bool false] 65):=⟨_,rfl⟩
 have hb0:Below wz.heap.size wz w0:=by rw[hw0];exact below_alloc _ _
 have hbw:Below w.heap.size w w0:=hbz.trans (hb0.mono (by omega));obtain⟨b,hb⟩: ∃b,b=w.heap.size+1:=⟨_,rfl⟩
 have hwr:w0.heap[b]?=some (.cells #[.pointer none,.slice none 0 0,.bool false,.bool false] 65 (0,0)):=by rw[hb,←sz,hw0];exact heap_alloc_new wz _
 have hmm:w0.heap[w.heap.size]?=some (.cells (List.toArray [.int .i64 er,.int .i64 nu,.bool rs,.slice ta tl tc,.slice ca cl cc,.int .i64 cu,.bool mo]) 43 (0,0)):=by rw[hb0.block _ (by omega),hwz];exact heap_alloc_new w _
 have H0:=hid (Wk.mk (B:=B) (b:=b) (wt_new w0 B b (by omega) hwr) hmm (ht.belowB h3 hbw) (by omega) (by decide) (by omega));have HF0:FrW B b w0 w0:=FrW.refl _ _ _;have HB:=hid (And.intro hB hbw);have HC:=hid hz;have HW:=hid (show(w.alloc (.cells #[.int .i64 er,.int .i64 nu,.bool rs,.slice ta tl tc,.slice ca cl cc,.int .i64 cu,.bool mo] 43)).alloc (.cells #[.pointer none,.slice none 0 0,.bool false,.bool false] 65)=w0 from by rw[←hwz,←hw0]);have hb2:w.heap.size+1=b:=hb.symm;have HB2:=hid hb2;clear ht lt lc hz hwz hw0 hwr hmm sz hbz hb0 hbw hB hPI htl hcl hb hb2;obtain⟨t0,ht0⟩: ∃tq,tq=Wr.e0:=⟨_,rfl⟩
 rw[←ht0]at H0⊢;have l0:t0.l.length=0:=by rw[ht0];rfl
 clear ht0;go_enter Tryz.func22,Tryz.ntmps22
 go_upto_region 2 with fail;rw[HW.out,HB2.out];clear HW;have c0:=H0.out.cell 0 rfl;go_wp2_with fail;refine(wnum_any B b t0 er w0 H0.out.wt HC.out.e (by omega) H0.out.b3 H0.out.tab).mono ?_
 rintro e w1 ⟨rfl,h1,hf1⟩;obtain⟨t1,ht1⟩: ∃tq,tq=Wr.num t0 er:=⟨_,rfl⟩
 have L1:t1.l.length≤t0.l.length+1021:=by rw[ht1];exact Wr.put_len (s:=t0) (x:= .n er) HC.out.e
 rw[←ht1]at h1;have HT1:=hid ht1;have H1:=hid (H0.out.step h1 hf1);have HF1:=HF0.trans hf1;clear ht1 h1 hf1 c0 H0 HF0;have c1:=H1.out.cell 1 rfl;go_wp2_with fail;refine(wnum_any B b t1 nu w1 H1.out.wt HC.out.n (by omega) H1.out.b3 H1.out.tab).mono ?_
 rintro e w2 ⟨rfl,h1,hf1⟩;obtain⟨t2,ht1⟩: ∃tq,tq=Wr.num t1 nu:=⟨_,rfl⟩
 have L2:t2.l.length≤t1.l.length+1021:=by rw[ht1];exact Wr.put_len (s:=t1) (x:= .n nu) HC.out.n
 rw[←ht1]at h1;have HT2:=hid ht1;have H2:=hid (H1.out.step h1 hf1);have HF2:=HF1.trans hf1;clear ht1 h1 hf1 c1 H1 HF1;have c2:=H2.out.cell 2 rfl;have c3:=H2.out.cell 3 rfl;have c4:=H2.out.cell 4 rfl;have c5:=H2.out.cell 5 rfl;have c6:=H2.out.cell 6 rfl;have HN:=hid (show t2.l≠[]from by rw[HT2.out];exact Wr.num_ne);go_wp2_with fail;refine(HP.out b t2 w2 (HB.out.2.trans (by rw[←HB.out.1];exact HF2.1)) (by rw[←HB.out.1];exact H2.out.wt) (by omega) H2.out.tab).mono ?_
 rintro e w3 ⟨rfl,h3',hf3⟩;rw[←HB.out.1]at h3' hf3;have HQ:=hid (written_any B b _ w3 h3' (Wr.run_ne HN.out));clear c2 c3 c4 c5 c6 h3' HP;go_wp2_with fail;refine HQ.out.mono ?_
 rintro e w4 ⟨rfl,hb4⟩;go_wp2_with fail;go_ret2;rw[HT2.out,HT1.out];refine⟨rfl,?_⟩
 rw[HB.out.1]at HF2 hf3 hb4;exact HB.out.2.trans (HF2.1.trans (hf3.1.trans hb4))
end Go.Proofs.YtppdfeehhnofaaaGreatDoor
