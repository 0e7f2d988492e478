/- What slices.Clip at commits answers, and what (*keeper).forget does. -/
import Derived.Test.YtdifomkoegmngaaGreatDoorRKG
import Derived.Deep.DeepCutAuto
import Derived.Deep.RegionWith
import Derived.Deep.RegionLaw
import Derived.Test.YtdifomkoegmngaaGreatDoorRKC
set_option linter.unusedSimpArgs false
set_option linter.unusedVariables false
namespace Go.Proofs.YtdifomkoegmngaaGreatDoor
open Go.RowKit

theorem CoAt.ne {W:World} {b o g:Nat} {c:Co} (h:CoAt W b o c) (hn:NoStr W g):b≠g:=fun hb=>hn (o+1) c.ke (hb▸h.2.1)
theorem LiesO.nb {W W':World} {v:Value} {L:List Co} {g:Nat} (h:LiesO W v L) (hw:W.grownBy W' (some g)) (hn:NoStr W g):LiesO W' v L:=by
 obtain⟨a,cap,hv,h1,h2,h3⟩:=h
 refine⟨a,cap,hv,h1,h2,fun i hi=>?_⟩
 obtain⟨b,o,ha,hb,he⟩:=h3 i hi
 have c:=cell_nb hw hb (he.ne hn);obtain⟨e0,e1,u,e2,hu⟩:=he
 exact⟨b,o,ha,Nat.lt_of_lt_of_le hb hw.size,(c _).trans e0,(c _).trans e1,u,(c _).trans e2,hu.nb hw hn⟩
theorem liesO_tail {w:World} {g o n cap:Nat} {c:Co} {cs:List Co} (h:LiesO w (.slice (some ⟨g,o,none⟩) n cap) (c::cs)):LiesO w (.slice (some ⟨g,o+3,none⟩) cs.length (cap-1)) cs:=by
 obtain⟨a,cap',hv,h1,h2,h3⟩:=h
 injection hv with e1 e2 e3
 subst e1;subst e3;simp only[List.length_cons]at h1 h2;refine⟨_,_,rfl,by omega,by omega,fun i hi=>?_⟩
 obtain⟨b,o',hb,hl,he⟩:=h3 (i+1) (by simpa using hi)
 injection hb with hb
 injection hb with e4 e5
 subst e4;subst e5;refine⟨g,o+3,rfl,hl,?_⟩
 rw[show o+3+i*3=o+(i+1)*3 by omega];simpa using he
set_option maxHeartbeats 400000 in
theorem clip_any (a:Option Addr) (n cap:Nat) (w:World) (hn:n≤cap):
    Calls Tryz.prog 56 #[.slice a n cap] w fun e w'=>e= .returned (.slice a n n)∧w'=w:=by
 have h1:(n:Int)≤cap:=by omega
 go_enter Tryz.func56,Tryz.ntmps56
 go_wp2_with fail;go_ret;exact⟨rfl,rfl⟩
set_option maxRecDepth 100000 in
set_option maxHeartbeats 4000000 in
theorem forget_any (base:List En) (fi:Int) (c:Co) (cs:List Co) (b:Nat) (vb va vt vm:Value) (B:Nat) (w:World) (hk:Cs w b [vb,.int .i64 fi,va,vt,vm]) (hno: ∀s,Value.string s∉[vb,.int .i64 fi,va,vt,vm]) (hvb:Lies w vb base) (hva:LiesO w va (c::cs)) (h1:1≤cs.length) (hs:Sized base) (hcs:SizedC 150000000000000 c.ch) (hfi:1≤fi) (hfi2:fi≤1000000) (h0:Pp.allE base c.ch fi=0) (hB:B≤b):
    Calls Tryz.prog 57 #[.pointer (some ⟨b,0,none⟩)] w fun e w'=>e= .returned (.tuple #[])∧Below B w w'∧ ∃vb' va',Cs w' b [vb',.int .i64 (fi+1),va',vt,vm]∧Lies w' vb' (Pp.allR base c.ch fi)∧LiesO w' va' cs:=by
 have HK:=hid hk;have HVB:=hid hvb;have HVA:=hid hva;have HS:=hid hs;have HCS:=hid hcs;have H0:=hid h0;have hbl:=hk.lt;have k0:=hk.cell 0 rfl;have k1:=hk.cell 1 rfl;have k2:=hk.cell 2 rfl;have f0:=hk.fr 0;have HNO:=hid hno;obtain⟨ba,bcap,rfl,_⟩:=hvb
 obtain⟨aa,acap,rfl,hacap,hacap2,hat⟩:=hva
 obtain⟨g,o,rfl,hg,c0,c1,u,c2,hu⟩:=hat 0 (by simp)
 have HU:=hid hu;obtain⟨ua,ucap,rfl,_⟩:=hu
 simp only[Nat.zero_mul,Nat.add_zero,List.getElem_cons_zero,List.length_cons]at c0 c1 c2 hacap hacap2 k2⊢;have hlen:(0:Int)<((cs.length+1:Nat):Int):=by omega
 clear hk hs hcs h0 hat hno;go_enter Tryz.func57,Tryz.ntmps57
 go_upto_region 0 with fail;go_cut [0] (fun x wx=>x= .pointer (some ⟨b,0,none⟩)∧ ∃vb',Hid (Cs wx b [vb',.int .i64 fi,.slice (some ⟨g,o,none⟩) (cs.length+1) acap,vt,vm])∧Hid (Lies wx vb' (Pp.allR base c.ch fi))∧Hid (LiesO wx (.slice (some ⟨g,o,none⟩) (cs.length+1) acap) (c::cs))∧Below B w wx)
 case first=>
  go_region_with (go_at_call 88;refine(tall_any base _ c.ch _ fi _ (HVB.out.below (Below.refl _ _).drew) HS.out (HU.out.below (Below.refl _ _).drew) HCS.out).mono ?_;rintro e wa ⟨r,rfl,hli,hba⟩;rw[H0.out];have hwa:Below w.heap.size w wa:=((Below.refl _ _).drew).trans hba;have d0:=(hwa.cell (p:=⟨b,0,none⟩) hbl).trans k0;have e0:=(hwa.frozen (p:=⟨b,0,none⟩) hbl).trans f0;have HLI:=hid hli;obtain⟨ra,rcap,rfl,_⟩:=hli)
  all_goals
   have HKA:=HK.out.below hwa;have HN:=HKA.noStr HNO.out;go_wp2_with fail;go_meet
   case rel=>exact⟨rfl,_,HKA.set 0 _,HLI.out.nb (nb_set _ _ _ _) HN,(HVA.out.below hwa).nb (nb_set _ _ _ _) HN,(hwa.mono (by omega)).setCell (p:=⟨b,0,none⟩) hB _⟩
 case rest=>
  obtain⟨rfl,vb',HC,HL,HO,hbx⟩:=hcut
  have hl:=HC.out.lt;have HL2:=hid HL.out;obtain⟨xa,xcap,rfl,_⟩:=HL.out
  have m0:=HC.out.cell 0 rfl;have m1:=HC.out.cell 1 rfl;have m2:=HC.out.cell 2 rfl;have n1:=HC.out.fr 1;have n2:=HC.out.fr 2;have hw1:IntKind.i64.wrap (fi+1)=fi+1:=by rw[IntKind.wrap_i64];omega
  have hcap1: ¬acap=1:=by omega
  have hcap3:(1:Int)≤acap:=by omega
  have hcap4:(1:Int)≤((cs.length+1:Nat):Int):=by omega
  have HN0:=hid (show∀s,Value.string s∉[.slice xa (Pp.allR base c.ch fi).length xcap,.int .i64 fi,.slice (some ⟨g,o,none⟩) (cs.length+1) acap,vt,vm]from fun s hs=>by
   simp only[List.mem_cons,List.not_mem_nil,or_false]at hs;rcases hs with h|h|h|h|h
   · cases h
   · cases h
   · cases h
   · exact HNO.out s (by simp[h])
   · exact HNO.out s (by simp[h]))
  have HC1:Hid (Cs (wc.setCell ⟨b,1,none⟩ (.int .i64 (fi+1))) b [.slice xa (Pp.allR base c.ch fi).length xcap,.int .i64 (fi+1),.slice (some ⟨g,o,none⟩) (cs.length+1) acap,vt,vm]):=HC.out.set 1 _
  have HN1:=hid (show∀s,Value.string s∉[.slice xa (Pp.allR base c.ch fi).length xcap,.int .i64 (fi+1),.slice (some ⟨g,o,none⟩) (cs.length+1) acap,vt,vm]from fun s hs=>HN0.out s (by
   simp only[List.mem_cons,List.not_mem_nil,or_false]at hs⊢;rcases hs with h|h|h|h|h
   · exact Or.inl h
   · cases h
   · exact Or.inr (Or.inr (Or.inl h))
   · exact Or.inr (Or.inr (Or.inr (Or.inl h)))
   · exact Or.inr (Or.inr (Or.inr (Or.inr h)))))
  have HT:=hid (liesO_tail HO.out);clear m0;go_wp2_with fail;go_end0
  refine⟨rfl,(hbx.setCell (p:=⟨b,1,none⟩) hB _).setCell (p:=⟨b,2,none⟩) hB _,_,_,HC1.out.set 2 _,(HL2.out.nb (nb_set _ _ _ _) (HC.out.noStr HN0.out)).nb (nb_set _ _ _ _) (HC1.out.noStr HN1.out),(HT.out.nb (nb_set _ _ _ _) (HC.out.noStr HN0.out)).nb (nb_set _ _ _ _) (HC1.out.noStr HN1.out)⟩
theorem append_full {P:Program} (w:World) (t ty e:TypeId) (i:TypeInfo) (z:Value) (size bytes:Nat) (ht:P.underlying t=some (.slice e)) (hi:P.info? e=some i) (hz:i.zero=some z)
    (hsize:i.size=size) (hby:i.bytes=bytes) (hzs:z.cells.size=size) (hsz:0<size) (a:Option Addr) (R:List (List Value)) (hR:LiesR size w (.slice a R.length R.length) R)
    (ad:Addr) (c:Nat) (r:List Value) (hr:r.length=size∧ ∀u∈r,u.oneCell'=true) (hnews: ∀j u,r[j]?=some u→w.cell? (ad.add j)=some u) (hn:R.length≤1000000000) (hb:bytes≤1000):
    ∃v' w',(Builtin.append_ #[t,t] ty #[.slice a R.length R.length,.slice (some ad) 1 c]).run P w= .ok v' w'∧LiesR size w' v' (R++[r])∧Own w.heap.size w' v'∧Below w.heap.size w w':=by
 subst hsize;subst hby;obtain⟨a',cap',hv,h1,h2,h4,h3⟩:=hR
 injection hv with e1 e2 e3
 subst e1
 have hrr: ∀x∈R++[r],x.length=i.size∧ ∀u∈x,u.oneCell'=true:=fun x hx=>by
  rcases List.mem_append.1 hx with hx|hx
  · exact h4 x hx
  · rw[List.mem_singleton]at hx;rw[hx];exact hr
 have hfl:R.flatten.length=R.length*i.size:=flatten_len (fun x hx=>(h4 x hx).1);have hmul:(R.length+1)*i.bytes≤(1000000000+1)*1000:=Nat.mul_le_mul (by omega) hb
 have fin: ∀cap,R.length+1≤cap→(w.drew.alloc (.cells (R.flatten.toArray++r.toArray++Builtin.zeroCells z.cells (cap-(R.length+1))) e)).ownsRow w.heap.size e i.size (.slice (some ⟨w.heap.size,0,none⟩) (R.length+1) cap) (R.length+1) (R++[r]).flatten→LiesR i.size (w.drew.alloc (.cells (R.flatten.toArray++r.toArray++Builtin.zeroCells z.cells (cap-(R.length+1))) e)) (.slice (some ⟨w.heap.size,0,none⟩) (R.length+1) cap) (R++[r])∧Own w.heap.size (w.drew.alloc (.cells (R.flatten.toArray++r.toArray++Builtin.zeroCells z.cells (cap-(R.length+1))) e)) (.slice (some ⟨w.heap.size,0,none⟩) (R.length+1) cap)∧Below w.heap.size w (w.drew.alloc (.cells (R.flatten.toArray++r.toArray++Builtin.zeroCells z.cells (cap-(R.length+1))) e)):=fun cap hcap ho=>
  ⟨liesR_own (by simpa using ho) (by simp;omega) hrr,own_row ho,((Below.refl _ _).drew).alloc (Nat.le_refl _) _⟩
 have own: ∀cap,R.length+1≤cap→cap≤maxLen→(w.drew.alloc (.cells (R.flatten.toArray++r.toArray++Builtin.zeroCells z.cells (cap-(R.length+1))) e)).ownsRow w.heap.size e i.size (.slice (some ⟨w.heap.size,0,none⟩) (R.length+1) cap) (R.length+1) (R++[r]).flatten:=fun cap hcap hcm=>by
  have hl:(R++[r]).flatten.length=(R.length+1)*i.size:=by
   rw[flatten_len (fun x hx=>(hrr x hx).1)];simp
  refine⟨hl,.inr ⟨w.heap.size,_,_,rfl,Nat.le_refl _,heap_alloc_new w.drew _,hcap,hcm,?_,?_⟩⟩
  · simp only[Array.size_append,List.size_toArray,size_zeroCells,hzs,hfl,hr.1]
    have:R.length*i.size+i.size+(cap-(R.length+1))*i.size=(R.length+1+(cap-(R.length+1)))*i.size:=by
     rw[Nat.add_mul,Nat.add_mul];omega
    rw[this];congr 1
    omega
  · simp only[Array.toList_append,List.append_assoc]
    rw[←hl];have e:R.flatten.toArray.toList++(r.toArray.toList++(Builtin.zeroCells z.cells (cap-(R.length+1))).toList)=(R++[r]).flatten++(Builtin.zeroCells z.cells (cap-(R.length+1))).toList:=by simp
    rw[e];exact List.take_left
 have hml:R.length+1≤maxLen:=by unfold maxLen;omega
 cases a with
 |none=>
  have hR0:R=[]:=by
   cases R with
   |nil=>rfl
   |cons s r=>obtain⟨b,o,hb,_⟩:=h3 0 (by simp);cases hb
  subst hR0;have hr2:=run_append_nil (P:=P) w t ty e i z ht hi hz ad 1 c r (by rw[hr.1,Nat.one_mul]) hnews (by decide) (by decide) (by simp at hmul⊢;omega);have hg:=own (grownCap w 1 0 e) (grownCap_ge w 1 0 e) (grownCap_le_maxLen w 1 0 e hml);have hf:=fin (grownCap w 1 0 e) (grownCap_ge w 1 0 e) hg;refine⟨_,_,hr2,?_⟩
  simpa using hf
 |some b0=>
  have holds: ∀j u,R.flatten[j]?=some u→w.cell? (b0.add j)=some u:=by
   cases R with
   |nil=>intro j u hj;simp at hj
   |cons s r=>
    obtain⟨b,o,hb,_⟩:=h3 0 (by simp)
    injection hb with hb
    subst hb
    exact liesR_cells hsz (fun r hr=>(h4 r hr).1) fun i hi=>by
     obtain⟨b',o',hb',_,he⟩:=h3 i hi
     injection hb' with hb'
     injection hb' with h1 h2
     subst h1;subst h2;exact he
  have hr2:=run_append_grow (P:=P) w t ty e i z ht hi hz b0 R.length R.length R.flatten hfl holds ad 1 c r (by rw[hr.1,Nat.one_mul]) hnews (by omega) (by omega) (growslice_fits (by omega) (by omega));have hg:=own (grownCap w (R.length+1) R.length e) (grownCap_ge w _ _ e) (grownCap_le_maxLen w _ _ e hml);exact⟨_,_,hr2,fin _ (grownCap_ge w _ _ e) hg⟩
/-- The same as one step of a region that draws. -/
theorem step_append_full {P:Program} {ops:Array Oper} {o:Oper} {a:Act} {w:World} {K:Act→World→Prop} {Q:Exit→Act→World→Prop} {E:Prop}
    (hg:o.guard=none) (s x:Operand) (t:TypeId) (hop:o.op=Op.call {callee:=Callee.builtin Builtin.append,args:= #[s,x],argTypes:= #[t,t]})
    (e:TypeId) (i:TypeInfo) (z:Value) (size bytes:Nat) (ht:P.underlying t=some (.slice e)) (hi:P.info? e=some i) (hz:i.zero=some z)
    (hsize:i.size=size) (hby:i.bytes=bytes) (hzs:z.cells.size=size) (hsz:0<size) (ao:Option Addr) (R:List (List Value)) (n:Nat) (hRn:R.length=n) (hs:a.eval s= .slice ao n n) (hR:LiesR size w (.slice ao n n) R)
    (ad:Addr) (c:Nat) (hx:a.eval x= .slice (some ad) 1 c) (r:List Value) (hr:r.length=size∧ ∀u∈r,u.oneCell'=true) (hnews: ∀j u,r[j]?=some u→w.cell? (ad.add j)=some u) (hn:R.length≤1000000000) (hb:bytes≤1000)
    (hK: ∀v' w',LiesR size w' v' (R++[r])∧Own w.heap.size w' v'∧Below w.heap.size w w'→K (a.put o.dst v') w'):
    if Region.wanted o (yielded ops a.tmps)=true then Oper.wp P o a w K Q else E:=by
 have hw:Region.wanted o (yielded ops a.tmps)=true:=by simp[Region.wanted,hg]
 rw[if_pos hw];subst hRn;obtain⟨v',w',hrun,h1⟩:=append_full (P:=P) w t o.type e i z size bytes ht hi hz hsize hby hzs hsz ao R hR ad c r hr hnews hn hb
 unfold Oper.wp;simp[execOp,hop,resolve,invoke,builtin,hs,hx,hrun,Result.andThen]
 exact hK _ _ h1
theorem LiesR.clip {n:Nat} {w:World} {a:Option Addr} {k cap:Nat} {R:List (List Value)} (h:LiesR n w (.slice a k cap) R):LiesR n w (.slice a k k) R:=by
 obtain⟨a',cap',hv,h1,h2,h3⟩:=h
 injection hv with e1 e2 e3
 subst e1;exact⟨a,k,by rw[e2],by omega,h2,h3⟩
namespace Jn
/-- A new commit, by a key that was not met, of a journal that passes Check: its error. -/
def newE (J:Jo) (l:List Pp.Ch):Int:=if l=[]then 1 else if 1000000<last J+1 then 3 else Pp.allE (tree J) l (last J+1)
def newC (J:Jo) (key:ByteArray) (l:List Pp.Ch):Co:=⟨last J+1,key,l⟩
/-- The first one goes, if there are too many. -/
def cutJ (J:Jo):Jo:=if 30<J.cos.length then(match J.cos with|[]=>J|c::r=>⟨Pp.allR J.base c.ch J.first,J.first+1,r⟩)else J
def addJ (J:Jo) (key:ByteArray) (l:List Pp.Ch):Jo:=cutJ ⟨J.base,J.first,J.cos++[newC J key l]⟩
def comE (J:Jo) (key:ByteArray) (l:List Pp.Ch):Int:=if¬chkE J=0 then chkE J else if¬Pp.keyB key.data.toList=true then 1 else if hasB J.cos key.data.toList=true then 0 else newE J l
def comN (J:Jo) (key:ByteArray) (l:List Pp.Ch):Int:=if¬comE J key l=0 then 0 else if hasB J.cos key.data.toList=true then numOf J.cos key.data.toList else last J+1
def zeroJ:Jo:=⟨[],0,[]⟩
def comR (J:Jo) (key:ByteArray) (l:List Pp.Ch):Jo:=if¬comE J key l=0 then zeroJ else if hasB J.cos key.data.toList=true then J else addJ J key l
theorem com_chk {J:Jo} {key:ByteArray} {l:List Pp.Ch} (h: ¬chkE J=0):comE J key l=chkE J∧comN J key l=0∧comR J key l=zeroJ:=by
 have e:comE J key l=chkE J:=by rw[comE,if_pos h]
 exact⟨e,by rw[comN,e,if_pos h],by rw[comR,e,if_pos h]⟩
theorem com_key {J:Jo} {key:ByteArray} {l:List Pp.Ch} (h:chkE J=0) (h1:Pp.keyB key.data.toList=false):comE J key l=1∧comN J key l=0∧comR J key l=zeroJ:=by
 have e:comE J key l=1:=by rw[comE,if_neg (fun x=>x h),if_pos (by simp[h1])]
 exact⟨e,by rw[comN,e,if_pos (by decide)],by rw[comR,e,if_pos (by decide)]⟩
theorem com_has {J:Jo} {key:ByteArray} {l:List Pp.Ch} (h:chkE J=0) (h1:Pp.keyB key.data.toList=true) (h2:hasB J.cos key.data.toList=true):comE J key l=0∧comN J key l=numOf J.cos key.data.toList∧comR J key l=J:=by
 have e:comE J key l=0:=by rw[comE,if_neg (fun x=>x h),if_neg (fun x=>x h1),if_pos h2]
 exact⟨e,by rw[comN,e,if_neg (fun x=>x rfl),if_pos h2],by rw[comR,e,if_neg (fun x=>x rfl),if_pos h2]⟩
theorem com_new {J:Jo} {key:ByteArray} {l:List Pp.Ch} (h:chkE J=0) (h1:Pp.keyB key.data.toList=true) (h2:hasB J.cos key.data.toList=false):comE J key l=newE J l:=by
 rw[comE,if_neg (fun x=>x h),if_neg (fun x=>x h1),if_neg (by simp[h2])]
theorem com_bad {J:Jo} {key:ByteArray} {l:List Pp.Ch} (h: ¬comE J key l=0):comN J key l=0∧comR J key l=zeroJ:=⟨by rw[comN,if_pos h],by rw[comR,if_pos h]⟩
theorem com_add {J:Jo} {key:ByteArray} {l:List Pp.Ch} (h:chkE J=0) (h1:Pp.keyB key.data.toList=true) (h2:hasB J.cos key.data.toList=false) (h3:newE J l=0):comE J key l=0∧comN J key l=last J+1∧comR J key l=addJ J key l:=by
 have e:comE J key l=0:=by rw[com_new h h1 h2];exact h3
 exact⟨e,by rw[comN,e,if_neg (fun x=>x rfl),if_neg (by simp[h2])],by rw[comR,e,if_neg (fun x=>x rfl),if_neg (by simp[h2])]⟩
/-- Of a journal that passes Check: the changes of each commit are few, and small. -/
theorem all_few {T:List En} {cs:List Pp.Ch} {n:Int} (h:Pp.allE T cs n=0):cs.length≤20:=by
 have ht:Pp.treeE T=0:=by
  by_cases ht:Pp.treeE T=0
  · exact ht
  · rw[(Pp.all_no ht cs n).1]at h;exact absurd h ht
 rcases Nat.lt_or_ge 20 cs.length with hm|hm
 · rw[(Pp.all_many ht hm n).1]at h;cases h
 · exact hm
theorem run_few: ∀{n:Int} {T:List En} {l:List Co},(runJ n T l).1=0→ ∀c∈l,c.ch.length≤20
 |n,T,[],_,c,hc=>by cases hc
 |n,T,d::r,h,c,hc=>by
  rw[runJ]at h;by_cases h0:coE d n=0
  · rw[if_neg (fun x=>x h0)]at h
    by_cases h1:Pp.allE T d.ch d.nu=0
    · rw[if_neg (fun x=>x h1)]at h
      rcases List.mem_cons.1 hc with rfl|hc
      · exact all_few h1
      · exact run_few h c hc
    · rw[if_pos h1]at h;exact absurd h h1
  · rw[if_pos h0]at h;exact absurd h h0
theorem chk_few {J:Jo} (h:chkE J=0): ∀c∈J.cos,c.ch.length≤20:=by
 obtain⟨_,_,_,h4,_⟩:=chk_parts h
 exact run_few (n:=J.first) (T:=J.base) (by rw[h4])
theorem run_first {n:Int} {T:List En} {c:Co} {r:List Co} (h:(runJ n T (c::r)).1=0):coE c n=0∧Pp.allE T c.ch c.nu=0:=by
 rw[runJ]at h;by_cases h0:coE c n=0
 · rw[if_neg (fun x=>x h0)]at h
   by_cases h1:Pp.allE T c.ch c.nu=0
   · exact⟨h0,h1⟩
   · rw[if_pos h1]at h;exact absurd h h1
 · rw[if_pos h0]at h;exact absurd h h0
end Jn
end Go.Proofs.YtdifomkoegmngaaGreatDoor
namespace Go.Proofs.YtdifomkoegmngaaGreatDoor
open Go.RowKit

theorem Tryz.infoCo:(Tryz.prog.info? 84).map (fun i=>(i.zero,i.size,i.bytes))=some (some (.agg #[.int .i64 0,.string ⟨#[]⟩,.slice none 0 0]),3,48):=by kernel_rfl
theorem LiesO.append {w:World} {v:Value} {l:List Co} {us:List Value} {c:Co} {u:Value} (hc:ChsAt w l us) (hu:LiesC w u c.ch) (h:LiesR 3 w v (rowsO l us++[rowO c u])):LiesO w v (l++[c]):=by
 have hl:=hc.1;refine liesO_of (us:=us++[u]) ⟨by simp[hl],?_⟩ ?_
 · intro i d x hd hx
   by_cases hi:i<l.length
   · rw[List.getElem?_append_left hi]at hd
     rw[List.getElem?_append_left (by omega)]at hx;exact hc.2 i d x hd hx
   · rw[List.getElem?_append_right (by omega)]at hd hx
     rw[hl]at hx
     have h0:i-l.length=0:=by
      rcases Nat.lt_or_ge (i-l.length) 1 with h|h
      · omega
      · rw[List.getElem?_eq_none (by simpa using h)]at hd;cases hd
     rw[h0]at hd hx;injection hd with hd
     injection hx with hx
     rw[←hd,←hx];exact hu
 · have e:rowsO (l++[c]) (us++[u])=rowsO l us++[rowO c u]:=by
    rw[rowsO,rowsO,List.zipWith_append (by omega)];rfl
   rw[e];exact h
/-- A keeper whose journal is this one. -/
def Added (w:World) (b:Nat) (J:Jo):Prop:= ∃vb vc vt vm,Cs w b [vb,.int .i64 J.first,vc,vt,vm]∧Lies w vb J.base∧LiesO w vc J.cos
set_option maxRecDepth 100000 in
set_option maxHeartbeats 4000000 in
theorem commit_any (J:Jo) (key:ByteArray) (l:List Pp.Ch) (u:Value) (b mb nn:Nat) (vb vc:Value) (w0 w:World) (hJ:Jn.chkE J=0) (hk:Kp w b mb vb J.first vc (Jn.tree J) nn (Jn.D J.cos)) (hvb:Lies w0 vb J.base) (hvc:LiesO w0 vc J.cos) (hu:LiesC w0 u l) (hw0:Below w0.heap.size w0 w)
    (hls:SizedC 150000000000000 l) (hke:key.size≤maxLen) (hcs:SizedO 150000000000000 J.cos) (hnn:nn≤30) (hb0:w0.heap.size≤b) (hm0:w0.heap.size≤mb):
    Calls Tryz.prog 28 #[.pointer (some ⟨b,0,none⟩),.string key,u] w fun e w'=>e= .returned (.int .i64 (Jn.newE J l))∧Below w0.heap.size w0 w'∧(Jn.newE J l=0→Added w' b (Jn.addJ J key l)):=by
 obtain⟨i0,hi0,hz0,hz1,hz2⟩:=info_parts Tryz.infoCo
 have hpp:=Jn.chk_parts hJ;obtain⟨f1,f2⟩:=Jn.ver_iff.1 hpp.2.1
 have h30:=hpp.2.2.1;have HJ:=hid hJ;have HK:=hid hk;have HVB:=hid hvb;have HVC:=hid hvc;have HU:=hid hu;have HLS:=hid hls;have HCS:=hid hcs;obtain⟨vt,hC,_,_,hne⟩:=hk
 have HC:=hid hC;have hbl:=hC.lt;obtain⟨ba,bcap,rfl,_⟩:=hvb
 obtain⟨ca,ccap,rfl,hccap,_⟩:=hvc
 obtain⟨ua,ucap,rfl,_,hul,_⟩:=hu
 have hs0:=hw0.size;clear hls hcs hC hpp hJ;by_cases hl0:l=[]
 · have HE:=hid (show Jn.newE J l=1 from by rw[Jn.newE,if_pos hl0])
   have h0:((l.length:Int)==0)=true:=by rw[hl0];rfl
   clear hl0;go_enter Tryz.func28,Tryz.ntmps28
   go_wp2_with fail;go_ret;exact⟨by rw[HE.out];rfl,hw0,fun h=>by rw[HE.out]at h;exact absurd h (by decide)⟩
 · have h0:((l.length:Int)==0)=false:=by
    rw[beq_eq_false_iff_ne];intro h;exact hl0 (List.length_eq_zero_iff.1 (by omega))
   have hN:J.first-1+(J.cos.length:Int)+1=Jn.last J+1:=by rw[Jn.last]
   have hwr:IntKind.i64.wrap (J.first-1+(J.cos.length:Int)+1)=Jn.last J+1:=by rw[IntKind.wrap_i64,Jn.last];omega
   by_cases hbig:1000000<Jn.last J+1
   · have HE:=hid (show Jn.newE J l=3 from by rw[Jn.newE,if_neg hl0,if_pos hbig])
     clear hl0 hN;go_enter Tryz.func28,Tryz.ntmps28
     go_wp2_with fail;refine(kLast_any J.first J.cos.length ccap b _ _ _ ca _ HC.out f1 (by omega) (by omega)).mono ?_
     rintro e w1 ⟨rfl,hb1⟩;have hb01:=(hw0.trans (hb1.mono hs0)).alloc (Nat.le_trans hs0 hb1.size) (.cells #[.int .i64 (Jn.last J+1),.string key,.slice ua l.length ucap] 84);go_wp2_with fail;go_ret;exact⟨by rw[HE.out];rfl,hb01,fun h=>by rw[HE.out]at h;exact absurd h (by decide)⟩
   · have HE:=hid (show Jn.newE J l=Pp.allE (Jn.tree J) l (Jn.last J+1)from by rw[Jn.newE,if_neg hl0,if_neg hbig])
     have hlo:1≤Jn.last J+1:=by omega
     clear hl0 hN;go_enter Tryz.func28,Tryz.ntmps28
     go_wp2_with fail;refine(kLast_any J.first J.cos.length ccap b _ _ _ ca _ HC.out f1 (by omega) (by omega)).mono ?_
     rintro e w1 ⟨rfl,hb1⟩;obtain⟨w2,hw2⟩: ∃w2,w2=w1.alloc (.cells #[.int .i64 (Jn.last J+1),.string key,.slice ua l.length ucap] 84):=⟨_,rfl⟩
     have hb2:Below w1.heap.size w1 w2:=by rw[hw2];exact(Below.refl _ _).alloc (Nat.le_refl _) _
     have HX2:=hid (show Cs w2 w1.heap.size [.int .i64 (Jn.last J+1),.string key,.slice ua l.length ucap]from by rw[hw2];exact Cs.new _ [.int .i64 (Jn.last J+1),.string key,.slice ua l.length ucap] _);have hb02:=below_tr hb1 hb2;have hw2':Below w0.heap.size w0 w2:=hw0.trans (hb02.mono hs0);have HK2:=hid (HK.out.below hb02);have hs1:=hb1.size;have hs2:=hb2.size;go_wp2_with fail;rw[←hw2];clear hw2
     have hml:mb<w.heap.size:=by
      obtain⟨_,_,_,hM,_⟩:=HK.out
      exact hM.lt
     have HNW:Hid ((Lit.int .i64 (Jn.last J+1)).wf=true):=Jn.wf_num (by omega) (by omega);have HNM:=hid (show nn<maxLen from by unfold maxLen;omega);refine(take_any ⟨Jn.last J+1,key,l⟩ (.slice ua l.length ucap) b mb nn (.slice ba J.base.length bcap) (.slice ca J.cos.length ccap) J.first (Jn.tree J) (Jn.D J.cos) _ (HU.out.below hw2') HLS.out hke HNW.out HK2.out (Pp.good_sized (Jn.tree_good HJ.out)) HNM.out nostr_slice nostr_slice).mono ?_
     rintro e w4 ⟨rfl,hn4,hK4⟩;have hb4:Below w0.heap.size w0 w4:=hw2'.trans (hn4.to (by omega) hb0 hm0);have HK4:=hid hK4;have HX4:=hid (HX2.out.nb2 hn4 (by omega) (by omega));have hs4:=hn4.size;clear hK4 hn4;by_cases ha:Pp.allE (Jn.tree J) l (Jn.last J+1)=0
     · obtain⟨vt4,hC4,hT4,hM4,_⟩:=HK4.out ha
       have HC4:=hid hC4
       have HNO4:=hid (show∀s,Value.string s∉[.slice ba J.base.length bcap,.int .i64 J.first,.slice ca J.cos.length ccap,vt4,.map (some mb)]from by
        obtain⟨_,_,rfl,_⟩:=hT4
        intro s hs;simp only[List.mem_cons,List.not_mem_nil,or_false]at hs;rcases hs with h|h|h|h|h<;>exact Value.noConfusion h)
       have hbl4:=hC4.lt;have m2:=hC4.cell 2 rfl;have n2:=hC4.fr 2;have x0:=HX4.out.cell 0 rfl;have x1:=HX4.out.cell 1 rfl;have x2:=HX4.out.cell 2 rfl;obtain⟨us,hch,hR⟩:=liesO_rows HVC.out
       have HCH:=hid hch;have HRL:=hid (rowsO_len hch.1);have HR:=hid hR.clip;have HA:=hid ha;rw[ha];have hbn:Below w4.heap.size w4 (w4.drew.alloc (.cells #[.int .i64 (Jn.last J+1),.string key,.slice ua l.length ucap] 84)):=((Below.refl _ _).drew).alloc (Nat.le_refl _) _;have hs04:w0.heap.size≤w4.heap.size:=hb4.size;have HRW:=hid (HR.out.below (hb4.trans (hbn.mono hs04)))
       have HRR:=hid (show(rowO (Jn.newC J key l) (.slice ua l.length ucap)).length=3∧ ∀u∈rowO (Jn.newC J key l) (.slice ua l.length ucap),u.oneCell'=true from⟨rfl,fun u hu=>by
        simp only[rowO,List.mem_cons,List.not_mem_nil,or_false]at hu;rcases hu with rfl|rfl|rfl<;>rfl⟩)
       have HNE:Hid (∀j y,(rowO (Jn.newC J key l) (.slice ua l.length ucap))[j]?=some y→(w4.drew.alloc (.cells #[.int .i64 (Jn.last J+1),.string key,.slice ua l.length ucap] 84)).cell? ((⟨w4.heap.size,0,none⟩:Addr).add j)=some y):=(fun j y hj=>by
        rw[Addr.add_lit,Nat.zero_add];exact(Cs.new w4.drew [.int .i64 (Jn.last J+1),.string key,.slice ua l.length ucap] 84).cell j hj:_)
       have HNN:=hid (show(rowsO J.cos us).length≤1000000000 from by rw[HRL.out];omega);clear hC4 hT4 hM4 hch hR ha HK4;go_upto_region 9 with fail;go_cut [0] (fun x wx=>x= .pointer (some ⟨b,0,none⟩)∧ ∃va,Hid (Cs wx b [.slice ba J.base.length bcap,.int .i64 J.first,va,vt4,.map (some mb)])∧Hid (LiesO wx va (J.cos++[Jn.newC J key l]))∧Below w0.heap.size w0 wx)
       case first=>
        go_region_law (first
         |(refine step_append_full rfl (.tmp 33) (.tmp 35) 23 rfl 84 i0 (.agg #[.int .i64 0,.string ⟨#[]⟩,.slice none 0 0]) 3 48 Tryz.underlying23 hi0 hz0 hz1 hz2 rfl (by decide) ca (rowsO J.cos us) J.cos.length HRL.out (by simp[Act.eval,Act.put]) HRW.out ⟨w4.heap.size,0,none⟩ 1 (by simp[Act.eval,Act.put]) (rowO (Jn.newC J key l) (.slice ua l.length ucap)) HRR.out HNE.out HNN.out (by decide) ?_;rintro v5 w5 ⟨hR5,hO5,hb5⟩;have HR5:=hid hR5;have HO5:=hid hO5;obtain⟨xa5,xc5,hv5,_⟩:=hR5;obtain⟨n5,hn5⟩: ∃n5,(rowsO J.cos us++[rowO (Jn.newC J key l) (.slice ua l.length ucap)]).length=n5:=⟨_,rfl⟩;rw[hn5]at hv5;subst hv5;clear hn5;have q5:Below w4.heap.size w4 w5:=hbn.trans (hb5.mono hbn.size);have d2:=(q5.cell (p:=⟨b,2,none⟩) hbl4).trans m2;have e2:=(q5.frozen (p:=⟨b,2,none⟩) hbl4).trans n2)
         |(go_simp;go_at_call 56;refine(clip_any ca J.cos.length ccap _ hccap).mono ?_;rintro e wa ⟨rfl,rfl⟩))
        all_goals
         have hb05:Below w0.heap.size w0 w5:=hb4.trans (q5.mono hs04)
         have hne5: ∀g,(Value.slice xa5 n5 xc5).ownBlock=some g→g≠b:=fun g hg=>by
          have h6:w4.heap.size≤g:=Nat.le_trans hbn.size (HO5.out g hg).1;omega
         go_wp2_with fail;go_meet
         case rel=>
          have hb06:Below w0.heap.size w0 (w5.setCell ⟨b,2,none⟩ (.slice xa5 n5 xc5)):=hb05.setCell (p:=⟨b,2,none⟩) hb0 _;exact⟨rfl,_,(HC4.out.below q5).set 2 _,LiesO.append (HCH.out.below hb06) (HU.out.below hb06) (HR5.out.nbo (nb_set _ _ _ _) hne5),hb06⟩
       case rest=>
        obtain⟨rfl,va,HCX,HLX,hbx⟩:=hcut
        have HLX2:=hid HLX.out;obtain⟨va1,vacap,rfl,_⟩:=HLX.out
        have hlA:(J.cos++[Jn.newC J key l]).length=J.cos.length+1:=by simp
        have y2:=HCX.out.cell 2 rfl;by_cases h31:30<J.cos.length+1
        · have h31':30<(((J.cos++[Jn.newC J key l]).length:Nat):Int):=by rw[hlA];omega
          obtain⟨c,r,hcr⟩: ∃c r,J.cos=c::r:=by
           cases hc:J.cos with
           |nil=>rw[hc]at h31;simp at h31
           |cons c r=>exact⟨c,r,rfl⟩
          have hrl:r.length+1=J.cos.length:=by rw[hcr];simp
          have hfst:=Jn.run_first (n:=J.first) (T:=J.base) (c:=c) (r:=r) (by rw[←hcr,(Jn.chk_parts HJ.out).2.2.2.1]);have hcnu:c.nu=J.first:=(Jn.co_zero hfst.1).1
          have HAD:=hid (show Jn.addJ J key l=⟨Pp.allR J.base c.ch J.first,J.first+1,r++[Jn.newC J key l]⟩from by rw[Jn.addJ,Jn.cutJ,if_pos (by show 30<(J.cos++[Jn.newC J key l]).length;rw[hlA];exact h31)];simp only[hcr,List.cons_append]);have HF0:=hid (show Pp.allE J.base c.ch J.first=0 from by have:=hfst.2;rwa [hcnu]at this);have HLX3:=hid (show LiesO wc (.slice va1 (J.cos++[Jn.newC J key l]).length vacap) (c::(r++[Jn.newC J key l]))from by have:=HLX2.out;rw[hcr]at this⊢;exact this);have HCZ:=hid (show SizedC 150000000000000 c.ch from(HCS.out c (by rw[hcr];simp)).2);have HGB:=hid (Pp.good_sized ((Pp.good_iff J.base).1 (Jn.chk_parts HJ.out).1))
          have HNO5:Hid (∀s,Value.string s∉[.slice ba J.base.length bcap,.int .i64 J.first,.slice va1 (J.cos++[Jn.newC J key l]).length vacap,vt4,.map (some mb)]):=(fun s hs=>by
           simp only[List.mem_cons,List.not_mem_nil,or_false]at hs;rcases hs with h|h|h|h|h
           · exact Value.noConfusion h
           · exact Value.noConfusion h
           · exact Value.noConfusion h
           · exact HNO4.out s (by simp[h])
           · exact Value.noConfusion h:_)
          clear hcr hfst hcnu;go_wp2_with fail;refine(forget_any J.base J.first c (r++[Jn.newC J key l]) b _ _ _ _ w0.heap.size _ HCX.out HNO5.out (HVB.out.below hbx) HLX3.out (by simp) HGB.out HCZ.out f1 f2 HF0.out hb0).mono ?_
          rintro e w6 ⟨rfl,hb6,vb6,va6,hC6,hL6,hO6⟩;have HD:=hid (show Added w6 b (Jn.addJ J key l)from by rw[HAD.out];exact⟨_,_,_,_,hC6,hL6,hO6⟩);have hb06:=hbx.trans hb6;clear hC6 hL6 hO6;go_wp2_with fail;go_ret;exact⟨by rw[HE.out,HA.out];rfl,hb06,fun _=>HD.out⟩
        · have h31': ¬30<(((J.cos++[Jn.newC J key l]).length:Nat):Int):=by rw[hlA];omega
          have HAD:=hid (show Jn.addJ J key l=⟨J.base,J.first,J.cos++[Jn.newC J key l]⟩from by rw[Jn.addJ,Jn.cutJ,if_neg (by show¬30<(J.cos++[Jn.newC J key l]).length;rw[hlA];exact h31)]);have HVX:=hid (HVB.out.below hbx);go_wp2_with fail;go_ret;refine⟨by rw[HE.out,HA.out];rfl,hbx,fun _=>?_⟩
          rw[HAD.out];exact⟨_,_,_,_,HCX.out,HVX.out,HLX2.out⟩
     · have hz:(Pp.allE (Jn.tree J) l (Jn.last J+1)==0)=false:=by simpa using ha
       have HA:=hid ha;go_wp2_with fail;go_ret;exact⟨by rw[HE.out];rfl,hb4,fun h=>by rw[HE.out]at h;exact absurd h HA.out⟩
/-- A page. -/
structure Pg where
 reset:Bool
 tree:List En
 cos:List Co
 cur:Int
 more:Bool
def LiesPg (w:World) (v:Value) (P:Pg):Prop:= ∃vt vc,v= .agg #[.bool P.reset,vt,vc,.int .i64 P.cur,.bool P.more]∧Lies w vt P.tree∧LiesO w vc P.cos
theorem LiesPg.below {w w':World} {v:Value} {P:Pg} (h:LiesPg w v P) (hw:Below w.heap.size w w'):LiesPg w' v P:=by
 obtain⟨vt,vc,h1,h2,h3⟩:=h
 exact⟨vt,vc,h1,h2.below hw,h3.below hw⟩
theorem liesO_shape {w:World} {v:Value} {l:List Co} (h:LiesO w v l): ∃a cap,v= .slice a l.length cap:=by
 obtain⟨a,cap,h,_⟩:=h
 exact⟨a,cap,h⟩
end Go.Proofs.YtdifomkoegmngaaGreatDoor
namespace Go.Proofs.YtdifomkoegmngaaGreatDoor
open Go.RowKit Go.Maps Go.WideMaps

set_option maxRecDepth 100000 in
set_option maxHeartbeats 1000000 in
theorem jtree_any (J:Jo) (v:Value) (w:World) (hv:LiesJ w v J) (hs:Sized J.base) (hcs:SizedO 150000000000000 J.cos):
    Calls Tryz.prog 9 #[v] w fun e w'=> ∃r,e= .returned (.tuple #[r,.int .i64 (Jn.chkE J)])∧Lies w' r (Pp.ifz (Jn.chkE J) (Jn.tree J))∧Own w.heap.size w' r∧Below w.heap.size w w':=by
 have HV:=hid hv;have HS:=hid hs;have HCS:=hid hcs;obtain⟨vb,vc,rfl,hvb,hvc⟩:=hv
 obtain⟨ba,bcap,rfl,_⟩:=hvb
 obtain⟨ca,ccap,rfl,_⟩:=hvc
 clear hs hcs;have hbw:Below w.heap.size w (w.alloc (.cells #[.slice ba J.base.length bcap,.int .i64 J.first,.slice ca J.cos.length ccap] 25)):=(Below.refl _ _).alloc (Nat.le_refl _) _;by_cases h0:Jn.chkE J=0
 · have H0:=hid h0
   have HIF:Hid ((Pp.ifz (Jn.chkE J) (Jn.tree J))=Jn.tree J):=Pp.ifz_yes h0 _;have HG:=hid (Jn.tree_good h0);clear h0;go_enter Tryz.func9,Tryz.ntmps9
   go_wp2_with fail;refine(keep_any J _ _ (HV.out.below hbw) HS.out HCS.out).mono ?_
   rintro e w1 ⟨p,rfl,hK,_,hb1⟩;obtain⟨b,mb,vb,vc,nn,rfl,hv2,hb,hmb,⟨vt,hC,hT,hM,hne⟩,hnn⟩:=hK H0.out
   rw[H0.out];have HT:=hid hT;have k3:=hC.cell 3 rfl;obtain⟨ta,tcap,rfl,_⟩:=hT
   have hb01:=below_tr hbw hb1;clear hK hv2 hC hM;go_wp2_with fail;refine(cloneE ((Jn.tree J).map Pp.cells) _ _ (liesR_en.1 HT.out) (by rw[List.length_map];have:=HG.out.len;omega)).mono ?_
   rintro e w2 ⟨u,rfl,hR,hO,hb2⟩;have HL:=hid (liesR_en.2 hR);have HO:=hid (hO.mono hb01.size);have hb02:=below_tr hb01 hb2;clear hR hO;go_wp2_with fail;go_ret2;exact⟨_,by rw[H0.out];rfl,by rw[HIF.out];exact HL.out,HO.out,hb02⟩
 · have HIF:Hid ((Pp.ifz (Jn.chkE J) (Jn.tree J))=[]):=Pp.ifz_no h0 _
   have hz:(Jn.chkE J==0)=false:=by simpa using h0
   go_enter Tryz.func9,Tryz.ntmps9
   go_wp2_with fail;refine(keep_any J _ _ (HV.out.below hbw) HS.out HCS.out).mono ?_
   rintro e w1 ⟨p,rfl,_,_,hb1⟩;have hb01:=below_tr hbw hb1;go_wp2_with fail;go_ret2;exact⟨_,rfl,by rw[HIF.out];exact lies_nil _,own_nil _ _,hb01⟩
theorem Tryz.zeroInt (w:World):(zeroValue 3).run Tryz.prog w= .ok (.int .i64 0) w:=by rw[Tryz.zeroValue3]
theorem ownJ_zero (B:Nat) (w:World):OwnJ B w (.agg #[.slice none 0 0,.int .i64 0,.slice none 0 0]) Jn.zeroJ:=
 ⟨_,_,rfl,lies_nil _,own_nil _ _,[],⟨rfl,fun i c u hc=>by simp[Jn.zeroJ]at hc⟩,⟨none,0,rfl,Nat.le_refl _,by decide,(fun r hr=>by cases hr),fun i h=>absurd h (by simp[rowsO])⟩,own_nil _ _,(fun u hu=>by cases hu)⟩
namespace Jn
theorem add_last {J:Jo} (key:ByteArray) (l:List Pp.Ch):(addJ J key l).first-1+(addJ J key l).cos.length=last J+1:=by
 rw[addJ,cutJ];by_cases h:30<(J.cos++[newC J key l]).length
 · rw[if_pos h]
   cases hc:J.cos with
   |nil=>rw[hc]at h;simp at h
   |cons c r=>simp[last,hc];omega
 · rw[if_neg h]
   simp[last];omega
theorem add_bounds {J:Jo} (h:chkE J=0) (key:ByteArray) (l:List Pp.Ch):1≤(addJ J key l).first∧(addJ J key l).first≤1000001∧(addJ J key l).cos.length≤31:=by
 obtain⟨_,h2,h3,_⟩:=chk_parts h
 obtain⟨f1,f2⟩:=ver_iff.1 h2
 rw[addJ,cutJ];by_cases hm:30<(J.cos++[newC J key l]).length
 · rw[if_pos hm]
   cases hc:J.cos with
   |nil=>rw[hc]at hm;simp at hm
   |cons c r=>rw[hc]at h3;simp at h3⊢;omega
 · rw[if_neg hm]
   simp;omega
theorem add_few {J:Jo} (h:chkE J=0) {l:List Pp.Ch} (key:ByteArray) (hn:newE J l=0): ∀c∈(addJ J key l).cos,c.ch.length≤1000000000:=by
 have hl:l.length≤20:=by
  rw[newE]at hn;split at hn
  · cases hn
  · split at hn
    · cases hn
    · exact all_few hn
 have hall: ∀c∈J.cos++[newC J key l],c.ch.length≤1000000000:=fun c hc=>by
  rcases List.mem_append.1 hc with hc|hc
  · have:=chk_few h c hc;omega
  · rw[List.mem_singleton]at hc
    rw[hc];show l.length≤_;omega
 intro c hc;rw[addJ,cutJ]at hc;by_cases hm:30<(J.cos++[newC J key l]).length
 · rw[if_pos hm]at hc
   cases hj:J.cos with
   |nil=>rw[hj]at hm;simp at hm
   |cons d r=>
    rw[hj]at hc hall;simp only[List.cons_append]at hc;exact hall c (List.mem_cons_of_mem _ hc)
 · rw[if_neg hm]at hc
   exact hall c hc
theorem add_base {J:Jo} (h:chkE J=0) (key:ByteArray) (l:List Pp.Ch):(addJ J key l).base.length≤1000:=by
 have hp:=chk_parts h;have hb:J.base.length≤1000:=by have:=((Pp.good_iff J.base).1 hp.1).len;omega
 rw[addJ,cutJ];by_cases hm:30<(J.cos++[newC J key l]).length
 · rw[if_pos hm]
   cases hj:J.cos with
   |nil=>rw[hj]at hm;simp at hm
   |cons d r=>
    simp only[List.cons_append];have hf:=run_first (n:=J.first) (T:=J.base) (c:=d) (r:=r) (by rw[←hj,hp.2.2.2.1]);have hnu:=(co_zero hf.1).1;rw[hnu]at hf;have:=(all_good hf.2).len
    omega
 · rw[if_neg hm];exact hb
end Jn

set_option maxRecDepth 100000 in
set_option maxHeartbeats 4000000 in
theorem jcommit_any (J:Jo) (v:Value) (key:ByteArray) (l:List Pp.Ch) (u:Value) (w:World) (hv:LiesJ w v J) (hu:LiesC w u l) (hs:Sized J.base) (hcs:SizedO 150000000000000 J.cos) (hls:SizedC 150000000000000 l) (hke:key.size≤maxLen):
    Calls Tryz.prog 7 #[v,.string key,u] w fun e w'=> ∃r,e= .returned (.tuple #[r,.int .i64 (Jn.comN J key l),.int .i64 (Jn.comE J key l)])∧OwnJ w.heap.size w' r (Jn.comR J key l)∧Below w.heap.size w w':=by
 have HV:=hid hv;have HU:=hid hu;have HS:=hid hs;have HCS:=hid hcs;have HLS:=hid hls;obtain⟨vb,vc,rfl,hvb,hvc⟩:=hv
 have HVB:=hid hvb;have HVC:=hid hvc;obtain⟨ba,bcap,rfl,_⟩:=hvb
 obtain⟨ca,ccap,rfl,_⟩:=hvc
 obtain⟨ua,ucap,rfl,_⟩:=hu
 clear hs hcs hls;obtain⟨wz,hwz⟩: ∃wz,wz=(w.alloc (.cells #[.slice ba J.base.length bcap,.int .i64 J.first,.slice ca J.cos.length ccap] 25)).alloc (.cells #[.slice none 0 0,.int .i64 0,.slice none 0 0] 25):=⟨_,rfl⟩
 have hbz:Below w.heap.size w wz:=by rw[hwz];exact((Below.refl _ _).alloc (Nat.le_refl _) _).alloc (by simp) _
 have HBY:=hid (show Cs wz (w.heap.size+1) [.slice none 0 0,.int .i64 0,.slice none 0 0]from by
  have:=Cs.new (w.alloc (.cells #[.slice ba J.base.length bcap,.int .i64 J.first,.slice ca J.cos.length ccap] 25)) [.slice none 0 0,.int .i64 0,.slice none 0 0] 25
  rw[hwz];simpa using this)
 have hNz:=HBY.out.lt;by_cases h0:Jn.chkE J=0
 · have H0:=hid h0
   have hpp:=Jn.chk_parts h0;obtain⟨f1,f2⟩:=Jn.ver_iff.1 hpp.2.1
   have h30:=hpp.2.2.1;have HAP:=hid hpp.2.2.2.2;have hbl:J.base.length≤1000:=by have:=((Pp.good_iff J.base).1 hpp.1).len;omega
   have HFW:=hid (show∀c∈J.cos,c.ch.length≤1000000000 from fun c hc=>Nat.le_trans (Jn.chk_few h0 c hc) (by decide));clear hpp;cases hkb:Pp.keyB key.data.toList with
   |false=>
    obtain⟨hE,hN,hR⟩:=Jn.com_key (l:=l) h0 hkb
    have HE:=hid hE;have HN:=hid hN;have HR:=hid hR;have HKE:=hid (Pp.keyE_no hkb);clear hE hN hR hkb h0;go_enter Tryz.func7,Tryz.ntmps7
    go_wp2_with fail;rw[←hwz];clear hwz;refine(keep_any J _ _ (HV.out.below hbz) HS.out HCS.out).mono ?_
    rintro e w1 ⟨p,rfl,hK,_,hb1⟩;obtain⟨b,mb,vb2,vc2,nn,rfl,hv2,hb,hmb,hKp,hnn⟩:=hK H0.out
    simp only[Value.agg.injEq,Array.mk.injEq,List.cons.injEq,true_and,and_true]at hv2;obtain⟨rfl,rfl⟩:=hv2
    rw[H0.out];have HKP:=hid hKp;obtain⟨vt,hC,hT,hM,hne⟩:=hKp
    have HC:=hid hC;have HM:=hid hM;have k4:=hC.cell 4 rfl;have hb01:=below_tr hbz hb1;have HY1:=hid (HBY.out.below hb1);have y0:=HY1.out.cell 0 rfl;have y1:=HY1.out.cell 1 rfl;have y2:=HY1.out.cell 2 rfl;have g0:=HY1.out.fr 0;have g1:=HY1.out.fr 1;have g2:=HY1.out.fr 2;clear hK hC hT hM k4;go_wp2_with fail;refine(key_any key _ hke).mono ?_
    rintro e w2 ⟨rfl,hw⟩;rw[hw,HKE.out];clear hw w2;go_wp2_with fail;refine bodyPost_ret (v:= .tuple #[.agg #[.slice none 0 0,.int .i64 0,.slice none 0 0],.int .i64 0,.int .i64 1]) (by simp[results,Tryz.results7,go_sem,y0,y1,y2]) rfl ⟨_,by rw[HN.out,HE.out],?_,?_⟩
    · rw[HR.out]
      exact ownJ_zero _ _
    · exact((hb01.setCell (p:=⟨w.heap.size+1,0,none⟩) (Nat.le_succ _) _).setCell (p:=⟨w.heap.size+1,1,none⟩) (Nat.le_succ _) _).setCell (p:=⟨w.heap.size+1,2,none⟩) (Nat.le_succ _) _
   |true=>
    have HKE:=hid (Pp.keyE_yes hkb);cases hhb:Jn.hasB J.cos key.data.toList with
    |true=>
     obtain⟨hE,hN,hR⟩:=Jn.com_has (l:=l) h0 hkb hhb
     have HE:=hid hE;have HN:=hid hN;have HR:=hid hR;have HHB:=hid hhb;clear hE hN hR hkb hhb h0;go_enter Tryz.func7,Tryz.ntmps7
     go_wp2_with fail;rw[←hwz];clear hwz;refine(keep_any J _ _ (HV.out.below hbz) HS.out HCS.out).mono ?_
     rintro e w1 ⟨p,rfl,hK,_,hb1⟩;obtain⟨b,mb,vb2,vc2,nn,rfl,hv2,hb,hmb,hKp,hnn⟩:=hK H0.out
     simp only[Value.agg.injEq,Array.mk.injEq,List.cons.injEq,true_and,and_true]at hv2;obtain⟨rfl,rfl⟩:=hv2
     rw[H0.out];have HKP:=hid hKp;obtain⟨vt,hC,hT,hM,hne⟩:=hKp
     have HC:=hid hC;have HM:=hid hM;have k4:=hC.cell 4 rfl;have hb01:=below_tr hbz hb1;have HY1:=hid (HBY.out.below hb1);obtain⟨lv,ps,hrun,hRv⟩:=HM.out.look_ok (string_keyed Tryz.underlying9) Tryz.underlying64 (Tryz.zeroInt w1) (plainElem_int Tryz.underlying3 (by decide)) (keyOf_string_mk Tryz.underlying9 hke)
     obtain⟨cv,rfl,hcv,_⟩:=plainElem_int_inv Tryz.underlying3 hRv
     rw[show Maps.has (Jn.D J.cos) (Lit.string key.data.toList)=Jn.hasB J.cos key.data.toList from Jn.D_has J.cos key,HHB.out]at hrun;have hat:=Jn.D_at HAP.out key 0 HHB.out
     have hcn:cv=Jn.numOf J.cos key.data.toList:=by
      have h1:Jn.num (Jn.numOf J.cos key.data.toList)= .lit (.int .i64 cv):=hat.symm.trans (congrArg Prod.fst hcv);simpa[Jn.num]using h1.symm
     subst hcn;clear hK hC hT hM hRv hcv hat;go_wp2_with fail;refine(key_any key _ hke).mono ?_
     rintro e w2 ⟨rfl,hw⟩;rw[hw,HKE.out];clear hw w2;go_wp2_with fail;refine(kJournal_any J b _ _ _ _ _ HC.out (HVB.out.below hb01) (HVC.out.below hb01) (by omega) hbl HFW.out).mono ?_
     rintro e w3 ⟨r,rfl,⟨xb,xc,rfl,hxb,hxo,hxc⟩,hb3⟩;have HXB:=hid hxb;have HXO:=hid hxo;have HXC:=hid hxc;obtain⟨ea,ec,rfl,_⟩:=hxb
     obtain⟨ya,yc,rfl⟩:=liesO_shape HXC.out.lies
     have HY3:=hid (HY1.out.below hb3);have hs1:=hb1.size;have hb03:=below_tr hb01 hb3;have y0:=HY3.out.cell 0 rfl;have y1:=HY3.out.cell 1 rfl;have y2:=HY3.out.cell 2 rfl;have g0:=HY3.out.fr 0;have g1:=HY3.out.fr 1;have g2:=HY3.out.fr 2;clear hxo hxc;go_wp2_with fail;refine bodyPost_ret (v:= .tuple #[.agg #[.slice ea J.base.length ec,.int .i64 J.first,.slice ya J.cos.length yc],.int .i64 (Jn.numOf J.cos key.data.toList),.int .i64 0]) (by simp[results,Tryz.results7,go_sem,y0,y1,y2]) rfl ⟨_,by rw[HN.out,HE.out],?_,?_⟩
     · rw[HR.out]
       have k0: ∀g,(Value.slice ea J.base.length ec).ownBlock=some g→g≠w.heap.size+1:=fun g hg=>by have:=(HXO.out g hg).1;omega
       refine⟨_,_,rfl,((HXB.out.nbo (nb_set _ _ _ _) k0).nbo (nb_set _ _ _ _) k0).nbo (nb_set _ _ _ _) k0,(((HXO.out.setCell _ _ _).setCell _ _ _).setCell _ _ _).mono (by omega),?_⟩
       exact(((HXC.out.nbo (nb_set _ _ _ _) (by omega)).nbo (nb_set _ _ _ _) (by omega)).nbo (nb_set _ _ _ _) (by omega)).mono (by omega)
     · exact((hb03.setCell (p:=⟨w.heap.size+1,0,none⟩) (Nat.le_succ _) _).setCell (p:=⟨w.heap.size+1,1,none⟩) (Nat.le_succ _) _).setCell (p:=⟨w.heap.size+1,2,none⟩) (Nat.le_succ _) _
    |false=>
     have HHB:=hid hhb;by_cases hnw:Jn.newE J l=0
     · obtain⟨hE,hN,hR⟩:=Jn.com_add (l:=l) h0 hkb hhb hnw
       have HE:=hid hE;have HN:=hid hN;have HR:=hid hR;have HNW:=hid hnw;have HFA:=hid (Jn.add_few h0 key hnw);have HBA:=hid (Jn.add_base h0 key l);obtain⟨a1,a2,a3⟩:=Jn.add_bounds h0 key l
       have HLA:=hid (Jn.add_last (J:=J) key l);clear hE hN hR hkb hhb h0 hnw;go_enter Tryz.func7,Tryz.ntmps7
       go_wp2_with fail;rw[←hwz];clear hwz;refine(keep_any J _ _ (HV.out.below hbz) HS.out HCS.out).mono ?_
       rintro e w1 ⟨p,rfl,hK,_,hb1⟩;obtain⟨b,mb,vb2,vc2,nn,rfl,hv2,hb,hmb,hKp,hnn⟩:=hK H0.out
       simp only[Value.agg.injEq,Array.mk.injEq,List.cons.injEq,true_and,and_true]at hv2;obtain⟨rfl,rfl⟩:=hv2
       rw[H0.out];have HKP:=hid hKp;obtain⟨vt,hC,hT,hM,hne⟩:=hKp
       have HC:=hid hC;have HM:=hid hM;have k4:=hC.cell 4 rfl;have hb01:=below_tr hbz hb1;have HY1:=hid (HBY.out.below hb1);obtain⟨lv,ps,hrun,hRv⟩:=HM.out.look_ok (string_keyed Tryz.underlying9) Tryz.underlying64 (Tryz.zeroInt w1) (plainElem_int Tryz.underlying3 (by decide)) (keyOf_string_mk Tryz.underlying9 hke)
       obtain⟨cv,rfl,hcv,_⟩:=plainElem_int_inv Tryz.underlying3 hRv
       rw[show Maps.has (Jn.D J.cos) (Lit.string key.data.toList)=Jn.hasB J.cos key.data.toList from Jn.D_has J.cos key,HHB.out]at hrun;clear hK hC hT hM hRv hcv;go_wp2_with fail;refine(key_any key _ hke).mono ?_
       rintro e w2 ⟨rfl,hw⟩;rw[hw,HKE.out];clear hw w2;go_wp2_with fail;refine(commit_any J key l _ b mb nn _ _ wz _ H0.out HKP.out (HVB.out.below hbz) (HVC.out.below hbz) (HU.out.below hbz) hb1 HLS.out hke HCS.out hnn hb hmb).mono ?_
       rintro e w2 ⟨rfl,hb2,hAd⟩;obtain⟨vb3,vc3,vt3,vm3,hC3,hL3,hO3⟩:=hAd HNW.out
       rw[HNW.out];have HC3:=hid hC3;have HL3:=hid hL3;have HO3:=hid hO3;obtain⟨va1,vacap,rfl⟩:=liesO_shape hO3
       obtain⟨vb1,vbcap,rfl,_⟩:=hL3
       have HY2:=hid (HBY.out.below hb2);have hb02:=below_tr hbz hb2;have hs2:=hb2.size;clear hAd hC3 hO3 k4;go_wp2_with fail;refine(kJournal_any (Jn.addJ J key l) b _ _ _ _ _ HC3.out HL3.out HO3.out (by omega) HBA.out HFA.out).mono ?_
       rintro e w3 ⟨r,rfl,⟨xb,xc,rfl,hxb,hxo,hxc⟩,hb3⟩;have HXB:=hid hxb;have HXO:=hid hxo;have HXC:=hid hxc;obtain⟨ea,ec,rfl,_⟩:=hxb
       obtain⟨ya,yc,rfl⟩:=liesO_shape HXC.out.lies
       have HY3:=hid (HY2.out.below hb3);have HC4:=hid (HC3.out.below hb3);have hb03:=below_tr hb02 hb3;clear hxo hxc;go_wp2_with fail;refine(kLast_any (Jn.addJ J key l).first (Jn.addJ J key l).cos.length vacap b _ _ _ va1 _ HC4.out a1 (by omega) (by omega)).mono ?_
       rintro e w4 ⟨rfl,hb4⟩;rw[HLA.out];have HXB4:=hid (HXB.out.below hb4);have HXO4:=hid (HXO.out.below hb4);have HXC4:=hid (HXC.out.below hb4);have HY4:=hid (HY3.out.below hb4);have hb04:=below_tr hb03 hb4;clear HXB HXO HXC;have HXB:=HXB4;have HXO:=HXO4;have HXC:=HXC4;clear HXB4 HXO4 HXC4;have y0:=HY4.out.cell 0 rfl;have y1:=HY4.out.cell 1 rfl;have y2:=HY4.out.cell 2 rfl;have g0:=HY4.out.fr 0;have g1:=HY4.out.fr 1;have g2:=HY4.out.fr 2;go_wp2_with fail;refine bodyPost_ret (v:= .tuple #[.agg #[.slice ea (Jn.addJ J key l).base.length ec,.int .i64 (Jn.addJ J key l).first,.slice ya (Jn.addJ J key l).cos.length yc],.int .i64 (Jn.last J+1),.int .i64 0]) (by simp[results,Tryz.results7,go_sem,y0,y1,y2]) rfl ⟨_,by rw[HN.out,HE.out],?_,?_⟩
       · rw[HR.out]
         have k0: ∀g,(Value.slice ea (Jn.addJ J key l).base.length ec).ownBlock=some g→g≠w.heap.size+1:=fun g hg=>by have:=(HXO.out g hg).1;omega
         refine⟨_,_,rfl,((HXB.out.nbo (nb_set _ _ _ _) k0).nbo (nb_set _ _ _ _) k0).nbo (nb_set _ _ _ _) k0,(((HXO.out.setCell _ _ _).setCell _ _ _).setCell _ _ _).mono (by omega),?_⟩
         exact(((HXC.out.nbo (nb_set _ _ _ _) (by omega)).nbo (nb_set _ _ _ _) (by omega)).nbo (nb_set _ _ _ _) (by omega)).mono (by omega)
       · exact((hb04.setCell (p:=⟨w.heap.size+1,0,none⟩) (Nat.le_succ _) _).setCell (p:=⟨w.heap.size+1,1,none⟩) (Nat.le_succ _) _).setCell (p:=⟨w.heap.size+1,2,none⟩) (Nat.le_succ _) _
     · have hE:=Jn.com_new (l:=l) h0 hkb hhb
       obtain⟨hN,hR⟩:=Jn.com_bad (J:=J) (key:=key) (l:=l) (by rw[hE];exact hnw)
       have HE:=hid hE;have HN:=hid hN;have HR:=hid hR;have hz:(Jn.newE J l==0)=false:=by simpa using hnw
       clear hE hN hR hkb hhb h0;go_enter Tryz.func7,Tryz.ntmps7
       go_wp2_with fail;rw[←hwz];clear hwz;refine(keep_any J _ _ (HV.out.below hbz) HS.out HCS.out).mono ?_
       rintro e w1 ⟨p,rfl,hK,_,hb1⟩;obtain⟨b,mb,vb2,vc2,nn,rfl,hv2,hb,hmb,hKp,hnn⟩:=hK H0.out
       simp only[Value.agg.injEq,Array.mk.injEq,List.cons.injEq,true_and,and_true]at hv2;obtain⟨rfl,rfl⟩:=hv2
       rw[H0.out];have HKP:=hid hKp;obtain⟨vt,hC,hT,hM,hne⟩:=hKp
       have HC:=hid hC;have HM:=hid hM;have k4:=hC.cell 4 rfl;have hb01:=below_tr hbz hb1;have HY1:=hid (HBY.out.below hb1);obtain⟨lv,ps,hrun,hRv⟩:=HM.out.look_ok (string_keyed Tryz.underlying9) Tryz.underlying64 (Tryz.zeroInt w1) (plainElem_int Tryz.underlying3 (by decide)) (keyOf_string_mk Tryz.underlying9 hke)
       obtain⟨cv,rfl,hcv,_⟩:=plainElem_int_inv Tryz.underlying3 hRv
       rw[show Maps.has (Jn.D J.cos) (Lit.string key.data.toList)=Jn.hasB J.cos key.data.toList from Jn.D_has J.cos key,HHB.out]at hrun;clear hK hC hT hM hRv hcv;go_wp2_with fail;refine(key_any key _ hke).mono ?_
       rintro e w2 ⟨rfl,hw⟩;rw[hw,HKE.out];clear hw w2;go_wp2_with fail;refine(commit_any J key l _ b mb nn _ _ wz _ H0.out HKP.out (HVB.out.below hbz) (HVC.out.below hbz) (HU.out.below hbz) hb1 HLS.out hke HCS.out hnn hb hmb).mono ?_
       rintro e w2 ⟨rfl,hb2,_⟩;have HY2:=hid (HBY.out.below hb2);have hb02:=below_tr hbz hb2;clear k4;have y0:=HY2.out.cell 0 rfl;have y1:=HY2.out.cell 1 rfl;have y2:=HY2.out.cell 2 rfl;have g0:=HY2.out.fr 0;have g1:=HY2.out.fr 1;have g2:=HY2.out.fr 2;go_wp2_with fail;refine bodyPost_ret (v:= .tuple #[.agg #[.slice none 0 0,.int .i64 0,.slice none 0 0],.int .i64 0,.int .i64 (Jn.newE J l)]) (by simp[results,Tryz.results7,go_sem,y0,y1,y2]) rfl ⟨_,by rw[HN.out,HE.out],?_,?_⟩
       · rw[HR.out]
         exact ownJ_zero _ _
       · exact((hb02.setCell (p:=⟨w.heap.size+1,0,none⟩) (Nat.le_succ _) _).setCell (p:=⟨w.heap.size+1,1,none⟩) (Nat.le_succ _) _).setCell (p:=⟨w.heap.size+1,2,none⟩) (Nat.le_succ _) _
 · obtain⟨hE,hN,hR⟩:=Jn.com_chk (key:=key) (l:=l) h0
   have HE:=hid hE;have HN:=hid hN;have HR:=hid hR;have hz:(Jn.chkE J==0)=false:=by simpa using h0
   clear hE hN hR;go_enter Tryz.func7,Tryz.ntmps7
   go_wp2_with fail;rw[←hwz];clear hwz;refine(keep_any J _ _ (HV.out.below hbz) HS.out HCS.out).mono ?_
   rintro e w1 ⟨p,rfl,_,_,hb1⟩;have HY1:=hid (HBY.out.below hb1);have y0:=HY1.out.cell 0 rfl;have y1:=HY1.out.cell 1 rfl;have y2:=HY1.out.cell 2 rfl;have g0:=HY1.out.fr 0;have g1:=HY1.out.fr 1;have g2:=HY1.out.fr 2;have hb01:=below_tr hbz hb1;go_wp2_with fail;refine bodyPost_ret (v:= .tuple #[.agg #[.slice none 0 0,.int .i64 0,.slice none 0 0],.int .i64 0,.int .i64 (Jn.chkE J)]) (by simp[results,Tryz.results7,go_sem,y0,y1,y2]) rfl ⟨_,by rw[HN.out,HE.out],?_,?_⟩
   · rw[HR.out]
     exact ownJ_zero _ _
   · exact((hb01.setCell (p:=⟨w.heap.size+1,0,none⟩) (Nat.le_succ _) _).setCell (p:=⟨w.heap.size+1,1,none⟩) (Nat.le_succ _) _).setCell (p:=⟨w.heap.size+1,2,none⟩) (Nat.le_succ _) _
end Go.Proofs.YtdifomkoegmngaaGreatDoor
