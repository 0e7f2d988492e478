/- The program's Asked: a text that is read as a request; whatever is wrong is caught. -/
import Derived.Test.YtdifomkoegmngaaGreatDoorRKU
import Derived.Defers
import Derived.Recover
import Derived.Laws.Pointers
import Derived.Test.YtdifomkoegmngaaGreatDoorRKV
import Derived.Deep.QuietTactic
import Derived.BigQuiet
import Derived.Test.YtdifomkoegmngaaGreatDoorRKA
import Derived.Test.YtdifomkoegmngaaGreatDoorRKC
set_option linter.unusedSimpArgs false
set_option linter.unusedVariables false
namespace Go.Proofs.YtdifomkoegmngaaGreatDoor
open Go.RowKit

namespace Wr
/-- All of it was read. -/
def whole {α:Type}:Option (α×List UInt8)→Option α
 |some (x,[])=>some x
 |_=>none
end Wr
/-- What a reading of a whole text answers. -/
def WhPost {α:Type} (res:Option α) (z:Value) (V:α→Value→World→Prop) (e:Ending) (w':World):Prop:=match res with
 |none=>e= .returned (.tuple #[z,.int .i64 1])
 |some x=> ∃v,e= .returned (.tuple #[v,.int .i64 0])∧V x v w'
theorem RqV.set {B:Nat} {q:Rq} {v:Value} {W:World} (h:RqV B q v W) {g:Nat} (hg:g<B) (i:Nat) (u:Value):RqV B q v (W.setCell ⟨g,i,none⟩ u):=by
 obtain⟨vc,h1,h2⟩:=h
 exact⟨vc,h1,h2.setC hg i u⟩
theorem RqV.low {B B':Nat} {q:Rq} {v:Value} {W:World} (h:RqV B q v W) (hB:B'≤B):RqV B' q v W:=by
 obtain⟨vc,h1,h2⟩:=h
 exact⟨vc,h1,h2.low hB⟩
theorem RowV.belowC {B:Nat} {T:TypeId} {n:Nat} {xs:List Pp.Ch} {v:Value} {W W':World} (h:RowV B T n VCh xs v W) (hw:Below W.heap.size W W'):RowV B T n VCh xs v W':=by
 obtain⟨Z,h1,h2,h3⟩:=h
 refine⟨Z,h1,h2.kept (row:=none) ⟨hw.os,hw.tape,hw.output,hw.size,fun k hk _=>hw.block k hk⟩ (by cases hv:v.ownBlock with
  |none=>exact Or.inl rfl
  |some q=>exact Or.inr (by simp)),h3⟩
theorem RqV.below {B:Nat} {q:Rq} {v:Value} {W W':World} (h:RqV B q v W) (hw:Below W.heap.size W W'):RqV B q v W':=by
 obtain⟨vc,h1,h2⟩:=h
 exact⟨vc,h1,h2.belowC hw⟩
theorem nb_low {W W':World} {b B:Nat} (h:W.grownBy W' (some b)) (hb:B≤b) (hB:B≤W.heap.size):Below B W W':=⟨h.os,h.tape,h.output,h.size,fun k hk=>h.block k (by omega) (fun e=>by injection e;omega)⟩
theorem Tryz.errnoYes (t:TypeId) (W:World):(Instr.typeAssert (.iface 28 (.int .i64 1)) t 28 true).run Tryz.prog W= .ok (.tuple #[.int .i64 1,.bool true]) W:=by kernel_rfl
theorem Tryz.errnoNo (t:TypeId) (W:World):(Instr.typeAssert .nilIface t 28 true).run Tryz.prog W= .ok (.tuple #[.int .i64 0,.bool false]) W:=by kernel_rfl
set_option maxRecDepth 4000 in
theorem catch_gave (p:Addr) (w:World) (hc:w.cell? p=some (.int .i64 0)) (hz:w.frozen? p=false):
    CallsD Tryz.prog 60 #[.pointer (some p)] (.panicking [{v:= .iface 28 (.int .i64 1),recovered:=false}]) w fun e u' w'=>
     e= .returned (.tuple #[])∧u'= .panicking [{v:= .iface 28 (.int .i64 1),recovered:=true}]∧w'=w.setCell p (.int .i64 1):=by
 refine callsD_of_wpS Tryz.func60 rfl fun c₀ cs hu=>?_
 have h1:=Tryz.errnoYes;apply wpS_seq
 apply wpS_region
 simp[wpOpsS,go_sem,recoverD,hu,h1,Tryz.ntmps60,Exit.thenS,Array.replicate]
 apply wpS_seq
 apply wpS_region
 simp[wpOpsS,go_sem,Exit.thenS]
 refine wpS_cond (t:=true) (by simp[Act.eval,Array.replicate]) ?_
 simp only[if_true];apply wpS_region
 simp[wpOpsS,go_sem,hc,hz,bodyPostS,results,Tryz.results60]
set_option maxRecDepth 4000 in
theorem catch_none (p:Addr) (w:World):
    CallsD Tryz.prog 60 #[.pointer (some p)] .returning w fun e u' w'=>e= .returned (.tuple #[])∧u'= .returning∧w'=w:=by
 refine callsD_of_wpS Tryz.func60 rfl fun c₀ cs hu=>?_
 have h1:=Tryz.errnoNo;apply wpS_seq
 apply wpS_region
 simp[wpOpsS,go_sem,recoverD,hu,h1,Tryz.ntmps60,Exit.thenS,Array.replicate]
 apply wpS_seq
 apply wpS_region
 simp[wpOpsS,go_sem,Exit.thenS]
 refine wpS_cond (t:=false) (by simp[Act.eval,Array.replicate]) ?_
 simp only[Bool.false_eq_true,if_false];refine wpS_of_wp (wp_skip ?_)
 cases c₀
 simp_all [bodyPostS,results,Tryz.results60]
theorem readq_gave (tm:Array Value) (c e:Nat) (R:Ending→World→Prop) (W:World) (h4:tm.getD 4 undef= .pointer (some ⟨c,0,none⟩)) (h5:tm.getD 5 undef= .pointer (some ⟨e,0,none⟩)) (hne:c≠e) (hcR:Cs W c zrq) (hE:Cs W e [.int .i64 0]) (hR:R (.returned (.tuple #[.agg zrq.toArray,.int .i64 1])) (W.setCell ⟨e,0,none⟩ (.int .i64 1))):
    Leaves Tryz.prog Tryz.f32 tm R [{target:=Target.fn (Fn.func 60) #[.pointer (some ⟨e,0,none⟩)],args:= #[]}] (.panicking [{v:= .iface 28 (.int .i64 1),recovered:=false}]) W:=by
 refine leaves_cons (f:=60) (args:= #[.pointer (some ⟨e,0,none⟩)]) (by simp) (by simp[go_sem]) ?_
 refine(catch_gave ⟨e,0,none⟩ _ (hE.cell 0 rfl) (hE.fr 0)).mono ?_
 rintro e1 u' w'' ⟨rfl,rfl,rfl⟩;have hcR2:=hcR.other (o:=0) hne (.int .i64 1);have hE2:=(hE.set 0 (.int .i64 1)).cell 0 rfl;have y0:=hcR2.cell 0 rfl;have y1:=hcR2.cell 1 rfl;have y2:=hcR2.cell 2 rfl;have y3:=hcR2.cell 3 rfl;have y4:=hcR2.cell 4 rfl;have y5:=hcR2.cell 5 rfl;have y6:=hcR2.cell 6 rfl;have y7:=hcR2.cell 7 rfl;have y8:=hcR2.cell 8 rfl;have y9:=hcR2.cell 9 rfl;refine⟨_,?_,hR⟩
 have h4':tm[4]?.getD undef= .pointer (some ⟨c,0,none⟩):=by rw[←h4];simp
 have h5':tm[5]?.getD undef= .pointer (some ⟨e,0,none⟩):=by rw[←h5];simp
 simp[results,Tryz.results32,go_sem,h4',h5',hE2,y0,y1,y2,y3,y4,y5,y6,y7,y8,y9]
theorem readq_well (tm:Array Value) (e:Nat) (R:Ending→World→Prop) (W:World) (hR: ∃v,(results Tryz.f32 tm).run Tryz.prog W= .ok v W∧R (.returned v) W):
    Leaves Tryz.prog Tryz.f32 tm R [{target:=Target.fn (Fn.func 60) #[.pointer (some ⟨e,0,none⟩)],args:= #[]}] .returning W:=by
 refine leaves_cons (f:=60) (args:= #[.pointer (some ⟨e,0,none⟩)]) (by simp) (by simp[go_sem]) ?_
 refine(catch_none ⟨e,0,none⟩ _).mono ?_
 rintro e1 u' w'' ⟨rfl,rfl,rfl⟩;exact hR
theorem rrq_enters: ∀args w,(callFunc 33 args).run Tryz.prog w= .ok (.enter 33 args) w:=enters_of Tryz.func33 (by kernel_rfl) rfl
set_option maxHeartbeats 2000000 in
theorem readq_any (s:ByteArray) (w:World) (hs:s.size≤MaxL) (h6:5<w.heap.size) (hv:VarsW w):
    Calls Tryz.prog 32 #[.string s,.func (.func 33) #[] #[]] w fun e w'=>WhPost (Wr.whole (Wr.rqP Wr.gN 1000 s.data.toList)) (.agg zrq.toArray) (RqV w.heap.size) e w'∧Below w.heap.size w w':=by
 have hmf: ∀(fn:Fn) (first cap:Array Value) (w:World),(Instr.makeFunc fn first cap).run Tryz.prog w= .ok (.func fn first cap) w:=fun _ _ _ _=>rfl
 have eg:=rrq_enters;obtain⟨l,rfl⟩: ∃l:List UInt8,s=⟨l.toArray⟩:=⟨s.data.toList,by simp⟩
 have hsl:l.length≤MaxL:=by rw[Lib.size_eq]at hs;simpa using hs
 rw[show(⟨l.toArray⟩:ByteArray).data.toList=l from by simp];obtain⟨w0,hw0⟩: ∃w0,w0=w.alloc (.cells zrq.toArray 39):=⟨_,rfl⟩
 obtain⟨w5,hw5⟩: ∃w5,w5=w0.alloc (.cells #[.int .i64 0] 28):=⟨_,rfl⟩
 obtain⟨wa,hwa⟩: ∃wa,wa=w5.alloc (.cells #[.string ⟨l.toArray⟩] 108):=⟨_,rfl⟩
 have s0:w0.heap.size=w.heap.size+1:=by rw[hw0];simp
 have s5:w5.heap.size=w.heap.size+1+1:=by rw[hw5];simp[s0]
 have sa:wa.heap.size=w.heap.size+1+1+1:=by rw[hwa];simp[s5]
 have b0:Below w.heap.size w w0:=by rw[hw0];exact below_alloc _ _
 have b5:Below w0.heap.size w0 w5:=by rw[hw5];exact below_alloc _ _
 have ba:Below w5.heap.size w5 wa:=by rw[hwa];exact below_alloc _ _
 have hba:Below w.heap.size w wa:=(b0.trans (b5.mono (by omega))).trans (ba.mono (by omega))
 have cR0:Cs wa w.heap.size zrq:=by
  have h1:Cs w0 w.heap.size zrq:=by rw[hw0];exact Cs.new w zrq _
  exact(h1.below b5).below ba
 have cE0:Cs wa (w.heap.size+1) [.int .i64 0]:=by
  have h1:Cs w5 w0.heap.size [.int .i64 0]:=by rw[hw5];exact Cs.new w0 [.int .i64 0] _
  rw[s0]at h1;exact h1.below ba
 have rda:Rd (w.heap.size+1+1) l wa:=by rw[←s5,hwa];exact heap_alloc_new w5 _
 have HK:=hid (rrq_any (w.heap.size+1+1) l wa rda hsl (by omega) (hv.belowB (by omega) hba));rw[hwa,hw5,hw0]at HK;have HWA:=hid (show wa=((w.alloc (.cells zrq.toArray 39)).alloc (.cells #[.int .i64 0] 28)).alloc (.cells #[.string ⟨l.toArray⟩] 108)from by rw[hwa,hw5,hw0]);have HC:=hid (And.intro cR0 (And.intro cE0 hba));have HSA:=hid sa;clear hs hwa hw5 hw0 b0 b5 ba s0 s5 cR0 cE0 hba rda sa;go_enter_defers Tryz.func32,Tryz.ntmps32
 go_wp2_with fail;refine HK.out.mono ?_
 rintro e w1 ⟨hp,hn1⟩;rw[←HWA.out]at hp hn1;obtain⟨cR0,cE0,hba⟩:=HC.out
 have hcR:=cR0.nb hn1 (by omega);have hcE:=cE0.nb hn1 (by omega);have hb1:Below w.heap.size w w1:=hba.trans (nb_low hn1 (by omega) hba.size);have hs1:=hn1.size;rw[HSA.out]at hs1;cases hq:Wr.rqP Wr.gN 1000 l with
 |none=>
  rw[hq]at hp;cases hp
  exact readq_gave _ _ _ _ _ rfl rfl (by omega) hcR hcE ⟨by rw[hq];rfl,hb1.setCell (p:=⟨w.heap.size+1,0,none⟩) (by simp) _⟩
 |some z=>
 obtain⟨q,r⟩:=z
 rw[hq]at hp;obtain⟨v1,rfl,hV,hr1⟩:=hp
 have hbr:=hr1.cell;have HV:=hid hV;have HRD:=hid hr1;have HCS:=hid (And.intro hcR (And.intro hcE hb1));obtain⟨vc,rfl,hrow⟩:=HV.out
 obtain⟨av,lv,cv,rfl⟩:=hrow.shape
 clear hrow;have q2:w.heap.size+1+1<w1.heap.size:=by omega
 have q1:w.heap.size+1<w1.heap.size:=by omega
 have q0:w.heap.size<w1.heap.size:=by omega
 have m2: ¬w.heap.size+1+1=w1.heap.size:=by omega
 have m1: ¬w.heap.size+1=w1.heap.size:=by omega
 have m0: ¬w.heap.size=w1.heap.size:=by omega
 have HS1:=hid hs1;clear hV hr1 cR0 cE0 hba HK hn1 hs1;cases r with
 |cons x r=>
  have hne:((⟨(x::r).toArray⟩:ByteArray).toList==(⟨#[]⟩:ByteArray).toList)=false:=by
   rw[beq_eq_false_iff_ne];intro h;rw[Lib.toList_data,Lib.toList_data]at h;simp at h
  have hnn:((⟨(x::r).toArray⟩:ByteArray).toList !=(⟨#[]⟩:ByteArray).toList)=true:=by rw[bne,hne];rfl
  clear hcR hcE hb1;go_wp2_with fail;refine(gu_any _).mono ?_
  rintro e w3 ⟨rfl,rfl⟩;obtain⟨hcR,hcE,hb1⟩:=HCS.out
  have hal:=below_alloc w1 (.cells #[.int .i64 q.kind,.string q.who,.string q.fo,.string q.name,.string q.key,.string q.text,.int .i64 q.num,.int .i64 q.off,.int .i64 q.base,.slice av lv cv] 39);exact readq_gave _ _ _ _ _ rfl rfl (by omega) (hcR.below hal) (hcE.below hal) ⟨by rw[hq];rfl,(hb1.trans (hal.mono (Nat.le_of_lt q0))).setCell (p:=⟨w.heap.size+1,0,none⟩) (by simp) _⟩
 |nil=>
  have hne:((⟨[].toArray⟩:ByteArray).toList==(⟨#[]⟩:ByteArray).toList)=true:=by
   rw[Lib.toList_data];rfl
  have hnn:((⟨[].toArray⟩:ByteArray).toList !=(⟨#[]⟩:ByteArray).toList)=false:=by rw[bne,hne];rfl
  have y0:=hcR.cell 0 rfl;have x0:=hcR.fr 0;have y1:=hcR.cell 1 rfl;have x1:=hcR.fr 1;have y2:=hcR.cell 2 rfl;have x2:=hcR.fr 2;have y3:=hcR.cell 3 rfl;have x3:=hcR.fr 3;have y4:=hcR.cell 4 rfl;have x4:=hcR.fr 4;have y5:=hcR.cell 5 rfl;have x5:=hcR.fr 5;have y6:=hcR.cell 6 rfl;have x6:=hcR.fr 6;have y7:=hcR.cell 7 rfl;have x7:=hcR.fr 7;have y8:=hcR.cell 8 rfl;have x8:=hcR.fr 8;have y9:=hcR.cell 9 rfl;have x9:=hcR.fr 9;have e0:=hcE.cell 0 rfl;have g0:=hcE.fr 0;clear hcR hcE hb1;go_wp2_with fail;obtain⟨_,_,hb1⟩:=HCS.out
  have k1: ¬w.heap.size+1=w.heap.size:=by omega
  have k2: ¬w.heap.size=w.heap.size+1:=by omega
  have hB0:w.heap.size<wa.heap.size:=by rw[HSA.out];omega
  have hB1:w.heap.size+1<wa.heap.size:=by rw[HSA.out];omega
  have e1:w.heap.size≤w.heap.size+1:=Nat.le_succ _;have e9:=Nat.le_refl w.heap.size;refine readq_well _ _ _ _ ⟨.tuple #[.agg #[.int .i64 q.kind,.string q.who,.string q.fo,.string q.name,.string q.key,.string q.text,.int .i64 q.num,.int .i64 q.off,.int .i64 q.base,.slice av lv cv],.int .i64 0],?_,?_,?_⟩
  · simp[results,Tryz.results32,go_sem,k1,k2,m0,m1,q0,q1,y0,y1,y2,y3,y4,y5,y6,y7,y8,y9,e0]
  · rw[hq]
    exact⟨_,rfl,(HV.out|>.set hB0 0 _|>.set hB0 1 _|>.set hB0 2 _|>.set hB0 3 _|>.set hB0 4 _|>.set hB0 5 _|>.set hB0 6 _|>.set hB0 7 _|>.set hB0 8 _|>.set hB0 9 _|>.set hB1 0 (.int .i64 0)).low (by rw[HSA.out];omega)|>.below (below_alloc _ _)⟩
  · exact(((hb1|>.setCell (p:=⟨w.heap.size,0,none⟩) e9 _|>.setCell (p:=⟨w.heap.size,1,none⟩) e9 _|>.setCell (p:=⟨w.heap.size,2,none⟩) e9 _|>.setCell (p:=⟨w.heap.size,3,none⟩) e9 _|>.setCell (p:=⟨w.heap.size,4,none⟩) e9 _|>.setCell (p:=⟨w.heap.size,5,none⟩) e9 _|>.setCell (p:=⟨w.heap.size,6,none⟩) e9 _|>.setCell (p:=⟨w.heap.size,7,none⟩) e9 _|>.setCell (p:=⟨w.heap.size,8,none⟩) e9 _|>.setCell (p:=⟨w.heap.size,9,none⟩) e9 _).setCell (p:=⟨w.heap.size+1,0,none⟩) e1 _).alloc (by simp;omega) _)
set_option maxHeartbeats 2000000 in
theorem asked_any (s:ByteArray) (w:World) (hs:s.size≤MaxL) (h6:5<w.heap.size) (hv:VarsW w):
    Calls Tryz.prog 10 #[.string s] w fun e w'=>WhPost (Wr.whole (Wr.rqP Wr.gN 1000 s.data.toList)) (.agg zrq.toArray) (RqV w.heap.size) e w'∧Below w.heap.size w w':=by
 obtain⟨w0,hw0⟩: ∃w0,w0=w.alloc (.cells zrq.toArray 39):=⟨_,rfl⟩
 have s0:w0.heap.size=w.heap.size+1:=by rw[hw0];simp
 have b0:Below w.heap.size w w0:=by rw[hw0];exact below_alloc _ _
 have c0:Cs w0 w.heap.size zrq:=by rw[hw0];exact Cs.new w zrq _
 have HK:=hid (readq_any s w0 hs (by omega) (hv.belowB h6 b0));rw[hw0]at HK;have HW0:=hid hw0;have HB:=hid (And.intro b0 c0);clear hw0 hv b0 c0;generalize hR:Wr.whole (Wr.rqP Wr.gN 1000 s.data.toList)=res at*;go_enter Tryz.func10,Tryz.ntmps10
 go_wp2_with fail;refine HK.out.mono ?_
 rintro e w1 ⟨hp,hb1⟩;rw[←HW0.out]at hp hb1;obtain⟨b0,c0⟩:=HB.out
 have hcR:=c0.below hb1;have hB1:Below w.heap.size w w1:=b0.trans (hb1.mono (by omega));have hs1:=hb1.size;have y0:=hcR.cell 0 rfl;have x0:=hcR.fr 0;have y1:=hcR.cell 1 rfl;have x1:=hcR.fr 1;have y2:=hcR.cell 2 rfl;have x2:=hcR.fr 2;have y3:=hcR.cell 3 rfl;have x3:=hcR.fr 3;have y4:=hcR.cell 4 rfl;have x4:=hcR.fr 4;have y5:=hcR.cell 5 rfl;have x5:=hcR.fr 5;have y6:=hcR.cell 6 rfl;have x6:=hcR.fr 6;have y7:=hcR.cell 7 rfl;have x7:=hcR.fr 7;have y8:=hcR.cell 8 rfl;have x8:=hcR.fr 8;have y9:=hcR.cell 9 rfl;have x9:=hcR.fr 9;have e9:=Nat.le_refl w.heap.size;have HB1:=hid hB1;clear hB1 hb1 c0 b0 HK;cases res with
 |none=>
  cases hp
  go_wp2_with fail;refine bodyPost_ret (v:= .tuple #[.agg zrq.toArray,.int .i64 1]) (by simp[results,Tryz.results10,go_sem,y0,y1,y2,y3,y4,y5,y6,y7,y8,y9]) rfl ⟨rfl,?_⟩
  exact(HB1.out|>.setCell (p:=⟨w.heap.size,0,none⟩) e9 _|>.setCell (p:=⟨w.heap.size,1,none⟩) e9 _|>.setCell (p:=⟨w.heap.size,2,none⟩) e9 _|>.setCell (p:=⟨w.heap.size,3,none⟩) e9 _|>.setCell (p:=⟨w.heap.size,4,none⟩) e9 _|>.setCell (p:=⟨w.heap.size,5,none⟩) e9 _|>.setCell (p:=⟨w.heap.size,6,none⟩) e9 _|>.setCell (p:=⟨w.heap.size,7,none⟩) e9 _|>.setCell (p:=⟨w.heap.size,8,none⟩) e9 _|>.setCell (p:=⟨w.heap.size,9,none⟩) e9 _)
 |some q=>
  obtain⟨v1,rfl,hV⟩:=hp
  have HV:=hid hV;obtain⟨vc,rfl,hrow⟩:=HV.out
  obtain⟨av,lv,cv,rfl⟩:=hrow.shape
  clear hrow;clear hV;go_wp2_with fail;refine bodyPost_ret (v:= .tuple #[.agg #[.int .i64 q.kind,.string q.who,.string q.fo,.string q.name,.string q.key,.string q.text,.int .i64 q.num,.int .i64 q.off,.int .i64 q.base,.slice av lv cv],.int .i64 0]) (by simp[results,Tryz.results10,go_sem,y0,y1,y2,y3,y4,y5,y6,y7,y8,y9]) rfl ⟨⟨_,rfl,?_⟩,?_⟩
  · exact(HV.out|>.set (by rw[s0];omega) 0 _|>.set (by rw[s0];omega) 1 _|>.set (by rw[s0];omega) 2 _|>.set (by rw[s0];omega) 3 _|>.set (by rw[s0];omega) 4 _|>.set (by rw[s0];omega) 5 _|>.set (by rw[s0];omega) 6 _|>.set (by rw[s0];omega) 7 _|>.set (by rw[s0];omega) 8 _|>.set (by rw[s0];omega) 9 _).low (by rw[s0];omega)
  · exact(HB1.out|>.setCell (p:=⟨w.heap.size,0,none⟩) e9 _|>.setCell (p:=⟨w.heap.size,1,none⟩) e9 _|>.setCell (p:=⟨w.heap.size,2,none⟩) e9 _|>.setCell (p:=⟨w.heap.size,3,none⟩) e9 _|>.setCell (p:=⟨w.heap.size,4,none⟩) e9 _|>.setCell (p:=⟨w.heap.size,5,none⟩) e9 _|>.setCell (p:=⟨w.heap.size,6,none⟩) e9 _|>.setCell (p:=⟨w.heap.size,7,none⟩) e9 _|>.setCell (p:=⟨w.heap.size,8,none⟩) e9 _|>.setCell (p:=⟨w.heap.size,9,none⟩) e9 _)
end Go.Proofs.YtdifomkoegmngaaGreatDoor
namespace Go.Proofs.YtdifomkoegmngaaGreatDoor
open Go.RowKit

namespace Wr
theorem fmR_next {α:Type} (f:α→List It) (s:Ws) (xs:List α) (k:Nat) (h:k<xs.length):runR s ((xs.take (k+1)).flatMap f)=runR (runR s ((xs.take k).flatMap f)) (f xs[k]):=by
 rw[List.take_succ_eq_append_getElem h,List.flatMap_append,runR_app];simp
theorem fmR_len {α:Type} (f:α→List It) (m:Nat) (s:Ws) (xs:List α) (k:Nat) (h: ∀x∈xs,(f x).length≤m∧ ∀y∈f x,y.wf):(runR s ((xs.take k).flatMap f)).l.length≤s.l.length+1021*(m*xs.length):=by
 have h1:=runR_len ((xs.take k).flatMap f) s (fun y hy=>by
  obtain⟨x,hx,hy⟩:=List.mem_flatMap.1 hy
  exact(h x (List.mem_of_mem_take hx)).2 y hy)
 have h2:=fm_count f m (xs.take k) (fun x hx=>(h x (List.mem_of_mem_take hx)).1);have h3:(xs.take k).length≤xs.length:=by rw[List.length_take];omega
 have h4:m*(xs.take k).length≤m*xs.length:=Nat.mul_le_mul_left m h3;omega
end Wr
set_option maxHeartbeats 2000000 in
theorem rwchs_any (W0:World) (cs:List Pp.Ch) (v:Value) (b:Nat) (s:Ws) (w:World) (hL:LiesC W0 v cs) (hW:Below W0.heap.size W0 w) (hB:W0.heap.size≤b) (h:RW b s w) (hlen:s.l.length+200000≤1000000000) (hc: ∀c∈cs,WfC c):
    Calls Tryz.prog 73 #[.pointer (some ⟨b,0,none⟩),v] w fun e w'=>e= .returned (.tuple #[])∧RW b (Wr.runR s (Wr.lst 20 Wr.chI cs)) w'∧w.grownBy w' (some b):=by
 obtain⟨a,cap,rfl,hcap,hcap2,hLL⟩:=hL
 have hBw:=hW.size;by_cases hn:(cs.length:Int)≤20
 · have HN:=hid (rwnum_any b s cs.length w h ⟨by omega,by omega⟩ (by omega))
   have l1:=Wr.numR_len (s:=s) (n:=cs.length) ⟨by omega,by omega⟩
   have HL:=hid (show∀k,(Wr.runR (Wr.numR s cs.length) ((cs.take k).flatMap Wr.chI)).l.length+6000≤1000000000 from fun k=>by
    have:=Wr.fmR_len Wr.chI 5 (Wr.numR s cs.length) cs k (fun x hx=>(hc x hx).it)
    omega)
   have HE:=hid (show Wr.runR (Wr.numR s cs.length) ((cs.take cs.length).flatMap Wr.chI)=Wr.runR s (Wr.lst 20 Wr.chI cs)from by rw[List.take_length,Wr.lst,if_pos (by omega)];rfl);have HC:=hid hc;have HM:=hid hLL;have HW:=hid hW;have hn2: ¬(20:Int)<cs.length:=by omega
   clear h hc hLL hW hn;go_enter Tryz.func73,Tryz.ntmps73
   go_wp2_with fail;refine HN.out.mono ?_
   rintro e w1 ⟨rfl,h1,hb1⟩;have H1:=hid (show RW b (Wr.runR (Wr.numR s cs.length) ((cs.take 0).flatMap Wr.chI)) w1 from h1);clear h1 HN;go_wp2_with fail;go_loopw [4] (fun i wr=> ∃k:Nat,k≤cs.length∧i= .int .i64 k∧Hid (RW b (Wr.runR (Wr.numR s cs.length) ((cs.take k).flatMap Wr.chI)) wr)∧w.grownBy wr (some b)) (fun i _=>cs.length-(intOf i).toNat)
   case atStart=>exact⟨0,Nat.zero_le _,rfl,H1,hb1⟩
   case round=>
    obtain⟨k,hk,rfl,HV,hf⟩:=hrel
    by_cases hlt:k<cs.length
    · obtain⟨bb,o,rfl,hbb,he⟩:=HM.out k hlt
      have hwf:=HC.out _ (List.getElem_mem hlt);have hl0:=HL.out k;have HX:=hid (Wr.fmR_next Wr.chI (Wr.numR s cs.length) cs k hlt);have HBl:=hid (show∀W,w.grownBy W (some b)→ChAt W bb (o+k*5) cs[k]from fun W hg=>he.below hbb (HW.out.trans (nb_low hg hB hBw)));generalize Wr.runR (Wr.numR s cs.length) ((cs.take k).flatMap Wr.chI)=t at*;generalize cs[k]=c at*;have t1:=Wr.numR_len (s:=t) (n:=c.k) hwf.k;have t2:=Wr.putR_len (s:=Wr.numR t c.k) (x:= .t c.p) trivial;have t3:=Wr.putR_len (s:=Wr.txtR (Wr.numR t c.k) c.p) (x:= .t c.q) trivial;have t4:=Wr.putR_len (s:=Wr.txtR (Wr.txtR (Wr.numR t c.k) c.p) c.q) (x:= .t c.t) trivial;simp only[Wr.putR]at t2 t3 t4;clear he;obtain⟨c0,c1,c2,c3,c4⟩:=HBl.out wr hf
      go_wp2_with fail;refine(rwnum_any b t c.k wr HV.out hwf.k (by omega)).mono ?_
      rintro e w2 ⟨rfl,h2,hb2⟩;have hf2:=nb_tr hf hb2;have H2:=hid h2;clear h2 hb2 c0 c1 c2 c3 c4;obtain⟨c0,c1,c2,c3,c4⟩:=HBl.out w2 hf2
      go_wp2_with fail;refine(rwtxt_any b _ c.p w2 H2.out (by omega) hwf.p).mono ?_
      rintro e w3 ⟨rfl,h3,hb3⟩;have hf3:=nb_tr hf2 hb3;have H3:=hid h3;clear h3 hb3 c0 c1 c2 c3 c4;obtain⟨c0,c1,c2,c3,c4⟩:=HBl.out w3 hf3
      go_wp2_with fail;refine(rwtxt_any b _ c.q w3 H3.out (by omega) hwf.q).mono ?_
      rintro e w4 ⟨rfl,h4,hb4⟩;have hf4:=nb_tr hf3 hb4;have H4:=hid h4;clear h4 hb4 c0 c1 c2 c3 c4;obtain⟨c0,c1,c2,c3,c4⟩:=HBl.out w4 hf4
      go_wp2_with fail;refine(rwtxt_any b _ c.t w4 H4.out (by omega) hwf.t).mono ?_
      rintro e w5 ⟨rfl,h5,hb5⟩;have hf5:=nb_tr hf4 hb5;have H5:=hid h5;clear h5 hb5 c0 c1 c2 c3 c4;obtain⟨c0,c1,c2,c3,c4⟩:=HBl.out w5 hf5
      go_wp2_with fail;refine(rwnum_any b _ c.b w5 H5.out hwf.b (by omega)).mono ?_
      rintro e w6 ⟨rfl,h6,hb6⟩;have hf6:=nb_tr hf5 hb6;have H6:=hid h6;clear h6 hb6 c0 c1 c2 c3 c4;go_wp2_with fail;go_roundw
      case rel=>exact⟨k+1,by omega,by simp,hid (by rw[HX.out];exact H6.out),hf6⟩
      case measure=>simp[intOf];omega
    · obtain rfl:k=cs.length:=by omega
      go_wp2_with fail;go_end0
      exact⟨rfl,by rw[←HE.out];exact HV.out,hf⟩
 · have c1:=h.cs.cell 1 rfl
   have f1:=h.cs.fr 1;have HB:=hid h;have hn2:(20:Int)<cs.length:=by omega
   have HE:=hid (show Wr.runR s (Wr.lst 20 Wr.chI cs)=Wr.much s from by rw[Wr.lst,if_neg (by omega)];rfl);go_enter Tryz.func73,Tryz.ntmps73
   go_wp2_with fail;refine bodyPost_ret (results_none rfl _ _ _) rfl ⟨rfl,?_,nb_set _ b 1 _⟩
   rw[HE.out];exact HB.out.great
theorem rwdone_any (b:Nat) (s:Ws) (w:World) (h:RW b s w):
    Calls Tryz.prog 74 #[.pointer (some ⟨b,0,none⟩)] w fun e w'=>e= .returned (.tuple #[.string (Wr.fin s).1,.int .i64 (Wr.fin s).2])∧w'=w:=by
 have c0:=h.cs.cell 0 rfl;have c1:=h.cs.cell 1 rfl;have c2:=h.cs.cell 2 rfl;clear h;obtain⟨l,m,f⟩:=s
 cases m with
 |true=>
  rw[Ws.fin_many rfl];go_enter Tryz.func74,Tryz.ntmps74
  go_wp2_with fail;go_ret2;exact⟨rfl,rfl⟩
 |false=>
  cases f with
  |true=>
   rw[Ws.fin_far rfl rfl];go_enter Tryz.func74,Tryz.ntmps74
   go_wp2_with fail;go_ret2;exact⟨rfl,rfl⟩
  |false=>
   rw[Ws.fin_ok rfl rfl];go_enter Tryz.func74,Tryz.ntmps74
   go_wp2_with fail;go_ret2;exact⟨rfl,rfl⟩
set_option maxHeartbeats 2000000 in
theorem askOf_any (q:Rq) (v:Value) (w:World) (hq:LiesQ w v q) (hz:WfQ q):
    Calls Tryz.prog 40 #[v] w fun e w'=>e= .returned (.tuple #[.string (Wr.fin (Wr.run Wr.e0 (Wr.rqI q))).1,.int .i64 (Wr.fin (Wr.run Wr.e0 (Wr.rqI q))).2])∧Below w.heap.size w w':=by
 rw[Wr.fin_alike (Wr.alike_run (Wr.rqI q) (⟨rfl,rfl,fun _=>rfl⟩:Wr.Alike Wr.e0 Wr.e0))];obtain⟨va,rfl,hL⟩:=hq
 obtain⟨kind,who,fo,name,key,text,num,off,base,ch⟩:=q
 obtain⟨zk,zn,zo,zb,z1,z2,z3,z4,z5,zc⟩:=hz
 simp only at hL zk zn zo zb z1 z2 z3 z4 z5 zc⊢;obtain⟨av,cv,rfl,hcv⟩: ∃av cv,va= .slice av ch.length cv∧True:=by obtain⟨a,c,h,_⟩:=hL;exact⟨a,c,h,trivial⟩
 obtain⟨wa,hwa⟩: ∃wa,wa=w.alloc (.cells #[.int .i64 kind,.string who,.string fo,.string name,.string key,.string text,.int .i64 num,.int .i64 off,.int .i64 base,.slice av ch.length cv] 39):=⟨_,rfl⟩
 obtain⟨wb,hwb⟩: ∃wb,wb=wa.alloc (.cells #[.string ⟨#[]⟩,.bool false,.bool false] 121):=⟨_,rfl⟩
 have sa:wa.heap.size=w.heap.size+1:=by rw[hwa];simp
 have hba:Below w.heap.size w wa:=by rw[hwa];exact below_alloc _ _
 have hbb:Below wa.heap.size wa wb:=by rw[hwb];exact below_alloc _ _
 have hab:Below w.heap.size w wb:=hba.trans (hbb.mono (by omega));have hm0:Cs wb w.heap.size [.int .i64 kind,.string who,.string fo,.string name,.string key,.string text,.int .i64 num,.int .i64 off,.int .i64 base,.slice av ch.length cv]:=Cs.below (show Cs wa w.heap.size [.int .i64 kind,.string who,.string fo,.string name,.string key,.string text,.int .i64 num,.int .i64 off,.int .i64 base,.slice av ch.length cv] by rw[hwa];exact Cs.new w [.int .i64 kind,.string who,.string fo,.string name,.string key,.string text,.int .i64 num,.int .i64 off,.int .i64 base,.slice av ch.length cv] _) hbb
 have h0:RW (w.heap.size+1) Wr.e0 wb:=by
  unfold RW;rw[←sa,hwb];exact heap_alloc_new wa _
 have HM:=hid (show∀W,wb.grownBy W (some (w.heap.size+1))→Cs W w.heap.size [.int .i64 kind,.string who,.string fo,.string name,.string key,.string text,.int .i64 num,.int .i64 off,.int .i64 base,.slice av ch.length cv]from fun W hg=>hm0.nb hg (by omega));have HLW:=hid (show∀W,wb.grownBy W (some (w.heap.size+1))→Below w.heap.size w W from fun W hg=>hab.trans (nb_low hg (by omega) hab.size));have l0:Wr.e0.l.length=0:=rfl;have HL:=hid hL;have HC:=hid zc;have HK:=hid (rwnum_any (w.heap.size+1) Wr.e0 kind wb h0 zk (by omega));rw[hwb,hwa]at HK;have HWB:=hid (show wb=(w.alloc (.cells #[.int .i64 kind,.string who,.string fo,.string name,.string key,.string text,.int .i64 num,.int .i64 off,.int .i64 base,.slice av ch.length cv] 39)).alloc (.cells #[.string ⟨#[]⟩,.bool false,.bool false] 121)from by rw[hwb,hwa]);clear hwb hwa sa hbb hba hm0 h0 hab hL hcv zc;go_enter Tryz.func40,Tryz.ntmps40
 go_wp2_with fail;refine HK.out.mono ?_
 rintro e w1 ⟨rfl,h1,hf1⟩;rw[←HWB.out]at hf1;obtain⟨t1,ht1⟩: ∃t,t=Wr.numR Wr.e0 kind:=⟨_,rfl⟩
 have L1:=Wr.numR_len (s:=Wr.e0) zk;rw[←ht1]at h1 L1;have HT1:=hid ht1;have H1:=hid h1;clear ht1 h1 HK HWB;have c1:=(HM.out w1 hf1).cell 1 rfl;go_wp2_with fail;refine(rwtxt_any (w.heap.size+1) t1 who w1 H1.out (by omega) z1).mono ?_
 rintro e w2 ⟨rfl,h1,hf⟩;have hf2:=nb_tr hf1 hf;obtain⟨t2,ht⟩: ∃t,t=Wr.txtR t1 who:=⟨_,rfl⟩
 have L2:=Wr.putR_len (s:=t1) (x:= .t who) trivial;simp only[Wr.putR]at L2;rw[←ht]at h1 L2;have HT2:=hid ht;have H2:=hid h1;clear ht h1 hf c1;have c2:=(HM.out w2 hf2).cell 2 rfl;go_wp2_with fail;refine(rwtxt_any (w.heap.size+1) t2 fo w2 H2.out (by omega) z2).mono ?_
 rintro e w3 ⟨rfl,h1,hf⟩;have hf3:=nb_tr hf2 hf;obtain⟨t3,ht⟩: ∃t,t=Wr.txtR t2 fo:=⟨_,rfl⟩
 have L3:=Wr.putR_len (s:=t2) (x:= .t fo) trivial;simp only[Wr.putR]at L3;rw[←ht]at h1 L3;have HT3:=hid ht;have H3:=hid h1;clear ht h1 hf c2;have c3:=(HM.out w3 hf3).cell 3 rfl;go_wp2_with fail;refine(rwtxt_any (w.heap.size+1) t3 name w3 H3.out (by omega) z3).mono ?_
 rintro e w4 ⟨rfl,h1,hf⟩;have hf4:=nb_tr hf3 hf;obtain⟨t4,ht⟩: ∃t,t=Wr.txtR t3 name:=⟨_,rfl⟩
 have L4:=Wr.putR_len (s:=t3) (x:= .t name) trivial;simp only[Wr.putR]at L4;rw[←ht]at h1 L4;have HT4:=hid ht;have H4:=hid h1;clear ht h1 hf c3;have c4:=(HM.out w4 hf4).cell 4 rfl;go_wp2_with fail;refine(rwtxt_any (w.heap.size+1) t4 key w4 H4.out (by omega) z4).mono ?_
 rintro e w5 ⟨rfl,h1,hf⟩;have hf5:=nb_tr hf4 hf;obtain⟨t5,ht⟩: ∃t,t=Wr.txtR t4 key:=⟨_,rfl⟩
 have L5:=Wr.putR_len (s:=t4) (x:= .t key) trivial;simp only[Wr.putR]at L5;rw[←ht]at h1 L5;have HT5:=hid ht;have H5:=hid h1;clear ht h1 hf c4;have c5:=(HM.out w5 hf5).cell 5 rfl;go_wp2_with fail;refine(rwtxt_any (w.heap.size+1) t5 text w5 H5.out (by omega) z5).mono ?_
 rintro e w6 ⟨rfl,h1,hf⟩;have hf6:=nb_tr hf5 hf;obtain⟨t6,ht⟩: ∃t,t=Wr.txtR t5 text:=⟨_,rfl⟩
 have L6:=Wr.putR_len (s:=t5) (x:= .t text) trivial;simp only[Wr.putR]at L6;rw[←ht]at h1 L6;have HT6:=hid ht;have H6:=hid h1;clear ht h1 hf c5;have c6:=(HM.out w6 hf6).cell 6 rfl;go_wp2_with fail;refine(rwnum_any (w.heap.size+1) t6 num w6 H6.out zn (by omega)).mono ?_
 rintro e w7 ⟨rfl,h1,hf⟩;have hf7:=nb_tr hf6 hf;obtain⟨t7,ht⟩: ∃t,t=Wr.numR t6 num:=⟨_,rfl⟩
 have L7:=Wr.numR_len (s:=t6) zn;rw[←ht]at h1 L7;have HT7:=hid ht;have H7:=hid h1;clear ht h1 hf c6;have c7:=(HM.out w7 hf7).cell 7 rfl;go_wp2_with fail;refine(rwnum_any (w.heap.size+1) t7 off w7 H7.out zo (by omega)).mono ?_
 rintro e w8 ⟨rfl,h1,hf⟩;have hf8:=nb_tr hf7 hf;obtain⟨t8,ht⟩: ∃t,t=Wr.numR t7 off:=⟨_,rfl⟩
 have L8:=Wr.numR_len (s:=t7) zo;rw[←ht]at h1 L8;have HT8:=hid ht;have H8:=hid h1;clear ht h1 hf c7;have c8:=(HM.out w8 hf8).cell 8 rfl;go_wp2_with fail;refine(rwnum_any (w.heap.size+1) t8 base w8 H8.out zb (by omega)).mono ?_
 rintro e w9 ⟨rfl,h1,hf⟩;have hf9:=nb_tr hf8 hf;obtain⟨t9,ht⟩: ∃t,t=Wr.numR t8 base:=⟨_,rfl⟩
 have L9:=Wr.numR_len (s:=t8) zb;rw[←ht]at h1 L9;have HT9:=hid ht;have H9:=hid h1;clear ht h1 hf c8;have c9:=(HM.out w9 hf9).cell 9 rfl;go_wp2_with fail;refine(rwchs_any w ch _ (w.heap.size+1) t9 w9 HL.out (HLW.out w9 hf9) (by omega) H9.out (by omega) HC.out).mono ?_
 rintro e w10 ⟨rfl,h1,hf⟩;have hf10:=nb_tr hf9 hf;have HD:=hid (rwdone_any (w.heap.size+1) _ w10 h1);clear h1 hf c9;go_wp2_with fail;refine HD.out.mono ?_
 rintro e w11 ⟨rfl,rfl⟩;go_wp2_with fail;go_ret2;refine⟨?_,HLW.out _ hf10⟩
 rw[show Wr.runR Wr.e0 (Wr.rqI ⟨kind,who,fo,name,key,text,num,off,base,ch⟩)=Wr.runR t9 (Wr.lst 20 Wr.chI ch)from by
  rw[Wr.rqI,Wr.runR_app,HT9.out,HT8.out,HT7.out,HT6.out,HT5.out,HT4.out,HT3.out,HT2.out,HT1.out];rfl]
 rfl
end Go.Proofs.YtdifomkoegmngaaGreatDoor
namespace Go.Proofs.YtdifomkoegmngaaGreatDoor
open Go.RowKit

namespace Wr
theorem whole_iff {α:Type} {p:Ps α} {enc:α→List It} {OK:α→Prop} (hp:Rds p enc OK) {l:List UInt8} {x:α}:whole (p l)=some x↔OK x∧l=bytes (enc x):=by
 have h1:=hp l x [];rw[List.append_nil]at h1;rw[←h1];cases h:p l with
 |none=>simp[whole]
 |some z=>
  obtain⟨y,r⟩:=z
  cases r with
  |nil=>simp[whole]
  |cons a r=>simp[whole]
theorem whole_rq {l:List UInt8} {q:Rq}:whole (rqP gN 1000 l)=some q↔ok (rqI q)=true∧l=bytes (rqI q):=by
 rw[ok_rq];exact whole_iff (rds_rq gN_wide (fun n h=>gN_small n (by omega)) 1000)
def q0:Rq:=⟨2,⟨#[97]⟩,⟨#[102]⟩,⟨#[]⟩,⟨#[]⟩,⟨#[]⟩,0,0,0,[]⟩
def t0:List UInt8:=[50,59,49,59,97,49,59,102,48,59,48,59,48,59,48,59,48,59,48,59,48,59]
theorem itoa_small (u:Nat) (h:u<10):Lib.itoa u=[UInt8.ofNat (48+u)]:=by rw[Lib.itoa_nonneg,Lib.decDigits,dif_pos h]
theorem i0:Lib.itoa 0=[48]:=itoa_small 0 (by omega)
theorem i1:Lib.itoa 1=[49]:=itoa_small 1 (by omega)
theorem i2:Lib.itoa 2=[50]:=itoa_small 2 (by omega)
theorem bytes_q0:bytes (rqI q0)=t0:=by
 have s0:(⟨#[]⟩:ByteArray).size=0:=rfl;have s1:(⟨#[97]⟩:ByteArray).size=1:=rfl;have s2:(⟨#[102]⟩:ByteArray).size=1:=rfl;simp[rqI,q0,lst,bytes,It.bytes,i0,i1,i2,s0,s1,s2,t0]
theorem ok_q0:ok (rqI q0)=true:=by decide
theorem fin_q0:fin (run e0 (rqI q0))=(⟨t0.toArray⟩,0):=by rw[fin_ok ok_q0,bytes_q0]
theorem whole_q0:whole (rqP gN 1000 t0)=some q0:=whole_rq.2 ⟨ok_q0,bytes_q0.symm⟩
end Wr
theorem lies_q0 (w:World):LiesQ w (.agg #[.int .i64 2,.string ⟨#[97]⟩,.string ⟨#[102]⟩,.string ⟨#[]⟩,.string ⟨#[]⟩,.string ⟨#[]⟩,.int .i64 0,.int .i64 0,.int .i64 0,.slice none 0 0]) Wr.q0:=
 ⟨.slice none 0 0,rfl,none,0,rfl,Nat.le_refl _,by simp[Wr.q0],fun i hi=>absurd hi (by simp[Wr.q0])⟩
theorem wf_q0:WfQ Wr.q0:=by
 refine⟨?_,?_,?_,?_,?_,?_,?_,?_,?_,?_⟩
 · exact⟨by decide,by decide⟩
 · exact⟨by decide,by decide⟩
 · exact⟨by decide,by decide⟩
 · exact⟨by decide,by decide⟩
 · show(1:Int)≤_;decide
 · show(1:Int)≤_;decide
 · show(0:Int)≤_;decide
 · show(0:Int)≤_;decide
 · show(0:Int)≤_;decide
 · intro c hc;exact absurd hc (by simp[Wr.q0])
set_option maxHeartbeats 1000000 in
theorem wireBegun_yes (w:World) (h6:5<w.heap.size) (hv:VarsW w):
    Calls Tryz.prog 5 #[] w fun e w'=>e= .returned (.bool true)∧Below w.heap.size w w':=by
 have HA:=hid (ask_any Wr.q0 _ w (lies_q0 w) wf_q0 (by omega) hv.pow);rw[Wr.fin_q0]at HA;have HB:=hid (fun(W:World) (hW:Below w.heap.size w W)=>asked_any ⟨Wr.t0.toArray⟩ W (by decide) (by have:=hW.size;omega) (hv.belowB h6 hW));rw[show(⟨Wr.t0.toArray⟩:ByteArray).data.toList=Wr.t0 from rfl,Wr.whole_q0]at HB;clear hv;go_enter Tryz.func5,Tryz.ntmps5
 go_wp2_with fail;refine HA.out.mono ?_
 rintro e w1 ⟨rfl,hb1⟩;clear HA;go_wp2_with fail;refine(HB.out w1 hb1).mono ?_
 rintro e w2 ⟨⟨v,rfl,vc,rfl,hrow⟩,hb2⟩;obtain⟨av,lv,cv,rfl⟩:=hrow.shape
 clear hrow HB;have hB2:=hb1.trans (hb2.mono hb1.size);clear hb1 hb2;have e1:(Wr.q0.fo.toList==(⟨#[102]⟩:ByteArray).toList)=true:=by simp[Wr.q0]
 have e2:((⟨Wr.t0.toArray⟩:ByteArray).toList==(⟨#[50,59,49,59,97,49,59,102,48,59,48,59,48,59,48,59,48,59,48,59,48,59]⟩:ByteArray).toList)=true:=by simp[Wr.t0]
 have e3:((⟨Wr.t0.toArray⟩:ByteArray).toList==[50,59,49,59,97,49,59,102,48,59,48,59,48,59,48,59,48,59,48,59,48,59])=true:=by simp[Wr.t0]
 have e4:Wr.q0.fo.toList=[102]:=by simp[Wr.q0]
 have e5:(Wr.q0.fo.toList==[102])=true:=by simp[Wr.q0]
 clear e1 e2;generalize Wr.q0.fo=fo at*;generalize (⟨Wr.t0.toArray⟩:ByteArray)=tt at*;go_wp2_with fail;go_ret;exact⟨rfl,hB2.alloc hB2.size _⟩
end Go.Proofs.YtdifomkoegmngaaGreatDoor
namespace Go.Proofs.YtdifomkoegmngaaGreatDoor
open Go.RowKit

namespace Wr
theorem OkC.weak {c:Pp.Ch} (h:OkC gN 1000 c):OkC gR MR c:=by
 have hx: ∀x:ByteArray,(gN x.size=true∧(x.size:Int)≤1000)→gR x.size=true∧(x.size:Int)≤MR:=fun x hx=>⟨gNR _ hx.1,by unfold MR;omega⟩
 exact⟨gNR _ h.k,gNR _ h.b,hx _ h.p,hx _ h.q,hx _ h.t⟩
theorem OkQ.weak {q:Rq} (h:OkQ gN 1000 q):OkQ gR MR q:=by
 have hx: ∀x:ByteArray,(gN x.size=true∧(x.size:Int)≤1000)→gR x.size=true∧(x.size:Int)≤MR:=fun x hx=>⟨gNR _ hx.1,by unfold MR;omega⟩
 exact⟨gNR _ h.kind,hx _ h.who,hx _ h.fo,hx _ h.name,hx _ h.key,hx _ h.text,gNR _ h.num,gNR _ h.off,gNR _ h.base,h.ch.1,fun c hc=>(h.ch.2 c hc).weak⟩
theorem rds_rqR:Rds (rqP gR MR) rqI (OkQ gR MR):=rds_rq gR_wide (fun n h=>gR_small n (by omega)) MR
theorem askedR_some {l:List UInt8} {q:Rq} (h:rqP gR MR l=some (q,[])) (he:(fin (run e0 (rqI q))).2=0):whole (rqP gN 1000 l)=some q:=by
 rw[whole_rq];refine⟨?_,by simpa using ((rds_rqR l q []).1 h).2⟩
 cases hk:ok (rqI q)with
 |true=>rfl
 |false=>exact absurd he (fin_bad hk).1
theorem askedR_iff {l:List UInt8} {q:Rq} (h:whole (rqP gN 1000 l)=some q):rqP gR MR l=some (q,[])∧(fin (run e0 (rqI q))).2=0:=by
 obtain⟨h1,h2⟩:=whole_rq.1 h
 exact⟨(rds_rqR l q []).2 ⟨((ok_rq q).1 h1).weak,by simpa using h2⟩,by rw[fin_ok h1]⟩
end Wr
theorem RowV.liesC {B:Nat} {T:TypeId} {cs:List Pp.Ch} {v:Value} {W:World} (h:RowV B T 5 VCh cs v W) (hn:cs.length≤1000000000000000):LiesC W v cs:=by
 obtain⟨Z,h1,h2,h3⟩:=h
 rw[liesR_ch]
 have e:Z.map (·.2)=cs.map Pp.chC:=by
  rw[←h1,List.map_map];exact List.map_congr_left (fun z hz=>(h3 z hz).1)
 have hl:Z.length=(cs.map Pp.chC).length:=by rw[←e];simp
 rw[e,hl]at h2
 exact liesR_own h2 (by simpa using hn) (fun r hr=>by
  rw[←e]at hr;obtain⟨z,hz,rfl⟩:=List.mem_map.1 hr
  exact(h3 z hz).2)
set_option maxHeartbeats 4000000 in
set_option maxRecDepth 8000 in
theorem askedOf_any (s:ByteArray) (w:World) (hs:s.size≤140737488351232):
    Calls Tryz.prog 11 #[.string s] w fun e w'=>WhPost (Wr.whole (Wr.rqP Wr.gN 1000 s.data.toList)) (.agg zrq.toArray) (RqV w.heap.size) e w'∧Below w.heap.size w w':=by
 obtain⟨wa,hwa⟩: ∃wa,wa=w.alloc (.cells zrq.toArray 39):=⟨_,rfl⟩
 obtain⟨wb,hwb⟩: ∃wb,wb=wa.alloc (.cells #[.string s,.int .i64 0,.bool false] 81):=⟨_,rfl⟩
 have sa:wa.heap.size=w.heap.size+1:=by rw[hwa];simp
 have sb:wb.heap.size=w.heap.size+1+1:=by rw[hwb];simp[sa]
 have hba:Below w.heap.size w wa:=by rw[hwa];exact below_alloc _ _
 have hbb:Below wa.heap.size wa wb:=by rw[hwb];exact below_alloc _ _
 have hab:Below w.heap.size w wb:=hba.trans (hbb.mono (by omega));have cR0:Cs wb w.heap.size zrq:=Cs.below (show Cs wa w.heap.size zrq by rw[hwa];exact Cs.new w zrq _) hbb;have hsc:Sc (w.heap.size+1) s 0 false wb:=by unfold Sc;rw[←sa,hwb];exact heap_alloc_new wa _
 have H0:=hid (s5_new zrq 39 hsc (Nat.zero_le _));have HCR:=hid (show∀W,wb.grownBy W (some (w.heap.size+1))→Cs W w.heap.size zrq from fun W hg=>cR0.nb hg (by omega));have HLW:=hid (show∀W,wb.grownBy W (some (w.heap.size+1))→Below w.heap.size w W from fun W hg=>hab.trans (nb_low hg (by omega) hab.size));obtain⟨RC,hRC⟩: ∃x,x=Wr.rqP Wr.gR Wr.MR s.data.toList:=⟨_,rfl⟩
 have HRC:=hid hRC;have HF0:=hid (show RC=Wr.rqP Wr.gR Wr.MR (s.data.toList.drop 0)from hRC);conv at HF0=>arg 1;rhs;unfold Wr.rqP
 have HS:=hid hs;have HK0:=hid (scnumV (w.heap.size+1) 0 s false _ H0.out.sc H0.out.jl hs);rw[hwb,hwa]at HK0;have HWB:=hid (show wb.alloc (.cells zrq.toArray 39)=((w.alloc (.cells zrq.toArray 39)).alloc (.cells #[.string s,.int .i64 0,.bool false] 81)).alloc (.cells zrq.toArray 39)from by rw[hwb,hwa]);rw[sb]at H0;have HSB:=hid sb;obtain⟨W0,hW0⟩: ∃x,x=Wr.whole (Wr.rqP Wr.gN 1000 s.data.toList):=⟨_,rfl⟩
 rw[←hW0];have HW0:=hid hW0;clear hwb hwa sa sb hbb hba cR0 hsc hab hRC hs hW0;go_enter Tryz.func11,Tryz.ntmps11
 go_wp2_with fail;refine HK0.out.mono ?_
 intro e w1 hv;rw[←HWB.out]at hv;obtain⟨qk,_,j1,b1,rfl,rfl,p1,hS,hj1,hg,hT,hF⟩:=hv.step (fun h=>by cases h) (fun _=>HF0.out)
 have H1:=hid (H0.out.call hg hS hj1);have HT1:=hid hT;have HF1:=hid hF;have y0:=H1.out.cC.cell 0 rfl;have z0:=H1.out.cC.fr 0;clear hv hS hg hT hF HF0 HK0 H0 HWB;go_wp2_with fail;refine(sctxtV (w.heap.size+1) j1 s b1 _ (H1.out.set 0 (.int .i64 qk)).sc (H1.out.set 0 (.int .i64 qk)).jl HS.out).mono ?_
 intro e w2 hv;obtain⟨qa,_,j2,b2,rfl,rfl,p2,hS,hj2,hg,hT,hF⟩:=hv.step HT1.out HF1.out
 have H2:=hid ((H1.out.set 0 (.int .i64 qk)).call hg hS hj2);have HT2:=hid hT;have HF2:=hid hF;clear hv hS hg hT hF HT1 HF1 H1 y0 z0;have y1:=H2.out.cC.cell 1 rfl;have z1:=H2.out.cC.fr 1;go_wp2_with fail;refine(sctxtV (w.heap.size+1) j2 s b2 _ (H2.out.set 1 (.string qa)).sc (H2.out.set 1 (.string qa)).jl HS.out).mono ?_
 intro e w3 hv;obtain⟨qb,_,j3,b3,rfl,rfl,p3,hS,hj3,hg,hT,hF⟩:=hv.step HT2.out HF2.out
 have H3:=hid ((H2.out.set 1 (.string qa)).call hg hS hj3);have HT3:=hid hT;have HF3:=hid hF;clear hv hS hg hT hF HT2 HF2 H2 y1 z1;have y2:=H3.out.cC.cell 2 rfl;have z2:=H3.out.cC.fr 2;go_wp2_with fail;refine(sctxtV (w.heap.size+1) j3 s b3 _ (H3.out.set 2 (.string qb)).sc (H3.out.set 2 (.string qb)).jl HS.out).mono ?_
 intro e w4 hv;obtain⟨qc,_,j4,b4,rfl,rfl,p4,hS,hj4,hg,hT,hF⟩:=hv.step HT3.out HF3.out
 have H4:=hid ((H3.out.set 2 (.string qb)).call hg hS hj4);have HT4:=hid hT;have HF4:=hid hF;clear hv hS hg hT hF HT3 HF3 H3 y2 z2;have y3:=H4.out.cC.cell 3 rfl;have z3:=H4.out.cC.fr 3;go_wp2_with fail;refine(sctxtV (w.heap.size+1) j4 s b4 _ (H4.out.set 3 (.string qc)).sc (H4.out.set 3 (.string qc)).jl HS.out).mono ?_
 intro e w5 hv;obtain⟨qd,_,j5,b5,rfl,rfl,p5,hS,hj5,hg,hT,hF⟩:=hv.step HT4.out HF4.out
 have H5:=hid ((H4.out.set 3 (.string qc)).call hg hS hj5);have HT5:=hid hT;have HF5:=hid hF;clear hv hS hg hT hF HT4 HF4 H4 y3 z3;have y4:=H5.out.cC.cell 4 rfl;have z4:=H5.out.cC.fr 4;go_wp2_with fail;refine(sctxtV (w.heap.size+1) j5 s b5 _ (H5.out.set 4 (.string qd)).sc (H5.out.set 4 (.string qd)).jl HS.out).mono ?_
 intro e w6 hv;obtain⟨qe,_,j6,b6,rfl,rfl,p6,hS,hj6,hg,hT,hF⟩:=hv.step HT5.out HF5.out
 have H6:=hid ((H5.out.set 4 (.string qd)).call hg hS hj6);have HT6:=hid hT;have HF6:=hid hF;clear hv hS hg hT hF HT5 HF5 H5 y4 z4;have y5:=H6.out.cC.cell 5 rfl;have z5:=H6.out.cC.fr 5;go_wp2_with fail;refine(scnumV (w.heap.size+1) j6 s b6 _ (H6.out.set 5 (.string qe)).sc (H6.out.set 5 (.string qe)).jl HS.out).mono ?_
 intro e w7 hv;obtain⟨qx,_,j7,b7,rfl,rfl,p7,hS,hj7,hg,hT,hF⟩:=hv.step HT6.out HF6.out
 have H7:=hid ((H6.out.set 5 (.string qe)).call hg hS hj7);have HT7:=hid hT;have HF7:=hid hF;clear hv hS hg hT hF HT6 HF6 H6 y5 z5;have y6:=H7.out.cC.cell 6 rfl;have z6:=H7.out.cC.fr 6;go_wp2_with fail;refine(scnumV (w.heap.size+1) j7 s b7 _ (H7.out.set 6 (.int .i64 qx)).sc (H7.out.set 6 (.int .i64 qx)).jl HS.out).mono ?_
 intro e w8 hv;obtain⟨qy,_,j8,b8,rfl,rfl,p8,hS,hj8,hg,hT,hF⟩:=hv.step HT7.out HF7.out
 have H8:=hid ((H7.out.set 6 (.int .i64 qx)).call hg hS hj8);have HT8:=hid hT;have HF8:=hid hF;clear hv hS hg hT hF HT7 HF7 H7 y6 z6;have y7:=H8.out.cC.cell 7 rfl;have z7:=H8.out.cC.fr 7;go_wp2_with fail;refine(scnumV (w.heap.size+1) j8 s b8 _ (H8.out.set 7 (.int .i64 qy)).sc (H8.out.set 7 (.int .i64 qy)).jl HS.out).mono ?_
 intro e w9 hv;obtain⟨qz,_,j9,b9,rfl,rfl,p9,hS,hj9,hg,hT,hF⟩:=hv.step HT8.out HF8.out
 have H9:=hid ((H8.out.set 7 (.int .i64 qy)).call hg hS hj9);have HT9:=hid hT;have HF9:=hid hF;clear hv hS hg hT hF HT8 HF8 H8 y7 z7;have y8:=H9.out.cC.cell 8 rfl;have z8:=H9.out.cC.fr 8;go_wp2_with fail;refine(scchsV (w.heap.size+1) j9 s b9 _ (H9.out.set 8 (.int .i64 qz)).sc (H9.out.set 8 (.int .i64 qz)).jl HS.out).mono ?_
 intro e w10 hv;obtain⟨qs,vc,j10,b10,rfl,hrow,p10,hS,hj10,hg,hT,hF⟩:=hv.step HT9.out HF9.out
 have H10:=hid ((H9.out.set 8 (.int .i64 qz)).call hg hS hj10);have HT10:=hid hT;have HF10:=hid hF;have hbase:=(H9.out.set 8 (.int .i64 qz)).cC.lt;have hR0:=(H9.out.set 8 (.int .i64 qz)).fr.size;clear hv hS hg hT hF HT9 HF9 H9 y8 z8;obtain⟨av,lv,cv,rfl⟩:=hrow.shape
 have HROW:=hid hrow;have y9:=H10.out.cC.cell 9 rfl;have z9:=H10.out.cC.fr 9;obtain⟨wq,hwq⟩: ∃wq,wq=w10.setCell ⟨w.heap.size+1+1,9,none⟩ (.slice av lv cv):=⟨_,rfl⟩
 have HG:=hid (H10.out.set 9 (.slice av lv cv));have hrow2:=hrow.setC (g:=w.heap.size+1+1) hbase 9 (.slice av lv cv);rw[←hwq]at HG hrow2;have HROW2:=hid hrow2;obtain⟨q,hq⟩: ∃q:Rq,q=⟨qk,qa,qb,qc,qd,qe,qx,qy,qz,qs⟩:=⟨_,rfl⟩
 have HQQ:=hid hq;have hlen:qs.length≤1000000000000000:=by have:=p10.1;omega
 have HLQ:=hid (show LiesQ wq (.agg #[.int .i64 qk,.string qa,.string qb,.string qc,.string qd,.string qe,.int .i64 qx,.int .i64 qy,.int .i64 qz,.slice av lv cv]) q from⟨.slice av lv cv,by rw[hq],by rw[hq];exact hrow2.liesC hlen⟩);have HWF:=hid (show WfQ q from by rw[hq];exact⟨p1,p7,p8,p9,p2,p3,p4,p5,p6,p10.2⟩);have HQ:=hid (And.intro (show b10=true→RC=none from HT10.out) (show b10=false→RC=some (q,s.data.toList.drop j10)from fun h=>by rw[HF10.out h,hq];rfl));have HAO:=hid (askOf_any q _ wq HLQ.out HWF.out);have y0:=H10.out.cC.cell 0 rfl;have y1:=H10.out.cC.cell 1 rfl;have y2:=H10.out.cC.cell 2 rfl;have y3:=H10.out.cC.cell 3 rfl;have y4:=H10.out.cC.cell 4 rfl;have y5:=H10.out.cC.cell 5 rfl;have y6:=H10.out.cC.cell 6 rfl;have y7:=H10.out.cC.cell 7 rfl;have y8:=H10.out.cC.cell 8 rfl;rw[hwq]at HAO;have HWQ:=hid hwq;clear hrow hrow2 HT10 HF10 hq H10 hwq;obtain⟨tx,htx⟩: ∃t,t=(Wr.fin (Wr.run Wr.e0 (Wr.rqI q))).1:=⟨_,rfl⟩
 obtain⟨er,her⟩: ∃e0,e0=(Wr.fin (Wr.run Wr.e0 (Wr.rqI q))).2:=⟨_,rfl⟩
 rw[←htx,←her]at HAO;have HER:=hid her;clear htx her;go_wp2_with fail;refine HAO.out.mono ?_
 rintro e w11 ⟨rfl,hb11⟩;rw[←HWQ.out]at hb11;have hsc:=HG.out.sc.below hb11;have hcR:=(HCR.out wq HG.out.fr).below hb11;have HBL:=hid ((HLW.out wq HG.out.fr).trans (hb11.mono (HLW.out wq HG.out.fr).size));have HRQ:=hid (show RqV (w.heap.size+1+1) q (.agg #[.int .i64 qk,.string qa,.string qb,.string qc,.string qd,.string qe,.int .i64 qx,.int .i64 qy,.int .i64 qz,.slice av lv cv]) w11 from⟨_,by rw[HQQ.out],by rw[HQQ.out];exact(HROW2.out.belowC hb11).low (by omega)⟩);have hcC:=HG.out.cC.below hb11;have c1:=hsc.cs.cell 1 rfl;have c2:=hsc.cs.cell 2 rfl;have k0:=hcC.cell 0 rfl;have k1:=hcC.cell 1 rfl;have k2:=hcC.cell 2 rfl;have k3:=hcC.cell 3 rfl;have k4:=hcC.cell 4 rfl;have k5:=hcC.cell 5 rfl;have k6:=hcC.cell 6 rfl;have k7:=hcC.cell 7 rfl;have k8:=hcC.cell 8 rfl;have k9:=hcC.cell 9 rfl;have r0:=hcR.cell 0 rfl;have x0:=hcR.fr 0;have r1:=hcR.cell 1 rfl;have x1:=hcR.fr 1;have r2:=hcR.cell 2 rfl;have x2:=hcR.fr 2;have r3:=hcR.cell 3 rfl;have x3:=hcR.fr 3;have r4:=hcR.cell 4 rfl;have x4:=hcR.fr 4;have r5:=hcR.cell 5 rfl;have x5:=hcR.fr 5;have r6:=hcR.cell 6 rfl;have x6:=hcR.fr 6;have r7:=hcR.cell 7 rfl;have x7:=hcR.fr 7;have r8:=hcR.cell 8 rfl;have x8:=hcR.fr 8;have r9:=hcR.cell 9 rfl;have x9:=hcR.fr 9;have e9:=Nat.le_refl w.heap.size;have hB0:w.heap.size<w.heap.size+1+1:=by omega
 have HBAD:=hid (show(b10=true∨ ¬j10=s.size∨ ¬er=0)→W0=none from fun hx=>by
  cases hw:W0 with
  |none=>rfl
  |some q'=>
   have hw':=HW0.out.symm.trans hw;obtain⟨k1,k2⟩:=Wr.askedR_iff hw'
   rw[←HRC.out]at k1;rcases hx with hx|hx
   · rw[HQ.out.1 hx]at k1;cases k1
   · cases hb:b10 with
     |true=>rw[HQ.out.1 hb]at k1;cases k1
     |false=>
      rw[HQ.out.2 hb]at k1;simp only[Option.some.injEq,Prod.mk.injEq]at k1;rcases hx with hx|hx
      · have h1:=congrArg List.length k1.2
        rw[List.length_drop,←Lib.size_eq]at h1;simp only[List.length_nil]at h1;have:=HG.out.jl
        exact absurd (by omega) hx
      · rw[HER.out,k1.1]at hx;exact absurd k2 hx)
 clear hsc hcR hcC hb11 HAO y0 y1 y2 y3 y4 y5 y6 y7 y8;cases hb:b10 with
 |true=>
  have HNO:=hid (HBAD.out (Or.inl hb));rw[hb]at c2;go_wp2_with fail;refine bodyPost_ret (v:= .tuple #[.agg zrq.toArray,.int .i64 1]) (by simp[results,Tryz.results11,go_sem,r0,r1,r2,r3,r4,r5,r6,r7,r8,r9]) rfl ⟨?_,?_⟩
  · rw[HNO.out];rfl
  · exact(HBL.out|>.setCell (p:=⟨w.heap.size,0,none⟩) e9 _|>.setCell (p:=⟨w.heap.size,1,none⟩) e9 _|>.setCell (p:=⟨w.heap.size,2,none⟩) e9 _|>.setCell (p:=⟨w.heap.size,3,none⟩) e9 _|>.setCell (p:=⟨w.heap.size,4,none⟩) e9 _|>.setCell (p:=⟨w.heap.size,5,none⟩) e9 _|>.setCell (p:=⟨w.heap.size,6,none⟩) e9 _|>.setCell (p:=⟨w.heap.size,7,none⟩) e9 _|>.setCell (p:=⟨w.heap.size,8,none⟩) e9 _|>.setCell (p:=⟨w.heap.size,9,none⟩) e9 _)
 |false=>
 rw[hb]at c2;by_cases hj:j10=s.size
 · by_cases he:er=0
   · have n1:((j10:Int) !=s.size)=false:=by rw[hj];simp
     have n2:(er !=0)=false:=by rw[he];rfl
     have HYES:=hid (show W0=some q from by
      rw[HW0.out];refine Wr.askedR_some ?_ (by rw[←HER.out];exact he)
      rw[←HRC.out,HQ.out.2 hb,hj,List.drop_eq_nil_of_le (by rw[←Lib.size_eq];exact Nat.le_refl _)])
     clear HBAD hj he;go_wp2_with fail;refine bodyPost_ret (v:= .tuple #[.agg #[.int .i64 qk,.string qa,.string qb,.string qc,.string qd,.string qe,.int .i64 qx,.int .i64 qy,.int .i64 qz,.slice av lv cv],.int .i64 0]) (by simp[results,Tryz.results11,go_sem,r0,r1,r2,r3,r4,r5,r6,r7,r8,r9]) rfl ⟨?_,?_⟩
     · rw[HYES.out]
       exact⟨_,rfl,(HRQ.out|>.set hB0 0 _|>.set hB0 1 _|>.set hB0 2 _|>.set hB0 3 _|>.set hB0 4 _|>.set hB0 5 _|>.set hB0 6 _|>.set hB0 7 _|>.set hB0 8 _|>.set hB0 9 _).low (by omega)⟩
     · exact(HBL.out|>.setCell (p:=⟨w.heap.size,0,none⟩) e9 _|>.setCell (p:=⟨w.heap.size,1,none⟩) e9 _|>.setCell (p:=⟨w.heap.size,2,none⟩) e9 _|>.setCell (p:=⟨w.heap.size,3,none⟩) e9 _|>.setCell (p:=⟨w.heap.size,4,none⟩) e9 _|>.setCell (p:=⟨w.heap.size,5,none⟩) e9 _|>.setCell (p:=⟨w.heap.size,6,none⟩) e9 _|>.setCell (p:=⟨w.heap.size,7,none⟩) e9 _|>.setCell (p:=⟨w.heap.size,8,none⟩) e9 _|>.setCell (p:=⟨w.heap.size,9,none⟩) e9 _)
   · have n1:((j10:Int) !=s.size)=false:=by rw[hj];simp
     have n2:(er !=0)=true:=by simpa using he
     have HNO:=hid (HBAD.out (Or.inr (Or.inr he)));clear HBAD hj he;go_wp2_with fail;refine bodyPost_ret (v:= .tuple #[.agg zrq.toArray,.int .i64 1]) (by simp[results,Tryz.results11,go_sem,r0,r1,r2,r3,r4,r5,r6,r7,r8,r9]) rfl ⟨?_,?_⟩
     · rw[HNO.out];rfl
     · exact(HBL.out|>.setCell (p:=⟨w.heap.size,0,none⟩) e9 _|>.setCell (p:=⟨w.heap.size,1,none⟩) e9 _|>.setCell (p:=⟨w.heap.size,2,none⟩) e9 _|>.setCell (p:=⟨w.heap.size,3,none⟩) e9 _|>.setCell (p:=⟨w.heap.size,4,none⟩) e9 _|>.setCell (p:=⟨w.heap.size,5,none⟩) e9 _|>.setCell (p:=⟨w.heap.size,6,none⟩) e9 _|>.setCell (p:=⟨w.heap.size,7,none⟩) e9 _|>.setCell (p:=⟨w.heap.size,8,none⟩) e9 _|>.setCell (p:=⟨w.heap.size,9,none⟩) e9 _)
 · have n1:((j10:Int) !=s.size)=true:=by simp;omega
   have HNO:=hid (HBAD.out (Or.inr (Or.inl hj)));clear HBAD hj;go_wp2_with fail;refine bodyPost_ret (v:= .tuple #[.agg zrq.toArray,.int .i64 1]) (by simp[results,Tryz.results11,go_sem,r0,r1,r2,r3,r4,r5,r6,r7,r8,r9]) rfl ⟨?_,?_⟩
   · rw[HNO.out];rfl
   · exact(HBL.out|>.setCell (p:=⟨w.heap.size,0,none⟩) e9 _|>.setCell (p:=⟨w.heap.size,1,none⟩) e9 _|>.setCell (p:=⟨w.heap.size,2,none⟩) e9 _|>.setCell (p:=⟨w.heap.size,3,none⟩) e9 _|>.setCell (p:=⟨w.heap.size,4,none⟩) e9 _|>.setCell (p:=⟨w.heap.size,5,none⟩) e9 _|>.setCell (p:=⟨w.heap.size,6,none⟩) e9 _|>.setCell (p:=⟨w.heap.size,7,none⟩) e9 _|>.setCell (p:=⟨w.heap.size,8,none⟩) e9 _|>.setCell (p:=⟨w.heap.size,9,none⟩) e9 _)
end Go.Proofs.YtdifomkoegmngaaGreatDoor
namespace Go.Proofs.YtdifomkoegmngaaGreatDoor
open Go.RowKit

set_option maxHeartbeats 1000000 in
theorem sameChg_yes (L:List Pp.Ch) (v u:Value) (w:World) (hv:LiesC w v L) (hu:LiesC w u L):
    Calls Tryz.prog 12 #[v,u] w fun e w'=>e= .returned (.bool true)∧Below w.heap.size w w':=by
 obtain⟨a,cap,rfl,hcap,hcap2,hL⟩:=hv
 have HL:Hid (∀i (h:i<L.length),∃b o,a=some ⟨b,o,none⟩∧b<w.heap.size∧ChAt w b (o+i*5) L[i]):=hL;obtain⟨a',cap',rfl,hcap',_,hL'⟩:=hu
 have HL':Hid (∀i (h:i<L.length),∃b o,a'=some ⟨b,o,none⟩∧b<w.heap.size∧ChAt w b (o+i*5) L[i]):=hL';clear hL hL';go_enter Tryz.func12,Tryz.ntmps12
 go_wp2_with fail;go_loopw [5] (fun i wr=> ∃k:Nat,k≤L.length∧i= .int .i64 k∧Below w.heap.size w wr) (fun i _=>L.length-(intOf i).toNat)
 case atStart=>exact⟨0,Nat.zero_le _,rfl,Below.refl _ _⟩
 case round=>
  obtain⟨k,hk,rfl,hbel⟩:=hrel
  by_cases hlt:k<L.length
  · obtain⟨b,o,rfl,hb,he⟩:=HL.out k hlt
    obtain⟨b',o',rfl,hb',he'⟩:=HL'.out k hlt
    obtain⟨c0,c1,c2,c3,c4⟩:=he.below hb hbel
    obtain⟨d0,d1,d2,d3,d4⟩:=he'.below hb' hbel
    go_wp2_with fail;go_region
    go_wp2_with fail;go_roundw
    case rel=>exact⟨k+1,by omega,by simp,hbel.drew⟩
    case measure=>simp[intOf];omega
  · go_wp2_with fail
    go_ret;exact⟨rfl,hbel⟩
end Go.Proofs.YtdifomkoegmngaaGreatDoor
