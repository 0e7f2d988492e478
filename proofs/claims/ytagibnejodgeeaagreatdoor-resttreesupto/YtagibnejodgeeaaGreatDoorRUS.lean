/- What the reference's MergeOf answers. -/
import Derived.Test.YtagibnejodgeeaaGreatDoorRUQ
import Derived.Test.YtagibnejodgeeaaGreatDoorRUR
import Derived.Test.YtagibnejodgeeaaGreatDoorRUG
import Derived.Deep.AppendLies
import Derived.Test.YtagibnejodgeeaaGreatDoorRUM
set_option linter.unusedSimpArgs false
set_option linter.unusedVariables false
namespace Go.Proofs.YtagibnejodgeeaaGreatDoor
open Go.RowKit Go.Maps

def MoPost (B M T:List En) (w:World) (e:Ending) (w':World):Prop:=(Mg.mrg B M T=none→e= .returned (.tuple #[.slice none 0 0,.slice none 0 0,.int .i64 2]))∧(∀X C,Mg.mrg B M T=some (X,C)→ ∃ve vc,e= .returned (.tuple #[ve,vc,.int .i64 0])∧Lies w' ve X∧LiesK w' vc C∧Own w.heap.size w' ve∧Own w.heap.size w' vc)∧Below w.heap.size w w'
theorem MoPost.none {B M T:List En} {w w':World} (h:Mg.mrg B M T=none) (hb:Below w.heap.size w w'):MoPost B M T w (.returned (.tuple #[.slice none 0 0,.slice none 0 0,.int .i64 2])) w':=⟨fun _=>rfl,fun X C hh=>(by rw[h]at hh;cases hh),hb⟩
theorem MoPost.some {B M T X:List En} {C:Mg.CC} {ve vc:Value} {w w':World} (h:Mg.mrg B M T=some (X,C)) (h1:Lies w' ve X) (h2:LiesK w' vc C) (h3:Own w.heap.size w' ve∧Own w.heap.size w' vc) (hb:Below w.heap.size w w'):MoPost B M T w (.returned (.tuple #[ve,vc,.int .i64 0])) w':=⟨fun hh=>(by rw[h]at hh;cases hh),fun X' C' hh=>(by rw[h]at hh;injection hh with hh;injection hh with e1 e2;rw[←e1,←e2];exact⟨ve,vc,rfl,h1,h2,h3.1,h3.2⟩),hb⟩
/-- The reference's joining at its beginning. -/
theorem RJ.start {w0 w:World} {bm bt:Nat} {vm vt:Value} {M T:List En} (hm:w0.heap[bm]?=some (.cells #[vm] 22)) (ht:w0.heap[bt]?=some (.cells #[vt] 22)) (lm:Lies w0 vm M) (lt:Lies w0 vt T) (F:TypeId) (f1:F≠27) (f2:F≠46) (f9:F≠9)
    (hw:w=((w0.alloc (.cells #[.slice none 0 0] 22)).alloc (.cells #[.slice none 0 0] 31)).alloc (.cells #[.func (.func 42) #[] #[.pointer (some ⟨w0.heap.size,0,none⟩)]] F)):RJ w0 w bm bt w0.heap.size (w0.heap.size+2) (w0.heap.size+1) vm vt (.slice none 0 0) (.slice none 0 0) M T [] []:=by
 have l1:=heap_lt hm;have l2:=heap_lt ht;obtain⟨wa,hwa⟩: ∃wa,wa=w0.alloc (.cells #[.slice none 0 0] 22):=⟨_,rfl⟩
 obtain⟨wb,hwb⟩: ∃wb,wb=wa.alloc (.cells #[.slice none 0 0] 31):=⟨_,rfl⟩
 rw[←hwa,←hwb]at hw;have sa:wa.heap.size=w0.heap.size+1:=by rw[hwa];simp
 have sb:wb.heap.size=w0.heap.size+2:=by rw[hwb];simp[sa]
 have ba:Below w0.heap.size w0 wa:=by rw[hwa];exact(Below.refl _ _).alloc (Nat.le_refl _) _
 have bb:Below wa.heap.size wa wb:=by rw[hwb];exact(Below.refl _ _).alloc (Nat.le_refl _) _
 have bc:Below wb.heap.size wb w:=by rw[hw];exact(Below.refl _ _).alloc (Nat.le_refl _) _
 have ea:wa.heap[w0.heap.size]?=some (.cells #[.slice none 0 0] 22):=by rw[hwa];exact heap_alloc_new w0 _
 have eb:wb.heap[w0.heap.size+1]?=some (.cells #[.slice none 0 0] 31):=by rw[hwb,←sa];exact heap_alloc_new wa _
 have ec:w.heap[w0.heap.size+2]?=some (.cells #[.func (.func 42) #[] #[.pointer (some ⟨w0.heap.size,0,none⟩)]] F):=by rw[hw,←sb];exact heap_alloc_new wb _
 have bac:=below_tr ba (below_tr bb bc);exact⟨bac,lm,lt,(bac.block _ l1).trans hm,(bac.block _ l2).trans ht,(bc.block _ (by omega)).trans ((bb.block _ (by omega)).trans ea),World.ownsRow_nil _ _ _ _,⟨F,f1,f2,f9,ec⟩,(bc.block _ (by omega)).trans eb,World.ownsRow_nil _ _ _ _,⟨Nat.le_refl _,by omega⟩,⟨by omega,by omega,by omega,by omega,by omega,by omega,by omega⟩⟩
set_option maxRecDepth 100000 in
set_option maxHeartbeats 80000000 in
theorem mergeOf_any (B M T:List En) (vb vm vt:Value) (w:World) (hB:Lies w vb B) (hM:Lies w vm M) (hT:Lies w vt T) (gB:Pp.Good B) (gM:Pp.Good M) (gT:Pp.Good T):
    Calls Tryz.prog 16 #[vb,vm,vt] w fun e w'=>MoPost B M T w e w':=by
 have HB:=hid hB;have HM:=hid hM;have HT:=hid hT;have HGB:=hid gB;have HGM:=hid gM;have HGT:=hid gT;have lB:=gB.len;have lM:=gM.len;have lT:=gT.len;obtain⟨ab,cb,rfl,_⟩:=hB
 obtain⟨am,cm,rfl,_⟩:=hM
 obtain⟨at',ct,rfl,_⟩:=hT
 clear gB gM gT;have hst: ∀(W:World) (a:Addr) (f:Fn) (x y:Array Value),(store a (.func f x y)).run Tryz.prog W=stored Tryz.prog W a (.func f x y) .plain:=fun W a f x y=>run_store Tryz.prog W a _ _ rfl
 obtain⟨wz,hwz⟩: ∃wz,wz=((w.alloc (.cells #[.slice am M.length cm] 22)).alloc (.cells #[.slice at' T.length ct] 22)).alloc (.cells #[.slice ab B.length cb,.slice am M.length cm,.slice at' T.length ct] 22):=⟨_,rfl⟩
 have hbz:Below w.heap.size w wz:=by
  rw[hwz];have h1:Below w.heap.size w (w.alloc (.cells #[.slice am M.length cm] 22)):=(Below.refl _ _).alloc (Nat.le_refl _) _;have h2:=h1.alloc h1.size (.cells #[.slice at' T.length ct] 22);exact h2.alloc h2.size _
 have HX:=hid (show wz.heap[w.heap.size]?=some (.cells #[.slice am M.length cm] 22)∧wz.heap[w.heap.size+1]?=some (.cells #[.slice at' T.length ct] 22)∧wz.heap[w.heap.size+2]?=some (.cells #[.slice ab B.length cb,.slice am M.length cm,.slice at' T.length ct] 22)from by
  rw[hwz];have e1:=heap_alloc_new w (.cells #[.slice am M.length cm] 22);have e2:=heap_alloc_new (w.alloc (.cells #[.slice am M.length cm] 22)) (.cells #[.slice at' T.length ct] 22);have e3:=heap_alloc_new ((w.alloc (.cells #[.slice am M.length cm] 22)).alloc (.cells #[.slice at' T.length ct] 22)) (.cells #[.slice ab B.length cb,.slice am M.length cm,.slice at' T.length ct] 22);have s1:(w.alloc (.cells #[.slice am M.length cm] 22)).heap.size=w.heap.size+1:=by simp
  have s2:((w.alloc (.cells #[.slice am M.length cm] 22)).alloc (.cells #[.slice at' T.length ct] 22)).heap.size=w.heap.size+2:=by simp
  rw[s1]at e2;rw[s2]at e3;refine⟨?_,?_,e3⟩
  · rw[Below.heap_alloc _ _ _ (by rw[s2];omega),Below.heap_alloc _ _ _ (by rw[s1];omega)]
    exact e1
  · rw[Below.heap_alloc _ _ _ (by rw[s2];omega)]
    exact e2)
 have d0:=(show Cs (w.alloc (.cells #[.slice am M.length cm] 22)) w.heap.size [.slice am M.length cm]from⟨_,heap_alloc_new w _⟩).cell 0 rfl;go_enter Tryz.func16,Tryz.ntmps16
 go_wp2_with fail;rw[←hwz];clear hwz d0;go_loopw [9,11] (fun vp x wr=> ∃k:Nat,k≤3∧x= .int .i64 k∧Hid (LiesT wr vp (Mg.pths (Mg.acc B M T k)))∧Below wz.heap.size wz wr) (fun _ x _=>3-(intOf x).toNat)
 case atStart=>exact⟨0,by omega,rfl,(liesT_nil _:LiesT _ _ []),Below.refl _ _⟩
 case round=>
  obtain⟨k,hk,rfl,HP,hbel⟩:=hrel
  by_cases hk3:k<3
  · obtain⟨L,al,cl,HL,HC,HG,HA,hlen⟩: ∃L al cl,Hid (Lies w (.slice al L.length cl) L)∧Hid (wz.cell? ⟨w.heap.size+2,k,none⟩=some (.slice al L.length cl))∧Hid (Pp.Good L)∧Hid (Mg.acc B M T (k+1)=Mg.over (Mg.acc B M T k) L)∧L.length≤60:=by
     have hcs:Cs wz (w.heap.size+2) [.slice ab B.length cb,.slice am M.length cm,.slice at' T.length ct]:=⟨_,HX.out.2.2⟩
     rcases(by omega:k=0∨k=1∨k=2)with rfl|rfl|rfl
     · exact⟨B,ab,cb,HB,(hcs.cell 0 rfl:_),HGB,(rfl:Mg.acc B M T 1=_),lB⟩
     · exact⟨M,am,cm,HM,(hcs.cell 1 rfl:_),HGM,(rfl:Mg.acc B M T 2=_),lM⟩
     · exact⟨T,at',ct,HT,(hcs.cell 2 rfl:_),HGT,(rfl:Mg.acc B M T 3=_),lT⟩
    have hki:(k:Int)<3:=by omega
    have hlk:=Mg.acc_len B M T k;go_wp2_with fail;go_loopw [9,12] (fun vq x wi=> ∃i:Nat,i≤L.length∧x= .int .i64 i∧Hid (LiesT wi vq (Mg.pths (Mg.over (Mg.acc B M T k) (L.take i))))∧Below wz.heap.size wz wi) (fun _ x _=>L.length-(intOf x).toNat)
    case atStart=>exact⟨0,Nat.zero_le _,rfl,(by rw[List.take_zero];exact HP.out:LiesT _ _ (Mg.pths (Mg.over (Mg.acc B M T k) (L.take 0)))),hbel⟩
    case round=>
     obtain⟨i,hi,rfl,HQ,hbl⟩:=hrel
     have hx2:w.heap.size+2<wz.heap.size:=heap_lt HX.out.2.2;have c0:=(hbl.cell (p:=⟨w.heap.size+2,k,none⟩) hx2).trans HC.out
     have hov:(Mg.over (Mg.acc B M T k) (L.take i)).length≤240:=by
      have h1:=Mg.over_len (Mg.acc B M T k) (L.take i);rw[List.length_take]at h1;omega
     by_cases hil:i<L.length
     · obtain⟨al',cl',e0,_,_,hLL⟩:=HL.out
       injection e0 with e0 _ _
       subst e0;obtain⟨b,o,rfl,hb,he⟩:=hLL i hil
       obtain⟨c1,_,_,_⟩:=he.below hb (below_tr hbz hbl)
       have hili:(i:Int)<L.length:=by omega
       have HS:=hid (show Mg.over (Mg.acc B M T k) (L.take (i+1))=Sp.put1 L[i] (Mg.over (Mg.acc B M T k) (L.take i))from Mg.over_take hil);obtain⟨qa,qcap,e9,_⟩:=HQ.out
       subst e9;clear he hLL;go_wp2_with fail;refine(putText_any (Mg.over (Mg.acc B M T k) (L.take i)) L[i] _ _ HQ.out (Mg.over_rise (Mg.acc_rise B M T k) _) (by omega)).mono ?_
       rintro e w1 ⟨u,rfl,hu,hb1⟩;have HU1:=hid (show LiesT w1 u (Mg.pths (Mg.over (Mg.acc B M T k) (L.take (i+1))))from by rw[HS.out];exact hu);have hbl1:=below_tr hbl hb1;clear hu c0 c1;go_wp2_with fail;go_roundw
       case rel=>exact⟨i+1,by omega,rfl,HU1,hbl1⟩
       case measure=>simp[intOf];omega
     · obtain rfl:i=L.length:=by omega
       have HU1:=hid (show LiesT wr u9 (Mg.pths (Mg.acc B M T (k+1)))from by rw[HA.out];have:=HQ.out;rw[List.take_length]at this;exact this);go_wp2_with fail;go_roundw
       case rel=>exact⟨k+1,by omega,rfl,HU1,hbl⟩
       case measure=>simp[intOf];omega
  · have hk3i: ¬(k:Int)<3:=by omega
    have hke:k=3:=by omega
    obtain⟨U,hU⟩: ∃U,U=Mg.uni B M T:=⟨_,rfl⟩
    have HU:=hid hU;have HUR:=hid (show Sp.Rise U from by rw[hU];exact Mg.uni_rise HGB.out.rise M T);have hul:U.length≤180:=by rw[hU];have:=Mg.uni_len B M T;omega
    obtain⟨pa,pcap,rfl,HPL⟩: ∃pa pcap,u9= .slice pa U.length pcap∧Hid (∀i (h:i<U.length),∃b o,pa=some ⟨b,o,none⟩∧b<wr.heap.size∧wr.cell? ⟨b,o+i,none⟩=some (.string U[i].path)):=by
     have h:=HP.out;rw[hke,Mg.acc3 HGB.out.rise,←hU]at h;obtain⟨pa,pcap,e,_,_,_,_,h5⟩:=h
     rw[Mg.pths_len]at e;refine⟨pa,pcap,e,(fun i hi=>?_: ∀i (h:i<U.length),∃b o,pa=some ⟨b,o,none⟩∧b<wr.heap.size∧wr.cell? ⟨b,o+i,none⟩=some (.string U[i].path))⟩
     obtain⟨b,o,e1,e2,e3⟩:=h5 i (by rw[Mg.pths_len];exact hi)
     rw[Mg.pths_get hi,Mg.bytes_self]at e3;exact⟨b,o,e1,e2,e3⟩
    clear HP hU hk3 hk hke;have hb0:=below_tr hbz hbel;have hx2:w.heap.size+2<wr.heap.size:=Nat.lt_of_lt_of_le (heap_lt HX.out.2.2) hbel.size;have HLM:=hid (HM.out.below hb0);have HLT:=hid (HT.out.below hb0);have HLB:=hid (HB.out.below hb0);have HBM:=hid (show wr.heap[w.heap.size]?=some (.cells #[.slice am M.length cm] 22)from(hbel.block _ (heap_lt HX.out.1)).trans HX.out.1);have HBT:=hid (show wr.heap[w.heap.size+1]?=some (.cells #[.slice at' T.length ct] 22)from(hbel.block _ (heap_lt HX.out.2.1)).trans HX.out.2.1);obtain⟨i1,hj0,hy0,hy1,hy2⟩:=info_parts Tryz.infoS
    clear hbel hbz;obtain⟨w0,hw0⟩: ∃x,x=wr:=⟨_,rfl⟩
    subst hw0;go_wp2_with fail;go_loopw [17,18,19] (fun vg vx x wi=> ∃(k:Nat) (vo:Value),k≤U.length∧x= .int .i64 k∧Hid (RJ w0 wi w.heap.size (w.heap.size+1) w0.heap.size (w0.heap.size+2) (w0.heap.size+1) (.slice am M.length cm) (.slice at' T.length ct) vo (.slice none 0 0) M T (Mg.nowR B M T (U.take k)) [])∧Hid (wi.ownsRow w0.heap.size 9 1 vg (Mg.gos B M T (U.take k)).length (Mg.gP (Mg.gos B M T (U.take k))))∧Hid (wi.ownsRow w0.heap.size 9 1 vx (Mg.gos B M T (U.take k)).length (Mg.gT (Mg.gos B M T (U.take k))))∧Hid (vx.ownBlock=none∨vx.ownBlock≠vg.ownBlock)) (fun _ _ x _=>U.length-(intOf x).toNat)
    case atStart=>exact⟨0,_,Nat.zero_le _,rfl,RJ.start HBM.out HBT.out HLM.out HLT.out 74 (by decide) (by decide) (by decide) rfl,World.ownsRow_nil _ _ _ _,World.ownsRow_nil _ _ _ _,(Or.inl rfl:(Value.slice none 0 0).ownBlock=none∨_)⟩
    case round=>
     obtain⟨k,vo,hk,rfl,HJ0,HG0,HX0,HD⟩:=hrel
     by_cases hlt:k<U.length
     · obtain⟨b,o,rfl,hb,he⟩:=HPL.out k hlt
       have c0:=(HJ0.out.bel.cell (p:=⟨b,o+k,none⟩) hb).trans he;have hlti:(k:Int)<U.length:=by omega
       have HST:=hid (show∀(x:Int) (t:ByteArray),(Mg.fS B M T U[k].path.data.toList).w=x→(Mg.fS B M T U[k].path.data.toList).t=t→(0<x→Mg.nowR B M T (U.take (k+1))=Sp.put1 ⟨U[k].path,x==1,t,1⟩ (Mg.nowR B M T (U.take k)))∧(¬0<x→Mg.nowR B M T (U.take (k+1))=Mg.nowR B M T (U.take k))from fun x t h1 h2=>Mg.now_step HUR.out hlt h1 h2);have HGN:=hid (show(Mg.fG B M T U[k].path.data.toList).w=0→Mg.gos B M T (U.take (k+1))=Mg.gos B M T (U.take k)from fun h=>Mg.gos_no hlt h);have HGY:=hid (show∀t:ByteArray,(Mg.fG B M T U[k].path.data.toList).w=2→(Mg.fG B M T U[k].path.data.toList).t=t→Mg.gos B M T (U.take (k+1))=Mg.gos B M T (U.take k)++[(⟨U[k].path,false,t,1⟩:En)]from fun t h1 h2=>Mg.gos_yes HUR.out hlt h1 h2);have HRN:=hid (show Sp.Rise (Mg.nowR B M T (U.take k))from Mg.sets_rise (List.Pairwise.sublist (List.take_sublist k U) HUR.out));have hnl:(Mg.nowR B M T (U.take k)).length≤180:=by have:=Mg.sets_len (Mg.fR B M T) (U.take k);rw[List.length_take]at this;show(Mg.sets (Mg.fR B M T) (U.take k)).length≤180;omega
       have hgl:(Mg.gos B M T (U.take k)).length≤180:=by have:=Mg.gos_len B M T (U.take k);rw[List.length_take]at this;omega
       obtain⟨N1,hN1⟩: ∃x,x=Mg.nowR B M T (U.take (k+1)):=⟨_,rfl⟩
       obtain⟨N,hN⟩: ∃x,x=Mg.nowR B M T (U.take k):=⟨_,rfl⟩
       obtain⟨G1,hG1⟩: ∃x,x=Mg.gos B M T (U.take (k+1)):=⟨_,rfl⟩
       obtain⟨G,hG⟩: ∃x,x=Mg.gos B M T (U.take k):=⟨_,rfl⟩
       rw[←hN1,←hN]at HST;rw[←hG1,←hG]at HGN HGY;rw[←hN]at HRN hnl HJ0;rw[←hG]at hgl HG0 HX0;have HN1:=hid hN1;have HG1:=hid hG1;clear hN1 hN hG1 hG he;generalize U[k].path=p at*;have HOM:=hid (show Mg.Ok (Mg.st M p.data.toList)from Mg.ok_st _ _);have HOT:=hid (show Mg.Ok (Mg.st T p.data.toList)from Mg.ok_st _ _);have HFS: ∀x,Mg.fS B M T x=Mg.stays (Mg.st B x) (Mg.st M x) (Mg.st T x):=fun _=>rfl
       have HFG: ∀x,Mg.fG B M T x=Mg.goes (Mg.st B x) (Mg.st M x) (Mg.st T x):=fun _=>rfl
       rw[HFS]at HST;rw[HFG]at HGN HGY;clear HFS HFG;have HMB:=hid (show∀W,Below wr.heap.size wr W→W.cell? ⟨w.heap.size,0,none⟩=some (.slice am M.length cm)from fun W hW=>(show Cs W w.heap.size [.slice am M.length cm]from⟨_,(HJ0.out.below hW).mine⟩).cell 0 rfl);have HTB:=hid (show∀W,Below wr.heap.size wr W→W.cell? ⟨(w.heap.size+1),0,none⟩=some (.slice at' T.length ct)from fun W hW=>(show Cs W (w.heap.size+1) [.slice at' T.length ct]from⟨_,(HJ0.out.below hW).theirs⟩).cell 0 rfl);have HPB:=hid (show∀W,Below wr.heap.size wr W→W.cell? ⟨(w0.heap.size+2),0,none⟩=some (.func (.func 42) #[] #[.pointer (some ⟨w0.heap.size,0,none⟩)])from fun W hW=>(by obtain⟨F,_,_,_,f3⟩:=(HJ0.out.below hW).put;exact(show Cs W (w0.heap.size+2) [.func (.func 42) #[] #[.pointer (some ⟨w0.heap.size,0,none⟩)]]from⟨_,f3⟩).cell 0 rfl));have d1:=HMB.out wr (Below.refl _ _);go_wp2_with fail;refine(stateAt_any M _ p _ (HLM.out.below HJ0.out.bel)).mono ?_
       rintro e w1 ⟨rfl,hb1⟩;clear d1 c0;have d2:=HTB.out w1 hb1;go_wp2_with fail;refine(stateAt_any T _ p _ (HLT.out.below (HJ0.out.below hb1).bel)).mono ?_
       rintro e w2 ⟨rfl,hb2x⟩;have hb2:=below_tr hb1 hb2x;clear d2 hb2x;obtain⟨sm,hsm⟩: ∃x,x=Mg.st M p.data.toList:=⟨_,rfl⟩
       obtain⟨st',hst'⟩: ∃x,x=Mg.st T p.data.toList:=⟨_,rfl⟩
       obtain⟨sb,hsb⟩: ∃x,x=Mg.st B p.data.toList:=⟨_,rfl⟩
       rw[←hsm,←hst',←hsb]at HST;rw[←hsm,←hst',←hsb]at HGN HGY;rw[←hsm]at HOM;rw[←hst']at HOT;rw[←hsm,←hst'];have HSM:=hid hsm;have HSX:=hid hst';have HSB:=hid hsb;clear hsm hst' hsb;obtain⟨mw,mt,mv⟩:=sm
       obtain⟨tw,tt,tv⟩:=st'
       obtain⟨bw,bt',bv⟩:=sb
       have e1:=HMB.out w2 hb2;have e2:=HTB.out w2 hb2;go_wp2_with fail;refine(alike_any M T _ _ p _ (HLM.out.below (HJ0.out.below hb2).bel) (HLT.out.below (HJ0.out.below hb2).bel)).mono ?_
       rintro e w3 ⟨rfl,hb3x⟩;have hb3:=below_tr hb2 hb3x;rw[←HSM.out,←HSX.out];clear e1 e2 hb3x;cases k1:Mg.lk (⟨mw,mt,mv⟩:Spo) (⟨tw,tt,tv⟩:Spo)with
       |true=>
        have dp:=HPB.out w3 hb3;have HNS:=hid (HST.out (mw) (mt) ((Mg.way1 k1).1) ((Mg.way1 k1).2.1));go_wp2_with fail;refine(mput_rj (HJ0.out.below hb3) HRN.out (by omega) p (mt) (k:=mw) (N':=N1) HNS.out.1 (fun h=>HNS.out.2 (by omega))).mono ?_
        rintro e w9 ⟨rfl,vo9,hJ9,hF9⟩;have HJ9:=hid hJ9;have HG9:=hid ((HJ0.out.below hb3).texts (HG0.out.kept9 hb3) hF9);have HX9:=hid ((HJ0.out.below hb3).texts (HX0.out.kept9 hb3) hF9);clear hJ9 hF9 dp HNS;have hge:=HGN.out ((Mg.way1 k1).2.2);have HGR:=hid (show w9.ownsRow w0.heap.size 9 1 u17 G1.length (Mg.gP G1)from by rw[hge];exact HG9.out);have HXR:=hid (show w9.ownsRow w0.heap.size 9 1 u18 G1.length (Mg.gT G1)from by rw[hge];exact HX9.out);clear hge;rw[HN1.out]at HJ9;rw[HG1.out]at HGR HXR;clear HST HGN HGY HRN HMB HTB HPB HN1 HG1;go_wp2_with fail;go_roundw
        case rel=>exact⟨k+1,vo9,by omega,rfl,HJ9,HGR,HXR,HD⟩
        case measure=>simp[intOf];omega
       |false=>
        have e2:=HTB.out w3 hb3;go_wp2_with fail;refine(alike_any T B _ _ p _ (HLT.out.below (HJ0.out.below hb3).bel) (HLB.out.below (HJ0.out.below hb3).bel)).mono ?_
        rintro e w4 ⟨rfl,hb4x⟩;have hb4:=below_tr hb3 hb4x;rw[←HSX.out,←HSB.out];clear e2 hb4x;cases k2:Mg.lk (⟨tw,tt,tv⟩:Spo) (⟨bw,bt',bv⟩:Spo)with
        |true=>
         have dp:=HPB.out w4 hb4;have HNS:=hid (HST.out (mw) (mt) ((Mg.way2 k1 k2).1) ((Mg.way2 k1 k2).2.1));go_wp2_with fail;refine(mput_rj (HJ0.out.below hb4) HRN.out (by omega) p (mt) (k:=mw) (N':=N1) HNS.out.1 (fun h=>HNS.out.2 (by omega))).mono ?_
         rintro e w9 ⟨rfl,vo9,hJ9,hF9⟩;have HJ9:=hid hJ9;have HG9:=hid ((HJ0.out.below hb4).texts (HG0.out.kept9 hb4) hF9);have HX9:=hid ((HJ0.out.below hb4).texts (HX0.out.kept9 hb4) hF9);clear hJ9 hF9 dp HNS;have hge:=HGN.out ((Mg.way2 k1 k2).2.2);have HGR:=hid (show w9.ownsRow w0.heap.size 9 1 u17 G1.length (Mg.gP G1)from by rw[hge];exact HG9.out);have HXR:=hid (show w9.ownsRow w0.heap.size 9 1 u18 G1.length (Mg.gT G1)from by rw[hge];exact HX9.out);clear hge;rw[HN1.out]at HJ9;rw[HG1.out]at HGR HXR;clear HST HGN HGY HRN HMB HTB HPB HN1 HG1;go_wp2_with fail;go_roundw
         case rel=>exact⟨k+1,vo9,by omega,rfl,HJ9,HGR,HXR,HD⟩
         case measure=>simp[intOf];omega
        |false=>
         have e1:=HMB.out w4 hb4;go_wp2_with fail;refine(alike_any M B _ _ p _ (HLM.out.below (HJ0.out.below hb4).bel) (HLB.out.below (HJ0.out.below hb4).bel)).mono ?_
         rintro e w5 ⟨rfl,hb5x⟩;have hb5:=below_tr hb4 hb5x;rw[←HSM.out,←HSB.out];clear e1 hb5x;cases k3:Mg.lk (⟨mw,mt,mv⟩:Spo) (⟨bw,bt',bv⟩:Spo)with
         |true=>
          have dp:=HPB.out w5 hb5;have HNS:=hid (HST.out (tw) (tt) ((Mg.way3 k3).1) ((Mg.way3 k3).2.1));go_wp2_with fail;refine(mput_rj (HJ0.out.below hb5) HRN.out (by omega) p (tt) (k:=tw) (N':=N1) HNS.out.1 (fun h=>HNS.out.2 (by omega))).mono ?_
          rintro e w9 ⟨rfl,vo9,hJ9,hF9⟩;have HJ9:=hid hJ9;have HG9:=hid ((HJ0.out.below hb5).texts (HG0.out.kept9 hb5) hF9);have HX9:=hid ((HJ0.out.below hb5).texts (HX0.out.kept9 hb5) hF9);clear hJ9 hF9 dp HNS;have hge:=HGN.out ((Mg.way3 k3).2.2);have HGR:=hid (show w9.ownsRow w0.heap.size 9 1 u17 G1.length (Mg.gP G1)from by rw[hge];exact HG9.out);have HXR:=hid (show w9.ownsRow w0.heap.size 9 1 u18 G1.length (Mg.gT G1)from by rw[hge];exact HX9.out);clear hge;rw[HN1.out]at HJ9;rw[HG1.out]at HGR HXR;clear HST HGN HGY HRN HMB HTB HPB HN1 HG1;go_wp2_with fail;go_roundw
          case rel=>exact⟨k+1,vo9,by omega,rfl,HJ9,HGR,HXR,HD⟩
          case measure=>simp[intOf];omega
         |false=>
          clear HSM HSX HSB;by_cases m1:mw=1
          · subst m1
            have HWY:=hid (Mg.way4 HOM.out HOT.out k1 k2 k3 rfl);have dp:=HPB.out w5 hb5;have HNS:=hid (HST.out (1) (⟨#[]⟩) (HWY.out.1) (HWY.out.2.1));go_wp2_with fail;refine(mput_rj (HJ0.out.below hb5) HRN.out (by omega) p (⟨#[]⟩) (k:=1) (N':=N1) HNS.out.1 (fun h=>HNS.out.2 (by omega))).mono ?_
            rintro e w9 ⟨rfl,vo9,hJ9,hF9⟩;have HJ9:=hid hJ9;have HG9:=hid ((HJ0.out.below hb5).texts (HG0.out.kept9 hb5) hF9);have HX9:=hid ((HJ0.out.below hb5).texts (HX0.out.kept9 hb5) hF9);clear hJ9 hF9 dp HNS;by_cases t2:tw=2
            · subst t2
              have hge:=HGY.out (tt) (HWY.out.2.2.1) (HWY.out.2.2.2.1);obtain⟨ga,gc,rfl⟩:=ownsRow_shape HG9.out
              obtain⟨xa,xc,rfl⟩:=ownsRow_shape HX9.out
              have hs9:=HJ9.out.bel.size;go_wp2_with (at_builtin;refine wpList_append_lies _ rfl _ _ 69 rfl w0.heap.size 9 i1 (.string ⟨#[]⟩) 1 16 Tryz.underlying69 hj0 hy0 hy1 hy2 rfl (by decide) _ _ _ rfl (HG9.out.alloc _) ⟨w9.heap.size,0,none⟩ 1 1 [.string p] rfl rfl (by intro j u hj;match j,hj with|0,hj=>simp at hj;subst hj;simp[Addr.add]|j+1,hj=>simp at hj) (by intro u hu;simp at hu;subst hu;rfl) (by decide) (by unfold maxLen;omega) (by omega) (by simp;omega) (w9.heap.size+1) (by simp) ?_)
              intro g1 c1 w10 ho10 hgr10 hat10 hlt10;have hal:Below w9.heap.size w9 (w9.alloc (.cells #[.string p] 9)):=(Below.refl _ _).alloc (Nat.le_refl _) _;have HJ10:=hid ((HJ9.out.below hal).row9 (HG9.out.kept9 hal) hgr10);have HX10:=hid ((HX9.out.kept9 hal).kept hgr10 HD.out);have HO10:=hid (show w10.ownsRow w0.heap.size 9 1 (.slice (some ⟨g1,0,none⟩) G1.length c1) G1.length (Mg.gP G1)from by rw[hge,List.length_append,←Mg.gP_snoc];exact ho10)
              have HD10:=hid (show(Value.slice xa G.length xc).ownBlock=none∨(Value.slice xa G.length xc).ownBlock≠some g1 from by
               rcases HD.out with h|h
               · exact Or.inl h
               · rcases hat10 with h1|h1
                 · rw[←h1];exact Or.inr h
                 · refine Or.inr (fun e=>?_)
                   have:=(HX9.out.lt g1 e).2
                   omega)
              have hl10:(G++[(⟨p,false,tt,1⟩:En)]).length=G.length+1:=by simp
              have hl11:G1.length=G.length+1:=by rw[hge,hl10]
              have hs10:=HJ10.out.bel.size;have hgs10:=hgr10.size;clear ho10 hgr10 hl10;rw[hl11]at HO10;go_wp2_with (at_builtin;refine wpList_append_lies _ rfl _ _ 69 rfl w0.heap.size 9 i1 (.string ⟨#[]⟩) 1 16 Tryz.underlying69 hj0 hy0 hy1 hy2 rfl (by decide) _ _ _ rfl (HX10.out.alloc _) ⟨w10.heap.size,0,none⟩ 1 1 [.string (tt)] rfl rfl (by intro j u hj;match j,hj with|0,hj=>simp at hj;subst hj;simp[Addr.add]|j+1,hj=>simp at hj) (by intro u hu;simp at hu;subst hu;rfl) (by decide) (by unfold maxLen;omega) (by omega) (by simp;omega) (w10.heap.size+1) (by simp) ?_)
              intro g2 c2 w11 ho11 hgr11 hat11 hlt11;have hal2:Below w10.heap.size w10 (w10.alloc (.cells #[.string (tt)] 9)):=(Below.refl _ _).alloc (Nat.le_refl _) _;have HJ11:=hid ((HJ10.out.below hal2).row9 (HX10.out.kept9 hal2) hgr11)
              have HG11:=hid ((HO10.out.kept9 hal2).kept hgr11 (by
               rcases HD10.out with h|h
               · exact Or.inr (by rw[h];simp[Value.ownBlock])
               · exact Or.inr (fun e=>h e.symm)))
              have HO11:=hid (show w11.ownsRow w0.heap.size 9 1 (.slice (some ⟨g2,0,none⟩) (G.length+1) c2) G1.length (Mg.gT G1)from by rw[hge,List.length_append,←Mg.gT_snoc];exact ho11)
              have HD11:=hid (show(Value.slice (some ⟨g2,0,none⟩) (G.length+1) c2).ownBlock=none∨(Value.slice (some ⟨g2,0,none⟩) (G.length+1) c2).ownBlock≠(Value.slice (some ⟨g1,0,none⟩) (G.length+1) c1).ownBlock from by
               refine Or.inr (fun e=>?_)
               have e':g2=g1:=by simpa[Value.ownBlock]using e
               subst e';rcases hat11 with h1|h1
               · rcases HD10.out with h|h
                 · rw[h]at h1;cases h1
                 · exact h h1
               · omega)
              have HGX:=hid (show w11.ownsRow w0.heap.size 9 1 (.slice (some ⟨g1,0,none⟩) (G.length+1) c1) G1.length (Mg.gP G1)from by rw[hl11];exact HG11.out);clear ho11 hgr11 hge hat10 hat11 hl11;rw[HN1.out]at HJ11;rw[HG1.out]at HGX HO11;clear HST HGN HGY HRN HMB HTB HPB HN1 HG1;go_wp2_with fail;go_roundw
              case rel=>exact⟨k+1,vo9,by omega,rfl,HJ11,HGX,HO11,HD11⟩
              case measure=>simp[intOf];omega
            · have t2':(tw==2)=false:=by simpa using t2
              have HT0:=hid (show tw=0 from HWY.out.2.2.2.2.resolve_left t2);have hge:=HGN.out (HWY.out.2.2.1.trans HT0.out);have HGR:=hid (show w9.ownsRow w0.heap.size 9 1 u17 G1.length (Mg.gP G1)from by rw[hge];exact HG9.out);have HXR:=hid (show w9.ownsRow w0.heap.size 9 1 u18 G1.length (Mg.gT G1)from by rw[hge];exact HX9.out);clear hge;rw[HN1.out]at HJ9;rw[HG1.out]at HGR HXR;clear HST HGN HGY HRN HMB HTB HPB HN1 HG1;go_wp2_with fail;go_roundw
              case rel=>exact⟨k+1,vo9,by omega,rfl,HJ9,HGR,HXR,HD⟩
              case measure=>simp[intOf];omega
          · have m1':(mw==1)=false:=by simpa using m1
            by_cases t1:tw=1
            · subst t1
              have HWY:=hid (Mg.way5 HOM.out HOT.out k1 k2 k3 m1 rfl);have dp:=HPB.out w5 hb5;have HNS:=hid (HST.out (1) (⟨#[]⟩) (HWY.out.1) (HWY.out.2.1));go_wp2_with fail;refine(mput_rj (HJ0.out.below hb5) HRN.out (by omega) p (⟨#[]⟩) (k:=1) (N':=N1) HNS.out.1 (fun h=>HNS.out.2 (by omega))).mono ?_
              rintro e w9 ⟨rfl,vo9,hJ9,hF9⟩;have HJ9:=hid hJ9;have HG9:=hid ((HJ0.out.below hb5).texts (HG0.out.kept9 hb5) hF9);have HX9:=hid ((HJ0.out.below hb5).texts (HX0.out.kept9 hb5) hF9);clear hJ9 hF9 dp HNS;by_cases m2:mw=2
              · subst m2
                have hge:=HGY.out (mt) (HWY.out.2.2.1) (HWY.out.2.2.2.1);obtain⟨ga,gc,rfl⟩:=ownsRow_shape HG9.out
                obtain⟨xa,xc,rfl⟩:=ownsRow_shape HX9.out
                have hs9:=HJ9.out.bel.size;go_wp2_with (at_builtin;refine wpList_append_lies _ rfl _ _ 69 rfl w0.heap.size 9 i1 (.string ⟨#[]⟩) 1 16 Tryz.underlying69 hj0 hy0 hy1 hy2 rfl (by decide) _ _ _ rfl (HG9.out.alloc _) ⟨w9.heap.size,0,none⟩ 1 1 [.string p] rfl rfl (by intro j u hj;match j,hj with|0,hj=>simp at hj;subst hj;simp[Addr.add]|j+1,hj=>simp at hj) (by intro u hu;simp at hu;subst hu;rfl) (by decide) (by unfold maxLen;omega) (by omega) (by simp;omega) (w9.heap.size+1) (by simp) ?_)
                intro g1 c1 w10 ho10 hgr10 hat10 hlt10;have hal:Below w9.heap.size w9 (w9.alloc (.cells #[.string p] 9)):=(Below.refl _ _).alloc (Nat.le_refl _) _;have HJ10:=hid ((HJ9.out.below hal).row9 (HG9.out.kept9 hal) hgr10);have HX10:=hid ((HX9.out.kept9 hal).kept hgr10 HD.out);have HO10:=hid (show w10.ownsRow w0.heap.size 9 1 (.slice (some ⟨g1,0,none⟩) G1.length c1) G1.length (Mg.gP G1)from by rw[hge,List.length_append,←Mg.gP_snoc];exact ho10)
                have HD10:=hid (show(Value.slice xa G.length xc).ownBlock=none∨(Value.slice xa G.length xc).ownBlock≠some g1 from by
                 rcases HD.out with h|h
                 · exact Or.inl h
                 · rcases hat10 with h1|h1
                   · rw[←h1];exact Or.inr h
                   · refine Or.inr (fun e=>?_)
                     have:=(HX9.out.lt g1 e).2
                     omega)
                have hl10:(G++[(⟨p,false,mt,1⟩:En)]).length=G.length+1:=by simp
                have hl11:G1.length=G.length+1:=by rw[hge,hl10]
                have hs10:=HJ10.out.bel.size;have hgs10:=hgr10.size;clear ho10 hgr10 hl10;rw[hl11]at HO10;go_wp2_with (at_builtin;refine wpList_append_lies _ rfl _ _ 69 rfl w0.heap.size 9 i1 (.string ⟨#[]⟩) 1 16 Tryz.underlying69 hj0 hy0 hy1 hy2 rfl (by decide) _ _ _ rfl (HX10.out.alloc _) ⟨w10.heap.size,0,none⟩ 1 1 [.string (mt)] rfl rfl (by intro j u hj;match j,hj with|0,hj=>simp at hj;subst hj;simp[Addr.add]|j+1,hj=>simp at hj) (by intro u hu;simp at hu;subst hu;rfl) (by decide) (by unfold maxLen;omega) (by omega) (by simp;omega) (w10.heap.size+1) (by simp) ?_)
                intro g2 c2 w11 ho11 hgr11 hat11 hlt11;have hal2:Below w10.heap.size w10 (w10.alloc (.cells #[.string (mt)] 9)):=(Below.refl _ _).alloc (Nat.le_refl _) _;have HJ11:=hid ((HJ10.out.below hal2).row9 (HX10.out.kept9 hal2) hgr11)
                have HG11:=hid ((HO10.out.kept9 hal2).kept hgr11 (by
                 rcases HD10.out with h|h
                 · exact Or.inr (by rw[h];simp[Value.ownBlock])
                 · exact Or.inr (fun e=>h e.symm)))
                have HO11:=hid (show w11.ownsRow w0.heap.size 9 1 (.slice (some ⟨g2,0,none⟩) (G.length+1) c2) G1.length (Mg.gT G1)from by rw[hge,List.length_append,←Mg.gT_snoc];exact ho11)
                have HD11:=hid (show(Value.slice (some ⟨g2,0,none⟩) (G.length+1) c2).ownBlock=none∨(Value.slice (some ⟨g2,0,none⟩) (G.length+1) c2).ownBlock≠(Value.slice (some ⟨g1,0,none⟩) (G.length+1) c1).ownBlock from by
                 refine Or.inr (fun e=>?_)
                 have e':g2=g1:=by simpa[Value.ownBlock]using e
                 subst e';rcases hat11 with h1|h1
                 · rcases HD10.out with h|h
                   · rw[h]at h1;cases h1
                   · exact h h1
                 · omega)
                have HGX:=hid (show w11.ownsRow w0.heap.size 9 1 (.slice (some ⟨g1,0,none⟩) (G.length+1) c1) G1.length (Mg.gP G1)from by rw[hl11];exact HG11.out);clear ho11 hgr11 hge hat10 hat11 hl11;rw[HN1.out]at HJ11;rw[HG1.out]at HGX HO11;clear HST HGN HGY HRN HMB HTB HPB HN1 HG1;go_wp2_with fail;go_roundw
                case rel=>exact⟨k+1,vo9,by omega,rfl,HJ11,HGX,HO11,HD11⟩
                case measure=>simp[intOf];omega
              · have m2':(mw==2)=false:=by simpa using m2
                have HT0:=hid (show mw=0 from HWY.out.2.2.2.2.resolve_left m2);have hge:=HGN.out (HWY.out.2.2.1.trans HT0.out);have HGR:=hid (show w9.ownsRow w0.heap.size 9 1 u17 G1.length (Mg.gP G1)from by rw[hge];exact HG9.out);have HXR:=hid (show w9.ownsRow w0.heap.size 9 1 u18 G1.length (Mg.gT G1)from by rw[hge];exact HX9.out);clear hge;rw[HN1.out]at HJ9;rw[HG1.out]at HGR HXR;clear HST HGN HGY HRN HMB HTB HPB HN1 HG1;go_wp2_with fail;go_roundw
                case rel=>exact⟨k+1,vo9,by omega,rfl,HJ9,HGR,HXR,HD⟩
                case measure=>simp[intOf];omega
            · have t1':(tw==1)=false:=by simpa using t1
              by_cases m2:mw=2
              · subst m2
                by_cases t2:tw=2
                · subst t2
                  have HWY:=hid (Mg.way6 (b:=(⟨bw,bt',bv⟩:Spo)) k1 k2 k3 rfl rfl);have dp:=HPB.out w5 hb5;have HNS:=hid (HST.out (2) (tt) (HWY.out.1) (HWY.out.2.1));go_wp2_with fail;refine(mput_rj (HJ0.out.below hb5) HRN.out (by omega) p (tt) (k:=2) (N':=N1) HNS.out.1 (fun h=>HNS.out.2 (by omega))).mono ?_
                  rintro e w9 ⟨rfl,vo9,hJ9,hF9⟩;have HJ9:=hid hJ9;have HG9:=hid ((HJ0.out.below hb5).texts (HG0.out.kept9 hb5) hF9);have HX9:=hid ((HJ0.out.below hb5).texts (HX0.out.kept9 hb5) hF9);clear hJ9 hF9 dp HNS;have hge:=HGY.out (mt) (HWY.out.2.2.1) (HWY.out.2.2.2);obtain⟨ga,gc,rfl⟩:=ownsRow_shape HG9.out
                  obtain⟨xa,xc,rfl⟩:=ownsRow_shape HX9.out
                  have hs9:=HJ9.out.bel.size;go_wp2_with (at_builtin;refine wpList_append_lies _ rfl _ _ 69 rfl w0.heap.size 9 i1 (.string ⟨#[]⟩) 1 16 Tryz.underlying69 hj0 hy0 hy1 hy2 rfl (by decide) _ _ _ rfl (HG9.out.alloc _) ⟨w9.heap.size,0,none⟩ 1 1 [.string p] rfl rfl (by intro j u hj;match j,hj with|0,hj=>simp at hj;subst hj;simp[Addr.add]|j+1,hj=>simp at hj) (by intro u hu;simp at hu;subst hu;rfl) (by decide) (by unfold maxLen;omega) (by omega) (by simp;omega) (w9.heap.size+1) (by simp) ?_)
                  intro g1 c1 w10 ho10 hgr10 hat10 hlt10;have hal:Below w9.heap.size w9 (w9.alloc (.cells #[.string p] 9)):=(Below.refl _ _).alloc (Nat.le_refl _) _;have HJ10:=hid ((HJ9.out.below hal).row9 (HG9.out.kept9 hal) hgr10);have HX10:=hid ((HX9.out.kept9 hal).kept hgr10 HD.out);have HO10:=hid (show w10.ownsRow w0.heap.size 9 1 (.slice (some ⟨g1,0,none⟩) G1.length c1) G1.length (Mg.gP G1)from by rw[hge,List.length_append,←Mg.gP_snoc];exact ho10)
                  have HD10:=hid (show(Value.slice xa G.length xc).ownBlock=none∨(Value.slice xa G.length xc).ownBlock≠some g1 from by
                   rcases HD.out with h|h
                   · exact Or.inl h
                   · rcases hat10 with h1|h1
                     · rw[←h1];exact Or.inr h
                     · refine Or.inr (fun e=>?_)
                       have:=(HX9.out.lt g1 e).2
                       omega)
                  have hl10:(G++[(⟨p,false,mt,1⟩:En)]).length=G.length+1:=by simp
                  have hl11:G1.length=G.length+1:=by rw[hge,hl10]
                  have hs10:=HJ10.out.bel.size;have hgs10:=hgr10.size;clear ho10 hgr10 hl10;rw[hl11]at HO10;go_wp2_with (at_builtin;refine wpList_append_lies _ rfl _ _ 69 rfl w0.heap.size 9 i1 (.string ⟨#[]⟩) 1 16 Tryz.underlying69 hj0 hy0 hy1 hy2 rfl (by decide) _ _ _ rfl (HX10.out.alloc _) ⟨w10.heap.size,0,none⟩ 1 1 [.string (mt)] rfl rfl (by intro j u hj;match j,hj with|0,hj=>simp at hj;subst hj;simp[Addr.add]|j+1,hj=>simp at hj) (by intro u hu;simp at hu;subst hu;rfl) (by decide) (by unfold maxLen;omega) (by omega) (by simp;omega) (w10.heap.size+1) (by simp) ?_)
                  intro g2 c2 w11 ho11 hgr11 hat11 hlt11;have hal2:Below w10.heap.size w10 (w10.alloc (.cells #[.string (mt)] 9)):=(Below.refl _ _).alloc (Nat.le_refl _) _;have HJ11:=hid ((HJ10.out.below hal2).row9 (HX10.out.kept9 hal2) hgr11)
                  have HG11:=hid ((HO10.out.kept9 hal2).kept hgr11 (by
                   rcases HD10.out with h|h
                   · exact Or.inr (by rw[h];simp[Value.ownBlock])
                   · exact Or.inr (fun e=>h e.symm)))
                  have HO11:=hid (show w11.ownsRow w0.heap.size 9 1 (.slice (some ⟨g2,0,none⟩) (G.length+1) c2) G1.length (Mg.gT G1)from by rw[hge,List.length_append,←Mg.gT_snoc];exact ho11)
                  have HD11:=hid (show(Value.slice (some ⟨g2,0,none⟩) (G.length+1) c2).ownBlock=none∨(Value.slice (some ⟨g2,0,none⟩) (G.length+1) c2).ownBlock≠(Value.slice (some ⟨g1,0,none⟩) (G.length+1) c1).ownBlock from by
                   refine Or.inr (fun e=>?_)
                   have e':g2=g1:=by simpa[Value.ownBlock]using e
                   subst e';rcases hat11 with h1|h1
                   · rcases HD10.out with h|h
                     · rw[h]at h1;cases h1
                     · exact h h1
                   · omega)
                  have HGX:=hid (show w11.ownsRow w0.heap.size 9 1 (.slice (some ⟨g1,0,none⟩) (G.length+1) c1) G1.length (Mg.gP G1)from by rw[hl11];exact HG11.out);clear ho11 hgr11 hge hat10 hat11 hl11;rw[HN1.out]at HJ11;rw[HG1.out]at HGX HO11;clear HST HGN HGY HRN HMB HTB HPB HN1 HG1;go_wp2_with fail;go_roundw
                  case rel=>exact⟨k+1,vo9,by omega,rfl,HJ11,HGX,HO11,HD11⟩
                  case measure=>simp[intOf];omega
                · have t2':(tw==2)=false:=by simpa using t2
                  have HWY:=hid (Mg.way7 (b:=(⟨bw,bt',bv⟩:Spo)) HOT.out k1 k2 k3 rfl t1 t2);have dp:=HPB.out w5 hb5;have HNS:=hid (HST.out (2) (mt) (HWY.out.1) (HWY.out.2.1));go_wp2_with fail;refine(mput_rj (HJ0.out.below hb5) HRN.out (by omega) p (mt) (k:=2) (N':=N1) HNS.out.1 (fun h=>HNS.out.2 (by omega))).mono ?_
                  rintro e w9 ⟨rfl,vo9,hJ9,hF9⟩;have HJ9:=hid hJ9;have HG9:=hid ((HJ0.out.below hb5).texts (HG0.out.kept9 hb5) hF9);have HX9:=hid ((HJ0.out.below hb5).texts (HX0.out.kept9 hb5) hF9);clear hJ9 hF9 dp HNS;have hge:=HGN.out (HWY.out.2.2);have HGR:=hid (show w9.ownsRow w0.heap.size 9 1 u17 G1.length (Mg.gP G1)from by rw[hge];exact HG9.out);have HXR:=hid (show w9.ownsRow w0.heap.size 9 1 u18 G1.length (Mg.gT G1)from by rw[hge];exact HX9.out);clear hge;rw[HN1.out]at HJ9;rw[HG1.out]at HGR HXR;clear HST HGN HGY HRN HMB HTB HPB HN1 HG1;go_wp2_with fail;go_roundw
                  case rel=>exact⟨k+1,vo9,by omega,rfl,HJ9,HGR,HXR,HD⟩
                  case measure=>simp[intOf];omega
              · have m2':(mw==2)=false:=by simpa using m2
                have HWY:=hid (Mg.way8 HOM.out HOT.out k1 k2 k3 m2 m1 t1);have dp:=HPB.out w5 hb5;have HNS:=hid (HST.out (tw) (tt) (HWY.out.1) (HWY.out.2.1));go_wp2_with fail;refine(mput_rj (HJ0.out.below hb5) HRN.out (by omega) p (tt) (k:=tw) (N':=N1) HNS.out.1 (fun h=>HNS.out.2 (by omega))).mono ?_
                rintro e w9 ⟨rfl,vo9,hJ9,hF9⟩;have HJ9:=hid hJ9;have HG9:=hid ((HJ0.out.below hb5).texts (HG0.out.kept9 hb5) hF9);have HX9:=hid ((HJ0.out.below hb5).texts (HX0.out.kept9 hb5) hF9);clear hJ9 hF9 dp HNS;have hge:=HGN.out (HWY.out.2.2);have HGR:=hid (show w9.ownsRow w0.heap.size 9 1 u17 G1.length (Mg.gP G1)from by rw[hge];exact HG9.out);have HXR:=hid (show w9.ownsRow w0.heap.size 9 1 u18 G1.length (Mg.gT G1)from by rw[hge];exact HX9.out);clear hge;rw[HN1.out]at HJ9;rw[HG1.out]at HGR HXR;clear HST HGN HGY HRN HMB HTB HPB HN1 HG1;go_wp2_with fail;go_roundw
                case rel=>exact⟨k+1,vo9,by omega,rfl,HJ9,HGR,HXR,HD⟩
                case measure=>simp[intOf];omega
     · have hkU: ¬(k:Int)<U.length:=by omega
       have htk:U.take k=U:=List.take_of_length_le (by omega);rw[htk]at HJ0 HG0 HX0;obtain⟨A,hA⟩: ∃x,x=Mg.gos B M T U:=⟨_,rfl⟩
       obtain⟨N0,hN0⟩: ∃x,x=Mg.nowR B M T U:=⟨_,rfl⟩
       rw[←hA]at HG0 HX0;rw[←hN0]at HJ0;have HF0:=hid (show Mg.Fit N0 from by rw[hN0,HU.out];exact Mg.fit_now HGB.out HGM.out HGT.out);have HAC:=hid (show∀a∈A,Pp.chk a.path.data.toList=0 from by rw[hA,HU.out];exact fun a ha=>Mg.gos_mem HGB.out HGM.out HGT.out ha);have HAF:=hid (show∀a∈A,∀q,Mg.file q (Mg.spo a)=Mg.file q ⟨2,a.text,1⟩from by rw[hA];exact fun a ha q=>Mg.gos_file ha q);have HRR:=hid (show Mg.runR B M T=(Mg.asds M T A (N0,[])).bind (fun s=>Mg.mksR M T (Mg.allR s.1 s.1.length) s)from by rw[hA,hN0,HU.out];rfl);have hal:A.length≤180:=by have:=Mg.gos_len B M T U;rw[hA];omega
       have hnl0:N0.length≤180:=by have:=Mg.sets_len (Mg.fR B M T) U;rw[hN0];show(Mg.sets (Mg.fR B M T) U).length≤180;omega
       clear hA hN0 htk HD hlt hk;obtain⟨ga,gc,rfl⟩:=ownsRow_shape HG0.out
       obtain⟨xa,xc,rfl⟩:=ownsRow_shape HX0.out
       go_wp2_with fail;go_loopw [25] (fun x wi=> ∃(i:Nat) (N:List En) (C:Mg.CC) (vo vc:Value),i≤A.length∧x= .int .i64 i∧N.length≤180+i∧C.length≤i∧Hid (RJ w0 wi w.heap.size (w.heap.size+1) w0.heap.size (w0.heap.size+2) (w0.heap.size+1) (.slice am M.length cm) (.slice at' T.length ct) vo vc M T N C)∧Hid (Mg.Fit N)∧Hid (Mg.asds M T (A.take i) (N0,[])=some (N,C))∧Hid (wi.ownsRow w0.heap.size 9 1 (.slice ga A.length gc) A.length (Mg.gP A))∧Hid (wi.ownsRow w0.heap.size 9 1 (.slice xa A.length xc) A.length (Mg.gT A))) (fun x _=>A.length-(intOf x).toNat)
       case atStart=>exact⟨0,N0,[],_,_,Nat.zero_le _,rfl,by omega,Nat.zero_le _,HJ0,HF0,(rfl:Mg.asds M T (A.take 0) (N0,[])=some (N0,[])),HG0,HX0⟩
       case round=>
        obtain⟨i,N,C,vo',vc,hi,rfl,hnl,hcl,HJ,HFN,HAS,HG,HX2⟩:=hrel
        by_cases hil:i<A.length
        · obtain⟨g1,rfl⟩:=row_some HG.out (by omega)
          obtain⟨g2,rfl⟩:=row_some HX2.out (by omega)
          have hili:(i:Int)<A.length:=by omega
          have HY1:=hid (show∀W:World,W.ownsRow w0.heap.size 9 1 (.slice (some ⟨g1,0,none⟩) A.length gc) A.length (Mg.gP A)→W.cell? ⟨g1,i,none⟩=some (.string A[i].path)from fun W h=>by
           have y:=h.cellAt i (by omega);rw[Mg.gP,List.getElem?_map,List.getElem?_eq_getElem hil,Option.map_some]at y;exact y)
          have HY2:=hid (show∀W:World,W.ownsRow w0.heap.size 9 1 (.slice (some ⟨g2,0,none⟩) A.length xc) A.length (Mg.gT A)→W.cell? ⟨g2,i,none⟩=some (.string A[i].text)from fun W h=>by
           have y:=h.cellAt i (by omega);rw[Mg.gT,List.getElem?_map,List.getElem?_eq_getElem hil,Option.map_some]at y;exact y)
          have HPC:=hid (HAC.out _ (List.getElem_mem hil));have HST:=hid (Mg.asds_step hil HAS.out);have HFL:=hid (show∀q,Mg.file q (Mg.spo A[i])=Mg.file q ⟨2,A[i].text,1⟩from fun q=>HAF.out _ (List.getElem_mem hil) q);generalize A[i]=y at*;have y1:=HY1.out wr HG.out;have y2:=HY2.out wr HX2.out;go_wp2_with fail;have hdr:Below wr.heap.size wr wr.drew:=(Below.refl _ _).drew
          go_region_held3 (fun W=>W.cell? ⟨g1,i,none⟩=some (.string y.path)∧W.cell? ⟨g2,i,none⟩=some (.string y.text)) (go_keep) (first
           |(go_at_call 43;refine(maside_one (HJ.out.below hdr) HFN.out.rise (by omega) (by omega) y.path y.text HPC.out).mono ?_;rintro e w1 ⟨rfl,hF1,vo1,vc1,N1,C1,hJ1,hq1⟩;have HJ1:=hid hJ1;have HQ1:=hid hq1;have HG1:=hid ((HJ.out.below hdr).texts (HG.out.kept9 hdr) hF1);have HX1:=hid ((HJ.out.below hdr).texts (HX2.out.kept9 hdr) hF1);have z1:=HY1.out w1 HG1.out;have z2:=HY2.out w1 HX1.out))
          clear y1 y2 z1 z2 hJ1 hq1 hF1 HY1 HY2;cases hq:Mg.asd M T N y.path.data.toList with
          |none=>
           have HNO:=hid (show Mg.mrg B M T=none from by rw[Mg.mrgR HGB.out HGM.out HGT.out,HRR.out,HST.out.1 hq];rfl);have hbb:Below w.heap.size w w1:=hb0.trans (HJ1.out.bel.mono hb0.size);clear HST HQ1;go_wp2_with fail;refine bodyPost_ret (v:= .tuple #[.slice none 0 0,.slice none 0 0,.int .i64 2]) (by simp[results,Tryz.results16,go_sem]) rfl (MoPost.none HNO.out hbb)
          |some q=>
           obtain⟨e1,e2⟩:=HQ1.out q hq
           have hqc:=(Mg.asd_some hq).1;have HAS1:=hid (HST.out.2 q hq);rw[HFL.out]at HAS1;rw[←e1,←e2]at HAS1;have HFN1:=hid (show Mg.Fit N1 from by rw[e1];exact Mg.fit_file HFN.out hqc _);have hnl1:N1.length≤180+(i+1):=by rw[e1];have:=Mg.put1_len (Mg.file q ⟨2,y.text,1⟩) N;omega
           have hcl1:C1.length≤i+1:=by rw[e2,List.length_append];simp;omega
           clear HST HQ1 e1 e2 hq HPC HFL;go_wp2_with fail;go_roundw
           case rel=>exact⟨i+1,N1,C1,_,_,by omega,rfl,hnl1,hcl1,HJ1,HFN1,HAS1,HG1,HX1⟩
           case measure=>simp[intOf];omega
        · have hiA: ¬(i:Int)<A.length:=by omega
          have HR2:=hid (show Mg.runR B M T=Mg.mksR M T (Mg.allR N N.length) (N,C)from by
           have h:=HAS.out;rw[List.take_of_length_le (by omega)]at h;rw[HRR.out,h];rfl)
          have hnN:N.length≤360:=by omega
          have hnC:C.length≤180:=by omega
          clear HAS HRR HG HX2 HG0 HX0 HAC HAF HJ0 HF0 hil hi hnl hcl hal hnl0;obtain⟨oa,oc,rfl⟩:=ownsRow_shape HJ.out.lo
          obtain⟨i0,hi0,hz0,hz1,hz2⟩:=info_parts Tryz.infoE
          have y0:=(show Cs wr w0.heap.size [_]from⟨_,HJ.out.out⟩).cell 0 rfl;have hs0:=HJ.out.bel.size;have y3:=heap_lt HJ.out.out;have y4: ¬w0.heap.size=wr.heap.size:=by omega
          have hae:Below wr.heap.size wr (wr.alloc (.cells #[] 27)):=(Below.refl _ _).alloc (Nat.le_refl _) _;go_wp2_with (at_builtin;refine wpList_append_may rfl _ _ 22 rfl w0.heap.size 27 i0 (.agg #[.string ⟨#[]⟩,.bool false,.string ⟨#[]⟩,.int .i64 0]) 4 48 Tryz.underlying22 hi0 hz0 hz1 hz2 rfl (by decide) (.slice (some ⟨wr.heap.size,0,none⟩) 0 0) 0 [] rfl (Mg.emp_own wr _ hs0) (.slice oa N.length oc) N.length (Pp.flat N) rfl (SrcC.own (HJ.out.lo.kept9 hae)) (Mg.flat_one' N) (by unfold maxLen;omega) (by omega) (by simp;omega) ?_)
          intro vn w1 ho1 hgr1;have hb1:Below wr.heap.size wr w1:=hae.grown hgr1 hae.size (fun g hg=>by simp[Value.ownBlock]at hg;omega);have HN1:=hid ho1;have HJ1:=hid (HJ.out.below hb1);obtain⟨na,nc,rfl⟩:=ownsRow_shape ho1
          clear ho1 hgr1 y0 y3 y4 hae HJ hs0;go_wp2_with fail;go_loopw [27] (fun x wi=> ∃(j:Nat) (N':List En) (C':Mg.CC) (vo vc:Value),j≤N.length∧x= .int .i64 j∧N'.length≤360+200*j∧C'.length≤180+100*j∧Hid (RJ w0 wi w.heap.size (w.heap.size+1) w0.heap.size (w0.heap.size+2) (w0.heap.size+1) (.slice am M.length cm) (.slice at' T.length ct) vo vc M T N' C')∧Hid (Mg.Fit N')∧Hid (Mg.mksR M T (Mg.allR N j) (N,C)=some (N',C'))∧Hid (wi.ownsRow w0.heap.size 27 4 (.slice na N.length nc) N.length (Pp.flat N))) (fun x _=>N.length-(intOf x).toNat)
          case atStart=>exact⟨0,N,C,_,_,Nat.zero_le _,rfl,by omega,by omega,HJ1,HFN,(rfl:Mg.mksR M T (Mg.allR N 0) (N,C)=some (N,C)),HN1⟩
          case round=>
           obtain⟨j,N1,C1,vo1,vc1,hj,rfl,hn1,hc1,HJ2,HF2,HM2,HN2⟩:=hrel
           by_cases hjl:j<N.length
           · obtain⟨g,rfl⟩:=row_some HN2.out (by omega)
             have y1:=HN2.out.cellAt (j*4) (by omega);rw[show j*4=j*4+0 from rfl,Pp.flat_at N j hjl 0 (by decide)]at y1;have y1:wr.cell? ⟨g,j*4,none⟩=some (.string N[j].path):=y1;have hjli:(j:Int)<N.length:=by omega
             have HCH:=hid (HFN.out.ents _ (List.getElem_mem hjl)).1;have hps:N[j].path.size≤80:=by have:=Pp.chk_len HCH.out;rw[Array.length_toList]at this;exact this
             have HSP:=hid (show∀k,k+1<(Pp.nm N[j].path.data.toList).length→ ∃r,Mg.allR N N.length=(Mg.allR N j++Mg.presN N[j].path k)++[(⟨(Pp.join ((Pp.nm N[j].path.data.toList).take (k+1))).toArray⟩:ByteArray)]++r from fun k hk=>Mg.allR_split hjl hk);have HSU:=hid (show Mg.allR N (j+1)=Mg.allR N j++Mg.presN N[j].path ((Pp.nm N[j].path.data.toList).length-1)from Mg.allR_succ hjl);have hnm:=Pp.nm_len_le N[j].path.data.toList;rw[Array.length_toList]at hnm;have hnm:(Pp.nm N[j].path.data.toList).length≤N[j].path.size+1:=hnm;have hnz:0<(Pp.nm N[j].path.data.toList).length:=by have:=Pp.nm_ne N[j].path.data.toList;exact List.length_pos_iff.2 this
             generalize N[j].path=p at*;go_wp2_with fail;refine(rNames_any p _ (by omega)).mono ?_
             rintro e w2 ⟨vl,rfl,hl2,hb2⟩;have HL2:=hid (own_down hl2 HJ2.out.bel.size);have HJ3:=hid (HJ2.out.below hb2);have HN3:=hid (HN2.out.kept9 hb2);obtain⟨la,lc,rfl⟩:=ownsRow_shape hl2
             obtain⟨gl,rfl⟩:=row_some HL2.out hnz
             clear hl2 y1 HJ2 HN2;obtain⟨L,hL⟩: ∃x,x=Pp.nm p.data.toList:=⟨_,rfl⟩
             rw[←hL]at HL2 HSP HSU hnm hnz;rw[←hL];have HL:=hid hL;clear hL;go_wp2_with fail;go_loopw [29] (fun x wi=> ∃(k:Nat) (N':List En) (C':Mg.CC) (vo vc:Value),1≤k∧k≤L.length∧x= .int .i64 k∧N'.length≤360+200*j+2*k∧C'.length≤180+100*j+k∧Hid (RJ w0 wi w.heap.size (w.heap.size+1) w0.heap.size (w0.heap.size+2) (w0.heap.size+1) (.slice am M.length cm) (.slice at' T.length ct) vo vc M T N' C')∧Hid (Mg.Fit N')∧Hid (Mg.mksR M T (Mg.allR N j++Mg.presN p (k-1)) (N,C)=some (N',C'))∧Hid (wi.ownsRow w0.heap.size 27 4 (.slice (some ⟨g,0,none⟩) N.length nc) N.length (Pp.flat N))∧Hid (wi.ownsRow w0.heap.size 9 1 (.slice (some ⟨gl,0,none⟩) L.length lc) L.length (Pp.vs L))) (fun x _=>L.length-(intOf x).toNat)
             case atStart=>exact⟨1,N1,C1,_,_,Nat.le_refl _,hnz,rfl,by omega,by omega,HJ3,HF2,(by rw[show Mg.presN p (1-1)=[]from rfl,List.append_nil];exact HM2.out:Mg.mksR M T (Mg.allR N j++Mg.presN p (1-1)) (N,C)=some (N1,C1)),HN3,HL2⟩
             case round=>
              obtain⟨k,N2,C2,vo2,vc2,hk1,hk2,rfl,hn2,hc2,HJ4,HF4,HM4,HN4,HL4⟩:=hrel
              clear HJ3 HF2 HM2 HN3 HL2;by_cases hkl:k<L.length
              · have hkli:(k:Int)<L.length:=by omega
                have HQE:=hid (show Mg.presN p (k-1+1)=Mg.presN p (k-1)++[(⟨(Pp.join (L.take k)).toArray⟩:ByteArray)]from by
                 have h:=Mg.presN_succ p (k-1);rw[←HL.out,show k-1+1=k by omega]at h;rw[show k-1+1=k by omega];exact h)
                have HQC:=hid (show Pp.chk (Pp.join (L.take k))=0 from by
                 have h:=Mg.chk_pre2 HCH.out (k:=k-1) (by rw[←HL.out];omega);rw[←HL.out,show k-1+1=k by omega]at h;exact h)
                have HQS:=hid (show∃r,Mg.allR N N.length=(Mg.allR N j++Mg.presN p (k-1))++[(⟨(Pp.join (L.take k)).toArray⟩:ByteArray)]++r from by
                 have h:=HSP.out (k-1) (by omega);rw[show k-1+1=k by omega]at h;exact h)
                have hq80:(Pp.join (L.take k)).length≤80:=Pp.chk_len HQC.out
                have hkc:k≤lc:=by
                 obtain⟨_,h2⟩:=HL4.out
                 rcases h2 with⟨h2,_⟩|⟨_,_,_,h2,_,_,h3,_⟩
                 · cases h2
                 · injection h2 with _ _ h4;omega
                have HCL:=hid (show∀i (h:i<(L.take k).length),wr.cell? ⟨gl,0+i,none⟩=some (.string ⟨((L.take k)[i]).toArray⟩)from fun i h=>by
                 rw[List.length_take]at h;have h1:=HL4.out.cellAt i (by omega);rw[Nat.zero_add,h1];have:i<L.length:=by omega
                 simp[Pp.vs,this])
                go_wp2_with fail;refine(pathOf_nW (L.take k) k gl 0 lc _ (by rw[List.length_take];omega) (by omega) (by rw[List.length_take];omega) HCL.out).mono ?_
                rintro e w3 ⟨rfl,rfl⟩;clear HCL;generalize hqq:Pp.join (L.take k)=q at*;clear hqq;have y0:=(show Cs w3 w0.heap.size [_]from⟨_,HJ4.out.out⟩).cell 0 rfl;obtain⟨oa2,oc2,rfl⟩:=ownsRow_shape HJ4.out.lo
                go_wp2_with fail;refine(stateAt_any N2 _ ⟨q.toArray⟩ _ (lies_own HJ4.out.lo (by omega))).mono ?_
                rintro e w4 ⟨rfl,hb4⟩;rw[show(⟨q.toArray⟩:ByteArray).data.toList=q from by simp];clear y0;have HMR:=hid (show Mg.mkR M T N2 C2 ⟨q.toArray⟩=(if(Mg.st N2 q).w=1 then some (N2,C2)else if(Mg.st N2 q).w=2 then(Mg.asd M T (Sp.put1 (Mg.fold1 ⟨q.toArray⟩) N2) q).map (fun r=>(Sp.put1 (Mg.file r ⟨2,(Mg.st N2 q).t,1⟩) (Sp.put1 (Mg.fold1 ⟨q.toArray⟩) N2),C2++[((⟨q.toArray⟩:ByteArray),(⟨r.toArray⟩:ByteArray))]))else some (Sp.put1 (Mg.fold1 ⟨q.toArray⟩) N2,C2))from by rw[Mg.mkR,show(⟨q.toArray⟩:ByteArray).data.toList=q from by simp]);have HJ5:=hid (HJ4.out.below hb4);have HN5:=hid (HN4.out.kept9 hb4);have HL5:=hid (HL4.out.kept9 hb4);have HOK:=hid (Mg.ok_st N2 q).w;clear HJ4 HN4 HL4;obtain⟨sw,hsw⟩: ∃x,x=(Mg.st N2 q).w:=⟨_,rfl⟩
                obtain⟨sx,hsx⟩: ∃x,x=(Mg.st N2 q).t:=⟨_,rfl⟩
                rw[←hsw,←hsx]at HMR;rw[←hsw]at HOK;rw[←hsw,←hsx];clear hsw hsx;by_cases s1:sw=1
                · subst s1
                  have HM5:=hid (show Mg.mksR M T (Mg.allR N j++Mg.presN p (k+1-1)) (N,C)=some (N2,C2)from by rw[show k+1-1=k-1+1 by omega,HQE.out,←List.append_assoc];exact Mg.mksR_some HM4.out (by rw[HMR.out];simp));clear HMR HQE HQS HQC HM4 HOK;go_wp2_with fail;go_roundw
                  case rel=>exact⟨k+1,N2,C2,_,_,by omega,by omega,rfl,by omega,by omega,HJ5,HF4,HM5,HN5,HL5⟩
                  case measure=>simp[intOf];omega
                · have s1':(sw==1)=false:=by simpa using s1
                  have dp:w4.cell? ⟨(w0.heap.size+2),0,none⟩=some (.func (.func 42) #[] #[.pointer (some ⟨w0.heap.size,0,none⟩)]):=by obtain⟨F,_,_,_,f3⟩:=HJ5.out.put;exact(show Cs w4 (w0.heap.size+2) [.func (.func 42) #[] #[.pointer (some ⟨w0.heap.size,0,none⟩)]]from⟨_,f3⟩).cell 0 rfl
                  obtain⟨N3,hN3⟩: ∃x,x=Sp.put1 (Mg.fold1 ⟨q.toArray⟩) N2:=⟨_,rfl⟩
                  have HN3e:=hid hN3;have HF5:=hid (show Mg.Fit N3 from by rw[hN3];exact Mg.fit_fold HF4.out (by simpa using HQC.out));have hn3:N3.length≤N2.length+1:=by rw[hN3];exact Mg.put1_len _ _
                  rw[←hN3]at HMR;clear hN3;go_wp2_with fail;refine(mput_rj HJ5.out HF4.out.rise (by omega) ⟨q.toArray⟩ ⟨#[]⟩ (k:=1) (N':=N3) (fun _=>HN3e.out) (fun h=>absurd (by decide) h)).mono ?_
                  rintro e w5 ⟨rfl,vo5,hJ6,hF6⟩;have HJ6:=hid hJ6;have HN6:=hid (HJ5.out.ents HN5.out hF6);have HL6:=hid (HJ5.out.texts HL5.out hF6);clear dp hJ6 hF6 HJ5 HN5 HL5 HN3e;by_cases s2:sw=2
                  · subst s2
                    go_wp2_with fail;refine(maside_one HJ6.out HF5.out.rise (by omega) (by omega) ⟨q.toArray⟩ sx (by simpa using HQC.out)).mono ?_
                    rintro e w6 ⟨rfl,hF7,vo7,vc7,N4,C4,hJ7,hq7⟩;rw[show(⟨q.toArray⟩:ByteArray).data.toList=q from by simp]at hq7⊢;have HJ7:=hid hJ7;have HQ7:=hid hq7;have HN7:=hid (HJ6.out.ents HN6.out hF7);have HL7:=hid (HJ6.out.texts HL6.out hF7);clear hF7 hJ7 hq7 HJ6 HN6 HL6;cases hq:Mg.asd M T N3 q with
                    |none=>
                     have HNO:=hid (show Mg.mrg B M T=none from by
                      obtain⟨r,hr⟩:=HQS.out
                      rw[Mg.mrgR HGB.out HGM.out HGT.out,HR2.out,hr,Mg.mksR_none HM4.out (by rw[HMR.out];simp[hq])];rfl)
                     have hbb:Below w.heap.size w w6:=hb0.trans (HJ7.out.bel.mono hb0.size);clear HQ7 HMR;go_wp2_with fail;refine bodyPost_ret (v:= .tuple #[.slice none 0 0,.slice none 0 0,.int .i64 2]) (by simp[results,Tryz.results16,go_sem]) rfl (MoPost.none HNO.out hbb)
                    |some r=>
                     obtain⟨e1,e2⟩:=HQ7.out r hq
                     have hrc:=(Mg.asd_some hq).1;have HM5:=hid (show Mg.mksR M T (Mg.allR N j++Mg.presN p (k+1-1)) (N,C)=some (N4,C4)from by rw[show k+1-1=k-1+1 by omega,HQE.out,←List.append_assoc];exact Mg.mksR_some HM4.out (by rw[HMR.out,e1,e2];simp[hq]));have HF7:=hid (show Mg.Fit N4 from by rw[e1];exact Mg.fit_file HF5.out hrc _);have hn4:N4.length≤N3.length+1:=by rw[e1];exact Mg.put1_len _ _
                     have hc4:C4.length=C2.length+1:=by rw[e2,List.length_append];rfl
                     clear HQ7 HMR HQE HQS HQC HM4 HOK e1 e2 hq;go_wp2_with fail;go_roundw
                     case rel=>exact⟨k+1,N4,C4,_,_,by omega,by omega,rfl,by omega,by omega,HJ7,HF7,HM5,HN7,HL7⟩
                     case measure=>simp[intOf];omega
                  · have s2':(sw==2)=false:=by simpa using s2
                    have HM5:=hid (show Mg.mksR M T (Mg.allR N j++Mg.presN p (k+1-1)) (N,C)=some (N3,C2)from by rw[show k+1-1=k-1+1 by omega,HQE.out,←List.append_assoc];exact Mg.mksR_some HM4.out (by rw[HMR.out];simp[s1,s2]));clear HMR HQE HQS HQC HM4 HOK;go_wp2_with fail;go_roundw
                    case rel=>exact⟨k+1,N3,C2,_,_,by omega,by omega,rfl,by omega,by omega,HJ6,HF5,HM5,HN6,HL6⟩
                    case measure=>simp[intOf];omega
              · have hkli: ¬(k:Int)<L.length:=by omega
                have HM5:=hid (show Mg.mksR M T (Mg.allR N (j+1)) (N,C)=some (N2,C2)from by rw[HSU.out,show L.length-1=k-1 by omega];exact HM4.out);clear HM4 HSP HSU HL4;go_wp2_with fail;go_roundw
                case rel=>exact⟨j+1,N2,C2,_,_,by omega,rfl,by omega,by omega,HJ4,HF4,HM5,HN4⟩
                case measure=>simp[intOf];omega
           · have hjli: ¬(j:Int)<N.length:=by omega
             have HR3:=hid (show Mg.runR B M T=some (N1,C1)from by
              have h:=HM2.out;rw[show j=N.length by omega]at h;rw[HR2.out,h])
             clear HM2 HR2 HN2;obtain⟨oa,oc,rfl⟩:=ownsRow_shape HJ2.out.lo
             have y0:=(show Cs wr w0.heap.size [_]from⟨_,HJ2.out.out⟩).cell 0 rfl;have hn9:N1.length≤100000:=by omega
             have hc9:C1.length≤100000:=by omega
             clear HFN HN1 HJ1 hn1 hc1;by_cases h60:60<N1.length
             · have h60i:60<(N1.length:Int):=by omega
               have HNO:=hid (show Mg.mrg B M T=none from by rw[Mg.mrgR HGB.out HGM.out HGT.out,HR3.out];show(if 60<N1.length then none else _)=none;rw[if_pos h60]);have hbb:Below w.heap.size w wr:=hb0.trans (HJ2.out.bel.mono hb0.size);go_wp2_with fail;refine bodyPost_ret (v:= .tuple #[.slice none 0 0,.slice none 0 0,.int .i64 2]) (by simp[results,Tryz.results16,go_sem]) rfl (MoPost.none HNO.out hbb)
             · have h60i: ¬60<(N1.length:Int):=by omega
               have HOK:=hid (show Mg.mrg B M T=some (Mg.outs M T N1,C1)from by rw[Mg.mrgR HGB.out HGM.out HGT.out,HR3.out];show(if 60<N1.length then none else _)=_;rw[if_neg h60]);have HJS:=hid (show RJ w0 wr w.heap.size (w.heap.size+1) w0.heap.size (w0.heap.size+2) (w0.heap.size+1) (.slice am M.length cm) (.slice at' T.length ct) (.slice oa N1.length oc) vc1 M T (Mg.outV M T N1 0) C1 from by rw[Mg.outV_zero];exact HJ2.out);clear HR3;go_wp2_with fail;clear y0 HJ2;go_loopw [33] (fun x wi=> ∃(i:Nat),i≤N1.length∧x= .int .i64 i∧Hid (RJ w0 wi w.heap.size (w.heap.size+1) w0.heap.size (w0.heap.size+2) (w0.heap.size+1) (.slice am M.length cm) (.slice at' T.length ct) (.slice oa N1.length oc) vc1 M T (Mg.outV M T N1 i) C1)) (fun x _=>N1.length-(intOf x).toNat)
               case atStart=>exact⟨0,Nat.zero_le _,rfl,HJS⟩
               case round=>
                obtain⟨i,hi,rfl,HJ⟩:=hrel
                have y0:=(show Cs wr w0.heap.size [_]from⟨_,HJ.out.out⟩).cell 0 rfl;by_cases hil:i<N1.length
                · have hili:(i:Int)<N1.length:=by omega
                  have hlo:wr.ownsRow w0.heap.size 27 4 (.slice oa N1.length oc) N1.length (Pp.flat (Mg.outV M T N1 i)):=by have h:=HJ.out.lo;rw[Mg.outV_len]at h;exact h
                  obtain⟨g,rfl⟩:=row_some hlo (by omega)
                  have hol:i<(Mg.outV M T N1 i).length:=by rw[Mg.outV_len];exact hil
                  have hop:(Mg.outV M T N1 i)[i]=N1[i]:=by rw[Mg.outV_get hil,if_neg (by omega)]
                  have y1:=hlo.cellAt (i*4) (by omega);rw[show i*4=i*4+0 from rfl,Pp.flat_at _ i hol 0 (by decide),hop]at y1;have y1:wr.cell? ⟨g,i*4,none⟩=some (.string N1[i].path):=y1;have HSI:=hid (show Sp.Rise (Mg.outV M T N1 i)∧Mg.Sim N1 (Mg.outV M T N1 i)from Mg.sim_outV HF2.out i);have HSU:=hid (show Mg.outV M T N1 (i+1)=Mg.setV (Mg.outV M T N1 i) i (Mg.ver M T N1 N1[i].path.data.toList)from Mg.outV_succ HF2.out hil);have HV1:=hid (show Mg.setV (Mg.outV M T N1 i) i 1=Mg.outV M T N1 i from Mg.setV_self hol (by rw[hop];exact(HF2.out.ents _ (List.getElem_mem hil)).2.2))
                  have HW0:=hid (show¬(Mg.st N1 N1[i].path.data.toList).w=0 from by
                   rw[Mg.st_mem HF2.out.rise (List.getElem_mem hil)];have:=Mg.wh_12 N1[i]
                   show¬Sp.wh N1[i]=0
                   omega)
                  have HXL:=hid (show(Mg.outV M T N1 i).length=N1.length from Mg.outV_len M T N1 i);clear hop hol hlo;generalize N1[i].path=p at*;obtain⟨X,hX⟩: ∃x,x=Mg.outV M T N1 i:=⟨_,rfl⟩
                  obtain⟨Y,hY⟩: ∃x,x=Mg.outV M T N1 (i+1):=⟨_,rfl⟩
                  rw[←hX]at HJ HSI HSU HV1 HXL;rw[←hY]at HSU;have HY:=hid hY;clear hX hY;have HKM:=hid (show∀Z,Mg.Sim N1 Z→Mg.lk (Mg.st Z p.data.toList) (Mg.st M p.data.toList)=Mg.lk (Mg.st N1 p.data.toList) (Mg.st M p.data.toList)from fun Z h=>Mg.sim_lk h _ _);have HKT:=hid (show∀Z,Mg.Sim N1 Z→Mg.lk (Mg.st Z p.data.toList) (Mg.st T p.data.toList)=Mg.lk (Mg.st N1 p.data.toList) (Mg.st T p.data.toList)from fun Z h=>Mg.sim_lk h _ _);have d1:=(show Cs wr w.heap.size [.slice am M.length cm]from⟨_,HJ.out.mine⟩).cell 0 rfl;have hx9:X.length≤1000000000000000:=by rw[HXL.out];omega
                  go_wp2_with fail;have hlX:Lies wr (.slice (some ⟨g,0,none⟩) N1.length oc) X:=by have h:=lies_own HJ.out.lo hx9;exact h
                  refine(alike_any X M _ _ p _ hlX (HLM.out.below HJ.out.bel)).mono ?_
                  rintro e w1 ⟨rfl,hb1⟩;rw[HKM.out X HSI.out.2];have HJ1:=hid (HJ.out.below hb1);clear HJ d1 y0 y1 hlX hx9;cases kM:Mg.lk (Mg.st N1 p.data.toList) (Mg.st M p.data.toList)with
                  |true=>
                   obtain⟨kk,hkk,z1,z2⟩:=Mg.st_there (S:=M) (p:=p.data.toList) (fun h=>HW0.out (by rw[(Mg.lk_iff.1 kM).1];exact h))
                   obtain⟨aS,cS,eS,_,_,hLS⟩:=HLM.out
                   injection eS with eS _ eC
                   subst eS;subst eC;obtain⟨bS,oS,rfl,hbS,heS⟩:=hLS kk hkk
                   obtain⟨_,_,_,c3⟩:=heS.below hbS HJ1.out.bel
                   have hkki:(kk:Int)<M.length:=by omega
                   have HZ1:=hid z1;have HZ2:=hid z2;have hgl:=HJ1.out.lo.lt g rfl;have q1: ¬w0.heap.size=g:=fun e=>own_ne_box HJ1.out.lo HJ1.out.out rj_types.1 (by rw[e];rfl)
                   have q2: ¬w.heap.size=g:=fun e=>own_ne_box HJ1.out.lo HJ1.out.mine rj_types.1 (by rw[e];rfl)
                   have q3: ¬bS=g:=by have:=hgl.1;omega
                   have HB1:=hid (show∀W',w1.grownBy W' (some g)→W'.cell? ⟨w0.heap.size,0,none⟩=some (.slice (some ⟨g,0,none⟩) N1.length oc)from fun W' hW=>(hW.cell_far ⟨w0.heap.size,0,none⟩ (heap_lt HJ1.out.out) (fun e=>q1 (by injection e))).trans ((show Cs w1 w0.heap.size [_]from⟨_,HJ1.out.out⟩).cell 0 rfl));have HB2:=hid (show∀W',w1.grownBy W' (some g)→W'.cell? ⟨w.heap.size,0,none⟩=some (.slice (some ⟨bS,oS,none⟩) M.length cm)from fun W' hW=>(hW.cell_far ⟨w.heap.size,0,none⟩ (heap_lt HJ1.out.mine) (fun e=>q2 (by injection e))).trans ((show Cs w1 w.heap.size [_]from⟨_,HJ1.out.mine⟩).cell 0 rfl));have HB3:=hid (show∀W',w1.grownBy W' (some g)→W'.cell? ⟨bS,oS+kk*4+3,none⟩=some (.int .i64 M[kk].ver)from fun W' hW=>(hW.cell_far ⟨bS,oS+kk*4+3,none⟩ (by have:=HJ1.out.bel.size;show bS<_;omega) (fun e=>q3 (by injection e))).trans c3)
                   have HLO:=hid (show∀W',Below w1.heap.size w1 W'→ ∃u:Int,W'.cell? ⟨g,i*4+3,none⟩=some (.int .i64 u)∧W'.frozen? ⟨g,i*4+3,none⟩=false from fun W' hW=>by
                    have h:=(HJ1.out.below hW).lo;have hxl:X.length=N1.length:=HXL.out;rw[hxl]at h;have hi':i<X.length:=by omega
                    have h1:=h.cellAt (i*4+3) (by omega);rw[Pp.flat_at _ i hi' 3 (by decide)]at h1;exact⟨_,h1,h.frozenAt _⟩)
                   generalize hvk:M[kk].ver=vk at*;have hdr:Below w1.heap.size w1 w1.drew:=(Below.refl _ _).drew;have hdg:w1.grownBy w1.drew (some g):=⟨hdr.os,hdr.tape,hdr.output,hdr.size,fun b hb _=>hdr.block b hb⟩
                   have hwl:=HJ1.out.bel.size;clear heS hLS z1 z2 hvk c3;go_wp2_with fail;refine verRegM (S:=M) (p:=p) (kk:=kk) (vk:=vk) (i:=i) (g:=g) (fun _ _ _ _ _ h=>h) rfl rfl rfl rfl rfl HB1.out HB2.out HB3.out HLO.out (fun W' hW=>HLM.out.below (HJ1.out.below hW).bel) HZ1.out hkki hili (fun wq hbq2=>?_)
                   simp only[List.setIfInBounds_toArray,List.set_cons_zero,List.set_cons_succ];have HJw2:=hid (RJ.ver (N:=X) (i:=i) (HJ1.out.below hbq2) (show N1.length=X.length from HXL.out.symm) (by have h:X.length=N1.length:=HXL.out;omega) vk);generalize wq.setCell ⟨g,i*4+3,none⟩ (.int .i64 vk)=w2 at*;clear hbq2 HLO HB1 HB2 HB3 hgl q1 q2 q3 hdr hdg;obtain⟨mvk,hmvk⟩: ∃x,x=vk:=⟨_,rfl⟩
                   rw[←hmvk]at HJw2 HZ2;have HMV:=hid HZ2.out;clear HZ1 HZ2 hmvk hkki;have HS2:=hid (show Sp.Rise (Mg.setV X i mvk)∧Mg.Sim X (Mg.setV X i mvk)from Mg.sim_setV HSI.out.1 i mvk);have HXL2:=hid (show(Mg.setV X i mvk).length=N1.length from by rw[Mg.setV_len];exact HXL.out);have hlX:Lies w2 (.slice (some ⟨g,0,none⟩) N1.length oc) (Mg.setV X i mvk):=lies_own (by have h:=HJw2.out.lo;exact h) (by have h:(Mg.setV X i mvk).length=N1.length:=HXL2.out;omega);have d1:=(show Cs w2 (w.heap.size+1) [_]from⟨_,HJw2.out.theirs⟩).cell 0 rfl;have y0:=(show Cs w2 w0.heap.size [_]from⟨_,HJw2.out.out⟩).cell 0 rfl;go_wp2_with fail;refine(alike_any (Mg.setV X i mvk) T _ _ p _ hlX (HLT.out.below HJw2.out.bel)).mono ?_
                   rintro e w3 ⟨rfl,hb3⟩;rw[HKT.out _ (Mg.sim_trans HSI.out.2 HS2.out.2)];have HJ3:=hid (HJw2.out.below hb3);clear d1 y0 hlX;cases kT:Mg.lk (Mg.st N1 p.data.toList) (Mg.st T p.data.toList)with
                   |true=>
                    obtain⟨kk,hkk,z1,z2⟩:=Mg.st_there (S:=T) (p:=p.data.toList) (fun h=>HW0.out (by rw[(Mg.lk_iff.1 kT).1];exact h))
                    obtain⟨aS,cS,eS,_,_,hLS⟩:=HLT.out
                    injection eS with eS _ eC
                    subst eS;subst eC;obtain⟨bS,oS,rfl,hbS,heS⟩:=hLS kk hkk
                    obtain⟨_,_,_,c3⟩:=heS.below hbS HJ3.out.bel
                    have hkki:(kk:Int)<T.length:=by omega
                    have HZ1:=hid z1;have HZ2:=hid z2;have hgl:=HJ3.out.lo.lt g rfl;have q1: ¬w0.heap.size=g:=fun e=>own_ne_box HJ3.out.lo HJ3.out.out rj_types.1 (by rw[e];rfl)
                    have q2: ¬(w.heap.size+1)=g:=fun e=>own_ne_box HJ3.out.lo HJ3.out.theirs rj_types.1 (by rw[e];rfl)
                    have q3: ¬bS=g:=by have:=hgl.1;omega
                    have HB1:=hid (show∀W',w3.grownBy W' (some g)→W'.cell? ⟨w0.heap.size,0,none⟩=some (.slice (some ⟨g,0,none⟩) N1.length oc)from fun W' hW=>(hW.cell_far ⟨w0.heap.size,0,none⟩ (heap_lt HJ3.out.out) (fun e=>q1 (by injection e))).trans ((show Cs w3 w0.heap.size [_]from⟨_,HJ3.out.out⟩).cell 0 rfl));have HB2:=hid (show∀W',w3.grownBy W' (some g)→W'.cell? ⟨(w.heap.size+1),0,none⟩=some (.slice (some ⟨bS,oS,none⟩) T.length ct)from fun W' hW=>(hW.cell_far ⟨(w.heap.size+1),0,none⟩ (heap_lt HJ3.out.theirs) (fun e=>q2 (by injection e))).trans ((show Cs w3 (w.heap.size+1) [_]from⟨_,HJ3.out.theirs⟩).cell 0 rfl));have HB3:=hid (show∀W',w3.grownBy W' (some g)→W'.cell? ⟨bS,oS+kk*4+3,none⟩=some (.int .i64 T[kk].ver)from fun W' hW=>(hW.cell_far ⟨bS,oS+kk*4+3,none⟩ (by have:=HJ3.out.bel.size;show bS<_;omega) (fun e=>q3 (by injection e))).trans c3)
                    have HLO:=hid (show∀W',Below w3.heap.size w3 W'→ ∃u:Int,W'.cell? ⟨g,i*4+3,none⟩=some (.int .i64 u)∧W'.frozen? ⟨g,i*4+3,none⟩=false from fun W' hW=>by
                     have h:=(HJ3.out.below hW).lo;have hxl:(Mg.setV X i mvk).length=N1.length:=HXL2.out;rw[hxl]at h;have hi':i<(Mg.setV X i mvk).length:=by omega
                     have h1:=h.cellAt (i*4+3) (by omega);rw[Pp.flat_at _ i hi' 3 (by decide)]at h1;exact⟨_,h1,h.frozenAt _⟩)
                    generalize hvk:T[kk].ver=vk at*;have hdr:Below w3.heap.size w3 w3.drew:=(Below.refl _ _).drew;have hdg:w3.grownBy w3.drew (some g):=⟨hdr.os,hdr.tape,hdr.output,hdr.size,fun b hb _=>hdr.block b hb⟩
                    have hwl:=HJ3.out.bel.size;clear heS hLS z1 z2 hvk c3;go_wp2_with fail;refine verRegT (S:=T) (p:=p) (kk:=kk) (vk:=vk) (i:=i) (g:=g) (fun _ _ _ _ _ h=>h) rfl rfl rfl rfl rfl HB1.out HB2.out HB3.out HLO.out (fun W' hW=>HLT.out.below (HJ3.out.below hW).bel) HZ1.out hkki hili (fun wq hbq2=>?_)
                    simp only[List.setIfInBounds_toArray,List.set_cons_zero,List.set_cons_succ];have HJw4:=hid (RJ.ver (N:=(Mg.setV X i mvk)) (i:=i) (HJ3.out.below hbq2) (show N1.length=(Mg.setV X i mvk).length from HXL2.out.symm) (by have h:(Mg.setV X i mvk).length=N1.length:=HXL2.out;omega) vk);generalize wq.setCell ⟨g,i*4+3,none⟩ (.int .i64 vk)=w4 at*;clear hbq2 HLO HB1 HB2 HB3 hgl q1 q2 q3 hdr hdg
                    have HEQ:=hid (show Mg.setV (Mg.setV X i mvk) i vk=Mg.outV M T N1 (i+1)from by
                     have hv:Mg.ver M T N1 p.data.toList=vk:=by rw[Mg.ver,if_pos kT];exact HZ2.out
                     rw[←HY.out,HSU.out,hv,Mg.setV_setV])
                    rw[HEQ.out]at HJw4;clear HSU HV1 HSI HKM HKT HW0 HXL HY HEQ;go_wp2_with fail;go_roundw
                    case rel=>exact⟨i+1,by omega,rfl,HJw4⟩
                    case measure=>simp[intOf];omega
                   |false=>
                    have HEQ:=hid (show Mg.setV X i mvk=Mg.outV M T N1 (i+1)from by
                     have hv:Mg.ver M T N1 p.data.toList=mvk:=by rw[Mg.ver,if_neg (by rw[kT];decide),if_pos kM];exact HMV.out
                     rw[←HY.out,HSU.out,hv])
                    rw[HEQ.out]at HJ3;clear HSU HV1 HSI HKM HKT HW0 HXL HY HEQ;go_wp2_with fail;go_roundw
                    case rel=>exact⟨i+1,by omega,rfl,HJ3⟩
                    case measure=>simp[intOf];omega
                  |false=>
                   have hlX:Lies w1 (.slice (some ⟨g,0,none⟩) N1.length oc) (X):=lies_own (by have h:=HJ1.out.lo;exact h) (by have h:(X).length=N1.length:=HXL.out;omega);have d1:=(show Cs w1 (w.heap.size+1) [_]from⟨_,HJ1.out.theirs⟩).cell 0 rfl;have y0:=(show Cs w1 w0.heap.size [_]from⟨_,HJ1.out.out⟩).cell 0 rfl;go_wp2_with fail;refine(alike_any (X) T _ _ p _ hlX (HLT.out.below HJ1.out.bel)).mono ?_
                   rintro e w3 ⟨rfl,hb3⟩;rw[HKT.out _ (HSI.out.2)];have HJ3:=hid (HJ1.out.below hb3);clear d1 y0 hlX;cases kT:Mg.lk (Mg.st N1 p.data.toList) (Mg.st T p.data.toList)with
                   |true=>
                    obtain⟨kk,hkk,z1,z2⟩:=Mg.st_there (S:=T) (p:=p.data.toList) (fun h=>HW0.out (by rw[(Mg.lk_iff.1 kT).1];exact h))
                    obtain⟨aS,cS,eS,_,_,hLS⟩:=HLT.out
                    injection eS with eS _ eC
                    subst eS;subst eC;obtain⟨bS,oS,rfl,hbS,heS⟩:=hLS kk hkk
                    obtain⟨_,_,_,c3⟩:=heS.below hbS HJ3.out.bel
                    have hkki:(kk:Int)<T.length:=by omega
                    have HZ1:=hid z1;have HZ2:=hid z2;have hgl:=HJ3.out.lo.lt g rfl;have q1: ¬w0.heap.size=g:=fun e=>own_ne_box HJ3.out.lo HJ3.out.out rj_types.1 (by rw[e];rfl)
                    have q2: ¬(w.heap.size+1)=g:=fun e=>own_ne_box HJ3.out.lo HJ3.out.theirs rj_types.1 (by rw[e];rfl)
                    have q3: ¬bS=g:=by have:=hgl.1;omega
                    have HB1:=hid (show∀W',w3.grownBy W' (some g)→W'.cell? ⟨w0.heap.size,0,none⟩=some (.slice (some ⟨g,0,none⟩) N1.length oc)from fun W' hW=>(hW.cell_far ⟨w0.heap.size,0,none⟩ (heap_lt HJ3.out.out) (fun e=>q1 (by injection e))).trans ((show Cs w3 w0.heap.size [_]from⟨_,HJ3.out.out⟩).cell 0 rfl));have HB2:=hid (show∀W',w3.grownBy W' (some g)→W'.cell? ⟨(w.heap.size+1),0,none⟩=some (.slice (some ⟨bS,oS,none⟩) T.length ct)from fun W' hW=>(hW.cell_far ⟨(w.heap.size+1),0,none⟩ (heap_lt HJ3.out.theirs) (fun e=>q2 (by injection e))).trans ((show Cs w3 (w.heap.size+1) [_]from⟨_,HJ3.out.theirs⟩).cell 0 rfl));have HB3:=hid (show∀W',w3.grownBy W' (some g)→W'.cell? ⟨bS,oS+kk*4+3,none⟩=some (.int .i64 T[kk].ver)from fun W' hW=>(hW.cell_far ⟨bS,oS+kk*4+3,none⟩ (by have:=HJ3.out.bel.size;show bS<_;omega) (fun e=>q3 (by injection e))).trans c3)
                    have HLO:=hid (show∀W',Below w3.heap.size w3 W'→ ∃u:Int,W'.cell? ⟨g,i*4+3,none⟩=some (.int .i64 u)∧W'.frozen? ⟨g,i*4+3,none⟩=false from fun W' hW=>by
                     have h:=(HJ3.out.below hW).lo;have hxl:(X).length=N1.length:=HXL.out;rw[hxl]at h;have hi':i<(X).length:=by omega
                     have h1:=h.cellAt (i*4+3) (by omega);rw[Pp.flat_at _ i hi' 3 (by decide)]at h1;exact⟨_,h1,h.frozenAt _⟩)
                    generalize hvk:T[kk].ver=vk at*;have hdr:Below w3.heap.size w3 w3.drew:=(Below.refl _ _).drew;have hdg:w3.grownBy w3.drew (some g):=⟨hdr.os,hdr.tape,hdr.output,hdr.size,fun b hb _=>hdr.block b hb⟩
                    have hwl:=HJ3.out.bel.size;clear heS hLS z1 z2 hvk c3;go_wp2_with fail;refine verRegT (S:=T) (p:=p) (kk:=kk) (vk:=vk) (i:=i) (g:=g) (fun _ _ _ _ _ h=>h) rfl rfl rfl rfl rfl HB1.out HB2.out HB3.out HLO.out (fun W' hW=>HLT.out.below (HJ3.out.below hW).bel) HZ1.out hkki hili (fun wq hbq2=>?_)
                    simp only[List.setIfInBounds_toArray,List.set_cons_zero,List.set_cons_succ];have HJw4:=hid (RJ.ver (N:=(X)) (i:=i) (HJ3.out.below hbq2) (show N1.length=(X).length from HXL.out.symm) (by have h:(X).length=N1.length:=HXL.out;omega) vk);generalize wq.setCell ⟨g,i*4+3,none⟩ (.int .i64 vk)=w4 at*;clear hbq2 HLO HB1 HB2 HB3 hgl q1 q2 q3 hdr hdg
                    have HEQ:=hid (show Mg.setV X i vk=Mg.outV M T N1 (i+1)from by
                     have hv:Mg.ver M T N1 p.data.toList=vk:=by rw[Mg.ver,if_pos kT];exact HZ2.out
                     rw[←HY.out,HSU.out,hv])
                    rw[HEQ.out]at HJw4;clear HSU HV1 HSI HKM HKT HW0 HXL HY HEQ;go_wp2_with fail;go_roundw
                    case rel=>exact⟨i+1,by omega,rfl,HJw4⟩
                    case measure=>simp[intOf];omega
                   |false=>
                    have HEQ:=hid (show X=Mg.outV M T N1 (i+1)from by
                     have hv:Mg.ver M T N1 p.data.toList=1:=by rw[Mg.ver,if_neg (by rw[kT];decide),if_neg (by rw[kM];decide)]
                     rw[←HY.out,HSU.out,hv,HV1.out])
                    rw[HEQ.out]at HJ3;clear HSU HV1 HSI HKM HKT HW0 HXL HY HEQ;go_wp2_with fail;go_roundw
                    case rel=>exact⟨i+1,by omega,rfl,HJ3⟩
                    case measure=>simp[intOf];omega
                · have hili: ¬(i:Int)<N1.length:=by omega
                  have HJE:=hid (show RJ w0 wr w.heap.size (w.heap.size+1) w0.heap.size (w0.heap.size+2) (w0.heap.size+1) (.slice am M.length cm) (.slice at' T.length ct) (.slice oa N1.length oc) vc1 M T (Mg.outs M T N1) C1 from by
                   have h:=HJ.out;rw[show i=N1.length by omega,Mg.outV_all]at h;exact h)
                  have y2:=(show Cs wr (w0.heap.size+1) [_]from⟨_,HJE.out.copies⟩).cell 0 rfl;obtain⟨ca,cc,rfl⟩:=ownsRow_shape HJE.out.row
                  have hbb:Below w.heap.size w wr:=hb0.trans (HJE.out.bel.mono hb0.size);have HLE:=hid (show Lies wr.drew (.slice oa N1.length oc) (Mg.outs M T N1)from(lies_own HJE.out.lo (by rw[Mg.outs,List.length_map];omega)).below (Below.refl _ _).drew);have HLK:=hid (show LiesK wr.drew (.slice ca C1.length cc) C1 from(liesK_row HJE.out.row hc9).below (Below.refl _ _).drew);have HLO:=hid (show Own w.heap.size wr.drew (.slice oa N1.length oc)∧Own w.heap.size wr.drew (.slice ca C1.length cc)from⟨((own_row HJE.out.lo).below (Below.refl _ _).drew).mono hb0.size,((own_row HJE.out.row).below (Below.refl _ _).drew).mono hb0.size⟩);go_wp2_with fail;go_region
                  go_wp2_with fail;refine bodyPost_ret (v:= .tuple #[.slice oa N1.length oc,.slice ca C1.length cc,.int .i64 0]) (by simp[results,Tryz.results16,go_sem]) rfl (MoPost.some HOK.out HLE.out HLK.out HLO.out hbb.drew)
end Go.Proofs.YtagibnejodgeeaaGreatDoor
