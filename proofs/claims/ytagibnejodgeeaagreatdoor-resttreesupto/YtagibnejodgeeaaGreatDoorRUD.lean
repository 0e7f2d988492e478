/- What tree.checkTo and checkPlace answer, for every change that is right by itself. -/
import Derived.Test.YtagibnejodgeeaaGreatDoorRUC
import Derived.Test.YtagibnejodgeeaaGreatDoorRUA
import Derived.Shelf.SlSortCmp.WholeK
import Derived.Test.YtagibnejodgeeaaGreatDoorRUB
import Derived.Test.YtagibnejodgeeaaGreatDoorShelfS
import Derived.Lib.OwnBridge
import Derived.Deep.RegionHeld3
import Derived.Deep.RegionLaw
import Derived.Deep.DeepCutAuto
set_option linter.unusedSimpArgs false
set_option linter.unusedVariables false
namespace Go.Proofs.YtagibnejodgeeaaGreatDoor
open Go.RowKit

namespace Pp
def toE (L:List En) (p q:List UInt8):Int:=if isInB q p=true then 3 else if(L.find? (atB q)).isSome=true then 6 else 0
end Pp

set_option maxHeartbeats 1000000 in
theorem checkTo_any (L:List En) (v:Value) (k:Int) (p q t:ByteArray) (b:Int) (w:World) (hv:Lies w v L) (hs: ∀e∈L,e.path.size≤1000000000000000) (hp:p.size≤1000000000000000) (hq:q.size≤1000000000000000) (hc:Pp.chk p.data.toList=0) (hd:Pp.chk q.data.toList=0):
    Calls Tryz.prog 76 #[v,.agg #[.int .i64 k,.string p,.string q,.string t,.int .i64 b]] w fun e w'=>e= .returned (.int .i64 (Pp.toE L p.data.toList q.data.toList))∧Below w.heap.size w w':=by
 have HV:Hid (Lies w v L):=hv;have HS:Hid (∀e∈L,e.path.size≤1000000000000000):=hs;have hck:(Pp.chks [q.data.toList,p.data.toList]==0)=true:=by simp[Pp.chks,hc,hd]
 clear hv hs hc hd;cases hi:Pp.isInB q.data.toList p.data.toList with
 |true=>
  have HI:=hid (show(Pp.chks [q.data.toList,p.data.toList]==0 && Pp.isInB q.data.toList p.data.toList)=true from by rw[hck,hi];rfl);have HE:=hid (show 3=Pp.toE L p.data.toList q.data.toList from by rw[Pp.toE,if_pos hi]);clear hi hck;go_enter Tryz.func76,Tryz.ntmps76
  go_wp2_with fail;refine(within_any q p _ hq hp).mono ?_
  rintro e w1 ⟨rfl,hb1⟩;rw[HI.out];obtain⟨c0,c1,c2,c3,c4,hbw,hlt⟩:=bx5 hb1
  clear hb1;go_wp2_with fail;go_ret;exact⟨Pp.ret_int HE.out,hbw⟩
 |false=>
  have HI:=hid (show(Pp.chks [q.data.toList,p.data.toList]==0 && Pp.isInB q.data.toList p.data.toList)=false from by rw[hck,hi];rfl);have hE:Pp.toE L p.data.toList q.data.toList=if(L.find? (Pp.atB q.data.toList)).isSome=true then 6 else 0:=by rw[Pp.toE,if_neg (by rw[hi];decide)]
  clear hi hck
  have hcs:(L.find? (Pp.atB q.data.toList)=none∧Hid (0=Pp.toE L p.data.toList q.data.toList))∨ ∃x,L.find? (Pp.atB q.data.toList)=some x∧Hid (6=Pp.toE L p.data.toList q.data.toList):=by
   cases hf:L.find? (Pp.atB q.data.toList)with
   |none=>exact Or.inl ⟨rfl,(by rw[hE,hf];rfl:0=Pp.toE L p.data.toList q.data.toList)⟩
   |some x=>exact Or.inr ⟨x,rfl,(by rw[hE,hf];rfl:6=Pp.toE L p.data.toList q.data.toList)⟩
  clear hE;rcases hcs with⟨hf,HE⟩|⟨x,hf,HE⟩
  all_goals
   have HF:=hid hf;clear hf;go_enter Tryz.func76,Tryz.ntmps76
   go_wp2_with fail;refine(within_any q p _ hq hp).mono ?_
   rintro e w1 ⟨rfl,hb1⟩;rw[HI.out];obtain⟨c0,c1,c2,c3,c4,hbw,hlt⟩:=bx5 hb1
   go_wp2_with fail;refine(at_any q _).mono ?_
   rintro e w2 ⟨rfl,hta,hb2⟩;have HT:Hid (Tells w2 93 #[.pointer (some ⟨w1.heap.size,0,none⟩)] (Pp.atB q.data.toList)):=hta;have hb02:=hb1.trans (hb2.mono hb1.size);clear hta c0 c1 c2 c3 c4 hbw hlt hb1 hb2;obtain⟨c0,c1,c2,c3,c4,hbw,hlt⟩:=bx5 hb02
   go_wp2_with fail;refine(first_any L v _ _ _ _ (HV.out.below hbw) HT.out HS.out).mono ?_
   rintro e w4 ⟨rfl,hb4⟩;rw[HF.out,fnd];have hb04:=hb02.trans (hb4.mono hb02.size);clear c0 c1 c2 c3 c4 hbw hlt hb02 hb4;obtain⟨c0,c1,c2,c3,c4,hbw,hlt⟩:=bx5 hb04
   clear hb04;go_wp2_with fail;go_ret;exact⟨Pp.ret_int HE.out,hbw.alloc (Nat.le_of_lt hlt) _⟩
namespace Pp
theorem pl_fold {L:List En} {c:Ch} (h: ¬foldE L (par (goal c))=0):foldE L (par (goal c))=plcE L c:=by rw[plcE,if_pos h]
theorem pl_none {L:List En} {c:Ch} (h:foldE L (par (goal c))=0) (hf:L.find? (atB c.p.data.toList)=none):plcE L c=if c.k=3∨c.k=4 then 5 else 0:=by rw[plcE,if_neg (fun x=>x h),hf]
theorem pl_some {L:List En} {c:Ch} (h:foldE L (par (goal c))=0) {x:En} (hf:L.find? (atB c.p.data.toList)=some x):plcE L c=if c.k=1 then 6 else if c.k=2 then(if x.folder=true then 4 else 0)else if c.k=3 then toE L c.p.data.toList c.q.data.toList else 0:=by
 rw[plcE,if_neg (fun x=>x h),hf];rfl
end Pp

set_option maxHeartbeats 2000000 in
theorem checkPlace_any (L:List En) (v:Value) (k:Int) (p q t:ByteArray) (b:Int) (w:World) (hv:Lies w v L) (hs: ∀e∈L,e.path.size≤1000000000000000) (hp:p.size≤1000000000000000) (hq:q.size≤1000000000000000) (hg:Pp.chgE ⟨k,p,q,t,b⟩=0):
    Calls Tryz.prog 54 #[v,.agg #[.int .i64 k,.string p,.string q,.string t,.int .i64 b]] w fun e w'=>e= .returned (.int .i64 (Pp.plcE L ⟨k,p,q,t,b⟩))∧Below w.heap.size w w':=by
 have hkk:=Pp.chg_kind hg;have HC:Hid (Pp.chk p.data.toList=0):=Pp.chg_path hg;have HV:Hid (Lies w v L):=hv;have HS:Hid (∀e∈L,e.path.size≤1000000000000000):=hs;have h4:(k=1∨k=2∨k=4)∨k=3:=by simp only at hkk;omega
 clear hv hs hkk;rcases h4 with h4|rfl
 · have hgo:Pp.goal ⟨k,p,q,t,b⟩=p.data.toList:=by rw[Pp.goal,if_neg (by simp only;omega)]
   clear hg;by_cases hf0:Pp.foldE L (Pp.par p.data.toList)=0
   · have HP:Hid (Pp.foldE L (Pp.par p.data.toList)=0):=hf0
     rw[←hgo]at hf0
     have hcs:(L.find? (Pp.atB p.data.toList)=none)∨ ∃x,L.find? (Pp.atB p.data.toList)=some x:=by
      cases L.find? (Pp.atB p.data.toList)with
      |none=>exact Or.inl rfl
      |some x=>exact Or.inr ⟨x,rfl⟩
     rcases hcs with hf|⟨x,hf⟩
     · have hE:=Pp.pl_none (c:=⟨k,p,q,t,b⟩) hf0 hf
       have HF:=hid hf;clear hf hf0 hgo;rcases h4 with rfl|rfl|rfl
       all_goals
        simp only[Int.reduceEq,or_self,or_true,or_false,if_true,if_false]at hE;have HE:=hid hE;clear hE;go_enter Tryz.func54,Tryz.ntmps54
        go_wp2_with fail;refine(parent_any p _ hp).mono ?_
        rintro e w1 ⟨rfl,hb1⟩;rw[HC.out,Pp.ifc_yes rfl];obtain⟨c0,c1,c2,c3,c4,hbw,hlt⟩:=bx5 hb1
        go_wp2_with fail;refine(checkFolder_any L v ⟨(Pp.par p.data.toList).toArray⟩ _ (HV.out.below hbw) HS.out).mono ?_
        rintro e w2 ⟨rfl,hb2⟩;rw[show Pp.foldE L _=0 from HP.out];have hb02:=hb1.trans (hb2.mono hb1.size);clear c0 c1 c2 c3 c4 hbw hlt hb1 hb2;obtain⟨c0,c1,c2,c3,c4,hbw,hlt⟩:=bx5 hb02
        go_wp2_with fail;refine(at_any p _).mono ?_
        rintro e w3 ⟨rfl,hta,hb3⟩;have HT:Hid (Tells w3 93 #[.pointer (some ⟨w2.heap.size,0,none⟩)] (Pp.atB p.data.toList)):=hta;have hb03:=hb02.trans (hb3.mono hb02.size);clear hta c0 c1 c2 c3 c4 hbw hlt hb02 hb3;obtain⟨c0,c1,c2,c3,c4,hbw,hlt⟩:=bx5 hb03
        go_wp2_with fail;refine(first_any L v _ _ _ _ (HV.out.below hbw) HT.out HS.out).mono ?_
        rintro e w4 ⟨rfl,hb4⟩;rw[HF.out,fnd];have hb04:=hb03.trans (hb4.mono hb03.size);clear c0 c1 c2 c3 c4 hbw hlt hb03 hb4;obtain⟨c0,c1,c2,c3,c4,hbw,hlt⟩:=bx5 hb04
        clear hb04;go_wp2_with fail;go_ret;exact⟨Pp.ret_int HE.out.symm,hbw.alloc (Nat.le_of_lt hlt) _⟩
     · have hE:=Pp.pl_some (c:=⟨k,p,q,t,b⟩) hf0 hf
       have HF:=hid hf;clear hf hf0 hgo;rcases h4 with rfl|rfl|rfl
       all_goals
        cases hx:x.folder
       all_goals
        simp only[Int.reduceEq,hx,or_self,or_true,or_false,if_true,if_false,Bool.false_eq_true]at hE;have HE:=hid hE;clear hE;go_enter Tryz.func54,Tryz.ntmps54
        go_wp2_with fail;refine(parent_any p _ hp).mono ?_
        rintro e w1 ⟨rfl,hb1⟩;rw[HC.out,Pp.ifc_yes rfl];obtain⟨c0,c1,c2,c3,c4,hbw,hlt⟩:=bx5 hb1
        go_wp2_with fail;refine(checkFolder_any L v ⟨(Pp.par p.data.toList).toArray⟩ _ (HV.out.below hbw) HS.out).mono ?_
        rintro e w2 ⟨rfl,hb2⟩;rw[show Pp.foldE L _=0 from HP.out];have hb02:=hb1.trans (hb2.mono hb1.size);clear c0 c1 c2 c3 c4 hbw hlt hb1 hb2;obtain⟨c0,c1,c2,c3,c4,hbw,hlt⟩:=bx5 hb02
        go_wp2_with fail;refine(at_any p _).mono ?_
        rintro e w3 ⟨rfl,hta,hb3⟩;have HT:Hid (Tells w3 93 #[.pointer (some ⟨w2.heap.size,0,none⟩)] (Pp.atB p.data.toList)):=hta;have hb03:=hb02.trans (hb3.mono hb02.size);clear hta c0 c1 c2 c3 c4 hbw hlt hb02 hb3;obtain⟨c0,c1,c2,c3,c4,hbw,hlt⟩:=bx5 hb03
        go_wp2_with fail;refine(first_any L v _ _ _ _ (HV.out.below hbw) HT.out HS.out).mono ?_
        rintro e w4 ⟨rfl,hb4⟩;rw[HF.out,fnd,hx];have hb04:=hb03.trans (hb4.mono hb03.size);clear c0 c1 c2 c3 c4 hbw hlt hb03 hb4;obtain⟨c0,c1,c2,c3,c4,hbw,hlt⟩:=bx5 hb04
        clear hb04;go_wp2_with fail;go_ret;exact⟨Pp.ret_int HE.out.symm,hbw.alloc (Nat.le_of_lt hlt) _⟩
   · have hz2:(Pp.foldE L (Pp.par p.data.toList)==0)=false:=by simpa using hf0
     have HE:=hid (show Pp.foldE L (Pp.par p.data.toList)=Pp.plcE L ⟨k,p,q,t,b⟩from by rw[←Pp.pl_fold (by rw[hgo];exact hf0),hgo]);clear hf0 hgo;rcases h4 with rfl|rfl|rfl
     all_goals
      go_enter Tryz.func54,Tryz.ntmps54
      go_wp2_with fail;refine(parent_any p _ hp).mono ?_
      rintro e w1 ⟨rfl,hb1⟩;rw[HC.out,Pp.ifc_yes rfl];obtain⟨c0,c1,c2,c3,c4,hbw,hlt⟩:=bx5 hb1
      go_wp2_with fail;refine(checkFolder_any L v ⟨(Pp.par p.data.toList).toArray⟩ _ (HV.out.below hbw) HS.out).mono ?_
      rintro e w2 ⟨rfl,hb2⟩;have hb02:=hb1.trans (hb2.mono hb1.size);clear c0 c1 c2 c3 c4 hbw hlt hb1 hb2;obtain⟨c0,c1,c2,c3,c4,hbw,hlt⟩:=bx5 hb02
      clear hb02;have hz3:(Pp.foldE L (⟨(Pp.par p.data.toList).toArray⟩:ByteArray).data.toList==0)=false:=hz2;generalize hG:Pp.foldE L (⟨(Pp.par p.data.toList).toArray⟩:ByteArray).data.toList=G at*;have hz4:(G==0)=false:=hz3;go_wp2_with fail;go_ret;exact⟨Pp.ret_int HE.out,hbw⟩
 · have hgo:Pp.goal ⟨3,p,q,t,b⟩=q.data.toList:=rfl
   have HQ:Hid (Pp.chk q.data.toList=0):=Pp.chg_to hg rfl;clear hg;by_cases hf0:Pp.foldE L (Pp.par q.data.toList)=0
   · have HP:Hid (Pp.foldE L (Pp.par q.data.toList)=0):=hf0
     rw[←hgo]at hf0
     have hcs:(L.find? (Pp.atB p.data.toList)=none)∨ ∃x,L.find? (Pp.atB p.data.toList)=some x:=by
      cases L.find? (Pp.atB p.data.toList)with
      |none=>exact Or.inl rfl
      |some x=>exact Or.inr ⟨x,rfl⟩
     rcases hcs with hf|⟨x,hf⟩
     · have hE:=Pp.pl_none (c:=⟨3,p,q,t,b⟩) hf0 hf
       have HF:=hid hf;clear hf hf0 hgo;simp only[Int.reduceEq,or_self,or_true,or_false,if_true,if_false]at hE;have HE:=hid hE;clear hE;go_enter Tryz.func54,Tryz.ntmps54
       go_wp2_with fail;refine(parent_any p _ hp).mono ?_
       rintro e w0 ⟨rfl,hb0⟩;rw[HC.out,Pp.ifc_yes rfl];obtain⟨c0,c1,c2,c3,c4,hbw,hlt⟩:=bx5 hb0
       go_wp2_with fail;refine(parent_any q _ hq).mono ?_
       rintro e w1 ⟨rfl,hb1⟩;rw[HQ.out,Pp.ifc_yes rfl];have hb01:=hb0.trans (hb1.mono hb0.size);clear c0 c1 c2 c3 c4 hbw hlt hb0 hb1;obtain⟨c0,c1,c2,c3,c4,hbw,hlt⟩:=bx5 hb01
       go_wp2_with fail;refine(checkFolder_any L v ⟨(Pp.par q.data.toList).toArray⟩ _ (HV.out.below hbw) HS.out).mono ?_
       rintro e w2 ⟨rfl,hb2⟩;rw[show Pp.foldE L _=0 from HP.out];have hb02:=hb01.trans (hb2.mono hb01.size);clear c0 c1 c2 c3 c4 hbw hlt hb01 hb2;obtain⟨c0,c1,c2,c3,c4,hbw,hlt⟩:=bx5 hb02
       go_wp2_with fail;refine(at_any p _).mono ?_
       rintro e w3 ⟨rfl,hta,hb3⟩;have HT:Hid (Tells w3 93 #[.pointer (some ⟨w2.heap.size,0,none⟩)] (Pp.atB p.data.toList)):=hta;have hb03:=hb02.trans (hb3.mono hb02.size);clear hta c0 c1 c2 c3 c4 hbw hlt hb02 hb3;obtain⟨c0,c1,c2,c3,c4,hbw,hlt⟩:=bx5 hb03
       go_wp2_with fail;refine(first_any L v _ _ _ _ (HV.out.below hbw) HT.out HS.out).mono ?_
       rintro e w4 ⟨rfl,hb4⟩;rw[HF.out,fnd];have hb04:=hb03.trans (hb4.mono hb03.size);clear c0 c1 c2 c3 c4 hbw hlt hb03 hb4;obtain⟨c0,c1,c2,c3,c4,hbw,hlt⟩:=bx5 hb04
       clear hb04;go_wp2_with fail;go_ret;exact⟨Pp.ret_int HE.out.symm,hbw.alloc (Nat.le_of_lt hlt) _⟩
     · have hE:=Pp.pl_some (c:=⟨3,p,q,t,b⟩) hf0 hf
       have HF:=hid hf;clear hf hf0 hgo;simp only[Int.reduceEq,or_self,or_true,or_false,if_true,if_false]at hE;have HE:=hid hE;clear hE;go_enter Tryz.func54,Tryz.ntmps54
       go_wp2_with fail;refine(parent_any p _ hp).mono ?_
       rintro e w0 ⟨rfl,hb0⟩;rw[HC.out,Pp.ifc_yes rfl];obtain⟨c0,c1,c2,c3,c4,hbw,hlt⟩:=bx5 hb0
       go_wp2_with fail;refine(parent_any q _ hq).mono ?_
       rintro e w1 ⟨rfl,hb1⟩;rw[HQ.out,Pp.ifc_yes rfl];have hb01:=hb0.trans (hb1.mono hb0.size);clear c0 c1 c2 c3 c4 hbw hlt hb0 hb1;obtain⟨c0,c1,c2,c3,c4,hbw,hlt⟩:=bx5 hb01
       go_wp2_with fail;refine(checkFolder_any L v ⟨(Pp.par q.data.toList).toArray⟩ _ (HV.out.below hbw) HS.out).mono ?_
       rintro e w2 ⟨rfl,hb2⟩;rw[show Pp.foldE L _=0 from HP.out];have hb02:=hb01.trans (hb2.mono hb01.size);clear c0 c1 c2 c3 c4 hbw hlt hb01 hb2;obtain⟨c0,c1,c2,c3,c4,hbw,hlt⟩:=bx5 hb02
       go_wp2_with fail;refine(at_any p _).mono ?_
       rintro e w3 ⟨rfl,hta,hb3⟩;have HT:Hid (Tells w3 93 #[.pointer (some ⟨w2.heap.size,0,none⟩)] (Pp.atB p.data.toList)):=hta;have hb03:=hb02.trans (hb3.mono hb02.size);clear hta c0 c1 c2 c3 c4 hbw hlt hb02 hb3;obtain⟨c0,c1,c2,c3,c4,hbw,hlt⟩:=bx5 hb03
       go_wp2_with fail;refine(first_any L v _ _ _ _ (HV.out.below hbw) HT.out HS.out).mono ?_
       rintro e w4 ⟨rfl,hb4⟩;rw[HF.out,fnd];have hb04:=hb03.trans (hb4.mono hb03.size);clear c0 c1 c2 c3 c4 hbw hlt hb03 hb4;obtain⟨c0,c1,c2,c3,c4,hbw,hlt⟩:=bx5 hb04
       go_wp2_with fail;refine(checkTo_any L v 3 p q t b _ (HV.out.below (hbw.alloc (Nat.le_of_lt hlt) _)) HS.out hp hq HC.out HQ.out).mono ?_
       rintro e w5 ⟨rfl,hb5⟩;have hb05:Below w.heap.size w w5:=(hbw.alloc (Nat.le_of_lt hlt) _).trans (hb5.mono (by simp;omega));clear c0 c1 c2 c3 c4 hbw hlt hb04 hb5;go_wp2_with fail;go_ret;exact⟨Pp.ret_int HE.out.symm,hb05⟩
   · have hz2:(Pp.foldE L (Pp.par q.data.toList)==0)=false:=by simpa using hf0
     have HE:=hid (show Pp.foldE L (Pp.par q.data.toList)=Pp.plcE L ⟨3,p,q,t,b⟩from by rw[←Pp.pl_fold (by rw[hgo];exact hf0),hgo]);clear hf0 hgo;go_enter Tryz.func54,Tryz.ntmps54
     go_wp2_with fail;refine(parent_any p _ hp).mono ?_
     rintro e w0 ⟨rfl,hb0⟩;rw[HC.out,Pp.ifc_yes rfl];obtain⟨c0,c1,c2,c3,c4,hbw,hlt⟩:=bx5 hb0
     go_wp2_with fail;refine(parent_any q _ hq).mono ?_
     rintro e w1 ⟨rfl,hb1⟩;rw[HQ.out,Pp.ifc_yes rfl];have hb01:=hb0.trans (hb1.mono hb0.size);clear c0 c1 c2 c3 c4 hbw hlt hb0 hb1;obtain⟨c0,c1,c2,c3,c4,hbw,hlt⟩:=bx5 hb01
     go_wp2_with fail;refine(checkFolder_any L v ⟨(Pp.par q.data.toList).toArray⟩ _ (HV.out.below hbw) HS.out).mono ?_
     rintro e w2 ⟨rfl,hb2⟩;have hb02:=hb01.trans (hb2.mono hb01.size);clear c0 c1 c2 c3 c4 hbw hlt hb01 hb2;obtain⟨c0,c1,c2,c3,c4,hbw,hlt⟩:=bx5 hb02
     clear hb02;have hz3:(Pp.foldE L (⟨(Pp.par q.data.toList).toArray⟩:ByteArray).data.toList==0)=false:=hz2;generalize hG:Pp.foldE L (⟨(Pp.par q.data.toList).toArray⟩:ByteArray).data.toList=G at*;go_wp2_with fail;go_ret;exact⟨Pp.ret_int HE.out,hbw⟩
end Go.Proofs.YtagibnejodgeeaaGreatDoor
namespace Go.Proofs.YtagibnejodgeeaaGreatDoor.Pp
theorem ltOf_eq (x y:En):ltOf cfE x y=lt x y:=by rw[lt_cfE];rfl
theorem swo:Sort.SWO (ltOf cfE) where
 irrefl x:=by rw[ltOf_eq];exact lt_irrefl x
 trans x y z h1 h2:=by rw[ltOf_eq]at*;exact lt_trans x y z h1 h2
 ntrans x y z h1 h2:=by rw[ltOf_eq]at*;exact lt_ntrans x y z h1 h2
end Go.Proofs.YtagibnejodgeeaaGreatDoor.Pp
namespace Go.Proofs.YtagibnejodgeeaaGreatDoor
open Go.RowKit

set_option maxHeartbeats 400000 in
theorem cmp1_any (x y:En) (W:World):Calls Tryz.prog 114 #[.agg #[.string x.path,.bool x.folder,.string x.text,.int .i64 x.ver],.agg #[.string y.path,.bool y.folder,.string y.text,.int .i64 y.ver]] W fun e w'=>e= .returned (.int .i64 (Pp.cfE x y))∧ ∃q os',w'=Sort.grow (W.drewN q) os':=by
 have HC:Hid (Lib.compareBytes x.path.data.toList y.path.data.toList=Pp.cfE x y):=rfl;go_enter Tryz.func114,Tryz.ntmps114
 go_wp2_with fail;refine(Tryz.strings_Compare _ _ _).mono ?_
 rintro e w1 ⟨rfl,rfl⟩;rw[HC.out];go_wp2;go_ret;exact⟨rfl,0,_,by rw[Sort.alloc_eq_grow,Sort.alloc_eq_grow,Sort.grow_grow];rfl⟩
namespace Pp
theorem below_grow {B:Nat} {w0 w:World} (h:Below B w0 w) (hB:B≤w.heap.size) (os:Array Obj):Below B w0 (Sort.grow w os):=
 h.trans ⟨rfl,rfl,rfl,by simp[Sort.grow],fun k hk=>by simp[Sort.grow,Array.getElem?_append_left (show k<w.heap.size by omega)]⟩
theorem flat_get: ∀(L:List En) (i c:Nat) (h:i<L.length),c<4→(flat L)[i*4+c]?=(cells L[i])[c]?
 |[],i,c,h,_=>absurd h (Nat.not_lt_zero _)
 |a::r,0,c,_,hc=>by
  rw[flat,List.flatMap_cons,Nat.zero_mul,Nat.zero_add,List.getElem?_append_left (by simpa[cells]using hc)];rfl
 |a::r,i+1,c,h,hc=>by
  have ih:=flat_get r i c (by simpa using h) hc;rw[flat,List.flatMap_cons,List.getElem?_append_right (by simp[cells];omega)];rw[show(i+1)*4+c-(cells a).length=i*4+c by simp[cells];omega];exact ih
theorem cells_get (e:En) (c:Nat) (hc:c<4):(cells e)[c]?=some ((cells e)[c]!):=by
 have:c<(cells e).length:=by simpa[cells]using hc
 rw[List.getElem?_eq_getElem this,getElem!_pos _ c this]
/-- An own row holds its entries, as the sort asks. -/
theorem holds_own [Inhabited En] {w:World} {base g n cap:Nat} {T:TypeId} {L:List En} (h:w.ownsRow base T 4 (.slice (some ⟨g,0,none⟩) n cap) n (flat L)) (hn:n=L.length):Sort.HoldsK cells 4 w g 0 L.toArray:=by
 subst hn;intro j hj;rw[Sort.size_flatK,List.size_toArray]at hj;refine⟨?_,by rw[Nat.zero_add];exact h.frozenAt j⟩
 rw[Nat.zero_add,h.cellAt j hj,id,Sort.get_flatK _ _ _ _ (by simpa using hj)];have h1:j/4<L.length:=by omega
 have h2:=flat_get L (j/4) (j % 4) h1 (by omega);rw[show j/4*4+j % 4=j by omega]at h2;rw[h2,cells_get _ _ (by omega)];have e:L.toArray[j/4]! =L[j/4]:=by rw[getElem!_pos _ _ (by simpa using h1)];simp
 rw[e]
theorem heap_sorted {α:Type} [Inhabited α] (enc:α→List Value) (k:Nat) {w:World} {g n:Nat} (d:Array α) (os:Array Obj) {cur:Array Value} {T:TypeId} {fz:Nat×Nat} (h:w.heap[g]?=some (.cells cur T fz)) (hg:g<w.heap.size): ∃cur',(sortWorldK enc k w g 0 n d os).heap[g]?=some (.cells cur' T fz):=by
 simp only[sortWorldK,Sort.putRowK,Sort.putRow,Sort.mapBlock,Sort.grow,Sort.ahead];rw[Array.getElem?_append_left (by simpa using hg),Array.getElem?_modify,if_pos rfl,h];exact⟨_,rfl⟩
theorem lies_holds [Inhabited En] {w:World} {g cap:Nat} {d:Array En} (hg:g<w.heap.size) (h:Sort.HoldsK cells 4 w g 0 d) (hc:d.size≤cap) (hc2:d.size≤1000000000000000):Lies w (.slice (some ⟨g,0,none⟩) d.size cap) d.toList:=by
 refine⟨some ⟨g,0,none⟩,cap,by simp,by simpa using hc,by simpa using hc2,fun i hi=>⟨g,0,rfl,hg,?_⟩⟩
 have hi':i<d.size:=by simpa using hi
 have e:d[i]! =d.toList[i]:=by rw[getElem!_pos d i hi'];simp
 have key: ∀c,c<4→w.cell? ⟨g,0+i*4+c,none⟩=(cells d.toList[i])[c]?:=by
  intro c hc4;have hj:i*4+c<d.size*4:=by omega
  have:=(h (i*4+c) (by rw[Sort.size_flatK];exact hj)).1
  rw[id,Sort.get_flatK _ _ _ _ hj,show(i*4+c)/4=i by omega,show(i*4+c) % 4=c by omega,e,←cells_get _ c hc4]at this;rw[Nat.add_assoc];exact this
 exact⟨key 0 (by omega),key 1 (by omega),key 2 (by omega),key 3 (by omega)⟩
end Pp

theorem hidO {p:Prop} (h:p):Hid p:=h
set_option maxHeartbeats 800000 in
theorem sortPaths_any (L:List En) (base g cap:Nat) (w:World) (ho:w.ownsRow base 27 4 (.slice (some ⟨g,0,none⟩) L.length cap) L.length (Pp.flat L)) (hn:L.length≤1000000000) (hc1:L.length≤cap) (hb:base≤g) (hg:g<w.heap.size):
    Calls Tryz.prog 96 #[.slice (some ⟨g,0,none⟩) L.length cap] w fun e w'=>e= .returned (.tuple #[])∧ ∃M:List En,M.Perm L∧M.Pairwise (fun a b=>Pp.lt b a=false)∧LiesF base w' (.slice (some ⟨g,0,none⟩) L.length cap) M∧Below base w w':=by
 have inst:Inhabited En:=⟨⟨⟨#[]⟩,false,⟨#[]⟩,0⟩⟩
 have hH:=Pp.holds_own ho rfl;have HOW:=hidO (own_row ho g rfl).2;have eg: ∀args w,(callFunc 114 args).run Tryz.prog w= .ok (.enter 114 args) w:=enters_of Tryz.func114 (by kernel_rfl) rfl;have hcon:=AnyQ.slices_SortFunc Tryz.sortE 4 Tryz.isAgg27 Tryz.sizeOf27 Pp.cells (fun _=>rfl) (fun x=>Pp.cells_one x) Pp.cfE Pp.swo 114 #[] g 0 cap L.toArray w eg (fun _ _ _ _ x y=>cmp1_any x y _) hH hg (by simp;omega);change Calls Tryz.prog 113 _ _ _ at hcon
 rw[List.size_toArray]at hcon;have HH:Hid (Sort.HoldsK Pp.cells 4 w g 0 L.toArray):=hH;clear hH ho eg;go_enter Tryz.func96,Tryz.ntmps96
 go_wp2_with fail;refine hcon.mono ?_
 rintro e w' ⟨rfl,d',n,os,hp,hsrt,rfl⟩;have HPP:Hid (Sort.PermIn 0 L.length L.toArray d'):=hp;have HSS:Hid (Sort.SortedIn (ltOf Pp.cfE) 0 L.length d'):=hsrt;clear hp hsrt hcon;go_wp2;go_end0
 have hsz:d'.size=L.length:=by have:=HPP.out.1;simpa using this
 refine⟨rfl,d'.toList,?_,?_,?_,?_⟩
 · have:=HPP.out.2.2
   rw[←hsz]at this;simp only[Array.extract_size]at this;rw[hsz,←List.size_toArray,Array.extract_size]at this;exact this
 · rw[List.pairwise_iff_getElem]
   intro i j hi hj hij;have hj':j<d'.size:=by simpa using hj
   have hi':i<d'.size:=by simpa using hi
   have:=HSS.out i j (Nat.zero_le _) hij (by omega)
   rw[Pp.ltOf_eq,getElem!_pos d' i hi',getElem!_pos d' j hj']at this;simpa using this
 · refine⟨?_,fun g' hg'=>by cases hg';obtain⟨cur,T,hh⟩:=HOW.out;exact⟨hb,(Pp.heap_sorted _ _ _ _ hh hg).imp fun _ h=>⟨T,h⟩⟩⟩
   rw[←hsz];exact Pp.lies_holds (by rw[sortWorldK];simp[Sort.grow,Sort.size_putRowK,Sort.ahead];omega) (holdsK_sortWorldK_c Pp.cells 4 w g 0 L.toArray d' n os HH.out hg (by rw[hsz];simp)) (by omega) (by omega)
 · exact Pp.below_grow (Lib.below_putRow (Below.refl base w) hb) (by simp[Sort.putRow,Sort.mapBlock,Sort.ahead];omega) os
end Go.Proofs.YtagibnejodgeeaaGreatDoor
namespace Go.Proofs.YtagibnejodgeeaaGreatDoor
open Go.RowKit

theorem step_append_own {P:Program} {ops:Array Oper} {o:Oper} {a:Act} {w:World} {K:Act→World→Prop} {Q:Exit→Act→World→Prop} {E:Prop}
    (hg:o.guard=none) (s x:Operand) (t:TypeId) (hop:o.op=Op.call {callee:=Callee.builtin Builtin.append,args:= #[s,x],argTypes:= #[t,t]})
    (base:Nat) (e:TypeId) (i:TypeInfo) (z:Value) (size bytes:Nat) (ht:P.underlying t=some (.slice e)) (hi:P.info? e=some i) (hz:i.zero=some z)
    (hsize:i.size=size) (hby:i.bytes=bytes) (hzs:z.cells.size=size) (hsz:0<size)
    (v:Value) (n:Nat) (xs:List Value) (hs:a.eval s=v) (hown:w.ownsRow base e size v n xs)
    (ad:Addr) (m c:Nat) (news:List Value) (hx:a.eval x= .slice (some ad) m c) (hl:news.length=m*size) (hnews: ∀j u,news[j]?=some u→w.cell? (ad.add j)=some u) (h1: ∀u∈news,u.oneCell'=true)
    (h63:n+m≤maxLen) (hbytes:(n+m)*bytes≤140737488355328) (hbase:base≤w.heap.size)
    (h: ∀v' w',w'.ownsRow base e size v' (n+m) (xs++news)→w.grownBy w' v.ownBlock→(v'= .slice none 0 0↔v= .slice none 0 0∧m=0)→K (a.put o.dst v') w'):
    if Region.wanted o (yielded ops a.tmps)=true then Oper.wp P o a w K Q else E:=by
 have hw:Region.wanted o (yielded ops a.tmps)=true:=by simp[Region.wanted,hg]
 rw[if_pos hw];exact wp_append_own w s x t hop base e i z size bytes ht hi hz hsize hby hzs hsz v n xs hs hown ad m c news hx hl hnews h1 h63 hbytes hbase h
theorem Pp.out_ne (x:En) (L:List En): ∀y∈L.filter (fun e=> !Pp.atB x.path.data.toList e),y.path.data.toList≠x.path.data.toList:=by
 intro y hy;have:=(List.mem_filter.1 hy).2
 simpa[Pp.atB]using this
/-- What is there but at a path. -/
def Pp.out (x:En) (L:List En):List En:=L.filter (fun e=> !Pp.atB x.path.data.toList e)
theorem Pp.own_mono {w:World} {base B:Nat} {e:TypeId} {size:Nat} {v:Value} {n:Nat} {xs:List Value} (h:w.ownsRow base e size v n xs) (hB:B≤base):w.ownsRow B e size v n xs:=by
 obtain⟨h1,h2⟩:=h
 refine⟨h1,?_⟩
 rcases h2 with h2|⟨g,cap,cur,hv,hg,r⟩
 · exact .inl h2
 · exact .inr ⟨g,cap,cur,hv,Nat.le_trans hB hg,r⟩
theorem Pp.carry {W W':World} {g:Nat} {news:List Value} (h:Below W.heap.size W W') (hg:g<W.heap.size) (hn: ∀j u,news[j]?=some u→W.cell? ((⟨g,0,none⟩:Addr).add j)=some u): ∀j u,news[j]?=some u→W'.cell? ((⟨g,0,none⟩:Addr).add j)=some u:=by
 intro j u hu;have hb:((⟨g,0,none⟩:Addr).add j).block=g:=by unfold Addr.add;split<;>rfl
 exact(h.cell (p:=(⟨g,0,none⟩:Addr).add j) (by rw[hb];exact hg)).trans (hn j u hu)
theorem new2 (w:World) (x:En) (T T':TypeId): ∀j u,(Pp.cells x)[j]?=some u→((w.alloc (.cells #[.string x.path,.bool x.folder,.string x.text,.int .i64 x.ver] T)).alloc (.cells #[.string x.path,.bool x.folder,.string x.text,.int .i64 x.ver] T')).drew.cell? ((⟨w.heap.size+1,0,none⟩:Addr).add j)=some u:=by
 intro j u hj;have h:=Pp.new_cells (w.alloc (.cells #[.string x.path,.bool x.folder,.string x.text,.int .i64 x.ver] T)) x T' j u hj;rw[show(w.alloc (.cells #[.string x.path,.bool x.folder,.string x.text,.int .i64 x.ver] T)).heap.size=w.heap.size+1 by simp]at h;exact h
theorem Pp.own_shape {w:World} {base:Nat} {T:TypeId} {v:Value} {L:List En} (h:w.ownsRow base T 4 v L.length (Pp.flat L)) (h0:L≠[]): ∃g cap,v= .slice (some ⟨g,0,none⟩) L.length cap∧base≤g∧g<w.heap.size∧L.length≤cap∧cap≤maxLen:=by
 obtain⟨hl,h2⟩:=h
 rcases h2 with⟨_,hz⟩|⟨g,cap,cur,rfl,hg,hh,hn,hm,hz,htake⟩
 · exact absurd (List.length_eq_zero_iff.1 hz) h0
 · have hlt:g<w.heap.size:=by
    rcases Nat.lt_or_ge g w.heap.size with h|h
    · exact h
    · rw[Array.getElem?_eq_none h]at hh;cases hh
   exact⟨g,cap,rfl,hg,hlt,hn,hm⟩
theorem keepBox {W W':World} (h:Below W.heap.size W W') {b:Nat} (hb:b<W.heap.size) (p:ByteArray) (f:Bool) (t:ByteArray) (n:Int) (h0:W.cell? ⟨b,0,none⟩=some (.string p)) (h1:W.cell? ⟨b,1,none⟩=some (.bool f)) (h2:W.cell? ⟨b,2,none⟩=some (.string t)) (h3:W.cell? ⟨b,3,none⟩=some (.int .i64 n)):
    W'.cell? ⟨b,0,none⟩=some (.string p)∧W'.cell? ⟨b,1,none⟩=some (.bool f)∧W'.cell? ⟨b,2,none⟩=some (.string t)∧W'.cell? ⟨b,3,none⟩=some (.int .i64 n):=
 ⟨(h.cell (p:=⟨b,0,none⟩) hb).trans h0,(h.cell (p:=⟨b,1,none⟩) hb).trans h1,(h.cell (p:=⟨b,2,none⟩) hb).trans h2,(h.cell (p:=⟨b,3,none⟩) hb).trans h3⟩
theorem keepGrown {W W':World} {row:Option Nat} (h:W.grownBy W' row) {b:Nat} (hb:some b≠row) (p:ByteArray) (f:Bool) (t:ByteArray) (n:Int) (h0:W.cell? ⟨b,0,none⟩=some (.string p)) (h1:W.cell? ⟨b,1,none⟩=some (.bool f)) (h2:W.cell? ⟨b,2,none⟩=some (.string t)) (h3:W.cell? ⟨b,3,none⟩=some (.int .i64 n)):
    W'.cell? ⟨b,0,none⟩=some (.string p)∧W'.cell? ⟨b,1,none⟩=some (.bool f)∧W'.cell? ⟨b,2,none⟩=some (.string t)∧W'.cell? ⟨b,3,none⟩=some (.int .i64 n):=
 ⟨h.cell h0 hb,h.cell h1 hb,h.cell h2 hb,h.cell h3 hb⟩
set_option maxRecDepth 100000 in
set_option maxHeartbeats 2000000 in
theorem put_own (L:List En) (v:Value) (x:En) (w:World) (hv:Lies w v L) (hn:L.length≤60) (hs:Sized L) (hx:x.path.size≤1000000000000000) (hL:L.Pairwise (fun x y=>Pp.lt x y=true)):
    Calls Tryz.prog 79 #[v,.agg #[.string x.path,.bool x.folder,.string x.text,.int .i64 x.ver]] w fun e w'=>
     (60<(Pp.out x L).length+1∧e= .returned (.tuple #[.slice none 0 0,.int .i64 2])∧Below w.heap.size w w')∨
     (¬60<(Pp.out x L).length+1∧ ∃u,e= .returned (.tuple #[u,.int .i64 0])∧LiesF w.heap.size w' u (Pp.ins x (Pp.out x L))∧Below w.heap.size w w'):=by
 obtain⟨i0,hi0,hz0,hz1,hz2⟩:=info_parts Tryz.infoE
 have HV:Hid (Lies w v L):=hv;have HS:Hid (Sized L):=hs;have HL:Hid (L.Pairwise (fun x y=>Pp.lt x y=true)):=hL;clear hv hs hL;have hfl:(L.filter (fun e=> !Pp.atB x.path.data.toList e)).length≤L.length:=List.length_filter_le _ _;go_enter Tryz.func79,Tryz.ntmps79
 go_wp2_with fail
 go_region_held3 (fun W=>W.cell? ⟨w.heap.size,0,none⟩=some (.string x.path)∧W.cell? ⟨w.heap.size,1,none⟩=some (.bool x.folder)∧W.cell? ⟨w.heap.size,2,none⟩=some (.string x.text)∧W.cell? ⟨w.heap.size,3,none⟩=some (.int .i64 x.ver)) (go_keep) (first
  |(go_at_call 75;refine(at_any _ _).mono ?_;rintro e wa ⟨rfl,hta,hba⟩;have hwa:Below w.heap.size w wa:=Below.trans (by go_grown) (hba.mono (by first|(simp;done)|(simp;omega)));have hsa:w.heap.size<wa.heap.size:=(by have:=hba.size;simp at this;omega);have kx:=keepBox (b:=w.heap.size) hba (by first|(simp;done)|(simp;omega)) x.path x.folder x.text x.ver (by simp) (by simp) (by simp) (by simp))
  |(go_at_call 81;refine(not_any _ _ (Pp.atB x.path.data.toList) _ (by first|(simpa using hta)|(simpa using hta.below ((Below.refl _ _).alloc (Nat.le_refl _) _)))).mono ?_;rintro e wb ⟨rfl,htb,hbb⟩;have hwb:Below w.heap.size w wb:=Below.trans (by go_grown) (hbb.mono (by(try simp);omega));have hsb:w.heap.size<wb.heap.size:=(by have:=hbb.size;(try simp at this);omega);have ky:=keepBox (b:=w.heap.size) hbb (by(try simp);omega) x.path x.folder x.text x.ver (by first|exact kx.1|simp[go_sem,kx,hsa]) (by first|exact kx.2.1|simp[go_sem,kx,hsa]) (by first|exact kx.2.2.1|simp[go_sem,kx,hsa]) (by first|exact kx.2.2.2|simp[go_sem,kx,hsa]);clear kx hta)
  |(go_at_call 47;refine(every_any L v _ _ (fun e=> !Pp.atB x.path.data.toList e) _ (HV.out.below (by first|exact hwb|go_grown)) (by first|(simpa using htb)|(simpa using htb.below ((Below.refl _ _).alloc (Nat.le_refl _) _))) (by omega) HS.out).mono ?_;rintro e wc ⟨u,rfl,hou,hnu,hbc⟩;have hwc:Below w.heap.size w wc:=Below.trans (by first|exact hwb|go_grown) (hbc.mono (by(try simp);omega));have hsc:w.heap.size<wc.heap.size:=(by have:=hbc.size;(try simp at this);omega);have kz:=keepBox (b:=w.heap.size) hbc (by(try simp);omega) x.path x.folder x.text x.ver (by first|exact ky.1|simp[go_sem,ky,hsb]) (by first|exact ky.2.1|simp[go_sem,ky,hsb]) (by first|exact ky.2.2.1|simp[go_sem,ky,hsb]) (by first|exact ky.2.2.2|simp[go_sem,ky,hsb]);have ho:=Pp.own_mono hou (B:=w.heap.size+1) (by(try simp);omega);clear ky htb hou)
  |(refine step_append_own rfl (.tmp 12) (.tmp 14) 22 rfl (w.heap.size+1) 27 i0 (.agg #[.string ⟨#[]⟩,.bool false,.string ⟨#[]⟩,.int .i64 0]) 4 48 Tryz.underlying22 hi0 hz0 hz1 hz2 rfl (by decide) u _ _ (by simp[Act.eval,Act.put]) (by first|exact ho|exact ho.alloc _) _ 1 1 (Pp.cells x) (by simp[Act.eval,Act.put];rfl) rfl (by first|exact Pp.new_cells wc x _|exact Pp.carry hbc (by simp) (Pp.new_cells wb x _)|exact Pp.carry hbc (by have:=hbb.size;simp at this;omega) (Pp.carry hbb (by simp) (Pp.new_cells wa x _))|exact Pp.carry hbc (by have:=hbb.size;have:=hba.size;simp at this;omega) (Pp.carry hbb (by have:=hba.size;simp at this;omega) (Pp.carry (g:=w.heap.size+1) hba (by simp) (new2 w x _ _)))) (Pp.cells_one x) (by unfold maxLen;omega) (by omega) (by(try simp);omega) ?_;intro v5 w5 ho5 hgr5 hnn5;have kq:=keepGrown (b:=w.heap.size) hgr5 (fun e=>by have:=(ho.lt _ e.symm).1;omega) x.path x.folder x.text x.ver (by first|exact kz.1|simp[go_sem,kz,hsc]) (by first|exact kz.2.1|simp[go_sem,kz,hsc]) (by first|exact kz.2.2.1|simp[go_sem,kz,hsc]) (by first|exact kz.2.2.2|simp[go_sem,kz,hsc]);clear kz))
 all_goals
  have hb5:Below w.heap.size w w5:=Below.grown (by first|exact hwc|exact hwc.alloc (Nat.le_of_lt hsc) _) hgr5 (by(try simp);omega) (fun k hk=>by have:=(ho.lt k hk).1;omega);rw[Pp.flat_snoc]at ho5
  have ho6:w5.ownsRow w.heap.size 27 4 v5 (Pp.out x L++[x]).length (Pp.flat (Pp.out x L++[x])):=by
   rw[List.length_append];exact Pp.own_mono ho5 (by omega)
  have HO:Hid (w5.ownsRow w.heap.size 27 4 v5 (Pp.out x L++[x]).length (Pp.flat (Pp.out x L++[x]))):=ho6;clear ho5 ho6 hgr5 hnn5 kq ho hnu hwc hsc hbc hbb hba hwb hwa hsa hsb;obtain⟨g,cap,rfl,hg1,hg2,hc1,hc2⟩:=Pp.own_shape HO.out (by simp)
  by_cases h60:60<((Pp.out x L++[x]).length:Int)
  · have h61:60<(Pp.out x L).length+1:=by rw[List.length_append]at h60;simp at h60;omega
    have H61:Hid (60<(Pp.out x L).length+1):=h61;clear h61;rw[List.length_append,List.length_singleton]at h60;go_wp2_with fail;go_ret2;exact Or.inl ⟨H61.out,rfl,hb5⟩
  · have H61:=hid (show¬60<(Pp.out x L).length+1 from by rw[List.length_append]at h60;simp at h60;omega)
    have hlen:(Pp.out x L++[x]).length=(Pp.out x L).length+1:=by simp
    rw[hlen]at h60 hc1;have HLEN:Hid ((Pp.out x L).length+1=(Pp.out x L++[x]).length):=hlen.symm;clear hlen;go_wp2_with fail;rw[HLEN.out];refine(sortPaths_any (Pp.out x L++[x]) w.heap.size g cap _ HO.out (by rw[←HLEN.out];omega) (by rw[←HLEN.out];omega) hg1 hg2).mono ?_
    rintro e w6 ⟨rfl,M,hp,hsrt,hli,hb6⟩
    have HM:=hid (show LiesF w.heap.size w6 (.slice (some ⟨g,0,none⟩) (Pp.out x L++[x]).length cap) (Pp.ins x (Pp.out x L))from by
     have e:=Pp.sort_ins hp hsrt (List.Pairwise.filter _ HL.out) (Pp.out_ne x L);rw[←e];exact hli)
    clear hp hsrt hli;rw[←HLEN.out];go_wp2;go_ret2;exact Or.inr ⟨H61.out,_,rfl,by rw[HLEN.out];exact HM.out,hb5.trans hb6⟩
theorem put_any (L:List En) (v:Value) (x:En) (w:World) (hv:Lies w v L) (hn:L.length≤60) (hs:Sized L) (hx:x.path.size≤1000000000000000) (hL:L.Pairwise (fun x y=>Pp.lt x y=true)):
    Calls Tryz.prog 79 #[v,.agg #[.string x.path,.bool x.folder,.string x.text,.int .i64 x.ver]] w fun e w'=>
     (60<(Pp.out x L).length+1∧e= .returned (.tuple #[.slice none 0 0,.int .i64 2])∧Below w.heap.size w w')∨
     (¬60<(Pp.out x L).length+1∧ ∃u,e= .returned (.tuple #[u,.int .i64 0])∧Lies w' u (Pp.ins x (Pp.out x L))∧Below w.heap.size w w'):=
 (put_own L v x w hv hn hs hx hL).mono fun _ _ h=>h.imp id fun⟨h1,u,h2,h3,h4⟩=>⟨h1,u,h2,h3.1,h4⟩
theorem box5 {w w1:World} {a b c d e:Value} {T:TypeId} (h:Below (w.alloc (.cells #[a,b,c,d,e] T)).heap.size (w.alloc (.cells #[a,b,c,d,e] T)) w1):
    w1.cell? ⟨w.heap.size,0,none⟩=some a∧w1.cell? ⟨w.heap.size,1,none⟩=some b∧w1.cell? ⟨w.heap.size,2,none⟩=some c∧w1.cell? ⟨w.heap.size,3,none⟩=some d∧w1.cell? ⟨w.heap.size,4,none⟩=some e∧Below w.heap.size w w1∧w.heap.size<w1.heap.size:=by
 have hz:w.heap.size<(w.alloc (.cells #[a,b,c,d,e] T)).heap.size:=by simp
 refine⟨?_,?_,?_,?_,?_,((Below.refl _ _).alloc (Nat.le_refl _) _).trans (h.mono (Nat.le_of_lt hz)),Nat.lt_of_lt_of_le hz h.size⟩
 · exact(h.cell (p:=⟨w.heap.size,0,none⟩) hz).trans (by simp)
 · exact(h.cell (p:=⟨w.heap.size,1,none⟩) hz).trans (by simp)
 · exact(h.cell (p:=⟨w.heap.size,2,none⟩) hz).trans (by simp)
 · exact(h.cell (p:=⟨w.heap.size,3,none⟩) hz).trans (by simp)
 · exact(h.cell (p:=⟨w.heap.size,4,none⟩) hz).trans (by simp)
/-- Which changes are meant: a folder (no text), or a file. -/
def Plain (k:Int) (t:ByteArray):Prop:=(k=1∧t=⟨#[]⟩)∨k=2
set_option maxHeartbeats 800000 in
theorem checkChange_ok (k:Int) (p t:ByteArray) (b:Int) (w:World) (hk:Plain k t) (hp:p.size≤1000000000000000) (hc:Pp.chk p.data.toList=0) (ht:t.size≤300) (hb1: -1≤b) (hb2:b≤1000000):
    Calls Tryz.prog 53 #[.agg #[.int .i64 k,.string p,.string ⟨#[]⟩,.string t,.int .i64 b]] w fun e w'=>e= .returned (.int .i64 0)∧Below w.heap.size w w':=by
 have HC:Hid (Pp.chk p.data.toList=0):=hc;have ht2:(t.size:Int)≤300:=by omega
 clear hc;rcases hk with⟨rfl,rfl⟩|rfl
 all_goals
  go_enter Tryz.func53,Tryz.ntmps53
  go_wp2_with fail;refine(check_any p _ hp).mono ?_
  rintro e w1 ⟨rfl,hb1'⟩;rw[HC.out];obtain⟨c0,c1,c2,c3,c4,hbw,hlt⟩:=box5 hb1'
  clear hb1';go_wp2_with fail;go_ret;exact⟨rfl,hbw⟩
set_option maxHeartbeats 800000 in
theorem checkPlace_ok (L:List En) (v:Value) (k:Int) (p t:ByteArray) (b:Int) (w:World) (hv:Lies w v L) (hs:Sized L) (hk:Plain k t) (hp:p.size≤1000000000000000) (hc:Pp.chk p.data.toList=0) (hpar:Pp.foldE L (Pp.par p.data.toList)=0) (hf:L.find? (Pp.atB p.data.toList)=none):
    Calls Tryz.prog 54 #[v,.agg #[.int .i64 k,.string p,.string ⟨#[]⟩,.string t,.int .i64 b]] w fun e w'=>e= .returned (.int .i64 0)∧Below w.heap.size w w':=by
 have HC:Hid (Pp.chk p.data.toList=0):=hc;have HP:Hid (Pp.foldE L (Pp.par p.data.toList)=0):=hpar;have HF:Hid (L.find? (Pp.atB p.data.toList)=none):=hf;have HV:Hid (Lies w v L):=hv;have HS:=hid (show∀e∈L,e.path.size≤1000000000000000 from fun e he=>(hs e he).1);clear hc hpar hf hv hs;rcases hk with⟨rfl,rfl⟩|rfl
 all_goals
  go_enter Tryz.func54,Tryz.ntmps54
  go_wp2_with fail;refine(parent_any p _ hp).mono ?_
  rintro e w1 ⟨rfl,hb1'⟩;rw[HC.out,Pp.ifc_yes rfl];obtain⟨c0,c1,c2,c3,c4,hbw,hlt⟩:=box5 hb1'
  go_wp2_with fail;refine(checkFolder_any L v ⟨(Pp.par p.data.toList).toArray⟩ _ (HV.out.below hbw) HS.out).mono ?_
  rintro e w2 ⟨rfl,hb2⟩;rw[show Pp.foldE L _=0 from HP.out];have hb02:=hb1'.trans (hb2.mono hb1'.size);obtain⟨d0,d1,d2,d3,d4,hbw2,hlt2⟩:=box5 hb02
  clear hb1' c0 c1 c2 c3 c4 hbw hlt;go_wp2_with fail;refine(at_any p _).mono ?_
  rintro e w3 ⟨rfl,hta,hb3⟩;have HT:Hid (Tells w3 93 #[.pointer (some ⟨w2.heap.size,0,none⟩)] (Pp.atB p.data.toList)):=hta;have hb03:=hb02.trans (hb3.mono hb02.size);obtain⟨e0,e1,e2,e3,e4,hbw3,hlt3⟩:=box5 hb03
  clear hta d0 d1 d2 d3 d4 hbw2 hlt2;go_wp2_with fail;refine(first_any L v _ _ _ _ (HV.out.below hbw3) HT.out HS.out).mono ?_
  rintro e w4 ⟨rfl,hb4⟩;rw[HF.out,fnd];have hb04:=hb03.trans (hb4.mono hb03.size);obtain⟨f0,f1,f2,f3,f4,hbw4,hlt4⟩:=box5 hb04
  clear e0 e1 e2 e3 e4 hbw3 hlt3 hb02 hb03 hb04 hb2 hb3 hb4;go_wp2_with fail;go_ret;exact⟨rfl,hbw4.alloc (Nat.le_of_lt hlt4) _⟩
namespace Pp
def stB (q:List UInt8) (b:Int) (e:En):Bool:=decide (b<e.ver) && inB q e
end Pp

set_option maxHeartbeats 800000 in
theorem stale1_any (x:En) (q:ByteArray) (k:Int) (t u:ByteArray) (b:Int) (c d g:Nat) (cb:Array Value) (w:World) (hc:c<w.heap.size) (hd:d<w.heap.size) (h4:w.cell? ⟨c,4,none⟩=some (.int .i64 b)) (hd0:w.cell? ⟨d,0,none⟩=some (.func (.func g) #[] cb)) (hg:Tells w g cb (Pp.inB q.data.toList)) (hs:x.path.size≤1000000000000000):
    Calls Tryz.prog 78 #[.agg #[.string x.path,.bool x.folder,.string x.text,.int .i64 x.ver],.pointer (some ⟨c,0,none⟩),.pointer (some ⟨d,0,none⟩)] w fun r w'=>r= .returned (.bool (Pp.stB q.data.toList b x))∧Below w.heap.size w w':=by
 have hc2: ∀o,(w.alloc o).cell? ⟨c,4,none⟩=some (.int .i64 b):=fun o=>(((Below.refl w.heap.size w).alloc (Nat.le_refl _) o).cell (p:=⟨c,4,none⟩) hc).trans h4
 have hd2: ∀o,(w.alloc o).cell? ⟨d,0,none⟩=some (.func (.func g) #[] cb):=fun o=>(((Below.refl w.heap.size w).alloc (Nat.le_refl _) o).cell (p:=⟨d,0,none⟩) hd).trans hd0
 have HG:Hid (Tells w g cb (Pp.inB q.data.toList)):=hg;have eg:=hg.1;clear hg;by_cases hv:b<x.ver
 · have HE:=hid (show Pp.inB q.data.toList x=Pp.stB q.data.toList b x from by rw[Pp.stB];simp[hv])
   go_enter Tryz.func78,Tryz.ntmps78
   go_wp2_with fail;refine(HG.out.2 _ ((Below.refl _ _).alloc (Nat.le_refl _) _) x hs).mono ?_
   rintro r w1 ⟨rfl,hb1⟩;obtain⟨d0,d1,d2,d3,hb1w,hlt1⟩:=box4 hb1
   clear hb1 eg;go_wp2;go_ret;exact⟨Pp.ret_bool HE.out,hb1w⟩
 · have HE:=hid (show false=Pp.stB q.data.toList b x from by rw[Pp.stB];simp[hv])
   go_enter Tryz.func78,Tryz.ntmps78
   go_wp2;go_ret;exact⟨Pp.ret_bool HE.out,(Below.refl _ _).alloc (Nat.le_refl _) _⟩
set_option maxHeartbeats 1000000 in
theorem isStale_no (L:List En) (v:Value) (k:Int) (p q t:ByteArray) (b:Int) (w:World) (hv:Lies w v L) (hs:Sized L) (hp:p.size≤1000000000000000) (hb:b= -1∨L.find? (Pp.stB p.data.toList b)=none):
    Calls Tryz.prog 55 #[v,.agg #[.int .i64 k,.string p,.string q,.string t,.int .i64 b]] w fun e w'=>e= .returned (.bool false)∧Below w.heap.size w w':=by
 have HV:Hid (Lies w v L):=hv;have HS:=hid (show∀e∈L,e.path.size≤1000000000000000 from fun e he=>(hs e he).1);clear hv hs;by_cases h1:b= -1
 · subst h1
   go_enter Tryz.func55,Tryz.ntmps55
   go_wp2;go_ret;exact⟨rfl,(Below.refl _ _).alloc (Nat.le_refl _) _⟩
 · have HF:=hid (show L.find? (Pp.stB p.data.toList b)=none from hb.resolve_left h1)
   have h2:(b== -1)=false:=by simpa using h1
   clear hb;have hst: ∀(W:World) (a:Addr) (f:Fn) (x y:Array Value),(store a (.func f x y)).run Tryz.prog W=stored Tryz.prog W a (.func f x y) .plain:=fun W a f x y=>run_store Tryz.prog W a _ _ rfl
   go_enter Tryz.func55,Tryz.ntmps55
   go_wp2_with fail;refine(twithin_any p _ hp).mono ?_
   rintro e w1 ⟨rfl,ht,hb1⟩;obtain⟨c0,c1,c2,c3,c4,hbw,hlt⟩:=box5 hb1
   have HT:Hid (Tells w1 95 #[.pointer (some ⟨(w.alloc (.cells #[.int .i64 k,.string p,.string q,.string t,.int .i64 b] 24)).heap.size,0,none⟩)] (Pp.inB p.data.toList)):=ht;clear ht hb1;go_wp2_with fail;refine(first_any L v _ _ (Pp.stB p.data.toList b) _ (HV.out.below (hbw.alloc (Nat.le_of_lt hlt) _)) ⟨enters_of Tryz.func78 (by kernel_rfl) rfl,?_⟩ HS.out).mono ?_
   · intro W hW x hx
     have hW1:Below w1.heap.size w1 W:=((Below.refl _ _).alloc (Nat.le_refl _) _).trans (hW.mono (by simp));refine stale1_any x p k t q b w.heap.size w1.heap.size 95 #[.pointer (some ⟨w.heap.size+1,0,none⟩)] W (Nat.lt_of_lt_of_le hlt hW1.size) (Nat.lt_of_lt_of_le (by simp) hW.size) ((hW1.cell (p:=⟨w.heap.size,4,none⟩) hlt).trans c4) ((hW.cell (p:=⟨w1.heap.size,0,none⟩) (by simp)).trans (by simp)) ?_ hx
     have h:=HT.out.below hW1;simpa using h
   · rintro e w2 ⟨rfl,hb2⟩
     rw[HF.out,fnd];have hbw2:Below w.heap.size w w2:=(hbw.alloc (Nat.le_of_lt hlt) _).trans (hb2.mono (by simp;omega));have hlt2:w.heap.size<w2.heap.size:=by have:=hb2.size;simp at this;omega
     clear hb2 c0 c1 c2 c3 c4;go_wp2;go_ret;exact⟨rfl,hbw2.alloc (Nat.le_of_lt hlt2) _⟩
/-- What is made of a change. -/
def made (k:Int) (p t:ByteArray) (n:Int):En:=⟨p,decide (k=1),t,n⟩
set_option maxHeartbeats 800000 in
theorem changed_ok (L:List En) (v:Value) (k:Int) (p t:ByteArray) (b n:Int) (w:World) (hv:Lies w v L) (hn:L.length≤60) (hs:Sized L) (hk:Plain k t) (hp:p.size≤1000000000000000) (hL:L.Pairwise (fun x y=>Pp.lt x y=true)) (hlen: ¬60<(Pp.out (made k p t n) L).length+1):
    Calls Tryz.prog 56 #[v,.agg #[.int .i64 k,.string p,.string ⟨#[]⟩,.string t,.int .i64 b],.int .i64 n] w fun e w'=> ∃u,e= .returned (.tuple #[u,.int .i64 0])∧Lies w' u (Pp.ins (made k p t n) (Pp.out (made k p t n) L))∧Below w.heap.size w w':=by
 have HV:Hid (Lies w v L):=hv;have HS:Hid (Sized L):=hs;have HL:Hid (L.Pairwise (fun x y=>Pp.lt x y=true)):=hL;have HN:Hid (¬60<(Pp.out (made k p t n) L).length+1):=hlen;clear hv hs hL hlen;rcases hk with⟨rfl,rfl⟩|rfl
 all_goals
  go_enter Tryz.func56,Tryz.ntmps56
  go_wp2_with fail
 · refine(put_any L v (made 1 p ⟨#[]⟩ n) _ (HV.out.below ((Below.refl _ _).alloc (Nat.le_refl _) _)) hn HS.out hp HL.out).mono ?_
   rintro e w1 (⟨h,_⟩|⟨_,u,rfl,hli,hb1⟩)
   · exact absurd h HN.out
   · obtain⟨c0,c1,c2,c3,c4,hbw,hlt⟩:=box5 hb1
     have HLI:Hid (Lies w1 u (Pp.ins (made 1 p ⟨#[]⟩ n) (Pp.out (made 1 p ⟨#[]⟩ n) L))):=hli;clear hb1 hli c0 c1 c2 c3 c4;go_wp2;go_ret2;exact⟨u,rfl,HLI.out,hbw⟩
 · refine(put_any L v (made 2 p t n) _ (HV.out.below ((Below.refl _ _).alloc (Nat.le_refl _) _)) hn HS.out hp HL.out).mono ?_
   rintro e w1 (⟨h,_⟩|⟨_,u,rfl,hli,hb1⟩)
   · exact absurd h HN.out
   · obtain⟨c0,c1,c2,c3,c4,hbw,hlt⟩:=box5 hb1
     have HLI:Hid (Lies w1 u (Pp.ins (made 2 p t n) (Pp.out (made 2 p t n) L))):=hli;clear hb1 hli c0 c1 c2 c3 c4;go_wp2;go_ret2;exact⟨u,rfl,HLI.out,hbw⟩
end Go.Proofs.YtagibnejodgeeaaGreatDoor
namespace Go.Proofs.YtagibnejodgeeaaGreatDoor
open Go.RowKit

set_option maxHeartbeats 1000000 in
theorem isStale_yes (L:List En) (v:Value) (k:Int) (p q t:ByteArray) (b:Int) (w:World) (hv:Lies w v L) (hs: ∀e∈L,e.path.size≤1000000000000000) (hp:p.size≤1000000000000000) (h1: ¬b= -1) (x:En) (hf:L.find? (Pp.stB p.data.toList b)=some x):
    Calls Tryz.prog 55 #[v,.agg #[.int .i64 k,.string p,.string q,.string t,.int .i64 b]] w fun e w'=>e= .returned (.bool true)∧Below w.heap.size w w':=by
 have HV:Hid (Lies w v L):=hv;have HS:Hid (∀e∈L,e.path.size≤1000000000000000):=hs;have HF:Hid (L.find? (Pp.stB p.data.toList b)=some x):=hf;have h2:(b== -1)=false:=by simpa using h1
 clear hv hs hf;have hst: ∀(W:World) (a:Addr) (f:Fn) (x y:Array Value),(store a (.func f x y)).run Tryz.prog W=stored Tryz.prog W a (.func f x y) .plain:=fun W a f x y=>run_store Tryz.prog W a _ _ rfl
 go_enter Tryz.func55,Tryz.ntmps55
 go_wp2_with fail;refine(twithin_any p _ hp).mono ?_
 rintro e w1 ⟨rfl,ht,hb1⟩;obtain⟨c0,c1,c2,c3,c4,hbw,hlt⟩:=bx5 hb1
 have HT:Hid (Tells w1 95 #[.pointer (some ⟨(w.alloc (.cells #[.int .i64 k,.string p,.string q,.string t,.int .i64 b] 24)).heap.size,0,none⟩)] (Pp.inB p.data.toList)):=ht;clear ht hb1;go_wp2_with fail;refine(first_any L v _ _ (Pp.stB p.data.toList b) _ (HV.out.below (hbw.alloc (Nat.le_of_lt hlt) _)) ⟨enters_of Tryz.func78 (by kernel_rfl) rfl,?_⟩ HS.out).mono ?_
 · intro W hW x hx
   have hW1:Below w1.heap.size w1 W:=((Below.refl _ _).alloc (Nat.le_refl _) _).trans (hW.mono (by simp));refine stale1_any x p k t q b w.heap.size w1.heap.size 95 #[.pointer (some ⟨w.heap.size+1,0,none⟩)] W (Nat.lt_of_lt_of_le hlt hW1.size) (Nat.lt_of_lt_of_le (by simp) hW.size) ((hW1.cell (p:=⟨w.heap.size,4,none⟩) hlt).trans c4) ((hW.cell (p:=⟨w1.heap.size,0,none⟩) (by simp)).trans (by simp)) ?_ hx
   have h:=HT.out.below hW1;simpa using h
 · rintro e w2 ⟨rfl,hb2⟩
   rw[HF.out,fnd];have hbw2:Below w.heap.size w w2:=(hbw.alloc (Nat.le_of_lt hlt) _).trans (hb2.mono (by simp;omega));have hlt2:w.heap.size<w2.heap.size:=by have:=hb2.size;simp at this;omega
   clear hb2 c0 c1 c2 c3 c4;go_wp2;go_ret;exact⟨rfl,hbw2.alloc (Nat.le_of_lt hlt2) _⟩
namespace Pp
theorem inB_wi {e:En} {p:List UInt8} (h1:chk e.path.data.toList=0) (h2:chk p=0):inB p e=wi p e:=by
 rw[inB,wi];simp[chks,h1,h2]
theorem stB_stW {e:En} {p:List UInt8} {b:Int} (h1:chk e.path.data.toList=0) (h2:chk p=0):stB p b e=stW p b e:=by
 rw[stB,stW,inB_wi h1 h2]
theorem filter_eq {f g:En→Bool} {L:List En} (h: ∀e∈L,f e=g e):L.filter f=L.filter g:=List.filter_congr h
theorem stl_find {L:List En} {c:Ch} (hL: ∀e∈L,chk e.path.data.toList=0) (hp:chk c.p.data.toList=0):stl L c=(!(c.b== -1) && (L.find? (stB c.p.data.toList c.b)).isSome):=by
 rw[stl];congr 1
 cases hf:L.find? (stB c.p.data.toList c.b)with
 |none=>
  rw[List.any_eq_false.2]
  · rfl
  · intro e he
    have:=List.find?_eq_none.1 hf e he
    rw[stB_stW (hL e he) hp]at this;exact this
 |some x=>
  have h1:=List.find?_some hf;have h2:=List.mem_of_find?_eq_some hf;rw[stB_stW (hL x h2) hp]at h1;rw[List.any_eq_true.2 ⟨x,h2,h1⟩];rfl
end Pp

theorem isStale_any (L:List En) (v:Value) (k:Int) (p q t:ByteArray) (b:Int) (w:World) (hv:Lies w v L) (hs:Sized L) (hp:p.size≤1000000000000000) (hL: ∀e∈L,Pp.chk e.path.data.toList=0) (hc:Pp.chk p.data.toList=0):
    Calls Tryz.prog 55 #[v,.agg #[.int .i64 k,.string p,.string q,.string t,.int .i64 b]] w fun e w'=>e= .returned (.bool (Pp.stl L ⟨k,p,q,t,b⟩))∧Below w.heap.size w w':=by
 have hst:=Pp.stl_find (c:=⟨k,p,q,t,b⟩) hL hc;by_cases h1:b= -1
 · rw[hst];subst h1
   exact isStale_no L v k p q t (-1) w hv hs hp (Or.inl rfl)
 · have h2:(b== -1)=false:=by simpa using h1
   cases hf:L.find? (Pp.stB p.data.toList b)with
   |none=>
    have e:Pp.stl L ⟨k,p,q,t,b⟩=false:=by rw[hst];simp only[hf];simp
    rw[e];exact isStale_no L v k p q t b w hv hs hp (Or.inr hf)
   |some x=>
    have e:Pp.stl L ⟨k,p,q,t,b⟩=true:=by rw[hst];simp only[hf,h2];rfl
    rw[e];exact isStale_yes L v k p q t b w hv (fun e he=>(hs e he).1) hp h1 x hf
end Go.Proofs.YtagibnejodgeeaaGreatDoor
