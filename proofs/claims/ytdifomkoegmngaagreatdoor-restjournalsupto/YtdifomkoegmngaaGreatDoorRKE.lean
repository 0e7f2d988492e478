/- What tree.checkTo and checkPlace answer, for every change that is right by itself. -/
import Derived.Test.YtdifomkoegmngaaGreatDoorRKD
import Derived.Maps.AppendAt
import Derived.Test.YtdifomkoegmngaaGreatDoorRKA
set_option linter.unusedSimpArgs false
set_option linter.unusedVariables false
namespace Go.Proofs.YtdifomkoegmngaaGreatDoor
open Go.RowKit

namespace Pp
def toE (L:List En) (p q:List UInt8):Int:=if isInB q p=true then 3 else if(L.find? (atB q)).isSome=true then 6 else 0
end Pp

set_option maxHeartbeats 1000000 in
theorem checkTo_any (L:List En) (v:Value) (k:Int) (p q t:ByteArray) (b:Int) (w:World) (hv:Lies w v L) (hs: ∀e∈L,e.path.size≤1000000000000000) (hp:p.size≤1000000000000000) (hq:q.size≤1000000000000000) (hc:Pp.chk p.data.toList=0) (hd:Pp.chk q.data.toList=0):
    Calls Tryz.prog 141 #[v,.agg #[.int .i64 k,.string p,.string q,.string t,.int .i64 b]] w fun e w'=>e= .returned (.int .i64 (Pp.toE L p.data.toList q.data.toList))∧Below w.heap.size w w':=by
 have HV:Hid (Lies w v L):=hv;have HS:Hid (∀e∈L,e.path.size≤1000000000000000):=hs;have hck:(Pp.chks [q.data.toList,p.data.toList]==0)=true:=by simp[Pp.chks,hc,hd]
 clear hv hs hc hd;cases hi:Pp.isInB q.data.toList p.data.toList with
 |true=>
  have HI:=hid (show(Pp.chks [q.data.toList,p.data.toList]==0 && Pp.isInB q.data.toList p.data.toList)=true from by rw[hck,hi];rfl);have HE:=hid (show 3=Pp.toE L p.data.toList q.data.toList from by rw[Pp.toE,if_pos hi]);clear hi hck;go_enter Tryz.func141,Tryz.ntmps141
  go_wp2_with fail;refine(within_any q p _ hq hp).mono ?_
  rintro e w1 ⟨rfl,hb1⟩;rw[HI.out];obtain⟨c0,c1,c2,c3,c4,hbw,hlt⟩:=bx5 hb1
  clear hb1;go_wp2_with fail;go_ret;exact⟨Pp.ret_int HE.out,hbw⟩
 |false=>
  have HI:=hid (show(Pp.chks [q.data.toList,p.data.toList]==0 && Pp.isInB q.data.toList p.data.toList)=false from by rw[hck,hi];rfl);have hE:Pp.toE L p.data.toList q.data.toList=if(L.find? (Pp.atB q.data.toList)).isSome=true then 6 else 0:=by rw[Pp.toE,if_neg (by rw[hi];decide)]
  clear hi hck
  have hcs:(L.find? (Pp.atB q.data.toList)=none∧Hid (0=Pp.toE L p.data.toList q.data.toList))∨ ∃x,L.find? (Pp.atB q.data.toList)=some x∧Hid (6=Pp.toE L p.data.toList q.data.toList):=by
   cases hf:L.find? (Pp.atB q.data.toList)with
   |none=>exact Or.inl ⟨rfl,(by rw[hE,hf];rfl:0=Pp.toE L p.data.toList q.data.toList)⟩
   |some x=>exact Or.inr ⟨x,rfl,(by rw[hE,hf];rfl:6=Pp.toE L p.data.toList q.data.toList)⟩
  clear hE;rcases hcs with⟨hf,HE⟩|⟨x,hf,HE⟩
  all_goals
   have HF:=hid hf;clear hf;go_enter Tryz.func141,Tryz.ntmps141
   go_wp2_with fail;refine(within_any q p _ hq hp).mono ?_
   rintro e w1 ⟨rfl,hb1⟩;rw[HI.out];obtain⟨c0,c1,c2,c3,c4,hbw,hlt⟩:=bx5 hb1
   go_wp2_with fail;refine(at_any q _).mono ?_
   rintro e w2 ⟨rfl,hta,hb2⟩;have HT:Hid (Tells w2 140 #[.pointer (some ⟨w1.heap.size,0,none⟩)] (Pp.atB q.data.toList)):=hta;have hb02:=hb1.trans (hb2.mono hb1.size);clear hta c0 c1 c2 c3 c4 hbw hlt hb1 hb2;obtain⟨c0,c1,c2,c3,c4,hbw,hlt⟩:=bx5 hb02
   go_wp2_with fail;refine(first_any L v _ _ _ _ (HV.out.below hbw) HT.out HS.out).mono ?_
   rintro e w4 ⟨rfl,hb4⟩;rw[HF.out,fnd];have hb04:=hb02.trans (hb4.mono hb02.size);clear c0 c1 c2 c3 c4 hbw hlt hb02 hb4;obtain⟨c0,c1,c2,c3,c4,hbw,hlt⟩:=bx5 hb04
   clear hb04;go_wp2_with fail;go_ret;exact⟨Pp.ret_int HE.out,hbw.alloc (Nat.le_of_lt hlt) _⟩
namespace Pp
theorem pl_fold {L:List En} {c:Ch} (h: ¬foldE L (par (goal c))=0):foldE L (par (goal c))=plcE L c:=by rw[plcE,if_pos h]
theorem pl_none {L:List En} {c:Ch} (h:foldE L (par (goal c))=0) (hf:L.find? (atB c.p.data.toList)=none):plcE L c=if c.k=3∨c.k=4 then 5 else 0:=by rw[plcE,if_neg (fun x=>x h),hf]
theorem pl_some {L:List En} {c:Ch} (h:foldE L (par (goal c))=0) {x:En} (hf:L.find? (atB c.p.data.toList)=some x):plcE L c=if c.k=1 then 6 else if c.k=2 then(if x.folder=true then 4 else 0)else if c.k=3 then toE L c.p.data.toList c.q.data.toList else 0:=by
 rw[plcE,if_neg (fun x=>x h),hf];rfl
end Pp

set_option maxHeartbeats 2000000 in
theorem checkPlace_any (L:List En) (v:Value) (k:Int) (p q t:ByteArray) (b:Int) (w:World) (hv:Lies w v L) (hs: ∀e∈L,e.path.size≤1000000000000000) (hp:p.size≤1000000000000000) (hq:q.size≤1000000000000000) (hg:Pp.chgE ⟨k,p,q,t,b⟩=0):
    Calls Tryz.prog 124 #[v,.agg #[.int .i64 k,.string p,.string q,.string t,.int .i64 b]] w fun e w'=>e= .returned (.int .i64 (Pp.plcE L ⟨k,p,q,t,b⟩))∧Below w.heap.size w w':=by
 have hkk:=Pp.chg_kind hg;have HC:Hid (Pp.chk p.data.toList=0):=Pp.chg_path hg;have HV:Hid (Lies w v L):=hv;have HS:Hid (∀e∈L,e.path.size≤1000000000000000):=hs;have h4:(k=1∨k=2∨k=4)∨k=3:=by simp only at hkk;omega
 clear hv hs hkk;rcases h4 with h4|rfl
 · have hgo:Pp.goal ⟨k,p,q,t,b⟩=p.data.toList:=by rw[Pp.goal,if_neg (by simp only;omega)]
   clear hg;by_cases hf0:Pp.foldE L (Pp.par p.data.toList)=0
   · have HP:Hid (Pp.foldE L (Pp.par p.data.toList)=0):=hf0
     rw[←hgo]at hf0
     have hcs:(L.find? (Pp.atB p.data.toList)=none)∨ ∃x,L.find? (Pp.atB p.data.toList)=some x:=by
      cases L.find? (Pp.atB p.data.toList)with
      |none=>exact Or.inl rfl
      |some x=>exact Or.inr ⟨x,rfl⟩
     rcases hcs with hf|⟨x,hf⟩
     · have hE:=Pp.pl_none (c:=⟨k,p,q,t,b⟩) hf0 hf
       have HF:=hid hf;clear hf hf0 hgo;rcases h4 with rfl|rfl|rfl
       all_goals
        simp only[Int.reduceEq,or_self,or_true,or_false,if_true,if_false]at hE;have HE:=hid hE;clear hE;go_enter Tryz.func124,Tryz.ntmps124
        go_wp2_with fail;refine(parent_any p _ hp).mono ?_
        rintro e w1 ⟨rfl,hb1⟩;rw[HC.out,Pp.ifc_yes rfl];obtain⟨c0,c1,c2,c3,c4,hbw,hlt⟩:=bx5 hb1
        go_wp2_with fail;refine(checkFolder_any L v ⟨(Pp.par p.data.toList).toArray⟩ _ (HV.out.below hbw) HS.out).mono ?_
        rintro e w2 ⟨rfl,hb2⟩;rw[show Pp.foldE L _=0 from HP.out];have hb02:=hb1.trans (hb2.mono hb1.size);clear c0 c1 c2 c3 c4 hbw hlt hb1 hb2;obtain⟨c0,c1,c2,c3,c4,hbw,hlt⟩:=bx5 hb02
        go_wp2_with fail;refine(at_any p _).mono ?_
        rintro e w3 ⟨rfl,hta,hb3⟩;have HT:Hid (Tells w3 140 #[.pointer (some ⟨w2.heap.size,0,none⟩)] (Pp.atB p.data.toList)):=hta;have hb03:=hb02.trans (hb3.mono hb02.size);clear hta c0 c1 c2 c3 c4 hbw hlt hb02 hb3;obtain⟨c0,c1,c2,c3,c4,hbw,hlt⟩:=bx5 hb03
        go_wp2_with fail;refine(first_any L v _ _ _ _ (HV.out.below hbw) HT.out HS.out).mono ?_
        rintro e w4 ⟨rfl,hb4⟩;rw[HF.out,fnd];have hb04:=hb03.trans (hb4.mono hb03.size);clear c0 c1 c2 c3 c4 hbw hlt hb03 hb4;obtain⟨c0,c1,c2,c3,c4,hbw,hlt⟩:=bx5 hb04
        clear hb04;go_wp2_with fail;go_ret;exact⟨Pp.ret_int HE.out.symm,hbw.alloc (Nat.le_of_lt hlt) _⟩
     · have hE:=Pp.pl_some (c:=⟨k,p,q,t,b⟩) hf0 hf
       have HF:=hid hf;clear hf hf0 hgo;rcases h4 with rfl|rfl|rfl
       all_goals
        cases hx:x.folder
       all_goals
        simp only[Int.reduceEq,hx,or_self,or_true,or_false,if_true,if_false,Bool.false_eq_true]at hE;have HE:=hid hE;clear hE;go_enter Tryz.func124,Tryz.ntmps124
        go_wp2_with fail;refine(parent_any p _ hp).mono ?_
        rintro e w1 ⟨rfl,hb1⟩;rw[HC.out,Pp.ifc_yes rfl];obtain⟨c0,c1,c2,c3,c4,hbw,hlt⟩:=bx5 hb1
        go_wp2_with fail;refine(checkFolder_any L v ⟨(Pp.par p.data.toList).toArray⟩ _ (HV.out.below hbw) HS.out).mono ?_
        rintro e w2 ⟨rfl,hb2⟩;rw[show Pp.foldE L _=0 from HP.out];have hb02:=hb1.trans (hb2.mono hb1.size);clear c0 c1 c2 c3 c4 hbw hlt hb1 hb2;obtain⟨c0,c1,c2,c3,c4,hbw,hlt⟩:=bx5 hb02
        go_wp2_with fail;refine(at_any p _).mono ?_
        rintro e w3 ⟨rfl,hta,hb3⟩;have HT:Hid (Tells w3 140 #[.pointer (some ⟨w2.heap.size,0,none⟩)] (Pp.atB p.data.toList)):=hta;have hb03:=hb02.trans (hb3.mono hb02.size);clear hta c0 c1 c2 c3 c4 hbw hlt hb02 hb3;obtain⟨c0,c1,c2,c3,c4,hbw,hlt⟩:=bx5 hb03
        go_wp2_with fail;refine(first_any L v _ _ _ _ (HV.out.below hbw) HT.out HS.out).mono ?_
        rintro e w4 ⟨rfl,hb4⟩;rw[HF.out,fnd,hx];have hb04:=hb03.trans (hb4.mono hb03.size);clear c0 c1 c2 c3 c4 hbw hlt hb03 hb4;obtain⟨c0,c1,c2,c3,c4,hbw,hlt⟩:=bx5 hb04
        clear hb04;go_wp2_with fail;go_ret;exact⟨Pp.ret_int HE.out.symm,hbw.alloc (Nat.le_of_lt hlt) _⟩
   · have hz2:(Pp.foldE L (Pp.par p.data.toList)==0)=false:=by simpa using hf0
     have HE:=hid (show Pp.foldE L (Pp.par p.data.toList)=Pp.plcE L ⟨k,p,q,t,b⟩from by rw[←Pp.pl_fold (by rw[hgo];exact hf0),hgo]);clear hf0 hgo;rcases h4 with rfl|rfl|rfl
     all_goals
      go_enter Tryz.func124,Tryz.ntmps124
      go_wp2_with fail;refine(parent_any p _ hp).mono ?_
      rintro e w1 ⟨rfl,hb1⟩;rw[HC.out,Pp.ifc_yes rfl];obtain⟨c0,c1,c2,c3,c4,hbw,hlt⟩:=bx5 hb1
      go_wp2_with fail;refine(checkFolder_any L v ⟨(Pp.par p.data.toList).toArray⟩ _ (HV.out.below hbw) HS.out).mono ?_
      rintro e w2 ⟨rfl,hb2⟩;have hb02:=hb1.trans (hb2.mono hb1.size);clear c0 c1 c2 c3 c4 hbw hlt hb1 hb2;obtain⟨c0,c1,c2,c3,c4,hbw,hlt⟩:=bx5 hb02
      clear hb02;have hz3:(Pp.foldE L (⟨(Pp.par p.data.toList).toArray⟩:ByteArray).data.toList==0)=false:=hz2;generalize hG:Pp.foldE L (⟨(Pp.par p.data.toList).toArray⟩:ByteArray).data.toList=G at*;have hz4:(G==0)=false:=hz3;go_wp2_with fail;go_ret;exact⟨Pp.ret_int HE.out,hbw⟩
 · have hgo:Pp.goal ⟨3,p,q,t,b⟩=q.data.toList:=rfl
   have HQ:Hid (Pp.chk q.data.toList=0):=Pp.chg_to hg rfl;clear hg;by_cases hf0:Pp.foldE L (Pp.par q.data.toList)=0
   · have HP:Hid (Pp.foldE L (Pp.par q.data.toList)=0):=hf0
     rw[←hgo]at hf0
     have hcs:(L.find? (Pp.atB p.data.toList)=none)∨ ∃x,L.find? (Pp.atB p.data.toList)=some x:=by
      cases L.find? (Pp.atB p.data.toList)with
      |none=>exact Or.inl rfl
      |some x=>exact Or.inr ⟨x,rfl⟩
     rcases hcs with hf|⟨x,hf⟩
     · have hE:=Pp.pl_none (c:=⟨3,p,q,t,b⟩) hf0 hf
       have HF:=hid hf;clear hf hf0 hgo;simp only[Int.reduceEq,or_self,or_true,or_false,if_true,if_false]at hE;have HE:=hid hE;clear hE;go_enter Tryz.func124,Tryz.ntmps124
       go_wp2_with fail;refine(parent_any p _ hp).mono ?_
       rintro e w0 ⟨rfl,hb0⟩;rw[HC.out,Pp.ifc_yes rfl];obtain⟨c0,c1,c2,c3,c4,hbw,hlt⟩:=bx5 hb0
       go_wp2_with fail;refine(parent_any q _ hq).mono ?_
       rintro e w1 ⟨rfl,hb1⟩;rw[HQ.out,Pp.ifc_yes rfl];have hb01:=hb0.trans (hb1.mono hb0.size);clear c0 c1 c2 c3 c4 hbw hlt hb0 hb1;obtain⟨c0,c1,c2,c3,c4,hbw,hlt⟩:=bx5 hb01
       go_wp2_with fail;refine(checkFolder_any L v ⟨(Pp.par q.data.toList).toArray⟩ _ (HV.out.below hbw) HS.out).mono ?_
       rintro e w2 ⟨rfl,hb2⟩;rw[show Pp.foldE L _=0 from HP.out];have hb02:=hb01.trans (hb2.mono hb01.size);clear c0 c1 c2 c3 c4 hbw hlt hb01 hb2;obtain⟨c0,c1,c2,c3,c4,hbw,hlt⟩:=bx5 hb02
       go_wp2_with fail;refine(at_any p _).mono ?_
       rintro e w3 ⟨rfl,hta,hb3⟩;have HT:Hid (Tells w3 140 #[.pointer (some ⟨w2.heap.size,0,none⟩)] (Pp.atB p.data.toList)):=hta;have hb03:=hb02.trans (hb3.mono hb02.size);clear hta c0 c1 c2 c3 c4 hbw hlt hb02 hb3;obtain⟨c0,c1,c2,c3,c4,hbw,hlt⟩:=bx5 hb03
       go_wp2_with fail;refine(first_any L v _ _ _ _ (HV.out.below hbw) HT.out HS.out).mono ?_
       rintro e w4 ⟨rfl,hb4⟩;rw[HF.out,fnd];have hb04:=hb03.trans (hb4.mono hb03.size);clear c0 c1 c2 c3 c4 hbw hlt hb03 hb4;obtain⟨c0,c1,c2,c3,c4,hbw,hlt⟩:=bx5 hb04
       clear hb04;go_wp2_with fail;go_ret;exact⟨Pp.ret_int HE.out.symm,hbw.alloc (Nat.le_of_lt hlt) _⟩
     · have hE:=Pp.pl_some (c:=⟨3,p,q,t,b⟩) hf0 hf
       have HF:=hid hf;clear hf hf0 hgo;simp only[Int.reduceEq,or_self,or_true,or_false,if_true,if_false]at hE;have HE:=hid hE;clear hE;go_enter Tryz.func124,Tryz.ntmps124
       go_wp2_with fail;refine(parent_any p _ hp).mono ?_
       rintro e w0 ⟨rfl,hb0⟩;rw[HC.out,Pp.ifc_yes rfl];obtain⟨c0,c1,c2,c3,c4,hbw,hlt⟩:=bx5 hb0
       go_wp2_with fail;refine(parent_any q _ hq).mono ?_
       rintro e w1 ⟨rfl,hb1⟩;rw[HQ.out,Pp.ifc_yes rfl];have hb01:=hb0.trans (hb1.mono hb0.size);clear c0 c1 c2 c3 c4 hbw hlt hb0 hb1;obtain⟨c0,c1,c2,c3,c4,hbw,hlt⟩:=bx5 hb01
       go_wp2_with fail;refine(checkFolder_any L v ⟨(Pp.par q.data.toList).toArray⟩ _ (HV.out.below hbw) HS.out).mono ?_
       rintro e w2 ⟨rfl,hb2⟩;rw[show Pp.foldE L _=0 from HP.out];have hb02:=hb01.trans (hb2.mono hb01.size);clear c0 c1 c2 c3 c4 hbw hlt hb01 hb2;obtain⟨c0,c1,c2,c3,c4,hbw,hlt⟩:=bx5 hb02
       go_wp2_with fail;refine(at_any p _).mono ?_
       rintro e w3 ⟨rfl,hta,hb3⟩;have HT:Hid (Tells w3 140 #[.pointer (some ⟨w2.heap.size,0,none⟩)] (Pp.atB p.data.toList)):=hta;have hb03:=hb02.trans (hb3.mono hb02.size);clear hta c0 c1 c2 c3 c4 hbw hlt hb02 hb3;obtain⟨c0,c1,c2,c3,c4,hbw,hlt⟩:=bx5 hb03
       go_wp2_with fail;refine(first_any L v _ _ _ _ (HV.out.below hbw) HT.out HS.out).mono ?_
       rintro e w4 ⟨rfl,hb4⟩;rw[HF.out,fnd];have hb04:=hb03.trans (hb4.mono hb03.size);clear c0 c1 c2 c3 c4 hbw hlt hb03 hb4;obtain⟨c0,c1,c2,c3,c4,hbw,hlt⟩:=bx5 hb04
       go_wp2_with fail;refine(checkTo_any L v 3 p q t b _ (HV.out.below (hbw.alloc (Nat.le_of_lt hlt) _)) HS.out hp hq HC.out HQ.out).mono ?_
       rintro e w5 ⟨rfl,hb5⟩;have hb05:Below w.heap.size w w5:=(hbw.alloc (Nat.le_of_lt hlt) _).trans (hb5.mono (by simp;omega));clear c0 c1 c2 c3 c4 hbw hlt hb04 hb5;go_wp2_with fail;go_ret;exact⟨Pp.ret_int HE.out.symm,hb05⟩
   · have hz2:(Pp.foldE L (Pp.par q.data.toList)==0)=false:=by simpa using hf0
     have HE:=hid (show Pp.foldE L (Pp.par q.data.toList)=Pp.plcE L ⟨3,p,q,t,b⟩from by rw[←Pp.pl_fold (by rw[hgo];exact hf0),hgo]);clear hf0 hgo;go_enter Tryz.func124,Tryz.ntmps124
     go_wp2_with fail;refine(parent_any p _ hp).mono ?_
     rintro e w0 ⟨rfl,hb0⟩;rw[HC.out,Pp.ifc_yes rfl];obtain⟨c0,c1,c2,c3,c4,hbw,hlt⟩:=bx5 hb0
     go_wp2_with fail;refine(parent_any q _ hq).mono ?_
     rintro e w1 ⟨rfl,hb1⟩;rw[HQ.out,Pp.ifc_yes rfl];have hb01:=hb0.trans (hb1.mono hb0.size);clear c0 c1 c2 c3 c4 hbw hlt hb0 hb1;obtain⟨c0,c1,c2,c3,c4,hbw,hlt⟩:=bx5 hb01
     go_wp2_with fail;refine(checkFolder_any L v ⟨(Pp.par q.data.toList).toArray⟩ _ (HV.out.below hbw) HS.out).mono ?_
     rintro e w2 ⟨rfl,hb2⟩;have hb02:=hb01.trans (hb2.mono hb01.size);clear c0 c1 c2 c3 c4 hbw hlt hb01 hb2;obtain⟨c0,c1,c2,c3,c4,hbw,hlt⟩:=bx5 hb02
     clear hb02;have hz3:(Pp.foldE L (⟨(Pp.par q.data.toList).toArray⟩:ByteArray).data.toList==0)=false:=hz2;generalize hG:Pp.foldE L (⟨(Pp.par q.data.toList).toArray⟩:ByteArray).data.toList=G at*;go_wp2_with fail;go_ret;exact⟨Pp.ret_int HE.out,hbw⟩
end Go.Proofs.YtdifomkoegmngaaGreatDoor
namespace Go.Proofs.YtdifomkoegmngaaGreatDoor
open Go.RowKit

set_option maxHeartbeats 1000000 in
theorem isStale_yes (L:List En) (v:Value) (k:Int) (p q t:ByteArray) (b:Int) (w:World) (hv:Lies w v L) (hs: ∀e∈L,e.path.size≤1000000000000000) (hp:p.size≤1000000000000000) (h1: ¬b= -1) (x:En) (hf:L.find? (Pp.stB p.data.toList b)=some x):
    Calls Tryz.prog 125 #[v,.agg #[.int .i64 k,.string p,.string q,.string t,.int .i64 b]] w fun e w'=>e= .returned (.bool true)∧Below w.heap.size w w':=by
 have HV:Hid (Lies w v L):=hv;have HS:Hid (∀e∈L,e.path.size≤1000000000000000):=hs;have HF:Hid (L.find? (Pp.stB p.data.toList b)=some x):=hf;have h2:(b== -1)=false:=by simpa using h1
 clear hv hs hf;have hst: ∀(W:World) (a:Addr) (f:Fn) (x y:Array Value),(store a (.func f x y)).run Tryz.prog W=stored Tryz.prog W a (.func f x y) .plain:=fun W a f x y=>run_store Tryz.prog W a _ _ rfl
 go_enter Tryz.func125,Tryz.ntmps125
 go_wp2_with fail;refine(twithin_any p _ hp).mono ?_
 rintro e w1 ⟨rfl,ht,hb1⟩;obtain⟨c0,c1,c2,c3,c4,hbw,hlt⟩:=bx5 hb1
 have HT:Hid (Tells w1 160 #[.pointer (some ⟨(w.alloc (.cells #[.int .i64 k,.string p,.string q,.string t,.int .i64 b] 53)).heap.size,0,none⟩)] (Pp.inB p.data.toList)):=ht;clear ht hb1;go_wp2_with fail;refine(first_any L v _ _ (Pp.stB p.data.toList b) _ (HV.out.below (hbw.alloc (Nat.le_of_lt hlt) _)) ⟨enters_of Tryz.func143 (by kernel_rfl) rfl,?_⟩ HS.out).mono ?_
 · intro W hW x hx
   have hW1:Below w1.heap.size w1 W:=((Below.refl _ _).alloc (Nat.le_refl _) _).trans (hW.mono (by simp));refine stale1_any x p k t q b w.heap.size w1.heap.size 160 #[.pointer (some ⟨w.heap.size+1,0,none⟩)] W (Nat.lt_of_lt_of_le hlt hW1.size) (Nat.lt_of_lt_of_le (by simp) hW.size) ((hW1.cell (p:=⟨w.heap.size,4,none⟩) hlt).trans c4) ((hW.cell (p:=⟨w1.heap.size,0,none⟩) (by simp)).trans (by simp)) ?_ hx
   have h:=HT.out.below hW1;simpa using h
 · rintro e w2 ⟨rfl,hb2⟩
   rw[HF.out,fnd];have hbw2:Below w.heap.size w w2:=(hbw.alloc (Nat.le_of_lt hlt) _).trans (hb2.mono (by simp;omega));have hlt2:w.heap.size<w2.heap.size:=by have:=hb2.size;simp at this;omega
   clear hb2 c0 c1 c2 c3 c4;go_wp2;go_ret;exact⟨rfl,hbw2.alloc (Nat.le_of_lt hlt2) _⟩
namespace Pp
theorem inB_wi {e:En} {p:List UInt8} (h1:chk e.path.data.toList=0) (h2:chk p=0):inB p e=wi p e:=by
 rw[inB,wi];simp[chks,h1,h2]
theorem stB_stW {e:En} {p:List UInt8} {b:Int} (h1:chk e.path.data.toList=0) (h2:chk p=0):stB p b e=stW p b e:=by
 rw[stB,stW,inB_wi h1 h2]
theorem filter_eq {f g:En→Bool} {L:List En} (h: ∀e∈L,f e=g e):L.filter f=L.filter g:=List.filter_congr h
theorem stl_find {L:List En} {c:Ch} (hL: ∀e∈L,chk e.path.data.toList=0) (hp:chk c.p.data.toList=0):stl L c=(!(c.b== -1) && (L.find? (stB c.p.data.toList c.b)).isSome):=by
 rw[stl];congr 1
 cases hf:L.find? (stB c.p.data.toList c.b)with
 |none=>
  rw[List.any_eq_false.2]
  · rfl
  · intro e he
    have:=List.find?_eq_none.1 hf e he
    rw[stB_stW (hL e he) hp]at this;exact this
 |some x=>
  have h1:=List.find?_some hf;have h2:=List.mem_of_find?_eq_some hf;rw[stB_stW (hL x h2) hp]at h1;rw[List.any_eq_true.2 ⟨x,h2,h1⟩];rfl
end Pp

theorem isStale_any (L:List En) (v:Value) (k:Int) (p q t:ByteArray) (b:Int) (w:World) (hv:Lies w v L) (hs:Sized L) (hp:p.size≤1000000000000000) (hL: ∀e∈L,Pp.chk e.path.data.toList=0) (hc:Pp.chk p.data.toList=0):
    Calls Tryz.prog 125 #[v,.agg #[.int .i64 k,.string p,.string q,.string t,.int .i64 b]] w fun e w'=>e= .returned (.bool (Pp.stl L ⟨k,p,q,t,b⟩))∧Below w.heap.size w w':=by
 have hst:=Pp.stl_find (c:=⟨k,p,q,t,b⟩) hL hc;by_cases h1:b= -1
 · rw[hst];subst h1
   exact isStale_no L v k p q t (-1) w hv hs hp (Or.inl rfl)
 · have h2:(b== -1)=false:=by simpa using h1
   cases hf:L.find? (Pp.stB p.data.toList b)with
   |none=>
    have e:Pp.stl L ⟨k,p,q,t,b⟩=false:=by rw[hst];simp only[hf];simp
    rw[e];exact isStale_no L v k p q t b w hv hs hp (Or.inr hf)
   |some x=>
    have e:Pp.stl L ⟨k,p,q,t,b⟩=true:=by rw[hst];simp only[hf,h2];rfl
    rw[e];exact isStale_yes L v k p q t b w hv (fun e he=>(hs e he).1) hp h1 x hf
end Go.Proofs.YtdifomkoegmngaaGreatDoor
namespace Go.Proofs.YtdifomkoegmngaaGreatDoor
open Go.RowKit

namespace Pp
end Pp

theorem new4 (w:World) (a b c d:Value) (T:TypeId) (g:Nat) (hg:g=w.heap.size): ∀j u,[a,b,c,d][j]?=some u→(w.alloc (.cells #[a,b,c,d] T)).cell? ((⟨g,0,none⟩:Addr).add j)=some u:=by
 subst hg;intro j u hj;match j,hj with
 |0,hj=>simp at hj;subst hj;simp[Addr.add]
 |1,hj=>simp at hj;subst hj;simp[Addr.add]
 |2,hj=>simp at hj;subst hj;simp[Addr.add]
 |3,hj=>simp at hj;subst hj;simp[Addr.add]
 |j+4,hj=>simp at hj
theorem one4 (x y:ByteArray) (f:Bool) (n:Int): ∀u∈[Value.string x,.bool f,.string y,.int .i64 n],u.oneCell'=true:=by
 intro u hu;simp only[List.mem_cons,List.not_mem_nil,or_false]at hu;rcases hu with rfl|rfl|rfl|rfl<;>rfl
set_option maxRecDepth 100000 in
set_option maxHeartbeats 2000000 in
theorem move_own (L:List En) (v:Value) (p q t:ByteArray) (b n:Int) (w:World) (hv:Lies w v L) (hs:Sized L) (hp:p.size≤150000000000000) (hq:q.size≤150000000000000) (hL:Pp.Good L) (hc:Pp.chgE ⟨3,p,q,t,b⟩=0) (hf:L.find? (Pp.atB q.data.toList)=none) (x0:En) (hx0:L.find? (Pp.atB p.data.toList)=some x0):
    Calls Tryz.prog 145 #[v,.agg #[.int .i64 3,.string p,.string q,.string t,.int .i64 b],.int .i64 n] w fun e w'=>
     ((Pp.goL L ⟨3,p,q,t,b⟩).any (fun e=>Pp.big (Pp.mvP ⟨3,p,q,t,b⟩ e))=true∧e= .returned (.tuple #[.slice none 0 0,.int .i64 2])∧Below w.heap.size w w')∨
     ((Pp.goL L ⟨3,p,q,t,b⟩).any (fun e=>Pp.big (Pp.mvP ⟨3,p,q,t,b⟩ e))=false∧ ∃u,e= .returned (.tuple #[u,.int .i64 0])∧LiesF w.heap.size w' u (Pp.insAll (Pp.mvL L ⟨3,p,q,t,b⟩ n) (Pp.keptL L ⟨3,p,q,t,b⟩))∧Below w.heap.size w w'):=by
 obtain⟨i0,hi0,hz0,hz1,hz2⟩:=info_parts Tryz.infoE
 have hck: ∀e∈L,Pp.chk e.path.data.toList=0:=fun e he=>Pp.entE_path (hL.ents e he)
 have hcp:Pp.chk p.data.toList=0:=Pp.chg_path hc;have hcq:Pp.chk q.data.toList=0:=Pp.chg_to hc rfl;have HK:=hid (show L.filter (fun e=> !Pp.inB p.data.toList e)=Pp.keptL L ⟨3,p,q,t,b⟩from Pp.filter_eq fun e he=>by rw[Pp.inB_wi (hck e he) hcp]);have HG:=hid (show L.filter (Pp.inB p.data.toList)=Pp.goL L ⟨3,p,q,t,b⟩from Pp.filter_eq fun e he=>by rw[Pp.inB_wi (hck e he) hcp]);have HV:Hid (Lies w v L):=hv;have HS:Hid (Sized L):=hs;have hn:L.length≤60:=hL.len;have hkl:(Pp.keptL L ⟨3,p,q,t,b⟩).length≤L.length:=List.length_filter_le _ _;have hgl:(Pp.goL L ⟨3,p,q,t,b⟩).length≤L.length:=List.length_filter_le _ _;have HD:Hid ((Pp.keptL L ⟨3,p,q,t,b⟩++Pp.mvL L ⟨3,p,q,t,b⟩ n).Pairwise Pp.dif):=Pp.mv_dif hL n (Pp.chk_path_ne hcq) hf;have HR:=hid (show(Pp.keptL L ⟨3,p,q,t,b⟩).Pairwise (fun x y=>Pp.lt x y=true)from List.Pairwise.filter _ hL.rise)
 have HM:=hid (show∀e∈Pp.goL L ⟨3,p,q,t,b⟩,e.path.size≤1000000000∧Pp.chks [e.path.data.toList,p.data.toList,q.data.toList]=0∧Pp.isInB e.path.data.toList p.data.toList=true from fun e he=>by
  obtain⟨h1,h2⟩:=Pp.mem_goL.1 he
  exact⟨by rw[Lib.size_eq];have:=Pp.chk_len (hck e h1);omega,by simp[Pp.chks,hck e h1,hcp,hcq],h2⟩)
 have hmvl:Pp.mvL L ⟨3,p,q,t,b⟩ n=(Pp.goL L ⟨3,p,q,t,b⟩).map (Pp.mvd ⟨3,p,q,t,b⟩ n):=rfl
 have hg0:Pp.goL L ⟨3,p,q,t,b⟩≠[]:=fun e=>by
  have h1:=List.mem_of_find?_eq_some hx0;have h2:x0.path.data.toList=p.data.toList:=by have:=List.find?_some hx0;simpa[Pp.atB]using this
  have h3:x0∈Pp.goL L ⟨3,p,q,t,b⟩:=Pp.mem_goL.2 ⟨h1,by rw[h2];exact Pp.isIn_refl _⟩;rw[e]at h3;cases h3
 rw[hmvl]at HD⊢;clear hmvl hx0;generalize Pp.keptL L ⟨3,p,q,t,b⟩=K at*;generalize Pp.goL L ⟨3,p,q,t,b⟩=G at*;clear hv hs hL hc hf hck hcp hcq;go_enter Tryz.func145,Tryz.ntmps145
 go_wp2_with fail;refine(twithin_any p _ (by omega)).mono ?_
 rintro e w1 ⟨rfl,ht1,hb1⟩;obtain⟨c0,c1,c2,c3,c4,hbw,hlt⟩:=bx5 hb1
 have HT1:=hid (show Tells w1 160 #[.pointer (some ⟨w.heap.size+1,0,none⟩)] (Pp.inB p.data.toList)from by simpa using ht1);clear ht1;go_wp2_with fail;refine(not_any _ _ (Pp.inB p.data.toList) _ HT1.out).mono ?_
 rintro e w2 ⟨rfl,ht2,hb2⟩;have HT2:=hid ht2;have hb02:=hb1.trans (hb2.mono hb1.size);clear ht2 c0 c1 c2 c3 c4 hbw hlt hb1 hb2;obtain⟨c0,c1,c2,c3,c4,hbw,hlt⟩:=bx5 hb02
 have hlt2:=hlt;go_wp2_with fail;refine(every_any L v _ _ (fun e=> !Pp.inB p.data.toList e) _ (HV.out.below hbw) HT2.out (by omega) HS.out).mono ?_
 rintro e w3 ⟨u1,rfl,ho1,hn1,hb3⟩;rw[HK.out]at ho1;have hb03:=hb02.trans (hb3.mono hb02.size);clear c0 c1 c2 c3 c4 hbw hlt hb02;obtain⟨c0,c1,c2,c3,c4,hbw,hlt⟩:=bx5 hb03
 have hu1: ∀g,u1.ownBlock=some g→w.heap.size<g∧g<w3.heap.size:=fun g hg=>⟨Nat.lt_of_lt_of_le hlt2 (ho1.lt g hg).1,(ho1.lt g hg).2⟩
 have HO1:=hid (Pp.own_mono (B:=w.heap.size) ho1 (Nat.le_of_lt hlt2));clear ho1;go_wp2_with fail;refine(twithin_any p _ (by omega)).mono ?_
 rintro e w4 ⟨rfl,ht4,hb4⟩;have HT4:=hid ht4;have hb04:=hb03.trans (hb4.mono hb03.size);have HO4:=hid (Pp.own_below HO1.out hb4);have hs34:=hb4.size;clear ht4 c0 c1 c2 c3 c4 hbw hlt hb03 hb3 hb4 HO1;obtain⟨c0,c1,c2,c3,c4,hbw,hlt⟩:=bx5 hb04
 go_wp2_with fail;refine(every_any L v _ _ (Pp.inB p.data.toList) _ (HV.out.below hbw) HT4.out (by omega) HS.out).mono ?_
 rintro e w5 ⟨u2,rfl,ho2,hn2,hb5⟩;rw[HG.out]at ho2;have HO5:=hid (Pp.own_below HO4.out hb5);have hb05:=hb04.trans (hb5.mono hb04.size);have hs45:=hb5.size;clear c0 c1 c2 c3 c4 hbw hlt hb04 hb5 HO4;obtain⟨c0,c1,c2,c3,c4,hbw,hlt⟩:=bx5 hb05
 obtain⟨g2,cap2,rfl,hg2,hg2',hc2,hm2⟩:=Pp.own_shape ho2 hg0
 have HL2:=hid (show∀i (h:i<G.length),EnAt w5 g2 (i*4) G[i]from fun i h=>by
  obtain⟨a,cap,hv,_,_,hL⟩:=lies_own ho2 (by omega)
  obtain⟨b',o',ha,_,he⟩:=hL i h
  cases hv
  cases ha
  simpa using he)
 have C1:=hid c1;have C2:=hid c2;clear c0 c1 c2 c3 c4 ho2 hb05;go_wp2_with fail;go_loopw [8,25] (fun u i wr=> ∃k:Nat,k≤G.length∧i= .int .i64 k∧Hid ((G.take k).any (fun e=>Pp.big (Pp.mvP ⟨3,p,q,t,b⟩ e))=false)∧wr.ownsRow w.heap.size 72 4 u (K++(G.take k).map (Pp.mvd ⟨3,p,q,t,b⟩ n)).length (Pp.flat (K++(G.take k).map (Pp.mvd ⟨3,p,q,t,b⟩ n)))∧(∀g,u.ownBlock=some g→w.heap.size<g∧g≠g2)∧wr.heap[g2]?=w5.heap[g2]?∧wr.heap[w.heap.size]?=w5.heap[w.heap.size]?∧w5.heap.size≤wr.heap.size∧Below w.heap.size w wr) (fun _ i _=>G.length-(intOf i).toNat)
 case atStart=>exact⟨0,Nat.zero_le _,rfl,(by simp:(G.take 0).any (fun e=>Pp.big (Pp.mvP ⟨3,p,q,t,b⟩ e))=false),by simpa using HO5.out,fun g hg=>⟨(hu1 g hg).1,by have:=(hu1 g hg).2;omega⟩,rfl,rfl,Nat.le_refl _,hbw⟩
 case round=>
  obtain⟨k,hk,rfl,HA,hown,hub,hG2,hGc,hsz,hbel⟩:=hrel
  have cc: ∀o,wr.cell? ⟨g2,o,none⟩=w5.cell? ⟨g2,o,none⟩:=fun o=>World.cell?_of_block hG2
  have q1:wr.cell? ⟨w.heap.size,1,none⟩=some (.string p):=(World.cell?_of_block hGc).trans C1.out;have q2:wr.cell? ⟨w.heap.size,2,none⟩=some (.string q):=(World.cell?_of_block hGc).trans C2.out;have q1a: ∀o,(wr.alloc o).cell? ⟨w.heap.size,1,none⟩=some (.string p):=fun o=>(((Below.refl wr.heap.size wr).alloc (Nat.le_refl _) o).cell (p:=⟨w.heap.size,1,none⟩) (by show w.heap.size<_;omega)).trans q1
  have q2a: ∀o,(wr.alloc o).cell? ⟨w.heap.size,2,none⟩=some (.string q):=fun o=>(((Below.refl wr.heap.size wr).alloc (Nat.le_refl _) o).cell (p:=⟨w.heap.size,2,none⟩) (by show w.heap.size<_;omega)).trans q2
  by_cases hlk:k<G.length
  · obtain⟨e0,e1,e2,e3⟩:=HL2.out k hlk
    have c0:=(cc _).trans e0;have c1:=(cc _).trans e1;have c2:=(cc _).trans e2;have c3:=(cc _).trans e3;obtain⟨hsz1,hck,hin⟩:=HM.out G[k] (List.getElem_mem hlk)
    have hmE:=Pp.mvE_in hck hin;rw[Pp.mv_chk hck hin]at hmE
    have hany:(G.take (k+1)).any (fun e=>Pp.big (Pp.mvP ⟨3,p,q,t,b⟩ e))=Pp.big (Pp.mvP ⟨3,p,q,t,b⟩ G[k]):=by
     rw[List.take_succ_eq_append_getElem hlk,List.any_append,HA.out];simp
    have hmap:K++(G.take (k+1)).map (Pp.mvd ⟨3,p,q,t,b⟩ n)=(K++(G.take k).map (Pp.mvd ⟨3,p,q,t,b⟩ n))++[Pp.mvd ⟨3,p,q,t,b⟩ n G[k]]:=by
     rw[List.take_succ_eq_append_getElem hlk,List.map_append,List.append_assoc];rfl
    have hlen:(K++(G.take k).map (Pp.mvd ⟨3,p,q,t,b⟩ n)).length≤200:=by
     rw[List.length_append,List.length_map,List.length_take];omega
    generalize K++(G.take k).map (Pp.mvd ⟨3,p,q,t,b⟩ n)=X at*;clear cc e0 e1 e2 e3 hck hin;cases hbig:Pp.big (Pp.mvT G[k].path.data.toList p.data.toList q.data.toList)with
    |true=>
     rw[hbig,if_pos rfl]at hmE;have HE:=hid hmE;have HX:=hid (show G.any (fun e=>Pp.big (Pp.mvP ⟨3,p,q,t,b⟩ e))=true from List.any_eq_true.2 ⟨G[k],List.getElem_mem hlk,hbig⟩);clear hmE hany hmap hbig;go_wp2_with fail;refine(moved_any G[k].path p q _ (by omega) (by omega) (by omega)).mono ?_
     rintro e w6 ⟨rfl,hb6⟩;rw[HE.out,Pp.ifc_no (by decide)];obtain⟨d0,d1,d2,d3,hb6w,hlt6⟩:=box4 hb6
     have hbel6:=below_trans hbel hb6w;clear hb6 c0 c1 c2 c3 q1 q2 q1a q2a;go_wp2_with fail;go_ret2;exact Or.inl ⟨HX.out,rfl,hbel6⟩
    |false=>
     rw[hbig,if_neg (by decide)]at hmE;have HE:=hid hmE;have HA2:=hid (show(G.take (k+1)).any (fun e=>Pp.big (Pp.mvP ⟨3,p,q,t,b⟩ e))=false from hany.trans hbig);have HMP:=hid hmap;clear hmE hany hmap hbig
     have hcs : ((G[k].path.toList == p.toList) = true ∧ Hid (Pp.cells (Pp.mvd ⟨3, p, q, t, b⟩ n G[k]) = [.string ⟨(Pp.mvT G[k].path.data.toList p.data.toList q.data.toList).toArray⟩, .bool G[k].folder, .string G[k].text, .int .i64 n])) ∨
         ((G[k].path.toList==p.toList)=false∧Hid (Pp.cells (Pp.mvd ⟨3,p,q,t,b⟩ n G[k])=[.string ⟨(Pp.mvT G[k].path.data.toList p.data.toList q.data.toList).toArray⟩,.bool G[k].folder,.string G[k].text,.int .i64 G[k].ver])):=by
      cases he:(G[k].path.toList==p.toList)with
      |true=>
       have he2:G[k].path.data.toList=p.data.toList:=by rw[Lib.toList_data,Lib.toList_data]at he;simpa using he
       refine Or.inl ⟨rfl,(by rw[Pp.cells,Pp.mvd];simp only[he2,if_true,Pp.mvP]:Pp.cells (Pp.mvd ⟨3,p,q,t,b⟩ n G[k])=_)⟩
      |false=>
       have he2: ¬G[k].path.data.toList=p.data.toList:=by rw[Lib.toList_data,Lib.toList_data]at he;simpa using he
       refine Or.inr ⟨rfl,(by rw[Pp.cells,Pp.mvd];simp only[he2,if_false,Pp.mvP]:Pp.cells (Pp.mvd ⟨3,p,q,t,b⟩ n G[k])=_)⟩
     rcases hcs with⟨hpe,HC⟩|⟨hpe,HC⟩
     · go_wp2_with fail
       refine(moved_any G[k].path p q _ (by omega) (by omega) (by omega)).mono ?_
       rintro e w6 ⟨rfl,hb6⟩;rw[HE.out,Pp.ifc_yes rfl];obtain⟨d0,d1,d2,d3,hb6w,hlt6⟩:=box4 hb6
       have f0:=box4f hb6 0;have f3:=box4f hb6 3;have q1':w6.cell? ⟨w.heap.size,1,none⟩=some (.string p):=(hb6w.cell (p:=⟨w.heap.size,1,none⟩) (by show w.heap.size<_;omega)).trans q1;clear hb6 c0 c1 c2 c3 q1 q2 q1a q2a;have hbW: ∀o,Below wr.heap.size wr (((w6.setCell ⟨wr.heap.size,3,none⟩ (.int .i64 n)).setCell ⟨wr.heap.size,0,none⟩ (.string ⟨(Pp.mvT G[k].path.data.toList p.data.toList q.data.toList).toArray⟩)).alloc o):=fun o=>Below.alloc (((hb6w.setCell (p:=⟨wr.heap.size,3,none⟩) (Nat.le_refl _) _).setCell (p:=⟨wr.heap.size,0,none⟩) (Nat.le_refl _) _)) (by first|(simp;omega)|omega) o
       go_wp2_with (at_builtin;refine wpList_append_own_at _ rfl _ _ 22 rfl w.heap.size 72 i0 (.agg #[.string ⟨#[]⟩,.bool false,.string ⟨#[]⟩,.int .i64 0]) 4 48 Tryz.underlying22 hi0 hz0 hz1 hz2 rfl (by decide) _ _ _ rfl (Pp.own_below hown (hbW _)) ⟨w6.heap.size,0,none⟩ 1 1 [.string ⟨(Pp.mvT G[k].path.data.toList p.data.toList q.data.toList).toArray⟩,.bool G[k].folder,.string G[k].text,.int .i64 n] rfl rfl ?c1 ?c2 ?c3 ?c4 ?c5 ?_)
       case c1=>exact new4 _ _ _ _ _ _ _ (by simp)
       case c2=>exact one4 _ _ _ _
       case c3=>unfold maxLen;omega
       case c4=>omega
       case c5=>have:=hbel.size;simp;omega
       intro v2 w2' ho2 hgr2 hnn2 hat2;have hszW:=(hbW (.cells #[.string ⟨(Pp.mvT G[k].path.data.toList p.data.toList q.data.toList).toArray⟩,.bool G[k].folder,.string G[k].text,.int .i64 n] 72)).size;have hbel2:Below w.heap.size w w2':=(hbel.trans ((hbW _).mono hbel.size)).grown hgr2 (by have:=hbel.size;omega) (fun g hg=>Nat.le_of_lt (hub g hg).1);have hG2':w2'.heap[g2]?=w5.heap[g2]?:=((hgr2.block g2 (by omega) (fun e=>(hub g2 e.symm).2 rfl)).trans ((hbW _).block g2 (by omega))).trans hG2;have hGc':w2'.heap[w.heap.size]?=w5.heap[w.heap.size]?:=((hgr2.block w.heap.size (by have:=hbel.size;omega) (fun e=>Nat.lt_irrefl _ (hub _ e.symm).1)).trans ((hbW _).block w.heap.size (by omega))).trans hGc;have hsz':w5.heap.size≤w2'.heap.size:=Nat.le_trans hsz (Nat.le_trans hszW hgr2.size)
       have hub': ∀g,v2.ownBlock=some g→w.heap.size<g∧g≠g2:=fun g hg=>by
        rcases hat2 with h|h
        · exact hub g (h.symm.trans hg)
        · rw[h]at hg
          have e:=Option.some.inj hg;constructor<;>omega
       rw[←HC.out,Pp.flat_snoc]at ho2;have HO:Hid (w2'.ownsRow w.heap.size 72 4 v2 (X.length+1) (Pp.flat (X++[Pp.mvd ⟨3,p,q,t,b⟩ n G[k]]))):=ho2;clear ho2 hgr2 hnn2 hat2 hown hub hG2 hGc hsz hbW hszW hbel d0 d1 d2 d3 f0 f3 q1' hb6w;go_wp2_with fail;go_roundw
       case rel=>exact⟨k+1,by omega,by simp,HA2,by rw[HMP.out,List.length_append];exact HO.out,hub',hG2',hGc',hsz',hbel2⟩
       case measure=>simp[intOf];omega
     · go_wp2_with fail
       refine(moved_any G[k].path p q _ (by omega) (by omega) (by omega)).mono ?_
       rintro e w6 ⟨rfl,hb6⟩;rw[HE.out,Pp.ifc_yes rfl];obtain⟨d0,d1,d2,d3,hb6w,hlt6⟩:=box4 hb6
       have f0:=box4f hb6 0;have f3:=box4f hb6 3;have q1':w6.cell? ⟨w.heap.size,1,none⟩=some (.string p):=(hb6w.cell (p:=⟨w.heap.size,1,none⟩) (by show w.heap.size<_;omega)).trans q1;clear hb6 c0 c1 c2 c3 q1 q2 q1a q2a;have hbW: ∀o,Below wr.heap.size wr ((w6.setCell ⟨wr.heap.size,0,none⟩ (.string ⟨(Pp.mvT G[k].path.data.toList p.data.toList q.data.toList).toArray⟩)).alloc o):=fun o=>Below.alloc ((hb6w.setCell (p:=⟨wr.heap.size,0,none⟩) (Nat.le_refl _) _)) (by first|(simp;omega)|omega) o
       go_wp2_with (at_builtin;refine wpList_append_own_at _ rfl _ _ 22 rfl w.heap.size 72 i0 (.agg #[.string ⟨#[]⟩,.bool false,.string ⟨#[]⟩,.int .i64 0]) 4 48 Tryz.underlying22 hi0 hz0 hz1 hz2 rfl (by decide) _ _ _ rfl (Pp.own_below hown (hbW _)) ⟨w6.heap.size,0,none⟩ 1 1 [.string ⟨(Pp.mvT G[k].path.data.toList p.data.toList q.data.toList).toArray⟩,.bool G[k].folder,.string G[k].text,.int .i64 G[k].ver] rfl rfl ?c1 ?c2 ?c3 ?c4 ?c5 ?_)
       case c1=>exact new4 _ _ _ _ _ _ _ (by simp)
       case c2=>exact one4 _ _ _ _
       case c3=>unfold maxLen;omega
       case c4=>omega
       case c5=>have:=hbel.size;simp;omega
       intro v2 w2' ho2 hgr2 hnn2 hat2;have hszW:=(hbW (.cells #[.string ⟨(Pp.mvT G[k].path.data.toList p.data.toList q.data.toList).toArray⟩,.bool G[k].folder,.string G[k].text,.int .i64 G[k].ver] 72)).size;have hbel2:Below w.heap.size w w2':=(hbel.trans ((hbW _).mono hbel.size)).grown hgr2 (by have:=hbel.size;omega) (fun g hg=>Nat.le_of_lt (hub g hg).1);have hG2':w2'.heap[g2]?=w5.heap[g2]?:=((hgr2.block g2 (by omega) (fun e=>(hub g2 e.symm).2 rfl)).trans ((hbW _).block g2 (by omega))).trans hG2;have hGc':w2'.heap[w.heap.size]?=w5.heap[w.heap.size]?:=((hgr2.block w.heap.size (by have:=hbel.size;omega) (fun e=>Nat.lt_irrefl _ (hub _ e.symm).1)).trans ((hbW _).block w.heap.size (by omega))).trans hGc;have hsz':w5.heap.size≤w2'.heap.size:=Nat.le_trans hsz (Nat.le_trans hszW hgr2.size)
       have hub': ∀g,v2.ownBlock=some g→w.heap.size<g∧g≠g2:=fun g hg=>by
        rcases hat2 with h|h
        · exact hub g (h.symm.trans hg)
        · rw[h]at hg
          have e:=Option.some.inj hg;constructor<;>omega
       rw[←HC.out,Pp.flat_snoc]at ho2;have HO:Hid (w2'.ownsRow w.heap.size 72 4 v2 (X.length+1) (Pp.flat (X++[Pp.mvd ⟨3,p,q,t,b⟩ n G[k]]))):=ho2;clear ho2 hgr2 hnn2 hat2 hown hub hG2 hGc hsz hbW hszW hbel d0 d1 d2 d3 f0 f3 q1' hb6w;go_wp2_with fail;go_roundw
       case rel=>exact⟨k+1,by omega,by simp,HA2,by rw[HMP.out,List.length_append];exact HO.out,hub',hG2',hGc',hsz',hbel2⟩
       case measure=>simp[intOf];omega
  · have ek:G.take k=G:=List.take_of_length_le (by omega)
    rw[ek]at hown HA
    have hne:K++G.map (Pp.mvd ⟨3,p,q,t,b⟩ n)≠[]:=by
     intro e;rw[List.append_eq_nil_iff]at e;exact hg0 (List.map_eq_nil_iff.1 e.2)
    obtain⟨g,cap,rfl,hg1,hg1',hc1,hc1'⟩:=Pp.own_shape hown hne
    have hlen:(K++G.map (Pp.mvd ⟨3,p,q,t,b⟩ n)).length≤200:=by
     rw[List.length_append,List.length_map];omega
    have HO:=hid hown;have HD0:=hid HD.out;generalize hXX:K++G.map (Pp.mvd ⟨3,p,q,t,b⟩ n)=X at HO hne hlen hc1;have HX:Hid (X=K++G.map (Pp.mvd ⟨3,p,q,t,b⟩ n)):=hXX.symm;try rw[hXX]at hown
    try rw[hXX]
    clear hXX;clear hown hub hG2 hGc hsz cc q1 q2 q1a q2a ek;go_wp2_with fail;refine(sortPaths_any X w.heap.size g cap _ HO.out (by omega) hc1 hg1 hg1').mono ?_
    rintro e w6 ⟨rfl,M,hpm,hsrt,hli,hb6⟩;have HMM:Hid (LiesF w.heap.size w6 (.slice (some ⟨g,0,none⟩) X.length cap) M):=hli;have HPM:=hid hpm;have HSRT:=hid hsrt;clear hpm hsrt hli;go_wp2;go_ret2;exact Or.inr ⟨HA.out,_,rfl,by rw[←Pp.sort_all (HX.out▸HPM.out) HSRT.out HR.out HD0.out];exact HMM.out,hbel.trans hb6⟩
end Go.Proofs.YtdifomkoegmngaaGreatDoor
namespace Go.Proofs.YtdifomkoegmngaaGreatDoor
namespace Pp
def ifz (e:Int) (L:List En):List En:=if e=0 then L else[]
theorem ifz_yes {e:Int} (h:e=0) (L:List En):ifz e L=L:=if_pos h
theorem ifz_no {e:Int} (h: ¬e=0) (L:List En):ifz e L=[]:=if_neg h
end Pp
end Go.Proofs.YtdifomkoegmngaaGreatDoor
