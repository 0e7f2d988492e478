/- What the document's own IsIn answers, for every two texts. -/
import Derived.Test.YtdifomkoegmngaaGreatDoorRKH
import Derived.Test.YtdifomkoegmngaaGreatDoorRKD
import Derived.Test.YtdifomkoegmngaaGreatDoorRKC
import Derived.Test.YtdifomkoegmngaaGreatDoorRKE
import Derived.Deep.RegionHeld3
import Derived.Deep.RegionLaw
import Derived.Deep.DeepCutAuto
import Derived.WalkKit
set_option linter.unusedSimpArgs false
set_option linter.unusedVariables false
namespace Go.Proofs.YtdifomkoegmngaaGreatDoor
open Go.RowKit

namespace Pp
theorem pre_short {A B:List (List UInt8)} (h:A.length<B.length):false=B.isPrefixOf A:=by
 symm
 cases e:B.isPrefixOf A with
 |false=>rfl
 |true=>have:=(List.isPrefixOf_iff_prefix.1 e).length_le;omega
theorem pre_no {A B:List (List UInt8)} {k:Nat} (hA:k<A.length) (hB:k<B.length) (h: ¬A[k]=B[k]):false=B.isPrefixOf A:=by
 symm
 cases e:B.isPrefixOf A with
 |false=>rfl
 |true=>
  obtain⟨t,ht⟩:=List.isPrefixOf_iff_prefix.1 e
  subst ht;exact absurd (by simp[List.getElem_append_left hB]) h
theorem pre_yes {A B:List (List UInt8)} (h:A.take B.length=B):true=B.isPrefixOf A:=by
 symm
 rw[List.isPrefixOf_iff_prefix];have:=List.take_prefix B.length A
 rwa [h]at this
end Pp

set_option maxHeartbeats 800000 in
theorem isIn_any (s t:ByteArray) (w:World) (hs:s.size≤1000000000) (ht:t.size≤1000000000):
    Calls Tryz.prog 95 #[.string s,.string t] w fun e w'=>e= .returned (.bool (Pp.isInB s.data.toList t.data.toList))∧Below w.heap.size w w':=by
 have hn1:(Pp.nm s.data.toList).length≤s.size+1:=by have:=Pp.nm_len_le s.data.toList;rwa [←Lib.size_eq]at this
 have hn2:(Pp.nm t.data.toList).length≤t.size+1:=by have:=Pp.nm_len_le t.data.toList;rwa [←Lib.size_eq]at this
 obtain⟨A,hA⟩: ∃L,L=Pp.nm s.data.toList:=⟨_,rfl⟩
 obtain⟨B,hB⟩: ∃L,L=Pp.nm t.data.toList:=⟨_,rfl⟩
 have HA:Hid (A=Pp.nm s.data.toList):=hA;have HB:Hid (B=Pp.nm t.data.toList):=hB;have HI:=hid (show Pp.isInB s.data.toList t.data.toList=B.isPrefixOf A from by rw[Pp.isInB,hA,hB]);rw[←hA]at hn1;rw[←hB]at hn2;clear hA hB;go_enter Tryz.func95,Tryz.ntmps95
 go_wp2_with fail;refine(rNames_at s _ hs).mono ?_
 rintro e w1 ⟨g1,c1,rfl,hc1,hc1',hg1,hg1',hcell1,hb1⟩;rw[←HA.out]at hc1 hcell1⊢;go_wp2_with fail;refine(rNames_at t _ ht).mono ?_
 rintro e w2 ⟨g2,c2,rfl,hc2,hc2',hg2,hg2',hcell2,hb2⟩;rw[←HB.out]at hc2 hcell2⊢;have HC1:=hid (show∀i (h:i<A.length),w2.cell? ⟨g1,i,none⟩=some (.string ⟨(A[i]).toArray⟩)from fun i h=>(hb2.cell (p:=⟨g1,i,none⟩) hg1').trans (hcell1 i h));have HC2:Hid (∀i (h:i<B.length),w2.cell? ⟨g2,i,none⟩=some (.string ⟨(B[i]).toArray⟩)):=hcell2;have hb:Below w.heap.size w w2:=below_trans hb1 hb2;clear hcell1 hcell2 hb1 hb2;by_cases hlen:A.length<B.length
 · have hl2:(A.length:Int)<B.length:=by omega
   go_wp2;go_ret;exact⟨Pp.ret_bool (by rw[HI.out];exact Pp.pre_short hlen),hb⟩
 · have hl2:(B.length:Int)≤A.length:=by omega
   go_wp2_with fail;go_loopw [7] (fun i wr=> ∃k:Nat,k≤B.length∧i= .int .i64 k∧Hid (A.take k=B.take k)∧Below w2.heap.size w2 wr) (fun i _=>B.length-(intOf i).toNat)
   case atStart=>exact⟨0,Nat.zero_le _,rfl,rfl,Below.refl _ _⟩
   case round=>
    obtain⟨k,hk,rfl,HE,hbel⟩:=hrel
    by_cases hlt:k<B.length
    · have hltA:k<A.length:=by omega
      have hce1:wr.cell? ⟨g1,k,none⟩=some (.string ⟨(A[k]).toArray⟩):=(hbel.cell (p:=⟨g1,k,none⟩) (show g1<w2.heap.size by omega)).trans (HC1.out k hltA);have hce2:wr.cell? ⟨g2,k,none⟩=some (.string ⟨(B[k]).toArray⟩):=(hbel.cell (p:=⟨g2,k,none⟩) hg2').trans (HC2.out k hlt);cases heq:(A[k]==B[k])with
      |true=>
       have HQ:=hid (show A[k]=B[k]from by simpa using heq);go_wp2_with fail;go_region
       go_wp2;go_roundw
       case rel=>exact⟨k+1,by omega,by simp,(by rw[List.take_succ_eq_append_getElem hltA,List.take_succ_eq_append_getElem hlt,HE.out,HQ.out]:A.take (k+1)=B.take (k+1)),hbel.drew⟩
       case measure=>simp[intOf];omega
      |false=>
       have HQ:=hid (show¬A[k]=B[k]from by simpa using heq);go_wp2_with fail;go_region
       go_wp2;go_ret;exact⟨Pp.ret_bool (by rw[HI.out];exact Pp.pre_no hltA hlt HQ.out),(below_trans hb hbel).drew⟩
    · go_wp2_with fail
      go_ret;exact⟨Pp.ret_bool (by rw[HI.out];obtain rfl:k=B.length:=(by omega);exact Pp.pre_yes (by have:=HE.out;rwa [List.take_length]at this)),below_trans hb hbel⟩
end Go.Proofs.YtdifomkoegmngaaGreatDoor
namespace Go.Proofs.YtdifomkoegmngaaGreatDoor
open Go.RowKit

namespace Pp
theorem plc_err {L:List En} {k:Int} {p q t:ByteArray} {b:Int} (hk:1≤k∧k≤4) (h: ¬plcE L ⟨k,p,q,t,b⟩=0):
    (¬foldE L (par (goal ⟨k,p,q,t,b⟩))=0∧plcE L ⟨k,p,q,t,b⟩=foldE L (par (goal ⟨k,p,q,t,b⟩)))∨
    (foldE L (par (goal ⟨k,p,q,t,b⟩))=0∧(
     (k=1∧(∃j,∃h:j<L.length,idx L p.data.toList=(j:Int))∧6=plcE L ⟨k,p,q,t,b⟩)∨
     (k=2∧(∃j,∃h:j<L.length,idx L p.data.toList=(j:Int)∧(L[j]).folder=true)∧4=plcE L ⟨k,p,q,t,b⟩)∨
     ((k=3∨k=4)∧idx L p.data.toList= -1∧5=plcE L ⟨k,p,q,t,b⟩)∨
     (k=3∧(∃j,∃h:j<L.length,idx L p.data.toList=(j:Int))∧isInB q.data.toList p.data.toList=true∧3=plcE L ⟨k,p,q,t,b⟩)∨
     (k=3∧(∃j,∃h:j<L.length,idx L p.data.toList=(j:Int))∧isInB q.data.toList p.data.toList=false∧(∃j,∃h:j<L.length,idx L q.data.toList=(j:Int))∧6=plcE L ⟨k,p,q,t,b⟩))):=by
 by_cases hf:foldE L (par (goal ⟨k,p,q,t,b⟩))=0
 · refine Or.inr ⟨hf,?_⟩
   have hE:plcE L ⟨k,p,q,t,b⟩=match L.find? (atB p.data.toList)with
    |none=>if k=3∨k=4 then 5 else 0
    |some x=>if k=1 then 6 else if k=2 then(if x.folder=true then 4 else 0)
     else if k=3 then(if isInB q.data.toList p.data.toList=true then 3 else if(L.find? (atB q.data.toList)).isSome=true then 6 else 0)else 0:=by
    rw[plcE,if_neg (fun x=>x hf)];rfl
   rcases idx_cases L p.data.toList with⟨hi,hn⟩|⟨j,hj,hi,hn⟩
   · rw[hn]at hE
     have h34:k=3∨k=4:=by
      by_cases h34:k=3∨k=4
      · exact h34
      · rw[hE]at h;simp[h34]at h
     exact Or.inr (Or.inr (Or.inl ⟨h34,hi,by rw[hE];simp only[if_pos h34]⟩))
   · rw[hn]at hE
     have h4:k=1∨k=2∨k=3∨k=4:=by omega
     rcases h4 with rfl|rfl|rfl|rfl
     · exact Or.inl ⟨rfl,⟨j,hj,hi⟩,by rw[hE];rfl⟩
     · cases hx:(L[j]).folder with
       |true=>exact Or.inr (Or.inl ⟨rfl,⟨j,hj,hi,hx⟩,by rw[hE];simp[hx]⟩)
       |false=>rw[hE]at h;simp[hx]at h
     · cases hx:isInB q.data.toList p.data.toList with
       |true=>exact Or.inr (Or.inr (Or.inr (Or.inl ⟨rfl,⟨j,hj,hi⟩,rfl,by rw[hE];simp[hx]⟩)))
       |false=>
        rcases idx_cases L q.data.toList with⟨hi2,hn2⟩|⟨j2,hj2,hi2,hn2⟩
        · rw[hE]at h;simp[hx,hn2]at h
        · exact Or.inr (Or.inr (Or.inr (Or.inr ⟨rfl,⟨j,hj,hi⟩,rfl,⟨j2,hj2,hi2⟩,by rw[hE];simp[hx,hn2]⟩)))
     · rw[hE]at h;simp at h
 · exact Or.inl ⟨hf,by rw[plcE,if_pos hf]⟩
theorem plc_ok {L:List En} {k:Int} {p q t:ByteArray} {b:Int} (hk:1≤k∧k≤4) (h:plcE L ⟨k,p,q,t,b⟩=0):
    foldE L (par (goal ⟨k,p,q,t,b⟩))=0∧(
     (k=1∧idx L p.data.toList= -1)∨(k=2∧idx L p.data.toList= -1)∨
     (k=2∧ ∃j,∃h:j<L.length,idx L p.data.toList=(j:Int)∧(L[j]).folder=false)∨
     (k=3∧(∃j,∃h:j<L.length,idx L p.data.toList=(j:Int))∧isInB q.data.toList p.data.toList=false∧idx L q.data.toList= -1∧L.find? (atB q.data.toList)=none)∨
     (k=4∧ ∃j,∃h:j<L.length,idx L p.data.toList=(j:Int))):=by
 have hf:=plc_fold h;refine⟨hf,?_⟩
 have hE:plcE L ⟨k,p,q,t,b⟩=match L.find? (atB p.data.toList)with
  |none=>if k=3∨k=4 then 5 else 0
  |some x=>if k=1 then 6 else if k=2 then(if x.folder=true then 4 else 0)
   else if k=3 then(if isInB q.data.toList p.data.toList=true then 3 else if(L.find? (atB q.data.toList)).isSome=true then 6 else 0)else 0:=by
  rw[plcE,if_neg (fun x=>x hf)];rfl
 rw[hE]at h;have h4:k=1∨k=2∨k=3∨k=4:=by omega
 rcases idx_cases L p.data.toList with⟨hi,hn⟩|⟨j,hj,hi,hn⟩
 · rw[hn]at h
   rcases h4 with rfl|rfl|rfl|rfl
   · exact Or.inl ⟨rfl,hi⟩
   · exact Or.inr (Or.inl ⟨rfl,hi⟩)
   · simp at h
   · simp at h
 · rw[hn]at h
   rcases h4 with rfl|rfl|rfl|rfl
   · simp at h
   · cases hx:(L[j]).folder with
     |true=>simp[hx]at h
     |false=>exact Or.inr (Or.inr (Or.inl ⟨rfl,j,hj,hi,hx⟩))
   · cases hx:isInB q.data.toList p.data.toList with
     |true=>simp[hx]at h
     |false=>
      rcases idx_cases L q.data.toList with⟨hi2,hn2⟩|⟨j2,hj2,hi2,hn2⟩
      · exact Or.inr (Or.inr (Or.inr (Or.inl ⟨rfl,⟨j,hj,hi⟩,rfl,hi2,hn2⟩)))
      · simp[hx,hn2]at h
   · exact Or.inr (Or.inr (Or.inr (Or.inr ⟨rfl,j,hj,hi⟩)))
end Pp

set_option maxRecDepth 100000 in
set_option maxHeartbeats 1000000 in
theorem changeOf_form (L:List En) (v:Value) (k:Int) (p q t:ByteArray) (b n:Int) (w:World) (hp:p.size≤1000000000) (hq:q.size≤1000000000) (ht:t.size≤1000000000) (hc: ¬Pp.chgE ⟨k,p,q,t,b⟩=0):
    Calls Tryz.prog 75 #[v,.agg #[.int .i64 k,.string p,.string q,.string t,.int .i64 b],.int .i64 n] w fun e w'=>e= .returned (.tuple #[.slice none 0 0,.int .i64 (Pp.chgE ⟨k,p,q,t,b⟩)])∧Below w.heap.size w w':=by
 have hz:(Pp.chgE ⟨k,p,q,t,b⟩==0)=false:=by simpa using hc
 go_enter Tryz.func75,Tryz.ntmps75
 go_wp2_with fail;refine(changeForm_any k p q t b _ hp hq (by omega)).mono ?_
 rintro e w1 ⟨rfl,hb1⟩;obtain⟨c0,c1,c2,c3,c4,hbw,hlt⟩:=bx5 hb1
 clear hb1;go_wp2_with fail;go_ret2;exact⟨rfl,hbw⟩
set_option maxRecDepth 100000 in
set_option maxHeartbeats 2000000 in
theorem changeOf_place (L:List En) (v:Value) (k:Int) (p q t:ByteArray) (b n:Int) (w:World) (hv:Lies w v L) (hp:p.size≤1000000000) (hq:q.size≤1000000000) (ht:t.size≤1000000000) (hc:Pp.chgE ⟨k,p,q,t,b⟩=0) (hpl: ¬Pp.plcE L ⟨k,p,q,t,b⟩=0):
    Calls Tryz.prog 75 #[v,.agg #[.int .i64 k,.string p,.string q,.string t,.int .i64 b],.int .i64 n] w fun e w'=>e= .returned (.tuple #[.slice none 0 0,.int .i64 (Pp.plcE L ⟨k,p,q,t,b⟩)])∧Below w.heap.size w w':=by
 have HV:=hid hv;have HC:=hid hc;have hk:1≤k∧k≤4:=Pp.chg_kind hc;rcases Pp.plc_err hk hpl with⟨h0,hE⟩|⟨h0,hr⟩
 · rw[hE]
   have hz:(Pp.foldE L (Pp.par (Pp.goal ⟨k,p,q,t,b⟩))==0)=false:=by simpa using h0
   clear hE h0 hpl hc hv;by_cases h3:k=3
   · subst h3
     have hg:Pp.goal ⟨3,p,q,t,b⟩=q.data.toList:=rfl;rw[hg]at hz⊢;clear hg hk;go_enter Tryz.func75,Tryz.ntmps75
     go_wp2_with fail;refine(changeForm_any 3 p q t b _ hp hq (by omega)).mono ?_
     rintro e w1 ⟨rfl,hb1⟩;rw[HC.out];obtain⟨c0,c1,c2,c3,c4,hbw,hlt⟩:=bx5 hb1
     go_wp2_with fail;refine(parentOf_any q _ hq).mono ?_
     rintro e w2 ⟨rfl,hb2⟩;have hb02:=hbw.trans (hb2.mono (Nat.le_of_lt hlt));clear c0 c1 c2 c3 c4 hbw hlt hb1 hb2;go_wp2_with fail;refine(isFolder_any L v ⟨(Pp.par q.data.toList).toArray⟩ _ (HV.out.below hb02)).mono ?_
     rintro e w3 ⟨rfl,hb3⟩;rw[show Pp.foldE L _=Pp.foldE L (Pp.par q.data.toList)from rfl];have hb03:=hb02.trans (hb3.mono hb02.size);clear hb02 hb3;go_wp2;go_ret2;exact⟨rfl,hb03⟩
   · have hg:Pp.goal ⟨k,p,q,t,b⟩=p.data.toList:=if_neg h3
     have h3':(k==3)=false:=by simpa using h3
     rw[hg]at hz⊢;clear hg hk;go_enter Tryz.func75,Tryz.ntmps75
     go_wp2_with fail;refine(changeForm_any k p q t b _ hp hq (by omega)).mono ?_
     rintro e w1 ⟨rfl,hb1⟩;rw[HC.out];obtain⟨c0,c1,c2,c3,c4,hbw,hlt⟩:=bx5 hb1
     go_wp2_with fail;refine(parentOf_any p _ hp).mono ?_
     rintro e w2 ⟨rfl,hb2⟩;have hb02:=hbw.trans (hb2.mono (Nat.le_of_lt hlt));clear c0 c1 c2 c3 c4 hbw hlt hb1 hb2;go_wp2_with fail;refine(isFolder_any L v ⟨(Pp.par p.data.toList).toArray⟩ _ (HV.out.below hb02)).mono ?_
     rintro e w3 ⟨rfl,hb3⟩;rw[show Pp.foldE L _=Pp.foldE L (Pp.par p.data.toList)from rfl];have hb03:=hb02.trans (hb3.mono hb02.size);clear hb02 hb3;go_wp2;go_ret2;exact⟨rfl,hb03⟩
 · have H0:Hid (Pp.foldE L (Pp.par (Pp.goal ⟨k,p,q,t,b⟩))=0):=h0
   clear hpl hc h0;rcases hr with⟨rfl,⟨j,hj,hi⟩,hE⟩|⟨rfl,⟨j,hj,hi,hx⟩,hE⟩|⟨rfl|rfl,hi,hE⟩|⟨rfl,⟨j,hj,hi⟩,hx,hE⟩|⟨rfl,⟨j,hj,hi⟩,hx,⟨j2,hj2,hi2⟩,hE⟩
   · have H0':Hid (Pp.foldE L (Pp.par p.data.toList)=0):=H0.out
     have HI:=hid hi;rw[←hE];clear hE hi hv;go_enter Tryz.func75,Tryz.ntmps75
     go_wp2_with fail;refine(changeForm_any _ p q t b _ hp hq (by omega)).mono ?_
     rintro e w1 ⟨rfl,hb1⟩;rw[HC.out];obtain⟨c0,c1,c2,c3,c4,hbw,hlt⟩:=bx5 hb1
     go_wp2_with fail;refine(parentOf_any p _ hp).mono ?_
     rintro e w2 ⟨rfl,hb2⟩;have hb02:=hb1.trans (hb2.mono hb1.size);clear c0 c1 c2 c3 c4 hbw hlt hb1 hb2;obtain⟨c0,c1,c2,c3,c4,hbw,hlt⟩:=bx5 hb02
     go_wp2_with fail;refine(isFolder_any L v ⟨(Pp.par p.data.toList).toArray⟩ _ (HV.out.below hbw)).mono ?_
     rintro e w3 ⟨rfl,hb3⟩;rw[show Pp.foldE L _=0 from H0'.out];have hb03:=hb02.trans (hb3.mono hb02.size);clear c0 c1 c2 c3 c4 hbw hlt hb02 hb3;obtain⟨c0,c1,c2,c3,c4,hbw,hlt⟩:=bx5 hb03
     go_wp2_with fail;refine(entryAt_any L v p _ (HV.out.below hbw)).mono ?_
     rintro e w4 ⟨rfl,hb4⟩;rw[HI.out];have hb04:=hb03.trans (hb4.mono hb03.size);clear c0 c1 c2 c3 c4 hbw hlt hb03 hb4;obtain⟨c0,c1,c2,c3,c4,hbw,hlt⟩:=bx5 hb04
     clear hb04;go_wp2;go_ret2;exact⟨rfl,hbw⟩
   · have H0':Hid (Pp.foldE L (Pp.par p.data.toList)=0):=H0.out
     have HI:=hid hi;rw[←hE];clear hE hi;obtain⟨a,cap,rfl,hcap,hcap2,hL⟩:=hv
     obtain⟨b',o',rfl,hb',he⟩:=hL j hj
     have hjj:(j:Int)<L.length:=by omega
     clear hL;go_enter Tryz.func75,Tryz.ntmps75
     go_wp2_with fail;refine(changeForm_any _ p q t b _ hp hq (by omega)).mono ?_
     rintro e w1 ⟨rfl,hb1⟩;rw[HC.out];obtain⟨c0,c1,c2,c3,c4,hbw,hlt⟩:=bx5 hb1
     go_wp2_with fail;refine(parentOf_any p _ hp).mono ?_
     rintro e w2 ⟨rfl,hb2⟩;have hb02:=hb1.trans (hb2.mono hb1.size);clear c0 c1 c2 c3 c4 hbw hlt hb1 hb2;obtain⟨c0,c1,c2,c3,c4,hbw,hlt⟩:=bx5 hb02
     go_wp2_with fail;refine(isFolder_any L _ ⟨(Pp.par p.data.toList).toArray⟩ _ (HV.out.below hbw)).mono ?_
     rintro e w3 ⟨rfl,hb3⟩;rw[show Pp.foldE L _=0 from H0'.out];have hb03:=hb02.trans (hb3.mono hb02.size);clear c0 c1 c2 c3 c4 hbw hlt hb02 hb3;obtain⟨c0,c1,c2,c3,c4,hbw,hlt⟩:=bx5 hb03
     go_wp2_with fail;refine(entryAt_any L _ p _ (HV.out.below hbw)).mono ?_
     rintro e w4 ⟨rfl,hb4⟩;rw[HI.out];have hb04:=hb03.trans (hb4.mono hb03.size);clear c0 c1 c2 c3 c4 hbw hlt hb03 hb4;obtain⟨c0,c1,c2,c3,c4,hbw,hlt⟩:=bx5 hb04
     obtain⟨d0,d1,d2,d3⟩:=he.below hb' hbw
     rw[hx]at d1;clear hb04 hx d0 d2 d3;go_wp2;go_ret2;exact⟨rfl,hbw⟩
   · have H0':Hid (Pp.foldE L (Pp.par q.data.toList)=0):=H0.out
     have HI:=hid hi;rw[←hE];clear hE hi hv;go_enter Tryz.func75,Tryz.ntmps75
     go_wp2_with fail;refine(changeForm_any _ p q t b _ hp hq (by omega)).mono ?_
     rintro e w1 ⟨rfl,hb1⟩;rw[HC.out];obtain⟨c0,c1,c2,c3,c4,hbw,hlt⟩:=bx5 hb1
     go_wp2_with fail;refine(parentOf_any q _ hq).mono ?_
     rintro e w2 ⟨rfl,hb2⟩;have hb02:=hb1.trans (hb2.mono hb1.size);clear c0 c1 c2 c3 c4 hbw hlt hb1 hb2;obtain⟨c0,c1,c2,c3,c4,hbw,hlt⟩:=bx5 hb02
     go_wp2_with fail;refine(isFolder_any L v ⟨(Pp.par q.data.toList).toArray⟩ _ (HV.out.below hbw)).mono ?_
     rintro e w3 ⟨rfl,hb3⟩;rw[show Pp.foldE L _=0 from H0'.out];have hb03:=hb02.trans (hb3.mono hb02.size);clear c0 c1 c2 c3 c4 hbw hlt hb02 hb3;obtain⟨c0,c1,c2,c3,c4,hbw,hlt⟩:=bx5 hb03
     go_wp2_with fail;refine(entryAt_any L v p _ (HV.out.below hbw)).mono ?_
     rintro e w4 ⟨rfl,hb4⟩;rw[HI.out];have hb04:=hb03.trans (hb4.mono hb03.size);clear c0 c1 c2 c3 c4 hbw hlt hb03 hb4;obtain⟨c0,c1,c2,c3,c4,hbw,hlt⟩:=bx5 hb04
     clear hb04;go_wp2;go_ret2;exact⟨rfl,hbw⟩
   · have H0':Hid (Pp.foldE L (Pp.par p.data.toList)=0):=H0.out
     have HI:=hid hi;rw[←hE];clear hE hi hv;go_enter Tryz.func75,Tryz.ntmps75
     go_wp2_with fail;refine(changeForm_any _ p q t b _ hp hq (by omega)).mono ?_
     rintro e w1 ⟨rfl,hb1⟩;rw[HC.out];obtain⟨c0,c1,c2,c3,c4,hbw,hlt⟩:=bx5 hb1
     go_wp2_with fail;refine(parentOf_any p _ hp).mono ?_
     rintro e w2 ⟨rfl,hb2⟩;have hb02:=hb1.trans (hb2.mono hb1.size);clear c0 c1 c2 c3 c4 hbw hlt hb1 hb2;obtain⟨c0,c1,c2,c3,c4,hbw,hlt⟩:=bx5 hb02
     go_wp2_with fail;refine(isFolder_any L v ⟨(Pp.par p.data.toList).toArray⟩ _ (HV.out.below hbw)).mono ?_
     rintro e w3 ⟨rfl,hb3⟩;rw[show Pp.foldE L _=0 from H0'.out];have hb03:=hb02.trans (hb3.mono hb02.size);clear c0 c1 c2 c3 c4 hbw hlt hb02 hb3;obtain⟨c0,c1,c2,c3,c4,hbw,hlt⟩:=bx5 hb03
     go_wp2_with fail;refine(entryAt_any L v p _ (HV.out.below hbw)).mono ?_
     rintro e w4 ⟨rfl,hb4⟩;rw[HI.out];have hb04:=hb03.trans (hb4.mono hb03.size);clear c0 c1 c2 c3 c4 hbw hlt hb03 hb4;obtain⟨c0,c1,c2,c3,c4,hbw,hlt⟩:=bx5 hb04
     clear hb04;go_wp2;go_ret2;exact⟨rfl,hbw⟩
   · have H0':Hid (Pp.foldE L (Pp.par q.data.toList)=0):=H0.out
     have HI:=hid hi;have HX:=hid hx;rw[←hE];clear hE hi hv hx;go_enter Tryz.func75,Tryz.ntmps75
     go_wp2_with fail;refine(changeForm_any _ p q t b _ hp hq (by omega)).mono ?_
     rintro e w1 ⟨rfl,hb1⟩;rw[HC.out];obtain⟨c0,c1,c2,c3,c4,hbw,hlt⟩:=bx5 hb1
     go_wp2_with fail;refine(parentOf_any q _ hq).mono ?_
     rintro e w2 ⟨rfl,hb2⟩;have hb02:=hb1.trans (hb2.mono hb1.size);clear c0 c1 c2 c3 c4 hbw hlt hb1 hb2;obtain⟨c0,c1,c2,c3,c4,hbw,hlt⟩:=bx5 hb02
     go_wp2_with fail;refine(isFolder_any L v ⟨(Pp.par q.data.toList).toArray⟩ _ (HV.out.below hbw)).mono ?_
     rintro e w3 ⟨rfl,hb3⟩;rw[show Pp.foldE L _=0 from H0'.out];have hb03:=hb02.trans (hb3.mono hb02.size);clear c0 c1 c2 c3 c4 hbw hlt hb02 hb3;obtain⟨c0,c1,c2,c3,c4,hbw,hlt⟩:=bx5 hb03
     go_wp2_with fail;refine(entryAt_any L v p _ (HV.out.below hbw)).mono ?_
     rintro e w4 ⟨rfl,hb4⟩;rw[HI.out];have hb04:=hb03.trans (hb4.mono hb03.size);clear c0 c1 c2 c3 c4 hbw hlt hb03 hb4;obtain⟨c0,c1,c2,c3,c4,hbw,hlt⟩:=bx5 hb04
     go_wp2_with fail;refine(isIn_any q p _ hq hp).mono ?_
     rintro e w5 ⟨rfl,hb5⟩;rw[HX.out];have hb05:=hb04.trans (hb5.mono hb04.size);clear c0 c1 c2 c3 c4 hbw hlt hb04 hb5;obtain⟨c0,c1,c2,c3,c4,hbw,hlt⟩:=bx5 hb05
     clear hb05;go_wp2;go_ret2;exact⟨rfl,hbw⟩
   · have H0':Hid (Pp.foldE L (Pp.par q.data.toList)=0):=H0.out
     have HI:=hid hi;have HI2:=hid hi2;have HX:=hid hx;rw[←hE];clear hE hi hv hx hi2;go_enter Tryz.func75,Tryz.ntmps75
     go_wp2_with fail;refine(changeForm_any _ p q t b _ hp hq (by omega)).mono ?_
     rintro e w1 ⟨rfl,hb1⟩;rw[HC.out];obtain⟨c0,c1,c2,c3,c4,hbw,hlt⟩:=bx5 hb1
     go_wp2_with fail;refine(parentOf_any q _ hq).mono ?_
     rintro e w2 ⟨rfl,hb2⟩;have hb02:=hb1.trans (hb2.mono hb1.size);clear c0 c1 c2 c3 c4 hbw hlt hb1 hb2;obtain⟨c0,c1,c2,c3,c4,hbw,hlt⟩:=bx5 hb02
     go_wp2_with fail;refine(isFolder_any L v ⟨(Pp.par q.data.toList).toArray⟩ _ (HV.out.below hbw)).mono ?_
     rintro e w3 ⟨rfl,hb3⟩;rw[show Pp.foldE L _=0 from H0'.out];have hb03:=hb02.trans (hb3.mono hb02.size);clear c0 c1 c2 c3 c4 hbw hlt hb02 hb3;obtain⟨c0,c1,c2,c3,c4,hbw,hlt⟩:=bx5 hb03
     go_wp2_with fail;refine(entryAt_any L v p _ (HV.out.below hbw)).mono ?_
     rintro e w4 ⟨rfl,hb4⟩;rw[HI.out];have hb04:=hb03.trans (hb4.mono hb03.size);clear c0 c1 c2 c3 c4 hbw hlt hb03 hb4;obtain⟨c0,c1,c2,c3,c4,hbw,hlt⟩:=bx5 hb04
     go_wp2_with fail;refine(isIn_any q p _ hq hp).mono ?_
     rintro e w5 ⟨rfl,hb5⟩;rw[HX.out];have hb05:=hb04.trans (hb5.mono hb04.size);clear c0 c1 c2 c3 c4 hbw hlt hb04 hb5;obtain⟨c0,c1,c2,c3,c4,hbw,hlt⟩:=bx5 hb05
     go_wp2_with fail;refine(entryAt_any L v q _ (HV.out.below hbw)).mono ?_
     rintro e w6 ⟨rfl,hb6⟩;rw[HI2.out];have hb06:=hb05.trans (hb6.mono hb05.size);clear c0 c1 c2 c3 c4 hbw hlt hb05 hb6;obtain⟨c0,c1,c2,c3,c4,hbw,hlt⟩:=bx5 hb06
     clear hb06;go_wp2;go_ret2;exact⟨rfl,hbw⟩
end Go.Proofs.YtdifomkoegmngaaGreatDoor
namespace Go.Proofs.YtdifomkoegmngaaGreatDoor
open Go.RowKit

namespace Pp
def stp (x:En) (s:List En×Bool) (y:En):List En×Bool:=
 (if y.path.data.toList=x.path.data.toList then(if s.2=false∧lt y x=false then s.1++[x]else s.1)else(if s.2=false∧lt y x=false then s.1++[x]else s.1)++[y],s.2|| !(lt y x))
def putS (x:En) (L:List En):List En×Bool:=L.foldl (stp x) ([],false)
def putR (x:En) (L:List En):List En:=if(putS x L).2=true then(putS x L).1 else(putS x L).1++[x]
theorem putS_snoc (x:En) (A:List En) (y:En):putS x (A++[y])=stp x (putS x A) y:=by rw[putS,List.foldl_append];rfl
theorem ins_pre {x:En}: ∀{A:List En},(∀y∈A,lt y x=true)→ ∀B,ins x (A++B)=A++ins x B
 |[],_,_=>rfl
 |y::r,h,B=>by
  rw[List.cons_append,ins,if_pos (h y (by simp)),ins_pre (fun z hz=>h z (by simp[hz]))];rfl
theorem ins_snoc {x y:En} (h:lt y x=false): ∀K,ins x (K++[y])=ins x K++[y]
 |[]=>by simp[ins,h]
 |z::r=>by
  rw[List.cons_append,ins,ins];split
  · rw[ins_snoc h r];rfl
  · rfl
theorem at_yes {x y:En} (h:y.path.data.toList=x.path.data.toList):atB x.path.data.toList y=true:=by rw[atB,h];exact beq_self_eq_true _
theorem at_no {x y:En} (h: ¬y.path.data.toList=x.path.data.toList):atB x.path.data.toList y=false:=by rw[atB];exact beq_eq_false_iff_ne.2 h
theorem out_one {x y:En} (h:y.path.data.toList=x.path.data.toList):outE x [y]=[]:=by rw[outE,List.filter_cons,at_yes h];rfl
theorem out_other {x y:En} (h: ¬y.path.data.toList=x.path.data.toList):outE x [y]=[y]:=by rw[outE,List.filter_cons,at_no h];rfl
theorem out_all {x:En} {A:List En} (h: ∀y∈A,lt y x=true):outE x A=A:=by
 rw[outE,List.filter_eq_self];intro y hy;rw[at_no (lt_dif (h y hy))];rfl
theorem out_app (x:En) (A B:List En):outE x (A++B)=outE x A++outE x B:=by rw[outE,List.filter_append];rfl
theorem lt_path {x x' y:En} (h:x.path.data.toList=x'.path.data.toList):lt y x=lt y x':=by
 rw[lt_cfE,lt_cfE];unfold cfE;rw[h]
theorem putS_take {x:En} {L:List En} (hL:L.Pairwise (fun x y=>lt x y=true)): ∀k,k≤L.length→putS x (L.take k)=if(L.take k).all (fun y=>lt y x)=true then(L.take k,false)else(ins x (outE x (L.take k)),true):=by
 intro k;induction k with
 |zero=>intro _;simp[putS]
 |succ k ih=>
  intro hk;have hlt:k<L.length:=by omega
  have ih:=ih (by omega)
  have hpre: ∀z∈L.take k,lt z L[k]=true:=fun z hz=>by
   obtain⟨i,hi,rfl⟩:=List.getElem_of_mem hz
   rw[List.length_take]at hi;rw[List.getElem_take];exact List.pairwise_iff_getElem.1 hL i k (by omega) hlt (by omega)
  rw[List.take_succ_eq_append_getElem hlt,putS_snoc,ih];generalize L[k]=y at*;generalize L.take k=A at*;cases hall:A.all (fun y=>lt y x)with
  |true=>
   have hA: ∀z∈A,lt z x=true:=fun z hz=>List.all_eq_true.1 hall z hz
   cases hy:lt y x with
   |true=>
    have hd:=lt_dif hy;have e1:(A++[y]).all (fun y=>lt y x)=true:=by rw[List.all_append,hall];simp[hy]
    rw[if_pos rfl,if_pos e1,stp];simp only[hy,if_neg (show¬y.path.data.toList=x.path.data.toList from hd)];simp
   |false=>
    have e1:(A++[y]).all (fun y=>lt y x)=false:=by rw[List.all_append,hall];simp[hy]
    rw[if_pos rfl,if_neg (by rw[e1];decide),stp,out_app,out_all hA,ins_pre hA];by_cases hp:y.path.data.toList=x.path.data.toList
    · have e2:=out_one hp
      rw[e2];simp only[hp,hy,ins,if_true,if_false,and_self,Bool.false_eq_true,Bool.not_false,Bool.or_true,List.append_assoc,List.cons_append,List.nil_append]
    · have e2:=out_other hp
      rw[e2];simp only[hp,hy,ins,if_true,if_false,and_self,Bool.false_eq_true,Bool.not_false,Bool.or_true,List.append_assoc,List.cons_append,List.nil_append]
  |false=>
   obtain⟨z,hz,hzx⟩: ∃z∈A,lt z x=false:=by
    have:=List.all_eq_false.1 hall
    simpa using this
   have hzy:=hpre z hz
   have hy:lt y x=false:=by
    cases hh:lt y x with
    |false=>rfl
    |true=>rw[lt_trans z y x hzy hh]at hzx;cases hzx
   have hp: ¬y.path.data.toList=x.path.data.toList:=fun e=>by
    rw[lt_path e,hzx]at hzy;cases hzy
   have e1:(A++[y]).all (fun y=>lt y x)=false:=by rw[List.all_append,hall];rfl
   have e2:=out_other hp;rw[if_neg (by decide),if_neg (by rw[e1];decide),stp,out_app,e2,ins_snoc hy];simp only[hp,if_false,Bool.true_eq_false,false_and,Bool.true_or]
theorem putR_eq {x:En} {L:List En} (hL:L.Pairwise (fun x y=>lt x y=true)):putR x L=ins x (outE x L):=by
 have h:=putS_take (x:=x) hL L.length (Nat.le_refl _);rw[List.take_length]at h;rw[putR,h];cases hall:L.all (fun y=>lt y x)with
 |true=>
  have hA: ∀z∈L,lt z x=true:=fun z hz=>List.all_eq_true.1 hall z hz
  have e:=ins_pre hA [];rw[List.append_nil]at e;rw[out_all hA,e];simp[ins]
 |false=>simp
end Pp

set_option maxRecDepth 100000 in
set_option maxHeartbeats 2000000 in
theorem putEntry_any (L:List En) (v:Value) (x:En) (w:World) (hv:Lies w v L) (hn:L.length≤1000000):
    Calls Tryz.prog 96 #[v,.agg #[.string x.path,.bool x.folder,.string x.text,.int .i64 x.ver]] w fun e w'=> ∃u,e= .returned u∧w'.ownsRow w.heap.size 72 4 u (Pp.putR x L).length (Pp.flat (Pp.putR x L))∧Below w.heap.size w w':=by
 obtain⟨i0,hi0,hz0,hz1,hz2⟩:=info_parts Tryz.infoE
 obtain⟨a,cap,rfl,hcap,hcap2,hL⟩:=hv
 have HL:Hid (∀i (h:i<L.length),∃b o,a=some ⟨b,o,none⟩∧b<w.heap.size∧EnAt w b (o+i*4) L[i]):=hL;clear hL;go_enter Tryz.func96,Tryz.ntmps96
 go_wp2_with fail;have HX:=hid (show∀k,∀h:k<L.length,Pp.putS x (L.take (k+1))=Pp.stp x (Pp.putS x (L.take k)) L[k]from fun k h=>by rw[List.take_succ_eq_append_getElem h,Pp.putS_snoc]);go_loopw [5,6,7] (fun o pt i wr=> ∃k:Nat,k≤L.length∧i= .int .i64 k∧pt= .bool (Pp.putS x (L.take k)).2∧(Pp.putS x (L.take k)).1.length≤2*k∧wr.ownsRow (w.heap.size+1) 72 4 o (Pp.putS x (L.take k)).1.length (Pp.flat (Pp.putS x (L.take k)).1)∧Below (w.alloc (.cells #[.string x.path,.bool x.folder,.string x.text,.int .i64 x.ver] 72)).heap.size (w.alloc (.cells #[.string x.path,.bool x.folder,.string x.text,.int .i64 x.ver] 72)) wr) (fun _ _ i _=>L.length-(intOf i).toNat)
 case atStart=>exact⟨0,Nat.zero_le _,rfl,rfl,by simp[Pp.putS],World.ownsRow_nil _ _ _ _,Below.refl _ _⟩
 case round=>
  obtain⟨k,hk,rfl,rfl,hle,hown,hbel⟩:=hrel
  obtain⟨r0,r1,r2,r3,hbw,hlt0⟩:=box4 hbel
  by_cases hlt:k<L.length
  · obtain⟨b,o,rfl,hb,he⟩:=HL.out k hlt
    obtain⟨c0,c1,c2,c3⟩:=he.below hb hbw
    have hstp:=HX.out k hlt;generalize Pp.putS x (L.take k)=S at*;obtain⟨X,pb⟩:=S
    simp only at hle hown;have hownD:=hown.drew.drew;have hbelD:=hbel.drew.drew;have hownE:=hown.drew;have hbelE:=hbel.drew;cases pb with
    |true=>
     cases hp:(L[k].path.toList==x.path.toList)with
     |true=>
      have hp2:L[k].path.data.toList=x.path.data.toList:=by rw[Lib.toList_data,Lib.toList_data]at hp;simpa using hp
      have HST:=hid (show Pp.putS x (L.take (k+1))=(X,true)from by rw[hstp,Pp.stp];simp only[hp2,if_true,Bool.true_eq_false,false_and,if_false,Bool.true_or]);clear hstp hp2;go_wp2_with fail;go_region
      go_wp2_with fail;go_region
      go_wp2_with fail;go_roundw
      case rel=>exact⟨k+1,by omega,by simp,by rw[HST.out],by rw[HST.out];simp only;omega,by rw[HST.out];exact hownD,hbelD⟩
      case measure=>simp[intOf];omega
     |false=>
      have hp2: ¬L[k].path.data.toList=x.path.data.toList:=by rw[Lib.toList_data,Lib.toList_data]at hp;simpa using hp
      have HST:=hid (show Pp.putS x (L.take (k+1))=(X++[L[k]],true)from by rw[hstp,Pp.stp];simp only[hp2,if_false,Bool.true_eq_false,false_and,Bool.true_or]);clear hstp hp2;go_wp2_with fail;go_region
      go_wp2_with fail;go_region
      go_wp2_with (at_builtin;refine wpList_append_own _ rfl _ _ 22 rfl (w.heap.size+1) 72 i0 (.agg #[.string ⟨#[]⟩,.bool false,.string ⟨#[]⟩,.int .i64 0]) 4 48 Tryz.underlying22 hi0 hz0 hz1 hz2 rfl (by decide) _ _ _ rfl (hownD.alloc _) ⟨wr.heap.size,0,none⟩ 1 1 (Pp.cells L[k]) rfl rfl (Pp.new_cells wr.drew.drew L[k] _) (Pp.cells_one _) (by unfold maxLen;omega) (by omega) (by have:=hbelD.size;simp at this⊢;omega) ?_)
      intro v2 w2 ho2 hgr2 hnn2;have hbel2:Below (w.alloc (.cells #[.string x.path,.bool x.folder,.string x.text,.int .i64 x.ver] 72)).heap.size (w.alloc (.cells #[.string x.path,.bool x.folder,.string x.text,.int .i64 x.ver] 72)) w2:=(hbelD.alloc hbelD.size _).grown hgr2 (by have:=hbelD.size;simp at this⊢;omega) (fun g hg=>by have:=(hownD.lt g hg).1;simp;omega);rw[Pp.flat_snoc]at ho2;have hown2:w2.ownsRow (w.heap.size+1) 72 4 v2 (X++[L[k]]).length (Pp.flat (X++[L[k]])):=by rw[List.length_append];exact ho2
      clear ho2 hgr2 hnn2;have HO:=hid hown2;clear hown2 hown hbel hownD hbelD hownE hbelE c0 c1 c2 c3 r0 r1 r2 r3 he;go_wp2_with fail;go_roundw
      case rel=>exact⟨k+1,by omega,by simp,by rw[HST.out],by rw[HST.out,List.length_append];simp only[List.length_singleton];omega,by rw[HST.out];exact HO.out,hbel2⟩
      case measure=>simp[intOf];omega
    |false=>
     cases hl:Pp.lt L[k] x with
     |true=>
      have hl1:Op.bytesLess L[k].path.toList x.path.toList=true:=hl
      have hl2:Op.bytesLess x.path.toList L[k].path.toList=false:=by
       cases hh:Op.bytesLess x.path.toList L[k].path.toList with
       |false=>rfl
       |true=>have:=Pp.lt_trans L[k] x L[k] hl hh;rw[Pp.lt_irrefl]at this;cases this
      have hp2: ¬L[k].path.data.toList=x.path.data.toList:=Pp.lt_dif hl;have hp:(L[k].path.toList==x.path.toList)=false:=by rw[Lib.toList_data,Lib.toList_data];exact beq_eq_false_iff_ne.2 hp2
      have HST:=hid (show Pp.putS x (L.take (k+1))=(X++[L[k]],false)from by rw[hstp,Pp.stp,hl];simp only[hp2,if_false,Bool.true_eq_false,and_false,Bool.not_true,Bool.or_false]);clear hstp hp2 hl;go_wp2_with fail;go_region
      go_wp2_with fail;go_region
      go_wp2_with (at_builtin;refine wpList_append_own _ rfl _ _ 22 rfl (w.heap.size+1) 72 i0 (.agg #[.string ⟨#[]⟩,.bool false,.string ⟨#[]⟩,.int .i64 0]) 4 48 Tryz.underlying22 hi0 hz0 hz1 hz2 rfl (by decide) _ _ _ rfl (hownD.alloc _) ⟨wr.heap.size,0,none⟩ 1 1 (Pp.cells L[k]) rfl rfl (Pp.new_cells wr.drew.drew L[k] _) (Pp.cells_one _) (by unfold maxLen;omega) (by omega) (by have:=hbelD.size;simp at this⊢;omega) ?_)
      intro v2 w2 ho2 hgr2 hnn2;have hbel2:Below (w.alloc (.cells #[.string x.path,.bool x.folder,.string x.text,.int .i64 x.ver] 72)).heap.size (w.alloc (.cells #[.string x.path,.bool x.folder,.string x.text,.int .i64 x.ver] 72)) w2:=(hbelD.alloc hbelD.size _).grown hgr2 (by have:=hbelD.size;simp at this⊢;omega) (fun g hg=>by have:=(hownD.lt g hg).1;simp;omega);rw[Pp.flat_snoc]at ho2;have hown2:w2.ownsRow (w.heap.size+1) 72 4 v2 (X++[L[k]]).length (Pp.flat (X++[L[k]])):=by rw[List.length_append];exact ho2
      clear ho2 hgr2 hnn2;have HO:=hid hown2;clear hown2 hown hbel hownD hbelD hownE hbelE c0 c1 c2 c3 r0 r1 r2 r3 he;go_wp2_with fail;go_roundw
      case rel=>exact⟨k+1,by omega,by simp,by rw[HST.out],by rw[HST.out,List.length_append];simp only[List.length_singleton];omega,by rw[HST.out];exact HO.out,hbel2⟩
      case measure=>simp[intOf];omega
     |false=>
      have hl1:Op.bytesLess L[k].path.toList x.path.toList=false:=hl;cases hp:(L[k].path.toList==x.path.toList)with
      |true=>
       have hp2:L[k].path.data.toList=x.path.data.toList:=by rw[Lib.toList_data,Lib.toList_data]at hp;simpa using hp
       have hl2:Op.bytesLess x.path.toList L[k].path.toList=false:=by
        have:=Pp.lt_irrefl x
        rw[←Pp.lt_path (x:=L[k]) (x':=x) (y:=x) hp2]at this;exact this
       have HST:=hid (show Pp.putS x (L.take (k+1))=(X++[x],true)from by rw[hstp,Pp.stp,hl];simp only[hp2,if_true,and_self,Bool.not_false,Bool.or_true]);clear hstp hp2 hl;go_wp2_with fail;go_region
       go_wp2_with (at_builtin;refine wpList_append_own _ rfl _ _ 22 rfl (w.heap.size+1) 72 i0 (.agg #[.string ⟨#[]⟩,.bool false,.string ⟨#[]⟩,.int .i64 0]) 4 48 Tryz.underlying22 hi0 hz0 hz1 hz2 rfl (by decide) _ _ _ rfl (hownE.alloc _) ⟨wr.heap.size,0,none⟩ 1 1 (Pp.cells x) rfl rfl (Pp.new_cells wr.drew x _) (Pp.cells_one _) (by unfold maxLen;omega) (by omega) (by have:=hbelE.size;simp at this⊢;omega) ?_)
       intro v2 w2 ho2 hgr2 hnn2;have hbel2:Below (w.alloc (.cells #[.string x.path,.bool x.folder,.string x.text,.int .i64 x.ver] 72)).heap.size (w.alloc (.cells #[.string x.path,.bool x.folder,.string x.text,.int .i64 x.ver] 72)) w2:=(hbelE.alloc hbelE.size _).grown hgr2 (by have:=hbelE.size;simp at this⊢;omega) (fun g hg=>by have:=(hownE.lt g hg).1;simp;omega);rw[Pp.flat_snoc]at ho2;have hown2:w2.ownsRow (w.heap.size+1) 72 4 v2 (X++[x]).length (Pp.flat (X++[x])):=by rw[List.length_append];exact ho2
       clear ho2 hgr2 hnn2;obtain⟨s0,s1,s2,s3,hbw2,hlt2⟩:=box4 hbel2
       obtain⟨d0,d1,d2,d3⟩:=he.below hb hbw2
       have HO:=hid hown2;clear hown2 hown hbel hownD hbelD hownE hbelE c0 c1 c2 c3 r0 r1 r2 r3 he;go_wp2_with fail;go_region
       go_wp2_with fail;go_roundw
       case rel=>exact⟨k+1,by omega,by simp,by rw[HST.out],by rw[HST.out,List.length_append];simp only[List.length_singleton];omega,by rw[HST.out];exact HO.out.drew,hbel2.drew⟩
       case measure=>simp[intOf];omega
      |false=>
       have hp2: ¬L[k].path.data.toList=x.path.data.toList:=by rw[Lib.toList_data,Lib.toList_data]at hp;simpa using hp
       have hl2:Op.bytesLess x.path.toList L[k].path.toList=true:=by
        cases hh:Op.bytesLess x.path.toList L[k].path.toList with
        |true=>rfl
        |false=>exact absurd (Pp.lt_same hl hh) hp2
       have HST:=hid (show Pp.putS x (L.take (k+1))=(X++[x]++[L[k]],true)from by rw[hstp,Pp.stp,hl];simp only[hp2,if_true,if_false,and_self,Bool.not_false,Bool.or_true]);clear hstp hp2 hl;go_wp2_with fail;go_region
       go_wp2_with (at_builtin;refine wpList_append_own _ rfl _ _ 22 rfl (w.heap.size+1) 72 i0 (.agg #[.string ⟨#[]⟩,.bool false,.string ⟨#[]⟩,.int .i64 0]) 4 48 Tryz.underlying22 hi0 hz0 hz1 hz2 rfl (by decide) _ _ _ rfl (hownE.alloc _) ⟨wr.heap.size,0,none⟩ 1 1 (Pp.cells x) rfl rfl (Pp.new_cells wr.drew x _) (Pp.cells_one _) (by unfold maxLen;omega) (by omega) (by have:=hbelE.size;simp at this⊢;omega) ?_)
       intro v2 w2 ho2 hgr2 hnn2;have hbel2:Below (w.alloc (.cells #[.string x.path,.bool x.folder,.string x.text,.int .i64 x.ver] 72)).heap.size (w.alloc (.cells #[.string x.path,.bool x.folder,.string x.text,.int .i64 x.ver] 72)) w2:=(hbelE.alloc hbelE.size _).grown hgr2 (by have:=hbelE.size;simp at this⊢;omega) (fun g hg=>by have:=(hownE.lt g hg).1;simp;omega);rw[Pp.flat_snoc]at ho2;have hown2:w2.ownsRow (w.heap.size+1) 72 4 v2 (X++[x]).length (Pp.flat (X++[x])):=by rw[List.length_append];exact ho2
       clear ho2 hgr2 hnn2;obtain⟨s0,s1,s2,s3,hbw2,hlt2⟩:=box4 hbel2
       obtain⟨d0,d1,d2,d3⟩:=he.below hb hbw2
       have hXl:(X++[x]).length≤X.length+1:=by simp
       generalize X++[x]=Y at*;clear hown hbel hownD hbelD hownE hbelE c0 c1 c2 c3 r0 r1 r2 r3;go_wp2_with fail;go_region
       go_wp2_with (at_builtin;refine wpList_append_own _ rfl _ _ 22 rfl (w.heap.size+1) 72 i0 (.agg #[.string ⟨#[]⟩,.bool false,.string ⟨#[]⟩,.int .i64 0]) 4 48 Tryz.underlying22 hi0 hz0 hz1 hz2 rfl (by decide) _ _ _ rfl (hown2.drew.alloc _) ⟨w2.heap.size,0,none⟩ 1 1 (Pp.cells L[k]) rfl rfl (Pp.new_cells w2.drew L[k] _) (Pp.cells_one _) (by unfold maxLen;omega) (by omega) (by have:=hbel2.size;simp at this⊢;omega) ?_)
       intro v3 w3 ho2 hgr2 hnn2;have hbel3:Below (w.alloc (.cells #[.string x.path,.bool x.folder,.string x.text,.int .i64 x.ver] 72)).heap.size (w.alloc (.cells #[.string x.path,.bool x.folder,.string x.text,.int .i64 x.ver] 72)) w3:=(hbel2.drew.alloc hbel2.drew.size _).grown hgr2 (by have:=hbel2.size;simp at this⊢;omega) (fun g hg=>by have:=(hown2.drew.lt g hg).1;simp;omega);rw[Pp.flat_snoc]at ho2;have hown3:w3.ownsRow (w.heap.size+1) 72 4 v3 (Y++[L[k]]).length (Pp.flat (Y++[L[k]])):=by rw[List.length_append];exact ho2
       clear ho2 hgr2 hnn2;have HO:=hid hown3;clear hown3 hown2 hbel2 d0 d1 d2 d3 s0 s1 s2 s3 he;go_wp2_with fail;go_roundw
       case rel=>exact⟨k+1,by omega,by simp,by rw[HST.out],by rw[HST.out,List.length_append];simp only[List.length_singleton];omega,by rw[HST.out];exact HO.out,hbel3⟩
       case measure=>simp[intOf];omega
  · have ek:L.take k=L:=List.take_of_length_le (by omega)
    rw[ek]at hown hle⊢;have hR:Pp.putR x L=if(Pp.putS x L).2=true then(Pp.putS x L).1 else(Pp.putS x L).1++[x]:=rfl
    generalize Pp.putS x L=S at*;obtain⟨X,pb⟩:=S
    simp only at hle hown hR;cases pb with
    |true=>
     rw[if_pos rfl]at hR;have HR:=hid hR;clear hR;go_wp2_with fail;go_ret;exact⟨_,rfl,by rw[HR.out];exact Pp.own_mono hown (by simp),hbw⟩
    |false=>
     rw[if_neg (by decide)]at hR;have HR:=hid hR;clear hR;go_wp2_with (at_builtin;refine wpList_append_own _ rfl _ _ 22 rfl (w.heap.size+1) 72 i0 (.agg #[.string ⟨#[]⟩,.bool false,.string ⟨#[]⟩,.int .i64 0]) 4 48 Tryz.underlying22 hi0 hz0 hz1 hz2 rfl (by decide) _ _ _ rfl (hown.alloc _) ⟨wr.heap.size,0,none⟩ 1 1 (Pp.cells x) rfl rfl (Pp.new_cells wr x _) (Pp.cells_one _) (by unfold maxLen;omega) (by omega) (by have:=hbel.size;simp at this⊢;omega) ?_)
     intro v2 w2 ho2 hgr2 hnn2;have hbel2:Below (w.alloc (.cells #[.string x.path,.bool x.folder,.string x.text,.int .i64 x.ver] 72)).heap.size (w.alloc (.cells #[.string x.path,.bool x.folder,.string x.text,.int .i64 x.ver] 72)) w2:=(hbel.alloc hbel.size _).grown hgr2 (by have:=hbel.size;simp at this⊢;omega) (fun g hg=>by have:=(hown.lt g hg).1;simp;omega);rw[Pp.flat_snoc]at ho2;have hown2:w2.ownsRow (w.heap.size+1) 72 4 v2 (X++[x]).length (Pp.flat (X++[x])):=by rw[List.length_append];exact ho2
     clear ho2 hgr2 hnn2;obtain⟨s0,s1,s2,s3,hbw2,hlt2⟩:=box4 hbel2
     have HO:=hid hown2;clear hown2 hown hbel r0 r1 r2 r3 s0 s1 s2 s3;go_wp2_with fail;go_ret;exact⟨_,rfl,by rw[HR.out];exact Pp.own_mono HO.out (by simp),hbw2⟩
end Go.Proofs.YtdifomkoegmngaaGreatDoor
namespace Go.Proofs.YtdifomkoegmngaaGreatDoor
open Go.RowKit

/-- May these operations be passed over, one after the other, where operation g (it writes dg) has said no? -/
def passOk (md:Region.Mode) (ops:Array Oper) (g dg:Nat):Array Bool→List (Nat×Nat)→Bool
 |_,[]=>true
 |listed,(i,d)::r=>((ops[i]?).map (fun o=>(o.dst,o.guard))==some (some d,some (g,true))) && d !=dg && Region.free md ops listed i && (Region.ready md ops listed).contains i && passOk md ops g dg (listed.setIfInBounds i true) r
def passAll:Array Bool→List (Nat×Nat)→Array Bool
 |listed,[]=>listed
 |listed,(i,_)::r=>passAll (listed.setIfInBounds i true) r
def putAll:Act→List (Nat×Nat)→Act
 |a,[]=>a
 |a,(_,d)::r=>putAll (a.put (some d) undef) r
theorem wpAnyH_pass {P:Program} {md:Region.Mode} {ops:Array Oper} {Q:Exit→Act→World→Prop} {S:World→Prop} {g dg:Nat} (hs:Region.noSelect ops=true) (hdg:(ops[g]?).bind (·.dst)=some dg)
    (hQ: ∀c a (d:Nat) v w,Q (.panic c) (Act.put a (some d) v) w→Q (.panic c) a w) {w:World} (hS:S w) {fuel:Nat}:
    ∀(l:List (Nat×Nat)) (listed:Array Bool) (a:Act),passOk md ops g dg listed l=true→a.tmps[dg]?=some (.bool false)→wpAnyH P md ops Q S fuel (passAll listed l) (putAll a l) w→wpAnyH P md ops Q S (fuel+l.length) listed a w
 |[],_,_,_,_,h=>h
 |(i,d)::r,listed,a,hok,ht,h=>by
  rw[passOk]at hok;simp only[Bool.and_eq_true,beq_iff_eq,bne_iff_ne]at hok;obtain⟨⟨⟨⟨h1,h2⟩,h3⟩,h4⟩,h5⟩:=hok
  cases ho:ops[i]? with
  |none=>rw[ho]at h1;cases h1
  |some o=>
   rw[ho]at h1;simp only[Option.map_some,Option.some.injEq,Prod.mk.injEq]at h1
   have hw:Region.wanted o (yielded ops a.tmps)=false:=by
    have hy:yielded ops a.tmps g=some false:=by
     unfold yielded;rw[hdg];simp only[Option.bind_some,ht]
    unfold Region.wanted;rw[h1.2];simp[hy]
   have ht2:(a.put (some d) undef).tmps[dg]?=some (.bool false):=by
    unfold Act.put;simp only;rw[Array.getElem?_setIfInBounds_ne (by exact h2)];exact ht
   have ih:=wpAnyH_pass hs hdg hQ hS r (listed.setIfInBounds i true) (a.put (some d) undef) h5 ht2 h;refine wpAnyH_take (i:=i) (oi:=o) (v:=undef) ho hs h3 h4 (fun c a w hh=>hQ c a d undef w (by rw[h1.1]at hh;exact hh)) (Or.inr ⟨hw,rfl⟩) hS ?_
   rw[h1.1];exact ih
/-- What is to be shown later, once for several ways that come to it. -/
structure Later (p:Prop):Prop where
 out:p
theorem later {p q:Prop} (h:Later p→q) (hp:p):q:=h ⟨hp⟩
end Go.Proofs.YtdifomkoegmngaaGreatDoor
namespace Go.Proofs.YtdifomkoegmngaaGreatDoor
open Go.RowKit

namespace Pp
theorem own_at {w:World} {base:Nat} {v:Value} {L:List (List UInt8)} (h:w.ownsRow base 9 1 v L.length (vs L)) (h0:L≠[]):
    ∃g cap,v= .slice (some ⟨g,0,none⟩) L.length cap∧base≤g∧g<w.heap.size∧ ∀i (h:i<L.length),w.cell? ⟨g,i,none⟩=some (.string ⟨(L[i]).toArray⟩):=by
 have hcopy:=h;obtain⟨hl,h2⟩:=h
 rcases h2 with⟨_,hz⟩|⟨g,cap,cur,rfl,hg,hh,hn,hm,hz,htake⟩
 · exact absurd (List.length_eq_zero_iff.1 hz) h0
 · have hlt:g<w.heap.size:=by
    rcases Nat.lt_or_ge g w.heap.size with h|h
    · exact h
    · rw[Array.getElem?_eq_none h]at hh;cases hh
   refine⟨g,cap,rfl,hg,hlt,fun i h=>?_⟩
   rw[hcopy.cellAt i (by omega)];simp[vs,h]
theorem vs_app (a b:List (List UInt8)):vs a++vs b=vs (a++b):=by simp[vs]
theorem vs_cells {w:World} {g:Nat} {L:List (List UInt8)} (h: ∀i (h:i<L.length),w.cell? ⟨g,i,none⟩=some (.string ⟨(L[i]).toArray⟩)) (o:Nat): ∀j u,(vs (L.drop o))[j]?=some u→w.cell? ((⟨g,o,none⟩:Addr).add j)=some u:=by
 intro j u hu;simp only[vs,List.getElem?_map,List.getElem?_drop,Option.map_eq_some_iff]at hu;obtain⟨x,hx,rfl⟩:=hu
 obtain⟨hlt,rfl⟩:=List.getElem?_eq_some_iff.1 hx
 have e:=h (o+j) hlt;by_cases hj:j=0
 · subst hj;simpa[Addr.add]using e
 · simpa[Addr.add,hj]using e
theorem vs_one (L:List (List UInt8)): ∀u∈vs L,u.oneCell'=true:=by
 intro u hu;simp only[vs,List.mem_map]at hu;obtain⟨x,_,rfl⟩:=hu
 rfl
end Pp

theorem pathOf_n (L:List (List UInt8)) (n g o cap:Nat) (w:World) (he:n=L.length) (hL:(Pp.join L).length≤1000000000) (hn:L.length≤1000000000) (hcell: ∀i (h:i<L.length),w.cell? ⟨g,o+i,none⟩=some (.string ⟨(L[i]).toArray⟩)):
    Calls Tryz.prog 97 #[.slice (some ⟨g,o,none⟩) n cap] w fun e w'=>e= .returned (.string ⟨(Pp.join L).toArray⟩)∧w'=w:=by
 subst he;exact pathOf_any L g o cap w hL hn hcell
end Go.Proofs.YtdifomkoegmngaaGreatDoor
namespace Go.Proofs.YtdifomkoegmngaaGreatDoor.Pp

theorem filter_step {f:En→Bool} {L:List En} {m:Nat} (hm:m<L.length):(L.take (m+1)).filter f=if f L[m]=true then(L.take m).filter f++[L[m]]else(L.take m).filter f:=by
 rw[List.take_succ_eq_append_getElem hm,List.filter_append,List.filter_cons];split<;>simp
theorem insAll_snoc (ms:List En) (x:En) (K:List En):insAll (ms++[x]) K=ins x (insAll ms K):=by rw[insAll,List.foldl_append];rfl
/-- What was moved of the first entries. -/
def mvTo (L:List En) (c:Ch) (n:Int) (m:Nat):List En:=insAll (((L.take m).filter (wi c.p.data.toList)).map (mvd c n)) (keptL L c)
theorem mvTo_all (L:List En) (c:Ch) (n:Int):mvTo L c n L.length=insAll (mvL L c n) (keptL L c):=by rw[mvTo,List.take_length];rfl
theorem mvTo_out {L:List En} {c:Ch} {n:Int} {m:Nat} (hm:m<L.length) (hw:wi c.p.data.toList L[m]=false):mvTo L c n (m+1)=mvTo L c n m:=by
 rw[mvTo,filter_step hm,if_neg (by rw[hw];decide)];rfl
theorem mvTo_in {L:List En} (hL:Good L) {c:Ch} {n:Int} {m:Nat} (hd:(keptL L c++mvL L c n).Pairwise dif) (hm:m<L.length) (hw:wi c.p.data.toList L[m]=true):putR (mvd c n L[m]) (mvTo L c n m)=mvTo L c n (m+1):=by
 have e1:goL L c=(L.take m).filter (wi c.p.data.toList)++L[m]::(L.drop (m+1)).filter (wi c.p.data.toList):=by
  have:L=L.take m++L[m]::L.drop (m+1):=by rw[List.getElem_cons_drop];exact(List.take_append_drop m L).symm
  rw[goL];conv=>lhs;rw[this]
  rw[List.filter_append,List.filter_cons,if_pos hw]
 have e2:mvL L c n=((L.take m).filter (wi c.p.data.toList)).map (mvd c n)++mvd c n L[m]::((L.drop (m+1)).filter (wi c.p.data.toList)).map (mvd c n):=by
  rw[mvL,e1,List.map_append,List.map_cons]
 rw[e2,←List.append_assoc]at hd;have hd2:=List.pairwise_append.1 hd;have hs:(mvTo L c n m).Pairwise (fun x y=>lt x y=true):=insAll_sorted _ (List.Pairwise.filter _ hL.rise) hd2.1
 have ho:outE (mvd c n L[m]) (mvTo L c n m)=mvTo L c n m:=by
  rw[outE,List.filter_eq_self];intro y hy;have hy2:y∈keptL L c++((L.take m).filter (wi c.p.data.toList)).map (mvd c n):=(insAll_perm _ _).mem_iff.1 hy;have hne:=hd2.2.2 y hy2 (mvd c n L[m]) (by simp);rw[at_no hne];rfl
 rw[putR_eq hs,ho,mvTo,mvTo,filter_step hm,if_pos hw,List.map_append,List.map_cons,List.map_nil,insAll_snoc]
theorem mvTo_len (L:List En) (c:Ch) (n:Int) (m:Nat):(mvTo L c n m).length≤L.length:=by
 have h1:(mvTo L c n m).length=(keptL L c).length+((L.take m).filter (wi c.p.data.toList)).length:=by
  rw[mvTo,(insAll_perm _ _).length_eq,List.length_append,List.length_map]
 have h2:((L.take m).filter (wi c.p.data.toList)).length≤(L.filter (wi c.p.data.toList)).length:=((List.take_sublist m L).filter _).length_le
 have h3:(keptL L c).length+(L.filter (wi c.p.data.toList)).length=L.length:=by
  rw[keptL]
  have: ∀(M:List En),(M.filter (fun e=> !wi c.p.data.toList e)).length+(M.filter (wi c.p.data.toList)).length=M.length:=by
   intro M;induction M with
   |nil=>rfl
   |cons x r ih=>
    rw[List.filter_cons,List.filter_cons];cases hx:wi c.p.data.toList x<;>simp<;>omega
  exact this L
 omega
theorem big_hit {L:List En} {c:Ch} {m:Nat} (hm:m<L.length) (hw:wi c.p.data.toList L[m]=true) (hb:big (mvP c L[m])=true):(goL L c).any (fun e=>big (mvP c e))=true:=
 List.any_eq_true.2 ⟨L[m],List.mem_filter.2 ⟨List.getElem_mem hm,hw⟩,hb⟩
theorem big_none {L:List En} {c:Ch} (h: ∀j (h:j<L.length),wi c.p.data.toList L[j]=true→big (mvP c L[j])=false):(goL L c).any (fun e=>big (mvP c e))=false:=
 List.any_eq_false.2 fun e he=>by
  obtain⟨h1,h2⟩:=List.mem_filter.1 he
  obtain⟨j,hj,rfl⟩:=List.getElem_of_mem h1
  rw[h j hj h2];decide
end Go.Proofs.YtdifomkoegmngaaGreatDoor.Pp
namespace Go.Proofs.YtdifomkoegmngaaGreatDoor
open Go.RowKit

namespace Pp
/-- What is left to tell, where a change is right by its form and its place. -/
def rstE (L:List En) (c:Ch) (n:Int):Int:=if stl L c=true then 8 else chdE L c n
theorem ins_len (x:En) (K:List En):(ins x K).length=K.length+1:=by rw[(ins_perm x K).length_eq];rfl
theorem stl_no {L:List En} {k:Int} {p q t:ByteArray} {b:Int} (hb: -1≤b) (h: ∀j (h:j<L.length),0≤b→stW p.data.toList b L[j]=false):stl L ⟨k,p,q,t,b⟩=false:=by
 rw[stl];by_cases h1:b= -1
 · simp[h1]
 · rw[List.any_eq_false.2,Bool.and_false]
   intro x hx;obtain⟨j,hj,rfl⟩:=List.getElem_of_mem hx
   rw[h j hj (by omega)];decide
theorem stl_yes {L:List En} {k:Int} {p q t:ByteArray} {b:Int} {j:Nat} (hb:0≤b) (hj:j<L.length) (h1:isInB (L[j]).path.data.toList p.data.toList=true) (h2:b<(L[j]).ver):stl L ⟨k,p,q,t,b⟩=true:=by
 rw[stl];have e:(b== -1)=false:=by simpa using (by omega: ¬b= -1)
 have:L.any (stW p.data.toList b)=true:=List.any_eq_true.2 ⟨L[j],List.getElem_mem hj,by rw[stW,wi,h1];simp[h2]⟩
 simp only[e,this];rfl
theorem stW_in {p:List UInt8} {b:Int} {e:En} (h:isInB e.path.data.toList p=false):stW p b e=false:=by rw[stW,wi,h,Bool.and_false]
theorem stW_ver {p:List UInt8} {b:Int} {e:En} (h: ¬b<e.ver):stW p b e=false:=by rw[stW];simp[h]
theorem no_text {t:ByteArray} (h:t.data.toList=[]):t=⟨#[]⟩:=by
 cases t with
 |mk d=>cases d with
  |mk l=>simp at h;subst h;rfl
end Pp

end Go.Proofs.YtdifomkoegmngaaGreatDoor
