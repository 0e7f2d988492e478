/- What the reference's ChangeOf answers, of changes that move. -/
import Derived.Test.YtdifomkoegmngaaGreatDoorRKI
import Derived.Test.YtdifomkoegmngaaGreatDoorRKD
set_option linter.unusedSimpArgs false
set_option linter.unusedVariables false
namespace Go.Proofs.YtdifomkoegmngaaGreatDoor
open Go.RowKit

set_option maxRecDepth 100000 in
set_option maxHeartbeats 12000000 in
theorem changeOf_mv (L:List En) (v:Value) (p q t:ByteArray) (b n:Int) (w:World) (hv:Lies w v L) (hs: ∀e∈L,e.path.size≤1000000000) (hp:p.size≤1000000000) (hq:q.size≤1000000000) (ht:t.size≤1000000000) (hL:Pp.Good L) (hc:Pp.chgE ⟨3,p,q,t,b⟩=0) (H0:Hid (Pp.foldE L (Pp.par q.data.toList)=0)) (j:Nat) (hj:j<L.length) (HI:Hid (Pp.idx L p.data.toList=(j:Int))) (HX3:Hid (Pp.isInB q.data.toList p.data.toList=false)) (HI2:Hid (Pp.idx L q.data.toList= -1)) (hfq:L.find? (Pp.atB q.data.toList)=none):
    Calls Tryz.prog 75 #[v,.agg #[.int .i64 3,.string p,.string q,.string t,.int .i64 b],.int .i64 n] w fun e w'=> ∃u,e= .returned (.tuple #[u,.int .i64 (Pp.rstE L ⟨3,p,q,t,b⟩ n)])∧(Pp.rstE L ⟨3,p,q,t,b⟩ n=0→Lies w' u (Pp.chdR L ⟨3,p,q,t,b⟩ n))∧Below w.heap.size w w':=by
 obtain⟨i0,hi0,hz0,hz1,hz2⟩:=info_parts Tryz.infoE
 have HV:=hid hv;have HC:=hid hc;have HS:=hid hs;have HR:=hid hL.rise;have HGL:=hid hL;have hlen:L.length≤60:=hL.len;have hbb: -1≤b:=(Pp.chg_rest hc).2.2.2.1;have hlT:t.size≤1000000000:=by exact ht
 have HE:=hid (show Pp.chdE L ⟨3,p,q,t,b⟩ n=if(Pp.goL L ⟨3,p,q,t,b⟩).any (fun e=>Pp.big (Pp.mvP ⟨3,p,q,t,b⟩ e))=true then 2 else 0 from rfl);have HQ:=hid (show Pp.chdR L ⟨3,p,q,t,b⟩ n=Pp.mvTo L ⟨3,p,q,t,b⟩ n L.length from(Pp.mvTo_all L ⟨3,p,q,t,b⟩ n).symm);have HK0:=hid (show Pp.mvTo L ⟨3,p,q,t,b⟩ n 0=L.filter (fun e=> !Pp.wi p.data.toList e)from rfl);have hcp:Pp.chk p.data.toList=0:=Pp.chg_path hc;have hcq:Pp.chk q.data.toList=0:=Pp.chg_to hc rfl;have HD:Hid ((Pp.keptL L ⟨3,p,q,t,b⟩++Pp.mvL L ⟨3,p,q,t,b⟩ n).Pairwise Pp.dif):=Pp.mv_dif hL n (Pp.chk_path_ne hcq) hfq;have hps:p.size≤80:=by rw[Lib.size_eq];exact Pp.chk_len hcp
 have hqs:q.size≤80:=by rw[Lib.size_eq];exact Pp.chk_len hcq
 have HES:=hid (show∀e∈L,e.path.size≤80 from fun e he=>by rw[Lib.size_eq];exact Pp.chk_len (Pp.entE_path (hL.ents e he)));have HIN1:=hid (show∀y (h:y<L.length),Pp.wi p.data.toList L[y]=true→Pp.putR (Pp.mvd ⟨3,p,q,t,b⟩ n L[y]) (Pp.mvTo L ⟨3,p,q,t,b⟩ n y)=Pp.mvTo L ⟨3,p,q,t,b⟩ n (y+1)from fun y h hw=>Pp.mvTo_in hL HD.out h hw);have HOUT1:=hid (show∀y (h:y<L.length),Pp.wi p.data.toList L[y]=false→Pp.mvTo L ⟨3,p,q,t,b⟩ n (y+1)=Pp.mvTo L ⟨3,p,q,t,b⟩ n y from fun y h hw=>Pp.mvTo_out h hw);have HLEN:=hid (show∀y,(Pp.mvTo L ⟨3,p,q,t,b⟩ n y).length≤L.length from fun y=>Pp.mvTo_len L _ n y);have hjj:(j:Int)<L.length:=by omega
 clear hcp hcq hfq;obtain⟨a,cap,rfl,hcap,hcap2,hLL⟩:=hv
 have HL:Hid (∀i (h:i<L.length),∃b o,a=some ⟨b,o,none⟩∧b<w.heap.size∧EnAt w b (o+i*4) L[i]):=hLL;obtain⟨C,hC⟩: ∃C:Pp.Ch,C=⟨3,p,q,t,b⟩:=⟨_,rfl⟩
 rw[←hC]at HC HE HQ HK0 HD HIN1 HOUT1 HLEN⊢;have HCC:=hid hC;clear hC hLL hL hs hc;go_enter Tryz.func75,Tryz.ntmps75
 go_wp2_with fail;refine(changeForm_any _ p q _ b _ hp hq (by omega)).mono ?_
 rintro e w1 ⟨rfl,hb1⟩;rw[←HCC.out,HC.out];obtain⟨c0,c1,c2,c3,c4,hbw,hlt⟩:=bx5 hb1
 go_wp2_with fail;refine(parentOf_any q _ hq).mono ?_
 rintro e w2 ⟨rfl,hb2⟩;have hb02:=hb1.trans (hb2.mono hb1.size);clear c0 c1 c2 c3 c4 hbw hlt hb1 hb2;obtain⟨c0,c1,c2,c3,c4,hbw,hlt⟩:=bx5 hb02
 go_wp2_with fail;refine(isFolder_any L _ ⟨(Pp.par q.data.toList).toArray⟩ _ (HV.out.below hbw)).mono ?_
 rintro e w3 ⟨rfl,hb3⟩;rw[show Pp.foldE L _=0 from H0.out];have hb03:=hb02.trans (hb3.mono hb02.size);clear c0 c1 c2 c3 c4 hbw hlt hb02 hb3;obtain⟨c0,c1,c2,c3,c4,hbw,hlt⟩:=bx5 hb03
 go_wp2_with fail;refine(entryAt_any L _ p _ (HV.out.below hbw)).mono ?_
 rintro e w4 ⟨rfl,hb4⟩;rw[HI.out];have hb04:=hb03.trans (hb4.mono hb03.size);clear c0 c1 c2 c3 c4 hbw hlt hb03 hb4;obtain⟨c0,c1,c2,c3,c4,hbw,hlt⟩:=bx5 hb04
 go_wp2_with fail;refine(isIn_any q p _ hq hp).mono ?_
 rintro e w5 ⟨rfl,hb5⟩;rw[HX3.out];have hb05:=hb04.trans (hb5.mono hb04.size);clear c0 c1 c2 c3 c4 hbw hlt hb04 hb5;obtain⟨c0,c1,c2,c3,c4,hbw,hlt⟩:=bx5 hb05
 go_wp2_with fail;refine(entryAt_any L _ q _ (HV.out.below hbw)).mono ?_
 rintro e w6 ⟨rfl,hb6⟩;rw[HI2.out];have hb06:=hb05.trans (hb6.mono hb05.size);clear c0 c1 c2 c3 c4 hbw hlt hb05 hb6;obtain⟨c0,c1,c2,c3,c4,hbw,hlt⟩:=bx5 hb06
 have HB:=hid hb06;go_wp2_with fail;clear c0 c1 c2 c3 c4 hbw hlt;go_loopw [11] (fun i wr=> ∃m:Nat,m≤L.length∧i= .int .i64 m∧Hid (∀j (h:j<L.length),j<m→Pp.stW p.data.toList b L[j]=false)∧(b<0→m=0)∧Below w6.heap.size w6 wr) (fun i _=>L.length-(intOf i).toNat)
 case atStart=>exact⟨0,Nat.zero_le _,rfl,(fun j _ h=>absurd h (Nat.not_lt_zero _): ∀j (h:j<L.length),j<0→Pp.stW p.data.toList b L[j]=false),fun _=>rfl,Below.refl _ _⟩
 case round=>
  obtain⟨m,hm,rfl,HP,hm0,hbel⟩:=hrel
  have hb0r:=HB.out.trans (hbel.mono HB.out.size);obtain⟨c0,c1,c2,c3,c4,hbw,hlt⟩:=bx5 hb0r
  clear hm0;go_upto_region 22 with fail;go_cut [100] (fun t W=>t= .bool (decide (m<L.length∧0≤b))∧W=wr)
  case first=>
   by_cases h1:m<L.length
   · have h1':(m:Int)<L.length:=by omega
     by_cases h2:0≤b
     · have HD:=hid (decide_eq_true (p:=m<L.length∧0≤b) ⟨h1,h2⟩)
       go_wp2_with fail;go_meet
       case rel=>exact⟨by rw[HD.out],rfl⟩
     · have HD:=hid (decide_eq_false (p:=m<L.length∧0≤b) (fun h=>h2 h.2))
       go_wp2_with fail;go_meet
       case rel=>exact⟨by rw[HD.out],rfl⟩
   · have h1': ¬(m:Int)<L.length:=by omega
     have HD:=hid (decide_eq_false (p:=m<L.length∧0≤b) (fun h=>h1 h.1));go_wp2_with fail;go_meet
     case rel=>exact⟨by rw[HD.out],rfl⟩
  case rest=>
  obtain⟨rfl,hcw⟩:=hcut
  have hcw':=hcw.symm;subst hcw';clear hcw;by_cases hgo:m<L.length∧0≤b
  · rw[decide_eq_true hgo]
    obtain⟨hlk,hb0⟩:=hgo
    obtain⟨b1,o1,hab,hb1,he⟩:=HL.out m hlk
    first|subst hab|(have hab2:=Option.some.inj hab;injection hab2 with e1 e2 e3;have e1':=e1.symm;have e2':=e2.symm;subst e1';subst e2')
    obtain⟨d0,d1,d2,d3⟩:=he.below hb1 hbw
    have hbr:b1<wr.heap.size:=Nat.lt_of_lt_of_le hb1 hbw.size;cases hin:Pp.isInB (L[m]).path.data.toList p.data.toList with
    |false=>
     have HIN:=hid hin;have HST:=hid (Pp.stW_in (b:=b) (e:=L[m]) hin);clear hin;go_wp2_with fail;refine wp_region_held_drew (S:=fun W=>W.cell? ⟨b1,o1+m*4,none⟩=some (.string L[m].path)∧W.cell? ⟨w.heap.size,1,none⟩=some (.string p)) (by kernel_rfl) ⟨by simpa using d0,by simpa using c1⟩ (fun hHeld=>?_)
     refine wpAnyH_take (i:=0) (oi:=⟨some 103,Op.move (Operand.tmp 0),22,_,_,none⟩) (v:=?_) rfl (by kernel_rfl) (by kernel_rfl) (by kernel_rfl) (fun _ _ _ h=>h) (Or.inl ⟨by rfl,?_⟩) hHeld ?_
     rotate_left
     · (intro W hSw;obtain⟨s0,s1⟩:=hSw;go_simp<;>with_reducible rfl)
     simp only[Act.put,List.setIfInBounds_toArray,List.set_cons_zero,List.set_cons_succ];refine wpAnyH_take (i:=1) (oi:=⟨some 104,Op.move (Operand.tmp 11),3,_,_,none⟩) (v:=?_) rfl (by kernel_rfl) (by kernel_rfl) (by kernel_rfl) (fun _ _ _ h=>h) (Or.inl ⟨by rfl,?_⟩) hHeld ?_
     rotate_left
     · (intro W hSw;obtain⟨s0,s1⟩:=hSw;go_simp<;>with_reducible rfl)
     simp only[Act.put,List.setIfInBounds_toArray,List.set_cons_zero,List.set_cons_succ];refine wpAnyH_take (i:=2) (oi:=⟨some 105,Op.indexAddr 22 (Operand.tmp 103) (Operand.tmp 104),0,_,_,none⟩) (v:=?_) rfl (by kernel_rfl) (by kernel_rfl) (by kernel_rfl) (fun _ _ _ h=>h) (Or.inl ⟨by rfl,?_⟩) hHeld ?_
     rotate_left
     · (intro W hSw;obtain⟨s0,s1⟩:=hSw;go_simp<;>with_reducible rfl)
     simp only[Act.put,List.setIfInBounds_toArray,List.set_cons_zero,List.set_cons_succ];refine wpAnyH_take (i:=3) (oi:=⟨some 106,Op.fieldAddr 72 (Operand.tmp 105) 0,0,_,_,none⟩) (v:=?_) rfl (by kernel_rfl) (by kernel_rfl) (by kernel_rfl) (fun _ _ _ h=>h) (Or.inl ⟨by rfl,?_⟩) hHeld ?_
     rotate_left
     · (intro W hSw;obtain⟨s0,s1⟩:=hSw;go_simp<;>with_reducible rfl)
     simp only[Act.put,List.setIfInBounds_toArray,List.set_cons_zero,List.set_cons_succ];refine wpAnyH_take (i:=4) (oi:=⟨some 107,Op.load 9 (Operand.tmp 106),9,_,_,none⟩) (v:=?_) rfl (by kernel_rfl) (by kernel_rfl) (by kernel_rfl) (fun _ _ _ h=>h) (Or.inl ⟨by rfl,?_⟩) hHeld ?_
     rotate_left
     · (intro W hSw;obtain⟨s0,s1⟩:=hSw;go_simp<;>with_reducible rfl)
     simp only[Act.put,List.setIfInBounds_toArray,List.set_cons_zero,List.set_cons_succ];refine wpAnyH_take (i:=5) (oi:=⟨some 108,Op.fieldAddr 53 (Operand.tmp 4) 1,0,_,_,none⟩) (v:=?_) rfl (by kernel_rfl) (by kernel_rfl) (by kernel_rfl) (fun _ _ _ h=>h) (Or.inl ⟨by rfl,?_⟩) hHeld ?_
     rotate_left
     · (intro W hSw;obtain⟨s0,s1⟩:=hSw;go_simp<;>with_reducible rfl)
     simp only[Act.put,List.setIfInBounds_toArray,List.set_cons_zero,List.set_cons_succ];refine wpAnyH_take (i:=6) (oi:=⟨some 109,Op.load 9 (Operand.tmp 108),9,_,_,none⟩) (v:=?_) rfl (by kernel_rfl) (by kernel_rfl) (by kernel_rfl) (fun _ _ _ h=>h) (Or.inl ⟨by rfl,?_⟩) hHeld ?_
     rotate_left
     · (intro W hSw;obtain⟨s0,s1⟩:=hSw;go_simp<;>with_reducible rfl)
     simp only[Act.put,List.setIfInBounds_toArray,List.set_cons_zero,List.set_cons_succ];refine wpAnyH_ready (rs:=[7]) (by kernel_rfl) (by simp) ?_
     refine AllReadyH.cons (o:=⟨some 110,Op.call ⟨Callee.value (Operand.func 95),#[Operand.tmp 107,Operand.tmp 109],#[9,9]⟩,4,_,_,none⟩) rfl (fun K hK=>?_) AllReadyH.nil
     go_simp
     refine(isIn_any L[m].path p _ (HS.out _ (List.getElem_mem hlk)) hp).mono ?_
     rintro e wa ⟨rfl,hba⟩;rw[HIN.out];have k1:wa.cell? ⟨b1,o1+m*4,none⟩=some (.string L[m].path):=(hba.cell (p:=⟨b1,o1+m*4,none⟩) hbr).trans d0;have k2:wa.cell? ⟨w.heap.size,1,none⟩=some (.string p):=(hba.cell (p:=⟨w.heap.size,1,none⟩) hlt).trans c1;go_wp2_with fail;refine hK.out _ _ ⟨k1,k2⟩ (fun hHeld=>?_)
     clear hK K;try simp only[Act.put,List.setIfInBounds_toArray,List.set_cons_zero,List.set_cons_succ]
     refine wpAnyH_take (i:=8) (oi:=⟨some 111,Op.move (Operand.tmp 110),4,_,_,none⟩) (v:=?_) rfl (by kernel_rfl) (by kernel_rfl) (by kernel_rfl) (fun _ _ _ h=>h) (Or.inl ⟨by rfl,?_⟩) hHeld ?_
     rotate_left
     · (intro W hSw;obtain⟨s0,s1⟩:=hSw;go_simp<;>with_reducible rfl)
     simp only[Act.put,List.setIfInBounds_toArray,List.set_cons_zero,List.set_cons_succ];refine wpAnyH_pass (g:=8) (dg:=111) (by kernel_rfl) (by kernel_rfl) (fun _ _ _ _ _ h=>h) hHeld (fuel:=1) [(9,112),(10,113),(11,114),(12,115),(13,116),(14,117),(15,118),(16,119)] _ _ (by kernel_rfl) (by kernel_rfl) ?_
     simp only[passAll,putAll,Act.put,List.setIfInBounds_toArray,List.set_cons_zero,List.set_cons_succ];refine wpAnyH_take (i:=17) (oi:=⟨some 120,Op.pick (Operand.tmp 111) (Operand.tmp 119) (Operand.const (Value.bool false)),4,_,_,none⟩) (v:=?_) rfl (by kernel_rfl) (by kernel_rfl) (by kernel_rfl) (fun _ _ _ h=>h) (Or.inl ⟨by rfl,?_⟩) hHeld ?_
     rotate_left
     · (intro W hSw;obtain⟨s0,s1⟩:=hSw;go_simp<;>with_reducible rfl)
     simp only[Act.put,List.setIfInBounds_toArray,List.set_cons_zero,List.set_cons_succ];refine wpAnyH_done (by kernel_rfl) ?_ _
     have hbel2:Below w6.heap.size w6 wa:=hbel.drew.trans (hba.mono hbel.drew.size);go_wp2_with fail;go_roundw
     case rel=>exact⟨m+1,by omega,by simp,(fun j h1 h2=>by
      by_cases e:j=m
      · subst e;exact HST.out
      · exact HP.out j h1 (by omega): ∀j (h:j<L.length),j<m+1→Pp.stW p.data.toList b L[j]=false),fun h=>absurd h (by omega),hbel2⟩
     case measure=>simp[intOf];omega
    |true=>
     have HIN:=hid hin;have HY:=hid (show b<(L[m]).ver→ ∀(k:Int) (q t:ByteArray),Pp.stl L ⟨k,p,q,t,b⟩=true from fun hver k q t=>Pp.stl_yes hb0 hlk hin hver);clear hin;go_wp2_with fail
     go_region_held3 (fun W=>W.cell? ⟨b1,o1+m*4,none⟩=some (.string L[m].path)∧W.cell? ⟨w.heap.size,1,none⟩=some (.string p)∧W.cell? ⟨b1,o1+m*4+3,none⟩=some (.int .i64 L[m].ver)∧W.cell? ⟨w.heap.size,4,none⟩=some (.int .i64 b)) (go_keep) (first
      |(go_at_call 95;refine(isIn_any L[m].path p _ (HS.out _ (List.getElem_mem hlk)) hp).mono ?_;rintro e wa ⟨rfl,hba⟩;rw[HIN.out];have k1:wa.cell? ⟨b1,o1+m*4,none⟩=some (.string L[m].path):=(hba.cell (p:=⟨b1,o1+m*4,none⟩) hbr).trans d0;have k2:wa.cell? ⟨w.heap.size,1,none⟩=some (.string p):=(hba.cell (p:=⟨w.heap.size,1,none⟩) hlt).trans c1;have k3:wa.cell? ⟨b1,o1+m*4+3,none⟩=some (.int .i64 L[m].ver):=(hba.cell (p:=⟨b1,o1+m*4+3,none⟩) hbr).trans d3;have k4:wa.cell? ⟨w.heap.size,4,none⟩=some (.int .i64 b):=(hba.cell (p:=⟨w.heap.size,4,none⟩) hlt).trans c4))
     by_cases hver:b<(L[m]).ver
     · have HST:=hid (HY.out hver)
       have hbw2:Below w.heap.size w wa:=hbw.drew.trans (hba.mono hbw.drew.size);go_wp2_with fail;go_ret2;exact⟨_,by rw[Pp.rstE,if_pos (by rw[HCC.out];exact HST.out _ _ _)];rfl,fun h=>by rw[Pp.rstE,if_pos (by rw[HCC.out];exact HST.out _ _ _)]at h;exact absurd h (by decide),hbw2⟩
     · have HST:=hid (Pp.stW_ver (p:=p.data.toList) (b:=b) (e:=L[m]) hver)
       have hbel2:Below w6.heap.size w6 wa:=hbel.drew.trans (hba.mono hbel.drew.size);go_wp2_with fail;go_roundw
       case rel=>exact⟨m+1,by omega,by simp,(fun j h1 h2=>by
        by_cases e:j=m
        · subst e;exact HST.out
        · exact HP.out j h1 (by omega): ∀j (h:j<L.length),j<m+1→Pp.stW p.data.toList b L[j]=false),fun h=>absurd h (by omega),hbel2⟩
       case measure=>simp[intOf];omega
  · have hN:Pp.stl L C=false:=by
     rw[HCC.out];exact Pp.stl_no hbb (fun j h h0=>HP.out j h (by omega))
    have HN:=hid hN;rw[decide_eq_false hgo];clear hN hgo HP hm
    all_goals
     go_wp2_with fail;have HBR:=hid hb0r;have HBW:=hid hbw;have hltr:=hlt;have hbr0:=hbw.size;clear c0 c1 c2 c3 c4 hlt hbel hbw hb0r;obtain⟨wf,hwf⟩: ∃wf,wf=wr:=⟨_,rfl⟩
     rw[←hwf];rw[←hwf]at HBR HBW hltr hbr0;clear hwf;go_loopw [12,13] (fun o i wr=> ∃x:Nat,x≤L.length∧i= .int .i64 x∧wr.ownsRow wf.heap.size 72 4 o ((L.take x).filter (fun e=> !Pp.wi p.data.toList e)).length (Pp.flat ((L.take x).filter (fun e=> !Pp.wi p.data.toList e)))∧Below wf.heap.size wf wr) (fun _ i _=>L.length-(intOf i).toNat)
     case atStart=>exact⟨0,Nat.zero_le _,rfl,World.ownsRow_nil _ _ _ _,Below.refl _ _⟩
     case round=>
      obtain⟨x,hx,rfl,hown,hbel⟩:=hrel
      have hbx:=HBR.out.trans (hbel.mono HBR.out.size);obtain⟨c0,c1,c2,c3,c4,hbw,hlt⟩:=bx5 hbx
      by_cases hlx:x<L.length
      · obtain⟨b1,o1,hab,hb1,he⟩:=HL.out x hlx
        subst hab;obtain⟨d0,d1,d2,d3⟩:=he.below hb1 hbw
        have hbr:b1<wr.heap.size:=Nat.lt_of_lt_of_le hb1 hbw.size;have hfl:((L.take x).filter (fun e=> !Pp.wi p.data.toList e)).length≤60:=Nat.le_trans (List.length_filter_le _ _) (by rw[List.length_take];omega);have hstp:=Pp.filter_step (f:=fun e=> !Pp.wi p.data.toList e) hlx;go_wp2_with fail
        go_region_held3 (fun W=>W.cell? ⟨b1,o1+x*4,none⟩=some (.string L[x].path)∧W.cell? ⟨w.heap.size,1,none⟩=some (.string p)) (go_keep) (first
         |(go_at_call 95;refine(isIn_any L[x].path p _ (HS.out _ (List.getElem_mem hlx)) hp).mono ?_;rintro e wa ⟨rfl,hba⟩;have k1:wa.cell? ⟨b1,o1+x*4,none⟩=some (.string L[x].path):=(hba.cell (p:=⟨b1,o1+x*4,none⟩) hbr).trans d0;have k2:wa.cell? ⟨w.heap.size,1,none⟩=some (.string p):=(hba.cell (p:=⟨w.heap.size,1,none⟩) hlt).trans c1))
        have hownA:=Pp.own_below hown.drew hba;have hbelA:Below wf.heap.size wf wa:=hbel.drew.trans (hba.mono hbel.drew.size);have hbwA:Below w.heap.size w wa:=hbw.drew.trans (hba.mono hbw.drew.size);clear c0 c1 c2 c3 c4 hbx hown hbel hbw d0 d1 d2 d3 hlt hbr;cases hin:Pp.wi p.data.toList L[x]with
        |true=>
         have hin2:Pp.isInB (L[x]).path.data.toList p.data.toList=true:=hin;have HST:=hid (show(L.take (x+1)).filter (fun e=> !Pp.wi p.data.toList e)=(L.take x).filter (fun e=> !Pp.wi p.data.toList e)from by rw[hstp];simp[hin]);have HO:=hid hownA;clear hstp hin hownA k1 k2 hba;rw[hin2];clear hin2;go_wp2_with fail;go_roundw
         case rel=>exact⟨x+1,by omega,by simp,by rw[HST.out];exact HO.out,hbelA⟩
         case measure=>simp[intOf];omega
        |false=>
         have hin2:Pp.isInB (L[x]).path.data.toList p.data.toList=false:=hin;have HST:=hid (show(L.take (x+1)).filter (fun e=> !Pp.wi p.data.toList e)=(L.take x).filter (fun e=> !Pp.wi p.data.toList e)++[L[x]]from by rw[hstp];simp[hin]);obtain⟨d0,d1,d2,d3⟩:=he.below hb1 hbwA
         generalize (L.take x).filter (fun e=> !Pp.wi p.data.toList e)=X at*;clear hstp hin k1 k2 hba;rw[hin2];clear hin2;go_wp2_with (at_builtin;refine wpList_append_own _ rfl _ _ 22 rfl wf.heap.size 72 i0 (.agg #[.string ⟨#[]⟩,.bool false,.string ⟨#[]⟩,.int .i64 0]) 4 48 Tryz.underlying22 hi0 hz0 hz1 hz2 rfl (by decide) _ _ _ rfl (hownA.alloc _) ⟨wa.heap.size,0,none⟩ 1 1 (Pp.cells L[x]) rfl rfl (Pp.new_cells wa L[x] _) (Pp.cells_one _) (by unfold maxLen;omega) (by omega) (by have:=hbelA.size;simp at this⊢;omega) ?_)
         intro v2 w2 ho2 hgr2 hnn2;have hbel2:Below wf.heap.size wf w2:=(hbelA.alloc hbelA.size _).grown hgr2 (by have:=hbelA.size;simp at this⊢;omega) (fun g hg=>by have:=(hownA.lt g hg).1;simp;omega);rw[Pp.flat_snoc]at ho2;have hown2:w2.ownsRow wf.heap.size 72 4 v2 (X++[L[x]]).length (Pp.flat (X++[L[x]])):=by rw[List.length_append];exact ho2
         have HO:=hid hown2;clear ho2 hgr2 hnn2 hown2 hownA hbelA hbwA d0 d1 d2 d3 he;go_wp2_with fail;go_roundw
         case rel=>exact⟨x+1,by omega,by simp,by rw[HST.out];exact HO.out,hbel2⟩
         case measure=>simp[intOf];omega
      · have eL:L.take x=L:=List.take_of_length_le (by omega)
        rw[eL]at hown;have HO:=hid hown;clear eL hown;go_wp2_with fail;have hK0:=(HK0.out▸hid (lies_own HO.out (by have:=List.length_filter_le (fun e=> !Pp.wi p.data.toList e) L;omega)):Hid (Lies wr _ (Pp.mvTo L C n 0)))
        clear HO;obtain⟨wg,hwg⟩: ∃wg,wg=wr:=⟨_,rfl⟩
        rw[←hwg]at hK0 hbel hbx hbw hlt⊢;clear c0 c1 c2 c3 c4 hwg;have HBX:=hid hbx;clear hbx hbel hbw;go_loopw [12,14] (fun o i wr=> ∃y:Nat,y≤L.length∧i= .int .i64 y∧Hid (Lies wr o (Pp.mvTo L C n y))∧Hid (∀j (h:j<L.length),j<y→Pp.wi p.data.toList L[j]=true→Pp.big (Pp.mvP C L[j])=false)∧Below wg.heap.size wg wr) (fun _ i _=>L.length-(intOf i).toNat)
        case atStart=>exact⟨0,Nat.zero_le _,rfl,hK0,(fun j _ h=>absurd h (Nat.not_lt_zero _): ∀j (h:j<L.length),j<0→Pp.wi p.data.toList L[j]=true→Pp.big (Pp.mvP C L[j])=false),Below.refl _ _⟩
        case round=>
         obtain⟨y,hy,rfl,HU,HNB,hbel⟩:=hrel
         have hby:=HBX.out.trans (hbel.mono HBX.out.size);obtain⟨c0,c1,c2,c3,c4,hbw,hlt2⟩:=bx5 hby
         by_cases hly:y<L.length
         · obtain⟨b1,o1,hab,hb1,he⟩:=HL.out y hly
           subst hab;obtain⟨d0,d1,d2,d3⟩:=he.below hb1 hbw
           have hbr:b1<wr.heap.size:=Nat.lt_of_lt_of_le hb1 hbw.size;go_wp2_with fail
           go_region_held3 (fun W=>W.cell? ⟨b1,o1+y*4,none⟩=some (.string L[y].path)∧W.cell? ⟨w.heap.size,1,none⟩=some (.string p)) (go_keep) (first
            |(go_at_call 95;refine(isIn_any L[y].path p _ (HS.out _ (List.getElem_mem hly)) hp).mono ?_;rintro e wa ⟨rfl,hba⟩;have k1:wa.cell? ⟨b1,o1+y*4,none⟩=some (.string L[y].path):=(hba.cell (p:=⟨b1,o1+y*4,none⟩) hbr).trans d0;have k2:wa.cell? ⟨w.heap.size,1,none⟩=some (.string p):=(hba.cell (p:=⟨w.heap.size,1,none⟩) hlt2).trans c1))
           have hbelA:Below wg.heap.size wg wa:=hbel.drew.trans (hba.mono hbel.drew.size);have HUA:=hid (HU.out.below ((Below.refl _ _).drew.trans hba));clear c0 c1 c2 c3 c4 hby hbel hbw d0 d1 d2 d3 hlt2 hbr HU k1 k2 hba;have hby:=HBX.out.trans (hbelA.mono HBX.out.size);obtain⟨c0,c1,c2,c3,c4,hbw,hlt2⟩:=bx5 hby
           cases hin:Pp.wi p.data.toList L[y]with
           |false=>
            have hin2:Pp.isInB (L[y]).path.data.toList p.data.toList=false:=hin;have HST:=hid (HOUT1.out y hly hin)
            have HNB2:=hid (show∀j (h:j<L.length),j<y+1→Pp.wi p.data.toList L[j]=true→Pp.big (Pp.mvP C L[j])=false from fun j h1 h2 h3=>by
             by_cases e:j=y
             · subst e;rw[hin]at h3;cases h3
             · exact HNB.out j h1 (by omega) h3)
            clear hin;rw[hin2];clear hin2;go_wp2_with fail;go_roundw
            case rel=>exact⟨y+1,by omega,by simp,(by rw[HST.out];exact HUA.out:Lies _ _ (Pp.mvTo L C n (y+1))),HNB2,hbelA⟩
            case measure=>simp[intOf];omega
           |true=>
            have hin2:Pp.isInB (L[y]).path.data.toList p.data.toList=true:=hin;have HIN:=hid hin;obtain⟨d0,d1,d2,d3⟩:=he.below hb1 hbw
            have hpy:(L[y]).path.size≤80:=HES.out _ (List.getElem_mem hly);have HJ:=hid (show Pp.join (Pp.nm q.data.toList++(Pp.nm (L[y]).path.data.toList).drop (Pp.nm p.data.toList).length)=Pp.mvP C L[y]from by rw[HCC.out];exact Pp.mv_join _ hin2)
            have hjl:(Pp.mvP C L[y]).length≤160:=by
             rw[HCC.out];have:=Pp.len_mv (L[y]).path.data.toList p.data.toList q.data.toList
             rw[←Lib.size_eq,←Lib.size_eq]at this;exact Nat.le_trans this (by omega)
            have hfp:(Pp.nm p.data.toList).length≤(Pp.nm (L[y]).path.data.toList).length:=by
             have:(Pp.nm p.data.toList).isPrefixOf (Pp.nm (L[y]).path.data.toList)=true:=hin2
             exact(List.isPrefixOf_iff_prefix.1 this).length_le
            have hnq:(Pp.nm q.data.toList).length≤q.size+1:=by have:=Pp.nm_len_le q.data.toList;rwa [←Lib.size_eq]at this
            have hnx:(Pp.nm (L[y]).path.data.toList).length≤(L[y]).path.size+1:=by have:=Pp.nm_len_le (L[y]).path.data.toList;rwa [←Lib.size_eq]at this
            have HMV:=hid (show Pp.mvd C n L[y]=⟨⟨(Pp.mvP C L[y]).toArray⟩,L[y].folder,L[y].text,(Pp.mvd C n L[y]).ver⟩from rfl);obtain⟨i1,hj0,hy0,hy1,hy2⟩:=info_parts Tryz.infoS
            rw[hin2];clear hin hin2;go_upto_if 173 with fail;go_cut [15] (fun x W=>x= .pointer (some ⟨wa.heap.size,0,none⟩)∧Hid (W.cell? ⟨wa.heap.size,0,none⟩=some (.string L[y].path)∧W.cell? ⟨wa.heap.size,1,none⟩=some (.bool L[y].folder)∧W.cell? ⟨wa.heap.size,2,none⟩=some (.string L[y].text)∧W.cell? ⟨wa.heap.size,3,none⟩=some (.int .i64 (Pp.mvd C n L[y]).ver)∧W.frozen? ⟨wa.heap.size,0,none⟩=false)∧Below wa.heap.size wa W∧wa.heap.size<W.heap.size)
            case first=>
             cases hpp:((L[y]).path.toList==p.toList)with
             |true=>
              have hvr:(Pp.mvd C n L[y]).ver=n:=by
               rw[HCC.out];have hpp2:(L[y]).path.data.toList=p.data.toList:=by rw[Lib.toList_data,Lib.toList_data]at hpp;simpa using hpp
               exact if_pos hpp2
              go_wp2_with fail;go_meet
              case rel=>exact⟨rfl,⟨by simp,by simp,by simp,by rw[hvr];simp,World.frozen?_alloc_at _ _ _ _ rfl⟩,(Below.refl _ _).alloc (Nat.le_refl _) _,by simp⟩
             |false=>
              have hvr:(Pp.mvd C n L[y]).ver=(L[y]).ver:=by
               rw[HCC.out];have hpp2: ¬(L[y]).path.data.toList=p.data.toList:=fun e=>by rw[Lib.toList_data,Lib.toList_data,e]at hpp;simp at hpp
               exact if_neg hpp2
              go_wp2_with fail;go_meet
              case rel=>exact⟨rfl,⟨by simp,by simp,by simp,by rw[hvr];simp,World.frozen?_alloc_at _ _ _ _ rfl⟩,(Below.refl _ _).alloc (Nat.le_refl _) _,by simp⟩
            case rest=>
             obtain⟨rfl,HXS,hbs,hwB⟩:=hcut
             obtain⟨ws,hws⟩: ∃ws,ws=wc:=⟨_,rfl⟩
             rw[←hws]at HXS hbs hwB⊢;obtain⟨x0,x1,x2,x3,hfr⟩:=HXS.out
             go_upto_region 40 with fail;have hw1:w.heap.size<ws.heap.size:=Nat.lt_trans hlt2 hwB;have s1:ws.cell? ⟨w.heap.size,1,none⟩=some (.string p):=(hbs.cell (p:=⟨w.heap.size,1,none⟩) hlt2).trans c1;have s2:ws.cell? ⟨w.heap.size,2,none⟩=some (.string q):=(hbs.cell (p:=⟨w.heap.size,2,none⟩) hlt2).trans c2;have c1':=c1;have c2':=c2;have hgB:wg.heap.size≤wa.heap.size:=hbelA.size;have hbd:Below ws.heap.size ws ws.drew:=(Below.refl _ _).drew;clear c0 c1 c2 c3 c4 hby hbw hws d0 d1 d2 d3 he;refine wp_region_held_drew (S:=fun W=>W.cell? ⟨w.heap.size,1,none⟩=some (.string p)∧W.cell? ⟨w.heap.size,2,none⟩=some (.string q)) (by kernel_rfl) ⟨by simpa using s1,by simpa using s2⟩ (fun hHeld=>?_)
             change wpAnyH _ _ _ _ _ 17 #[false,false,false,false,false,false,false,false,false,false,false,false,false,false,false,false,false] _ _
             refine wpAnyH_take (i:=1) (oi:=⟨some 177,Op.fieldAddr 53 (Operand.tmp 4) 2,0,_,_,none⟩) (v:=?_) rfl (by kernel_rfl) (by kernel_rfl) (by kernel_rfl) (fun _ _ _ h=>h) (Or.inl ⟨by rfl,?_⟩) hHeld ?_
             rotate_left
             · (intro W hSw;obtain⟨t1,t2⟩:=hSw;go_simp<;>with_reducible rfl)
             try simp only[Act.put,List.setIfInBounds_toArray,List.set_cons_zero,List.set_cons_succ]
             refine wpAnyH_take (i:=2) (oi:=⟨some 178,Op.load 9 (Operand.tmp 177),9,_,_,none⟩) (v:=?_) rfl (by kernel_rfl) (by kernel_rfl) (by kernel_rfl) (fun _ _ _ h=>h) (Or.inl ⟨by rfl,?_⟩) hHeld ?_
             rotate_left
             · (intro W hSw;obtain⟨t1,t2⟩:=hSw;go_simp<;>with_reducible rfl)
             try simp only[Act.put,List.setIfInBounds_toArray,List.set_cons_zero,List.set_cons_succ]
             refine wpAnyH_take (i:=5) (oi:=⟨some 181,Op.fieldAddr 72 (Operand.tmp 15) 0,0,_,_,none⟩) (v:=?_) rfl (by kernel_rfl) (by kernel_rfl) (by kernel_rfl) (fun _ _ _ h=>h) (Or.inl ⟨by rfl,?_⟩) hHeld ?_
             rotate_left
             · (intro W hSw;obtain⟨t1,t2⟩:=hSw;go_simp<;>with_reducible rfl)
             try simp only[Act.put,List.setIfInBounds_toArray,List.set_cons_zero,List.set_cons_succ]
             refine wpAnyH_take (i:=8) (oi:=⟨some 184,Op.fieldAddr 53 (Operand.tmp 4) 1,0,_,_,none⟩) (v:=?_) rfl (by kernel_rfl) (by kernel_rfl) (by kernel_rfl) (fun _ _ _ h=>h) (Or.inl ⟨by rfl,?_⟩) hHeld ?_
             rotate_left
             · (intro W hSw;obtain⟨t1,t2⟩:=hSw;go_simp<;>with_reducible rfl)
             try simp only[Act.put,List.setIfInBounds_toArray,List.set_cons_zero,List.set_cons_succ]
             refine wpAnyH_take (i:=9) (oi:=⟨some 185,Op.load 9 (Operand.tmp 184),9,_,_,none⟩) (v:=?_) rfl (by kernel_rfl) (by kernel_rfl) (by kernel_rfl) (fun _ _ _ h=>h) (Or.inl ⟨by rfl,?_⟩) hHeld ?_
             rotate_left
             · (intro W hSw;obtain⟨t1,t2⟩:=hSw;go_simp<;>with_reducible rfl)
             try simp only[Act.put,List.setIfInBounds_toArray,List.set_cons_zero,List.set_cons_succ]
             refine later (p:=?_) (fun rest=>?_) ?_
             rotate_left
             · refine wpAnyH_ready (rs:=[0,3,6]) (by kernel_rfl) (by simp) ?_
               refine AllReadyH.cons (o:=⟨some 176,Op.buildSlice 125 0 #[],125,_,_,none⟩) rfl (fun K hK=>?_) (AllReadyH.cons (o:=⟨some 179,Op.call ⟨Callee.value (Operand.func 98),#[Operand.tmp 178],#[9]⟩,125,_,_,none⟩) rfl (fun K hK=>?_) (AllReadyH.cons (o:=⟨some 182,Op.load 9 (Operand.tmp 181),9,_,_,none⟩) rfl (fun K hK=>?_) AllReadyH.nil))
               · go_simp
                 generalize hwz:(World.alloc ws (.cells #[] 9)).drew=wz;have hbz:Below ws.heap.size ws wz:=hwz▸((Below.refl _ _).alloc (Nat.le_refl _) _).drew;have hoz:wz.ownsRow ws.heap.size 9 1 (.slice (some ⟨ws.heap.size,0,none⟩) 0 0) 0 []:=hwz▸(World.ownsRow_made ws #[] 0 (Nat.le_refl _) (by decide) rfl).drew;clear hwz;generalize Value.slice (some (Addr.mk _ 0 none)) 0 0=v176 at hoz⊢;refine hK.out _ _ ⟨(hbz.cell (p:=⟨w.heap.size,1,none⟩) hw1).trans s1,(hbz.cell (p:=⟨w.heap.size,2,none⟩) hw1).trans s2⟩ (fun hzz=>?_)
                 clear hzz hK K;try simp only[Act.put,List.setIfInBounds_toArray,List.set_cons_zero,List.set_cons_succ]
                 refine wpAnyH_ready (rs:=[3,6]) (by kernel_rfl) (by simp) ?_
                 refine AllReadyH.cons (o:=⟨some 179,Op.call ⟨Callee.value (Operand.func 98),#[Operand.tmp 178],#[9]⟩,125,_,_,none⟩) rfl (fun K hK=>?_) (AllReadyH.cons (o:=⟨some 182,Op.load 9 (Operand.tmp 181),9,_,_,none⟩) rfl (fun K hK=>?_) AllReadyH.nil)
                 · go_simp
                   refine(rNames_at q _ (by omega)).mono ?_
                   rintro e wn ⟨g4,cp4,rfl,hcp4,hcp4',hg4,hg4',hcell4,hbc4⟩;go_wp2_with fail;have hbn:Below ws.heap.size ws wn:=hbz.trans (hbc4.mono hbz.size);have HC4:=hid hcell4;clear hcell4;have hoz2:=Pp.own_below hoz hbc4;clear hoz;have hoz:=hoz2;clear hoz2;clear hbc4;refine hK.out _ _ ⟨(hbn.cell (p:=⟨w.heap.size,1,none⟩) hw1).trans s1,(hbn.cell (p:=⟨w.heap.size,2,none⟩) hw1).trans s2⟩ (fun hzz=>?_)
                   clear hzz hK K;try simp only[Act.put,List.setIfInBounds_toArray,List.set_cons_zero,List.set_cons_succ]
                   refine wpAnyH_ready (rs:=[4,6]) (by kernel_rfl) (by simp) ?_
                   refine AllReadyH.cons (o:=⟨some 180,Op.call ⟨Callee.builtin Builtin.append,#[Operand.tmp 176,Operand.tmp 179],#[125,125]⟩,125,_,_,none⟩) rfl (fun K hK=>?_) (AllReadyH.cons (o:=⟨some 182,Op.load 9 (Operand.tmp 181),9,_,_,none⟩) rfl (fun K hK=>?_) AllReadyH.nil)
                   · refine step_append_own rfl (.tmp 176) (.tmp 179) 125 rfl ws.heap.size 9 i1 (.string ⟨#[]⟩) 1 16 Tryz.underlying125 hj0 hy0 hy1 hy2 rfl (by decide) _ _ _ rfl hoz ⟨g4,0,none⟩ (Pp.nm q.data.toList).length cp4 (Pp.vs (Pp.nm q.data.toList)) rfl (by simp[Pp.vs]) (Pp.vs_cells (L:=Pp.nm q.data.toList) HC4.out 0) (Pp.vs_one _) (by unfold maxLen;omega) (by omega) hbn.size ?_
                     intro v5 w5 ho5 hgr5 hnn5;have hb5:Below ws.heap.size ws w5:=hbn.grown hgr5 hbn.size (fun k hk=>(hoz.lt k hk).1);rw[Nat.zero_add,List.nil_append]at ho5;clear hgr5 hnn5;refine hK.out _ _ ⟨(hb5.cell (p:=⟨w.heap.size,1,none⟩) hw1).trans s1,(hb5.cell (p:=⟨w.heap.size,2,none⟩) hw1).trans s2⟩ (fun hzz=>?_)
                     clear hzz hK K;try simp only[Act.put,List.setIfInBounds_toArray,List.set_cons_zero,List.set_cons_succ]
                     refine wpAnyH_ready (rs:=[6]) (by kernel_rfl) (by simp) ?_
                     refine AllReadyH.cons (o:=⟨some 182,Op.load 9 (Operand.tmp 181),9,_,_,none⟩) rfl (fun K hK=>?_) AllReadyH.nil
                     have f0:w5.cell? ⟨wa.heap.size,0,none⟩=some (.string L[y].path):=(hb5.cell (p:=⟨wa.heap.size,0,none⟩) hwB).trans x0;go_simp
                     clear f0;refine hK.out _ _ ⟨(hb5.cell (p:=⟨w.heap.size,1,none⟩) hw1).trans s1,(hb5.cell (p:=⟨w.heap.size,2,none⟩) hw1).trans s2⟩ (fun hzz=>?_)
                     clear hzz hK K;try simp only[Act.put,List.setIfInBounds_toArray,List.set_cons_zero,List.set_cons_succ]
                     generalize Value.slice (some (Addr.mk g4 0 none)) _ cp4=v179;clear hoz HC4;try clear hbn
                     try clear hbz
                     clear hg4 hg4' hcp4 hcp4';revert ho5 hb5
                     revert w5 v5 v179 v176
                     exact rest.out
                   · have f0:wn.cell? ⟨wa.heap.size,0,none⟩=some (.string L[y].path):=(hbn.cell (p:=⟨wa.heap.size,0,none⟩) hwB).trans x0
                     go_simp
                     clear f0;refine hK.out _ _ ⟨(hbn.cell (p:=⟨w.heap.size,1,none⟩) hw1).trans s1,(hbn.cell (p:=⟨w.heap.size,2,none⟩) hw1).trans s2⟩ (fun hzz=>?_)
                     clear hzz hK K;try simp only[Act.put,List.setIfInBounds_toArray,List.set_cons_zero,List.set_cons_succ]
                     refine wpAnyH_ready (rs:=[4]) (by kernel_rfl) (by simp) ?_
                     refine AllReadyH.cons (o:=⟨some 180,Op.call ⟨Callee.builtin Builtin.append,#[Operand.tmp 176,Operand.tmp 179],#[125,125]⟩,125,_,_,none⟩) rfl (fun K hK=>?_) AllReadyH.nil
                     refine step_append_own rfl (.tmp 176) (.tmp 179) 125 rfl ws.heap.size 9 i1 (.string ⟨#[]⟩) 1 16 Tryz.underlying125 hj0 hy0 hy1 hy2 rfl (by decide) _ _ _ rfl hoz ⟨g4,0,none⟩ (Pp.nm q.data.toList).length cp4 (Pp.vs (Pp.nm q.data.toList)) rfl (by simp[Pp.vs]) (Pp.vs_cells (L:=Pp.nm q.data.toList) HC4.out 0) (Pp.vs_one _) (by unfold maxLen;omega) (by omega) hbn.size ?_
                     intro v5 w5 ho5 hgr5 hnn5;have hb5:Below ws.heap.size ws w5:=hbn.grown hgr5 hbn.size (fun k hk=>(hoz.lt k hk).1);rw[Nat.zero_add,List.nil_append]at ho5;clear hgr5 hnn5;refine hK.out _ _ ⟨(hb5.cell (p:=⟨w.heap.size,1,none⟩) hw1).trans s1,(hb5.cell (p:=⟨w.heap.size,2,none⟩) hw1).trans s2⟩ (fun hzz=>?_)
                     clear hzz hK K;try simp only[Act.put,List.setIfInBounds_toArray,List.set_cons_zero,List.set_cons_succ]
                     generalize Value.slice (some (Addr.mk g4 0 none)) _ cp4=v179;clear hoz HC4;try clear hbn
                     try clear hbz
                     clear hg4 hg4' hcp4 hcp4';revert ho5 hb5
                     revert w5 v5 v179 v176
                     exact rest.out
                 · have f0:wz.cell? ⟨wa.heap.size,0,none⟩=some (.string L[y].path):=(hbz.cell (p:=⟨wa.heap.size,0,none⟩) hwB).trans x0
                   go_simp
                   clear f0;refine hK.out _ _ ⟨(hbz.cell (p:=⟨w.heap.size,1,none⟩) hw1).trans s1,(hbz.cell (p:=⟨w.heap.size,2,none⟩) hw1).trans s2⟩ (fun hzz=>?_)
                   clear hzz hK K;try simp only[Act.put,List.setIfInBounds_toArray,List.set_cons_zero,List.set_cons_succ]
                   refine wpAnyH_ready (rs:=[3]) (by kernel_rfl) (by simp) ?_
                   refine AllReadyH.cons (o:=⟨some 179,Op.call ⟨Callee.value (Operand.func 98),#[Operand.tmp 178],#[9]⟩,125,_,_,none⟩) rfl (fun K hK=>?_) AllReadyH.nil
                   go_simp
                   refine(rNames_at q _ (by omega)).mono ?_
                   rintro e wn ⟨g4,cp4,rfl,hcp4,hcp4',hg4,hg4',hcell4,hbc4⟩;go_wp2_with fail;have hbn:Below ws.heap.size ws wn:=hbz.trans (hbc4.mono hbz.size);have HC4:=hid hcell4;clear hcell4;have hoz2:=Pp.own_below hoz hbc4;clear hoz;have hoz:=hoz2;clear hoz2;clear hbc4;refine hK.out _ _ ⟨(hbn.cell (p:=⟨w.heap.size,1,none⟩) hw1).trans s1,(hbn.cell (p:=⟨w.heap.size,2,none⟩) hw1).trans s2⟩ (fun hzz=>?_)
                   clear hzz hK K;try simp only[Act.put,List.setIfInBounds_toArray,List.set_cons_zero,List.set_cons_succ]
                   refine wpAnyH_ready (rs:=[4]) (by kernel_rfl) (by simp) ?_
                   refine AllReadyH.cons (o:=⟨some 180,Op.call ⟨Callee.builtin Builtin.append,#[Operand.tmp 176,Operand.tmp 179],#[125,125]⟩,125,_,_,none⟩) rfl (fun K hK=>?_) AllReadyH.nil
                   refine step_append_own rfl (.tmp 176) (.tmp 179) 125 rfl ws.heap.size 9 i1 (.string ⟨#[]⟩) 1 16 Tryz.underlying125 hj0 hy0 hy1 hy2 rfl (by decide) _ _ _ rfl hoz ⟨g4,0,none⟩ (Pp.nm q.data.toList).length cp4 (Pp.vs (Pp.nm q.data.toList)) rfl (by simp[Pp.vs]) (Pp.vs_cells (L:=Pp.nm q.data.toList) HC4.out 0) (Pp.vs_one _) (by unfold maxLen;omega) (by omega) hbn.size ?_
                   intro v5 w5 ho5 hgr5 hnn5;have hb5:Below ws.heap.size ws w5:=hbn.grown hgr5 hbn.size (fun k hk=>(hoz.lt k hk).1);rw[Nat.zero_add,List.nil_append]at ho5;clear hgr5 hnn5;refine hK.out _ _ ⟨(hb5.cell (p:=⟨w.heap.size,1,none⟩) hw1).trans s1,(hb5.cell (p:=⟨w.heap.size,2,none⟩) hw1).trans s2⟩ (fun hzz=>?_)
                   clear hzz hK K;try simp only[Act.put,List.setIfInBounds_toArray,List.set_cons_zero,List.set_cons_succ]
                   generalize Value.slice (some (Addr.mk g4 0 none)) _ cp4=v179;clear hoz HC4;try clear hbn
                   try clear hbz
                   clear hg4 hg4' hcp4 hcp4';revert ho5 hb5
                   revert w5 v5 v179 v176
                   exact rest.out
               · go_simp
                 refine(rNames_at q _ (by omega)).mono ?_
                 rintro e wn ⟨g4,cp4,rfl,hcp4,hcp4',hg4,hg4',hcell4,hbc4⟩;go_wp2_with fail;have hbn:Below ws.heap.size ws wn:=hbd.trans (hbc4.mono hbd.size);have HC4:=hid hcell4;clear hcell4;clear hbc4;refine hK.out _ _ ⟨(hbn.cell (p:=⟨w.heap.size,1,none⟩) hw1).trans s1,(hbn.cell (p:=⟨w.heap.size,2,none⟩) hw1).trans s2⟩ (fun hzz=>?_)
                 clear hzz hK K;try simp only[Act.put,List.setIfInBounds_toArray,List.set_cons_zero,List.set_cons_succ]
                 refine wpAnyH_ready (rs:=[0,6]) (by kernel_rfl) (by simp) ?_
                 refine AllReadyH.cons (o:=⟨some 176,Op.buildSlice 125 0 #[],125,_,_,none⟩) rfl (fun K hK=>?_) (AllReadyH.cons (o:=⟨some 182,Op.load 9 (Operand.tmp 181),9,_,_,none⟩) rfl (fun K hK=>?_) AllReadyH.nil)
                 · go_simp
                   generalize hwz:World.alloc wn (.cells #[] 9)=wz;have hbz:Below ws.heap.size ws wz:=hwz▸hbn.alloc hbn.size _;have hoz:wz.ownsRow ws.heap.size 9 1 (.slice (some ⟨wn.heap.size,0,none⟩) 0 0) 0 []:=hwz▸Pp.own_mono (World.ownsRow_made wn #[] 0 (Nat.le_refl _) (by decide) rfl) hbn.size;have hwzb:Below wn.heap.size wn wz:=hwz▸(Below.refl _ _).alloc (Nat.le_refl _) _;have hc4: ∀i (h:i<(Pp.nm q.data.toList).length),wz.cell? ⟨g4,i,none⟩=some (.string ⟨((Pp.nm q.data.toList)[i]).toArray⟩):=fun i h=>(hwzb.cell (p:=⟨g4,i,none⟩) hg4').trans (HC4.out i h)
                   clear HC4;have HC4:=hid hc4;clear hwzb hc4;clear hwz;generalize Value.slice (some (Addr.mk _ 0 none)) 0 0=v176 at hoz⊢;refine hK.out _ _ ⟨(hbz.cell (p:=⟨w.heap.size,1,none⟩) hw1).trans s1,(hbz.cell (p:=⟨w.heap.size,2,none⟩) hw1).trans s2⟩ (fun hzz=>?_)
                   clear hzz hK K;try simp only[Act.put,List.setIfInBounds_toArray,List.set_cons_zero,List.set_cons_succ]
                   refine wpAnyH_ready (rs:=[4,6]) (by kernel_rfl) (by simp) ?_
                   refine AllReadyH.cons (o:=⟨some 180,Op.call ⟨Callee.builtin Builtin.append,#[Operand.tmp 176,Operand.tmp 179],#[125,125]⟩,125,_,_,none⟩) rfl (fun K hK=>?_) (AllReadyH.cons (o:=⟨some 182,Op.load 9 (Operand.tmp 181),9,_,_,none⟩) rfl (fun K hK=>?_) AllReadyH.nil)
                   · refine step_append_own rfl (.tmp 176) (.tmp 179) 125 rfl ws.heap.size 9 i1 (.string ⟨#[]⟩) 1 16 Tryz.underlying125 hj0 hy0 hy1 hy2 rfl (by decide) _ _ _ rfl hoz ⟨g4,0,none⟩ (Pp.nm q.data.toList).length cp4 (Pp.vs (Pp.nm q.data.toList)) rfl (by simp[Pp.vs]) (Pp.vs_cells (L:=Pp.nm q.data.toList) HC4.out 0) (Pp.vs_one _) (by unfold maxLen;omega) (by omega) hbz.size ?_
                     intro v5 w5 ho5 hgr5 hnn5;have hb5:Below ws.heap.size ws w5:=hbz.grown hgr5 hbz.size (fun k hk=>(hoz.lt k hk).1);rw[Nat.zero_add,List.nil_append]at ho5;clear hgr5 hnn5;refine hK.out _ _ ⟨(hb5.cell (p:=⟨w.heap.size,1,none⟩) hw1).trans s1,(hb5.cell (p:=⟨w.heap.size,2,none⟩) hw1).trans s2⟩ (fun hzz=>?_)
                     clear hzz hK K;try simp only[Act.put,List.setIfInBounds_toArray,List.set_cons_zero,List.set_cons_succ]
                     refine wpAnyH_ready (rs:=[6]) (by kernel_rfl) (by simp) ?_
                     refine AllReadyH.cons (o:=⟨some 182,Op.load 9 (Operand.tmp 181),9,_,_,none⟩) rfl (fun K hK=>?_) AllReadyH.nil
                     have f0:w5.cell? ⟨wa.heap.size,0,none⟩=some (.string L[y].path):=(hb5.cell (p:=⟨wa.heap.size,0,none⟩) hwB).trans x0;go_simp
                     clear f0;refine hK.out _ _ ⟨(hb5.cell (p:=⟨w.heap.size,1,none⟩) hw1).trans s1,(hb5.cell (p:=⟨w.heap.size,2,none⟩) hw1).trans s2⟩ (fun hzz=>?_)
                     clear hzz hK K;try simp only[Act.put,List.setIfInBounds_toArray,List.set_cons_zero,List.set_cons_succ]
                     generalize Value.slice (some (Addr.mk g4 0 none)) _ cp4=v179;clear hoz HC4;try clear hbn
                     try clear hbz
                     clear hg4 hg4' hcp4 hcp4';revert ho5 hb5
                     revert w5 v5 v179 v176
                     exact rest.out
                   · have f0:wz.cell? ⟨wa.heap.size,0,none⟩=some (.string L[y].path):=(hbz.cell (p:=⟨wa.heap.size,0,none⟩) hwB).trans x0
                     go_simp
                     clear f0;refine hK.out _ _ ⟨(hbz.cell (p:=⟨w.heap.size,1,none⟩) hw1).trans s1,(hbz.cell (p:=⟨w.heap.size,2,none⟩) hw1).trans s2⟩ (fun hzz=>?_)
                     clear hzz hK K;try simp only[Act.put,List.setIfInBounds_toArray,List.set_cons_zero,List.set_cons_succ]
                     refine wpAnyH_ready (rs:=[4]) (by kernel_rfl) (by simp) ?_
                     refine AllReadyH.cons (o:=⟨some 180,Op.call ⟨Callee.builtin Builtin.append,#[Operand.tmp 176,Operand.tmp 179],#[125,125]⟩,125,_,_,none⟩) rfl (fun K hK=>?_) AllReadyH.nil
                     refine step_append_own rfl (.tmp 176) (.tmp 179) 125 rfl ws.heap.size 9 i1 (.string ⟨#[]⟩) 1 16 Tryz.underlying125 hj0 hy0 hy1 hy2 rfl (by decide) _ _ _ rfl hoz ⟨g4,0,none⟩ (Pp.nm q.data.toList).length cp4 (Pp.vs (Pp.nm q.data.toList)) rfl (by simp[Pp.vs]) (Pp.vs_cells (L:=Pp.nm q.data.toList) HC4.out 0) (Pp.vs_one _) (by unfold maxLen;omega) (by omega) hbz.size ?_
                     intro v5 w5 ho5 hgr5 hnn5;have hb5:Below ws.heap.size ws w5:=hbz.grown hgr5 hbz.size (fun k hk=>(hoz.lt k hk).1);rw[Nat.zero_add,List.nil_append]at ho5;clear hgr5 hnn5;refine hK.out _ _ ⟨(hb5.cell (p:=⟨w.heap.size,1,none⟩) hw1).trans s1,(hb5.cell (p:=⟨w.heap.size,2,none⟩) hw1).trans s2⟩ (fun hzz=>?_)
                     clear hzz hK K;try simp only[Act.put,List.setIfInBounds_toArray,List.set_cons_zero,List.set_cons_succ]
                     generalize Value.slice (some (Addr.mk g4 0 none)) _ cp4=v179;clear hoz HC4;try clear hbn
                     try clear hbz
                     clear hg4 hg4' hcp4 hcp4';revert ho5 hb5
                     revert w5 v5 v179 v176
                     exact rest.out
                 · have f0:wn.cell? ⟨wa.heap.size,0,none⟩=some (.string L[y].path):=(hbn.cell (p:=⟨wa.heap.size,0,none⟩) hwB).trans x0
                   go_simp
                   clear f0;refine hK.out _ _ ⟨(hbn.cell (p:=⟨w.heap.size,1,none⟩) hw1).trans s1,(hbn.cell (p:=⟨w.heap.size,2,none⟩) hw1).trans s2⟩ (fun hzz=>?_)
                   clear hzz hK K;try simp only[Act.put,List.setIfInBounds_toArray,List.set_cons_zero,List.set_cons_succ]
                   refine wpAnyH_ready (rs:=[0]) (by kernel_rfl) (by simp) ?_
                   refine AllReadyH.cons (o:=⟨some 176,Op.buildSlice 125 0 #[],125,_,_,none⟩) rfl (fun K hK=>?_) AllReadyH.nil
                   go_simp
                   generalize hwz:World.alloc wn (.cells #[] 9)=wz;have hbz:Below ws.heap.size ws wz:=hwz▸hbn.alloc hbn.size _;have hoz:wz.ownsRow ws.heap.size 9 1 (.slice (some ⟨wn.heap.size,0,none⟩) 0 0) 0 []:=hwz▸Pp.own_mono (World.ownsRow_made wn #[] 0 (Nat.le_refl _) (by decide) rfl) hbn.size;have hwzb:Below wn.heap.size wn wz:=hwz▸(Below.refl _ _).alloc (Nat.le_refl _) _;have hc4: ∀i (h:i<(Pp.nm q.data.toList).length),wz.cell? ⟨g4,i,none⟩=some (.string ⟨((Pp.nm q.data.toList)[i]).toArray⟩):=fun i h=>(hwzb.cell (p:=⟨g4,i,none⟩) hg4').trans (HC4.out i h)
                   clear HC4;have HC4:=hid hc4;clear hwzb hc4;clear hwz;generalize Value.slice (some (Addr.mk _ 0 none)) 0 0=v176 at hoz⊢;refine hK.out _ _ ⟨(hbz.cell (p:=⟨w.heap.size,1,none⟩) hw1).trans s1,(hbz.cell (p:=⟨w.heap.size,2,none⟩) hw1).trans s2⟩ (fun hzz=>?_)
                   clear hzz hK K;try simp only[Act.put,List.setIfInBounds_toArray,List.set_cons_zero,List.set_cons_succ]
                   refine wpAnyH_ready (rs:=[4]) (by kernel_rfl) (by simp) ?_
                   refine AllReadyH.cons (o:=⟨some 180,Op.call ⟨Callee.builtin Builtin.append,#[Operand.tmp 176,Operand.tmp 179],#[125,125]⟩,125,_,_,none⟩) rfl (fun K hK=>?_) AllReadyH.nil
                   refine step_append_own rfl (.tmp 176) (.tmp 179) 125 rfl ws.heap.size 9 i1 (.string ⟨#[]⟩) 1 16 Tryz.underlying125 hj0 hy0 hy1 hy2 rfl (by decide) _ _ _ rfl hoz ⟨g4,0,none⟩ (Pp.nm q.data.toList).length cp4 (Pp.vs (Pp.nm q.data.toList)) rfl (by simp[Pp.vs]) (Pp.vs_cells (L:=Pp.nm q.data.toList) HC4.out 0) (Pp.vs_one _) (by unfold maxLen;omega) (by omega) hbz.size ?_
                   intro v5 w5 ho5 hgr5 hnn5;have hb5:Below ws.heap.size ws w5:=hbz.grown hgr5 hbz.size (fun k hk=>(hoz.lt k hk).1);rw[Nat.zero_add,List.nil_append]at ho5;clear hgr5 hnn5;refine hK.out _ _ ⟨(hb5.cell (p:=⟨w.heap.size,1,none⟩) hw1).trans s1,(hb5.cell (p:=⟨w.heap.size,2,none⟩) hw1).trans s2⟩ (fun hzz=>?_)
                   clear hzz hK K;try simp only[Act.put,List.setIfInBounds_toArray,List.set_cons_zero,List.set_cons_succ]
                   generalize Value.slice (some (Addr.mk g4 0 none)) _ cp4=v179;clear hoz HC4;try clear hbn
                   try clear hbz
                   clear hg4 hg4' hcp4 hcp4';revert ho5 hb5
                   revert w5 v5 v179 v176
                   exact rest.out
               · have f0:ws.drew.cell? ⟨wa.heap.size,0,none⟩=some (.string L[y].path):=(hbd.cell (p:=⟨wa.heap.size,0,none⟩) hwB).trans x0
                 go_simp
                 clear f0;refine hK.out _ _ ⟨(hbd.cell (p:=⟨w.heap.size,1,none⟩) hw1).trans s1,(hbd.cell (p:=⟨w.heap.size,2,none⟩) hw1).trans s2⟩ (fun hzz=>?_)
                 clear hzz hK K;try simp only[Act.put,List.setIfInBounds_toArray,List.set_cons_zero,List.set_cons_succ]
                 refine wpAnyH_ready (rs:=[0,3]) (by kernel_rfl) (by simp) ?_
                 refine AllReadyH.cons (o:=⟨some 176,Op.buildSlice 125 0 #[],125,_,_,none⟩) rfl (fun K hK=>?_) (AllReadyH.cons (o:=⟨some 179,Op.call ⟨Callee.value (Operand.func 98),#[Operand.tmp 178],#[9]⟩,125,_,_,none⟩) rfl (fun K hK=>?_) AllReadyH.nil)
                 · go_simp
                   generalize hwz:(World.alloc ws (.cells #[] 9)).drew=wz;have hbz:Below ws.heap.size ws wz:=hwz▸((Below.refl _ _).alloc (Nat.le_refl _) _).drew;have hoz:wz.ownsRow ws.heap.size 9 1 (.slice (some ⟨ws.heap.size,0,none⟩) 0 0) 0 []:=hwz▸(World.ownsRow_made ws #[] 0 (Nat.le_refl _) (by decide) rfl).drew;clear hwz;generalize Value.slice (some (Addr.mk _ 0 none)) 0 0=v176 at hoz⊢;refine hK.out _ _ ⟨(hbz.cell (p:=⟨w.heap.size,1,none⟩) hw1).trans s1,(hbz.cell (p:=⟨w.heap.size,2,none⟩) hw1).trans s2⟩ (fun hzz=>?_)
                   clear hzz hK K;try simp only[Act.put,List.setIfInBounds_toArray,List.set_cons_zero,List.set_cons_succ]
                   refine wpAnyH_ready (rs:=[3]) (by kernel_rfl) (by simp) ?_
                   refine AllReadyH.cons (o:=⟨some 179,Op.call ⟨Callee.value (Operand.func 98),#[Operand.tmp 178],#[9]⟩,125,_,_,none⟩) rfl (fun K hK=>?_) AllReadyH.nil
                   go_simp
                   refine(rNames_at q _ (by omega)).mono ?_
                   rintro e wn ⟨g4,cp4,rfl,hcp4,hcp4',hg4,hg4',hcell4,hbc4⟩;go_wp2_with fail;have hbn:Below ws.heap.size ws wn:=hbz.trans (hbc4.mono hbz.size);have HC4:=hid hcell4;clear hcell4;have hoz2:=Pp.own_below hoz hbc4;clear hoz;have hoz:=hoz2;clear hoz2;clear hbc4;refine hK.out _ _ ⟨(hbn.cell (p:=⟨w.heap.size,1,none⟩) hw1).trans s1,(hbn.cell (p:=⟨w.heap.size,2,none⟩) hw1).trans s2⟩ (fun hzz=>?_)
                   clear hzz hK K;try simp only[Act.put,List.setIfInBounds_toArray,List.set_cons_zero,List.set_cons_succ]
                   refine wpAnyH_ready (rs:=[4]) (by kernel_rfl) (by simp) ?_
                   refine AllReadyH.cons (o:=⟨some 180,Op.call ⟨Callee.builtin Builtin.append,#[Operand.tmp 176,Operand.tmp 179],#[125,125]⟩,125,_,_,none⟩) rfl (fun K hK=>?_) AllReadyH.nil
                   refine step_append_own rfl (.tmp 176) (.tmp 179) 125 rfl ws.heap.size 9 i1 (.string ⟨#[]⟩) 1 16 Tryz.underlying125 hj0 hy0 hy1 hy2 rfl (by decide) _ _ _ rfl hoz ⟨g4,0,none⟩ (Pp.nm q.data.toList).length cp4 (Pp.vs (Pp.nm q.data.toList)) rfl (by simp[Pp.vs]) (Pp.vs_cells (L:=Pp.nm q.data.toList) HC4.out 0) (Pp.vs_one _) (by unfold maxLen;omega) (by omega) hbn.size ?_
                   intro v5 w5 ho5 hgr5 hnn5;have hb5:Below ws.heap.size ws w5:=hbn.grown hgr5 hbn.size (fun k hk=>(hoz.lt k hk).1);rw[Nat.zero_add,List.nil_append]at ho5;clear hgr5 hnn5;refine hK.out _ _ ⟨(hb5.cell (p:=⟨w.heap.size,1,none⟩) hw1).trans s1,(hb5.cell (p:=⟨w.heap.size,2,none⟩) hw1).trans s2⟩ (fun hzz=>?_)
                   clear hzz hK K;try simp only[Act.put,List.setIfInBounds_toArray,List.set_cons_zero,List.set_cons_succ]
                   generalize Value.slice (some (Addr.mk g4 0 none)) _ cp4=v179;clear hoz HC4;try clear hbn
                   try clear hbz
                   clear hg4 hg4' hcp4 hcp4';revert ho5 hb5
                   revert w5 v5 v179 v176
                   exact rest.out
                 · go_simp
                   refine(rNames_at q _ (by omega)).mono ?_
                   rintro e wn ⟨g4,cp4,rfl,hcp4,hcp4',hg4,hg4',hcell4,hbc4⟩;go_wp2_with fail;have hbn:Below ws.heap.size ws wn:=hbd.trans (hbc4.mono hbd.size);have HC4:=hid hcell4;clear hcell4;clear hbc4;refine hK.out _ _ ⟨(hbn.cell (p:=⟨w.heap.size,1,none⟩) hw1).trans s1,(hbn.cell (p:=⟨w.heap.size,2,none⟩) hw1).trans s2⟩ (fun hzz=>?_)
                   clear hzz hK K;try simp only[Act.put,List.setIfInBounds_toArray,List.set_cons_zero,List.set_cons_succ]
                   refine wpAnyH_ready (rs:=[0]) (by kernel_rfl) (by simp) ?_
                   refine AllReadyH.cons (o:=⟨some 176,Op.buildSlice 125 0 #[],125,_,_,none⟩) rfl (fun K hK=>?_) AllReadyH.nil
                   go_simp
                   generalize hwz:World.alloc wn (.cells #[] 9)=wz;have hbz:Below ws.heap.size ws wz:=hwz▸hbn.alloc hbn.size _;have hoz:wz.ownsRow ws.heap.size 9 1 (.slice (some ⟨wn.heap.size,0,none⟩) 0 0) 0 []:=hwz▸Pp.own_mono (World.ownsRow_made wn #[] 0 (Nat.le_refl _) (by decide) rfl) hbn.size;have hwzb:Below wn.heap.size wn wz:=hwz▸(Below.refl _ _).alloc (Nat.le_refl _) _;have hc4: ∀i (h:i<(Pp.nm q.data.toList).length),wz.cell? ⟨g4,i,none⟩=some (.string ⟨((Pp.nm q.data.toList)[i]).toArray⟩):=fun i h=>(hwzb.cell (p:=⟨g4,i,none⟩) hg4').trans (HC4.out i h)
                   clear HC4;have HC4:=hid hc4;clear hwzb hc4;clear hwz;generalize Value.slice (some (Addr.mk _ 0 none)) 0 0=v176 at hoz⊢;refine hK.out _ _ ⟨(hbz.cell (p:=⟨w.heap.size,1,none⟩) hw1).trans s1,(hbz.cell (p:=⟨w.heap.size,2,none⟩) hw1).trans s2⟩ (fun hzz=>?_)
                   clear hzz hK K;try simp only[Act.put,List.setIfInBounds_toArray,List.set_cons_zero,List.set_cons_succ]
                   refine wpAnyH_ready (rs:=[4]) (by kernel_rfl) (by simp) ?_
                   refine AllReadyH.cons (o:=⟨some 180,Op.call ⟨Callee.builtin Builtin.append,#[Operand.tmp 176,Operand.tmp 179],#[125,125]⟩,125,_,_,none⟩) rfl (fun K hK=>?_) AllReadyH.nil
                   refine step_append_own rfl (.tmp 176) (.tmp 179) 125 rfl ws.heap.size 9 i1 (.string ⟨#[]⟩) 1 16 Tryz.underlying125 hj0 hy0 hy1 hy2 rfl (by decide) _ _ _ rfl hoz ⟨g4,0,none⟩ (Pp.nm q.data.toList).length cp4 (Pp.vs (Pp.nm q.data.toList)) rfl (by simp[Pp.vs]) (Pp.vs_cells (L:=Pp.nm q.data.toList) HC4.out 0) (Pp.vs_one _) (by unfold maxLen;omega) (by omega) hbz.size ?_
                   intro v5 w5 ho5 hgr5 hnn5;have hb5:Below ws.heap.size ws w5:=hbz.grown hgr5 hbz.size (fun k hk=>(hoz.lt k hk).1);rw[Nat.zero_add,List.nil_append]at ho5;clear hgr5 hnn5;refine hK.out _ _ ⟨(hb5.cell (p:=⟨w.heap.size,1,none⟩) hw1).trans s1,(hb5.cell (p:=⟨w.heap.size,2,none⟩) hw1).trans s2⟩ (fun hzz=>?_)
                   clear hzz hK K;try simp only[Act.put,List.setIfInBounds_toArray,List.set_cons_zero,List.set_cons_succ]
                   generalize Value.slice (some (Addr.mk g4 0 none)) _ cp4=v179;clear hoz HC4;try clear hbn
                   try clear hbz
                   clear hg4 hg4' hcp4 hcp4';revert ho5 hb5
                   revert w5 v5 v179 v176
                   exact rest.out
             intro v176 v5 w5 v179 ho5 hb5;have HO5:=hid ho5;clear ho5;refine wpAnyH_ready (rs:=[7]) (by kernel_rfl) (by simp) ?_
             refine AllReadyH.cons (o:=⟨some 183,Op.call ⟨Callee.value (Operand.func 98),#[Operand.tmp 182],#[9]⟩,125,_,_,none⟩) rfl (fun K hK=>?_) AllReadyH.nil
             go_simp
             refine(rNames_at (L[y]).path _ (by omega)).mono ?_
             rintro e w7 ⟨g6,c6,rfl,hc6,hc6',hg6,hg6',hcell6,hb7⟩;go_wp2_with fail;have HO7:=hid (Pp.own_below HO5.out hb7);have hbs7:Below ws.heap.size ws w7:=hb5.trans (hb7.mono hb5.size);have HC7:=hid hcell6;clear hcell6 hb7 HO5;refine hK.out _ _ ⟨(hbs7.cell (p:=⟨w.heap.size,1,none⟩) hw1).trans s1,(hbs7.cell (p:=⟨w.heap.size,2,none⟩) hw1).trans s2⟩ (fun hzz=>?_)
             clear hzz hK K;try simp only[Act.put,List.setIfInBounds_toArray,List.set_cons_zero,List.set_cons_succ]
             refine wpAnyH_ready (rs:=[10]) (by kernel_rfl) (by simp) ?_
             refine AllReadyH.cons (o:=⟨some 186,Op.call ⟨Callee.value (Operand.func 98),#[Operand.tmp 185],#[9]⟩,125,_,_,none⟩) rfl (fun K hK=>?_) AllReadyH.nil
             go_simp
             refine(rNames_at p _ (by omega)).mono ?_
             rintro e w8 ⟨g7,c7,rfl,hc7,hc7',hg7,hg7',hcell7,hb8⟩;go_wp2_with fail;have HO8:=hid (Pp.own_below HO7.out hb8);have hbs8:Below ws.heap.size ws w8:=hbs7.trans (hb8.mono hbs7.size);have HC8:=hid (show∀i (h:i<(Pp.nm (L[y]).path.data.toList).length),w8.cell? ⟨g6,i,none⟩=some (.string ⟨((Pp.nm (L[y]).path.data.toList)[i]).toArray⟩)from fun i h=>(hb8.cell (p:=⟨g6,i,none⟩) hg6').trans (HC7.out i h));clear hcell7 hb8 HO7 HC7 hbs7;refine hK.out _ _ ⟨(hbs8.cell (p:=⟨w.heap.size,1,none⟩) hw1).trans s1,(hbs8.cell (p:=⟨w.heap.size,2,none⟩) hw1).trans s2⟩ (fun hHeld=>?_)
             clear hK K;try simp only[Act.put,List.setIfInBounds_toArray,List.set_cons_zero,List.set_cons_succ]
             refine wpAnyH_take (i:=11) (oi:=⟨some 187,Op.call ⟨Callee.builtin Builtin.len,#[Operand.tmp 186],#[125]⟩,3,_,_,none⟩) (v:=?_) rfl (by kernel_rfl) (by kernel_rfl) (by kernel_rfl) (fun _ _ _ h=>h) (Or.inl ⟨by rfl,?_⟩) hHeld ?_
             rotate_left
             · (intro W hSw;obtain⟨t1,t2⟩:=hSw;go_simp<;>with_reducible rfl)
             try simp only[Act.put,List.setIfInBounds_toArray,List.set_cons_zero,List.set_cons_succ]
             have hle:((Pp.nm p.data.toList).length:Int)≤(Pp.nm (L[y]).path.data.toList).length:=by omega
             have hlc:((Pp.nm (L[y]).path.data.toList).length:Int)≤c6:=by omega
             by_cases hcc:c6=(Pp.nm p.data.toList).length
             all_goals
              refine wpAnyH_take (i:=12) (oi:=⟨some 188,Op.slice 125 (Operand.tmp 183) (some (Operand.tmp 187)) none none,125,_,_,none⟩) (v:=?_) rfl (by kernel_rfl) (by kernel_rfl) (by kernel_rfl) (fun _ _ _ h=>h) (Or.inl ⟨by rfl,?_⟩) hHeld ?_
              rotate_left
              · (intro W hSw;obtain⟨t1,t2⟩:=hSw;go_simp<;>with_reducible rfl)
              try simp only[Act.put,List.setIfInBounds_toArray,List.set_cons_zero,List.set_cons_succ]
              refine wpAnyH_ready (rs:=[13]) (by kernel_rfl) (by simp) ?_
              refine AllReadyH.cons (o:=⟨some 189,Op.call ⟨Callee.builtin Builtin.append,#[Operand.tmp 180,Operand.tmp 188],#[125,125]⟩,125,_,_,none⟩) rfl (fun K hK=>?_) AllReadyH.nil
              first
               |refine step_append_own rfl (.tmp 180) (.tmp 188) 125 rfl ws.heap.size 9 i1 (.string ⟨#[]⟩) 1 16 Tryz.underlying125 hj0 hy0 hy1 hy2 rfl (by decide) _ _ _ rfl HO8.out ⟨g6,0,none⟩ _ _ (Pp.vs ((Pp.nm (L[y]).path.data.toList).drop (Pp.nm p.data.toList).length)) rfl (by simp[Pp.vs]) (by intro j u hj;rw[List.drop_of_length_le (by omega)]at hj;simp[Pp.vs]at hj) (Pp.vs_one _) (by unfold maxLen;omega) (by omega) hbs8.size ?_
               |refine step_append_own rfl (.tmp 180) (.tmp 188) 125 rfl ws.heap.size 9 i1 (.string ⟨#[]⟩) 1 16 Tryz.underlying125 hj0 hy0 hy1 hy2 rfl (by decide) _ _ _ rfl HO8.out ⟨g6,(Pp.nm p.data.toList).length,none⟩ _ _ (Pp.vs ((Pp.nm (L[y]).path.data.toList).drop (Pp.nm p.data.toList).length)) rfl (by simp[Pp.vs]) (Pp.vs_cells HC8.out _) (Pp.vs_one _) (by unfold maxLen;omega) (by omega) hbs8.size ?_
              intro v9 w9 ho9 hgr9 hnn9;have hbs9:Below ws.heap.size ws w9:=hbs8.grown hgr9 hbs8.size (fun k hk=>(HO8.out.lt k hk).1);rw[Pp.vs_app]at ho9
              have ho10:w9.ownsRow ws.heap.size 9 1 v9 (Pp.nm q.data.toList++(Pp.nm (L[y]).path.data.toList).drop (Pp.nm p.data.toList).length).length (Pp.vs (Pp.nm q.data.toList++(Pp.nm (L[y]).path.data.toList).drop (Pp.nm p.data.toList).length)):=by
               rw[List.length_append,List.length_drop];exact ho9
              obtain⟨g8,c8,rfl,hg8,hg8',hcell9⟩:=Pp.own_at ho10 (by intro e;exact Pp.nm_ne _ (List.append_eq_nil_iff.1 e).1)
              have HC9:=hid hcell9;clear hcell9 ho10 ho9 hgr9 hnn9 HO8 HC8;refine hK.out _ _ ⟨(hbs9.cell (p:=⟨w.heap.size,1,none⟩) hw1).trans s1,(hbs9.cell (p:=⟨w.heap.size,2,none⟩) hw1).trans s2⟩ (fun hzz=>?_)
              clear hzz hK K;try simp only[Act.put,List.setIfInBounds_toArray,List.set_cons_zero,List.set_cons_succ]
              refine wpAnyH_ready (rs:=[14]) (by kernel_rfl) (by simp) ?_
              refine AllReadyH.cons (o:=⟨some 190,Op.call ⟨Callee.value (Operand.func 97),#[Operand.tmp 189],#[125]⟩,9,_,_,none⟩) rfl (fun K hK=>?_) AllReadyH.nil
              go_simp
              refine(pathOf_n (Pp.nm q.data.toList++(Pp.nm (L[y]).path.data.toList).drop (Pp.nm p.data.toList).length) _ g8 0 c8 _ (by rw[List.length_append,List.length_drop]) (by rw[HJ.out];omega) (by rw[List.length_append,List.length_drop];omega) (fun i h=>by rw[Nat.zero_add];exact HC9.out i h)).mono ?_
              rintro e w10 ⟨rfl,rfl⟩;rw[HJ.out];clear HC9;go_wp2_with fail;refine hK.out _ _ ⟨(hbs9.cell (p:=⟨w.heap.size,1,none⟩) hw1).trans s1,(hbs9.cell (p:=⟨w.heap.size,2,none⟩) hw1).trans s2⟩ (fun hHeld=>?_)
              clear hK K;try simp only[Act.put,List.setIfInBounds_toArray,List.set_cons_zero,List.set_cons_succ]
              refine wpAnyH_take (i:=15) (oi:=⟨some 191,Op.fieldAddr 72 (Operand.tmp 15) 0,0,_,_,none⟩) (v:=?_) rfl (by kernel_rfl) (by kernel_rfl) (by kernel_rfl) (fun _ _ _ h=>h) (Or.inl ⟨by rfl,?_⟩) hHeld ?_
              rotate_left
              · (intro W hSw;obtain⟨t1,t2⟩:=hSw;go_simp<;>with_reducible rfl)
              try simp only[Act.put,List.setIfInBounds_toArray,List.set_cons_zero,List.set_cons_succ]
              refine wpAnyH_ready (rs:=[16]) (by kernel_rfl) (by simp) ?_
              refine AllReadyH.cons (o:=⟨none,Op.store 9 (Operand.tmp 191) (Operand.tmp 190),0,_,_,none⟩) rfl (fun K hK=>?_) AllReadyH.nil
              have z0:=(hbs9.cell (p:=⟨wa.heap.size,0,none⟩) hwB).trans x0;have z9:=(hbs9.frozen (p:=⟨wa.heap.size,0,none⟩) hwB).trans hfr;go_simp
              generalize hwt:World.setCell w10 _ _=wt;have hbt:Below wa.heap.size wa wt:=hwt▸(hbs.trans (hbs9.mono (Nat.le_of_lt hwB))).setCell (Nat.le_refl _) _;have y0:wt.cell? ⟨wa.heap.size,0,none⟩=some (.string ⟨(Pp.mvP C L[y]).toArray⟩):=by rw[←hwt];simp[go_sem,z0]
              have y1:wt.cell? ⟨wa.heap.size,1,none⟩=some (.bool L[y].folder):=by rw[←hwt,World.cell?_setCell_other _ _ _ _ (by simp)];exact(hbs9.cell (p:=⟨wa.heap.size,1,none⟩) hwB).trans x1
              have y2:wt.cell? ⟨wa.heap.size,2,none⟩=some (.string L[y].text):=by rw[←hwt,World.cell?_setCell_other _ _ _ _ (by simp)];exact(hbs9.cell (p:=⟨wa.heap.size,2,none⟩) hwB).trans x2
              have y3:wt.cell? ⟨wa.heap.size,3,none⟩=some (.int .i64 (Pp.mvd C n L[y]).ver):=by rw[←hwt,World.cell?_setCell_other _ _ _ _ (by simp)];exact(hbs9.cell (p:=⟨wa.heap.size,3,none⟩) hwB).trans x3
              have r1:wt.cell? ⟨w.heap.size,1,none⟩=some (.string p):=(hbt.cell (p:=⟨w.heap.size,1,none⟩) hlt2).trans c1';have r2:wt.cell? ⟨w.heap.size,2,none⟩=some (.string q):=(hbt.cell (p:=⟨w.heap.size,2,none⟩) hlt2).trans c2';have hsB:wa.heap.size<wt.heap.size:=by rw[←hwt];simp;exact Nat.lt_of_lt_of_le hwB hbs9.size
              clear z0 z9 hwt;refine hK.out _ _ ⟨r1,r2⟩ (fun hzz=>?_)
              clear hzz hK K;try simp only[Act.put,List.setIfInBounds_toArray,List.set_cons_zero,List.set_cons_succ]
              refine wpAnyH_done (by kernel_rfl) ?_ _
              have HUT:=hid (HUA.out.below hbt);have hbelT:Below wg.heap.size wg wt:=hbelA.trans (hbt.mono hbelA.size);clear hHeld hbs9 hbs8 hb5 hbt r1 r2 s1 s2 x0 x1 x2 x3 hfr;go_wp2_with fail;refine(rTooGreat_any ⟨(Pp.mvP C L[y]).toArray⟩ _ (by rw[Pp.sz];omega)).mono ?_
              rintro e w11 ⟨rfl,hb11⟩;rw[show Pp.big _=Pp.big (Pp.mvP C L[y])from rfl];have hbelU:Below wg.heap.size wg w11:=hbelT.trans (hb11.mono hbelT.size);have q0:=(hb11.cell (p:=⟨wa.heap.size,0,none⟩) hsB).trans y0;have q1:=(hb11.cell (p:=⟨wa.heap.size,1,none⟩) hsB).trans y1;have q2:=(hb11.cell (p:=⟨wa.heap.size,2,none⟩) hsB).trans y2;have q3:=(hb11.cell (p:=⟨wa.heap.size,3,none⟩) hsB).trans y3;have HUU:=hid (HUT.out.below hb11);clear y0 y1 y2 y3 hb11 hbelT HUT;cases hbig:Pp.big (Pp.mvP C L[y])with
              |true=>
               have HX:=hid (show Pp.rstE L C n=2 from by rw[Pp.rstE,if_neg (by rw[HN.out];decide),HE.out,if_pos (Pp.big_hit hly (by rw[HCC.out];exact HIN.out) hbig)]);have hbw12:=(bx5 (HBX.out.trans (hbelU.mono HBX.out.size))).2.2.2.2.2.1;clear hbig;go_wp2_with fail;go_ret2;exact⟨_,by rw[HX.out];rfl,fun h=>absurd (HX.out.symm.trans h) (by decide),hbw12⟩
              |false=>
               have HNB2:=hid (show∀j (h:j<L.length),j<y+1→Pp.wi p.data.toList L[j]=true→Pp.big (Pp.mvP C L[j])=false from fun j h1 h2 h3=>by
                by_cases e:j=y
                · subst e;exact hbig
                · exact HNB.out j h1 (by omega) h3)
               have hly1:=HLEN.out y;have hly2:=HLEN.out (y+1);have HPT:=hid (HIN1.out y hly HIN.out);clear hbig;go_wp2_with fail;refine(putEntry_any (Pp.mvTo L C n y) _ (Pp.mvd C n L[y]) _ HUU.out (by omega)).mono ?_
               rintro e w13 ⟨u,rfl,ho,hb13⟩;rw[HPT.out]at ho;have HLI:=hid (lies_own ho (by omega));have hbelV:Below wg.heap.size wg w13:=hbelU.trans (hb13.mono hbelU.size);clear ho hb13 q0 q1 q2 q3 HUU;go_wp2_with fail;go_roundw
               case rel=>exact⟨y+1,by omega,by simp,HLI,HNB2,hbelV⟩
               case measure=>simp[intOf];omega
         · have eY:y=L.length:=by omega
           have hNB:=Pp.big_none (L:=L) (c:=C) (fun j h hw=>HNB.out j h (by omega) (by rw[HCC.out]at hw;exact hw));have HX:=hid (show Pp.rstE L C n=0 from by rw[Pp.rstE,if_neg (by rw[HN.out];decide),HE.out,if_neg (by rw[hNB];decide)]);rw[eY,←HQ.out]at HU;have hlM:=HLEN.out L.length;rw[←HQ.out]at hlM;have HMM:=HU;obtain⟨a6,cap6,hu,hc6,hc6',_⟩:=HU.out
           subst hu;generalize hMM:Pp.chdR L C n=M at*;have h60: ¬60<(M.length:Int):=by omega
           clear hNB eY HNB;go_wp2_with fail;go_ret2;exact⟨_,by rw[HX.out];rfl,fun _=>by first|exact HMM.out|(rw[hMM];exact HMM.out),hbw⟩
end Go.Proofs.YtdifomkoegmngaaGreatDoor
