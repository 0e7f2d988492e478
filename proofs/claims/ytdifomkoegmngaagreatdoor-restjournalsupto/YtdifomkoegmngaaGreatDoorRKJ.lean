/- What the reference's ChangeOf answers, of changes that make a folder. -/
import Derived.Test.YtdifomkoegmngaaGreatDoorRKI
set_option linter.unusedSimpArgs false
set_option linter.unusedVariables false
namespace Go.Proofs.YtdifomkoegmngaaGreatDoor
open Go.RowKit

set_option maxRecDepth 100000 in
set_option maxHeartbeats 4000000 in
theorem changeOf_mk (L:List En) (v:Value) (p q:ByteArray) (b n:Int) (w:World) (hv:Lies w v L) (hs: ∀e∈L,e.path.size≤1000000000) (hp:p.size≤1000000000) (hq:q.size≤1000000000) (hL:Pp.Good L) (hc:Pp.chgE ⟨1,p,q,(⟨#[]⟩:ByteArray),b⟩=0) (H0:Hid (Pp.foldE L (Pp.par p.data.toList)=0)) (HI:Hid (Pp.idx L p.data.toList= -1)):
    Calls Tryz.prog 75 #[v,.agg #[.int .i64 1,.string p,.string q,.string (⟨#[]⟩:ByteArray),.int .i64 b],.int .i64 n] w fun e w'=> ∃u,e= .returned (.tuple #[u,.int .i64 (Pp.rstE L ⟨1,p,q,(⟨#[]⟩:ByteArray),b⟩ n)])∧(Pp.rstE L ⟨1,p,q,(⟨#[]⟩:ByteArray),b⟩ n=0→Lies w' u (Pp.chdR L ⟨1,p,q,(⟨#[]⟩:ByteArray),b⟩ n))∧Below w.heap.size w w':=by
 obtain⟨i0,hi0,hz0,hz1,hz2⟩:=info_parts Tryz.infoE
 have HV:=hid hv;have HC:=hid hc;have HS:=hid hs;have HR:=hid hL.rise;have HGL:=hid hL;have hlen:L.length≤60:=hL.len;have hbb: -1≤b:=(Pp.chg_rest hc).2.2.2.1;have hlT:(⟨#[]⟩:ByteArray).size≤1000000000:=by decide
 have HE:=hid (show Pp.chdE L ⟨1,p,q,⟨#[]⟩,b⟩ n=if 60<(Pp.outE (Pp.newE ⟨1,p,q,⟨#[]⟩,b⟩ n) L).length+1 then 2 else 0 from if_pos (Or.inl rfl));have HQ:=hid (show Pp.chdR L ⟨1,p,q,⟨#[]⟩,b⟩ n=Pp.ins (Pp.newE ⟨1,p,q,⟨#[]⟩,b⟩ n) (Pp.outE (Pp.newE ⟨1,p,q,⟨#[]⟩,b⟩ n) L)from if_pos (Or.inl rfl));obtain⟨a,cap,rfl,hcap,hcap2,hLL⟩:=hv
 have HL:Hid (∀i (h:i<L.length),∃b o,a=some ⟨b,o,none⟩∧b<w.heap.size∧EnAt w b (o+i*4) L[i]):=hLL;obtain⟨C,hC⟩: ∃C:Pp.Ch,C=⟨1,p,q,(⟨#[]⟩:ByteArray),b⟩:=⟨_,rfl⟩
 rw[←hC]at HC HE HQ⊢;have HCC:=hid hC;clear hC hLL hL hs hc;go_enter Tryz.func75,Tryz.ntmps75
 go_wp2_with fail;refine(changeForm_any _ p q _ b _ hp hq (by omega)).mono ?_
 rintro e w1 ⟨rfl,hb1⟩;rw[←HCC.out,HC.out];obtain⟨c0,c1,c2,c3,c4,hbw,hlt⟩:=bx5 hb1
 go_wp2_with fail;refine(parentOf_any p _ hp).mono ?_
 rintro e w2 ⟨rfl,hb2⟩;have hb02:=hb1.trans (hb2.mono hb1.size);clear c0 c1 c2 c3 c4 hbw hlt hb1 hb2;obtain⟨c0,c1,c2,c3,c4,hbw,hlt⟩:=bx5 hb02
 go_wp2_with fail;refine(isFolder_any L _ ⟨(Pp.par p.data.toList).toArray⟩ _ (HV.out.below hbw)).mono ?_
 rintro e w3 ⟨rfl,hb3⟩;rw[show Pp.foldE L _=0 from H0.out];have hb03:=hb02.trans (hb3.mono hb02.size);clear c0 c1 c2 c3 c4 hbw hlt hb02 hb3;obtain⟨c0,c1,c2,c3,c4,hbw,hlt⟩:=bx5 hb03
 go_wp2_with fail;refine(entryAt_any L _ p _ (HV.out.below hbw)).mono ?_
 rintro e w4 ⟨rfl,hb4⟩;rw[HI.out];have hb04:=hb03.trans (hb4.mono hb03.size);clear c0 c1 c2 c3 c4 hbw hlt hb03 hb4;obtain⟨c0,c1,c2,c3,c4,hbw,hlt⟩:=bx5 hb04
 have HB:=hid hb04;go_wp2_with fail;clear c0 c1 c2 c3 c4 hbw hlt;go_loopw [11] (fun i wr=> ∃m:Nat,m≤L.length∧i= .int .i64 m∧Hid (∀j (h:j<L.length),j<m→Pp.stW p.data.toList b L[j]=false)∧Below w4.heap.size w4 wr) (fun i _=>L.length-(intOf i).toNat)
 case atStart=>exact⟨0,Nat.zero_le _,rfl,(fun j _ h=>absurd h (Nat.not_lt_zero _): ∀j (h:j<L.length),j<0→Pp.stW p.data.toList b L[j]=false),Below.refl _ _⟩
 case round=>
  obtain⟨m,hm,rfl,HP,hbel⟩:=hrel
  have hb0r:=HB.out.trans (hbel.mono HB.out.size);obtain⟨c0,c1,c2,c3,c4,hbw,hlt⟩:=bx5 hb0r
  by_cases hgo:m<L.length∧0≤b
  · obtain⟨hlk,hb0⟩:=hgo
    obtain⟨b1,o1,hab,hb1,he⟩:=HL.out m hlk
    first|subst hab|(have hab2:=Option.some.inj hab;injection hab2 with e1 e2 e3;have e1':=e1.symm;have e2':=e2.symm;subst e1';subst e2')
    obtain⟨d0,d1,d2,d3⟩:=he.below hb1 hbw
    have hbr:b1<wr.heap.size:=Nat.lt_of_lt_of_le hb1 hbw.size;cases hin:Pp.isInB (L[m]).path.data.toList p.data.toList with
    |false=>
     have HIN:=hid hin;have HST:=hid (Pp.stW_in (b:=b) (e:=L[m]) hin);clear hin;go_wp2_with fail;refine wp_region_held_drew (S:=fun W=>W.cell? ⟨b1,o1+m*4,none⟩=some (.string L[m].path)∧W.cell? ⟨w.heap.size,1,none⟩=some (.string p)) (by kernel_rfl) ⟨by simpa using d0,by simpa using c1⟩ (fun hHeld=>?_)
     refine wpAnyH_take (i:=0) (oi:=⟨some 103,Op.move (Operand.tmp 0),22,_,_,none⟩) (v:=?_) rfl (by kernel_rfl) (by kernel_rfl) (by kernel_rfl) (fun _ _ _ h=>h) (Or.inl ⟨by rfl,?_⟩) hHeld ?_
     rotate_left
     · (intro W hSw;obtain⟨s0,s1⟩:=hSw;go_simp<;>with_reducible rfl)
     simp only[Act.put,List.setIfInBounds_toArray,List.set_cons_zero,List.set_cons_succ];refine wpAnyH_take (i:=1) (oi:=⟨some 104,Op.move (Operand.tmp 11),3,_,_,none⟩) (v:=?_) rfl (by kernel_rfl) (by kernel_rfl) (by kernel_rfl) (fun _ _ _ h=>h) (Or.inl ⟨by rfl,?_⟩) hHeld ?_
     rotate_left
     · (intro W hSw;obtain⟨s0,s1⟩:=hSw;go_simp<;>with_reducible rfl)
     simp only[Act.put,List.setIfInBounds_toArray,List.set_cons_zero,List.set_cons_succ];refine wpAnyH_take (i:=2) (oi:=⟨some 105,Op.indexAddr 22 (Operand.tmp 103) (Operand.tmp 104),0,_,_,none⟩) (v:=?_) rfl (by kernel_rfl) (by kernel_rfl) (by kernel_rfl) (fun _ _ _ h=>h) (Or.inl ⟨by rfl,?_⟩) hHeld ?_
     rotate_left
     · (intro W hSw;obtain⟨s0,s1⟩:=hSw;go_simp<;>with_reducible rfl)
     simp only[Act.put,List.setIfInBounds_toArray,List.set_cons_zero,List.set_cons_succ];refine wpAnyH_take (i:=3) (oi:=⟨some 106,Op.fieldAddr 72 (Operand.tmp 105) 0,0,_,_,none⟩) (v:=?_) rfl (by kernel_rfl) (by kernel_rfl) (by kernel_rfl) (fun _ _ _ h=>h) (Or.inl ⟨by rfl,?_⟩) hHeld ?_
     rotate_left
     · (intro W hSw;obtain⟨s0,s1⟩:=hSw;go_simp<;>with_reducible rfl)
     simp only[Act.put,List.setIfInBounds_toArray,List.set_cons_zero,List.set_cons_succ];refine wpAnyH_take (i:=4) (oi:=⟨some 107,Op.load 9 (Operand.tmp 106),9,_,_,none⟩) (v:=?_) rfl (by kernel_rfl) (by kernel_rfl) (by kernel_rfl) (fun _ _ _ h=>h) (Or.inl ⟨by rfl,?_⟩) hHeld ?_
     rotate_left
     · (intro W hSw;obtain⟨s0,s1⟩:=hSw;go_simp<;>with_reducible rfl)
     simp only[Act.put,List.setIfInBounds_toArray,List.set_cons_zero,List.set_cons_succ];refine wpAnyH_take (i:=5) (oi:=⟨some 108,Op.fieldAddr 53 (Operand.tmp 4) 1,0,_,_,none⟩) (v:=?_) rfl (by kernel_rfl) (by kernel_rfl) (by kernel_rfl) (fun _ _ _ h=>h) (Or.inl ⟨by rfl,?_⟩) hHeld ?_
     rotate_left
     · (intro W hSw;obtain⟨s0,s1⟩:=hSw;go_simp<;>with_reducible rfl)
     simp only[Act.put,List.setIfInBounds_toArray,List.set_cons_zero,List.set_cons_succ];refine wpAnyH_take (i:=6) (oi:=⟨some 109,Op.load 9 (Operand.tmp 108),9,_,_,none⟩) (v:=?_) rfl (by kernel_rfl) (by kernel_rfl) (by kernel_rfl) (fun _ _ _ h=>h) (Or.inl ⟨by rfl,?_⟩) hHeld ?_
     rotate_left
     · (intro W hSw;obtain⟨s0,s1⟩:=hSw;go_simp<;>with_reducible rfl)
     simp only[Act.put,List.setIfInBounds_toArray,List.set_cons_zero,List.set_cons_succ];refine wpAnyH_ready (rs:=[7]) (by kernel_rfl) (by simp) ?_
     refine AllReadyH.cons (o:=⟨some 110,Op.call ⟨Callee.value (Operand.func 95),#[Operand.tmp 107,Operand.tmp 109],#[9,9]⟩,4,_,_,none⟩) rfl (fun K hK=>?_) AllReadyH.nil
     go_simp
     refine(isIn_any L[m].path p _ (HS.out _ (List.getElem_mem hlk)) hp).mono ?_
     rintro e wa ⟨rfl,hba⟩;rw[HIN.out];have k1:wa.cell? ⟨b1,o1+m*4,none⟩=some (.string L[m].path):=(hba.cell (p:=⟨b1,o1+m*4,none⟩) hbr).trans d0;have k2:wa.cell? ⟨w.heap.size,1,none⟩=some (.string p):=(hba.cell (p:=⟨w.heap.size,1,none⟩) hlt).trans c1;go_wp2_with fail;refine hK.out _ _ ⟨k1,k2⟩ (fun hHeld=>?_)
     clear hK K;try simp only[Act.put,List.setIfInBounds_toArray,List.set_cons_zero,List.set_cons_succ]
     refine wpAnyH_take (i:=8) (oi:=⟨some 111,Op.move (Operand.tmp 110),4,_,_,none⟩) (v:=?_) rfl (by kernel_rfl) (by kernel_rfl) (by kernel_rfl) (fun _ _ _ h=>h) (Or.inl ⟨by rfl,?_⟩) hHeld ?_
     rotate_left
     · (intro W hSw;obtain⟨s0,s1⟩:=hSw;go_simp<;>with_reducible rfl)
     simp only[Act.put,List.setIfInBounds_toArray,List.set_cons_zero,List.set_cons_succ];refine wpAnyH_pass (g:=8) (dg:=111) (by kernel_rfl) (by kernel_rfl) (fun _ _ _ _ _ h=>h) hHeld (fuel:=1) [(9,112),(10,113),(11,114),(12,115),(13,116),(14,117),(15,118),(16,119)] _ _ (by kernel_rfl) (by kernel_rfl) ?_
     simp only[passAll,putAll,Act.put,List.setIfInBounds_toArray,List.set_cons_zero,List.set_cons_succ];refine wpAnyH_take (i:=17) (oi:=⟨some 120,Op.pick (Operand.tmp 111) (Operand.tmp 119) (Operand.const (Value.bool false)),4,_,_,none⟩) (v:=?_) rfl (by kernel_rfl) (by kernel_rfl) (by kernel_rfl) (fun _ _ _ h=>h) (Or.inl ⟨by rfl,?_⟩) hHeld ?_
     rotate_left
     · (intro W hSw;obtain⟨s0,s1⟩:=hSw;go_simp<;>with_reducible rfl)
     simp only[Act.put,List.setIfInBounds_toArray,List.set_cons_zero,List.set_cons_succ];refine wpAnyH_done (by kernel_rfl) ?_ _
     have hbel2:Below w4.heap.size w4 wa:=hbel.drew.trans (hba.mono hbel.drew.size);go_wp2_with fail;go_roundw
     case rel=>exact⟨m+1,by omega,by simp,(fun j h1 h2=>by
      by_cases e:j=m
      · subst e;exact HST.out
      · exact HP.out j h1 (by omega): ∀j (h:j<L.length),j<m+1→Pp.stW p.data.toList b L[j]=false),hbel2⟩
     case measure=>simp[intOf];omega
    |true=>
     have HIN:=hid hin;have HY:=hid (show b<(L[m]).ver→ ∀(k:Int) (q t:ByteArray),Pp.stl L ⟨k,p,q,t,b⟩=true from fun hver k q t=>Pp.stl_yes hb0 hlk hin hver);clear hin;go_wp2_with fail
     go_region_held3 (fun W=>W.cell? ⟨b1,o1+m*4,none⟩=some (.string L[m].path)∧W.cell? ⟨w.heap.size,1,none⟩=some (.string p)∧W.cell? ⟨b1,o1+m*4+3,none⟩=some (.int .i64 L[m].ver)∧W.cell? ⟨w.heap.size,4,none⟩=some (.int .i64 b)) (go_keep) (first
      |(go_at_call 95;refine(isIn_any L[m].path p _ (HS.out _ (List.getElem_mem hlk)) hp).mono ?_;rintro e wa ⟨rfl,hba⟩;rw[HIN.out];have k1:wa.cell? ⟨b1,o1+m*4,none⟩=some (.string L[m].path):=(hba.cell (p:=⟨b1,o1+m*4,none⟩) hbr).trans d0;have k2:wa.cell? ⟨w.heap.size,1,none⟩=some (.string p):=(hba.cell (p:=⟨w.heap.size,1,none⟩) hlt).trans c1;have k3:wa.cell? ⟨b1,o1+m*4+3,none⟩=some (.int .i64 L[m].ver):=(hba.cell (p:=⟨b1,o1+m*4+3,none⟩) hbr).trans d3;have k4:wa.cell? ⟨w.heap.size,4,none⟩=some (.int .i64 b):=(hba.cell (p:=⟨w.heap.size,4,none⟩) hlt).trans c4))
     by_cases hver:b<(L[m]).ver
     · have HST:=hid (HY.out hver)
       have hbw2:Below w.heap.size w wa:=hbw.drew.trans (hba.mono hbw.drew.size);go_wp2_with fail;go_ret2;exact⟨_,by rw[Pp.rstE,if_pos (by rw[HCC.out];exact HST.out _ _ _)];rfl,fun h=>by rw[Pp.rstE,if_pos (by rw[HCC.out];exact HST.out _ _ _)]at h;exact absurd h (by decide),hbw2⟩
     · have HST:=hid (Pp.stW_ver (p:=p.data.toList) (b:=b) (e:=L[m]) hver)
       have hbel2:Below w4.heap.size w4 wa:=hbel.drew.trans (hba.mono hbel.drew.size);go_wp2_with fail;go_roundw
       case rel=>exact⟨m+1,by omega,by simp,(fun j h1 h2=>by
        by_cases e:j=m
        · subst e;exact HST.out
        · exact HP.out j h1 (by omega): ∀j (h:j<L.length),j<m+1→Pp.stW p.data.toList b L[j]=false),hbel2⟩
       case measure=>simp[intOf];omega
  · have hN:Pp.stl L C=false:=by
     rw[HCC.out];exact Pp.stl_no hbb (fun j h h0=>HP.out j h (by omega))
    have HN:=hid hN;have hno: ¬m<L.length∨(m<L.length∧ ¬0≤b):=by omega
    clear hN hgo HP hm;rcases hno with hno|⟨hno1,hno2⟩
    all_goals
     go_wp2_with fail;refine(putEntry_any L _ ⟨p,true,⟨#[]⟩,n⟩ _ (HV.out.below hbw) (by omega)).mono ?_
     rintro e w6 ⟨u,rfl,ho,hb6⟩;have HO:=hid (show w6.ownsRow wr.heap.size 72 4 u (Pp.putR (Pp.newE C n) L).length (Pp.flat (Pp.putR (Pp.newE C n) L))from by rw[HCC.out];exact ho);have hb06:Below w.heap.size w w6:=hbw.trans (hb6.mono hbw.size);clear ho hb6 c0 c1 c2 c3 c4 hb0r hbel hbw hlt;rw[Pp.putR_eq HR.out]at HO;have hM:=Pp.ins_len (Pp.newE C n) (Pp.outE (Pp.newE C n) L);have hO:(Pp.outE (Pp.newE C n) L).length≤L.length:=List.length_filter_le _ _;rw[←HQ.out]at HO hM;obtain⟨M,hMM⟩: ∃M,M=Pp.chdR L C n:=⟨_,rfl⟩
     rw[←hMM]at HO hM;have HMM:=hid hMM;clear hMM;have HLI:=hid (lies_own HO.out (by omega));obtain⟨a6,cap6,rfl,hc6,hc6',_⟩:=HLI.out
     by_cases h60:60<M.length
     · have h60':60<(M.length:Int):=by omega
       have HX:=hid (show Pp.rstE L C n=2 from by rw[Pp.rstE,if_neg (by rw[HN.out];decide),HE.out,if_pos (by omega)]);clear hM hO HO;go_wp2_with fail;go_ret2;exact⟨_,by rw[HX.out];rfl,fun h=>absurd (HX.out.symm.trans h) (by decide),hb06⟩
     · have h60': ¬60<(M.length:Int):=by omega
       have HX:=hid (show Pp.rstE L C n=0 from by rw[Pp.rstE,if_neg (by rw[HN.out];decide),HE.out,if_neg (by omega)]);clear hM hO HO;go_wp2_with fail;go_ret2;exact⟨_,by rw[HX.out];rfl,fun _=>by rw[←HMM.out];exact HLI.out,hb06⟩
set_option maxRecDepth 100000 in
set_option maxHeartbeats 4000000 in
theorem changeOf_wr (L:List En) (v:Value) (p q t:ByteArray) (b n:Int) (w:World) (hv:Lies w v L) (hs: ∀e∈L,e.path.size≤1000000000) (hp:p.size≤1000000000) (hq:q.size≤1000000000) (ht:t.size≤1000000000) (hL:Pp.Good L) (hc:Pp.chgE ⟨2,p,q,t,b⟩=0) (H0:Hid (Pp.foldE L (Pp.par p.data.toList)=0)) (HI:Hid (Pp.idx L p.data.toList= -1)):
    Calls Tryz.prog 75 #[v,.agg #[.int .i64 2,.string p,.string q,.string t,.int .i64 b],.int .i64 n] w fun e w'=> ∃u,e= .returned (.tuple #[u,.int .i64 (Pp.rstE L ⟨2,p,q,t,b⟩ n)])∧(Pp.rstE L ⟨2,p,q,t,b⟩ n=0→Lies w' u (Pp.chdR L ⟨2,p,q,t,b⟩ n))∧Below w.heap.size w w':=by
 obtain⟨i0,hi0,hz0,hz1,hz2⟩:=info_parts Tryz.infoE
 have HV:=hid hv;have HC:=hid hc;have HS:=hid hs;have HR:=hid hL.rise;have HGL:=hid hL;have hlen:L.length≤60:=hL.len;have hbb: -1≤b:=(Pp.chg_rest hc).2.2.2.1;have hlT:t.size≤1000000000:=by exact ht
 have HE:=hid (show Pp.chdE L ⟨2,p,q,t,b⟩ n=if 60<(Pp.outE (Pp.newE ⟨2,p,q,t,b⟩ n) L).length+1 then 2 else 0 from if_pos (Or.inr rfl));have HQ:=hid (show Pp.chdR L ⟨2,p,q,t,b⟩ n=Pp.ins (Pp.newE ⟨2,p,q,t,b⟩ n) (Pp.outE (Pp.newE ⟨2,p,q,t,b⟩ n) L)from if_pos (Or.inr rfl));obtain⟨a,cap,rfl,hcap,hcap2,hLL⟩:=hv
 have HL:Hid (∀i (h:i<L.length),∃b o,a=some ⟨b,o,none⟩∧b<w.heap.size∧EnAt w b (o+i*4) L[i]):=hLL;obtain⟨C,hC⟩: ∃C:Pp.Ch,C=⟨2,p,q,t,b⟩:=⟨_,rfl⟩
 rw[←hC]at HC HE HQ⊢;have HCC:=hid hC;clear hC hLL hL hs hc;go_enter Tryz.func75,Tryz.ntmps75
 go_wp2_with fail;refine(changeForm_any _ p q _ b _ hp hq (by omega)).mono ?_
 rintro e w1 ⟨rfl,hb1⟩;rw[←HCC.out,HC.out];obtain⟨c0,c1,c2,c3,c4,hbw,hlt⟩:=bx5 hb1
 go_wp2_with fail;refine(parentOf_any p _ hp).mono ?_
 rintro e w2 ⟨rfl,hb2⟩;have hb02:=hb1.trans (hb2.mono hb1.size);clear c0 c1 c2 c3 c4 hbw hlt hb1 hb2;obtain⟨c0,c1,c2,c3,c4,hbw,hlt⟩:=bx5 hb02
 go_wp2_with fail;refine(isFolder_any L _ ⟨(Pp.par p.data.toList).toArray⟩ _ (HV.out.below hbw)).mono ?_
 rintro e w3 ⟨rfl,hb3⟩;rw[show Pp.foldE L _=0 from H0.out];have hb03:=hb02.trans (hb3.mono hb02.size);clear c0 c1 c2 c3 c4 hbw hlt hb02 hb3;obtain⟨c0,c1,c2,c3,c4,hbw,hlt⟩:=bx5 hb03
 go_wp2_with fail;refine(entryAt_any L _ p _ (HV.out.below hbw)).mono ?_
 rintro e w4 ⟨rfl,hb4⟩;rw[HI.out];have hb04:=hb03.trans (hb4.mono hb03.size);clear c0 c1 c2 c3 c4 hbw hlt hb03 hb4;obtain⟨c0,c1,c2,c3,c4,hbw,hlt⟩:=bx5 hb04
 have HB:=hid hb04;go_wp2_with fail;clear c0 c1 c2 c3 c4 hbw hlt;go_loopw [11] (fun i wr=> ∃m:Nat,m≤L.length∧i= .int .i64 m∧Hid (∀j (h:j<L.length),j<m→Pp.stW p.data.toList b L[j]=false)∧Below w4.heap.size w4 wr) (fun i _=>L.length-(intOf i).toNat)
 case atStart=>exact⟨0,Nat.zero_le _,rfl,(fun j _ h=>absurd h (Nat.not_lt_zero _): ∀j (h:j<L.length),j<0→Pp.stW p.data.toList b L[j]=false),Below.refl _ _⟩
 case round=>
  obtain⟨m,hm,rfl,HP,hbel⟩:=hrel
  have hb0r:=HB.out.trans (hbel.mono HB.out.size);obtain⟨c0,c1,c2,c3,c4,hbw,hlt⟩:=bx5 hb0r
  by_cases hgo:m<L.length∧0≤b
  · obtain⟨hlk,hb0⟩:=hgo
    obtain⟨b1,o1,hab,hb1,he⟩:=HL.out m hlk
    first|subst hab|(have hab2:=Option.some.inj hab;injection hab2 with e1 e2 e3;have e1':=e1.symm;have e2':=e2.symm;subst e1';subst e2')
    obtain⟨d0,d1,d2,d3⟩:=he.below hb1 hbw
    have hbr:b1<wr.heap.size:=Nat.lt_of_lt_of_le hb1 hbw.size;cases hin:Pp.isInB (L[m]).path.data.toList p.data.toList with
    |false=>
     have HIN:=hid hin;have HST:=hid (Pp.stW_in (b:=b) (e:=L[m]) hin);clear hin;go_wp2_with fail;refine wp_region_held_drew (S:=fun W=>W.cell? ⟨b1,o1+m*4,none⟩=some (.string L[m].path)∧W.cell? ⟨w.heap.size,1,none⟩=some (.string p)) (by kernel_rfl) ⟨by simpa using d0,by simpa using c1⟩ (fun hHeld=>?_)
     refine wpAnyH_take (i:=0) (oi:=⟨some 103,Op.move (Operand.tmp 0),22,_,_,none⟩) (v:=?_) rfl (by kernel_rfl) (by kernel_rfl) (by kernel_rfl) (fun _ _ _ h=>h) (Or.inl ⟨by rfl,?_⟩) hHeld ?_
     rotate_left
     · (intro W hSw;obtain⟨s0,s1⟩:=hSw;go_simp<;>with_reducible rfl)
     simp only[Act.put,List.setIfInBounds_toArray,List.set_cons_zero,List.set_cons_succ];refine wpAnyH_take (i:=1) (oi:=⟨some 104,Op.move (Operand.tmp 11),3,_,_,none⟩) (v:=?_) rfl (by kernel_rfl) (by kernel_rfl) (by kernel_rfl) (fun _ _ _ h=>h) (Or.inl ⟨by rfl,?_⟩) hHeld ?_
     rotate_left
     · (intro W hSw;obtain⟨s0,s1⟩:=hSw;go_simp<;>with_reducible rfl)
     simp only[Act.put,List.setIfInBounds_toArray,List.set_cons_zero,List.set_cons_succ];refine wpAnyH_take (i:=2) (oi:=⟨some 105,Op.indexAddr 22 (Operand.tmp 103) (Operand.tmp 104),0,_,_,none⟩) (v:=?_) rfl (by kernel_rfl) (by kernel_rfl) (by kernel_rfl) (fun _ _ _ h=>h) (Or.inl ⟨by rfl,?_⟩) hHeld ?_
     rotate_left
     · (intro W hSw;obtain⟨s0,s1⟩:=hSw;go_simp<;>with_reducible rfl)
     simp only[Act.put,List.setIfInBounds_toArray,List.set_cons_zero,List.set_cons_succ];refine wpAnyH_take (i:=3) (oi:=⟨some 106,Op.fieldAddr 72 (Operand.tmp 105) 0,0,_,_,none⟩) (v:=?_) rfl (by kernel_rfl) (by kernel_rfl) (by kernel_rfl) (fun _ _ _ h=>h) (Or.inl ⟨by rfl,?_⟩) hHeld ?_
     rotate_left
     · (intro W hSw;obtain⟨s0,s1⟩:=hSw;go_simp<;>with_reducible rfl)
     simp only[Act.put,List.setIfInBounds_toArray,List.set_cons_zero,List.set_cons_succ];refine wpAnyH_take (i:=4) (oi:=⟨some 107,Op.load 9 (Operand.tmp 106),9,_,_,none⟩) (v:=?_) rfl (by kernel_rfl) (by kernel_rfl) (by kernel_rfl) (fun _ _ _ h=>h) (Or.inl ⟨by rfl,?_⟩) hHeld ?_
     rotate_left
     · (intro W hSw;obtain⟨s0,s1⟩:=hSw;go_simp<;>with_reducible rfl)
     simp only[Act.put,List.setIfInBounds_toArray,List.set_cons_zero,List.set_cons_succ];refine wpAnyH_take (i:=5) (oi:=⟨some 108,Op.fieldAddr 53 (Operand.tmp 4) 1,0,_,_,none⟩) (v:=?_) rfl (by kernel_rfl) (by kernel_rfl) (by kernel_rfl) (fun _ _ _ h=>h) (Or.inl ⟨by rfl,?_⟩) hHeld ?_
     rotate_left
     · (intro W hSw;obtain⟨s0,s1⟩:=hSw;go_simp<;>with_reducible rfl)
     simp only[Act.put,List.setIfInBounds_toArray,List.set_cons_zero,List.set_cons_succ];refine wpAnyH_take (i:=6) (oi:=⟨some 109,Op.load 9 (Operand.tmp 108),9,_,_,none⟩) (v:=?_) rfl (by kernel_rfl) (by kernel_rfl) (by kernel_rfl) (fun _ _ _ h=>h) (Or.inl ⟨by rfl,?_⟩) hHeld ?_
     rotate_left
     · (intro W hSw;obtain⟨s0,s1⟩:=hSw;go_simp<;>with_reducible rfl)
     simp only[Act.put,List.setIfInBounds_toArray,List.set_cons_zero,List.set_cons_succ];refine wpAnyH_ready (rs:=[7]) (by kernel_rfl) (by simp) ?_
     refine AllReadyH.cons (o:=⟨some 110,Op.call ⟨Callee.value (Operand.func 95),#[Operand.tmp 107,Operand.tmp 109],#[9,9]⟩,4,_,_,none⟩) rfl (fun K hK=>?_) AllReadyH.nil
     go_simp
     refine(isIn_any L[m].path p _ (HS.out _ (List.getElem_mem hlk)) hp).mono ?_
     rintro e wa ⟨rfl,hba⟩;rw[HIN.out];have k1:wa.cell? ⟨b1,o1+m*4,none⟩=some (.string L[m].path):=(hba.cell (p:=⟨b1,o1+m*4,none⟩) hbr).trans d0;have k2:wa.cell? ⟨w.heap.size,1,none⟩=some (.string p):=(hba.cell (p:=⟨w.heap.size,1,none⟩) hlt).trans c1;go_wp2_with fail;refine hK.out _ _ ⟨k1,k2⟩ (fun hHeld=>?_)
     clear hK K;try simp only[Act.put,List.setIfInBounds_toArray,List.set_cons_zero,List.set_cons_succ]
     refine wpAnyH_take (i:=8) (oi:=⟨some 111,Op.move (Operand.tmp 110),4,_,_,none⟩) (v:=?_) rfl (by kernel_rfl) (by kernel_rfl) (by kernel_rfl) (fun _ _ _ h=>h) (Or.inl ⟨by rfl,?_⟩) hHeld ?_
     rotate_left
     · (intro W hSw;obtain⟨s0,s1⟩:=hSw;go_simp<;>with_reducible rfl)
     simp only[Act.put,List.setIfInBounds_toArray,List.set_cons_zero,List.set_cons_succ];refine wpAnyH_pass (g:=8) (dg:=111) (by kernel_rfl) (by kernel_rfl) (fun _ _ _ _ _ h=>h) hHeld (fuel:=1) [(9,112),(10,113),(11,114),(12,115),(13,116),(14,117),(15,118),(16,119)] _ _ (by kernel_rfl) (by kernel_rfl) ?_
     simp only[passAll,putAll,Act.put,List.setIfInBounds_toArray,List.set_cons_zero,List.set_cons_succ];refine wpAnyH_take (i:=17) (oi:=⟨some 120,Op.pick (Operand.tmp 111) (Operand.tmp 119) (Operand.const (Value.bool false)),4,_,_,none⟩) (v:=?_) rfl (by kernel_rfl) (by kernel_rfl) (by kernel_rfl) (fun _ _ _ h=>h) (Or.inl ⟨by rfl,?_⟩) hHeld ?_
     rotate_left
     · (intro W hSw;obtain⟨s0,s1⟩:=hSw;go_simp<;>with_reducible rfl)
     simp only[Act.put,List.setIfInBounds_toArray,List.set_cons_zero,List.set_cons_succ];refine wpAnyH_done (by kernel_rfl) ?_ _
     have hbel2:Below w4.heap.size w4 wa:=hbel.drew.trans (hba.mono hbel.drew.size);go_wp2_with fail;go_roundw
     case rel=>exact⟨m+1,by omega,by simp,(fun j h1 h2=>by
      by_cases e:j=m
      · subst e;exact HST.out
      · exact HP.out j h1 (by omega): ∀j (h:j<L.length),j<m+1→Pp.stW p.data.toList b L[j]=false),hbel2⟩
     case measure=>simp[intOf];omega
    |true=>
     have HIN:=hid hin;have HY:=hid (show b<(L[m]).ver→ ∀(k:Int) (q t:ByteArray),Pp.stl L ⟨k,p,q,t,b⟩=true from fun hver k q t=>Pp.stl_yes hb0 hlk hin hver);clear hin;go_wp2_with fail
     go_region_held3 (fun W=>W.cell? ⟨b1,o1+m*4,none⟩=some (.string L[m].path)∧W.cell? ⟨w.heap.size,1,none⟩=some (.string p)∧W.cell? ⟨b1,o1+m*4+3,none⟩=some (.int .i64 L[m].ver)∧W.cell? ⟨w.heap.size,4,none⟩=some (.int .i64 b)) (go_keep) (first
      |(go_at_call 95;refine(isIn_any L[m].path p _ (HS.out _ (List.getElem_mem hlk)) hp).mono ?_;rintro e wa ⟨rfl,hba⟩;rw[HIN.out];have k1:wa.cell? ⟨b1,o1+m*4,none⟩=some (.string L[m].path):=(hba.cell (p:=⟨b1,o1+m*4,none⟩) hbr).trans d0;have k2:wa.cell? ⟨w.heap.size,1,none⟩=some (.string p):=(hba.cell (p:=⟨w.heap.size,1,none⟩) hlt).trans c1;have k3:wa.cell? ⟨b1,o1+m*4+3,none⟩=some (.int .i64 L[m].ver):=(hba.cell (p:=⟨b1,o1+m*4+3,none⟩) hbr).trans d3;have k4:wa.cell? ⟨w.heap.size,4,none⟩=some (.int .i64 b):=(hba.cell (p:=⟨w.heap.size,4,none⟩) hlt).trans c4))
     by_cases hver:b<(L[m]).ver
     · have HST:=hid (HY.out hver)
       have hbw2:Below w.heap.size w wa:=hbw.drew.trans (hba.mono hbw.drew.size);go_wp2_with fail;go_ret2;exact⟨_,by rw[Pp.rstE,if_pos (by rw[HCC.out];exact HST.out _ _ _)];rfl,fun h=>by rw[Pp.rstE,if_pos (by rw[HCC.out];exact HST.out _ _ _)]at h;exact absurd h (by decide),hbw2⟩
     · have HST:=hid (Pp.stW_ver (p:=p.data.toList) (b:=b) (e:=L[m]) hver)
       have hbel2:Below w4.heap.size w4 wa:=hbel.drew.trans (hba.mono hbel.drew.size);go_wp2_with fail;go_roundw
       case rel=>exact⟨m+1,by omega,by simp,(fun j h1 h2=>by
        by_cases e:j=m
        · subst e;exact HST.out
        · exact HP.out j h1 (by omega): ∀j (h:j<L.length),j<m+1→Pp.stW p.data.toList b L[j]=false),hbel2⟩
       case measure=>simp[intOf];omega
  · have hN:Pp.stl L C=false:=by
     rw[HCC.out];exact Pp.stl_no hbb (fun j h h0=>HP.out j h (by omega))
    have HN:=hid hN;have hno: ¬m<L.length∨(m<L.length∧ ¬0≤b):=by omega
    clear hN hgo HP hm;rcases hno with hno|⟨hno1,hno2⟩
    all_goals
     go_wp2_with fail;refine(putEntry_any L _ ⟨p,false,t,n⟩ _ (HV.out.below hbw) (by omega)).mono ?_
     rintro e w6 ⟨u,rfl,ho,hb6⟩;have HO:=hid (show w6.ownsRow wr.heap.size 72 4 u (Pp.putR (Pp.newE C n) L).length (Pp.flat (Pp.putR (Pp.newE C n) L))from by rw[HCC.out];exact ho);have hb06:Below w.heap.size w w6:=hbw.trans (hb6.mono hbw.size);clear ho hb6 c0 c1 c2 c3 c4 hb0r hbel hbw hlt;rw[Pp.putR_eq HR.out]at HO;have hM:=Pp.ins_len (Pp.newE C n) (Pp.outE (Pp.newE C n) L);have hO:(Pp.outE (Pp.newE C n) L).length≤L.length:=List.length_filter_le _ _;rw[←HQ.out]at HO hM;obtain⟨M,hMM⟩: ∃M,M=Pp.chdR L C n:=⟨_,rfl⟩
     rw[←hMM]at HO hM;have HMM:=hid hMM;clear hMM;have HLI:=hid (lies_own HO.out (by omega));obtain⟨a6,cap6,rfl,hc6,hc6',_⟩:=HLI.out
     by_cases h60:60<M.length
     · have h60':60<(M.length:Int):=by omega
       have HX:=hid (show Pp.rstE L C n=2 from by rw[Pp.rstE,if_neg (by rw[HN.out];decide),HE.out,if_pos (by omega)]);clear hM hO HO;go_wp2_with fail;go_ret2;exact⟨_,by rw[HX.out];rfl,fun h=>absurd (HX.out.symm.trans h) (by decide),hb06⟩
     · have h60': ¬60<(M.length:Int):=by omega
       have HX:=hid (show Pp.rstE L C n=0 from by rw[Pp.rstE,if_neg (by rw[HN.out];decide),HE.out,if_neg (by omega)]);clear hM hO HO;go_wp2_with fail;go_ret2;exact⟨_,by rw[HX.out];rfl,fun _=>by rw[←HMM.out];exact HLI.out,hb06⟩
set_option maxRecDepth 100000 in
set_option maxHeartbeats 4000000 in
theorem changeOf_rw (L:List En) (v:Value) (p q t:ByteArray) (b n:Int) (w:World) (hv:Lies w v L) (hs: ∀e∈L,e.path.size≤1000000000) (hp:p.size≤1000000000) (hq:q.size≤1000000000) (ht:t.size≤1000000000) (hL:Pp.Good L) (hc:Pp.chgE ⟨2,p,q,t,b⟩=0) (H0:Hid (Pp.foldE L (Pp.par p.data.toList)=0)) (j:Nat) (hj:j<L.length) (HI:Hid (Pp.idx L p.data.toList=(j:Int))) (hx:(L[j]).folder=false):
    Calls Tryz.prog 75 #[v,.agg #[.int .i64 2,.string p,.string q,.string t,.int .i64 b],.int .i64 n] w fun e w'=> ∃u,e= .returned (.tuple #[u,.int .i64 (Pp.rstE L ⟨2,p,q,t,b⟩ n)])∧(Pp.rstE L ⟨2,p,q,t,b⟩ n=0→Lies w' u (Pp.chdR L ⟨2,p,q,t,b⟩ n))∧Below w.heap.size w w':=by
 obtain⟨i0,hi0,hz0,hz1,hz2⟩:=info_parts Tryz.infoE
 have HV:=hid hv;have HC:=hid hc;have HS:=hid hs;have HR:=hid hL.rise;have HGL:=hid hL;have hlen:L.length≤60:=hL.len;have hbb: -1≤b:=(Pp.chg_rest hc).2.2.2.1;have hlT:t.size≤1000000000:=by exact ht
 have HE:=hid (show Pp.chdE L ⟨2,p,q,t,b⟩ n=if 60<(Pp.outE (Pp.newE ⟨2,p,q,t,b⟩ n) L).length+1 then 2 else 0 from if_pos (Or.inr rfl));have HQ:=hid (show Pp.chdR L ⟨2,p,q,t,b⟩ n=Pp.ins (Pp.newE ⟨2,p,q,t,b⟩ n) (Pp.outE (Pp.newE ⟨2,p,q,t,b⟩ n) L)from if_pos (Or.inr rfl));obtain⟨a,cap,rfl,hcap,hcap2,hLL⟩:=hv
 have HL:Hid (∀i (h:i<L.length),∃b o,a=some ⟨b,o,none⟩∧b<w.heap.size∧EnAt w b (o+i*4) L[i]):=hLL;obtain⟨C,hC⟩: ∃C:Pp.Ch,C=⟨2,p,q,t,b⟩:=⟨_,rfl⟩
 rw[←hC]at HC HE HQ⊢;have HCC:=hid hC;clear hC hLL hL hs hc;go_enter Tryz.func75,Tryz.ntmps75
 go_wp2_with fail;refine(changeForm_any _ p q _ b _ hp hq (by omega)).mono ?_
 rintro e w1 ⟨rfl,hb1⟩;rw[←HCC.out,HC.out];obtain⟨c0,c1,c2,c3,c4,hbw,hlt⟩:=bx5 hb1
 go_wp2_with fail;refine(parentOf_any p _ hp).mono ?_
 rintro e w2 ⟨rfl,hb2⟩;have hb02:=hb1.trans (hb2.mono hb1.size);clear c0 c1 c2 c3 c4 hbw hlt hb1 hb2;obtain⟨c0,c1,c2,c3,c4,hbw,hlt⟩:=bx5 hb02
 go_wp2_with fail;refine(isFolder_any L _ ⟨(Pp.par p.data.toList).toArray⟩ _ (HV.out.below hbw)).mono ?_
 rintro e w3 ⟨rfl,hb3⟩;rw[show Pp.foldE L _=0 from H0.out];have hb03:=hb02.trans (hb3.mono hb02.size);clear c0 c1 c2 c3 c4 hbw hlt hb02 hb3;obtain⟨c0,c1,c2,c3,c4,hbw,hlt⟩:=bx5 hb03
 go_wp2_with fail;refine(entryAt_any L _ p _ (HV.out.below hbw)).mono ?_
 rintro e w4 ⟨rfl,hb4⟩;rw[HI.out];have hb04:=hb03.trans (hb4.mono hb03.size);clear c0 c1 c2 c3 c4 hbw hlt hb03 hb4;obtain⟨c0,c1,c2,c3,c4,hbw,hlt⟩:=bx5 hb04
 obtain⟨b',o',rfl,hbj,hej⟩:=HL.out j hj
 have hjj:(j:Int)<L.length:=by omega
 obtain⟨d0,d1,d2,d3⟩:=hej.below hbj hbw
 rw[hx]at d1;clear d0 d2 d3 hej hbj;have HB:=hid hb04;go_wp2_with fail;clear c0 c1 c2 c3 c4 hbw hlt;go_loopw [11] (fun i wr=> ∃m:Nat,m≤L.length∧i= .int .i64 m∧Hid (∀j (h:j<L.length),j<m→Pp.stW p.data.toList b L[j]=false)∧Below w4.heap.size w4 wr) (fun i _=>L.length-(intOf i).toNat)
 case atStart=>exact⟨0,Nat.zero_le _,rfl,(fun j _ h=>absurd h (Nat.not_lt_zero _): ∀j (h:j<L.length),j<0→Pp.stW p.data.toList b L[j]=false),Below.refl _ _⟩
 case round=>
  obtain⟨m,hm,rfl,HP,hbel⟩:=hrel
  have hb0r:=HB.out.trans (hbel.mono HB.out.size);obtain⟨c0,c1,c2,c3,c4,hbw,hlt⟩:=bx5 hb0r
  by_cases hgo:m<L.length∧0≤b
  · obtain⟨hlk,hb0⟩:=hgo
    obtain⟨b1,o1,hab,hb1,he⟩:=HL.out m hlk
    first|subst hab|(have hab2:=Option.some.inj hab;injection hab2 with e1 e2 e3;have e1':=e1.symm;have e2':=e2.symm;subst e1';subst e2')
    obtain⟨d0,d1,d2,d3⟩:=he.below hb1 hbw
    have hbr:b1<wr.heap.size:=Nat.lt_of_lt_of_le hb1 hbw.size;cases hin:Pp.isInB (L[m]).path.data.toList p.data.toList with
    |false=>
     have HIN:=hid hin;have HST:=hid (Pp.stW_in (b:=b) (e:=L[m]) hin);clear hin;go_wp2_with fail;refine wp_region_held_drew (S:=fun W=>W.cell? ⟨b1,o1+m*4,none⟩=some (.string L[m].path)∧W.cell? ⟨w.heap.size,1,none⟩=some (.string p)) (by kernel_rfl) ⟨by simpa using d0,by simpa using c1⟩ (fun hHeld=>?_)
     refine wpAnyH_take (i:=0) (oi:=⟨some 103,Op.move (Operand.tmp 0),22,_,_,none⟩) (v:=?_) rfl (by kernel_rfl) (by kernel_rfl) (by kernel_rfl) (fun _ _ _ h=>h) (Or.inl ⟨by rfl,?_⟩) hHeld ?_
     rotate_left
     · (intro W hSw;obtain⟨s0,s1⟩:=hSw;go_simp<;>with_reducible rfl)
     simp only[Act.put,List.setIfInBounds_toArray,List.set_cons_zero,List.set_cons_succ];refine wpAnyH_take (i:=1) (oi:=⟨some 104,Op.move (Operand.tmp 11),3,_,_,none⟩) (v:=?_) rfl (by kernel_rfl) (by kernel_rfl) (by kernel_rfl) (fun _ _ _ h=>h) (Or.inl ⟨by rfl,?_⟩) hHeld ?_
     rotate_left
     · (intro W hSw;obtain⟨s0,s1⟩:=hSw;go_simp<;>with_reducible rfl)
     simp only[Act.put,List.setIfInBounds_toArray,List.set_cons_zero,List.set_cons_succ];refine wpAnyH_take (i:=2) (oi:=⟨some 105,Op.indexAddr 22 (Operand.tmp 103) (Operand.tmp 104),0,_,_,none⟩) (v:=?_) rfl (by kernel_rfl) (by kernel_rfl) (by kernel_rfl) (fun _ _ _ h=>h) (Or.inl ⟨by rfl,?_⟩) hHeld ?_
     rotate_left
     · (intro W hSw;obtain⟨s0,s1⟩:=hSw;go_simp<;>with_reducible rfl)
     simp only[Act.put,List.setIfInBounds_toArray,List.set_cons_zero,List.set_cons_succ];refine wpAnyH_take (i:=3) (oi:=⟨some 106,Op.fieldAddr 72 (Operand.tmp 105) 0,0,_,_,none⟩) (v:=?_) rfl (by kernel_rfl) (by kernel_rfl) (by kernel_rfl) (fun _ _ _ h=>h) (Or.inl ⟨by rfl,?_⟩) hHeld ?_
     rotate_left
     · (intro W hSw;obtain⟨s0,s1⟩:=hSw;go_simp<;>with_reducible rfl)
     simp only[Act.put,List.setIfInBounds_toArray,List.set_cons_zero,List.set_cons_succ];refine wpAnyH_take (i:=4) (oi:=⟨some 107,Op.load 9 (Operand.tmp 106),9,_,_,none⟩) (v:=?_) rfl (by kernel_rfl) (by kernel_rfl) (by kernel_rfl) (fun _ _ _ h=>h) (Or.inl ⟨by rfl,?_⟩) hHeld ?_
     rotate_left
     · (intro W hSw;obtain⟨s0,s1⟩:=hSw;go_simp<;>with_reducible rfl)
     simp only[Act.put,List.setIfInBounds_toArray,List.set_cons_zero,List.set_cons_succ];refine wpAnyH_take (i:=5) (oi:=⟨some 108,Op.fieldAddr 53 (Operand.tmp 4) 1,0,_,_,none⟩) (v:=?_) rfl (by kernel_rfl) (by kernel_rfl) (by kernel_rfl) (fun _ _ _ h=>h) (Or.inl ⟨by rfl,?_⟩) hHeld ?_
     rotate_left
     · (intro W hSw;obtain⟨s0,s1⟩:=hSw;go_simp<;>with_reducible rfl)
     simp only[Act.put,List.setIfInBounds_toArray,List.set_cons_zero,List.set_cons_succ];refine wpAnyH_take (i:=6) (oi:=⟨some 109,Op.load 9 (Operand.tmp 108),9,_,_,none⟩) (v:=?_) rfl (by kernel_rfl) (by kernel_rfl) (by kernel_rfl) (fun _ _ _ h=>h) (Or.inl ⟨by rfl,?_⟩) hHeld ?_
     rotate_left
     · (intro W hSw;obtain⟨s0,s1⟩:=hSw;go_simp<;>with_reducible rfl)
     simp only[Act.put,List.setIfInBounds_toArray,List.set_cons_zero,List.set_cons_succ];refine wpAnyH_ready (rs:=[7]) (by kernel_rfl) (by simp) ?_
     refine AllReadyH.cons (o:=⟨some 110,Op.call ⟨Callee.value (Operand.func 95),#[Operand.tmp 107,Operand.tmp 109],#[9,9]⟩,4,_,_,none⟩) rfl (fun K hK=>?_) AllReadyH.nil
     go_simp
     refine(isIn_any L[m].path p _ (HS.out _ (List.getElem_mem hlk)) hp).mono ?_
     rintro e wa ⟨rfl,hba⟩;rw[HIN.out];have k1:wa.cell? ⟨b1,o1+m*4,none⟩=some (.string L[m].path):=(hba.cell (p:=⟨b1,o1+m*4,none⟩) hbr).trans d0;have k2:wa.cell? ⟨w.heap.size,1,none⟩=some (.string p):=(hba.cell (p:=⟨w.heap.size,1,none⟩) hlt).trans c1;go_wp2_with fail;refine hK.out _ _ ⟨k1,k2⟩ (fun hHeld=>?_)
     clear hK K;try simp only[Act.put,List.setIfInBounds_toArray,List.set_cons_zero,List.set_cons_succ]
     refine wpAnyH_take (i:=8) (oi:=⟨some 111,Op.move (Operand.tmp 110),4,_,_,none⟩) (v:=?_) rfl (by kernel_rfl) (by kernel_rfl) (by kernel_rfl) (fun _ _ _ h=>h) (Or.inl ⟨by rfl,?_⟩) hHeld ?_
     rotate_left
     · (intro W hSw;obtain⟨s0,s1⟩:=hSw;go_simp<;>with_reducible rfl)
     simp only[Act.put,List.setIfInBounds_toArray,List.set_cons_zero,List.set_cons_succ];refine wpAnyH_pass (g:=8) (dg:=111) (by kernel_rfl) (by kernel_rfl) (fun _ _ _ _ _ h=>h) hHeld (fuel:=1) [(9,112),(10,113),(11,114),(12,115),(13,116),(14,117),(15,118),(16,119)] _ _ (by kernel_rfl) (by kernel_rfl) ?_
     simp only[passAll,putAll,Act.put,List.setIfInBounds_toArray,List.set_cons_zero,List.set_cons_succ];refine wpAnyH_take (i:=17) (oi:=⟨some 120,Op.pick (Operand.tmp 111) (Operand.tmp 119) (Operand.const (Value.bool false)),4,_,_,none⟩) (v:=?_) rfl (by kernel_rfl) (by kernel_rfl) (by kernel_rfl) (fun _ _ _ h=>h) (Or.inl ⟨by rfl,?_⟩) hHeld ?_
     rotate_left
     · (intro W hSw;obtain⟨s0,s1⟩:=hSw;go_simp<;>with_reducible rfl)
     simp only[Act.put,List.setIfInBounds_toArray,List.set_cons_zero,List.set_cons_succ];refine wpAnyH_done (by kernel_rfl) ?_ _
     have hbel2:Below w4.heap.size w4 wa:=hbel.drew.trans (hba.mono hbel.drew.size);go_wp2_with fail;go_roundw
     case rel=>exact⟨m+1,by omega,by simp,(fun j h1 h2=>by
      by_cases e:j=m
      · subst e;exact HST.out
      · exact HP.out j h1 (by omega): ∀j (h:j<L.length),j<m+1→Pp.stW p.data.toList b L[j]=false),hbel2⟩
     case measure=>simp[intOf];omega
    |true=>
     have HIN:=hid hin;have HY:=hid (show b<(L[m]).ver→ ∀(k:Int) (q t:ByteArray),Pp.stl L ⟨k,p,q,t,b⟩=true from fun hver k q t=>Pp.stl_yes hb0 hlk hin hver);clear hin;go_wp2_with fail
     go_region_held3 (fun W=>W.cell? ⟨b1,o1+m*4,none⟩=some (.string L[m].path)∧W.cell? ⟨w.heap.size,1,none⟩=some (.string p)∧W.cell? ⟨b1,o1+m*4+3,none⟩=some (.int .i64 L[m].ver)∧W.cell? ⟨w.heap.size,4,none⟩=some (.int .i64 b)) (go_keep) (first
      |(go_at_call 95;refine(isIn_any L[m].path p _ (HS.out _ (List.getElem_mem hlk)) hp).mono ?_;rintro e wa ⟨rfl,hba⟩;rw[HIN.out];have k1:wa.cell? ⟨b1,o1+m*4,none⟩=some (.string L[m].path):=(hba.cell (p:=⟨b1,o1+m*4,none⟩) hbr).trans d0;have k2:wa.cell? ⟨w.heap.size,1,none⟩=some (.string p):=(hba.cell (p:=⟨w.heap.size,1,none⟩) hlt).trans c1;have k3:wa.cell? ⟨b1,o1+m*4+3,none⟩=some (.int .i64 L[m].ver):=(hba.cell (p:=⟨b1,o1+m*4+3,none⟩) hbr).trans d3;have k4:wa.cell? ⟨w.heap.size,4,none⟩=some (.int .i64 b):=(hba.cell (p:=⟨w.heap.size,4,none⟩) hlt).trans c4))
     by_cases hver:b<(L[m]).ver
     · have HST:=hid (HY.out hver)
       have hbw2:Below w.heap.size w wa:=hbw.drew.trans (hba.mono hbw.drew.size);go_wp2_with fail;go_ret2;exact⟨_,by rw[Pp.rstE,if_pos (by rw[HCC.out];exact HST.out _ _ _)];rfl,fun h=>by rw[Pp.rstE,if_pos (by rw[HCC.out];exact HST.out _ _ _)]at h;exact absurd h (by decide),hbw2⟩
     · have HST:=hid (Pp.stW_ver (p:=p.data.toList) (b:=b) (e:=L[m]) hver)
       have hbel2:Below w4.heap.size w4 wa:=hbel.drew.trans (hba.mono hbel.drew.size);go_wp2_with fail;go_roundw
       case rel=>exact⟨m+1,by omega,by simp,(fun j h1 h2=>by
        by_cases e:j=m
        · subst e;exact HST.out
        · exact HP.out j h1 (by omega): ∀j (h:j<L.length),j<m+1→Pp.stW p.data.toList b L[j]=false),hbel2⟩
       case measure=>simp[intOf];omega
  · have hN:Pp.stl L C=false:=by
     rw[HCC.out];exact Pp.stl_no hbb (fun j h h0=>HP.out j h (by omega))
    have HN:=hid hN;have hno: ¬m<L.length∨(m<L.length∧ ¬0≤b):=by omega
    clear hN hgo HP hm;rcases hno with hno|⟨hno1,hno2⟩
    all_goals
     go_wp2_with fail;refine(putEntry_any L _ ⟨p,false,t,n⟩ _ (HV.out.below hbw) (by omega)).mono ?_
     rintro e w6 ⟨u,rfl,ho,hb6⟩;have HO:=hid (show w6.ownsRow wr.heap.size 72 4 u (Pp.putR (Pp.newE C n) L).length (Pp.flat (Pp.putR (Pp.newE C n) L))from by rw[HCC.out];exact ho);have hb06:Below w.heap.size w w6:=hbw.trans (hb6.mono hbw.size);clear ho hb6 c0 c1 c2 c3 c4 hb0r hbel hbw hlt;rw[Pp.putR_eq HR.out]at HO;have hM:=Pp.ins_len (Pp.newE C n) (Pp.outE (Pp.newE C n) L);have hO:(Pp.outE (Pp.newE C n) L).length≤L.length:=List.length_filter_le _ _;rw[←HQ.out]at HO hM;obtain⟨M,hMM⟩: ∃M,M=Pp.chdR L C n:=⟨_,rfl⟩
     rw[←hMM]at HO hM;have HMM:=hid hMM;clear hMM;have HLI:=hid (lies_own HO.out (by omega));obtain⟨a6,cap6,rfl,hc6,hc6',_⟩:=HLI.out
     by_cases h60:60<M.length
     · have h60':60<(M.length:Int):=by omega
       have HX:=hid (show Pp.rstE L C n=2 from by rw[Pp.rstE,if_neg (by rw[HN.out];decide),HE.out,if_pos (by omega)]);clear hM hO HO;go_wp2_with fail;go_ret2;exact⟨_,by rw[HX.out];rfl,fun h=>absurd (HX.out.symm.trans h) (by decide),hb06⟩
     · have h60': ¬60<(M.length:Int):=by omega
       have HX:=hid (show Pp.rstE L C n=0 from by rw[Pp.rstE,if_neg (by rw[HN.out];decide),HE.out,if_neg (by omega)]);clear hM hO HO;go_wp2_with fail;go_ret2;exact⟨_,by rw[HX.out];rfl,fun _=>by rw[←HMM.out];exact HLI.out,hb06⟩
end Go.Proofs.YtdifomkoegmngaaGreatDoor
