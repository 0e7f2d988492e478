/- What the reference's ChangeOf answers, of changes that delete. -/
import Derived.Test.YtdifomkoegmngaaGreatDoorRKI
import Derived.Test.YtdifomkoegmngaaGreatDoorRKD
set_option linter.unusedSimpArgs false
set_option linter.unusedVariables false
namespace Go.Proofs.YtdifomkoegmngaaGreatDoor
open Go.RowKit

set_option maxRecDepth 100000 in
set_option maxHeartbeats 4000000 in
theorem changeOf_del (L:List En) (v:Value) (p q t:ByteArray) (b n:Int) (w:World) (hv:Lies w v L) (hs: ∀e∈L,e.path.size≤1000000000) (hp:p.size≤1000000000) (hq:q.size≤1000000000) (ht:t.size≤1000000000) (hL:Pp.Good L) (hc:Pp.chgE ⟨4,p,q,t,b⟩=0) (H0:Hid (Pp.foldE L (Pp.par p.data.toList)=0)) (j:Nat) (hj:j<L.length) (HI:Hid (Pp.idx L p.data.toList=(j:Int))):
    Calls Tryz.prog 75 #[v,.agg #[.int .i64 4,.string p,.string q,.string t,.int .i64 b],.int .i64 n] w fun e w'=> ∃u,e= .returned (.tuple #[u,.int .i64 (Pp.rstE L ⟨4,p,q,t,b⟩ n)])∧(Pp.rstE L ⟨4,p,q,t,b⟩ n=0→Lies w' u (Pp.chdR L ⟨4,p,q,t,b⟩ n))∧Below w.heap.size w w':=by
 obtain⟨i0,hi0,hz0,hz1,hz2⟩:=info_parts Tryz.infoE
 have HV:=hid hv;have HC:=hid hc;have HS:=hid hs;have HR:=hid hL.rise;have HGL:=hid hL;have hlen:L.length≤60:=hL.len;have hbb: -1≤b:=(Pp.chg_rest hc).2.2.2.1;have hlT:t.size≤1000000000:=by exact ht
 have HE:=hid (show Pp.chdE L ⟨4,p,q,t,b⟩ n=0 from rfl);have HQ:=hid (show Pp.chdR L ⟨4,p,q,t,b⟩ n=L.filter (fun e=> !Pp.wi p.data.toList e)from rfl);have hjj:(j:Int)<L.length:=by omega
 obtain⟨a,cap,rfl,hcap,hcap2,hLL⟩:=hv
 have HL:Hid (∀i (h:i<L.length),∃b o,a=some ⟨b,o,none⟩∧b<w.heap.size∧EnAt w b (o+i*4) L[i]):=hLL;obtain⟨C,hC⟩: ∃C:Pp.Ch,C=⟨4,p,q,t,b⟩:=⟨_,rfl⟩
 rw[←hC]at HC HE HQ⊢;have HCC:=hid hC;clear hC hLL hL hs hc;go_enter Tryz.func75,Tryz.ntmps75
 go_wp2_with fail;refine(changeForm_any _ p q _ b _ hp hq (by omega)).mono ?_
 rintro e w1 ⟨rfl,hb1⟩;rw[←HCC.out,HC.out];obtain⟨c0,c1,c2,c3,c4,hbw,hlt⟩:=bx5 hb1
 go_wp2_with fail;refine(parentOf_any p _ hp).mono ?_
 rintro e w2 ⟨rfl,hb2⟩;have hb02:=hb1.trans (hb2.mono hb1.size);clear c0 c1 c2 c3 c4 hbw hlt hb1 hb2;obtain⟨c0,c1,c2,c3,c4,hbw,hlt⟩:=bx5 hb02
 go_wp2_with fail;refine(isFolder_any L _ ⟨(Pp.par p.data.toList).toArray⟩ _ (HV.out.below hbw)).mono ?_
 rintro e w3 ⟨rfl,hb3⟩;rw[show Pp.foldE L _=0 from H0.out];have hb03:=hb02.trans (hb3.mono hb02.size);clear c0 c1 c2 c3 c4 hbw hlt hb02 hb3;obtain⟨c0,c1,c2,c3,c4,hbw,hlt⟩:=bx5 hb03
 go_wp2_with fail;refine(entryAt_any L _ p _ (HV.out.below hbw)).mono ?_
 rintro e w4 ⟨rfl,hb4⟩;rw[HI.out];have hb04:=hb03.trans (hb4.mono hb03.size);clear c0 c1 c2 c3 c4 hbw hlt hb03 hb4;obtain⟨c0,c1,c2,c3,c4,hbw,hlt⟩:=bx5 hb04
 have HB:=hid hb04;go_wp2_with fail;clear c0 c1 c2 c3 c4 hbw hlt;go_loopw [11] (fun i wr=> ∃m:Nat,m≤L.length∧i= .int .i64 m∧Hid (∀j (h:j<L.length),j<m→Pp.stW p.data.toList b L[j]=false)∧Below w4.heap.size w4 wr) (fun i _=>L.length-(intOf i).toNat)
 case atStart=>exact⟨0,Nat.zero_le _,rfl,(fun j _ h=>absurd h (Nat.not_lt_zero _): ∀j (h:j<L.length),j<0→Pp.stW p.data.toList b L[j]=false),Below.refl _ _⟩
 case round=>
  obtain⟨m,hm,rfl,HP,hbel⟩:=hrel
  have hb0r:=HB.out.trans (hbel.mono HB.out.size);obtain⟨c0,c1,c2,c3,c4,hbw,hlt⟩:=bx5 hb0r
  by_cases hgo:m<L.length∧0≤b
  · obtain⟨hlk,hb0⟩:=hgo
    obtain⟨b1,o1,hab,hb1,he⟩:=HL.out m hlk
    first|subst hab|(have hab2:=Option.some.inj hab;injection hab2 with e1 e2 e3;have e1':=e1.symm;have e2':=e2.symm;subst e1';subst e2')
    obtain⟨d0,d1,d2,d3⟩:=he.below hb1 hbw
    have hbr:b1<wr.heap.size:=Nat.lt_of_lt_of_le hb1 hbw.size;cases hin:Pp.isInB (L[m]).path.data.toList p.data.toList with
    |false=>
     have HIN:=hid hin;have HST:=hid (Pp.stW_in (b:=b) (e:=L[m]) hin);clear hin;go_wp2_with fail;refine wp_region_held_drew (S:=fun W=>W.cell? ⟨b1,o1+m*4,none⟩=some (.string L[m].path)∧W.cell? ⟨w.heap.size,1,none⟩=some (.string p)) (by kernel_rfl) ⟨by simpa using d0,by simpa using c1⟩ (fun hHeld=>?_)
     refine wpAnyH_take (i:=0) (oi:=⟨some 103,Op.move (Operand.tmp 0),22,_,_,none⟩) (v:=?_) rfl (by kernel_rfl) (by kernel_rfl) (by kernel_rfl) (fun _ _ _ h=>h) (Or.inl ⟨by rfl,?_⟩) hHeld ?_
     rotate_left
     · (intro W hSw;obtain⟨s0,s1⟩:=hSw;go_simp<;>with_reducible rfl)
     simp only[Act.put,List.setIfInBounds_toArray,List.set_cons_zero,List.set_cons_succ];refine wpAnyH_take (i:=1) (oi:=⟨some 104,Op.move (Operand.tmp 11),3,_,_,none⟩) (v:=?_) rfl (by kernel_rfl) (by kernel_rfl) (by kernel_rfl) (fun _ _ _ h=>h) (Or.inl ⟨by rfl,?_⟩) hHeld ?_
     rotate_left
     · (intro W hSw;obtain⟨s0,s1⟩:=hSw;go_simp<;>with_reducible rfl)
     simp only[Act.put,List.setIfInBounds_toArray,List.set_cons_zero,List.set_cons_succ];refine wpAnyH_take (i:=2) (oi:=⟨some 105,Op.indexAddr 22 (Operand.tmp 103) (Operand.tmp 104),0,_,_,none⟩) (v:=?_) rfl (by kernel_rfl) (by kernel_rfl) (by kernel_rfl) (fun _ _ _ h=>h) (Or.inl ⟨by rfl,?_⟩) hHeld ?_
     rotate_left
     · (intro W hSw;obtain⟨s0,s1⟩:=hSw;go_simp<;>with_reducible rfl)
     simp only[Act.put,List.setIfInBounds_toArray,List.set_cons_zero,List.set_cons_succ];refine wpAnyH_take (i:=3) (oi:=⟨some 106,Op.fieldAddr 72 (Operand.tmp 105) 0,0,_,_,none⟩) (v:=?_) rfl (by kernel_rfl) (by kernel_rfl) (by kernel_rfl) (fun _ _ _ h=>h) (Or.inl ⟨by rfl,?_⟩) hHeld ?_
     rotate_left
     · (intro W hSw;obtain⟨s0,s1⟩:=hSw;go_simp<;>with_reducible rfl)
     simp only[Act.put,List.setIfInBounds_toArray,List.set_cons_zero,List.set_cons_succ];refine wpAnyH_take (i:=4) (oi:=⟨some 107,Op.load 9 (Operand.tmp 106),9,_,_,none⟩) (v:=?_) rfl (by kernel_rfl) (by kernel_rfl) (by kernel_rfl) (fun _ _ _ h=>h) (Or.inl ⟨by rfl,?_⟩) hHeld ?_
     rotate_left
     · (intro W hSw;obtain⟨s0,s1⟩:=hSw;go_simp<;>with_reducible rfl)
     simp only[Act.put,List.setIfInBounds_toArray,List.set_cons_zero,List.set_cons_succ];refine wpAnyH_take (i:=5) (oi:=⟨some 108,Op.fieldAddr 53 (Operand.tmp 4) 1,0,_,_,none⟩) (v:=?_) rfl (by kernel_rfl) (by kernel_rfl) (by kernel_rfl) (fun _ _ _ h=>h) (Or.inl ⟨by rfl,?_⟩) hHeld ?_
     rotate_left
     · (intro W hSw;obtain⟨s0,s1⟩:=hSw;go_simp<;>with_reducible rfl)
     simp only[Act.put,List.setIfInBounds_toArray,List.set_cons_zero,List.set_cons_succ];refine wpAnyH_take (i:=6) (oi:=⟨some 109,Op.load 9 (Operand.tmp 108),9,_,_,none⟩) (v:=?_) rfl (by kernel_rfl) (by kernel_rfl) (by kernel_rfl) (fun _ _ _ h=>h) (Or.inl ⟨by rfl,?_⟩) hHeld ?_
     rotate_left
     · (intro W hSw;obtain⟨s0,s1⟩:=hSw;go_simp<;>with_reducible rfl)
     simp only[Act.put,List.setIfInBounds_toArray,List.set_cons_zero,List.set_cons_succ];refine wpAnyH_ready (rs:=[7]) (by kernel_rfl) (by simp) ?_
     refine AllReadyH.cons (o:=⟨some 110,Op.call ⟨Callee.value (Operand.func 95),#[Operand.tmp 107,Operand.tmp 109],#[9,9]⟩,4,_,_,none⟩) rfl (fun K hK=>?_) AllReadyH.nil
     go_simp
     refine(isIn_any L[m].path p _ (HS.out _ (List.getElem_mem hlk)) hp).mono ?_
     rintro e wa ⟨rfl,hba⟩;rw[HIN.out];have k1:wa.cell? ⟨b1,o1+m*4,none⟩=some (.string L[m].path):=(hba.cell (p:=⟨b1,o1+m*4,none⟩) hbr).trans d0;have k2:wa.cell? ⟨w.heap.size,1,none⟩=some (.string p):=(hba.cell (p:=⟨w.heap.size,1,none⟩) hlt).trans c1;go_wp2_with fail;refine hK.out _ _ ⟨k1,k2⟩ (fun hHeld=>?_)
     clear hK K;try simp only[Act.put,List.setIfInBounds_toArray,List.set_cons_zero,List.set_cons_succ]
     refine wpAnyH_take (i:=8) (oi:=⟨some 111,Op.move (Operand.tmp 110),4,_,_,none⟩) (v:=?_) rfl (by kernel_rfl) (by kernel_rfl) (by kernel_rfl) (fun _ _ _ h=>h) (Or.inl ⟨by rfl,?_⟩) hHeld ?_
     rotate_left
     · (intro W hSw;obtain⟨s0,s1⟩:=hSw;go_simp<;>with_reducible rfl)
     simp only[Act.put,List.setIfInBounds_toArray,List.set_cons_zero,List.set_cons_succ];refine wpAnyH_pass (g:=8) (dg:=111) (by kernel_rfl) (by kernel_rfl) (fun _ _ _ _ _ h=>h) hHeld (fuel:=1) [(9,112),(10,113),(11,114),(12,115),(13,116),(14,117),(15,118),(16,119)] _ _ (by kernel_rfl) (by kernel_rfl) ?_
     simp only[passAll,putAll,Act.put,List.setIfInBounds_toArray,List.set_cons_zero,List.set_cons_succ];refine wpAnyH_take (i:=17) (oi:=⟨some 120,Op.pick (Operand.tmp 111) (Operand.tmp 119) (Operand.const (Value.bool false)),4,_,_,none⟩) (v:=?_) rfl (by kernel_rfl) (by kernel_rfl) (by kernel_rfl) (fun _ _ _ h=>h) (Or.inl ⟨by rfl,?_⟩) hHeld ?_
     rotate_left
     · (intro W hSw;obtain⟨s0,s1⟩:=hSw;go_simp<;>with_reducible rfl)
     simp only[Act.put,List.setIfInBounds_toArray,List.set_cons_zero,List.set_cons_succ];refine wpAnyH_done (by kernel_rfl) ?_ _
     have hbel2:Below w4.heap.size w4 wa:=hbel.drew.trans (hba.mono hbel.drew.size);go_wp2_with fail;go_roundw
     case rel=>exact⟨m+1,by omega,by simp,(fun j h1 h2=>by
      by_cases e:j=m
      · subst e;exact HST.out
      · exact HP.out j h1 (by omega): ∀j (h:j<L.length),j<m+1→Pp.stW p.data.toList b L[j]=false),hbel2⟩
     case measure=>simp[intOf];omega
    |true=>
     have HIN:=hid hin;have HY:=hid (show b<(L[m]).ver→ ∀(k:Int) (q t:ByteArray),Pp.stl L ⟨k,p,q,t,b⟩=true from fun hver k q t=>Pp.stl_yes hb0 hlk hin hver);clear hin;go_wp2_with fail
     go_region_held3 (fun W=>W.cell? ⟨b1,o1+m*4,none⟩=some (.string L[m].path)∧W.cell? ⟨w.heap.size,1,none⟩=some (.string p)∧W.cell? ⟨b1,o1+m*4+3,none⟩=some (.int .i64 L[m].ver)∧W.cell? ⟨w.heap.size,4,none⟩=some (.int .i64 b)) (go_keep) (first
      |(go_at_call 95;refine(isIn_any L[m].path p _ (HS.out _ (List.getElem_mem hlk)) hp).mono ?_;rintro e wa ⟨rfl,hba⟩;rw[HIN.out];have k1:wa.cell? ⟨b1,o1+m*4,none⟩=some (.string L[m].path):=(hba.cell (p:=⟨b1,o1+m*4,none⟩) hbr).trans d0;have k2:wa.cell? ⟨w.heap.size,1,none⟩=some (.string p):=(hba.cell (p:=⟨w.heap.size,1,none⟩) hlt).trans c1;have k3:wa.cell? ⟨b1,o1+m*4+3,none⟩=some (.int .i64 L[m].ver):=(hba.cell (p:=⟨b1,o1+m*4+3,none⟩) hbr).trans d3;have k4:wa.cell? ⟨w.heap.size,4,none⟩=some (.int .i64 b):=(hba.cell (p:=⟨w.heap.size,4,none⟩) hlt).trans c4))
     by_cases hver:b<(L[m]).ver
     · have HST:=hid (HY.out hver)
       have hbw2:Below w.heap.size w wa:=hbw.drew.trans (hba.mono hbw.drew.size);go_wp2_with fail;go_ret2;exact⟨_,by rw[Pp.rstE,if_pos (by rw[HCC.out];exact HST.out _ _ _)];rfl,fun h=>by rw[Pp.rstE,if_pos (by rw[HCC.out];exact HST.out _ _ _)]at h;exact absurd h (by decide),hbw2⟩
     · have HST:=hid (Pp.stW_ver (p:=p.data.toList) (b:=b) (e:=L[m]) hver)
       have hbel2:Below w4.heap.size w4 wa:=hbel.drew.trans (hba.mono hbel.drew.size);go_wp2_with fail;go_roundw
       case rel=>exact⟨m+1,by omega,by simp,(fun j h1 h2=>by
        by_cases e:j=m
        · subst e;exact HST.out
        · exact HP.out j h1 (by omega): ∀j (h:j<L.length),j<m+1→Pp.stW p.data.toList b L[j]=false),hbel2⟩
       case measure=>simp[intOf];omega
  · have hN:Pp.stl L C=false:=by
     rw[HCC.out];exact Pp.stl_no hbb (fun j h h0=>HP.out j h (by omega))
    have HN:=hid hN;have hno: ¬m<L.length∨(m<L.length∧ ¬0≤b):=by omega
    clear hN hgo HP hm;rcases hno with hno|⟨hno1,hno2⟩
    all_goals
     go_wp2_with fail;have HBR:=hid hb0r;have HBW:=hid hbw;have hltr:=hlt;have hbr0:=hbw.size;clear c0 c1 c2 c3 c4 hlt hbel hbw hb0r;obtain⟨wf,hwf⟩: ∃wf,wf=wr:=⟨_,rfl⟩
     rw[←hwf];rw[←hwf]at HBR HBW hltr hbr0;clear hwf;go_loopw [12,13] (fun o i wr=> ∃x:Nat,x≤L.length∧i= .int .i64 x∧wr.ownsRow wf.heap.size 72 4 o ((L.take x).filter (fun e=> !Pp.wi p.data.toList e)).length (Pp.flat ((L.take x).filter (fun e=> !Pp.wi p.data.toList e)))∧Below wf.heap.size wf wr) (fun _ i _=>L.length-(intOf i).toNat)
     case atStart=>exact⟨0,Nat.zero_le _,rfl,World.ownsRow_nil _ _ _ _,Below.refl _ _⟩
     case round=>
      obtain⟨x,hx,rfl,hown,hbel⟩:=hrel
      have hbx:=HBR.out.trans (hbel.mono HBR.out.size);obtain⟨c0,c1,c2,c3,c4,hbw,hlt⟩:=bx5 hbx
      by_cases hlx:x<L.length
      · obtain⟨b1,o1,hab,hb1,he⟩:=HL.out x hlx
        subst hab;obtain⟨d0,d1,d2,d3⟩:=he.below hb1 hbw
        have hbr:b1<wr.heap.size:=Nat.lt_of_lt_of_le hb1 hbw.size;have hfl:((L.take x).filter (fun e=> !Pp.wi p.data.toList e)).length≤60:=Nat.le_trans (List.length_filter_le _ _) (by rw[List.length_take];omega);have hstp:=Pp.filter_step (f:=fun e=> !Pp.wi p.data.toList e) hlx;go_wp2_with fail
        go_region_held3 (fun W=>W.cell? ⟨b1,o1+x*4,none⟩=some (.string L[x].path)∧W.cell? ⟨w.heap.size,1,none⟩=some (.string p)) (go_keep) (first
         |(go_at_call 95;refine(isIn_any L[x].path p _ (HS.out _ (List.getElem_mem hlx)) hp).mono ?_;rintro e wa ⟨rfl,hba⟩;have k1:wa.cell? ⟨b1,o1+x*4,none⟩=some (.string L[x].path):=(hba.cell (p:=⟨b1,o1+x*4,none⟩) hbr).trans d0;have k2:wa.cell? ⟨w.heap.size,1,none⟩=some (.string p):=(hba.cell (p:=⟨w.heap.size,1,none⟩) hlt).trans c1))
        have hownA:=Pp.own_below hown.drew hba;have hbelA:Below wf.heap.size wf wa:=hbel.drew.trans (hba.mono hbel.drew.size);have hbwA:Below w.heap.size w wa:=hbw.drew.trans (hba.mono hbw.drew.size);clear c0 c1 c2 c3 c4 hbx hown hbel hbw d0 d1 d2 d3 hlt hbr;cases hin:Pp.wi p.data.toList L[x]with
        |true=>
         have hin2:Pp.isInB (L[x]).path.data.toList p.data.toList=true:=hin;have HST:=hid (show(L.take (x+1)).filter (fun e=> !Pp.wi p.data.toList e)=(L.take x).filter (fun e=> !Pp.wi p.data.toList e)from by rw[hstp];simp[hin]);have HO:=hid hownA;clear hstp hin hownA k1 k2 hba;rw[hin2];clear hin2;go_wp2_with fail;go_roundw
         case rel=>exact⟨x+1,by omega,by simp,by rw[HST.out];exact HO.out,hbelA⟩
         case measure=>simp[intOf];omega
        |false=>
         have hin2:Pp.isInB (L[x]).path.data.toList p.data.toList=false:=hin;have HST:=hid (show(L.take (x+1)).filter (fun e=> !Pp.wi p.data.toList e)=(L.take x).filter (fun e=> !Pp.wi p.data.toList e)++[L[x]]from by rw[hstp];simp[hin]);obtain⟨d0,d1,d2,d3⟩:=he.below hb1 hbwA
         generalize (L.take x).filter (fun e=> !Pp.wi p.data.toList e)=X at*;clear hstp hin k1 k2 hba;rw[hin2];clear hin2;go_wp2_with (at_builtin;refine wpList_append_own _ rfl _ _ 22 rfl wf.heap.size 72 i0 (.agg #[.string ⟨#[]⟩,.bool false,.string ⟨#[]⟩,.int .i64 0]) 4 48 Tryz.underlying22 hi0 hz0 hz1 hz2 rfl (by decide) _ _ _ rfl (hownA.alloc _) ⟨wa.heap.size,0,none⟩ 1 1 (Pp.cells L[x]) rfl rfl (Pp.new_cells wa L[x] _) (Pp.cells_one _) (by unfold maxLen;omega) (by omega) (by have:=hbelA.size;simp at this⊢;omega) ?_)
         intro v2 w2 ho2 hgr2 hnn2;have hbel2:Below wf.heap.size wf w2:=(hbelA.alloc hbelA.size _).grown hgr2 (by have:=hbelA.size;simp at this⊢;omega) (fun g hg=>by have:=(hownA.lt g hg).1;simp;omega);rw[Pp.flat_snoc]at ho2;have hown2:w2.ownsRow wf.heap.size 72 4 v2 (X++[L[x]]).length (Pp.flat (X++[L[x]])):=by rw[List.length_append];exact ho2
         have HO:=hid hown2;clear ho2 hgr2 hnn2 hown2 hownA hbelA hbwA d0 d1 d2 d3 he;go_wp2_with fail;go_roundw
         case rel=>exact⟨x+1,by omega,by simp,by rw[HST.out];exact HO.out,hbel2⟩
         case measure=>simp[intOf];omega
      · have eL:L.take x=L:=List.take_of_length_le (by omega)
        rw[eL]at hown;have HO:=hid hown;clear eL hown;go_wp2_with fail;go_loopw [12,14] (fun o i wr=>i= .int .i64 0∧wr.ownsRow wf.heap.size 72 4 o (L.filter (fun e=> !Pp.wi p.data.toList e)).length (Pp.flat (L.filter (fun e=> !Pp.wi p.data.toList e)))∧Below wf.heap.size wf wr) (fun _ _ _=>0)
        case atStart=>exact⟨rfl,HO.out,hbel⟩
        case round=>
         obtain⟨rfl,hown,hbel⟩:=hrel
         have hbx:=HBR.out.trans (hbel.mono HBR.out.size);clear c0 c1 c2 c3 c4 hbw hlt;obtain⟨c0,c1,c2,c3,c4,hbw,hlt⟩:=bx5 hbx
         have hK:(L.filter (fun e=> !Pp.wi p.data.toList e)).length≤L.length:=List.length_filter_le _ _;have HQ':Hid (Pp.chdR L C n=L.filter (fun e=> !Pp.wi p.data.toList e)):=(HQ.out:Pp.chdR L C n=L.filter (fun e=> !Pp.wi p.data.toList e))
         generalize L.filter (fun e=> !Pp.wi p.data.toList e)=M at*;have HLI:=hid (lies_own hown (by omega));have h60: ¬60<(M.length:Int):=by omega
         have hpos:0<(L.length:Int):=by omega
         have HX:=hid (show Pp.rstE L C n=0 from by rw[Pp.rstE,if_neg (by rw[HN.out];decide),HE.out]);obtain⟨a6,cap6,rfl,hc6,hc6',_⟩:=HLI.out
         clear hown hK hbel hbx;go_wp2_with fail;go_ret2;exact⟨_,by rw[HX.out];rfl,fun _=>by rw[HQ'.out];exact HLI.out,hbw⟩
end Go.Proofs.YtdifomkoegmngaaGreatDoor
