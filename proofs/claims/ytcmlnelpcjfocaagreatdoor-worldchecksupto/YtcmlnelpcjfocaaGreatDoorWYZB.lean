/- What the reference's ChangeOf answers, of changes that move. -/
import Derived.Test.YtcmlnelpcjfocaaGreatDoorWYW
set_option linter.unusedSimpArgs false
set_option linter.unusedVariables false
namespace Go.Proofs.YtcmlnelpcjfocaaGreatDoor
open Go.RowKit Go.Proofs.Tryz
set_option maxHeartbeats 12000000
set_option maxRecDepth 100000
theorem FK (L:List En) (v:Value) (p q t:ByteArray) (b n:Int) (w:World) (hv:an w v L) (hs: ∀e∈L,e.path.size≤1000000000) (hp:p.size≤1000000000) (hq:q.size≤1000000000) (ht:t.size≤1000000000) (hL:Pp.Good L) (hc:aQ ⟨3,p,q,t,b⟩=0) (H0:Hid (aP L (aC q.data.toList)=0)) (j:Nat) (hj:j<L.length) (HI:Hid (db L p.data.toList=(j:Int))) (Kt:Hid (aU q.data.toList p.data.toList=false)) (Kq:Hid (db L q.data.toList= -1)) (Kf:L.find? (aO q.data.toList)=none):
    Calls prog 129 #[v,.agg #[.int .i64 3,.string p,.string q,.string t,.int .i64 b],.int .i64 n] w fun e w'=> ∃u,e= .returned (.tuple #[u,.int .i64 (cz L ⟨3,p,q,t,b⟩ n)])∧(cz L ⟨3,p,q,t,b⟩ n=0→an w' u (cQ L ⟨3,p,q,t,b⟩ n))∧Below w.heap.size w w':=by
 obtain⟨aZ,KE,KH,KI,KJ⟩:=info_parts Tryz.infoE
 have HV:=hid hv;have HC:=hid hc;have HS:=hid hs;have HR:=hid hL.rise;have KW:=hid hL;have KT:L.length≤60:=hL.len;have KB: -1≤b:=(kH hc).2.2.2.1;have Lj:t.size≤1000000000:=by exact ht
 have HE:=hid (show gx L ⟨3,p,q,t,b⟩ n=if(dw L ⟨3,p,q,t,b⟩).any (fun e=>Pp.big (cn ⟨3,p,q,t,b⟩ e))=true then 2 else 0 from rfl);have HQ:=hid (show cQ L ⟨3,p,q,t,b⟩ n=dD L ⟨3,p,q,t,b⟩ n L.length from(Dg L ⟨3,p,q,t,b⟩ n).symm);have JT:=hid (show dD L ⟨3,p,q,t,b⟩ n 0=L.filter (fun e=> !be p.data.toList e)from rfl);have Kc:az p.data.toList=0:=iJ hc;have JK:az q.data.toList=0:=me hc rfl;have HD:Hid ((cW L ⟨3,p,q,t,b⟩++fB L ⟨3,p,q,t,b⟩ n).Pairwise gJ):=qg hL n (n9 JK) Kf;have Lo:p.size≤80:=by rw[Lib.size_eq];exact kK Kc
 have Lq:q.size≤80:=by rw[Lib.size_eq];exact kK JK
 have Ko:=hid (show∀e∈L,e.path.size≤80 from fun e he=>by rw[Lib.size_eq];exact kK (gv (hL.ents e he)));have Jz:=hid (show∀y (h:y<L.length),be p.data.toList L[y]=true→Pp.putR (bx ⟨3,p,q,t,b⟩ n L[y]) (dD L ⟨3,p,q,t,b⟩ n y)=dD L ⟨3,p,q,t,b⟩ n (y+1)from fun y h hw=>Di hL HD.out h hw);have Jh:=hid (show∀y (h:y<L.length),be p.data.toList L[y]=false→dD L ⟨3,p,q,t,b⟩ n (y+1)=dD L ⟨3,p,q,t,b⟩ n y from fun y h hw=>Dh h hw);have J2:=hid (show∀y,(dD L ⟨3,p,q,t,b⟩ n y).length≤L.length from fun y=>Dj L _ n y);have Lh:(j:Int)<L.length:=by omega
 clear Kc JK Kf;obtain⟨a,KY,rfl,KP,KD,K2⟩:=hv
 have HL:Hid (∀i (h:i<L.length),∃b o,a=some ⟨b,o,none⟩∧b<w.heap.size∧dp w b (o+i*4) L[i]):=K2;obtain⟨C,hC⟩: ∃C:ay,C=⟨3,p,q,t,b⟩:=⟨_,rfl⟩
 rw[←hC]at HC HE HQ JT HD Jz Jh J2⊢;have IP:=hid hC;clear hC K2 hL hs hc;go_enter func129,ntmps129
 go_wp2_with fail;refine(gP _ p q _ b _ hp hq (by omega)).mono ?_
 rintro e w1 ⟨rfl,IE⟩;rw[←IP.out,HC.out];obtain⟨c0,c1,c2,c3,c4,J,Ix⟩:=aw IE
 go_wp2_with fail;refine(gB q _ hq).mono ?_
 rintro e w2 ⟨rfl,K5⟩;have J3:=IE.trans (K5.mono IE.size);clear c0 c1 c2 c3 c4 J Ix IE K5;obtain⟨c0,c1,c2,c3,c4,J,Ix⟩:=aw J3
 go_wp2_with fail;refine(gD L _ ⟨(aC q.data.toList).toArray⟩ _ (HV.out.below J)).mono ?_
 rintro e w3 ⟨rfl,K6⟩;rw[show aP L _=0 from H0.out];have J4:=J3.trans (K6.mono J3.size);clear c0 c1 c2 c3 c4 J Ix J3 K6;obtain⟨c0,c1,c2,c3,c4,J,Ix⟩:=aw J4
 go_wp2_with fail;refine(fR L _ p _ (HV.out.below J)).mono ?_
 rintro e w4 ⟨rfl,K7⟩;rw[HI.out];have J5:=J4.trans (K7.mono J4.size);clear c0 c1 c2 c3 c4 J Ix J4 K7;obtain⟨c0,c1,c2,c3,c4,J,Ix⟩:=aw J5
 go_wp2_with fail;refine(fX q p _ hq hp).mono ?_
 rintro e w5 ⟨rfl,H⟩;rw[Kt.out];have J6:=J5.trans (H.mono J5.size);clear c0 c1 c2 c3 c4 J Ix J5 H;obtain⟨c0,c1,c2,c3,c4,J,Ix⟩:=aw J6
 go_wp2_with fail;refine(fR L _ q _ (HV.out.below J)).mono ?_
 rintro e w6 ⟨rfl,K8⟩;rw[Kq.out];have JA:=J6.trans (K8.mono J6.size);clear c0 c1 c2 c3 c4 J Ix J6 K8;obtain⟨c0,c1,c2,c3,c4,J,Ix⟩:=aw JA
 have HB:=hid JA;go_wp2_with fail;clear c0 c1 c2 c3 c4 J Ix;go_loopw [11] (fun i wr=> ∃m:Nat,m≤L.length∧i= .int .i64 m∧Hid (∀j (h:j<L.length),j<m→dd p.data.toList b L[j]=false)∧(b<0→m=0)∧Below w6.heap.size w6 wr) (fun i _=>L.length-(intOf i).toNat)
 case atStart=>exact⟨0,Nat.zero_le _,rfl,(fun j _ h=>absurd h (Nat.not_lt_zero _): ∀j (h:j<L.length),j<0→dd p.data.toList b L[j]=false),fun _=>rfl,Below.refl _ _⟩
 case round=>
  obtain⟨m,hm,rfl,HP,KG,V⟩:=hrel
  have Ji:=HB.out.trans (V.mono HB.out.size);obtain⟨c0,c1,c2,c3,c4,J,Ix⟩:=aw Ji
  clear KG;go_upto_region 22 with fail;go_cut [100] (fun t W=>t= .bool (decide (m<L.length∧0≤b))∧W=wr)
  case first=>
   by_cases h1:m<L.length
   · have Ky:(m:Int)<L.length:=by omega
     by_cases h2:0≤b
     · have HD:=hid (decide_eq_true (p:=m<L.length∧0≤b) ⟨h1,h2⟩)
       go_wp2_with fail;go_meet
       case rel=>exact⟨by rw[HD.out],rfl⟩
     · have HD:=hid (decide_eq_false (p:=m<L.length∧0≤b) (fun h=>h2 h.2))
       go_wp2_with fail;go_meet
       case rel=>exact⟨by rw[HD.out],rfl⟩
   · have Ky: ¬(m:Int)<L.length:=by omega
     have HD:=hid (decide_eq_false (p:=m<L.length∧0≤b) (fun h=>h1 h.1));go_wp2_with fail;go_meet
     case rel=>exact⟨by rw[HD.out],rfl⟩
  case rest=>
  obtain⟨rfl,Kd⟩:=hcut
  have Ke:=Kd.symm;subst Ke;clear Kd;by_cases Jv:m<L.length∧0≤b
  · rw[decide_eq_true Jv]
    obtain⟨Jw,KA⟩:=Jv
    obtain⟨b1,o1,Je,IE,he⟩:=HL.out m Jw
    first|subst Je|(have K4:=Option.some.inj Je;injection K4 with e1 aE e3;have Kw:=e1.symm;have Kx:=aE.symm;subst Kw;subst Kx)
    obtain⟨d0,d1,d2,d3⟩:=he.below IE J
    have IU:b1<wr.heap.size:=Nat.lt_of_lt_of_le IE J.size;cases Iw:aU (L[m]).path.data.toList p.data.toList with
    |false=>
     have Jd:=hid Iw;have II:=hid (nI (b:=b) (e:=L[m]) Iw);clear Iw;go_wp2_with fail;refine wp_region_held_drew (S:=fun W=>W.cell? ⟨b1,o1+m*4,none⟩=some (.string L[m].path)∧W.cell? ⟨w.heap.size,1,none⟩=some (.string p)) (by kernel_rfl) ⟨by simpa using d0,by simpa using c1⟩ (fun E=>?_)
     refine wpAnyH_take (i:=0) (oi:=⟨some 103,Op.move (Operand.tmp 0),44,_,_,none⟩) (v:=?_) rfl (by kernel_rfl) (by kernel_rfl) (by kernel_rfl) (fun _ _ _ h=>h) (Or.inl ⟨by rfl,?_⟩) E ?_
     rotate_left
     · (intro W Q;obtain⟨s0,s1⟩:=Q;go_simp<;>with_reducible rfl)
     simp only[Act.put,List.setIfInBounds_toArray,List.set_cons_zero,List.set_cons_succ];refine wpAnyH_take (i:=1) (oi:=⟨some 104,Op.move (Operand.tmp 11),3,_,_,none⟩) (v:=?_) rfl (by kernel_rfl) (by kernel_rfl) (by kernel_rfl) (fun _ _ _ h=>h) (Or.inl ⟨by rfl,?_⟩) E ?_
     rotate_left
     · (intro W Q;obtain⟨s0,s1⟩:=Q;go_simp<;>with_reducible rfl)
     simp only[Act.put,List.setIfInBounds_toArray,List.set_cons_zero,List.set_cons_succ];refine wpAnyH_take (i:=2) (oi:=⟨some 105,Op.indexAddr 44 (Operand.tmp 103) (Operand.tmp 104),0,_,_,none⟩) (v:=?_) rfl (by kernel_rfl) (by kernel_rfl) (by kernel_rfl) (fun _ _ _ h=>h) (Or.inl ⟨by rfl,?_⟩) E ?_
     rotate_left
     · (intro W Q;obtain⟨s0,s1⟩:=Q;go_simp<;>with_reducible rfl)
     simp only[Act.put,List.setIfInBounds_toArray,List.set_cons_zero,List.set_cons_succ];refine wpAnyH_take (i:=3) (oi:=⟨some 106,Op.fieldAddr 107 (Operand.tmp 105) 0,0,_,_,none⟩) (v:=?_) rfl (by kernel_rfl) (by kernel_rfl) (by kernel_rfl) (fun _ _ _ h=>h) (Or.inl ⟨by rfl,?_⟩) E ?_
     rotate_left
     · (intro W Q;obtain⟨s0,s1⟩:=Q;go_simp<;>with_reducible rfl)
     simp only[Act.put,List.setIfInBounds_toArray,List.set_cons_zero,List.set_cons_succ];refine wpAnyH_take (i:=4) (oi:=⟨some 107,Op.load 9 (Operand.tmp 106),9,_,_,none⟩) (v:=?_) rfl (by kernel_rfl) (by kernel_rfl) (by kernel_rfl) (fun _ _ _ h=>h) (Or.inl ⟨by rfl,?_⟩) E ?_
     rotate_left
     · (intro W Q;obtain⟨s0,s1⟩:=Q;go_simp<;>with_reducible rfl)
     simp only[Act.put,List.setIfInBounds_toArray,List.set_cons_zero,List.set_cons_succ];refine wpAnyH_take (i:=5) (oi:=⟨some 108,Op.fieldAddr 72 (Operand.tmp 4) 1,0,_,_,none⟩) (v:=?_) rfl (by kernel_rfl) (by kernel_rfl) (by kernel_rfl) (fun _ _ _ h=>h) (Or.inl ⟨by rfl,?_⟩) E ?_
     rotate_left
     · (intro W Q;obtain⟨s0,s1⟩:=Q;go_simp<;>with_reducible rfl)
     simp only[Act.put,List.setIfInBounds_toArray,List.set_cons_zero,List.set_cons_succ];refine wpAnyH_take (i:=6) (oi:=⟨some 109,Op.load 9 (Operand.tmp 108),9,_,_,none⟩) (v:=?_) rfl (by kernel_rfl) (by kernel_rfl) (by kernel_rfl) (fun _ _ _ h=>h) (Or.inl ⟨by rfl,?_⟩) E ?_
     rotate_left
     · (intro W Q;obtain⟨s0,s1⟩:=Q;go_simp<;>with_reducible rfl)
     simp only[Act.put,List.setIfInBounds_toArray,List.set_cons_zero,List.set_cons_succ];refine wpAnyH_ready (rs:=[7]) (by kernel_rfl) (by simp) ?_
     refine AllReadyH.cons (o:=⟨some 110,Op.call ⟨Callee.value (Operand.func 163),#[Operand.tmp 107,Operand.tmp 109],#[9,9]⟩,4,_,_,none⟩) rfl (fun K G=>?_) AllReadyH.nil
     go_simp
     refine(fX L[m].path p _ (HS.out _ (List.getElem_mem Jw)) hp).mono ?_
     rintro e T ⟨rfl,I7⟩;rw[Jd.out];have k1:T.cell? ⟨b1,o1+m*4,none⟩=some (.string L[m].path):=(I7.cell (p:=⟨b1,o1+m*4,none⟩) IU).trans d0;have k2:T.cell? ⟨w.heap.size,1,none⟩=some (.string p):=(I7.cell (p:=⟨w.heap.size,1,none⟩) Ix).trans c1;go_wp2_with fail;refine G.out _ _ ⟨k1,k2⟩ (fun E=>?_)
     clear G K;try simp only[Act.put,List.setIfInBounds_toArray,List.set_cons_zero,List.set_cons_succ]
     refine wpAnyH_take (i:=8) (oi:=⟨some 111,Op.move (Operand.tmp 110),4,_,_,none⟩) (v:=?_) rfl (by kernel_rfl) (by kernel_rfl) (by kernel_rfl) (fun _ _ _ h=>h) (Or.inl ⟨by rfl,?_⟩) E ?_
     rotate_left
     · (intro W Q;obtain⟨s0,s1⟩:=Q;go_simp<;>with_reducible rfl)
     simp only[Act.put,List.setIfInBounds_toArray,List.set_cons_zero,List.set_cons_succ];refine mu (g:=8) (dg:=111) (by kernel_rfl) (by kernel_rfl) (fun _ _ _ _ _ h=>h) E (fuel:=1) [(9,112),(10,113),(11,114),(12,115),(13,116),(14,117),(15,118),(16,119)] _ _ (by kernel_rfl) (by kernel_rfl) ?_
     simp only[lD,lE,Act.put,List.setIfInBounds_toArray,List.set_cons_zero,List.set_cons_succ];refine wpAnyH_take (i:=17) (oi:=⟨some 120,Op.pick (Operand.tmp 111) (Operand.tmp 119) (Operand.const (Value.bool false)),4,_,_,none⟩) (v:=?_) rfl (by kernel_rfl) (by kernel_rfl) (by kernel_rfl) (fun _ _ _ h=>h) (Or.inl ⟨by rfl,?_⟩) E ?_
     rotate_left
     · (intro W Q;obtain⟨s0,s1⟩:=Q;go_simp<;>with_reducible rfl)
     simp only[Act.put,List.setIfInBounds_toArray,List.set_cons_zero,List.set_cons_succ];refine wpAnyH_done (by kernel_rfl) ?_ _
     have IL:Below w6.heap.size w6 T:=V.drew.trans (I7.mono V.drew.size);go_wp2_with fail;go_roundw
     case rel=>exact⟨m+1,by omega,by simp,(fun j h1 h2=>by
      by_cases e:j=m
      · subst e;exact II.out
      · exact HP.out j h1 (by omega): ∀j (h:j<L.length),j<m+1→dd p.data.toList b L[j]=false),fun h=>absurd h (by omega),IL⟩
     case measure=>simp[intOf];omega
    |true=>
     have Jd:=hid Iw;have HY:=hid (show b<(L[m]).ver→ ∀(k:Int) (q t:ByteArray),dP L ⟨k,p,q,t,b⟩=true from fun Jb k q t=>nH KA Jw Iw Jb);clear Iw;go_wp2_with fail
     go_region_held3 (fun W=>W.cell? ⟨b1,o1+m*4,none⟩=some (.string L[m].path)∧W.cell? ⟨w.heap.size,1,none⟩=some (.string p)∧W.cell? ⟨b1,o1+m*4+3,none⟩=some (.int .i64 L[m].ver)∧W.cell? ⟨w.heap.size,4,none⟩=some (.int .i64 b)) (go_keep) (first
      |(go_at_call 163;refine(fX L[m].path p _ (HS.out _ (List.getElem_mem Jw)) hp).mono ?_;rintro e T ⟨rfl,I7⟩;rw[Jd.out];have k1:T.cell? ⟨b1,o1+m*4,none⟩=some (.string L[m].path):=(I7.cell (p:=⟨b1,o1+m*4,none⟩) IU).trans d0;have k2:T.cell? ⟨w.heap.size,1,none⟩=some (.string p):=(I7.cell (p:=⟨w.heap.size,1,none⟩) Ix).trans c1;have k3:T.cell? ⟨b1,o1+m*4+3,none⟩=some (.int .i64 L[m].ver):=(I7.cell (p:=⟨b1,o1+m*4+3,none⟩) IU).trans d3;have k4:T.cell? ⟨w.heap.size,4,none⟩=some (.int .i64 b):=(I7.cell (p:=⟨w.heap.size,4,none⟩) Ix).trans c4))
     by_cases Jb:b<(L[m]).ver
     · have II:=hid (HY.out Jb)
       have Ka:Below w.heap.size w T:=J.drew.trans (I7.mono J.drew.size);go_wp2_with fail;go_ret2;exact⟨_,by rw[cz,if_pos (by rw[IP.out];exact II.out _ _ _)];rfl,fun h=>by rw[cz,if_pos (by rw[IP.out];exact II.out _ _ _)]at h;exact absurd h (by decide),Ka⟩
     · have II:=hid (nJ (p:=p.data.toList) (b:=b) (e:=L[m]) Jb)
       have IL:Below w6.heap.size w6 T:=V.drew.trans (I7.mono V.drew.size);go_wp2_with fail;go_roundw
       case rel=>exact⟨m+1,by omega,by simp,(fun j h1 h2=>by
        by_cases e:j=m
        · subst e;exact II.out
        · exact HP.out j h1 (by omega): ∀j (h:j<L.length),j<m+1→dd p.data.toList b L[j]=false),fun h=>absurd h (by omega),IL⟩
       case measure=>simp[intOf];omega
  · have hN:dP L C=false:=by
     rw[IP.out];exact nG KB (fun j h h0=>HP.out j h (by omega))
    have HN:=hid hN;rw[decide_eq_false Jv];clear hN Jv HP hm
    all_goals
     go_wp2_with fail;have JG:=hid Ji;have Kn:=hid J;have Ki:=Ix;have K9:=J.size;clear c0 c1 c2 c3 c4 Ix V J Ji;obtain⟨wf,JP⟩: ∃wf,wf=wr:=⟨_,rfl⟩
     rw[←JP];rw[←JP]at JG Kn Ki K9;clear JP;go_loopw [12,13] (fun o i wr=> ∃x:Nat,x≤L.length∧i= .int .i64 x∧wr.ownsRow wf.heap.size 107 4 o ((L.take x).filter (fun e=> !be p.data.toList e)).length (cr ((L.take x).filter (fun e=> !be p.data.toList e)))∧Below wf.heap.size wf wr) (fun _ i _=>L.length-(intOf i).toNat)
     case atStart=>exact⟨0,Nat.zero_le _,rfl,World.ownsRow_nil _ _ _ _,Below.refl _ _⟩
     case round=>
      obtain⟨x,hx,rfl,IX,V⟩:=hrel
      have Jk:=JG.out.trans (V.mono JG.out.size);obtain⟨c0,c1,c2,c3,c4,J,Ix⟩:=aw Jk
      by_cases JL:x<L.length
      · obtain⟨b1,o1,Je,IE,he⟩:=HL.out x JL
        subst Je;obtain⟨d0,d1,d2,d3⟩:=he.below IE J
        have IU:b1<wr.heap.size:=Nat.lt_of_lt_of_le IE J.size;have Lb:((L.take x).filter (fun e=> !be p.data.toList e)).length≤60:=Nat.le_trans (List.length_filter_le _ _) (by rw[List.length_take];omega);have Ja:=oN (f:=fun e=> !be p.data.toList e) JL;go_wp2_with fail
        go_region_held3 (fun W=>W.cell? ⟨b1,o1+x*4,none⟩=some (.string L[x].path)∧W.cell? ⟨w.heap.size,1,none⟩=some (.string p)) (go_keep) (first
         |(go_at_call 163;refine(fX L[x].path p _ (HS.out _ (List.getElem_mem JL)) hp).mono ?_;rintro e T ⟨rfl,I7⟩;have k1:T.cell? ⟨b1,o1+x*4,none⟩=some (.string L[x].path):=(I7.cell (p:=⟨b1,o1+x*4,none⟩) IU).trans d0;have k2:T.cell? ⟨w.heap.size,1,none⟩=some (.string p):=(I7.cell (p:=⟨w.heap.size,1,none⟩) Ix).trans c1))
        have IN:=gK IX.drew I7;have I0:Below wf.heap.size wf T:=V.drew.trans (I7.mono V.drew.size);have JC:Below w.heap.size w T:=J.drew.trans (I7.mono J.drew.size);clear c0 c1 c2 c3 c4 Jk IX V J d0 d1 d2 d3 Ix IU;cases Iw:be p.data.toList L[x]with
        |true=>
         have Iz:aU (L[x]).path.data.toList p.data.toList=true:=Iw;have II:=hid (show(L.take (x+1)).filter (fun e=> !be p.data.toList e)=(L.take x).filter (fun e=> !be p.data.toList e)from by rw[Ja];simp[Iw]);have HO:=hid IN;clear Ja Iw IN k1 k2 I7;rw[Iz];clear Iz;go_wp2_with fail;go_roundw
         case rel=>exact⟨x+1,by omega,by simp,by rw[II.out];exact HO.out,I0⟩
         case measure=>simp[intOf];omega
        |false=>
         have Iz:aU (L[x]).path.data.toList p.data.toList=false:=Iw;have II:=hid (show(L.take (x+1)).filter (fun e=> !be p.data.toList e)=(L.take x).filter (fun e=> !be p.data.toList e)++[L[x]]from by rw[Ja];simp[Iw]);obtain⟨d0,d1,d2,d3⟩:=he.below IE JC
         generalize (L.take x).filter (fun e=> !be p.data.toList e)=X at*;clear Ja Iw k1 k2 I7;rw[Iz];clear Iz;go_wp2_with (at_builtin;refine wpList_append_own _ rfl _ _ 44 rfl wf.heap.size 107 aZ (.agg #[.string ⟨#[]⟩,.bool false,.string ⟨#[]⟩,.int .i64 0]) 4 48 underlying44 KE KH KI KJ rfl (by decide) _ _ _ rfl (IN.alloc _) ⟨T.heap.size,0,none⟩ 1 1 (Pp.cells L[x]) rfl rfl (ia T L[x] _) (Pp.cells_one _) (by unfold maxLen;omega) (by omega) (by have:=I0.size;simp at this⊢;omega) ?_)
         intro v2 w2 JM JD Kj;have IL:Below wf.heap.size wf w2:=(I0.alloc I0.size _).grown JD (by have:=I0.size;simp at this⊢;omega) (fun g hg=>by have:=(IN.lt g hg).1;simp;omega);rw[iq]at JM;have Jm:w2.ownsRow wf.heap.size 107 4 v2 (X++[L[x]]).length (cr (X++[L[x]])):=by rw[List.length_append];exact JM
         have HO:=hid Jm;clear JM JD Kj Jm IN I0 JC d0 d1 d2 d3 he;go_wp2_with fail;go_roundw
         case rel=>exact⟨x+1,by omega,by simp,by rw[II.out];exact HO.out,IL⟩
         case measure=>simp[intOf];omega
      · have eL:L.take x=L:=List.take_of_length_le (by omega)
        rw[eL]at IX;have HO:=hid IX;clear eL IX;go_wp2_with fail;have K1:=(JT.out▸hid (kP HO.out (by have:=List.length_filter_le (fun e=> !be p.data.toList e) L;omega)):Hid (an wr _ (dD L C n 0)))
        clear HO;obtain⟨wg,Kl⟩: ∃wg,wg=wr:=⟨_,rfl⟩
        rw[←Kl]at K1 V Jk J Ix⊢;clear c0 c1 c2 c3 c4 Kl;have Jc:=hid Jk;clear Jk V J;go_loopw [12,14] (fun o i wr=> ∃y:Nat,y≤L.length∧i= .int .i64 y∧Hid (an wr o (dD L C n y))∧Hid (∀j (h:j<L.length),j<y→be p.data.toList L[j]=true→Pp.big (cn C L[j])=false)∧Below wg.heap.size wg wr) (fun _ i _=>L.length-(intOf i).toNat)
        case atStart=>exact⟨0,Nat.zero_le _,rfl,K1,(fun j _ h=>absurd h (Nat.not_lt_zero _): ∀j (h:j<L.length),j<0→be p.data.toList L[j]=true→Pp.big (cn C L[j])=false),Below.refl _ _⟩
        case round=>
         obtain⟨y,hy,rfl,HU,Jq,V⟩:=hrel
         have Jl:=Jc.out.trans (V.mono Jc.out.size);obtain⟨c0,c1,c2,c3,c4,J,IF⟩:=aw Jl
         by_cases Jf:y<L.length
         · obtain⟨b1,o1,Je,IE,he⟩:=HL.out y Jf
           subst Je;obtain⟨d0,d1,d2,d3⟩:=he.below IE J
           have IU:b1<wr.heap.size:=Nat.lt_of_lt_of_le IE J.size;go_wp2_with fail
           go_region_held3 (fun W=>W.cell? ⟨b1,o1+y*4,none⟩=some (.string L[y].path)∧W.cell? ⟨w.heap.size,1,none⟩=some (.string p)) (go_keep) (first
            |(go_at_call 163;refine(fX L[y].path p _ (HS.out _ (List.getElem_mem Jf)) hp).mono ?_;rintro e T ⟨rfl,I7⟩;have k1:T.cell? ⟨b1,o1+y*4,none⟩=some (.string L[y].path):=(I7.cell (p:=⟨b1,o1+y*4,none⟩) IU).trans d0;have k2:T.cell? ⟨w.heap.size,1,none⟩=some (.string p):=(I7.cell (p:=⟨w.heap.size,1,none⟩) IF).trans c1))
           have I0:Below wg.heap.size wg T:=V.drew.trans (I7.mono V.drew.size);have JX:=hid (HU.out.below ((Below.refl _ _).drew.trans I7));clear c0 c1 c2 c3 c4 Jl V J d0 d1 d2 d3 IF IU HU k1 k2 I7;have Jl:=Jc.out.trans (I0.mono Jc.out.size);obtain⟨c0,c1,c2,c3,c4,J,IF⟩:=aw Jl
           cases Iw:be p.data.toList L[y]with
           |false=>
            have Iz:aU (L[y]).path.data.toList p.data.toList=false:=Iw;have II:=hid (Jh.out y Jf Iw)
            have Jg:=hid (show∀j (h:j<L.length),j<y+1→be p.data.toList L[j]=true→Pp.big (cn C L[j])=false from fun j h1 h2 h3=>by
             by_cases e:j=y
             · subst e;rw[Iw]at h3;cases h3
             · exact Jq.out j h1 (by omega) h3)
            clear Iw;rw[Iz];clear Iz;go_wp2_with fail;go_roundw
            case rel=>exact⟨y+1,by omega,by simp,(by rw[II.out];exact JX.out:an _ _ (dD L C n (y+1))),Jg,I0⟩
            case measure=>simp[intOf];omega
           |true=>
            have Iz:aU (L[y]).path.data.toList p.data.toList=true:=Iw;have Jd:=hid Iw;obtain⟨d0,d1,d2,d3⟩:=he.below IE J
            have Lp:(L[y]).path.size≤80:=Ko.out _ (List.getElem_mem Jf);have HJ:=hid (show cB (aj q.data.toList++(aj (L[y]).path.data.toList).drop (aj p.data.toList).length)=cn C L[y]from by rw[IP.out];exact zM _ Iz)
            have Li:(cn C L[y]).length≤160:=by
             rw[IP.out];have:=uB (L[y]).path.data.toList p.data.toList q.data.toList
             rw[←Lib.size_eq,←Lib.size_eq]at this;exact Nat.le_trans this (by omega)
            have Lc:(aj p.data.toList).length≤(aj (L[y]).path.data.toList).length:=by
             have:(aj p.data.toList).isPrefixOf (aj (L[y]).path.data.toList)=true:=Iz
             exact(List.isPrefixOf_iff_prefix.1 this).length_le
            have Lm:(aj q.data.toList).length≤q.size+1:=by have:=jP q.data.toList;rwa [←Lib.size_eq]at this
            have Ln:(aj (L[y]).path.data.toList).length≤(L[y]).path.size+1:=by have:=jP (L[y]).path.data.toList;rwa [←Lib.size_eq]at this
            have KX:=hid (show bx C n L[y]=⟨⟨(cn C L[y]).toArray⟩,L[y].folder,L[y].text,(bx C n L[y]).ver⟩from rfl);obtain⟨dc,IQ,IR,IS,IT⟩:=info_parts Tryz.infoS
            rw[Iz];clear Iw Iz;go_upto_if 173 with fail;go_cut [15] (fun x W=>x= .pointer (some ⟨T.heap.size,0,none⟩)∧Hid (W.cell? ⟨T.heap.size,0,none⟩=some (.string L[y].path)∧W.cell? ⟨T.heap.size,1,none⟩=some (.bool L[y].folder)∧W.cell? ⟨T.heap.size,2,none⟩=some (.string L[y].text)∧W.cell? ⟨T.heap.size,3,none⟩=some (.int .i64 (bx C n L[y]).ver)∧W.frozen? ⟨T.heap.size,0,none⟩=false)∧Below T.heap.size T W∧T.heap.size<W.heap.size)
            case first=>
             cases Jx:((L[y]).path.toList==p.toList)with
             |true=>
              have JO:(bx C n L[y]).ver=n:=by
               rw[IP.out];have Jp:(L[y]).path.data.toList=p.data.toList:=by rw[Lib.toList_data,Lib.toList_data]at Jx;simpa using Jx
               exact if_pos Jp
              go_wp2_with fail;go_meet
              case rel=>exact⟨rfl,⟨by simp,by simp,by simp,by rw[JO];simp,World.frozen?_alloc_at _ _ _ _ rfl⟩,(Below.refl _ _).alloc (Nat.le_refl _) _,by simp⟩
             |false=>
              have JO:(bx C n L[y]).ver=(L[y]).ver:=by
               rw[IP.out];have Jp: ¬(L[y]).path.data.toList=p.data.toList:=fun e=>by rw[Lib.toList_data,Lib.toList_data,e]at Jx;simp at Jx
               exact if_neg Jp
              go_wp2_with fail;go_meet
              case rel=>exact⟨rfl,⟨by simp,by simp,by simp,by rw[JO];simp,World.frozen?_alloc_at _ _ _ _ rfl⟩,(Below.refl _ _).alloc (Nat.le_refl _) _,by simp⟩
            case rest=>
             obtain⟨rfl,K0,Jt,ID⟩:=hcut
             obtain⟨O,Km⟩: ∃O,O=wc:=⟨_,rfl⟩
             rw[←Km]at K0 Jt ID⊢;obtain⟨x0,x1,aY,x3,Kg⟩:=K0.out
             go_upto_region 40 with fail;have d:w.heap.size<O.heap.size:=Nat.lt_trans IF ID;have s1:O.cell? ⟨w.heap.size,1,none⟩=some (.string p):=(Jt.cell (p:=⟨w.heap.size,1,none⟩) IF).trans c1;have s2:O.cell? ⟨w.heap.size,2,none⟩=some (.string q):=(Jt.cell (p:=⟨w.heap.size,2,none⟩) IF).trans c2;have Ku:=c1;have Kv:=c2;have Lg:wg.heap.size≤T.heap.size:=I0.size;have IY:Below O.heap.size O O.drew:=(Below.refl _ _).drew;clear c0 c1 c2 c3 c4 Jl J Km d0 d1 d2 d3 he;refine wp_region_held_drew (S:=fun W=>W.cell? ⟨w.heap.size,1,none⟩=some (.string p)∧W.cell? ⟨w.heap.size,2,none⟩=some (.string q)) (by kernel_rfl) ⟨by simpa using s1,by simpa using s2⟩ (fun E=>?_)
             change wpAnyH _ _ _ _ _ 17 #[false,false,false,false,false,false,false,false,false,false,false,false,false,false,false,false,false] _ _
             refine wpAnyH_take (i:=1) (oi:=⟨some 177,Op.fieldAddr 72 (Operand.tmp 4) 2,0,_,_,none⟩) (v:=?_) rfl (by kernel_rfl) (by kernel_rfl) (by kernel_rfl) (fun _ _ _ h=>h) (Or.inl ⟨by rfl,?_⟩) E ?_
             rotate_left
             · (intro W Q;obtain⟨t1,t2⟩:=Q;go_simp<;>with_reducible rfl)
             try simp only[Act.put,List.setIfInBounds_toArray,List.set_cons_zero,List.set_cons_succ]
             refine wpAnyH_take (i:=2) (oi:=⟨some 178,Op.load 9 (Operand.tmp 177),9,_,_,none⟩) (v:=?_) rfl (by kernel_rfl) (by kernel_rfl) (by kernel_rfl) (fun _ _ _ h=>h) (Or.inl ⟨by rfl,?_⟩) E ?_
             rotate_left
             · (intro W Q;obtain⟨t1,t2⟩:=Q;go_simp<;>with_reducible rfl)
             try simp only[Act.put,List.setIfInBounds_toArray,List.set_cons_zero,List.set_cons_succ]
             refine wpAnyH_take (i:=5) (oi:=⟨some 181,Op.fieldAddr 107 (Operand.tmp 15) 0,0,_,_,none⟩) (v:=?_) rfl (by kernel_rfl) (by kernel_rfl) (by kernel_rfl) (fun _ _ _ h=>h) (Or.inl ⟨by rfl,?_⟩) E ?_
             rotate_left
             · (intro W Q;obtain⟨t1,t2⟩:=Q;go_simp<;>with_reducible rfl)
             try simp only[Act.put,List.setIfInBounds_toArray,List.set_cons_zero,List.set_cons_succ]
             refine wpAnyH_take (i:=8) (oi:=⟨some 184,Op.fieldAddr 72 (Operand.tmp 4) 1,0,_,_,none⟩) (v:=?_) rfl (by kernel_rfl) (by kernel_rfl) (by kernel_rfl) (fun _ _ _ h=>h) (Or.inl ⟨by rfl,?_⟩) E ?_
             rotate_left
             · (intro W Q;obtain⟨t1,t2⟩:=Q;go_simp<;>with_reducible rfl)
             try simp only[Act.put,List.setIfInBounds_toArray,List.set_cons_zero,List.set_cons_succ]
             refine wpAnyH_take (i:=9) (oi:=⟨some 185,Op.load 9 (Operand.tmp 184),9,_,_,none⟩) (v:=?_) rfl (by kernel_rfl) (by kernel_rfl) (by kernel_rfl) (fun _ _ _ h=>h) (Or.inl ⟨by rfl,?_⟩) E ?_
             rotate_left
             · (intro W Q;obtain⟨t1,t2⟩:=Q;go_simp<;>with_reducible rfl)
             try simp only[Act.put,List.setIfInBounds_toArray,List.set_cons_zero,List.set_cons_succ]
             refine wS (p:=?_) (fun rest=>?_) ?_
             rotate_left
             · refine wpAnyH_ready (rs:=[0,3,6]) (by kernel_rfl) (by simp) ?_
               refine AllReadyH.cons (o:=⟨some 176,Op.buildSlice 96 0 #[],96,_,_,none⟩) rfl (fun K G=>?_) (AllReadyH.cons (o:=⟨some 179,Op.call ⟨Callee.value (Operand.func 111),#[Operand.tmp 178],#[9]⟩,96,_,_,none⟩) rfl (fun K G=>?_) (AllReadyH.cons (o:=⟨some 182,Op.load 9 (Operand.tmp 181),9,_,_,none⟩) rfl (fun K G=>?_) AllReadyH.nil))
               · go_simp
                 generalize Iv:(World.alloc O (.cells #[] 9)).drew=wz;have F:Below O.heap.size O wz:=Iv▸((Below.refl _ _).alloc (Nat.le_refl _) _).drew;have I:wz.ownsRow O.heap.size 9 1 (.slice (some ⟨O.heap.size,0,none⟩) 0 0) 0 []:=Iv▸(World.ownsRow_made O #[] 0 (Nat.le_refl _) (by decide) rfl).drew;clear Iv;generalize Value.slice (some (Addr.mk _ 0 none)) 0 0=IA at I⊢;refine G.out _ _ ⟨(F.cell (p:=⟨w.heap.size,1,none⟩) d).trans s1,(F.cell (p:=⟨w.heap.size,2,none⟩) d).trans s2⟩ (fun z=>?_)
                 clear z G K;try simp only[Act.put,List.setIfInBounds_toArray,List.set_cons_zero,List.set_cons_succ]
                 refine wpAnyH_ready (rs:=[3,6]) (by kernel_rfl) (by simp) ?_
                 refine AllReadyH.cons (o:=⟨some 179,Op.call ⟨Callee.value (Operand.func 111),#[Operand.tmp 178],#[9]⟩,96,_,_,none⟩) rfl (fun K G=>?_) (AllReadyH.cons (o:=⟨some 182,Op.load 9 (Operand.tmp 181),9,_,_,none⟩) rfl (fun K G=>?_) AllReadyH.nil)
                 · go_simp
                   refine(gO q _ (by omega)).mono ?_
                   rintro e wn ⟨g4,Iy,rfl,IC,I5,IJ,I8,N,Y⟩;go_wp2_with fail;have A:Below O.heap.size O wn:=F.trans (Y.mono F.size);have U:=hid N;clear N;have IG:=gK I Y;clear I;have I:=IG;clear IG;clear Y;refine G.out _ _ ⟨(A.cell (p:=⟨w.heap.size,1,none⟩) d).trans s1,(A.cell (p:=⟨w.heap.size,2,none⟩) d).trans s2⟩ (fun z=>?_)
                   clear z G K;try simp only[Act.put,List.setIfInBounds_toArray,List.set_cons_zero,List.set_cons_succ]
                   refine wpAnyH_ready (rs:=[4,6]) (by kernel_rfl) (by simp) ?_
                   refine AllReadyH.cons (o:=⟨some 180,Op.call ⟨Callee.builtin Builtin.append,#[Operand.tmp 176,Operand.tmp 179],#[96,96]⟩,96,_,_,none⟩) rfl (fun K G=>?_) (AllReadyH.cons (o:=⟨some 182,Op.load 9 (Operand.tmp 181),9,_,_,none⟩) rfl (fun K G=>?_) AllReadyH.nil)
                   · refine iS rfl (.tmp 176) (.tmp 179) 96 rfl O.heap.size 9 dc (.string ⟨#[]⟩) 1 16 underlying96 IQ IR IS IT rfl (by decide) _ _ _ rfl I ⟨g4,0,none⟩ (aj q.data.toList).length Iy (ai (aj q.data.toList)) rfl (by simp[ai]) (kg (L:=aj q.data.toList) U.out 0) (jG _) (by unfold maxLen;omega) (by omega) A.size ?_
                     intro v5 w5 Z P I9;have H:Below O.heap.size O w5:=A.grown P A.size (fun k hk=>(I.lt k hk).1);rw[Nat.zero_add,List.nil_append]at Z;clear P I9;refine G.out _ _ ⟨(H.cell (p:=⟨w.heap.size,1,none⟩) d).trans s1,(H.cell (p:=⟨w.heap.size,2,none⟩) d).trans s2⟩ (fun z=>?_)
                     clear z G K;try simp only[Act.put,List.setIfInBounds_toArray,List.set_cons_zero,List.set_cons_succ]
                     refine wpAnyH_ready (rs:=[6]) (by kernel_rfl) (by simp) ?_
                     refine AllReadyH.cons (o:=⟨some 182,Op.load 9 (Operand.tmp 181),9,_,_,none⟩) rfl (fun K G=>?_) AllReadyH.nil
                     have f0:w5.cell? ⟨T.heap.size,0,none⟩=some (.string L[y].path):=(H.cell (p:=⟨T.heap.size,0,none⟩) ID).trans x0;go_simp
                     clear f0;refine G.out _ _ ⟨(H.cell (p:=⟨w.heap.size,1,none⟩) d).trans s1,(H.cell (p:=⟨w.heap.size,2,none⟩) d).trans s2⟩ (fun z=>?_)
                     clear z G K;try simp only[Act.put,List.setIfInBounds_toArray,List.set_cons_zero,List.set_cons_succ]
                     generalize Value.slice (some (Addr.mk g4 0 none)) _ Iy=I6;clear I U;try clear A
                     try clear F
                     clear IJ I8 IC I5;revert Z H
                     revert w5 v5 I6 IA
                     exact rest.out
                   · have f0:wn.cell? ⟨T.heap.size,0,none⟩=some (.string L[y].path):=(A.cell (p:=⟨T.heap.size,0,none⟩) ID).trans x0
                     go_simp
                     clear f0;refine G.out _ _ ⟨(A.cell (p:=⟨w.heap.size,1,none⟩) d).trans s1,(A.cell (p:=⟨w.heap.size,2,none⟩) d).trans s2⟩ (fun z=>?_)
                     clear z G K;try simp only[Act.put,List.setIfInBounds_toArray,List.set_cons_zero,List.set_cons_succ]
                     refine wpAnyH_ready (rs:=[4]) (by kernel_rfl) (by simp) ?_
                     refine AllReadyH.cons (o:=⟨some 180,Op.call ⟨Callee.builtin Builtin.append,#[Operand.tmp 176,Operand.tmp 179],#[96,96]⟩,96,_,_,none⟩) rfl (fun K G=>?_) AllReadyH.nil
                     refine iS rfl (.tmp 176) (.tmp 179) 96 rfl O.heap.size 9 dc (.string ⟨#[]⟩) 1 16 underlying96 IQ IR IS IT rfl (by decide) _ _ _ rfl I ⟨g4,0,none⟩ (aj q.data.toList).length Iy (ai (aj q.data.toList)) rfl (by simp[ai]) (kg (L:=aj q.data.toList) U.out 0) (jG _) (by unfold maxLen;omega) (by omega) A.size ?_
                     intro v5 w5 Z P I9;have H:Below O.heap.size O w5:=A.grown P A.size (fun k hk=>(I.lt k hk).1);rw[Nat.zero_add,List.nil_append]at Z;clear P I9;refine G.out _ _ ⟨(H.cell (p:=⟨w.heap.size,1,none⟩) d).trans s1,(H.cell (p:=⟨w.heap.size,2,none⟩) d).trans s2⟩ (fun z=>?_)
                     clear z G K;try simp only[Act.put,List.setIfInBounds_toArray,List.set_cons_zero,List.set_cons_succ]
                     generalize Value.slice (some (Addr.mk g4 0 none)) _ Iy=I6;clear I U;try clear A
                     try clear F
                     clear IJ I8 IC I5;revert Z H
                     revert w5 v5 I6 IA
                     exact rest.out
                 · have f0:wz.cell? ⟨T.heap.size,0,none⟩=some (.string L[y].path):=(F.cell (p:=⟨T.heap.size,0,none⟩) ID).trans x0
                   go_simp
                   clear f0;refine G.out _ _ ⟨(F.cell (p:=⟨w.heap.size,1,none⟩) d).trans s1,(F.cell (p:=⟨w.heap.size,2,none⟩) d).trans s2⟩ (fun z=>?_)
                   clear z G K;try simp only[Act.put,List.setIfInBounds_toArray,List.set_cons_zero,List.set_cons_succ]
                   refine wpAnyH_ready (rs:=[3]) (by kernel_rfl) (by simp) ?_
                   refine AllReadyH.cons (o:=⟨some 179,Op.call ⟨Callee.value (Operand.func 111),#[Operand.tmp 178],#[9]⟩,96,_,_,none⟩) rfl (fun K G=>?_) AllReadyH.nil
                   go_simp
                   refine(gO q _ (by omega)).mono ?_
                   rintro e wn ⟨g4,Iy,rfl,IC,I5,IJ,I8,N,Y⟩;go_wp2_with fail;have A:Below O.heap.size O wn:=F.trans (Y.mono F.size);have U:=hid N;clear N;have IG:=gK I Y;clear I;have I:=IG;clear IG;clear Y;refine G.out _ _ ⟨(A.cell (p:=⟨w.heap.size,1,none⟩) d).trans s1,(A.cell (p:=⟨w.heap.size,2,none⟩) d).trans s2⟩ (fun z=>?_)
                   clear z G K;try simp only[Act.put,List.setIfInBounds_toArray,List.set_cons_zero,List.set_cons_succ]
                   refine wpAnyH_ready (rs:=[4]) (by kernel_rfl) (by simp) ?_
                   refine AllReadyH.cons (o:=⟨some 180,Op.call ⟨Callee.builtin Builtin.append,#[Operand.tmp 176,Operand.tmp 179],#[96,96]⟩,96,_,_,none⟩) rfl (fun K G=>?_) AllReadyH.nil
                   refine iS rfl (.tmp 176) (.tmp 179) 96 rfl O.heap.size 9 dc (.string ⟨#[]⟩) 1 16 underlying96 IQ IR IS IT rfl (by decide) _ _ _ rfl I ⟨g4,0,none⟩ (aj q.data.toList).length Iy (ai (aj q.data.toList)) rfl (by simp[ai]) (kg (L:=aj q.data.toList) U.out 0) (jG _) (by unfold maxLen;omega) (by omega) A.size ?_
                   intro v5 w5 Z P I9;have H:Below O.heap.size O w5:=A.grown P A.size (fun k hk=>(I.lt k hk).1);rw[Nat.zero_add,List.nil_append]at Z;clear P I9;refine G.out _ _ ⟨(H.cell (p:=⟨w.heap.size,1,none⟩) d).trans s1,(H.cell (p:=⟨w.heap.size,2,none⟩) d).trans s2⟩ (fun z=>?_)
                   clear z G K;try simp only[Act.put,List.setIfInBounds_toArray,List.set_cons_zero,List.set_cons_succ]
                   generalize Value.slice (some (Addr.mk g4 0 none)) _ Iy=I6;clear I U;try clear A
                   try clear F
                   clear IJ I8 IC I5;revert Z H
                   revert w5 v5 I6 IA
                   exact rest.out
               · go_simp
                 refine(gO q _ (by omega)).mono ?_
                 rintro e wn ⟨g4,Iy,rfl,IC,I5,IJ,I8,N,Y⟩;go_wp2_with fail;have A:Below O.heap.size O wn:=IY.trans (Y.mono IY.size);have U:=hid N;clear N;clear Y;refine G.out _ _ ⟨(A.cell (p:=⟨w.heap.size,1,none⟩) d).trans s1,(A.cell (p:=⟨w.heap.size,2,none⟩) d).trans s2⟩ (fun z=>?_)
                 clear z G K;try simp only[Act.put,List.setIfInBounds_toArray,List.set_cons_zero,List.set_cons_succ]
                 refine wpAnyH_ready (rs:=[0,6]) (by kernel_rfl) (by simp) ?_
                 refine AllReadyH.cons (o:=⟨some 176,Op.buildSlice 96 0 #[],96,_,_,none⟩) rfl (fun K G=>?_) (AllReadyH.cons (o:=⟨some 182,Op.load 9 (Operand.tmp 181),9,_,_,none⟩) rfl (fun K G=>?_) AllReadyH.nil)
                 · go_simp
                   generalize Iv:World.alloc wn (.cells #[] 9)=wz;have F:Below O.heap.size O wz:=Iv▸A.alloc A.size _;have I:wz.ownsRow O.heap.size 9 1 (.slice (some ⟨wn.heap.size,0,none⟩) 0 0) 0 []:=Iv▸Pp.own_mono (World.ownsRow_made wn #[] 0 (Nat.le_refl _) (by decide) rfl) A.size;have IH:Below wn.heap.size wn wz:=Iv▸(Below.refl _ _).alloc (Nat.le_refl _) _;have IW: ∀i (h:i<(aj q.data.toList).length),wz.cell? ⟨g4,i,none⟩=some (.string ⟨((aj q.data.toList)[i]).toArray⟩):=fun i h=>(IH.cell (p:=⟨g4,i,none⟩) I8).trans (U.out i h)
                   clear U;have U:=hid IW;clear IH IW;clear Iv;generalize Value.slice (some (Addr.mk _ 0 none)) 0 0=IA at I⊢;refine G.out _ _ ⟨(F.cell (p:=⟨w.heap.size,1,none⟩) d).trans s1,(F.cell (p:=⟨w.heap.size,2,none⟩) d).trans s2⟩ (fun z=>?_)
                   clear z G K;try simp only[Act.put,List.setIfInBounds_toArray,List.set_cons_zero,List.set_cons_succ]
                   refine wpAnyH_ready (rs:=[4,6]) (by kernel_rfl) (by simp) ?_
                   refine AllReadyH.cons (o:=⟨some 180,Op.call ⟨Callee.builtin Builtin.append,#[Operand.tmp 176,Operand.tmp 179],#[96,96]⟩,96,_,_,none⟩) rfl (fun K G=>?_) (AllReadyH.cons (o:=⟨some 182,Op.load 9 (Operand.tmp 181),9,_,_,none⟩) rfl (fun K G=>?_) AllReadyH.nil)
                   · refine iS rfl (.tmp 176) (.tmp 179) 96 rfl O.heap.size 9 dc (.string ⟨#[]⟩) 1 16 underlying96 IQ IR IS IT rfl (by decide) _ _ _ rfl I ⟨g4,0,none⟩ (aj q.data.toList).length Iy (ai (aj q.data.toList)) rfl (by simp[ai]) (kg (L:=aj q.data.toList) U.out 0) (jG _) (by unfold maxLen;omega) (by omega) F.size ?_
                     intro v5 w5 Z P I9;have H:Below O.heap.size O w5:=F.grown P F.size (fun k hk=>(I.lt k hk).1);rw[Nat.zero_add,List.nil_append]at Z;clear P I9;refine G.out _ _ ⟨(H.cell (p:=⟨w.heap.size,1,none⟩) d).trans s1,(H.cell (p:=⟨w.heap.size,2,none⟩) d).trans s2⟩ (fun z=>?_)
                     clear z G K;try simp only[Act.put,List.setIfInBounds_toArray,List.set_cons_zero,List.set_cons_succ]
                     refine wpAnyH_ready (rs:=[6]) (by kernel_rfl) (by simp) ?_
                     refine AllReadyH.cons (o:=⟨some 182,Op.load 9 (Operand.tmp 181),9,_,_,none⟩) rfl (fun K G=>?_) AllReadyH.nil
                     have f0:w5.cell? ⟨T.heap.size,0,none⟩=some (.string L[y].path):=(H.cell (p:=⟨T.heap.size,0,none⟩) ID).trans x0;go_simp
                     clear f0;refine G.out _ _ ⟨(H.cell (p:=⟨w.heap.size,1,none⟩) d).trans s1,(H.cell (p:=⟨w.heap.size,2,none⟩) d).trans s2⟩ (fun z=>?_)
                     clear z G K;try simp only[Act.put,List.setIfInBounds_toArray,List.set_cons_zero,List.set_cons_succ]
                     generalize Value.slice (some (Addr.mk g4 0 none)) _ Iy=I6;clear I U;try clear A
                     try clear F
                     clear IJ I8 IC I5;revert Z H
                     revert w5 v5 I6 IA
                     exact rest.out
                   · have f0:wz.cell? ⟨T.heap.size,0,none⟩=some (.string L[y].path):=(F.cell (p:=⟨T.heap.size,0,none⟩) ID).trans x0
                     go_simp
                     clear f0;refine G.out _ _ ⟨(F.cell (p:=⟨w.heap.size,1,none⟩) d).trans s1,(F.cell (p:=⟨w.heap.size,2,none⟩) d).trans s2⟩ (fun z=>?_)
                     clear z G K;try simp only[Act.put,List.setIfInBounds_toArray,List.set_cons_zero,List.set_cons_succ]
                     refine wpAnyH_ready (rs:=[4]) (by kernel_rfl) (by simp) ?_
                     refine AllReadyH.cons (o:=⟨some 180,Op.call ⟨Callee.builtin Builtin.append,#[Operand.tmp 176,Operand.tmp 179],#[96,96]⟩,96,_,_,none⟩) rfl (fun K G=>?_) AllReadyH.nil
                     refine iS rfl (.tmp 176) (.tmp 179) 96 rfl O.heap.size 9 dc (.string ⟨#[]⟩) 1 16 underlying96 IQ IR IS IT rfl (by decide) _ _ _ rfl I ⟨g4,0,none⟩ (aj q.data.toList).length Iy (ai (aj q.data.toList)) rfl (by simp[ai]) (kg (L:=aj q.data.toList) U.out 0) (jG _) (by unfold maxLen;omega) (by omega) F.size ?_
                     intro v5 w5 Z P I9;have H:Below O.heap.size O w5:=F.grown P F.size (fun k hk=>(I.lt k hk).1);rw[Nat.zero_add,List.nil_append]at Z;clear P I9;refine G.out _ _ ⟨(H.cell (p:=⟨w.heap.size,1,none⟩) d).trans s1,(H.cell (p:=⟨w.heap.size,2,none⟩) d).trans s2⟩ (fun z=>?_)
                     clear z G K;try simp only[Act.put,List.setIfInBounds_toArray,List.set_cons_zero,List.set_cons_succ]
                     generalize Value.slice (some (Addr.mk g4 0 none)) _ Iy=I6;clear I U;try clear A
                     try clear F
                     clear IJ I8 IC I5;revert Z H
                     revert w5 v5 I6 IA
                     exact rest.out
                 · have f0:wn.cell? ⟨T.heap.size,0,none⟩=some (.string L[y].path):=(A.cell (p:=⟨T.heap.size,0,none⟩) ID).trans x0
                   go_simp
                   clear f0;refine G.out _ _ ⟨(A.cell (p:=⟨w.heap.size,1,none⟩) d).trans s1,(A.cell (p:=⟨w.heap.size,2,none⟩) d).trans s2⟩ (fun z=>?_)
                   clear z G K;try simp only[Act.put,List.setIfInBounds_toArray,List.set_cons_zero,List.set_cons_succ]
                   refine wpAnyH_ready (rs:=[0]) (by kernel_rfl) (by simp) ?_
                   refine AllReadyH.cons (o:=⟨some 176,Op.buildSlice 96 0 #[],96,_,_,none⟩) rfl (fun K G=>?_) AllReadyH.nil
                   go_simp
                   generalize Iv:World.alloc wn (.cells #[] 9)=wz;have F:Below O.heap.size O wz:=Iv▸A.alloc A.size _;have I:wz.ownsRow O.heap.size 9 1 (.slice (some ⟨wn.heap.size,0,none⟩) 0 0) 0 []:=Iv▸Pp.own_mono (World.ownsRow_made wn #[] 0 (Nat.le_refl _) (by decide) rfl) A.size;have IH:Below wn.heap.size wn wz:=Iv▸(Below.refl _ _).alloc (Nat.le_refl _) _;have IW: ∀i (h:i<(aj q.data.toList).length),wz.cell? ⟨g4,i,none⟩=some (.string ⟨((aj q.data.toList)[i]).toArray⟩):=fun i h=>(IH.cell (p:=⟨g4,i,none⟩) I8).trans (U.out i h)
                   clear U;have U:=hid IW;clear IH IW;clear Iv;generalize Value.slice (some (Addr.mk _ 0 none)) 0 0=IA at I⊢;refine G.out _ _ ⟨(F.cell (p:=⟨w.heap.size,1,none⟩) d).trans s1,(F.cell (p:=⟨w.heap.size,2,none⟩) d).trans s2⟩ (fun z=>?_)
                   clear z G K;try simp only[Act.put,List.setIfInBounds_toArray,List.set_cons_zero,List.set_cons_succ]
                   refine wpAnyH_ready (rs:=[4]) (by kernel_rfl) (by simp) ?_
                   refine AllReadyH.cons (o:=⟨some 180,Op.call ⟨Callee.builtin Builtin.append,#[Operand.tmp 176,Operand.tmp 179],#[96,96]⟩,96,_,_,none⟩) rfl (fun K G=>?_) AllReadyH.nil
                   refine iS rfl (.tmp 176) (.tmp 179) 96 rfl O.heap.size 9 dc (.string ⟨#[]⟩) 1 16 underlying96 IQ IR IS IT rfl (by decide) _ _ _ rfl I ⟨g4,0,none⟩ (aj q.data.toList).length Iy (ai (aj q.data.toList)) rfl (by simp[ai]) (kg (L:=aj q.data.toList) U.out 0) (jG _) (by unfold maxLen;omega) (by omega) F.size ?_
                   intro v5 w5 Z P I9;have H:Below O.heap.size O w5:=F.grown P F.size (fun k hk=>(I.lt k hk).1);rw[Nat.zero_add,List.nil_append]at Z;clear P I9;refine G.out _ _ ⟨(H.cell (p:=⟨w.heap.size,1,none⟩) d).trans s1,(H.cell (p:=⟨w.heap.size,2,none⟩) d).trans s2⟩ (fun z=>?_)
                   clear z G K;try simp only[Act.put,List.setIfInBounds_toArray,List.set_cons_zero,List.set_cons_succ]
                   generalize Value.slice (some (Addr.mk g4 0 none)) _ Iy=I6;clear I U;try clear A
                   try clear F
                   clear IJ I8 IC I5;revert Z H
                   revert w5 v5 I6 IA
                   exact rest.out
               · have f0:O.drew.cell? ⟨T.heap.size,0,none⟩=some (.string L[y].path):=(IY.cell (p:=⟨T.heap.size,0,none⟩) ID).trans x0
                 go_simp
                 clear f0;refine G.out _ _ ⟨(IY.cell (p:=⟨w.heap.size,1,none⟩) d).trans s1,(IY.cell (p:=⟨w.heap.size,2,none⟩) d).trans s2⟩ (fun z=>?_)
                 clear z G K;try simp only[Act.put,List.setIfInBounds_toArray,List.set_cons_zero,List.set_cons_succ]
                 refine wpAnyH_ready (rs:=[0,3]) (by kernel_rfl) (by simp) ?_
                 refine AllReadyH.cons (o:=⟨some 176,Op.buildSlice 96 0 #[],96,_,_,none⟩) rfl (fun K G=>?_) (AllReadyH.cons (o:=⟨some 179,Op.call ⟨Callee.value (Operand.func 111),#[Operand.tmp 178],#[9]⟩,96,_,_,none⟩) rfl (fun K G=>?_) AllReadyH.nil)
                 · go_simp
                   generalize Iv:(World.alloc O (.cells #[] 9)).drew=wz;have F:Below O.heap.size O wz:=Iv▸((Below.refl _ _).alloc (Nat.le_refl _) _).drew;have I:wz.ownsRow O.heap.size 9 1 (.slice (some ⟨O.heap.size,0,none⟩) 0 0) 0 []:=Iv▸(World.ownsRow_made O #[] 0 (Nat.le_refl _) (by decide) rfl).drew;clear Iv;generalize Value.slice (some (Addr.mk _ 0 none)) 0 0=IA at I⊢;refine G.out _ _ ⟨(F.cell (p:=⟨w.heap.size,1,none⟩) d).trans s1,(F.cell (p:=⟨w.heap.size,2,none⟩) d).trans s2⟩ (fun z=>?_)
                   clear z G K;try simp only[Act.put,List.setIfInBounds_toArray,List.set_cons_zero,List.set_cons_succ]
                   refine wpAnyH_ready (rs:=[3]) (by kernel_rfl) (by simp) ?_
                   refine AllReadyH.cons (o:=⟨some 179,Op.call ⟨Callee.value (Operand.func 111),#[Operand.tmp 178],#[9]⟩,96,_,_,none⟩) rfl (fun K G=>?_) AllReadyH.nil
                   go_simp
                   refine(gO q _ (by omega)).mono ?_
                   rintro e wn ⟨g4,Iy,rfl,IC,I5,IJ,I8,N,Y⟩;go_wp2_with fail;have A:Below O.heap.size O wn:=F.trans (Y.mono F.size);have U:=hid N;clear N;have IG:=gK I Y;clear I;have I:=IG;clear IG;clear Y;refine G.out _ _ ⟨(A.cell (p:=⟨w.heap.size,1,none⟩) d).trans s1,(A.cell (p:=⟨w.heap.size,2,none⟩) d).trans s2⟩ (fun z=>?_)
                   clear z G K;try simp only[Act.put,List.setIfInBounds_toArray,List.set_cons_zero,List.set_cons_succ]
                   refine wpAnyH_ready (rs:=[4]) (by kernel_rfl) (by simp) ?_
                   refine AllReadyH.cons (o:=⟨some 180,Op.call ⟨Callee.builtin Builtin.append,#[Operand.tmp 176,Operand.tmp 179],#[96,96]⟩,96,_,_,none⟩) rfl (fun K G=>?_) AllReadyH.nil
                   refine iS rfl (.tmp 176) (.tmp 179) 96 rfl O.heap.size 9 dc (.string ⟨#[]⟩) 1 16 underlying96 IQ IR IS IT rfl (by decide) _ _ _ rfl I ⟨g4,0,none⟩ (aj q.data.toList).length Iy (ai (aj q.data.toList)) rfl (by simp[ai]) (kg (L:=aj q.data.toList) U.out 0) (jG _) (by unfold maxLen;omega) (by omega) A.size ?_
                   intro v5 w5 Z P I9;have H:Below O.heap.size O w5:=A.grown P A.size (fun k hk=>(I.lt k hk).1);rw[Nat.zero_add,List.nil_append]at Z;clear P I9;refine G.out _ _ ⟨(H.cell (p:=⟨w.heap.size,1,none⟩) d).trans s1,(H.cell (p:=⟨w.heap.size,2,none⟩) d).trans s2⟩ (fun z=>?_)
                   clear z G K;try simp only[Act.put,List.setIfInBounds_toArray,List.set_cons_zero,List.set_cons_succ]
                   generalize Value.slice (some (Addr.mk g4 0 none)) _ Iy=I6;clear I U;try clear A
                   try clear F
                   clear IJ I8 IC I5;revert Z H
                   revert w5 v5 I6 IA
                   exact rest.out
                 · go_simp
                   refine(gO q _ (by omega)).mono ?_
                   rintro e wn ⟨g4,Iy,rfl,IC,I5,IJ,I8,N,Y⟩;go_wp2_with fail;have A:Below O.heap.size O wn:=IY.trans (Y.mono IY.size);have U:=hid N;clear N;clear Y;refine G.out _ _ ⟨(A.cell (p:=⟨w.heap.size,1,none⟩) d).trans s1,(A.cell (p:=⟨w.heap.size,2,none⟩) d).trans s2⟩ (fun z=>?_)
                   clear z G K;try simp only[Act.put,List.setIfInBounds_toArray,List.set_cons_zero,List.set_cons_succ]
                   refine wpAnyH_ready (rs:=[0]) (by kernel_rfl) (by simp) ?_
                   refine AllReadyH.cons (o:=⟨some 176,Op.buildSlice 96 0 #[],96,_,_,none⟩) rfl (fun K G=>?_) AllReadyH.nil
                   go_simp
                   generalize Iv:World.alloc wn (.cells #[] 9)=wz;have F:Below O.heap.size O wz:=Iv▸A.alloc A.size _;have I:wz.ownsRow O.heap.size 9 1 (.slice (some ⟨wn.heap.size,0,none⟩) 0 0) 0 []:=Iv▸Pp.own_mono (World.ownsRow_made wn #[] 0 (Nat.le_refl _) (by decide) rfl) A.size;have IH:Below wn.heap.size wn wz:=Iv▸(Below.refl _ _).alloc (Nat.le_refl _) _;have IW: ∀i (h:i<(aj q.data.toList).length),wz.cell? ⟨g4,i,none⟩=some (.string ⟨((aj q.data.toList)[i]).toArray⟩):=fun i h=>(IH.cell (p:=⟨g4,i,none⟩) I8).trans (U.out i h)
                   clear U;have U:=hid IW;clear IH IW;clear Iv;generalize Value.slice (some (Addr.mk _ 0 none)) 0 0=IA at I⊢;refine G.out _ _ ⟨(F.cell (p:=⟨w.heap.size,1,none⟩) d).trans s1,(F.cell (p:=⟨w.heap.size,2,none⟩) d).trans s2⟩ (fun z=>?_)
                   clear z G K;try simp only[Act.put,List.setIfInBounds_toArray,List.set_cons_zero,List.set_cons_succ]
                   refine wpAnyH_ready (rs:=[4]) (by kernel_rfl) (by simp) ?_
                   refine AllReadyH.cons (o:=⟨some 180,Op.call ⟨Callee.builtin Builtin.append,#[Operand.tmp 176,Operand.tmp 179],#[96,96]⟩,96,_,_,none⟩) rfl (fun K G=>?_) AllReadyH.nil
                   refine iS rfl (.tmp 176) (.tmp 179) 96 rfl O.heap.size 9 dc (.string ⟨#[]⟩) 1 16 underlying96 IQ IR IS IT rfl (by decide) _ _ _ rfl I ⟨g4,0,none⟩ (aj q.data.toList).length Iy (ai (aj q.data.toList)) rfl (by simp[ai]) (kg (L:=aj q.data.toList) U.out 0) (jG _) (by unfold maxLen;omega) (by omega) F.size ?_
                   intro v5 w5 Z P I9;have H:Below O.heap.size O w5:=F.grown P F.size (fun k hk=>(I.lt k hk).1);rw[Nat.zero_add,List.nil_append]at Z;clear P I9;refine G.out _ _ ⟨(H.cell (p:=⟨w.heap.size,1,none⟩) d).trans s1,(H.cell (p:=⟨w.heap.size,2,none⟩) d).trans s2⟩ (fun z=>?_)
                   clear z G K;try simp only[Act.put,List.setIfInBounds_toArray,List.set_cons_zero,List.set_cons_succ]
                   generalize Value.slice (some (Addr.mk g4 0 none)) _ Iy=I6;clear I U;try clear A
                   try clear F
                   clear IJ I8 IC I5;revert Z H
                   revert w5 v5 I6 IA
                   exact rest.out
             intro IA v5 w5 I6 Z H;have JV:=hid Z;clear Z;refine wpAnyH_ready (rs:=[7]) (by kernel_rfl) (by simp) ?_
             refine AllReadyH.cons (o:=⟨some 183,Op.call ⟨Callee.value (Operand.func 111),#[Operand.tmp 182],#[9]⟩,96,_,_,none⟩) rfl (fun K G=>?_) AllReadyH.nil
             go_simp
             refine(gO (L[y]).path _ (by omega)).mono ?_
             rintro e w7 ⟨g6,c6,rfl,KC,Kb,Ld,Kh,J8,JH⟩;go_wp2_with fail;have JW:=hid (gK JV.out JH);have IV:Below O.heap.size O w7:=H.trans (JH.mono H.size);have JQ:=hid J8;clear J8 JH JV;refine G.out _ _ ⟨(IV.cell (p:=⟨w.heap.size,1,none⟩) d).trans s1,(IV.cell (p:=⟨w.heap.size,2,none⟩) d).trans s2⟩ (fun z=>?_)
             clear z G K;try simp only[Act.put,List.setIfInBounds_toArray,List.set_cons_zero,List.set_cons_succ]
             refine wpAnyH_ready (rs:=[10]) (by kernel_rfl) (by simp) ?_
             refine AllReadyH.cons (o:=⟨some 186,Op.call ⟨Callee.value (Operand.func 111),#[Operand.tmp 185],#[9]⟩,96,_,_,none⟩) rfl (fun K G=>?_) AllReadyH.nil
             go_simp
             refine(gO p _ (by omega)).mono ?_
             rintro e w8 ⟨g7,c7,rfl,L0,KO,Le,KQ,Ju,Js⟩;go_wp2_with fail;have Jr:=hid (gK JW.out Js);have IM:Below O.heap.size O w8:=IV.trans (Js.mono IV.size);have JR:=hid (show∀i (h:i<(aj (L[y]).path.data.toList).length),w8.cell? ⟨g6,i,none⟩=some (.string ⟨((aj (L[y]).path.data.toList)[i]).toArray⟩)from fun i h=>(Js.cell (p:=⟨g6,i,none⟩) Kh).trans (JQ.out i h));clear Ju Js JW JQ IV;refine G.out _ _ ⟨(IM.cell (p:=⟨w.heap.size,1,none⟩) d).trans s1,(IM.cell (p:=⟨w.heap.size,2,none⟩) d).trans s2⟩ (fun E=>?_)
             clear G K;try simp only[Act.put,List.setIfInBounds_toArray,List.set_cons_zero,List.set_cons_succ]
             refine wpAnyH_take (i:=11) (oi:=⟨some 187,Op.call ⟨Callee.builtin Builtin.len,#[Operand.tmp 186],#[96]⟩,3,_,_,none⟩) (v:=?_) rfl (by kernel_rfl) (by kernel_rfl) (by kernel_rfl) (fun _ _ _ h=>h) (Or.inl ⟨by rfl,?_⟩) E ?_
             rotate_left
             · (intro W Q;obtain⟨t1,t2⟩:=Q;go_simp<;>with_reducible rfl)
             try simp only[Act.put,List.setIfInBounds_toArray,List.set_cons_zero,List.set_cons_succ]
             have Ll:((aj p.data.toList).length:Int)≤(aj (L[y]).path.data.toList).length:=by omega
             have Lk:((aj (L[y]).path.data.toList).length:Int)≤c6:=by omega
             by_cases La:c6=(aj p.data.toList).length
             all_goals
              refine wpAnyH_take (i:=12) (oi:=⟨some 188,Op.slice 96 (Operand.tmp 183) (some (Operand.tmp 187)) none none,96,_,_,none⟩) (v:=?_) rfl (by kernel_rfl) (by kernel_rfl) (by kernel_rfl) (fun _ _ _ h=>h) (Or.inl ⟨by rfl,?_⟩) E ?_
              rotate_left
              · (intro W Q;obtain⟨t1,t2⟩:=Q;go_simp<;>with_reducible rfl)
              try simp only[Act.put,List.setIfInBounds_toArray,List.set_cons_zero,List.set_cons_succ]
              refine wpAnyH_ready (rs:=[13]) (by kernel_rfl) (by simp) ?_
              refine AllReadyH.cons (o:=⟨some 189,Op.call ⟨Callee.builtin Builtin.append,#[Operand.tmp 180,Operand.tmp 188],#[96,96]⟩,96,_,_,none⟩) rfl (fun K G=>?_) AllReadyH.nil
              first
               |refine iS rfl (.tmp 180) (.tmp 188) 96 rfl O.heap.size 9 dc (.string ⟨#[]⟩) 1 16 underlying96 IQ IR IS IT rfl (by decide) _ _ _ rfl Jr.out ⟨g6,0,none⟩ _ _ (ai ((aj (L[y]).path.data.toList).drop (aj p.data.toList).length)) rfl (by simp[ai]) (by intro j u hj;rw[List.drop_of_length_le (by omega)]at hj;simp[ai]at hj) (jG _) (by unfold maxLen;omega) (by omega) IM.size ?_
               |refine iS rfl (.tmp 180) (.tmp 188) 96 rfl O.heap.size 9 dc (.string ⟨#[]⟩) 1 16 underlying96 IQ IR IS IT rfl (by decide) _ _ _ rfl Jr.out ⟨g6,(aj p.data.toList).length,none⟩ _ _ (ai ((aj (L[y]).path.data.toList).drop (aj p.data.toList).length)) rfl (by simp[ai]) (kg JR.out _) (jG _) (by unfold maxLen;omega) (by omega) IM.size ?_
              intro v9 w9 JN JE Kk;have IB:Below O.heap.size O w9:=IM.grown JE IM.size (fun k hk=>(Jr.out.lt k hk).1);rw[Dd]at JN
              have JF:w9.ownsRow O.heap.size 9 1 v9 (aj q.data.toList++(aj (L[y]).path.data.toList).drop (aj p.data.toList).length).length (ai (aj q.data.toList++(aj (L[y]).path.data.toList).drop (aj p.data.toList).length)):=by
               rw[List.length_append,List.length_drop];exact JN
              obtain⟨g8,c8,rfl,Lf,KR,J9⟩:=Dc JF (by intro e;exact kA _ (List.append_eq_nil_iff.1 e).1)
              have JS:=hid J9;clear J9 JF JN JE Kk Jr JR;refine G.out _ _ ⟨(IB.cell (p:=⟨w.heap.size,1,none⟩) d).trans s1,(IB.cell (p:=⟨w.heap.size,2,none⟩) d).trans s2⟩ (fun z=>?_)
              clear z G K;try simp only[Act.put,List.setIfInBounds_toArray,List.set_cons_zero,List.set_cons_succ]
              refine wpAnyH_ready (rs:=[14]) (by kernel_rfl) (by simp) ?_
              refine AllReadyH.cons (o:=⟨some 190,Op.call ⟨Callee.value (Operand.func 114),#[Operand.tmp 189],#[96]⟩,9,_,_,none⟩) rfl (fun K G=>?_) AllReadyH.nil
              go_simp
              refine(De (aj q.data.toList++(aj (L[y]).path.data.toList).drop (aj p.data.toList).length) _ g8 0 c8 _ (by rw[List.length_append,List.length_drop]) (by rw[HJ.out];omega) (by rw[List.length_append,List.length_drop];omega) (fun i h=>by rw[Nat.zero_add];exact JS.out i h)).mono ?_
              rintro e KK ⟨rfl,rfl⟩;rw[HJ.out];clear JS;go_wp2_with fail;refine G.out _ _ ⟨(IB.cell (p:=⟨w.heap.size,1,none⟩) d).trans s1,(IB.cell (p:=⟨w.heap.size,2,none⟩) d).trans s2⟩ (fun E=>?_)
              clear G K;try simp only[Act.put,List.setIfInBounds_toArray,List.set_cons_zero,List.set_cons_succ]
              refine wpAnyH_take (i:=15) (oi:=⟨some 191,Op.fieldAddr 107 (Operand.tmp 15) 0,0,_,_,none⟩) (v:=?_) rfl (by kernel_rfl) (by kernel_rfl) (by kernel_rfl) (fun _ _ _ h=>h) (Or.inl ⟨by rfl,?_⟩) E ?_
              rotate_left
              · (intro W Q;obtain⟨t1,t2⟩:=Q;go_simp<;>with_reducible rfl)
              try simp only[Act.put,List.setIfInBounds_toArray,List.set_cons_zero,List.set_cons_succ]
              refine wpAnyH_ready (rs:=[16]) (by kernel_rfl) (by simp) ?_
              refine AllReadyH.cons (o:=⟨none,Op.store 9 (Operand.tmp 191) (Operand.tmp 190),0,_,_,none⟩) rfl (fun K G=>?_) AllReadyH.nil
              have z0:=(IB.cell (p:=⟨T.heap.size,0,none⟩) ID).trans x0;have z9:=(IB.frozen (p:=⟨T.heap.size,0,none⟩) ID).trans Kg;go_simp
              generalize J1:World.setCell KK _ _=wt;have Jj:Below T.heap.size T wt:=J1▸(Jt.trans (IB.mono (Nat.le_of_lt ID))).setCell (Nat.le_refl _) _;have y0:wt.cell? ⟨T.heap.size,0,none⟩=some (.string ⟨(cn C L[y]).toArray⟩):=by rw[←J1];simp[go_sem,z0]
              have y1:wt.cell? ⟨T.heap.size,1,none⟩=some (.bool L[y].folder):=by rw[←J1,World.cell?_setCell_other _ _ _ _ (by simp)];exact(IB.cell (p:=⟨T.heap.size,1,none⟩) ID).trans x1
              have al:wt.cell? ⟨T.heap.size,2,none⟩=some (.string L[y].text):=by rw[←J1,World.cell?_setCell_other _ _ _ _ (by simp)];exact(IB.cell (p:=⟨T.heap.size,2,none⟩) ID).trans aY
              have y3:wt.cell? ⟨T.heap.size,3,none⟩=some (.int .i64 (bx C n L[y]).ver):=by rw[←J1,World.cell?_setCell_other _ _ _ _ (by simp)];exact(IB.cell (p:=⟨T.heap.size,3,none⟩) ID).trans x3
              have r1:wt.cell? ⟨w.heap.size,1,none⟩=some (.string p):=(Jj.cell (p:=⟨w.heap.size,1,none⟩) IF).trans Ku;have r2:wt.cell? ⟨w.heap.size,2,none⟩=some (.string q):=(Jj.cell (p:=⟨w.heap.size,2,none⟩) IF).trans Kv;have Jy:T.heap.size<wt.heap.size:=by rw[←J1];simp;exact Nat.lt_of_lt_of_le ID IB.size
              clear z0 z9 J1;refine G.out _ _ ⟨r1,r2⟩ (fun z=>?_)
              clear z G K;try simp only[Act.put,List.setIfInBounds_toArray,List.set_cons_zero,List.set_cons_succ]
              refine wpAnyH_done (by kernel_rfl) ?_ _
              have JY:=hid (JX.out.below Jj);have IZ:Below wg.heap.size wg wt:=I0.trans (Jj.mono I0.size);clear E IB IM H Jj r1 r2 s1 s2 x0 x1 aY x3 Kg;go_wp2_with fail;refine(qW ⟨(cn C L[y]).toArray⟩ _ (by rw[jQ];omega)).mono ?_
              rintro e KL ⟨rfl,IK⟩;rw[show Pp.big _=Pp.big (cn C L[y])from rfl];have J0:Below wg.heap.size wg KL:=IZ.trans (IK.mono IZ.size);have br:=(IK.cell (p:=⟨T.heap.size,0,none⟩) Jy).trans y0;have q1:=(IK.cell (p:=⟨T.heap.size,1,none⟩) Jy).trans y1;have bZ:=(IK.cell (p:=⟨T.heap.size,2,none⟩) Jy).trans al;have q3:=(IK.cell (p:=⟨T.heap.size,3,none⟩) Jy).trans y3;have JZ:=hid (JY.out.below IK);clear y0 y1 al y3 IK IZ JY;cases J7:Pp.big (cn C L[y])with
              |true=>
               have HX:=hid (show cz L C n=2 from by rw[cz,if_neg (by rw[HN.out];decide),HE.out,if_pos (Dk Jf (by rw[IP.out];exact Jd.out) J7)]);have JJ:=(aw (Jc.out.trans (J0.mono Jc.out.size))).2.2.2.2.2.1;clear J7;go_wp2_with fail;go_ret2;exact⟨_,by rw[HX.out];rfl,fun h=>absurd (HX.out.symm.trans h) (by decide),JJ⟩
              |false=>
               have Jg:=hid (show∀j (h:j<L.length),j<y+1→be p.data.toList L[j]=true→Pp.big (cn C L[j])=false from fun j h1 h2 h3=>by
                by_cases e:j=y
                · subst e;exact J7
                · exact Jq.out j h1 (by omega) h3)
               have KU:=J2.out y;have KV:=J2.out (y+1);have Ks:=hid (Jz.out y Jf Jd.out);clear J7;go_wp2_with fail;refine(oH (dD L C n y) _ (bx C n L[y]) _ JZ.out (by omega)).mono ?_
               rintro e KM ⟨u,rfl,ho,JB⟩;rw[Ks.out]at ho;have Kr:=hid (kP ho (by omega));have JI:Below wg.heap.size wg KM:=J0.trans (JB.mono J0.size);clear ho JB br q1 bZ q3 JZ;go_wp2_with fail;go_roundw
               case rel=>exact⟨y+1,by omega,by simp,Kr,Jg,JI⟩
               case measure=>simp[intOf];omega
         · have eY:y=L.length:=by omega
           have K3:=Dl (L:=L) (c:=C) (fun j h hw=>Jq.out j h (by omega) (by rw[IP.out]at hw;exact hw));have HX:=hid (show cz L C n=0 from by rw[cz,if_neg (by rw[HN.out];decide),HE.out,if_neg (by rw[K3];decide)]);rw[eY,←HQ.out]at HU;have KF:=J2.out L.length;rw[←HQ.out]at KF;have JU:=HU;obtain⟨a6,KN,hu,KC,Kb,_⟩:=HU.out
           subst hu;generalize Kz:cQ L C n=M at*;have KZ: ¬60<(M.length:Int):=by omega
           clear K3 eY Jq;go_wp2_with fail;go_ret2;exact⟨_,by rw[HX.out];rfl,fun _=>by first|exact JU.out|(rw[Kz];exact JU.out),J⟩
end Go.Proofs.YtcmlnelpcjfocaaGreatDoor
