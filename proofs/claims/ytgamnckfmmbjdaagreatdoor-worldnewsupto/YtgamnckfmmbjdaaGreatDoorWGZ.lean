/- What the reference's ChangeOf answers, of changes that move. -/
import Derived.Test.YtgamnckfmmbjdaaGreatDoorWGU
set_option linter.unusedSimpArgs false
set_option linter.unusedVariables false
namespace Go.Proofs.YtgamnckfmmbjdaaGreatDoor
open Go.RowKit Go.Proofs.Tryz
set_option maxHeartbeats 12000000
set_option maxRecDepth 100000
theorem zp (L:List En) (v:Value) (p q t:ByteArray) (b n:Int) (w:World) (hv:aj w v L) (hs: ∀e∈L,e.path.size≤1000000000) (hp:p.size≤1000000000) (hq:q.size≤1000000000) (ht:t.size≤1000000000) (hL:Pp.Good L) (hc:aC ⟨3,p,q,t,b⟩=0) (H0:Hid (aB L (ax q.data.toList)=0)) (j:Nat) (hj:j<L.length) (HI:Hid (bX L p.data.toList=(j:Int))) (EC:Hid (aI q.data.toList p.data.toList=false)) (Ez:Hid (bX L q.data.toList= -1)) (Eo:L.find? (aE q.data.toList)=none):
    Calls prog 159 #[v,.agg #[.int .i64 3,.string p,.string q,.string t,.int .i64 b],.int .i64 n] w fun e w'=> ∃u,e= .returned (.tuple #[u,.int .i64 (bx L ⟨3,p,q,t,b⟩ n)])∧(bx L ⟨3,p,q,t,b⟩ n=0→aj w' u (bN L ⟨3,p,q,t,b⟩ n))∧Below w.heap.size w w':=by
 obtain⟨aQ,EN,EQ,ER,ES⟩:=info_parts Tryz.infoE
 have HV:=hid hv;have HC:=hid hc;have HS:=hid hs;have HR:=hid hL.rise;have F4:=hid hL;have F1:L.length≤60:=hL.len;have EK: -1≤b:=(iu hc).2.2.2.1;have Fj:t.size≤1000000000:=by exact ht
 have HE:=hid (show et L ⟨3,p,q,t,b⟩ n=if(ct L ⟨3,p,q,t,b⟩).any (fun e=>Pp.big (bv ⟨3,p,q,t,b⟩ e))=true then 2 else 0 from rfl);have HQ:=hid (show bN L ⟨3,p,q,t,b⟩ n=cE L ⟨3,p,q,t,b⟩ n L.length from(yi L ⟨3,p,q,t,b⟩ n).symm);have DZ:=hid (show cE L ⟨3,p,q,t,b⟩ n 0=L.filter (fun e=> !aK p.data.toList e)from rfl);have Ek:al p.data.toList=0:=fN hc;have DQ:al q.data.toList=0:=jt hc rfl;have HD:Hid ((bQ L ⟨3,p,q,t,b⟩++dO L ⟨3,p,q,t,b⟩ n).Pairwise eV):=mI hL n (kQ DQ) Eo;have Fp:p.size≤80:=by rw[Lib.size_eq];exact js Ek
 have Fs:q.size≤80:=by rw[Lib.size_eq];exact js DQ
 have Ey:=hid (show∀e∈L,e.path.size≤80 from fun e he=>by rw[Lib.size_eq];exact js (fJ (hL.ents e he)));have DF:=hid (show∀y (h:y<L.length),aK p.data.toList L[y]=true→eZ (aX ⟨3,p,q,t,b⟩ n L[y]) (cE L ⟨3,p,q,t,b⟩ n y)=cE L ⟨3,p,q,t,b⟩ n (y+1)from fun y h hw=>yk hL HD.out h hw);have Dp:=hid (show∀y (h:y<L.length),aK p.data.toList L[y]=false→cE L ⟨3,p,q,t,b⟩ n (y+1)=cE L ⟨3,p,q,t,b⟩ n y from fun y h hw=>yj h hw);have Da:=hid (show∀y,(cE L ⟨3,p,q,t,b⟩ n y).length≤L.length from fun y=>yl L _ n y);have Fh:(j:Int)<L.length:=by omega
 clear Ek DQ Eo;obtain⟨a,F6,rfl,EY,EM,Ea⟩:=hv
 have HL:Hid (∀i (h:i<L.length),∃b o,a=some ⟨b,o,none⟩∧b<w.heap.size∧cM w b (o+i*4) L[i]):=Ea;obtain⟨C,hC⟩: ∃C:ar,C=⟨3,p,q,t,b⟩:=⟨_,rfl⟩
 rw[←hC]at HC HE HQ DZ HD DF Dp Da⊢;have CU:=hid hC;clear hC Ea hL hs hc;go_enter func159,ntmps159
 go_wp2_with fail;refine(eN _ p q _ b _ hp hq (by omega)).mono ?_
 rintro e w1 ⟨rfl,CK⟩;rw[←CU.out,HC.out];obtain⟨c0,c1,c2,c3,c4,J,CD⟩:=ak CK
 go_wp2_with fail;refine(ex q _ hq).mono ?_
 rintro e w2 ⟨rfl,Ed⟩;have Db:=CK.trans (Ed.mono CK.size);clear c0 c1 c2 c3 c4 J CD CK Ed;obtain⟨c0,c1,c2,c3,c4,J,CD⟩:=ak Db
 go_wp2_with fail;refine(ez L _ ⟨(ax q.data.toList).toArray⟩ _ (HV.out.below J)).mono ?_
 rintro e w3 ⟨rfl,Ee⟩;rw[show aB L _=0 from H0.out];have Dc:=Db.trans (Ee.mono Db.size);clear c0 c1 c2 c3 c4 J CD Db Ee;obtain⟨c0,c1,c2,c3,c4,J,CD⟩:=ak Dc
 go_wp2_with fail;refine(ed L _ p _ (HV.out.below J)).mono ?_
 rintro e w4 ⟨rfl,Ef⟩;rw[HI.out];have Dd:=Dc.trans (Ef.mono Dc.size);clear c0 c1 c2 c3 c4 J CD Dc Ef;obtain⟨c0,c1,c2,c3,c4,J,CD⟩:=ak Dd
 go_wp2_with fail;refine(ee q p _ hq hp).mono ?_
 rintro e w5 ⟨rfl,H⟩;rw[EC.out];have De:=Dd.trans (H.mono Dd.size);clear c0 c1 c2 c3 c4 J CD Dd H;obtain⟨c0,c1,c2,c3,c4,J,CD⟩:=ak De
 go_wp2_with fail;refine(ed L _ q _ (HV.out.below J)).mono ?_
 rintro e w6 ⟨rfl,Eg⟩;rw[Ez.out];have DG:=De.trans (Eg.mono De.size);clear c0 c1 c2 c3 c4 J CD De Eg;obtain⟨c0,c1,c2,c3,c4,J,CD⟩:=ak DG
 have HB:=hid DG;go_wp2_with fail;clear c0 c1 c2 c3 c4 J CD;go_loopw [11] (fun i wr=> ∃m:Nat,m≤L.length∧i= .int .i64 m∧Hid (∀j (h:j<L.length),j<m→b9 p.data.toList b L[j]=false)∧(b<0→m=0)∧Below w6.heap.size w6 wr) (fun i _=>L.length-(intOf i).toNat)
 case atStart=>exact⟨0,Nat.zero_le _,rfl,(fun j _ h=>absurd h (Nat.not_lt_zero _): ∀j (h:j<L.length),j<0→b9 p.data.toList b L[j]=false),fun _=>rfl,Below.refl _ _⟩
 case round=>
  obtain⟨m,hm,rfl,HP,EP,V⟩:=hrel
  have Dq:=HB.out.trans (V.mono HB.out.size);obtain⟨c0,c1,c2,c3,c4,J,CD⟩:=ak Dq
  clear EP;go_upto_region 22 with fail;go_cut [100] (fun t W=>t= .bool (decide (m<L.length∧0≤b))∧W=wr)
  case first=>
   by_cases h1:m<L.length
   · have EH:(m:Int)<L.length:=by omega
     by_cases h2:0≤b
     · have HD:=hid (decide_eq_true (p:=m<L.length∧0≤b) ⟨h1,h2⟩)
       go_wp2_with fail;go_meet
       case rel=>exact⟨by rw[HD.out],rfl⟩
     · have HD:=hid (decide_eq_false (p:=m<L.length∧0≤b) (fun h=>h2 h.2))
       go_wp2_with fail;go_meet
       case rel=>exact⟨by rw[HD.out],rfl⟩
   · have EH: ¬(m:Int)<L.length:=by omega
     have HD:=hid (decide_eq_false (p:=m<L.length∧0≤b) (fun h=>h1 h.1));go_wp2_with fail;go_meet
     case rel=>exact⟨by rw[HD.out],rfl⟩
  case rest=>
  obtain⟨rfl,El⟩:=hcut
  have Em:=El.symm;subst Em;clear El;by_cases DB:m<L.length∧0≤b
  · rw[decide_eq_true DB]
    obtain⟨DC,EJ⟩:=DB
    obtain⟨b1,o1,Dm,CK,he⟩:=HL.out m DC
    first|subst Dm|(have Ec:=Option.some.inj Dm;injection Ec with ay e2 e3;have EF:=ay.symm;have EG:=e2.symm;subst EF;subst EG)
    obtain⟨d0,d1,d2,d3⟩:=he.below CK J
    have CZ:b1<wr.heap.size:=Nat.lt_of_lt_of_le CK J.size;cases CC:aI (L[m]).path.data.toList p.data.toList with
    |false=>
     have Dl:=hid CC;have CO:=hid (kB (b:=b) (e:=L[m]) CC);clear CC;go_wp2_with fail;refine wp_region_held_drew (S:=fun W=>W.cell? ⟨b1,o1+m*4,none⟩=some (.string L[m].path)∧W.cell? ⟨w.heap.size,1,none⟩=some (.string p)) (by kernel_rfl) ⟨by simpa using d0,by simpa using c1⟩ (fun E=>?_)
     refine wpAnyH_take (i:=0) (oi:=⟨some 103,Op.move (Operand.tmp 0),47,_,_,none⟩) (v:=?_) rfl (by kernel_rfl) (by kernel_rfl) (by kernel_rfl) (fun _ _ _ h=>h) (Or.inl ⟨by rfl,?_⟩) E ?_
     rotate_left
     · (intro W Q;obtain⟨s0,s1⟩:=Q;go_simp<;>with_reducible rfl)
     simp only[Act.put,List.setIfInBounds_toArray,List.set_cons_zero,List.set_cons_succ];refine wpAnyH_take (i:=1) (oi:=⟨some 104,Op.move (Operand.tmp 11),3,_,_,none⟩) (v:=?_) rfl (by kernel_rfl) (by kernel_rfl) (by kernel_rfl) (fun _ _ _ h=>h) (Or.inl ⟨by rfl,?_⟩) E ?_
     rotate_left
     · (intro W Q;obtain⟨s0,s1⟩:=Q;go_simp<;>with_reducible rfl)
     simp only[Act.put,List.setIfInBounds_toArray,List.set_cons_zero,List.set_cons_succ];refine wpAnyH_take (i:=2) (oi:=⟨some 105,Op.indexAddr 47 (Operand.tmp 103) (Operand.tmp 104),0,_,_,none⟩) (v:=?_) rfl (by kernel_rfl) (by kernel_rfl) (by kernel_rfl) (fun _ _ _ h=>h) (Or.inl ⟨by rfl,?_⟩) E ?_
     rotate_left
     · (intro W Q;obtain⟨s0,s1⟩:=Q;go_simp<;>with_reducible rfl)
     simp only[Act.put,List.setIfInBounds_toArray,List.set_cons_zero,List.set_cons_succ];refine wpAnyH_take (i:=3) (oi:=⟨some 106,Op.fieldAddr 108 (Operand.tmp 105) 0,0,_,_,none⟩) (v:=?_) rfl (by kernel_rfl) (by kernel_rfl) (by kernel_rfl) (fun _ _ _ h=>h) (Or.inl ⟨by rfl,?_⟩) E ?_
     rotate_left
     · (intro W Q;obtain⟨s0,s1⟩:=Q;go_simp<;>with_reducible rfl)
     simp only[Act.put,List.setIfInBounds_toArray,List.set_cons_zero,List.set_cons_succ];refine wpAnyH_take (i:=4) (oi:=⟨some 107,Op.load 9 (Operand.tmp 106),9,_,_,none⟩) (v:=?_) rfl (by kernel_rfl) (by kernel_rfl) (by kernel_rfl) (fun _ _ _ h=>h) (Or.inl ⟨by rfl,?_⟩) E ?_
     rotate_left
     · (intro W Q;obtain⟨s0,s1⟩:=Q;go_simp<;>with_reducible rfl)
     simp only[Act.put,List.setIfInBounds_toArray,List.set_cons_zero,List.set_cons_succ];refine wpAnyH_take (i:=5) (oi:=⟨some 108,Op.fieldAddr 55 (Operand.tmp 4) 1,0,_,_,none⟩) (v:=?_) rfl (by kernel_rfl) (by kernel_rfl) (by kernel_rfl) (fun _ _ _ h=>h) (Or.inl ⟨by rfl,?_⟩) E ?_
     rotate_left
     · (intro W Q;obtain⟨s0,s1⟩:=Q;go_simp<;>with_reducible rfl)
     simp only[Act.put,List.setIfInBounds_toArray,List.set_cons_zero,List.set_cons_succ];refine wpAnyH_take (i:=6) (oi:=⟨some 109,Op.load 9 (Operand.tmp 108),9,_,_,none⟩) (v:=?_) rfl (by kernel_rfl) (by kernel_rfl) (by kernel_rfl) (fun _ _ _ h=>h) (Or.inl ⟨by rfl,?_⟩) E ?_
     rotate_left
     · (intro W Q;obtain⟨s0,s1⟩:=Q;go_simp<;>with_reducible rfl)
     simp only[Act.put,List.setIfInBounds_toArray,List.set_cons_zero,List.set_cons_succ];refine wpAnyH_ready (rs:=[7]) (by kernel_rfl) (by simp) ?_
     refine AllReadyH.cons (o:=⟨some 110,Op.call ⟨Callee.value (Operand.func 210),#[Operand.tmp 107,Operand.tmp 109],#[9,9]⟩,4,_,_,none⟩) rfl (fun K G=>?_) AllReadyH.nil
     go_simp
     refine(ee L[m].path p _ (HS.out _ (List.getElem_mem DC)) hp).mono ?_
     rintro e T ⟨rfl,C6⟩;rw[Dl.out];have k1:T.cell? ⟨b1,o1+m*4,none⟩=some (.string L[m].path):=(C6.cell (p:=⟨b1,o1+m*4,none⟩) CZ).trans d0;have k2:T.cell? ⟨w.heap.size,1,none⟩=some (.string p):=(C6.cell (p:=⟨w.heap.size,1,none⟩) CD).trans c1;go_wp2_with fail;refine G.out _ _ ⟨k1,k2⟩ (fun E=>?_)
     clear G K;try simp only[Act.put,List.setIfInBounds_toArray,List.set_cons_zero,List.set_cons_succ]
     refine wpAnyH_take (i:=8) (oi:=⟨some 111,Op.move (Operand.tmp 110),4,_,_,none⟩) (v:=?_) rfl (by kernel_rfl) (by kernel_rfl) (by kernel_rfl) (fun _ _ _ h=>h) (Or.inl ⟨by rfl,?_⟩) E ?_
     rotate_left
     · (intro W Q;obtain⟨s0,s1⟩:=Q;go_simp<;>with_reducible rfl)
     simp only[Act.put,List.setIfInBounds_toArray,List.set_cons_zero,List.set_cons_succ];refine jG (g:=8) (dg:=111) (by kernel_rfl) (by kernel_rfl) (fun _ _ _ _ _ h=>h) E (fuel:=1) [(9,112),(10,113),(11,114),(12,115),(13,116),(14,117),(15,118),(16,119)] _ _ (by kernel_rfl) (by kernel_rfl) ?_
     simp only[i9,ja,Act.put,List.setIfInBounds_toArray,List.set_cons_zero,List.set_cons_succ];refine wpAnyH_take (i:=17) (oi:=⟨some 120,Op.pick (Operand.tmp 111) (Operand.tmp 119) (Operand.const (Value.bool false)),4,_,_,none⟩) (v:=?_) rfl (by kernel_rfl) (by kernel_rfl) (by kernel_rfl) (fun _ _ _ h=>h) (Or.inl ⟨by rfl,?_⟩) E ?_
     rotate_left
     · (intro W Q;obtain⟨s0,s1⟩:=Q;go_simp<;>with_reducible rfl)
     simp only[Act.put,List.setIfInBounds_toArray,List.set_cons_zero,List.set_cons_succ];refine wpAnyH_done (by kernel_rfl) ?_ _
     have CR:Below w6.heap.size w6 T:=V.drew.trans (C6.mono V.drew.size);go_wp2_with fail;go_roundw
     case rel=>exact⟨m+1,by omega,by simp,(fun j h1 h2=>by
      by_cases e:j=m
      · subst e;exact CO.out
      · exact HP.out j h1 (by omega): ∀j (h:j<L.length),j<m+1→b9 p.data.toList b L[j]=false),fun h=>absurd h (by omega),CR⟩
     case measure=>simp[intOf];omega
    |true=>
     have Dl:=hid CC;have HY:=hid (show b<(L[m]).ver→ ∀(k:Int) (q t:ByteArray),cO L ⟨k,p,q,t,b⟩=true from fun Dj k q t=>kA EJ DC CC Dj);clear CC;go_wp2_with fail
     go_region_held3 (fun W=>W.cell? ⟨b1,o1+m*4,none⟩=some (.string L[m].path)∧W.cell? ⟨w.heap.size,1,none⟩=some (.string p)∧W.cell? ⟨b1,o1+m*4+3,none⟩=some (.int .i64 L[m].ver)∧W.cell? ⟨w.heap.size,4,none⟩=some (.int .i64 b)) (go_keep) (first
      |(go_at_call 210;refine(ee L[m].path p _ (HS.out _ (List.getElem_mem DC)) hp).mono ?_;rintro e T ⟨rfl,C6⟩;rw[Dl.out];have k1:T.cell? ⟨b1,o1+m*4,none⟩=some (.string L[m].path):=(C6.cell (p:=⟨b1,o1+m*4,none⟩) CZ).trans d0;have k2:T.cell? ⟨w.heap.size,1,none⟩=some (.string p):=(C6.cell (p:=⟨w.heap.size,1,none⟩) CD).trans c1;have k3:T.cell? ⟨b1,o1+m*4+3,none⟩=some (.int .i64 L[m].ver):=(C6.cell (p:=⟨b1,o1+m*4+3,none⟩) CZ).trans d3;have k4:T.cell? ⟨w.heap.size,4,none⟩=some (.int .i64 b):=(C6.cell (p:=⟨w.heap.size,4,none⟩) CD).trans c4))
     by_cases Dj:b<(L[m]).ver
     · have CO:=hid (HY.out Dj)
       have Ei:Below w.heap.size w T:=J.drew.trans (C6.mono J.drew.size);go_wp2_with fail;go_ret2;exact⟨_,by rw[bx,if_pos (by rw[CU.out];exact CO.out _ _ _)];rfl,fun h=>by rw[bx,if_pos (by rw[CU.out];exact CO.out _ _ _)]at h;exact absurd h (by decide),Ei⟩
     · have CO:=hid (kC (p:=p.data.toList) (b:=b) (e:=L[m]) Dj)
       have CR:Below w6.heap.size w6 T:=V.drew.trans (C6.mono V.drew.size);go_wp2_with fail;go_roundw
       case rel=>exact⟨m+1,by omega,by simp,(fun j h1 h2=>by
        by_cases e:j=m
        · subst e;exact CO.out
        · exact HP.out j h1 (by omega): ∀j (h:j<L.length),j<m+1→b9 p.data.toList b L[j]=false),fun h=>absurd h (by omega),CR⟩
       case measure=>simp[intOf];omega
  · have hN:cO L C=false:=by
     rw[CU.out];exact kw EK (fun j h h0=>HP.out j h (by omega))
    have HN:=hid hN;rw[decide_eq_false DB];clear hN DB HP hm
    all_goals
     go_wp2_with fail;have DM:=hid Dq;have Ex:=hid J;have Es:=CD;have Eh:=J.size;clear c0 c1 c2 c3 c4 CD V J Dq;obtain⟨wf,DV⟩: ∃wf,wf=wr:=⟨_,rfl⟩
     rw[←DV];rw[←DV]at DM Ex Es Eh;clear DV;go_loopw [12,13] (fun o i wr=> ∃x:Nat,x≤L.length∧i= .int .i64 x∧wr.ownsRow wf.heap.size 108 4 o ((L.take x).filter (fun e=> !aK p.data.toList e)).length (bw ((L.take x).filter (fun e=> !aK p.data.toList e)))∧Below wf.heap.size wf wr) (fun _ i _=>L.length-(intOf i).toNat)
     case atStart=>exact⟨0,Nat.zero_le _,rfl,World.ownsRow_nil _ _ _ _,Below.refl _ _⟩
     case round=>
      obtain⟨x,hx,rfl,D5,V⟩:=hrel
      have Ds:=DM.out.trans (V.mono DM.out.size);obtain⟨c0,c1,c2,c3,c4,J,CD⟩:=ak Ds
      by_cases DR:x<L.length
      · obtain⟨b1,o1,Dm,CK,he⟩:=HL.out x DR
        subst Dm;obtain⟨d0,d1,d2,d3⟩:=he.below CK J
        have CZ:b1<wr.heap.size:=Nat.lt_of_lt_of_le CK J.size;have Fa:((L.take x).filter (fun e=> !aK p.data.toList e)).length≤60:=Nat.le_trans (List.length_filter_le _ _) (by rw[List.length_take];omega);have Di:=lJ (f:=fun e=> !aK p.data.toList e) DR;go_wp2_with fail
        go_region_held3 (fun W=>W.cell? ⟨b1,o1+x*4,none⟩=some (.string L[x].path)∧W.cell? ⟨w.heap.size,1,none⟩=some (.string p)) (go_keep) (first
         |(go_at_call 210;refine(ee L[x].path p _ (HS.out _ (List.getElem_mem DR)) hp).mono ?_;rintro e T ⟨rfl,C6⟩;have k1:T.cell? ⟨b1,o1+x*4,none⟩=some (.string L[x].path):=(C6.cell (p:=⟨b1,o1+x*4,none⟩) CZ).trans d0;have k2:T.cell? ⟨w.heap.size,1,none⟩=some (.string p):=(C6.cell (p:=⟨w.heap.size,1,none⟩) CD).trans c1))
        have CT:=eI D5.drew C6;have C3:Below wf.heap.size wf T:=V.drew.trans (C6.mono V.drew.size);have DI:Below w.heap.size w T:=J.drew.trans (C6.mono J.drew.size);clear c0 c1 c2 c3 c4 Ds D5 V J d0 d1 d2 d3 CD CZ;cases CC:aK p.data.toList L[x]with
        |true=>
         have CF:aI (L[x]).path.data.toList p.data.toList=true:=CC;have CO:=hid (show(L.take (x+1)).filter (fun e=> !aK p.data.toList e)=(L.take x).filter (fun e=> !aK p.data.toList e)from by rw[Di];simp[CC]);have HO:=hid CT;clear Di CC CT k1 k2 C6;rw[CF];clear CF;go_wp2_with fail;go_roundw
         case rel=>exact⟨x+1,by omega,by simp,by rw[CO.out];exact HO.out,C3⟩
         case measure=>simp[intOf];omega
        |false=>
         have CF:aI (L[x]).path.data.toList p.data.toList=false:=CC;have CO:=hid (show(L.take (x+1)).filter (fun e=> !aK p.data.toList e)=(L.take x).filter (fun e=> !aK p.data.toList e)++[L[x]]from by rw[Di];simp[CC]);obtain⟨d0,d1,d2,d3⟩:=he.below CK DI
         generalize (L.take x).filter (fun e=> !aK p.data.toList e)=X at*;clear Di CC k1 k2 C6;rw[CF];clear CF;go_wp2_with (at_builtin;refine wpList_append_own _ rfl _ _ 47 rfl wf.heap.size 108 aQ (.agg #[.string ⟨#[]⟩,.bool false,.string ⟨#[]⟩,.int .i64 0]) 4 48 underlying47 EN EQ ER ES rfl (by decide) _ _ _ rfl (CT.alloc _) ⟨T.heap.size,0,none⟩ 1 1 (Pp.cells L[x]) rfl rfl (eW T L[x] _) (Pp.cells_one _) (by unfold maxLen;omega) (by omega) (by have:=C3.size;simp at this⊢;omega) ?_)
         intro v2 w2 DS DJ Et;have CR:Below wf.heap.size wf w2:=(C3.alloc C3.size _).grown DJ (by have:=C3.size;simp at this⊢;omega) (fun g hg=>by have:=(CT.lt g hg).1;simp;omega);rw[fv]at DS;have Du:w2.ownsRow wf.heap.size 108 4 v2 (X++[L[x]]).length (bw (X++[L[x]])):=by rw[List.length_append];exact DS
         have HO:=hid Du;clear DS DJ Et Du CT C3 DI d0 d1 d2 d3 he;go_wp2_with fail;go_roundw
         case rel=>exact⟨x+1,by omega,by simp,by rw[CO.out];exact HO.out,CR⟩
         case measure=>simp[intOf];omega
      · have eL:L.take x=L:=List.take_of_length_le (by omega)
        rw[eL]at D5;have HO:=hid D5;clear eL D5;go_wp2_with fail;have E9:=(DZ.out▸hid (iw HO.out (by have:=List.length_filter_le (fun e=> !aK p.data.toList e) L;omega)):Hid (aj wr _ (cE L C n 0)))
        clear HO;obtain⟨wg,Ev⟩: ∃wg,wg=wr:=⟨_,rfl⟩
        rw[←Ev]at E9 V Ds J CD⊢;clear c0 c1 c2 c3 c4 Ev;have Dk:=hid Ds;clear Ds V J;go_loopw [12,14] (fun o i wr=> ∃y:Nat,y≤L.length∧i= .int .i64 y∧Hid (aj wr o (cE L C n y))∧Hid (∀j (h:j<L.length),j<y→aK p.data.toList L[j]=true→Pp.big (bv C L[j])=false)∧Below wg.heap.size wg wr) (fun _ i _=>L.length-(intOf i).toNat)
        case atStart=>exact⟨0,Nat.zero_le _,rfl,E9,(fun j _ h=>absurd h (Nat.not_lt_zero _): ∀j (h:j<L.length),j<0→aK p.data.toList L[j]=true→Pp.big (bv C L[j])=false),Below.refl _ _⟩
        case round=>
         obtain⟨y,hy,rfl,HU,Dw,V⟩:=hrel
         have Dt:=Dk.out.trans (V.mono Dk.out.size);obtain⟨c0,c1,c2,c3,c4,J,CL⟩:=ak Dt
         by_cases Dn:y<L.length
         · obtain⟨b1,o1,Dm,CK,he⟩:=HL.out y Dn
           subst Dm;obtain⟨d0,d1,d2,d3⟩:=he.below CK J
           have CZ:b1<wr.heap.size:=Nat.lt_of_lt_of_le CK J.size;go_wp2_with fail
           go_region_held3 (fun W=>W.cell? ⟨b1,o1+y*4,none⟩=some (.string L[y].path)∧W.cell? ⟨w.heap.size,1,none⟩=some (.string p)) (go_keep) (first
            |(go_at_call 210;refine(ee L[y].path p _ (HS.out _ (List.getElem_mem Dn)) hp).mono ?_;rintro e T ⟨rfl,C6⟩;have k1:T.cell? ⟨b1,o1+y*4,none⟩=some (.string L[y].path):=(C6.cell (p:=⟨b1,o1+y*4,none⟩) CZ).trans d0;have k2:T.cell? ⟨w.heap.size,1,none⟩=some (.string p):=(C6.cell (p:=⟨w.heap.size,1,none⟩) CL).trans c1))
           have C3:Below wg.heap.size wg T:=V.drew.trans (C6.mono V.drew.size);have E5:=hid (HU.out.below ((Below.refl _ _).drew.trans C6));clear c0 c1 c2 c3 c4 Dt V J d0 d1 d2 d3 CL CZ HU k1 k2 C6;have Dt:=Dk.out.trans (C3.mono Dk.out.size);obtain⟨c0,c1,c2,c3,c4,J,CL⟩:=ak Dt
           cases CC:aK p.data.toList L[y]with
           |false=>
            have CF:aI (L[y]).path.data.toList p.data.toList=false:=CC;have CO:=hid (Dp.out y Dn CC)
            have Do:=hid (show∀j (h:j<L.length),j<y+1→aK p.data.toList L[j]=true→Pp.big (bv C L[j])=false from fun j h1 h2 h3=>by
             by_cases e:j=y
             · subst e;rw[CC]at h3;cases h3
             · exact Dw.out j h1 (by omega) h3)
            clear CC;rw[CF];clear CF;go_wp2_with fail;go_roundw
            case rel=>exact⟨y+1,by omega,by simp,(by rw[CO.out];exact E5.out:aj _ _ (cE L C n (y+1))),Do,C3⟩
            case measure=>simp[intOf];omega
           |true=>
            have CF:aI (L[y]).path.data.toList p.data.toList=true:=CC;have Dl:=hid CC;obtain⟨d0,d1,d2,d3⟩:=he.below CK J
            have Fq:(L[y]).path.size≤80:=Ey.out _ (List.getElem_mem Dn);have HJ:=hid (show bB (ah q.data.toList++(ah (L[y]).path.data.toList).drop (ah p.data.toList).length)=bv C L[y]from by rw[CU.out];exact tI _ CF)
            have Fi:(bv C L[y]).length≤160:=by
             rw[CU.out];have:=pP (L[y]).path.data.toList p.data.toList q.data.toList
             rw[←Lib.size_eq,←Lib.size_eq]at this;exact Nat.le_trans this (by omega)
            have Fb:(ah p.data.toList).length≤(ah (L[y]).path.data.toList).length:=by
             have:(ah p.data.toList).isPrefixOf (ah (L[y]).path.data.toList)=true:=CF
             exact(List.isPrefixOf_iff_prefix.1 this).length_le
            have Fm:(ah q.data.toList).length≤q.size+1:=by have:=gQ q.data.toList;rwa [←Lib.size_eq]at this
            have Fo:(ah (L[y]).path.data.toList).length≤(L[y]).path.size+1:=by have:=gQ (L[y]).path.data.toList;rwa [←Lib.size_eq]at this
            have F5:=hid (show aX C n L[y]=⟨⟨(bv C L[y]).toArray⟩,L[y].folder,L[y].text,(aX C n L[y]).ver⟩from rfl);obtain⟨b8,CV,CW,CX,CY⟩:=info_parts Tryz.infoS
            rw[CF];clear CC CF;go_upto_if 173 with fail;go_cut [15] (fun x W=>x= .pointer (some ⟨T.heap.size,0,none⟩)∧Hid (W.cell? ⟨T.heap.size,0,none⟩=some (.string L[y].path)∧W.cell? ⟨T.heap.size,1,none⟩=some (.bool L[y].folder)∧W.cell? ⟨T.heap.size,2,none⟩=some (.string L[y].text)∧W.cell? ⟨T.heap.size,3,none⟩=some (.int .i64 (aX C n L[y]).ver)∧W.frozen? ⟨T.heap.size,0,none⟩=false)∧Below T.heap.size T W∧T.heap.size<W.heap.size)
            case first=>
             cases DD:((L[y]).path.toList==p.toList)with
             |true=>
              have DU:(aX C n L[y]).ver=n:=by
               rw[CU.out];have Dv:(L[y]).path.data.toList=p.data.toList:=by rw[Lib.toList_data,Lib.toList_data]at DD;simpa using DD
               exact if_pos Dv
              go_wp2_with fail;go_meet
              case rel=>exact⟨rfl,⟨by simp,by simp,by simp,by rw[DU];simp,World.frozen?_alloc_at _ _ _ _ rfl⟩,(Below.refl _ _).alloc (Nat.le_refl _) _,by simp⟩
             |false=>
              have DU:(aX C n L[y]).ver=(L[y]).ver:=by
               rw[CU.out];have Dv: ¬(L[y]).path.data.toList=p.data.toList:=fun e=>by rw[Lib.toList_data,Lib.toList_data,e]at DD;simp at DD
               exact if_neg Dv
              go_wp2_with fail;go_meet
              case rel=>exact⟨rfl,⟨by simp,by simp,by simp,by rw[DU];simp,World.frozen?_alloc_at _ _ _ _ rfl⟩,(Below.refl _ _).alloc (Nat.le_refl _) _,by simp⟩
            case rest=>
             obtain⟨rfl,E8,Dz,CJ⟩:=hcut
             obtain⟨O,Ew⟩: ∃O,O=wc:=⟨_,rfl⟩
             rw[←Ew]at E8 Dz CJ⊢;obtain⟨x0,aD,x2,x3,Ep⟩:=E8.out
             go_upto_region 40 with fail;have d:w.heap.size<O.heap.size:=Nat.lt_trans CL CJ;have s1:O.cell? ⟨w.heap.size,1,none⟩=some (.string p):=(Dz.cell (p:=⟨w.heap.size,1,none⟩) CL).trans c1;have s2:O.cell? ⟨w.heap.size,2,none⟩=some (.string q):=(Dz.cell (p:=⟨w.heap.size,2,none⟩) CL).trans c2;have ED:=c1;have EE:=c2;have Fg:wg.heap.size≤T.heap.size:=C3.size;have D6:Below O.heap.size O O.drew:=(Below.refl _ _).drew;clear c0 c1 c2 c3 c4 Dt J Ew d0 d1 d2 d3 he;refine wp_region_held_drew (S:=fun W=>W.cell? ⟨w.heap.size,1,none⟩=some (.string p)∧W.cell? ⟨w.heap.size,2,none⟩=some (.string q)) (by kernel_rfl) ⟨by simpa using s1,by simpa using s2⟩ (fun E=>?_)
             change wpAnyH _ _ _ _ _ 17 #[false,false,false,false,false,false,false,false,false,false,false,false,false,false,false,false,false] _ _
             refine wpAnyH_take (i:=1) (oi:=⟨some 177,Op.fieldAddr 55 (Operand.tmp 4) 2,0,_,_,none⟩) (v:=?_) rfl (by kernel_rfl) (by kernel_rfl) (by kernel_rfl) (fun _ _ _ h=>h) (Or.inl ⟨by rfl,?_⟩) E ?_
             rotate_left
             · (intro W Q;obtain⟨t1,t2⟩:=Q;go_simp<;>with_reducible rfl)
             try simp only[Act.put,List.setIfInBounds_toArray,List.set_cons_zero,List.set_cons_succ]
             refine wpAnyH_take (i:=2) (oi:=⟨some 178,Op.load 9 (Operand.tmp 177),9,_,_,none⟩) (v:=?_) rfl (by kernel_rfl) (by kernel_rfl) (by kernel_rfl) (fun _ _ _ h=>h) (Or.inl ⟨by rfl,?_⟩) E ?_
             rotate_left
             · (intro W Q;obtain⟨t1,t2⟩:=Q;go_simp<;>with_reducible rfl)
             try simp only[Act.put,List.setIfInBounds_toArray,List.set_cons_zero,List.set_cons_succ]
             refine wpAnyH_take (i:=5) (oi:=⟨some 181,Op.fieldAddr 108 (Operand.tmp 15) 0,0,_,_,none⟩) (v:=?_) rfl (by kernel_rfl) (by kernel_rfl) (by kernel_rfl) (fun _ _ _ h=>h) (Or.inl ⟨by rfl,?_⟩) E ?_
             rotate_left
             · (intro W Q;obtain⟨t1,t2⟩:=Q;go_simp<;>with_reducible rfl)
             try simp only[Act.put,List.setIfInBounds_toArray,List.set_cons_zero,List.set_cons_succ]
             refine wpAnyH_take (i:=8) (oi:=⟨some 184,Op.fieldAddr 55 (Operand.tmp 4) 1,0,_,_,none⟩) (v:=?_) rfl (by kernel_rfl) (by kernel_rfl) (by kernel_rfl) (fun _ _ _ h=>h) (Or.inl ⟨by rfl,?_⟩) E ?_
             rotate_left
             · (intro W Q;obtain⟨t1,t2⟩:=Q;go_simp<;>with_reducible rfl)
             try simp only[Act.put,List.setIfInBounds_toArray,List.set_cons_zero,List.set_cons_succ]
             refine wpAnyH_take (i:=9) (oi:=⟨some 185,Op.load 9 (Operand.tmp 184),9,_,_,none⟩) (v:=?_) rfl (by kernel_rfl) (by kernel_rfl) (by kernel_rfl) (fun _ _ _ h=>h) (Or.inl ⟨by rfl,?_⟩) E ?_
             rotate_left
             · (intro W Q;obtain⟨t1,t2⟩:=Q;go_simp<;>with_reducible rfl)
             try simp only[Act.put,List.setIfInBounds_toArray,List.set_cons_zero,List.set_cons_succ]
             refine rF (p:=?_) (fun rest=>?_) ?_
             rotate_left
             · refine wpAnyH_ready (rs:=[0,3,6]) (by kernel_rfl) (by simp) ?_
               refine AllReadyH.cons (o:=⟨some 176,Op.buildSlice 98 0 #[],98,_,_,none⟩) rfl (fun K G=>?_) (AllReadyH.cons (o:=⟨some 179,Op.call ⟨Callee.value (Operand.func 124),#[Operand.tmp 178],#[9]⟩,98,_,_,none⟩) rfl (fun K G=>?_) (AllReadyH.cons (o:=⟨some 182,Op.load 9 (Operand.tmp 181),9,_,_,none⟩) rfl (fun K G=>?_) AllReadyH.nil))
               · go_simp
                 generalize C9:(World.alloc O (.cells #[] 9)).drew=wz;have F:Below O.heap.size O wz:=C9▸((Below.refl _ _).alloc (Nat.le_refl _) _).drew;have I:wz.ownsRow O.heap.size 9 1 (.slice (some ⟨O.heap.size,0,none⟩) 0 0) 0 []:=C9▸(World.ownsRow_made O #[] 0 (Nat.le_refl _) (by decide) rfl).drew;clear C9;generalize Value.slice (some (Addr.mk _ 0 none)) 0 0=CG at I⊢;refine G.out _ _ ⟨(F.cell (p:=⟨w.heap.size,1,none⟩) d).trans s1,(F.cell (p:=⟨w.heap.size,2,none⟩) d).trans s2⟩ (fun z=>?_)
                 clear z G K;try simp only[Act.put,List.setIfInBounds_toArray,List.set_cons_zero,List.set_cons_succ]
                 refine wpAnyH_ready (rs:=[3,6]) (by kernel_rfl) (by simp) ?_
                 refine AllReadyH.cons (o:=⟨some 179,Op.call ⟨Callee.value (Operand.func 124),#[Operand.tmp 178],#[9]⟩,98,_,_,none⟩) rfl (fun K G=>?_) (AllReadyH.cons (o:=⟨some 182,Op.load 9 (Operand.tmp 181),9,_,_,none⟩) rfl (fun K G=>?_) AllReadyH.nil)
                 · go_simp
                   refine(eM q _ (by omega)).mono ?_
                   rintro e wn ⟨g4,CE,rfl,CI,C4,CP,C7,N,Y⟩;go_wp2_with fail;have A:Below O.heap.size O wn:=F.trans (Y.mono F.size);have U:=hid N;clear N;have CM:=eI I Y;clear I;have I:=CM;clear CM;clear Y;refine G.out _ _ ⟨(A.cell (p:=⟨w.heap.size,1,none⟩) d).trans s1,(A.cell (p:=⟨w.heap.size,2,none⟩) d).trans s2⟩ (fun z=>?_)
                   clear z G K;try simp only[Act.put,List.setIfInBounds_toArray,List.set_cons_zero,List.set_cons_succ]
                   refine wpAnyH_ready (rs:=[4,6]) (by kernel_rfl) (by simp) ?_
                   refine AllReadyH.cons (o:=⟨some 180,Op.call ⟨Callee.builtin Builtin.append,#[Operand.tmp 176,Operand.tmp 179],#[98,98]⟩,98,_,_,none⟩) rfl (fun K G=>?_) (AllReadyH.cons (o:=⟨some 182,Op.load 9 (Operand.tmp 181),9,_,_,none⟩) rfl (fun K G=>?_) AllReadyH.nil)
                   · refine fP rfl (.tmp 176) (.tmp 179) 98 rfl O.heap.size 9 b8 (.string ⟨#[]⟩) 1 16 underlying98 CV CW CX CY rfl (by decide) _ _ _ rfl I ⟨g4,0,none⟩ (ah q.data.toList).length CE (ag (ah q.data.toList)) rfl (by simp[ag]) (ia (L:=ah q.data.toList) U.out 0) (gI _) (by unfold maxLen;omega) (by omega) A.size ?_
                     intro v5 w5 Z P C8;have H:Below O.heap.size O w5:=A.grown P A.size (fun k hk=>(I.lt k hk).1);rw[Nat.zero_add,List.nil_append]at Z;clear P C8;refine G.out _ _ ⟨(H.cell (p:=⟨w.heap.size,1,none⟩) d).trans s1,(H.cell (p:=⟨w.heap.size,2,none⟩) d).trans s2⟩ (fun z=>?_)
                     clear z G K;try simp only[Act.put,List.setIfInBounds_toArray,List.set_cons_zero,List.set_cons_succ]
                     refine wpAnyH_ready (rs:=[6]) (by kernel_rfl) (by simp) ?_
                     refine AllReadyH.cons (o:=⟨some 182,Op.load 9 (Operand.tmp 181),9,_,_,none⟩) rfl (fun K G=>?_) AllReadyH.nil
                     have f0:w5.cell? ⟨T.heap.size,0,none⟩=some (.string L[y].path):=(H.cell (p:=⟨T.heap.size,0,none⟩) CJ).trans x0;go_simp
                     clear f0;refine G.out _ _ ⟨(H.cell (p:=⟨w.heap.size,1,none⟩) d).trans s1,(H.cell (p:=⟨w.heap.size,2,none⟩) d).trans s2⟩ (fun z=>?_)
                     clear z G K;try simp only[Act.put,List.setIfInBounds_toArray,List.set_cons_zero,List.set_cons_succ]
                     generalize Value.slice (some (Addr.mk g4 0 none)) _ CE=C5;clear I U;try clear A
                     try clear F
                     clear CP C7 CI C4;revert Z H
                     revert w5 v5 C5 CG
                     exact rest.out
                   · have f0:wn.cell? ⟨T.heap.size,0,none⟩=some (.string L[y].path):=(A.cell (p:=⟨T.heap.size,0,none⟩) CJ).trans x0
                     go_simp
                     clear f0;refine G.out _ _ ⟨(A.cell (p:=⟨w.heap.size,1,none⟩) d).trans s1,(A.cell (p:=⟨w.heap.size,2,none⟩) d).trans s2⟩ (fun z=>?_)
                     clear z G K;try simp only[Act.put,List.setIfInBounds_toArray,List.set_cons_zero,List.set_cons_succ]
                     refine wpAnyH_ready (rs:=[4]) (by kernel_rfl) (by simp) ?_
                     refine AllReadyH.cons (o:=⟨some 180,Op.call ⟨Callee.builtin Builtin.append,#[Operand.tmp 176,Operand.tmp 179],#[98,98]⟩,98,_,_,none⟩) rfl (fun K G=>?_) AllReadyH.nil
                     refine fP rfl (.tmp 176) (.tmp 179) 98 rfl O.heap.size 9 b8 (.string ⟨#[]⟩) 1 16 underlying98 CV CW CX CY rfl (by decide) _ _ _ rfl I ⟨g4,0,none⟩ (ah q.data.toList).length CE (ag (ah q.data.toList)) rfl (by simp[ag]) (ia (L:=ah q.data.toList) U.out 0) (gI _) (by unfold maxLen;omega) (by omega) A.size ?_
                     intro v5 w5 Z P C8;have H:Below O.heap.size O w5:=A.grown P A.size (fun k hk=>(I.lt k hk).1);rw[Nat.zero_add,List.nil_append]at Z;clear P C8;refine G.out _ _ ⟨(H.cell (p:=⟨w.heap.size,1,none⟩) d).trans s1,(H.cell (p:=⟨w.heap.size,2,none⟩) d).trans s2⟩ (fun z=>?_)
                     clear z G K;try simp only[Act.put,List.setIfInBounds_toArray,List.set_cons_zero,List.set_cons_succ]
                     generalize Value.slice (some (Addr.mk g4 0 none)) _ CE=C5;clear I U;try clear A
                     try clear F
                     clear CP C7 CI C4;revert Z H
                     revert w5 v5 C5 CG
                     exact rest.out
                 · have f0:wz.cell? ⟨T.heap.size,0,none⟩=some (.string L[y].path):=(F.cell (p:=⟨T.heap.size,0,none⟩) CJ).trans x0
                   go_simp
                   clear f0;refine G.out _ _ ⟨(F.cell (p:=⟨w.heap.size,1,none⟩) d).trans s1,(F.cell (p:=⟨w.heap.size,2,none⟩) d).trans s2⟩ (fun z=>?_)
                   clear z G K;try simp only[Act.put,List.setIfInBounds_toArray,List.set_cons_zero,List.set_cons_succ]
                   refine wpAnyH_ready (rs:=[3]) (by kernel_rfl) (by simp) ?_
                   refine AllReadyH.cons (o:=⟨some 179,Op.call ⟨Callee.value (Operand.func 124),#[Operand.tmp 178],#[9]⟩,98,_,_,none⟩) rfl (fun K G=>?_) AllReadyH.nil
                   go_simp
                   refine(eM q _ (by omega)).mono ?_
                   rintro e wn ⟨g4,CE,rfl,CI,C4,CP,C7,N,Y⟩;go_wp2_with fail;have A:Below O.heap.size O wn:=F.trans (Y.mono F.size);have U:=hid N;clear N;have CM:=eI I Y;clear I;have I:=CM;clear CM;clear Y;refine G.out _ _ ⟨(A.cell (p:=⟨w.heap.size,1,none⟩) d).trans s1,(A.cell (p:=⟨w.heap.size,2,none⟩) d).trans s2⟩ (fun z=>?_)
                   clear z G K;try simp only[Act.put,List.setIfInBounds_toArray,List.set_cons_zero,List.set_cons_succ]
                   refine wpAnyH_ready (rs:=[4]) (by kernel_rfl) (by simp) ?_
                   refine AllReadyH.cons (o:=⟨some 180,Op.call ⟨Callee.builtin Builtin.append,#[Operand.tmp 176,Operand.tmp 179],#[98,98]⟩,98,_,_,none⟩) rfl (fun K G=>?_) AllReadyH.nil
                   refine fP rfl (.tmp 176) (.tmp 179) 98 rfl O.heap.size 9 b8 (.string ⟨#[]⟩) 1 16 underlying98 CV CW CX CY rfl (by decide) _ _ _ rfl I ⟨g4,0,none⟩ (ah q.data.toList).length CE (ag (ah q.data.toList)) rfl (by simp[ag]) (ia (L:=ah q.data.toList) U.out 0) (gI _) (by unfold maxLen;omega) (by omega) A.size ?_
                   intro v5 w5 Z P C8;have H:Below O.heap.size O w5:=A.grown P A.size (fun k hk=>(I.lt k hk).1);rw[Nat.zero_add,List.nil_append]at Z;clear P C8;refine G.out _ _ ⟨(H.cell (p:=⟨w.heap.size,1,none⟩) d).trans s1,(H.cell (p:=⟨w.heap.size,2,none⟩) d).trans s2⟩ (fun z=>?_)
                   clear z G K;try simp only[Act.put,List.setIfInBounds_toArray,List.set_cons_zero,List.set_cons_succ]
                   generalize Value.slice (some (Addr.mk g4 0 none)) _ CE=C5;clear I U;try clear A
                   try clear F
                   clear CP C7 CI C4;revert Z H
                   revert w5 v5 C5 CG
                   exact rest.out
               · go_simp
                 refine(eM q _ (by omega)).mono ?_
                 rintro e wn ⟨g4,CE,rfl,CI,C4,CP,C7,N,Y⟩;go_wp2_with fail;have A:Below O.heap.size O wn:=D6.trans (Y.mono D6.size);have U:=hid N;clear N;clear Y;refine G.out _ _ ⟨(A.cell (p:=⟨w.heap.size,1,none⟩) d).trans s1,(A.cell (p:=⟨w.heap.size,2,none⟩) d).trans s2⟩ (fun z=>?_)
                 clear z G K;try simp only[Act.put,List.setIfInBounds_toArray,List.set_cons_zero,List.set_cons_succ]
                 refine wpAnyH_ready (rs:=[0,6]) (by kernel_rfl) (by simp) ?_
                 refine AllReadyH.cons (o:=⟨some 176,Op.buildSlice 98 0 #[],98,_,_,none⟩) rfl (fun K G=>?_) (AllReadyH.cons (o:=⟨some 182,Op.load 9 (Operand.tmp 181),9,_,_,none⟩) rfl (fun K G=>?_) AllReadyH.nil)
                 · go_simp
                   generalize C9:World.alloc wn (.cells #[] 9)=wz;have F:Below O.heap.size O wz:=C9▸A.alloc A.size _;have I:wz.ownsRow O.heap.size 9 1 (.slice (some ⟨wn.heap.size,0,none⟩) 0 0) 0 []:=C9▸Pp.own_mono (World.ownsRow_made wn #[] 0 (Nat.le_refl _) (by decide) rfl) A.size;have CN:Below wn.heap.size wn wz:=C9▸(Below.refl _ _).alloc (Nat.le_refl _) _;have D4: ∀i (h:i<(ah q.data.toList).length),wz.cell? ⟨g4,i,none⟩=some (.string ⟨((ah q.data.toList)[i]).toArray⟩):=fun i h=>(CN.cell (p:=⟨g4,i,none⟩) C7).trans (U.out i h)
                   clear U;have U:=hid D4;clear CN D4;clear C9;generalize Value.slice (some (Addr.mk _ 0 none)) 0 0=CG at I⊢;refine G.out _ _ ⟨(F.cell (p:=⟨w.heap.size,1,none⟩) d).trans s1,(F.cell (p:=⟨w.heap.size,2,none⟩) d).trans s2⟩ (fun z=>?_)
                   clear z G K;try simp only[Act.put,List.setIfInBounds_toArray,List.set_cons_zero,List.set_cons_succ]
                   refine wpAnyH_ready (rs:=[4,6]) (by kernel_rfl) (by simp) ?_
                   refine AllReadyH.cons (o:=⟨some 180,Op.call ⟨Callee.builtin Builtin.append,#[Operand.tmp 176,Operand.tmp 179],#[98,98]⟩,98,_,_,none⟩) rfl (fun K G=>?_) (AllReadyH.cons (o:=⟨some 182,Op.load 9 (Operand.tmp 181),9,_,_,none⟩) rfl (fun K G=>?_) AllReadyH.nil)
                   · refine fP rfl (.tmp 176) (.tmp 179) 98 rfl O.heap.size 9 b8 (.string ⟨#[]⟩) 1 16 underlying98 CV CW CX CY rfl (by decide) _ _ _ rfl I ⟨g4,0,none⟩ (ah q.data.toList).length CE (ag (ah q.data.toList)) rfl (by simp[ag]) (ia (L:=ah q.data.toList) U.out 0) (gI _) (by unfold maxLen;omega) (by omega) F.size ?_
                     intro v5 w5 Z P C8;have H:Below O.heap.size O w5:=F.grown P F.size (fun k hk=>(I.lt k hk).1);rw[Nat.zero_add,List.nil_append]at Z;clear P C8;refine G.out _ _ ⟨(H.cell (p:=⟨w.heap.size,1,none⟩) d).trans s1,(H.cell (p:=⟨w.heap.size,2,none⟩) d).trans s2⟩ (fun z=>?_)
                     clear z G K;try simp only[Act.put,List.setIfInBounds_toArray,List.set_cons_zero,List.set_cons_succ]
                     refine wpAnyH_ready (rs:=[6]) (by kernel_rfl) (by simp) ?_
                     refine AllReadyH.cons (o:=⟨some 182,Op.load 9 (Operand.tmp 181),9,_,_,none⟩) rfl (fun K G=>?_) AllReadyH.nil
                     have f0:w5.cell? ⟨T.heap.size,0,none⟩=some (.string L[y].path):=(H.cell (p:=⟨T.heap.size,0,none⟩) CJ).trans x0;go_simp
                     clear f0;refine G.out _ _ ⟨(H.cell (p:=⟨w.heap.size,1,none⟩) d).trans s1,(H.cell (p:=⟨w.heap.size,2,none⟩) d).trans s2⟩ (fun z=>?_)
                     clear z G K;try simp only[Act.put,List.setIfInBounds_toArray,List.set_cons_zero,List.set_cons_succ]
                     generalize Value.slice (some (Addr.mk g4 0 none)) _ CE=C5;clear I U;try clear A
                     try clear F
                     clear CP C7 CI C4;revert Z H
                     revert w5 v5 C5 CG
                     exact rest.out
                   · have f0:wz.cell? ⟨T.heap.size,0,none⟩=some (.string L[y].path):=(F.cell (p:=⟨T.heap.size,0,none⟩) CJ).trans x0
                     go_simp
                     clear f0;refine G.out _ _ ⟨(F.cell (p:=⟨w.heap.size,1,none⟩) d).trans s1,(F.cell (p:=⟨w.heap.size,2,none⟩) d).trans s2⟩ (fun z=>?_)
                     clear z G K;try simp only[Act.put,List.setIfInBounds_toArray,List.set_cons_zero,List.set_cons_succ]
                     refine wpAnyH_ready (rs:=[4]) (by kernel_rfl) (by simp) ?_
                     refine AllReadyH.cons (o:=⟨some 180,Op.call ⟨Callee.builtin Builtin.append,#[Operand.tmp 176,Operand.tmp 179],#[98,98]⟩,98,_,_,none⟩) rfl (fun K G=>?_) AllReadyH.nil
                     refine fP rfl (.tmp 176) (.tmp 179) 98 rfl O.heap.size 9 b8 (.string ⟨#[]⟩) 1 16 underlying98 CV CW CX CY rfl (by decide) _ _ _ rfl I ⟨g4,0,none⟩ (ah q.data.toList).length CE (ag (ah q.data.toList)) rfl (by simp[ag]) (ia (L:=ah q.data.toList) U.out 0) (gI _) (by unfold maxLen;omega) (by omega) F.size ?_
                     intro v5 w5 Z P C8;have H:Below O.heap.size O w5:=F.grown P F.size (fun k hk=>(I.lt k hk).1);rw[Nat.zero_add,List.nil_append]at Z;clear P C8;refine G.out _ _ ⟨(H.cell (p:=⟨w.heap.size,1,none⟩) d).trans s1,(H.cell (p:=⟨w.heap.size,2,none⟩) d).trans s2⟩ (fun z=>?_)
                     clear z G K;try simp only[Act.put,List.setIfInBounds_toArray,List.set_cons_zero,List.set_cons_succ]
                     generalize Value.slice (some (Addr.mk g4 0 none)) _ CE=C5;clear I U;try clear A
                     try clear F
                     clear CP C7 CI C4;revert Z H
                     revert w5 v5 C5 CG
                     exact rest.out
                 · have f0:wn.cell? ⟨T.heap.size,0,none⟩=some (.string L[y].path):=(A.cell (p:=⟨T.heap.size,0,none⟩) CJ).trans x0
                   go_simp
                   clear f0;refine G.out _ _ ⟨(A.cell (p:=⟨w.heap.size,1,none⟩) d).trans s1,(A.cell (p:=⟨w.heap.size,2,none⟩) d).trans s2⟩ (fun z=>?_)
                   clear z G K;try simp only[Act.put,List.setIfInBounds_toArray,List.set_cons_zero,List.set_cons_succ]
                   refine wpAnyH_ready (rs:=[0]) (by kernel_rfl) (by simp) ?_
                   refine AllReadyH.cons (o:=⟨some 176,Op.buildSlice 98 0 #[],98,_,_,none⟩) rfl (fun K G=>?_) AllReadyH.nil
                   go_simp
                   generalize C9:World.alloc wn (.cells #[] 9)=wz;have F:Below O.heap.size O wz:=C9▸A.alloc A.size _;have I:wz.ownsRow O.heap.size 9 1 (.slice (some ⟨wn.heap.size,0,none⟩) 0 0) 0 []:=C9▸Pp.own_mono (World.ownsRow_made wn #[] 0 (Nat.le_refl _) (by decide) rfl) A.size;have CN:Below wn.heap.size wn wz:=C9▸(Below.refl _ _).alloc (Nat.le_refl _) _;have D4: ∀i (h:i<(ah q.data.toList).length),wz.cell? ⟨g4,i,none⟩=some (.string ⟨((ah q.data.toList)[i]).toArray⟩):=fun i h=>(CN.cell (p:=⟨g4,i,none⟩) C7).trans (U.out i h)
                   clear U;have U:=hid D4;clear CN D4;clear C9;generalize Value.slice (some (Addr.mk _ 0 none)) 0 0=CG at I⊢;refine G.out _ _ ⟨(F.cell (p:=⟨w.heap.size,1,none⟩) d).trans s1,(F.cell (p:=⟨w.heap.size,2,none⟩) d).trans s2⟩ (fun z=>?_)
                   clear z G K;try simp only[Act.put,List.setIfInBounds_toArray,List.set_cons_zero,List.set_cons_succ]
                   refine wpAnyH_ready (rs:=[4]) (by kernel_rfl) (by simp) ?_
                   refine AllReadyH.cons (o:=⟨some 180,Op.call ⟨Callee.builtin Builtin.append,#[Operand.tmp 176,Operand.tmp 179],#[98,98]⟩,98,_,_,none⟩) rfl (fun K G=>?_) AllReadyH.nil
                   refine fP rfl (.tmp 176) (.tmp 179) 98 rfl O.heap.size 9 b8 (.string ⟨#[]⟩) 1 16 underlying98 CV CW CX CY rfl (by decide) _ _ _ rfl I ⟨g4,0,none⟩ (ah q.data.toList).length CE (ag (ah q.data.toList)) rfl (by simp[ag]) (ia (L:=ah q.data.toList) U.out 0) (gI _) (by unfold maxLen;omega) (by omega) F.size ?_
                   intro v5 w5 Z P C8;have H:Below O.heap.size O w5:=F.grown P F.size (fun k hk=>(I.lt k hk).1);rw[Nat.zero_add,List.nil_append]at Z;clear P C8;refine G.out _ _ ⟨(H.cell (p:=⟨w.heap.size,1,none⟩) d).trans s1,(H.cell (p:=⟨w.heap.size,2,none⟩) d).trans s2⟩ (fun z=>?_)
                   clear z G K;try simp only[Act.put,List.setIfInBounds_toArray,List.set_cons_zero,List.set_cons_succ]
                   generalize Value.slice (some (Addr.mk g4 0 none)) _ CE=C5;clear I U;try clear A
                   try clear F
                   clear CP C7 CI C4;revert Z H
                   revert w5 v5 C5 CG
                   exact rest.out
               · have f0:O.drew.cell? ⟨T.heap.size,0,none⟩=some (.string L[y].path):=(D6.cell (p:=⟨T.heap.size,0,none⟩) CJ).trans x0
                 go_simp
                 clear f0;refine G.out _ _ ⟨(D6.cell (p:=⟨w.heap.size,1,none⟩) d).trans s1,(D6.cell (p:=⟨w.heap.size,2,none⟩) d).trans s2⟩ (fun z=>?_)
                 clear z G K;try simp only[Act.put,List.setIfInBounds_toArray,List.set_cons_zero,List.set_cons_succ]
                 refine wpAnyH_ready (rs:=[0,3]) (by kernel_rfl) (by simp) ?_
                 refine AllReadyH.cons (o:=⟨some 176,Op.buildSlice 98 0 #[],98,_,_,none⟩) rfl (fun K G=>?_) (AllReadyH.cons (o:=⟨some 179,Op.call ⟨Callee.value (Operand.func 124),#[Operand.tmp 178],#[9]⟩,98,_,_,none⟩) rfl (fun K G=>?_) AllReadyH.nil)
                 · go_simp
                   generalize C9:(World.alloc O (.cells #[] 9)).drew=wz;have F:Below O.heap.size O wz:=C9▸((Below.refl _ _).alloc (Nat.le_refl _) _).drew;have I:wz.ownsRow O.heap.size 9 1 (.slice (some ⟨O.heap.size,0,none⟩) 0 0) 0 []:=C9▸(World.ownsRow_made O #[] 0 (Nat.le_refl _) (by decide) rfl).drew;clear C9;generalize Value.slice (some (Addr.mk _ 0 none)) 0 0=CG at I⊢;refine G.out _ _ ⟨(F.cell (p:=⟨w.heap.size,1,none⟩) d).trans s1,(F.cell (p:=⟨w.heap.size,2,none⟩) d).trans s2⟩ (fun z=>?_)
                   clear z G K;try simp only[Act.put,List.setIfInBounds_toArray,List.set_cons_zero,List.set_cons_succ]
                   refine wpAnyH_ready (rs:=[3]) (by kernel_rfl) (by simp) ?_
                   refine AllReadyH.cons (o:=⟨some 179,Op.call ⟨Callee.value (Operand.func 124),#[Operand.tmp 178],#[9]⟩,98,_,_,none⟩) rfl (fun K G=>?_) AllReadyH.nil
                   go_simp
                   refine(eM q _ (by omega)).mono ?_
                   rintro e wn ⟨g4,CE,rfl,CI,C4,CP,C7,N,Y⟩;go_wp2_with fail;have A:Below O.heap.size O wn:=F.trans (Y.mono F.size);have U:=hid N;clear N;have CM:=eI I Y;clear I;have I:=CM;clear CM;clear Y;refine G.out _ _ ⟨(A.cell (p:=⟨w.heap.size,1,none⟩) d).trans s1,(A.cell (p:=⟨w.heap.size,2,none⟩) d).trans s2⟩ (fun z=>?_)
                   clear z G K;try simp only[Act.put,List.setIfInBounds_toArray,List.set_cons_zero,List.set_cons_succ]
                   refine wpAnyH_ready (rs:=[4]) (by kernel_rfl) (by simp) ?_
                   refine AllReadyH.cons (o:=⟨some 180,Op.call ⟨Callee.builtin Builtin.append,#[Operand.tmp 176,Operand.tmp 179],#[98,98]⟩,98,_,_,none⟩) rfl (fun K G=>?_) AllReadyH.nil
                   refine fP rfl (.tmp 176) (.tmp 179) 98 rfl O.heap.size 9 b8 (.string ⟨#[]⟩) 1 16 underlying98 CV CW CX CY rfl (by decide) _ _ _ rfl I ⟨g4,0,none⟩ (ah q.data.toList).length CE (ag (ah q.data.toList)) rfl (by simp[ag]) (ia (L:=ah q.data.toList) U.out 0) (gI _) (by unfold maxLen;omega) (by omega) A.size ?_
                   intro v5 w5 Z P C8;have H:Below O.heap.size O w5:=A.grown P A.size (fun k hk=>(I.lt k hk).1);rw[Nat.zero_add,List.nil_append]at Z;clear P C8;refine G.out _ _ ⟨(H.cell (p:=⟨w.heap.size,1,none⟩) d).trans s1,(H.cell (p:=⟨w.heap.size,2,none⟩) d).trans s2⟩ (fun z=>?_)
                   clear z G K;try simp only[Act.put,List.setIfInBounds_toArray,List.set_cons_zero,List.set_cons_succ]
                   generalize Value.slice (some (Addr.mk g4 0 none)) _ CE=C5;clear I U;try clear A
                   try clear F
                   clear CP C7 CI C4;revert Z H
                   revert w5 v5 C5 CG
                   exact rest.out
                 · go_simp
                   refine(eM q _ (by omega)).mono ?_
                   rintro e wn ⟨g4,CE,rfl,CI,C4,CP,C7,N,Y⟩;go_wp2_with fail;have A:Below O.heap.size O wn:=D6.trans (Y.mono D6.size);have U:=hid N;clear N;clear Y;refine G.out _ _ ⟨(A.cell (p:=⟨w.heap.size,1,none⟩) d).trans s1,(A.cell (p:=⟨w.heap.size,2,none⟩) d).trans s2⟩ (fun z=>?_)
                   clear z G K;try simp only[Act.put,List.setIfInBounds_toArray,List.set_cons_zero,List.set_cons_succ]
                   refine wpAnyH_ready (rs:=[0]) (by kernel_rfl) (by simp) ?_
                   refine AllReadyH.cons (o:=⟨some 176,Op.buildSlice 98 0 #[],98,_,_,none⟩) rfl (fun K G=>?_) AllReadyH.nil
                   go_simp
                   generalize C9:World.alloc wn (.cells #[] 9)=wz;have F:Below O.heap.size O wz:=C9▸A.alloc A.size _;have I:wz.ownsRow O.heap.size 9 1 (.slice (some ⟨wn.heap.size,0,none⟩) 0 0) 0 []:=C9▸Pp.own_mono (World.ownsRow_made wn #[] 0 (Nat.le_refl _) (by decide) rfl) A.size;have CN:Below wn.heap.size wn wz:=C9▸(Below.refl _ _).alloc (Nat.le_refl _) _;have D4: ∀i (h:i<(ah q.data.toList).length),wz.cell? ⟨g4,i,none⟩=some (.string ⟨((ah q.data.toList)[i]).toArray⟩):=fun i h=>(CN.cell (p:=⟨g4,i,none⟩) C7).trans (U.out i h)
                   clear U;have U:=hid D4;clear CN D4;clear C9;generalize Value.slice (some (Addr.mk _ 0 none)) 0 0=CG at I⊢;refine G.out _ _ ⟨(F.cell (p:=⟨w.heap.size,1,none⟩) d).trans s1,(F.cell (p:=⟨w.heap.size,2,none⟩) d).trans s2⟩ (fun z=>?_)
                   clear z G K;try simp only[Act.put,List.setIfInBounds_toArray,List.set_cons_zero,List.set_cons_succ]
                   refine wpAnyH_ready (rs:=[4]) (by kernel_rfl) (by simp) ?_
                   refine AllReadyH.cons (o:=⟨some 180,Op.call ⟨Callee.builtin Builtin.append,#[Operand.tmp 176,Operand.tmp 179],#[98,98]⟩,98,_,_,none⟩) rfl (fun K G=>?_) AllReadyH.nil
                   refine fP rfl (.tmp 176) (.tmp 179) 98 rfl O.heap.size 9 b8 (.string ⟨#[]⟩) 1 16 underlying98 CV CW CX CY rfl (by decide) _ _ _ rfl I ⟨g4,0,none⟩ (ah q.data.toList).length CE (ag (ah q.data.toList)) rfl (by simp[ag]) (ia (L:=ah q.data.toList) U.out 0) (gI _) (by unfold maxLen;omega) (by omega) F.size ?_
                   intro v5 w5 Z P C8;have H:Below O.heap.size O w5:=F.grown P F.size (fun k hk=>(I.lt k hk).1);rw[Nat.zero_add,List.nil_append]at Z;clear P C8;refine G.out _ _ ⟨(H.cell (p:=⟨w.heap.size,1,none⟩) d).trans s1,(H.cell (p:=⟨w.heap.size,2,none⟩) d).trans s2⟩ (fun z=>?_)
                   clear z G K;try simp only[Act.put,List.setIfInBounds_toArray,List.set_cons_zero,List.set_cons_succ]
                   generalize Value.slice (some (Addr.mk g4 0 none)) _ CE=C5;clear I U;try clear A
                   try clear F
                   clear CP C7 CI C4;revert Z H
                   revert w5 v5 C5 CG
                   exact rest.out
             intro CG v5 w5 C5 Z H;have E3:=hid Z;clear Z;refine wpAnyH_ready (rs:=[7]) (by kernel_rfl) (by simp) ?_
             refine AllReadyH.cons (o:=⟨some 183,Op.call ⟨Callee.value (Operand.func 124),#[Operand.tmp 182],#[9]⟩,98,_,_,none⟩) rfl (fun K G=>?_) AllReadyH.nil
             go_simp
             refine(eM (L[y]).path _ (by omega)).mono ?_
             rintro e w7 ⟨g6,c6,rfl,EL,Ej,Fc,Er,Dg,DN⟩;go_wp2_with fail;have E4:=hid (eI E3.out DN);have D3:Below O.heap.size O w7:=H.trans (DN.mono H.size);have DW:=hid Dg;clear Dg DN E3;refine G.out _ _ ⟨(D3.cell (p:=⟨w.heap.size,1,none⟩) d).trans s1,(D3.cell (p:=⟨w.heap.size,2,none⟩) d).trans s2⟩ (fun z=>?_)
             clear z G K;try simp only[Act.put,List.setIfInBounds_toArray,List.set_cons_zero,List.set_cons_succ]
             refine wpAnyH_ready (rs:=[10]) (by kernel_rfl) (by simp) ?_
             refine AllReadyH.cons (o:=⟨some 186,Op.call ⟨Callee.value (Operand.func 124),#[Operand.tmp 185],#[9]⟩,98,_,_,none⟩) rfl (fun K G=>?_) AllReadyH.nil
             go_simp
             refine(eM p _ (by omega)).mono ?_
             rintro e w8 ⟨g7,c7,rfl,F8,EX,Fe,EZ,DA,Dy⟩;go_wp2_with fail;have Dx:=hid (eI E4.out Dy);have CS:Below O.heap.size O w8:=D3.trans (Dy.mono D3.size);have DX:=hid (show∀i (h:i<(ah (L[y]).path.data.toList).length),w8.cell? ⟨g6,i,none⟩=some (.string ⟨((ah (L[y]).path.data.toList)[i]).toArray⟩)from fun i h=>(Dy.cell (p:=⟨g6,i,none⟩) Er).trans (DW.out i h));clear DA Dy E4 DW D3;refine G.out _ _ ⟨(CS.cell (p:=⟨w.heap.size,1,none⟩) d).trans s1,(CS.cell (p:=⟨w.heap.size,2,none⟩) d).trans s2⟩ (fun E=>?_)
             clear G K;try simp only[Act.put,List.setIfInBounds_toArray,List.set_cons_zero,List.set_cons_succ]
             refine wpAnyH_take (i:=11) (oi:=⟨some 187,Op.call ⟨Callee.builtin Builtin.len,#[Operand.tmp 186],#[98]⟩,3,_,_,none⟩) (v:=?_) rfl (by kernel_rfl) (by kernel_rfl) (by kernel_rfl) (fun _ _ _ h=>h) (Or.inl ⟨by rfl,?_⟩) E ?_
             rotate_left
             · (intro W Q;obtain⟨t1,t2⟩:=Q;go_simp<;>with_reducible rfl)
             try simp only[Act.put,List.setIfInBounds_toArray,List.set_cons_zero,List.set_cons_succ]
             have Fl:((ah p.data.toList).length:Int)≤(ah (L[y]).path.data.toList).length:=by omega
             have Fk:((ah (L[y]).path.data.toList).length:Int)≤c6:=by omega
             by_cases F9:c6=(ah p.data.toList).length
             all_goals
              refine wpAnyH_take (i:=12) (oi:=⟨some 188,Op.slice 98 (Operand.tmp 183) (some (Operand.tmp 187)) none none,98,_,_,none⟩) (v:=?_) rfl (by kernel_rfl) (by kernel_rfl) (by kernel_rfl) (fun _ _ _ h=>h) (Or.inl ⟨by rfl,?_⟩) E ?_
              rotate_left
              · (intro W Q;obtain⟨t1,t2⟩:=Q;go_simp<;>with_reducible rfl)
              try simp only[Act.put,List.setIfInBounds_toArray,List.set_cons_zero,List.set_cons_succ]
              refine wpAnyH_ready (rs:=[13]) (by kernel_rfl) (by simp) ?_
              refine AllReadyH.cons (o:=⟨some 189,Op.call ⟨Callee.builtin Builtin.append,#[Operand.tmp 180,Operand.tmp 188],#[98,98]⟩,98,_,_,none⟩) rfl (fun K G=>?_) AllReadyH.nil
              first
               |refine fP rfl (.tmp 180) (.tmp 188) 98 rfl O.heap.size 9 b8 (.string ⟨#[]⟩) 1 16 underlying98 CV CW CX CY rfl (by decide) _ _ _ rfl Dx.out ⟨g6,0,none⟩ _ _ (ag ((ah (L[y]).path.data.toList).drop (ah p.data.toList).length)) rfl (by simp[ag]) (by intro j u hj;rw[List.drop_of_length_le (by omega)]at hj;simp[ag]at hj) (gI _) (by unfold maxLen;omega) (by omega) CS.size ?_
               |refine fP rfl (.tmp 180) (.tmp 188) 98 rfl O.heap.size 9 b8 (.string ⟨#[]⟩) 1 16 underlying98 CV CW CX CY rfl (by decide) _ _ _ rfl Dx.out ⟨g6,(ah p.data.toList).length,none⟩ _ _ (ag ((ah (L[y]).path.data.toList).drop (ah p.data.toList).length)) rfl (by simp[ag]) (ia DX.out _) (gI _) (by unfold maxLen;omega) (by omega) CS.size ?_
              intro v9 w9 DT DK Eu;have CH:Below O.heap.size O w9:=CS.grown DK CS.size (fun k hk=>(Dx.out.lt k hk).1);rw[yf]at DT
              have DL:w9.ownsRow O.heap.size 9 1 v9 (ah q.data.toList++(ah (L[y]).path.data.toList).drop (ah p.data.toList).length).length (ag (ah q.data.toList++(ah (L[y]).path.data.toList).drop (ah p.data.toList).length)):=by
               rw[List.length_append,List.length_drop];exact DT
              obtain⟨g8,c8,rfl,Ff,F0,Dh⟩:=xZ DL (by intro e;exact ik _ (List.append_eq_nil_iff.1 e).1)
              have DY:=hid Dh;clear Dh DL DT DK Eu Dx DX;refine G.out _ _ ⟨(CH.cell (p:=⟨w.heap.size,1,none⟩) d).trans s1,(CH.cell (p:=⟨w.heap.size,2,none⟩) d).trans s2⟩ (fun z=>?_)
              clear z G K;try simp only[Act.put,List.setIfInBounds_toArray,List.set_cons_zero,List.set_cons_succ]
              refine wpAnyH_ready (rs:=[14]) (by kernel_rfl) (by simp) ?_
              refine AllReadyH.cons (o:=⟨some 190,Op.call ⟨Callee.value (Operand.func 127),#[Operand.tmp 189],#[98]⟩,9,_,_,none⟩) rfl (fun K G=>?_) AllReadyH.nil
              go_simp
              refine(yg (ah q.data.toList++(ah (L[y]).path.data.toList).drop (ah p.data.toList).length) _ g8 0 c8 _ (by rw[List.length_append,List.length_drop]) (by rw[HJ.out];omega) (by rw[List.length_append,List.length_drop];omega) (fun i h=>by rw[Nat.zero_add];exact DY.out i h)).mono ?_
              rintro e ET ⟨rfl,rfl⟩;rw[HJ.out];clear DY;go_wp2_with fail;refine G.out _ _ ⟨(CH.cell (p:=⟨w.heap.size,1,none⟩) d).trans s1,(CH.cell (p:=⟨w.heap.size,2,none⟩) d).trans s2⟩ (fun E=>?_)
              clear G K;try simp only[Act.put,List.setIfInBounds_toArray,List.set_cons_zero,List.set_cons_succ]
              refine wpAnyH_take (i:=15) (oi:=⟨some 191,Op.fieldAddr 108 (Operand.tmp 15) 0,0,_,_,none⟩) (v:=?_) rfl (by kernel_rfl) (by kernel_rfl) (by kernel_rfl) (fun _ _ _ h=>h) (Or.inl ⟨by rfl,?_⟩) E ?_
              rotate_left
              · (intro W Q;obtain⟨t1,t2⟩:=Q;go_simp<;>with_reducible rfl)
              try simp only[Act.put,List.setIfInBounds_toArray,List.set_cons_zero,List.set_cons_succ]
              refine wpAnyH_ready (rs:=[16]) (by kernel_rfl) (by simp) ?_
              refine AllReadyH.cons (o:=⟨none,Op.store 9 (Operand.tmp 191) (Operand.tmp 190),0,_,_,none⟩) rfl (fun K G=>?_) AllReadyH.nil
              have z0:=(CH.cell (p:=⟨T.heap.size,0,none⟩) CJ).trans x0;have z9:=(CH.frozen (p:=⟨T.heap.size,0,none⟩) CJ).trans Ep;go_simp
              generalize D9:World.setCell ET _ _=wt;have Dr:Below T.heap.size T wt:=D9▸(Dz.trans (CH.mono (Nat.le_of_lt CJ))).setCell (Nat.le_refl _) _;have y0:wt.cell? ⟨T.heap.size,0,none⟩=some (.string ⟨(bv C L[y]).toArray⟩):=by rw[←D9];simp[go_sem,z0]
              have y1:wt.cell? ⟨T.heap.size,1,none⟩=some (.bool L[y].folder):=by rw[←D9,World.cell?_setCell_other _ _ _ _ (by simp)];exact(CH.cell (p:=⟨T.heap.size,1,none⟩) CJ).trans aD
              have y2:wt.cell? ⟨T.heap.size,2,none⟩=some (.string L[y].text):=by rw[←D9,World.cell?_setCell_other _ _ _ _ (by simp)];exact(CH.cell (p:=⟨T.heap.size,2,none⟩) CJ).trans x2
              have y3:wt.cell? ⟨T.heap.size,3,none⟩=some (.int .i64 (aX C n L[y]).ver):=by rw[←D9,World.cell?_setCell_other _ _ _ _ (by simp)];exact(CH.cell (p:=⟨T.heap.size,3,none⟩) CJ).trans x3
              have r1:wt.cell? ⟨w.heap.size,1,none⟩=some (.string p):=(Dr.cell (p:=⟨w.heap.size,1,none⟩) CL).trans ED;have r2:wt.cell? ⟨w.heap.size,2,none⟩=some (.string q):=(Dr.cell (p:=⟨w.heap.size,2,none⟩) CL).trans EE;have DE:T.heap.size<wt.heap.size:=by rw[←D9];simp;exact Nat.lt_of_lt_of_le CJ CH.size
              clear z0 z9 D9;refine G.out _ _ ⟨r1,r2⟩ (fun z=>?_)
              clear z G K;try simp only[Act.put,List.setIfInBounds_toArray,List.set_cons_zero,List.set_cons_succ]
              refine wpAnyH_done (by kernel_rfl) ?_ _
              have E6:=hid (E5.out.below Dr);have D7:Below wg.heap.size wg wt:=C3.trans (Dr.mono C3.size);clear E CH CS H Dr r1 r2 s1 s2 x0 aD x2 x3 Ep;go_wp2_with fail;refine(nw ⟨(bv C L[y]).toArray⟩ _ (by rw[gR];omega)).mono ?_
              rintro e EU ⟨rfl,CQ⟩;rw[show Pp.big _=Pp.big (bv C L[y])from rfl];have D8:Below wg.heap.size wg EU:=D7.trans (CQ.mono D7.size);have bD:=(CQ.cell (p:=⟨T.heap.size,0,none⟩) DE).trans y0;have q1:=(CQ.cell (p:=⟨T.heap.size,1,none⟩) DE).trans y1;have bP:=(CQ.cell (p:=⟨T.heap.size,2,none⟩) DE).trans y2;have q3:=(CQ.cell (p:=⟨T.heap.size,3,none⟩) DE).trans y3;have E7:=hid (E6.out.below CQ);clear y0 y1 y2 y3 CQ D7 E6;cases Df:Pp.big (bv C L[y])with
              |true=>
               have HX:=hid (show bx L C n=2 from by rw[bx,if_neg (by rw[HN.out];decide),HE.out,if_pos (yo Dn (by rw[CU.out];exact Dl.out) Df)]);have DP:=(ak (Dk.out.trans (D8.mono Dk.out.size))).2.2.2.2.2.1;clear Df;go_wp2_with fail;go_ret2;exact⟨_,by rw[HX.out];rfl,fun h=>absurd (HX.out.symm.trans h) (by decide),DP⟩
              |false=>
               have Do:=hid (show∀j (h:j<L.length),j<y+1→aK p.data.toList L[j]=true→Pp.big (bv C L[j])=false from fun j h1 h2 h3=>by
                by_cases e:j=y
                · subst e;exact Df
                · exact Dw.out j h1 (by omega) h3)
               have F2:=Da.out y;have F3:=Da.out (y+1);have EB:=hid (DF.out y Dn Dl.out);clear Df;go_wp2_with fail;refine(lC (cE L C n y) _ (aX C n L[y]) _ E7.out (by omega)).mono ?_
               rintro e EV ⟨u,rfl,ho,DH⟩;rw[EB.out]at ho;have EA:=hid (iw ho (by omega));have DO:Below wg.heap.size wg EV:=D8.trans (DH.mono D8.size);clear ho DH bD q1 bP q3 E7;go_wp2_with fail;go_roundw
               case rel=>exact⟨y+1,by omega,by simp,EA,Do,DO⟩
               case measure=>simp[intOf];omega
         · have eY:y=L.length:=by omega
           have Eb:=yr (L:=L) (c:=C) (fun j h hw=>Dw.out j h (by omega) (by rw[CU.out]at hw;exact hw));have HX:=hid (show bx L C n=0 from by rw[bx,if_neg (by rw[HN.out];decide),HE.out,if_neg (by rw[Eb];decide)]);rw[eY,←HQ.out]at HU;have EO:=Da.out L.length;rw[←HQ.out]at EO;have E0:=HU;obtain⟨a6,EW,hu,EL,Ej,_⟩:=HU.out
           subst hu;generalize EI:bN L C n=M at*;have F7: ¬60<(M.length:Int):=by omega
           clear Eb eY Dw;go_wp2_with fail;go_ret2;exact⟨_,by rw[HX.out];rfl,fun _=>by first|exact E0.out|(rw[EI];exact E0.out),J⟩
end Go.Proofs.YtgamnckfmmbjdaaGreatDoor
