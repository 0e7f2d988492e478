/- What the reference's ChangeOf answers, of changes that write anew. -/
import Derived.Test.YtgamnckfmmbjdaaGreatDoorWGU
set_option linter.unusedSimpArgs false
set_option linter.unusedVariables false
namespace Go.Proofs.YtgamnckfmmbjdaaGreatDoor
open Go.RowKit Go.Proofs.Tryz
set_option maxHeartbeats 4000000
set_option maxRecDepth 100000
theorem zl (L:List En) (v:Value) (p q t:ByteArray) (b n:Int) (w:World) (hv:aj w v L) (hs: ∀e∈L,e.path.size≤1000000000) (hp:p.size≤1000000000) (hq:q.size≤1000000000) (ht:t.size≤1000000000) (hL:Pp.Good L) (hc:aC ⟨2,p,q,t,b⟩=0) (H0:Hid (aB L (ax p.data.toList)=0)) (j:Nat) (hj:j<L.length) (HI:Hid (bX L p.data.toList=(j:Int))) (hx:(L[j]).folder=false):
    Calls prog 159 #[v,.agg #[.int .i64 2,.string p,.string q,.string t,.int .i64 b],.int .i64 n] w fun e w'=> ∃u,e= .returned (.tuple #[u,.int .i64 (bx L ⟨2,p,q,t,b⟩ n)])∧(bx L ⟨2,p,q,t,b⟩ n=0→aj w' u (bN L ⟨2,p,q,t,b⟩ n))∧Below w.heap.size w w':=by
 obtain⟨aQ,D8,Db,Dc,Dd⟩:=info_parts Tryz.infoE
 have HV:=hid hv;have HC:=hid hc;have HS:=hid hs;have HR:=hid hL.rise;have D4:=hid hL;have CY:L.length≤60:=hL.len;have CT: -1≤b:=(iu hc).2.2.2.1;have Da:t.size≤1000000000:=by exact ht
 have HE:=hid (show et L ⟨2,p,q,t,b⟩ n=if 60<(bI (Pp.newE ⟨2,p,q,t,b⟩ n) L).length+1 then 2 else 0 from if_pos (Or.inr rfl));have HQ:=hid (show bN L ⟨2,p,q,t,b⟩ n=br (Pp.newE ⟨2,p,q,t,b⟩ n) (bI (Pp.newE ⟨2,p,q,t,b⟩ n) L)from if_pos (Or.inr rfl));obtain⟨a,D5,rfl,CX,CU,CD⟩:=hv
 have HL:Hid (∀i (h:i<L.length),∃b o,a=some ⟨b,o,none⟩∧b<w.heap.size∧cM w b (o+i*4) L[i]):=CD;obtain⟨C,hC⟩: ∃C:ar,C=⟨2,p,q,t,b⟩:=⟨_,rfl⟩
 rw[←hC]at HC HE HQ⊢;have Q:=hid hC;clear hC CD hL hs hc;go_enter func159,ntmps159
 go_wp2_with fail;refine(eN _ p q _ b _ hp hq (by omega)).mono ?_
 rintro e w1 ⟨rfl,F⟩;rw[←Q.out,HC.out];obtain⟨V,P,X,Y,T,f,z⟩:=ak F
 go_wp2_with fail;refine(ex p _ hp).mono ?_
 rintro e w2 ⟨rfl,CG⟩;have H:=F.trans (CG.mono F.size);clear V P X Y T f z F CG;obtain⟨V,P,X,Y,T,f,z⟩:=ak H
 go_wp2_with fail;refine(ez L _ ⟨(ax p.data.toList).toArray⟩ _ (HV.out.below f)).mono ?_
 rintro e w3 ⟨rfl,CH⟩;rw[show aB L _=0 from H0.out];have I:=H.trans (CH.mono H.size);clear V P X Y T f z H CH;obtain⟨V,P,X,Y,T,f,z⟩:=ak I
 go_wp2_with fail;refine(ed L _ p _ (HV.out.below f)).mono ?_
 rintro e w4 ⟨rfl,CI⟩;rw[HI.out];have C3:=I.trans (CI.mono I.size);clear V P X Y T f z I CI;obtain⟨V,P,X,Y,T,f,z⟩:=ak C3
 obtain⟨b',o',rfl,CK,CM⟩:=HL.out j hj
 have D9:(j:Int)<L.length:=by omega
 obtain⟨d0,d1,d2,d3⟩:=CM.below CK f
 rw[hx]at d1;clear d0 d2 d3 CM CK;have HB:=hid C3;go_wp2_with fail;clear V P X Y T f z;go_loopw [11] (fun i wr=> ∃m:Nat,m≤L.length∧i= .int .i64 m∧Hid (∀j (h:j<L.length),j<m→b9 p.data.toList b L[j]=false)∧Below w4.heap.size w4 wr) (fun i _=>L.length-(intOf i).toNat)
 case atStart=>exact⟨0,Nat.zero_le _,rfl,(fun j _ h=>absurd h (Nat.not_lt_zero _): ∀j (h:j<L.length),j<0→b9 p.data.toList b L[j]=false),Below.refl _ _⟩
 case round=>
  obtain⟨m,hm,rfl,HP,E⟩:=hrel
  have C5:=HB.out.trans (E.mono HB.out.size);obtain⟨V,P,X,Y,T,f,z⟩:=ak C5
  by_cases CN:m<L.length∧0≤b
  · obtain⟨Z,CS⟩:=CN
    obtain⟨b1,o1,CE,F,he⟩:=HL.out m Z
    first|subst CE|(have CF:=Option.some.inj CE;injection CF with ay e2 e3;have CQ:=ay.symm;have CR:=e2.symm;subst CQ;subst CR)
    obtain⟨d0,d1,d2,d3⟩:=he.below F f
    have C8:b1<wr.heap.size:=Nat.lt_of_lt_of_le F f.size;cases O:aI (L[m]).path.data.toList p.data.toList with
    |false=>
     have C6:=hid O;have N:=hid (kB (b:=b) (e:=L[m]) O);clear O;go_wp2_with fail;refine wp_region_held_drew (S:=fun W=>W.cell? ⟨b1,o1+m*4,none⟩=some (.string L[m].path)∧W.cell? ⟨w.heap.size,1,none⟩=some (.string p)) (by kernel_rfl) ⟨by simpa using d0,by simpa using P⟩ (fun d=>?_)
     refine wpAnyH_take (i:=0) (oi:=⟨some 103,Op.move (Operand.tmp 0),47,_,_,none⟩) (v:=?_) rfl (by kernel_rfl) (by kernel_rfl) (by kernel_rfl) (fun _ _ _ h=>h) (Or.inl ⟨by rfl,?_⟩) d ?_
     rotate_left
     · (intro W y;obtain⟨s0,s1⟩:=y;go_simp<;>with_reducible rfl)
     simp only[Act.put,List.setIfInBounds_toArray,List.set_cons_zero,List.set_cons_succ];refine wpAnyH_take (i:=1) (oi:=⟨some 104,Op.move (Operand.tmp 11),3,_,_,none⟩) (v:=?_) rfl (by kernel_rfl) (by kernel_rfl) (by kernel_rfl) (fun _ _ _ h=>h) (Or.inl ⟨by rfl,?_⟩) d ?_
     rotate_left
     · (intro W y;obtain⟨s0,s1⟩:=y;go_simp<;>with_reducible rfl)
     simp only[Act.put,List.setIfInBounds_toArray,List.set_cons_zero,List.set_cons_succ];refine wpAnyH_take (i:=2) (oi:=⟨some 105,Op.indexAddr 47 (Operand.tmp 103) (Operand.tmp 104),0,_,_,none⟩) (v:=?_) rfl (by kernel_rfl) (by kernel_rfl) (by kernel_rfl) (fun _ _ _ h=>h) (Or.inl ⟨by rfl,?_⟩) d ?_
     rotate_left
     · (intro W y;obtain⟨s0,s1⟩:=y;go_simp<;>with_reducible rfl)
     simp only[Act.put,List.setIfInBounds_toArray,List.set_cons_zero,List.set_cons_succ];refine wpAnyH_take (i:=3) (oi:=⟨some 106,Op.fieldAddr 108 (Operand.tmp 105) 0,0,_,_,none⟩) (v:=?_) rfl (by kernel_rfl) (by kernel_rfl) (by kernel_rfl) (fun _ _ _ h=>h) (Or.inl ⟨by rfl,?_⟩) d ?_
     rotate_left
     · (intro W y;obtain⟨s0,s1⟩:=y;go_simp<;>with_reducible rfl)
     simp only[Act.put,List.setIfInBounds_toArray,List.set_cons_zero,List.set_cons_succ];refine wpAnyH_take (i:=4) (oi:=⟨some 107,Op.load 9 (Operand.tmp 106),9,_,_,none⟩) (v:=?_) rfl (by kernel_rfl) (by kernel_rfl) (by kernel_rfl) (fun _ _ _ h=>h) (Or.inl ⟨by rfl,?_⟩) d ?_
     rotate_left
     · (intro W y;obtain⟨s0,s1⟩:=y;go_simp<;>with_reducible rfl)
     simp only[Act.put,List.setIfInBounds_toArray,List.set_cons_zero,List.set_cons_succ];refine wpAnyH_take (i:=5) (oi:=⟨some 108,Op.fieldAddr 55 (Operand.tmp 4) 1,0,_,_,none⟩) (v:=?_) rfl (by kernel_rfl) (by kernel_rfl) (by kernel_rfl) (fun _ _ _ h=>h) (Or.inl ⟨by rfl,?_⟩) d ?_
     rotate_left
     · (intro W y;obtain⟨s0,s1⟩:=y;go_simp<;>with_reducible rfl)
     simp only[Act.put,List.setIfInBounds_toArray,List.set_cons_zero,List.set_cons_succ];refine wpAnyH_take (i:=6) (oi:=⟨some 109,Op.load 9 (Operand.tmp 108),9,_,_,none⟩) (v:=?_) rfl (by kernel_rfl) (by kernel_rfl) (by kernel_rfl) (fun _ _ _ h=>h) (Or.inl ⟨by rfl,?_⟩) d ?_
     rotate_left
     · (intro W y;obtain⟨s0,s1⟩:=y;go_simp<;>with_reducible rfl)
     simp only[Act.put,List.setIfInBounds_toArray,List.set_cons_zero,List.set_cons_succ];refine wpAnyH_ready (rs:=[7]) (by kernel_rfl) (by simp) ?_
     refine AllReadyH.cons (o:=⟨some 110,Op.call ⟨Callee.value (Operand.func 210),#[Operand.tmp 107,Operand.tmp 109],#[9,9]⟩,4,_,_,none⟩) rfl (fun K hK=>?_) AllReadyH.nil
     go_simp
     refine(ee L[m].path p _ (HS.out _ (List.getElem_mem Z)) hp).mono ?_
     rintro e U ⟨rfl,A⟩;rw[C6.out];have k1:U.cell? ⟨b1,o1+m*4,none⟩=some (.string L[m].path):=(A.cell (p:=⟨b1,o1+m*4,none⟩) C8).trans d0;have k2:U.cell? ⟨w.heap.size,1,none⟩=some (.string p):=(A.cell (p:=⟨w.heap.size,1,none⟩) z).trans P;go_wp2_with fail;refine hK.out _ _ ⟨k1,k2⟩ (fun d=>?_)
     clear hK K;try simp only[Act.put,List.setIfInBounds_toArray,List.set_cons_zero,List.set_cons_succ]
     refine wpAnyH_take (i:=8) (oi:=⟨some 111,Op.move (Operand.tmp 110),4,_,_,none⟩) (v:=?_) rfl (by kernel_rfl) (by kernel_rfl) (by kernel_rfl) (fun _ _ _ h=>h) (Or.inl ⟨by rfl,?_⟩) d ?_
     rotate_left
     · (intro W y;obtain⟨s0,s1⟩:=y;go_simp<;>with_reducible rfl)
     simp only[Act.put,List.setIfInBounds_toArray,List.set_cons_zero,List.set_cons_succ];refine jG (g:=8) (dg:=111) (by kernel_rfl) (by kernel_rfl) (fun _ _ _ _ _ h=>h) d (fuel:=1) [(9,112),(10,113),(11,114),(12,115),(13,116),(14,117),(15,118),(16,119)] _ _ (by kernel_rfl) (by kernel_rfl) ?_
     simp only[i9,ja,Act.put,List.setIfInBounds_toArray,List.set_cons_zero,List.set_cons_succ];refine wpAnyH_take (i:=17) (oi:=⟨some 120,Op.pick (Operand.tmp 111) (Operand.tmp 119) (Operand.const (Value.bool false)),4,_,_,none⟩) (v:=?_) rfl (by kernel_rfl) (by kernel_rfl) (by kernel_rfl) (fun _ _ _ h=>h) (Or.inl ⟨by rfl,?_⟩) d ?_
     rotate_left
     · (intro W y;obtain⟨s0,s1⟩:=y;go_simp<;>with_reducible rfl)
     simp only[Act.put,List.setIfInBounds_toArray,List.set_cons_zero,List.set_cons_succ];refine wpAnyH_done (by kernel_rfl) ?_ _
     have G:Below w4.heap.size w4 U:=E.drew.trans (A.mono E.drew.size);go_wp2_with fail;go_roundw
     case rel=>exact⟨m+1,by omega,by simp,(fun j h1 h2=>by
      by_cases e:j=m
      · subst e;exact N.out
      · exact HP.out j h1 (by omega): ∀j (h:j<L.length),j<m+1→b9 p.data.toList b L[j]=false),G⟩
     case measure=>simp[intOf];omega
    |true=>
     have C6:=hid O;have HY:=hid (show b<(L[m]).ver→ ∀(k:Int) (q t:ByteArray),cO L ⟨k,p,q,t,b⟩=true from fun J k q t=>kA CS Z O J);clear O;go_wp2_with fail
     go_region_held3 (fun W=>W.cell? ⟨b1,o1+m*4,none⟩=some (.string L[m].path)∧W.cell? ⟨w.heap.size,1,none⟩=some (.string p)∧W.cell? ⟨b1,o1+m*4+3,none⟩=some (.int .i64 L[m].ver)∧W.cell? ⟨w.heap.size,4,none⟩=some (.int .i64 b)) (go_keep) (first
      |(go_at_call 210;refine(ee L[m].path p _ (HS.out _ (List.getElem_mem Z)) hp).mono ?_;rintro e U ⟨rfl,A⟩;rw[C6.out];have k1:U.cell? ⟨b1,o1+m*4,none⟩=some (.string L[m].path):=(A.cell (p:=⟨b1,o1+m*4,none⟩) C8).trans d0;have k2:U.cell? ⟨w.heap.size,1,none⟩=some (.string p):=(A.cell (p:=⟨w.heap.size,1,none⟩) z).trans P;have k3:U.cell? ⟨b1,o1+m*4+3,none⟩=some (.int .i64 L[m].ver):=(A.cell (p:=⟨b1,o1+m*4+3,none⟩) C8).trans d3;have k4:U.cell? ⟨w.heap.size,4,none⟩=some (.int .i64 b):=(A.cell (p:=⟨w.heap.size,4,none⟩) z).trans T))
     by_cases J:b<(L[m]).ver
     · have N:=hid (HY.out J)
       have CL:Below w.heap.size w U:=f.drew.trans (A.mono f.drew.size);go_wp2_with fail;go_ret2;exact⟨_,by rw[bx,if_pos (by rw[Q.out];exact N.out _ _ _)];rfl,fun h=>by rw[bx,if_pos (by rw[Q.out];exact N.out _ _ _)]at h;exact absurd h (by decide),CL⟩
     · have N:=hid (kC (p:=p.data.toList) (b:=b) (e:=L[m]) J)
       have G:Below w4.heap.size w4 U:=E.drew.trans (A.mono E.drew.size);go_wp2_with fail;go_roundw
       case rel=>exact⟨m+1,by omega,by simp,(fun j h1 h2=>by
        by_cases e:j=m
        · subst e;exact N.out
        · exact HP.out j h1 (by omega): ∀j (h:j<L.length),j<m+1→b9 p.data.toList b L[j]=false),G⟩
       case measure=>simp[intOf];omega
  · have hN:cO L C=false:=by
     rw[Q.out];exact kw CT (fun j h h0=>HP.out j h (by omega))
    have HN:=hid hN;have CO: ¬m<L.length∨(m<L.length∧ ¬0≤b):=by omega
    clear hN CN HP hm;rcases CO with CO|⟨CZ,D3⟩
    all_goals
     go_wp2_with fail;refine(lC L _ ⟨p,false,t,n⟩ _ (HV.out.below f) (by omega)).mono ?_
     rintro e w6 ⟨u,rfl,ho,CJ⟩;have HO:=hid (show w6.ownsRow wr.heap.size 108 4 u (eZ (Pp.newE C n) L).length (bw (eZ (Pp.newE C n) L))from by rw[Q.out];exact ho);have C4:Below w.heap.size w w6:=f.trans (CJ.mono f.size);clear ho CJ V P X Y T C5 E f z;rw[lB HR.out]at HO;have hM:=og (Pp.newE C n) (bI (Pp.newE C n) L);have hO:(bI (Pp.newE C n) L).length≤L.length:=List.length_filter_le _ _;rw[←HQ.out]at HO hM;obtain⟨M,C7⟩: ∃M,M=bN L C n:=⟨_,rfl⟩
     rw[←C7]at HO hM;have CP:=hid C7;clear C7;have C9:=hid (iw HO.out (by omega));obtain⟨a6,CV,rfl,D7,CW,_⟩:=C9.out
     by_cases D6:60<M.length
     · have CC:60<(M.length:Int):=by omega
       have HX:=hid (show bx L C n=2 from by rw[bx,if_neg (by rw[HN.out];decide),HE.out,if_pos (by omega)]);clear hM hO HO;go_wp2_with fail;go_ret2;exact⟨_,by rw[HX.out];rfl,fun h=>absurd (HX.out.symm.trans h) (by decide),C4⟩
     · have CC: ¬60<(M.length:Int):=by omega
       have HX:=hid (show bx L C n=0 from by rw[bx,if_neg (by rw[HN.out];decide),HE.out,if_neg (by omega)]);clear hM hO HO;go_wp2_with fail;go_ret2;exact⟨_,by rw[HX.out];rfl,fun _=>by rw[←CP.out];exact C9.out,C4⟩
theorem zm (L:List En) (v:Value) (p q t:ByteArray) (b n:Int) (w:World) (hv:aj w v L) (hs: ∀e∈L,e.path.size≤1000000000) (hp:p.size≤1000000000) (hq:q.size≤1000000000) (ht:t.size≤1000000000) (hL:Pp.Good L) (hc:aC ⟨4,p,q,t,b⟩=0) (H0:Hid (aB L (ax p.data.toList)=0)) (j:Nat) (hj:j<L.length) (HI:Hid (bX L p.data.toList=(j:Int))):
    Calls prog 159 #[v,.agg #[.int .i64 4,.string p,.string q,.string t,.int .i64 b],.int .i64 n] w fun e w'=> ∃u,e= .returned (.tuple #[u,.int .i64 (bx L ⟨4,p,q,t,b⟩ n)])∧(bx L ⟨4,p,q,t,b⟩ n=0→aj w' u (bN L ⟨4,p,q,t,b⟩ n))∧Below w.heap.size w w':=by
 obtain⟨aQ,D8,D9,Da,Db⟩:=info_parts Tryz.infoE
 have HV:=hid hv;have HC:=hid hc;have HS:=hid hs;have HR:=hid hL.rise;have Dj:=hid hL;have Df:L.length≤60:=hL.len;have D6: -1≤b:=(iu hc).2.2.2.1;have Dp:t.size≤1000000000:=by exact ht
 have HE:=hid (show et L ⟨4,p,q,t,b⟩ n=0 from rfl);have HQ:=hid (show bN L ⟨4,p,q,t,b⟩ n=L.filter (fun e=> !aK p.data.toList e)from rfl);have Do:(j:Int)<L.length:=by omega
 obtain⟨a,Dk,rfl,De,D7,CN⟩:=hv
 have HL:Hid (∀i (h:i<L.length),∃b o,a=some ⟨b,o,none⟩∧b<w.heap.size∧cM w b (o+i*4) L[i]):=CN;obtain⟨C,hC⟩: ∃C:ar,C=⟨4,p,q,t,b⟩:=⟨_,rfl⟩
 rw[←hC]at HC HE HQ⊢;have CC:=hid hC;clear hC CN hL hs hc;go_enter func159,ntmps159
 go_wp2_with fail;refine(eN _ p q _ b _ hp hq (by omega)).mono ?_
 rintro e w1 ⟨rfl,J⟩;rw[←CC.out,HC.out];obtain⟨c0,Q,c2,c3,V,d,E⟩:=ak J
 go_wp2_with fail;refine(ex p _ hp).mono ?_
 rintro e w2 ⟨rfl,CP⟩;have Y:=J.trans (CP.mono J.size);clear c0 Q c2 c3 V d E J CP;obtain⟨c0,Q,c2,c3,V,d,E⟩:=ak Y
 go_wp2_with fail;refine(ez L _ ⟨(ax p.data.toList).toArray⟩ _ (HV.out.below d)).mono ?_
 rintro e w3 ⟨rfl,CQ⟩;rw[show aB L _=0 from H0.out];have Z:=Y.trans (CQ.mono Y.size);clear c0 Q c2 c3 V d E Y CQ;obtain⟨c0,Q,c2,c3,V,d,E⟩:=ak Z
 go_wp2_with fail;refine(ed L _ p _ (HV.out.below d)).mono ?_
 rintro e w4 ⟨rfl,CR⟩;rw[HI.out];have CF:=Z.trans (CR.mono Z.size);clear c0 Q c2 c3 V d E Z CR;obtain⟨c0,Q,c2,c3,V,d,E⟩:=ak CF
 have HB:=hid CF;go_wp2_with fail;clear c0 Q c2 c3 V d E;go_loopw [11] (fun i wr=> ∃m:Nat,m≤L.length∧i= .int .i64 m∧Hid (∀j (h:j<L.length),j<m→b9 p.data.toList b L[j]=false)∧Below w4.heap.size w4 wr) (fun i _=>L.length-(intOf i).toNat)
 case atStart=>exact⟨0,Nat.zero_le _,rfl,(fun j _ h=>absurd h (Nat.not_lt_zero _): ∀j (h:j<L.length),j<0→b9 p.data.toList b L[j]=false),Below.refl _ _⟩
 case round=>
  obtain⟨m,hm,rfl,HP,z⟩:=hrel
  have C7:=HB.out.trans (z.mono HB.out.size);obtain⟨c0,Q,c2,c3,V,d,E⟩:=ak C7
  by_cases CU:m<L.length∧0≤b
  · obtain⟨CE,D5⟩:=CU
    obtain⟨b1,o1,CD,J,he⟩:=HL.out m CE
    first|subst CD|(have CO:=Option.some.inj CD;injection CO with ay e2 e3;have D3:=ay.symm;have D4:=e2.symm;subst D3;subst D4)
    obtain⟨d0,d1,d2,d3⟩:=he.below J d
    have C5:b1<wr.heap.size:=Nat.lt_of_lt_of_le J d.size;cases H:aI (L[m]).path.data.toList p.data.toList with
    |false=>
     have CI:=hid H;have P:=hid (kB (b:=b) (e:=L[m]) H);clear H;go_wp2_with fail;refine wp_region_held_drew (S:=fun W=>W.cell? ⟨b1,o1+m*4,none⟩=some (.string L[m].path)∧W.cell? ⟨w.heap.size,1,none⟩=some (.string p)) (by kernel_rfl) ⟨by simpa using d0,by simpa using Q⟩ (fun y=>?_)
     refine wpAnyH_take (i:=0) (oi:=⟨some 103,Op.move (Operand.tmp 0),47,_,_,none⟩) (v:=?_) rfl (by kernel_rfl) (by kernel_rfl) (by kernel_rfl) (fun _ _ _ h=>h) (Or.inl ⟨by rfl,?_⟩) y ?_
     rotate_left
     · (intro W F;obtain⟨s0,s1⟩:=F;go_simp<;>with_reducible rfl)
     simp only[Act.put,List.setIfInBounds_toArray,List.set_cons_zero,List.set_cons_succ];refine wpAnyH_take (i:=1) (oi:=⟨some 104,Op.move (Operand.tmp 11),3,_,_,none⟩) (v:=?_) rfl (by kernel_rfl) (by kernel_rfl) (by kernel_rfl) (fun _ _ _ h=>h) (Or.inl ⟨by rfl,?_⟩) y ?_
     rotate_left
     · (intro W F;obtain⟨s0,s1⟩:=F;go_simp<;>with_reducible rfl)
     simp only[Act.put,List.setIfInBounds_toArray,List.set_cons_zero,List.set_cons_succ];refine wpAnyH_take (i:=2) (oi:=⟨some 105,Op.indexAddr 47 (Operand.tmp 103) (Operand.tmp 104),0,_,_,none⟩) (v:=?_) rfl (by kernel_rfl) (by kernel_rfl) (by kernel_rfl) (fun _ _ _ h=>h) (Or.inl ⟨by rfl,?_⟩) y ?_
     rotate_left
     · (intro W F;obtain⟨s0,s1⟩:=F;go_simp<;>with_reducible rfl)
     simp only[Act.put,List.setIfInBounds_toArray,List.set_cons_zero,List.set_cons_succ];refine wpAnyH_take (i:=3) (oi:=⟨some 106,Op.fieldAddr 108 (Operand.tmp 105) 0,0,_,_,none⟩) (v:=?_) rfl (by kernel_rfl) (by kernel_rfl) (by kernel_rfl) (fun _ _ _ h=>h) (Or.inl ⟨by rfl,?_⟩) y ?_
     rotate_left
     · (intro W F;obtain⟨s0,s1⟩:=F;go_simp<;>with_reducible rfl)
     simp only[Act.put,List.setIfInBounds_toArray,List.set_cons_zero,List.set_cons_succ];refine wpAnyH_take (i:=4) (oi:=⟨some 107,Op.load 9 (Operand.tmp 106),9,_,_,none⟩) (v:=?_) rfl (by kernel_rfl) (by kernel_rfl) (by kernel_rfl) (fun _ _ _ h=>h) (Or.inl ⟨by rfl,?_⟩) y ?_
     rotate_left
     · (intro W F;obtain⟨s0,s1⟩:=F;go_simp<;>with_reducible rfl)
     simp only[Act.put,List.setIfInBounds_toArray,List.set_cons_zero,List.set_cons_succ];refine wpAnyH_take (i:=5) (oi:=⟨some 108,Op.fieldAddr 55 (Operand.tmp 4) 1,0,_,_,none⟩) (v:=?_) rfl (by kernel_rfl) (by kernel_rfl) (by kernel_rfl) (fun _ _ _ h=>h) (Or.inl ⟨by rfl,?_⟩) y ?_
     rotate_left
     · (intro W F;obtain⟨s0,s1⟩:=F;go_simp<;>with_reducible rfl)
     simp only[Act.put,List.setIfInBounds_toArray,List.set_cons_zero,List.set_cons_succ];refine wpAnyH_take (i:=6) (oi:=⟨some 109,Op.load 9 (Operand.tmp 108),9,_,_,none⟩) (v:=?_) rfl (by kernel_rfl) (by kernel_rfl) (by kernel_rfl) (fun _ _ _ h=>h) (Or.inl ⟨by rfl,?_⟩) y ?_
     rotate_left
     · (intro W F;obtain⟨s0,s1⟩:=F;go_simp<;>with_reducible rfl)
     simp only[Act.put,List.setIfInBounds_toArray,List.set_cons_zero,List.set_cons_succ];refine wpAnyH_ready (rs:=[7]) (by kernel_rfl) (by simp) ?_
     refine AllReadyH.cons (o:=⟨some 110,Op.call ⟨Callee.value (Operand.func 210),#[Operand.tmp 107,Operand.tmp 109],#[9,9]⟩,4,_,_,none⟩) rfl (fun K hK=>?_) AllReadyH.nil
     go_simp
     refine(ee L[m].path p _ (HS.out _ (List.getElem_mem CE)) hp).mono ?_
     rintro e U ⟨rfl,A⟩;rw[CI.out];have k1:U.cell? ⟨b1,o1+m*4,none⟩=some (.string L[m].path):=(A.cell (p:=⟨b1,o1+m*4,none⟩) C5).trans d0;have k2:U.cell? ⟨w.heap.size,1,none⟩=some (.string p):=(A.cell (p:=⟨w.heap.size,1,none⟩) E).trans Q;go_wp2_with fail;refine hK.out _ _ ⟨k1,k2⟩ (fun y=>?_)
     clear hK K;try simp only[Act.put,List.setIfInBounds_toArray,List.set_cons_zero,List.set_cons_succ]
     refine wpAnyH_take (i:=8) (oi:=⟨some 111,Op.move (Operand.tmp 110),4,_,_,none⟩) (v:=?_) rfl (by kernel_rfl) (by kernel_rfl) (by kernel_rfl) (fun _ _ _ h=>h) (Or.inl ⟨by rfl,?_⟩) y ?_
     rotate_left
     · (intro W F;obtain⟨s0,s1⟩:=F;go_simp<;>with_reducible rfl)
     simp only[Act.put,List.setIfInBounds_toArray,List.set_cons_zero,List.set_cons_succ];refine jG (g:=8) (dg:=111) (by kernel_rfl) (by kernel_rfl) (fun _ _ _ _ _ h=>h) y (fuel:=1) [(9,112),(10,113),(11,114),(12,115),(13,116),(14,117),(15,118),(16,119)] _ _ (by kernel_rfl) (by kernel_rfl) ?_
     simp only[i9,ja,Act.put,List.setIfInBounds_toArray,List.set_cons_zero,List.set_cons_succ];refine wpAnyH_take (i:=17) (oi:=⟨some 120,Op.pick (Operand.tmp 111) (Operand.tmp 119) (Operand.const (Value.bool false)),4,_,_,none⟩) (v:=?_) rfl (by kernel_rfl) (by kernel_rfl) (by kernel_rfl) (fun _ _ _ h=>h) (Or.inl ⟨by rfl,?_⟩) y ?_
     rotate_left
     · (intro W F;obtain⟨s0,s1⟩:=F;go_simp<;>with_reducible rfl)
     simp only[Act.put,List.setIfInBounds_toArray,List.set_cons_zero,List.set_cons_succ];refine wpAnyH_done (by kernel_rfl) ?_ _
     have N:Below w4.heap.size w4 U:=z.drew.trans (A.mono z.drew.size);go_wp2_with fail;go_roundw
     case rel=>exact⟨m+1,by omega,by simp,(fun j h1 h2=>by
      by_cases e:j=m
      · subst e;exact P.out
      · exact HP.out j h1 (by omega): ∀j (h:j<L.length),j<m+1→b9 p.data.toList b L[j]=false),N⟩
     case measure=>simp[intOf];omega
    |true=>
     have CI:=hid H;have HY:=hid (show b<(L[m]).ver→ ∀(k:Int) (q t:ByteArray),cO L ⟨k,p,q,t,b⟩=true from fun C4 k q t=>kA D5 CE H C4);clear H;go_wp2_with fail
     go_region_held3 (fun W=>W.cell? ⟨b1,o1+m*4,none⟩=some (.string L[m].path)∧W.cell? ⟨w.heap.size,1,none⟩=some (.string p)∧W.cell? ⟨b1,o1+m*4+3,none⟩=some (.int .i64 L[m].ver)∧W.cell? ⟨w.heap.size,4,none⟩=some (.int .i64 b)) (go_keep) (first
      |(go_at_call 210;refine(ee L[m].path p _ (HS.out _ (List.getElem_mem CE)) hp).mono ?_;rintro e U ⟨rfl,A⟩;rw[CI.out];have k1:U.cell? ⟨b1,o1+m*4,none⟩=some (.string L[m].path):=(A.cell (p:=⟨b1,o1+m*4,none⟩) C5).trans d0;have k2:U.cell? ⟨w.heap.size,1,none⟩=some (.string p):=(A.cell (p:=⟨w.heap.size,1,none⟩) E).trans Q;have k3:U.cell? ⟨b1,o1+m*4+3,none⟩=some (.int .i64 L[m].ver):=(A.cell (p:=⟨b1,o1+m*4+3,none⟩) C5).trans d3;have k4:U.cell? ⟨w.heap.size,4,none⟩=some (.int .i64 b):=(A.cell (p:=⟨w.heap.size,4,none⟩) E).trans V))
     by_cases C4:b<(L[m]).ver
     · have P:=hid (HY.out C4)
       have CT:Below w.heap.size w U:=d.drew.trans (A.mono d.drew.size);go_wp2_with fail;go_ret2;exact⟨_,by rw[bx,if_pos (by rw[CC.out];exact P.out _ _ _)];rfl,fun h=>by rw[bx,if_pos (by rw[CC.out];exact P.out _ _ _)]at h;exact absurd h (by decide),CT⟩
     · have P:=hid (kC (p:=p.data.toList) (b:=b) (e:=L[m]) C4)
       have N:Below w4.heap.size w4 U:=z.drew.trans (A.mono z.drew.size);go_wp2_with fail;go_roundw
       case rel=>exact⟨m+1,by omega,by simp,(fun j h1 h2=>by
        by_cases e:j=m
        · subst e;exact P.out
        · exact HP.out j h1 (by omega): ∀j (h:j<L.length),j<m+1→b9 p.data.toList b L[j]=false),N⟩
       case measure=>simp[intOf];omega
  · have hN:cO L C=false:=by
     rw[CC.out];exact kw D6 (fun j h h0=>HP.out j h (by omega))
    have HN:=hid hN;have CX: ¬m<L.length∨(m<L.length∧ ¬0≤b):=by omega
    clear hN CU HP hm;rcases CX with CX|⟨Dg,Dh⟩
    all_goals
     go_wp2_with fail;have C6:=hid C7;have CY:=hid d;have CV:=E;have CS:=d.size;clear c0 Q c2 c3 V E z d C7;obtain⟨wf,CL⟩: ∃wf,wf=wr:=⟨_,rfl⟩
     rw[←CL];rw[←CL]at C6 CY CV CS;clear CL;go_loopw [12,13] (fun o i wr=> ∃x:Nat,x≤L.length∧i= .int .i64 x∧wr.ownsRow wf.heap.size 108 4 o ((L.take x).filter (fun e=> !aK p.data.toList e)).length (bw ((L.take x).filter (fun e=> !aK p.data.toList e)))∧Below wf.heap.size wf wr) (fun _ i _=>L.length-(intOf i).toNat)
     case atStart=>exact⟨0,Nat.zero_le _,rfl,World.ownsRow_nil _ _ _ _,Below.refl _ _⟩
     case round=>
      obtain⟨x,hx,rfl,I,z⟩:=hrel
      have C8:=C6.out.trans (z.mono C6.out.size);obtain⟨c0,Q,c2,c3,V,d,E⟩:=ak C8
      by_cases CJ:x<L.length
      · obtain⟨b1,o1,CD,J,he⟩:=HL.out x CJ
        subst CD;obtain⟨d0,d1,d2,d3⟩:=he.below J d
        have C5:b1<wr.heap.size:=Nat.lt_of_lt_of_le J d.size;have Dn:((L.take x).filter (fun e=> !aK p.data.toList e)).length≤60:=Nat.le_trans (List.length_filter_le _ _) (by rw[List.length_take];omega);have C3:=lJ (f:=fun e=> !aK p.data.toList e) CJ;go_wp2_with fail
        go_region_held3 (fun W=>W.cell? ⟨b1,o1+x*4,none⟩=some (.string L[x].path)∧W.cell? ⟨w.heap.size,1,none⟩=some (.string p)) (go_keep) (first
         |(go_at_call 210;refine(ee L[x].path p _ (HS.out _ (List.getElem_mem CJ)) hp).mono ?_;rintro e U ⟨rfl,A⟩;have k1:U.cell? ⟨b1,o1+x*4,none⟩=some (.string L[x].path):=(A.cell (p:=⟨b1,o1+x*4,none⟩) C5).trans d0;have k2:U.cell? ⟨w.heap.size,1,none⟩=some (.string p):=(A.cell (p:=⟨w.heap.size,1,none⟩) E).trans Q))
        have O:=eI I.drew A;have G:Below wf.heap.size wf U:=z.drew.trans (A.mono z.drew.size);have CG:Below w.heap.size w U:=d.drew.trans (A.mono d.drew.size);clear c0 Q c2 c3 V C8 I z d d0 d1 d2 d3 E C5;cases H:aK p.data.toList L[x]with
        |true=>
         have T:aI (L[x]).path.data.toList p.data.toList=true:=H;have P:=hid (show(L.take (x+1)).filter (fun e=> !aK p.data.toList e)=(L.take x).filter (fun e=> !aK p.data.toList e)from by rw[C3];simp[H]);have HO:=hid O;clear C3 H O k1 k2 A;rw[T];clear T;go_wp2_with fail;go_roundw
         case rel=>exact⟨x+1,by omega,by simp,by rw[P.out];exact HO.out,G⟩
         case measure=>simp[intOf];omega
        |false=>
         have T:aI (L[x]).path.data.toList p.data.toList=false:=H;have P:=hid (show(L.take (x+1)).filter (fun e=> !aK p.data.toList e)=(L.take x).filter (fun e=> !aK p.data.toList e)++[L[x]]from by rw[C3];simp[H]);obtain⟨d0,d1,d2,d3⟩:=he.below J CG
         generalize (L.take x).filter (fun e=> !aK p.data.toList e)=X at*;clear C3 H k1 k2 A;rw[T];clear T;go_wp2_with (at_builtin;refine wpList_append_own _ rfl _ _ 47 rfl wf.heap.size 108 aQ (.agg #[.string ⟨#[]⟩,.bool false,.string ⟨#[]⟩,.int .i64 0]) 4 48 underlying47 D8 D9 Da Db rfl (by decide) _ _ _ rfl (O.alloc _) ⟨U.heap.size,0,none⟩ 1 1 (Pp.cells L[x]) rfl rfl (eW U L[x] _) (Pp.cells_one _) (by unfold maxLen;omega) (by omega) (by have:=G.size;simp at this⊢;omega) ?_)
         intro v2 w2 CK CH CW;have N:Below wf.heap.size wf w2:=(G.alloc G.size _).grown CH (by have:=G.size;simp at this⊢;omega) (fun g hg=>by have:=(O.lt g hg).1;simp;omega);rw[fv]at CK;have C9:w2.ownsRow wf.heap.size 108 4 v2 (X++[L[x]]).length (bw (X++[L[x]])):=by rw[List.length_append];exact CK
         have HO:=hid C9;clear CK CH CW C9 O G CG d0 d1 d2 d3 he;go_wp2_with fail;go_roundw
         case rel=>exact⟨x+1,by omega,by simp,by rw[P.out];exact HO.out,N⟩
         case measure=>simp[intOf];omega
      · have eL:L.take x=L:=List.take_of_length_le (by omega)
        rw[eL]at I;have HO:=hid I;clear eL I;go_wp2_with fail;go_loopw [12,14] (fun o i wr=>i= .int .i64 0∧wr.ownsRow wf.heap.size 108 4 o (L.filter (fun e=> !aK p.data.toList e)).length (bw (L.filter (fun e=> !aK p.data.toList e)))∧Below wf.heap.size wf wr) (fun _ _ _=>0)
        case atStart=>exact⟨rfl,HO.out,z⟩
        case round=>
         obtain⟨rfl,I,z⟩:=hrel
         have C8:=C6.out.trans (z.mono C6.out.size);clear c0 Q c2 c3 V d E;obtain⟨c0,Q,c2,c3,V,d,E⟩:=ak C8
         have hK:(L.filter (fun e=> !aK p.data.toList e)).length≤L.length:=List.length_filter_le _ _;have CZ:Hid (bN L C n=L.filter (fun e=> !aK p.data.toList e)):=(HQ.out:bN L C n=L.filter (fun e=> !aK p.data.toList e))
         generalize L.filter (fun e=> !aK p.data.toList e)=M at*;have CM:=hid (iw I (by omega));have Dl: ¬60<(M.length:Int):=by omega
         have Di:0<(L.length:Int):=by omega
         have HX:=hid (show bx L C n=0 from by rw[bx,if_neg (by rw[HN.out];decide),HE.out]);obtain⟨a6,Dc,rfl,Dm,Dd,_⟩:=CM.out
         clear I hK z C8;go_wp2_with fail;go_ret2;exact⟨_,by rw[HX.out];rfl,fun _=>by rw[CZ.out];exact CM.out,d⟩
end Go.Proofs.YtgamnckfmmbjdaaGreatDoor
