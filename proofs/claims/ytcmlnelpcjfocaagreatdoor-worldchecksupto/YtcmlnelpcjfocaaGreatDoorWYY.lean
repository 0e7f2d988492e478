/- What the reference's ChangeOf answers, of changes that make a folder. -/
import Derived.Test.YtcmlnelpcjfocaaGreatDoorWYW
set_option linter.unusedSimpArgs false
set_option linter.unusedVariables false
namespace Go.Proofs.YtcmlnelpcjfocaaGreatDoor
open Go.RowKit Go.Proofs.Tryz
set_option maxHeartbeats 4000000
set_option maxRecDepth 100000
theorem FI (L:List En) (v:Value) (p q:ByteArray) (b n:Int) (w:World) (hv:an w v L) (hs: ∀e∈L,e.path.size≤1000000000) (hp:p.size≤1000000000) (hq:q.size≤1000000000) (hL:Pp.Good L) (hc:aQ ⟨1,p,q,(⟨#[]⟩:ByteArray),b⟩=0) (H0:Hid (aP L (aC p.data.toList)=0)) (HI:Hid (db L p.data.toList= -1)):
    Calls prog 129 #[v,.agg #[.int .i64 1,.string p,.string q,.string (⟨#[]⟩:ByteArray),.int .i64 b],.int .i64 n] w fun e w'=> ∃u,e= .returned (.tuple #[u,.int .i64 (cz L ⟨1,p,q,(⟨#[]⟩:ByteArray),b⟩ n)])∧(cz L ⟨1,p,q,(⟨#[]⟩:ByteArray),b⟩ n=0→an w' u (cQ L ⟨1,p,q,(⟨#[]⟩:ByteArray),b⟩ n))∧Below w.heap.size w w':=by
 obtain⟨aZ,IY,J0,J1,J2⟩:=info_parts Tryz.infoE
 have HV:=hid hv;have HC:=hid hc;have HS:=hid hs;have HR:=hid hL.rise;have IU:=hid hL;have IR:L.length≤60:=hL.len;have IL: -1≤b:=(kH hc).2.2.2.1;have IZ:(⟨#[]⟩:ByteArray).size≤1000000000:=by decide
 have HE:=hid (show gx L ⟨1,p,q,⟨#[]⟩,b⟩ n=if 60<(cL (Pp.newE ⟨1,p,q,⟨#[]⟩,b⟩ n) L).length+1 then 2 else 0 from if_pos (Or.inl rfl));have HQ:=hid (show cQ L ⟨1,p,q,⟨#[]⟩,b⟩ n=cg (Pp.newE ⟨1,p,q,⟨#[]⟩,b⟩ n) (cL (Pp.newE ⟨1,p,q,⟨#[]⟩,b⟩ n) L)from if_pos (Or.inl rfl));obtain⟨a,IV,rfl,IQ,IM,Ix⟩:=hv
 have HL:Hid (∀i (h:i<L.length),∃b o,a=some ⟨b,o,none⟩∧b<w.heap.size∧dp w b (o+i*4) L[i]):=Ix;obtain⟨C,hC⟩: ∃C:ay,C=⟨1,p,q,(⟨#[]⟩:ByteArray),b⟩:=⟨_,rfl⟩
 rw[←hC]at HC HE HQ⊢;have Q:=hid hC;clear hC Ix hL hs hc;go_enter func129,ntmps129
 go_wp2_with fail;refine(gP _ p q _ b _ hp hq (by omega)).mono ?_
 rintro e w1 ⟨rfl,F⟩;rw[←Q.out,HC.out];obtain⟨V,P,X,Y,T,f,z⟩:=aw F
 go_wp2_with fail;refine(gB p _ hp).mono ?_
 rintro e w2 ⟨rfl,IA⟩;have H:=F.trans (IA.mono F.size);clear V P X Y T f z F IA;obtain⟨V,P,X,Y,T,f,z⟩:=aw H
 go_wp2_with fail;refine(gD L _ ⟨(aC p.data.toList).toArray⟩ _ (HV.out.below f)).mono ?_
 rintro e w3 ⟨rfl,IB⟩;rw[show aP L _=0 from H0.out];have I:=H.trans (IB.mono H.size);clear V P X Y T f z H IB;obtain⟨V,P,X,Y,T,f,z⟩:=aw I
 go_wp2_with fail;refine(fR L _ p _ (HV.out.below f)).mono ?_
 rintro e w4 ⟨rfl,IC⟩;rw[HI.out];have I0:=I.trans (IC.mono I.size);clear V P X Y T f z I IC;obtain⟨V,P,X,Y,T,f,z⟩:=aw I0
 have HB:=hid I0;go_wp2_with fail;clear V P X Y T f z;go_loopw [11] (fun i wr=> ∃m:Nat,m≤L.length∧i= .int .i64 m∧Hid (∀j (h:j<L.length),j<m→dd p.data.toList b L[j]=false)∧Below w4.heap.size w4 wr) (fun i _=>L.length-(intOf i).toNat)
 case atStart=>exact⟨0,Nat.zero_le _,rfl,(fun j _ h=>absurd h (Nat.not_lt_zero _): ∀j (h:j<L.length),j<0→dd p.data.toList b L[j]=false),Below.refl _ _⟩
 case round=>
  obtain⟨m,hm,rfl,HP,E⟩:=hrel
  have I6:=HB.out.trans (E.mono HB.out.size);obtain⟨V,P,X,Y,T,f,z⟩:=aw I6
  by_cases IF:m<L.length∧0≤b
  · obtain⟨Z,IK⟩:=IF
    obtain⟨b1,o1,Iy,F,he⟩:=HL.out m Z
    first|subst Iy|(have Iz:=Option.some.inj Iy;injection Iz with e1 aE e3;have II:=e1.symm;have IJ:=aE.symm;subst II;subst IJ)
    obtain⟨d0,d1,d2,d3⟩:=he.below F f
    have I9:b1<wr.heap.size:=Nat.lt_of_lt_of_le F f.size;cases O:aU (L[m]).path.data.toList p.data.toList with
    |false=>
     have I7:=hid O;have N:=hid (nI (b:=b) (e:=L[m]) O);clear O;go_wp2_with fail;refine wp_region_held_drew (S:=fun W=>W.cell? ⟨b1,o1+m*4,none⟩=some (.string L[m].path)∧W.cell? ⟨w.heap.size,1,none⟩=some (.string p)) (by kernel_rfl) ⟨by simpa using d0,by simpa using P⟩ (fun d=>?_)
     refine wpAnyH_take (i:=0) (oi:=⟨some 103,Op.move (Operand.tmp 0),44,_,_,none⟩) (v:=?_) rfl (by kernel_rfl) (by kernel_rfl) (by kernel_rfl) (fun _ _ _ h=>h) (Or.inl ⟨by rfl,?_⟩) d ?_
     rotate_left
     · (intro W y;obtain⟨s0,s1⟩:=y;go_simp<;>with_reducible rfl)
     simp only[Act.put,List.setIfInBounds_toArray,List.set_cons_zero,List.set_cons_succ];refine wpAnyH_take (i:=1) (oi:=⟨some 104,Op.move (Operand.tmp 11),3,_,_,none⟩) (v:=?_) rfl (by kernel_rfl) (by kernel_rfl) (by kernel_rfl) (fun _ _ _ h=>h) (Or.inl ⟨by rfl,?_⟩) d ?_
     rotate_left
     · (intro W y;obtain⟨s0,s1⟩:=y;go_simp<;>with_reducible rfl)
     simp only[Act.put,List.setIfInBounds_toArray,List.set_cons_zero,List.set_cons_succ];refine wpAnyH_take (i:=2) (oi:=⟨some 105,Op.indexAddr 44 (Operand.tmp 103) (Operand.tmp 104),0,_,_,none⟩) (v:=?_) rfl (by kernel_rfl) (by kernel_rfl) (by kernel_rfl) (fun _ _ _ h=>h) (Or.inl ⟨by rfl,?_⟩) d ?_
     rotate_left
     · (intro W y;obtain⟨s0,s1⟩:=y;go_simp<;>with_reducible rfl)
     simp only[Act.put,List.setIfInBounds_toArray,List.set_cons_zero,List.set_cons_succ];refine wpAnyH_take (i:=3) (oi:=⟨some 106,Op.fieldAddr 107 (Operand.tmp 105) 0,0,_,_,none⟩) (v:=?_) rfl (by kernel_rfl) (by kernel_rfl) (by kernel_rfl) (fun _ _ _ h=>h) (Or.inl ⟨by rfl,?_⟩) d ?_
     rotate_left
     · (intro W y;obtain⟨s0,s1⟩:=y;go_simp<;>with_reducible rfl)
     simp only[Act.put,List.setIfInBounds_toArray,List.set_cons_zero,List.set_cons_succ];refine wpAnyH_take (i:=4) (oi:=⟨some 107,Op.load 9 (Operand.tmp 106),9,_,_,none⟩) (v:=?_) rfl (by kernel_rfl) (by kernel_rfl) (by kernel_rfl) (fun _ _ _ h=>h) (Or.inl ⟨by rfl,?_⟩) d ?_
     rotate_left
     · (intro W y;obtain⟨s0,s1⟩:=y;go_simp<;>with_reducible rfl)
     simp only[Act.put,List.setIfInBounds_toArray,List.set_cons_zero,List.set_cons_succ];refine wpAnyH_take (i:=5) (oi:=⟨some 108,Op.fieldAddr 72 (Operand.tmp 4) 1,0,_,_,none⟩) (v:=?_) rfl (by kernel_rfl) (by kernel_rfl) (by kernel_rfl) (fun _ _ _ h=>h) (Or.inl ⟨by rfl,?_⟩) d ?_
     rotate_left
     · (intro W y;obtain⟨s0,s1⟩:=y;go_simp<;>with_reducible rfl)
     simp only[Act.put,List.setIfInBounds_toArray,List.set_cons_zero,List.set_cons_succ];refine wpAnyH_take (i:=6) (oi:=⟨some 109,Op.load 9 (Operand.tmp 108),9,_,_,none⟩) (v:=?_) rfl (by kernel_rfl) (by kernel_rfl) (by kernel_rfl) (fun _ _ _ h=>h) (Or.inl ⟨by rfl,?_⟩) d ?_
     rotate_left
     · (intro W y;obtain⟨s0,s1⟩:=y;go_simp<;>with_reducible rfl)
     simp only[Act.put,List.setIfInBounds_toArray,List.set_cons_zero,List.set_cons_succ];refine wpAnyH_ready (rs:=[7]) (by kernel_rfl) (by simp) ?_
     refine AllReadyH.cons (o:=⟨some 110,Op.call ⟨Callee.value (Operand.func 163),#[Operand.tmp 107,Operand.tmp 109],#[9,9]⟩,4,_,_,none⟩) rfl (fun K hK=>?_) AllReadyH.nil
     go_simp
     refine(fX L[m].path p _ (HS.out _ (List.getElem_mem Z)) hp).mono ?_
     rintro e U ⟨rfl,A⟩;rw[I7.out];have k1:U.cell? ⟨b1,o1+m*4,none⟩=some (.string L[m].path):=(A.cell (p:=⟨b1,o1+m*4,none⟩) I9).trans d0;have k2:U.cell? ⟨w.heap.size,1,none⟩=some (.string p):=(A.cell (p:=⟨w.heap.size,1,none⟩) z).trans P;go_wp2_with fail;refine hK.out _ _ ⟨k1,k2⟩ (fun d=>?_)
     clear hK K;try simp only[Act.put,List.setIfInBounds_toArray,List.set_cons_zero,List.set_cons_succ]
     refine wpAnyH_take (i:=8) (oi:=⟨some 111,Op.move (Operand.tmp 110),4,_,_,none⟩) (v:=?_) rfl (by kernel_rfl) (by kernel_rfl) (by kernel_rfl) (fun _ _ _ h=>h) (Or.inl ⟨by rfl,?_⟩) d ?_
     rotate_left
     · (intro W y;obtain⟨s0,s1⟩:=y;go_simp<;>with_reducible rfl)
     simp only[Act.put,List.setIfInBounds_toArray,List.set_cons_zero,List.set_cons_succ];refine mu (g:=8) (dg:=111) (by kernel_rfl) (by kernel_rfl) (fun _ _ _ _ _ h=>h) d (fuel:=1) [(9,112),(10,113),(11,114),(12,115),(13,116),(14,117),(15,118),(16,119)] _ _ (by kernel_rfl) (by kernel_rfl) ?_
     simp only[lD,lE,Act.put,List.setIfInBounds_toArray,List.set_cons_zero,List.set_cons_succ];refine wpAnyH_take (i:=17) (oi:=⟨some 120,Op.pick (Operand.tmp 111) (Operand.tmp 119) (Operand.const (Value.bool false)),4,_,_,none⟩) (v:=?_) rfl (by kernel_rfl) (by kernel_rfl) (by kernel_rfl) (fun _ _ _ h=>h) (Or.inl ⟨by rfl,?_⟩) d ?_
     rotate_left
     · (intro W y;obtain⟨s0,s1⟩:=y;go_simp<;>with_reducible rfl)
     simp only[Act.put,List.setIfInBounds_toArray,List.set_cons_zero,List.set_cons_succ];refine wpAnyH_done (by kernel_rfl) ?_ _
     have G:Below w4.heap.size w4 U:=E.drew.trans (A.mono E.drew.size);go_wp2_with fail;go_roundw
     case rel=>exact⟨m+1,by omega,by simp,(fun j h1 h2=>by
      by_cases e:j=m
      · subst e;exact N.out
      · exact HP.out j h1 (by omega): ∀j (h:j<L.length),j<m+1→dd p.data.toList b L[j]=false),G⟩
     case measure=>simp[intOf];omega
    |true=>
     have I7:=hid O;have HY:=hid (show b<(L[m]).ver→ ∀(k:Int) (q t:ByteArray),dP L ⟨k,p,q,t,b⟩=true from fun J k q t=>nH IK Z O J);clear O;go_wp2_with fail
     go_region_held3 (fun W=>W.cell? ⟨b1,o1+m*4,none⟩=some (.string L[m].path)∧W.cell? ⟨w.heap.size,1,none⟩=some (.string p)∧W.cell? ⟨b1,o1+m*4+3,none⟩=some (.int .i64 L[m].ver)∧W.cell? ⟨w.heap.size,4,none⟩=some (.int .i64 b)) (go_keep) (first
      |(go_at_call 163;refine(fX L[m].path p _ (HS.out _ (List.getElem_mem Z)) hp).mono ?_;rintro e U ⟨rfl,A⟩;rw[I7.out];have k1:U.cell? ⟨b1,o1+m*4,none⟩=some (.string L[m].path):=(A.cell (p:=⟨b1,o1+m*4,none⟩) I9).trans d0;have k2:U.cell? ⟨w.heap.size,1,none⟩=some (.string p):=(A.cell (p:=⟨w.heap.size,1,none⟩) z).trans P;have k3:U.cell? ⟨b1,o1+m*4+3,none⟩=some (.int .i64 L[m].ver):=(A.cell (p:=⟨b1,o1+m*4+3,none⟩) I9).trans d3;have k4:U.cell? ⟨w.heap.size,4,none⟩=some (.int .i64 b):=(A.cell (p:=⟨w.heap.size,4,none⟩) z).trans T))
     by_cases J:b<(L[m]).ver
     · have N:=hid (HY.out J)
       have IE:Below w.heap.size w U:=f.drew.trans (A.mono f.drew.size);go_wp2_with fail;go_ret2;exact⟨_,by rw[cz,if_pos (by rw[Q.out];exact N.out _ _ _)];rfl,fun h=>by rw[cz,if_pos (by rw[Q.out];exact N.out _ _ _)]at h;exact absurd h (by decide),IE⟩
     · have N:=hid (nJ (p:=p.data.toList) (b:=b) (e:=L[m]) J)
       have G:Below w4.heap.size w4 U:=E.drew.trans (A.mono E.drew.size);go_wp2_with fail;go_roundw
       case rel=>exact⟨m+1,by omega,by simp,(fun j h1 h2=>by
        by_cases e:j=m
        · subst e;exact N.out
        · exact HP.out j h1 (by omega): ∀j (h:j<L.length),j<m+1→dd p.data.toList b L[j]=false),G⟩
       case measure=>simp[intOf];omega
  · have hN:dP L C=false:=by
     rw[Q.out];exact nG IL (fun j h h0=>HP.out j h (by omega))
    have HN:=hid hN;have IG: ¬m<L.length∨(m<L.length∧ ¬0≤b):=by omega
    clear hN IF HP hm;rcases IG with IG|⟨IS,IT⟩
    all_goals
     go_wp2_with fail;refine(oH L _ ⟨p,true,⟨#[]⟩,n⟩ _ (HV.out.below f) (by omega)).mono ?_
     rintro e w6 ⟨u,rfl,ho,ID⟩;have HO:=hid (show w6.ownsRow wr.heap.size 107 4 u (Pp.putR (Pp.newE C n) L).length (cr (Pp.putR (Pp.newE C n) L))from by rw[Q.out];exact ho);have I5:Below w.heap.size w w6:=f.trans (ID.mono f.size);clear ho ID V P X Y T I6 E f z;rw[oG HR.out]at HO;have hM:=rN (Pp.newE C n) (cL (Pp.newE C n) L);have hO:(cL (Pp.newE C n) L).length≤L.length:=List.length_filter_le _ _;rw[←HQ.out]at HO hM;obtain⟨M,I8⟩: ∃M,M=cQ L C n:=⟨_,rfl⟩
     rw[←I8]at HO hM;have IH:=hid I8;clear I8;have Iv:=hid (kP HO.out (by omega));obtain⟨a6,IN,rfl,IX,IP,_⟩:=Iv.out
     by_cases IW:60<M.length
     · have Iw:60<(M.length:Int):=by omega
       have HX:=hid (show cz L C n=2 from by rw[cz,if_neg (by rw[HN.out];decide),HE.out,if_pos (by omega)]);clear hM hO HO;go_wp2_with fail;go_ret2;exact⟨_,by rw[HX.out];rfl,fun h=>absurd (HX.out.symm.trans h) (by decide),I5⟩
     · have Iw: ¬60<(M.length:Int):=by omega
       have HX:=hid (show cz L C n=0 from by rw[cz,if_neg (by rw[HN.out];decide),HE.out,if_neg (by omega)]);clear hM hO HO;go_wp2_with fail;go_ret2;exact⟨_,by rw[HX.out];rfl,fun _=>by rw[←IH.out];exact Iv.out,I5⟩
theorem FJ (L:List En) (v:Value) (p q t:ByteArray) (b n:Int) (w:World) (hv:an w v L) (hs: ∀e∈L,e.path.size≤1000000000) (hp:p.size≤1000000000) (hq:q.size≤1000000000) (ht:t.size≤1000000000) (hL:Pp.Good L) (hc:aQ ⟨2,p,q,t,b⟩=0) (H0:Hid (aP L (aC p.data.toList)=0)) (HI:Hid (db L p.data.toList= -1)):
    Calls prog 129 #[v,.agg #[.int .i64 2,.string p,.string q,.string t,.int .i64 b],.int .i64 n] w fun e w'=> ∃u,e= .returned (.tuple #[u,.int .i64 (cz L ⟨2,p,q,t,b⟩ n)])∧(cz L ⟨2,p,q,t,b⟩ n=0→an w' u (cQ L ⟨2,p,q,t,b⟩ n))∧Below w.heap.size w w':=by
 obtain⟨aZ,IY,J0,J1,J2⟩:=info_parts Tryz.infoE
 have HV:=hid hv;have HC:=hid hc;have HS:=hid hs;have HR:=hid hL.rise;have IU:=hid hL;have IR:L.length≤60:=hL.len;have IL: -1≤b:=(kH hc).2.2.2.1;have IZ:t.size≤1000000000:=by exact ht
 have HE:=hid (show gx L ⟨2,p,q,t,b⟩ n=if 60<(cL (Pp.newE ⟨2,p,q,t,b⟩ n) L).length+1 then 2 else 0 from if_pos (Or.inr rfl));have HQ:=hid (show cQ L ⟨2,p,q,t,b⟩ n=cg (Pp.newE ⟨2,p,q,t,b⟩ n) (cL (Pp.newE ⟨2,p,q,t,b⟩ n) L)from if_pos (Or.inr rfl));obtain⟨a,IV,rfl,IQ,IM,Ix⟩:=hv
 have HL:Hid (∀i (h:i<L.length),∃b o,a=some ⟨b,o,none⟩∧b<w.heap.size∧dp w b (o+i*4) L[i]):=Ix;obtain⟨C,hC⟩: ∃C:ay,C=⟨2,p,q,t,b⟩:=⟨_,rfl⟩
 rw[←hC]at HC HE HQ⊢;have Q:=hid hC;clear hC Ix hL hs hc;go_enter func129,ntmps129
 go_wp2_with fail;refine(gP _ p q _ b _ hp hq (by omega)).mono ?_
 rintro e w1 ⟨rfl,F⟩;rw[←Q.out,HC.out];obtain⟨V,P,X,Y,T,f,z⟩:=aw F
 go_wp2_with fail;refine(gB p _ hp).mono ?_
 rintro e w2 ⟨rfl,IA⟩;have H:=F.trans (IA.mono F.size);clear V P X Y T f z F IA;obtain⟨V,P,X,Y,T,f,z⟩:=aw H
 go_wp2_with fail;refine(gD L _ ⟨(aC p.data.toList).toArray⟩ _ (HV.out.below f)).mono ?_
 rintro e w3 ⟨rfl,IB⟩;rw[show aP L _=0 from H0.out];have I:=H.trans (IB.mono H.size);clear V P X Y T f z H IB;obtain⟨V,P,X,Y,T,f,z⟩:=aw I
 go_wp2_with fail;refine(fR L _ p _ (HV.out.below f)).mono ?_
 rintro e w4 ⟨rfl,IC⟩;rw[HI.out];have I0:=I.trans (IC.mono I.size);clear V P X Y T f z I IC;obtain⟨V,P,X,Y,T,f,z⟩:=aw I0
 have HB:=hid I0;go_wp2_with fail;clear V P X Y T f z;go_loopw [11] (fun i wr=> ∃m:Nat,m≤L.length∧i= .int .i64 m∧Hid (∀j (h:j<L.length),j<m→dd p.data.toList b L[j]=false)∧Below w4.heap.size w4 wr) (fun i _=>L.length-(intOf i).toNat)
 case atStart=>exact⟨0,Nat.zero_le _,rfl,(fun j _ h=>absurd h (Nat.not_lt_zero _): ∀j (h:j<L.length),j<0→dd p.data.toList b L[j]=false),Below.refl _ _⟩
 case round=>
  obtain⟨m,hm,rfl,HP,E⟩:=hrel
  have I6:=HB.out.trans (E.mono HB.out.size);obtain⟨V,P,X,Y,T,f,z⟩:=aw I6
  by_cases IF:m<L.length∧0≤b
  · obtain⟨Z,IK⟩:=IF
    obtain⟨b1,o1,Iy,F,he⟩:=HL.out m Z
    first|subst Iy|(have Iz:=Option.some.inj Iy;injection Iz with e1 aE e3;have II:=e1.symm;have IJ:=aE.symm;subst II;subst IJ)
    obtain⟨d0,d1,d2,d3⟩:=he.below F f
    have I9:b1<wr.heap.size:=Nat.lt_of_lt_of_le F f.size;cases O:aU (L[m]).path.data.toList p.data.toList with
    |false=>
     have I7:=hid O;have N:=hid (nI (b:=b) (e:=L[m]) O);clear O;go_wp2_with fail;refine wp_region_held_drew (S:=fun W=>W.cell? ⟨b1,o1+m*4,none⟩=some (.string L[m].path)∧W.cell? ⟨w.heap.size,1,none⟩=some (.string p)) (by kernel_rfl) ⟨by simpa using d0,by simpa using P⟩ (fun d=>?_)
     refine wpAnyH_take (i:=0) (oi:=⟨some 103,Op.move (Operand.tmp 0),44,_,_,none⟩) (v:=?_) rfl (by kernel_rfl) (by kernel_rfl) (by kernel_rfl) (fun _ _ _ h=>h) (Or.inl ⟨by rfl,?_⟩) d ?_
     rotate_left
     · (intro W y;obtain⟨s0,s1⟩:=y;go_simp<;>with_reducible rfl)
     simp only[Act.put,List.setIfInBounds_toArray,List.set_cons_zero,List.set_cons_succ];refine wpAnyH_take (i:=1) (oi:=⟨some 104,Op.move (Operand.tmp 11),3,_,_,none⟩) (v:=?_) rfl (by kernel_rfl) (by kernel_rfl) (by kernel_rfl) (fun _ _ _ h=>h) (Or.inl ⟨by rfl,?_⟩) d ?_
     rotate_left
     · (intro W y;obtain⟨s0,s1⟩:=y;go_simp<;>with_reducible rfl)
     simp only[Act.put,List.setIfInBounds_toArray,List.set_cons_zero,List.set_cons_succ];refine wpAnyH_take (i:=2) (oi:=⟨some 105,Op.indexAddr 44 (Operand.tmp 103) (Operand.tmp 104),0,_,_,none⟩) (v:=?_) rfl (by kernel_rfl) (by kernel_rfl) (by kernel_rfl) (fun _ _ _ h=>h) (Or.inl ⟨by rfl,?_⟩) d ?_
     rotate_left
     · (intro W y;obtain⟨s0,s1⟩:=y;go_simp<;>with_reducible rfl)
     simp only[Act.put,List.setIfInBounds_toArray,List.set_cons_zero,List.set_cons_succ];refine wpAnyH_take (i:=3) (oi:=⟨some 106,Op.fieldAddr 107 (Operand.tmp 105) 0,0,_,_,none⟩) (v:=?_) rfl (by kernel_rfl) (by kernel_rfl) (by kernel_rfl) (fun _ _ _ h=>h) (Or.inl ⟨by rfl,?_⟩) d ?_
     rotate_left
     · (intro W y;obtain⟨s0,s1⟩:=y;go_simp<;>with_reducible rfl)
     simp only[Act.put,List.setIfInBounds_toArray,List.set_cons_zero,List.set_cons_succ];refine wpAnyH_take (i:=4) (oi:=⟨some 107,Op.load 9 (Operand.tmp 106),9,_,_,none⟩) (v:=?_) rfl (by kernel_rfl) (by kernel_rfl) (by kernel_rfl) (fun _ _ _ h=>h) (Or.inl ⟨by rfl,?_⟩) d ?_
     rotate_left
     · (intro W y;obtain⟨s0,s1⟩:=y;go_simp<;>with_reducible rfl)
     simp only[Act.put,List.setIfInBounds_toArray,List.set_cons_zero,List.set_cons_succ];refine wpAnyH_take (i:=5) (oi:=⟨some 108,Op.fieldAddr 72 (Operand.tmp 4) 1,0,_,_,none⟩) (v:=?_) rfl (by kernel_rfl) (by kernel_rfl) (by kernel_rfl) (fun _ _ _ h=>h) (Or.inl ⟨by rfl,?_⟩) d ?_
     rotate_left
     · (intro W y;obtain⟨s0,s1⟩:=y;go_simp<;>with_reducible rfl)
     simp only[Act.put,List.setIfInBounds_toArray,List.set_cons_zero,List.set_cons_succ];refine wpAnyH_take (i:=6) (oi:=⟨some 109,Op.load 9 (Operand.tmp 108),9,_,_,none⟩) (v:=?_) rfl (by kernel_rfl) (by kernel_rfl) (by kernel_rfl) (fun _ _ _ h=>h) (Or.inl ⟨by rfl,?_⟩) d ?_
     rotate_left
     · (intro W y;obtain⟨s0,s1⟩:=y;go_simp<;>with_reducible rfl)
     simp only[Act.put,List.setIfInBounds_toArray,List.set_cons_zero,List.set_cons_succ];refine wpAnyH_ready (rs:=[7]) (by kernel_rfl) (by simp) ?_
     refine AllReadyH.cons (o:=⟨some 110,Op.call ⟨Callee.value (Operand.func 163),#[Operand.tmp 107,Operand.tmp 109],#[9,9]⟩,4,_,_,none⟩) rfl (fun K hK=>?_) AllReadyH.nil
     go_simp
     refine(fX L[m].path p _ (HS.out _ (List.getElem_mem Z)) hp).mono ?_
     rintro e U ⟨rfl,A⟩;rw[I7.out];have k1:U.cell? ⟨b1,o1+m*4,none⟩=some (.string L[m].path):=(A.cell (p:=⟨b1,o1+m*4,none⟩) I9).trans d0;have k2:U.cell? ⟨w.heap.size,1,none⟩=some (.string p):=(A.cell (p:=⟨w.heap.size,1,none⟩) z).trans P;go_wp2_with fail;refine hK.out _ _ ⟨k1,k2⟩ (fun d=>?_)
     clear hK K;try simp only[Act.put,List.setIfInBounds_toArray,List.set_cons_zero,List.set_cons_succ]
     refine wpAnyH_take (i:=8) (oi:=⟨some 111,Op.move (Operand.tmp 110),4,_,_,none⟩) (v:=?_) rfl (by kernel_rfl) (by kernel_rfl) (by kernel_rfl) (fun _ _ _ h=>h) (Or.inl ⟨by rfl,?_⟩) d ?_
     rotate_left
     · (intro W y;obtain⟨s0,s1⟩:=y;go_simp<;>with_reducible rfl)
     simp only[Act.put,List.setIfInBounds_toArray,List.set_cons_zero,List.set_cons_succ];refine mu (g:=8) (dg:=111) (by kernel_rfl) (by kernel_rfl) (fun _ _ _ _ _ h=>h) d (fuel:=1) [(9,112),(10,113),(11,114),(12,115),(13,116),(14,117),(15,118),(16,119)] _ _ (by kernel_rfl) (by kernel_rfl) ?_
     simp only[lD,lE,Act.put,List.setIfInBounds_toArray,List.set_cons_zero,List.set_cons_succ];refine wpAnyH_take (i:=17) (oi:=⟨some 120,Op.pick (Operand.tmp 111) (Operand.tmp 119) (Operand.const (Value.bool false)),4,_,_,none⟩) (v:=?_) rfl (by kernel_rfl) (by kernel_rfl) (by kernel_rfl) (fun _ _ _ h=>h) (Or.inl ⟨by rfl,?_⟩) d ?_
     rotate_left
     · (intro W y;obtain⟨s0,s1⟩:=y;go_simp<;>with_reducible rfl)
     simp only[Act.put,List.setIfInBounds_toArray,List.set_cons_zero,List.set_cons_succ];refine wpAnyH_done (by kernel_rfl) ?_ _
     have G:Below w4.heap.size w4 U:=E.drew.trans (A.mono E.drew.size);go_wp2_with fail;go_roundw
     case rel=>exact⟨m+1,by omega,by simp,(fun j h1 h2=>by
      by_cases e:j=m
      · subst e;exact N.out
      · exact HP.out j h1 (by omega): ∀j (h:j<L.length),j<m+1→dd p.data.toList b L[j]=false),G⟩
     case measure=>simp[intOf];omega
    |true=>
     have I7:=hid O;have HY:=hid (show b<(L[m]).ver→ ∀(k:Int) (q t:ByteArray),dP L ⟨k,p,q,t,b⟩=true from fun J k q t=>nH IK Z O J);clear O;go_wp2_with fail
     go_region_held3 (fun W=>W.cell? ⟨b1,o1+m*4,none⟩=some (.string L[m].path)∧W.cell? ⟨w.heap.size,1,none⟩=some (.string p)∧W.cell? ⟨b1,o1+m*4+3,none⟩=some (.int .i64 L[m].ver)∧W.cell? ⟨w.heap.size,4,none⟩=some (.int .i64 b)) (go_keep) (first
      |(go_at_call 163;refine(fX L[m].path p _ (HS.out _ (List.getElem_mem Z)) hp).mono ?_;rintro e U ⟨rfl,A⟩;rw[I7.out];have k1:U.cell? ⟨b1,o1+m*4,none⟩=some (.string L[m].path):=(A.cell (p:=⟨b1,o1+m*4,none⟩) I9).trans d0;have k2:U.cell? ⟨w.heap.size,1,none⟩=some (.string p):=(A.cell (p:=⟨w.heap.size,1,none⟩) z).trans P;have k3:U.cell? ⟨b1,o1+m*4+3,none⟩=some (.int .i64 L[m].ver):=(A.cell (p:=⟨b1,o1+m*4+3,none⟩) I9).trans d3;have k4:U.cell? ⟨w.heap.size,4,none⟩=some (.int .i64 b):=(A.cell (p:=⟨w.heap.size,4,none⟩) z).trans T))
     by_cases J:b<(L[m]).ver
     · have N:=hid (HY.out J)
       have IE:Below w.heap.size w U:=f.drew.trans (A.mono f.drew.size);go_wp2_with fail;go_ret2;exact⟨_,by rw[cz,if_pos (by rw[Q.out];exact N.out _ _ _)];rfl,fun h=>by rw[cz,if_pos (by rw[Q.out];exact N.out _ _ _)]at h;exact absurd h (by decide),IE⟩
     · have N:=hid (nJ (p:=p.data.toList) (b:=b) (e:=L[m]) J)
       have G:Below w4.heap.size w4 U:=E.drew.trans (A.mono E.drew.size);go_wp2_with fail;go_roundw
       case rel=>exact⟨m+1,by omega,by simp,(fun j h1 h2=>by
        by_cases e:j=m
        · subst e;exact N.out
        · exact HP.out j h1 (by omega): ∀j (h:j<L.length),j<m+1→dd p.data.toList b L[j]=false),G⟩
       case measure=>simp[intOf];omega
  · have hN:dP L C=false:=by
     rw[Q.out];exact nG IL (fun j h h0=>HP.out j h (by omega))
    have HN:=hid hN;have IG: ¬m<L.length∨(m<L.length∧ ¬0≤b):=by omega
    clear hN IF HP hm;rcases IG with IG|⟨IS,IT⟩
    all_goals
     go_wp2_with fail;refine(oH L _ ⟨p,false,t,n⟩ _ (HV.out.below f) (by omega)).mono ?_
     rintro e w6 ⟨u,rfl,ho,ID⟩;have HO:=hid (show w6.ownsRow wr.heap.size 107 4 u (Pp.putR (Pp.newE C n) L).length (cr (Pp.putR (Pp.newE C n) L))from by rw[Q.out];exact ho);have I5:Below w.heap.size w w6:=f.trans (ID.mono f.size);clear ho ID V P X Y T I6 E f z;rw[oG HR.out]at HO;have hM:=rN (Pp.newE C n) (cL (Pp.newE C n) L);have hO:(cL (Pp.newE C n) L).length≤L.length:=List.length_filter_le _ _;rw[←HQ.out]at HO hM;obtain⟨M,I8⟩: ∃M,M=cQ L C n:=⟨_,rfl⟩
     rw[←I8]at HO hM;have IH:=hid I8;clear I8;have Iv:=hid (kP HO.out (by omega));obtain⟨a6,IN,rfl,IX,IP,_⟩:=Iv.out
     by_cases IW:60<M.length
     · have Iw:60<(M.length:Int):=by omega
       have HX:=hid (show cz L C n=2 from by rw[cz,if_neg (by rw[HN.out];decide),HE.out,if_pos (by omega)]);clear hM hO HO;go_wp2_with fail;go_ret2;exact⟨_,by rw[HX.out];rfl,fun h=>absurd (HX.out.symm.trans h) (by decide),I5⟩
     · have Iw: ¬60<(M.length:Int):=by omega
       have HX:=hid (show cz L C n=0 from by rw[cz,if_neg (by rw[HN.out];decide),HE.out,if_neg (by omega)]);clear hM hO HO;go_wp2_with fail;go_ret2;exact⟨_,by rw[HX.out];rfl,fun _=>by rw[←IH.out];exact Iv.out,I5⟩
end Go.Proofs.YtcmlnelpcjfocaaGreatDoor
