/- What the reference's ChangeOf answers, of changes that make a folder. -/
import Derived.Test.YtdlpjlfefjipkaaGreatHFO
set_option linter.unusedSimpArgs false
set_option linter.unusedVariables false
namespace Go.Proofs.YtdlpjlfefjipkaaGreat
open Go.RowKit Go.Proofs.Tryz
set_option maxHeartbeats 4000000
set_option maxRecDepth 100000
theorem Aq (L:List En) (v:Value) (p q:ByteArray) (b n:Int) (w:World) (hv:aF w v L) (hs: ∀e∈L,e.path.size≤1000000000) (hp:p.size≤1000000000) (hq:q.size≤1000000000) (hL:Pp.Good L) (hc:aQ ⟨1,p,q,(⟨#[]⟩:ByteArray),b⟩=0) (H0:Hid (aO L (aI p.data.toList)=0)) (HI:Hid (cW L p.data.toList= -1)):
    Calls prog 85 #[v,.agg #[.int .i64 1,p,.string q,.string (⟨#[]⟩:ByteArray),.int .i64 b],n] w fun e w'=> ∃u,e= .returned (.tuple #[u,.int .i64 (Pp.rstE L ⟨1,p,q,(⟨#[]⟩:ByteArray),b⟩ n)])∧(Pp.rstE L ⟨1,p,q,(⟨#[]⟩:ByteArray),b⟩ n=0→aF w' u (cN L ⟨1,p,q,(⟨#[]⟩:ByteArray),b⟩ n))∧Below w.heap.size w w':=by
 obtain⟨i0,F1,F3,F4,F5⟩:=info_parts Tryz.infoE
 have HV:=hid hv;have HC:=hid hc;have HS:=hid hs;have HR:=hid hL.rise;have EX:=hid hL;have EU:L.length≤60:=hL.len;have EP: -1≤b:=(jG hc).2.2.2.1;have F2:(⟨#[]⟩:ByteArray).size≤1000000000:=by decide
 have HE:=hid (show fk L ⟨1,p,q,⟨#[]⟩,b⟩ n=if 60<(cJ (Pp.newE ⟨1,p,q,⟨#[]⟩,b⟩ n) L).length+1 then 2 else 0 from if_pos (Or.inl rfl));have HQ:=hid (show cN L ⟨1,p,q,⟨#[]⟩,b⟩ n=b7 (Pp.newE ⟨1,p,q,⟨#[]⟩,b⟩ n) (cJ (Pp.newE ⟨1,p,q,⟨#[]⟩,b⟩ n) L)from if_pos (Or.inl rfl));obtain⟨a,EY,rfl,ET,EQ,E4⟩:=hv
 have HL:Hid (∀i (h:i<L.length),∃b o,a=some ⟨b,o,none⟩∧b<w.heap.size∧dJ w b (o+i*4) L[i]):=E4;obtain⟨C,hC⟩: ∃C:aE,C=⟨1,p,q,(⟨#[]⟩:ByteArray),b⟩:=⟨_,rfl⟩
 rw[←hC]at HC HE HQ⊢;have J:=hid hC;clear hC E4 hL hs hc;go_enter func85,ntmps85
 go_wp2_with fail;refine(fM _ p q _ b _ hp hq (by omega)).mono ?_
 rintro e w1 ⟨rfl,z⟩;rw[←J.out,HC.out];obtain⟨P,I,Q,R,N,d,f⟩:=aC z
 go_wp2_with fail;refine(fv p _ hp).mono ?_
 rintro e w2 ⟨rfl,E7⟩;have B:=z.trans (E7.mono z.size);clear P I Q R N d f z E7;obtain⟨P,I,Q,R,N,d,f⟩:=aC B
 go_wp2_with fail;refine(fw L _ ⟨(aI p.data.toList).toArray⟩ _ (HV.out.below d)).mono ?_
 rintro e w3 ⟨rfl,E8⟩;rw[show aO L _=0 from H0.out];have E:=B.trans (E8.mono B.size);clear P I Q R N d f B E8;obtain⟨P,I,Q,R,N,d,f⟩:=aC E
 go_wp2_with fail;refine(eX L _ p _ (HV.out.below d)).mono ?_
 rintro e w4 ⟨rfl,E9⟩;rw[HI.out];have V:=E.trans (E9.mono E.size);clear P I Q R N d f E E9;obtain⟨P,I,Q,R,N,d,f⟩:=aC V
 have HB:=hid V;go_wp2_with fail;clear P I Q R N d f;go_loopw [11] (fun i wr=> ∃m:Nat,m≤L.length∧i= .int .i64 m∧Hid (∀j (h:j<L.length),j<m→da p.data.toList b L[j]=false)∧Below w4.heap.size w4 wr) (fun i _=>L.length-(intOf i).toNat)
 case atStart=>exact⟨0,Nat.zero_le _,rfl,(fun j _ h=>absurd h (Nat.not_lt_zero _): ∀j (h:j<L.length),j<0→da p.data.toList b L[j]=false),aw⟩
 case round=>
  obtain⟨m,hm,rfl,HP,x⟩:=hrel
  have Y:=HB.out.trans (x.mono HB.out.size);obtain⟨P,I,Q,R,N,d,f⟩:=aC Y
  by_cases EJ:m<L.length∧0≤b
  · obtain⟨T,EO⟩:=EJ
    obtain⟨b1,U,E5,z,he⟩:=HL.out m T
    first|subst E5|(have E6:=Option.some.inj E5;injection E6 with e1 e2 e3;have EM:=e1.symm;have EN:=e2.symm;subst EM;subst EN)
    obtain⟨d0,d1,d2,d3⟩:=he.below z d
    have E1:b1<wr.heap.size:=Nat.lt_of_lt_of_le z d.size;cases H:a8 (L[m]).path.data.toList p.data.toList with
    |false=>
     have Z:=hid H;have G:=hid (mi (b:=b) (e:=L[m]) H);clear H;go_wp2_with fail;refine wp_region_held_drew (S:=fun W=>W.cell? ⟨b1,U+m*4,none⟩=some (.string L[m].path)∧W.cell? ⟨w.heap.size,1,none⟩=some (.string p)) (by kernel_rfl) ⟨by simpa using d0,by simpa using I⟩ (fun c=>?_)
     refine tk 0 ⟨some 103,Op.move (Operand.tmp 0),33,_,_,none⟩ c ?_
     try simp only[pu]
     refine tk 1 ⟨some 104,Op.move (Operand.tmp 11),3,_,_,none⟩ c ?_
     try simp only[pu]
     refine tk 2 ⟨some 105,Op.indexAddr 33 (Operand.tmp 103) (Operand.tmp 104),0,_,_,none⟩ c ?_
     try simp only[pu]
     refine tk 3 ⟨some 106,Op.fieldAddr 145 (Operand.tmp 105) 0,0,_,_,none⟩ c ?_
     try simp only[pu]
     refine tk 4 ⟨some 107,Op.load 9 (Operand.tmp 106),9,_,_,none⟩ c ?_
     try simp only[pu]
     refine tk 5 ⟨some 108,Op.fieldAddr 83 (Operand.tmp 4) 1,0,_,_,none⟩ c ?_
     try simp only[pu]
     refine tk 6 ⟨some 109,Op.load 9 (Operand.tmp 108),9,_,_,none⟩ c ?_
     try simp only[pu]
     refine wpAnyH_ready (rs:=[7]) (by kernel_rfl) (by simp) ?_
     refine AllReadyH.cons rfl (fun K hK=>?_) AllReadyH.nil
     go_simp
     refine(eZ L[m].path p _ (HS.out _ (List.getElem_mem T)) hp).mono ?_
     rintro e O ⟨rfl,s⟩;rw[Z.out];have k1:O.cell? ⟨b1,U+m*4,none⟩=some (.string L[m].path):=(s.cell (p:=⟨b1,U+m*4,none⟩) E1).trans d0;have k2:O.cell? ⟨w.heap.size,1,none⟩=some (.string p):=(s.cell (p:=⟨w.heap.size,1,none⟩) f).trans I;go_wp2_with fail;refine hK.out _ _ ⟨k1,k2⟩ (fun c=>?_)
     clear hK K;try simp only[pu]
     refine tk 8 ⟨some 111,Op.move (Operand.tmp 110),4,_,_,none⟩ c ?_
     try simp only[pu]
     refine lk (g:=8) (dg:=111) (by kernel_rfl) (by kernel_rfl) (fun _ _ _ _ _ h=>h) c (fuel:=1) [(9,112),(10,113),(11,114),(12,115),(13,116),(14,117),(15,118),(16,119)] _ _ (by kernel_rfl) (by kernel_rfl) ?_
     simp only[kp,kr,Act.put,List.setIfInBounds_toArray,List.set_cons_zero,List.set_cons_succ];refine tk 17 ⟨some 120,Op.pick (Operand.tmp 111) (Operand.tmp 119) (Operand.const (Value.bool false)),4,_,_,none⟩ c ?_
     try simp only[pu]
     refine wpAnyH_done (by kernel_rfl) ?_ _
     have A:Below w4.heap.size w4 O:=x.drew.trans (s.mono x.drew.size);go_wp2;go_roundw
     case rel=>exact⟨m+1,by omega,by simp,(fun j h1 h2=>by
      by_cases e:j=m
      · subst e;exact G.out
      · exact HP.out j h1 (by omega): ∀j (h:j<L.length),j<m+1→da p.data.toList b L[j]=false),A⟩
     case measure=>simp[intOf];omega
    |true=>
     have Z:=hid H;have HY:=hid (show b<(L[m]).ver→ ∀(k:Int) (q t:ByteArray),dL L ⟨k,p,q,t,b⟩=true from fun F k q t=>mh EO T H F);clear H;go_wp2_with fail
     go_region_held3 (fun W=>W.cell? ⟨b1,U+m*4,none⟩=some (.string L[m].path)∧W.cell? ⟨w.heap.size,1,none⟩=some (.string p)∧W.cell? ⟨b1,U+m*4+3,none⟩=some (.int .i64 L[m].ver)∧W.cell? ⟨w.heap.size,4,none⟩=some (.int .i64 b)) (go_keep) (first
      |(go_at_call 114;refine(eZ L[m].path p _ (HS.out _ (List.getElem_mem T)) hp).mono ?_;rintro e O ⟨rfl,s⟩;rw[Z.out];have k1:O.cell? ⟨b1,U+m*4,none⟩=some (.string L[m].path):=(s.cell (p:=⟨b1,U+m*4,none⟩) E1).trans d0;have k2:O.cell? ⟨w.heap.size,1,none⟩=some (.string p):=(s.cell (p:=⟨w.heap.size,1,none⟩) f).trans I;have k3:O.cell? ⟨b1,U+m*4+3,none⟩=some (.int .i64 L[m].ver):=(s.cell (p:=⟨b1,U+m*4+3,none⟩) E1).trans d3;have k4:O.cell? ⟨w.heap.size,4,none⟩=some (.int .i64 b):=(s.cell (p:=⟨w.heap.size,4,none⟩) f).trans N))
     by_cases F:b<(L[m]).ver
     · have G:=hid (HY.out F)
       have EI:Below w.heap.size w O:=d.drew.trans (s.mono d.drew.size);go_wp2_with fail;go_ret2;exact⟨_,by rw[Pp.rstE,if_pos (by rw[J.out];exact G.out _ _ _)];rfl,fun h=>by rw[Pp.rstE,if_pos (by rw[J.out];exact G.out _ _ _)]at h;exact absurd h (by decide),EI⟩
     · have G:=hid (mj (p:=p.data.toList) (b:=b) (e:=L[m]) F)
       have A:Below w4.heap.size w4 O:=x.drew.trans (s.mono x.drew.size);go_wp2;go_roundw
       case rel=>exact⟨m+1,by omega,by simp,(fun j h1 h2=>by
        by_cases e:j=m
        · subst e;exact G.out
        · exact HP.out j h1 (by omega): ∀j (h:j<L.length),j<m+1→da p.data.toList b L[j]=false),A⟩
       case measure=>simp[intOf];omega
  · have hN:dL L C=false:=by
     rw[J.out];exact me EP (fun j h h0=>HP.out j h (by omega))
    have HN:=hid hN;have EK: ¬m<L.length∨(m<L.length∧ ¬0≤b):=by omega
    clear hN EJ HP hm;rcases EK with EK|⟨EV,EW⟩
    all_goals
     go_wp2_with fail;refine(nt L _ ⟨p,true,⟨#[]⟩,n⟩ _ (HV.out.below d) (by omega)).mono ?_
     rintro e w6 ⟨u,rfl,ho,EH⟩;have HO:=hid (show w6.ownsRow wr.heap.size 145 4 u (gm (Pp.newE C n) L).length (cq (gm (Pp.newE C n) L))from by rw[J.out];exact ho);have X:Below w.heap.size w w6:=d.trans (EH.mono d.size);clear ho EH P I Q R N Y x d f;rw[nr HR.out]at HO;have hM:=p8 (Pp.newE C n) (cJ (Pp.newE C n) L);have hO:(cJ (Pp.newE C n) L).length≤L.length:=List.length_filter_le _ _;rw[←HQ.out]at HO hM;obtain⟨M,E0⟩: ∃M,M=cN L C n:=⟨_,rfl⟩
     rw[←E0]at HO hM;have EL:=hid E0;clear E0;have E2:=hid (jI HO.out (by omega));obtain⟨a6,ER,rfl,F0,ES,_⟩:=E2.out
     by_cases EZ:60<M.length
     · have E3:60<(M.length:Int):=by omega
       have HX:=hid (show Pp.rstE L C n=2 from by rw[Pp.rstE,if_neg (by rw[HN.out];decide),HE.out,if_pos (by omega)]);clear hM hO HO;go_wp2_with fail;go_ret2;exact⟨_,by rw[HX.out];rfl,fun h=>absurd (HX.out.symm.trans h) (by decide),X⟩
     · have E3: ¬60<(M.length:Int):=by omega
       have HX:=hid (show Pp.rstE L C n=0 from by rw[Pp.rstE,if_neg (by rw[HN.out];decide),HE.out,if_neg (by omega)]);clear hM hO HO;go_wp2_with fail;go_ret2;exact⟨_,by rw[HX.out];rfl,fun _=>by rw[←EL.out];exact E2.out,X⟩
theorem Ar (L:List En) (v:Value) (p q t:ByteArray) (b n:Int) (w:World) (hv:aF w v L) (hs: ∀e∈L,e.path.size≤1000000000) (hp:p.size≤1000000000) (hq:q.size≤1000000000) (ht:t.size≤1000000000) (hL:Pp.Good L) (hc:aQ ⟨2,p,q,t,b⟩=0) (H0:Hid (aO L (aI p.data.toList)=0)) (HI:Hid (cW L p.data.toList= -1)):
    Calls prog 85 #[v,.agg #[.int .i64 2,p,.string q,.string t,.int .i64 b],n] w fun e w'=> ∃u,e= .returned (.tuple #[u,.int .i64 (Pp.rstE L ⟨2,p,q,t,b⟩ n)])∧(Pp.rstE L ⟨2,p,q,t,b⟩ n=0→aF w' u (cN L ⟨2,p,q,t,b⟩ n))∧Below w.heap.size w w':=by
 obtain⟨i0,F1,F3,F4,F5⟩:=info_parts Tryz.infoE
 have HV:=hid hv;have HC:=hid hc;have HS:=hid hs;have HR:=hid hL.rise;have EX:=hid hL;have EU:L.length≤60:=hL.len;have EP: -1≤b:=(jG hc).2.2.2.1;have F2:t.size≤1000000000:=by exact ht
 have HE:=hid (show fk L ⟨2,p,q,t,b⟩ n=if 60<(cJ (Pp.newE ⟨2,p,q,t,b⟩ n) L).length+1 then 2 else 0 from if_pos (Or.inr rfl));have HQ:=hid (show cN L ⟨2,p,q,t,b⟩ n=b7 (Pp.newE ⟨2,p,q,t,b⟩ n) (cJ (Pp.newE ⟨2,p,q,t,b⟩ n) L)from if_pos (Or.inr rfl));obtain⟨a,EY,rfl,ET,EQ,E4⟩:=hv
 have HL:Hid (∀i (h:i<L.length),∃b o,a=some ⟨b,o,none⟩∧b<w.heap.size∧dJ w b (o+i*4) L[i]):=E4;obtain⟨C,hC⟩: ∃C:aE,C=⟨2,p,q,t,b⟩:=⟨_,rfl⟩
 rw[←hC]at HC HE HQ⊢;have J:=hid hC;clear hC E4 hL hs hc;go_enter func85,ntmps85
 go_wp2_with fail;refine(fM _ p q _ b _ hp hq (by omega)).mono ?_
 rintro e w1 ⟨rfl,z⟩;rw[←J.out,HC.out];obtain⟨P,I,Q,R,N,d,f⟩:=aC z
 go_wp2_with fail;refine(fv p _ hp).mono ?_
 rintro e w2 ⟨rfl,E7⟩;have B:=z.trans (E7.mono z.size);clear P I Q R N d f z E7;obtain⟨P,I,Q,R,N,d,f⟩:=aC B
 go_wp2_with fail;refine(fw L _ ⟨(aI p.data.toList).toArray⟩ _ (HV.out.below d)).mono ?_
 rintro e w3 ⟨rfl,E8⟩;rw[show aO L _=0 from H0.out];have E:=B.trans (E8.mono B.size);clear P I Q R N d f B E8;obtain⟨P,I,Q,R,N,d,f⟩:=aC E
 go_wp2_with fail;refine(eX L _ p _ (HV.out.below d)).mono ?_
 rintro e w4 ⟨rfl,E9⟩;rw[HI.out];have V:=E.trans (E9.mono E.size);clear P I Q R N d f E E9;obtain⟨P,I,Q,R,N,d,f⟩:=aC V
 have HB:=hid V;go_wp2_with fail;clear P I Q R N d f;go_loopw [11] (fun i wr=> ∃m:Nat,m≤L.length∧i= .int .i64 m∧Hid (∀j (h:j<L.length),j<m→da p.data.toList b L[j]=false)∧Below w4.heap.size w4 wr) (fun i _=>L.length-(intOf i).toNat)
 case atStart=>exact⟨0,Nat.zero_le _,rfl,(fun j _ h=>absurd h (Nat.not_lt_zero _): ∀j (h:j<L.length),j<0→da p.data.toList b L[j]=false),aw⟩
 case round=>
  obtain⟨m,hm,rfl,HP,x⟩:=hrel
  have Y:=HB.out.trans (x.mono HB.out.size);obtain⟨P,I,Q,R,N,d,f⟩:=aC Y
  by_cases EJ:m<L.length∧0≤b
  · obtain⟨T,EO⟩:=EJ
    obtain⟨b1,U,E5,z,he⟩:=HL.out m T
    first|subst E5|(have E6:=Option.some.inj E5;injection E6 with e1 e2 e3;have EM:=e1.symm;have EN:=e2.symm;subst EM;subst EN)
    obtain⟨d0,d1,d2,d3⟩:=he.below z d
    have E1:b1<wr.heap.size:=Nat.lt_of_lt_of_le z d.size;cases H:a8 (L[m]).path.data.toList p.data.toList with
    |false=>
     have Z:=hid H;have G:=hid (mi (b:=b) (e:=L[m]) H);clear H;go_wp2_with fail;refine wp_region_held_drew (S:=fun W=>W.cell? ⟨b1,U+m*4,none⟩=some (.string L[m].path)∧W.cell? ⟨w.heap.size,1,none⟩=some (.string p)) (by kernel_rfl) ⟨by simpa using d0,by simpa using I⟩ (fun c=>?_)
     refine tk 0 ⟨some 103,Op.move (Operand.tmp 0),33,_,_,none⟩ c ?_
     try simp only[pu]
     refine tk 1 ⟨some 104,Op.move (Operand.tmp 11),3,_,_,none⟩ c ?_
     try simp only[pu]
     refine tk 2 ⟨some 105,Op.indexAddr 33 (Operand.tmp 103) (Operand.tmp 104),0,_,_,none⟩ c ?_
     try simp only[pu]
     refine tk 3 ⟨some 106,Op.fieldAddr 145 (Operand.tmp 105) 0,0,_,_,none⟩ c ?_
     try simp only[pu]
     refine tk 4 ⟨some 107,Op.load 9 (Operand.tmp 106),9,_,_,none⟩ c ?_
     try simp only[pu]
     refine tk 5 ⟨some 108,Op.fieldAddr 83 (Operand.tmp 4) 1,0,_,_,none⟩ c ?_
     try simp only[pu]
     refine tk 6 ⟨some 109,Op.load 9 (Operand.tmp 108),9,_,_,none⟩ c ?_
     try simp only[pu]
     refine wpAnyH_ready (rs:=[7]) (by kernel_rfl) (by simp) ?_
     refine AllReadyH.cons rfl (fun K hK=>?_) AllReadyH.nil
     go_simp
     refine(eZ L[m].path p _ (HS.out _ (List.getElem_mem T)) hp).mono ?_
     rintro e O ⟨rfl,s⟩;rw[Z.out];have k1:O.cell? ⟨b1,U+m*4,none⟩=some (.string L[m].path):=(s.cell (p:=⟨b1,U+m*4,none⟩) E1).trans d0;have k2:O.cell? ⟨w.heap.size,1,none⟩=some (.string p):=(s.cell (p:=⟨w.heap.size,1,none⟩) f).trans I;go_wp2_with fail;refine hK.out _ _ ⟨k1,k2⟩ (fun c=>?_)
     clear hK K;try simp only[pu]
     refine tk 8 ⟨some 111,Op.move (Operand.tmp 110),4,_,_,none⟩ c ?_
     try simp only[pu]
     refine lk (g:=8) (dg:=111) (by kernel_rfl) (by kernel_rfl) (fun _ _ _ _ _ h=>h) c (fuel:=1) [(9,112),(10,113),(11,114),(12,115),(13,116),(14,117),(15,118),(16,119)] _ _ (by kernel_rfl) (by kernel_rfl) ?_
     simp only[kp,kr,Act.put,List.setIfInBounds_toArray,List.set_cons_zero,List.set_cons_succ];refine tk 17 ⟨some 120,Op.pick (Operand.tmp 111) (Operand.tmp 119) (Operand.const (Value.bool false)),4,_,_,none⟩ c ?_
     try simp only[pu]
     refine wpAnyH_done (by kernel_rfl) ?_ _
     have A:Below w4.heap.size w4 O:=x.drew.trans (s.mono x.drew.size);go_wp2;go_roundw
     case rel=>exact⟨m+1,by omega,by simp,(fun j h1 h2=>by
      by_cases e:j=m
      · subst e;exact G.out
      · exact HP.out j h1 (by omega): ∀j (h:j<L.length),j<m+1→da p.data.toList b L[j]=false),A⟩
     case measure=>simp[intOf];omega
    |true=>
     have Z:=hid H;have HY:=hid (show b<(L[m]).ver→ ∀(k:Int) (q t:ByteArray),dL L ⟨k,p,q,t,b⟩=true from fun F k q t=>mh EO T H F);clear H;go_wp2_with fail
     go_region_held3 (fun W=>W.cell? ⟨b1,U+m*4,none⟩=some (.string L[m].path)∧W.cell? ⟨w.heap.size,1,none⟩=some (.string p)∧W.cell? ⟨b1,U+m*4+3,none⟩=some (.int .i64 L[m].ver)∧W.cell? ⟨w.heap.size,4,none⟩=some (.int .i64 b)) (go_keep) (first
      |(go_at_call 114;refine(eZ L[m].path p _ (HS.out _ (List.getElem_mem T)) hp).mono ?_;rintro e O ⟨rfl,s⟩;rw[Z.out];have k1:O.cell? ⟨b1,U+m*4,none⟩=some (.string L[m].path):=(s.cell (p:=⟨b1,U+m*4,none⟩) E1).trans d0;have k2:O.cell? ⟨w.heap.size,1,none⟩=some (.string p):=(s.cell (p:=⟨w.heap.size,1,none⟩) f).trans I;have k3:O.cell? ⟨b1,U+m*4+3,none⟩=some (.int .i64 L[m].ver):=(s.cell (p:=⟨b1,U+m*4+3,none⟩) E1).trans d3;have k4:O.cell? ⟨w.heap.size,4,none⟩=some (.int .i64 b):=(s.cell (p:=⟨w.heap.size,4,none⟩) f).trans N))
     by_cases F:b<(L[m]).ver
     · have G:=hid (HY.out F)
       have EI:Below w.heap.size w O:=d.drew.trans (s.mono d.drew.size);go_wp2_with fail;go_ret2;exact⟨_,by rw[Pp.rstE,if_pos (by rw[J.out];exact G.out _ _ _)];rfl,fun h=>by rw[Pp.rstE,if_pos (by rw[J.out];exact G.out _ _ _)]at h;exact absurd h (by decide),EI⟩
     · have G:=hid (mj (p:=p.data.toList) (b:=b) (e:=L[m]) F)
       have A:Below w4.heap.size w4 O:=x.drew.trans (s.mono x.drew.size);go_wp2;go_roundw
       case rel=>exact⟨m+1,by omega,by simp,(fun j h1 h2=>by
        by_cases e:j=m
        · subst e;exact G.out
        · exact HP.out j h1 (by omega): ∀j (h:j<L.length),j<m+1→da p.data.toList b L[j]=false),A⟩
       case measure=>simp[intOf];omega
  · have hN:dL L C=false:=by
     rw[J.out];exact me EP (fun j h h0=>HP.out j h (by omega))
    have HN:=hid hN;have EK: ¬m<L.length∨(m<L.length∧ ¬0≤b):=by omega
    clear hN EJ HP hm;rcases EK with EK|⟨EV,EW⟩
    all_goals
     go_wp2_with fail;refine(nt L _ ⟨p,false,t,n⟩ _ (HV.out.below d) (by omega)).mono ?_
     rintro e w6 ⟨u,rfl,ho,EH⟩;have HO:=hid (show w6.ownsRow wr.heap.size 145 4 u (gm (Pp.newE C n) L).length (cq (gm (Pp.newE C n) L))from by rw[J.out];exact ho);have X:Below w.heap.size w w6:=d.trans (EH.mono d.size);clear ho EH P I Q R N Y x d f;rw[nr HR.out]at HO;have hM:=p8 (Pp.newE C n) (cJ (Pp.newE C n) L);have hO:(cJ (Pp.newE C n) L).length≤L.length:=List.length_filter_le _ _;rw[←HQ.out]at HO hM;obtain⟨M,E0⟩: ∃M,M=cN L C n:=⟨_,rfl⟩
     rw[←E0]at HO hM;have EL:=hid E0;clear E0;have E2:=hid (jI HO.out (by omega));obtain⟨a6,ER,rfl,F0,ES,_⟩:=E2.out
     by_cases EZ:60<M.length
     · have E3:60<(M.length:Int):=by omega
       have HX:=hid (show Pp.rstE L C n=2 from by rw[Pp.rstE,if_neg (by rw[HN.out];decide),HE.out,if_pos (by omega)]);clear hM hO HO;go_wp2_with fail;go_ret2;exact⟨_,by rw[HX.out];rfl,fun h=>absurd (HX.out.symm.trans h) (by decide),X⟩
     · have E3: ¬60<(M.length:Int):=by omega
       have HX:=hid (show Pp.rstE L C n=0 from by rw[Pp.rstE,if_neg (by rw[HN.out];decide),HE.out,if_neg (by omega)]);clear hM hO HO;go_wp2_with fail;go_ret2;exact⟨_,by rw[HX.out];rfl,fun _=>by rw[←EL.out];exact E2.out,X⟩
end Go.Proofs.YtdlpjlfefjipkaaGreat
