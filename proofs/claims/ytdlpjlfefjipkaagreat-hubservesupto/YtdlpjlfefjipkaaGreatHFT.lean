/- What the reference's ChangeOf answers, of changes that write anew. -/
import Derived.Test.YtdlpjlfefjipkaaGreatHFO
set_option linter.unusedSimpArgs false
set_option linter.unusedVariables false
namespace Go.Proofs.YtdlpjlfefjipkaaGreat
open Go.RowKit Go.Proofs.Tryz
set_option maxHeartbeats 4000000
set_option maxRecDepth 100000
theorem As (L:List En) (v:Value) (p q t:ByteArray) (b n:Int) (w:World) (hv:aF w v L) (hs: ∀e∈L,e.path.size≤1000000000) (hp:p.size≤1000000000) (hq:q.size≤1000000000) (ht:t.size≤1000000000) (hL:Pp.Good L) (hc:aQ ⟨2,p,q,t,b⟩=0) (H0:Hid (aO L (aI p.data.toList)=0)) (j:Nat) (hj:j<L.length) (HI:Hid (cW L p.data.toList=(j:Int))) (hx:(L[j]).folder=false):
    Calls prog 85 #[v,.agg #[.int .i64 2,p,.string q,.string t,.int .i64 b],n] w fun e w'=> ∃u,e= .returned (.tuple #[u,.int .i64 (Pp.rstE L ⟨2,p,q,t,b⟩ n)])∧(Pp.rstE L ⟨2,p,q,t,b⟩ n=0→aF w' u (cN L ⟨2,p,q,t,b⟩ n))∧Below w.heap.size w w':=by
 obtain⟨i0,F3,F6,F7,F8⟩:=info_parts Tryz.infoE
 have HV:=hid hv;have HC:=hid hc;have HS:=hid hs;have HR:=hid hL.rise;have EZ:=hid hL;have EW:L.length≤60:=hL.len;have ER: -1≤b:=(jG hc).2.2.2.1;have F5:t.size≤1000000000:=by exact ht
 have HE:=hid (show fk L ⟨2,p,q,t,b⟩ n=if 60<(cJ (Pp.newE ⟨2,p,q,t,b⟩ n) L).length+1 then 2 else 0 from if_pos (Or.inr rfl));have HQ:=hid (show cN L ⟨2,p,q,t,b⟩ n=b7 (Pp.newE ⟨2,p,q,t,b⟩ n) (cJ (Pp.newE ⟨2,p,q,t,b⟩ n) L)from if_pos (Or.inr rfl));obtain⟨a,F0,rfl,EV,ES,E4⟩:=hv
 have HL:Hid (∀i (h:i<L.length),∃b o,a=some ⟨b,o,none⟩∧b<w.heap.size∧dJ w b (o+i*4) L[i]):=E4;obtain⟨C,hC⟩: ∃C:aE,C=⟨2,p,q,t,b⟩:=⟨_,rfl⟩
 rw[←hC]at HC HE HQ⊢;have J:=hid hC;clear hC E4 hL hs hc;go_enter func85,ntmps85
 go_wp2_with fail;refine(fM _ p q _ b _ hp hq (by omega)).mono ?_
 rintro e w1 ⟨rfl,z⟩;rw[←J.out,HC.out];obtain⟨P,I,Q,R,N,d,f⟩:=aC z
 go_wp2_with fail;refine(fv p _ hp).mono ?_
 rintro e w2 ⟨rfl,E7⟩;have B:=z.trans (E7.mono z.size);clear P I Q R N d f z E7;obtain⟨P,I,Q,R,N,d,f⟩:=aC B
 go_wp2_with fail;refine(fw L _ ⟨(aI p.data.toList).toArray⟩ _ (HV.out.below d)).mono ?_
 rintro e w3 ⟨rfl,E8⟩;rw[show aO L _=0 from H0.out];have E:=B.trans (E8.mono B.size);clear P I Q R N d f B E8;obtain⟨P,I,Q,R,N,d,f⟩:=aC E
 go_wp2_with fail;refine(eX L _ p _ (HV.out.below d)).mono ?_
 rintro e w4 ⟨rfl,E9⟩;rw[HI.out];have V:=E.trans (E9.mono E.size);clear P I Q R N d f E E9;obtain⟨P,I,Q,R,N,d,f⟩:=aC V
 obtain⟨b',o',rfl,EI,EK⟩:=HL.out j hj
 have F4:(j:Int)<L.length:=by omega
 obtain⟨d0,d1,d2,d3⟩:=EK.below EI d
 rw[hx]at d1;clear d0 d2 d3 EK EI;have HB:=hid V;go_wp2_with fail;clear P I Q R N d f;go_loopw [11] (fun i wr=> ∃m:Nat,m≤L.length∧i= .int .i64 m∧Hid (∀j (h:j<L.length),j<m→da p.data.toList b L[j]=false)∧Below w4.heap.size w4 wr) (fun i _=>L.length-(intOf i).toNat)
 case atStart=>exact⟨0,Nat.zero_le _,rfl,(fun j _ h=>absurd h (Nat.not_lt_zero _): ∀j (h:j<L.length),j<0→da p.data.toList b L[j]=false),aw⟩
 case round=>
  obtain⟨m,hm,rfl,HP,x⟩:=hrel
  have Y:=HB.out.trans (x.mono HB.out.size);obtain⟨P,I,Q,R,N,d,f⟩:=aC Y
  by_cases EL:m<L.length∧0≤b
  · obtain⟨T,EQ⟩:=EL
    obtain⟨b1,U,E5,z,he⟩:=HL.out m T
    first|subst E5|(have E6:=Option.some.inj E5;injection E6 with e1 e2 e3;have EO:=e1.symm;have EP:=e2.symm;subst EO;subst EP)
    obtain⟨d0,d1,d2,d3⟩:=he.below z d
    have E1:b1<wr.heap.size:=Nat.lt_of_lt_of_le z d.size;cases H:a8 (L[m]).path.data.toList p.data.toList with
    |false=>
     have Z:=hid H;have G:=hid (mi (b:=b) (e:=L[m]) H);clear H;go_wp2_with fail;refine wp_region_held_drew (S:=fun W=>W.cell? ⟨b1,U+m*4,none⟩=some (.string L[m].path)∧W.cell? ⟨w.heap.size,1,none⟩=some (.string p)) (by kernel_rfl) ⟨by simpa using d0,by simpa using I⟩ (fun c=>?_)
     refine tk 0 ⟨some 103,Op.move (Operand.tmp 0),33,_,_,none⟩ c ?_
     try simp only[pu]
     refine tk 1 ⟨some 104,Op.move (Operand.tmp 11),3,_,_,none⟩ c ?_
     try simp only[pu]
     refine tk 2 ⟨some 105,Op.indexAddr 33 (Operand.tmp 103) (Operand.tmp 104),0,_,_,none⟩ c ?_
     try simp only[pu]
     refine tk 3 ⟨some 106,Op.fieldAddr 145 (Operand.tmp 105) 0,0,_,_,none⟩ c ?_
     try simp only[pu]
     refine tk 4 ⟨some 107,Op.load 9 (Operand.tmp 106),9,_,_,none⟩ c ?_
     try simp only[pu]
     refine tk 5 ⟨some 108,Op.fieldAddr 83 (Operand.tmp 4) 1,0,_,_,none⟩ c ?_
     try simp only[pu]
     refine tk 6 ⟨some 109,Op.load 9 (Operand.tmp 108),9,_,_,none⟩ c ?_
     try simp only[pu]
     refine wpAnyH_ready (rs:=[7]) (by kernel_rfl) (by simp) ?_
     refine AllReadyH.cons rfl (fun K hK=>?_) AllReadyH.nil
     go_simp
     refine(eZ L[m].path p _ (HS.out _ (List.getElem_mem T)) hp).mono ?_
     rintro e O ⟨rfl,s⟩;rw[Z.out];have k1:O.cell? ⟨b1,U+m*4,none⟩=some (.string L[m].path):=(s.cell (p:=⟨b1,U+m*4,none⟩) E1).trans d0;have k2:O.cell? ⟨w.heap.size,1,none⟩=some (.string p):=(s.cell (p:=⟨w.heap.size,1,none⟩) f).trans I;go_wp2_with fail;refine hK.out _ _ ⟨k1,k2⟩ (fun c=>?_)
     clear hK K;try simp only[pu]
     refine tk 8 ⟨some 111,Op.move (Operand.tmp 110),4,_,_,none⟩ c ?_
     try simp only[pu]
     refine lk (g:=8) (dg:=111) (by kernel_rfl) (by kernel_rfl) (fun _ _ _ _ _ h=>h) c (fuel:=1) [(9,112),(10,113),(11,114),(12,115),(13,116),(14,117),(15,118),(16,119)] _ _ (by kernel_rfl) (by kernel_rfl) ?_
     simp only[kp,kr,Act.put,List.setIfInBounds_toArray,List.set_cons_zero,List.set_cons_succ];refine tk 17 ⟨some 120,Op.pick (Operand.tmp 111) (Operand.tmp 119) (Operand.const (Value.bool false)),4,_,_,none⟩ c ?_
     try simp only[pu]
     refine wpAnyH_done (by kernel_rfl) ?_ _
     have A:Below w4.heap.size w4 O:=x.drew.trans (s.mono x.drew.size);go_wp2;go_roundw
     case rel=>exact⟨m+1,by omega,by simp,(fun j h1 h2=>by
      by_cases e:j=m
      · subst e;exact G.out
      · exact HP.out j h1 (by omega): ∀j (h:j<L.length),j<m+1→da p.data.toList b L[j]=false),A⟩
     case measure=>simp[intOf];omega
    |true=>
     have Z:=hid H;have HY:=hid (show b<(L[m]).ver→ ∀(k:Int) (q t:ByteArray),dL L ⟨k,p,q,t,b⟩=true from fun F k q t=>mh EQ T H F);clear H;go_wp2_with fail
     go_region_held3 (fun W=>W.cell? ⟨b1,U+m*4,none⟩=some (.string L[m].path)∧W.cell? ⟨w.heap.size,1,none⟩=some (.string p)∧W.cell? ⟨b1,U+m*4+3,none⟩=some (.int .i64 L[m].ver)∧W.cell? ⟨w.heap.size,4,none⟩=some (.int .i64 b)) (go_keep) (first
      |(go_at_call 114;refine(eZ L[m].path p _ (HS.out _ (List.getElem_mem T)) hp).mono ?_;rintro e O ⟨rfl,s⟩;rw[Z.out];have k1:O.cell? ⟨b1,U+m*4,none⟩=some (.string L[m].path):=(s.cell (p:=⟨b1,U+m*4,none⟩) E1).trans d0;have k2:O.cell? ⟨w.heap.size,1,none⟩=some (.string p):=(s.cell (p:=⟨w.heap.size,1,none⟩) f).trans I;have k3:O.cell? ⟨b1,U+m*4+3,none⟩=some (.int .i64 L[m].ver):=(s.cell (p:=⟨b1,U+m*4+3,none⟩) E1).trans d3;have k4:O.cell? ⟨w.heap.size,4,none⟩=some (.int .i64 b):=(s.cell (p:=⟨w.heap.size,4,none⟩) f).trans N))
     by_cases F:b<(L[m]).ver
     · have G:=hid (HY.out F)
       have EJ:Below w.heap.size w O:=d.drew.trans (s.mono d.drew.size);go_wp2_with fail;go_ret2;exact⟨_,by rw[Pp.rstE,if_pos (by rw[J.out];exact G.out _ _ _)];rfl,fun h=>by rw[Pp.rstE,if_pos (by rw[J.out];exact G.out _ _ _)]at h;exact absurd h (by decide),EJ⟩
     · have G:=hid (mj (p:=p.data.toList) (b:=b) (e:=L[m]) F)
       have A:Below w4.heap.size w4 O:=x.drew.trans (s.mono x.drew.size);go_wp2;go_roundw
       case rel=>exact⟨m+1,by omega,by simp,(fun j h1 h2=>by
        by_cases e:j=m
        · subst e;exact G.out
        · exact HP.out j h1 (by omega): ∀j (h:j<L.length),j<m+1→da p.data.toList b L[j]=false),A⟩
       case measure=>simp[intOf];omega
  · have hN:dL L C=false:=by
     rw[J.out];exact me ER (fun j h h0=>HP.out j h (by omega))
    have HN:=hid hN;have EM: ¬m<L.length∨(m<L.length∧ ¬0≤b):=by omega
    clear hN EL HP hm;rcases EM with EM|⟨EX,EY⟩
    all_goals
     go_wp2_with fail;refine(nt L _ ⟨p,false,t,n⟩ _ (HV.out.below d) (by omega)).mono ?_
     rintro e w6 ⟨u,rfl,ho,EH⟩;have HO:=hid (show w6.ownsRow wr.heap.size 145 4 u (gm (Pp.newE C n) L).length (cq (gm (Pp.newE C n) L))from by rw[J.out];exact ho);have X:Below w.heap.size w w6:=d.trans (EH.mono d.size);clear ho EH P I Q R N Y x d f;rw[nr HR.out]at HO;have hM:=p8 (Pp.newE C n) (cJ (Pp.newE C n) L);have hO:(cJ (Pp.newE C n) L).length≤L.length:=List.length_filter_le _ _;rw[←HQ.out]at HO hM;obtain⟨M,E0⟩: ∃M,M=cN L C n:=⟨_,rfl⟩
     rw[←E0]at HO hM;have EN:=hid E0;clear E0;have E2:=hid (jI HO.out (by omega));obtain⟨a6,ET,rfl,F2,EU,_⟩:=E2.out
     by_cases F1:60<M.length
     · have E3:60<(M.length:Int):=by omega
       have HX:=hid (show Pp.rstE L C n=2 from by rw[Pp.rstE,if_neg (by rw[HN.out];decide),HE.out,if_pos (by omega)]);clear hM hO HO;go_wp2_with fail;go_ret2;exact⟨_,by rw[HX.out];rfl,fun h=>absurd (HX.out.symm.trans h) (by decide),X⟩
     · have E3: ¬60<(M.length:Int):=by omega
       have HX:=hid (show Pp.rstE L C n=0 from by rw[Pp.rstE,if_neg (by rw[HN.out];decide),HE.out,if_neg (by omega)]);clear hM hO HO;go_wp2_with fail;go_ret2;exact⟨_,by rw[HX.out];rfl,fun _=>by rw[←EN.out];exact E2.out,X⟩
theorem At (L:List En) (v:Value) (p q t:ByteArray) (b n:Int) (w:World) (hv:aF w v L) (hs: ∀e∈L,e.path.size≤1000000000) (hp:p.size≤1000000000) (hq:q.size≤1000000000) (ht:t.size≤1000000000) (hL:Pp.Good L) (hc:aQ ⟨4,p,q,t,b⟩=0) (H0:Hid (aO L (aI p.data.toList)=0)) (j:Nat) (hj:j<L.length) (HI:Hid (cW L p.data.toList=(j:Int))):
    Calls prog 85 #[v,.agg #[.int .i64 4,p,.string q,.string t,.int .i64 b],n] w fun e w'=> ∃u,e= .returned (.tuple #[u,.int .i64 (Pp.rstE L ⟨4,p,q,t,b⟩ n)])∧(Pp.rstE L ⟨4,p,q,t,b⟩ n=0→aF w' u (cN L ⟨4,p,q,t,b⟩ n))∧Below w.heap.size w w':=by
 obtain⟨i0,F5,F6,F7,F8⟩:=info_parts Tryz.infoE
 have HV:=hid hv;have HC:=hid hc;have HS:=hid hs;have HR:=hid hL.rise;have Fh:=hid hL;have Fc:L.length≤60:=hL.len;have F3: -1≤b:=(jG hc).2.2.2.1;have Fo:t.size≤1000000000:=by exact ht
 have HE:=hid (show fk L ⟨4,p,q,t,b⟩ n=0 from rfl);have HQ:=hid (show cN L ⟨4,p,q,t,b⟩ n=L.filter (fun e=> !bf p.data.toList e)from rfl);have Fm:(j:Int)<L.length:=by omega
 obtain⟨a,Fi,rfl,Fb,F4,EN⟩:=hv
 have HL:Hid (∀i (h:i<L.length),∃b o,a=some ⟨b,o,none⟩∧b<w.heap.size∧dJ w b (o+i*4) L[i]):=EN;obtain⟨C,hC⟩: ∃C:aE,C=⟨4,p,q,t,b⟩:=⟨_,rfl⟩
 rw[←hC]at HC HE HQ⊢;have E5:=hid hC;clear hC EN hL hs hc;go_enter func85,ntmps85
 go_wp2_with fail;refine(fM _ p q _ b _ hp hq (by omega)).mono ?_
 rintro e w1 ⟨rfl,G⟩;rw[←E5.out,HC.out];obtain⟨Z,N,c2,c3,Q,c,A⟩:=aC G
 go_wp2_with fail;refine(fv p _ hp).mono ?_
 rintro e w2 ⟨rfl,EP⟩;have R:=G.trans (EP.mono G.size);clear Z N c2 c3 Q c A G EP;obtain⟨Z,N,c2,c3,Q,c,A⟩:=aC R
 go_wp2_with fail;refine(fw L _ ⟨(aI p.data.toList).toArray⟩ _ (HV.out.below c)).mono ?_
 rintro e w3 ⟨rfl,EQ⟩;rw[show aO L _=0 from H0.out];have T:=R.trans (EQ.mono R.size);clear Z N c2 c3 Q c A R EQ;obtain⟨Z,N,c2,c3,Q,c,A⟩:=aC T
 go_wp2_with fail;refine(eX L _ p _ (HV.out.below c)).mono ?_
 rintro e w4 ⟨rfl,ER⟩;rw[HI.out];have E8:=T.trans (ER.mono T.size);clear Z N c2 c3 Q c A T ER;obtain⟨Z,N,c2,c3,Q,c,A⟩:=aC E8
 have HB:=hid E8;go_wp2_with fail;clear Z N c2 c3 Q c A;go_loopw [11] (fun i wr=> ∃m:Nat,m≤L.length∧i= .int .i64 m∧Hid (∀j (h:j<L.length),j<m→da p.data.toList b L[j]=false)∧Below w4.heap.size w4 wr) (fun i _=>L.length-(intOf i).toNat)
 case atStart=>exact⟨0,Nat.zero_le _,rfl,(fun j _ h=>absurd h (Nat.not_lt_zero _): ∀j (h:j<L.length),j<0→da p.data.toList b L[j]=false),aw⟩
 case round=>
  obtain⟨m,hm,rfl,HP,s⟩:=hrel
  have E2:=HB.out.trans (s.mono HB.out.size);obtain⟨Z,N,c2,c3,Q,c,A⟩:=aC E2
  by_cases EU:m<L.length∧0≤b
  · obtain⟨E7,F2⟩:=EU
    obtain⟨b1,o1,E6,G,he⟩:=HL.out m E7
    first|subst E6|(have EO:=Option.some.inj E6;injection EO with e1 e2 e3;have F0:=e1.symm;have F1:=e2.symm;subst F0;subst F1)
    obtain⟨d0,d1,d2,d3⟩:=he.below G c
    have E0:b1<wr.heap.size:=Nat.lt_of_lt_of_le G c.size;cases E:a8 (L[m]).path.data.toList p.data.toList with
    |false=>
     have EI:=hid E;have J:=hid (mi (b:=b) (e:=L[m]) E);clear E;go_wp2_with fail;refine wp_region_held_drew (S:=fun W=>W.cell? ⟨b1,o1+m*4,none⟩=some (.string L[m].path)∧W.cell? ⟨w.heap.size,1,none⟩=some (.string p)) (by kernel_rfl) ⟨by simpa using d0,by simpa using N⟩ (fun d=>?_)
     refine tk 0 ⟨some 103,Op.move (Operand.tmp 0),33,_,_,none⟩ d ?_
     try simp only[pu]
     refine tk 1 ⟨some 104,Op.move (Operand.tmp 11),3,_,_,none⟩ d ?_
     try simp only[pu]
     refine tk 2 ⟨some 105,Op.indexAddr 33 (Operand.tmp 103) (Operand.tmp 104),0,_,_,none⟩ d ?_
     try simp only[pu]
     refine tk 3 ⟨some 106,Op.fieldAddr 145 (Operand.tmp 105) 0,0,_,_,none⟩ d ?_
     try simp only[pu]
     refine tk 4 ⟨some 107,Op.load 9 (Operand.tmp 106),9,_,_,none⟩ d ?_
     try simp only[pu]
     refine tk 5 ⟨some 108,Op.fieldAddr 83 (Operand.tmp 4) 1,0,_,_,none⟩ d ?_
     try simp only[pu]
     refine tk 6 ⟨some 109,Op.load 9 (Operand.tmp 108),9,_,_,none⟩ d ?_
     try simp only[pu]
     refine wpAnyH_ready (rs:=[7]) (by kernel_rfl) (by simp) ?_
     refine AllReadyH.cons rfl (fun K hK=>?_) AllReadyH.nil
     go_simp
     refine(eZ L[m].path p _ (HS.out _ (List.getElem_mem E7)) hp).mono ?_
     rintro e P ⟨rfl,z⟩;rw[EI.out];have k1:P.cell? ⟨b1,o1+m*4,none⟩=some (.string L[m].path):=(z.cell (p:=⟨b1,o1+m*4,none⟩) E0).trans d0;have k2:P.cell? ⟨w.heap.size,1,none⟩=some (.string p):=(z.cell (p:=⟨w.heap.size,1,none⟩) A).trans N;go_wp2_with fail;refine hK.out _ _ ⟨k1,k2⟩ (fun d=>?_)
     clear hK K;try simp only[pu]
     refine tk 8 ⟨some 111,Op.move (Operand.tmp 110),4,_,_,none⟩ d ?_
     try simp only[pu]
     refine lk (g:=8) (dg:=111) (by kernel_rfl) (by kernel_rfl) (fun _ _ _ _ _ h=>h) d (fuel:=1) [(9,112),(10,113),(11,114),(12,115),(13,116),(14,117),(15,118),(16,119)] _ _ (by kernel_rfl) (by kernel_rfl) ?_
     simp only[kp,kr,Act.put,List.setIfInBounds_toArray,List.set_cons_zero,List.set_cons_succ];refine tk 17 ⟨some 120,Op.pick (Operand.tmp 111) (Operand.tmp 119) (Operand.const (Value.bool false)),4,_,_,none⟩ d ?_
     try simp only[pu]
     refine wpAnyH_done (by kernel_rfl) ?_ _
     have H:Below w4.heap.size w4 P:=s.drew.trans (z.mono s.drew.size);go_wp2;go_roundw
     case rel=>exact⟨m+1,by omega,by simp,(fun j h1 h2=>by
      by_cases e:j=m
      · subst e;exact J.out
      · exact HP.out j h1 (by omega): ∀j (h:j<L.length),j<m+1→da p.data.toList b L[j]=false),H⟩
     case measure=>simp[intOf];omega
    |true=>
     have EI:=hid E;have HY:=hid (show b<(L[m]).ver→ ∀(k:Int) (q t:ByteArray),dL L ⟨k,p,q,t,b⟩=true from fun V k q t=>mh F2 E7 E V);clear E;go_wp2_with fail
     go_region_held3 (fun W=>W.cell? ⟨b1,o1+m*4,none⟩=some (.string L[m].path)∧W.cell? ⟨w.heap.size,1,none⟩=some (.string p)∧W.cell? ⟨b1,o1+m*4+3,none⟩=some (.int .i64 L[m].ver)∧W.cell? ⟨w.heap.size,4,none⟩=some (.int .i64 b)) (go_keep) (first
      |(go_at_call 114;refine(eZ L[m].path p _ (HS.out _ (List.getElem_mem E7)) hp).mono ?_;rintro e P ⟨rfl,z⟩;rw[EI.out];have k1:P.cell? ⟨b1,o1+m*4,none⟩=some (.string L[m].path):=(z.cell (p:=⟨b1,o1+m*4,none⟩) E0).trans d0;have k2:P.cell? ⟨w.heap.size,1,none⟩=some (.string p):=(z.cell (p:=⟨w.heap.size,1,none⟩) A).trans N;have k3:P.cell? ⟨b1,o1+m*4+3,none⟩=some (.int .i64 L[m].ver):=(z.cell (p:=⟨b1,o1+m*4+3,none⟩) E0).trans d3;have k4:P.cell? ⟨w.heap.size,4,none⟩=some (.int .i64 b):=(z.cell (p:=⟨w.heap.size,4,none⟩) A).trans Q))
     by_cases V:b<(L[m]).ver
     · have J:=hid (HY.out V)
       have ET:Below w.heap.size w P:=c.drew.trans (z.mono c.drew.size);go_wp2_with fail;go_ret2;exact⟨_,by rw[Pp.rstE,if_pos (by rw[E5.out];exact J.out _ _ _)];rfl,fun h=>by rw[Pp.rstE,if_pos (by rw[E5.out];exact J.out _ _ _)]at h;exact absurd h (by decide),ET⟩
     · have J:=hid (mj (p:=p.data.toList) (b:=b) (e:=L[m]) V)
       have H:Below w4.heap.size w4 P:=s.drew.trans (z.mono s.drew.size);go_wp2;go_roundw
       case rel=>exact⟨m+1,by omega,by simp,(fun j h1 h2=>by
        by_cases e:j=m
        · subst e;exact J.out
        · exact HP.out j h1 (by omega): ∀j (h:j<L.length),j<m+1→da p.data.toList b L[j]=false),H⟩
       case measure=>simp[intOf];omega
  · have hN:dL L C=false:=by
     rw[E5.out];exact me F3 (fun j h h0=>HP.out j h (by omega))
    have HN:=hid hN;have EX: ¬m<L.length∨(m<L.length∧ ¬0≤b):=by omega
    clear hN EU HP hm;rcases EX with EX|⟨Fe,Ff⟩
    all_goals
     go_wp2_with fail;have E1:=hid E2;have EY:=hid c;have EV:=A;have ES:=c.size;clear Z N c2 c3 Q A s c E2;obtain⟨Y,EL⟩: ∃Y,Y=wr:=⟨_,rfl⟩
     rw[←EL];rw[←EL]at E1 EY EV ES;clear EL;go_loopw [12,13] (fun o i wr=> ∃x:Nat,x≤L.length∧i= .int .i64 x∧wr.ownsRow Y.heap.size 145 4 o ((L.take x).filter (fun e=> !bf p.data.toList e)).length (cq ((L.take x).filter (fun e=> !bf p.data.toList e)))∧Below Y.heap.size Y wr) (fun _ i _=>L.length-(intOf i).toNat)
     case atStart=>exact⟨0,Nat.zero_le _,rfl,World.ownsRow_nil _ _ _ _,aw⟩
     case round=>
      obtain⟨x,hx,rfl,F,s⟩:=hrel
      have E3:=E1.out.trans (s.mono E1.out.size);obtain⟨Z,N,c2,c3,Q,c,A⟩:=aC E3
      by_cases EJ:x<L.length
      · obtain⟨b1,o1,E6,G,he⟩:=HL.out x EJ
        subst E6;obtain⟨d0,d1,d2,d3⟩:=he.below G c
        have E0:b1<wr.heap.size:=Nat.lt_of_lt_of_le G c.size;have Fl:((L.take x).filter (fun e=> !bf p.data.toList e)).length≤60:=Nat.le_trans (List.length_filter_le _ _) (by rw[List.length_take];omega);have U:=nG (f:=fun e=> !bf p.data.toList e) EJ;go_wp2_with fail
        go_region_held3 (fun W=>W.cell? ⟨b1,o1+x*4,none⟩=some (.string L[x].path)∧W.cell? ⟨w.heap.size,1,none⟩=some (.string p)) (go_keep) (first
         |(go_at_call 114;refine(eZ L[x].path p _ (HS.out _ (List.getElem_mem EJ)) hp).mono ?_;rintro e P ⟨rfl,z⟩;have k1:P.cell? ⟨b1,o1+x*4,none⟩=some (.string L[x].path):=(z.cell (p:=⟨b1,o1+x*4,none⟩) E0).trans d0;have k2:P.cell? ⟨w.heap.size,1,none⟩=some (.string p):=(z.cell (p:=⟨w.heap.size,1,none⟩) A).trans N))
        have I:=gh F.drew z;have B:Below Y.heap.size Y P:=s.drew.trans (z.mono s.drew.size);have E9:Below w.heap.size w P:=c.drew.trans (z.mono c.drew.size);clear Z N c2 c3 Q E3 F s c d0 d1 d2 d3 A E0;cases E:bf p.data.toList L[x]with
        |true=>
         have O:a8 (L[x]).path.data.toList p.data.toList=true:=E;have J:=hid (show(L.take (x+1)).filter (fun e=> !bf p.data.toList e)=(L.take x).filter (fun e=> !bf p.data.toList e)from by rw[U];simp[E]);have HO:=hid I;clear U E I k1 k2 z;rw[O];clear O;go_wp2;go_roundw
         case rel=>exact⟨x+1,by omega,by simp,by rw[J.out];exact HO.out,B⟩
         case measure=>simp[intOf];omega
        |false=>
         have O:a8 (L[x]).path.data.toList p.data.toList=false:=E;have J:=hid (show(L.take (x+1)).filter (fun e=> !bf p.data.toList e)=(L.take x).filter (fun e=> !bf p.data.toList e)++[L[x]]from by rw[U];simp[E]);obtain⟨d0,d1,d2,d3⟩:=he.below G E9
         generalize (L.take x).filter (fun e=> !bf p.data.toList e)=X at*;clear U E k1 k2 z;rw[O];clear O;go_wp2_with (at_builtin;refine wpList_append_own _ rfl _ _ 33 rfl Y.heap.size 145 i0 (.agg #[.string ⟨#[]⟩,false,.string ⟨#[]⟩,ah]) 4 48 underlying33 F5 F6 F7 F8 rfl (by decide) _ _ _ rfl (I.alloc _) ⟨P.heap.size,0,none⟩ 1 1 (Pp.cells L[x]) rfl rfl (gi P L[x] _) (gH _) (by unfold maxLen;omega) (by omega) (by have:=B.size;simp at this⊢;omega) ?_)
         intro v2 w2 EK EH EW;have H:Below Y.heap.size Y w2:=(B.alloc B.size _).grown EH (by have:=B.size;simp at this⊢;omega) (fun g hg=>by have:=(I.lt g hg).1;simp;omega);rw[gG]at EK;have E4:w2.ownsRow Y.heap.size 145 4 v2 (X++[L[x]]).length (cq (X++[L[x]])):=by rw[List.length_append];exact EK
         have HO:=hid E4;clear EK EH EW E4 I B E9 d0 d1 d2 d3 he;go_wp2;go_roundw
         case rel=>exact⟨x+1,by omega,by simp,by rw[J.out];exact HO.out,H⟩
         case measure=>simp[intOf];omega
      · have eL:L.take x=L:=List.take_of_length_le (by omega)
        rw[eL]at F;have HO:=hid F;clear eL F;go_wp2;go_loopw [12,14] (fun o i wr=>i= .int .i64 0∧wr.ownsRow Y.heap.size 145 4 o (L.filter (fun e=> !bf p.data.toList e)).length (cq (L.filter (fun e=> !bf p.data.toList e)))∧Below Y.heap.size Y wr) (fun _ _ _=>0)
        case atStart=>exact⟨rfl,HO.out,s⟩
        case round=>
         obtain⟨rfl,F,s⟩:=hrel
         have E3:=E1.out.trans (s.mono E1.out.size);clear Z N c2 c3 Q c A;obtain⟨Z,N,c2,c3,Q,c,A⟩:=aC E3
         have hK:(L.filter (fun e=> !bf p.data.toList e)).length≤L.length:=List.length_filter_le _ _;have EZ:Hid (cN L C n=L.filter (fun e=> !bf p.data.toList e)):=(HQ.out:cN L C n=L.filter (fun e=> !bf p.data.toList e))
         generalize L.filter (fun e=> !bf p.data.toList e)=M at*;have EM:=hid (jI F (by omega));have Fj: ¬60<(M.length:Int):=by omega
         have Fg:0<(L.length:Int):=by omega
         have HX:=hid (show Pp.rstE L C n=0 from by rw[Pp.rstE,if_neg (by rw[HN.out];decide),HE.out]);obtain⟨a6,F9,rfl,Fk,Fa,_⟩:=EM.out
         clear F hK s E3;go_wp2_with fail;go_ret2;exact⟨_,by rw[HX.out];rfl,fun _=>by rw[EZ.out];exact EM.out,c⟩
end Go.Proofs.YtdlpjlfefjipkaaGreat
