/- What journal.Read answers, for every journal, cursor and number. -/
import Derived.Test.YtppdfeehhnofaaaGreatDoorHAK
import Derived.Test.YtppdfeehhnofaaaGreatDoorHAQ
import Derived.Test.YtppdfeehhnofaaaGreatDoorHAJ
import Derived.Test.YtppdfeehhnofaaaGreatDoorHAI
import Derived.Test.YtppdfeehhnofaaaGreatDoorHAS
set_option linter.unusedSimpArgs false
set_option linter.unusedVariables false
namespace Go.Proofs.YtppdfeehhnofaaaGreatDoor
open Go.RowKit

theorem ownP_zero (B:Nat) (w:World):OwnP B w (.agg #[.bool false,.slice none 0 0,.slice none 0 0,.int .i64 0,.bool false]) Jn.zeroP:=⟨_,_,rfl,lies_nil _,own_nil _ _,ownO_nil _ _⟩
set_option maxRecDepth 100000 in
set_option maxHeartbeats 4000000 in
theorem jread_any (J:Jo) (v:Value) (c m:Int) (w:World) (hv:LiesJ w v J) (hs:Sized J.base) (hcs:SizedO 150000000000000 J.cos):
    Calls Tryz.prog 89 #[v,.int .i64 c,.int .i64 m] w fun e w'=> ∃r,e= .returned (.tuple #[r,.int .i64 (Jn.rdE J c m)])∧OwnP w.heap.size w' r (Jn.rdR J c m)∧Below w.heap.size w w':=by
 have HV:=hid hv;have HS:=hid hs;have HCS:=hid hcs;obtain⟨vb,vc,rfl,hvb,hvc⟩:=hv
 have HVB:=hid hvb;have HVC:=hid hvc;obtain⟨ba,bcap,rfl,_⟩:=hvb
 obtain⟨ca,ccap,rfl,hccap,hccap2,_⟩:=hvc
 clear hs hcs;obtain⟨wz,hwz⟩: ∃wz,wz=(w.alloc (.cells #[.slice ba J.base.length bcap,.int .i64 J.first,.slice ca J.cos.length ccap] 88)).alloc (.cells #[.bool false,.slice none 0 0,.slice none 0 0,.int .i64 0,.bool false] 41):=⟨_,rfl⟩
 have hbz:Below w.heap.size w wz:=by rw[hwz];exact((Below.refl _ _).alloc (Nat.le_refl _) _).alloc (by simp) _
 have HBY:=hid (show Cs wz (w.heap.size+1) [.bool false,.slice none 0 0,.slice none 0 0,.int .i64 0,.bool false]from by
  have:=Cs.new (w.alloc (.cells #[.slice ba J.base.length bcap,.int .i64 J.first,.slice ca J.cos.length ccap] 88)) [.bool false,.slice none 0 0,.slice none 0 0,.int .i64 0,.bool false] 41
  rw[hwz];simpa using this)
 have hNz:=HBY.out.lt;by_cases h0:Jn.chkE J=0
 · have H0:=hid h0
   have hpp:=Jn.chk_parts h0;obtain⟨f1,f2⟩:=Jn.ver_iff.1 hpp.2.1
   have h30:=hpp.2.2.1;have HFW:=hid (show∀c∈J.cos,c.ch.length≤1000000000 from fun c hc=>Nat.le_trans (Jn.chk_few h0 c hc) (by decide));have HG:=hid (Jn.tree_good h0);have hlj:Jn.last J=J.first-1+J.cos.length:=rfl
   clear hpp;by_cases m1:m<1
   · have hE:=Jn.rd_range (c:=c) h0 (Or.inl m1)
     have HE:=hid hE;have HR:=hid (Jn.rd_bad hE (by decide));clear hE h0;go_enter Tryz.func89,Tryz.ntmps89
     go_wp2_with fail;rw[←hwz];clear hwz;refine(keep_any J _ _ (HV.out.below hbz) HS.out HCS.out).mono ?_
     rintro e w1 ⟨p,rfl,hK,_,hb1⟩;obtain⟨b,mb,vb2,vc2,nn,rfl,hv2,hb,hmb,hKp,hnn⟩:=hK H0.out
     simp only[Value.agg.injEq,Array.mk.injEq,List.cons.injEq,true_and,and_true]at hv2;obtain⟨rfl,rfl⟩:=hv2
     rw[H0.out];obtain⟨vt,hC,hT,hM,hne⟩:=hKp
     have HC:=hid hC;have HT:=hid hT;have k1:=hC.cell 1 rfl;have k2:=hC.cell 2 rfl;have k3:=hC.cell 3 rfl;obtain⟨ta,tcap,rfl,_⟩:=hT
     have hb01:=below_tr hbz hb1;have HY1:=hid (HBY.out.below hb1);clear hK hC hM;have y0:=HY1.out.cell 0 rfl;have y1:=HY1.out.cell 1 rfl;have y2:=HY1.out.cell 2 rfl;have y3:=HY1.out.cell 3 rfl;have y4:=HY1.out.cell 4 rfl;have g0:=HY1.out.fr 0;have g1:=HY1.out.fr 1;have g2:=HY1.out.fr 2;have g3:=HY1.out.fr 3;have g4:=HY1.out.fr 4;go_wp2_with fail;refine bodyPost_ret (v:= .tuple #[.agg #[.bool false,.slice none 0 0,.slice none 0 0,.int .i64 0,.bool false],.int .i64 3]) (by simp[results,Tryz.results89,go_sem,y0,y1,y2,y3,y4]) rfl ⟨_,by rw[HE.out],?_,?_⟩
     · rw[HR.out]
       exact ownP_zero _ _
     · exact(((((hb01.setCell (p:=⟨w.heap.size+1,0,none⟩) (Nat.le_succ _) _).setCell (p:=⟨w.heap.size+1,1,none⟩) (Nat.le_succ _) _).setCell (p:=⟨w.heap.size+1,2,none⟩) (Nat.le_succ _) _).setCell (p:=⟨w.heap.size+1,3,none⟩) (Nat.le_succ _) _).setCell (p:=⟨w.heap.size+1,4,none⟩) (Nat.le_succ _) _)
   by_cases m2:10<m
   · have hE:=Jn.rd_range (c:=c) h0 (Or.inr (Or.inl m2))
     have HE:=hid hE;have HR:=hid (Jn.rd_bad hE (by decide));clear hE h0;go_enter Tryz.func89,Tryz.ntmps89
     go_wp2_with fail;rw[←hwz];clear hwz;refine(keep_any J _ _ (HV.out.below hbz) HS.out HCS.out).mono ?_
     rintro e w1 ⟨p,rfl,hK,_,hb1⟩;obtain⟨b,mb,vb2,vc2,nn,rfl,hv2,hb,hmb,hKp,hnn⟩:=hK H0.out
     simp only[Value.agg.injEq,Array.mk.injEq,List.cons.injEq,true_and,and_true]at hv2;obtain⟨rfl,rfl⟩:=hv2
     rw[H0.out];obtain⟨vt,hC,hT,hM,hne⟩:=hKp
     have HC:=hid hC;have HT:=hid hT;have k1:=hC.cell 1 rfl;have k2:=hC.cell 2 rfl;have k3:=hC.cell 3 rfl;obtain⟨ta,tcap,rfl,_⟩:=hT
     have hb01:=below_tr hbz hb1;have HY1:=hid (HBY.out.below hb1);clear hK hC hM;have y0:=HY1.out.cell 0 rfl;have y1:=HY1.out.cell 1 rfl;have y2:=HY1.out.cell 2 rfl;have y3:=HY1.out.cell 3 rfl;have y4:=HY1.out.cell 4 rfl;have g0:=HY1.out.fr 0;have g1:=HY1.out.fr 1;have g2:=HY1.out.fr 2;have g3:=HY1.out.fr 3;have g4:=HY1.out.fr 4;go_wp2_with fail;refine bodyPost_ret (v:= .tuple #[.agg #[.bool false,.slice none 0 0,.slice none 0 0,.int .i64 0,.bool false],.int .i64 3]) (by simp[results,Tryz.results89,go_sem,y0,y1,y2,y3,y4]) rfl ⟨_,by rw[HE.out],?_,?_⟩
     · rw[HR.out]
       exact ownP_zero _ _
     · exact(((((hb01.setCell (p:=⟨w.heap.size+1,0,none⟩) (Nat.le_succ _) _).setCell (p:=⟨w.heap.size+1,1,none⟩) (Nat.le_succ _) _).setCell (p:=⟨w.heap.size+1,2,none⟩) (Nat.le_succ _) _).setCell (p:=⟨w.heap.size+1,3,none⟩) (Nat.le_succ _) _).setCell (p:=⟨w.heap.size+1,4,none⟩) (Nat.le_succ _) _)
   by_cases c1:c<0
   · have hE:=Jn.rd_range (m:=m) h0 (Or.inr (Or.inr c1))
     have HE:=hid hE;have HR:=hid (Jn.rd_bad hE (by decide));clear hE h0;go_enter Tryz.func89,Tryz.ntmps89
     go_wp2_with fail;rw[←hwz];clear hwz;refine(keep_any J _ _ (HV.out.below hbz) HS.out HCS.out).mono ?_
     rintro e w1 ⟨p,rfl,hK,_,hb1⟩;obtain⟨b,mb,vb2,vc2,nn,rfl,hv2,hb,hmb,hKp,hnn⟩:=hK H0.out
     simp only[Value.agg.injEq,Array.mk.injEq,List.cons.injEq,true_and,and_true]at hv2;obtain⟨rfl,rfl⟩:=hv2
     rw[H0.out];obtain⟨vt,hC,hT,hM,hne⟩:=hKp
     have HC:=hid hC;have HT:=hid hT;have k1:=hC.cell 1 rfl;have k2:=hC.cell 2 rfl;have k3:=hC.cell 3 rfl;obtain⟨ta,tcap,rfl,_⟩:=hT
     have hb01:=below_tr hbz hb1;have HY1:=hid (HBY.out.below hb1);clear hK hC hM;have y0:=HY1.out.cell 0 rfl;have y1:=HY1.out.cell 1 rfl;have y2:=HY1.out.cell 2 rfl;have y3:=HY1.out.cell 3 rfl;have y4:=HY1.out.cell 4 rfl;have g0:=HY1.out.fr 0;have g1:=HY1.out.fr 1;have g2:=HY1.out.fr 2;have g3:=HY1.out.fr 3;have g4:=HY1.out.fr 4;go_wp2_with fail;refine bodyPost_ret (v:= .tuple #[.agg #[.bool false,.slice none 0 0,.slice none 0 0,.int .i64 0,.bool false],.int .i64 3]) (by simp[results,Tryz.results89,go_sem,y0,y1,y2,y3,y4]) rfl ⟨_,by rw[HE.out],?_,?_⟩
     · rw[HR.out]
       exact ownP_zero _ _
     · exact(((((hb01.setCell (p:=⟨w.heap.size+1,0,none⟩) (Nat.le_succ _) _).setCell (p:=⟨w.heap.size+1,1,none⟩) (Nat.le_succ _) _).setCell (p:=⟨w.heap.size+1,2,none⟩) (Nat.le_succ _) _).setCell (p:=⟨w.heap.size+1,3,none⟩) (Nat.le_succ _) _).setCell (p:=⟨w.heap.size+1,4,none⟩) (Nat.le_succ _) _)
   have hok: ¬(m<1∨10<m∨c<0):=by omega
   by_cases c2:Jn.last J<c
   · have hE:=Jn.rd_none h0 hok c2
     have c2':J.first-1+(J.cos.length:Int)<c:=by omega
     have HE:=hid hE;have HR:=hid (Jn.rd_bad hE (by decide));clear hE h0 hok;go_enter Tryz.func89,Tryz.ntmps89
     go_wp2_with fail;rw[←hwz];clear hwz;refine(keep_any J _ _ (HV.out.below hbz) HS.out HCS.out).mono ?_
     rintro e w1 ⟨p,rfl,hK,_,hb1⟩;obtain⟨b,mb,vb2,vc2,nn,rfl,hv2,hb,hmb,hKp,hnn⟩:=hK H0.out
     simp only[Value.agg.injEq,Array.mk.injEq,List.cons.injEq,true_and,and_true]at hv2;obtain⟨rfl,rfl⟩:=hv2
     rw[H0.out];obtain⟨vt,hC,hT,hM,hne⟩:=hKp
     have HC:=hid hC;have HT:=hid hT;have k1:=hC.cell 1 rfl;have k2:=hC.cell 2 rfl;have k3:=hC.cell 3 rfl;obtain⟨ta,tcap,rfl,_⟩:=hT
     have hb01:=below_tr hbz hb1;have HY1:=hid (HBY.out.below hb1);clear hK hC hM;go_wp2_with fail;refine(kLast_any J.first J.cos.length _ b _ _ _ ca _ HC.out f1 (by omega) (by omega)).mono ?_
     rintro e w2 ⟨rfl,hb2⟩;have HC2:=hid (HC.out.below hb2);have HY2:=hid (HY1.out.below hb2);have hb02:=below_tr hb01 hb2;have HT2:=hid (HT.out.below hb2);clear k1 k2 k3;have k1:=HC2.out.cell 1 rfl;have k2:=HC2.out.cell 2 rfl;have k3:=HC2.out.cell 3 rfl;have y0:=HY2.out.cell 0 rfl;have y1:=HY2.out.cell 1 rfl;have y2:=HY2.out.cell 2 rfl;have y3:=HY2.out.cell 3 rfl;have y4:=HY2.out.cell 4 rfl;have g0:=HY2.out.fr 0;have g1:=HY2.out.fr 1;have g2:=HY2.out.fr 2;have g3:=HY2.out.fr 3;have g4:=HY2.out.fr 4;go_wp2_with fail;refine bodyPost_ret (v:= .tuple #[.agg #[.bool false,.slice none 0 0,.slice none 0 0,.int .i64 0,.bool false],.int .i64 5]) (by simp[results,Tryz.results89,go_sem,y0,y1,y2,y3,y4]) rfl ⟨_,by rw[HE.out],?_,?_⟩
     · rw[HR.out]
       exact ownP_zero _ _
     · exact(((((hb02.setCell (p:=⟨w.heap.size+1,0,none⟩) (Nat.le_succ _) _).setCell (p:=⟨w.heap.size+1,1,none⟩) (Nat.le_succ _) _).setCell (p:=⟨w.heap.size+1,2,none⟩) (Nat.le_succ _) _).setCell (p:=⟨w.heap.size+1,3,none⟩) (Nat.le_succ _) _).setCell (p:=⟨w.heap.size+1,4,none⟩) (Nat.le_succ _) _)
   have hE:=Jn.rd_ok h0 hok c2;have c2': ¬J.first-1+(J.cos.length:Int)<c:=by omega
   have e1:IntKind.i64.wrap (J.first-1)=J.first-1:=by rw[IntKind.wrap_i64];omega
   by_cases c3:c<J.first-1
   · have HE:=hid hE
     have HR:=hid (Jn.rd_reset hE c3);clear hE h0 hok;go_enter Tryz.func89,Tryz.ntmps89
     go_wp2_with fail;rw[←hwz];clear hwz;refine(keep_any J _ _ (HV.out.below hbz) HS.out HCS.out).mono ?_
     rintro e w1 ⟨p,rfl,hK,_,hb1⟩;obtain⟨b,mb,vb2,vc2,nn,rfl,hv2,hb,hmb,hKp,hnn⟩:=hK H0.out
     simp only[Value.agg.injEq,Array.mk.injEq,List.cons.injEq,true_and,and_true]at hv2;obtain⟨rfl,rfl⟩:=hv2
     rw[H0.out];obtain⟨vt,hC,hT,hM,hne⟩:=hKp
     have HC:=hid hC;have HT:=hid hT;have k1:=hC.cell 1 rfl;have k2:=hC.cell 2 rfl;have k3:=hC.cell 3 rfl;obtain⟨ta,tcap,rfl,_⟩:=hT
     have hb01:=below_tr hbz hb1;have HY1:=hid (HBY.out.below hb1);clear hK hC hM;go_wp2_with fail;refine(kLast_any J.first J.cos.length _ b _ _ _ ca _ HC.out f1 (by omega) (by omega)).mono ?_
     rintro e w2 ⟨rfl,hb2⟩;have HC2:=hid (HC.out.below hb2);have HY2:=hid (HY1.out.below hb2);have hb02:=below_tr hb01 hb2;have HT2:=hid (HT.out.below hb2);clear k1 k2 k3;have k1:=HC2.out.cell 1 rfl;have k2:=HC2.out.cell 2 rfl;have k3:=HC2.out.cell 3 rfl;go_wp2_with fail;refine(cloneE ((Jn.tree J).map Pp.cells) _ _ (liesR_en.1 HT2.out) (by rw[List.length_map];have:=HG.out.len;omega)).mono ?_
     rintro e w3 ⟨u,rfl,hR,hO,hb3⟩;have HL3:=hid (liesR_en.2 hR);have HO3:=hid (hO.mono hb02.size);obtain⟨xa,xcap,rfl,_⟩:=HL3.out
     have HC3:=hid (HC2.out.below hb3);have HY3:=hid (HY2.out.below hb3);have hb03:=below_tr hb02 hb3;have HOX:=hid hO;have hs12:=hb1.size;have hs2:=hb2.size;clear hR hO k1 k2 k3;go_wp2_with fail;refine(kLast_any J.first J.cos.length _ b _ _ _ ca _ HC3.out f1 (by omega) (by omega)).mono ?_
     rintro e w4 ⟨rfl,hb4⟩;have HL4:=hid (HL3.out.below hb4);have HO4:=hid (HO3.out.below hb4);have HX4:=hid (HOX.out.below hb4);have HY4:=hid (HY3.out.below hb4);have hb04:=below_tr hb03 hb4;have y0:=HY4.out.cell 0 rfl;have y1:=HY4.out.cell 1 rfl;have y2:=HY4.out.cell 2 rfl;have y3:=HY4.out.cell 3 rfl;have y4:=HY4.out.cell 4 rfl;have g0:=HY4.out.fr 0;have g1:=HY4.out.fr 1;have g2:=HY4.out.fr 2;have g3:=HY4.out.fr 3;have g4:=HY4.out.fr 4;go_wp2_with fail;refine bodyPost_ret (v:= .tuple #[.agg #[.bool true,.slice xa (Jn.tree J).length xcap,.slice none 0 0,.int .i64 (J.first-1+J.cos.length),.bool false],.int .i64 0]) (by simp[results,Tryz.results89,go_sem,y0,y1,y2,y3,y4]) rfl ⟨_,by rw[HE.out],?_,?_⟩
     · rw[HR.out]
       have k0: ∀g,(Value.slice xa (Jn.tree J).length xcap).ownBlock=some g→g≠w.heap.size+1:=fun g hg=>by have:=(HX4.out g hg).1;omega
       refine⟨_,_,rfl,((((HL4.out.nbo (nb_set _ _ _ _) k0).nbo (nb_set _ _ _ _) k0).nbo (nb_set _ _ _ _) k0).nbo (nb_set _ _ _ _) k0).nbo (nb_set _ _ _ _) k0,((((HO4.out.setCell _ _ _).setCell _ _ _).setCell _ _ _).setCell _ _ _).setCell _ _ _,ownO_nil _ _⟩
     · exact(((((hb04.setCell (p:=⟨w.heap.size+1,0,none⟩) (Nat.le_succ _) _).setCell (p:=⟨w.heap.size+1,1,none⟩) (Nat.le_succ _) _).setCell (p:=⟨w.heap.size+1,2,none⟩) (Nat.le_succ _) _).setCell (p:=⟨w.heap.size+1,3,none⟩) (Nat.le_succ _) _).setCell (p:=⟨w.heap.size+1,4,none⟩) (Nat.le_succ _) _)
   have HE:=hid hE;have HR:=hid (Jn.rd_page hE c3);obtain⟨i,hi⟩: ∃i:Nat,c=J.first-1+i:=⟨(c-(J.first-1)).toNat,by omega⟩
   have hil:i≤J.cos.length:=by omega
   have hbe:Jn.behind J c=J.cos.drop i:=by rw[Jn.behind];congr 1;omega
   have HBE:=hid hbe;have e2:IntKind.i64.wrap (c-(J.first-1))=(i:Int):=by rw[IntKind.wrap_i64];omega
   have hiz:(i:Int)≤J.cos.length:=by omega
   have hiz2:(i:Int)≤ccap:=by omega
   obtain⟨kk,hkk⟩: ∃kk:Nat,min m ((J.cos.length-i:Nat):Int)=(kk:Int):=⟨(min m ((J.cos.length-i:Nat):Int)).toNat,by omega⟩
   have hkl:kk≤J.cos.length-i:=by omega
   have hkl2:(kk:Int)≤((ccap-i:Nat):Int):=by omega
   have e3:IntKind.i64.wrap (c+(kk:Int))=c+kk:=by rw[IntKind.wrap_i64];omega
   have HFK:=hid (show Jn.few m (J.cos.drop i).length=kk from by rw[Jn.few,List.length_drop];omega);have HLD:Hid ((J.cos.drop i).length=J.cos.length-i):=List.length_drop;have HFP:=hid (show∀x∈(J.cos.drop i).take kk,x.ch.length≤1000000000 from fun x hx=>HFW.out x (List.mem_of_mem_drop (List.mem_of_mem_take hx)));have HTK:=hid (show((J.cos.drop i).take kk).length=kk from by rw[List.length_take,List.length_drop];omega);have HI:=hid hi;clear hE h0 hok hbe hi;by_cases hci:ccap=i
   · have hci2:i=ccap:=hci.symm
     clear hci;subst hci2;have hk0:kk=0:=by omega
     subst hk0;have hm0:min m (0:Int)=0:=by omega
     have e4:IntKind.i64.wrap c=c:=by rw[IntKind.wrap_i64];omega
     have hlz:J.cos.length-i=0:=by omega
     clear hkk;go_enter Tryz.func89,Tryz.ntmps89
     go_wp2_with fail;rw[←hwz];clear hwz;refine(keep_any J _ _ (HV.out.below hbz) HS.out HCS.out).mono ?_
     rintro e w1 ⟨p,rfl,hK,_,hb1⟩;obtain⟨b,mb,vb2,vc2,nn,rfl,hv2,hb,hmb,hKp,hnn⟩:=hK H0.out
     simp only[Value.agg.injEq,Array.mk.injEq,List.cons.injEq,true_and,and_true]at hv2;obtain⟨rfl,rfl⟩:=hv2
     rw[H0.out];obtain⟨vt,hC,hT,hM,hne⟩:=hKp
     have HC:=hid hC;have HT:=hid hT;have k1:=hC.cell 1 rfl;have k2:=hC.cell 2 rfl;have k3:=hC.cell 3 rfl;obtain⟨ta,tcap,rfl,_⟩:=hT
     have hb01:=below_tr hbz hb1;have HY1:=hid (HBY.out.below hb1);clear hK hC hM;go_wp2_with fail;refine(kLast_any J.first J.cos.length _ b _ _ _ ca _ HC.out f1 (by omega) (by omega)).mono ?_
     rintro e w2 ⟨rfl,hb2⟩;have HC2:=hid (HC.out.below hb2);have HY2:=hid (HY1.out.below hb2);have hb02:=below_tr hb01 hb2;have HT2:=hid (HT.out.below hb2);clear k1 k2 k3;have k1:=HC2.out.cell 1 rfl;have k2:=HC2.out.cell 2 rfl;have k3:=HC2.out.cell 3 rfl;clear k3;have HVC2:=hid (HVC.out.below hb02);have hb2d:Below w.heap.size w w2.drew:=below_tr hb02 (Below.refl _ _).drew;have HY2d:=hid (HY2.out.below (Below.refl _ _).drew);have hs12:=hb1.size;have hs2:=hb2.size;go_wp2_with fail;go_region
     go_wp2_with fail;refine(ownCommits_any ((J.cos.drop i).take 0) (.slice ca 0 0) _ (liesO_part (HVC2.out.below (Below.refl _ _).drew) hil (Nat.zero_le _) (Nat.zero_le _) (fun _ _ _ h=>absurd h (by decide))) (by rw[HTK.out];omega) HFP.out).mono ?_
     rintro e w3 ⟨u,rfl,hO3,hb3⟩;have HO3:=hid hO3;obtain⟨xa,xcap,rfl⟩:=liesO_shape hO3.lies
     rw[HTK.out]at HO3⊢;have HY3:=hid (HY2d.out.below hb3);have hb03:=below_tr hb2d hb3;clear hO3;have y0:=HY3.out.cell 0 rfl;have y1:=HY3.out.cell 1 rfl;have y2:=HY3.out.cell 2 rfl;have y3:=HY3.out.cell 3 rfl;have y4:=HY3.out.cell 4 rfl;have g0:=HY3.out.fr 0;have g1:=HY3.out.fr 1;have g2:=HY3.out.fr 2;have g3:=HY3.out.fr 3;have g4:=HY3.out.fr 4;go_wp2_with fail;refine bodyPost_ret (v:= .tuple #[.agg #[.bool false,.slice none 0 0,.slice xa 0 xcap,.int .i64 c,.bool false],.int .i64 0]) (by simp[results,Tryz.results89,go_sem,y0,y1,y2,y3,y4]) rfl ⟨_,by rw[HE.out],?_,?_⟩
     · rw[HR.out,HBE.out,HFK.out,HLD.out,hlz]
       refine⟨.slice none 0 0,.slice xa 0 xcap,by simp,lies_nil _,own_nil _ _,?_⟩
       exact(((((HO3.out.nbo (nb_set _ _ _ _) (by simp;omega)).nbo (nb_set _ _ _ _) (by simp;omega)).nbo (nb_set _ _ _ _) (by simp;omega)).nbo (nb_set _ _ _ _) (by simp;omega)).nbo (nb_set _ _ _ _) (by simp;omega)).mono (by simp;omega)
     · exact(((((hb03.setCell (p:=⟨w.heap.size+1,0,none⟩) (Nat.le_succ _) _).setCell (p:=⟨w.heap.size+1,1,none⟩) (Nat.le_succ _) _).setCell (p:=⟨w.heap.size+1,2,none⟩) (Nat.le_succ _) _).setCell (p:=⟨w.heap.size+1,3,none⟩) (Nat.le_succ _) _).setCell (p:=⟨w.heap.size+1,4,none⟩) (Nat.le_succ _) _)
   · skip
     go_enter Tryz.func89,Tryz.ntmps89
     go_wp2_with fail;rw[←hwz];clear hwz;refine(keep_any J _ _ (HV.out.below hbz) HS.out HCS.out).mono ?_
     rintro e w1 ⟨p,rfl,hK,_,hb1⟩;obtain⟨b,mb,vb2,vc2,nn,rfl,hv2,hb,hmb,hKp,hnn⟩:=hK H0.out
     simp only[Value.agg.injEq,Array.mk.injEq,List.cons.injEq,true_and,and_true]at hv2;obtain⟨rfl,rfl⟩:=hv2
     rw[H0.out];obtain⟨vt,hC,hT,hM,hne⟩:=hKp
     have HC:=hid hC;have HT:=hid hT;have k1:=hC.cell 1 rfl;have k2:=hC.cell 2 rfl;have k3:=hC.cell 3 rfl;obtain⟨ta,tcap,rfl,_⟩:=hT
     have hb01:=below_tr hbz hb1;have HY1:=hid (HBY.out.below hb1);clear hK hC hM;go_wp2_with fail;refine(kLast_any J.first J.cos.length _ b _ _ _ ca _ HC.out f1 (by omega) (by omega)).mono ?_
     rintro e w2 ⟨rfl,hb2⟩;have HC2:=hid (HC.out.below hb2);have HY2:=hid (HY1.out.below hb2);have hb02:=below_tr hb01 hb2;have HT2:=hid (HT.out.below hb2);clear k1 k2 k3;have k1:=HC2.out.cell 1 rfl;have k2:=HC2.out.cell 2 rfl;have k3:=HC2.out.cell 3 rfl;clear k3;have HVC2:=hid (HVC.out.below hb02);have hb2d:Below w.heap.size w w2.drew:=below_tr hb02 (Below.refl _ _).drew;have HY2d:=hid (HY2.out.below (Below.refl _ _).drew);have hs12:=hb1.size;have hs2:=hb2.size;go_wp2_with fail;go_region
     go_wp2_with fail;refine(ownCommits_any ((J.cos.drop i).take kk) _ _ (liesO_part (HVC2.out.below (Below.refl _ _).drew) hil (by rw[HLD.out];exact hkl) (by omega) ?adr) (by rw[HTK.out];omega) HFP.out).mono ?_
     case adr=>
      intro b' o' hab hk0;subst hab;simp[Addr.add]
     rintro e w3 ⟨u,rfl,hO3,hb3⟩;have HO3:=hid hO3;obtain⟨xa,xcap,rfl⟩:=liesO_shape hO3.lies
     rw[HTK.out]at HO3⊢;have HY3:=hid (HY2d.out.below hb3);have hb03:=below_tr hb2d hb3;clear hO3;have y0:=HY3.out.cell 0 rfl;have y1:=HY3.out.cell 1 rfl;have y2:=HY3.out.cell 2 rfl;have y3:=HY3.out.cell 3 rfl;have y4:=HY3.out.cell 4 rfl;have g0:=HY3.out.fr 0;have g1:=HY3.out.fr 1;have g2:=HY3.out.fr 2;have g3:=HY3.out.fr 3;have g4:=HY3.out.fr 4;go_wp2_with fail;refine bodyPost_ret (v:= .tuple #[.agg #[.bool false,.slice none 0 0,.slice xa kk xcap,.int .i64 (c+kk),.bool (decide ((kk:Int)<((J.cos.length-i:Nat):Int)))],.int .i64 0]) (by simp[results,Tryz.results89,go_sem,y0,y1,y2,y3,y4]) rfl ⟨_,by rw[HE.out],?_,?_⟩
     · rw[HR.out,HBE.out,HFK.out,HLD.out]
       refine⟨.slice none 0 0,.slice xa kk xcap,by simp,lies_nil _,own_nil _ _,?_⟩
       exact(((((HO3.out.nbo (nb_set _ _ _ _) (by simp;omega)).nbo (nb_set _ _ _ _) (by simp;omega)).nbo (nb_set _ _ _ _) (by simp;omega)).nbo (nb_set _ _ _ _) (by simp;omega)).nbo (nb_set _ _ _ _) (by simp;omega)).mono (by simp;omega)
     · exact(((((hb03.setCell (p:=⟨w.heap.size+1,0,none⟩) (Nat.le_succ _) _).setCell (p:=⟨w.heap.size+1,1,none⟩) (Nat.le_succ _) _).setCell (p:=⟨w.heap.size+1,2,none⟩) (Nat.le_succ _) _).setCell (p:=⟨w.heap.size+1,3,none⟩) (Nat.le_succ _) _).setCell (p:=⟨w.heap.size+1,4,none⟩) (Nat.le_succ _) _)
 · have hE:=Jn.rd_chk (c:=c) (m:=m) h0
   have HE:=hid hE;have HR:=hid (Jn.rd_bad hE h0);have hz:(Jn.chkE J==0)=false:=by simpa using h0
   clear hE;go_enter Tryz.func89,Tryz.ntmps89
   go_wp2_with fail;rw[←hwz];clear hwz;refine(keep_any J _ _ (HV.out.below hbz) HS.out HCS.out).mono ?_
   rintro e w1 ⟨p,rfl,_,_,hb1⟩;have HY1:=hid (HBY.out.below hb1);have hb01:=below_tr hbz hb1;have y0:=HY1.out.cell 0 rfl;have y1:=HY1.out.cell 1 rfl;have y2:=HY1.out.cell 2 rfl;have y3:=HY1.out.cell 3 rfl;have y4:=HY1.out.cell 4 rfl;have g0:=HY1.out.fr 0;have g1:=HY1.out.fr 1;have g2:=HY1.out.fr 2;have g3:=HY1.out.fr 3;have g4:=HY1.out.fr 4;go_wp2_with fail;refine bodyPost_ret (v:= .tuple #[.agg #[.bool false,.slice none 0 0,.slice none 0 0,.int .i64 0,.bool false],.int .i64 (Jn.chkE J)]) (by simp[results,Tryz.results89,go_sem,y0,y1,y2,y3,y4]) rfl ⟨_,by rw[HE.out],?_,?_⟩
   · rw[HR.out]
     exact ownP_zero _ _
   · exact(((((hb01.setCell (p:=⟨w.heap.size+1,0,none⟩) (Nat.le_succ _) _).setCell (p:=⟨w.heap.size+1,1,none⟩) (Nat.le_succ _) _).setCell (p:=⟨w.heap.size+1,2,none⟩) (Nat.le_succ _) _).setCell (p:=⟨w.heap.size+1,3,none⟩) (Nat.le_succ _) _).setCell (p:=⟨w.heap.size+1,4,none⟩) (Nat.le_succ _) _)
theorem LiesPg.nb {W W':World} {v:Value} {P:Pg} {g:Nat} (h:LiesPg W v P) (hw:W.grownBy W' (some g)) (hn:NoStr W g):LiesPg W' v P:=by
 obtain⟨vt,vc,rfl,h1,h2⟩:=h
 exact⟨vt,vc,rfl,h1.nb hw hn,h2.nb hw hn⟩
theorem noStr_pg {w:World} {g:Nat} {c:Int} {r m:Bool} {x y:Option Addr} {a b a' b':Nat} (h:Cs w g [.bool r,.slice x a b,.slice y a' b',.int .i64 c,.bool m]):NoStr w g:=h.noStr (fun s hs=>by simp at hs)
set_option maxRecDepth 100000 in
set_option maxHeartbeats 8000000 in
theorem spage_any (H:Hb) (q:Rq) (vq vf vg vs:Value) (g mb n:Nat) (w:World) (hb:Cs w g [vf,vg,vs,.int .i64 H.nx,.int .i64 H.la,.int .i64 H.ro,.int .i64 H.now,.map (some mb)]) (hf:LiesF w vf H.fos) (hm:SvM w mb n H) (hs:SizedF H.fos) (hq:LiesQ w vq q) (hsq:SizedQ q) (hi:Hu.whr H.fos H.gs q.fo<H.fos.length):
    Calls Tryz.prog 50 #[.pointer (some ⟨g,0,none⟩),vq] w fun z w'=> ∃u,z= .returned (.tuple #[u,.int .i64 (Jn.rdE (Hu.joAt H (Hu.whr H.fos H.gs q.fo)) q.num 10)])∧LiesPg w' u (Jn.rdR (Hu.joAt H (Hu.whr H.fos H.gs q.fo)) q.num 10)∧Below w.heap.size w w':=by
 have HB:=hid hb;have HF:=hid hf;have HM:=hid hm;have HSQ:=hid hsq;have HI:=hid hi;have HSJ:=hid (show Sized (Hu.joAt H (Hu.whr H.fos H.gs q.fo)).base∧SizedO 150000000000000 (Hu.joAt H (Hu.whr H.fos H.gs q.fo)).cos from by rw[Hu.joAt_eq hi];exact(hs _ (List.getElem_mem hi)).2);clear hb hf hm hs hsq hi;obtain⟨va,rfl,lq⟩:=hq
 obtain⟨qa,qc,rfl,_⟩:=lq
 obtain⟨kind,who,fo,name,key,text,num,off,base,ch⟩:=q
 simp only at*;obtain⟨J,hJ⟩: ∃J,J=Hu.joAt H (Hu.whr H.fos H.gs fo):=⟨_,rfl⟩
 have HJC:=hid (show∀W,Below w.heap.size w W→Calls Tryz.prog 90 #[.pointer (some ⟨g,0,none⟩),.string fo] W fun e w'=> ∃u,e= .returned u∧LiesJ w' u J∧Below W.heap.size W w' from fun W hW=>by
  have h:=sjournal_any H _ _ _ g mb n fo W (HB.out.below hW) (HF.out.below hW) (HM.out.below hW) HSQ.out.fo HI.out;refine h.mono ?_
  rintro e w' ⟨u,rfl,hl,hb⟩;exact⟨u,rfl,by rw[hJ,Hu.joAt_eq HI.out];exact hl,hb⟩)
 rw[←hJ]at HSJ⊢;clear hJ;obtain⟨E,hE⟩: ∃E,E=Jn.rdE J num 10:=⟨_,rfl⟩
 obtain⟨P,hP⟩: ∃P,P=Jn.rdR J num 10:=⟨_,rfl⟩
 have HRD:=hid (show∀W v,LiesJ W v J→Calls Tryz.prog 89 #[v,.int .i64 num,.int .i64 10] W fun e w'=> ∃r,e= .returned (.tuple #[r,.int .i64 E])∧LiesPg w' r P∧Below W.heap.size W w' from fun W v hv=>by
  refine(jread_any J v num 10 W hv HSJ.out.1 HSJ.out.2).mono ?_
  rintro e w' ⟨r,rfl,hp,hb⟩;exact⟨r,by rw[hE],by rw[hP];exact hp.lies,hb⟩)
 rw[←hE,←hP];clear hE hP;obtain⟨wa,hwa⟩: ∃wa,wa=w.alloc (.cells #[.int .i64 kind,.string who,.string fo,.string name,.string key,.string text,.int .i64 num,.int .i64 off,.int .i64 base,.slice qa ch.length qc] 31):=⟨_,rfl⟩
 obtain⟨wz,hwz⟩: ∃wz,wz=wa.alloc (.cells #[.bool false,.slice none 0 0,.slice none 0 0,.int .i64 0,.bool false] 41):=⟨_,rfl⟩
 have sa1:wa.heap.size=w.heap.size+1:=by rw[hwa];simp
 have bwa:Below w.heap.size w wa:=by rw[hwa];exact(Below.refl _ _).alloc (Nat.le_refl _) _
 have bwz:Below wa.heap.size wa wz:=by rw[hwz];exact(Below.refl _ _).alloc (Nat.le_refl _) _
 have hbz:Below w.heap.size w wz:=below_tr bwa bwz;have HQX:Hid (Cs wz w.heap.size [.int .i64 kind,.string who,.string fo,.string name,.string key,.string text,.int .i64 num,.int .i64 off,.int .i64 base,.slice qa ch.length qc]):=((by rw[hwa];exact Cs.new w [.int .i64 kind,.string who,.string fo,.string name,.string key,.string text,.int .i64 num,.int .i64 off,.int .i64 base,.slice qa ch.length qc] _:Cs wa w.heap.size [.int .i64 kind,.string who,.string fo,.string name,.string key,.string text,.int .i64 num,.int .i64 off,.int .i64 base,.slice qa ch.length qc]).below bwz:Cs wz w.heap.size _)
 have HPX:Hid (Cs wz (w.heap.size+1) [.bool false,.slice none 0 0,.slice none 0 0,.int .i64 0,.bool false]):=(by rw[←sa1,hwz];exact Cs.new wa [.bool false,.slice none 0 0,.slice none 0 0,.int .i64 0,.bool false] _:Cs wz (w.heap.size+1) _)
 have hwzz:(w.alloc (.cells #[.int .i64 kind,.string who,.string fo,.string name,.string key,.string text,.int .i64 num,.int .i64 off,.int .i64 base,.slice qa ch.length qc] 31)).alloc (.cells #[.bool false,.slice none 0 0,.slice none 0 0,.int .i64 0,.bool false] 41)=wz:=by rw[hwz,hwa]
 have HWZ:=hid hwzz;have x2:=HQX.out.cell 2 rfl;have x6:=HQX.out.cell 6 rfl;have hsz:w.heap.size+1<wz.heap.size:=HPX.out.lt;have hdr:Below wz.heap.size wz wz.drew:=(Below.refl _ _).drew;have hdrw:=below_tr hbz hdr;clear hwa hwz bwa bwz sa1 hwzz;go_enter Tryz.func50,Tryz.ntmps50
 go_upto_region 1 with fail;rw[HWZ.out];clear HWZ
 go_region_held3 (fun W=>W.cell? ⟨w.heap.size,2,none⟩=some (.string fo)∧W.cell? ⟨w.heap.size,6,none⟩=some (.int .i64 num)) (first|go_keep|(have hx:=(HQX.out.below hb45).nb (grown_on (grown_on (grown_on (grown_on (nb_set w5 (w.heap.size+1) 0 (.bool P.reset)) (nb_set _ (w.heap.size+1) 1 (.slice pta P.tree.length ptc))) (nb_set _ (w.heap.size+1) 2 (.slice pca P.cos.length pcc))) (nb_set _ (w.heap.size+1) 3 (.int .i64 P.cur))) (nb_set _ (w.heap.size+1) 4 (.bool P.more))) (by omega);exact⟨hx.cell 2 rfl,hx.cell 6 rfl⟩)) (first
  |(go_at_call 90;refine(HJC.out _ hdrw).mono ?_;rintro e w3 ⟨u3,rfl,hJ3,hb3⟩;have hb23:=below_tr hdr hb3;have HJ3:=hid hJ3;obtain⟨vb3,vc3,rfl,lb3,lc3⟩:=hJ3;obtain⟨_,_,rfl,_⟩:=lb3;obtain⟨_,_,rfl⟩:=liesO_shape lc3;clear lc3;have q2:=(HQX.out.below hb23).cell 2 rfl;have q6:=(HQX.out.below hb23).cell 6 rfl)
  |(go_at_call 89;refine(HRD.out _ _ HJ3.out).mono ?_;rintro e w5 ⟨u5,rfl,hP5,hb5⟩;have hb45:=below_tr hb23 hb5;have HP5:=hid hP5;obtain⟨vt5,vc5,rfl,lt5,lc5⟩:=hP5;obtain⟨pta,ptc,rfl,_⟩:=lt5;obtain⟨pca,pcc,rfl⟩:=liesO_shape lc5;clear lc5;have HY:=hid (HPX.out.below hb45);have r2:=(HQX.out.below hb45).cell 2 rfl;have r6:=(HQX.out.below hb45).cell 6 rfl;have y0:=HY.out.cell 0 rfl;have y1:=HY.out.cell 1 rfl;have y2:=HY.out.cell 2 rfl;have y3:=HY.out.cell 3 rfl;have y4:=HY.out.cell 4 rfl;have f0:=HY.out.fr 0;have f1:=HY.out.fr 1;have f2:=HY.out.fr 2;have f3:=HY.out.fr 3;have f4:=HY.out.fr 4))
 all_goals
  go_wp2_with fail;refine bodyPost_ret (v:= .tuple #[.agg #[.bool P.reset,.slice pta P.tree.length ptc,.slice pca P.cos.length pcc,.int .i64 P.cur,.bool P.more],.int .i64 E]) (by simp[results,Tryz.results50,go_sem,y0,y1,y2,y3,y4]) rfl ⟨_,rfl,HP5.out.nb (grown_on (grown_on (grown_on (grown_on (nb_set w5 (w.heap.size+1) 0 (.bool P.reset)) (nb_set _ (w.heap.size+1) 1 (.slice pta P.tree.length ptc))) (nb_set _ (w.heap.size+1) 2 (.slice pca P.cos.length pcc))) (nb_set _ (w.heap.size+1) 3 (.int .i64 P.cur))) (nb_set _ (w.heap.size+1) 4 (.bool P.more))) (noStr_pg HY.out),?_⟩
  exact(bs5 (b:=w.heap.size+1) (below_tr hbz hb45) (Nat.le_succ _))
end Go.Proofs.YtppdfeehhnofaaaGreatDoor
