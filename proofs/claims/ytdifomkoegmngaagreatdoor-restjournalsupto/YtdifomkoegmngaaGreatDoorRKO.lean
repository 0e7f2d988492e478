/- Pages as plain mathematics, and in memory; what Read and Follow answer. -/
import Derived.Test.YtdifomkoegmngaaGreatDoorRKN
import Derived.Test.YtdifomkoegmngaaGreatDoorRKG
import Derived.Test.YtdifomkoegmngaaGreatDoorRKA
import Derived.Test.YtdifomkoegmngaaGreatDoorRKC
import Derived.Test.YtdifomkoegmngaaGreatDoorRKM
import Derived.Test.YtdifomkoegmngaaGreatDoorRKE
import Derived.Test.YtdifomkoegmngaaGreatDoorRKB
import Derived.Test.YtdifomkoegmngaaGreatDoorRKF
import Derived.Deep.RegionHeld3
set_option linter.unusedSimpArgs false
set_option linter.unusedVariables false
namespace Go.Proofs.YtdifomkoegmngaaGreatDoor
open Go.RowKit

def OwnP (B:Nat) (w:World) (v:Value) (P:Pg):Prop:= ∃vt vc,v= .agg #[.bool P.reset,vt,vc,.int .i64 P.cur,.bool P.more]∧Lies w vt P.tree∧Own B w vt∧OwnO B w vc P.cos
theorem OwnP.lies {B:Nat} {w:World} {v:Value} {P:Pg} (h:OwnP B w v P):LiesPg w v P:=by
 obtain⟨vt,vc,h1,h2,_,h4⟩:=h
 exact⟨vt,vc,h1,h2,h4.lies⟩
theorem OwnP.below {B:Nat} {w w':World} {v:Value} {P:Pg} (h:OwnP B w v P) (hw:Below w.heap.size w w'):OwnP B w' v P:=by
 obtain⟨vt,vc,h1,h2,h3,h4⟩:=h
 exact⟨vt,vc,h1,h2.below hw,h3.below hw,h4.below hw⟩
theorem ownO_nil (B:Nat) (w:World):OwnO B w (.slice none 0 0) []:=
 ⟨[],⟨rfl,fun i c u hc=>by simp at hc⟩,⟨none,0,rfl,Nat.le_refl _,by decide,(fun r hr=>by cases hr),fun i h=>absurd h (by simp[rowsO])⟩,own_nil _ _,(fun u hu=>by cases hu)⟩
namespace Jn
def zeroP:Pg:=⟨false,[],[],0,false⟩
def rdE (J:Jo) (c m:Int):Int:=if¬chkE J=0 then chkE J else if m<1∨10<m∨c<0 then 3 else if last J<c then 5 else 0
def behind (J:Jo) (c:Int):List Co:=J.cos.drop (c-(J.first-1)).toNat
def few (m:Int) (n:Nat):Nat:=min m.toNat n
def rdR (J:Jo) (c m:Int):Pg:=if¬rdE J c m=0 then zeroP else if c<J.first-1 then⟨true,tree J,[],last J,false⟩else
 ⟨false,[],(behind J c).take (few m (behind J c).length),c+few m (behind J c).length,decide (few m (behind J c).length<(behind J c).length)⟩
theorem rd_bad {J:Jo} {c m e:Int} (h:rdE J c m=e) (he: ¬e=0):rdR J c m=zeroP:=by rw[rdR,h,if_pos he]
theorem rd_chk {J:Jo} {c m:Int} (h: ¬chkE J=0):rdE J c m=chkE J:=by rw[rdE,if_pos h]
theorem rd_range {J:Jo} {c m:Int} (h:chkE J=0) (h1:m<1∨10<m∨c<0):rdE J c m=3:=by rw[rdE,if_neg (fun x=>x h),if_pos h1]
theorem rd_none {J:Jo} {c m:Int} (h:chkE J=0) (h1: ¬(m<1∨10<m∨c<0)) (h2:last J<c):rdE J c m=5:=by rw[rdE,if_neg (fun x=>x h),if_neg h1,if_pos h2]
theorem rd_ok {J:Jo} {c m:Int} (h:chkE J=0) (h1: ¬(m<1∨10<m∨c<0)) (h2: ¬last J<c):rdE J c m=0:=by rw[rdE,if_neg (fun x=>x h),if_neg h1,if_neg h2]
theorem rd_reset {J:Jo} {c m:Int} (h:rdE J c m=0) (h3:c<J.first-1):rdR J c m=⟨true,tree J,[],last J,false⟩:=by rw[rdR,if_neg (fun x=>x h),if_pos h3]
theorem rd_page {J:Jo} {c m:Int} (h:rdE J c m=0) (h3: ¬c<J.first-1):rdR J c m=⟨false,[],(behind J c).take (few m (behind J c).length),c+few m (behind J c).length,decide (few m (behind J c).length<(behind J c).length)⟩:=by rw[rdR,if_neg (fun x=>x h),if_neg h3]
end Jn
/-- A part of a slice of commits. -/
theorem liesO_part {w:World} {a a':Option Addr} {n cap i k cap':Nat} {l:List Co} (h:LiesO w (.slice a n cap) l) (hi:i≤l.length) (hk:k≤(l.drop i).length) (hc:k≤cap') (ha: ∀b o,a=some ⟨b,o,none⟩→0<k→a'=some ⟨b,o+i*3,none⟩):LiesO w (.slice a' k cap') ((l.drop i).take k):=by
 obtain⟨a0,cap0,hv,h1,h2,h3⟩:=h
 injection hv with e1 e2 e3
 subst e1;have hl:((l.drop i).take k).length=k:=by rw[List.length_take];omega
 have hl2:(l.drop i).length=l.length-i:=List.length_drop;refine⟨a',cap',by rw[hl],by rw[hl];exact hc,by rw[hl];omega,fun j hj=>?_⟩
 rw[hl]at hj;obtain⟨b,o,hab,hb,he⟩:=h3 (i+j) (by omega)
 refine⟨b,o+i*3,ha b o hab (by omega),hb,?_⟩
 rw[List.getElem_take,List.getElem_drop,Nat.add_assoc,show i*3+j*3=(i+j)*3 by omega];exact he
end Go.Proofs.YtdifomkoegmngaaGreatDoor
namespace Go.Proofs.YtdifomkoegmngaaGreatDoor
open Go.RowKit

theorem ownP_zero (B:Nat) (w:World):OwnP B w (.agg #[.bool false,.slice none 0 0,.slice none 0 0,.int .i64 0,.bool false]) Jn.zeroP:=⟨_,_,rfl,lies_nil _,own_nil _ _,ownO_nil _ _⟩
set_option maxRecDepth 100000 in
set_option maxHeartbeats 4000000 in
theorem jread_any (J:Jo) (v:Value) (c m:Int) (w:World) (hv:LiesJ w v J) (hs:Sized J.base) (hcs:SizedO 150000000000000 J.cos):
    Calls Tryz.prog 8 #[v,.int .i64 c,.int .i64 m] w fun e w'=> ∃r,e= .returned (.tuple #[r,.int .i64 (Jn.rdE J c m)])∧OwnP w.heap.size w' r (Jn.rdR J c m)∧Below w.heap.size w w':=by
 have HV:=hid hv;have HS:=hid hs;have HCS:=hid hcs;obtain⟨vb,vc,rfl,hvb,hvc⟩:=hv
 have HVB:=hid hvb;have HVC:=hid hvc;obtain⟨ba,bcap,rfl,_⟩:=hvb
 obtain⟨ca,ccap,rfl,hccap,hccap2,_⟩:=hvc
 clear hs hcs;obtain⟨wz,hwz⟩: ∃wz,wz=(w.alloc (.cells #[.slice ba J.base.length bcap,.int .i64 J.first,.slice ca J.cos.length ccap] 25)).alloc (.cells #[.bool false,.slice none 0 0,.slice none 0 0,.int .i64 0,.bool false] 33):=⟨_,rfl⟩
 have hbz:Below w.heap.size w wz:=by rw[hwz];exact((Below.refl _ _).alloc (Nat.le_refl _) _).alloc (by simp) _
 have HBY:=hid (show Cs wz (w.heap.size+1) [.bool false,.slice none 0 0,.slice none 0 0,.int .i64 0,.bool false]from by
  have:=Cs.new (w.alloc (.cells #[.slice ba J.base.length bcap,.int .i64 J.first,.slice ca J.cos.length ccap] 25)) [.bool false,.slice none 0 0,.slice none 0 0,.int .i64 0,.bool false] 33
  rw[hwz];simpa using this)
 have hNz:=HBY.out.lt;by_cases h0:Jn.chkE J=0
 · have H0:=hid h0
   have hpp:=Jn.chk_parts h0;obtain⟨f1,f2⟩:=Jn.ver_iff.1 hpp.2.1
   have h30:=hpp.2.2.1;have HFW:=hid (show∀c∈J.cos,c.ch.length≤1000000000 from fun c hc=>Nat.le_trans (Jn.chk_few h0 c hc) (by decide));have HG:=hid (Jn.tree_good h0);have hlj:Jn.last J=J.first-1+J.cos.length:=rfl
   clear hpp;by_cases m1:m<1
   · have hE:=Jn.rd_range (c:=c) h0 (Or.inl m1)
     have HE:=hid hE;have HR:=hid (Jn.rd_bad hE (by decide));clear hE h0;go_enter Tryz.func8,Tryz.ntmps8
     go_wp2_with fail;rw[←hwz];clear hwz;refine(keep_any J _ _ (HV.out.below hbz) HS.out HCS.out).mono ?_
     rintro e w1 ⟨p,rfl,hK,_,hb1⟩;obtain⟨b,mb,vb2,vc2,nn,rfl,hv2,hb,hmb,hKp,hnn⟩:=hK H0.out
     simp only[Value.agg.injEq,Array.mk.injEq,List.cons.injEq,true_and,and_true]at hv2;obtain⟨rfl,rfl⟩:=hv2
     rw[H0.out];obtain⟨vt,hC,hT,hM,hne⟩:=hKp
     have HC:=hid hC;have HT:=hid hT;have k1:=hC.cell 1 rfl;have k2:=hC.cell 2 rfl;have k3:=hC.cell 3 rfl;obtain⟨ta,tcap,rfl,_⟩:=hT
     have hb01:=below_tr hbz hb1;have HY1:=hid (HBY.out.below hb1);clear hK hC hM;have y0:=HY1.out.cell 0 rfl;have y1:=HY1.out.cell 1 rfl;have y2:=HY1.out.cell 2 rfl;have y3:=HY1.out.cell 3 rfl;have y4:=HY1.out.cell 4 rfl;have g0:=HY1.out.fr 0;have g1:=HY1.out.fr 1;have g2:=HY1.out.fr 2;have g3:=HY1.out.fr 3;have g4:=HY1.out.fr 4;go_wp2_with fail;refine bodyPost_ret (v:= .tuple #[.agg #[.bool false,.slice none 0 0,.slice none 0 0,.int .i64 0,.bool false],.int .i64 3]) (by simp[results,Tryz.results8,go_sem,y0,y1,y2,y3,y4]) rfl ⟨_,by rw[HE.out],?_,?_⟩
     · rw[HR.out]
       exact ownP_zero _ _
     · exact(((((hb01.setCell (p:=⟨w.heap.size+1,0,none⟩) (Nat.le_succ _) _).setCell (p:=⟨w.heap.size+1,1,none⟩) (Nat.le_succ _) _).setCell (p:=⟨w.heap.size+1,2,none⟩) (Nat.le_succ _) _).setCell (p:=⟨w.heap.size+1,3,none⟩) (Nat.le_succ _) _).setCell (p:=⟨w.heap.size+1,4,none⟩) (Nat.le_succ _) _)
   by_cases m2:10<m
   · have hE:=Jn.rd_range (c:=c) h0 (Or.inr (Or.inl m2))
     have HE:=hid hE;have HR:=hid (Jn.rd_bad hE (by decide));clear hE h0;go_enter Tryz.func8,Tryz.ntmps8
     go_wp2_with fail;rw[←hwz];clear hwz;refine(keep_any J _ _ (HV.out.below hbz) HS.out HCS.out).mono ?_
     rintro e w1 ⟨p,rfl,hK,_,hb1⟩;obtain⟨b,mb,vb2,vc2,nn,rfl,hv2,hb,hmb,hKp,hnn⟩:=hK H0.out
     simp only[Value.agg.injEq,Array.mk.injEq,List.cons.injEq,true_and,and_true]at hv2;obtain⟨rfl,rfl⟩:=hv2
     rw[H0.out];obtain⟨vt,hC,hT,hM,hne⟩:=hKp
     have HC:=hid hC;have HT:=hid hT;have k1:=hC.cell 1 rfl;have k2:=hC.cell 2 rfl;have k3:=hC.cell 3 rfl;obtain⟨ta,tcap,rfl,_⟩:=hT
     have hb01:=below_tr hbz hb1;have HY1:=hid (HBY.out.below hb1);clear hK hC hM;have y0:=HY1.out.cell 0 rfl;have y1:=HY1.out.cell 1 rfl;have y2:=HY1.out.cell 2 rfl;have y3:=HY1.out.cell 3 rfl;have y4:=HY1.out.cell 4 rfl;have g0:=HY1.out.fr 0;have g1:=HY1.out.fr 1;have g2:=HY1.out.fr 2;have g3:=HY1.out.fr 3;have g4:=HY1.out.fr 4;go_wp2_with fail;refine bodyPost_ret (v:= .tuple #[.agg #[.bool false,.slice none 0 0,.slice none 0 0,.int .i64 0,.bool false],.int .i64 3]) (by simp[results,Tryz.results8,go_sem,y0,y1,y2,y3,y4]) rfl ⟨_,by rw[HE.out],?_,?_⟩
     · rw[HR.out]
       exact ownP_zero _ _
     · exact(((((hb01.setCell (p:=⟨w.heap.size+1,0,none⟩) (Nat.le_succ _) _).setCell (p:=⟨w.heap.size+1,1,none⟩) (Nat.le_succ _) _).setCell (p:=⟨w.heap.size+1,2,none⟩) (Nat.le_succ _) _).setCell (p:=⟨w.heap.size+1,3,none⟩) (Nat.le_succ _) _).setCell (p:=⟨w.heap.size+1,4,none⟩) (Nat.le_succ _) _)
   by_cases c1:c<0
   · have hE:=Jn.rd_range (m:=m) h0 (Or.inr (Or.inr c1))
     have HE:=hid hE;have HR:=hid (Jn.rd_bad hE (by decide));clear hE h0;go_enter Tryz.func8,Tryz.ntmps8
     go_wp2_with fail;rw[←hwz];clear hwz;refine(keep_any J _ _ (HV.out.below hbz) HS.out HCS.out).mono ?_
     rintro e w1 ⟨p,rfl,hK,_,hb1⟩;obtain⟨b,mb,vb2,vc2,nn,rfl,hv2,hb,hmb,hKp,hnn⟩:=hK H0.out
     simp only[Value.agg.injEq,Array.mk.injEq,List.cons.injEq,true_and,and_true]at hv2;obtain⟨rfl,rfl⟩:=hv2
     rw[H0.out];obtain⟨vt,hC,hT,hM,hne⟩:=hKp
     have HC:=hid hC;have HT:=hid hT;have k1:=hC.cell 1 rfl;have k2:=hC.cell 2 rfl;have k3:=hC.cell 3 rfl;obtain⟨ta,tcap,rfl,_⟩:=hT
     have hb01:=below_tr hbz hb1;have HY1:=hid (HBY.out.below hb1);clear hK hC hM;have y0:=HY1.out.cell 0 rfl;have y1:=HY1.out.cell 1 rfl;have y2:=HY1.out.cell 2 rfl;have y3:=HY1.out.cell 3 rfl;have y4:=HY1.out.cell 4 rfl;have g0:=HY1.out.fr 0;have g1:=HY1.out.fr 1;have g2:=HY1.out.fr 2;have g3:=HY1.out.fr 3;have g4:=HY1.out.fr 4;go_wp2_with fail;refine bodyPost_ret (v:= .tuple #[.agg #[.bool false,.slice none 0 0,.slice none 0 0,.int .i64 0,.bool false],.int .i64 3]) (by simp[results,Tryz.results8,go_sem,y0,y1,y2,y3,y4]) rfl ⟨_,by rw[HE.out],?_,?_⟩
     · rw[HR.out]
       exact ownP_zero _ _
     · exact(((((hb01.setCell (p:=⟨w.heap.size+1,0,none⟩) (Nat.le_succ _) _).setCell (p:=⟨w.heap.size+1,1,none⟩) (Nat.le_succ _) _).setCell (p:=⟨w.heap.size+1,2,none⟩) (Nat.le_succ _) _).setCell (p:=⟨w.heap.size+1,3,none⟩) (Nat.le_succ _) _).setCell (p:=⟨w.heap.size+1,4,none⟩) (Nat.le_succ _) _)
   have hok: ¬(m<1∨10<m∨c<0):=by omega
   by_cases c2:Jn.last J<c
   · have hE:=Jn.rd_none h0 hok c2
     have c2':J.first-1+(J.cos.length:Int)<c:=by omega
     have HE:=hid hE;have HR:=hid (Jn.rd_bad hE (by decide));clear hE h0 hok;go_enter Tryz.func8,Tryz.ntmps8
     go_wp2_with fail;rw[←hwz];clear hwz;refine(keep_any J _ _ (HV.out.below hbz) HS.out HCS.out).mono ?_
     rintro e w1 ⟨p,rfl,hK,_,hb1⟩;obtain⟨b,mb,vb2,vc2,nn,rfl,hv2,hb,hmb,hKp,hnn⟩:=hK H0.out
     simp only[Value.agg.injEq,Array.mk.injEq,List.cons.injEq,true_and,and_true]at hv2;obtain⟨rfl,rfl⟩:=hv2
     rw[H0.out];obtain⟨vt,hC,hT,hM,hne⟩:=hKp
     have HC:=hid hC;have HT:=hid hT;have k1:=hC.cell 1 rfl;have k2:=hC.cell 2 rfl;have k3:=hC.cell 3 rfl;obtain⟨ta,tcap,rfl,_⟩:=hT
     have hb01:=below_tr hbz hb1;have HY1:=hid (HBY.out.below hb1);clear hK hC hM;go_wp2_with fail;refine(kLast_any J.first J.cos.length _ b _ _ _ ca _ HC.out f1 (by omega) (by omega)).mono ?_
     rintro e w2 ⟨rfl,hb2⟩;have HC2:=hid (HC.out.below hb2);have HY2:=hid (HY1.out.below hb2);have hb02:=below_tr hb01 hb2;have HT2:=hid (HT.out.below hb2);clear k1 k2 k3;have k1:=HC2.out.cell 1 rfl;have k2:=HC2.out.cell 2 rfl;have k3:=HC2.out.cell 3 rfl;have y0:=HY2.out.cell 0 rfl;have y1:=HY2.out.cell 1 rfl;have y2:=HY2.out.cell 2 rfl;have y3:=HY2.out.cell 3 rfl;have y4:=HY2.out.cell 4 rfl;have g0:=HY2.out.fr 0;have g1:=HY2.out.fr 1;have g2:=HY2.out.fr 2;have g3:=HY2.out.fr 3;have g4:=HY2.out.fr 4;go_wp2_with fail;refine bodyPost_ret (v:= .tuple #[.agg #[.bool false,.slice none 0 0,.slice none 0 0,.int .i64 0,.bool false],.int .i64 5]) (by simp[results,Tryz.results8,go_sem,y0,y1,y2,y3,y4]) rfl ⟨_,by rw[HE.out],?_,?_⟩
     · rw[HR.out]
       exact ownP_zero _ _
     · exact(((((hb02.setCell (p:=⟨w.heap.size+1,0,none⟩) (Nat.le_succ _) _).setCell (p:=⟨w.heap.size+1,1,none⟩) (Nat.le_succ _) _).setCell (p:=⟨w.heap.size+1,2,none⟩) (Nat.le_succ _) _).setCell (p:=⟨w.heap.size+1,3,none⟩) (Nat.le_succ _) _).setCell (p:=⟨w.heap.size+1,4,none⟩) (Nat.le_succ _) _)
   have hE:=Jn.rd_ok h0 hok c2;have c2': ¬J.first-1+(J.cos.length:Int)<c:=by omega
   have e1:IntKind.i64.wrap (J.first-1)=J.first-1:=by rw[IntKind.wrap_i64];omega
   by_cases c3:c<J.first-1
   · have HE:=hid hE
     have HR:=hid (Jn.rd_reset hE c3);clear hE h0 hok;go_enter Tryz.func8,Tryz.ntmps8
     go_wp2_with fail;rw[←hwz];clear hwz;refine(keep_any J _ _ (HV.out.below hbz) HS.out HCS.out).mono ?_
     rintro e w1 ⟨p,rfl,hK,_,hb1⟩;obtain⟨b,mb,vb2,vc2,nn,rfl,hv2,hb,hmb,hKp,hnn⟩:=hK H0.out
     simp only[Value.agg.injEq,Array.mk.injEq,List.cons.injEq,true_and,and_true]at hv2;obtain⟨rfl,rfl⟩:=hv2
     rw[H0.out];obtain⟨vt,hC,hT,hM,hne⟩:=hKp
     have HC:=hid hC;have HT:=hid hT;have k1:=hC.cell 1 rfl;have k2:=hC.cell 2 rfl;have k3:=hC.cell 3 rfl;obtain⟨ta,tcap,rfl,_⟩:=hT
     have hb01:=below_tr hbz hb1;have HY1:=hid (HBY.out.below hb1);clear hK hC hM;go_wp2_with fail;refine(kLast_any J.first J.cos.length _ b _ _ _ ca _ HC.out f1 (by omega) (by omega)).mono ?_
     rintro e w2 ⟨rfl,hb2⟩;have HC2:=hid (HC.out.below hb2);have HY2:=hid (HY1.out.below hb2);have hb02:=below_tr hb01 hb2;have HT2:=hid (HT.out.below hb2);clear k1 k2 k3;have k1:=HC2.out.cell 1 rfl;have k2:=HC2.out.cell 2 rfl;have k3:=HC2.out.cell 3 rfl;go_wp2_with fail;refine(cloneE ((Jn.tree J).map Pp.cells) _ _ (liesR_en.1 HT2.out) (by rw[List.length_map];have:=HG.out.len;omega)).mono ?_
     rintro e w3 ⟨u,rfl,hR,hO,hb3⟩;have HL3:=hid (liesR_en.2 hR);have HO3:=hid (hO.mono hb02.size);obtain⟨xa,xcap,rfl,_⟩:=HL3.out
     have HC3:=hid (HC2.out.below hb3);have HY3:=hid (HY2.out.below hb3);have hb03:=below_tr hb02 hb3;have HOX:=hid hO;have hs12:=hb1.size;have hs2:=hb2.size;clear hR hO k1 k2 k3;go_wp2_with fail;refine(kLast_any J.first J.cos.length _ b _ _ _ ca _ HC3.out f1 (by omega) (by omega)).mono ?_
     rintro e w4 ⟨rfl,hb4⟩;have HL4:=hid (HL3.out.below hb4);have HO4:=hid (HO3.out.below hb4);have HX4:=hid (HOX.out.below hb4);have HY4:=hid (HY3.out.below hb4);have hb04:=below_tr hb03 hb4;have y0:=HY4.out.cell 0 rfl;have y1:=HY4.out.cell 1 rfl;have y2:=HY4.out.cell 2 rfl;have y3:=HY4.out.cell 3 rfl;have y4:=HY4.out.cell 4 rfl;have g0:=HY4.out.fr 0;have g1:=HY4.out.fr 1;have g2:=HY4.out.fr 2;have g3:=HY4.out.fr 3;have g4:=HY4.out.fr 4;go_wp2_with fail;refine bodyPost_ret (v:= .tuple #[.agg #[.bool true,.slice xa (Jn.tree J).length xcap,.slice none 0 0,.int .i64 (J.first-1+J.cos.length),.bool false],.int .i64 0]) (by simp[results,Tryz.results8,go_sem,y0,y1,y2,y3,y4]) rfl ⟨_,by rw[HE.out],?_,?_⟩
     · rw[HR.out]
       have k0: ∀g,(Value.slice xa (Jn.tree J).length xcap).ownBlock=some g→g≠w.heap.size+1:=fun g hg=>by have:=(HX4.out g hg).1;omega
       refine⟨_,_,rfl,((((HL4.out.nbo (nb_set _ _ _ _) k0).nbo (nb_set _ _ _ _) k0).nbo (nb_set _ _ _ _) k0).nbo (nb_set _ _ _ _) k0).nbo (nb_set _ _ _ _) k0,((((HO4.out.setCell _ _ _).setCell _ _ _).setCell _ _ _).setCell _ _ _).setCell _ _ _,ownO_nil _ _⟩
     · exact(((((hb04.setCell (p:=⟨w.heap.size+1,0,none⟩) (Nat.le_succ _) _).setCell (p:=⟨w.heap.size+1,1,none⟩) (Nat.le_succ _) _).setCell (p:=⟨w.heap.size+1,2,none⟩) (Nat.le_succ _) _).setCell (p:=⟨w.heap.size+1,3,none⟩) (Nat.le_succ _) _).setCell (p:=⟨w.heap.size+1,4,none⟩) (Nat.le_succ _) _)
   have HE:=hid hE;have HR:=hid (Jn.rd_page hE c3);obtain⟨i,hi⟩: ∃i:Nat,c=J.first-1+i:=⟨(c-(J.first-1)).toNat,by omega⟩
   have hil:i≤J.cos.length:=by omega
   have hbe:Jn.behind J c=J.cos.drop i:=by rw[Jn.behind];congr 1;omega
   have HBE:=hid hbe;have e2:IntKind.i64.wrap (c-(J.first-1))=(i:Int):=by rw[IntKind.wrap_i64];omega
   have hiz:(i:Int)≤J.cos.length:=by omega
   have hiz2:(i:Int)≤ccap:=by omega
   obtain⟨kk,hkk⟩: ∃kk:Nat,min m ((J.cos.length-i:Nat):Int)=(kk:Int):=⟨(min m ((J.cos.length-i:Nat):Int)).toNat,by omega⟩
   have hkl:kk≤J.cos.length-i:=by omega
   have hkl2:(kk:Int)≤((ccap-i:Nat):Int):=by omega
   have e3:IntKind.i64.wrap (c+(kk:Int))=c+kk:=by rw[IntKind.wrap_i64];omega
   have HFK:=hid (show Jn.few m (J.cos.drop i).length=kk from by rw[Jn.few,List.length_drop];omega);have HLD:Hid ((J.cos.drop i).length=J.cos.length-i):=List.length_drop;have HFP:=hid (show∀x∈(J.cos.drop i).take kk,x.ch.length≤1000000000 from fun x hx=>HFW.out x (List.mem_of_mem_drop (List.mem_of_mem_take hx)));have HTK:=hid (show((J.cos.drop i).take kk).length=kk from by rw[List.length_take,List.length_drop];omega);have HI:=hid hi;clear hE h0 hok hbe hi;by_cases hci:ccap=i
   · have hci2:i=ccap:=hci.symm
     clear hci;subst hci2;have hk0:kk=0:=by omega
     subst hk0;have hm0:min m (0:Int)=0:=by omega
     have e4:IntKind.i64.wrap c=c:=by rw[IntKind.wrap_i64];omega
     have hlz:J.cos.length-i=0:=by omega
     clear hkk;go_enter Tryz.func8,Tryz.ntmps8
     go_wp2_with fail;rw[←hwz];clear hwz;refine(keep_any J _ _ (HV.out.below hbz) HS.out HCS.out).mono ?_
     rintro e w1 ⟨p,rfl,hK,_,hb1⟩;obtain⟨b,mb,vb2,vc2,nn,rfl,hv2,hb,hmb,hKp,hnn⟩:=hK H0.out
     simp only[Value.agg.injEq,Array.mk.injEq,List.cons.injEq,true_and,and_true]at hv2;obtain⟨rfl,rfl⟩:=hv2
     rw[H0.out];obtain⟨vt,hC,hT,hM,hne⟩:=hKp
     have HC:=hid hC;have HT:=hid hT;have k1:=hC.cell 1 rfl;have k2:=hC.cell 2 rfl;have k3:=hC.cell 3 rfl;obtain⟨ta,tcap,rfl,_⟩:=hT
     have hb01:=below_tr hbz hb1;have HY1:=hid (HBY.out.below hb1);clear hK hC hM;go_wp2_with fail;refine(kLast_any J.first J.cos.length _ b _ _ _ ca _ HC.out f1 (by omega) (by omega)).mono ?_
     rintro e w2 ⟨rfl,hb2⟩;have HC2:=hid (HC.out.below hb2);have HY2:=hid (HY1.out.below hb2);have hb02:=below_tr hb01 hb2;have HT2:=hid (HT.out.below hb2);clear k1 k2 k3;have k1:=HC2.out.cell 1 rfl;have k2:=HC2.out.cell 2 rfl;have k3:=HC2.out.cell 3 rfl;clear k3;have HVC2:=hid (HVC.out.below hb02);have hb2d:Below w.heap.size w w2.drew:=below_tr hb02 (Below.refl _ _).drew;have HY2d:=hid (HY2.out.below (Below.refl _ _).drew);have hs12:=hb1.size;have hs2:=hb2.size;go_wp2_with fail;go_region
     go_wp2_with fail;refine(ownCommits_any ((J.cos.drop i).take 0) (.slice ca 0 0) _ (liesO_part (HVC2.out.below (Below.refl _ _).drew) hil (Nat.zero_le _) (Nat.zero_le _) (fun _ _ _ h=>absurd h (by decide))) (by rw[HTK.out];omega) HFP.out).mono ?_
     rintro e w3 ⟨u,rfl,hO3,hb3⟩;have HO3:=hid hO3;obtain⟨xa,xcap,rfl⟩:=liesO_shape hO3.lies
     rw[HTK.out]at HO3⊢;have HY3:=hid (HY2d.out.below hb3);have hb03:=below_tr hb2d hb3;clear hO3;have y0:=HY3.out.cell 0 rfl;have y1:=HY3.out.cell 1 rfl;have y2:=HY3.out.cell 2 rfl;have y3:=HY3.out.cell 3 rfl;have y4:=HY3.out.cell 4 rfl;have g0:=HY3.out.fr 0;have g1:=HY3.out.fr 1;have g2:=HY3.out.fr 2;have g3:=HY3.out.fr 3;have g4:=HY3.out.fr 4;go_wp2_with fail;refine bodyPost_ret (v:= .tuple #[.agg #[.bool false,.slice none 0 0,.slice xa 0 xcap,.int .i64 c,.bool false],.int .i64 0]) (by simp[results,Tryz.results8,go_sem,y0,y1,y2,y3,y4]) rfl ⟨_,by rw[HE.out],?_,?_⟩
     · rw[HR.out,HBE.out,HFK.out,HLD.out,hlz]
       refine⟨.slice none 0 0,.slice xa 0 xcap,by simp,lies_nil _,own_nil _ _,?_⟩
       exact(((((HO3.out.nbo (nb_set _ _ _ _) (by simp;omega)).nbo (nb_set _ _ _ _) (by simp;omega)).nbo (nb_set _ _ _ _) (by simp;omega)).nbo (nb_set _ _ _ _) (by simp;omega)).nbo (nb_set _ _ _ _) (by simp;omega)).mono (by simp;omega)
     · exact(((((hb03.setCell (p:=⟨w.heap.size+1,0,none⟩) (Nat.le_succ _) _).setCell (p:=⟨w.heap.size+1,1,none⟩) (Nat.le_succ _) _).setCell (p:=⟨w.heap.size+1,2,none⟩) (Nat.le_succ _) _).setCell (p:=⟨w.heap.size+1,3,none⟩) (Nat.le_succ _) _).setCell (p:=⟨w.heap.size+1,4,none⟩) (Nat.le_succ _) _)
   · skip
     go_enter Tryz.func8,Tryz.ntmps8
     go_wp2_with fail;rw[←hwz];clear hwz;refine(keep_any J _ _ (HV.out.below hbz) HS.out HCS.out).mono ?_
     rintro e w1 ⟨p,rfl,hK,_,hb1⟩;obtain⟨b,mb,vb2,vc2,nn,rfl,hv2,hb,hmb,hKp,hnn⟩:=hK H0.out
     simp only[Value.agg.injEq,Array.mk.injEq,List.cons.injEq,true_and,and_true]at hv2;obtain⟨rfl,rfl⟩:=hv2
     rw[H0.out];obtain⟨vt,hC,hT,hM,hne⟩:=hKp
     have HC:=hid hC;have HT:=hid hT;have k1:=hC.cell 1 rfl;have k2:=hC.cell 2 rfl;have k3:=hC.cell 3 rfl;obtain⟨ta,tcap,rfl,_⟩:=hT
     have hb01:=below_tr hbz hb1;have HY1:=hid (HBY.out.below hb1);clear hK hC hM;go_wp2_with fail;refine(kLast_any J.first J.cos.length _ b _ _ _ ca _ HC.out f1 (by omega) (by omega)).mono ?_
     rintro e w2 ⟨rfl,hb2⟩;have HC2:=hid (HC.out.below hb2);have HY2:=hid (HY1.out.below hb2);have hb02:=below_tr hb01 hb2;have HT2:=hid (HT.out.below hb2);clear k1 k2 k3;have k1:=HC2.out.cell 1 rfl;have k2:=HC2.out.cell 2 rfl;have k3:=HC2.out.cell 3 rfl;clear k3;have HVC2:=hid (HVC.out.below hb02);have hb2d:Below w.heap.size w w2.drew:=below_tr hb02 (Below.refl _ _).drew;have HY2d:=hid (HY2.out.below (Below.refl _ _).drew);have hs12:=hb1.size;have hs2:=hb2.size;go_wp2_with fail;go_region
     go_wp2_with fail;refine(ownCommits_any ((J.cos.drop i).take kk) _ _ (liesO_part (HVC2.out.below (Below.refl _ _).drew) hil (by rw[HLD.out];exact hkl) (by omega) ?adr) (by rw[HTK.out];omega) HFP.out).mono ?_
     case adr=>
      intro b' o' hab hk0;subst hab;simp[Addr.add]
     rintro e w3 ⟨u,rfl,hO3,hb3⟩;have HO3:=hid hO3;obtain⟨xa,xcap,rfl⟩:=liesO_shape hO3.lies
     rw[HTK.out]at HO3⊢;have HY3:=hid (HY2d.out.below hb3);have hb03:=below_tr hb2d hb3;clear hO3;have y0:=HY3.out.cell 0 rfl;have y1:=HY3.out.cell 1 rfl;have y2:=HY3.out.cell 2 rfl;have y3:=HY3.out.cell 3 rfl;have y4:=HY3.out.cell 4 rfl;have g0:=HY3.out.fr 0;have g1:=HY3.out.fr 1;have g2:=HY3.out.fr 2;have g3:=HY3.out.fr 3;have g4:=HY3.out.fr 4;go_wp2_with fail;refine bodyPost_ret (v:= .tuple #[.agg #[.bool false,.slice none 0 0,.slice xa kk xcap,.int .i64 (c+kk),.bool (decide ((kk:Int)<((J.cos.length-i:Nat):Int)))],.int .i64 0]) (by simp[results,Tryz.results8,go_sem,y0,y1,y2,y3,y4]) rfl ⟨_,by rw[HE.out],?_,?_⟩
     · rw[HR.out,HBE.out,HFK.out,HLD.out]
       refine⟨.slice none 0 0,.slice xa kk xcap,by simp,lies_nil _,own_nil _ _,?_⟩
       exact(((((HO3.out.nbo (nb_set _ _ _ _) (by simp;omega)).nbo (nb_set _ _ _ _) (by simp;omega)).nbo (nb_set _ _ _ _) (by simp;omega)).nbo (nb_set _ _ _ _) (by simp;omega)).nbo (nb_set _ _ _ _) (by simp;omega)).mono (by simp;omega)
     · exact(((((hb03.setCell (p:=⟨w.heap.size+1,0,none⟩) (Nat.le_succ _) _).setCell (p:=⟨w.heap.size+1,1,none⟩) (Nat.le_succ _) _).setCell (p:=⟨w.heap.size+1,2,none⟩) (Nat.le_succ _) _).setCell (p:=⟨w.heap.size+1,3,none⟩) (Nat.le_succ _) _).setCell (p:=⟨w.heap.size+1,4,none⟩) (Nat.le_succ _) _)
 · have hE:=Jn.rd_chk (c:=c) (m:=m) h0
   have HE:=hid hE;have HR:=hid (Jn.rd_bad hE h0);have hz:(Jn.chkE J==0)=false:=by simpa using h0
   clear hE;go_enter Tryz.func8,Tryz.ntmps8
   go_wp2_with fail;rw[←hwz];clear hwz;refine(keep_any J _ _ (HV.out.below hbz) HS.out HCS.out).mono ?_
   rintro e w1 ⟨p,rfl,_,_,hb1⟩;have HY1:=hid (HBY.out.below hb1);have hb01:=below_tr hbz hb1;have y0:=HY1.out.cell 0 rfl;have y1:=HY1.out.cell 1 rfl;have y2:=HY1.out.cell 2 rfl;have y3:=HY1.out.cell 3 rfl;have y4:=HY1.out.cell 4 rfl;have g0:=HY1.out.fr 0;have g1:=HY1.out.fr 1;have g2:=HY1.out.fr 2;have g3:=HY1.out.fr 3;have g4:=HY1.out.fr 4;go_wp2_with fail;refine bodyPost_ret (v:= .tuple #[.agg #[.bool false,.slice none 0 0,.slice none 0 0,.int .i64 0,.bool false],.int .i64 (Jn.chkE J)]) (by simp[results,Tryz.results8,go_sem,y0,y1,y2,y3,y4]) rfl ⟨_,by rw[HE.out],?_,?_⟩
   · rw[HR.out]
     exact ownP_zero _ _
   · exact(((((hb01.setCell (p:=⟨w.heap.size+1,0,none⟩) (Nat.le_succ _) _).setCell (p:=⟨w.heap.size+1,1,none⟩) (Nat.le_succ _) _).setCell (p:=⟨w.heap.size+1,2,none⟩) (Nat.le_succ _) _).setCell (p:=⟨w.heap.size+1,3,none⟩) (Nat.le_succ _) _).setCell (p:=⟨w.heap.size+1,4,none⟩) (Nat.le_succ _) _)
namespace Jn
def kB:ByteArray:=⟨#[107]⟩
def lB:List Pp.Ch:=[⟨2,⟨#[97]⟩,⟨#[]⟩,⟨#[120]⟩,0⟩]
def J0:Jo:=⟨[],1,[]⟩
def J1:Jo:=⟨[],1,[⟨1,kB,lB⟩]⟩
set_option maxRecDepth 100000 in
theorem chk0:chkE J0=0:=by decide
set_option maxRecDepth 100000 in
theorem key0:Pp.keyB kB.data.toList=true:=by decide
set_option maxRecDepth 100000 in
theorem new0:newE J0 lB=0:=by decide
theorem com0:comE J0 kB lB=0∧comN J0 kB lB=1∧comR J0 kB lB=J1:=by
 obtain⟨h1,h2,h3⟩:=com_add (l:=lB) chk0 key0 (rfl:hasB J0.cos kB.data.toList=false) new0
 exact⟨h1,h2,h3⟩
set_option maxRecDepth 100000 in
theorem chk1:chkE J1=0:=by decide
theorem rd1:rdE J1 0 5=0∧rdR J1 0 5=⟨false,[],[⟨1,kB,lB⟩],1,false⟩:=by
 have h:=rd_ok (c:=0) (m:=5) chk1 (by decide) (by decide);exact⟨h,by rw[rd_page h (by decide)];rfl⟩
end Jn

set_option maxRecDepth 100000 in
set_option maxHeartbeats 2000000 in
theorem journalBegun_yes (w:World):Calls Tryz.prog 4 #[] w fun e w'=>e= .returned (.bool true)∧Below w.heap.size w w':=by
 obtain⟨wz,hwz⟩: ∃wz,wz=w.alloc (.cells #[.int .i64 2,.string ⟨#[97]⟩,.string ⟨#[]⟩,.string ⟨#[120]⟩,.int .i64 0] 53):=⟨_,rfl⟩
 have hbz:Below w.heap.size w wz:=by rw[hwz];exact(Below.refl _ _).alloc (Nat.le_refl _) _
 have HL:=hid (show LiesC wz (.slice (some ⟨w.heap.size,0,none⟩) 1 1) Jn.lB from⟨some ⟨w.heap.size,0,none⟩,1,rfl,Nat.le_refl _,by decide,fun i hi=>⟨w.heap.size,0,rfl,by rw[hwz];simp,by
  have h0:i=0:=by simp[Jn.lB]at hi;exact hi
  subst h0;have hC:Cs wz w.heap.size [.int .i64 2,.string ⟨#[97]⟩,.string ⟨#[]⟩,.string ⟨#[120]⟩,.int .i64 0]:=by rw[hwz];exact Cs.new w [.int .i64 2,.string ⟨#[97]⟩,.string ⟨#[]⟩,.string ⟨#[120]⟩,.int .i64 0] _
  exact⟨hC.cell 0 rfl,hC.cell 1 rfl,hC.cell 2 rfl,hC.cell 3 rfl,hC.cell 4 rfl⟩⟩⟩)
 have HJ0:=hid (show LiesJ wz (.agg #[.slice none 0 0,.int .i64 1,.slice none 0 0]) Jn.J0 from⟨_,_,rfl,lies_nil _,liesO_nil _⟩);have HSL:=hid (show SizedC 150000000000000 Jn.lB from fun c hc=>by simp only[Jn.lB,List.mem_singleton]at hc;subst hc;decide);have HS0:Hid (Sized ([]:List En)):=(fun e he=>by cases he)
 have HSO:=hid (show SizedO 150000000000000 Jn.J1.cos from fun c hc=>by simp only[Jn.J1,List.mem_singleton]at hc;subst hc;exact⟨by decide,HSL.out⟩);go_enter Tryz.func4,Tryz.ntmps4
 go_wp2_with fail;rw[←hwz];clear hwz;refine(jcommit_any Jn.J0 _ Jn.kB Jn.lB _ _ HJ0.out HL.out HS0.out (fun c hc=>by cases hc) HSL.out (by decide)).mono ?_
 rintro e w1 ⟨r,rfl,hJ1,hb1⟩;rw[Jn.com0.1,Jn.com0.2.1];rw[Jn.com0.2.2]at hJ1;have HJ1:=hid hJ1.lies;obtain⟨vb,vc,rfl,hvb,_,hvc⟩:=hJ1
 obtain⟨ba,bcap,rfl,_⟩:=hvb
 obtain⟨ca,ccap,rfl⟩:=liesO_shape hvc.lies
 clear hvc;have hb01:=below_tr hbz hb1;have hb2:Below w1.heap.size w1 (w1.alloc (.cells #[.slice ba Jn.J1.base.length bcap,.int .i64 Jn.J1.first,.slice ca Jn.J1.cos.length ccap] 25)):=(Below.refl _ _).alloc (Nat.le_refl _) _;have HJ2:=hid (HJ1.out.below hb2);have hb02:=below_tr hb01 hb2;go_wp2_with fail;refine(jread_any Jn.J1 _ 0 5 _ HJ2.out HS0.out HSO.out).mono ?_
 rintro e w3 ⟨r,rfl,hP,hb3⟩;rw[Jn.rd1.1];rw[Jn.rd1.2]at hP;obtain⟨vt,vc,rfl,hvt,_,hvc⟩:=hP
 obtain⟨ta,tcap,rfl,_⟩:=hvt
 obtain⟨pa,pcap,rfl⟩:=liesO_shape hvc.lies
 clear hvc;have hb03:=below_tr hb02 hb3;simp only[List.length_cons,List.length_nil,Nat.zero_add];go_wp2_with fail;go_ret;exact⟨rfl,hb03.alloc hb03.size _⟩
end Go.Proofs.YtdifomkoegmngaaGreatDoor
namespace Go.Proofs.YtdifomkoegmngaaGreatDoor
open Go.RowKit

set_option maxHeartbeats 1000000 in
theorem same_yes (L:List En) (v u:Value) (w:World) (hv:Lies w v L) (hu:Lies w u L):
    Calls Tryz.prog 18 #[v,u] w fun e w'=>e= .returned (.bool true)∧Below w.heap.size w w':=by
 obtain⟨a,cap,rfl,hcap,hcap2,hL⟩:=hv
 have HL:Hid (∀i (h:i<L.length),∃b o,a=some ⟨b,o,none⟩∧b<w.heap.size∧EnAt w b (o+i*4) L[i]):=hL;obtain⟨a',cap',rfl,hcap',_,hL'⟩:=hu
 have HL':Hid (∀i (h:i<L.length),∃b o,a'=some ⟨b,o,none⟩∧b<w.heap.size∧EnAt w b (o+i*4) L[i]):=hL';clear hL hL';go_enter Tryz.func18,Tryz.ntmps18
 go_wp2_with fail;go_loopw [5] (fun i wr=> ∃k:Nat,k≤L.length∧i= .int .i64 k∧Below w.heap.size w wr) (fun i _=>L.length-(intOf i).toNat)
 case atStart=>exact⟨0,Nat.zero_le _,rfl,Below.refl _ _⟩
 case round=>
  obtain⟨k,hk,rfl,hbel⟩:=hrel
  by_cases hlt:k<L.length
  · obtain⟨b,o,rfl,hb,he⟩:=HL.out k hlt
    obtain⟨b',o',rfl,hb',he'⟩:=HL'.out k hlt
    obtain⟨c0,c1,c2,c3⟩:=he.below hb hbel
    obtain⟨d0,d1,d2,d3⟩:=he'.below hb' hbel
    go_wp2_with fail;go_region
    go_wp2_with fail;go_roundw
    case rel=>exact⟨k+1,by omega,by simp,hbel.drew⟩
    case measure=>simp[intOf];omega
  · go_wp2_with fail
    go_ret;exact⟨rfl,hbel⟩
--@if tetherpost/tetherpostlaw.treeIs
set_option maxRecDepth 100000 in
set_option maxHeartbeats 1000000 in
theorem checkJournal_any (J:Jo) (v:Value) (w:World) (hv:LiesJ w v J) (hp: ∀e∈J.base,e.path.size≤1000000000) (hcs:SizedO 1000000000 J.cos):
    Calls Tryz.prog 6 #[v] w fun e w'=>e= .returned (.int .i64 (Jn.chkE J))∧Below w.heap.size w w':=by
 have HV:=hid hv;have HP:=hid hp;have HCS:=hid hcs;obtain⟨vb,vc,rfl,hvb,hvc⟩:=hv
 obtain⟨ba,bcap,rfl,_⟩:=hvb
 obtain⟨ca,ccap,rfl,_⟩:=hvc
 clear hp hcs;have hbw:Below w.heap.size w (w.alloc (.cells #[.slice ba J.base.length bcap,.int .i64 J.first,.slice ca J.cos.length ccap] 25)):=(Below.refl _ _).alloc (Nat.le_refl _) _;go_enter Tryz.func6,Tryz.ntmps6
 go_wp2_with fail;refine(openJournal_any J _ _ (HV.out.below hbw) HP.out HCS.out).mono ?_
 rintro e w1 ⟨p,rfl,_,hb1⟩;have hb01:=below_tr hbw hb1;go_wp2_with fail;go_ret;exact⟨rfl,hb01⟩
set_option maxRecDepth 100000 in
set_option maxHeartbeats 1000000 in
theorem treeOf_any (J:Jo) (v:Value) (w:World) (hv:LiesJ w v J) (hp: ∀e∈J.base,e.path.size≤1000000000) (hcs:SizedO 1000000000 J.cos) (h0:Jn.chkE J=0):
    Calls Tryz.prog 19 #[v] w fun e w'=> ∃r,e= .returned r∧Lies w' r (Jn.tree J)∧Below w.heap.size w w':=by
 have HV:=hid hv;have HP:=hid hp;have HCS:=hid hcs;have H0:=hid h0;have HTT:=hid (Jn.tree_trAt h0);obtain⟨vb,vc,rfl,hvb,hvc⟩:=hv
 obtain⟨ba,bcap,rfl,_⟩:=hvb
 obtain⟨ca,ccap,rfl,_⟩:=hvc
 clear hp hcs h0;have hbw:Below w.heap.size w (w.alloc (.cells #[.slice ba J.base.length bcap,.int .i64 J.first,.slice ca J.cos.length ccap] 25)):=(Below.refl _ _).alloc (Nat.le_refl _) _;go_enter Tryz.func19,Tryz.ntmps19
 go_wp2_with fail;refine(openJournal_any J _ _ (HV.out.below hbw) HP.out HCS.out).mono ?_
 rintro e w1 ⟨p,rfl,hT,hb1⟩;obtain⟨a,cap,rfl,hc1,hc2,hat⟩:=hT H0.out
 obtain⟨b,o,u,rfl,hb,hcell,hli⟩:=hat J.cos.length (by omega)
 rw[←HTT.out]at hli;have HLI:=hid hli;obtain⟨ua,ucap,rfl,_⟩:=hli
 have hb01:=below_tr hbw hb1;have e1:IntKind.i64.wrap (((J.cos.length+1:Nat):Int)-1)=(J.cos.length:Int):=by rw[IntKind.wrap_i64];omega
 have e2:(J.cos.length:Int)<((J.cos.length+1:Nat):Int):=by omega
 clear hT hat;go_wp2_with fail;go_ret;exact⟨_,rfl,HLI.out,hb01⟩
set_option maxHeartbeats 1000000 in
theorem sameC_yes (L:List Pp.Ch) (v u:Value) (w:World) (hv:LiesC w v L) (hu:LiesC w u L):
    Calls Tryz.prog 12 #[v,u] w fun e w'=>e= .returned (.bool true)∧Below w.heap.size w w':=by
 obtain⟨a,cap,rfl,hcap,hcap2,hL⟩:=hv
 have HL:Hid (∀i (h:i<L.length),∃b o,a=some ⟨b,o,none⟩∧b<w.heap.size∧ChAt w b (o+i*5) L[i]):=hL;obtain⟨a',cap',rfl,hcap',_,hL'⟩:=hu
 have HL':Hid (∀i (h:i<L.length),∃b o,a'=some ⟨b,o,none⟩∧b<w.heap.size∧ChAt w b (o+i*5) L[i]):=hL';clear hL hL';go_enter Tryz.func12,Tryz.ntmps12
 go_wp2_with fail;go_loopw [5] (fun i wr=> ∃k:Nat,k≤L.length∧i= .int .i64 k∧Below w.heap.size w wr) (fun i _=>L.length-(intOf i).toNat)
 case atStart=>exact⟨0,Nat.zero_le _,rfl,Below.refl _ _⟩
 case round=>
  obtain⟨k,hk,rfl,hbel⟩:=hrel
  by_cases hlt:k<L.length
  · obtain⟨b,o,rfl,hb,he⟩:=HL.out k hlt
    obtain⟨b',o',rfl,hb',he'⟩:=HL'.out k hlt
    obtain⟨c0,c1,c2,c3,c4⟩:=he.below hb hbel
    obtain⟨d0,d1,d2,d3,d4⟩:=he'.below hb' hbel
    go_wp2_with fail;go_region
    go_wp2_with fail;go_roundw
    case rel=>exact⟨k+1,by omega,by simp,hbel.drew⟩
    case measure=>simp[intOf];omega
  · go_wp2_with fail
    go_ret;exact⟨rfl,hbel⟩
set_option maxRecDepth 100000 in
set_option maxHeartbeats 4000000 in
theorem sameO_yes (L:List Co) (v u:Value) (w:World) (hv:LiesO w v L) (hu:LiesO w u L):
    Calls Tryz.prog 43 #[v,u] w fun e w'=>e= .returned (.bool true)∧Below w.heap.size w w':=by
 obtain⟨a,cap,rfl,hcap,hcap2,hL⟩:=hv
 have HL:Hid (∀i (h:i<L.length),∃b o,a=some ⟨b,o,none⟩∧b<w.heap.size∧CoAt w b (o+i*3) L[i]):=hL;obtain⟨a',cap',rfl,hcap',_,hL'⟩:=hu
 have HL':Hid (∀i (h:i<L.length),∃b o,a'=some ⟨b,o,none⟩∧b<w.heap.size∧CoAt w b (o+i*3) L[i]):=hL';clear hL hL';go_enter Tryz.func43,Tryz.ntmps43
 go_wp2_with fail;go_loopw [5] (fun i wr=> ∃k:Nat,k≤L.length∧i= .int .i64 k∧Below w.heap.size w wr) (fun i _=>L.length-(intOf i).toNat)
 case atStart=>exact⟨0,Nat.zero_le _,rfl,Below.refl _ _⟩
 case round=>
  obtain⟨k,hk,rfl,hbel⟩:=hrel
  by_cases hlt:k<L.length
  · obtain⟨b,o,rfl,hb,he⟩:=HL.out k hlt
    obtain⟨b',o',rfl,hb',he'⟩:=HL'.out k hlt
    obtain⟨c0,c1,x,c2,hx⟩:=he.below hb hbel
    obtain⟨d0,d1,y,d2,hy⟩:=he'.below hb' hbel
    have hsz:=hbel.size;have hbl:b<wr.heap.size:=by omega
    have hbl':b'<wr.heap.size:=by omega
    generalize L[k]=ck at*;obtain⟨nu,ke,ch⟩:=ck
    simp only at c0 c1 hx d0 d1 hy;have HX:=hid hx;have HY:=hid hy;clear hx hy he he';go_wp2_with fail
    go_region_held3 (fun W=>W.cell? ⟨b,o+k*3,none⟩=some (.int .i64 nu)∧W.cell? ⟨b,o+k*3+1,none⟩=some (.string ke)∧W.cell? ⟨b,o+k*3+2,none⟩=some x∧W.cell? ⟨b',o'+k*3,none⟩=some (.int .i64 nu)∧W.cell? ⟨b',o'+k*3+1,none⟩=some (.string ke)∧W.cell? ⟨b',o'+k*3+2,none⟩=some y) (go_keep) (first
     |(go_at_call 12;refine(sameC_yes ch x y _ (HX.out.below (Below.refl _ _).drew) (HY.out.below (Below.refl _ _).drew)).mono ?_;rintro e wa ⟨rfl,hba⟩;have hza:Below wr.heap.size wr wa:=((Below.refl _ _).drew).trans hba;have j0:=(hza.cell (p:=⟨b,o+k*3,none⟩) hbl).trans c0;have j1:=(hza.cell (p:=⟨b,o+k*3+1,none⟩) hbl).trans c1;have j2:=(hza.cell (p:=⟨b,o+k*3+2,none⟩) hbl).trans c2;have i0:=(hza.cell (p:=⟨b',o'+k*3,none⟩) hbl').trans d0;have i1:=(hza.cell (p:=⟨b',o'+k*3+1,none⟩) hbl').trans d1;have i2:=(hza.cell (p:=⟨b',o'+k*3+2,none⟩) hbl').trans d2))
    have hb2:=below_tr hbel hza;go_wp2_with fail;go_roundw
    case rel=>exact⟨k+1,by omega,by simp,hb2⟩
    case measure=>simp[intOf];omega
  · go_wp2_with fail
    go_ret;exact⟨rfl,hbel⟩
set_option maxRecDepth 100000 in
set_option maxHeartbeats 2000000 in
theorem sameJ_yes (J:Jo) (v u:Value) (w:World) (hv:LiesJ w v J) (hu:LiesJ w u J):
    Calls Tryz.prog 16 #[v,u] w fun e w'=>e= .returned (.bool true)∧Below w.heap.size w w':=by
 obtain⟨vb,vc,rfl,hvb,hvc⟩:=hv
 obtain⟨ub,uc,rfl,hub,huc⟩:=hu
 have HVB:=hid hvb;have HVC:=hid hvc;have HUB:=hid hub;have HUC:=hid huc;obtain⟨a1,b1,rfl,_⟩:=hvb
 obtain⟨a2,b2,rfl,_⟩:=hvc
 obtain⟨a3,b3,rfl,_⟩:=hub
 obtain⟨a4,b4,rfl,_⟩:=huc
 obtain⟨wz,hwz⟩: ∃wz,wz=(w.alloc (.cells #[.slice a1 J.base.length b1,.int .i64 J.first,.slice a2 J.cos.length b2] 25)).alloc (.cells #[.slice a3 J.base.length b3,.int .i64 J.first,.slice a4 J.cos.length b4] 25):=⟨_,rfl⟩
 have hbz:Below w.heap.size w wz:=by rw[hwz];exact((Below.refl _ _).alloc (Nat.le_refl _) _).alloc (by simp) _
 have HBX:=hid (show Cs wz w.heap.size [.slice a1 J.base.length b1,.int .i64 J.first,.slice a2 J.cos.length b2]from by rw[hwz];exact(Cs.new w [.slice a1 J.base.length b1,.int .i64 J.first,.slice a2 J.cos.length b2] _).below ((Below.refl _ _).alloc (Nat.le_refl _) _))
 have HBY:=hid (show Cs wz (w.heap.size+1) [.slice a3 J.base.length b3,.int .i64 J.first,.slice a4 J.cos.length b4]from by
  have:=Cs.new (w.alloc (.cells #[.slice a1 J.base.length b1,.int .i64 J.first,.slice a2 J.cos.length b2] 25)) [.slice a3 J.base.length b3,.int .i64 J.first,.slice a4 J.cos.length b4] 25
  rw[hwz];simpa using this)
 go_enter Tryz.func16,Tryz.ntmps16
 go_wp2_with fail;rw[←hwz];clear hwz;refine(same_yes J.base _ _ _ (HVB.out.below hbz) (HUB.out.below hbz)).mono ?_
 rintro e w1 ⟨rfl,hb1⟩;have x1:=(HBX.out.below hb1).cell 1 rfl;have x2:=(HBX.out.below hb1).cell 2 rfl;have y1:=(HBY.out.below hb1).cell 1 rfl;have y2:=(HBY.out.below hb1).cell 2 rfl;have hb01:=below_tr hbz hb1;go_wp2_with fail;refine(sameO_yes J.cos _ _ _ (HVC.out.below hb01) (HUC.out.below hb01)).mono ?_
 rintro e w2 ⟨rfl,hb2⟩;have hb02:=below_tr hb01 hb2;go_wp2_with fail;go_ret;exact⟨rfl,hb02⟩
set_option maxRecDepth 100000 in
set_option maxHeartbeats 2000000 in
theorem samePg_yes (P:Pg) (v u:Value) (w:World) (hv:LiesPg w v P) (hu:LiesPg w u P):
    Calls Tryz.prog 17 #[v,u] w fun e w'=>e= .returned (.bool true)∧Below w.heap.size w w':=by
 obtain⟨vb,vc,rfl,hvb,hvc⟩:=hv
 obtain⟨ub,uc,rfl,hub,huc⟩:=hu
 have HVB:=hid hvb;have HVC:=hid hvc;have HUB:=hid hub;have HUC:=hid huc;obtain⟨a1,b1,rfl,_⟩:=hvb
 obtain⟨a2,b2,rfl,_⟩:=hvc
 obtain⟨a3,b3,rfl,_⟩:=hub
 obtain⟨a4,b4,rfl,_⟩:=huc
 obtain⟨wz,hwz⟩: ∃wz,wz=(w.alloc (.cells #[.bool P.reset,.slice a1 P.tree.length b1,.slice a2 P.cos.length b2,.int .i64 P.cur,.bool P.more] 33)).alloc (.cells #[.bool P.reset,.slice a3 P.tree.length b3,.slice a4 P.cos.length b4,.int .i64 P.cur,.bool P.more] 33):=⟨_,rfl⟩
 have hbz:Below w.heap.size w wz:=by rw[hwz];exact((Below.refl _ _).alloc (Nat.le_refl _) _).alloc (by simp) _
 have HBX:=hid (show Cs wz w.heap.size [.bool P.reset,.slice a1 P.tree.length b1,.slice a2 P.cos.length b2,.int .i64 P.cur,.bool P.more]from by rw[hwz];exact(Cs.new w [.bool P.reset,.slice a1 P.tree.length b1,.slice a2 P.cos.length b2,.int .i64 P.cur,.bool P.more] _).below ((Below.refl _ _).alloc (Nat.le_refl _) _))
 have HBY:=hid (show Cs wz (w.heap.size+1) [.bool P.reset,.slice a3 P.tree.length b3,.slice a4 P.cos.length b4,.int .i64 P.cur,.bool P.more]from by
  have:=Cs.new (w.alloc (.cells #[.bool P.reset,.slice a1 P.tree.length b1,.slice a2 P.cos.length b2,.int .i64 P.cur,.bool P.more] 33)) [.bool P.reset,.slice a3 P.tree.length b3,.slice a4 P.cos.length b4,.int .i64 P.cur,.bool P.more] 33
  rw[hwz];simpa using this)
 go_enter Tryz.func17,Tryz.ntmps17
 go_wp2_with fail;rw[←hwz];clear hwz;refine(same_yes P.tree _ _ _ (HVB.out.below hbz) (HUB.out.below hbz)).mono ?_
 rintro e w1 ⟨rfl,hb1⟩;have HX1:=hid (HBX.out.below hb1);have HY1:=hid (HBY.out.below hb1);have x2:=HX1.out.cell 2 rfl;have y2:=HY1.out.cell 2 rfl;have hb01:=below_tr hbz hb1;go_wp2_with fail;refine(sameO_yes P.cos _ _ _ (HVC.out.below hb01) (HUC.out.below hb01)).mono ?_
 rintro e w2 ⟨rfl,hb2⟩;have x3:=(HX1.out.below hb2).cell 3 rfl;have y3:=(HY1.out.below hb2).cell 3 rfl;have x4:=(HX1.out.below hb2).cell 4 rfl;have y4:=(HY1.out.below hb2).cell 4 rfl;have hb02:=below_tr hb01 hb2;go_wp2_with fail;go_ret;exact⟨rfl,hb02⟩
namespace Jn
def curE (c:Int):Int:=if c<0∨1000000<c then 3 else 0
def knE (T:List En) (c:Int):Int:=if¬Pp.treeE T=0 then Pp.treeE T else curE c
def rstE (P:Pg):Int:=if¬knE P.tree P.cur=0 then knE P.tree P.cur else if 0<P.cos.length∨P.more=true then 1 else 0
end Jn
end Go.Proofs.YtdifomkoegmngaaGreatDoor
namespace Go.Proofs.YtdifomkoegmngaaGreatDoor
open Go.RowKit

theorem LiesPg.nb {W W':World} {v:Value} {P:Pg} {g:Nat} (h:LiesPg W v P) (hw:W.grownBy W' (some g)) (hn:NoStr W g):LiesPg W' v P:=by
 obtain⟨vt,vc,rfl,h1,h2⟩:=h
 exact⟨vt,vc,rfl,h1.nb hw hn,h2.nb hw hn⟩
/-- A page's box that is written cell by cell. -/
theorem page_set {W:World} {g:Nat} {v:Value} {P:Pg} {r m r0 m0:Bool} {x1 x2 z1 z2:Option Addr} {n1 n2 y1 y2 p1 p2 q1 q2:Nat} {c k0:Int} (h:Cs W g [.bool r0,.slice z1 p1 q1,.slice z2 p2 q2,.int .i64 k0,.bool m0]) (hp:LiesPg W v P):
    Cs (((((W.setCell ⟨g,0,none⟩ (.bool r)).setCell ⟨g,1,none⟩ (.slice x1 n1 y1)).setCell ⟨g,2,none⟩ (.slice x2 n2 y2)).setCell ⟨g,3,none⟩ (.int .i64 c)).setCell ⟨g,4,none⟩ (.bool m)) g [.bool r,.slice x1 n1 y1,.slice x2 n2 y2,.int .i64 c,.bool m]∧
    LiesPg (((((W.setCell ⟨g,0,none⟩ (.bool r)).setCell ⟨g,1,none⟩ (.slice x1 n1 y1)).setCell ⟨g,2,none⟩ (.slice x2 n2 y2)).setCell ⟨g,3,none⟩ (.int .i64 c)).setCell ⟨g,4,none⟩ (.bool m)) v P:=by
 have h1:=h.set 0 (.bool r);have h2:=h1.set 1 (.slice x1 n1 y1);have h3:=h2.set 2 (.slice x2 n2 y2);have h4:=h3.set 3 (.int .i64 c);have h5:=h4.set 4 (.bool m);exact⟨h5,((((hp.nb (nb_set _ _ _ _) (h.noStr (by intro s hs;simp at hs))).nb (nb_set _ _ _ _) (h1.noStr (by intro s hs;simp at hs))).nb (nb_set _ _ _ _) (h2.noStr (by intro s hs;simp at hs))).nb (nb_set _ _ _ _) (h3.noStr (by intro s hs;simp at hs))).nb (nb_set _ _ _ _) (h4.noStr (by intro s hs;simp at hs))⟩
namespace Jn
theorem run_nums: ∀{n:Int} {T:List En} {l:List Co},(runJ n T l).1=0→ ∀(i:Nat) (h:i<l.length),l[i].nu=n+i
 |n,T,[],_,i,h=>absurd h (by simp)
 |n,T,c::r,h,i,hi=>by
  rw[runJ]at h;by_cases h0:coE c n=0
  · rw[if_neg (fun x=>x h0)]at h
    by_cases h1:Pp.allE T c.ch c.nu=0
    · rw[if_neg (fun x=>x h1)]at h
      cases i with
      |zero=>
       rw[coE]at h0;by_cases a:c.nu=n
       · simp[a]
       · rw[if_pos a]at h0;cases h0
      |succ j=>
       have:=run_nums h j (by simpa using hi)
       simp only[List.getElem_cons_succ];omega
    · rw[if_pos h1]at h;exact absurd h h1
  · rw[if_pos h0]at h;exact absurd h h0
theorem chk_nums {J:Jo} (h:chkE J=0) (i:Nat) (hi:i<J.cos.length):J.cos[i].nu=J.first+i:=by
 obtain⟨_,_,_,h4,_⟩:=chk_parts h
 exact run_nums (n:=J.first) (T:=J.base) (by rw[h4]) i hi
end Jn
end Go.Proofs.YtdifomkoegmngaaGreatDoor
