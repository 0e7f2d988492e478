/- What journal.Check, Tree and Commit answer, for every journal. -/
import Derived.Test.YtppdfeehhnofaaaGreatDoorHAJ
import Derived.Test.YtppdfeehhnofaaaGreatDoorHAC
import Derived.Lib.SmallJoins
import Derived.Test.YtppdfeehhnofaaaGreatDoorHAD
import Derived.Test.YtppdfeehhnofaaaGreatDoorHAA
import Derived.Test.YtppdfeehhnofaaaGreatDoorProg
import Derived.WalkKit
import Derived.WalkSpells
import Derived.WalkLawsBesides
import Derived.Handy
set_option linter.unusedSimpArgs false
set_option linter.unusedVariables false
namespace Go.Proofs.YtppdfeehhnofaaaGreatDoor
open Go.RowKit Go.Maps Go.WideMaps

set_option maxRecDepth 100000 in
set_option maxHeartbeats 1000000 in
theorem jcheck_any (J:Jo) (v:Value) (w:World) (hv:LiesJ w v J) (hs:Sized J.base) (hcs:SizedO 150000000000000 J.cos):
    Calls Tryz.prog 78 #[v] w fun e w'=>e= .returned (.int .i64 (Jn.chkE J))∧Below w.heap.size w w':=by
 have HV:=hid hv;have HS:=hid hs;have HCS:=hid hcs;obtain⟨vb,vc,rfl,hvb,hvc⟩:=hv
 obtain⟨ba,bcap,rfl,_⟩:=hvb
 obtain⟨ca,ccap,rfl,_⟩:=hvc
 clear hs hcs;have hbw:Below w.heap.size w (w.alloc (.cells #[.slice ba J.base.length bcap,.int .i64 J.first,.slice ca J.cos.length ccap] 88)):=(Below.refl _ _).alloc (Nat.le_refl _) _;go_enter Tryz.func78,Tryz.ntmps78
 go_wp2_with fail;refine(keep_any J _ _ (HV.out.below hbw) HS.out HCS.out).mono ?_
 rintro e w1 ⟨p,rfl,_,_,hb1⟩;have hb01:=below_tr hbw hb1;go_wp2_with fail;go_ret;exact⟨rfl,hb01⟩
set_option maxRecDepth 100000 in
set_option maxHeartbeats 1000000 in
theorem jtree_any (J:Jo) (v:Value) (w:World) (hv:LiesJ w v J) (hs:Sized J.base) (hcs:SizedO 150000000000000 J.cos):
    Calls Tryz.prog 32 #[v] w fun e w'=> ∃r,e= .returned (.tuple #[r,.int .i64 (Jn.chkE J)])∧Lies w' r (Pp.ifz (Jn.chkE J) (Jn.tree J))∧Own w.heap.size w' r∧Below w.heap.size w w':=by
 have HV:=hid hv;have HS:=hid hs;have HCS:=hid hcs;obtain⟨vb,vc,rfl,hvb,hvc⟩:=hv
 obtain⟨ba,bcap,rfl,_⟩:=hvb
 obtain⟨ca,ccap,rfl,_⟩:=hvc
 clear hs hcs;have hbw:Below w.heap.size w (w.alloc (.cells #[.slice ba J.base.length bcap,.int .i64 J.first,.slice ca J.cos.length ccap] 88)):=(Below.refl _ _).alloc (Nat.le_refl _) _;by_cases h0:Jn.chkE J=0
 · have H0:=hid h0
   have HIF:Hid ((Pp.ifz (Jn.chkE J) (Jn.tree J))=Jn.tree J):=Pp.ifz_yes h0 _;have HG:=hid (Jn.tree_good h0);clear h0;go_enter Tryz.func32,Tryz.ntmps32
   go_wp2_with fail;refine(keep_any J _ _ (HV.out.below hbw) HS.out HCS.out).mono ?_
   rintro e w1 ⟨p,rfl,hK,_,hb1⟩;obtain⟨b,mb,vb,vc,nn,rfl,hv2,hb,hmb,⟨vt,hC,hT,hM,hne⟩,hnn⟩:=hK H0.out
   rw[H0.out];have HT:=hid hT;have k3:=hC.cell 3 rfl;obtain⟨ta,tcap,rfl,_⟩:=hT
   have hb01:=below_tr hbw hb1;clear hK hv2 hC hM;go_wp2_with fail;refine(cloneE ((Jn.tree J).map Pp.cells) _ _ (liesR_en.1 HT.out) (by rw[List.length_map];have:=HG.out.len;omega)).mono ?_
   rintro e w2 ⟨u,rfl,hR,hO,hb2⟩;have HL:=hid (liesR_en.2 hR);have HO:=hid (hO.mono hb01.size);have hb02:=below_tr hb01 hb2;clear hR hO;go_wp2_with fail;go_ret2;exact⟨_,by rw[H0.out];rfl,by rw[HIF.out];exact HL.out,HO.out,hb02⟩
 · have HIF:Hid ((Pp.ifz (Jn.chkE J) (Jn.tree J))=[]):=Pp.ifz_no h0 _
   have hz:(Jn.chkE J==0)=false:=by simpa using h0
   go_enter Tryz.func32,Tryz.ntmps32
   go_wp2_with fail;refine(keep_any J _ _ (HV.out.below hbw) HS.out HCS.out).mono ?_
   rintro e w1 ⟨p,rfl,_,_,hb1⟩;have hb01:=below_tr hbw hb1;go_wp2_with fail;go_ret2;exact⟨_,rfl,by rw[HIF.out];exact lies_nil _,own_nil _ _,hb01⟩
theorem Tryz.zeroInt (w:World):(zeroValue 3).run Tryz.prog w= .ok (.int .i64 0) w:=by rw[Tryz.zeroValue3]
theorem ownJ_zero (B:Nat) (w:World):OwnJ B w (.agg #[.slice none 0 0,.int .i64 0,.slice none 0 0]) Jn.zeroJ:=
 ⟨_,_,rfl,lies_nil _,own_nil _ _,[],⟨rfl,fun i c u hc=>by simp[Jn.zeroJ]at hc⟩,⟨none,0,rfl,Nat.le_refl _,by decide,(fun r hr=>by cases hr),fun i h=>absurd h (by simp[rowsO])⟩,own_nil _ _,(fun u hu=>by cases hu)⟩
namespace Jn
theorem add_last {J:Jo} (key:ByteArray) (l:List Pp.Ch):(addJ J key l).first-1+(addJ J key l).cos.length=last J+1:=by
 rw[addJ,cutJ];by_cases h:30<(J.cos++[newC J key l]).length
 · rw[if_pos h]
   cases hc:J.cos with
   |nil=>rw[hc]at h;simp at h
   |cons c r=>simp[last,hc];omega
 · rw[if_neg h]
   simp[last];omega
theorem add_bounds {J:Jo} (h:chkE J=0) (key:ByteArray) (l:List Pp.Ch):1≤(addJ J key l).first∧(addJ J key l).first≤1000001∧(addJ J key l).cos.length≤31:=by
 obtain⟨_,h2,h3,_⟩:=chk_parts h
 obtain⟨f1,f2⟩:=ver_iff.1 h2
 rw[addJ,cutJ];by_cases hm:30<(J.cos++[newC J key l]).length
 · rw[if_pos hm]
   cases hc:J.cos with
   |nil=>rw[hc]at hm;simp at hm
   |cons c r=>rw[hc]at h3;simp at h3⊢;omega
 · rw[if_neg hm]
   simp;omega
theorem add_few {J:Jo} (h:chkE J=0) {l:List Pp.Ch} (key:ByteArray) (hn:newE J l=0): ∀c∈(addJ J key l).cos,c.ch.length≤1000000000:=by
 have hl:l.length≤20:=by
  rw[newE]at hn;split at hn
  · cases hn
  · split at hn
    · cases hn
    · exact all_few hn
 have hall: ∀c∈J.cos++[newC J key l],c.ch.length≤1000000000:=fun c hc=>by
  rcases List.mem_append.1 hc with hc|hc
  · have:=chk_few h c hc;omega
  · rw[List.mem_singleton]at hc
    rw[hc];show l.length≤_;omega
 intro c hc;rw[addJ,cutJ]at hc;by_cases hm:30<(J.cos++[newC J key l]).length
 · rw[if_pos hm]at hc
   cases hj:J.cos with
   |nil=>rw[hj]at hm;simp at hm
   |cons d r=>
    rw[hj]at hc hall;simp only[List.cons_append]at hc;exact hall c (List.mem_cons_of_mem _ hc)
 · rw[if_neg hm]at hc
   exact hall c hc
theorem add_base {J:Jo} (h:chkE J=0) (key:ByteArray) (l:List Pp.Ch):(addJ J key l).base.length≤1000:=by
 have hp:=chk_parts h;have hb:J.base.length≤1000:=by have:=((Pp.good_iff J.base).1 hp.1).len;omega
 rw[addJ,cutJ];by_cases hm:30<(J.cos++[newC J key l]).length
 · rw[if_pos hm]
   cases hj:J.cos with
   |nil=>rw[hj]at hm;simp at hm
   |cons d r=>
    simp only[List.cons_append];have hf:=run_first (n:=J.first) (T:=J.base) (c:=d) (r:=r) (by rw[←hj,hp.2.2.2.1]);have hnu:=(co_zero hf.1).1;rw[hnu]at hf;have:=(all_good hf.2).len
    omega
 · rw[if_neg hm];exact hb
end Jn

set_option maxRecDepth 100000 in
set_option maxHeartbeats 4000000 in
theorem jcommit_any (J:Jo) (v:Value) (key:ByteArray) (l:List Pp.Ch) (u:Value) (w:World) (hv:LiesJ w v J) (hu:LiesC w u l) (hs:Sized J.base) (hcs:SizedO 150000000000000 J.cos) (hls:SizedC 150000000000000 l) (hke:key.size≤maxLen):
    Calls Tryz.prog 128 #[v,.string key,u] w fun e w'=> ∃r,e= .returned (.tuple #[r,.int .i64 (Jn.comN J key l),.int .i64 (Jn.comE J key l)])∧OwnJ w.heap.size w' r (Jn.comR J key l)∧Below w.heap.size w w':=by
 have HV:=hid hv;have HU:=hid hu;have HS:=hid hs;have HCS:=hid hcs;have HLS:=hid hls;obtain⟨vb,vc,rfl,hvb,hvc⟩:=hv
 have HVB:=hid hvb;have HVC:=hid hvc;obtain⟨ba,bcap,rfl,_⟩:=hvb
 obtain⟨ca,ccap,rfl,_⟩:=hvc
 obtain⟨ua,ucap,rfl,_⟩:=hu
 clear hs hcs hls;obtain⟨wz,hwz⟩: ∃wz,wz=(w.alloc (.cells #[.slice ba J.base.length bcap,.int .i64 J.first,.slice ca J.cos.length ccap] 88)).alloc (.cells #[.slice none 0 0,.int .i64 0,.slice none 0 0] 88):=⟨_,rfl⟩
 have hbz:Below w.heap.size w wz:=by rw[hwz];exact((Below.refl _ _).alloc (Nat.le_refl _) _).alloc (by simp) _
 have HBY:=hid (show Cs wz (w.heap.size+1) [.slice none 0 0,.int .i64 0,.slice none 0 0]from by
  have:=Cs.new (w.alloc (.cells #[.slice ba J.base.length bcap,.int .i64 J.first,.slice ca J.cos.length ccap] 88)) [.slice none 0 0,.int .i64 0,.slice none 0 0] 88
  rw[hwz];simpa using this)
 have hNz:=HBY.out.lt;by_cases h0:Jn.chkE J=0
 · have H0:=hid h0
   have hpp:=Jn.chk_parts h0;obtain⟨f1,f2⟩:=Jn.ver_iff.1 hpp.2.1
   have h30:=hpp.2.2.1;have HAP:=hid hpp.2.2.2.2;have hbl:J.base.length≤1000:=by have:=((Pp.good_iff J.base).1 hpp.1).len;omega
   have HFW:=hid (show∀c∈J.cos,c.ch.length≤1000000000 from fun c hc=>Nat.le_trans (Jn.chk_few h0 c hc) (by decide));clear hpp;cases hkb:Pp.keyB key.data.toList with
   |false=>
    obtain⟨hE,hN,hR⟩:=Jn.com_key (l:=l) h0 hkb
    have HE:=hid hE;have HN:=hid hN;have HR:=hid hR;have HKE:=hid (Pp.keyE_no hkb);clear hE hN hR hkb h0;go_enter Tryz.func128,Tryz.ntmps128
    go_wp2_with fail;rw[←hwz];clear hwz;refine(keep_any J _ _ (HV.out.below hbz) HS.out HCS.out).mono ?_
    rintro e w1 ⟨p,rfl,hK,_,hb1⟩;obtain⟨b,mb,vb2,vc2,nn,rfl,hv2,hb,hmb,hKp,hnn⟩:=hK H0.out
    simp only[Value.agg.injEq,Array.mk.injEq,List.cons.injEq,true_and,and_true]at hv2;obtain⟨rfl,rfl⟩:=hv2
    rw[H0.out];have HKP:=hid hKp;obtain⟨vt,hC,hT,hM,hne⟩:=hKp
    have HC:=hid hC;have HM:=hid hM;have k4:=hC.cell 4 rfl;have hb01:=below_tr hbz hb1;have HY1:=hid (HBY.out.below hb1);have y0:=HY1.out.cell 0 rfl;have y1:=HY1.out.cell 1 rfl;have y2:=HY1.out.cell 2 rfl;have g0:=HY1.out.fr 0;have g1:=HY1.out.fr 1;have g2:=HY1.out.fr 2;clear hK hC hT hM k4;go_wp2_with fail;refine(key_any key _ hke).mono ?_
    rintro e w2 ⟨rfl,hw⟩;rw[hw,HKE.out];clear hw w2;go_wp2_with fail;refine bodyPost_ret (v:= .tuple #[.agg #[.slice none 0 0,.int .i64 0,.slice none 0 0],.int .i64 0,.int .i64 1]) (by simp[results,Tryz.results128,go_sem,y0,y1,y2]) rfl ⟨_,by rw[HN.out,HE.out],?_,?_⟩
    · rw[HR.out]
      exact ownJ_zero _ _
    · exact((hb01.setCell (p:=⟨w.heap.size+1,0,none⟩) (Nat.le_succ _) _).setCell (p:=⟨w.heap.size+1,1,none⟩) (Nat.le_succ _) _).setCell (p:=⟨w.heap.size+1,2,none⟩) (Nat.le_succ _) _
   |true=>
    have HKE:=hid (Pp.keyE_yes hkb);cases hhb:Jn.hasB J.cos key.data.toList with
    |true=>
     obtain⟨hE,hN,hR⟩:=Jn.com_has (l:=l) h0 hkb hhb
     have HE:=hid hE;have HN:=hid hN;have HR:=hid hR;have HHB:=hid hhb;clear hE hN hR hkb hhb h0;go_enter Tryz.func128,Tryz.ntmps128
     go_wp2_with fail;rw[←hwz];clear hwz;refine(keep_any J _ _ (HV.out.below hbz) HS.out HCS.out).mono ?_
     rintro e w1 ⟨p,rfl,hK,_,hb1⟩;obtain⟨b,mb,vb2,vc2,nn,rfl,hv2,hb,hmb,hKp,hnn⟩:=hK H0.out
     simp only[Value.agg.injEq,Array.mk.injEq,List.cons.injEq,true_and,and_true]at hv2;obtain⟨rfl,rfl⟩:=hv2
     rw[H0.out];have HKP:=hid hKp;obtain⟨vt,hC,hT,hM,hne⟩:=hKp
     have HC:=hid hC;have HM:=hid hM;have k4:=hC.cell 4 rfl;have hb01:=below_tr hbz hb1;have HY1:=hid (HBY.out.below hb1);obtain⟨lv,ps,hrun,hRv⟩:=HM.out.look_ok (string_keyed Tryz.underlying9) Tryz.underlying76 (Tryz.zeroInt w1) (plainElem_int Tryz.underlying3 (by decide)) (keyOf_string_mk Tryz.underlying9 hke)
     obtain⟨cv,rfl,hcv,_⟩:=plainElem_int_inv Tryz.underlying3 hRv
     rw[show Maps.has (Jn.D J.cos) (Lit.string key.data.toList)=Jn.hasB J.cos key.data.toList from Jn.D_has J.cos key,HHB.out]at hrun;have hat:=Jn.D_at HAP.out key 0 HHB.out
     have hcn:cv=Jn.numOf J.cos key.data.toList:=by
      have h1:Jn.num (Jn.numOf J.cos key.data.toList)= .lit (.int .i64 cv):=hat.symm.trans (congrArg Prod.fst hcv);simpa[Jn.num]using h1.symm
     subst hcn;clear hK hC hT hM hRv hcv hat;go_wp2_with fail;refine(key_any key _ hke).mono ?_
     rintro e w2 ⟨rfl,hw⟩;rw[hw,HKE.out];clear hw w2;go_wp2_with fail;refine(kJournal_any J b _ _ _ _ _ HC.out (HVB.out.below hb01) (HVC.out.below hb01) (by omega) hbl HFW.out).mono ?_
     rintro e w3 ⟨r,rfl,⟨xb,xc,rfl,hxb,hxo,hxc⟩,hb3⟩;have HXB:=hid hxb;have HXO:=hid hxo;have HXC:=hid hxc;obtain⟨ea,ec,rfl,_⟩:=hxb
     obtain⟨ya,yc,rfl⟩:=liesO_shape HXC.out.lies
     have HY3:=hid (HY1.out.below hb3);have hs1:=hb1.size;have hb03:=below_tr hb01 hb3;have y0:=HY3.out.cell 0 rfl;have y1:=HY3.out.cell 1 rfl;have y2:=HY3.out.cell 2 rfl;have g0:=HY3.out.fr 0;have g1:=HY3.out.fr 1;have g2:=HY3.out.fr 2;clear hxo hxc;go_wp2_with fail;refine bodyPost_ret (v:= .tuple #[.agg #[.slice ea J.base.length ec,.int .i64 J.first,.slice ya J.cos.length yc],.int .i64 (Jn.numOf J.cos key.data.toList),.int .i64 0]) (by simp[results,Tryz.results128,go_sem,y0,y1,y2]) rfl ⟨_,by rw[HN.out,HE.out],?_,?_⟩
     · rw[HR.out]
       have k0: ∀g,(Value.slice ea J.base.length ec).ownBlock=some g→g≠w.heap.size+1:=fun g hg=>by have:=(HXO.out g hg).1;omega
       refine⟨_,_,rfl,((HXB.out.nbo (nb_set _ _ _ _) k0).nbo (nb_set _ _ _ _) k0).nbo (nb_set _ _ _ _) k0,(((HXO.out.setCell _ _ _).setCell _ _ _).setCell _ _ _).mono (by omega),?_⟩
       exact(((HXC.out.nbo (nb_set _ _ _ _) (by omega)).nbo (nb_set _ _ _ _) (by omega)).nbo (nb_set _ _ _ _) (by omega)).mono (by omega)
     · exact((hb03.setCell (p:=⟨w.heap.size+1,0,none⟩) (Nat.le_succ _) _).setCell (p:=⟨w.heap.size+1,1,none⟩) (Nat.le_succ _) _).setCell (p:=⟨w.heap.size+1,2,none⟩) (Nat.le_succ _) _
    |false=>
     have HHB:=hid hhb;by_cases hnw:Jn.newE J l=0
     · obtain⟨hE,hN,hR⟩:=Jn.com_add (l:=l) h0 hkb hhb hnw
       have HE:=hid hE;have HN:=hid hN;have HR:=hid hR;have HNW:=hid hnw;have HFA:=hid (Jn.add_few h0 key hnw);have HBA:=hid (Jn.add_base h0 key l);obtain⟨a1,a2,a3⟩:=Jn.add_bounds h0 key l
       have HLA:=hid (Jn.add_last (J:=J) key l);clear hE hN hR hkb hhb h0 hnw;go_enter Tryz.func128,Tryz.ntmps128
       go_wp2_with fail;rw[←hwz];clear hwz;refine(keep_any J _ _ (HV.out.below hbz) HS.out HCS.out).mono ?_
       rintro e w1 ⟨p,rfl,hK,_,hb1⟩;obtain⟨b,mb,vb2,vc2,nn,rfl,hv2,hb,hmb,hKp,hnn⟩:=hK H0.out
       simp only[Value.agg.injEq,Array.mk.injEq,List.cons.injEq,true_and,and_true]at hv2;obtain⟨rfl,rfl⟩:=hv2
       rw[H0.out];have HKP:=hid hKp;obtain⟨vt,hC,hT,hM,hne⟩:=hKp
       have HC:=hid hC;have HM:=hid hM;have k4:=hC.cell 4 rfl;have hb01:=below_tr hbz hb1;have HY1:=hid (HBY.out.below hb1);obtain⟨lv,ps,hrun,hRv⟩:=HM.out.look_ok (string_keyed Tryz.underlying9) Tryz.underlying76 (Tryz.zeroInt w1) (plainElem_int Tryz.underlying3 (by decide)) (keyOf_string_mk Tryz.underlying9 hke)
       obtain⟨cv,rfl,hcv,_⟩:=plainElem_int_inv Tryz.underlying3 hRv
       rw[show Maps.has (Jn.D J.cos) (Lit.string key.data.toList)=Jn.hasB J.cos key.data.toList from Jn.D_has J.cos key,HHB.out]at hrun;clear hK hC hT hM hRv hcv;go_wp2_with fail;refine(key_any key _ hke).mono ?_
       rintro e w2 ⟨rfl,hw⟩;rw[hw,HKE.out];clear hw w2;go_wp2_with fail;refine(commit_any J key l _ b mb nn _ _ wz _ H0.out HKP.out (HVB.out.below hbz) (HVC.out.below hbz) (HU.out.below hbz) hb1 HLS.out hke HCS.out hnn hb hmb).mono ?_
       rintro e w2 ⟨rfl,hb2,hAd⟩;obtain⟨vb3,vc3,vt3,vm3,hC3,hL3,hO3⟩:=hAd HNW.out
       rw[HNW.out];have HC3:=hid hC3;have HL3:=hid hL3;have HO3:=hid hO3;obtain⟨va1,vacap,rfl⟩:=liesO_shape hO3
       obtain⟨vb1,vbcap,rfl,_⟩:=hL3
       have HY2:=hid (HBY.out.below hb2);have hb02:=below_tr hbz hb2;have hs2:=hb2.size;clear hAd hC3 hO3 k4;go_wp2_with fail;refine(kJournal_any (Jn.addJ J key l) b _ _ _ _ _ HC3.out HL3.out HO3.out (by omega) HBA.out HFA.out).mono ?_
       rintro e w3 ⟨r,rfl,⟨xb,xc,rfl,hxb,hxo,hxc⟩,hb3⟩;have HXB:=hid hxb;have HXO:=hid hxo;have HXC:=hid hxc;obtain⟨ea,ec,rfl,_⟩:=hxb
       obtain⟨ya,yc,rfl⟩:=liesO_shape HXC.out.lies
       have HY3:=hid (HY2.out.below hb3);have HC4:=hid (HC3.out.below hb3);have hb03:=below_tr hb02 hb3;clear hxo hxc;go_wp2_with fail;refine(kLast_any (Jn.addJ J key l).first (Jn.addJ J key l).cos.length vacap b _ _ _ va1 _ HC4.out a1 (by omega) (by omega)).mono ?_
       rintro e w4 ⟨rfl,hb4⟩;rw[HLA.out];have HXB4:=hid (HXB.out.below hb4);have HXO4:=hid (HXO.out.below hb4);have HXC4:=hid (HXC.out.below hb4);have HY4:=hid (HY3.out.below hb4);have hb04:=below_tr hb03 hb4;clear HXB HXO HXC;have HXB:=HXB4;have HXO:=HXO4;have HXC:=HXC4;clear HXB4 HXO4 HXC4;have y0:=HY4.out.cell 0 rfl;have y1:=HY4.out.cell 1 rfl;have y2:=HY4.out.cell 2 rfl;have g0:=HY4.out.fr 0;have g1:=HY4.out.fr 1;have g2:=HY4.out.fr 2;go_wp2_with fail;refine bodyPost_ret (v:= .tuple #[.agg #[.slice ea (Jn.addJ J key l).base.length ec,.int .i64 (Jn.addJ J key l).first,.slice ya (Jn.addJ J key l).cos.length yc],.int .i64 (Jn.last J+1),.int .i64 0]) (by simp[results,Tryz.results128,go_sem,y0,y1,y2]) rfl ⟨_,by rw[HN.out,HE.out],?_,?_⟩
       · rw[HR.out]
         have k0: ∀g,(Value.slice ea (Jn.addJ J key l).base.length ec).ownBlock=some g→g≠w.heap.size+1:=fun g hg=>by have:=(HXO.out g hg).1;omega
         refine⟨_,_,rfl,((HXB.out.nbo (nb_set _ _ _ _) k0).nbo (nb_set _ _ _ _) k0).nbo (nb_set _ _ _ _) k0,(((HXO.out.setCell _ _ _).setCell _ _ _).setCell _ _ _).mono (by omega),?_⟩
         exact(((HXC.out.nbo (nb_set _ _ _ _) (by omega)).nbo (nb_set _ _ _ _) (by omega)).nbo (nb_set _ _ _ _) (by omega)).mono (by omega)
       · exact((hb04.setCell (p:=⟨w.heap.size+1,0,none⟩) (Nat.le_succ _) _).setCell (p:=⟨w.heap.size+1,1,none⟩) (Nat.le_succ _) _).setCell (p:=⟨w.heap.size+1,2,none⟩) (Nat.le_succ _) _
     · have hE:=Jn.com_new (l:=l) h0 hkb hhb
       obtain⟨hN,hR⟩:=Jn.com_bad (J:=J) (key:=key) (l:=l) (by rw[hE];exact hnw)
       have HE:=hid hE;have HN:=hid hN;have HR:=hid hR;have hz:(Jn.newE J l==0)=false:=by simpa using hnw
       clear hE hN hR hkb hhb h0;go_enter Tryz.func128,Tryz.ntmps128
       go_wp2_with fail;rw[←hwz];clear hwz;refine(keep_any J _ _ (HV.out.below hbz) HS.out HCS.out).mono ?_
       rintro e w1 ⟨p,rfl,hK,_,hb1⟩;obtain⟨b,mb,vb2,vc2,nn,rfl,hv2,hb,hmb,hKp,hnn⟩:=hK H0.out
       simp only[Value.agg.injEq,Array.mk.injEq,List.cons.injEq,true_and,and_true]at hv2;obtain⟨rfl,rfl⟩:=hv2
       rw[H0.out];have HKP:=hid hKp;obtain⟨vt,hC,hT,hM,hne⟩:=hKp
       have HC:=hid hC;have HM:=hid hM;have k4:=hC.cell 4 rfl;have hb01:=below_tr hbz hb1;have HY1:=hid (HBY.out.below hb1);obtain⟨lv,ps,hrun,hRv⟩:=HM.out.look_ok (string_keyed Tryz.underlying9) Tryz.underlying76 (Tryz.zeroInt w1) (plainElem_int Tryz.underlying3 (by decide)) (keyOf_string_mk Tryz.underlying9 hke)
       obtain⟨cv,rfl,hcv,_⟩:=plainElem_int_inv Tryz.underlying3 hRv
       rw[show Maps.has (Jn.D J.cos) (Lit.string key.data.toList)=Jn.hasB J.cos key.data.toList from Jn.D_has J.cos key,HHB.out]at hrun;clear hK hC hT hM hRv hcv;go_wp2_with fail;refine(key_any key _ hke).mono ?_
       rintro e w2 ⟨rfl,hw⟩;rw[hw,HKE.out];clear hw w2;go_wp2_with fail;refine(commit_any J key l _ b mb nn _ _ wz _ H0.out HKP.out (HVB.out.below hbz) (HVC.out.below hbz) (HU.out.below hbz) hb1 HLS.out hke HCS.out hnn hb hmb).mono ?_
       rintro e w2 ⟨rfl,hb2,_⟩;have HY2:=hid (HBY.out.below hb2);have hb02:=below_tr hbz hb2;clear k4;have y0:=HY2.out.cell 0 rfl;have y1:=HY2.out.cell 1 rfl;have y2:=HY2.out.cell 2 rfl;have g0:=HY2.out.fr 0;have g1:=HY2.out.fr 1;have g2:=HY2.out.fr 2;go_wp2_with fail;refine bodyPost_ret (v:= .tuple #[.agg #[.slice none 0 0,.int .i64 0,.slice none 0 0],.int .i64 0,.int .i64 (Jn.newE J l)]) (by simp[results,Tryz.results128,go_sem,y0,y1,y2]) rfl ⟨_,by rw[HN.out,HE.out],?_,?_⟩
       · rw[HR.out]
         exact ownJ_zero _ _
       · exact((hb02.setCell (p:=⟨w.heap.size+1,0,none⟩) (Nat.le_succ _) _).setCell (p:=⟨w.heap.size+1,1,none⟩) (Nat.le_succ _) _).setCell (p:=⟨w.heap.size+1,2,none⟩) (Nat.le_succ _) _
 · obtain⟨hE,hN,hR⟩:=Jn.com_chk (key:=key) (l:=l) h0
   have HE:=hid hE;have HN:=hid hN;have HR:=hid hR;have hz:(Jn.chkE J==0)=false:=by simpa using h0
   clear hE hN hR;go_enter Tryz.func128,Tryz.ntmps128
   go_wp2_with fail;rw[←hwz];clear hwz;refine(keep_any J _ _ (HV.out.below hbz) HS.out HCS.out).mono ?_
   rintro e w1 ⟨p,rfl,_,_,hb1⟩;have HY1:=hid (HBY.out.below hb1);have y0:=HY1.out.cell 0 rfl;have y1:=HY1.out.cell 1 rfl;have y2:=HY1.out.cell 2 rfl;have g0:=HY1.out.fr 0;have g1:=HY1.out.fr 1;have g2:=HY1.out.fr 2;have hb01:=below_tr hbz hb1;go_wp2_with fail;refine bodyPost_ret (v:= .tuple #[.agg #[.slice none 0 0,.int .i64 0,.slice none 0 0],.int .i64 0,.int .i64 (Jn.chkE J)]) (by simp[results,Tryz.results128,go_sem,y0,y1,y2]) rfl ⟨_,by rw[HN.out,HE.out],?_,?_⟩
   · rw[HR.out]
     exact ownJ_zero _ _
   · exact((hb01.setCell (p:=⟨w.heap.size+1,0,none⟩) (Nat.le_succ _) _).setCell (p:=⟨w.heap.size+1,1,none⟩) (Nat.le_succ _) _).setCell (p:=⟨w.heap.size+1,2,none⟩) (Nat.le_succ _) _
end Go.Proofs.YtppdfeehhnofaaaGreatDoor
namespace Go.Proofs.YtppdfeehhnofaaaGreatDoor
open Go.RowKit

set_option maxHeartbeats 400000 in
theorem joined_any (s t:ByteArray) (w:World) (hs:s.size≤1000000000000000) (ht:t.size≤1000000000000000):
    Calls Tryz.prog 151 #[.string s,.string t] w fun e w'=>e= .returned (.string ⟨(Pp.jn s.data.toList t.data.toList).toArray⟩)∧w'=w:=by
 cases hc:s.toList.isEmpty with
 |true=>
  have HP:=hid (show⟨(Pp.jn s.data.toList t.data.toList).toArray⟩=t from by rw[Lib.toList_data,List.isEmpty_iff]at hc;rw[Pp.jn,if_pos hc]);go_enter Tryz.func151,Tryz.ntmps151
  go_wp2;go_ret;exact⟨by rw[HP.out];rfl,rfl⟩
 |false=>
  have HP:=hid (show s++⟨#[47]⟩++t=⟨(Pp.jn s.data.toList t.data.toList).toArray⟩from Pp.bytes_eq (by
   rw[Lib.toList_data]at hc;rw[Joins.data_append,Joins.data_append,Pp.jn,if_neg (by intro h;rw[h]at hc;cases hc)];simp))
  go_enter Tryz.func151,Tryz.ntmps151
  go_wp2;go_ret;exact⟨by rw[←HP.out];rfl,rfl⟩
theorem ghid {p:Prop} (h:p):Hid p:=h
namespace Pp
theorem name_no47 {l:List UInt8} (h:nameB l=true):47∉l:=by
 intro h47
 have h1: ∀c∈l,okB c=true:=by
  simp only[nameB,Bool.and_eq_true,List.all_eq_true]at h;first|exact h.1|exact h.1.1|exact h.1.1.1|exact h.1.1.1.1|exact h.1.1.1.1.1|exact h.1.1.1.1.1.1|exact fun c hc=>(h.1 c hc)|simp_all
 exact absurd (h1 47 h47) (by decide)
theorem name_len {l:List UInt8} (h:nameB l=true):l.length≤20:=by
 simp only[nameB,Bool.and_eq_true,decide_eq_true_eq]at h;omega
theorem name_chk {l:List UInt8} (h:nameB l=true):chk l=0:=by
 have hn:nm l=[l]:=nm_none l (name_no47 h);have ha:(nm l).all nameB=true:=by rw[hn];simp[h]
 rw[chk_big ha,if_neg];have:=name_len h
 simp[big,hn]
 omega
/-- 1: a text is no name. -/
def nmE (l:List UInt8):Int:=if nameB l=true then 0 else 1
def nmsE (ns:List ByteArray):Int:=if(ns.all fun s=>nameB s.data.toList)=true then 0 else 1
end Pp

set_option maxHeartbeats 400000 in
theorem join0_any (s:ByteArray) (w:World) (hs:s.size≤1000000000000000):
    Calls Tryz.prog 115 #[.string ⟨#[]⟩,.string s] w fun e w'=> ∃u,e= .returned (.tuple #[u,.int .i64 (Pp.nmE s.data.toList)])∧Below w.heap.size w w':=by
 have hm:s.size≤maxLen:=by unfold maxLen;omega
 cases hn:Pp.nameB s.data.toList with
 |true=>
  have HN:=ghid hn;have HC:=ghid (Pp.name_chk hn);have HE:=hid (show Pp.nmE s.data.toList=0 from if_pos hn);have HJ:=hid (show(⟨(Pp.jn [] s.data.toList).toArray⟩:ByteArray)=s from by rw[Pp.jn,if_pos rfl]);clear hn;go_enter Tryz.func115,Tryz.ntmps115
  go_wp2_with fail;refine(isName_any s _ hm).mono ?_
  rintro e w1 ⟨rfl,hw⟩;rw[hw,HN.out];clear hw w1;go_wp2_with fail;refine(joined_any ⟨#[]⟩ s _ (by decide) hs).mono ?_
  rintro e w2 ⟨rfl,hw⟩;rw[hw,show(⟨(Pp.jn (⟨#[]⟩:ByteArray).data.toList s.data.toList).toArray⟩:ByteArray)=s from HJ.out];clear hw w2;go_wp2_with fail;refine(checked_ok s _ hs HC.out).mono ?_
  rintro e w3 ⟨rfl,hb3⟩;go_wp2;go_ret2;exact⟨_,by rw[HE.out];rfl,hb3⟩
 |false=>
  have HN:=ghid hn;have HE:=hid (show Pp.nmE s.data.toList=1 from if_neg (by rw[hn];decide));clear hn;go_enter Tryz.func115,Tryz.ntmps115
  go_wp2_with fail;refine(isName_any s _ hm).mono ?_
  rintro e w1 ⟨rfl,hw⟩;rw[hw,HN.out];clear hw w1;go_wp2_with fail;go_ret2;exact⟨_,by rw[HE.out];rfl,Below.refl _ _⟩
set_option maxHeartbeats 1000000 in
theorem names_any (ns:List ByteArray) (g o cap:Nat) (w:World) (hg:g<w.heap.size) (hs: ∀i (h:i<ns.length),(ns[i]).size≤1000000000000000) (hl:ns.length≤1000) (hc: ∀i (h:i<ns.length),w.cell? ⟨g,o+i,none⟩=some (.string ns[i])):
    Calls Tryz.prog 77 #[.slice (some ⟨g,o,none⟩) ns.length cap] w fun e w'=>e= .returned (.int .i64 (Pp.nmsE ns))∧Below w.heap.size w w':=by
 have HC:=ghid hc;have HS:=ghid hs;clear hc hs;go_enter Tryz.func77,Tryz.ntmps77
 have HX:=hid (show∀k (h:k<ns.length),(∀j (h:j<ns.length),j<k→Pp.nameB (ns[j]).data.toList=true)→Pp.nameB (ns[k]).data.toList=false→(ns.all fun s=>Pp.nameB s.data.toList)=false from fun k h _ hk=>List.all_eq_false.2 ⟨ns[k],List.getElem_mem h,by rw[hk];decide⟩)
 have HY:=hid (show(∀j (h:j<ns.length),Pp.nameB (ns[j]).data.toList=true)→(ns.all fun s=>Pp.nameB s.data.toList)=true from fun h=>List.all_eq_true.2 fun x hx=>by
  obtain⟨j,hj,rfl⟩:=List.getElem_of_mem hx
  exact h j hj)
 go_wp2_with fail;go_loopw [9] (fun i wr=> ∃k:Nat,k≤ns.length∧i= .int .i64 k∧Hid (∀j (h:j<ns.length),j<k→Pp.nameB (ns[j]).data.toList=true)∧Below w.heap.size w wr) (fun i _=>ns.length-(intOf i).toNat)
 case atStart=>exact⟨0,Nat.zero_le _,rfl,(fun j _ h=>absurd h (Nat.not_lt_zero _): ∀j (h:j<ns.length),j<0→Pp.nameB (ns[j]).data.toList=true),Below.refl _ _⟩
 case round=>
  obtain⟨k,hk,rfl,HP,hbel⟩:=hrel
  by_cases hlt:k<ns.length
  · have c0:=(hbel.cell (p:=⟨g,o+k,none⟩) hg).trans (HC.out k hlt)
    go_wp2_with fail;refine(join0_any ns[k] _ (HS.out k hlt)).mono ?_
    rintro e w1 ⟨u,rfl,hb1⟩;have hbel1:=below_trans hbel hb1;clear hbel hb1 c0;cases hn:Pp.nameB (ns[k]).data.toList with
    |true=>
     rw[Pp.nmE,if_pos hn]
     have HP2:=hid (show∀j (h:j<ns.length),j<k+1→Pp.nameB (ns[j]).data.toList=true from fun j h1 h2=>by
      by_cases e:j=k
      · subst e;exact hn
      · exact HP.out j h1 (by omega))
     clear hn;go_wp2_with fail;go_roundw
     case rel=>exact⟨k+1,by omega,by simp,HP2,hbel1⟩
     case measure=>simp[intOf];omega
    |false=>
     rw[Pp.nmE,if_neg (by rw[hn];decide)];have HE:=hid (show(1:Int)=Pp.nmsE ns from by rw[Pp.nmsE,if_neg (by rw[HX.out k hlt HP.out hn];decide)]);clear hn;go_wp2_with fail;go_ret;exact⟨Pp.ret_int HE.out,hbel1⟩
  · have HE:=hid (show(0:Int)=Pp.nmsE ns from by rw[Pp.nmsE,if_pos (HY.out (fun j h=>HP.out j h (by omega)))])
    go_wp2_with fail;go_ret;exact⟨Pp.ret_int HE.out,hbel⟩
end Go.Proofs.YtppdfeehhnofaaaGreatDoor
