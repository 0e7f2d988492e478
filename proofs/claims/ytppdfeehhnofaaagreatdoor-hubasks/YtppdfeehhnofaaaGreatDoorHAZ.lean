/- What hub.Serve answers, where what answer does is known. -/
import Derived.Test.YtppdfeehhnofaaaGreatDoorHAY
import Derived.Test.YtppdfeehhnofaaaGreatDoorHAS
set_option linter.unusedSimpArgs false
set_option linter.unusedVariables false
namespace Go.Proofs.YtppdfeehhnofaaaGreatDoor
open Go.RowKit

set_option maxRecDepth 100000 in
set_option maxHeartbeats 4000000 in
theorem serve_bad (H:Hb) (q:Rq) (v vq:Value) (w:World) (hv:LiesH w v H) (hs:SizedH H) (hq:LiesQ w vq q) (h0: ¬Hu.hE H=0):
    Calls Tryz.prog 8 #[v,vq] w fun e w'=> ∃u a,e= .returned (.tuple #[u,a,.int .i64 (Hu.hE H)])∧LiesH w' u zeroH∧LiesA w' a zeroA∧Below w.heap.size w w':=by
 obtain⟨r,hrr⟩: ∃r,r=Hu.hE H:=⟨_,rfl⟩
 rw[←hrr]at h0⊢;have HRR:=hid hrr;have H0:=hid h0;clear h0 hrr;have HV:=hid hv;have HS:=hid hs;obtain⟨fa,fc,ga,gc,sa,sc,rfl⟩:=hv.shape
 obtain⟨va,rfl,lq⟩:=hq
 have HLQ:=hid lq;obtain⟨qa,qc,rfl,_⟩:=lq
 obtain⟨kind,who,fo,name,key,text,num,off,base,ch⟩:=q
 simp only at*;obtain⟨wa,hwa⟩: ∃wa,wa=w.alloc (.cells #[.slice fa H.fos.length fc,.slice ga H.gs.length gc,.slice sa H.ss.length sc,.int .i64 H.nx,.int .i64 H.la,.int .i64 H.ro,.int .i64 H.now] 28):=⟨_,rfl⟩
 obtain⟨wb,hwb⟩: ∃wb,wb=wa.alloc (.cells #[.int .i64 kind,.string who,.string fo,.string name,.string key,.string text,.int .i64 num,.int .i64 off,.int .i64 base,.slice qa ch.length qc] 31):=⟨_,rfl⟩
 obtain⟨wc,hwc⟩: ∃wc,wc=wb.alloc (.cells #[.slice none 0 0,.slice none 0 0,.slice none 0 0,.int .i64 0,.int .i64 0,.int .i64 0,.int .i64 0] 28):=⟨_,rfl⟩
 obtain⟨wz,hwz⟩: ∃wz,wz=wc.alloc (.cells #[.int .i64 0,.int .i64 0,.bool false,.slice none 0 0,.slice none 0 0,.int .i64 0,.bool false] 43):=⟨_,rfl⟩
 have sa1:wa.heap.size=w.heap.size+1:=by rw[hwa];simp
 have sb1:wb.heap.size=w.heap.size+1+1:=by rw[hwb];simp[sa1]
 have sc1:wc.heap.size=w.heap.size+1+1+1:=by rw[hwc];simp[sb1]
 have bwa:Below w.heap.size w wa:=by rw[hwa];exact(Below.refl _ _).alloc (Nat.le_refl _) _
 have bwb:Below wa.heap.size wa wb:=by rw[hwb];exact(Below.refl _ _).alloc (Nat.le_refl _) _
 have bwc:Below wb.heap.size wb wc:=by rw[hwc];exact(Below.refl _ _).alloc (Nat.le_refl _) _
 have bwz:Below wc.heap.size wc wz:=by rw[hwz];exact(Below.refl _ _).alloc (Nat.le_refl _) _
 have hbz:Below w.heap.size w wz:=below_tr bwa (below_tr bwb (below_tr bwc bwz));have HX:Hid (Cs wz w.heap.size [.slice fa H.fos.length fc,.slice ga H.gs.length gc,.slice sa H.ss.length sc,.int .i64 H.nx,.int .i64 H.la,.int .i64 H.ro,.int .i64 H.now]):=((((by rw[hwa];exact Cs.new w [.slice fa H.fos.length fc,.slice ga H.gs.length gc,.slice sa H.ss.length sc,.int .i64 H.nx,.int .i64 H.la,.int .i64 H.ro,.int .i64 H.now] _:Cs wa w.heap.size [.slice fa H.fos.length fc,.slice ga H.gs.length gc,.slice sa H.ss.length sc,.int .i64 H.nx,.int .i64 H.la,.int .i64 H.ro,.int .i64 H.now]).below bwb).below bwc).below bwz:Cs wz w.heap.size _)
 have HQX:Hid (Cs wz (w.heap.size+1) [.int .i64 kind,.string who,.string fo,.string name,.string key,.string text,.int .i64 num,.int .i64 off,.int .i64 base,.slice qa ch.length qc]):=(((by rw[←sa1,hwb];exact Cs.new wa [.int .i64 kind,.string who,.string fo,.string name,.string key,.string text,.int .i64 num,.int .i64 off,.int .i64 base,.slice qa ch.length qc] _:Cs wb (w.heap.size+1) [.int .i64 kind,.string who,.string fo,.string name,.string key,.string text,.int .i64 num,.int .i64 off,.int .i64 base,.slice qa ch.length qc]).below bwc).below bwz:Cs wz (w.heap.size+1) _)
 have HRX:=hid (show Cs wz (w.heap.size+1+1) [.slice none 0 0,.slice none 0 0,.slice none 0 0,.int .i64 0,.int .i64 0,.int .i64 0,.int .i64 0]from(by rw[←sb1,hwc];exact Cs.new wb [.slice none 0 0,.slice none 0 0,.slice none 0 0,.int .i64 0,.int .i64 0,.int .i64 0,.int .i64 0] _:Cs wc (w.heap.size+1+1) [.slice none 0 0,.slice none 0 0,.slice none 0 0,.int .i64 0,.int .i64 0,.int .i64 0,.int .i64 0]).below bwz);have HAX:=hid (show Cs wz (w.heap.size+1+1+1) [.int .i64 0,.int .i64 0,.bool false,.slice none 0 0,.slice none 0 0,.int .i64 0,.bool false]from by rw[←sc1,hwz];exact Cs.new wc [.int .i64 0,.int .i64 0,.bool false,.slice none 0 0,.slice none 0 0,.int .i64 0,.bool false] _);have hwzz:(((w.alloc (.cells #[.slice fa H.fos.length fc,.slice ga H.gs.length gc,.slice sa H.ss.length sc,.int .i64 H.nx,.int .i64 H.la,.int .i64 H.ro,.int .i64 H.now] 28)).alloc (.cells #[.int .i64 kind,.string who,.string fo,.string name,.string key,.string text,.int .i64 num,.int .i64 off,.int .i64 base,.slice qa ch.length qc] 31)).alloc (.cells #[.slice none 0 0,.slice none 0 0,.slice none 0 0,.int .i64 0,.int .i64 0,.int .i64 0,.int .i64 0] 28)).alloc (.cells #[.int .i64 0,.int .i64 0,.bool false,.slice none 0 0,.slice none 0 0,.int .i64 0,.bool false] 43)=wz:=by rw[hwz,hwc,hwb,hwa]
 have HWZ:=hid hwzz;have hsz:w.heap.size+1+1+1<wz.heap.size:=HAX.out.lt;clear hwa hwb hwc hwz bwa bwb bwc bwz sa1 sb1 sc1 hwzz hv hs;have x0:=HX.out.cell 0 rfl;have x1:=HX.out.cell 1 rfl;have x2:=HX.out.cell 2 rfl;have x3:=HX.out.cell 3 rfl;have x4:=HX.out.cell 4 rfl;have x5:=HX.out.cell 5 rfl;have x6:=HX.out.cell 6 rfl;go_enter Tryz.func8,Tryz.ntmps8
 go_upto_region 1 with fail;rw[HWZ.out];clear HWZ;go_wp2_with fail;refine(serving_any H _ _ (HV.out.below hbz) HS.out).mono ?_
 rintro e w1 ⟨p,rfl,hok,hbad,hb1⟩;clear x0 x1 x2 x3 x4 x5 x6;have hb01:=below_tr hbz hb1;have HQ1:=hid (HQX.out.below hb1);have HR1:=hid (HRX.out.below hb1);have HA1:=hid (HAX.out.below hb1);have hs1:=hb1.size;rw[←HRR.out];have hz:(r==0)=false:=by simpa using H0.out
 have hz2:(r !=0)=true:=by simpa using H0.out
 clear hok hbad;have p0:=HR1.out.cell 0 rfl;have f0:=HR1.out.fr 0;have p1:=HR1.out.cell 1 rfl;have f1:=HR1.out.fr 1;have p2:=HR1.out.cell 2 rfl;have f2:=HR1.out.fr 2;have p3:=HR1.out.cell 3 rfl;have f3:=HR1.out.fr 3;have p4:=HR1.out.cell 4 rfl;have f4:=HR1.out.fr 4;have p5:=HR1.out.cell 5 rfl;have f5:=HR1.out.fr 5;have p6:=HR1.out.cell 6 rfl;have f6:=HR1.out.fr 6;have y0:=HA1.out.cell 0 rfl;have g0:=HA1.out.fr 0;have y1:=HA1.out.cell 1 rfl;have g1:=HA1.out.fr 1;have y2:=HA1.out.cell 2 rfl;have g2:=HA1.out.fr 2;have y3:=HA1.out.cell 3 rfl;have g3:=HA1.out.fr 3;have y4:=HA1.out.cell 4 rfl;have g4:=HA1.out.fr 4;have y5:=HA1.out.cell 5 rfl;have g5:=HA1.out.fr 5;have y6:=HA1.out.cell 6 rfl;have g6:=HA1.out.fr 6;go_wp2_with fail;refine bodyPost_ret (v:= .tuple #[.agg #[.slice none 0 0,.slice none 0 0,.slice none 0 0,.int .i64 0,.int .i64 0,.int .i64 0,.int .i64 0],.agg #[.int .i64 0,.int .i64 0,.bool false,.slice none 0 0,.slice none 0 0,.int .i64 0,.bool false],.int .i64 r]) (by simp[results,Tryz.results8,go_sem,p0,p1,p2,p3,p4,p5,p6,y0,y1,y2,y3,y4,y5,y6]) rfl ⟨_,_,rfl,liesH_zero _,liesA_num _ _ _,?_⟩
 exact(bs7 (b:=w.heap.size+1+1+1) (bs7 (b:=w.heap.size+1+1) hb01 (by show _≤w.heap.size+1+1;omega)) (by show _≤w.heap.size+1+1+1;omega))
set_option maxRecDepth 100000 in
set_option maxHeartbeats 8000000 in
theorem serve_ok (H H':Hb) (A:An) (q:Rq) (v vq:Value) (w:World) (hv:LiesH w v H) (hs:SizedH H) (hq:LiesQ w vq q) (h0:Hu.hE H=0)
    (hans: ∀(B:Nat) (W:World) (g mb:Nat) (vf vg vs vq:Value),Sv B W g mb vf vg vs H→SvM W mb H.gs.length H→g<B→B≤W.heap.size→LiesQ W vq q→AnsOK W g mb vf vq A H'):
    Calls Tryz.prog 8 #[v,vq] w fun e w'=> ∃u a,e= .returned (.tuple #[u,a,.int .i64 0])∧LiesH w' u H'∧LiesA w' a A∧Below w.heap.size w w':=by
 have H0:=hid h0;have HAN:=hid hans;clear h0 hans;have HV:=hid hv;have HS:=hid hs;obtain⟨fa,fc,ga,gc,sa,sc,rfl⟩:=hv.shape
 obtain⟨va,rfl,lq⟩:=hq
 have HLQ:=hid lq;obtain⟨qa,qc,rfl,_⟩:=lq
 obtain⟨kind,who,fo,name,key,text,num,off,base,ch⟩:=q
 simp only at*;obtain⟨wa,hwa⟩: ∃wa,wa=w.alloc (.cells #[.slice fa H.fos.length fc,.slice ga H.gs.length gc,.slice sa H.ss.length sc,.int .i64 H.nx,.int .i64 H.la,.int .i64 H.ro,.int .i64 H.now] 28):=⟨_,rfl⟩
 obtain⟨wb,hwb⟩: ∃wb,wb=wa.alloc (.cells #[.int .i64 kind,.string who,.string fo,.string name,.string key,.string text,.int .i64 num,.int .i64 off,.int .i64 base,.slice qa ch.length qc] 31):=⟨_,rfl⟩
 obtain⟨wc,hwc⟩: ∃wc,wc=wb.alloc (.cells #[.slice none 0 0,.slice none 0 0,.slice none 0 0,.int .i64 0,.int .i64 0,.int .i64 0,.int .i64 0] 28):=⟨_,rfl⟩
 obtain⟨wz,hwz⟩: ∃wz,wz=wc.alloc (.cells #[.int .i64 0,.int .i64 0,.bool false,.slice none 0 0,.slice none 0 0,.int .i64 0,.bool false] 43):=⟨_,rfl⟩
 have sa1:wa.heap.size=w.heap.size+1:=by rw[hwa];simp
 have sb1:wb.heap.size=w.heap.size+1+1:=by rw[hwb];simp[sa1]
 have sc1:wc.heap.size=w.heap.size+1+1+1:=by rw[hwc];simp[sb1]
 have bwa:Below w.heap.size w wa:=by rw[hwa];exact(Below.refl _ _).alloc (Nat.le_refl _) _
 have bwb:Below wa.heap.size wa wb:=by rw[hwb];exact(Below.refl _ _).alloc (Nat.le_refl _) _
 have bwc:Below wb.heap.size wb wc:=by rw[hwc];exact(Below.refl _ _).alloc (Nat.le_refl _) _
 have bwz:Below wc.heap.size wc wz:=by rw[hwz];exact(Below.refl _ _).alloc (Nat.le_refl _) _
 have hbz:Below w.heap.size w wz:=below_tr bwa (below_tr bwb (below_tr bwc bwz));have HX:Hid (Cs wz w.heap.size [.slice fa H.fos.length fc,.slice ga H.gs.length gc,.slice sa H.ss.length sc,.int .i64 H.nx,.int .i64 H.la,.int .i64 H.ro,.int .i64 H.now]):=((((by rw[hwa];exact Cs.new w [.slice fa H.fos.length fc,.slice ga H.gs.length gc,.slice sa H.ss.length sc,.int .i64 H.nx,.int .i64 H.la,.int .i64 H.ro,.int .i64 H.now] _:Cs wa w.heap.size [.slice fa H.fos.length fc,.slice ga H.gs.length gc,.slice sa H.ss.length sc,.int .i64 H.nx,.int .i64 H.la,.int .i64 H.ro,.int .i64 H.now]).below bwb).below bwc).below bwz:Cs wz w.heap.size _)
 have HQX:Hid (Cs wz (w.heap.size+1) [.int .i64 kind,.string who,.string fo,.string name,.string key,.string text,.int .i64 num,.int .i64 off,.int .i64 base,.slice qa ch.length qc]):=(((by rw[←sa1,hwb];exact Cs.new wa [.int .i64 kind,.string who,.string fo,.string name,.string key,.string text,.int .i64 num,.int .i64 off,.int .i64 base,.slice qa ch.length qc] _:Cs wb (w.heap.size+1) [.int .i64 kind,.string who,.string fo,.string name,.string key,.string text,.int .i64 num,.int .i64 off,.int .i64 base,.slice qa ch.length qc]).below bwc).below bwz:Cs wz (w.heap.size+1) _)
 have HRX:=hid (show Cs wz (w.heap.size+1+1) [.slice none 0 0,.slice none 0 0,.slice none 0 0,.int .i64 0,.int .i64 0,.int .i64 0,.int .i64 0]from(by rw[←sb1,hwc];exact Cs.new wb [.slice none 0 0,.slice none 0 0,.slice none 0 0,.int .i64 0,.int .i64 0,.int .i64 0,.int .i64 0] _:Cs wc (w.heap.size+1+1) [.slice none 0 0,.slice none 0 0,.slice none 0 0,.int .i64 0,.int .i64 0,.int .i64 0,.int .i64 0]).below bwz);have HAX:=hid (show Cs wz (w.heap.size+1+1+1) [.int .i64 0,.int .i64 0,.bool false,.slice none 0 0,.slice none 0 0,.int .i64 0,.bool false]from by rw[←sc1,hwz];exact Cs.new wc [.int .i64 0,.int .i64 0,.bool false,.slice none 0 0,.slice none 0 0,.int .i64 0,.bool false] _);have hwzz:(((w.alloc (.cells #[.slice fa H.fos.length fc,.slice ga H.gs.length gc,.slice sa H.ss.length sc,.int .i64 H.nx,.int .i64 H.la,.int .i64 H.ro,.int .i64 H.now] 28)).alloc (.cells #[.int .i64 kind,.string who,.string fo,.string name,.string key,.string text,.int .i64 num,.int .i64 off,.int .i64 base,.slice qa ch.length qc] 31)).alloc (.cells #[.slice none 0 0,.slice none 0 0,.slice none 0 0,.int .i64 0,.int .i64 0,.int .i64 0,.int .i64 0] 28)).alloc (.cells #[.int .i64 0,.int .i64 0,.bool false,.slice none 0 0,.slice none 0 0,.int .i64 0,.bool false] 43)=wz:=by rw[hwz,hwc,hwb,hwa]
 have HWZ:=hid hwzz;have hsz:w.heap.size+1+1+1<wz.heap.size:=HAX.out.lt;clear hwa hwb hwc hwz bwa bwb bwc bwz sa1 sb1 sc1 hwzz hv hs;have x0:=HX.out.cell 0 rfl;have x1:=HX.out.cell 1 rfl;have x2:=HX.out.cell 2 rfl;have x3:=HX.out.cell 3 rfl;have x4:=HX.out.cell 4 rfl;have x5:=HX.out.cell 5 rfl;have x6:=HX.out.cell 6 rfl;go_enter Tryz.func8,Tryz.ntmps8
 go_upto_region 1 with fail;rw[HWZ.out];clear HWZ;go_wp2_with fail;refine(serving_any H _ _ (HV.out.below hbz) HS.out).mono ?_
 rintro e w1 ⟨p,rfl,hok,hbad,hb1⟩;clear x0 x1 x2 x3 x4 x5 x6;have hb01:=below_tr hbz hb1;have HQ1:=hid (HQX.out.below hb1);have HR1:=hid (HRX.out.below hb1);have HA1:=hid (HAX.out.below hb1);have hs1:=hb1.size;obtain⟨rfl,B,vf,vg,vs,hB1,hB2,hsv,hm⟩:=hok H0.out
 have HSV:=hid hsv;have HM:=hid hm;have HVB:=hid (show∀b,vf.ownBlock=some b→B≤b∧b<w1.heap.size from fun b hb=>by obtain⟨_,_,_,ho,_⟩:=hsv.2.1;exact⟨(ho b hb).1,ho.lt b hb⟩);have HGL:Hid (wz.heap.size+1+1<w1.heap.size):=hsv.1.lt;rw[H0.out];clear hok hbad hsv hm;have x0:=HQ1.out.cell 0 rfl;have x1:=HQ1.out.cell 1 rfl;have x2:=HQ1.out.cell 2 rfl;have x3:=HQ1.out.cell 3 rfl;have x4:=HQ1.out.cell 4 rfl;have x5:=HQ1.out.cell 5 rfl;have x6:=HQ1.out.cell 6 rfl;have x7:=HQ1.out.cell 7 rfl;have x8:=HQ1.out.cell 8 rfl;have x9:=HQ1.out.cell 9 rfl;go_wp2_with fail;refine(HAN.out B w1 (wz.heap.size+1+1) (wz.heap.size+1) vf vg vs _ HSV.out HM.out (by omega) hB2 ⟨_,rfl,HLQ.out.below hb01⟩).mono ?_
 rintro z w3 ⟨u3,rfl,hA3,hsv3,hn3⟩;have hgl:=HGL.out
 have hbo:wz.heap.size≤bo vf (wz.heap.size+1+1):=by
  rw[bo];cases hb:vf.ownBlock with
  |none=>show wz.heap.size≤wz.heap.size+1+1;omega
  |some b=>show wz.heap.size≤b;have:=(HVB.out b hb).1;omega
 have HR3:=hid (HR1.out.nb2 hn3 (by omega) (by omega));have HA3:=hid (HA1.out.nb2 hn3 (by omega) (by omega));have hb13:Below wz.heap.size w1 w3:=hn3.to hs1 (by omega) hbo;have hb03:Below w.heap.size w w3:=hb01.trans (hb13.mono (by have:=hbz.size;omega));have HLA3:=hid hA3;have HSV3:=hid hsv3;have hs3:=hn3.size;obtain⟨ta,tc,ca,cc,rfl⟩:=hA3.shape
 clear hA3 hsv3 hn3 x0 x1 x2 x3 x4 x5 x6 x7 x8 x9;obtain⟨w4,hw4⟩: ∃w4,w4=w3.alloc (.cells #[.int .i64 A.err,.int .i64 A.num,.bool A.pg.reset,.slice ta A.pg.tree.length tc,.slice ca A.pg.cos.length cc,.int .i64 A.pg.cur,.bool A.pg.more] 43):=⟨_,rfl⟩
 have hb4:Below w3.heap.size w3 w4:=by rw[hw4];exact(Below.refl _ _).alloc (Nat.le_refl _) _
 have HB4:Hid (Cs w4 w3.heap.size [.int .i64 A.err,.int .i64 A.num,.bool A.pg.reset,.slice ta A.pg.tree.length tc,.slice ca A.pg.cos.length cc,.int .i64 A.pg.cur,.bool A.pg.more]):=(by rw[hw4];exact Cs.new w3 [.int .i64 A.err,.int .i64 A.num,.bool A.pg.reset,.slice ta A.pg.tree.length tc,.slice ca A.pg.cos.length cc,.int .i64 A.pg.cur,.bool A.pg.more] _:Cs w4 w3.heap.size _)
 have HR4:=hid (HR3.out.below hb4);have HA4:=hid (HA3.out.below hb4);have HLA4:=hid (HLA3.out.below hb4);have HSV4:=hid (HSV3.out.below hb4);have hb04:=below_tr hb03 hb4;obtain⟨fb,fd,gb,gd,sb,sd,hC4,hH4⟩:=HSV4.out.hub
 have HH4:=hid hH4;have HC4:=hid hC4;have hs4:=hb4.size;clear hH4 hC4;go_upto_region 5 with fail;try simp only[World.setCell_alloc_new]
 rw[←hw4];clear hw4;have hgl4:=HC4.out.lt;have hbl4:=HB4.out.lt;have p0:=HC4.out.cell 0 rfl;have p1:=HC4.out.cell 1 rfl;have p2:=HC4.out.cell 2 rfl;have p3:=HC4.out.cell 3 rfl;have p4:=HC4.out.cell 4 rfl;have p5:=HC4.out.cell 5 rfl;have p6:=HC4.out.cell 6 rfl;have q0:=HB4.out.cell 0 rfl;have q1:=HB4.out.cell 1 rfl;have q2:=HB4.out.cell 2 rfl;have q3:=HB4.out.cell 3 rfl;have q4:=HB4.out.cell 4 rfl;have q5:=HB4.out.cell 5 rfl;have q6:=HB4.out.cell 6 rfl;have y0:=HR4.out.cell 0 rfl;have f0:=HR4.out.fr 0;have y1:=HR4.out.cell 1 rfl;have f1:=HR4.out.fr 1;have y2:=HR4.out.cell 2 rfl;have f2:=HR4.out.fr 2;have y3:=HR4.out.cell 3 rfl;have f3:=HR4.out.fr 3;have y4:=HR4.out.cell 4 rfl;have f4:=HR4.out.fr 4;have y5:=HR4.out.cell 5 rfl;have f5:=HR4.out.fr 5;have y6:=HR4.out.cell 6 rfl;have f6:=HR4.out.fr 6;have z0:=HA4.out.cell 0 rfl;have h0:=HA4.out.fr 0;have z1:=HA4.out.cell 1 rfl;have h1:=HA4.out.fr 1;have z2:=HA4.out.cell 2 rfl;have h2:=HA4.out.fr 2;have z3:=HA4.out.cell 3 rfl;have h3:=HA4.out.fr 3;have z4:=HA4.out.cell 4 rfl;have h4:=HA4.out.fr 4;have z5:=HA4.out.cell 5 rfl;have h5:=HA4.out.fr 5;have z6:=HA4.out.cell 6 rfl;have h6:=HA4.out.fr 6;have n1: ¬wz.heap.size+1+1=w.heap.size+1+1:=by omega
 have n2: ¬wz.heap.size+1+1=w.heap.size+1+1+1:=by omega
 have n3: ¬w3.heap.size=w.heap.size+1+1:=by omega
 have n4: ¬w3.heap.size=w.heap.size+1+1+1:=by omega
 have n5: ¬w.heap.size+1+1=w.heap.size+1+1+1:=by omega
 have n6: ¬w.heap.size+1+1+1=w.heap.size+1+1:=by omega
 go_region
 all_goals
  go_wp2_with fail;refine bodyPost_ret (v:= .tuple #[.agg #[.slice fb H'.fos.length fd,.slice gb H'.gs.length gd,.slice sb H'.ss.length sd,.int .i64 H'.nx,.int .i64 H'.la,.int .i64 H'.ro,.int .i64 H'.now],.agg #[.int .i64 A.err,.int .i64 A.num,.bool A.pg.reset,.slice ta A.pg.tree.length tc,.slice ca A.pg.cos.length cc,.int .i64 A.pg.cur,.bool A.pg.more],.int .i64 0]) (by simp[results,Tryz.results8,go_sem,y0,y1,y2,y3,y4,y5,y6,z0,z1,z2,z3,z4,z5,z6]) rfl ⟨_,_,rfl,?_,?_,?_⟩
  · exact((HH4.out.nb (grown_on (grown_on (grown_on (grown_on (grown_on (grown_on (nb_set w4 (w.heap.size+1+1) 0 (.slice fb H'.fos.length fd)) (nb_set _ (w.heap.size+1+1) 1 (.slice gb H'.gs.length gd))) (nb_set _ (w.heap.size+1+1) 2 (.slice sb H'.ss.length sd))) (nb_set _ (w.heap.size+1+1) 3 (.int .i64 H'.nx))) (nb_set _ (w.heap.size+1+1) 4 (.int .i64 H'.la))) (nb_set _ (w.heap.size+1+1) 5 (.int .i64 H'.ro))) (nb_set _ (w.heap.size+1+1) 6 (.int .i64 H'.now))) (noStr_hub HR4.out)).nb (grown_on (grown_on (grown_on (grown_on (grown_on (grown_on (nb_set _ (w.heap.size+1+1+1) 0 (.int .i64 A.err)) (nb_set _ (w.heap.size+1+1+1) 1 (.int .i64 A.num))) (nb_set _ (w.heap.size+1+1+1) 2 (.bool A.pg.reset))) (nb_set _ (w.heap.size+1+1+1) 3 (.slice ta A.pg.tree.length tc))) (nb_set _ (w.heap.size+1+1+1) 4 (.slice ca A.pg.cos.length cc))) (nb_set _ (w.heap.size+1+1+1) 5 (.int .i64 A.pg.cur))) (nb_set _ (w.heap.size+1+1+1) 6 (.bool A.pg.more))) (noStr_ans (HA4.out.nb (grown_on (grown_on (grown_on (grown_on (grown_on (grown_on (nb_set w4 (w.heap.size+1+1) 0 (.slice fb H'.fos.length fd)) (nb_set _ (w.heap.size+1+1) 1 (.slice gb H'.gs.length gd))) (nb_set _ (w.heap.size+1+1) 2 (.slice sb H'.ss.length sd))) (nb_set _ (w.heap.size+1+1) 3 (.int .i64 H'.nx))) (nb_set _ (w.heap.size+1+1) 4 (.int .i64 H'.la))) (nb_set _ (w.heap.size+1+1) 5 (.int .i64 H'.ro))) (nb_set _ (w.heap.size+1+1) 6 (.int .i64 H'.now))) (by omega)))).below ((Below.refl _ _).drew)
  · exact((HLA4.out.nb (grown_on (grown_on (grown_on (grown_on (grown_on (grown_on (nb_set w4 (w.heap.size+1+1) 0 (.slice fb H'.fos.length fd)) (nb_set _ (w.heap.size+1+1) 1 (.slice gb H'.gs.length gd))) (nb_set _ (w.heap.size+1+1) 2 (.slice sb H'.ss.length sd))) (nb_set _ (w.heap.size+1+1) 3 (.int .i64 H'.nx))) (nb_set _ (w.heap.size+1+1) 4 (.int .i64 H'.la))) (nb_set _ (w.heap.size+1+1) 5 (.int .i64 H'.ro))) (nb_set _ (w.heap.size+1+1) 6 (.int .i64 H'.now))) (noStr_hub HR4.out)).nb (grown_on (grown_on (grown_on (grown_on (grown_on (grown_on (nb_set _ (w.heap.size+1+1+1) 0 (.int .i64 A.err)) (nb_set _ (w.heap.size+1+1+1) 1 (.int .i64 A.num))) (nb_set _ (w.heap.size+1+1+1) 2 (.bool A.pg.reset))) (nb_set _ (w.heap.size+1+1+1) 3 (.slice ta A.pg.tree.length tc))) (nb_set _ (w.heap.size+1+1+1) 4 (.slice ca A.pg.cos.length cc))) (nb_set _ (w.heap.size+1+1+1) 5 (.int .i64 A.pg.cur))) (nb_set _ (w.heap.size+1+1+1) 6 (.bool A.pg.more))) (noStr_ans (HA4.out.nb (grown_on (grown_on (grown_on (grown_on (grown_on (grown_on (nb_set w4 (w.heap.size+1+1) 0 (.slice fb H'.fos.length fd)) (nb_set _ (w.heap.size+1+1) 1 (.slice gb H'.gs.length gd))) (nb_set _ (w.heap.size+1+1) 2 (.slice sb H'.ss.length sd))) (nb_set _ (w.heap.size+1+1) 3 (.int .i64 H'.nx))) (nb_set _ (w.heap.size+1+1) 4 (.int .i64 H'.la))) (nb_set _ (w.heap.size+1+1) 5 (.int .i64 H'.ro))) (nb_set _ (w.heap.size+1+1) 6 (.int .i64 H'.now))) (by omega)))).below ((Below.refl _ _).drew)
  · exact(bs7 (b:=w.heap.size+1+1+1) (bs7 (b:=w.heap.size+1+1) hb04 (by show _≤w.heap.size+1+1;omega)) (by show _≤w.heap.size+1+1+1;omega)).drew
def newC (na:ByteArray):List Value:=[.string na,.slice none 0 0,.int .i64 1,.slice none 0 0]
theorem newC_one (na:ByteArray):(newC na).length=4∧ ∀u∈newC na,u.oneCell'=true:=by
 refine⟨rfl,fun u hu=>?_⟩
 simp only[newC,List.mem_cons,List.not_mem_nil,or_false]at hu;rcases hu with rfl|rfl|rfl|rfl<;>rfl
/-- Rows of folders, one of them new, in a world in which the old journals lie. -/
theorem liesF_new {w:World} {v:Value} {l:List Sh} {us:List (Value×Value)} {na:ByteArray} {i:Nat} (hj:JosAt w l us) (hi:i≤l.length) (h:LiesR 4 w v ((rowsF l us).take i++newC na::(rowsF l us).drop i)):LiesF w v (l.take i++⟨na,⟨[],1,[]⟩⟩::l.drop i):=by
 obtain⟨hl,hj⟩:=hj
 have e:(rowsF l us).take i++newC na::(rowsF l us).drop i=rowsF (l.take i++⟨na,⟨[],1,[]⟩⟩::l.drop i) (us.take i++(.slice none 0 0,.slice none 0 0)::us.drop i):=by
  rw[rowsF,rowsF,List.zipWith_append (by simp[hl]),List.zipWith_cons_cons,List.take_zipWith,List.drop_zipWith];rfl
 rw[e]at h;refine liesF_of ⟨by simp[hl],fun k c u hc hu=>?_⟩ h
 rcases Nat.lt_trichotomy k i with hk|hk|hk
 · rw[List.getElem?_append_left (by simp;omega),List.getElem?_take,if_pos hk]at hc hu
   exact hj k c u hc hu
 · subst hk
   rw[List.getElem?_append_right (by simp;omega)]at hc hu;simp[List.length_take,Nat.min_eq_left hi,Nat.min_eq_left (hl▸hi)]at hc hu
   subst hc;subst hu;exact⟨⟨none,0,rfl,Nat.le_refl _,Nat.zero_le _,fun i h=>absurd h (by simp)⟩,liesO_nil _⟩
 · rw[List.getElem?_append_right (by simp;omega)]at hc hu
   rw[List.length_take,Nat.min_eq_left (by omega)]at hc hu;obtain⟨d,rfl⟩: ∃d,k=i+1+d:=⟨k-i-1,by omega⟩
   rw[show i+1+d-i=d+1 by omega,List.getElem?_cons_succ,List.getElem?_drop]at hc hu;exact hj _ c u hc hu
theorem below_none {W W':World} (h:W.grownBy W' none):Below W.heap.size W W':=⟨h.os,h.tape,h.output,h.size,fun k hk=>h.block k hk (by simp)⟩
theorem josAt_row {B:Nat} {W W':World} {v:Value} {l:List Sh} {us:List (Value×Value)} (hj:JosAt W l us) (hx: ∀(i:Nat) (c:Sh) (u:Value×Value),l[i]?=some c→us[i]?=some u→(Own B W u.1∧OwnO B W u.2 c.jo.cos)∧ ∀b,v.ownBlock=some b→Own (b+1) W u.1∧OwnO (b+1) W u.2 c.jo.cos) (hg:W.grownBy W' v.ownBlock):JosAt W' l us:=by
 refine⟨hj.1,fun i c u hc hu=>?_⟩
 have h1:=hj.2 i c u hc hu;cases hb:v.ownBlock with
 |none=>rw[hb]at hg;exact⟨h1.1.below (below_none hg),h1.2.below (below_none hg)⟩
 |some b=>
  rw[hb]at hg;obtain⟨h2,h3⟩:=(hx i c u hc hu).2 b hb
  exact⟨h1.1.nbo hg (fun x hx=>by have:=(h2 x hx).1;omega),(h3.nbo hg (Nat.lt_succ_self _)).lies⟩
set_option maxRecDepth 100000 in
set_option maxHeartbeats 4000000 in
theorem insert_end (B:Nat) (v:Value) (L:List Sh) (na:ByteArray) (h8:L.length≤8):InsOK B v L L.length na:=by
 intro W vb hO hM hc hb;obtain⟨i0,hi0,hz0,hz1,hz2⟩:=info_parts Tryz.infoRF
 have HC:=hid hc;have hvl:=hc.lt;obtain⟨us,hj,hr,ho,hx⟩:=hO
 have hlr:=rowsF_len hj.1;have hrow:=own_of_rm hr hM (ho.mono (Nat.zero_le B));have HLR:=hid hlr;have HJ:=hid hj;have HROW:=hid hrow;have HX:=hid hx;have HONE:=hid (show∀r∈rowsF L us,r.length=4∧ ∀u∈r,u.oneCell'=true from by obtain⟨_,_,_,_,_,h4,_⟩:=hr;exact h4);have HB:=hid hb;obtain⟨fa,fc,rfl,hfc,_⟩:=hr
 rw[hlr]at hrow HROW hfc HX HB
 have hfc':fc≤9223372036854775807∧(fa=none→fc=0):=by
  rcases hM with h|⟨g,n,cap,cur,h,_,_,h4,_⟩
  · injection h with e1 e2 e3;subst e3;exact⟨by omega,fun _=>rfl⟩
  · injection h with e1 e2 e3;subst e3;unfold maxLen at h4;exact⟨by omega,fun h=>by rw[e1]at h;cases h⟩
 rw[hlr];clear hc hb hj hx ho hM hrow hlr;by_cases hq:fc=L.length
 · subst hq
   go_enter Tryz.func126,Tryz.ntmps126
   go_wp2_with (at_builtin;refine wpList_append_own _ rfl _ _ 22 rfl 0 90 i0 (.agg #[.string ⟨#[]⟩,.slice none 0 0,.int .i64 0,.slice none 0 0]) 4 72 Tryz.underlying22 hi0 hz0 hz1 hz2 rfl (by decide) _ _ _ rfl HROW.out ⟨vb,0,none⟩ 1 1 (newC na) rfl rfl ?qc2 (newC_one na).2 (by unfold maxLen;omega) (by omega) (Nat.zero_le _) ?_)
   case qc2=>
    intro j u hj;rw[Addr.add_lit,Nat.zero_add];exact HC.out.cell j hj
   intro v2 w2 ho2 hgr2 hnn2;have HG:=hid hgr2
   have ho3:w2.ownsRow 0 90 4 v2 (rowsF L us++[newC na]).length (rowsF L us++[newC na]).flatten:=by
    have e1:(rowsF L us++[newC na]).length=L.length+1:=by rw[List.length_append,HLR.out];rfl
    have e2:(rowsF L us++[newC na]).flatten=(rowsF L us).flatten++newC na:=by simp
    rw[e1,e2];exact ho2
   have HL:=hid (show LiesF w2 v2 (L.take L.length++⟨na,⟨[],1,[]⟩⟩::L.drop L.length)from liesF_new (josAt_row HJ.out HX.out HG.out) (Nat.le_refl _) (by
    have e3:(rowsF L us).take L.length=rowsF L us:=List.take_of_length_le (by rw[HLR.out];exact Nat.le_refl _);have e4:(rowsF L us).drop L.length=[]:=List.drop_eq_nil_of_le (by rw[HLR.out];exact Nat.le_refl _);rw[e3,e4]
    exact liesR_own ho3 (by rw[List.length_append,HLR.out];simp;omega) (fun r hr=>by
     rcases List.mem_append.1 hr with h|h
     · exact HONE.out r h
     · rw[List.mem_singleton.1 h];exact newC_one na)))
   obtain⟨a2,cap2,hv2,_⟩:=id HL.out
   clear ho2 ho3 hgr2 hnn2;go_wp2_with fail;go_ret;exact⟨_,rfl,HL.out,HG.out⟩
 · skip
   go_enter Tryz.func126,Tryz.ntmps126
   go_wp2_with (at_builtin;refine wpList_append_own _ rfl _ _ 22 rfl 0 90 i0 (.agg #[.string ⟨#[]⟩,.slice none 0 0,.int .i64 0,.slice none 0 0]) 4 72 Tryz.underlying22 hi0 hz0 hz1 hz2 rfl (by decide) _ _ _ rfl HROW.out ⟨vb,0,none⟩ 1 1 (newC na) rfl rfl ?qc2 (newC_one na).2 (by unfold maxLen;omega) (by omega) (Nat.zero_le _) ?_)
   case qc2=>
    intro j u hj;rw[Addr.add_lit,Nat.zero_add];exact HC.out.cell j hj
   intro v2 w2 ho2 hgr2 hnn2;have HG:=hid hgr2
   have ho3:w2.ownsRow 0 90 4 v2 (rowsF L us++[newC na]).length (rowsF L us++[newC na]).flatten:=by
    have e1:(rowsF L us++[newC na]).length=L.length+1:=by rw[List.length_append,HLR.out];rfl
    have e2:(rowsF L us++[newC na]).flatten=(rowsF L us).flatten++newC na:=by simp
    rw[e1,e2];exact ho2
   have HL:=hid (show LiesF w2 v2 (L.take L.length++⟨na,⟨[],1,[]⟩⟩::L.drop L.length)from liesF_new (josAt_row HJ.out HX.out HG.out) (Nat.le_refl _) (by
    have e3:(rowsF L us).take L.length=rowsF L us:=List.take_of_length_le (by rw[HLR.out];exact Nat.le_refl _);have e4:(rowsF L us).drop L.length=[]:=List.drop_eq_nil_of_le (by rw[HLR.out];exact Nat.le_refl _);rw[e3,e4]
    exact liesR_own ho3 (by rw[List.length_append,HLR.out];simp;omega) (fun r hr=>by
     rcases List.mem_append.1 hr with h|h
     · exact HONE.out r h
     · rw[List.mem_singleton.1 h];exact newC_one na)))
   obtain⟨a2,cap2,hv2,_⟩:=id HL.out
   clear ho2 ho3 hgr2 hnn2;go_wp2_with fail;go_ret;exact⟨_,rfl,HL.out,HG.out⟩
theorem Sv.vlt {B:Nat} {w:World} {g mb:Nat} {vf vg vs:Value} {H:Hb} (h:Sv B w g mb vf vg vs H): ∀b,vf.ownBlock=some b→b<w.heap.size:=fun b hb=>by
 obtain⟨_,_,_,ho,_⟩:=h.2.1
 exact ho.lt b hb
theorem serve_make (H:Hb) (q:Rq) (v vq:Value) (w:World) (hv:LiesH w v H) (hs:SizedH H) (hq:LiesQ w vq q) (hsq:SizedQ q) (h0:Hu.hE H=0) (hk:q.kind=8) (hck:Hu.ckE H.gs q=0) (hins: ∀B v,InsOK B v H.fos (Hu.plc H.fos q.fo) q.fo):
    Calls Tryz.prog 8 #[v,vq] w fun e w'=> ∃u a,e= .returned (.tuple #[u,a,.int .i64 0])∧LiesH w' u (Hu.mkH H q.fo q.who)∧LiesA w' a ⟨Hu.mkE H q.fo q.who,0,Jn.zeroP⟩∧Below w.heap.size w w':=by
 obtain⟨_,h1,h2,_⟩:=Hu.h_parts h0
 obtain⟨h3,_,h4⟩:=Hu.cf_parts h1
 refine serve_ok H (Hu.mkH H q.fo q.who) _ q v vq w hv hs hq h0 ?_
 intro B W g mb vf vg vs vq hsv hm hgB hBW hq;exact sanswer_num H _ q vq vf g mb 0 _ W hsv.lies hs.gs hq hsq hck (by rw[hk];decide) (fun W' vq' hW hq'=>snum_make H q vq' vf vg vs B g mb W' (hsv.below hW) hgB (Nat.le_trans hBW hW.size) hs.gs h4 h3 hq' hsq (hins B vf) hk) hsv.vlt
theorem serve_commit (H:Hb) (q:Rq) (v vq:Value) (w:World) (hv:LiesH w v H) (hs:SizedH H) (hq:LiesQ w vq q) (hsq:SizedQ q) (h0:Hu.hE H=0) (hk:q.kind=1) (hck:Hu.ckE H.gs q=0):
    Calls Tryz.prog 8 #[v,vq] w fun e w'=> ∃u a,e= .returned (.tuple #[u,a,.int .i64 0])∧LiesH w' u (Hu.cmH H (Hu.whr H.fos H.gs q.fo) q.key q.ch)∧LiesA w' a ⟨Hu.cmE H (Hu.whr H.fos H.gs q.fo) q.key q.ch,Hu.cmN H (Hu.whr H.fos H.gs q.fo) q.key q.ch,Jn.zeroP⟩∧Below w.heap.size w w':=by
 have hin:Hu.inG H.gs q.fo=true:=Hu.rig_in (h:=q.who) (by have:=(Hu.ck_parts hck).2.2.2;rw[hk]at this;have e:Hu.lst 1=2:=rfl;omega);have hi:Hu.whr H.fos H.gs q.fo<H.fos.length:=(Hu.whr_at h0 hin).elim (fun h _=>h);refine serve_ok H _ _ q v vq w hv hs hq h0 ?_
 intro B W g mb vf vg vs vq hsv hm hgB hBW hq;exact sanswer_num H _ q vq vf g mb _ _ W hsv.lies hs.gs hq hsq hck (by rw[hk];decide) (fun W' vq' hW hq'=>snum_commit H q vq' vf vg vs B g mb _ W' (hsv.below hW) (hm.below hW) hgB hs.fos hq' hsq hi hk) hsv.vlt
namespace Hu
def bA:ByteArray:=⟨#[97]⟩
def bF:ByteArray:=⟨#[102]⟩
def bK:ByteArray:=⟨#[107]⟩
def bL:List Pp.Ch:=[⟨2,⟨#[120]⟩,⟨#[]⟩,⟨#[49]⟩,0⟩]
def b1:Hb:=⟨[],[],[],1,10,1000,0⟩
def b2:Hb:=⟨[⟨bF,⟨[],1,[]⟩⟩],[⟨bF,bA,3⟩],[],1,10,1000,0⟩
def b3:Hb:=⟨[⟨bF,⟨[],1,[⟨1,bK,bL⟩]⟩⟩],[⟨bF,bA,3⟩],[],1,10,1000,0⟩
def q1:Rq:=⟨8,bA,bF,⟨#[]⟩,⟨#[]⟩,⟨#[]⟩,0,0,0,[]⟩
def q2:Rq:=⟨1,bA,bF,⟨#[]⟩,bK,⟨#[]⟩,0,0,0,bL⟩
set_option maxRecDepth 100000
theorem uch1:Pp.uchE [] 1 10 1000=0:=by decide
theorem nw1:nwH 10 1000=b1:=by rw[nwH,if_pos uch1];rfl
theorem he1:hE b1=0:=by decide+kernel
theorem ck1:ckE b1.gs q1=0:=by decide+kernel
theorem ma1:Pp.maE b1.gs bF bA=0:=by decide+kernel
theorem mk1:mkE b1 bF bA=0∧mkH b1 bF bA=b2:=by
 have h:=mk_ok (H:=b1) (f:=bF) (h:=bA) ma1 (by decide);refine⟨h.1,?_⟩
 rw[h.2,Pp.maL_yes ma1];rfl
theorem he2:hE b2=0:=by decide+kernel
theorem ck2:ckE b2.gs q2=0:=by decide+kernel
theorem wh2:whr b2.fos b2.gs bF=0:=by decide+kernel
theorem jo2:joAt b2 0=⟨[],1,[]⟩:=rfl
theorem jchk:Jn.chkE ⟨[],1,[]⟩=0:=by decide
theorem jnew:Jn.newE ⟨[],1,[]⟩ bL=0:=by decide
theorem jkey:Pp.keyB bK.data.toList=true:=by decide
theorem jcom:Jn.comE ⟨[],1,[]⟩ bK bL=0∧Jn.comN ⟨[],1,[]⟩ bK bL=1∧Jn.comR ⟨[],1,[]⟩ bK bL=⟨[],1,[⟨1,bK,bL⟩]⟩:=by
 obtain⟨a,b,c⟩:=Jn.com_add (J:=⟨[],1,[]⟩) (key:=bK) (l:=bL) jchk jkey rfl jnew
 exact⟨a,b,by rw[c];rfl⟩
theorem cm2:cmE b2 0 bK bL=0∧cmN b2 0 bK bL=1∧cmH b2 0 bK bL=b3:=by
 have e:cmE b2 0 bK bL=0:=jcom.1;refine⟨e,jcom.2.1,?_⟩
 rw[cmH,if_pos e,jo2,jcom.2.2];rfl
theorem he3:hE b3=0:=by decide+kernel
theorem tr3:trE b3 bF=0:=by
 rw[trE,he3];decide+kernel
theorem tl3:(trR b3 bF).length=1:=by
 rw[trR,if_pos tr3];decide+kernel
theorem sz1:SizedH b1:=⟨(fun s hs=>by cases hs),(fun s hs=>by cases hs),(fun s hs=>by cases hs)⟩
theorem sz2:SizedH b2:=by
 refine⟨fun s hs=>?_,fun s hs=>?_,fun s hs=>by cases hs⟩
 · rw[List.mem_singleton.1 hs];exact⟨by decide,(fun e he=>by cases he),(fun c hc=>by cases hc)⟩
 · rw[List.mem_singleton.1 hs];exact⟨by decide,by decide⟩
theorem szL:SizedC 150000000000000 bL:=fun c hc=>by rw[List.mem_singleton.1 hc];exact⟨by decide,by decide,by decide⟩
theorem sz3:SizedH b3:=by
 refine⟨fun s hs=>?_,fun s hs=>?_,fun s hs=>by cases hs⟩
 · rw[List.mem_singleton.1 hs];exact⟨by decide,(fun e he=>by cases he),(fun c hc=>by rw[List.mem_singleton.1 hc];exact⟨by decide,szL⟩)⟩
 · rw[List.mem_singleton.1 hs];exact⟨by decide,by decide⟩
theorem szq1:SizedQ q1:=⟨by decide,by decide,by decide,by decide,by decide,fun c hc=>by cases hc⟩
theorem szq2:SizedQ q2:=⟨by decide,by decide,by decide,by decide,by decide,szL⟩
end Hu
end Go.Proofs.YtppdfeehhnofaaaGreatDoor
