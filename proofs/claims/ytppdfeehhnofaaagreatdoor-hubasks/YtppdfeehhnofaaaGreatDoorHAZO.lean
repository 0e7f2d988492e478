/- What the law HubAsks answers: true, for every hub and every request. -/
import Derived.Test.YtppdfeehhnofaaaGreatDoorHAZK
import Derived.Test.YtppdfeehhnofaaaGreatDoorHAZL
import Derived.Test.YtppdfeehhnofaaaGreatDoorHAZM
import Derived.Test.YtppdfeehhnofaaaGreatDoorHAZ
import Derived.Test.YtppdfeehhnofaaaGreatDoorHAZN
import Derived.Test.YtppdfeehhnofaaaGreatDoorHAZJ
import Derived.Test.YtppdfeehhnofaaaGreatDoorHAD
import Derived.Test.YtppdfeehhnofaaaGreatDoorRows
import Derived.Deep.Slices
import Derived.Lib.SmallJoins
import Derived.Carry
import Derived.Test.YtppdfeehhnofaaaGreatDoorHAB
import Derived.SizedLaws
set_option linter.unusedSimpArgs false
set_option linter.unusedVariables false
namespace Go.Proofs.YtppdfeehhnofaaaGreatDoor
open Go.RowKit

/-- Of a hub that passes Check: the text of a request is answered by the text of its answer. -/
theorem text_sent (H:Hb) (q:Rq) (t:ByteArray) (v:Value) (w:World) (hv:LiesH w v H) (hs:SizedH H) (hsl:t.size≤MaxL) (h0:Hu.hE H=0) (h6:5<w.heap.size) (hvs:VarsW w) (hR:Wr.whole (Wr.rqP Wr.gN 1000 t.data.toList)=some q):
    Calls Tryz.prog 7 #[v,.string t] w fun e w'=> ∃u T,e= .returned (.tuple #[u,.string T,.int .i64 0])∧LiesH w' u (Hu.svH H q)∧T=⟨(Wr.bytes (Wr.anI (Hu.svA H q))).toArray⟩∧Below w.heap.size w w':=by
 have hA:=Hu.sv_okA h0 q;have hk:Wr.ok (Wr.anI (Hu.svA H q))=true:=(Wr.ok_an _).2 hA;refine(text_ok H t v w hv hs hsl h0 h6 hvs (by rw[hR];exact hA.wf)).mono ?_
 rintro e w' ⟨u,rfl,hu,hb⟩;rw[hR]at hu⊢;refine⟨u,_,rfl,hu,?_,hb⟩
 show(Wr.fin (Wr.run Wr.e0 (Wr.anI (Hu.svA H q)))).1=_
 rw[Wr.fin_ok hk]
set_option maxRecDepth 100000 in
set_option maxHeartbeats 8000000 in
theorem hubAsks_walk (H:Hb) (q:Rq) (v vq:Value) (w:World) (hv:LiesH w v H) (hs:SizedH H) (hq:LiesQ w vq q) (hsq:SizedQ q) (hwq:WfQ q) (h6:5<w.heap.size) (hvs:VarsW w):
    Calls Tryz.prog 3 #[v,vq] w fun e w'=>e= .returned (.bool true)∧Below w.heap.size w w':=by
 have HVS:=hid (fun W (hW:Below w.heap.size w W)=>hvs.belowB h6 hW);have HWQ:=hid hwq;have H6:=hid h6;clear hvs hwq h6;have HV:=hid hv;have HS:=hid hs;obtain⟨fa,fc,ga,gc,sa,sc,rfl⟩:=hv.shape
 have HQQ:=hid hq;have HSQ:=hid hsq;obtain⟨va,rfl,lq⟩:=hq
 obtain⟨qa,qc,rfl,_⟩:=lq
 obtain⟨wa,hwa⟩: ∃wa,wa=w.alloc (.cells #[.slice fa H.fos.length fc,.slice ga H.gs.length gc,.slice sa H.ss.length sc,.int .i64 H.nx,.int .i64 H.la,.int .i64 H.ro,.int .i64 H.now] 28):=⟨_,rfl⟩
 obtain⟨wz,hwz⟩: ∃wz,wz=wa.alloc (.cells #[.int .i64 q.kind,.string q.who,.string q.fo,.string q.name,.string q.key,.string q.text,.int .i64 q.num,.int .i64 q.off,.int .i64 q.base,.slice qa q.ch.length qc] 31):=⟨_,rfl⟩
 have sa1:wa.heap.size=w.heap.size+1:=by rw[hwa];simp
 have bwa:Below w.heap.size w wa:=by rw[hwa];exact(Below.refl _ _).alloc (Nat.le_refl _) _
 have bwz:Below wa.heap.size wa wz:=by rw[hwz];exact(Below.refl _ _).alloc (Nat.le_refl _) _
 have hbz:Below w.heap.size w wz:=below_tr bwa bwz;have HX:Hid (Cs wz w.heap.size [.slice fa H.fos.length fc,.slice ga H.gs.length gc,.slice sa H.ss.length sc,.int .i64 H.nx,.int .i64 H.la,.int .i64 H.ro,.int .i64 H.now]):=((by rw[hwa];exact Cs.new w [.slice fa H.fos.length fc,.slice ga H.gs.length gc,.slice sa H.ss.length sc,.int .i64 H.nx,.int .i64 H.la,.int .i64 H.ro,.int .i64 H.now] _:Cs wa w.heap.size [.slice fa H.fos.length fc,.slice ga H.gs.length gc,.slice sa H.ss.length sc,.int .i64 H.nx,.int .i64 H.la,.int .i64 H.ro,.int .i64 H.now]).below bwz:Cs wz w.heap.size _)
 have HQX:=hid (show Cs wz (w.heap.size+1) [.int .i64 q.kind,.string q.who,.string q.fo,.string q.name,.string q.key,.string q.text,.int .i64 q.num,.int .i64 q.off,.int .i64 q.base,.slice qa q.ch.length qc]from by rw[←sa1,hwz];exact Cs.new wa [.int .i64 q.kind,.string q.who,.string q.fo,.string q.name,.string q.key,.string q.text,.int .i64 q.num,.int .i64 q.off,.int .i64 q.base,.slice qa q.ch.length qc] _);have hwzz:(w.alloc (.cells #[.slice fa H.fos.length fc,.slice ga H.gs.length gc,.slice sa H.ss.length sc,.int .i64 H.nx,.int .i64 H.la,.int .i64 H.ro,.int .i64 H.now] 28)).alloc (.cells #[.int .i64 q.kind,.string q.who,.string q.fo,.string q.name,.string q.key,.string q.text,.int .i64 q.num,.int .i64 q.off,.int .i64 q.base,.slice qa q.ch.length qc] 31)=wz:=by rw[hwz,hwa]
 have HWZ:=hid hwzz;clear hwa hwz bwa bwz sa1 hwzz hv hs hsq;go_enter Tryz.func3,Tryz.ntmps3
 go_upto_region 1 with fail;rw[HWZ.out];clear HWZ;go_wp2_with fail;refine(hubBegun_yes _).mono ?_
 rintro e w1 ⟨rfl,hb1⟩;have hb01:=below_tr hbz hb1;have HX1:=hid (HX.out.below hb1);have HQ1:=hid (HQX.out.below hb1);have hs1:=hb1.size;have hlz:=HQX.out.lt;have n1:5<w1.heap.size:=by have:=hb01.size;have:=H6.out;omega
 go_wp2_with fail;refine(wireBegun_yes w1 n1 (HVS.out w1 hb01)).mono ?_
 rintro e w2 ⟨rfl,hb2⟩;have hb02:=below_tr hb01 hb2;have HX2:=hid (HX.out.below (below_tr hb1 hb2));have HQ2:=hid (HQX.out.below (below_tr hb1 hb2));have s02:=hb02.size;have hlz:=HQX.out.lt;have s12:=(below_tr hb1 hb2).size;have y0:=HQ2.out.cell 0 rfl;have y1:=HQ2.out.cell 1 rfl;have y2:=HQ2.out.cell 2 rfl;have y3:=HQ2.out.cell 3 rfl;have y4:=HQ2.out.cell 4 rfl;have y5:=HQ2.out.cell 5 rfl;have y6:=HQ2.out.cell 6 rfl;have y7:=HQ2.out.cell 7 rfl;have y8:=HQ2.out.cell 8 rfl;have y9:=HQ2.out.cell 9 rfl;go_wp2_with fail;refine(ask_short q _ w2 (HQQ.out.below hb02) HWQ.out (by have:=H6.out;omega) (HVS.out w2 hb02).pow).mono ?_
 rintro e w3 ⟨⟨t,E,rfl,hE⟩,hb3⟩;have hb03:=below_tr hb02 hb3;clear y0 y1 y2 y3 y4 y5 y6 y7 y8 y9;rcases hE with⟨rfl,hok,ht⟩|⟨hE,_⟩
 · have HOK:=hid hok
   have HT:=hid ht;have HR:=hid (show Wr.whole (Wr.rqP Wr.gN 1000 t.data.toList)=some q from Wr.whole_rq.2 ⟨hok,by rw[ht]⟩);clear hok ht;have HX3:=hid (HX2.out.below hb3);have HQ3:=hid (HQ2.out.below hb3);have HV3:=hid (HV.out.below hb03);have s3:=hb3.size;have x0:=HX3.out.cell 0 rfl;have x1:=HX3.out.cell 1 rfl;have x2:=HX3.out.cell 2 rfl;have x3:=HX3.out.cell 3 rfl;have x4:=HX3.out.cell 4 rfl;have x5:=HX3.out.cell 5 rfl;have x6:=HX3.out.cell 6 rfl;by_cases h0:Hu.hE H=0
   · have H0:=hid h0
     clear h0;go_wp2_with fail;refine(text_sent H q t _ w3 HV3.out HS.out (by rw[HT.out,bytes_len];exact Wr.rq_len HOK.out) H0.out (by have:=H6.out;omega) (HVS.out w3 hb03) HR.out).mono ?_
     rintro e w4 ⟨u4,T,rfl,hu4,hT,hb4⟩;obtain⟨A,hA⟩: ∃A,A=Hu.svA H q:=⟨_,rfl⟩
     obtain⟨K,hK⟩: ∃K,K=Hu.svH H q:=⟨_,rfl⟩
     have HAK:=hid (And.intro hA hK);have HOA:=hid (show Wr.OkA Wr.gN 1000 A by rw[hA];exact Hu.sv_okA H0.out q);rw[←hA]at hT;rw[←hK]at hu4;have HTT:=hid hT;clear hA hK hT x0 x1 x2 x3 x4 x5 x6;obtain⟨fb,fd,gb,gd,sb,sd,rfl⟩:=hu4.shape
     obtain⟨w5,hw5⟩: ∃W,W=w4.alloc (.cells #[.slice fb K.fos.length fd,.slice gb K.gs.length gd,.slice sb K.ss.length sd,.int .i64 K.nx,.int .i64 K.la,.int .i64 K.ro,.int .i64 K.now] 28):=⟨_,rfl⟩
     have hb5:Below w4.heap.size w4 w5:=by rw[hw5];exact below_alloc _ _
     have HK5:=hid (show Cs w5 w4.heap.size [.slice fb K.fos.length fd,.slice gb K.gs.length gd,.slice sb K.ss.length sd,.int .i64 K.nx,.int .i64 K.la,.int .i64 K.ro,.int .i64 K.now] by rw[hw5];exact Cs.new w4 [.slice fb K.fos.length fd,.slice gb K.gs.length gd,.slice sb K.ss.length sd,.int .i64 K.nx,.int .i64 K.la,.int .i64 K.ro,.int .i64 K.now] _);have HU5:=hid (hu4.below hb5);have hb35:=below_tr hb4 hb5;have hb05:=below_tr hb03 hb35;have HX5:=hid (HX3.out.below hb35);have HQ5:=hid (HQ3.out.below hb35);have s5:=hb35.size;have s45:w4.heap.size<w5.heap.size:=HK5.out.lt;go_upto_region 7 with fail;try simp only[World.setCell_alloc_new]
     rw[←hw5];clear hw5 hb5 hu4 hb4 hb35;have x0:=HX5.out.cell 0 rfl;have x1:=HX5.out.cell 1 rfl;have x2:=HX5.out.cell 2 rfl;have x3:=HX5.out.cell 3 rfl;have x4:=HX5.out.cell 4 rfl;have x5:=HX5.out.cell 5 rfl;have x6:=HX5.out.cell 6 rfl;have y0:=HQ5.out.cell 0 rfl;have y1:=HQ5.out.cell 1 rfl;have y2:=HQ5.out.cell 2 rfl;have y3:=HQ5.out.cell 3 rfl;have y4:=HQ5.out.cell 4 rfl;have y5:=HQ5.out.cell 5 rfl;have y6:=HQ5.out.cell 6 rfl;have y7:=HQ5.out.cell 7 rfl;have y8:=HQ5.out.cell 8 rfl;have y9:=HQ5.out.cell 9 rfl;go_wp2_with fail;refine(serve_all H q _ _ w5 (HV.out.below hb05) HS.out (HQQ.out.below hb05) HSQ.out H0.out).mono ?_
     rintro e w6 ⟨u6,a6,rfl,hu6,ha6,hb6⟩;rw[←HAK.out.2]at hu6;rw[←HAK.out.1]at ha6;clear x0 x1 x2 x3 x4 x5 x6 y0 y1 y2 y3 y4 y5 y6 y7 y8 y9;have hb06:=below_tr hb05 hb6;have HK6:=hid (HK5.out.below hb6);have HU6q:=hid (HU5.out.below hb6);have s6:=hb6.size;obtain⟨fa6,fc6,ga6,gc6,sa6,sc6,rfl⟩:=hu6.shape
     obtain⟨ta6,tc6,ca6,cc6,rfl⟩:=ha6.shape
     obtain⟨wa,hwa⟩: ∃wa,wa=w6.alloc (.cells #[.slice fa6 K.fos.length fc6,.slice ga6 K.gs.length gc6,.slice sa6 K.ss.length sc6,.int .i64 K.nx,.int .i64 K.la,.int .i64 K.ro,.int .i64 K.now] 28):=⟨_,rfl⟩
     obtain⟨w7,hwz⟩: ∃wz,wz=wa.alloc (.cells #[.int .i64 A.err,.int .i64 A.num,.bool A.pg.reset,.slice ta6 A.pg.tree.length tc6,.slice ca6 A.pg.cos.length cc6,.int .i64 A.pg.cur,.bool A.pg.more] 43):=⟨_,rfl⟩
     have sa1:wa.heap.size=w6.heap.size+1:=by rw[hwa];simp
     have bwa:Below w6.heap.size w6 wa:=by rw[hwa];exact(Below.refl _ _).alloc (Nat.le_refl _) _
     have bwz:Below wa.heap.size wa w7:=by rw[hwz];exact(Below.refl _ _).alloc (Nat.le_refl _) _
     have hbs6:Below w6.heap.size w6 w7:=below_tr bwa bwz;have HX6:Hid (Cs w7 w6.heap.size [.slice fa6 K.fos.length fc6,.slice ga6 K.gs.length gc6,.slice sa6 K.ss.length sc6,.int .i64 K.nx,.int .i64 K.la,.int .i64 K.ro,.int .i64 K.now]):=((by rw[hwa];exact Cs.new w6 [.slice fa6 K.fos.length fc6,.slice ga6 K.gs.length gc6,.slice sa6 K.ss.length sc6,.int .i64 K.nx,.int .i64 K.la,.int .i64 K.ro,.int .i64 K.now] _:Cs wa w6.heap.size [.slice fa6 K.fos.length fc6,.slice ga6 K.gs.length gc6,.slice sa6 K.ss.length sc6,.int .i64 K.nx,.int .i64 K.la,.int .i64 K.ro,.int .i64 K.now]).below bwz:Cs w7 w6.heap.size _)
     have HA6:=hid (show Cs w7 (w6.heap.size+1) [.int .i64 A.err,.int .i64 A.num,.bool A.pg.reset,.slice ta6 A.pg.tree.length tc6,.slice ca6 A.pg.cos.length cc6,.int .i64 A.pg.cur,.bool A.pg.more]from by rw[←sa1,hwz];exact Cs.new wa [.int .i64 A.err,.int .i64 A.num,.bool A.pg.reset,.slice ta6 A.pg.tree.length tc6,.slice ca6 A.pg.cos.length cc6,.int .i64 A.pg.cur,.bool A.pg.more] _);have hwzz:(w6.alloc (.cells #[.slice fa6 K.fos.length fc6,.slice ga6 K.gs.length gc6,.slice sa6 K.ss.length sc6,.int .i64 K.nx,.int .i64 K.la,.int .i64 K.ro,.int .i64 K.now] 28)).alloc (.cells #[.int .i64 A.err,.int .i64 A.num,.bool A.pg.reset,.slice ta6 A.pg.tree.length tc6,.slice ca6 A.pg.cos.length cc6,.int .i64 A.pg.cur,.bool A.pg.more] 43)=w7:=by rw[hwz,hwa]
     have HWZ:=hid hwzz;have HU6:=hid (hu6.below hbs6);have HN6:=hid (ha6.below hbs6);have hls6:w6.heap.size+1<w7.heap.size:=HA6.out.lt;clear hwa hwz bwa bwz sa1 hwzz hu6 ha6;go_upto_region 8 with fail;rw[HWZ.out];clear HWZ;have hb07:=below_tr hb06 hbs6;have HK7:=hid (HK6.out.below hbs6);have HU7:=hid (HU6q.out.below hbs6);go_wp2_with fail;refine(told_any T w7 (by rw[HTT.out,bytes_len];exact Wr.an_len ((Wr.ok_an A).2 HOA.out)) (by have:=H6.out;have:=hb07.size;omega) (HVS.out w7 hb07)).mono ?_
     rintro e w8 ⟨hp,hb8⟩;have hrr:Wr.whole (Wr.anP Wr.gN 1000 T.data.toList)=some A:=Wr.whole_an.2 ⟨(Wr.ok_an A).2 HOA.out,by rw[HTT.out]⟩;rw[hrr]at hp;obtain⟨v8,rfl,hA8⟩:=hp
     have hla:=hA8.lies (by have:=HOA.out.p.t.1;omega) (by have:=HOA.out.p.o.1;omega) (fun c hc=>by have:=(HOA.out.p.o.2 c hc).c.1;omega);clear hrr hA8;obtain⟨ta8,tc8,ca8,cc8,rfl⟩:=hla.shape
     obtain⟨w9,hw9⟩: ∃W,W=w8.alloc (.cells #[.int .i64 A.err,.int .i64 A.num,.bool A.pg.reset,.slice ta8 A.pg.tree.length tc8,.slice ca8 A.pg.cos.length cc8,.int .i64 A.pg.cur,.bool A.pg.more] 43):=⟨_,rfl⟩
     have hb9:Below w8.heap.size w8 w9:=by rw[hw9];exact below_alloc _ _
     have HA9:=hid (show Cs w9 w8.heap.size [.int .i64 A.err,.int .i64 A.num,.bool A.pg.reset,.slice ta8 A.pg.tree.length tc8,.slice ca8 A.pg.cos.length cc8,.int .i64 A.pg.cur,.bool A.pg.more] by rw[hw9];exact Cs.new w8 [.int .i64 A.err,.int .i64 A.num,.bool A.pg.reset,.slice ta8 A.pg.tree.length tc8,.slice ca8 A.pg.cos.length cc8,.int .i64 A.pg.cur,.bool A.pg.more] _);have HL9:=hid (hla.below hb9);have hb79:=below_tr hb8 hb9;have hb09:=below_tr hb07 hb79;have HX9:=hid (HX6.out.below hb79);have HB9:=hid (HA6.out.below hb79);have HN9:=hid (HN6.out.below hb79);have HU9:=hid (HU6.out.below hb79);have HK9:=hid (HK7.out.below hb79);have HV9:=hid (HU7.out.below hb79);have s9:=hb79.size;have s8:=hb8.size;go_upto_region 11 with fail;try simp only[World.setCell_alloc_new]
     rw[←hw9];clear hw9 hb9 hla hb8 hb79;have x0:=HA9.out.cell 0 rfl;have x1:=HA9.out.cell 1 rfl;have x2:=HA9.out.cell 2 rfl;have x3:=HA9.out.cell 3 rfl;have x4:=HA9.out.cell 4 rfl;have x5:=HA9.out.cell 5 rfl;have x6:=HA9.out.cell 6 rfl;have y0:=HB9.out.cell 0 rfl;have y1:=HB9.out.cell 1 rfl;have y2:=HB9.out.cell 2 rfl;have y3:=HB9.out.cell 3 rfl;have y4:=HB9.out.cell 4 rfl;have y5:=HB9.out.cell 5 rfl;have y6:=HB9.out.cell 6 rfl;go_wp2_with fail;refine(sameAnswer_yes A _ _ w9 HN9.out HL9.out).mono ?_
     rintro e w10 ⟨rfl,hb10⟩;have hb010:=below_tr hb09 hb10;clear x0 x1 x2 x3 x4 x5 x6 y0 y1 y2 y3 y4 y5 y6;have HK10:=hid (HK9.out.below hb10);have HX10:=hid (HX9.out.below hb10);have x0:=HK10.out.cell 0 rfl;have x1:=HK10.out.cell 1 rfl;have x2:=HK10.out.cell 2 rfl;have x3:=HK10.out.cell 3 rfl;have x4:=HK10.out.cell 4 rfl;have x5:=HK10.out.cell 5 rfl;have x6:=HK10.out.cell 6 rfl;have y0:=HX10.out.cell 0 rfl;have y1:=HX10.out.cell 1 rfl;have y2:=HX10.out.cell 2 rfl;have y3:=HX10.out.cell 3 rfl;have y4:=HX10.out.cell 4 rfl;have y5:=HX10.out.cell 5 rfl;have y6:=HX10.out.cell 6 rfl;go_wp2_with fail;refine(sameHub_yes K _ _ w10 (HV9.out.below hb10) (HU9.out.below hb10)).mono ?_
     rintro e w11 ⟨rfl,hb11⟩;have hb011:=below_tr hb010 hb11;go_wp2_with fail;go_ret;exact⟨rfl,hb011⟩
   · obtain⟨r,hrr⟩: ∃r,r=Hu.hE H:=⟨_,rfl⟩
     have H0:Hid (¬Hu.hE H=0):=h0;have hz2:(r !=0)=true:=by rw[hrr];simpa using h0
     have hz:(r==0)=false:=by rw[hrr];simpa using h0
     have HRR:=hid hrr;clear h0 hrr;go_wp2_with fail;refine(text_bad H t _ w3 HV3.out HS.out H0.out).mono ?_
     rintro e w4 ⟨u4,rfl,hu4,hb4⟩;rw[←HRR.out];clear x0 x1 x2 x3 x4 x5 x6;obtain⟨fb,fd,gb,gd,sb,sd,rfl⟩:=hu4.shape
     obtain⟨w5,hw5⟩: ∃W,W=w4.alloc (.cells #[.slice fb zeroH.fos.length fd,.slice gb zeroH.gs.length gd,.slice sb zeroH.ss.length sd,.int .i64 zeroH.nx,.int .i64 zeroH.la,.int .i64 zeroH.ro,.int .i64 zeroH.now] 28):=⟨_,rfl⟩
     have hb5:Below w4.heap.size w4 w5:=by rw[hw5];exact below_alloc _ _
     have hb35:=below_tr hb4 hb5;have hb05:=below_tr hb03 hb35;have HX5:=hid (HX3.out.below hb35);have HQ5:=hid (HQ3.out.below hb35);have s5:=hb35.size;go_upto_region 7 with fail;try simp only[World.setCell_alloc_new]
     rw[←hw5];clear hw5 hb5 hu4 hb4 hb35;have x0:=HX5.out.cell 0 rfl;have x1:=HX5.out.cell 1 rfl;have x2:=HX5.out.cell 2 rfl;have x3:=HX5.out.cell 3 rfl;have x4:=HX5.out.cell 4 rfl;have x5:=HX5.out.cell 5 rfl;have x6:=HX5.out.cell 6 rfl;have y0:=HQ5.out.cell 0 rfl;have y1:=HQ5.out.cell 1 rfl;have y2:=HQ5.out.cell 2 rfl;have y3:=HQ5.out.cell 3 rfl;have y4:=HQ5.out.cell 4 rfl;have y5:=HQ5.out.cell 5 rfl;have y6:=HQ5.out.cell 6 rfl;have y7:=HQ5.out.cell 7 rfl;have y8:=HQ5.out.cell 8 rfl;have y9:=HQ5.out.cell 9 rfl;go_wp2_with fail;refine(serve_bad H q _ _ w5 (HV.out.below hb05) HS.out (HQQ.out.below hb05) H0.out).mono ?_
     rintro e w6 ⟨u6,a6,rfl,hu6,ha6,hb6⟩;rw[←HRR.out];clear x0 x1 x2 x3 x4 x5 x6 y0 y1 y2 y3 y4 y5 y6 y7 y8 y9;have hb06:=below_tr hb05 hb6;obtain⟨fa6,fc6,ga6,gc6,sa6,sc6,rfl⟩:=hu6.shape
     obtain⟨ta6,tc6,ca6,cc6,rfl⟩:=ha6.shape
     obtain⟨wa,hwa⟩: ∃wa,wa=w6.alloc (.cells #[.slice fa6 zeroH.fos.length fc6,.slice ga6 zeroH.gs.length gc6,.slice sa6 zeroH.ss.length sc6,.int .i64 zeroH.nx,.int .i64 zeroH.la,.int .i64 zeroH.ro,.int .i64 zeroH.now] 28):=⟨_,rfl⟩
     obtain⟨w7,hwz⟩: ∃wz,wz=wa.alloc (.cells #[.int .i64 zeroA.err,.int .i64 zeroA.num,.bool zeroA.pg.reset,.slice ta6 zeroA.pg.tree.length tc6,.slice ca6 zeroA.pg.cos.length cc6,.int .i64 zeroA.pg.cur,.bool zeroA.pg.more] 43):=⟨_,rfl⟩
     have sa1:wa.heap.size=w6.heap.size+1:=by rw[hwa];simp
     have bwa:Below w6.heap.size w6 wa:=by rw[hwa];exact(Below.refl _ _).alloc (Nat.le_refl _) _
     have bwz:Below wa.heap.size wa w7:=by rw[hwz];exact(Below.refl _ _).alloc (Nat.le_refl _) _
     have hbs6:Below w6.heap.size w6 w7:=below_tr bwa bwz;have HX6:Hid (Cs w7 w6.heap.size [.slice fa6 zeroH.fos.length fc6,.slice ga6 zeroH.gs.length gc6,.slice sa6 zeroH.ss.length sc6,.int .i64 zeroH.nx,.int .i64 zeroH.la,.int .i64 zeroH.ro,.int .i64 zeroH.now]):=((by rw[hwa];exact Cs.new w6 [.slice fa6 zeroH.fos.length fc6,.slice ga6 zeroH.gs.length gc6,.slice sa6 zeroH.ss.length sc6,.int .i64 zeroH.nx,.int .i64 zeroH.la,.int .i64 zeroH.ro,.int .i64 zeroH.now] _:Cs wa w6.heap.size [.slice fa6 zeroH.fos.length fc6,.slice ga6 zeroH.gs.length gc6,.slice sa6 zeroH.ss.length sc6,.int .i64 zeroH.nx,.int .i64 zeroH.la,.int .i64 zeroH.ro,.int .i64 zeroH.now]).below bwz:Cs w7 w6.heap.size _)
     have HA6:=hid (show Cs w7 (w6.heap.size+1) [.int .i64 zeroA.err,.int .i64 zeroA.num,.bool zeroA.pg.reset,.slice ta6 zeroA.pg.tree.length tc6,.slice ca6 zeroA.pg.cos.length cc6,.int .i64 zeroA.pg.cur,.bool zeroA.pg.more]from by rw[←sa1,hwz];exact Cs.new wa [.int .i64 zeroA.err,.int .i64 zeroA.num,.bool zeroA.pg.reset,.slice ta6 zeroA.pg.tree.length tc6,.slice ca6 zeroA.pg.cos.length cc6,.int .i64 zeroA.pg.cur,.bool zeroA.pg.more] _);have hwzz:(w6.alloc (.cells #[.slice fa6 zeroH.fos.length fc6,.slice ga6 zeroH.gs.length gc6,.slice sa6 zeroH.ss.length sc6,.int .i64 zeroH.nx,.int .i64 zeroH.la,.int .i64 zeroH.ro,.int .i64 zeroH.now] 28)).alloc (.cells #[.int .i64 zeroA.err,.int .i64 zeroA.num,.bool zeroA.pg.reset,.slice ta6 zeroA.pg.tree.length tc6,.slice ca6 zeroA.pg.cos.length cc6,.int .i64 zeroA.pg.cur,.bool zeroA.pg.more] 43)=w7:=by rw[hwz,hwa]
     have HWZ:=hid hwzz;have HU6:=hid (hu6.below hbs6);have HN6:=hid (ha6.below hbs6);have hls6:w6.heap.size+1<w7.heap.size:=HA6.out.lt;clear hwa hwz bwa bwz sa1 hwzz hu6 ha6;go_upto_region 8 with fail;rw[HWZ.out];clear HWZ;have hb07:=below_tr hb06 hbs6;go_wp2_with fail;go_ret;exact⟨rfl,hb07⟩
 · have hE2:(E==0)=false:=by simpa using hE
   have hE3:(E !=0)=true:=by simpa using hE
   go_wp2_with fail;go_ret;exact⟨rfl,hb03⟩
end Go.Proofs.YtppdfeehhnofaaaGreatDoor
namespace Go.Proofs.YtppdfeehhnofaaaGreatDoor
open Go.ChangeShapes Go.WideShapes Go.ChangeAt Go.RowKit

namespace Bk
theorem mem {H:Type} {d:DataW H}: ∀{l:List (DataW H)},d∈l→Rows.uptoBulk d≤Rows.uptoBulkAll l
 |[],h=>by cases h
 |x::r,h=>by
  rw[Rows.uptoBulkAll];rcases List.mem_cons.1 h with rfl|h
  · omega
  · have:=mem h;omega
theorem len {H:Type}: ∀{l:List (DataW H)},(∀d∈l,1≤Rows.uptoBulk d)→l.length≤Rows.uptoBulkAll l
 |[],_=>Nat.zero_le _
 |x::r,h=>by
  rw[Rows.uptoBulkAll,List.length_cons];have h1:=h x (by simp);have h2:=len (l:=r) fun d hd=>h d (by simp[hd])
  omega
end Bk

theorem Tryz.cellsE:Tryz.prog.cellsOf 128=4:=by kernel_rfl
theorem Tryz.cells9:Tryz.prog.cellsOf 9=1:=by kernel_rfl
theorem Tryz.cells4:Tryz.prog.cellsOf 4=1:=by kernel_rfl
theorem Tryz.cells3:Tryz.prog.cellsOf 3=1:=by kernel_rfl
def datE {H:Type} (e:En):DataW H:= .agg [.lit (.string e.path.data.toList),.lit (.bool e.folder),.lit (.string e.text.data.toList),.lit (.int .i64 e.ver)]
theorem list4 {α:Type} {l:List α} (h:l.length=4): ∃a b c d,l=[a,b,c,d]:=by
 rcases l with _|⟨a,_|⟨b,_|⟨c,_|⟨d,_|⟨e,r⟩⟩⟩⟩⟩
 all_goals first|exact⟨a,b,c,d,rfl⟩|(simp at h)
theorem spot_none {W:World} {a:Addr} {v:Value} (k:W.cell? a=some v):a.spot=none:=by
 unfold World.cell? at k;cases hq:a.spot with
 |none=>rfl
 |some z=>rw[hq]at k;simp at k;split at k<;>cases k
/-- One entry of a tree that is handed in. -/
theorem open_entry {H:Type} {enc:TypeId×Value→H} {W:World} {n i:Nat} {a:Addr} {x:DataW H} {pl:List MemPlace} {cs':List Value} (ha:a.spot=none)
    (h1:W.cells? 0 (a.add (i*Tryz.prog.cellsOf 128)) (Tryz.prog.cellsOf 128)=some cs') (h2:DataW.trod enc Tryz.prog W 0 (fun _=>true) true n 128 cs'=some (x,pl)):
    ∃e:En,x=datE e∧a.spot=none∧EnAt W a.block (a.off+i*4) e:=by
 rw[Tryz.cellsE]at h1;obtain⟨_,hlen,hc⟩:=World.cells?_some h1
 obtain⟨y0,y1,y2,y3,n',hx',_,t0,t1,t2,t3⟩:=Go.Joins.trod_struct4 Tryz.underlying128 h2
 obtain⟨c0,c1,c2,c3,rfl⟩:=list4 hlen
 have t0':DataW.trod enc Tryz.prog W 0 (fun _=>true) true n' 9 [c0]=some y0:=by simpa[Tryz.cells9]using t0
 have t1':DataW.trod enc Tryz.prog W 0 (fun _=>true) true n' 4 [c1]=some y1:=by simpa[Tryz.cells4]using t1
 have t2':DataW.trod enc Tryz.prog W 0 (fun _=>true) true n' 9 [c2]=some y2:=by simpa[Tryz.cells9]using t2
 have t3':DataW.trod enc Tryz.prog W 0 (fun _=>true) true n' 3 [c3]=some y3:=by simpa[Tryz.cells3]using t3
 obtain⟨s0,e0,g0,_⟩:=DataW.trod_string Tryz.underlying9 t0'
 obtain⟨s1,e1,g1⟩:=DataW.trod_bool Tryz.underlying4 t1'
 obtain⟨s2,e2,g2,_⟩:=DataW.trod_string Tryz.underlying9 t2'
 obtain⟨s3,e3,g3,_⟩:=DataW.trod_int Tryz.underlying3 t3'
 obtain rfl:c0= .string s0:=by simpa using e0
 obtain rfl:c1= .bool s1:=by simpa using e1
 obtain rfl:c2= .string s2:=by simpa using e2
 obtain rfl:c3= .int .i64 s3:=by simpa using e3
 subst g0;subst g1;subst g2;subst g3;simp only[Prod.mk.injEq]at hx';have k0:=hc 0 (by omega);have k1:=hc 1 (by omega);have k2:=hc 2 (by omega);have k3:=hc 3 (by omega);obtain⟨ab,ao,asp⟩:=a
 obtain rfl:asp=none:=ha;refine⟨⟨s0,s1,s2,s3⟩,hx'.1,rfl,?_,?_,?_,?_⟩
 · by_cases hi0:i=0
   · subst hi0;simpa[Addr.add]using k0
   · have hi4:i*4≠0:=by omega
     simpa[Addr.add,hi4]using k0
 · by_cases hi0:i=0
   · subst hi0;simpa[Addr.add]using k1
   · have hi4:i*4≠0:=by omega
     simpa[Addr.add,hi4,Nat.add_assoc]using k1
 · by_cases hi0:i=0
   · subst hi0;simpa[Addr.add]using k2
   · have hi4:i*4≠0:=by omega
     simpa[Addr.add,hi4,Nat.add_assoc]using k2
 · by_cases hi0:i=0
   · subst hi0;simpa[Addr.add]using k3
   · have hi4:i*4≠0:=by omega
     simpa[Addr.add,hi4,Nat.add_assoc]using k3
end Go.Proofs.YtppdfeehhnofaaaGreatDoor
namespace Go.Proofs.YtppdfeehhnofaaaGreatDoor
open Go.ChangeShapes Go.WideShapes Go.ChangeAt Go.RowKit

theorem Tryz.cellsC:Tryz.prog.cellsOf 54=5:=by kernel_rfl
theorem list5 {α:Type} {l:List α} (h:l.length=5): ∃a b c d e,l=[a,b,c,d,e]:=by
 rcases l with _|⟨a,_|⟨b,_|⟨c,_|⟨d,_|⟨e,_|⟨f,r⟩⟩⟩⟩⟩⟩
 all_goals first|exact⟨a,b,c,d,e,rfl⟩|(simp at h)
theorem fields5 {H:Type} {enc:TypeId×Value→H} {P:Program} {w:World} {base:Nat} {spare:Nat→Bool} {held:Bool} {t:TypeId} {f0 f1 f2 f3 f4:Field} {fuel:Nat} {cs:List Value} {x:DataW H×List MemPlace} (ht:P.underlying t=some (.struct #[f0,f1,f2,f3,f4])) (h:DataW.trod enc P w base spare held fuel t cs=some x):
    ∃y0 y1 y2 y3 y4 n,x=(.agg [y0.1,y1.1,y2.1,y3.1,y4.1],y0.2++(y1.2++(y2.2++(y3.2++y4.2))))∧cs.length=P.cellsOf t∧DataW.trod enc P w base spare held n f0.type ((cs.drop f0.offset).take (P.cellsOf f0.type))=some y0∧
     DataW.trod enc P w base spare held n f1.type ((cs.drop f1.offset).take (P.cellsOf f1.type))=some y1∧DataW.trod enc P w base spare held n f2.type ((cs.drop f2.offset).take (P.cellsOf f2.type))=some y2∧
     DataW.trod enc P w base spare held n f3.type ((cs.drop f3.offset).take (P.cellsOf f3.type))=some y3∧DataW.trod enc P w base spare held n f4.type ((cs.drop f4.offset).take (P.cellsOf f4.type))=some y4:=by
 obtain⟨xs,n,_,rfl,hl,hlen,hf⟩:=DataW.trod_struct ht h
 match xs,hlen with
 |[y0,y1,y2,y3,y4],_=>exact⟨y0,y1,y2,y3,y4,n,by simp,hl,by simpa using hf 0 f0 rfl,by simpa using hf 1 f1 rfl,by simpa using hf 2 f2 rfl,by simpa using hf 3 f3 rfl,by simpa using hf 4 f4 rfl⟩
def datC {H:Type} (c:Pp.Ch):DataW H:= .agg [.lit (.int .i64 c.k),.lit (.string c.p.data.toList),.lit (.string c.q.data.toList),.lit (.string c.t.data.toList),.lit (.int .i64 c.b)]
/-- One change of a list that is handed in. -/
theorem open_ch {H:Type} {enc:TypeId×Value→H} {W:World} {n i:Nat} {a:Addr} {x:DataW H} {pl:List MemPlace} {cs':List Value} (ha:a.spot=none)
    (h1:W.cells? 0 (a.add (i*Tryz.prog.cellsOf 54)) (Tryz.prog.cellsOf 54)=some cs') (h2:DataW.trod enc Tryz.prog W 0 (fun _=>true) true n 54 cs'=some (x,pl)):
    ∃c:Pp.Ch,x=datC c∧a.spot=none∧ChAt W a.block (a.off+i*5) c:=by
 rw[Tryz.cellsC]at h1;obtain⟨_,hlen,hc⟩:=World.cells?_some h1
 obtain⟨y0,y1,y2,y3,y4,n',hx',_,t0,t1,t2,t3,t4⟩:=fields5 Tryz.underlying54 h2
 obtain⟨c0,c1,c2,c3,c4,rfl⟩:=list5 hlen
 have t0':DataW.trod enc Tryz.prog W 0 (fun _=>true) true n' 3 [c0]=some y0:=by simpa[Tryz.cells3]using t0
 have t1':DataW.trod enc Tryz.prog W 0 (fun _=>true) true n' 9 [c1]=some y1:=by simpa[Tryz.cells9]using t1
 have t2':DataW.trod enc Tryz.prog W 0 (fun _=>true) true n' 9 [c2]=some y2:=by simpa[Tryz.cells9]using t2
 have t3':DataW.trod enc Tryz.prog W 0 (fun _=>true) true n' 9 [c3]=some y3:=by simpa[Tryz.cells9]using t3
 have t4':DataW.trod enc Tryz.prog W 0 (fun _=>true) true n' 3 [c4]=some y4:=by simpa[Tryz.cells3]using t4
 obtain⟨s0,e0,g0,_⟩:=DataW.trod_int Tryz.underlying3 t0'
 obtain⟨s1,e1,g1,_⟩:=DataW.trod_string Tryz.underlying9 t1'
 obtain⟨s2,e2,g2,_⟩:=DataW.trod_string Tryz.underlying9 t2'
 obtain⟨s3,e3,g3,_⟩:=DataW.trod_string Tryz.underlying9 t3'
 obtain⟨s4,e4,g4,_⟩:=DataW.trod_int Tryz.underlying3 t4'
 obtain rfl:c0= .int .i64 s0:=by simpa using e0
 obtain rfl:c1= .string s1:=by simpa using e1
 obtain rfl:c2= .string s2:=by simpa using e2
 obtain rfl:c3= .string s3:=by simpa using e3
 obtain rfl:c4= .int .i64 s4:=by simpa using e4
 subst g0;subst g1;subst g2;subst g3;subst g4;simp only[Prod.mk.injEq]at hx';have k0:=hc 0 (by omega);have k1:=hc 1 (by omega);have k2:=hc 2 (by omega);have k3:=hc 3 (by omega);have k4:=hc 4 (by omega);obtain⟨ab,ao,asp⟩:=a
 obtain rfl:asp=none:=ha;refine⟨⟨s0,s1,s2,s3,s4⟩,hx'.1,rfl,?_,?_,?_,?_,?_⟩
 · by_cases hi0:i=0
   · subst hi0;simpa[Addr.add]using k0
   · have hi4:i*5≠0:=by omega
     simpa[Addr.add,hi4]using k0
 · by_cases hi0:i=0
   · subst hi0;simpa[Addr.add]using k1
   · have hi4:i*5≠0:=by omega
     simpa[Addr.add,hi4,Nat.add_assoc]using k1
 · by_cases hi0:i=0
   · subst hi0;simpa[Addr.add]using k2
   · have hi4:i*5≠0:=by omega
     simpa[Addr.add,hi4,Nat.add_assoc]using k2
 · by_cases hi0:i=0
   · subst hi0;simpa[Addr.add]using k3
   · have hi4:i*5≠0:=by omega
     simpa[Addr.add,hi4,Nat.add_assoc]using k3
 · by_cases hi0:i=0
   · subst hi0;simpa[Addr.add]using k4
   · have hi4:i*5≠0:=by omega
     simpa[Addr.add,hi4,Nat.add_assoc]using k4
theorem Tryz.cellsCo:Tryz.prog.cellsOf 132=3:=by kernel_rfl
theorem Tryz.cellsSC:Tryz.prog.cellsOf 29=1:=by kernel_rfl
theorem Tryz.cellsSO:Tryz.prog.cellsOf 39=1:=by kernel_rfl
theorem Tryz.cellsSE:Tryz.prog.cellsOf 38=1:=by kernel_rfl
theorem list3 {α:Type} {l:List α} (h:l.length=3): ∃a b c,l=[a,b,c]:=by
 rcases l with _|⟨a,_|⟨b,_|⟨c,_|⟨d,r⟩⟩⟩⟩
 all_goals first|exact⟨a,b,c,rfl⟩|(simp at h)
theorem fields3 {H:Type} {enc:TypeId×Value→H} {P:Program} {w:World} {base:Nat} {spare:Nat→Bool} {held:Bool} {t:TypeId} {f0 f1 f2:Field} {fuel:Nat} {cs:List Value} {x:DataW H×List MemPlace} (ht:P.underlying t=some (.struct #[f0,f1,f2])) (h:DataW.trod enc P w base spare held fuel t cs=some x):
    ∃y0 y1 y2 n,x=(.agg [y0.1,y1.1,y2.1],y0.2++(y1.2++y2.2))∧cs.length=P.cellsOf t∧DataW.trod enc P w base spare held n f0.type ((cs.drop f0.offset).take (P.cellsOf f0.type))=some y0∧
     DataW.trod enc P w base spare held n f1.type ((cs.drop f1.offset).take (P.cellsOf f1.type))=some y1∧DataW.trod enc P w base spare held n f2.type ((cs.drop f2.offset).take (P.cellsOf f2.type))=some y2:=by
 obtain⟨xs,n,_,rfl,hl,hlen,hf⟩:=DataW.trod_struct ht h
 match xs,hlen with
 |[y0,y1,y2],_=>exact⟨y0,y1,y2,n,by simp,hl,by simpa using hf 0 f0 rfl,by simpa using hf 1 f1 rfl,by simpa using hf 2 f2 rfl⟩
theorem Tryz.bytesE:Tryz.prog.bytesOf 128=48:=by kernel_rfl
theorem all_mem {H:Type} {P:Program} {e:TypeId}: ∀{l:List (DataW H)} {d:DataW H},d∈l→ ∀n∈d.weights P e,n∈DataW.weightsAll P e l
 |[],_,h=>by cases h
 |x::r,d,h=>by
  intro n hn;rw[DataW.weightsAll];rcases List.mem_cons.1 h with rfl|h
  · exact List.mem_append_left _ hn
  · exact List.mem_append_right _ (all_mem h n hn)
set_option maxRecDepth 100000 in
theorem open_tree_w {H:Type} {enc:TypeId×Value→H} {W:World} {v:Value} {d:DataW H} {p:List MemPlace} {fuel:Nat} (hf:DataW.trod enc Tryz.prog W 0 (fun _=>true) true fuel 38 [v]=some (d,p)) (hk: ∀n∈d.weights Tryz.prog 38,n≤reachBytes):
    ∃L:List En,Lies W v L∧ ∀e∈L,e.path.size≤reachBytes∧e.text.size≤reachBytes:=by
 haveI:Inhabited En:=⟨⟨⟨#[]⟩,false,⟨#[]⟩,0⟩⟩
 rcases Go.Deep.open_slice Tryz.underlying38 hf with⟨hcs,hx⟩|⟨a,len,cap,m,n,D,Pl,hcs,hb,hl,hm,hmm,hx,hel⟩
 · obtain rfl:v= .slice none 0 0:=by simpa using hcs
   exact⟨[],⟨none,0,rfl,Nat.le_refl _,by simp,fun i hi=>absurd hi (by simp)⟩,fun e he=>by cases he⟩
 obtain rfl:v= .slice (some a) len cap:=by simpa using hcs
 have hm2:m=cap:=hmm.trans (if_pos rfl);clear hmm;have hd:=(Prod.mk.inj hx).1;clear hx;subst hm2
 have hsp:0<len→a.spot=none:=fun h=>by
  obtain⟨cs',h1,_⟩:=hel 0 (by omega)
  rw[Tryz.cellsE]at h1;obtain⟨_,hlen,hc⟩:=World.cells?_some h1
  obtain⟨c0,c1,c2,c3,rfl⟩:=list4 hlen
  have k0:=hc 0 (by omega);exact spot_none (v:=c0) (by simpa[Addr.add]using k0)
 have each: ∀i,i<len→ ∃e:En,D i=datE e∧a.spot=none∧EnAt W a.block (a.off+i*4) e:=fun i hi=>by
  obtain⟨cs',h1,h2⟩:=hel i (by omega)
  exact open_entry (hsp (by omega)) h1 h2
 obtain⟨E,hE⟩:=Go.Deep.choose_lt each
 obtain⟨sp,hd'⟩: ∃sp,d= .slice ((List.range len).map D) sp:=⟨_,hd⟩
 have hlen48:(len+sp.length)*48≤reachBytes:=by
  have:=hk ((len+sp.length)*48) (by
   rw[hd',DataW.weights];simp only[Tryz.underlying38,Tryz.bytesE,List.length_map,List.length_range];exact List.mem_cons_self ..)
  exact this
 have hel2: ∀i,i<len→ ∀n∈(D i).weights Tryz.prog 128,n≤reachBytes:=fun i hi n hn=>hk n (by
  rw[hd',DataW.weights];simp only[Tryz.underlying38];refine List.mem_cons_of_mem _ (List.mem_append_left _ (all_mem (List.mem_map.2 ⟨i,List.mem_range.2 hi,rfl⟩) n hn)))
 have hrb:reachBytes=140737488351232:=by decide
 refine⟨(List.range len).map E,⟨some a,_,by simp;rfl,by simpa using hl,?_,fun i hi=>?_⟩,fun e he=>?_⟩
 · rw[hrb]at hlen48
   simp only[List.length_map,List.length_range];omega
 · have hi':i<len:=by simpa using hi
   obtain⟨h1,h2,h3⟩:=hE i hi'
   have hlt:a.block<W.heap.size:=by
    have k:=h3.1;rcases Nat.lt_or_ge a.block W.heap.size with h|h
    · exact h
    · unfold World.cell? at k;rw[Array.getElem?_eq_none h]at k;cases k
   refine⟨a.block,a.off,?_,hlt,by simpa using h3⟩
   rw[←h2]
 · obtain⟨i,hi,rfl⟩:=List.mem_map.1 he
   have h1:=hel2 i (List.mem_range.1 hi);rw[(hE i (List.mem_range.1 hi)).1]at h1
   have hw:DataW.weights Tryz.prog 128 (datE (H:=H) (E i))=[(E i).path.data.toList.length,(E i).text.data.toList.length]:=by
    rw[datE,DataW.weights];simp only[Tryz.underlying128];simp[DataW.weightsEach,DataW.weights]
   rw[hw]at h1;rw[Lib.size_eq,Lib.size_eq];exact⟨h1 _ (by simp),h1 _ (by simp)⟩
theorem Tryz.bytesCh:Tryz.prog.bytesOf 54=64:=by kernel_rfl
set_option maxRecDepth 100000 in
theorem open_changes_w {H:Type} {enc:TypeId×Value→H} {W:World} {v:Value} {d:DataW H} {p:List MemPlace} {fuel:Nat} (hf:DataW.trod enc Tryz.prog W 0 (fun _=>true) true fuel 29 [v]=some (d,p)) (hk: ∀n∈d.weights Tryz.prog 29,n≤reachBytes):
    ∃cs:List Pp.Ch,LiesC W v cs∧SizedC reachBytes cs:=by
 haveI:Inhabited Pp.Ch:=⟨⟨0,⟨#[]⟩,⟨#[]⟩,⟨#[]⟩,0⟩⟩
 rcases Go.Deep.open_slice Tryz.underlying29 hf with⟨hcs,hx⟩|⟨a,len,cap,m,n,D,Pl,hcs,hb,hl,hm,hmm,hx,hel⟩
 · obtain rfl:v= .slice none 0 0:=by simpa using hcs
   exact⟨[],⟨none,0,rfl,Nat.le_refl _,by simp,fun i hi=>absurd hi (by simp)⟩,fun e he=>by cases he⟩
 obtain rfl:v= .slice (some a) len cap:=by simpa using hcs
 have hm2:m=cap:=hmm.trans (if_pos rfl);clear hmm;have hd:=(Prod.mk.inj hx).1;clear hx;subst hm2
 have hsp:0<len→a.spot=none:=fun h=>by
  obtain⟨cs',h1,_⟩:=hel 0 (by omega)
  rw[Tryz.cellsC]at h1;obtain⟨_,hlen,hc⟩:=World.cells?_some h1
  obtain⟨c0,c1,c2,c3,c4,rfl⟩:=list5 hlen
  have k0:=hc 0 (by omega);exact spot_none (v:=c0) (by simpa[Addr.add]using k0)
 have each: ∀i,i<len→ ∃e:Pp.Ch,D i=datC e∧a.spot=none∧ChAt W a.block (a.off+i*5) e:=fun i hi=>by
  obtain⟨cs',h1,h2⟩:=hel i (by omega)
  exact open_ch (hsp (by omega)) h1 h2
 obtain⟨E,hE⟩:=Go.Deep.choose_lt each
 obtain⟨sp,hd'⟩: ∃sp,d= .slice ((List.range len).map D) sp:=⟨_,hd⟩
 have hlen64:(len+sp.length)*64≤reachBytes:=by
  have:=hk ((len+sp.length)*64) (by
   rw[hd',DataW.weights];simp only[Tryz.underlying29,Tryz.bytesCh,List.length_map,List.length_range];exact List.mem_cons_self ..)
  exact this
 have hel2: ∀i,i<len→ ∀n∈(D i).weights Tryz.prog 54,n≤reachBytes:=fun i hi n hn=>hk n (by
  rw[hd',DataW.weights];simp only[Tryz.underlying29];refine List.mem_cons_of_mem _ (List.mem_append_left _ (all_mem (List.mem_map.2 ⟨i,List.mem_range.2 hi,rfl⟩) n hn)))
 have hrb:reachBytes=140737488351232:=by decide
 refine⟨(List.range len).map E,⟨some a,_,by simp;rfl,by simpa using hl,?_,fun i hi=>?_⟩,fun e he=>?_⟩
 · rw[hrb]at hlen64
   simp only[List.length_map,List.length_range];omega
 · have hi':i<len:=by simpa using hi
   obtain⟨h1,h2,h3⟩:=hE i hi'
   have hlt:a.block<W.heap.size:=by
    have k:=h3.1;rcases Nat.lt_or_ge a.block W.heap.size with h|h
    · exact h
    · unfold World.cell? at k;rw[Array.getElem?_eq_none h]at k;cases k
   refine⟨a.block,a.off,?_,hlt,by simpa using h3⟩
   rw[←h2]
 · obtain⟨i,hi,rfl⟩:=List.mem_map.1 he
   have h1:=hel2 i (List.mem_range.1 hi);rw[(hE i (List.mem_range.1 hi)).1]at h1
   have hw:DataW.weights Tryz.prog 54 (datC (H:=H) (E i))=[(E i).p.data.toList.length,(E i).q.data.toList.length,(E i).t.data.toList.length]:=by
    rw[datC,DataW.weights];simp only[Tryz.underlying54];simp[DataW.weightsEach,DataW.weights]
   rw[hw]at h1;rw[Lib.size_eq,Lib.size_eq,Lib.size_eq];exact⟨h1 _ (by simp),h1 _ (by simp),h1 _ (by simp)⟩
end Go.Proofs.YtppdfeehhnofaaaGreatDoor
