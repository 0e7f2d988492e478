/- What hub.Text answers, of a hub that passes Check, and of one that does not. -/
import Derived.Test.YtppdfeehhnofaaaGreatDoorHAZD
import Derived.Test.YtppdfeehhnofaaaGreatDoorHAZH
import Derived.Test.YtppdfeehhnofaaaGreatDoorHAZI
import Derived.Test.YtppdfeehhnofaaaGreatDoorHAZJ
import Derived.Deep.Cut
import Derived.Deep.CutRange
import Derived.Test.YtppdfeehhnofaaaGreatDoorHAK
import Derived.Test.YtppdfeehhnofaaaGreatDoorHAR
import Derived.Test.YtppdfeehhnofaaaGreatDoorHAY
import Derived.Test.YtppdfeehhnofaaaGreatDoorHAZB
import Derived.Test.YtppdfeehhnofaaaGreatDoorHAS
import Derived.Test.YtppdfeehhnofaaaGreatDoorHAJ
import Derived.Test.YtppdfeehhnofaaaGreatDoorHAQ
import Derived.Test.YtppdfeehhnofaaaGreatDoorProg
import Derived.WalkKit
import Derived.Carry
import Derived.Test.YtppdfeehhnofaaaGreatDoorHAB
set_option linter.unusedSimpArgs false
set_option linter.unusedVariables false
namespace Go.Proofs.YtppdfeehhnofaaaGreatDoor
open Go.RowKit

namespace Hu
/-- What a text is answered, and what it leaves. -/
def txA (H:Hb) (o:Option Rq):An:=match o with
 |none=>⟨1,0,Jn.zeroP⟩
 |some q=>svA H q
def txH (H:Hb) (o:Option Rq):Hb:=match o with
 |none=>H
 |some q=>svH H q
end Hu
theorem Wr.OkQ.sized {q:Rq} (h:Wr.OkQ Wr.gN 1000 q):SizedQ q:=by
 have hx: ∀x:ByteArray,(Wr.gN x.size=true∧(x.size:Int)≤1000)→x.size≤150000000000000:=fun x hx=>by omega
 exact⟨hx _ h.who,hx _ h.fo,hx _ h.name,hx _ h.key,hx _ h.text,fun c hc=>⟨hx _ (h.ch.2 c hc).p,hx _ (h.ch.2 c hc).q,hx _ (h.ch.2 c hc).t⟩⟩
set_option maxRecDepth 100000 in
set_option maxHeartbeats 4000000 in
theorem text_bad (H:Hb) (s:ByteArray) (v:Value) (w:World) (hv:LiesH w v H) (hs:SizedH H) (h0: ¬Hu.hE H=0):
    Calls Tryz.prog 7 #[v,.string s] w fun e w'=> ∃u,e= .returned (.tuple #[u,.string ⟨#[]⟩,.int .i64 (Hu.hE H)])∧LiesH w' u zeroH∧Below w.heap.size w w':=by
 obtain⟨r,hrr⟩: ∃r,r=Hu.hE H:=⟨_,rfl⟩
 rw[←hrr]at h0⊢;have HRR:=hid hrr;have H0:=hid h0;clear h0 hrr;have HV:=hid hv;have HS:=hid hs;obtain⟨fa,fc,ga,gc,sa,sc,rfl⟩:=hv.shape
 obtain⟨wa,hwa⟩: ∃wa,wa=w.alloc (.cells #[.slice fa H.fos.length fc,.slice ga H.gs.length gc,.slice sa H.ss.length sc,.int .i64 H.nx,.int .i64 H.la,.int .i64 H.ro,.int .i64 H.now] 28):=⟨_,rfl⟩
 obtain⟨wz,hwz⟩: ∃wz,wz=wa.alloc (.cells #[.slice none 0 0,.slice none 0 0,.slice none 0 0,.int .i64 0,.int .i64 0,.int .i64 0,.int .i64 0] 28):=⟨_,rfl⟩
 have sa1:wa.heap.size=w.heap.size+1:=by rw[hwa];simp
 have bwa:Below w.heap.size w wa:=by rw[hwa];exact below_alloc _ _
 have bwz:Below wa.heap.size wa wz:=by rw[hwz];exact below_alloc _ _
 have hbz:Below w.heap.size w wz:=below_tr bwa bwz;have HX:=hid ((show Cs wa w.heap.size [.slice fa H.fos.length fc,.slice ga H.gs.length gc,.slice sa H.ss.length sc,.int .i64 H.nx,.int .i64 H.la,.int .i64 H.ro,.int .i64 H.now] by rw[hwa];exact Cs.new w [.slice fa H.fos.length fc,.slice ga H.gs.length gc,.slice sa H.ss.length sc,.int .i64 H.nx,.int .i64 H.la,.int .i64 H.ro,.int .i64 H.now] _).below bwz);have HRX:=hid (show Cs wz (w.heap.size+1) [.slice none 0 0,.slice none 0 0,.slice none 0 0,.int .i64 0,.int .i64 0,.int .i64 0,.int .i64 0] by rw[←sa1,hwz];exact Cs.new wa [.slice none 0 0,.slice none 0 0,.slice none 0 0,.int .i64 0,.int .i64 0,.int .i64 0,.int .i64 0] _);have HWZ:=hid (show(w.alloc (.cells #[.slice fa H.fos.length fc,.slice ga H.gs.length gc,.slice sa H.ss.length sc,.int .i64 H.nx,.int .i64 H.la,.int .i64 H.ro,.int .i64 H.now] 28)).alloc (.cells #[.slice none 0 0,.slice none 0 0,.slice none 0 0,.int .i64 0,.int .i64 0,.int .i64 0,.int .i64 0] 28)=wz by rw[hwz,hwa]);clear hwa hwz bwa bwz sa1 hv hs;have hsz:w.heap.size+1<wz.heap.size:=HRX.out.lt;have x0:=HX.out.cell 0 rfl;have x1:=HX.out.cell 1 rfl;have x2:=HX.out.cell 2 rfl;have x3:=HX.out.cell 3 rfl;have x4:=HX.out.cell 4 rfl;have x5:=HX.out.cell 5 rfl;have x6:=HX.out.cell 6 rfl;go_enter Tryz.func7,Tryz.ntmps7
 go_upto_region 1 with fail;rw[HWZ.out];clear HWZ;go_wp2_with fail;refine(serving_any H _ _ (HV.out.below hbz) HS.out).mono ?_
 rintro e w1 ⟨p,rfl,hok,hbad,hb1⟩;clear x0 x1 x2 x3 x4 x5 x6;have hb01:=below_tr hbz hb1;have HR1:=hid (HRX.out.below hb1);have hs1:=hb1.size;rw[←HRR.out];have hz:(r==0)=false:=by simpa using H0.out
 have hz2:(r !=0)=true:=by simpa using H0.out
 clear hok hbad;have p0:=HR1.out.cell 0 rfl;have f0:=HR1.out.fr 0;have p1:=HR1.out.cell 1 rfl;have f1:=HR1.out.fr 1;have p2:=HR1.out.cell 2 rfl;have f2:=HR1.out.fr 2;have p3:=HR1.out.cell 3 rfl;have f3:=HR1.out.fr 3;have p4:=HR1.out.cell 4 rfl;have f4:=HR1.out.fr 4;have p5:=HR1.out.cell 5 rfl;have f5:=HR1.out.fr 5;have p6:=HR1.out.cell 6 rfl;have f6:=HR1.out.fr 6;go_wp2_with fail;refine bodyPost_ret (v:= .tuple #[.agg #[.slice none 0 0,.slice none 0 0,.slice none 0 0,.int .i64 0,.int .i64 0,.int .i64 0,.int .i64 0],.string ⟨#[]⟩,.int .i64 r]) (by simp[results,Tryz.results7,go_sem,p0,p1,p2,p3,p4,p5,p6]) rfl ⟨_,rfl,liesH_zero _,?_⟩
 exact(bs7 (b:=w.heap.size+1) hb01 (by show _≤w.heap.size+1;omega))
set_option maxRecDepth 100000 in
set_option maxHeartbeats 8000000 in
theorem text_ok (H:Hb) (s:ByteArray) (v:Value) (w:World) (hv:LiesH w v H) (hs:SizedH H) (hsl:s.size≤MaxL) (h0:Hu.hE H=0) (h6:5<w.heap.size) (hvs:VarsW w) (hwf:WfA (Hu.txA H (Wr.whole (Wr.rqP Wr.gN 1000 s.data.toList)))):
    Calls Tryz.prog 7 #[v,.string s] w fun e w'=> ∃u,e= .returned (.tuple #[u,.string (Wr.fin (Wr.run Wr.e0 (Wr.anI (Hu.txA H (Wr.whole (Wr.rqP Wr.gN 1000 s.data.toList)))))).1,.int .i64 0])∧LiesH w' u (Hu.txH H (Wr.whole (Wr.rqP Wr.gN 1000 s.data.toList)))∧Below w.heap.size w w':=by
 have H0:=hid h0;have HVS:=hid (fun W (hW:Below w.heap.size w W)=>hvs.belowB h6 hW);have HSL:=hid hsl;obtain⟨A,hA⟩: ∃A,A=Hu.txA H (Wr.whole (Wr.rqP Wr.gN 1000 s.data.toList)):=⟨_,rfl⟩
 obtain⟨H',hH'⟩: ∃H',H'=Hu.txH H (Wr.whole (Wr.rqP Wr.gN 1000 s.data.toList)):=⟨_,rfl⟩
 rw[←hA]at hwf⊢;rw[←hH'];have HAH:=hid (And.intro hA hH');have HWF:=hid hwf;clear h0 hvs hsl hA hH' hwf;have HV:=hid hv;have HS:=hid hs;obtain⟨fa,fc,ga,gc,sa,sc,rfl⟩:=hv.shape
 obtain⟨wa,hwa⟩: ∃wa,wa=w.alloc (.cells #[.slice fa H.fos.length fc,.slice ga H.gs.length gc,.slice sa H.ss.length sc,.int .i64 H.nx,.int .i64 H.la,.int .i64 H.ro,.int .i64 H.now] 28):=⟨_,rfl⟩
 obtain⟨wz,hwz⟩: ∃wz,wz=wa.alloc (.cells #[.slice none 0 0,.slice none 0 0,.slice none 0 0,.int .i64 0,.int .i64 0,.int .i64 0,.int .i64 0] 28):=⟨_,rfl⟩
 have sa1:wa.heap.size=w.heap.size+1:=by rw[hwa];simp
 have bwa:Below w.heap.size w wa:=by rw[hwa];exact below_alloc _ _
 have bwz:Below wa.heap.size wa wz:=by rw[hwz];exact below_alloc _ _
 have hbz:Below w.heap.size w wz:=below_tr bwa bwz;have HX:=hid ((show Cs wa w.heap.size [.slice fa H.fos.length fc,.slice ga H.gs.length gc,.slice sa H.ss.length sc,.int .i64 H.nx,.int .i64 H.la,.int .i64 H.ro,.int .i64 H.now] by rw[hwa];exact Cs.new w [.slice fa H.fos.length fc,.slice ga H.gs.length gc,.slice sa H.ss.length sc,.int .i64 H.nx,.int .i64 H.la,.int .i64 H.ro,.int .i64 H.now] _).below bwz);have HRX:=hid (show Cs wz (w.heap.size+1) [.slice none 0 0,.slice none 0 0,.slice none 0 0,.int .i64 0,.int .i64 0,.int .i64 0,.int .i64 0] by rw[←sa1,hwz];exact Cs.new wa [.slice none 0 0,.slice none 0 0,.slice none 0 0,.int .i64 0,.int .i64 0,.int .i64 0,.int .i64 0] _);have HWZ:=hid (show(w.alloc (.cells #[.slice fa H.fos.length fc,.slice ga H.gs.length gc,.slice sa H.ss.length sc,.int .i64 H.nx,.int .i64 H.la,.int .i64 H.ro,.int .i64 H.now] 28)).alloc (.cells #[.slice none 0 0,.slice none 0 0,.slice none 0 0,.int .i64 0,.int .i64 0,.int .i64 0,.int .i64 0] 28)=wz by rw[hwz,hwa]);clear hwa hwz bwa bwz sa1 hv hs;have hsz:w.heap.size+1<wz.heap.size:=HRX.out.lt;have x0:=HX.out.cell 0 rfl;have x1:=HX.out.cell 1 rfl;have x2:=HX.out.cell 2 rfl;have x3:=HX.out.cell 3 rfl;have x4:=HX.out.cell 4 rfl;have x5:=HX.out.cell 5 rfl;have x6:=HX.out.cell 6 rfl;go_enter Tryz.func7,Tryz.ntmps7
 go_upto_region 1 with fail;rw[HWZ.out];clear HWZ;go_wp2_with fail;refine(serving_any H _ _ (HV.out.below hbz) HS.out).mono ?_
 rintro e w1 ⟨p,rfl,hok,hbad,hb1⟩;clear x0 x1 x2 x3 x4 x5 x6;have hb01:=below_tr hbz hb1;have HR1:=hid (HRX.out.below hb1);have hs1:=hb1.size;obtain⟨rfl,B,vf,vg,vs,hB1,hB2,hsv,hm⟩:=hok H0.out
 have HSV:=hid hsv;have HM:=hid hm;have HVB:=hid (show∀b,vf.ownBlock=some b→B≤b∧b<w1.heap.size from fun b hb=>by obtain⟨_,_,_,ho,_⟩:=hsv.2.1;exact⟨(ho b hb).1,ho.lt b hb⟩);have HGL:Hid (wz.heap.size+1+1<w1.heap.size):=hsv.1.lt;rw[H0.out];clear hok hbad hsv hm;obtain⟨w2,hw2⟩: ∃w2,w2=w1.alloc (.cells #[.int .i64 1,.int .i64 0,.bool false,.slice none 0 0,.slice none 0 0,.int .i64 0,.bool false] 43):=⟨_,rfl⟩
 have hb2:Below w1.heap.size w1 w2:=by rw[hw2];exact below_alloc _ _
 have HC2:=hid (show Cs w2 w1.heap.size [.int .i64 1,.int .i64 0,.bool false,.slice none 0 0,.slice none 0 0,.int .i64 0,.bool false] by rw[hw2];exact Cs.new w1 _ _);have hb02:=below_tr hb01 hb2;have HB12:=hid hb2;have HAK:=hid (asked_any s w2 HSL.out (by have:=hb02.size;omega) (HVS.out w2 hb02));obtain⟨res,hres⟩: ∃res,res=Wr.whole (Wr.rqP Wr.gN 1000 s.data.toList):=⟨_,rfl⟩
 have HRES:=hid hres;rw[←hres]at HAK HAH;have HB02:=hid hb02;go_upto_region 5 with fail;rw[←hw2];clear hw2 hb2 hb02 hres;go_wp2_with fail;refine HAK.out.mono ?_
 rintro e w3 ⟨hp,hb3⟩;have HB23:=hid hb3;clear HAK
 obtain⟨a,c,E,q,rfl,hLq,hEq⟩: ∃a c E q,e= .returned (.tuple #[.agg #[.int .i64 q.kind,.string q.who,.string q.fo,.string q.name,.string q.key,.string q.text,.int .i64 q.num,.int .i64 q.off,.int .i64 q.base,.slice a q.ch.length c],.int .i64 E])∧LiesC w3 (.slice a q.ch.length c) q.ch∧((E=0∧res=some q)∨(E=1∧res=none)):=by
  rw[HRES.out]at hp⊢;obtain⟨a,c,he,hl⟩:=whq_lies hp
  refine⟨a,c,_,_,he,hl,?_⟩
  cases hr:Wr.whole (Wr.rqP Wr.gN 1000 s.data.toList)with
  |none=>exact Or.inr ⟨rfl,rfl⟩
  |some z=>exact Or.inl ⟨rfl,rfl⟩
 obtain⟨w4,hw4⟩: ∃w4,w4=w3.alloc (.cells #[.int .i64 q.kind,.string q.who,.string q.fo,.string q.name,.string q.key,.string q.text,.int .i64 q.num,.int .i64 q.off,.int .i64 q.base,.slice a q.ch.length c] 31):=⟨_,rfl⟩
 have hb4:Below w3.heap.size w3 w4:=by rw[hw4];exact below_alloc _ _
 have HQ4:=hid (show Cs w4 w3.heap.size [.int .i64 q.kind,.string q.who,.string q.fo,.string q.name,.string q.key,.string q.text,.int .i64 q.num,.int .i64 q.off,.int .i64 q.base,.slice a q.ch.length c] by rw[hw4];exact Cs.new w3 _ _);have HLQ:=hid (hLq.below hb4);have hb14:=below_tr HB12.out (below_tr hb3 hb4);have HB14:=hid hb14;have hb04:=hb01.trans (hb14.mono hb01.size);have HB04:=hid hb04;have HC4:=hid (HC2.out.below (below_tr hb3 hb4));have HR4:=hid (HR1.out.below hb14);have HS4:=hid (HSV.out.below hb14);have HM4:=hid (HM.out.below hb14);have s4:=hb14.size;have HE:=hid hEq;go_upto_if 30 with fail;rw[←hw4];clear hw4 hb4 hp hLq hb3 hEq hb04 hb14;go_cut [5]from 31 to 34 (fun x W=>x= .string ⟨#[]⟩∧ ∃ta tc ca cc,Hid (Cs W w1.heap.size [.int .i64 A.err,.int .i64 A.num,.bool A.pg.reset,.slice ta A.pg.tree.length tc,.slice ca A.pg.cos.length cc,.int .i64 A.pg.cur,.bool A.pg.more])∧Hid (LiesA W (.agg #[.int .i64 A.err,.int .i64 A.num,.bool A.pg.reset,.slice ta A.pg.tree.length tc,.slice ca A.pg.cos.length cc,.int .i64 A.pg.cur,.bool A.pg.more]) A)∧Hid (SvL W (wz.heap.size+1+1) (wz.heap.size+1) H')∧Hid (Cs W (w.heap.size+1) [.slice none 0 0,.slice none 0 0,.slice none 0 0,.int .i64 0,.int .i64 0,.int .i64 0,.int .i64 0])∧Hid (Below w.heap.size w W))
 case first=>
  rcases HE.out with⟨rfl,hr⟩|⟨rfl,hr⟩
  · rw[hr]at HAH
    have HSQ:=hid (show SizedQ q from((Wr.ok_rq q).1 (Wr.whole_rq.1 (HRES.out.symm.trans hr)).1).sized);have HAN:=hid (ans_any H q HS.out HSQ.out H0.out B w4 (wz.heap.size+1+1) (wz.heap.size+1) vf vg vs (.agg #[.int .i64 q.kind,.string q.who,.string q.fo,.string q.name,.string q.key,.string q.text,.int .i64 q.num,.int .i64 q.off,.int .i64 q.base,.slice a q.ch.length c]) HS4.out HM4.out (by omega) (Nat.le_trans hB2 s4) ⟨_,rfl,HLQ.out⟩);clear hr HE;have x0:=HQ4.out.cell 0 rfl;have x1:=HQ4.out.cell 1 rfl;have x2:=HQ4.out.cell 2 rfl;have x3:=HQ4.out.cell 3 rfl;have x4:=HQ4.out.cell 4 rfl;have x5:=HQ4.out.cell 5 rfl;have x6:=HQ4.out.cell 6 rfl;have x7:=HQ4.out.cell 7 rfl;have x8:=HQ4.out.cell 8 rfl;have x9:=HQ4.out.cell 9 rfl;have y0:=HC4.out.cell 0 rfl;have f0:=HC4.out.fr 0;have y1:=HC4.out.cell 1 rfl;have f1:=HC4.out.fr 1;have y2:=HC4.out.cell 2 rfl;have f2:=HC4.out.fr 2;have y3:=HC4.out.cell 3 rfl;have f3:=HC4.out.fr 3;have y4:=HC4.out.cell 4 rfl;have f4:=HC4.out.fr 4;have y5:=HC4.out.cell 5 rfl;have f5:=HC4.out.fr 5;have y6:=HC4.out.cell 6 rfl;have f6:=HC4.out.fr 6;go_wp2_with fail;refine HAN.out.mono ?_
    rintro z w5 ⟨u5,rfl,hA5,hsv5,hn5⟩;have hgl:=HGL.out
    have hbo:wz.heap.size≤bo vf (wz.heap.size+1+1)∧bo vf (wz.heap.size+1+1)<w1.heap.size:=by
     rw[bo];cases hb:vf.ownBlock with
     |none=>show wz.heap.size≤wz.heap.size+1+1∧wz.heap.size+1+1<w1.heap.size;omega
     |some b=>show wz.heap.size≤b∧b<w1.heap.size;have:=HVB.out b hb;omega
    have HC5:=hid (HC4.out.nb2 hn5 (by omega) (by omega));have HR5:=hid (HR4.out.nb2 hn5 (by omega) (by omega));have hb45:Below wz.heap.size w4 w5:=hn5.to (by omega) (by omega) hbo.1;have HB5:=hid (HB04.out.trans (hb45.mono (by omega)));have HLA5:=hid hA5;have HSV5:=hid hsv5;obtain⟨ta,tc,ca,cc,rfl⟩:=hA5.shape
    clear hA5 hsv5 hn5 x0 x1 x2 x3 x4 x5 x6 x7 x8 x9 y0 y1 y2 y3 y4 y5 y6 f0 f1 f2 f3 f4 f5 f6 HAN;have y0:=HC5.out.cell 0 rfl;have f0:=HC5.out.fr 0;have y1:=HC5.out.cell 1 rfl;have f1:=HC5.out.fr 1;have y2:=HC5.out.cell 2 rfl;have f2:=HC5.out.fr 2;have y3:=HC5.out.cell 3 rfl;have f3:=HC5.out.fr 3;have y4:=HC5.out.cell 4 rfl;have f4:=HC5.out.fr 4;have y5:=HC5.out.cell 5 rfl;have f5:=HC5.out.fr 5;have y6:=HC5.out.cell 6 rfl;have f6:=HC5.out.fr 6;have h1A:A=Hu.svA H q:=HAH.out.1;have h1H:H'=Hu.svH H q:=HAH.out.2;rw[←h1A]at HLA5⊢;rw[←h1H]at HSV5;clear h1A h1H;obtain⟨w6,hw6⟩: ∃W,W=(((((((w5.setCell ⟨w1.heap.size,0,none⟩ (.int .i64 A.err)).setCell ⟨w1.heap.size,1,none⟩ (.int .i64 A.num)).setCell ⟨w1.heap.size,2,none⟩ (.bool A.pg.reset)).setCell ⟨w1.heap.size,3,none⟩ (.slice ta A.pg.tree.length tc)).setCell ⟨w1.heap.size,4,none⟩ (.slice ca A.pg.cos.length cc)).setCell ⟨w1.heap.size,5,none⟩ (.int .i64 A.pg.cur)).setCell ⟨w1.heap.size,6,none⟩ (.bool A.pg.more)):=⟨_,rfl⟩
    have hns:=noStr_ans HC5.out;have hnw:w5.grownBy w6 (some w1.heap.size):=by rw[hw6];exact(grown_on (grown_on (grown_on (grown_on (grown_on (grown_on (nb_set w5 (w1.heap.size) 0 (.int .i64 A.err)) (nb_set _ (w1.heap.size) 1 (.int .i64 A.num))) (nb_set _ (w1.heap.size) 2 (.bool A.pg.reset))) (nb_set _ (w1.heap.size) 3 (.slice ta A.pg.tree.length tc))) (nb_set _ (w1.heap.size) 4 (.slice ca A.pg.cos.length cc))) (nb_set _ (w1.heap.size) 5 (.int .i64 A.pg.cur))) (nb_set _ (w1.heap.size) 6 (.bool A.pg.more)))
    have HC6:=hid (show Cs w6 w1.heap.size [.int .i64 A.err,.int .i64 A.num,.bool A.pg.reset,.slice ta A.pg.tree.length tc,.slice ca A.pg.cos.length cc,.int .i64 A.pg.cur,.bool A.pg.more] by rw[hw6];exact(((((((HC5.out.set 0 (.int .i64 A.err)).set 1 (.int .i64 A.num)).set 2 (.bool A.pg.reset)).set 3 (.slice ta A.pg.tree.length tc)).set 4 (.slice ca A.pg.cos.length cc)).set 5 (.int .i64 A.pg.cur)).set 6 (.bool A.pg.more)));have HB6:=hid (show Below w.heap.size w w6 by rw[hw6];exact(bs7 (b:=w1.heap.size) HB5.out (by have:=hb01.size;omega)));have HA6:=hid (HLA5.out.nb hnw hns);have HV6:=hid (HSV5.out.nb hnw hns (by omega));have HR6:=hid (HR5.out.nb hnw (by omega));clear hns hnw;go_wp2_with fail;rw[←hw6];clear hw6;go_meet
    case rel=>exact⟨rfl,ta,tc,ca,cc,HC6,HA6,HV6,HR6,HB6⟩
  · rw[hr]at HAH
    have h1A:A=⟨1,0,Jn.zeroP⟩:=HAH.out.1;have h1H:H'=H:=HAH.out.2;have HE2:=hid (And.intro h1A h1H);clear hr HE h1A h1H;go_wp2_with fail;go_meet
    case rel=>
     refine⟨rfl,none,0,none,0,?_,?_,?_,HR4,HB04⟩
     · rw[HE2.out.1];exact HC4
     · rw[HE2.out.1];exact hid (liesA_num _ 1 0)
     · rw[HE2.out.2];exact hid HS4.out.lies
 case rest=>
 obtain⟨rfl,ta,tc,ca,cc,HC6,HLA6,HSV6,HR6,HB6⟩:=hcut
 have y0:=HC6.out.cell 0 rfl;have y1:=HC6.out.cell 1 rfl;have y2:=HC6.out.cell 2 rfl;have y3:=HC6.out.cell 3 rfl;have y4:=HC6.out.cell 4 rfl;have y5:=HC6.out.cell 5 rfl;have y6:=HC6.out.cell 6 rfl;have HT:=hid (wtell_any A _ wc HLA6.out HWF.out (by have:=HB6.out.size;omega) (HVS.out wc HB6.out).pow);clear HC4 HR4 HS4 HM4 HQ4 HLQ HE HC2;go_wp2_with fail;refine HT.out.mono ?_
 rintro e w7 ⟨rfl,hb7⟩;have HB7:=hid (HB6.out.trans (hb7.mono HB6.out.size));have HSV7:=hid (HSV6.out.below hb7);have HR7:=hid (HR6.out.below hb7);obtain⟨fb,fd,gb,gd,sb,sd,hC7,hH7⟩:=HSV7.out.hub
 have HH7:=hid hH7;have HC7:=hid hC7;clear hH7 hC7 HT hb7 y0 y1 y2 y3 y4 y5 y6;have x0:=HC7.out.cell 0 rfl;have x1:=HC7.out.cell 1 rfl;have x2:=HC7.out.cell 2 rfl;have x3:=HC7.out.cell 3 rfl;have x4:=HC7.out.cell 4 rfl;have x5:=HC7.out.cell 5 rfl;have x6:=HC7.out.cell 6 rfl;have p0:=HR7.out.cell 0 rfl;have f0:=HR7.out.fr 0;have p1:=HR7.out.cell 1 rfl;have f1:=HR7.out.fr 1;have p2:=HR7.out.cell 2 rfl;have f2:=HR7.out.fr 2;have p3:=HR7.out.cell 3 rfl;have f3:=HR7.out.fr 3;have p4:=HR7.out.cell 4 rfl;have f4:=HR7.out.fr 4;have p5:=HR7.out.cell 5 rfl;have f5:=HR7.out.fr 5;have p6:=HR7.out.cell 6 rfl;have f6:=HR7.out.fr 6;have n1: ¬wz.heap.size+1+1=w.heap.size+1:=by omega
 have n2: ¬w.heap.size+1=wz.heap.size+1+1:=by omega
 go_wp2_with fail;refine bodyPost_ret (v:= .tuple #[.agg #[.slice fb H'.fos.length fd,.slice gb H'.gs.length gd,.slice sb H'.ss.length sd,.int .i64 H'.nx,.int .i64 H'.la,.int .i64 H'.ro,.int .i64 H'.now],.string (Wr.fin (Wr.run Wr.e0 (Wr.anI A))).1,.int .i64 0]) (by simp[results,Tryz.results7,go_sem,p0,p1,p2,p3,p4,p5,p6]) rfl ⟨_,rfl,?_,?_⟩
 · exact HH7.out.nb (grown_on (grown_on (grown_on (grown_on (grown_on (grown_on (nb_set w7 (w.heap.size+1) 0 (.slice fb H'.fos.length fd)) (nb_set _ (w.heap.size+1) 1 (.slice gb H'.gs.length gd))) (nb_set _ (w.heap.size+1) 2 (.slice sb H'.ss.length sd))) (nb_set _ (w.heap.size+1) 3 (.int .i64 H'.nx))) (nb_set _ (w.heap.size+1) 4 (.int .i64 H'.la))) (nb_set _ (w.heap.size+1) 5 (.int .i64 H'.ro))) (nb_set _ (w.heap.size+1) 6 (.int .i64 H'.now))) (noStr_hub HR7.out)
 · exact(bs7 (b:=w.heap.size+1) HB7.out (by show _≤w.heap.size+1;omega))
end Go.Proofs.YtppdfeehhnofaaaGreatDoor
namespace Go.Proofs.YtppdfeehhnofaaaGreatDoor
open Go.RowKit

namespace Jn
theorem run_cons {n:Int} {T S:List En} {c:Co} {r:List Co} (h:runJ n T (c::r)=(0,S)):coE c n=0∧Pp.allE T c.ch c.nu=0∧runJ (n+1) (Pp.allR T c.ch c.nu) r=(0,S):=by
 have h1:=run_first (n:=n) (T:=T) (c:=c) (r:=r) (by rw[h]);rw[runJ,if_neg (fun x=>x h1.1),if_neg (fun x=>x h1.2)]at h;exact⟨h1.1,h1.2,h⟩
end Jn
namespace Jn
end Jn
end Go.Proofs.YtppdfeehhnofaaaGreatDoor
namespace Go.Proofs.YtppdfeehhnofaaaGreatDoor
open Go.RowKit
namespace Hu

theorem shs_iff: ∀{L:List Sh},shsE L=0↔ ∀s∈L,shE s=0
 |[]=>by simp[shsE]
 |s::r=>by
  rw[shsE];by_cases h:shE s=0
  · rw[if_neg (fun x=>x h),shs_iff];simp[h]
  · rw[if_pos h];simp[h]
end Hu
end Go.Proofs.YtppdfeehhnofaaaGreatDoor
namespace Go.Proofs.YtppdfeehhnofaaaGreatDoor
open Go.RowKit

namespace Hu
theorem cnt_none {L:List Sh} {x:List UInt8} (h: ∀s∈L,s.na.data.toList≠x):L.filter (fun s=>s.na.data.toList==x)=[]:=by
 rw[List.filter_eq_nil_iff];intro s hs he;exact h s hs (by simpa using he)
end Hu

end Go.Proofs.YtppdfeehhnofaaaGreatDoor
namespace Go.Proofs.YtppdfeehhnofaaaGreatDoor
open Go.RowKit
namespace Hu
theorem ck_in {H:Hb} {q:Rq} (hck:ckE H.gs q=0) (hk:q.kind=1∨q.kind=2∨q.kind=3∨q.kind=7):inG H.gs q.fo=true:=by
 refine rig_in (h:=q.who) ?_
 have h:=(ck_parts hck).2.2.2;have e1:lst 1=2:=rfl;have e2:lst 2=1:=rfl;have e3:lst 3=1:=rfl;have e7:lst 7=2:=rfl;rcases hk with hk|hk|hk|hk<;>rw[hk]at h<;>omega
theorem ck_at {H:Hb} {q:Rq} (h:hE H=0) (hck:ckE H.gs q=0) (hk:q.kind=1∨q.kind=2∨q.kind=3∨q.kind=7):whr H.fos H.gs q.fo<H.fos.length:=(whr_at h (ck_in hck hk)).elim (fun h _=>h)
end Hu
end Go.Proofs.YtppdfeehhnofaaaGreatDoor
namespace Go.Proofs.YtppdfeehhnofaaaGreatDoor
open Go.RowKit

namespace Jn
theorem run_last: ∀{n:Int} {T:List En} {l:List Co},(runJ n T l).1=0→l=[]∨n-1+l.length≤1000000
 |n,T,[],_=>Or.inl rfl
 |n,T,c::r,h=>by
  right
  rw[runJ]at h;by_cases h1:coE c n=0
  · rw[if_neg (fun x=>x h1)]at h
    have hn:n≤1000000:=by
     rw[coE]at h1;by_cases a:c.nu=n
     · rw[if_neg (fun x=>x a)]at h1
       by_cases b:1000000<n
       · rw[if_pos b]at h1;cases h1
       · omega
     · rw[if_pos a]at h1;cases h1
    by_cases h2:Pp.allE T c.ch c.nu=0
    · rw[if_neg (fun x=>x h2)]at h
      rcases run_last h with h3|h3
      · rw[h3];simp;omega
      · simp;omega
    · rw[if_pos h2]at h;exact absurd h h2
  · rw[if_pos h1]at h;exact absurd h h1
theorem last_range {J:Jo} (h:chkE J=0):0≤last J∧last J≤1000000:=by
 obtain⟨_,h2,_,h4,_⟩:=chk_parts h
 obtain⟨f1,f2⟩:=ver_iff.1 h2
 rw[last];refine⟨by omega,?_⟩
 rcases run_last (show(runJ J.first J.base J.cos).1=0 by rw[h4])with h3|h3
 · rw[h3];simp;omega
 · exact h3
end Jn
end Go.Proofs.YtppdfeehhnofaaaGreatDoor
namespace Go.Proofs.YtppdfeehhnofaaaGreatDoor
open Go.RowKit

namespace Jn
theorem run_nums: ∀{n:Int} {T:List En} {l:List Co},(runJ n T l).1=0→ ∀(i:Nat) (h:i<l.length),l[i].nu=n+i
 |n,T,[],_,i,h=>absurd h (by simp)
 |n,T,c::r,h,i,hi=>by
  rw[runJ]at h;by_cases h0:coE c n=0
  · rw[if_neg (fun x=>x h0)]at h
    by_cases h1:Pp.allE T c.ch c.nu=0
    · rw[if_neg (fun x=>x h1)]at h
      cases i with
      |zero=>
       rw[coE]at h0;by_cases a:c.nu=n
       · simp[a]
       · rw[if_pos a]at h0;cases h0
      |succ j=>
       have:=run_nums h j (by simpa using hi)
       simp only[List.getElem_cons_succ];omega
    · rw[if_pos h1]at h;exact absurd h h1
  · rw[if_pos h0]at h;exact absurd h h0
end Jn
end Go.Proofs.YtppdfeehhnofaaaGreatDoor
namespace Go.Proofs.YtppdfeehhnofaaaGreatDoor
open Go.RowKit

/-- An error's number. -/
def Sm (e:Int):Prop:=0≤e∧e≤10
theorem sm_ite {p:Prop} [Decidable p] {a b:Int} (ha:Sm a) (hb:Sm b):Sm (if p then a else b):=by split<;>assumption
theorem sm_n (n:Nat) (h:n≤10):Sm (n:Int):=⟨by omega,by omega⟩
namespace Pp
theorem sm_ver (n:Int):Sm (verE n):=sm_ite (sm_n 3 (by omega)) (sm_n 0 (by omega))
theorem sm_chk (l:List UInt8):Sm (chk l):=by
 unfold chk;split
 · split<;>exact⟨by decide,by decide⟩
 · exact⟨by decide,by decide⟩
theorem sm_fold (L:List En) (p:List UInt8):Sm (foldE L p):=by rcases foldE_range L p with h|h|h<;>rw[h]<;>exact⟨by decide,by decide⟩
theorem sm_chg (c:Ch):Sm (chgE c):=by
 unfold chgE;exact sm_ite (sm_n 7 (by omega)) (sm_ite (sm_chk _) (sm_ite (sm_chk _) (sm_ite (sm_n 1 (by omega)) (sm_ite (sm_n 2 (by omega)) (sm_ite (sm_n 3 (by omega)) (sm_n 0 (by omega)))))))
theorem sm_plc (L:List En) (c:Ch):Sm (plcE L c):=by
 unfold plcE;refine sm_ite (sm_fold _ _) ?_
 split
 · exact sm_ite (sm_n 5 (by omega)) (sm_n 0 (by omega))
 · exact sm_ite (sm_n 6 (by omega)) (sm_ite (sm_ite (sm_n 4 (by omega)) (sm_n 0 (by omega))) (sm_ite (sm_ite (sm_n 3 (by omega)) (sm_ite (sm_n 6 (by omega)) (sm_n 0 (by omega)))) (sm_n 0 (by omega))))
theorem sm_app (L:List En) (c:Ch) (n:Int):Sm (appE L c n):=by
 unfold appE chdE;exact sm_ite (sm_ver _) (sm_ite (sm_chg _) (sm_ite (sm_plc _ _) (sm_ite (sm_n 8 (by omega)) (sm_ite (sm_ite (sm_n 2 (by omega)) (sm_n 0 (by omega))) (sm_ite (sm_ite (sm_n 2 (by omega)) (sm_n 0 (by omega))) (sm_n 0 (by omega)))))))
theorem sm_run (n:Int): ∀(cs:List Ch) (T:List En),Sm (runF n T cs).2.1
 |[],T=>sm_n 0 (by omega)
 |c::r,T=>by
  rw[runF];split
  · exact sm_run n r _
  · exact sm_app T c n
theorem sm_ent (e:En):Sm (entE e):=by
 unfold entE;exact sm_ite (sm_ite (sm_n 1 (by omega)) (sm_ite (sm_n 2 (by omega)) (sm_ver _))) (sm_chk _)
theorem sm_ents: ∀(L:List En),Sm (entsE L)
 |[]=>sm_n 0 (by omega)
 |e::r=>sm_ite (sm_ents r) (sm_ent e)
theorem sm_tree (L:List En):Sm (treeE L):=by
 unfold treeE parsE;exact sm_ite (sm_n 2 (by omega)) (sm_ite (sm_ite (sm_ite (sm_n 5 (by omega)) (sm_ite (sm_n 4 (by omega)) (sm_n 0 (by omega)))) (sm_n 4 (by omega))) (sm_ents L))
theorem sm_all (L:List En) (cs:List Ch) (n:Int):Sm (allE L cs n):=sm_ite (sm_tree _) (sm_ite (sm_n 2 (by omega)) (sm_run n cs L))
theorem sm_nms (l:List ByteArray):Sm (nmsE l):=sm_ite (sm_n 0 (by omega)) (sm_n 1 (by omega))
theorem sm_gv (G:List Gr) (f b m:ByteArray) (r:Int):Sm (gvE G f b m r):=by
 have h1:Sm (gvgE G b ⟨f,m,r⟩):=by
  unfold gvgE;split
  · split<;>exact⟨by decide,by decide⟩
  · exact⟨by decide,by decide⟩
 exact sm_ite (sm_ite (sm_n 3 (by omega)) (sm_ite (sm_ite (sm_ite (sm_n 2 (by omega)) (sm_n 0 (by omega))) (sm_n 4 (by omega))) h1)) (sm_n 1 (by omega))
theorem sm_go {G:List Se} {x l r:Int} (h:uchE G x l r=0) (now:Int) (ns:List ByteArray):Sm (goE G x l r now ns):=by
 rw[goE,if_pos h];exact sm_ite (sm_nms ns) (sm_n 3 (by omega))
theorem sm_op {G:List Se} {x l r:Int} (h:uchE G x l r=0) (p:ByteArray) (size now:Int):Sm (opE G x l r p size now):=
 sm_ite (sm_go h _ _) (sm_ite (sm_n 3 (by omega)) (sm_ite (sm_n 2 (by omega)) (sm_ite (sm_n 10 (by omega)) (sm_n 0 (by omega)))))
theorem sm_fi {G:List Se} {x l r:Int} (h:uchE G x l r=0) (p:ByteArray) (n now:Int):Sm (fiE G x l r p n now):=
 sm_ite (sm_ite (sm_n 5 (by omega)) (sm_n 0 (by omega))) (sm_go h _ _)
/-- What passes Check may be written. -/
theorem chk_le80 {l:List UInt8} (h:chk l=0):l.length≤80:=by
 unfold chk big at h;split at h
 · split at h
   · cases h
   · rename_i h2
     simp only[Bool.or_eq_true,decide_eq_true_eq,not_or]at h2;omega
 · cases h
theorem ok_text {x:ByteArray} (h:x.size≤1000):Wr.gN x.size=true∧(x.size:Int)≤1000:=(Wr.ok_sz x).1 h
theorem ok_num {n:Int} (h: -1099511627776≤n∧n≤1099511627776):Wr.gN n=true:=by rw[Wr.gN,Wr.near_iff];omega
theorem ver_in {n:Int} (h:verE n=0):1≤n∧n≤1000000:=by
 unfold verE at h;split at h
 · cases h
 · omega
theorem ok_ent {e:En} (h:entE e=0):Wr.OkE Wr.gN 1000 e:=by
 have hp:chk e.path.data.toList=0:=by
  unfold entE at h;split at h
  · assumption
  · exact h
 rw[entE,if_pos hp]at h;have h2:=chk_le80 hp;rw[←Lib.size_eq]at h2;split at h
 · cases h
 · split at h
   · cases h
   · rename_i h3
     have h4:=ver_in h;exact⟨ok_text (by omega),ok_text (by omega),ok_num (by omega)⟩
theorem chg_parts {c:Ch} (h:chgE c=0):Wr.OkC Wr.gN 1000 c:=by
 unfold chgE at h;split at h
 · cases h
 rename_i h1
 split at h
 · contradiction
 rename_i h2
 split at h
 · rename_i h3;exact absurd h h3.2
 rename_i h3
 split at h
 · cases h
 rename_i h4
 split at h
 · cases h
 rename_i h5
 split at h
 · cases h
 rename_i h6
 have hp:=chk_le80 (Decidable.not_not.1 h2);rw[←Lib.size_eq]at hp
 have hq:c.q.size≤80:=by
  by_cases hk:c.k=3
  · have:=chk_le80 (Decidable.not_not.1 (fun x=>h3 ⟨hk,x⟩))
    rwa [←Lib.size_eq]at this
  · have:c.q.data.toList=[]:=Decidable.not_not.1 (fun x=>h4 (Or.inl ⟨hk,x⟩))
    rw[Lib.size_eq,this];simp
 exact⟨ok_num (by omega),ok_num (by omega),ok_text (by omega),ok_text (by omega),ok_text (by omega)⟩
theorem app_chg0 {L:List En} {c:Ch} {n:Int} (h:appE L c n=0):chgE c=0:=by
 unfold appE at h;split at h
 · contradiction
 · split at h
   · contradiction
   · rename_i h2;exact Decidable.not_not.1 h2
theorem run_chg {n:Int}: ∀{cs:List Ch} {T:List En},(runF n T cs).2.1=0→ ∀c∈cs,chgE c=0
 |[],_,_=>fun c hc=>by cases hc
 |x::r,T,h=>by
  rw[runF]at h;split at h
  · rename_i h1
    intro c hc;rcases List.mem_cons.1 hc with rfl|hc
    · exact app_chg0 h1
    · exact run_chg h c hc
  · rename_i h1;exact absurd h h1
theorem all_parts {L:List En} {cs:List Ch} {n:Int} (h:allE L cs n=0):cs.length≤20∧ ∀c∈cs,chgE c=0:=by
 unfold allE at h;split at h
 · contradiction
 · split at h
   · cases h
   · exact⟨by omega,run_chg h⟩
end Pp
namespace Jn
theorem run_parts: ∀{l:List Co} {n:Int} {T S:List En},runJ n T l=(0,S)→ ∀c∈l,Wr.OkO Wr.gN 1000 c
 |[],_,_,_,_=>fun c hc=>by cases hc
 |x::r,n,T,S,h=>by
  obtain⟨h1,h2,h3⟩:=run_cons h
  intro c hc;rcases List.mem_cons.1 hc with rfl|hc
  · obtain⟨a1,a2⟩:=Pp.all_parts h2
    unfold coE at h1;split at h1
    · cases h1
    rename_i k1
    split at h1
    · cases h1
    rename_i k2
    split at h1
    · cases h1
    rename_i k3
    have hk:=Decidable.not_not.1 k3
    have hv:Pp.verE c.nu=0∨c.ch=[]:=by
     cases hcs:c.ch with
     |nil=>exact Or.inr rfl
     |cons y ys=>
      refine Or.inl ?_
      rw[hcs]at h2;unfold Pp.allE at h2;split at h2
      · contradiction
      · split at h2
        · cases h2
        · rw[Pp.runF]at h2
          split at h2
          · rename_i h5
            unfold Pp.appE at h5;split at h5
            · contradiction
            · rename_i h6;exact Decidable.not_not.1 h6
          · rename_i h5;exact absurd h2 h5
    have hv1:Pp.verE c.nu=0:=by
     rcases hv with hv|hv
     · exact hv
     · split at h1
       · cases h1
       · rename_i h5;exact absurd hv h5
    have hv2:=Pp.ver_in hv1;simp only[Pp.keyB,Bool.and_eq_true,decide_eq_true_eq]at hk;exact⟨Pp.ok_num (by omega),Pp.ok_text (by rw[Lib.size_eq];omega),a1,fun x hx=>Pp.chg_parts (a2 x hx)⟩
  · exact run_parts h3 c hc
theorem run_zero {J:Jo} (h:chkE J=0): ∃S,runJ J.first J.base J.cos=(0,S):=by
 unfold chkE at h;split at h
 · contradiction
 split at h
 · cases h
 split at h
 · cases h
 split at h
 · contradiction
 rename_i h4
 exact⟨_,Prod.ext (Decidable.not_not.1 h4) rfl⟩
theorem first_in {J:Jo} (h:chkE J=0):1≤J.first∧J.first≤1000000:=by
 unfold chkE at h;split at h
 · contradiction
 split at h
 · cases h
 rename_i h2
 exact Pp.ver_in (Decidable.not_not.1 h2)
theorem sm_com {J:Jo} (h:chkE J=0) (key:ByteArray) (l:List Pp.Ch):Sm (comE J key l):=by
 rw[comE,if_neg (fun x=>x h)];exact sm_ite (sm_n 1 (by omega)) (sm_ite (sm_n 0 (by omega)) (sm_ite (sm_n 1 (by omega)) (sm_ite (sm_n 3 (by omega)) (Pp.sm_all _ _ _))))
theorem num_in {J:Jo} (h:chkE J=0) (p:List UInt8) (hp:hasB J.cos p=true):1≤numOf J.cos p∧numOf J.cos p≤1000000:=by
 obtain⟨S,hS⟩:=run_zero h
 have hn:=run_nums (show(runJ J.first J.base J.cos).1=0 by rw[hS]);have hl:=last_range h;rw[last]at hl;have hf:=first_in h;rw[numOf];cases hc:J.cos.find? (fun c=>c.ke.data.toList==p)with
 |none=>
  obtain⟨c,hc1,hc2⟩:=List.any_eq_true.1 hp
  exact absurd hc2 (List.find?_eq_none.1 hc c hc1)
 |some c=>
  obtain⟨i,hi,e⟩:=List.getElem_of_mem (List.mem_of_find?_eq_some hc)
  have:=hn i hi
  rw[e]at this;simp only;omega
theorem ok_comN {J:Jo} (h:chkE J=0) (key:ByteArray) (l:List Pp.Ch):0≤comN J key l∧comN J key l≤1000001:=by
 have h1:=last_range h;rw[comN];split
 · omega
 · split
   · rename_i h2;have:=num_in h _ h2;omega
   · omega
theorem sm_rd {J:Jo} (h:chkE J=0) (c m:Int):Sm (rdE J c m):=by
 rw[rdE,if_neg (fun x=>x h)];exact sm_ite (sm_n 3 (by omega)) (sm_ite (sm_n 5 (by omega)) (sm_n 0 (by omega)))
theorem ok_zeroP:Wr.OkP Wr.gN 1000 zeroP:=⟨⟨by decide,fun x hx=>by cases hx⟩,⟨by decide,fun x hx=>by cases hx⟩,Pp.ok_num (by decide)⟩
theorem ok_rd {J:Jo} (h:chkE J=0) (c:Int):Wr.OkP Wr.gN 1000 (rdR J c 10):=by
 have hl:=last_range h;obtain⟨S,hS⟩:=run_zero h
 have hC:=run_parts hS;rw[rdR];split
 · exact ok_zeroP
 rename_i h0
 have h0':=Decidable.not_not.1 h0;split
 · have hg:=tree_good h
   exact⟨⟨hg.len,fun e he=>Pp.ok_ent (hg.ents e he)⟩,⟨Nat.zero_le _,fun x hx=>by cases hx⟩,Pp.ok_num (by simp only;omega)⟩
 · rename_i h1
   have hc:0≤c∧c≤last J:=by
    rw[rdE,if_neg (fun x=>x h)]at h0';split at h0'
    · cases h0'
    · split at h0'
      · cases h0'
      · omega
   have hf:few 10 (behind J c).length≤10:=by unfold few;omega
   refine⟨⟨Nat.zero_le _,fun x hx=>by cases hx⟩,⟨?_,fun x hx=>hC x (List.mem_of_mem_drop (List.mem_of_mem_take hx))⟩,Pp.ok_num (by simp only;omega)⟩
   simp only[List.length_take];omega
end Jn
namespace Hu
theorem jo_ok {H:Hb} (h:hE H=0) (i:Nat) (hi:i<H.fos.length):Jn.chkE (joAt H i)=0:=by
 obtain⟨_,h1,_⟩:=h_parts h
 obtain⟨_,c2,_⟩:=cf_parts h1
 rw[joAt,List.getElem?_eq_getElem hi];exact(sh_parts (shs_iff.1 c2 _ (List.getElem_mem hi))).2
theorem se_tx {H:Hb} (h:hE H=0) {k:Nat} {s:Se} (hs:(Pp.swL H.now H.ss)[k]?=some s):(s.tx.size:Int)≤s.si∧s.si≤300:=by
 have h2:=(Pp.uch_zero (h_parts h).2.2.2.2).2.1;have hm:=(List.mem_filter.1 (List.mem_of_getElem? hs)).1;exact⟨(Pp.se_zero (Pp.ses_mem.1 h2 s hm)).2.2.2.2,(Pp.ses_si h2 s hm).2⟩
theorem ok_num1 (e n:Int) (he:Sm e) (hn: -1099511627776≤n∧n≤1099511627776):Wr.OkA Wr.gN 1000 ⟨e,n,Jn.zeroP⟩:=⟨Pp.ok_num (by unfold Sm at he;simp only;omega),Pp.ok_num hn,Jn.ok_zeroP⟩
theorem ok_num0 (e:Int) (he:Sm e):Wr.OkA Wr.gN 1000 ⟨e,0,Jn.zeroP⟩:=ok_num1 e 0 he ⟨by decide,by decide⟩
theorem ok_com {H:Hb} (h:hE H=0) (i:Nat) (hi:i<H.fos.length) (key:ByteArray) (l:List Pp.Ch):Sm (cmE H i key l)∧ -1099511627776≤cmN H i key l∧cmN H i key l≤1099511627776:=by
 have hj:=jo_ok h i hi;have:=Jn.ok_comN hj key l
 exact⟨Jn.sm_com hj key l,by rw[cmN];omega,by rw[cmN];omega⟩
theorem sm_ck (G:List Gr) (q:Rq):Sm (ckE G q):=sm_ite (sm_n 7 (by omega)) (sm_ite (Pp.sm_nms _) (sm_ite (sm_n 9 (by omega)) (sm_n 0 (by omega))))
theorem sm_mk (H:Hb) (f m:ByteArray) (hg:Pp.gchE H.gs=0):Sm (mkE H f m):=by
 have h1:Sm (Pp.maE H.gs f m):=by
  rw[Pp.maE,if_pos hg];exact sm_ite (sm_ite (sm_n 6 (by omega)) (sm_ite (sm_n 2 (by omega)) (sm_n 0 (by omega)))) (sm_n 1 (by omega))
 exact sm_ite h1 (sm_ite (sm_n 2 (by omega)) (sm_n 0 (by omega)))
theorem ok_open {H:Hb} (h:hE H=0) (p:ByteArray) (n:Int):Wr.OkA Wr.gN 1000 (anU (opU H p n)):=by
 have hu:=(h_parts h).2.2.2.2;have hx:=(Pp.bnd_zero (Pp.uch_zero hu).1).2.2.2;rw[opU];split
 · exact ok_num1 0 H.nx (sm_n 0 (by omega)) (by omega)
 · exact ok_num0 _ (Pp.sm_op hu _ _ _)
theorem ok_app {H:Hb} (h:hE H=0) (p:ByteArray) (n o:Int) (t:ByteArray):Wr.OkA Wr.gN 1000 (anU (apU H p n o t)):=by
 have hu:=(h_parts h).2.2.2.2;rw[apU];split
 · split
   · rename_i s hs
     have h1:=se_tx h hs;rw[apK];split
     · exact ok_num1 0 _ (sm_n 0 (by omega)) (by simp only;omega)
     · split
       · split
         · exact ok_num0 _ (sm_n 2 (by omega))
         · exact ok_num1 0 _ (sm_n 0 (by omega)) (by simp only;omega)
       · exact ok_num0 _ (sm_n 4 (by omega))
   · exact ok_num0 _ (sm_n 5 (by omega))
 · exact ok_num0 _ (Pp.sm_fi hu _ _ _)
theorem ok_query {H:Hb} (h:hE H=0) (p:ByteArray) (n:Int):Wr.OkA Wr.gN 1000 ⟨quE H p n,quN H p n,Jn.zeroP⟩:=by
 have hu:=(h_parts h).2.2.2.2;refine ok_num1 _ _ (Pp.sm_fi hu _ _ _) ?_
 rw[quN];split
 · split
   · rename_i s hs
     have h1:=se_tx h hs;omega
   · omega
 · omega
theorem ok_fin {H:Hb} (h:hE H=0) (q:Rq) (hi:whr H.fos H.gs q.fo<H.fos.length):Wr.OkA Wr.gN 1000 ⟨fnE H q (fnU H q.who q.num),fnN H q (fnU H q.who q.num),Jn.zeroP⟩:=by
 have hu:=(h_parts h).2.2.2.2;obtain⟨c1,c2⟩:=ok_com h _ hi q.key (fnC q (fnU H q.who q.num).tx)
 rw[fnE,fnN];split
 · exact ok_num1 _ _ c1 c2
 · refine ok_num0 _ ?_
   rw[fnU];split
   · split
     · split
       · exact sm_n 4 (by omega)
       · exact sm_n 0 (by omega)
     · exact sm_n 5 (by omega)
   · exact Pp.sm_fi hu _ _ _
/-- What a hub that passes Check answers may be written. -/
theorem sv_okA {H:Hb} (h:hE H=0) (q:Rq):Wr.OkA Wr.gN 1000 (svA H q):=by
 have hg:=(h_parts h).2.2.1;rw[svA];split
 · rename_i hck
   obtain⟨k1,k2,_⟩:=ck_parts hck
   rcases kinds k1 k2 with hk|hk|hk|hk|hk|hk|hk|hk
   · rw[(sk_1 hk).2]
     obtain⟨c1,c2⟩:=ok_com h _ (ck_at h hck (by omega)) q.key q.ch
     exact ok_num1 _ _ c1 c2
   · rw[(sk_2 hk).2]
     have hj:=jo_ok h _ (ck_at h hck (by omega));have h1:=Jn.sm_rd hj q.num 10;exact⟨Pp.ok_num (by unfold Sm at h1;simp only;omega),Pp.ok_num (by simp only;omega),Jn.ok_rd hj _⟩
   · rw[(sk_3 hk).2]
     exact ok_num0 _ (by rw[Pp.giE,if_pos hg];exact Pp.sm_gv _ _ _ _ _)
   · rw[(sk_4 hk).2];exact ok_open h _ _
   · rw[(sk_5 hk).2];exact ok_app h _ _ _ _
   · rw[(sk_6 hk).2];exact ok_query h _ _
   · rw[(sk_7 hk).2];exact ok_fin h q (ck_at h hck (by omega))
   · rw[(sk_8 hk).2];exact ok_num0 _ (sm_mk H _ _ hg)
 · exact ok_num0 _ (sm_ck _ _)
end Hu
end Go.Proofs.YtppdfeehhnofaaaGreatDoor
