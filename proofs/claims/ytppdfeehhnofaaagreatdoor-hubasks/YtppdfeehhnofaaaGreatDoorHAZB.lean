/- What the server's answer is to a request for a page. -/
import Derived.Test.YtppdfeehhnofaaaGreatDoorHAY
import Derived.Test.YtppdfeehhnofaaaGreatDoorHAZA
import Derived.Test.YtppdfeehhnofaaaGreatDoorHAS
import Derived.Test.YtppdfeehhnofaaaGreatDoorHAP
set_option linter.unusedSimpArgs false
set_option linter.unusedVariables false
namespace Go.Proofs.YtppdfeehhnofaaaGreatDoor
open Go.RowKit

set_option maxRecDepth 100000 in
set_option maxHeartbeats 8000000 in
theorem sanswer_page (H:Hb) (q:Rq) (vq vf vg vs:Value) (B g mb n:Nat) (w:World) (hfull:Sv B w g mb vf vg vs H) (hm:SvM w mb n H) (hsF:SizedF H.fos) (hs:SizedG H.gs) (hq:LiesQ w vq q) (hsq:SizedQ q) (hck:Hu.ckE H.gs q=0) (hk:q.kind=2) (hi:Hu.whr H.fos H.gs q.fo<H.fos.length):AnsOK w g mb vf vq ⟨Jn.rdE (Hu.joAt H (Hu.whr H.fos H.gs q.fo)) q.num 10,0,Jn.rdR (Hu.joAt H (Hu.whr H.fos H.gs q.fo)) q.num 10⟩ H:=by
 have HSG:=hid hs;have HSQ:=hid hsq;have HCK:=hid hck;have HFU:=hid hfull;have HM:=hid hm;have HSF:=hid hsF;have HI:=hid hi;have hsv:=hfull.lies;clear hs hsq hck hfull hm hsF hi;unfold AnsOK;have HKI:=hid hk;clear hk;obtain⟨va,rfl,lq⟩:=hq
 have HLQ:=hid lq;obtain⟨qa,qc,rfl,_⟩:=lq
 obtain⟨kind,who,fo,name,key,text,num,off,base,ch⟩:=q
 simp only at*;obtain⟨wa,hwa⟩: ∃wa,wa=w.alloc (.cells #[.int .i64 kind,.string who,.string fo,.string name,.string key,.string text,.int .i64 num,.int .i64 off,.int .i64 base,.slice qa ch.length qc] 31):=⟨_,rfl⟩
 obtain⟨wz,hwz⟩: ∃wz,wz=wa.alloc (.cells #[.int .i64 0,.int .i64 0,.bool false,.slice none 0 0,.slice none 0 0,.int .i64 0,.bool false] 43):=⟨_,rfl⟩
 have sa1:wa.heap.size=w.heap.size+1:=by rw[hwa];simp
 have bwa:Below w.heap.size w wa:=by rw[hwa];exact(Below.refl _ _).alloc (Nat.le_refl _) _
 have bwz:Below wa.heap.size wa wz:=by rw[hwz];exact(Below.refl _ _).alloc (Nat.le_refl _) _
 have hbz:Below w.heap.size w wz:=below_tr bwa bwz;have HQX:Hid (Cs wz w.heap.size [.int .i64 kind,.string who,.string fo,.string name,.string key,.string text,.int .i64 num,.int .i64 off,.int .i64 base,.slice qa ch.length qc]):=((by rw[hwa];exact Cs.new w [.int .i64 kind,.string who,.string fo,.string name,.string key,.string text,.int .i64 num,.int .i64 off,.int .i64 base,.slice qa ch.length qc] _:Cs wa w.heap.size [.int .i64 kind,.string who,.string fo,.string name,.string key,.string text,.int .i64 num,.int .i64 off,.int .i64 base,.slice qa ch.length qc]).below bwz:Cs wz w.heap.size _)
 have HAX:=hid (show Cs wz (w.heap.size+1) [.int .i64 0,.int .i64 0,.bool false,.slice none 0 0,.slice none 0 0,.int .i64 0,.bool false]from by rw[←sa1,hwz];exact Cs.new wa [.int .i64 0,.int .i64 0,.bool false,.slice none 0 0,.slice none 0 0,.int .i64 0,.bool false] _);have hwzz:(w.alloc (.cells #[.int .i64 kind,.string who,.string fo,.string name,.string key,.string text,.int .i64 num,.int .i64 off,.int .i64 base,.slice qa ch.length qc] 31)).alloc (.cells #[.int .i64 0,.int .i64 0,.bool false,.slice none 0 0,.slice none 0 0,.int .i64 0,.bool false] 43)=wz:=by rw[hwz,hwa]
 have HWZ:=hid hwzz;have hsz2:w.heap.size+1<wz.heap.size:=HAX.out.lt;clear hwa hwz bwa bwz sa1 hwzz;obtain⟨fa,fc,ga,gc,sa,sc,hC,hF,hG,hS⟩:=hsv.shape
 have HSVz:=hid (hsv.below hbz);have HCz:=hid (hC.below hbz);have HGz:=hid (hG.below hbz);have hgl:=hC.lt;have hgz:g<wz.heap.size:=Nat.lt_of_lt_of_le hgl hbz.size;clear hC hF hG hS;have x0:=HQX.out.cell 0 rfl;have x1:=HQX.out.cell 1 rfl;have x2:=HQX.out.cell 2 rfl;have x3:=HQX.out.cell 3 rfl;have x4:=HQX.out.cell 4 rfl;have x5:=HQX.out.cell 5 rfl;have x6:=HQX.out.cell 6 rfl;have x7:=HQX.out.cell 7 rfl;have x8:=HQX.out.cell 8 rfl;have x9:=HQX.out.cell 9 rfl;go_enter Tryz.func21,Tryz.ntmps21
 go_upto_region 1 with fail;rw[HWZ.out];clear HWZ;go_wp2_with fail;refine(scheck_any H.gs ⟨kind,who,fo,name,key,text,num,off,base,ch⟩ _ _ g wz hgz (HCz.out.cell 1 rfl) HGz.out HSG.out ⟨_,rfl,HLQ.out.below hbz⟩ HSQ.out).mono ?_
 rintro e w1 ⟨rfl,hb1⟩;clear x0 x1 x2 x3 x4 x5 x6 x7 x8 x9;have hb01:=below_tr hbz hb1;have HSV1:=hid (HSVz.out.below hb1);have HQ1:=hid (HQX.out.below hb1);have HA1:=hid (HAX.out.below hb1);have hs1:=hb1.size;rw[HCK.out];obtain rfl:kind=2:=HKI.out;clear HKI;clear HCK;obtain⟨E,hE⟩: ∃E,E=Jn.rdE (Hu.joAt H (Hu.whr H.fos H.gs fo)) num 10:=⟨_,rfl⟩
 obtain⟨P,hP⟩: ∃P,P=Jn.rdR (Hu.joAt H (Hu.whr H.fos H.gs fo)) num 10:=⟨_,rfl⟩
 have HE:=hid hE;have HP:=hid hP;clear hE hP;obtain⟨w2,hw2⟩: ∃w2,w2=w1.alloc (.cells #[.int .i64 0,.int .i64 0,.bool false,.slice none 0 0,.slice none 0 0,.int .i64 0,.bool false] 43):=⟨_,rfl⟩
 have hb2:Below w1.heap.size w1 w2:=by rw[hw2];exact(Below.refl _ _).alloc (Nat.le_refl _) _
 have HB2:=hid (show Cs w2 w1.heap.size [.int .i64 0,.int .i64 0,.bool false,.slice none 0 0,.slice none 0 0,.int .i64 0,.bool false]from by rw[hw2];exact Cs.new w1 [.int .i64 0,.int .i64 0,.bool false,.slice none 0 0,.slice none 0 0,.int .i64 0,.bool false] _);have HQ2:=hid (HQ1.out.below hb2);have HA2:=hid (HA1.out.below hb2);have hb02:=below_tr hb01 hb2;have hs2:=hb2.size;have hl2:=HB2.out.lt;have HSV2:=hid (HSV1.out.below hb2);have HF2:=hid (HFU.out.below hb02);have x0:=HQ2.out.cell 0 rfl;have x1:=HQ2.out.cell 1 rfl;have x2:=HQ2.out.cell 2 rfl;have x3:=HQ2.out.cell 3 rfl;have x4:=HQ2.out.cell 4 rfl;have x5:=HQ2.out.cell 5 rfl;have x6:=HQ2.out.cell 6 rfl;have x7:=HQ2.out.cell 7 rfl;have x8:=HQ2.out.cell 8 rfl;have x9:=HQ2.out.cell 9 rfl;go_upto_region 5 with fail;rw[←hw2];clear hw2;go_wp2_with fail;refine(spage_any H ⟨2,who,fo,name,key,text,num,off,base,ch⟩ _ vf vg vs g mb n w2 HF2.out.1 HF2.out.2.1.lies (HM.out.below hb02) HSF.out ⟨_,rfl,HLQ.out.below hb02⟩ HSQ.out HI.out).mono ?_
 rw[←HE.out,←HP.out];rintro z w3 ⟨u3,rfl,hp3,hb3⟩;have HP3:=hid hp3;obtain⟨vt5,vc5,rfl,lt5,lc5⟩:=hp3
 obtain⟨pta,ptc,rfl,_⟩:=lt5
 obtain⟨pca,pcc,rfl⟩:=liesO_shape lc5
 clear lc5;have HSV3:=hid (HSV2.out.below hb3);have HB3:=hid (HB2.out.below hb3);have HA3:=hid (HA2.out.below hb3);have hb03:=below_tr hb02 hb3;have hs3:=hb3.size;clear x0 x1 x2 x3 x4 x5 x6 x7 x8 x9;obtain⟨w4,hw4⟩: ∃w4,w4=(((((w3.setCell ⟨w1.heap.size,2,none⟩ (.bool P.reset)).setCell ⟨w1.heap.size,2+1,none⟩ (.slice pta P.tree.length ptc)).setCell ⟨w1.heap.size,2+2,none⟩ (.slice pca P.cos.length pcc)).setCell ⟨w1.heap.size,2+3,none⟩ (.int .i64 P.cur)).setCell ⟨w1.heap.size,2+4,none⟩ (.bool P.more)).setCell ⟨w1.heap.size,0,none⟩ (.int .i64 E):=⟨_,rfl⟩
 have hg4:w3.grownBy w4 (some w1.heap.size):=by rw[hw4];exact grown_on (grown_on (grown_on (grown_on (grown_on (nb_set _ _ _ _) (nb_set _ _ _ _)) (nb_set _ _ _ _)) (nb_set _ _ _ _)) (nb_set _ _ _ _)) (nb_set _ _ _ _)
 have HB4:Hid (Cs w4 w1.heap.size [.int .i64 E,.int .i64 0,.bool P.reset,.slice pta P.tree.length ptc,.slice pca P.cos.length pcc,.int .i64 P.cur,.bool P.more]):=(by rw[hw4];exact(((((HB3.out.set 2 (.bool P.reset)).set 3 (.slice pta P.tree.length ptc)).set 4 (.slice pca P.cos.length pcc)).set 5 (.int .i64 P.cur)).set 6 (.bool P.more)).set 0 (.int .i64 E):Cs w4 w1.heap.size _)
 have HA4:=hid (HA3.out.nb hg4 (by omega));have HSV4:=hid (HSV3.out.nb hg4 (noStr_ans HB3.out) (by omega));have HP4:=hid (HP3.out.nb hg4 (noStr_ans HB3.out));have hb04:Below w.heap.size w w4:=by rw[hw4];exact(((((hb03.setCell (p:=⟨w1.heap.size,2,none⟩) hb01.size _).setCell (p:=⟨w1.heap.size,2+1,none⟩) hb01.size _).setCell (p:=⟨w1.heap.size,2+2,none⟩) hb01.size _).setCell (p:=⟨w1.heap.size,2+3,none⟩) hb01.size _).setCell (p:=⟨w1.heap.size,2+4,none⟩) hb01.size _).setCell (p:=⟨w1.heap.size,0,none⟩) hb01.size _
 have p0:=HB3.out.cell 0 rfl;have f0:=HB3.out.fr 0;have p1:=HB3.out.cell 1 rfl;have f1:=HB3.out.fr 1;have p2:=HB3.out.cell 2 rfl;have f2:=HB3.out.fr 2;have p3:=HB3.out.cell 3 rfl;have f3:=HB3.out.fr 3;have p4:=HB3.out.cell 4 rfl;have f4:=HB3.out.fr 4;have p5:=HB3.out.cell 5 rfl;have f5:=HB3.out.fr 5;have p6:=HB3.out.cell 6 rfl;have f6:=HB3.out.fr 6;go_upto_region 8 with fail;rw[←hw4];clear hw4 p0 p1 p2 p3 p4 p5 p6 f0 f1 f2 f3 f4 f5 f6;obtain⟨w5,hw5⟩: ∃w5,w5=(((((((w4.setCell ⟨w.heap.size+1,0,none⟩ (.int .i64 E)).setCell ⟨w.heap.size+1,1,none⟩ (.int .i64 0)).setCell ⟨w.heap.size+1,2,none⟩ (.bool P.reset)).setCell ⟨w.heap.size+1,3,none⟩ (.slice pta P.tree.length ptc)).setCell ⟨w.heap.size+1,4,none⟩ (.slice pca P.cos.length pcc)).setCell ⟨w.heap.size+1,5,none⟩ (.int .i64 P.cur)).setCell ⟨w.heap.size+1,6,none⟩ (.bool P.more)):=⟨_,rfl⟩
 have hg5:w4.grownBy w5 (some (w.heap.size+1)):=by rw[hw5];exact(grown_on (grown_on (grown_on (grown_on (grown_on (grown_on (nb_set w4 (w.heap.size+1) 0 (.int .i64 E)) (nb_set _ (w.heap.size+1) 1 (.int .i64 0))) (nb_set _ (w.heap.size+1) 2 (.bool P.reset))) (nb_set _ (w.heap.size+1) 3 (.slice pta P.tree.length ptc))) (nb_set _ (w.heap.size+1) 4 (.slice pca P.cos.length pcc))) (nb_set _ (w.heap.size+1) 5 (.int .i64 P.cur))) (nb_set _ (w.heap.size+1) 6 (.bool P.more)))
 have HA5:Hid (Cs w5 (w.heap.size+1) [.int .i64 E,.int .i64 0,.bool P.reset,.slice pta P.tree.length ptc,.slice pca P.cos.length pcc,.int .i64 P.cur,.bool P.more]):=(by rw[hw5];exact(((((((HA4.out.set 0 (.int .i64 E)).set 1 (.int .i64 0)).set 2 (.bool P.reset)).set 3 (.slice pta P.tree.length ptc)).set 4 (.slice pca P.cos.length pcc)).set 5 (.int .i64 P.cur)).set 6 (.bool P.more)):Cs w5 (w.heap.size+1) _)
 have HSV5:=hid (HSV4.out.nb hg5 (noStr_ans HA4.out) (by omega));have HP5:=hid (HP4.out.nb hg5 (noStr_ans HA4.out));have hb05:Below w.heap.size w w5:=by rw[hw5];exact(bs7 (b:=w.heap.size+1) hb04 (Nat.le_succ _))
 have HL5:=hid (show LiesA w5 (.agg #[.int .i64 E,.int .i64 0,.bool P.reset,.slice pta P.tree.length ptc,.slice pca P.cos.length pcc,.int .i64 P.cur,.bool P.more]) ⟨E,0,P⟩from by
  obtain⟨a,b,e,l1,l2⟩:=HP5.out
  injection e with e
  simp only[Array.mk.injEq,List.cons.injEq]at e;obtain⟨_,e1,e2,_⟩:=e
  subst e1 e2;exact⟨_,_,rfl,l1,l2⟩)
 have q0:=HB4.out.cell 0 rfl;have q1:=HB4.out.cell 1 rfl;have q2:=HB4.out.cell 2 rfl;have q3:=HB4.out.cell 3 rfl;have q4:=HB4.out.cell 4 rfl;have q5:=HB4.out.cell 5 rfl;have q6:=HB4.out.cell 6 rfl;have p0:=HA4.out.cell 0 rfl;have f0:=HA4.out.fr 0;have p1:=HA4.out.cell 1 rfl;have f1:=HA4.out.fr 1;have p2:=HA4.out.cell 2 rfl;have f2:=HA4.out.fr 2;have p3:=HA4.out.cell 3 rfl;have f3:=HA4.out.fr 3;have p4:=HA4.out.cell 4 rfl;have f4:=HA4.out.fr 4;have p5:=HA4.out.cell 5 rfl;have f5:=HA4.out.fr 5;have p6:=HA4.out.cell 6 rfl;have f6:=HA4.out.fr 6;go_wp2_with fail;rw[←hw5];clear p0 p1 p2 p3 p4 p5 p6;have y0:=HA5.out.cell 0 rfl;have y1:=HA5.out.cell 1 rfl;have y2:=HA5.out.cell 2 rfl;have y3:=HA5.out.cell 3 rfl;have y4:=HA5.out.cell 4 rfl;have y5:=HA5.out.cell 5 rfl;have y6:=HA5.out.cell 6 rfl;refine bodyPost_ret (v:= .agg #[.int .i64 E,.int .i64 0,.bool P.reset,.slice pta P.tree.length ptc,.slice pca P.cos.length pcc,.int .i64 P.cur,.bool P.more]) (by simp[results,Tryz.results21,go_sem,y0,y1,y2,y3,y4,y5,y6]) rfl ⟨_,rfl,by rw[←HE.out,←HP.out];exact HL5.out,HSV5.out,Nb2.of_below _ _ hb05⟩
set_option maxRecDepth 100000 in
set_option maxHeartbeats 4000000 in
theorem sanswer_err (H:Hb) (q:Rq) (vq vf:Value) (g mb:Nat) (w:World) (hsv:SvL w g mb H) (hs:SizedG H.gs) (hq:LiesQ w vq q) (hsq:SizedQ q) (hck: ¬Hu.ckE H.gs q=0):AnsOK w g mb vf vq ⟨Hu.ckE H.gs q,0,Jn.zeroP⟩ H:=by
 have HSG:=hid hs;have HSQ:=hid hsq;have HCK:=hid hck;clear hs hsq hck;unfold AnsOK;obtain⟨va,rfl,lq⟩:=hq
 have HLQ:=hid lq;obtain⟨qa,qc,rfl,_⟩:=lq
 obtain⟨kind,who,fo,name,key,text,num,off,base,ch⟩:=q
 simp only at*;obtain⟨wa,hwa⟩: ∃wa,wa=w.alloc (.cells #[.int .i64 kind,.string who,.string fo,.string name,.string key,.string text,.int .i64 num,.int .i64 off,.int .i64 base,.slice qa ch.length qc] 31):=⟨_,rfl⟩
 obtain⟨wz,hwz⟩: ∃wz,wz=wa.alloc (.cells #[.int .i64 0,.int .i64 0,.bool false,.slice none 0 0,.slice none 0 0,.int .i64 0,.bool false] 43):=⟨_,rfl⟩
 have sa1:wa.heap.size=w.heap.size+1:=by rw[hwa];simp
 have bwa:Below w.heap.size w wa:=by rw[hwa];exact(Below.refl _ _).alloc (Nat.le_refl _) _
 have bwz:Below wa.heap.size wa wz:=by rw[hwz];exact(Below.refl _ _).alloc (Nat.le_refl _) _
 have hbz:Below w.heap.size w wz:=below_tr bwa bwz;have HQX:Hid (Cs wz w.heap.size [.int .i64 kind,.string who,.string fo,.string name,.string key,.string text,.int .i64 num,.int .i64 off,.int .i64 base,.slice qa ch.length qc]):=((by rw[hwa];exact Cs.new w [.int .i64 kind,.string who,.string fo,.string name,.string key,.string text,.int .i64 num,.int .i64 off,.int .i64 base,.slice qa ch.length qc] _:Cs wa w.heap.size [.int .i64 kind,.string who,.string fo,.string name,.string key,.string text,.int .i64 num,.int .i64 off,.int .i64 base,.slice qa ch.length qc]).below bwz:Cs wz w.heap.size _)
 have HAX:=hid (show Cs wz (w.heap.size+1) [.int .i64 0,.int .i64 0,.bool false,.slice none 0 0,.slice none 0 0,.int .i64 0,.bool false]from by rw[←sa1,hwz];exact Cs.new wa [.int .i64 0,.int .i64 0,.bool false,.slice none 0 0,.slice none 0 0,.int .i64 0,.bool false] _);have hwzz:(w.alloc (.cells #[.int .i64 kind,.string who,.string fo,.string name,.string key,.string text,.int .i64 num,.int .i64 off,.int .i64 base,.slice qa ch.length qc] 31)).alloc (.cells #[.int .i64 0,.int .i64 0,.bool false,.slice none 0 0,.slice none 0 0,.int .i64 0,.bool false] 43)=wz:=by rw[hwz,hwa]
 have HWZ:=hid hwzz;have hsz2:w.heap.size+1<wz.heap.size:=HAX.out.lt;clear hwa hwz bwa bwz sa1 hwzz;obtain⟨fa,fc,ga,gc,sa,sc,hC,hF,hG,hS⟩:=hsv.shape
 have HSVz:=hid (hsv.below hbz);have HCz:=hid (hC.below hbz);have HGz:=hid (hG.below hbz);have hgl:=hC.lt;have hgz:g<wz.heap.size:=Nat.lt_of_lt_of_le hgl hbz.size;clear hC hF hG hS;have x0:=HQX.out.cell 0 rfl;have x1:=HQX.out.cell 1 rfl;have x2:=HQX.out.cell 2 rfl;have x3:=HQX.out.cell 3 rfl;have x4:=HQX.out.cell 4 rfl;have x5:=HQX.out.cell 5 rfl;have x6:=HQX.out.cell 6 rfl;have x7:=HQX.out.cell 7 rfl;have x8:=HQX.out.cell 8 rfl;have x9:=HQX.out.cell 9 rfl;go_enter Tryz.func21,Tryz.ntmps21
 go_upto_region 1 with fail;rw[HWZ.out];clear HWZ;go_wp2_with fail;refine(scheck_any H.gs ⟨kind,who,fo,name,key,text,num,off,base,ch⟩ _ _ g wz hgz (HCz.out.cell 1 rfl) HGz.out HSG.out ⟨_,rfl,HLQ.out.below hbz⟩ HSQ.out).mono ?_
 rintro e w1 ⟨rfl,hb1⟩;clear x0 x1 x2 x3 x4 x5 x6 x7 x8 x9;have hb01:=below_tr hbz hb1;have HSV1:=hid (HSVz.out.below hb1);have HQ1:=hid (HQX.out.below hb1);have HA1:=hid (HAX.out.below hb1);have hs1:=hb1.size;obtain⟨r,hr⟩: ∃r,r=Hu.ckE H.gs ⟨kind,who,fo,name,key,text,num,off,base,ch⟩:=⟨_,rfl⟩
 have hz:(r==0)=false:=by rw[hr];simpa using HCK.out
 have hz2:(r !=0)=true:=by rw[hr];simpa using HCK.out
 rw[←hr];have HRR:=hid hr;clear hr HCK;obtain⟨w2,hw2⟩: ∃w2,w2=(((((((w1.setCell ⟨w.heap.size+1,0,none⟩ (.int .i64 r)).setCell ⟨w.heap.size+1,1,none⟩ (.int .i64 0)).setCell ⟨w.heap.size+1,2,none⟩ (.bool false)).setCell ⟨w.heap.size+1,3,none⟩ (.slice none 0 0)).setCell ⟨w.heap.size+1,4,none⟩ (.slice none 0 0)).setCell ⟨w.heap.size+1,5,none⟩ (.int .i64 0)).setCell ⟨w.heap.size+1,6,none⟩ (.bool false)):=⟨_,rfl⟩
 have hg2:w1.grownBy w2 (some (w.heap.size+1)):=by rw[hw2];exact(grown_on (grown_on (grown_on (grown_on (grown_on (grown_on (nb_set w1 (w.heap.size+1) 0 (.int .i64 r)) (nb_set _ (w.heap.size+1) 1 (.int .i64 0))) (nb_set _ (w.heap.size+1) 2 (.bool false))) (nb_set _ (w.heap.size+1) 3 (.slice none 0 0))) (nb_set _ (w.heap.size+1) 4 (.slice none 0 0))) (nb_set _ (w.heap.size+1) 5 (.int .i64 0))) (nb_set _ (w.heap.size+1) 6 (.bool false)))
 have HA2:Hid (Cs w2 (w.heap.size+1) [.int .i64 r,.int .i64 0,.bool false,.slice none 0 0,.slice none 0 0,.int .i64 0,.bool false]):=(by rw[hw2];exact(((((((HA1.out.set 0 (.int .i64 r)).set 1 (.int .i64 0)).set 2 (.bool false)).set 3 (.slice none 0 0)).set 4 (.slice none 0 0)).set 5 (.int .i64 0)).set 6 (.bool false)):Cs w2 (w.heap.size+1) _)
 have hb2:Below w.heap.size w w2:=by rw[hw2];exact(bs7 (b:=w.heap.size+1) hb01 (Nat.le_succ _))
 have HSV2:=hid (HSV1.out.nb hg2 (noStr_ans HA1.out) (by omega));have p0:=HA1.out.cell 0 rfl;have f0:=HA1.out.fr 0;have p1:=HA1.out.cell 1 rfl;have f1:=HA1.out.fr 1;have p2:=HA1.out.cell 2 rfl;have f2:=HA1.out.fr 2;have p3:=HA1.out.cell 3 rfl;have f3:=HA1.out.fr 3;have p4:=HA1.out.cell 4 rfl;have f4:=HA1.out.fr 4;have p5:=HA1.out.cell 5 rfl;have f5:=HA1.out.fr 5;have p6:=HA1.out.cell 6 rfl;have f6:=HA1.out.fr 6;go_wp2_with fail;rw[←hw2];have y0:=HA2.out.cell 0 rfl;have y1:=HA2.out.cell 1 rfl;have y2:=HA2.out.cell 2 rfl;have y3:=HA2.out.cell 3 rfl;have y4:=HA2.out.cell 4 rfl;have y5:=HA2.out.cell 5 rfl;have y6:=HA2.out.cell 6 rfl;refine bodyPost_ret (v:= .agg #[.int .i64 r,.int .i64 0,.bool false,.slice none 0 0,.slice none 0 0,.int .i64 0,.bool false]) (by simp[results,Tryz.results21,go_sem,y0,y1,y2,y3,y4,y5,y6]) rfl ⟨_,rfl,by rw[←HRR.out];exact liesA_num _ _ _,HSV2.out,Nb2.of_below _ _ hb2⟩
namespace Pp
/-- 9: who gives is no owner; 5: who is taken from has none. -/
def gvgE (G:List Gr) (b:ByteArray) (x:Gr):Int:=if(x.ri=0∧(b.toList==x.wh.toList)=true)∨rgt G x.fo b=3 then(if x.ri=0∧rgt G x.fo x.wh=0 then 5 else 0)else 9
theorem chg_cases (G:List Gr) (b:ByteArray) (x:Gr):
    (¬x.ri=0∧ ¬rgt G x.fo b=3∧gvgE G b x=9)∨(¬x.ri=0∧rgt G x.fo b=3∧gvgE G b x=0)∨
    (x.ri=0∧(b.toList==x.wh.toList)=true∧rgt G x.fo x.wh=0∧gvgE G b x=5)∨(x.ri=0∧(b.toList==x.wh.toList)=true∧ ¬rgt G x.fo x.wh=0∧gvgE G b x=0)∨
    (x.ri=0∧(b.toList==x.wh.toList)=false∧ ¬rgt G x.fo b=3∧gvgE G b x=9)∨
    (x.ri=0∧(b.toList==x.wh.toList)=false∧rgt G x.fo b=3∧rgt G x.fo x.wh=0∧gvgE G b x=5)∨(x.ri=0∧(b.toList==x.wh.toList)=false∧rgt G x.fo b=3∧ ¬rgt G x.fo x.wh=0∧gvgE G b x=0):=by
 by_cases h0:x.ri=0<;>cases hS:(b.toList==x.wh.toList)<;>by_cases h3:rgt G x.fo b=3<;>by_cases hz:rgt G x.fo x.wh=0<;>simp[gvgE,h0,hS,h3,hz]
end Pp

set_option maxRecDepth 100000 in
set_option maxHeartbeats 2000000 in
theorem checkGive_any (G:List Gr) (v:Value) (b:ByteArray) (x:Gr) (w:World) (hv:LiesG w v G):
    Calls Tryz.prog 166 #[v,.string b,.agg #[.string x.fo,.string x.wh,.int .i64 x.ri]] w fun e w'=>e= .returned (.int .i64 (Pp.gvgE G b x))∧Below w.heap.size w w':=by
 have HV:=ghid hv;clear hv;rcases Pp.chg_cases G b x with⟨h0,h3,hE⟩|⟨h0,h3,hE⟩|⟨h0,hS,h5,hE⟩|⟨h0,hS,h5,hE⟩|⟨h0,hS,h3,hE⟩|⟨h0,hS,h3,h5,hE⟩|⟨h0,hS,h3,h5,hE⟩
 · have hz:(x.ri==0)=false:=by simpa using h0
   have h3':(Pp.rgt G x.fo b==3)=false:=by simpa using h3
   have HE:=ghid hE;clear hE h0 h3;go_enter Tryz.func166,Tryz.ntmps166
   go_wp2_with fail;refine(right_any G _ x.fo b _ (HV.out.below ((Below.refl _ _).alloc (Nat.le_refl _) _))).mono ?_
   rintro e w1 ⟨rfl,hb1⟩;obtain⟨c0,c1,c2,hbw,hlt⟩:=bxG3 hb1
   clear hb1;go_wp2;go_ret;exact⟨by rw[HE.out];rfl,hbw⟩
 · have hz:(x.ri==0)=false:=by simpa using h0
   have H3:=ghid h3;have HE:=ghid hE;clear hE h0 h3;go_enter Tryz.func166,Tryz.ntmps166
   go_wp2_with fail;refine(right_any G _ x.fo b _ (HV.out.below ((Below.refl _ _).alloc (Nat.le_refl _) _))).mono ?_
   rintro e w1 ⟨rfl,hb1⟩;rw[H3.out];obtain⟨c0,c1,c2,hbw,hlt⟩:=bxG3 hb1
   clear hb1;go_wp2;go_ret;exact⟨by rw[HE.out];rfl,hbw⟩
 · have hz:(x.ri==0)=true:=by simpa using h0
   have H5:=ghid h5;have HE:=ghid hE;clear hE h0 h5;go_enter Tryz.func166,Tryz.ntmps166
   go_wp2_with fail;refine(right_any G _ x.fo x.wh _ (HV.out.below ((Below.refl _ _).alloc (Nat.le_refl _) _))).mono ?_
   rintro e w1 ⟨rfl,hb1⟩;rw[H5.out];obtain⟨c0,c1,c2,hbw,hlt⟩:=bxG3 hb1
   clear hb1;go_wp2;go_ret;exact⟨by rw[HE.out];rfl,hbw⟩
 · have hz:(x.ri==0)=true:=by simpa using h0
   have h5':(Pp.rgt G x.fo x.wh==0)=false:=by simpa using h5
   have HE:=ghid hE;clear hE h0 h5;go_enter Tryz.func166,Tryz.ntmps166
   go_wp2_with fail;refine(right_any G _ x.fo x.wh _ (HV.out.below ((Below.refl _ _).alloc (Nat.le_refl _) _))).mono ?_
   rintro e w1 ⟨rfl,hb1⟩;obtain⟨c0,c1,c2,hbw,hlt⟩:=bxG3 hb1
   clear hb1;go_wp2;go_ret;exact⟨by rw[HE.out];rfl,hbw⟩
 · have hz:(x.ri==0)=true:=by simpa using h0
   have h3':(Pp.rgt G x.fo b==3)=false:=by simpa using h3
   have HE:=ghid hE;clear hE h0 h3;go_enter Tryz.func166,Tryz.ntmps166
   go_wp2_with fail;refine(right_any G _ x.fo b _ (HV.out.below ((Below.refl _ _).alloc (Nat.le_refl _) _))).mono ?_
   rintro e w1 ⟨rfl,hb1⟩;obtain⟨c0,c1,c2,hbw,hlt⟩:=bxG3 hb1
   clear hb1;go_wp2;go_ret;exact⟨by rw[HE.out];rfl,hbw⟩
 all_goals
  have hz:(x.ri==0)=true:=by simpa using h0
  have H3:=ghid h3;have HE:=ghid hE
  first
   |(have H5:Hid (Pp.rgt G x.fo x.wh=0):=h5)
   |(have h5':(Pp.rgt G x.fo x.wh==0)=false:=by simpa using h5)
  clear hE h0 h3 h5;go_enter Tryz.func166,Tryz.ntmps166
  go_wp2_with fail;refine(right_any G _ x.fo b _ (HV.out.below ((Below.refl _ _).alloc (Nat.le_refl _) _))).mono ?_
  rintro e w1 ⟨rfl,hb1⟩;rw[H3.out];obtain⟨c0,c1,c2,hbw,hlt⟩:=bxG3 hb1
  clear hb1;go_wp2_with fail;refine(right_any G _ x.fo x.wh _ (HV.out.below hbw)).mono ?_
  rintro e w2 ⟨rfl,hb2⟩;try rw[H5.out]
  have hb02:=below_trans hbw hb2;clear hb2 hbw;go_wp2;go_ret;exact⟨by rw[HE.out];rfl,hb02⟩
end Go.Proofs.YtppdfeehhnofaaaGreatDoor
namespace Go.Proofs.YtppdfeehhnofaaaGreatDoor
open Go.RowKit

namespace Pp
/-- Give, of grants that pass Check. -/
def gvE (G:List Gr) (f b m:ByteArray) (r:Int):Int:=
 if nmsE [f,b,m]=0 then(if r<0∨3<r then 3 else if gvgE G b ⟨f,m,r⟩=0 then(if(pgN ⟨f,m,r⟩ G).any (ownF f)=true then(if 60<(pgN ⟨f,m,r⟩ G).length then 2 else 0)else 4)else gvgE G b ⟨f,m,r⟩)else 1
theorem gv_cases (G:List Gr) (f b m:ByteArray) (r:Int):
    (nmsE [f,b,m]=1∧gvE G f b m r=1)∨(nmsE [f,b,m]=0∧r<0∧gvE G f b m r=3)∨(nmsE [f,b,m]=0∧0≤r∧3<r∧gvE G f b m r=3)∨
    (nmsE [f,b,m]=0∧0≤r∧r≤3∧ ¬gvgE G b ⟨f,m,r⟩=0∧gvE G f b m r=gvgE G b ⟨f,m,r⟩)∨
    (nmsE [f,b,m]=0∧0≤r∧r≤3∧gvgE G b ⟨f,m,r⟩=0∧(pgN ⟨f,m,r⟩ G).any (ownF f)=false∧gvE G f b m r=4)∨
    (nmsE [f,b,m]=0∧0≤r∧r≤3∧gvgE G b ⟨f,m,r⟩=0∧(pgN ⟨f,m,r⟩ G).any (ownF f)=true∧60<(pgN ⟨f,m,r⟩ G).length∧gvE G f b m r=2)∨
    (nmsE [f,b,m]=0∧0≤r∧r≤3∧gvgE G b ⟨f,m,r⟩=0∧(pgN ⟨f,m,r⟩ G).any (ownF f)=true∧(pgN ⟨f,m,r⟩ G).length≤60∧gvE G f b m r=0):=by
 rcases nms_cases [f,b,m]with h|h
 · right
   have e1:gvE G f b m r=(if r<0∨3<r then 3 else if gvgE G b ⟨f,m,r⟩=0 then(if(pgN ⟨f,m,r⟩ G).any (ownF f)=true then(if 60<(pgN ⟨f,m,r⟩ G).length then 2 else 0)else 4)else gvgE G b ⟨f,m,r⟩):=if_pos h;by_cases h1:r<0
   · left;exact⟨h,h1,by rw[e1,if_pos (Or.inl h1)]⟩
   · right
     by_cases h2:3<r
     · left;exact⟨h,by omega,h2,by rw[e1,if_pos (Or.inr h2)]⟩
     · right
       rw[if_neg (by omega)]at e1;by_cases h3:gvgE G b ⟨f,m,r⟩=0
       · right
         rw[if_pos h3]at e1;cases h4:(pgN ⟨f,m,r⟩ G).any (ownF f)with
         |false=>left;exact⟨h,by omega,by omega,h3,rfl,by rw[e1,h4];rfl⟩
         |true=>
          right
          rw[h4,if_pos rfl]at e1;by_cases h5:60<(pgN ⟨f,m,r⟩ G).length
          · left;exact⟨h,by omega,by omega,h3,rfl,h5,by rw[e1,if_pos h5]⟩
          · right;exact⟨h,by omega,by omega,h3,rfl,by omega,by rw[e1,if_neg h5]⟩
       · left;exact⟨h,by omega,by omega,h3,by rw[e1,if_neg h3]⟩
 · left;exact⟨h,by rw[gvE,if_neg (by rw[h];decide)]⟩
def giE (G:List Gr) (f b m:ByteArray) (r:Int):Int:=if gchE G=0 then gvE G f b m r else gchE G
def giL (G:List Gr) (f b m:ByteArray) (r:Int):List Gr:=if giE G f b m r=0 then pgN ⟨f,m,r⟩ G else[]
theorem giL_no {G:List Gr} {f b m:ByteArray} {r:Int} (h: ¬giE G f b m r=0):giL G f b m r=[]:=if_neg h
theorem giL_yes {G:List Gr} {f b m:ByteArray} {r:Int} (h:giE G f b m r=0):giL G f b m r=pgN ⟨f,m,r⟩ G:=if_pos h
end Pp

set_option maxRecDepth 100000 in
set_option maxHeartbeats 4000000 in
theorem give_any (G:List Gr) (v:Value) (f b m:ByteArray) (r:Int) (w:World) (hv:LiesG w v G) (hs:SizedG G) (hf:f.size≤150000000000000) (hb:b.size≤150000000000000) (hm:m.size≤150000000000000):
    Calls Tryz.prog 127 #[v,.string f,.string b,.string m,.int .i64 r] w fun e w'=> ∃u,e= .returned (.tuple #[u,.int .i64 (Pp.giE G f b m r)])∧(LiesG w' u (Pp.giL G f b m r)∧Fr w.heap.size u)∧Below w.heap.size w w':=by
 have HV:=ghid hv;have HS:=ghid hs;clear hv hs;have hsz: ∀i (hi:i<[f,b,m].length),([f,b,m][i]).size≤1000000000000000:=fun i hi=>by match i,hi with|0,_=>exact Nat.le_trans hf (by decide)|1,_=>exact Nat.le_trans hb (by decide)|2,_=>exact Nat.le_trans hm (by decide)
 have HSZ:=ghid hsz;clear hsz hf hb hm;by_cases hg0:Pp.gchE G=0
 case neg=>
  have eE:Pp.giE G f b m r=Pp.gchE G:=if_neg hg0;have eC:Pp.calE G [f,b,m]=Pp.gchE G:=if_neg hg0;have HL:Hid (Pp.giL G f b m r=[]):=Pp.giL_no (by rw[eE];exact hg0);have HE:=ghid eE;have HC:=ghid eC;have hz:(Pp.gchE G==0)=false:=by simpa using hg0
  clear eE eC hg0;go_enter Tryz.func127,Tryz.ntmps127
  go_wp2_with fail;refine(gcheckAll_any G _ [f,b,m] w.heap.size 3 _ (HV.out.below ((Below.refl _ _).alloc (Nat.le_refl _) _)) HS.out (by simp) HSZ.out (by simp) (fun i hi=>by match i,hi with|0,_=>simp|1,_=>simp|2,_=>simp)).mono ?_
  rintro e w1 ⟨rfl,hb1⟩;rw[HC.out];have hb01:Below w.heap.size w w1:=((Below.refl _ _).alloc (Nat.le_refl _) _).trans (hb1.mono (by simp));clear hb1;generalize hy:Pp.gchE G=y at*;go_wp2;go_ret2;exact⟨_,by rw[HE.out];rfl,by rw[HL.out];exact⟨liesG_nil _,fr_nil _⟩,hb01⟩
 case pos=>
 have eE:Pp.giE G f b m r=Pp.gvE G f b m r:=if_pos hg0;have eC:Pp.calE G [f,b,m]=Pp.nmsE [f,b,m]:=if_pos hg0;obtain⟨hl60,_,hris,_⟩:=Pp.gch0 hg0
 have HPW:=ghid ((Pp.risG_pair G).1 hris);have hpl:=Pp.pgN_len ⟨f,m,r⟩ G;clear hris;rcases Pp.gv_cases G f b m r with⟨hn,hE⟩|⟨hn,h1,hE⟩|⟨hn,h1,h2,hE⟩|⟨hn,h1,h2,hc,hE⟩|⟨hn,h1,h2,hc,ha,hE⟩|⟨hn,h1,h2,hc,ha,h6,hE⟩|⟨hn,h1,h2,hc,ha,h6,hE⟩
 case inl=>
  have HL:Hid (Pp.giL G f b m r=[]):=Pp.giL_no (by rw[eE,hE];decide);have HE:=ghid (eE.trans hE);have HC:=ghid (eC.trans hn);clear eE eC hE hn hg0;go_enter Tryz.func127,Tryz.ntmps127
  go_wp2_with fail;refine(gcheckAll_any G _ [f,b,m] w.heap.size 3 _ (HV.out.below ((Below.refl _ _).alloc (Nat.le_refl _) _)) HS.out (by simp) HSZ.out (by simp) (fun i hi=>by match i,hi with|0,_=>simp|1,_=>simp|2,_=>simp)).mono ?_
  rintro e w1 ⟨rfl,hb1⟩;rw[HC.out];have hb01:Below w.heap.size w w1:=((Below.refl _ _).alloc (Nat.le_refl _) _).trans (hb1.mono (by simp));clear hb1;go_wp2;go_ret2;exact⟨_,by rw[HE.out];rfl,by rw[HL.out];exact⟨liesG_nil _,fr_nil _⟩,hb01⟩
 case inr.inl=>
  have HL:Hid (Pp.giL G f b m r=[]):=Pp.giL_no (by rw[eE,hE];decide);have HE:=ghid (eE.trans hE);have HC:=ghid (eC.trans hn);clear eE eC hE hn hg0;go_enter Tryz.func127,Tryz.ntmps127
  go_wp2_with fail;refine(gcheckAll_any G _ [f,b,m] w.heap.size 3 _ (HV.out.below ((Below.refl _ _).alloc (Nat.le_refl _) _)) HS.out (by simp) HSZ.out (by simp) (fun i hi=>by match i,hi with|0,_=>simp|1,_=>simp|2,_=>simp)).mono ?_
  rintro e w1 ⟨rfl,hb1⟩;rw[HC.out];have hb01:Below w.heap.size w w1:=((Below.refl _ _).alloc (Nat.le_refl _) _).trans (hb1.mono (by simp));clear hb1;go_wp2;go_ret2;exact⟨_,by rw[HE.out];rfl,by rw[HL.out];exact⟨liesG_nil _,fr_nil _⟩,hb01⟩
 case inr.inr.inl=>
  have HL:Hid (Pp.giL G f b m r=[]):=Pp.giL_no (by rw[eE,hE];decide);have HE:=ghid (eE.trans hE);have HC:=ghid (eC.trans hn);clear eE eC hE hn hg0;go_enter Tryz.func127,Tryz.ntmps127
  go_wp2_with fail;refine(gcheckAll_any G _ [f,b,m] w.heap.size 3 _ (HV.out.below ((Below.refl _ _).alloc (Nat.le_refl _) _)) HS.out (by simp) HSZ.out (by simp) (fun i hi=>by match i,hi with|0,_=>simp|1,_=>simp|2,_=>simp)).mono ?_
  rintro e w1 ⟨rfl,hb1⟩;rw[HC.out];have hb01:Below w.heap.size w w1:=((Below.refl _ _).alloc (Nat.le_refl _) _).trans (hb1.mono (by simp));clear hb1;go_wp2;go_ret2;exact⟨_,by rw[HE.out];rfl,by rw[HL.out];exact⟨liesG_nil _,fr_nil _⟩,hb01⟩
 case inr.inr.inr.inl=>
  have HL:Hid (Pp.giL G f b m r=[]):=Pp.giL_no (by rw[eE,hE];exact hc);have HE:=ghid (eE.trans hE);have HC:=ghid (eC.trans hn);have hz:(Pp.gvgE G b ⟨f,m,r⟩==0)=false:=by simpa using hc
  clear eE eC hE hn hg0 hc;go_enter Tryz.func127,Tryz.ntmps127
  go_wp2_with fail;refine(gcheckAll_any G _ [f,b,m] w.heap.size 3 _ (HV.out.below ((Below.refl _ _).alloc (Nat.le_refl _) _)) HS.out (by simp) HSZ.out (by simp) (fun i hi=>by match i,hi with|0,_=>simp|1,_=>simp|2,_=>simp)).mono ?_
  rintro e w1 ⟨rfl,hb1⟩;rw[HC.out];have hb01:Below w.heap.size w w1:=((Below.refl _ _).alloc (Nat.le_refl _) _).trans (hb1.mono (by simp));clear hb1;go_wp2_with fail;refine(checkGive_any G _ b ⟨f,m,r⟩ _ (HV.out.below (by first|exact hb01|exact hb01.alloc hb01.size _))).mono ?_
  rintro e w2 ⟨rfl,hb2⟩;obtain⟨c0,c1,c2,hbw,hlt⟩:=bxG3 hb2
  have hb02:=below_trans hb01 hbw;clear hb2 hbw hb01;generalize Pp.gvgE G b ⟨f,m,r⟩=y at*;go_wp2;go_ret2;exact⟨_,by rw[HE.out];rfl,by rw[HL.out];exact⟨liesG_nil _,fr_nil _⟩,hb02⟩
 case inr.inr.inr.inr.inl=>
  have HL:Hid (Pp.giL G f b m r=[]):=Pp.giL_no (by rw[eE,hE];decide);have HE:=ghid (eE.trans hE);have HC:=ghid (eC.trans hn);have HG:=ghid hc;have HA:=ghid ha;clear eE eC hE hn hg0 hc ha;go_enter Tryz.func127,Tryz.ntmps127
  go_wp2_with fail;refine(gcheckAll_any G _ [f,b,m] w.heap.size 3 _ (HV.out.below ((Below.refl _ _).alloc (Nat.le_refl _) _)) HS.out (by simp) HSZ.out (by simp) (fun i hi=>by match i,hi with|0,_=>simp|1,_=>simp|2,_=>simp)).mono ?_
  rintro e w1 ⟨rfl,hb1⟩;rw[HC.out];have hb01:Below w.heap.size w w1:=((Below.refl _ _).alloc (Nat.le_refl _) _).trans (hb1.mono (by simp));clear hb1;go_wp2_with fail;refine(checkGive_any G _ b ⟨f,m,r⟩ _ (HV.out.below (by first|exact hb01|exact hb01.alloc hb01.size _))).mono ?_
  rintro e w2 ⟨rfl,hb2⟩;rw[HG.out];obtain⟨c0,c1,c2,hbw,hlt⟩:=bxG3 hb2
  have hb02:=below_trans hb01 hbw;clear hb2 hbw hb01;go_wp2_with fail;refine(gput_any G _ ⟨f,m,r⟩ _ (HV.out.below hb02) (by omega) HPW.out).mono ?_
  rintro e w4 ⟨u,rfl,⟨hli,hfr⟩,hb4⟩;have HFR:=ghid (hfr.mono hb02.size);clear hfr;have HLI:=ghid hli;have hb04:=below_trans hb02 hb4;clear hli hb4 hb02 c0 c1 c2;go_wp2_with fail;refine(isOwned_any _ _ f _ HLI.out).mono ?_
  rintro e w5 ⟨rfl,hb5⟩;rw[HA.out];have hb05:=below_trans hb04 hb5;clear hb5 hb04;go_wp2;go_ret2;exact⟨_,by rw[HE.out];rfl,by rw[HL.out];exact⟨liesG_nil _,fr_nil _⟩,hb05⟩
 case inr.inr.inr.inr.inr.inl=>
  have HL:Hid (Pp.giL G f b m r=[]):=Pp.giL_no (by rw[eE,hE];decide);have HE:=ghid (eE.trans hE);have HC:=ghid (eC.trans hn);have HG:=ghid hc;have HA:=ghid ha;clear eE eC hE hn hg0 hc ha;go_enter Tryz.func127,Tryz.ntmps127
  go_wp2_with fail;refine(gcheckAll_any G _ [f,b,m] w.heap.size 3 _ (HV.out.below ((Below.refl _ _).alloc (Nat.le_refl _) _)) HS.out (by simp) HSZ.out (by simp) (fun i hi=>by match i,hi with|0,_=>simp|1,_=>simp|2,_=>simp)).mono ?_
  rintro e w1 ⟨rfl,hb1⟩;rw[HC.out];have hb01:Below w.heap.size w w1:=((Below.refl _ _).alloc (Nat.le_refl _) _).trans (hb1.mono (by simp));clear hb1;go_wp2_with fail;refine(checkGive_any G _ b ⟨f,m,r⟩ _ (HV.out.below (by first|exact hb01|exact hb01.alloc hb01.size _))).mono ?_
  rintro e w2 ⟨rfl,hb2⟩;rw[HG.out];obtain⟨c0,c1,c2,hbw,hlt⟩:=bxG3 hb2
  have hb02:=below_trans hb01 hbw;clear hb2 hbw hb01;go_wp2_with fail;refine(gput_any G _ ⟨f,m,r⟩ _ (HV.out.below hb02) (by omega) HPW.out).mono ?_
  rintro e w4 ⟨u,rfl,⟨hli,hfr⟩,hb4⟩;have HFR:=ghid (hfr.mono hb02.size);clear hfr;have HLI:=ghid hli;have hb04:=below_trans hb02 hb4;clear hli hb4 hb02 c0 c1 c2;go_wp2_with fail;refine(isOwned_any _ _ f _ HLI.out).mono ?_
  rintro e w5 ⟨rfl,hb5⟩;rw[HA.out];have hb05:=below_trans hb04 hb5;have HLI5:=ghid (HLI.out.below hb5);clear hb5 hb04 HLI;go_wp2_with fail;refine(bounded_no _ _ _ HLI5.out h6).mono ?_
  rintro e w6 ⟨rfl,hw⟩;rw[hw];clear hw w6;go_wp2;go_ret2;exact⟨_,by rw[HE.out];rfl,by rw[HL.out];exact⟨liesG_nil _,fr_nil _⟩,hb05⟩
 case inr.inr.inr.inr.inr.inr=>
  have HL:Hid (Pp.giL G f b m r=Pp.pgN ⟨f,m,r⟩ G):=Pp.giL_yes (eE.trans hE);have HE:=ghid (eE.trans hE);have HC:=ghid (eC.trans hn);have HG:=ghid hc;have HA:=ghid ha;clear eE eC hE hn hg0 hc ha;go_enter Tryz.func127,Tryz.ntmps127
  go_wp2_with fail;refine(gcheckAll_any G _ [f,b,m] w.heap.size 3 _ (HV.out.below ((Below.refl _ _).alloc (Nat.le_refl _) _)) HS.out (by simp) HSZ.out (by simp) (fun i hi=>by match i,hi with|0,_=>simp|1,_=>simp|2,_=>simp)).mono ?_
  rintro e w1 ⟨rfl,hb1⟩;rw[HC.out];have hb01:Below w.heap.size w w1:=((Below.refl _ _).alloc (Nat.le_refl _) _).trans (hb1.mono (by simp));clear hb1;go_wp2_with fail;refine(checkGive_any G _ b ⟨f,m,r⟩ _ (HV.out.below (by first|exact hb01|exact hb01.alloc hb01.size _))).mono ?_
  rintro e w2 ⟨rfl,hb2⟩;rw[HG.out];obtain⟨c0,c1,c2,hbw,hlt⟩:=bxG3 hb2
  have hb02:=below_trans hb01 hbw;clear hb2 hbw hb01;go_wp2_with fail;refine(gput_any G _ ⟨f,m,r⟩ _ (HV.out.below hb02) (by omega) HPW.out).mono ?_
  rintro e w4 ⟨u,rfl,⟨hli,hfr⟩,hb4⟩;have HFR:=ghid (hfr.mono hb02.size);clear hfr;have HLI:=ghid hli;have hb04:=below_trans hb02 hb4;clear hli hb4 hb02 c0 c1 c2;go_wp2_with fail;refine(isOwned_any _ _ f _ HLI.out).mono ?_
  rintro e w5 ⟨rfl,hb5⟩;rw[HA.out];have hb05:=below_trans hb04 hb5;have HLI5:=ghid (HLI.out.below hb5);clear hb5 hb04 HLI;go_wp2_with fail;refine(bounded_ok _ _ _ HLI5.out h6).mono ?_
  rintro e w6 ⟨rfl,hw⟩;rw[hw];clear hw w6;go_wp2;go_ret2;exact⟨_,by rw[HE.out];rfl,by rw[HL.out];exact⟨HLI5.out,HFR.out⟩,hb05⟩
end Go.Proofs.YtppdfeehhnofaaaGreatDoor
