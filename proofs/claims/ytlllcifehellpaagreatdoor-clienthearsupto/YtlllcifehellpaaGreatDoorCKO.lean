/- What client.Hear answers. -/
import Derived.Test.YtlllcifehellpaaGreatDoorCKN
import Derived.Test.YtlllcifehellpaaGreatDoorCKA
import Derived.Test.YtlllcifehellpaaGreatDoorCKB
import Derived.Test.YtlllcifehellpaaGreatDoorCKE
set_option linter.unusedSimpArgs false
set_option linter.unusedVariables false
namespace Go.Proofs.YtlllcifehellpaaGreatDoor
open Go.RowKit

namespace Cy
def hdC (c:Cn):Cn:=⟨c.who,c.fo,c.base,c.cur,c.mine,⟨#[]⟩,[],c.keys⟩
def heE (c:Cn) (k:Int) (a:An):Int:=if¬chE c=0 then chE c else if k=1 then 0 else if k=2 then tnE c a else 7
def heC (c:Cn) (k:Int) (a:An):Cn:=if¬chE c=0 then zeroN else if k=1 then hdC c else if k=2 then tnC c a else zeroN
def heK (c:Cn) (k:Int) (a:An):Mg.CC:=if¬chE c=0 then[]else if k=1 then[]else if k=2 then tnK c a else[]
theorem he_zero {c:Cn} {k:Int} {a:An} (h: ¬heE c k a=0):heC c k a=zeroN:=by
 unfold heE at h;unfold heC;by_cases h0:chE c=0
 · rw[if_neg (fun x=>x h0)]at h⊢
   by_cases h1:k=1
   · rw[if_pos h1]at h;exact absurd rfl h
   · rw[if_neg h1]at h⊢
     by_cases h2:k=2
     · rw[if_pos h2]at h⊢
       rw[tnC,if_neg h]
     · rw[if_neg h2]
 · rw[if_pos h0]
end Cy

set_option maxRecDepth 100000 in
set_option maxHeartbeats 8000000 in
theorem hear_any (c:Cn) (k:Int) (a:An) (v va:Value) (w:World) (hv:LiesN w v c) (ha:LiesA w va a) (hs:SizedN c) (hsa:SizedA a):
    Calls Tryz.prog 4 #[v,.int .i64 k,va] w fun e w'=> ∃u vk,e= .returned (.tuple #[u,vk,.int .i64 (Cy.heE c k a)])∧LiesN w' u (Cy.heC c k a)∧LiesK w' vk (Cy.heK c k a)∧Own w.heap.size w' vk∧Below w.heap.size w w':=by
 have HV:=hid hv;have HA:=hid ha;have HS:=hid hs;have HSA:=hid hsa;obtain⟨vb,vm,vq,rfl,lb,lm,la⟩:=hv
 have HLB:=hid lb;have HLM:=hid lm;have HLC:=hid la;obtain⟨ab,cb,rfl,_⟩:=lb
 obtain⟨am,cm,rfl,_⟩:=lm
 obtain⟨aa,ca,rfl,_⟩:=la
 obtain⟨vt,vc,rfl,lt,lc⟩:=ha
 have HLT:=hid lt;have HLO:=hid lc;obtain⟨xt,yt,rfl,_⟩:=lt
 obtain⟨xc,yc,rfl⟩:=liesO_shape lc
 clear hs hsa lc;obtain⟨wa,hwa⟩: ∃wa,wa=w.alloc (.cells #[.string c.who,.string c.fo,.slice ab c.base.length cb,.int .i64 c.cur,.slice am c.mine.length cm,.string c.key,.slice aa c.ask.length ca,.int .i64 c.keys] 25):=⟨_,rfl⟩
 obtain⟨wb,hwb⟩: ∃wb,wb=wa.alloc (.cells #[.int .i64 a.err,.int .i64 a.num,.bool a.pg.reset,.slice xt a.pg.tree.length yt,.slice xc a.pg.cos.length yc,.int .i64 a.pg.cur,.bool a.pg.more] 31):=⟨_,rfl⟩
 obtain⟨wz,hwz⟩: ∃wz,wz=wb.alloc (.cells #[.string ⟨#[]⟩,.string ⟨#[]⟩,.slice none 0 0,.int .i64 0,.slice none 0 0,.string ⟨#[]⟩,.slice none 0 0,.int .i64 0] 25):=⟨_,rfl⟩
 have sa:wa.heap.size=w.heap.size+1:=by rw[hwa];simp
 have sb:wb.heap.size=w.heap.size+1+1:=by rw[hwb];simp[sa]
 have bwa:Below w.heap.size w wa:=by rw[hwa];exact(Below.refl _ _).alloc (Nat.le_refl _) _
 have bwb:Below wa.heap.size wa wb:=by rw[hwb];exact(Below.refl _ _).alloc (Nat.le_refl _) _
 have bwz:Below wb.heap.size wb wz:=by rw[hwz];exact(Below.refl _ _).alloc (Nat.le_refl _) _
 have hbz:Below w.heap.size w wz:=below_tr bwa (below_tr bwb bwz);have HX:Hid (Cs wz w.heap.size [.string c.who,.string c.fo,.slice ab c.base.length cb,.int .i64 c.cur,.slice am c.mine.length cm,.string c.key,.slice aa c.ask.length ca,.int .i64 c.keys]):=(((by rw[hwa];exact Cs.new w [.string c.who,.string c.fo,.slice ab c.base.length cb,.int .i64 c.cur,.slice am c.mine.length cm,.string c.key,.slice aa c.ask.length ca,.int .i64 c.keys] _:Cs wa w.heap.size [.string c.who,.string c.fo,.slice ab c.base.length cb,.int .i64 c.cur,.slice am c.mine.length cm,.string c.key,.slice aa c.ask.length ca,.int .i64 c.keys]).below bwb).below bwz:Cs wz w.heap.size _)
 have HC:Hid (Cs wz (w.heap.size+1) [.int .i64 a.err,.int .i64 a.num,.bool a.pg.reset,.slice xt a.pg.tree.length yt,.slice xc a.pg.cos.length yc,.int .i64 a.pg.cur,.bool a.pg.more]):=((by rw[←sa,hwb];exact Cs.new wa [.int .i64 a.err,.int .i64 a.num,.bool a.pg.reset,.slice xt a.pg.tree.length yt,.slice xc a.pg.cos.length yc,.int .i64 a.pg.cur,.bool a.pg.more] _:Cs wb (w.heap.size+1) [.int .i64 a.err,.int .i64 a.num,.bool a.pg.reset,.slice xt a.pg.tree.length yt,.slice xc a.pg.cos.length yc,.int .i64 a.pg.cur,.bool a.pg.more]).below bwz:Cs wz (w.heap.size+1) _)
 have HY:=hid (show Cs wz (w.heap.size+1+1) zs from by rw[←sb,hwz];exact Cs.new wb zs _);have hNz:w.heap.size+1+1<wz.heap.size:=HY.out.lt;have hwzz:(((w.alloc (.cells #[.string c.who,.string c.fo,.slice ab c.base.length cb,.int .i64 c.cur,.slice am c.mine.length cm,.string c.key,.slice aa c.ask.length ca,.int .i64 c.keys] 25)).alloc (.cells #[.int .i64 a.err,.int .i64 a.num,.bool a.pg.reset,.slice xt a.pg.tree.length yt,.slice xc a.pg.cos.length yc,.int .i64 a.pg.cur,.bool a.pg.more] 31)).alloc (.cells #[.string ⟨#[]⟩,.string ⟨#[]⟩,.slice none 0 0,.int .i64 0,.slice none 0 0,.string ⟨#[]⟩,.slice none 0 0,.int .i64 0] 25))=wz:=by rw[hwz,hwb,hwa]
 have HWZ:=hid hwzz;have n1: ¬w.heap.size=w.heap.size+1+1:=by omega
 have n2: ¬w.heap.size+1=w.heap.size+1+1:=by omega
 have n3: ¬w.heap.size+1+1=w.heap.size+1:=by omega
 clear hwa hwb hwz bwa bwb bwz sa sb hwzz;by_cases h0:Cy.chE c=0
 · by_cases h1:k=1
   · have HQ:=hid (show Cy.heE c k a=0∧Cy.heC c k a=Cy.hdC c∧Cy.heK c k a=[]from⟨by rw[Cy.heE,if_neg (fun x=>x h0),if_pos h1],by rw[Cy.heC,if_neg (fun x=>x h0),if_pos h1],by rw[Cy.heK,if_neg (fun x=>x h0),if_pos h1]⟩)
     have H0:=hid h0;have hk1:(k==1)=true:=by simpa using h1
     rw[HQ.out.1];clear h0 h1;go_enter Tryz.func4,Tryz.ntmps4
     go_upto_region 1 with fail;rw[HWZ.out];clear HWZ;have p0:=HX.out.cell 0 rfl;have p1:=HX.out.cell 1 rfl;have p2:=HX.out.cell 2 rfl;have p3:=HX.out.cell 3 rfl;have p4:=HX.out.cell 4 rfl;have p5:=HX.out.cell 5 rfl;have p6:=HX.out.cell 6 rfl;have p7:=HX.out.cell 7 rfl;go_wp2_with fail;refine(checked_any c _ _ (HV.out.below hbz) HS.out).mono ?_
     rintro e w1 ⟨u1,rfl,hN1,hb1⟩;clear p0 p1 p2 p3 p4 p5 p6 p7;obtain⟨d,hd⟩: ∃d,d=Cy.ok c:=⟨_,rfl⟩
     rw[←hd]at hN1;have HD:=hid hd;clear hd;have hs1:=hb1.size;have HX1:=hid (HX.out.below hb1);have HC1:=hid (HC.out.below hb1);have HY1:=hid (HY.out.below hb1);have HN1:=hid hN1;obtain⟨vb,vm,vq,rfl,⟨lb1,ob1⟩,⟨lm1,om1⟩,la1,oa1⟩:=hN1
     obtain⟨eb,fb,rfl,_⟩:=lb1
     obtain⟨em,fm,rfl,_⟩:=lm1
     obtain⟨ea,fa,rfl,_⟩:=la1
     clear ob1 om1 oa1;obtain⟨w2,hw2⟩: ∃w2,w2=((((((((w1.setCell ⟨w.heap.size,0,none⟩ (.string d.who)).setCell ⟨w.heap.size,1,none⟩ (.string d.fo)).setCell ⟨w.heap.size,2,none⟩ (.slice eb d.base.length fb)).setCell ⟨w.heap.size,3,none⟩ (.int .i64 d.cur)).setCell ⟨w.heap.size,4,none⟩ (.slice em d.mine.length fm)).setCell ⟨w.heap.size,5,none⟩ (.string d.key)).setCell ⟨w.heap.size,6,none⟩ (.slice ea d.ask.length fa)).setCell ⟨w.heap.size,7,none⟩ (.int .i64 d.keys)):=⟨_,rfl⟩
     have hg2:w1.grownBy w2 (some w.heap.size):=by rw[hw2];exact(grown_on (grown_on (grown_on (grown_on (grown_on (grown_on (grown_on (nb_set w1 (w.heap.size) 0 (.string d.who)) (nb_set _ (w.heap.size) 1 (.string d.fo))) (nb_set _ (w.heap.size) 2 (.slice eb d.base.length fb))) (nb_set _ (w.heap.size) 3 (.int .i64 d.cur))) (nb_set _ (w.heap.size) 4 (.slice em d.mine.length fm))) (nb_set _ (w.heap.size) 5 (.string d.key))) (nb_set _ (w.heap.size) 6 (.slice ea d.ask.length fa))) (nb_set _ (w.heap.size) 7 (.int .i64 d.keys)))
     have HX2:Hid (Cs w2 w.heap.size [.string d.who,.string d.fo,.slice eb d.base.length fb,.int .i64 d.cur,.slice em d.mine.length fm,.string d.key,.slice ea d.ask.length fa,.int .i64 d.keys]):=(by rw[hw2];exact((((((((HX1.out.set 0 (.string d.who)).set 1 (.string d.fo)).set 2 (.slice eb d.base.length fb)).set 3 (.int .i64 d.cur)).set 4 (.slice em d.mine.length fm)).set 5 (.string d.key)).set 6 (.slice ea d.ask.length fa)).set 7 (.int .i64 d.keys)):Cs w2 w.heap.size _)
     have HC2:=hid (HC1.out.nb hg2 (by omega));have HY2:=hid (HY1.out.nb hg2 (by omega));have HN2:=hid (HN1.out.nbo hg2 (by omega));have hb2:Below w.heap.size w w2:=by rw[hw2];exact(bs8 (b:=w.heap.size) (below_tr hbz hb1) (Nat.le_refl _))
     have hs2:=hg2.size;have p0:=HX1.out.cell 0 rfl;have f0:=HX1.out.fr 0;have p1:=HX1.out.cell 1 rfl;have f1:=HX1.out.fr 1;have p2:=HX1.out.cell 2 rfl;have f2:=HX1.out.fr 2;have p3:=HX1.out.cell 3 rfl;have f3:=HX1.out.fr 3;have p4:=HX1.out.cell 4 rfl;have f4:=HX1.out.fr 4;have p5:=HX1.out.cell 5 rfl;have f5:=HX1.out.fr 5;have p6:=HX1.out.cell 6 rfl;have f6:=HX1.out.fr 6;have p7:=HX1.out.cell 7 rfl;have f7:=HX1.out.fr 7;obtain rfl:d=c:=by rw[HD.out,Cy.ok_yes H0.out]
     rw[H0.out];go_upto_region 6 with fail;rw[←hw2];clear hw2;clear p0 f0 p1 f1 p2 f2 p3 f3 p4 f4 p5 f5 p6 f6 p7 f7;obtain⟨w3,hw3⟩: ∃w3,w3=(w2.setCell ⟨w.heap.size,5,none⟩ (.string ⟨#[]⟩)).setCell ⟨w.heap.size,6,none⟩ (.slice none 0 0):=⟨_,rfl⟩
     have g3:w2.grownBy w3 (some w.heap.size):=by rw[hw3];exact grown_on (nb_set w2 w.heap.size 5 _) (nb_set _ w.heap.size 6 _)
     have HX3:Hid (Cs w3 w.heap.size [.string d.who,.string d.fo,.slice eb d.base.length fb,.int .i64 d.cur,.slice em d.mine.length fm,.string ⟨#[]⟩,.slice none 0 0,.int .i64 d.keys]):=(by rw[hw3];exact(HX2.out.set 5 _).set 6 _:Cs w3 w.heap.size _)
     have HY3:=hid (HY2.out.nb g3 (by omega));have HN3:=hid (HN2.out.nbo g3 (by omega));have hb3:Below w.heap.size w w3:=by rw[hw3];exact(hb2.setCell (p:=⟨w.heap.size,5,none⟩) (Nat.le_refl _) _).setCell (p:=⟨w.heap.size,6,none⟩) (Nat.le_refl _) _
     have s3:=g3.size;have p5:=HX2.out.cell 5 rfl;have f5:=HX2.out.fr 5;have p6:=HX2.out.cell 6 rfl;have f6:=HX2.out.fr 6;go_upto_region 7 with fail;rw[←hw3];clear hw3 p5 p6 f5 f6;have p0:=HX3.out.cell 0 rfl;have p1:=HX3.out.cell 1 rfl;have p2:=HX3.out.cell 2 rfl;have p3:=HX3.out.cell 3 rfl;have p4:=HX3.out.cell 4 rfl;have p5:=HX3.out.cell 5 rfl;have p6:=HX3.out.cell 6 rfl;have p7:=HX3.out.cell 7 rfl;have y0:=HY3.out.cell 0 rfl;have g0:=HY3.out.fr 0;have y1:=HY3.out.cell 1 rfl;have g1:=HY3.out.fr 1;have y2:=HY3.out.cell 2 rfl;have g2:=HY3.out.fr 2;have y3:=HY3.out.cell 3 rfl;have g3:=HY3.out.fr 3;have y4:=HY3.out.cell 4 rfl;have g4:=HY3.out.fr 4;have y5:=HY3.out.cell 5 rfl;have g5:=HY3.out.fr 5;have y6:=HY3.out.cell 6 rfl;have g6:=HY3.out.fr 6;have y7:=HY3.out.cell 7 rfl;have g7:=HY3.out.fr 7;go_wp2_with fail;refine bodyPost_ret (v:= .tuple #[.agg #[.string d.who,.string d.fo,.slice eb d.base.length fb,.int .i64 d.cur,.slice em d.mine.length fm,.string ⟨#[]⟩,.slice none 0 0,.int .i64 d.keys],.slice none 0 0,.int .i64 0]) (by simp[results,Tryz.results4,go_sem,y0,y1,y2,y3,y4,y5,y6,y7]) rfl ⟨_,_,rfl,?_,?_,own_nil _ _,?_⟩
     · rw[HQ.out.2.1]
       obtain⟨_,_,_,e,h1,h2,_⟩:=(HN3.out.nbo (grown_on (grown_on (grown_on (grown_on (grown_on (grown_on (grown_on (nb_set w3 (w.heap.size+1+1) 0 (.string d.who)) (nb_set _ (w.heap.size+1+1) 1 (.string d.fo))) (nb_set _ (w.heap.size+1+1) 2 (.slice eb d.base.length fb))) (nb_set _ (w.heap.size+1+1) 3 (.int .i64 d.cur))) (nb_set _ (w.heap.size+1+1) 4 (.slice em d.mine.length fm))) (nb_set _ (w.heap.size+1+1) 5 (.string ⟨#[]⟩))) (nb_set _ (w.heap.size+1+1) 6 (.slice none 0 0))) (nb_set _ (w.heap.size+1+1) 7 (.int .i64 d.keys))) (by omega))
       injection e with e
       simp only[Array.mk.injEq,List.cons.injEq]at e;obtain⟨_,_,e1,_,e2,_⟩:=e
       exact⟨_,_,_,rfl,by have q:=h1.1;rw[←e1]at q;exact q,by have q:=h2.1;rw[←e2]at q;exact q,liesC_nil _⟩
     · rw[HQ.out.2.2];exact LiesK.nil _
     · exact(bs8 (b:=w.heap.size+1+1) hb3 (by show _≤w.heap.size+1+1;omega))
   · by_cases h2:k=2
     · have HQ:=hid (show Cy.heE c k a=Cy.tnE c a∧Cy.heC c k a=Cy.tnC c a∧Cy.heK c k a=Cy.tnK c a from⟨by rw[Cy.heE,if_neg (fun x=>x h0),if_neg h1,if_pos h2],by rw[Cy.heC,if_neg (fun x=>x h0),if_neg h1,if_pos h2],by rw[Cy.heK,if_neg (fun x=>x h0),if_neg h1,if_pos h2]⟩)
       have H0:=hid h0;have hk1:(k==1)=false:=by simpa using h1
       have hk2:(k==2)=true:=by simpa using h2
       rw[HQ.out.1];clear h0 h1 h2;go_enter Tryz.func4,Tryz.ntmps4
       go_upto_region 1 with fail;rw[HWZ.out];clear HWZ;have p0:=HX.out.cell 0 rfl;have p1:=HX.out.cell 1 rfl;have p2:=HX.out.cell 2 rfl;have p3:=HX.out.cell 3 rfl;have p4:=HX.out.cell 4 rfl;have p5:=HX.out.cell 5 rfl;have p6:=HX.out.cell 6 rfl;have p7:=HX.out.cell 7 rfl;go_wp2_with fail;refine(checked_any c _ _ (HV.out.below hbz) HS.out).mono ?_
       rintro e w1 ⟨u1,rfl,hN1,hb1⟩;clear p0 p1 p2 p3 p4 p5 p6 p7;obtain⟨d,hd⟩: ∃d,d=Cy.ok c:=⟨_,rfl⟩
       rw[←hd]at hN1;have HD:=hid hd;clear hd;have hs1:=hb1.size;have HX1:=hid (HX.out.below hb1);have HC1:=hid (HC.out.below hb1);have HY1:=hid (HY.out.below hb1);have HN1:=hid hN1;obtain⟨vb,vm,vq,rfl,⟨lb1,ob1⟩,⟨lm1,om1⟩,la1,oa1⟩:=hN1
       obtain⟨eb,fb,rfl,_⟩:=lb1
       obtain⟨em,fm,rfl,_⟩:=lm1
       obtain⟨ea,fa,rfl,_⟩:=la1
       clear ob1 om1 oa1;obtain⟨w2,hw2⟩: ∃w2,w2=((((((((w1.setCell ⟨w.heap.size,0,none⟩ (.string d.who)).setCell ⟨w.heap.size,1,none⟩ (.string d.fo)).setCell ⟨w.heap.size,2,none⟩ (.slice eb d.base.length fb)).setCell ⟨w.heap.size,3,none⟩ (.int .i64 d.cur)).setCell ⟨w.heap.size,4,none⟩ (.slice em d.mine.length fm)).setCell ⟨w.heap.size,5,none⟩ (.string d.key)).setCell ⟨w.heap.size,6,none⟩ (.slice ea d.ask.length fa)).setCell ⟨w.heap.size,7,none⟩ (.int .i64 d.keys)):=⟨_,rfl⟩
       have hg2:w1.grownBy w2 (some w.heap.size):=by rw[hw2];exact(grown_on (grown_on (grown_on (grown_on (grown_on (grown_on (grown_on (nb_set w1 (w.heap.size) 0 (.string d.who)) (nb_set _ (w.heap.size) 1 (.string d.fo))) (nb_set _ (w.heap.size) 2 (.slice eb d.base.length fb))) (nb_set _ (w.heap.size) 3 (.int .i64 d.cur))) (nb_set _ (w.heap.size) 4 (.slice em d.mine.length fm))) (nb_set _ (w.heap.size) 5 (.string d.key))) (nb_set _ (w.heap.size) 6 (.slice ea d.ask.length fa))) (nb_set _ (w.heap.size) 7 (.int .i64 d.keys)))
       have HX2:Hid (Cs w2 w.heap.size [.string d.who,.string d.fo,.slice eb d.base.length fb,.int .i64 d.cur,.slice em d.mine.length fm,.string d.key,.slice ea d.ask.length fa,.int .i64 d.keys]):=(by rw[hw2];exact((((((((HX1.out.set 0 (.string d.who)).set 1 (.string d.fo)).set 2 (.slice eb d.base.length fb)).set 3 (.int .i64 d.cur)).set 4 (.slice em d.mine.length fm)).set 5 (.string d.key)).set 6 (.slice ea d.ask.length fa)).set 7 (.int .i64 d.keys)):Cs w2 w.heap.size _)
       have HC2:=hid (HC1.out.nb hg2 (by omega));have HY2:=hid (HY1.out.nb hg2 (by omega));have HN2:=hid (HN1.out.nbo hg2 (by omega));have hb2:Below w.heap.size w w2:=by rw[hw2];exact(bs8 (b:=w.heap.size) (below_tr hbz hb1) (Nat.le_refl _))
       have hs2:=hg2.size;have p0:=HX1.out.cell 0 rfl;have f0:=HX1.out.fr 0;have p1:=HX1.out.cell 1 rfl;have f1:=HX1.out.fr 1;have p2:=HX1.out.cell 2 rfl;have f2:=HX1.out.fr 2;have p3:=HX1.out.cell 3 rfl;have f3:=HX1.out.fr 3;have p4:=HX1.out.cell 4 rfl;have f4:=HX1.out.fr 4;have p5:=HX1.out.cell 5 rfl;have f5:=HX1.out.fr 5;have p6:=HX1.out.cell 6 rfl;have f6:=HX1.out.fr 6;have p7:=HX1.out.cell 7 rfl;have f7:=HX1.out.fr 7;obtain rfl:d=c:=by rw[HD.out,Cy.ok_yes H0.out]
       rw[H0.out];go_upto_region 9 with fail;rw[←hw2];clear hw2;clear p0 f0 p1 f1 p2 f2 p3 f3 p4 f4 p5 f5 p6 f6 p7 f7;have p0:=HX2.out.cell 0 rfl;have p1:=HX2.out.cell 1 rfl;have p2:=HX2.out.cell 2 rfl;have p3:=HX2.out.cell 3 rfl;have p4:=HX2.out.cell 4 rfl;have p5:=HX2.out.cell 5 rfl;have p6:=HX2.out.cell 6 rfl;have p7:=HX2.out.cell 7 rfl;have t0:=HC2.out.cell 0 rfl;have t1:=HC2.out.cell 1 rfl;have t2:=HC2.out.cell 2 rfl;have t3:=HC2.out.cell 3 rfl;have t4:=HC2.out.cell 4 rfl;have t5:=HC2.out.cell 5 rfl;have t6:=HC2.out.cell 6 rfl;go_wp2_with fail;refine(turn_any d a _ _ _ HN2.out.lies ⟨_,_,rfl,HLT.out.below hb2,HLO.out.below hb2⟩ HS.out HSA.out (Cy.ch_parts H0.out).2.1).mono ?_
       rintro e w3 ⟨u3,vk,rfl,hN3,hK3,hO3,hb3⟩;have HY3:=hid (HY2.out.below hb3);have HN3:=hid hN3;have HK3:=hid hK3;have HO3:=hid hO3;obtain⟨x,hx⟩: ∃x,x=Cy.tnC d a:=⟨_,rfl⟩
       rw[←hx]at hN3 HN3;have HXX:=hid hx;obtain⟨r,hr⟩: ∃r,r=Cy.tnE d a:=⟨_,rfl⟩
       rw[←hr];have HRT:=hid hr;clear hx hr hO3;obtain⟨vb,vm,vq,rfl,lb1,lm1,la1⟩:=hN3
       obtain⟨gb,kb,rfl,_⟩:=lb1
       obtain⟨gm,km,rfl,_⟩:=lm1
       obtain⟨ga,ka,rfl,_⟩:=la1
       obtain⟨C,hC⟩: ∃C,C=Cy.tnK d a:=⟨_,rfl⟩
       rw[←hC]at hK3 HK3;have HCC:=hid hC;obtain⟨ja,jc,rfl,_⟩:=hK3
       clear hC p0 p1 p2 p3 p4 p5 p6 p7 t0 t1 t2 t3 t4 t5 t6;have hs3:=hb3.size;have hb03:=below_tr hb2 hb3;have y0:=HY3.out.cell 0 rfl;have g0:=HY3.out.fr 0;have y1:=HY3.out.cell 1 rfl;have g1:=HY3.out.fr 1;have y2:=HY3.out.cell 2 rfl;have g2:=HY3.out.fr 2;have y3:=HY3.out.cell 3 rfl;have g3:=HY3.out.fr 3;have y4:=HY3.out.cell 4 rfl;have g4:=HY3.out.fr 4;have y5:=HY3.out.cell 5 rfl;have g5:=HY3.out.fr 5;have y6:=HY3.out.cell 6 rfl;have g6:=HY3.out.fr 6;have y7:=HY3.out.cell 7 rfl;have g7:=HY3.out.fr 7;go_wp2_with fail;have gz:w3.grownBy _ (some (w.heap.size+1+1)):=(grown_on (grown_on (grown_on (grown_on (grown_on (grown_on (grown_on (nb_set w3 (w.heap.size+1+1) 0 (.string x.who)) (nb_set _ (w.heap.size+1+1) 1 (.string x.fo))) (nb_set _ (w.heap.size+1+1) 2 (.slice gb x.base.length kb))) (nb_set _ (w.heap.size+1+1) 3 (.int .i64 x.cur))) (nb_set _ (w.heap.size+1+1) 4 (.slice gm x.mine.length km))) (nb_set _ (w.heap.size+1+1) 5 (.string x.key))) (nb_set _ (w.heap.size+1+1) 6 (.slice ga x.ask.length ka))) (nb_set _ (w.heap.size+1+1) 7 (.int .i64 x.keys)))
       refine bodyPost_ret (v:= .tuple #[.agg #[.string x.who,.string x.fo,.slice gb x.base.length kb,.int .i64 x.cur,.slice gm x.mine.length km,.string x.key,.slice ga x.ask.length ka,.int .i64 x.keys],.slice ja C.length jc,.int .i64 r]) (by simp[results,Tryz.results4,go_sem,y0,y1,y2,y3,y4,y5,y6,y7]) rfl ⟨_,_,by rw[HRT.out],?_,?_,(HO3.out.nb gz (fun b hb=>by have:=(HO3.out b hb).1;omega)).mono (by have:=hb2.size;omega),?_⟩
       · rw[HQ.out.2.1,←HXX.out]
         exact HN3.out.off HY3.out (noLies_cn _ _ _ _ _ _ _ _ _ _ _ _ _ _) gz
       · rw[HQ.out.2.2,←HCC.out]
         exact HK3.out.nbo gz (fun b hb=>by have:=(HO3.out b hb).1;omega)
       · exact(bs8 (b:=w.heap.size+1+1) hb03 (by show _≤w.heap.size+1+1;omega))
     · have HQ:=hid (show Cy.heE c k a=7∧Cy.heC c k a=zeroN∧Cy.heK c k a=[]from⟨by rw[Cy.heE,if_neg (fun x=>x h0),if_neg h1,if_neg h2],by rw[Cy.heC,if_neg (fun x=>x h0),if_neg h1,if_neg h2],by rw[Cy.heK,if_neg (fun x=>x h0),if_neg h1,if_neg h2]⟩)
       have H0:=hid h0;have hk1:(k==1)=false:=by simpa using h1
       have hk2:(k==2)=false:=by simpa using h2
       rw[HQ.out.1];clear h0 h1 h2;go_enter Tryz.func4,Tryz.ntmps4
       go_upto_region 1 with fail;rw[HWZ.out];clear HWZ;have p0:=HX.out.cell 0 rfl;have p1:=HX.out.cell 1 rfl;have p2:=HX.out.cell 2 rfl;have p3:=HX.out.cell 3 rfl;have p4:=HX.out.cell 4 rfl;have p5:=HX.out.cell 5 rfl;have p6:=HX.out.cell 6 rfl;have p7:=HX.out.cell 7 rfl;go_wp2_with fail;refine(checked_any c _ _ (HV.out.below hbz) HS.out).mono ?_
       rintro e w1 ⟨u1,rfl,hN1,hb1⟩;clear p0 p1 p2 p3 p4 p5 p6 p7;obtain⟨d,hd⟩: ∃d,d=Cy.ok c:=⟨_,rfl⟩
       rw[←hd]at hN1;have HD:=hid hd;clear hd;have hs1:=hb1.size;have HX1:=hid (HX.out.below hb1);have HC1:=hid (HC.out.below hb1);have HY1:=hid (HY.out.below hb1);have HN1:=hid hN1;obtain⟨vb,vm,vq,rfl,⟨lb1,ob1⟩,⟨lm1,om1⟩,la1,oa1⟩:=hN1
       obtain⟨eb,fb,rfl,_⟩:=lb1
       obtain⟨em,fm,rfl,_⟩:=lm1
       obtain⟨ea,fa,rfl,_⟩:=la1
       clear ob1 om1 oa1;obtain⟨w2,hw2⟩: ∃w2,w2=((((((((w1.setCell ⟨w.heap.size,0,none⟩ (.string d.who)).setCell ⟨w.heap.size,1,none⟩ (.string d.fo)).setCell ⟨w.heap.size,2,none⟩ (.slice eb d.base.length fb)).setCell ⟨w.heap.size,3,none⟩ (.int .i64 d.cur)).setCell ⟨w.heap.size,4,none⟩ (.slice em d.mine.length fm)).setCell ⟨w.heap.size,5,none⟩ (.string d.key)).setCell ⟨w.heap.size,6,none⟩ (.slice ea d.ask.length fa)).setCell ⟨w.heap.size,7,none⟩ (.int .i64 d.keys)):=⟨_,rfl⟩
       have hg2:w1.grownBy w2 (some w.heap.size):=by rw[hw2];exact(grown_on (grown_on (grown_on (grown_on (grown_on (grown_on (grown_on (nb_set w1 (w.heap.size) 0 (.string d.who)) (nb_set _ (w.heap.size) 1 (.string d.fo))) (nb_set _ (w.heap.size) 2 (.slice eb d.base.length fb))) (nb_set _ (w.heap.size) 3 (.int .i64 d.cur))) (nb_set _ (w.heap.size) 4 (.slice em d.mine.length fm))) (nb_set _ (w.heap.size) 5 (.string d.key))) (nb_set _ (w.heap.size) 6 (.slice ea d.ask.length fa))) (nb_set _ (w.heap.size) 7 (.int .i64 d.keys)))
       have HX2:Hid (Cs w2 w.heap.size [.string d.who,.string d.fo,.slice eb d.base.length fb,.int .i64 d.cur,.slice em d.mine.length fm,.string d.key,.slice ea d.ask.length fa,.int .i64 d.keys]):=(by rw[hw2];exact((((((((HX1.out.set 0 (.string d.who)).set 1 (.string d.fo)).set 2 (.slice eb d.base.length fb)).set 3 (.int .i64 d.cur)).set 4 (.slice em d.mine.length fm)).set 5 (.string d.key)).set 6 (.slice ea d.ask.length fa)).set 7 (.int .i64 d.keys)):Cs w2 w.heap.size _)
       have HC2:=hid (HC1.out.nb hg2 (by omega));have HY2:=hid (HY1.out.nb hg2 (by omega));have HN2:=hid (HN1.out.nbo hg2 (by omega));have hb2:Below w.heap.size w w2:=by rw[hw2];exact(bs8 (b:=w.heap.size) (below_tr hbz hb1) (Nat.le_refl _))
       have hs2:=hg2.size;have p0:=HX1.out.cell 0 rfl;have f0:=HX1.out.fr 0;have p1:=HX1.out.cell 1 rfl;have f1:=HX1.out.fr 1;have p2:=HX1.out.cell 2 rfl;have f2:=HX1.out.fr 2;have p3:=HX1.out.cell 3 rfl;have f3:=HX1.out.fr 3;have p4:=HX1.out.cell 4 rfl;have f4:=HX1.out.fr 4;have p5:=HX1.out.cell 5 rfl;have f5:=HX1.out.fr 5;have p6:=HX1.out.cell 6 rfl;have f6:=HX1.out.fr 6;have p7:=HX1.out.cell 7 rfl;have f7:=HX1.out.fr 7;obtain rfl:d=c:=by rw[HD.out,Cy.ok_yes H0.out]
       rw[H0.out];go_upto_region 10 with fail;rw[←hw2];clear hw2;clear p0 f0 p1 f1 p2 f2 p3 f3 p4 f4 p5 f5 p6 f6 p7 f7;have y0:=HY2.out.cell 0 rfl;have g0:=HY2.out.fr 0;have y1:=HY2.out.cell 1 rfl;have g1:=HY2.out.fr 1;have y2:=HY2.out.cell 2 rfl;have g2:=HY2.out.fr 2;have y3:=HY2.out.cell 3 rfl;have g3:=HY2.out.fr 3;have y4:=HY2.out.cell 4 rfl;have g4:=HY2.out.fr 4;have y5:=HY2.out.cell 5 rfl;have g5:=HY2.out.fr 5;have y6:=HY2.out.cell 6 rfl;have g6:=HY2.out.fr 6;have y7:=HY2.out.cell 7 rfl;have g7:=HY2.out.fr 7;go_wp2_with fail;refine bodyPost_ret (v:= .tuple #[.agg #[.string ⟨#[]⟩,.string ⟨#[]⟩,.slice none 0 0,.int .i64 0,.slice none 0 0,.string ⟨#[]⟩,.slice none 0 0,.int .i64 0],.slice none 0 0,.int .i64 7]) (by simp[results,Tryz.results4,go_sem,y0,y1,y2,y3,y4,y5,y6,y7]) rfl ⟨_,_,rfl,?_,?_,own_nil _ _,?_⟩
       · rw[HQ.out.2.1];exact(ownN_zero 0 _).lies
       · rw[HQ.out.2.2];exact LiesK.nil _
       · exact(bs8 (b:=w.heap.size+1+1) hb2 (by show _≤w.heap.size+1+1;omega))
 · have HQ:=hid (show Cy.heE c k a=Cy.chE c∧Cy.heC c k a=zeroN∧Cy.heK c k a=[]from⟨by rw[Cy.heE,if_pos h0],by rw[Cy.heC,if_pos h0],by rw[Cy.heK,if_pos h0]⟩)
   have h0':(Cy.chE c !=0)=true:=by simpa using h0
   rw[HQ.out.1];obtain⟨r,hr⟩: ∃r,r=Cy.chE c:=⟨_,rfl⟩
   rw[←hr]at h0'⊢;have HR:=hid hr;clear h0 hr;go_enter Tryz.func4,Tryz.ntmps4
   go_upto_region 1 with fail;rw[HWZ.out];clear HWZ;have p0:=HX.out.cell 0 rfl;have p1:=HX.out.cell 1 rfl;have p2:=HX.out.cell 2 rfl;have p3:=HX.out.cell 3 rfl;have p4:=HX.out.cell 4 rfl;have p5:=HX.out.cell 5 rfl;have p6:=HX.out.cell 6 rfl;have p7:=HX.out.cell 7 rfl;go_wp2_with fail;refine(checked_any c _ _ (HV.out.below hbz) HS.out).mono ?_
   rintro e w1 ⟨u1,rfl,hN1,hb1⟩;clear p0 p1 p2 p3 p4 p5 p6 p7;obtain⟨d,hd⟩: ∃d,d=Cy.ok c:=⟨_,rfl⟩
   rw[←hd]at hN1;have HD:=hid hd;clear hd;have hs1:=hb1.size;have HX1:=hid (HX.out.below hb1);have HC1:=hid (HC.out.below hb1);have HY1:=hid (HY.out.below hb1);have HN1:=hid hN1;obtain⟨vb,vm,vq,rfl,⟨lb1,ob1⟩,⟨lm1,om1⟩,la1,oa1⟩:=hN1
   obtain⟨eb,fb,rfl,_⟩:=lb1
   obtain⟨em,fm,rfl,_⟩:=lm1
   obtain⟨ea,fa,rfl,_⟩:=la1
   clear ob1 om1 oa1;obtain⟨w2,hw2⟩: ∃w2,w2=((((((((w1.setCell ⟨w.heap.size,0,none⟩ (.string d.who)).setCell ⟨w.heap.size,1,none⟩ (.string d.fo)).setCell ⟨w.heap.size,2,none⟩ (.slice eb d.base.length fb)).setCell ⟨w.heap.size,3,none⟩ (.int .i64 d.cur)).setCell ⟨w.heap.size,4,none⟩ (.slice em d.mine.length fm)).setCell ⟨w.heap.size,5,none⟩ (.string d.key)).setCell ⟨w.heap.size,6,none⟩ (.slice ea d.ask.length fa)).setCell ⟨w.heap.size,7,none⟩ (.int .i64 d.keys)):=⟨_,rfl⟩
   have hg2:w1.grownBy w2 (some w.heap.size):=by rw[hw2];exact(grown_on (grown_on (grown_on (grown_on (grown_on (grown_on (grown_on (nb_set w1 (w.heap.size) 0 (.string d.who)) (nb_set _ (w.heap.size) 1 (.string d.fo))) (nb_set _ (w.heap.size) 2 (.slice eb d.base.length fb))) (nb_set _ (w.heap.size) 3 (.int .i64 d.cur))) (nb_set _ (w.heap.size) 4 (.slice em d.mine.length fm))) (nb_set _ (w.heap.size) 5 (.string d.key))) (nb_set _ (w.heap.size) 6 (.slice ea d.ask.length fa))) (nb_set _ (w.heap.size) 7 (.int .i64 d.keys)))
   have HX2:Hid (Cs w2 w.heap.size [.string d.who,.string d.fo,.slice eb d.base.length fb,.int .i64 d.cur,.slice em d.mine.length fm,.string d.key,.slice ea d.ask.length fa,.int .i64 d.keys]):=(by rw[hw2];exact((((((((HX1.out.set 0 (.string d.who)).set 1 (.string d.fo)).set 2 (.slice eb d.base.length fb)).set 3 (.int .i64 d.cur)).set 4 (.slice em d.mine.length fm)).set 5 (.string d.key)).set 6 (.slice ea d.ask.length fa)).set 7 (.int .i64 d.keys)):Cs w2 w.heap.size _)
   have HC2:=hid (HC1.out.nb hg2 (by omega));have HY2:=hid (HY1.out.nb hg2 (by omega));have HN2:=hid (HN1.out.nbo hg2 (by omega));have hb2:Below w.heap.size w w2:=by rw[hw2];exact(bs8 (b:=w.heap.size) (below_tr hbz hb1) (Nat.le_refl _))
   have hs2:=hg2.size;have p0:=HX1.out.cell 0 rfl;have f0:=HX1.out.fr 0;have p1:=HX1.out.cell 1 rfl;have f1:=HX1.out.fr 1;have p2:=HX1.out.cell 2 rfl;have f2:=HX1.out.fr 2;have p3:=HX1.out.cell 3 rfl;have f3:=HX1.out.fr 3;have p4:=HX1.out.cell 4 rfl;have f4:=HX1.out.fr 4;have p5:=HX1.out.cell 5 rfl;have f5:=HX1.out.fr 5;have p6:=HX1.out.cell 6 rfl;have f6:=HX1.out.fr 6;have p7:=HX1.out.cell 7 rfl;have f7:=HX1.out.fr 7;rw[←HR.out];go_upto_region 3 with fail;rw[←hw2];clear hw2;clear p0 f0 p1 f1 p2 f2 p3 f3 p4 f4 p5 f5 p6 f6 p7 f7;have y0:=HY2.out.cell 0 rfl;have g0:=HY2.out.fr 0;have y1:=HY2.out.cell 1 rfl;have g1:=HY2.out.fr 1;have y2:=HY2.out.cell 2 rfl;have g2:=HY2.out.fr 2;have y3:=HY2.out.cell 3 rfl;have g3:=HY2.out.fr 3;have y4:=HY2.out.cell 4 rfl;have g4:=HY2.out.fr 4;have y5:=HY2.out.cell 5 rfl;have g5:=HY2.out.fr 5;have y6:=HY2.out.cell 6 rfl;have g6:=HY2.out.fr 6;have y7:=HY2.out.cell 7 rfl;have g7:=HY2.out.fr 7;go_wp2_with fail;refine bodyPost_ret (v:= .tuple #[.agg #[.string ⟨#[]⟩,.string ⟨#[]⟩,.slice none 0 0,.int .i64 0,.slice none 0 0,.string ⟨#[]⟩,.slice none 0 0,.int .i64 0],.slice none 0 0,.int .i64 r]) (by simp[results,Tryz.results4,go_sem,y0,y1,y2,y3,y4,y5,y6,y7]) rfl ⟨_,_,rfl,?_,?_,own_nil _ _,?_⟩
   · rw[HQ.out.2.1];exact(ownN_zero 0 _).lies
   · rw[HQ.out.2.2];exact LiesK.nil _
   · exact(bs8 (b:=w.heap.size+1+1) hb2 (by show _≤w.heap.size+1+1;omega))
end Go.Proofs.YtlllcifehellpaaGreatDoor
namespace Go.Proofs.YtlllcifehellpaaGreatDoor
open Go.RowKit

namespace Pp
def vs (l:List (List UInt8)):List Value:=l.map fun x=> .string ⟨x.toArray⟩
theorem vs_len (l:List (List UInt8)):(vs l).length=l.length:=by simp[vs]
theorem vs_snoc (l:List (List UInt8)) (x:List UInt8):vs l++[.string ⟨x.toArray⟩]=vs (l++[x]):=by simp[vs]
theorem piece (s:ByteArray) (f k:Nat):s.extract f k=⟨((s.data.toList.drop f).take (k-f)).toArray⟩:=bytes_eq (Lib.extract_data s f k)
theorem piece_end (s:ByteArray) (f:Nat):s.extract f s.size=⟨(s.data.toList.drop f).toArray⟩:=bytes_eq (by rw[Lib.extract_data];exact List.take_of_length_le (by rw[List.length_drop,←Lib.size_eq];exact Nat.le_refl _))
theorem drop_split (s:ByteArray) (f k:Nat) (hf:f≤k) (hk:k<s.size):s.data.toList.drop f=(s.data.toList.drop f).take (k-f)++s[k]::s.data.toList.drop (k+1):=by
 have hl:k<s.data.toList.length:=by simpa using hk
 conv=>lhs;rw[←List.take_append_drop (k-f) (s.data.toList.drop f)]
 rw[List.drop_drop,show f+(k-f)=k by omega,List.drop_eq_getElem_cons hl,byte_at' s k hk hl]
theorem seg_snoc (s:ByteArray) (f k:Nat) (hf:f≤k) (hk:k<s.size):(s.data.toList.drop f).take (k+1-f)=(s.data.toList.drop f).take (k-f)++[s[k]]:=by
 have hl:k<s.data.toList.length:=by simpa using hk
 have h2:k-f<(s.data.toList.drop f).length:=by rw[List.length_drop];omega
 rw[show k+1-f=(k-f)+1 by omega,List.take_succ_eq_append_getElem h2,List.getElem_drop];congr 2
 rw[←byte_at' s k hk hl];congr 1
 omega
/-- After k bytes: the names that are whole, and where the next one begins. -/
def cutTo (s:ByteArray) (dn:List (List UInt8)) (f k:Nat):Prop:=nm s.data.toList=dn++nm (s.data.toList.drop f)∧47∉(s.data.toList.drop f).take (k-f)∧dn.length≤k∧f≤k
theorem cut_zero (s:ByteArray):cutTo s [] 0 0:=⟨by simp,by simp,by simp,Nat.le_refl _⟩
theorem cut_slash (s:ByteArray) {dn:List (List UInt8)} {f k:Nat} (hk:k<s.size) (h:cutTo s dn f k) (hc:(s[k].toNat:Int)=47):cutTo s (dn++[(s.data.toList.drop f).take (k-f)]) (k+1) (k+1):=by
 have e:s[k]=47:=UInt8.toNat_inj.1 (by simpa using Int.ofNat.inj hc);refine⟨?_,by simp,by have:=h.2.2.1;simp;omega,Nat.le_refl _⟩
 have e2:=drop_split s f k h.2.2.2 hk;rw[e]at e2
 have e3:nm (s.data.toList.drop f)=(s.data.toList.drop f).take (k-f)::nm (s.data.toList.drop (k+1)):=by
  conv=>lhs;rw[e2]
  exact nm_cut _ _ h.2.1
 rw[h.1,e3];simp
theorem cut_other (s:ByteArray) {dn:List (List UInt8)} {f k:Nat} (hk:k<s.size) (h:cutTo s dn f k) (hc:(s[k].toNat:Int)≠47):cutTo s dn f (k+1):=by
 refine⟨h.1,?_,by have:=h.2.2.1;omega,by have:=h.2.2.2;omega⟩
 rw[seg_snoc s f k h.2.2.2 hk];intro hm;rcases List.mem_append.1 hm with hm|hm
 · exact h.2.1 hm
 · rw[List.mem_singleton]at hm
   exact hc (by rw[←hm];rfl)
theorem cut_end (s:ByteArray) {dn:List (List UInt8)} {f:Nat} (h:cutTo s dn f s.size):nm s.data.toList=dn++[s.data.toList.drop f]:=by
 rw[h.1,nm_none];have:=h.2.1
 rwa [List.take_of_length_le (by rw[List.length_drop,←Lib.size_eq];exact Nat.le_refl _)]at this
end Pp

theorem Tryz.infoS:(Tryz.prog.info? 9).map (fun i=>(i.zero,i.size,i.bytes))=some (some (.string ⟨#[]⟩),1,16):=by kernel_rfl
set_option maxRecDepth 100000 in
set_option maxHeartbeats 1000000 in
theorem rNames_any (s:ByteArray) (w:World) (hs:s.size≤1000000000):
    Calls Tryz.prog 39 #[.string s] w fun e w'=> ∃v,e= .returned v∧w'.ownsRow w.heap.size 9 1 v (Pp.nm s.data.toList).length (Pp.vs (Pp.nm s.data.toList))∧Below w.heap.size w w':=by
 obtain⟨i0,hi,hz0,hz1,hz2⟩:=info_parts Tryz.infoS
 go_enter Tryz.func39,Tryz.ntmps39
 go_wp2_with fail
 go_loopw [3,4,5] (fun v fr i wr=> ∃(dn:List (List UInt8)) (f k:Nat),k≤s.size∧f≤k∧dn.length≤k∧fr= .int .i64 f∧i= .int .i64 k∧wr.ownsRow w.heap.size 9 1 v dn.length (Pp.vs dn)∧Below w.heap.size w wr∧Hid (Pp.cutTo s dn f k))
  (fun _ _ i _=>s.size-(intOf i).toNat)
 case atStart=>exact⟨[],0,0,Nat.zero_le _,Nat.le_refl _,Nat.le_refl _,rfl,rfl,World.ownsRow_nil _ _ _ _,Below.refl _ _,Pp.cut_zero s⟩
 case round=>
  obtain⟨dn,f,k,hk,hf,hd,rfl,rfl,hown,hbel,HC⟩:=hrel
  by_cases hlt:k<s.size
  · cases hc:((s[k].toNat:Int)==47)with
    |true=>
     have HX:=hid (show(s[k].toNat:Int)=47 from by simpa using hc);go_wp2_with (at_builtin;refine wpList_append_own _ rfl _ _ 70 rfl w.heap.size 9 i0 (.string ⟨#[]⟩) 1 16 Tryz.underlying70 hi hz0 hz1 hz2 rfl (by decide) _ _ _ rfl (hown.alloc _) ⟨wr.heap.size,0,none⟩ 1 1 [.string (s.extract f k)] rfl rfl ?c1 ?c2 ?c3 ?c4 ?c5 ?_)
     case c1=>
      intro j u hj;match j,hj with
      |0,hj=>simp at hj;subst hj;simp[Addr.add]
     case c2=>intro u hu;simp at hu;subst hu;rfl
     case c3=>unfold maxLen;omega
     case c4=>omega
     case c5=>have:=hbel.size;simp;omega
     intro v' w1 hown' hgrow _;have hb1:Below w.heap.size w w1:=(hbel.alloc hbel.size _).grown hgrow (by have:=hbel.size;simp;omega) (fun g hg=>(hown.lt g hg).1);rw[Pp.piece,Pp.vs_snoc]at hown';have HO:Hid (w1.ownsRow w.heap.size 9 1 v' (dn.length+1) (Pp.vs (dn++[(s.data.toList.drop f).take (k-f)]))):=hown';clear hown' hgrow hown hbel;go_wp2;go_roundw
     case rel=>exact⟨dn++[(s.data.toList.drop f).take (k-f)],k+1,k+1,by omega,Nat.le_refl _,by simp;omega,by simp,by simp,by rw[List.length_append];exact HO.out,hb1,Pp.cut_slash s hlt HC.out HX.out⟩
     case measure=>simp[intOf];omega
    |false=>
     have HX:=hid (show(s[k].toNat:Int)≠47 from by simpa using hc);go_wp2_with fail;go_roundw
     case rel=>exact⟨dn,f,k+1,by omega,by omega,by omega,rfl,by simp,hown,hbel,Pp.cut_other s hlt HC.out HX.out⟩
     case measure=>simp[intOf];omega
  · obtain rfl:k=s.size:=by omega
    go_wp2_with (at_builtin;refine wpList_append_own _ rfl _ _ 70 rfl w.heap.size 9 i0 (.string ⟨#[]⟩) 1 16 Tryz.underlying70 hi hz0 hz1 hz2 rfl (by decide) _ _ _ rfl (hown.alloc _) ⟨wr.heap.size,0,none⟩ 1 1 [.string (s.extract f s.size)] rfl rfl ?d1 ?d2 ?d3 ?d4 ?d5 ?_)
    case d1=>
     intro j u hj;match j,hj with
     |0,hj=>simp at hj;subst hj;simp[Addr.add]
    case d2=>intro u hu;simp at hu;subst hu;rfl
    case d3=>unfold maxLen;omega
    case d4=>omega
    case d5=>have:=hbel.size;simp;omega
    intro v' w1 hown' hgrow _;have hb1:Below w.heap.size w w1:=(hbel.alloc hbel.size _).grown hgrow (by have:=hbel.size;simp;omega) (fun g hg=>(hown.lt g hg).1);rw[Pp.piece_end,Pp.vs_snoc]at hown';have HO:Hid (w1.ownsRow w.heap.size 9 1 v' (dn.length+1) (Pp.vs (dn++[s.data.toList.drop f]))):=hown';clear hown' hgrow hown hbel;go_wp2;go_ret;exact⟨v',rfl,by rw[Pp.cut_end s HC.out,List.length_append];exact HO.out,hb1⟩
end Go.Proofs.YtlllcifehellpaaGreatDoor
namespace Go.Proofs.YtlllcifehellpaaGreatDoor
open Go.RowKit

theorem Pp.nm_mem_len: ∀(l:List UInt8) (x:List UInt8),x∈Pp.nm l→x.length≤l.length
 |[],x,h=>by simp[Pp.nm]at h;simp[h]
 |c::r,x,h=>by
  rw[Pp.nm]at h;split at h
  · rcases List.mem_cons.1 h with h|h
    · simp[h]
    · have:=Pp.nm_mem_len r x h;simp;omega
  · cases e:Pp.nm r with
    |nil=>exact absurd e (Pp.nm_ne r)
    |cons y t=>
     rw[e]at h;rcases List.mem_cons.1 h with h|h
     · have:=Pp.nm_mem_len r y (by rw[e];simp);rw[h];simp;omega
     · have:=Pp.nm_mem_len r x (by rw[e];simp[h]);simp;omega
theorem rNames_at (s:ByteArray) (w:World) (hs:s.size≤1000000000):
    Calls Tryz.prog 39 #[.string s] w fun e w'=> ∃g cap,e= .returned (.slice (some ⟨g,0,none⟩) (Pp.nm s.data.toList).length cap)∧(Pp.nm s.data.toList).length≤cap∧cap≤maxLen∧w.heap.size≤g∧g<w'.heap.size∧
     (∀i (h:i<(Pp.nm s.data.toList).length),w'.cell? ⟨g,i,none⟩=some (.string ⟨((Pp.nm s.data.toList)[i]).toArray⟩))∧Below w.heap.size w w':=by
 refine(rNames_any s w hs).mono ?_
 rintro e w' ⟨v,rfl,hown,hb⟩;obtain⟨hl,h2⟩:=hown
 rcases h2 with⟨_,h0⟩|⟨g,cap,cur,rfl,hg,hh,hn,hm,hz,htake⟩
 · exact absurd (List.length_eq_zero_iff.1 h0) (Pp.nm_ne _)
 · have hlt:g<w'.heap.size:=by
    rcases Nat.lt_or_ge g w'.heap.size with h|h
    · exact h
    · rw[Array.getElem?_eq_none h]at hh;cases hh
   refine⟨g,cap,rfl,hn,hm,hg,hlt,fun i h=>?_,hb⟩
   have ho:w'.ownsRow w.heap.size 9 1 (.slice (some ⟨g,0,none⟩) (Pp.nm s.data.toList).length cap) (Pp.nm s.data.toList).length (Pp.vs (Pp.nm s.data.toList)):=⟨hl,.inr ⟨g,cap,cur,rfl,hg,hh,hn,hm,hz,htake⟩⟩
   rw[ho.cellAt i (by omega)];simp[Pp.vs,h]
set_option maxHeartbeats 400000 in
theorem rTooGreat_any (s:ByteArray) (w:World) (hs:s.size≤1000000000):
    Calls Tryz.prog 57 #[.string s] w fun e w'=>e= .returned (.bool (Pp.big s.data.toList))∧Below w.heap.size w w':=by
 have hn:(Pp.nm s.data.toList).length≤s.size+1:=by have:=Pp.nm_len_le s.data.toList;rwa [←Lib.size_eq]at this
 have hb1:(6:Int)<(Pp.nm s.data.toList).length→true=Pp.big s.data.toList:=fun h=>by
  symm;simp only[Pp.big,Bool.or_eq_true,decide_eq_true_eq];omega
 have hb2:(80:Int)<s.size→true=Pp.big s.data.toList:=fun h=>by
  symm;simp only[Pp.big,Bool.or_eq_true,decide_eq_true_eq,←Lib.size_eq];omega
 have hb3:((Pp.nm s.data.toList).length:Int)≤6→(s.size:Int)≤80→false=Pp.big s.data.toList:=fun h1 h2=>by
  symm;simp only[Pp.big,Bool.or_eq_false_iff,decide_eq_false_iff_not,←Lib.size_eq];omega
 by_cases c1:(6:Int)<(Pp.nm s.data.toList).length
 · have H:Hid (true=Pp.big s.data.toList):=hb1 c1
   clear hb1 hb2 hb3;go_enter Tryz.func57,Tryz.ntmps57
   go_wp2_with fail;refine(rNames_at s _ hs).mono ?_
   rintro e w1 ⟨g,cap,rfl,_,_,_,_,_,hb⟩;go_wp2;go_ret;exact⟨Pp.ret_bool H.out,hb⟩
 by_cases c2:(80:Int)<s.size
 · have H:Hid (true=Pp.big s.data.toList):=hb2 c2
   clear hb1 hb2 hb3;go_enter Tryz.func57,Tryz.ntmps57
   go_wp2_with fail;refine(rNames_at s _ hs).mono ?_
   rintro e w1 ⟨g,cap,rfl,_,_,_,_,_,hb⟩;go_wp2;go_ret;exact⟨Pp.ret_bool H.out,hb⟩
 · have H:Hid (false=Pp.big s.data.toList):=hb3 (by omega) (by omega)
   clear hb1 hb2 hb3;go_enter Tryz.func57,Tryz.ntmps57
   go_wp2_with fail;refine(rNames_at s _ hs).mono ?_
   rintro e w1 ⟨g,cap,rfl,_,_,_,_,_,hb⟩;go_wp2;go_ret;exact⟨Pp.ret_bool (by rw[←H.out];simp;omega),hb⟩
set_option maxHeartbeats 600000 in
theorem rCheck_any (s:ByteArray) (w:World) (hs:s.size≤1000000000):
    Calls Tryz.prog 26 #[.string s] w fun e w'=>e= .returned (.int .i64 (Pp.chk s.data.toList))∧Below w.heap.size w w':=by
 have hn:(Pp.nm s.data.toList).length≤s.size+1:=by have:=Pp.nm_len_le s.data.toList;rwa [←Lib.size_eq]at this
 obtain⟨L,hL⟩: ∃L,L=Pp.nm s.data.toList:=⟨_,rfl⟩
 have HL:Hid (L=Pp.nm s.data.toList):=hL;rw[←hL]at hn
 have hsz: ∀i (h:i<L.length),(L[i]).length≤s.size:=by
  intro i h;have:=Pp.nm_mem_len s.data.toList L[i] (by rw[←hL];exact List.getElem_mem h)
  rwa [←Lib.size_eq]at this
 clear hL;go_enter Tryz.func26,Tryz.ntmps26
 go_wp2_with fail;refine(rNames_at s _ hs).mono ?_
 rintro e w1 ⟨g,cap,rfl,hc1,hc2,hg1,hg2,hcell,hb⟩;rw[←HL.out]at hc1 hcell⊢;have HC:Hid (∀i (h:i<L.length),w1.cell? ⟨g,i,none⟩=some (.string ⟨(L[i]).toArray⟩)):=hcell;clear hcell;go_wp2_with fail;go_loopw [4] (fun i wr=> ∃k:Nat,k≤L.length∧i= .int .i64 k∧Hid ((L.take k).all Pp.nameB=true)∧wr=w1) (fun i _=>L.length-(intOf i).toNat)
 case atStart=>exact⟨0,Nat.zero_le _,rfl,rfl,rfl⟩
 case round=>
  obtain⟨k,hk,rfl,HA,rfl⟩:=hrel
  by_cases hlt:k<L.length
  · have hce:=HC.out k hlt
    cases hnm:Pp.nameB L[k]with
    |true=>
     have HN:Hid (Pp.nameB L[k]=true):=hnm;clear hnm;go_wp2_with fail;refine(rIsName_any _ _ (by rw[Pp.sz];have:=hsz k hlt;omega)).mono ?_
     rintro e w2 ⟨rfl,rfl⟩;simp only[HN.out];go_wp2_with fail;go_roundw
     case rel=>exact⟨k+1,by omega,by simp,(by rw[List.take_succ_eq_append_getElem hlt];exact Pp.all_add HA.out HN.out:(L.take (k+1)).all Pp.nameB=true),trivial⟩
     case measure=>simp[intOf];omega
    |false=>
     have HN:Hid (Pp.nameB L[k]=false):=hnm;clear hnm;go_wp2_with fail;refine(rIsName_any _ _ (by rw[Pp.sz];have:=hsz k hlt;omega)).mono ?_
     rintro e w2 ⟨rfl,rfl⟩;simp only[HN.out];go_wp2_with fail;go_ret;exact⟨Pp.ret_int (Pp.chk_one s (dn:=L.take k) (r:=L.drop (k+1)) (n:=L[k]) (by rw[←HL.out,←List.drop_eq_getElem_cons hlt,List.take_append_drop]) HN.out),hb⟩
  · have HB:=hid (show L.all Pp.nameB=true from by have:=HA.out;rwa [List.take_of_length_le (by omega)]at this)
    cases hbig:Pp.big s.data.toList with
    |true=>
     have HG:Hid (Pp.big s.data.toList=true):=hbig;clear hbig;go_wp2_with fail;refine(rTooGreat_any s _ hs).mono ?_
     rintro e w2 ⟨rfl,hb2⟩;simp only[HG.out];go_wp2;go_ret;exact⟨Pp.ret_int (by rw[Pp.chk,←HL.out,if_pos HB.out,if_pos HG.out]),hb.trans (hb2.mono hb.size)⟩
    |false=>
     have HG:Hid (Pp.big s.data.toList=false):=hbig;clear hbig;go_wp2_with fail;refine(rTooGreat_any s _ hs).mono ?_
     rintro e w2 ⟨rfl,hb2⟩;simp only[HG.out];go_wp2;go_ret;exact⟨Pp.ret_int (by rw[Pp.chk,←HL.out,if_pos HB.out,if_neg (by rw[HG.out];decide)]),hb.trans (hb2.mono hb.size)⟩
set_option maxHeartbeats 2000000 in
theorem changeForm_any (k:Int) (p q t:ByteArray) (b:Int) (w:World) (hp:p.size≤1000000000) (hq:q.size≤1000000000) (ht:t.size≤1000000000000000):
    Calls Tryz.prog 79 #[.agg #[.int .i64 k,.string p,.string q,.string t,.int .i64 b]] w fun e w'=>e= .returned (.int .i64 (Pp.chgE ⟨k,p,q,t,b⟩))∧Below w.heap.size w w':=by
 by_cases h1:k<1
 · have HE:=hid (show 7=Pp.chgE ⟨k,p,q,t,b⟩from by rw[Pp.chgE,if_pos (Or.inl h1)])
   go_enter Tryz.func79,Tryz.ntmps79
   go_wp2;go_ret;exact⟨Pp.ret_int HE.out,(Below.refl _ _).alloc (Nat.le_refl _) _⟩
 by_cases h2:4<k
 · have HE:=hid (show 7=Pp.chgE ⟨k,p,q,t,b⟩from by rw[Pp.chgE,if_pos (Or.inr h2)])
   go_enter Tryz.func79,Tryz.ntmps79
   go_wp2;go_ret;exact⟨Pp.ret_int HE.out,(Below.refl _ _).alloc (Nat.le_refl _) _⟩
 by_cases hz:Pp.chk p.data.toList=0
 · have HZ:Hid (Pp.chk p.data.toList=0):=hz
   have h4:(k=1∨k=4)∨k=2∨k=3:=by omega
   clear h1 h2;rcases h4 with h|rfl|rfl
   · have hcases:=Pp.cc14 h p q t b hz
     clear hz;rcases h with rfl|rfl
     all_goals
      rcases hcases with⟨f1,HE⟩|⟨f1,f2,HE⟩|⟨f1,f2,f3,f4,HE⟩|⟨f1,f2,f3,f4,HE⟩|⟨f1,f2,f3,f4,f5,HE⟩
     all_goals
      go_enter Tryz.func79,Tryz.ntmps79
      go_wp2_with fail;refine(rCheck_any p _ hp).mono ?_
      rintro e w1 ⟨rfl,hb1'⟩;rw[HZ.out];obtain⟨c0,c1,c2,c3,c4,hbw,hlt⟩:=bx5 hb1'
      clear hb1';go_wp2_with fail;go_ret;exact⟨Pp.ret_int HE.out,hbw⟩
   · have hcases:=Pp.cc2 p q t b hz
     clear hz;rcases hcases with⟨f1,HE⟩|⟨f1,f2,HE⟩|⟨f1,f2,f3,HE⟩|⟨f1,f2,f3,HE⟩|⟨f1,f2,f3,f4,HE⟩
     all_goals
      go_enter Tryz.func79,Tryz.ntmps79
      go_wp2_with fail;refine(rCheck_any p _ hp).mono ?_
      rintro e w1 ⟨rfl,hb1'⟩;rw[HZ.out];obtain⟨c0,c1,c2,c3,c4,hbw,hlt⟩:=bx5 hb1'
      clear hb1';go_wp2_with fail;go_ret;exact⟨Pp.ret_int HE.out,hbw⟩
   · by_cases hy:Pp.chk q.data.toList=0
     · have hcases:=Pp.cc3 p q t b hz hy
       have HY:Hid (Pp.chk q.data.toList=0):=hy;clear hz hy;rcases hcases with⟨f1,HE⟩|⟨f1,f2,f3,HE⟩|⟨f1,f2,f3,HE⟩|⟨f1,f2,f3,f4,HE⟩
       all_goals
        go_enter Tryz.func79,Tryz.ntmps79
        go_wp2_with fail;refine(rCheck_any p _ hp).mono ?_
        rintro e w1 ⟨rfl,hb1'⟩;rw[HZ.out];obtain⟨c0,c1,c2,c3,c4,hbw,hlt⟩:=bx5 hb1'
        go_wp2_with fail;refine(rCheck_any q _ hq).mono ?_
        rintro e w2 ⟨rfl,hb2'⟩;rw[HY.out];have hb02:=hb1'.trans (hb2'.mono hb1'.size);clear c0 c1 c2 c3 c4 hbw hlt hb1' hb2';obtain⟨c0,c1,c2,c3,c4,hbw,hlt⟩:=bx5 hb02
        clear hb02;go_wp2_with fail;go_ret;exact⟨Pp.ret_int HE.out,hbw⟩
     · have HE:=hid (show Pp.chk q.data.toList=Pp.chgE ⟨3,p,q,t,b⟩from by simp[Pp.chgE,hz,hy])
       have hy2:(Pp.chk q.data.toList==0)=false:=by simpa using hy
       clear hz;go_enter Tryz.func79,Tryz.ntmps79
       go_wp2_with fail;refine(rCheck_any p _ hp).mono ?_
       rintro e w1 ⟨rfl,hb1'⟩;rw[HZ.out];obtain⟨c0,c1,c2,c3,c4,hbw,hlt⟩:=bx5 hb1'
       go_wp2_with fail;refine(rCheck_any q _ hq).mono ?_
       rintro e w2 ⟨rfl,hb2'⟩;have hb02:=hb1'.trans (hb2'.mono hb1'.size);clear c0 c1 c2 c3 c4 hbw hlt hb1' hb2';obtain⟨c0,c1,c2,c3,c4,hbw,hlt⟩:=bx5 hb02
       clear hb02;go_wp2_with fail;go_ret;exact⟨Pp.ret_int HE.out,hbw⟩
 · have HE:=hid (show Pp.chk p.data.toList=Pp.chgE ⟨k,p,q,t,b⟩from by rw[Pp.chgE,if_neg (by simp only;omega),if_pos hz])
   have hz2:(Pp.chk p.data.toList==0)=false:=by simpa using hz
   go_enter Tryz.func79,Tryz.ntmps79
   go_wp2_with fail;refine(rCheck_any p _ hp).mono ?_
   rintro e w1 ⟨rfl,hb1⟩;obtain⟨c0,c1,c2,c3,c4,hb,hlt⟩:=bx5 hb1
   clear hb1;go_wp2_with fail;go_ret;exact⟨Pp.ret_int HE.out,hb⟩
namespace Pp
/-- The place of the first entry at a path; -1: there is none. -/
def idx (L:List En) (q:List UInt8):Int:=match L.findIdx? (atB q)with
 |some i=>(i:Int)
 |none=> -1
theorem idx_hit {L:List En} {q:List UInt8} {k:Nat} (hlt:k<L.length) (h: ∀j (h:j<L.length),j<k→atB q L[j]=false) (hp:atB q L[k]=true):(k:Int)=idx L q:=by
 have:L.findIdx? (atB q)=some k:=List.findIdx?_eq_some_iff_getElem.2 ⟨hlt,hp,fun j hj=>by rw[h j (by omega) hj];simp⟩
 rw[idx,this]
theorem idx_miss {L:List En} {q:List UInt8} (h: ∀j (h:j<L.length),atB q L[j]=false): -1=idx L q:=by
 have:L.findIdx? (atB q)=none:=List.findIdx?_eq_none_iff.2 fun x hx=>by
  obtain⟨j,hj,rfl⟩:=List.getElem_of_mem hx
  exact h j hj
 rw[idx,this]
theorem idx_cases (L:List En) (q:List UInt8):(idx L q= -1∧L.find? (atB q)=none)∨ ∃k,∃h:k<L.length,idx L q=(k:Int)∧L.find? (atB q)=some L[k]:=by
 cases hf:L.findIdx? (atB q)with
 |none=>
  refine Or.inl ⟨by rw[idx,hf],?_⟩
  rw[List.find?_eq_none];intro x hx;have:=List.findIdx?_eq_none_iff.1 hf x hx
  simp[this]
 |some k=>
  obtain⟨hlt,hp,hmin⟩:=List.findIdx?_eq_some_iff_getElem.1 hf
  refine Or.inr ⟨k,hlt,by rw[idx,hf],find_hit hlt (fun j h hj=>?_) hp⟩
  have:=hmin j hj
  simpa using this
end Pp

set_option maxHeartbeats 800000 in
theorem entryAt_any (L:List En) (v:Value) (q:ByteArray) (w:World) (hv:Lies w v L):
    Calls Tryz.prog 36 #[v,.string q] w fun e w'=>e= .returned (.int .i64 (Pp.idx L q.data.toList))∧Below w.heap.size w w':=by
 obtain⟨a,cap,rfl,hcap,hcap2,hL⟩:=hv
 have HL:Hid (∀i (h:i<L.length),∃b o,a=some ⟨b,o,none⟩∧b<w.heap.size∧EnAt w b (o+i*4) L[i]):=hL;clear hL;go_enter Tryz.func36,Tryz.ntmps36
 go_wp2_with fail;go_loopw [5] (fun i wr=> ∃k:Nat,k≤L.length∧i= .int .i64 k∧Hid (∀j (h:j<L.length),j<k→Pp.atB q.data.toList L[j]=false)∧Below w.heap.size w wr) (fun i _=>L.length-(intOf i).toNat)
 case atStart=>exact⟨0,Nat.zero_le _,rfl,(fun j _ h=>absurd h (Nat.not_lt_zero _): ∀j (h:j<L.length),j<0→Pp.atB q.data.toList L[j]=false),Below.refl _ _⟩
 case round=>
  obtain⟨k,hk,rfl,HP,hbel⟩:=hrel
  by_cases hlt:k<L.length
  · obtain⟨b,o,rfl,hb,he⟩:=HL.out k hlt
    obtain⟨c0,c1,c2,c3⟩:=he.below hb hbel
    cases hp:Pp.atB q.data.toList L[k]with
    |true=>
     have hp2:((L[k]).path.toList==q.toList)=true:=by rw[←hp,Pp.atB,Lib.toList_data,Lib.toList_data]
     have HE:=hid (show(k:Int)=Pp.idx L q.data.toList from Pp.idx_hit hlt HP.out hp);go_wp2_with fail;go_ret;exact⟨Pp.ret_int HE.out,hbel⟩
    |false=>
     have hp2:((L[k]).path.toList==q.toList)=false:=by rw[←hp,Pp.atB,Lib.toList_data,Lib.toList_data]
     go_wp2_with fail;go_roundw
     case rel=>exact⟨k+1,by omega,by simp,(fun j h1 h2=>by
      by_cases e:j=k
      · subst e;exact hp
      · exact HP.out j h1 (by omega): ∀j (h:j<L.length),j<k+1→Pp.atB q.data.toList L[j]=false),hbel⟩
     case measure=>simp[intOf];omega
  · have HE:=hid (show-1=Pp.idx L q.data.toList from Pp.idx_miss (fun j h=>HP.out j h (by omega)))
    go_wp2_with fail;go_ret;exact⟨Pp.ret_int HE.out,hbel⟩
end Go.Proofs.YtlllcifehellpaaGreatDoor
namespace Go.Proofs.YtlllcifehellpaaGreatDoor
open Go.RowKit


set_option maxHeartbeats 400000 in
theorem pathOf_any (L:List (List UInt8)) (g o cap:Nat) (w:World) (hL:(Pp.join L).length≤1000000000) (hn:L.length≤1000000000) (hcell: ∀i (h:i<L.length),w.cell? ⟨g,o+i,none⟩=some (.string ⟨(L[i]).toArray⟩)):
    Calls Tryz.prog 40 #[.slice (some ⟨g,o,none⟩) L.length cap] w fun e w'=>e= .returned (.string ⟨(Pp.join L).toArray⟩)∧w'=w:=by
 have HC:Hid (∀i (h:i<L.length),w.cell? ⟨g,o+i,none⟩=some (.string ⟨(L[i]).toArray⟩)):=hcell;clear hcell;go_enter Tryz.func40,Tryz.ntmps40
 go_wp2_with fail;go_loop [3,4] (fun s i=> ∃k:Nat,k≤L.length∧i= .int .i64 k∧s= .string ⟨(Pp.join (L.take k)).toArray⟩) (fun _ i=>L.length-(intOf i).toNat)
 case atStart=>exact⟨0,Nat.zero_le _,rfl,rfl⟩
 case round=>
  obtain⟨k,hk,rfl,rfl⟩:=hrel
  by_cases hlt:k<L.length
  · have hce:=HC.out k hlt
    have b1:=Pp.join_take_le L k;have b2:=Pp.join_take_le L (k+1);have b3:=Pp.mem_join_len L k hlt;by_cases hk0:0<k
    · have HJ:Hid ((⟨(Pp.join (L.take k)).toArray⟩:ByteArray)++⟨#[47]⟩++⟨(L[k]).toArray⟩=⟨(Pp.join (L.take (k+1))).toArray⟩):=Pp.join_step L k hlt hk0
      have hk1:0<(k:Int):=by omega
      go_wp2;go_round
      case rel=>exact⟨k+1,by omega,by go_num,by rw[←HJ.out]⟩
      case measure=>simp[intOf];omega
    · obtain rfl:k=0:=by omega
      have HJ:Hid ((⟨#[]⟩:ByteArray)++⟨(L[0]).toArray⟩=⟨(Pp.join (L.take 1)).toArray⟩):=Pp.join_first L hlt;have hce0:w.cell? ⟨g,o,none⟩=some (.string ⟨(L[0]).toArray⟩):=hce;have b4:(Pp.join []).length=0:=rfl;clear hce;go_wp2;go_round
      case rel=>exact⟨0+1,by omega,by go_num,by rw[←HJ.out];rfl⟩
      case measure=>simp[intOf];omega
  · go_wp2
    go_ret;exact⟨by rw[List.take_of_length_le (by omega)];rfl,rfl⟩
set_option maxHeartbeats 400000 in
theorem parentOf_any (s:ByteArray) (w:World) (hs:s.size≤1000000000):
    Calls Tryz.prog 29 #[.string s] w fun e w'=>e= .returned (.string ⟨(Pp.par s.data.toList).toArray⟩)∧Below w.heap.size w w':=by
 have hn:(Pp.nm s.data.toList).length≤s.size+1:=by have:=Pp.nm_len_le s.data.toList;rwa [←Lib.size_eq]at this
 have hp:=Pp.len_par s.data.toList;rw[←Lib.size_eq]at hp;have h1:1≤(Pp.nm s.data.toList).length:=Nat.pos_of_ne_zero (fun e=>Pp.nm_ne _ (List.length_eq_zero_iff.1 e));have HP:Hid (Pp.join (Pp.nm s.data.toList).dropLast=Pp.par s.data.toList):=rfl;have HD:=hid (show∀i (h:i<(Pp.nm s.data.toList).dropLast.length) (h2:i<(Pp.nm s.data.toList).length),(Pp.nm s.data.toList).dropLast[i]=(Pp.nm s.data.toList)[i]from fun i h h2=>List.getElem_dropLast h);have HL:Hid ((Pp.nm s.data.toList).dropLast.length=(Pp.nm s.data.toList).length-1):=List.length_dropLast;go_enter Tryz.func29,Tryz.ntmps29
 go_wp2_with fail;refine(rNames_at s _ hs).mono ?_
 rintro e w1 ⟨g,cap,rfl,hc1,hc2,hg1,hg2,hcell,hb⟩;have HC:Hid (∀i (h:i<(Pp.nm s.data.toList).length),w1.cell? ⟨g,i,none⟩=some (.string ⟨((Pp.nm s.data.toList)[i]).toArray⟩)):=hcell;clear hcell;go_wp2_with fail;rw[←HL.out];refine(pathOf_any (Pp.nm s.data.toList).dropLast g 0 cap _ (by rw[HP.out];omega) (by rw[HL.out];omega) (fun i h=>?_)).mono ?_
 · have h2:i<(Pp.nm s.data.toList).length:=by rw[HL.out]at h;omega
   rw[Nat.zero_add,HD.out i h h2];exact HC.out i h2
 rintro e w2 ⟨rfl,rfl⟩;rw[HP.out,HL.out];go_wp2;go_ret;exact⟨rfl,hb⟩
set_option maxHeartbeats 800000 in
theorem isFolder_any (L:List En) (v:Value) (q:ByteArray) (w:World) (hv:Lies w v L):
    Calls Tryz.prog 28 #[v,.string q] w fun e w'=>e= .returned (.int .i64 (Pp.foldE L q.data.toList))∧Below w.heap.size w w':=by
 have HV:Hid (Lies w v L):=hv;cases hc:q.toList.isEmpty with
 |true=>
  have HE:=hid (show 0=Pp.foldE L q.data.toList from by rw[Pp.foldE,if_pos ((Pp.empty_iff q).1 hc)]);clear hv;go_enter Tryz.func28,Tryz.ntmps28
  go_wp2;go_ret;exact⟨Pp.ret_int HE.out,Below.refl _ _⟩
 |false=>
  have hne:=Pp.not_empty hc;rcases Pp.idx_cases L q.data.toList with⟨hi,hf⟩|⟨k,hk,hi,hf⟩
  · have HI:Hid (Pp.idx L q.data.toList= -1):=hi
    have HE:=hid (show 5=Pp.foldE L q.data.toList from by rw[Pp.foldE,if_neg hne,hf]);clear hf hne hi hv;go_enter Tryz.func28,Tryz.ntmps28
    go_wp2_with fail;refine(entryAt_any L v q _ HV.out).mono ?_
    rintro e w1 ⟨rfl,hb1⟩;rw[HI.out];go_wp2_with fail;go_ret;exact⟨Pp.ret_int HE.out,hb1⟩
  · have HI:Hid (Pp.idx L q.data.toList=(k:Int)):=hi
    have hE:Pp.foldE L q.data.toList=if(L[k]).folder=true then 0 else 4:=by rw[Pp.foldE,if_neg hne,hf]
    obtain⟨a,cap,rfl,hcap,hcap2,hL⟩:=hv
    obtain⟨b,o,rfl,hb,he⟩:=hL k hk
    have hkk:(k:Int)<L.length:=by omega
    clear hf hne hi hL;cases hx:(L[k]).folder with
    |true=>
     have HE:=hid (show 0=Pp.foldE L q.data.toList from by rw[hE,hx];rfl);clear hE;go_enter Tryz.func28,Tryz.ntmps28
     go_wp2_with fail;refine(entryAt_any L _ q _ HV.out).mono ?_
     rintro e w1 ⟨rfl,hb1⟩;rw[HI.out];obtain⟨c0,c1,c2,c3⟩:=he.below hb hb1
     rw[hx]at c1;clear hx;go_wp2_with fail;go_ret;exact⟨Pp.ret_int HE.out,hb1⟩
    |false=>
     have HE:=hid (show 4=Pp.foldE L q.data.toList from by rw[hE,hx];rfl);clear hE;go_enter Tryz.func28,Tryz.ntmps28
     go_wp2_with fail;refine(entryAt_any L _ q _ HV.out).mono ?_
     rintro e w1 ⟨rfl,hb1⟩;rw[HI.out];obtain⟨c0,c1,c2,c3⟩:=he.below hb hb1
     rw[hx]at c1;clear hx;go_wp2_with fail;go_ret;exact⟨Pp.ret_int HE.out,hb1⟩
namespace Pp
theorem pre_short {A B:List (List UInt8)} (h:A.length<B.length):false=B.isPrefixOf A:=by
 symm
 cases e:B.isPrefixOf A with
 |false=>rfl
 |true=>have:=(List.isPrefixOf_iff_prefix.1 e).length_le;omega
theorem pre_no {A B:List (List UInt8)} {k:Nat} (hA:k<A.length) (hB:k<B.length) (h: ¬A[k]=B[k]):false=B.isPrefixOf A:=by
 symm
 cases e:B.isPrefixOf A with
 |false=>rfl
 |true=>
  obtain⟨t,ht⟩:=List.isPrefixOf_iff_prefix.1 e
  subst ht;exact absurd (by simp[List.getElem_append_left hB]) h
theorem pre_yes {A B:List (List UInt8)} (h:A.take B.length=B):true=B.isPrefixOf A:=by
 symm
 rw[List.isPrefixOf_iff_prefix];have:=List.take_prefix B.length A
 rwa [h]at this
end Pp

set_option maxHeartbeats 800000 in
theorem isIn_any (s t:ByteArray) (w:World) (hs:s.size≤1000000000) (ht:t.size≤1000000000):
    Calls Tryz.prog 80 #[.string s,.string t] w fun e w'=>e= .returned (.bool (Pp.isInB s.data.toList t.data.toList))∧Below w.heap.size w w':=by
 have hn1:(Pp.nm s.data.toList).length≤s.size+1:=by have:=Pp.nm_len_le s.data.toList;rwa [←Lib.size_eq]at this
 have hn2:(Pp.nm t.data.toList).length≤t.size+1:=by have:=Pp.nm_len_le t.data.toList;rwa [←Lib.size_eq]at this
 obtain⟨A,hA⟩: ∃L,L=Pp.nm s.data.toList:=⟨_,rfl⟩
 obtain⟨B,hB⟩: ∃L,L=Pp.nm t.data.toList:=⟨_,rfl⟩
 have HA:Hid (A=Pp.nm s.data.toList):=hA;have HB:Hid (B=Pp.nm t.data.toList):=hB;have HI:=hid (show Pp.isInB s.data.toList t.data.toList=B.isPrefixOf A from by rw[Pp.isInB,hA,hB]);rw[←hA]at hn1;rw[←hB]at hn2;clear hA hB;go_enter Tryz.func80,Tryz.ntmps80
 go_wp2_with fail;refine(rNames_at s _ hs).mono ?_
 rintro e w1 ⟨g1,c1,rfl,hc1,hc1',hg1,hg1',hcell1,hb1⟩;rw[←HA.out]at hc1 hcell1⊢;go_wp2_with fail;refine(rNames_at t _ ht).mono ?_
 rintro e w2 ⟨g2,c2,rfl,hc2,hc2',hg2,hg2',hcell2,hb2⟩;rw[←HB.out]at hc2 hcell2⊢;have HC1:=hid (show∀i (h:i<A.length),w2.cell? ⟨g1,i,none⟩=some (.string ⟨(A[i]).toArray⟩)from fun i h=>(hb2.cell (p:=⟨g1,i,none⟩) hg1').trans (hcell1 i h));have HC2:Hid (∀i (h:i<B.length),w2.cell? ⟨g2,i,none⟩=some (.string ⟨(B[i]).toArray⟩)):=hcell2;have hb:Below w.heap.size w w2:=below_trans hb1 hb2;clear hcell1 hcell2 hb1 hb2;by_cases hlen:A.length<B.length
 · have hl2:(A.length:Int)<B.length:=by omega
   go_wp2;go_ret;exact⟨Pp.ret_bool (by rw[HI.out];exact Pp.pre_short hlen),hb⟩
 · have hl2:(B.length:Int)≤A.length:=by omega
   go_wp2_with fail;go_loopw [7] (fun i wr=> ∃k:Nat,k≤B.length∧i= .int .i64 k∧Hid (A.take k=B.take k)∧Below w2.heap.size w2 wr) (fun i _=>B.length-(intOf i).toNat)
   case atStart=>exact⟨0,Nat.zero_le _,rfl,rfl,Below.refl _ _⟩
   case round=>
    obtain⟨k,hk,rfl,HE,hbel⟩:=hrel
    by_cases hlt:k<B.length
    · have hltA:k<A.length:=by omega
      have hce1:wr.cell? ⟨g1,k,none⟩=some (.string ⟨(A[k]).toArray⟩):=(hbel.cell (p:=⟨g1,k,none⟩) (show g1<w2.heap.size by omega)).trans (HC1.out k hltA);have hce2:wr.cell? ⟨g2,k,none⟩=some (.string ⟨(B[k]).toArray⟩):=(hbel.cell (p:=⟨g2,k,none⟩) hg2').trans (HC2.out k hlt);cases heq:(A[k]==B[k])with
      |true=>
       have HQ:=hid (show A[k]=B[k]from by simpa using heq);go_wp2_with fail;go_region
       go_wp2;go_roundw
       case rel=>exact⟨k+1,by omega,by simp,(by rw[List.take_succ_eq_append_getElem hltA,List.take_succ_eq_append_getElem hlt,HE.out,HQ.out]:A.take (k+1)=B.take (k+1)),hbel.drew⟩
       case measure=>simp[intOf];omega
      |false=>
       have HQ:=hid (show¬A[k]=B[k]from by simpa using heq);go_wp2_with fail;go_region
       go_wp2;go_ret;exact⟨Pp.ret_bool (by rw[HI.out];exact Pp.pre_no hltA hlt HQ.out),(below_trans hb hbel).drew⟩
    · go_wp2_with fail
      go_ret;exact⟨Pp.ret_bool (by rw[HI.out];obtain rfl:k=B.length:=(by omega);exact Pp.pre_yes (by have:=HE.out;rwa [List.take_length]at this)),below_trans hb hbel⟩
end Go.Proofs.YtlllcifehellpaaGreatDoor
