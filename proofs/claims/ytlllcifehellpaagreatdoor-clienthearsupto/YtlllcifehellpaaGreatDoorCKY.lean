/- What the reference's HearOf answers. -/
import Derived.Test.YtlllcifehellpaaGreatDoorCKO
import Derived.Test.YtlllcifehellpaaGreatDoorCKS
import Derived.Test.YtlllcifehellpaaGreatDoorCKX
import Derived.Test.YtlllcifehellpaaGreatDoorCKC
import Derived.Test.YtlllcifehellpaaGreatDoorCKH
import Derived.Test.YtlllcifehellpaaGreatDoorCKD
set_option linter.unusedSimpArgs false
set_option linter.unusedVariables false
namespace Go.Proofs.YtlllcifehellpaaGreatDoor
open Go.RowKit


set_option maxRecDepth 100000 in
set_option maxHeartbeats 8000000 in
theorem hearOf_any (c:Cn) (k:Int) (a:An) (v va:Value) (w:World) (hv:LiesN w v c) (ha:LiesA w va a) (hs:SizedN c) (hsa:SizedA a) (hpb: ∀e∈c.base,e.path.size≤1000000000) (hpt: ∀e∈a.pg.tree,e.path.size≤1000000000) (hpc:SizedO 1000000000 a.pg.cos) (h0:Cy.chE c=0):
    Calls Tryz.prog 6 #[v,.int .i64 k,va] w fun e w'=> ∃u vk,e= .returned (.tuple #[u,vk,.int .i64 (Cy.heE c k a)])∧LiesN w' u (Cy.heC c k a)∧LiesK w' vk (Cy.heK c k a)∧Own w.heap.size w' vk∧Below w.heap.size w w':=by
 have HPB:=hid hpb;have HPT:=hid hpt;have HPC:=hid hpc;have HG:=hid (show Pp.Good c.base∧Pp.Good c.mine from⟨(Pp.good_iff _).1 (Cy.ch_parts h0).2.1,(Pp.good_iff _).1 (Cy.ch_parts h0).2.2.1⟩);clear hpb hpt hpc;have HV:=hid hv;have HA:=hid ha;have HS:=hid hs;have HSA:=hid hsa;obtain⟨vb,vm,vq,rfl,lb,lm,la⟩:=hv
 have HLB:=hid lb;have HLM:=hid lm;have HLC:=hid la;obtain⟨ab,cb,rfl,_⟩:=lb
 obtain⟨am,cm,rfl,_⟩:=lm
 obtain⟨aa,ca,rfl,_⟩:=la
 obtain⟨vt,vc,rfl,lt,lc⟩:=ha
 have HLT:=hid lt;have HLO:=hid lc;obtain⟨xt,yt,rfl,_⟩:=lt
 obtain⟨xc,yc,rfl⟩:=liesO_shape lc
 clear hs hsa lc;obtain⟨wa,hwa⟩: ∃wa,wa=w.alloc (.cells #[.string c.who,.string c.fo,.slice ab c.base.length cb,.int .i64 c.cur,.slice am c.mine.length cm,.string c.key,.slice aa c.ask.length ca,.int .i64 c.keys] 25):=⟨_,rfl⟩
 obtain⟨wb,hwb⟩: ∃wb,wb=wa.alloc (.cells #[.int .i64 a.err,.int .i64 a.num,.bool a.pg.reset,.slice xt a.pg.tree.length yt,.slice xc a.pg.cos.length yc,.int .i64 a.pg.cur,.bool a.pg.more] 31):=⟨_,rfl⟩
 obtain⟨wz,hwz⟩: ∃wz,wz=wb.alloc (.cells #[.string ⟨#[]⟩,.string ⟨#[]⟩,.slice none 0 0,.int .i64 0,.slice none 0 0,.string ⟨#[]⟩,.slice none 0 0,.int .i64 0] 25):=⟨_,rfl⟩
 have sa:wa.heap.size=w.heap.size+1:=by rw[hwa];simp
 have sb:wb.heap.size=w.heap.size+1+1:=by rw[hwb];simp[sa]
 have bwa:Below w.heap.size w wa:=by rw[hwa];exact(Below.refl _ _).alloc (Nat.le_refl _) _
 have bwb:Below wa.heap.size wa wb:=by rw[hwb];exact(Below.refl _ _).alloc (Nat.le_refl _) _
 have bwz:Below wb.heap.size wb wz:=by rw[hwz];exact(Below.refl _ _).alloc (Nat.le_refl _) _
 have hbz:Below w.heap.size w wz:=below_tr bwa (below_tr bwb bwz);have HX:Hid (Cs wz w.heap.size [.string c.who,.string c.fo,.slice ab c.base.length cb,.int .i64 c.cur,.slice am c.mine.length cm,.string c.key,.slice aa c.ask.length ca,.int .i64 c.keys]):=(((by rw[hwa];exact Cs.new w [.string c.who,.string c.fo,.slice ab c.base.length cb,.int .i64 c.cur,.slice am c.mine.length cm,.string c.key,.slice aa c.ask.length ca,.int .i64 c.keys] _:Cs wa w.heap.size [.string c.who,.string c.fo,.slice ab c.base.length cb,.int .i64 c.cur,.slice am c.mine.length cm,.string c.key,.slice aa c.ask.length ca,.int .i64 c.keys]).below bwb).below bwz:Cs wz w.heap.size _)
 have HC:Hid (Cs wz (w.heap.size+1) [.int .i64 a.err,.int .i64 a.num,.bool a.pg.reset,.slice xt a.pg.tree.length yt,.slice xc a.pg.cos.length yc,.int .i64 a.pg.cur,.bool a.pg.more]):=((by rw[←sa,hwb];exact Cs.new wa [.int .i64 a.err,.int .i64 a.num,.bool a.pg.reset,.slice xt a.pg.tree.length yt,.slice xc a.pg.cos.length yc,.int .i64 a.pg.cur,.bool a.pg.more] _:Cs wb (w.heap.size+1) [.int .i64 a.err,.int .i64 a.num,.bool a.pg.reset,.slice xt a.pg.tree.length yt,.slice xc a.pg.cos.length yc,.int .i64 a.pg.cur,.bool a.pg.more]).below bwz:Cs wz (w.heap.size+1) _)
 have HY:=hid (show Cs wz (w.heap.size+1+1) zs from by rw[←sb,hwz];exact Cs.new wb zs _);have hNz:w.heap.size+1+1<wz.heap.size:=HY.out.lt;have hwzz:(((w.alloc (.cells #[.string c.who,.string c.fo,.slice ab c.base.length cb,.int .i64 c.cur,.slice am c.mine.length cm,.string c.key,.slice aa c.ask.length ca,.int .i64 c.keys] 25)).alloc (.cells #[.int .i64 a.err,.int .i64 a.num,.bool a.pg.reset,.slice xt a.pg.tree.length yt,.slice xc a.pg.cos.length yc,.int .i64 a.pg.cur,.bool a.pg.more] 31)).alloc (.cells #[.string ⟨#[]⟩,.string ⟨#[]⟩,.slice none 0 0,.int .i64 0,.slice none 0 0,.string ⟨#[]⟩,.slice none 0 0,.int .i64 0] 25))=wz:=by rw[hwz,hwb,hwa]
 have HWZ:=hid hwzz;have n1: ¬w.heap.size=w.heap.size+1+1:=by omega
 have n2: ¬w.heap.size+1=w.heap.size+1+1:=by omega
 have n3: ¬w.heap.size+1+1=w.heap.size+1:=by omega
 clear hwa hwb hwz bwa bwb bwz sa sb hwzz;by_cases h1:k=1
 · have HQ:=hid (show Cy.heE c k a=0∧Cy.heC c k a=Cy.hdC c∧Cy.heK c k a=[]from⟨by rw[Cy.heE,if_neg (fun x=>x h0),if_pos h1],by rw[Cy.heC,if_neg (fun x=>x h0),if_pos h1],by rw[Cy.heK,if_neg (fun x=>x h0),if_pos h1]⟩)
   have hk1:(k==1)=true:=by simpa using h1
   rw[HQ.out.1];clear h0 h1;obtain⟨w3,hw3⟩: ∃w3,w3=(wz.setCell ⟨w.heap.size,5,none⟩ (.string ⟨#[]⟩)).setCell ⟨w.heap.size,6,none⟩ (.slice none 0 0):=⟨_,rfl⟩
   have g3:wz.grownBy w3 (some w.heap.size):=by rw[hw3];exact grown_on (nb_set wz w.heap.size 5 _) (nb_set _ w.heap.size 6 _)
   have HX3:Hid (Cs w3 w.heap.size [.string c.who,.string c.fo,.slice ab c.base.length cb,.int .i64 c.cur,.slice am c.mine.length cm,.string ⟨#[]⟩,.slice none 0 0,.int .i64 c.keys]):=(by rw[hw3];exact(HX.out.set 5 _).set 6 _:Cs w3 w.heap.size _)
   have HY3:=hid (HY.out.nb g3 (by omega));have hb3:Below w.heap.size w w3:=by rw[hw3];exact(hbz.setCell (p:=⟨w.heap.size,5,none⟩) (Nat.le_refl _) _).setCell (p:=⟨w.heap.size,6,none⟩) (Nat.le_refl _) _
   have s3:=g3.size;go_enter Tryz.func6,Tryz.ntmps6
   go_upto_region 1 with fail;rw[HWZ.out];clear HWZ;have p5:=HX.out.cell 5 rfl;have f5:=HX.out.fr 5;have p6:=HX.out.cell 6 rfl;have f6:=HX.out.fr 6;go_upto_region 3 with fail;rw[←hw3];clear hw3 p5 p6 f5 f6;have p0:=HX3.out.cell 0 rfl;have p1:=HX3.out.cell 1 rfl;have p2:=HX3.out.cell 2 rfl;have p3:=HX3.out.cell 3 rfl;have p4:=HX3.out.cell 4 rfl;have p5:=HX3.out.cell 5 rfl;have p6:=HX3.out.cell 6 rfl;have p7:=HX3.out.cell 7 rfl;have y0:=HY3.out.cell 0 rfl;have g0:=HY3.out.fr 0;have y1:=HY3.out.cell 1 rfl;have g1:=HY3.out.fr 1;have y2:=HY3.out.cell 2 rfl;have g2:=HY3.out.fr 2;have y3:=HY3.out.cell 3 rfl;have g3:=HY3.out.fr 3;have y4:=HY3.out.cell 4 rfl;have g4:=HY3.out.fr 4;have y5:=HY3.out.cell 5 rfl;have g5:=HY3.out.fr 5;have y6:=HY3.out.cell 6 rfl;have g6:=HY3.out.fr 6;have y7:=HY3.out.cell 7 rfl;have g7:=HY3.out.fr 7;go_wp2_with fail;have hbl:=((((((((hb3.setCell (p:=⟨w.heap.size+1+1,0,none⟩) (by show _≤w.heap.size+1+1;omega) (.string c.who)).setCell (p:=⟨w.heap.size+1+1,1,none⟩) (by show _≤w.heap.size+1+1;omega) (.string c.fo)).setCell (p:=⟨w.heap.size+1+1,2,none⟩) (by show _≤w.heap.size+1+1;omega) (.slice ab c.base.length cb)).setCell (p:=⟨w.heap.size+1+1,3,none⟩) (by show _≤w.heap.size+1+1;omega) (.int .i64 c.cur)).setCell (p:=⟨w.heap.size+1+1,4,none⟩) (by show _≤w.heap.size+1+1;omega) (.slice am c.mine.length cm)).setCell (p:=⟨w.heap.size+1+1,5,none⟩) (by show _≤w.heap.size+1+1;omega) (.string ⟨#[]⟩)).setCell (p:=⟨w.heap.size+1+1,6,none⟩) (by show _≤w.heap.size+1+1;omega) (.slice none 0 0)).setCell (p:=⟨w.heap.size+1+1,7,none⟩) (by show _≤w.heap.size+1+1;omega) (.int .i64 c.keys))
   refine bodyPost_ret (v:= .tuple #[.agg #[.string c.who,.string c.fo,.slice ab c.base.length cb,.int .i64 c.cur,.slice am c.mine.length cm,.string ⟨#[]⟩,.slice none 0 0,.int .i64 c.keys],.slice none 0 0,.int .i64 0]) (by simp[results,Tryz.results6,go_sem,y0,y1,y2,y3,y4,y5,y6,y7]) rfl ⟨_,_,rfl,?_,?_,own_nil _ _,hbl⟩
   · rw[HQ.out.2.1]
     exact⟨_,_,_,rfl,HLB.out.below hbl,HLM.out.below hbl,liesC_nil _⟩
   · rw[HQ.out.2.2];exact LiesK.nil _
 · by_cases h2:k=2
   · have HQ0:Cy.heE c k a=Cy.tnE c a:=by rw[Cy.heE,if_neg (fun x=>x h0),if_neg h1,if_pos h2]
     have HQ:=hid (show Cy.heC c k a=Cy.tnC c a∧Cy.heK c k a=Cy.tnK c a from⟨by rw[Cy.heC,if_neg (fun x=>x h0),if_neg h1,if_pos h2],by rw[Cy.heK,if_neg (fun x=>x h0),if_neg h1,if_pos h2]⟩);have hk1:(k==1)=false:=by simpa using h1
     have hk2:(k !=2)=false:=by simpa using h2
     have hk3:(k==2)=true:=by simpa using h2
     rw[HQ0];clear h0 h1 h2 HQ0;obtain⟨r,hr⟩: ∃r,r=Cy.tnE c a:=⟨_,rfl⟩
     rw[←hr];have HR:=hid hr;clear hr;have HZE:=hid (show¬r=0→Cy.tnC c a=zeroN∧Cy.tnK c a=[]from fun h=>by rw[HR.out]at h;exact⟨by rw[Cy.tnC,if_neg h],by rw[Cy.tnK,if_neg h]⟩);by_cases he:a.err=0
     · by_cases hrs:a.pg.reset=true∧a.pg.cur<c.cur
       · have hr4:r=4:=by rw[HR.out,Cy.tnE,if_neg (fun x=>x he),if_pos hrs]
         have HZ4:=hid (HZE.out (by rw[hr4];decide));subst hr4;have heb:(a.err==0)=true:=by simpa using he
         have heb2:(a.err !=0)=false:=by simpa using he
         have HRS:=hid hrs;clear he;clear hrs;go_enter Tryz.func6,Tryz.ntmps6
         go_upto_region 1 with fail;rw[HWZ.out];clear HWZ;obtain⟨hr1,hr2⟩:=HRS.out
         have p3:=HX.out.cell 3 rfl;have t0:=HC.out.cell 0 rfl;have t2:=HC.out.cell 2 rfl;have t5:=HC.out.cell 5 rfl;have y0:=HY.out.cell 0 rfl;have g0:=HY.out.fr 0;have y1:=HY.out.cell 1 rfl;have g1:=HY.out.fr 1;have y2:=HY.out.cell 2 rfl;have g2:=HY.out.fr 2;have y3:=HY.out.cell 3 rfl;have g3:=HY.out.fr 3;have y4:=HY.out.cell 4 rfl;have g4:=HY.out.fr 4;have y5:=HY.out.cell 5 rfl;have g5:=HY.out.fr 5;have y6:=HY.out.cell 6 rfl;have g6:=HY.out.fr 6;have y7:=HY.out.cell 7 rfl;have g7:=HY.out.fr 7;go_wp2_with fail;refine bodyPost_ret (v:= .tuple #[.agg #[.string ⟨#[]⟩,.string ⟨#[]⟩,.slice none 0 0,.int .i64 0,.slice none 0 0,.string ⟨#[]⟩,.slice none 0 0,.int .i64 0],.slice none 0 0,.int .i64 4]) (by simp[results,Tryz.results6,go_sem,y0,y1,y2,y3,y4,y5,y6,y7]) rfl ⟨_,_,rfl,?_,?_,own_nil _ _,?_⟩
         · rw[HQ.out.1,HZ4.out.1];exact(ownN_zero 0 _).lies
         · rw[HQ.out.2,HZ4.out.2];exact LiesK.nil _
         · exact(bs8 (b:=w.heap.size+1+1) hbz (by show _≤w.heap.size+1+1;omega))
       · have heb:(a.err==0)=true:=by simpa using he
         have heb2:(a.err !=0)=false:=by simpa using he
         have HRR:=hid (show r=if¬Jn.folE c.base c.cur a.pg=0 then Jn.folE c.base c.cur a.pg else Mg.mE c.base c.mine (Jn.folR c.base c.cur a.pg)from by rw[HR.out,Cy.tnE,if_neg (fun x=>x he),if_neg hrs])
         have hgo:a.pg.reset=false∨(a.pg.reset=true∧ ¬a.pg.cur<c.cur):=by
          cases h:a.pg.reset with
          |false=>exact Or.inl rfl
          |true=>exact Or.inr ⟨rfl,fun x=>hrs ⟨h,x⟩⟩
         have HGO:=hid hgo;clear he hrs hgo;rcases HGO.out with hg1|⟨hg1,hg2⟩
         · have HG1:=hid hg1
           clear hg1;clear HGO;go_enter Tryz.func6,Tryz.ntmps6
           go_upto_region 1 with fail;rw[HWZ.out];clear HWZ;have hg1:=HG1.out;have p2:=HX.out.cell 2 rfl;have p3:=HX.out.cell 3 rfl;have t0:=HC.out.cell 0 rfl;have t1:=HC.out.cell 1 rfl;have t2:=HC.out.cell 2 rfl;have t3:=HC.out.cell 3 rfl;have t4:=HC.out.cell 4 rfl;have t5:=HC.out.cell 5 rfl;have t6:=HC.out.cell 6 rfl;go_wp2_with fail;refine(followOf_any c.base _ c.cur a.pg _ _ (HLB.out.below hbz) HPB.out ⟨_,_,by rw[HG1.out],HLT.out.below hbz,HLO.out.below hbz⟩ HPT.out HPC.out).mono ?_
           rintro e w1 ⟨u1,rfl,hl1,hb1⟩;have hb01:=below_tr hbz hb1;have HX1:=hid (HX.out.below hb1);have HY1:=hid (HY.out.below hb1);have s1:=hb1.size;clear p2 p3 t0 t1 t2 t3 t4 t5 t6;by_cases hf:Jn.folE c.base c.cur a.pg=0
           · have HF:=hid hf
             have hl1:=hl1 hf;rw[hf];clear hf;obtain⟨T,hT⟩: ∃T,T=Jn.folR c.base c.cur a.pg:=⟨_,rfl⟩
             rw[←hT]at hl1;have HT:=hid hT;have HTG:=hid (show Pp.Good T from by rw[hT];exact Jn.fol_good HF.out);obtain⟨nn,hnn⟩: ∃nn,nn=Jn.folN c.base c.cur a.pg:=⟨_,rfl⟩
             rw[←hnn];have HNN:=hid hnn;clear hT hnn;have HL1:=hid hl1;obtain⟨ta,tc,rfl,_⟩:=hl1
             have HME:=hid (Mg.m_yes (B:=c.base) (M:=c.mine) (T:=T) ((Pp.good_iff _).2 HG.out.1) ((Pp.good_iff _).2 HG.out.2) ((Pp.good_iff _).2 HTG.out));have p2:=HX1.out.cell 2 rfl;have p4:=HX1.out.cell 4 rfl;go_wp2_with fail;refine(mergeOf_any c.base c.mine T _ _ _ _ (HLB.out.below hb01) (HLM.out.below hb01) HL1.out HG.out.1 HG.out.2 HTG.out).mono ?_
             rintro e w2 ⟨hn2,hs2,hb2⟩;have hb02:=below_tr hb01 hb2;have HX2:=hid (HX1.out.below hb2);have HY2:=hid (HY1.out.below hb2);have HL2:=hid (HL1.out.below hb2);have s2:=hb2.size;clear p2 p4;cases hm:Mg.mrg c.base c.mine T with
             |some XC=>
              obtain⟨X,C⟩:=XC
              obtain⟨ve,vk,rfl,hl2,hk2,ho2,ho3⟩:=hs2 X C hm
              have HMX:=hid (Mg.m_some ((Pp.good_iff _).2 HG.out.1) ((Pp.good_iff _).2 HG.out.2) ((Pp.good_iff _).2 HTG.out) hm)
              have HOK:=hid (show r=0∧Cy.tnC c a=⟨c.who,c.fo,T,nn,X,c.key,c.ask,c.keys⟩∧Cy.tnK c a=C from by
               have h3:r=0:=by rw[HRR.out,if_neg (fun x=>x HF.out),←HT.out];exact HMX.out.1
               have h4:Cy.tnE c a=0:=by rw[←HR.out];exact h3
               exact⟨h3,by rw[Cy.tnC,if_pos h4,←HT.out,←HNN.out,HMX.out.2.1],by rw[Cy.tnK,if_pos h4,←HT.out,HMX.out.2.2]⟩)
              have h0r:=HOK.out.1;subst h0r;clear hm hn2 hs2;have HV2:=hid hl2;have HK2:=hid hk2;have HO3:=hid ho3;obtain⟨ea,ec,rfl,_⟩:=hl2
              obtain⟨ka,kc,rfl,_⟩:=hk2
              clear ho2 ho3;obtain⟨w3,hw3⟩: ∃w3,w3=((w2.setCell ⟨w.heap.size,2,none⟩ (.slice ta T.length tc)).setCell ⟨w.heap.size,3,none⟩ (.int .i64 nn)).setCell ⟨w.heap.size,4,none⟩ (.slice ea X.length ec):=⟨_,rfl⟩
              have g3:w2.grownBy w3 (some w.heap.size):=by rw[hw3];exact grown_on (grown_on (nb_set w2 w.heap.size 2 _) (nb_set _ w.heap.size 3 _)) (nb_set _ w.heap.size 4 _)
              have HX3:Hid (Cs w3 w.heap.size [.string c.who,.string c.fo,.slice ta T.length tc,.int .i64 nn,.slice ea X.length ec,.string c.key,.slice aa c.ask.length ca,.int .i64 c.keys]):=(by rw[hw3];exact((HX2.out.set 2 _).set 3 _).set 4 _:Cs w3 w.heap.size _)
              have HY3:=hid (HY2.out.nb g3 (by omega));have HL3:=hid (HL2.out.offbox HX2.out (fun z hz=>by simp at hz) g3);have HV3:=hid (HV2.out.offbox HX2.out (fun z hz=>by simp at hz) g3);have HK3:=hid (HK2.out.nbo g3 (fun b hb=>by have:=(HO3.out b hb).1;omega));have HP3:=hid (HO3.out.nb g3 (fun b hb=>by have:=(HO3.out b hb).1;omega));have hb3:Below w.heap.size w w3:=by rw[hw3];exact((hb02.setCell (p:=⟨w.heap.size,2,none⟩) (Nat.le_refl _) _).setCell (p:=⟨w.heap.size,3,none⟩) (Nat.le_refl _) _).setCell (p:=⟨w.heap.size,4,none⟩) (Nat.le_refl _) _
              have s3:=g3.size;have p2:=HX2.out.cell 2 rfl;have f2:=HX2.out.fr 2;have p3:=HX2.out.cell 3 rfl;have f3:=HX2.out.fr 3;have p4:=HX2.out.cell 4 rfl;have f4:=HX2.out.fr 4;go_upto_region 17 with fail;rw[←hw3];clear hw3 p2 p3 p4 f2 f3 f4;have p0:=HX3.out.cell 0 rfl;have p1:=HX3.out.cell 1 rfl;have p2:=HX3.out.cell 2 rfl;have p3:=HX3.out.cell 3 rfl;have p4:=HX3.out.cell 4 rfl;have p5:=HX3.out.cell 5 rfl;have p6:=HX3.out.cell 6 rfl;have p7:=HX3.out.cell 7 rfl;have y0:=HY3.out.cell 0 rfl;have g0:=HY3.out.fr 0;have y1:=HY3.out.cell 1 rfl;have g1:=HY3.out.fr 1;have y2:=HY3.out.cell 2 rfl;have g2:=HY3.out.fr 2;have y3:=HY3.out.cell 3 rfl;have g3:=HY3.out.fr 3;have y4:=HY3.out.cell 4 rfl;have g4:=HY3.out.fr 4;have y5:=HY3.out.cell 5 rfl;have g5:=HY3.out.fr 5;have y6:=HY3.out.cell 6 rfl;have g6:=HY3.out.fr 6;have y7:=HY3.out.cell 7 rfl;have g7:=HY3.out.fr 7;go_wp2_with fail;have gz:w3.grownBy _ (some (w.heap.size+1+1)):=(grown_on (grown_on (grown_on (grown_on (grown_on (grown_on (grown_on (nb_set w3 (w.heap.size+1+1) 0 (.string c.who)) (nb_set _ (w.heap.size+1+1) 1 (.string c.fo))) (nb_set _ (w.heap.size+1+1) 2 (.slice ta T.length tc))) (nb_set _ (w.heap.size+1+1) 3 (.int .i64 nn))) (nb_set _ (w.heap.size+1+1) 4 (.slice ea X.length ec))) (nb_set _ (w.heap.size+1+1) 5 (.string c.key))) (nb_set _ (w.heap.size+1+1) 6 (.slice aa c.ask.length ca))) (nb_set _ (w.heap.size+1+1) 7 (.int .i64 c.keys)))
              have hbl:=((((((((hb3.setCell (p:=⟨w.heap.size+1+1,0,none⟩) (by show _≤w.heap.size+1+1;omega) (.string c.who)).setCell (p:=⟨w.heap.size+1+1,1,none⟩) (by show _≤w.heap.size+1+1;omega) (.string c.fo)).setCell (p:=⟨w.heap.size+1+1,2,none⟩) (by show _≤w.heap.size+1+1;omega) (.slice ta T.length tc)).setCell (p:=⟨w.heap.size+1+1,3,none⟩) (by show _≤w.heap.size+1+1;omega) (.int .i64 nn)).setCell (p:=⟨w.heap.size+1+1,4,none⟩) (by show _≤w.heap.size+1+1;omega) (.slice ea X.length ec)).setCell (p:=⟨w.heap.size+1+1,5,none⟩) (by show _≤w.heap.size+1+1;omega) (.string c.key)).setCell (p:=⟨w.heap.size+1+1,6,none⟩) (by show _≤w.heap.size+1+1;omega) (.slice aa c.ask.length ca)).setCell (p:=⟨w.heap.size+1+1,7,none⟩) (by show _≤w.heap.size+1+1;omega) (.int .i64 c.keys))
              refine bodyPost_ret (v:= .tuple #[.agg #[.string c.who,.string c.fo,.slice ta T.length tc,.int .i64 nn,.slice ea X.length ec,.string c.key,.slice aa c.ask.length ca,.int .i64 c.keys],.slice ka C.length kc,.int .i64 0]) (by simp[results,Tryz.results6,go_sem,y0,y1,y2,y3,y4,y5,y6,y7]) rfl ⟨_,_,rfl,?_,?_,(HP3.out.nb gz (fun b hb=>by have:=(HP3.out b hb).1;omega)).mono (by omega),hbl⟩
              · rw[HQ.out.1,HOK.out.2.1]
                exact⟨_,_,_,rfl,HL3.out.offbox HY3.out (fun z hz=>by simp at hz) gz,HV3.out.offbox HY3.out (fun z hz=>by simp at hz) gz,HLC.out.below hbl⟩
              · rw[HQ.out.2,HOK.out.2.2]
                exact HK3.out.nbo gz (fun b hb=>by have:=(HP3.out b hb).1;omega)
             |none=>
              obtain rfl:=hn2 hm;have hrm:r=2:=by rw[HRR.out,if_neg (fun x=>x HF.out),←HT.out];exact(Mg.m_none ((Pp.good_iff _).2 HG.out.1) ((Pp.good_iff _).2 HG.out.2) ((Pp.good_iff _).2 HTG.out) hm).1
              have HZ4:=hid (HZE.out (by rw[hrm];decide));subst hrm;clear hm hn2 hs2;have y0:=HY2.out.cell 0 rfl;have g0:=HY2.out.fr 0;have y1:=HY2.out.cell 1 rfl;have g1:=HY2.out.fr 1;have y2:=HY2.out.cell 2 rfl;have g2:=HY2.out.fr 2;have y3:=HY2.out.cell 3 rfl;have g3:=HY2.out.fr 3;have y4:=HY2.out.cell 4 rfl;have g4:=HY2.out.fr 4;have y5:=HY2.out.cell 5 rfl;have g5:=HY2.out.fr 5;have y6:=HY2.out.cell 6 rfl;have g6:=HY2.out.fr 6;have y7:=HY2.out.cell 7 rfl;have g7:=HY2.out.fr 7;go_wp2_with fail;refine bodyPost_ret (v:= .tuple #[.agg #[.string ⟨#[]⟩,.string ⟨#[]⟩,.slice none 0 0,.int .i64 0,.slice none 0 0,.string ⟨#[]⟩,.slice none 0 0,.int .i64 0],.slice none 0 0,.int .i64 2]) (by simp[results,Tryz.results6,go_sem,y0,y1,y2,y3,y4,y5,y6,y7]) rfl ⟨_,_,rfl,?_,?_,own_nil _ _,?_⟩
              · rw[HQ.out.1,HZ4.out.1];exact(ownN_zero 0 _).lies
              · rw[HQ.out.2,HZ4.out.2];exact LiesK.nil _
              · exact(bs8 (b:=w.heap.size+1+1) hb02 (by show _≤w.heap.size+1+1;omega))
           · have hrm:r=Jn.folE c.base c.cur a.pg:=by rw[HRR.out,if_pos hf]
             have HZ4:=hid (HZE.out (by rw[hrm];exact hf));have hmb:(r !=0)=true:=by rw[hrm];simpa using hf
             rw[←hrm];clear hrm hf hl1;have y0:=HY1.out.cell 0 rfl;have g0:=HY1.out.fr 0;have y1:=HY1.out.cell 1 rfl;have g1:=HY1.out.fr 1;have y2:=HY1.out.cell 2 rfl;have g2:=HY1.out.fr 2;have y3:=HY1.out.cell 3 rfl;have g3:=HY1.out.fr 3;have y4:=HY1.out.cell 4 rfl;have g4:=HY1.out.fr 4;have y5:=HY1.out.cell 5 rfl;have g5:=HY1.out.fr 5;have y6:=HY1.out.cell 6 rfl;have g6:=HY1.out.fr 6;have y7:=HY1.out.cell 7 rfl;have g7:=HY1.out.fr 7;go_wp2_with fail;refine bodyPost_ret (v:= .tuple #[.agg #[.string ⟨#[]⟩,.string ⟨#[]⟩,.slice none 0 0,.int .i64 0,.slice none 0 0,.string ⟨#[]⟩,.slice none 0 0,.int .i64 0],.slice none 0 0,.int .i64 r]) (by simp[results,Tryz.results6,go_sem,y0,y1,y2,y3,y4,y5,y6,y7]) rfl ⟨_,_,rfl,?_,?_,own_nil _ _,?_⟩
             · rw[HQ.out.1,HZ4.out.1];exact(ownN_zero 0 _).lies
             · rw[HQ.out.2,HZ4.out.2];exact LiesK.nil _
             · exact(bs8 (b:=w.heap.size+1+1) hb01 (by show _≤w.heap.size+1+1;omega))
         · have HG1:=hid hg1
           clear hg1;clear HGO;go_enter Tryz.func6,Tryz.ntmps6
           go_upto_region 1 with fail;rw[HWZ.out];clear HWZ;have hg1:=HG1.out;have p2:=HX.out.cell 2 rfl;have p3:=HX.out.cell 3 rfl;have t0:=HC.out.cell 0 rfl;have t1:=HC.out.cell 1 rfl;have t2:=HC.out.cell 2 rfl;have t3:=HC.out.cell 3 rfl;have t4:=HC.out.cell 4 rfl;have t5:=HC.out.cell 5 rfl;have t6:=HC.out.cell 6 rfl;go_wp2_with fail;refine(followOf_any c.base _ c.cur a.pg _ _ (HLB.out.below hbz) HPB.out ⟨_,_,by rw[HG1.out],HLT.out.below hbz,HLO.out.below hbz⟩ HPT.out HPC.out).mono ?_
           rintro e w1 ⟨u1,rfl,hl1,hb1⟩;have hb01:=below_tr hbz hb1;have HX1:=hid (HX.out.below hb1);have HY1:=hid (HY.out.below hb1);have s1:=hb1.size;clear p2 p3 t0 t1 t2 t3 t4 t5 t6;by_cases hf:Jn.folE c.base c.cur a.pg=0
           · have HF:=hid hf
             have hl1:=hl1 hf;rw[hf];clear hf;obtain⟨T,hT⟩: ∃T,T=Jn.folR c.base c.cur a.pg:=⟨_,rfl⟩
             rw[←hT]at hl1;have HT:=hid hT;have HTG:=hid (show Pp.Good T from by rw[hT];exact Jn.fol_good HF.out);obtain⟨nn,hnn⟩: ∃nn,nn=Jn.folN c.base c.cur a.pg:=⟨_,rfl⟩
             rw[←hnn];have HNN:=hid hnn;clear hT hnn;have HL1:=hid hl1;obtain⟨ta,tc,rfl,_⟩:=hl1
             have HME:=hid (Mg.m_yes (B:=c.base) (M:=c.mine) (T:=T) ((Pp.good_iff _).2 HG.out.1) ((Pp.good_iff _).2 HG.out.2) ((Pp.good_iff _).2 HTG.out));have p2:=HX1.out.cell 2 rfl;have p4:=HX1.out.cell 4 rfl;go_wp2_with fail;refine(mergeOf_any c.base c.mine T _ _ _ _ (HLB.out.below hb01) (HLM.out.below hb01) HL1.out HG.out.1 HG.out.2 HTG.out).mono ?_
             rintro e w2 ⟨hn2,hs2,hb2⟩;have hb02:=below_tr hb01 hb2;have HX2:=hid (HX1.out.below hb2);have HY2:=hid (HY1.out.below hb2);have HL2:=hid (HL1.out.below hb2);have s2:=hb2.size;clear p2 p4;cases hm:Mg.mrg c.base c.mine T with
             |some XC=>
              obtain⟨X,C⟩:=XC
              obtain⟨ve,vk,rfl,hl2,hk2,ho2,ho3⟩:=hs2 X C hm
              have HMX:=hid (Mg.m_some ((Pp.good_iff _).2 HG.out.1) ((Pp.good_iff _).2 HG.out.2) ((Pp.good_iff _).2 HTG.out) hm)
              have HOK:=hid (show r=0∧Cy.tnC c a=⟨c.who,c.fo,T,nn,X,c.key,c.ask,c.keys⟩∧Cy.tnK c a=C from by
               have h3:r=0:=by rw[HRR.out,if_neg (fun x=>x HF.out),←HT.out];exact HMX.out.1
               have h4:Cy.tnE c a=0:=by rw[←HR.out];exact h3
               exact⟨h3,by rw[Cy.tnC,if_pos h4,←HT.out,←HNN.out,HMX.out.2.1],by rw[Cy.tnK,if_pos h4,←HT.out,HMX.out.2.2]⟩)
              have h0r:=HOK.out.1;subst h0r;clear hm hn2 hs2;have HV2:=hid hl2;have HK2:=hid hk2;have HO3:=hid ho3;obtain⟨ea,ec,rfl,_⟩:=hl2
              obtain⟨ka,kc,rfl,_⟩:=hk2
              clear ho2 ho3;obtain⟨w3,hw3⟩: ∃w3,w3=((w2.setCell ⟨w.heap.size,2,none⟩ (.slice ta T.length tc)).setCell ⟨w.heap.size,3,none⟩ (.int .i64 nn)).setCell ⟨w.heap.size,4,none⟩ (.slice ea X.length ec):=⟨_,rfl⟩
              have g3:w2.grownBy w3 (some w.heap.size):=by rw[hw3];exact grown_on (grown_on (nb_set w2 w.heap.size 2 _) (nb_set _ w.heap.size 3 _)) (nb_set _ w.heap.size 4 _)
              have HX3:Hid (Cs w3 w.heap.size [.string c.who,.string c.fo,.slice ta T.length tc,.int .i64 nn,.slice ea X.length ec,.string c.key,.slice aa c.ask.length ca,.int .i64 c.keys]):=(by rw[hw3];exact((HX2.out.set 2 _).set 3 _).set 4 _:Cs w3 w.heap.size _)
              have HY3:=hid (HY2.out.nb g3 (by omega));have HL3:=hid (HL2.out.offbox HX2.out (fun z hz=>by simp at hz) g3);have HV3:=hid (HV2.out.offbox HX2.out (fun z hz=>by simp at hz) g3);have HK3:=hid (HK2.out.nbo g3 (fun b hb=>by have:=(HO3.out b hb).1;omega));have HP3:=hid (HO3.out.nb g3 (fun b hb=>by have:=(HO3.out b hb).1;omega));have hb3:Below w.heap.size w w3:=by rw[hw3];exact((hb02.setCell (p:=⟨w.heap.size,2,none⟩) (Nat.le_refl _) _).setCell (p:=⟨w.heap.size,3,none⟩) (Nat.le_refl _) _).setCell (p:=⟨w.heap.size,4,none⟩) (Nat.le_refl _) _
              have s3:=g3.size;have p2:=HX2.out.cell 2 rfl;have f2:=HX2.out.fr 2;have p3:=HX2.out.cell 3 rfl;have f3:=HX2.out.fr 3;have p4:=HX2.out.cell 4 rfl;have f4:=HX2.out.fr 4;go_upto_region 17 with fail;rw[←hw3];clear hw3 p2 p3 p4 f2 f3 f4;have p0:=HX3.out.cell 0 rfl;have p1:=HX3.out.cell 1 rfl;have p2:=HX3.out.cell 2 rfl;have p3:=HX3.out.cell 3 rfl;have p4:=HX3.out.cell 4 rfl;have p5:=HX3.out.cell 5 rfl;have p6:=HX3.out.cell 6 rfl;have p7:=HX3.out.cell 7 rfl;have y0:=HY3.out.cell 0 rfl;have g0:=HY3.out.fr 0;have y1:=HY3.out.cell 1 rfl;have g1:=HY3.out.fr 1;have y2:=HY3.out.cell 2 rfl;have g2:=HY3.out.fr 2;have y3:=HY3.out.cell 3 rfl;have g3:=HY3.out.fr 3;have y4:=HY3.out.cell 4 rfl;have g4:=HY3.out.fr 4;have y5:=HY3.out.cell 5 rfl;have g5:=HY3.out.fr 5;have y6:=HY3.out.cell 6 rfl;have g6:=HY3.out.fr 6;have y7:=HY3.out.cell 7 rfl;have g7:=HY3.out.fr 7;go_wp2_with fail;have gz:w3.grownBy _ (some (w.heap.size+1+1)):=(grown_on (grown_on (grown_on (grown_on (grown_on (grown_on (grown_on (nb_set w3 (w.heap.size+1+1) 0 (.string c.who)) (nb_set _ (w.heap.size+1+1) 1 (.string c.fo))) (nb_set _ (w.heap.size+1+1) 2 (.slice ta T.length tc))) (nb_set _ (w.heap.size+1+1) 3 (.int .i64 nn))) (nb_set _ (w.heap.size+1+1) 4 (.slice ea X.length ec))) (nb_set _ (w.heap.size+1+1) 5 (.string c.key))) (nb_set _ (w.heap.size+1+1) 6 (.slice aa c.ask.length ca))) (nb_set _ (w.heap.size+1+1) 7 (.int .i64 c.keys)))
              have hbl:=((((((((hb3.setCell (p:=⟨w.heap.size+1+1,0,none⟩) (by show _≤w.heap.size+1+1;omega) (.string c.who)).setCell (p:=⟨w.heap.size+1+1,1,none⟩) (by show _≤w.heap.size+1+1;omega) (.string c.fo)).setCell (p:=⟨w.heap.size+1+1,2,none⟩) (by show _≤w.heap.size+1+1;omega) (.slice ta T.length tc)).setCell (p:=⟨w.heap.size+1+1,3,none⟩) (by show _≤w.heap.size+1+1;omega) (.int .i64 nn)).setCell (p:=⟨w.heap.size+1+1,4,none⟩) (by show _≤w.heap.size+1+1;omega) (.slice ea X.length ec)).setCell (p:=⟨w.heap.size+1+1,5,none⟩) (by show _≤w.heap.size+1+1;omega) (.string c.key)).setCell (p:=⟨w.heap.size+1+1,6,none⟩) (by show _≤w.heap.size+1+1;omega) (.slice aa c.ask.length ca)).setCell (p:=⟨w.heap.size+1+1,7,none⟩) (by show _≤w.heap.size+1+1;omega) (.int .i64 c.keys))
              refine bodyPost_ret (v:= .tuple #[.agg #[.string c.who,.string c.fo,.slice ta T.length tc,.int .i64 nn,.slice ea X.length ec,.string c.key,.slice aa c.ask.length ca,.int .i64 c.keys],.slice ka C.length kc,.int .i64 0]) (by simp[results,Tryz.results6,go_sem,y0,y1,y2,y3,y4,y5,y6,y7]) rfl ⟨_,_,rfl,?_,?_,(HP3.out.nb gz (fun b hb=>by have:=(HP3.out b hb).1;omega)).mono (by omega),hbl⟩
              · rw[HQ.out.1,HOK.out.2.1]
                exact⟨_,_,_,rfl,HL3.out.offbox HY3.out (fun z hz=>by simp at hz) gz,HV3.out.offbox HY3.out (fun z hz=>by simp at hz) gz,HLC.out.below hbl⟩
              · rw[HQ.out.2,HOK.out.2.2]
                exact HK3.out.nbo gz (fun b hb=>by have:=(HP3.out b hb).1;omega)
             |none=>
              obtain rfl:=hn2 hm;have hrm:r=2:=by rw[HRR.out,if_neg (fun x=>x HF.out),←HT.out];exact(Mg.m_none ((Pp.good_iff _).2 HG.out.1) ((Pp.good_iff _).2 HG.out.2) ((Pp.good_iff _).2 HTG.out) hm).1
              have HZ4:=hid (HZE.out (by rw[hrm];decide));subst hrm;clear hm hn2 hs2;have y0:=HY2.out.cell 0 rfl;have g0:=HY2.out.fr 0;have y1:=HY2.out.cell 1 rfl;have g1:=HY2.out.fr 1;have y2:=HY2.out.cell 2 rfl;have g2:=HY2.out.fr 2;have y3:=HY2.out.cell 3 rfl;have g3:=HY2.out.fr 3;have y4:=HY2.out.cell 4 rfl;have g4:=HY2.out.fr 4;have y5:=HY2.out.cell 5 rfl;have g5:=HY2.out.fr 5;have y6:=HY2.out.cell 6 rfl;have g6:=HY2.out.fr 6;have y7:=HY2.out.cell 7 rfl;have g7:=HY2.out.fr 7;go_wp2_with fail;refine bodyPost_ret (v:= .tuple #[.agg #[.string ⟨#[]⟩,.string ⟨#[]⟩,.slice none 0 0,.int .i64 0,.slice none 0 0,.string ⟨#[]⟩,.slice none 0 0,.int .i64 0],.slice none 0 0,.int .i64 2]) (by simp[results,Tryz.results6,go_sem,y0,y1,y2,y3,y4,y5,y6,y7]) rfl ⟨_,_,rfl,?_,?_,own_nil _ _,?_⟩
              · rw[HQ.out.1,HZ4.out.1];exact(ownN_zero 0 _).lies
              · rw[HQ.out.2,HZ4.out.2];exact LiesK.nil _
              · exact(bs8 (b:=w.heap.size+1+1) hb02 (by show _≤w.heap.size+1+1;omega))
           · have hrm:r=Jn.folE c.base c.cur a.pg:=by rw[HRR.out,if_pos hf]
             have HZ4:=hid (HZE.out (by rw[hrm];exact hf));have hmb:(r !=0)=true:=by rw[hrm];simpa using hf
             rw[←hrm];clear hrm hf hl1;have y0:=HY1.out.cell 0 rfl;have g0:=HY1.out.fr 0;have y1:=HY1.out.cell 1 rfl;have g1:=HY1.out.fr 1;have y2:=HY1.out.cell 2 rfl;have g2:=HY1.out.fr 2;have y3:=HY1.out.cell 3 rfl;have g3:=HY1.out.fr 3;have y4:=HY1.out.cell 4 rfl;have g4:=HY1.out.fr 4;have y5:=HY1.out.cell 5 rfl;have g5:=HY1.out.fr 5;have y6:=HY1.out.cell 6 rfl;have g6:=HY1.out.fr 6;have y7:=HY1.out.cell 7 rfl;have g7:=HY1.out.fr 7;go_wp2_with fail;refine bodyPost_ret (v:= .tuple #[.agg #[.string ⟨#[]⟩,.string ⟨#[]⟩,.slice none 0 0,.int .i64 0,.slice none 0 0,.string ⟨#[]⟩,.slice none 0 0,.int .i64 0],.slice none 0 0,.int .i64 r]) (by simp[results,Tryz.results6,go_sem,y0,y1,y2,y3,y4,y5,y6,y7]) rfl ⟨_,_,rfl,?_,?_,own_nil _ _,?_⟩
             · rw[HQ.out.1,HZ4.out.1];exact(ownN_zero 0 _).lies
             · rw[HQ.out.2,HZ4.out.2];exact LiesK.nil _
             · exact(bs8 (b:=w.heap.size+1+1) hb01 (by show _≤w.heap.size+1+1;omega))
     · have hre:r=a.err:=by rw[HR.out,Cy.tnE,if_pos he]
       have HZ4:=hid (HZE.out (by rw[hre];exact he));have heb:(a.err==0)=false:=by simpa using he
       have heb2:(a.err !=0)=true:=by simpa using he
       rw[hre];clear he hre;go_enter Tryz.func6,Tryz.ntmps6
       go_upto_region 1 with fail;rw[HWZ.out];clear HWZ;have t0:=HC.out.cell 0 rfl;have y0:=HY.out.cell 0 rfl;have g0:=HY.out.fr 0;have y1:=HY.out.cell 1 rfl;have g1:=HY.out.fr 1;have y2:=HY.out.cell 2 rfl;have g2:=HY.out.fr 2;have y3:=HY.out.cell 3 rfl;have g3:=HY.out.fr 3;have y4:=HY.out.cell 4 rfl;have g4:=HY.out.fr 4;have y5:=HY.out.cell 5 rfl;have g5:=HY.out.fr 5;have y6:=HY.out.cell 6 rfl;have g6:=HY.out.fr 6;have y7:=HY.out.cell 7 rfl;have g7:=HY.out.fr 7;go_upto_region 7 with fail;go_region_held3 (fun W=>W.cell? ⟨w.heap.size+1,0,none⟩=some (.int .i64 a.err)) (go_keep) (fail)
       all_goals
        go_wp2_with fail;refine bodyPost_ret (v:= .tuple #[.agg #[.string ⟨#[]⟩,.string ⟨#[]⟩,.slice none 0 0,.int .i64 0,.slice none 0 0,.string ⟨#[]⟩,.slice none 0 0,.int .i64 0],.slice none 0 0,.int .i64 a.err]) (by simp[results,Tryz.results6,go_sem,y0,y1,y2,y3,y4,y5,y6,y7]) rfl ⟨_,_,rfl,?_,?_,own_nil _ _,?_⟩
        · rw[HQ.out.1,HZ4.out.1];exact(ownN_zero 0 _).lies
        · rw[HQ.out.2,HZ4.out.2];exact LiesK.nil _
        · exact(bs8 (b:=w.heap.size+1+1) hbz (by show _≤w.heap.size+1+1;omega)).drew
   · have HQ:=hid (show Cy.heE c k a=7∧Cy.heC c k a=zeroN∧Cy.heK c k a=[]from⟨by rw[Cy.heE,if_neg (fun x=>x h0),if_neg h1,if_neg h2],by rw[Cy.heC,if_neg (fun x=>x h0),if_neg h1,if_neg h2],by rw[Cy.heK,if_neg (fun x=>x h0),if_neg h1,if_neg h2]⟩)
     have hk1:(k==1)=false:=by simpa using h1
     have hk2:(k !=2)=true:=by simpa using h2
     have hk3:(k==2)=false:=by simpa using h2
     rw[HQ.out.1];clear h0 h1 h2;go_enter Tryz.func6,Tryz.ntmps6
     go_upto_region 1 with fail;rw[HWZ.out];clear HWZ;have y0:=HY.out.cell 0 rfl;have g0:=HY.out.fr 0;have y1:=HY.out.cell 1 rfl;have g1:=HY.out.fr 1;have y2:=HY.out.cell 2 rfl;have g2:=HY.out.fr 2;have y3:=HY.out.cell 3 rfl;have g3:=HY.out.fr 3;have y4:=HY.out.cell 4 rfl;have g4:=HY.out.fr 4;have y5:=HY.out.cell 5 rfl;have g5:=HY.out.fr 5;have y6:=HY.out.cell 6 rfl;have g6:=HY.out.fr 6;have y7:=HY.out.cell 7 rfl;have g7:=HY.out.fr 7;go_wp2_with fail;refine bodyPost_ret (v:= .tuple #[.agg #[.string ⟨#[]⟩,.string ⟨#[]⟩,.slice none 0 0,.int .i64 0,.slice none 0 0,.string ⟨#[]⟩,.slice none 0 0,.int .i64 0],.slice none 0 0,.int .i64 7]) (by simp[results,Tryz.results6,go_sem,y0,y1,y2,y3,y4,y5,y6,y7]) rfl ⟨_,_,rfl,?_,?_,own_nil _ _,?_⟩
     · rw[HQ.out.2.1];exact(ownN_zero 0 _).lies
     · rw[HQ.out.2.2];exact LiesK.nil _
     · exact(bs8 (b:=w.heap.size+1+1) hbz (by show _≤w.heap.size+1+1;omega))
namespace Cy
theorem nms2 (a b:ByteArray):Pp.nmsE [a,b]=if Pp.nameB a.data.toList=true∧Pp.nameB b.data.toList=true then 0 else 1:=by
 rw[Pp.nmsE];simp only[List.all_cons,List.all_nil,Bool.and_true,Bool.and_eq_true]
theorem cn_name {a b:ByteArray} (h: ¬(Pp.nameB a.data.toList=true∧Pp.nameB b.data.toList=true)):cnE a b=1:=by
 have h1:Pp.nmsE [a,b]=1:=by rw[nms2,if_neg h]
 rw[cnE,h1,if_pos (by decide)]
theorem cn_key {a b:ByteArray} (h1:Pp.nameB a.data.toList=true) (h2:Pp.nameB b.data.toList=true) (h:Pp.keyB a.data.toList=false):cnE a b=1:=by
 have h0:Pp.nmsE [a,b]=0:=by rw[nms2,if_pos ⟨h1,h2⟩]
 rw[cnE,h0,if_neg (by decide),Pp.keyE_no h];split<;>rfl
theorem cn_long {a b:ByteArray} (h1:Pp.nameB a.data.toList=true) (h2:Pp.nameB b.data.toList=true) (h:10<a.size):cnE a b=1:=by
 have h0:Pp.nmsE [a,b]=0:=by rw[nms2,if_pos ⟨h1,h2⟩]
 rw[cnE,h0,if_neg (by decide),if_pos h]
theorem cn_ok {a b:ByteArray} (h1:Pp.nameB a.data.toList=true) (h2:Pp.nameB b.data.toList=true) (h3:Pp.keyB a.data.toList=true) (h: ¬10<a.size):cnE a b=0:=by
 have h0:Pp.nmsE [a,b]=0:=by rw[nms2,if_pos ⟨h1,h2⟩]
 rw[cnE,h0,if_neg (by decide),if_neg h,Pp.keyE_yes h3]
theorem rg_cur {c:Cn} (h:(decide (0≤c.cur) && decide (c.cur≤1000000))=false):rgB c=true:=by
 simp only[rgB,Bool.or_eq_true,decide_eq_true_eq];simp only[Bool.and_eq_false_iff,decide_eq_false_iff_not]at h;omega
theorem rg_keys {c:Cn} (h:(decide (0≤c.keys) && decide (c.keys≤1000000))=false):rgB c=true:=by
 simp only[rgB,Bool.or_eq_true,decide_eq_true_eq];simp only[Bool.and_eq_false_iff,decide_eq_false_iff_not]at h;omega
theorem rg_ok {c:Cn} (h:(decide (0≤c.cur) && decide (c.cur≤1000000))=true) (h2:(decide (0≤c.keys) && decide (c.keys≤1000000))=true):rgB c=false:=by
 simp only[Bool.and_eq_true,decide_eq_true_eq]at h h2;simp only[rgB,Bool.or_eq_false_iff,decide_eq_false_iff_not];omega
end Cy

set_option maxHeartbeats 400000 in
theorem isCursor_any (n:Int) (w:World):Calls Tryz.prog 15 #[.int .i64 n] w fun e w'=>e= .returned (.bool (decide (0≤n) && decide (n≤1000000)))∧w'=w:=by
 by_cases h1:0≤n
 · by_cases h2:n≤1000000
   · have HE:=hid (show(decide (0≤n) && decide (n≤1000000))=true from by simp[h1,h2])
     rw[HE.out];go_enter Tryz.func15,Tryz.ntmps15
     go_wp2_with fail;go_ret;exact⟨rfl,rfl⟩
   · have HE:=hid (show(decide (0≤n) && decide (n≤1000000))=false from by simp[h2])
     rw[HE.out];go_enter Tryz.func15,Tryz.ntmps15
     go_wp2_with fail;go_ret;exact⟨rfl,rfl⟩
 · have HE:=hid (show(decide (0≤n) && decide (n≤1000000))=false from by simp[h1])
   have h1':decide (0≤n)=false:=decide_eq_false h1;rw[HE.out];go_enter Tryz.func15,Tryz.ntmps15
   go_wp2_with fail;go_ret;exact⟨rfl,rfl⟩
set_option maxRecDepth 100000 in
set_option maxHeartbeats 4000000 in
theorem rCheckClient_any (c:Cn) (v:Value) (w:World) (hv:LiesN w v c) (hs:SizedN c) (hpb: ∀e∈c.base,e.path.size≤1000000000) (hpm: ∀e∈c.mine,e.path.size≤1000000000):
    Calls Tryz.prog 5 #[v] w fun e w'=>e= .returned (.int .i64 (Cy.chE c))∧Below w.heap.size w w':=by
 obtain⟨vb,vm,va,rfl,hb,hm,ha⟩:=hv
 have HB:=hid hb;have HM:=hid hm;have HPB:=hid hpb;have HPM:=hid hpm;obtain⟨ab,cb,rfl,_⟩:=hb
 obtain⟨am,cm,rfl,_⟩:=hm
 obtain⟨aa,ca,rfl,_,hal,_⟩:=ha
 obtain⟨r,hr⟩: ∃r,r=Cy.chE c:=⟨_,rfl⟩
 rw[←hr];have HR:=hid hr;have hwho:=hs.who;have hfo:=hs.fo;have hkey:=hs.key;clear hr hs hpb hpm;obtain⟨wz,hwz⟩: ∃wz,wz=w.alloc (.cells #[.string c.who,.string c.fo,.slice ab c.base.length cb,.int .i64 c.cur,.slice am c.mine.length cm,.string c.key,.slice aa c.ask.length ca,.int .i64 c.keys] 25):=⟨_,rfl⟩
 have hbz:Below w.heap.size w wz:=by rw[hwz];exact(Below.refl _ _).alloc (Nat.le_refl _) _
 have HX:=hid (show Cs wz w.heap.size [.string c.who,.string c.fo,.slice ab c.base.length cb,.int .i64 c.cur,.slice am c.mine.length cm,.string c.key,.slice aa c.ask.length ca,.int .i64 c.keys]from by rw[hwz];exact Cs.new _ [.string c.who,.string c.fo,.slice ab c.base.length cb,.int .i64 c.cur,.slice am c.mine.length cm,.string c.key,.slice aa c.ask.length ca,.int .i64 c.keys] _);have bad: ∀{n:Int},Cy.cnE c.who c.fo=n→ ¬n=0→Hid (r=n):=fun h1 h2=>(by rw[HR.out,Cy.chE,if_pos (by rw[h1];exact h2),h1]:r=_)
 go_enter Tryz.func5,Tryz.ntmps5
 go_wp2_with fail;rw[←hwz];clear hwz;refine(rIsName_any c.who _ hwho).mono ?_
 rintro e w1 ⟨rfl,rfl⟩;have x0:=HX.out.cell 0 rfl;have x1:=HX.out.cell 1 rfl;cases n1:Pp.nameB c.who.data.toList with
 |false=>
  have HE:=bad (Cy.cn_name (fun h=>by rw[n1]at h;cases h.1)) (by decide);clear bad;go_wp2_with fail;go_ret;exact⟨by rw[HE.out];rfl,hbz⟩
 |true=>
  go_wp2_with fail;refine(rIsName_any c.fo _ hfo).mono ?_
  rintro e w1 ⟨rfl,rfl⟩;cases n2:Pp.nameB c.fo.data.toList with
  |false=>
   have HE:=bad (Cy.cn_name (fun h=>by rw[n2]at h;cases h.2)) (by decide);clear bad;go_wp2_with fail;go_ret;exact⟨by rw[HE.out];rfl,hbz⟩
  |true=>
   go_wp2_with fail;refine(isKey_any c.who _ (by unfold maxLen;omega)).mono ?_
   rintro e w1 ⟨rfl,rfl⟩;cases n3:Pp.keyB c.who.data.toList with
   |false=>
    have HE:=bad (Cy.cn_key n1 n2 n3) (by decide);clear bad;go_wp2_with fail;go_ret;exact⟨by rw[HE.out];rfl,hbz⟩
   |true=>
    by_cases n4:10<c.who.size
    · have HE:=bad (Cy.cn_long n1 n2 n4) (by decide)
      have n4':10<(c.who.size:Int):=by omega
      clear bad;go_wp2_with fail;go_ret;exact⟨by rw[HE.out];rfl,hbz⟩
    · have HN:=hid (Cy.cn_ok n1 n2 n3 n4)
      have n4':decide (10<(c.who.size:Int))=false:=decide_eq_false (by omega);clear bad;have x2:=HX.out.cell 2 rfl;go_wp2_with fail;refine(rCheckTree_any c.base _ _ (HB.out.below hbz) HPB.out).mono ?_
      rintro e w2 ⟨rfl,hb2⟩;have hb02:=below_tr hbz hb2;have HX2:=hid (HX.out.below hb2);clear x0 x1 x2 n1 n2 n3 n4 n4';by_cases hE:Pp.treeE c.base=0
      · have HE0:=hid hE
        rw[hE];clear hE;have x4:=HX2.out.cell 4 rfl;go_wp2_with fail;refine(rCheckTree_any c.mine _ _ (HM.out.below hb02) HPM.out).mono ?_
        rintro e w3 ⟨rfl,hb3⟩;have hb03:=below_tr hb02 hb3;have HX3:=hid (HX2.out.below hb3);clear x4;by_cases hF:Pp.treeE c.mine=0
        · have HRR:=hid (show r=if Cy.rgB c=true then 3 else Cy.caE c.key c.ask.length from by rw[HR.out,Cy.chE,if_neg (fun x=>x HN.out),if_neg (fun x=>x HE0.out),if_neg (fun x=>x hF)])
          rw[hF];clear hF;have x3:=HX3.out.cell 3 rfl;have x5:=HX3.out.cell 5 rfl;have x6:=HX3.out.cell 6 rfl;have x7:=HX3.out.cell 7 rfl;go_wp2_with fail;refine(isCursor_any c.cur _).mono ?_
          rintro e w4 ⟨rfl,rfl⟩;cases g1:(decide (0≤c.cur) && decide (c.cur≤1000000))with
          |false=>
           have HE:=hid (show r=3 from by rw[HRR.out,if_pos (Cy.rg_cur g1)]);go_wp2_with fail;go_ret;exact⟨by rw[HE.out];rfl,hb03⟩
          |true=>
           go_wp2_with fail;refine(isCursor_any c.keys _).mono ?_
           rintro e w4 ⟨rfl,rfl⟩;cases g2:(decide (0≤c.keys) && decide (c.keys≤1000000))with
           |false=>
            have HE:=hid (show r=3 from by rw[HRR.out,if_pos (Cy.rg_keys g2)]);go_wp2_with fail;go_ret;exact⟨by rw[HE.out];rfl,hb03⟩
           |true=>
            have HRC:=hid (show r=Cy.caE c.key c.ask.length from by rw[HRR.out,if_neg (by rw[Cy.rg_ok g1 g2];decide)]);clear HRR g1 g2;obtain⟨n,hn⟩: ∃n,n=c.ask.length:=⟨_,rfl⟩
            rw[←hn]at HRC x6;clear hn;by_cases k0:c.key.size=0
            · have ke:c.key=⟨#[]⟩:=by
               cases hck:c.key with
               |mk d=>rw[hck]at k0;have h:d.size=0:=k0;rw[Array.size_eq_zero_iff.1 h]
              by_cases n0:n=0
              · have HE:=hid (show r=0 from by rw[HRC.out,ke,n0];rfl)
                rw[ke]at x5;rw[n0]at x6;go_wp2_with fail;go_ret;exact⟨by rw[HE.out];rfl,hb03⟩
              · have HE:=hid (show r=4 from by rw[HRC.out,Cy.caE,if_neg (fun h=>h.1 k0),if_pos (by rw[decide_eq_true k0];simp[n0])])
                have n1:0<(n:Int):=by omega
                rw[ke]at x5;go_wp2_with fail;go_ret;exact⟨by rw[HE.out];rfl,hb03⟩
            · have kl: ¬c.key.toList=[]:=by
               rw[Lib.toList_data];intro e;have:c.key.data.toList.length=c.key.size:=Array.length_toList
               rw[e]at this;exact k0 this.symm
              have kb:(c.key.toList==([]:List UInt8))=false:=beq_eq_false_iff_ne.2 kl;have kb2:(c.key.toList==(⟨#[]⟩:ByteArray).toList)=false:=by rw[Lib.toList_data ⟨#[]⟩];exact kb
              have kb3:(c.key.toList !=(⟨#[]⟩:ByteArray).toList)=true:=by rw[bne,kb2];rfl
              go_wp2_with fail;refine(isKey_any c.key _ (by unfold maxLen;omega)).mono ?_
              rintro e w4 ⟨rfl,rfl⟩;cases hK:Pp.keyB c.key.data.toList with
              |false=>
               have HE:=hid (show r=1 from by rw[HRC.out,Cy.caE,if_pos ⟨k0,by rw[Pp.keyE_no hK];decide⟩]);go_wp2_with fail;go_ret;exact⟨by rw[HE.out];rfl,hb03⟩
              |true=>
               have hc: ¬(¬c.key.size=0∧ ¬Pp.keyE c.key.data.toList=0):=fun h=>h.2 (Pp.keyE_yes hK)
               by_cases n0:n=0
               · have HE:=hid (show r=4 from by rw[HRC.out,Cy.caE,if_neg hc,if_pos (by simp[k0,n0])])
                 rw[n0]at x6;clear hc;go_wp2_with fail;go_ret;exact⟨by rw[HE.out];rfl,hb03⟩
               · have n1:((n:Int)==0)=false:=by simpa using (by omega: ¬(n:Int)=0)
                 have hd: ¬decide (c.key.size=0)≠decide (n=0):=by simp[k0,n0]
                 by_cases h20:20<n
                 · have HE:=hid (show r=2 from by rw[HRC.out,Cy.caE,if_neg hc,if_neg hd,if_pos h20])
                   have h20':20<(n:Int):=by omega
                   clear hc hd n0;go_wp2_with fail;go_ret;exact⟨by rw[HE.out];rfl,hb03⟩
                 · have HE:=hid (show r=0 from by rw[HRC.out,Cy.caE,if_neg hc,if_neg hd,if_neg h20])
                   have h20': ¬20<(n:Int):=by omega
                   clear hc hd n0;go_wp2_with fail;go_ret;exact⟨by rw[HE.out];rfl,hb03⟩
        · have HE:=hid (show r=Pp.treeE c.mine from by rw[HR.out,Cy.chE,if_neg (fun x=>x HN.out),if_neg (fun x=>x HE0.out),if_pos hF])
          have hF':(Pp.treeE c.mine !=0)=true:=by simpa using hF
          generalize Pp.treeE c.mine=n at*;clear hF;go_wp2_with fail;go_ret;exact⟨by rw[HE.out];rfl,hb03⟩
      · have HE:=hid (show r=Pp.treeE c.base from by rw[HR.out,Cy.chE,if_neg (fun x=>x HN.out),if_pos hE])
        have hE':(Pp.treeE c.base !=0)=true:=by simpa using hE
        have hE2:(Pp.treeE c.base==0)=false:=by simpa using hE
        generalize Pp.treeE c.base=n at*;clear hE;go_wp2_with fail;go_ret;exact⟨by rw[HE.out];rfl,hb02⟩
end Go.Proofs.YtlllcifehellpaaGreatDoor
namespace Go.Proofs.YtlllcifehellpaaGreatDoor
open Go.RowKit

theorem key_no {k:ByteArray} (h: ¬k.size=0):(k.toList==(⟨#[]⟩:ByteArray).toList)=false∧(k.toList==([]:List UInt8))=false∧k.toList.isEmpty=false:=by
 have kl: ¬k.toList=[]:=by
  rw[Lib.toList_data];intro e;have:k.data.toList.length=k.size:=Array.length_toList
  rw[e]at this;exact h this.symm
 exact⟨by rw[Lib.toList_data ⟨#[]⟩];exact beq_eq_false_iff_ne.2 kl,beq_eq_false_iff_ne.2 kl,by simpa using kl⟩
theorem key_yes {k:ByteArray} (h:k.size=0):k=⟨#[]⟩:=by
 cases k with
 |mk d=>have h:d.size=0:=h;rw[Array.size_eq_zero_iff.1 h]
end Go.Proofs.YtlllcifehellpaaGreatDoor
