/- What client.Send answers where nothing is asked for yet. -/
import Derived.Test.YtlllcifehellpaaGreatDoorCKY
import Derived.Test.YtlllcifehellpaaGreatDoorCKM
import Derived.Test.YtlllcifehellpaaGreatDoorCKE
import Derived.Test.YtlllcifehellpaaGreatDoorCKB
import Derived.Test.YtlllcifehellpaaGreatDoorRows
import Derived.Deep.Slices
import Derived.Lib.SmallJoins
import Derived.Carry
set_option linter.unusedSimpArgs false
set_option linter.unusedVariables false
namespace Go.Proofs.YtlllcifehellpaaGreatDoor
open Go.RowKit

theorem key_emp {k:ByteArray} (h:k.size=0):(k.toList==(⟨#[]⟩:ByteArray).toList)=true∧(k.toList==([]:List UInt8))=true∧k.toList.isEmpty=true:=by
 rw[key_yes h];refine⟨?_,?_,?_⟩<;>rw[Lib.toList_data ⟨#[]⟩]<;>rfl
namespace Cy
theorem df_len {c:Cn} (h:chE c=0):(Sp.dfL c.base c.mine).length≤1000:=by
 obtain⟨h1,h2,_⟩:=ch_len h
 unfold Sp.dfL;split
 · rw[List.length_append,Sp.dels,Sp.mks,List.length_map,List.length_map]
   have a:=List.length_filter_le (Sp.goes c.mine) c.base;have b:=List.length_filter_le (Sp.newB c.base) c.mine;omega
 · simp
/-- The client that has asked for what it changed. -/
def nxt (num:ByteArray) (c:Cn):Cn:=⟨c.who,c.fo,c.base,c.cur,c.mine,c.who++⟨#[45]⟩++num,akL c,c.keys+1⟩
theorem nxt_key (num:ByteArray) (c:Cn): ¬(nxt num c).key.size=0:=by
 show¬(c.who++⟨#[45]⟩++num).size=0
 rw[ByteArray.size_append,ByteArray.size_append];have:(⟨#[45]⟩:ByteArray).size=1:=rfl
 omega
end Cy

theorem asking_next (c c':Cn) (ab am aa:Option Addr) (cb cm ca:Nat) (num:ByteArray) (hc':c'=Cy.nxt num c) (w:World) (hvb:Lies w (.slice ab c.base.length cb) c.base) (hvm:Lies w (.slice am c.mine.length cm) c.mine) (hva:LiesC w (.slice aa c.ask.length ca) c.ask) (hs:SizedN c) (hB:Pp.treeE c.base=0) (hM:Pp.treeE c.mine=0) (h0: ¬(Sp.dfL c.base c.mine).length=0) (hn:(Sp.dfL c.base c.mine).length≤1000) (hk:c.keys<1000000) (hk0:0≤c.keys) (hnum:num.size≤1000)
    (hI: ∀W,Below w.heap.size w W→Calls Tryz.prog 65 #[.int .i64 (c.keys+1)] W fun e w'=>e= .returned (.string num)∧Below W.heap.size W w'):
    Calls Tryz.prog 42 #[.agg #[.string c.who,.string c.fo,.slice ab c.base.length cb,.int .i64 c.cur,.slice am c.mine.length cm,.string c.key,.slice aa c.ask.length ca,.int .i64 c.keys]] w fun e w'=> ∃xa xc,e= .returned (.tuple #[.agg #[.string c'.who,.string c'.fo,.slice ab c'.base.length cb,.int .i64 c'.cur,.slice am c'.mine.length cm,.string c'.key,.slice xa c'.ask.length xc,.int .i64 c'.keys],.int .i64 0])∧LiesC w' (.slice xa c'.ask.length xc) c'.ask∧Own w.heap.size w' (.slice xa c'.ask.length xc)∧Below w.heap.size w w':=by
 subst hc';refine(asking_some c _ _ _ w hvb hvm hva hs hB hM h0 hn hk hk0 num hnum hI).mono ?_
 rintro e w' ⟨u,rfl,hl,ho,hb⟩;have HL:=hl;obtain⟨a,cap,rfl,_⟩:=hl
 exact⟨a,cap,rfl,HL,ho,hb⟩
namespace Cy
def rqOf (c:Cn):Rq:=⟨1,c.who,c.fo,⟨#[]⟩,c.key,⟨#[]⟩,0,0,0,c.ask⟩
theorem ak_len (c:Cn):(akL c).length≤20:=by rw[akL,List.length_map,List.length_take];omega
end Cy

set_option maxRecDepth 100000 in
set_option maxHeartbeats 8000000 in
theorem send_some (c:Cn) (v:Value) (w:World) (hv:LiesN w v c) (hs:SizedN c) (h0:Cy.chE c=0) (hk:c.key.size=0) (hn: ¬(Sp.dfL c.base c.mine).length=0) (hkk:c.keys<1000000) (num:ByteArray) (hnum:num.size≤1000)
    (hI: ∀W,Below w.heap.size w W→Calls Tryz.prog 65 #[.int .i64 (c.keys+1)] W fun e w'=>e= .returned (.string num)∧Below W.heap.size W w'):
    Calls Tryz.prog 20 #[v] w fun e w'=> ∃u q,e= .returned (.tuple #[u,q,.bool true,.int .i64 0])∧LiesN w' u (Cy.nxt num c)∧LiesQ w' q (Cy.rqOf (Cy.nxt num c))∧Below w.heap.size w w':=by
 have HNN:=hid hn;have HKK:=hid hkk;have HI:=hid hI;obtain⟨c',hc'⟩: ∃c',c'=Cy.nxt num c:=⟨_,rfl⟩
 rw[←hc'];have HC:=hid hc';have hln:c'.ask.length≤20:=by rw[hc'];exact Cy.ak_len c
 obtain⟨jb2,jb,jb3⟩:=key_no (k:=c'.key) (by rw[hc'];exact Cy.nxt_key num c)
 clear hn hkk hI hc';have H0:=hid h0;obtain⟨kb2,kb,kb3⟩:=key_emp hk
 have hparts:=Cy.ch_parts h0;have HTB:=hid hparts.2.1;have HTM:=hid hparts.2.2.1;have HDL:=hid (Cy.df_len h0)
 have hrg:0≤c.keys:=by
  have:=hparts.2.2.2.1
  simp[Cy.rgB]at this
  omega
 clear h0 hk hparts;have HV:=hid hv;have HS:=hid hs;obtain⟨vb,vm,va,rfl,lb,lm,la⟩:=hv
 obtain⟨ab,cb,rfl,_⟩:=lb
 obtain⟨am,cm,rfl,_⟩:=lm
 obtain⟨aa,ca,rfl,_⟩:=la
 clear hs;obtain⟨wz,hwz⟩: ∃wz,wz=((w.alloc (.cells #[.string c.who,.string c.fo,.slice ab c.base.length cb,.int .i64 c.cur,.slice am c.mine.length cm,.string c.key,.slice aa c.ask.length ca,.int .i64 c.keys] 25)).alloc (.cells #[.string ⟨#[]⟩,.string ⟨#[]⟩,.slice none 0 0,.int .i64 0,.slice none 0 0,.string ⟨#[]⟩,.slice none 0 0,.int .i64 0] 25)).alloc (.cells #[.int .i64 0,.string ⟨#[]⟩,.string ⟨#[]⟩,.string ⟨#[]⟩,.string ⟨#[]⟩,.string ⟨#[]⟩,.int .i64 0,.int .i64 0,.int .i64 0,.slice none 0 0] 55):=⟨_,rfl⟩
 obtain⟨wa,hwa⟩: ∃wa,wa=w.alloc (.cells #[.string c.who,.string c.fo,.slice ab c.base.length cb,.int .i64 c.cur,.slice am c.mine.length cm,.string c.key,.slice aa c.ask.length ca,.int .i64 c.keys] 25):=⟨_,rfl⟩
 obtain⟨wb,hwb⟩: ∃wb,wb=wa.alloc (.cells #[.string ⟨#[]⟩,.string ⟨#[]⟩,.slice none 0 0,.int .i64 0,.slice none 0 0,.string ⟨#[]⟩,.slice none 0 0,.int .i64 0] 25):=⟨_,rfl⟩
 have hwz2:wz=wb.alloc (.cells #[.int .i64 0,.string ⟨#[]⟩,.string ⟨#[]⟩,.string ⟨#[]⟩,.string ⟨#[]⟩,.string ⟨#[]⟩,.int .i64 0,.int .i64 0,.int .i64 0,.slice none 0 0] 55):=by rw[hwz,hwb,hwa]
 have sa:wa.heap.size=w.heap.size+1:=by rw[hwa];simp
 have sb:wb.heap.size=w.heap.size+1+1:=by rw[hwb];simp[sa]
 have bwa:Below w.heap.size w wa:=by rw[hwa];exact(Below.refl _ _).alloc (Nat.le_refl _) _
 have bwb:Below wa.heap.size wa wb:=by rw[hwb];exact(Below.refl _ _).alloc (Nat.le_refl _) _
 have bwz:Below wb.heap.size wb wz:=by rw[hwz2];exact(Below.refl _ _).alloc (Nat.le_refl _) _
 have hbz:Below w.heap.size w wz:=below_tr bwa (below_tr bwb bwz);have HX:Hid (Cs wz w.heap.size [.string c.who,.string c.fo,.slice ab c.base.length cb,.int .i64 c.cur,.slice am c.mine.length cm,.string c.key,.slice aa c.ask.length ca,.int .i64 c.keys]):=(((by rw[hwa];exact Cs.new w [.string c.who,.string c.fo,.slice ab c.base.length cb,.int .i64 c.cur,.slice am c.mine.length cm,.string c.key,.slice aa c.ask.length ca,.int .i64 c.keys] _:Cs wa w.heap.size [.string c.who,.string c.fo,.slice ab c.base.length cb,.int .i64 c.cur,.slice am c.mine.length cm,.string c.key,.slice aa c.ask.length ca,.int .i64 c.keys]).below bwb).below bwz:Cs wz w.heap.size _)
 have HY:=hid (show Cs wz (w.heap.size+1) zs from(by rw[←sa,hwb];exact Cs.new wa zs _:Cs wb (w.heap.size+1) zs).below bwz);have HQ:=hid (show Cs wz (w.heap.size+1+1) zq from by rw[←sb,hwz2];exact Cs.new wb zq _);have hNz:w.heap.size+1+1<wz.heap.size:=HQ.out.lt;have HWZ:=hid hwz;clear hwa hwb hwz hwz2 bwa bwb bwz sa sb;go_enter Tryz.func20,Tryz.ntmps20
 go_wp2_with fail;rw[←HWZ.out];clear HWZ;refine(checked_any c _ _ (HV.out.below hbz) HS.out).mono ?_
 rintro e w1 ⟨u1,rfl,hN1,hb1⟩;obtain⟨d,hd⟩: ∃d,d=Cy.ok c:=⟨_,rfl⟩
 rw[←hd]at hN1;have HD:=hid hd;clear hd;have hs1:=hb1.size;have HX1:=hid (HX.out.below hb1);have HY1:=hid (HY.out.below hb1);have HQ1:=hid (HQ.out.below hb1);have HN1:=hid hN1;obtain⟨vb,vm,va,rfl,⟨lb1,ob1⟩,⟨lm1,om1⟩,la1,oa1⟩:=hN1
 obtain⟨eb,fb,rfl,_⟩:=lb1
 obtain⟨em,fm,rfl,_⟩:=lm1
 obtain⟨ea,fa,rfl,_⟩:=la1
 clear ob1 om1 oa1;obtain⟨w2,hw2⟩: ∃w2,w2=((((((((w1.setCell ⟨w.heap.size,0,none⟩ (.string d.who)).setCell ⟨w.heap.size,1,none⟩ (.string d.fo)).setCell ⟨w.heap.size,2,none⟩ (.slice eb d.base.length fb)).setCell ⟨w.heap.size,3,none⟩ (.int .i64 d.cur)).setCell ⟨w.heap.size,4,none⟩ (.slice em d.mine.length fm)).setCell ⟨w.heap.size,5,none⟩ (.string d.key)).setCell ⟨w.heap.size,6,none⟩ (.slice ea d.ask.length fa)).setCell ⟨w.heap.size,7,none⟩ (.int .i64 d.keys)):=⟨_,rfl⟩
 have hg2:w1.grownBy w2 (some w.heap.size):=by rw[hw2];exact(grown_on (grown_on (grown_on (grown_on (grown_on (grown_on (grown_on (nb_set w1 (w.heap.size) 0 (.string d.who)) (nb_set _ (w.heap.size) 1 (.string d.fo))) (nb_set _ (w.heap.size) 2 (.slice eb d.base.length fb))) (nb_set _ (w.heap.size) 3 (.int .i64 d.cur))) (nb_set _ (w.heap.size) 4 (.slice em d.mine.length fm))) (nb_set _ (w.heap.size) 5 (.string d.key))) (nb_set _ (w.heap.size) 6 (.slice ea d.ask.length fa))) (nb_set _ (w.heap.size) 7 (.int .i64 d.keys)))
 have HX2:Hid (Cs w2 w.heap.size [.string d.who,.string d.fo,.slice eb d.base.length fb,.int .i64 d.cur,.slice em d.mine.length fm,.string d.key,.slice ea d.ask.length fa,.int .i64 d.keys]):=(by rw[hw2];exact((((((((HX1.out.set 0 (.string d.who)).set 1 (.string d.fo)).set 2 (.slice eb d.base.length fb)).set 3 (.int .i64 d.cur)).set 4 (.slice em d.mine.length fm)).set 5 (.string d.key)).set 6 (.slice ea d.ask.length fa)).set 7 (.int .i64 d.keys)):Cs w2 w.heap.size _)
 have HY2:=hid (HY1.out.nb hg2 (by omega));have HQ2:=hid (HQ1.out.nb hg2 (by omega));have HN2:=hid (HN1.out.nbo hg2 (by omega));have hb2:Below w.heap.size w w2:=by rw[hw2];exact(bs8 (b:=w.heap.size) (below_tr hbz hb1) (Nat.le_refl _))
 have hs2:=hg2.size;have p0:=HX1.out.cell 0 rfl;have f0:=HX1.out.fr 0;have p1:=HX1.out.cell 1 rfl;have f1:=HX1.out.fr 1;have p2:=HX1.out.cell 2 rfl;have f2:=HX1.out.fr 2;have p3:=HX1.out.cell 3 rfl;have f3:=HX1.out.fr 3;have p4:=HX1.out.cell 4 rfl;have f4:=HX1.out.fr 4;have p5:=HX1.out.cell 5 rfl;have f5:=HX1.out.fr 5;have p6:=HX1.out.cell 6 rfl;have f6:=HX1.out.fr 6;have p7:=HX1.out.cell 7 rfl;have f7:=HX1.out.fr 7;obtain rfl:d=c:=by rw[HD.out,Cy.ok_yes H0.out]
 rw[H0.out];go_upto_region 4 with fail;rw[←hw2];clear hw2;clear p0 f0 p1 f1 p2 f2 p3 f3 p4 f4 p5 f5 p6 f6 p7 f7;have x0:=HX2.out.cell 0 rfl;have x1:=HX2.out.cell 1 rfl;have x2:=HX2.out.cell 2 rfl;have x3:=HX2.out.cell 3 rfl;have x4:=HX2.out.cell 4 rfl;have x5:=HX2.out.cell 5 rfl;have x6:=HX2.out.cell 6 rfl;have x7:=HX2.out.cell 7 rfl;go_wp2_with fail;have HLB2:=hid (show(Lies w2 (.slice eb d.base.length fb) d.base∧Own wz.heap.size w2 (.slice eb d.base.length fb))∧(Lies w2 (.slice em d.mine.length fm) d.mine∧Own wz.heap.size w2 (.slice em d.mine.length fm))∧LiesC w2 (.slice ea d.ask.length fa) d.ask from by obtain⟨_,_,_,e,h1,h2,h3,_⟩:=HN2.out;injection e with e;simp only[Array.mk.injEq,List.cons.injEq]at e;obtain⟨_,_,e1,_,e2,_,e3,_⟩:=e;rw[e1,e2,e3];exact⟨h1,h2,h3⟩);refine(asking_next d c' _ _ _ _ _ _ num HC.out _ HLB2.out.1.1 HLB2.out.2.1.1 HLB2.out.2.2 HS.out HTB.out HTM.out HNN.out HDL.out HKK.out hrg hnum (fun W hW=>HI.out W (below_tr hb2 hW))).mono ?_
 rintro e w3 ⟨qa,qc,rfl,hl3,ho3,hb3⟩;clear x0 x1 x2 x3 x4 x5 x6 x7;have hs3:=hb3.size;have HX3:=hid (HX2.out.below hb3);have HY3:=hid (HY2.out.below hb3);have HQ3:=hid (HQ2.out.below hb3);have HCE:=hid (show c'.base=d.base∧c'.mine=d.mine from by rw[HC.out];exact⟨rfl,rfl⟩);have hvb:Value.slice eb c'.base.length fb= .slice eb d.base.length fb∧Value.slice em c'.mine.length fm= .slice em d.mine.length fm:=by rw[HCE.out.1,HCE.out.2];exact⟨rfl,rfl⟩
 have HN3:=hid (show OwnN wz.heap.size w3 (.agg #[.string c'.who,.string c'.fo,.slice eb c'.base.length fb,.int .i64 c'.cur,.slice em c'.mine.length fm,.string c'.key,.slice qa c'.ask.length qc,.int .i64 c'.keys]) c' from⟨_,_,_,rfl,by rw[hvb.1,HCE.out.1];exact⟨HLB2.out.1.1.below hb3,HLB2.out.1.2.below hb3⟩,by rw[hvb.2,HCE.out.2];exact⟨HLB2.out.2.1.1.below hb3,HLB2.out.2.1.2.below hb3⟩,hl3,ho3.mono (by omega)⟩);clear hl3 ho3 hvb;obtain⟨w4,hw4⟩: ∃w4,w4=((((((((w3.setCell ⟨w.heap.size,0,none⟩ (.string c'.who)).setCell ⟨w.heap.size,1,none⟩ (.string c'.fo)).setCell ⟨w.heap.size,2,none⟩ (.slice eb c'.base.length fb)).setCell ⟨w.heap.size,3,none⟩ (.int .i64 c'.cur)).setCell ⟨w.heap.size,4,none⟩ (.slice em c'.mine.length fm)).setCell ⟨w.heap.size,5,none⟩ (.string c'.key)).setCell ⟨w.heap.size,6,none⟩ (.slice qa c'.ask.length qc)).setCell ⟨w.heap.size,7,none⟩ (.int .i64 c'.keys)):=⟨_,rfl⟩
 have hg4:w3.grownBy w4 (some w.heap.size):=by rw[hw4];exact(grown_on (grown_on (grown_on (grown_on (grown_on (grown_on (grown_on (nb_set w3 (w.heap.size) 0 (.string c'.who)) (nb_set _ (w.heap.size) 1 (.string c'.fo))) (nb_set _ (w.heap.size) 2 (.slice eb c'.base.length fb))) (nb_set _ (w.heap.size) 3 (.int .i64 c'.cur))) (nb_set _ (w.heap.size) 4 (.slice em c'.mine.length fm))) (nb_set _ (w.heap.size) 5 (.string c'.key))) (nb_set _ (w.heap.size) 6 (.slice qa c'.ask.length qc))) (nb_set _ (w.heap.size) 7 (.int .i64 c'.keys)))
 have HX4:Hid (Cs w4 w.heap.size [.string c'.who,.string c'.fo,.slice eb c'.base.length fb,.int .i64 c'.cur,.slice em c'.mine.length fm,.string c'.key,.slice qa c'.ask.length qc,.int .i64 c'.keys]):=(by rw[hw4];exact((((((((HX3.out.set 0 (.string c'.who)).set 1 (.string c'.fo)).set 2 (.slice eb c'.base.length fb)).set 3 (.int .i64 c'.cur)).set 4 (.slice em c'.mine.length fm)).set 5 (.string c'.key)).set 6 (.slice qa c'.ask.length qc)).set 7 (.int .i64 c'.keys)):Cs w4 w.heap.size _)
 have HY4:=hid (HY3.out.nb hg4 (by omega));have HQ4:=hid (HQ3.out.nb hg4 (by omega));have HN4:=hid (HN3.out.nbo hg4 (by omega));have hb4:Below w.heap.size w w4:=by rw[hw4];exact(bs8 (b:=w.heap.size) (below_tr hb2 hb3) (Nat.le_refl _))
 have hs4:=hg4.size;have p0:=HX3.out.cell 0 rfl;have f0:=HX3.out.fr 0;have p1:=HX3.out.cell 1 rfl;have f1:=HX3.out.fr 1;have p2:=HX3.out.cell 2 rfl;have f2:=HX3.out.fr 2;have p3:=HX3.out.cell 3 rfl;have f3:=HX3.out.fr 3;have p4:=HX3.out.cell 4 rfl;have f4:=HX3.out.fr 4;have p5:=HX3.out.cell 5 rfl;have f5:=HX3.out.fr 5;have p6:=HX3.out.cell 6 rfl;have f6:=HX3.out.fr 6;have p7:=HX3.out.cell 7 rfl;have f7:=HX3.out.fr 7;go_upto_region 8 with fail;rw[←hw4];clear hw4;clear p0 f0 p1 f1 p2 f2 p3 f3 p4 f4 p5 f5 p6 f6 p7 f7;clear kb kb2 kb3;have hdr:Below w4.heap.size w4 w4.drew:=(Below.refl _ _).drew;have hda:Below w4.heap.size w4 (w4.alloc (.cells #[.int .i64 0,.string ⟨#[]⟩,.string ⟨#[]⟩,.string ⟨#[]⟩,.string ⟨#[]⟩,.string ⟨#[]⟩,.int .i64 0,.int .i64 0,.int .i64 0,.slice none 0 0] 55)).drew:=((Below.refl _ _).alloc (Nat.le_refl _) _).drew;have HLA:=hid (show LiesC w4 (.slice qa c'.ask.length qc) c'.ask from by obtain⟨_,_,_,e,_,_,h,_⟩:=HN4.out;injection e with e;simp only[Array.mk.injEq,List.cons.injEq]at e;obtain⟨_,_,_,_,_,_,e,_⟩:=e;rw[e];exact h);have x0:=HX4.out.cell 0 rfl;have x1:=HX4.out.cell 1 rfl;have x5:=HX4.out.cell 5 rfl;have x6:=HX4.out.cell 6 rfl;have hltx:w.heap.size<w4.heap.size:=HX4.out.lt;have hltq:w.heap.size+1+1<w4.heap.size:=HQ4.out.lt;have hnx: ¬w.heap.size=w4.heap.size:=by omega
 go_upto_region 10 with fail;go_cut [1,2,3,7] (fun a b q p W=>a= .pointer (some ⟨w.heap.size,0,none⟩)∧b= .pointer (some ⟨w.heap.size+1,0,none⟩)∧q= .pointer (some ⟨w.heap.size+1+1,0,none⟩)∧ ∃g xa ya,p= .pointer (some ⟨g,0,none⟩)∧w4.heap.size≤g∧Hid (Cs W g [.int .i64 1,.string c'.who,.string c'.fo,.string ⟨#[]⟩,.string c'.key,.string ⟨#[]⟩,.int .i64 0,.int .i64 0,.int .i64 0,.slice xa c'.ask.length ya])∧Hid (LiesC W (.slice xa c'.ask.length ya) c'.ask∧Own w4.heap.size W (.slice xa c'.ask.length ya))∧Below w4.heap.size w4 W)
 case first=>
  go_region_held3 (fun W=>W.cell? ⟨w.heap.size,0,none⟩=some (.string c'.who)∧W.cell? ⟨w.heap.size,1,none⟩=some (.string c'.fo)∧W.cell? ⟨w.heap.size,5,none⟩=some (.string c'.key)∧W.cell? ⟨w.heap.size,6,none⟩=some (.slice qa c'.ask.length qc)) (first|go_keep|(have hx:=((HX4.out.below hb23).nb (grown_on (grown_on (grown_on (grown_on (grown_on (grown_on (grown_on (grown_on (grown_on (nb_set w3 (w4.heap.size) 0 (.int .i64 1)) (nb_set _ (w4.heap.size) 1 (.string c'.who))) (nb_set _ (w4.heap.size) 2 (.string c'.fo))) (nb_set _ (w4.heap.size) 3 (.string ⟨#[]⟩))) (nb_set _ (w4.heap.size) 4 (.string c'.key))) (nb_set _ (w4.heap.size) 5 (.string ⟨#[]⟩))) (nb_set _ (w4.heap.size) 6 (.int .i64 0))) (nb_set _ (w4.heap.size) 7 (.int .i64 0))) (nb_set _ (w4.heap.size) 8 (.int .i64 0))) (nb_set _ (w4.heap.size) 9 (.slice ya c'.ask.length yc))) (by omega));exact⟨hx.cell 0 rfl,hx.cell 1 rfl,hx.cell 5 rfl,hx.cell 6 rfl⟩)) (first
   |(go_at_call 43;refine(cloneC (c'.ask.map Pp.chC) _ _ (liesR_ch.1 (HLA.out.below hdr)) (by simp;omega)).mono ?_;rintro e w3 ⟨u3,rfl,hR3,hO3,hb3⟩;have hb23:=below_tr hdr hb3;have HL3:=hid (liesR_ch.2 hR3);have HO3:=hid hO3;obtain⟨ya,yc,rfl,_⟩:=HL3.out;have q0:=(HX4.out.below hb23).cell 0 rfl;have q1:=(HX4.out.below hb23).cell 1 rfl;have q5:=(HX4.out.below hb23).cell 5 rfl;have q6:=(HX4.out.below hb23).cell 6 rfl)
   |(go_at_call 43;refine(cloneC (c'.ask.map Pp.chC) _ _ (liesR_ch.1 (HLA.out.below hda)) (by simp;omega)).mono ?_;rintro e w3 ⟨u3,rfl,hR3,hO3,hb3⟩;have hb23:=below_tr hda hb3;have HL3:=hid (liesR_ch.2 hR3);have HO3:=hid hO3;obtain⟨ya,yc,rfl,_⟩:=HL3.out;have q0:=(HX4.out.below hb23).cell 0 rfl;have q1:=(HX4.out.below hb23).cell 1 rfl;have q5:=(HX4.out.below hb23).cell 5 rfl;have q6:=(HX4.out.below hb23).cell 6 rfl;have HZ:=hid (((Cs.new w4 [.int .i64 0,.string ⟨#[]⟩,.string ⟨#[]⟩,.string ⟨#[]⟩,.string ⟨#[]⟩,.string ⟨#[]⟩,.int .i64 0,.int .i64 0,.int .i64 0,.slice none 0 0] 55).below ((Below.refl _ _).drew)).below hb3);have d0:=HZ.out.cell 0 rfl;have d1:=HZ.out.cell 1 rfl;have d2:=HZ.out.cell 2 rfl;have d3:=HZ.out.cell 3 rfl;have d4:=HZ.out.cell 4 rfl;have d5:=HZ.out.cell 5 rfl;have d6:=HZ.out.cell 6 rfl;have d7:=HZ.out.cell 7 rfl;have d8:=HZ.out.cell 8 rfl;have d9:=HZ.out.cell 9 rfl;have r0:=HZ.out.fr 0;have r1:=HZ.out.fr 1;have r2:=HZ.out.fr 2;have r3:=HZ.out.fr 3;have r4:=HZ.out.fr 4;have r5:=HZ.out.fr 5;have r6:=HZ.out.fr 6;have r7:=HZ.out.fr 7;have r8:=HZ.out.fr 8;have r9:=HZ.out.fr 9))
  all_goals
   go_wp2_with fail;go_meet
   case rel=>first
    |exact⟨rfl,rfl,rfl,w4.heap.size,ya,yc,rfl,Nat.le_refl _,((((((((((HZ.out.set 0 (.int .i64 1)).set 1 (.string c'.who)).set 2 (.string c'.fo)).set 3 (.string ⟨#[]⟩)).set 4 (.string c'.key)).set 5 (.string ⟨#[]⟩)).set 6 (.int .i64 0)).set 7 (.int .i64 0)).set 8 (.int .i64 0)).set 9 (.slice ya c'.ask.length yc)),⟨HL3.out.nbo (grown_on (grown_on (grown_on (grown_on (grown_on (grown_on (grown_on (grown_on (grown_on (nb_set w3 (w4.heap.size) 0 (.int .i64 1)) (nb_set _ (w4.heap.size) 1 (.string c'.who))) (nb_set _ (w4.heap.size) 2 (.string c'.fo))) (nb_set _ (w4.heap.size) 3 (.string ⟨#[]⟩))) (nb_set _ (w4.heap.size) 4 (.string c'.key))) (nb_set _ (w4.heap.size) 5 (.string ⟨#[]⟩))) (nb_set _ (w4.heap.size) 6 (.int .i64 0))) (nb_set _ (w4.heap.size) 7 (.int .i64 0))) (nb_set _ (w4.heap.size) 8 (.int .i64 0))) (nb_set _ (w4.heap.size) 9 (.slice ya c'.ask.length yc))) (fun b hb=>by have:=(HO3.out b hb).1;simp at this;omega),(HO3.out.nb (grown_on (grown_on (grown_on (grown_on (grown_on (grown_on (grown_on (grown_on (grown_on (nb_set w3 (w4.heap.size) 0 (.int .i64 1)) (nb_set _ (w4.heap.size) 1 (.string c'.who))) (nb_set _ (w4.heap.size) 2 (.string c'.fo))) (nb_set _ (w4.heap.size) 3 (.string ⟨#[]⟩))) (nb_set _ (w4.heap.size) 4 (.string c'.key))) (nb_set _ (w4.heap.size) 5 (.string ⟨#[]⟩))) (nb_set _ (w4.heap.size) 6 (.int .i64 0))) (nb_set _ (w4.heap.size) 7 (.int .i64 0))) (nb_set _ (w4.heap.size) 8 (.int .i64 0))) (nb_set _ (w4.heap.size) 9 (.slice ya c'.ask.length yc))) (fun b hb=>by have:=(HO3.out b hb).1;simp at this;omega)).mono (by simp)⟩,(bs10 (b:=w4.heap.size) hb23 (Nat.le_refl _))⟩
    |exact⟨rfl,rfl,rfl,_,ya,yc,rfl,hb23.size,Cs.new w3 [.int .i64 1,.string c'.who,.string c'.fo,.string ⟨#[]⟩,.string c'.key,.string ⟨#[]⟩,.int .i64 0,.int .i64 0,.int .i64 0,.slice ya c'.ask.length yc] _,⟨HL3.out.below ((Below.refl _ _).alloc (Nat.le_refl _) _),(HO3.out.below ((Below.refl _ _).alloc (Nat.le_refl _) _)).mono (by simp)⟩,hb23.alloc hb23.size _⟩
 case rest=>
  obtain⟨rfl,rfl,rfl,g,xa,ya,rfl,hg,HG,HLQ,hbx⟩:=hcut
  have HXr:=hid (HX4.out.below hbx);have HYr:=hid (HY4.out.below hbx);have HQr:=hid (HQ4.out.below hbx);have HNr:=hid (HN4.out.below hbx);have hgl:=HG.out.lt;have hsx:=hbx.size;clear x0 x1 x5 x6 hdr hda HLA HX4 HY4 HQ4 HN4;have n1: ¬w.heap.size=w.heap.size+1:=by omega
  have n2: ¬w.heap.size=w.heap.size+1+1:=by omega
  have n3: ¬w.heap.size+1=w.heap.size+1+1:=by omega
  have n4: ¬g=w.heap.size+1:=by omega
  have n5: ¬g=w.heap.size+1+1:=by omega
  have n6: ¬w.heap.size+1=g:=by omega
  have n7: ¬w.heap.size+1+1=g:=by omega
  have n8: ¬w.heap.size+1+1=w.heap.size:=by omega
  have n9: ¬w.heap.size+1+1=w.heap.size+1:=by omega
  have p0:=HXr.out.cell 0 rfl;have p1:=HXr.out.cell 1 rfl;have p2:=HXr.out.cell 2 rfl;have p3:=HXr.out.cell 3 rfl;have p4:=HXr.out.cell 4 rfl;have p5:=HXr.out.cell 5 rfl;have p6:=HXr.out.cell 6 rfl;have p7:=HXr.out.cell 7 rfl;have m0:=HG.out.cell 0 rfl;have m1:=HG.out.cell 1 rfl;have m2:=HG.out.cell 2 rfl;have m3:=HG.out.cell 3 rfl;have m4:=HG.out.cell 4 rfl;have m5:=HG.out.cell 5 rfl;have m6:=HG.out.cell 6 rfl;have m7:=HG.out.cell 7 rfl;have m8:=HG.out.cell 8 rfl;have m9:=HG.out.cell 9 rfl;have y0:=HYr.out.cell 0 rfl;have g0:=HYr.out.fr 0;have y1:=HYr.out.cell 1 rfl;have g1:=HYr.out.fr 1;have y2:=HYr.out.cell 2 rfl;have g2:=HYr.out.fr 2;have y3:=HYr.out.cell 3 rfl;have g3:=HYr.out.fr 3;have y4:=HYr.out.cell 4 rfl;have g4:=HYr.out.fr 4;have y5:=HYr.out.cell 5 rfl;have g5:=HYr.out.fr 5;have y6:=HYr.out.cell 6 rfl;have g6:=HYr.out.fr 6;have y7:=HYr.out.cell 7 rfl;have g7:=HYr.out.fr 7;have z0:=HQr.out.cell 0 rfl;have k0:=HQr.out.fr 0;have z1:=HQr.out.cell 1 rfl;have k1:=HQr.out.fr 1;have z2:=HQr.out.cell 2 rfl;have k2:=HQr.out.fr 2;have z3:=HQr.out.cell 3 rfl;have k3:=HQr.out.fr 3;have z4:=HQr.out.cell 4 rfl;have k4:=HQr.out.fr 4;have z5:=HQr.out.cell 5 rfl;have k5:=HQr.out.fr 5;have z6:=HQr.out.cell 6 rfl;have k6:=HQr.out.fr 6;have z7:=HQr.out.cell 7 rfl;have k7:=HQr.out.fr 7;have z8:=HQr.out.cell 8 rfl;have k8:=HQr.out.fr 8;have z9:=HQr.out.cell 9 rfl;have k9:=HQr.out.fr 9;go_upto_region 11 with fail;go_region_held3 (fun W=>W.cell? ⟨w.heap.size,0,none⟩=some (.string c'.who)∧W.cell? ⟨w.heap.size,1,none⟩=some (.string c'.fo)∧W.cell? ⟨w.heap.size,2,none⟩=some (.slice eb c'.base.length fb)∧W.cell? ⟨w.heap.size,3,none⟩=some (.int .i64 c'.cur)∧W.cell? ⟨w.heap.size,4,none⟩=some (.slice em c'.mine.length fm)∧W.cell? ⟨w.heap.size,5,none⟩=some (.string c'.key)∧W.cell? ⟨w.heap.size,6,none⟩=some (.slice qa c'.ask.length qc)∧W.cell? ⟨w.heap.size,7,none⟩=some (.int .i64 c'.keys)∧W.cell? ⟨g,0,none⟩=some (.int .i64 1)∧W.cell? ⟨g,1,none⟩=some (.string c'.who)∧W.cell? ⟨g,2,none⟩=some (.string c'.fo)∧W.cell? ⟨g,3,none⟩=some (.string ⟨#[]⟩)∧W.cell? ⟨g,4,none⟩=some (.string c'.key)∧W.cell? ⟨g,5,none⟩=some (.string ⟨#[]⟩)∧W.cell? ⟨g,6,none⟩=some (.int .i64 0)∧W.cell? ⟨g,7,none⟩=some (.int .i64 0)∧W.cell? ⟨g,8,none⟩=some (.int .i64 0)∧W.cell? ⟨g,9,none⟩=some (.slice xa c'.ask.length ya)) (go_keep) (fail)
  all_goals
   go_wp2_with fail;refine bodyPost_ret (v:= .tuple #[.agg #[.string c'.who,.string c'.fo,.slice eb c'.base.length fb,.int .i64 c'.cur,.slice em c'.mine.length fm,.string c'.key,.slice qa c'.ask.length qc,.int .i64 c'.keys],.agg #[.int .i64 1,.string c'.who,.string c'.fo,.string ⟨#[]⟩,.string c'.key,.string ⟨#[]⟩,.int .i64 0,.int .i64 0,.int .i64 0,.slice xa c'.ask.length ya],.bool true,.int .i64 0]) (by simp[results,Tryz.results20,go_sem,y0,y1,y2,y3,y4,y5,y6,y7,z0,z1,z2,z3,z4,z5,z6,z7,z8,z9]) rfl ⟨_,_,rfl,?_,?_,?_⟩
   · exact(((HNr.out.nbo (grown_on (grown_on (grown_on (grown_on (grown_on (grown_on (grown_on (nb_set wc (w.heap.size+1) 0 (.string c'.who)) (nb_set _ (w.heap.size+1) 1 (.string c'.fo))) (nb_set _ (w.heap.size+1) 2 (.slice eb c'.base.length fb))) (nb_set _ (w.heap.size+1) 3 (.int .i64 c'.cur))) (nb_set _ (w.heap.size+1) 4 (.slice em c'.mine.length fm))) (nb_set _ (w.heap.size+1) 5 (.string c'.key))) (nb_set _ (w.heap.size+1) 6 (.slice qa c'.ask.length qc))) (nb_set _ (w.heap.size+1) 7 (.int .i64 c'.keys))) (by omega)).nbo (grown_on (grown_on (grown_on (grown_on (grown_on (grown_on (grown_on (grown_on (grown_on (nb_set _ (w.heap.size+1+1) 0 (.int .i64 1)) (nb_set _ (w.heap.size+1+1) 1 (.string c'.who))) (nb_set _ (w.heap.size+1+1) 2 (.string c'.fo))) (nb_set _ (w.heap.size+1+1) 3 (.string ⟨#[]⟩))) (nb_set _ (w.heap.size+1+1) 4 (.string c'.key))) (nb_set _ (w.heap.size+1+1) 5 (.string ⟨#[]⟩))) (nb_set _ (w.heap.size+1+1) 6 (.int .i64 0))) (nb_set _ (w.heap.size+1+1) 7 (.int .i64 0))) (nb_set _ (w.heap.size+1+1) 8 (.int .i64 0))) (nb_set _ (w.heap.size+1+1) 9 (.slice xa c'.ask.length ya))) (by omega)).below ((Below.refl _ _).drew)).lies
   · exact⟨_,rfl,((HLQ.out.1.nbo (grown_on (grown_on (grown_on (grown_on (grown_on (grown_on (grown_on (nb_set wc (w.heap.size+1) 0 (.string c'.who)) (nb_set _ (w.heap.size+1) 1 (.string c'.fo))) (nb_set _ (w.heap.size+1) 2 (.slice eb c'.base.length fb))) (nb_set _ (w.heap.size+1) 3 (.int .i64 c'.cur))) (nb_set _ (w.heap.size+1) 4 (.slice em c'.mine.length fm))) (nb_set _ (w.heap.size+1) 5 (.string c'.key))) (nb_set _ (w.heap.size+1) 6 (.slice qa c'.ask.length qc))) (nb_set _ (w.heap.size+1) 7 (.int .i64 c'.keys))) (fun b hb=>by have:=(HLQ.out.2 b hb).1;omega)).nbo (grown_on (grown_on (grown_on (grown_on (grown_on (grown_on (grown_on (grown_on (grown_on (nb_set _ (w.heap.size+1+1) 0 (.int .i64 1)) (nb_set _ (w.heap.size+1+1) 1 (.string c'.who))) (nb_set _ (w.heap.size+1+1) 2 (.string c'.fo))) (nb_set _ (w.heap.size+1+1) 3 (.string ⟨#[]⟩))) (nb_set _ (w.heap.size+1+1) 4 (.string c'.key))) (nb_set _ (w.heap.size+1+1) 5 (.string ⟨#[]⟩))) (nb_set _ (w.heap.size+1+1) 6 (.int .i64 0))) (nb_set _ (w.heap.size+1+1) 7 (.int .i64 0))) (nb_set _ (w.heap.size+1+1) 8 (.int .i64 0))) (nb_set _ (w.heap.size+1+1) 9 (.slice xa c'.ask.length ya))) (fun b hb=>by have:=(HLQ.out.2 b hb).1;omega)).below ((Below.refl _ _).drew)⟩
   · exact(bs10 (b:=w.heap.size+1+1) (bs8 (b:=w.heap.size+1) (below_tr hb4 hbx) (Nat.le_succ _)) (by show _≤w.heap.size+1+1;omega)).drew
end Go.Proofs.YtlllcifehellpaaGreatDoor
namespace Go.Proofs.YtlllcifehellpaaGreatDoor
open Go.RowKit

namespace Cy
def b0:Cn:=newN ⟨#[97]⟩ ⟨#[102]⟩
def bx:Pp.Ch:=⟨2,⟨#[120]⟩,⟨#[]⟩,⟨#[49]⟩,-1⟩
def b1:Cn:=⟨⟨#[97]⟩,⟨#[102]⟩,[],0,[⟨⟨#[120]⟩,false,⟨#[49]⟩,1⟩],⟨#[]⟩,[],0⟩
def b2:Cn:=⟨⟨#[97]⟩,⟨#[102]⟩,[],0,[⟨⟨#[120]⟩,false,⟨#[49]⟩,1⟩],⟨#[97,45,49]⟩,[⟨2,⟨#[120]⟩,⟨#[]⟩,⟨#[49]⟩,0⟩],1⟩
theorem b0_ok:chE b0=0:=by decide
theorem ed_ok:edE b0 bx=0:=by decide
theorem ed_is:edR b0 bx=b1:=by rw[edR,if_pos ed_ok];rfl
theorem b1_ok:chE b1=0:=by decide
theorem b1_df:(Sp.dfL b1.base b1.mine).length=1:=by rfl
theorem b1_nx:nxt ⟨#[49]⟩ b1=b2:=by rfl
theorem b0_sz:SizedN b0:=sizedN_new (by decide) (by decide)
theorem b1_sz:SizedN b1:=⟨by decide,by decide,by decide,(fun e he=>(by cases he)),(fun e he=>by
 have:e=⟨⟨#[120]⟩,false,⟨#[49]⟩,1⟩:=by simpa[b1]using he
 subst this;exact⟨by decide,by decide⟩)⟩
end Cy

set_option maxRecDepth 100000 in
set_option maxHeartbeats 8000000 in
theorem clientBegun_yes (w:World):Calls Tryz.prog 7 #[] w fun e w'=>e= .returned (.bool true)∧Below w.heap.size w w':=by
 go_enter Tryz.func7,Tryz.ntmps7
 go_wp2_with fail;refine(cnew_any ⟨#[97]⟩ ⟨#[102]⟩ _ (by decide) (by decide)).mono ?_
 rintro e w1 ⟨u1,rfl,hN1,hb1⟩;rw[show Cy.chE (newN ⟨#[97]⟩ ⟨#[102]⟩)=0 from Cy.b0_ok];rw[show Cy.ok (newN ⟨#[97]⟩ ⟨#[102]⟩)=Cy.b0 from Cy.ok_yes Cy.b0_ok]at hN1;obtain⟨d,hd⟩: ∃d,d=Cy.b0:=⟨_,rfl⟩
 rw[←hd]at hN1;have HD:=hid hd;clear hd;have HN1:=hid hN1.lies;obtain⟨vb,vm,va,rfl,⟨lb1,_⟩,⟨lm1,_⟩,la1,_⟩:=hN1
 obtain⟨eb,fb,rfl,_⟩:=lb1
 obtain⟨em,fm,rfl,_⟩:=lm1
 obtain⟨ea,fa,rfl,_⟩:=la1
 obtain⟨wa,hwa⟩: ∃wa,wa=w1.alloc (.cells #[.string d.who,.string d.fo,.slice eb d.base.length fb,.int .i64 d.cur,.slice em d.mine.length fm,.string d.key,.slice ea d.ask.length fa,.int .i64 d.keys] 25):=⟨_,rfl⟩
 have bwa:Below w1.heap.size w1 wa:=by rw[hwa];exact(Below.refl _ _).alloc (Nat.le_refl _) _
 have HA:=hid (show Cs wa w1.heap.size [.string d.who,.string d.fo,.slice eb d.base.length fb,.int .i64 d.cur,.slice em d.mine.length fm,.string d.key,.slice ea d.ask.length fa,.int .i64 d.keys]from by rw[hwa];exact Cs.new w1 [.string d.who,.string d.fo,.slice eb d.base.length fb,.int .i64 d.cur,.slice em d.mine.length fm,.string d.key,.slice ea d.ask.length fa,.int .i64 d.keys] _);have hb0a:=below_tr hb1 bwa;go_wp2_with fail;rw[←hwa];clear hwa;refine(edit_any d Cy.bx _ _ (HN1.out.below bwa) (by rw[HD.out];exact Cy.b0_sz) (by decide) (by decide) (by decide)).mono ?_
 rintro e w2 ⟨u2,rfl,hN2,hb2⟩;rw[show Cy.edE d Cy.bx=0 from by rw[HD.out];exact Cy.ed_ok];rw[show Cy.edR d Cy.bx=Cy.b1 from by rw[HD.out];exact Cy.ed_is]at hN2;obtain⟨c,hc⟩: ∃c,c=Cy.b1:=⟨_,rfl⟩
 rw[←hc]at hN2;have HC:=hid hc;clear hc;have HN2:=hid hN2;have hs2:=hb2.size;have hl2:=HA.out.lt;obtain⟨vb,vm,va,rfl,lb1,lm1,la1⟩:=hN2
 have HLB:=hid lb1;have HLM:=hid lm1;have HLC:=hid la1;obtain⟨ab,gb,rfl,_⟩:=lb1
 obtain⟨am,gm,rfl,_⟩:=lm1
 obtain⟨aa,ga,rfl,_⟩:=la1
 have HA2:=hid (HA.out.below hb2);obtain⟨w3,hw3⟩: ∃w3,w3=((((((((w2.setCell ⟨w1.heap.size,0,none⟩ (.string c.who)).setCell ⟨w1.heap.size,1,none⟩ (.string c.fo)).setCell ⟨w1.heap.size,2,none⟩ (.slice ab c.base.length gb)).setCell ⟨w1.heap.size,3,none⟩ (.int .i64 c.cur)).setCell ⟨w1.heap.size,4,none⟩ (.slice am c.mine.length gm)).setCell ⟨w1.heap.size,5,none⟩ (.string c.key)).setCell ⟨w1.heap.size,6,none⟩ (.slice aa c.ask.length ga)).setCell ⟨w1.heap.size,7,none⟩ (.int .i64 c.keys)):=⟨_,rfl⟩
 have hg3:w2.grownBy w3 (some w1.heap.size):=by rw[hw3];exact(grown_on (grown_on (grown_on (grown_on (grown_on (grown_on (grown_on (nb_set w2 (w1.heap.size) 0 (.string c.who)) (nb_set _ (w1.heap.size) 1 (.string c.fo))) (nb_set _ (w1.heap.size) 2 (.slice ab c.base.length gb))) (nb_set _ (w1.heap.size) 3 (.int .i64 c.cur))) (nb_set _ (w1.heap.size) 4 (.slice am c.mine.length gm))) (nb_set _ (w1.heap.size) 5 (.string c.key))) (nb_set _ (w1.heap.size) 6 (.slice aa c.ask.length ga))) (nb_set _ (w1.heap.size) 7 (.int .i64 c.keys)))
 have HA3:Hid (Cs w3 w1.heap.size [.string c.who,.string c.fo,.slice ab c.base.length gb,.int .i64 c.cur,.slice am c.mine.length gm,.string c.key,.slice aa c.ask.length ga,.int .i64 c.keys]):=(by rw[hw3];exact((((((((HA2.out.set 0 (.string c.who)).set 1 (.string c.fo)).set 2 (.slice ab c.base.length gb)).set 3 (.int .i64 c.cur)).set 4 (.slice am c.mine.length gm)).set 5 (.string c.key)).set 6 (.slice aa c.ask.length ga)).set 7 (.int .i64 c.keys)):Cs w3 w1.heap.size _)
 have hb3:Below w.heap.size w w3:=by rw[hw3];exact(bs8 (b:=w1.heap.size) (below_tr hb0a hb2) (hb1.size))
 have HN3:=hid (show LiesN w3 (.agg #[.string c.who,.string c.fo,.slice ab c.base.length gb,.int .i64 c.cur,.slice am c.mine.length gm,.string c.key,.slice aa c.ask.length ga,.int .i64 c.keys]) c from⟨_,_,_,rfl,HLB.out.offbox HA2.out (fun z hz=>by simp at hz) hg3,HLM.out.offbox HA2.out (fun z hz=>by simp at hz) hg3,(by have h:=HLC.out;rw[HC.out]at h⊢;obtain⟨a,cap,e,h1,h2,_⟩:=h;exact⟨a,cap,e,h1,h2,fun i hi=>absurd hi (by simp[Cy.b1])⟩)⟩);have p0:=HA2.out.cell 0 rfl;have f0:=HA2.out.fr 0;have p1:=HA2.out.cell 1 rfl;have f1:=HA2.out.fr 1;have p2:=HA2.out.cell 2 rfl;have f2:=HA2.out.fr 2;have p3:=HA2.out.cell 3 rfl;have f3:=HA2.out.fr 3;have p4:=HA2.out.cell 4 rfl;have f4:=HA2.out.fr 4;have p5:=HA2.out.cell 5 rfl;have f5:=HA2.out.fr 5;have p6:=HA2.out.cell 6 rfl;have f6:=HA2.out.fr 6;have p7:=HA2.out.cell 7 rfl;have f7:=HA2.out.fr 7;go_wp2_with fail;rw[←hw3];clear hw3;clear p0 f0 p1 f1 p2 f2 p3 f3 p4 f4 p5 f5 p6 f6 p7 f7
 refine(send_some c _ _ HN3.out (by rw[HC.out];exact Cy.b1_sz) (by rw[HC.out];exact Cy.b1_ok) (by rw[HC.out];rfl) (by rw[HC.out,Cy.b1_df];decide) (by rw[HC.out];decide) ⟨#[49]⟩ (by decide) (fun W hW=>by
  rw[HC.out];refine(Tryz.strconv_Itoa_small 1 (by omega) W).mono ?_
  rintro e w' ⟨rfl,rfl⟩;exact⟨by rw[Lib.decDigits,dif_pos (by decide)];rfl,Below.refl _ _⟩)).mono ?_
 rintro e w4 ⟨u4,q4,rfl,hN4,hQ4,hb4⟩;have hb04:=below_tr hb3 hb4;rw[HC.out,Cy.b1_nx]at hQ4;obtain⟨d4,hd4⟩: ∃d4,d4=Cy.nxt ⟨#[49]⟩ c:=⟨_,rfl⟩
 rw[←hd4]at hN4;clear hd4;obtain⟨vb,vm,va,rfl,l1,l2,l3⟩:=hN4
 obtain⟨ub,ib,rfl,_⟩:=l1
 obtain⟨um,im,rfl,_⟩:=l2
 obtain⟨uu,iu,rfl,_⟩:=l3
 obtain⟨vq,hq,hla⟩:=hQ4
 have hq':q4= .agg #[.int .i64 1,.string ⟨#[97]⟩,.string ⟨#[102]⟩,.string ⟨#[]⟩,.string ⟨#[97,45,49]⟩,.string ⟨#[]⟩,.int .i64 0,.int .i64 0,.int .i64 0,vq]:=hq;subst hq';have hla':LiesC w4 vq [⟨2,⟨#[120]⟩,⟨#[]⟩,⟨#[49]⟩,0⟩]:=hla;obtain⟨aq,cq,rfl,hc1,hc2,hc3⟩:=hla'
 obtain⟨bq,oq,rfl,hbq,hat⟩:=hc3 0 (by decide)
 have t4:w4.cell? ⟨bq,oq+4,none⟩=some (.int .i64 0):=by simpa using hat.2.2.2.2
 have hbn: ¬bq=w4.heap.size:=by omega
 have hbn1: ¬bq=w4.heap.size+1:=by omega
 have hbl1:bq<w4.heap.size+1:=by omega
 clear hq hla hc3 hat hc1 hc2;go_wp2_with fail;go_ret;exact⟨rfl,(hb04.alloc hb04.size _).alloc (by have:=hb04.size;simp;omega) _⟩
end Go.Proofs.YtlllcifehellpaaGreatDoor
namespace Go.Proofs.YtlllcifehellpaaGreatDoor
open Go.RowKit Go.Maps

set_option maxRecDepth 100000 in
set_option maxHeartbeats 1000000 in
theorem sameCopies_yes (C:Mg.CC) (v u:Value) (w:World) (hv:LiesK w v C) (hu:LiesK w u C):
    Calls Tryz.prog 9 #[v,u] w fun e w'=>e= .returned (.bool true)∧Below w.heap.size w w':=by
 obtain⟨a,cap,rfl,hcap,hcap2,hL⟩:=hv
 have HL:=hid hL;obtain⟨a',cap',rfl,hcap',_,hL'⟩:=hu
 have HL':=hid hL';clear hL hL';go_enter Tryz.func9,Tryz.ntmps9
 go_wp2_with fail;go_loopw [5] (fun i wr=> ∃k:Nat,k≤C.length∧i= .int .i64 k∧Below w.heap.size w wr) (fun i _=>C.length-(intOf i).toNat)
 case atStart=>exact⟨0,Nat.zero_le _,rfl,Below.refl _ _⟩
 case round=>
  obtain⟨k,hk,rfl,hbel⟩:=hrel
  by_cases hlt:k<C.length
  · obtain⟨b,o,rfl,hb,c0,c1⟩:=HL.out k hlt
    obtain⟨b',o',rfl,hb',d0,d1⟩:=HL'.out k hlt
    have hlt':(k:Int)<C.length:=by omega
    have x0:=(hbel.cell (p:=⟨b,o+k*2,none⟩) hb).trans c0;have x1:=(hbel.cell (p:=⟨b,o+k*2+1,none⟩) hb).trans c1;have y0:=(hbel.cell (p:=⟨b',o'+k*2,none⟩) hb').trans d0;have y1:=(hbel.cell (p:=⟨b',o'+k*2+1,none⟩) hb').trans d1;clear c0 c1 d0 d1;go_wp2_with fail;go_region
    go_wp2_with fail;go_roundw
    case rel=>exact⟨k+1,by omega,by simp,hbel.drew⟩
    case measure=>simp[intOf];omega
  · go_wp2_with fail
    go_ret;exact⟨rfl,hbel⟩
end Go.Proofs.YtlllcifehellpaaGreatDoor
namespace Go.Proofs.YtlllcifehellpaaGreatDoor
open Go.RowKit


set_option maxRecDepth 100000 in
set_option maxHeartbeats 8000000 in
theorem clientHears_walk (c:Cn) (k:Int) (a:An) (v va:Value) (w:World) (hv:LiesN w v c) (ha:LiesA w va a) (hs:SizedN c) (hsa:SizedA a) (hpb: ∀e∈c.base,e.path.size≤1000000000) (hpm: ∀e∈c.mine,e.path.size≤1000000000) (hpt: ∀e∈a.pg.tree,e.path.size≤1000000000) (hpc:SizedO 1000000000 a.pg.cos):
    Calls Tryz.prog 3 #[v,.int .i64 k,va] w fun e w'=>e= .returned (.bool true)∧Below w.heap.size w w':=by
 by_cases h0:Cy.chE c=0
 · have H0:=hid h0
   clear h0;have HV:=hid hv;have HA:=hid ha;have HS:=hid hs;have HSA:=hid hsa;have HPB:=hid hpb;have HPM:=hid hpm;have HPT:=hid hpt;have HPC:=hid hpc;obtain⟨vb,vm,vq,rfl,lb,lm,la⟩:=hv
   obtain⟨ab,cb,rfl,_⟩:=lb
   obtain⟨am,cm,rfl,_⟩:=lm
   obtain⟨aa,ca,rfl,_⟩:=la
   obtain⟨vt,vc,rfl,lt,lc⟩:=ha
   obtain⟨xt,yt,rfl,_⟩:=lt
   obtain⟨xc,yc,rfl⟩:=liesO_shape lc
   clear hs hsa hpb hpm hpt hpc lc;obtain⟨wz,hwz⟩: ∃wz,wz=(w.alloc (.cells #[.string c.who,.string c.fo,.slice ab c.base.length cb,.int .i64 c.cur,.slice am c.mine.length cm,.string c.key,.slice aa c.ask.length ca,.int .i64 c.keys] 25)).alloc (.cells #[.int .i64 a.err,.int .i64 a.num,.bool a.pg.reset,.slice xt a.pg.tree.length yt,.slice xc a.pg.cos.length yc,.int .i64 a.pg.cur,.bool a.pg.more] 31):=⟨_,rfl⟩
   have hbz:Below w.heap.size w wz:=by rw[hwz];exact((Below.refl _ _).alloc (Nat.le_refl _) _).alloc (by simp) _
   have HX:Hid (Cs wz w.heap.size [.string c.who,.string c.fo,.slice ab c.base.length cb,.int .i64 c.cur,.slice am c.mine.length cm,.string c.key,.slice aa c.ask.length ca,.int .i64 c.keys]):=(by rw[hwz];exact(Cs.new w [.string c.who,.string c.fo,.slice ab c.base.length cb,.int .i64 c.cur,.slice am c.mine.length cm,.string c.key,.slice aa c.ask.length ca,.int .i64 c.keys] _).below ((Below.refl _ _).alloc (Nat.le_refl _) _):Cs wz w.heap.size _)
   have HC:=hid (show Cs wz (w.heap.size+1) [.int .i64 a.err,.int .i64 a.num,.bool a.pg.reset,.slice xt a.pg.tree.length yt,.slice xc a.pg.cos.length yc,.int .i64 a.pg.cur,.bool a.pg.more]from by
    have:=Cs.new (w.alloc (.cells #[.string c.who,.string c.fo,.slice ab c.base.length cb,.int .i64 c.cur,.slice am c.mine.length cm,.string c.key,.slice aa c.ask.length ca,.int .i64 c.keys] 25)) [.int .i64 a.err,.int .i64 a.num,.bool a.pg.reset,.slice xt a.pg.tree.length yt,.slice xc a.pg.cos.length yc,.int .i64 a.pg.cur,.bool a.pg.more] 31
    rw[hwz];simpa using this)
   obtain⟨r,hr⟩: ∃r,r=Cy.heE c k a:=⟨_,rfl⟩
   have HR:=hid hr;clear hr;go_enter Tryz.func3,Tryz.ntmps3
   go_upto_region 1 with fail;rw[←hwz];clear hwz;have p0:=HX.out.cell 0 rfl;have p1:=HX.out.cell 1 rfl;have p2:=HX.out.cell 2 rfl;have p3:=HX.out.cell 3 rfl;have p4:=HX.out.cell 4 rfl;have p5:=HX.out.cell 5 rfl;have p6:=HX.out.cell 6 rfl;have p7:=HX.out.cell 7 rfl;have t0:=HC.out.cell 0 rfl;have t1:=HC.out.cell 1 rfl;have t2:=HC.out.cell 2 rfl;have t3:=HC.out.cell 3 rfl;have t4:=HC.out.cell 4 rfl;have t5:=HC.out.cell 5 rfl;have t6:=HC.out.cell 6 rfl;go_wp2_with fail;refine(hear_any c k a _ _ _ (HV.out.below hbz) (HA.out.below hbz) HS.out HSA.out).mono ?_
   rintro e w1 ⟨u1,vk,rfl,hN1,hK1,_,hb1⟩;rw[←HR.out];obtain⟨d,hd⟩: ∃d,d=Cy.heC c k a:=⟨_,rfl⟩
   rw[←hd]at hN1;have HD:=hid hd;obtain⟨C,hC⟩: ∃C,C=Cy.heK c k a:=⟨_,rfl⟩
   rw[←hC]at hK1;have HCC:=hid hC;clear hd hC p0 p1 p2 p3 p4 p5 p6 p7 t0 t1 t2 t3 t4 t5 t6;have HN1:=hid hN1;have HK1:=hid hK1;obtain⟨vb,vm,vq,rfl,lb1,lm1,la1⟩:=hN1
   obtain⟨eb,fb,rfl,_⟩:=lb1
   obtain⟨em,fm,rfl,_⟩:=lm1
   obtain⟨ea,fa,rfl,_⟩:=la1
   obtain⟨ja,jc,rfl,_⟩:=hK1
   obtain⟨w2,hw2⟩: ∃w2,w2=w1.alloc (.cells #[.string d.who,.string d.fo,.slice eb d.base.length fb,.int .i64 d.cur,.slice em d.mine.length fm,.string d.key,.slice ea d.ask.length fa,.int .i64 d.keys] 25):=⟨_,rfl⟩
   have b12:Below w1.heap.size w1 w2:=by rw[hw2];exact(Below.refl _ _).alloc (Nat.le_refl _) _
   have HD2:=hid (show Cs w2 w1.heap.size [.string d.who,.string d.fo,.slice eb d.base.length fb,.int .i64 d.cur,.slice em d.mine.length fm,.string d.key,.slice ea d.ask.length fa,.int .i64 d.keys]from by rw[hw2];exact Cs.new w1 [.string d.who,.string d.fo,.slice eb d.base.length fb,.int .i64 d.cur,.slice em d.mine.length fm,.string d.key,.slice ea d.ask.length fa,.int .i64 d.keys] _);have hb01:=below_tr hbz hb1;have hb02:=below_tr hb01 b12;have HX2:=hid ((HX.out.below hb1).below b12);have HC2:=hid ((HC.out.below hb1).below b12);have p0:=HX2.out.cell 0 rfl;have p1:=HX2.out.cell 1 rfl;have p2:=HX2.out.cell 2 rfl;have p3:=HX2.out.cell 3 rfl;have p4:=HX2.out.cell 4 rfl;have p5:=HX2.out.cell 5 rfl;have p6:=HX2.out.cell 6 rfl;have p7:=HX2.out.cell 7 rfl;go_upto_region 2 with fail;rw[←hw2];clear hw2;go_wp2_with fail;refine(rCheckClient_any c _ _ (HV.out.below hb02) HS.out HPB.out HPM.out).mono ?_
   rintro e w5 ⟨rfl,hb5⟩;clear p0 p1 p2 p3 p4 p5 p6 p7;obtain⟨w6,hw6⟩: ∃w6,w6=w5.alloc (.cells #[.string ⟨#[]⟩,.string ⟨#[]⟩,.slice none 0 0,.int .i64 0,.slice none 0 0,.string ⟨#[]⟩,.slice none 0 0,.int .i64 0] 25):=⟨_,rfl⟩
   have b56:Below w5.heap.size w5 w6:=by rw[hw6];exact(Below.refl _ _).alloc (Nat.le_refl _) _
   have HY6:=hid (show Cs w6 w5.heap.size zs from by rw[hw6];exact Cs.new w5 zs _);have b26:=below_tr hb5 b56;have hb06:=below_tr hb02 b26;have HX6:=hid (HX2.out.below b26);have HC6:=hid (HC2.out.below b26);have HD6:=hid (HD2.out.below b26);have HNd6:=hid (HN1.out.below (below_tr b12 b26));have HKk6:=hid (HK1.out.below (below_tr b12 b26));have s1:=hb1.size;have s12:=b12.size;have s4:=hb5.size;have l1:=HD2.out.lt;have l0:=HC.out.lt;rw[H0.out];have p0:=HX6.out.cell 0 rfl;have p1:=HX6.out.cell 1 rfl;have p2:=HX6.out.cell 2 rfl;have p3:=HX6.out.cell 3 rfl;have p4:=HX6.out.cell 4 rfl;have p5:=HX6.out.cell 5 rfl;have p6:=HX6.out.cell 6 rfl;have p7:=HX6.out.cell 7 rfl;have t0:=HC6.out.cell 0 rfl;have t1:=HC6.out.cell 1 rfl;have t2:=HC6.out.cell 2 rfl;have t3:=HC6.out.cell 3 rfl;have t4:=HC6.out.cell 4 rfl;have t5:=HC6.out.cell 5 rfl;have t6:=HC6.out.cell 6 rfl;go_upto_region 5 with fail;rw[←hw6];clear hw6;go_wp2_with fail;refine(hearOf_any c k a _ _ _ (HV.out.below hb06) (HA.out.below hb06) HS.out HSA.out HPB.out HPT.out HPC.out H0.out).mono ?_
   rintro e w7 ⟨u7,vk7,rfl,hN7,hK7,hO7,hb7⟩;rw[←HR.out];rw[←HD.out]at hN7;rw[←HCC.out]at hK7;have HN7:=hid hN7;have HK7:=hid hK7;obtain⟨vb,vm,vq,rfl,lb1,lm1,la1⟩:=hN7
   obtain⟨gb,kb,rfl,_⟩:=lb1
   obtain⟨gm,km,rfl,_⟩:=lm1
   obtain⟨ga,ka,rfl,_⟩:=la1
   obtain⟨ia,ic,rfl,_⟩:=hK7
   clear p0 p1 p2 p3 p4 p5 p6 p7 t0 t1 t2 t3 t4 t5 t6;have s7:=hb7.size;have s6:=HY6.out.lt;have HY7:=hid (HY6.out.below hb7);have HD7:=hid (HD6.out.below hb7);obtain⟨w8,hw8⟩: ∃w8,w8=((((((((w7.setCell ⟨w5.heap.size,0,none⟩ (.string d.who)).setCell ⟨w5.heap.size,1,none⟩ (.string d.fo)).setCell ⟨w5.heap.size,2,none⟩ (.slice gb d.base.length kb)).setCell ⟨w5.heap.size,3,none⟩ (.int .i64 d.cur)).setCell ⟨w5.heap.size,4,none⟩ (.slice gm d.mine.length km)).setCell ⟨w5.heap.size,5,none⟩ (.string d.key)).setCell ⟨w5.heap.size,6,none⟩ (.slice ga d.ask.length ka)).setCell ⟨w5.heap.size,7,none⟩ (.int .i64 d.keys)):=⟨_,rfl⟩
   have g8:w7.grownBy w8 (some w5.heap.size):=by rw[hw8];exact(grown_on (grown_on (grown_on (grown_on (grown_on (grown_on (grown_on (nb_set w7 (w5.heap.size) 0 (.string d.who)) (nb_set _ (w5.heap.size) 1 (.string d.fo))) (nb_set _ (w5.heap.size) 2 (.slice gb d.base.length kb))) (nb_set _ (w5.heap.size) 3 (.int .i64 d.cur))) (nb_set _ (w5.heap.size) 4 (.slice gm d.mine.length km))) (nb_set _ (w5.heap.size) 5 (.string d.key))) (nb_set _ (w5.heap.size) 6 (.slice ga d.ask.length ka))) (nb_set _ (w5.heap.size) 7 (.int .i64 d.keys)))
   have HY8:Hid (Cs w8 w5.heap.size [.string d.who,.string d.fo,.slice gb d.base.length kb,.int .i64 d.cur,.slice gm d.mine.length km,.string d.key,.slice ga d.ask.length ka,.int .i64 d.keys]):=(by rw[hw8];exact((((((((HY7.out.set 0 (.string d.who)).set 1 (.string d.fo)).set 2 (.slice gb d.base.length kb)).set 3 (.int .i64 d.cur)).set 4 (.slice gm d.mine.length km)).set 5 (.string d.key)).set 6 (.slice ga d.ask.length ka)).set 7 (.int .i64 d.keys)):Cs w8 w5.heap.size _)
   have HD8:=hid (HD7.out.nb g8 (by omega));have HNw8:=hid (HN7.out.off HY7.out (noLies_cn _ _ _ _ _ _ _ _ _ _ _ _ _ _) g8);have HNd8:=hid ((HNd6.out.below hb7).off HY7.out (noLies_cn _ _ _ _ _ _ _ _ _ _ _ _ _ _) g8);have HKd8:=hid (show LiesK w8 (.slice ja C.length jc) C from HK1.out.below (by rw[hw8];exact(bs8 (b:=w5.heap.size) (below_tr b12 (below_tr b26 hb7)) (by show _≤w5.heap.size;omega))));have HKw8:=hid (HK7.out.nbo g8 (fun b hb=>by have:=(hO7 b hb).1;omega));clear hO7;have hb8:Below w.heap.size w w8:=by rw[hw8];exact(bs8 (b:=w5.heap.size) (below_tr hb06 hb7) (by show _≤w5.heap.size;omega))
   have y0:=HY7.out.cell 0 rfl;have g0:=HY7.out.fr 0;have y1:=HY7.out.cell 1 rfl;have g1:=HY7.out.fr 1;have y2:=HY7.out.cell 2 rfl;have g2:=HY7.out.fr 2;have y3:=HY7.out.cell 3 rfl;have g3:=HY7.out.fr 3;have y4:=HY7.out.cell 4 rfl;have g4:=HY7.out.fr 4;have y5:=HY7.out.cell 5 rfl;have g5:=HY7.out.fr 5;have y6:=HY7.out.cell 6 rfl;have g6:=HY7.out.fr 6;have y7:=HY7.out.cell 7 rfl;have g7:=HY7.out.fr 7;go_upto_region 6 with fail;rw[←hw8];clear hw8 y0 y1 y2 y3 y4 y5 y6 y7 g0 g1 g2 g3 g4 g5 g6 g7;go_wp2_with fail;refine(clientBegun_yes _).mono ?_
   rintro e wa ⟨rfl,hba⟩;have HDa:=hid (HD8.out.below hba);have HYa:=hid (HY8.out.below hba);have p0:=HDa.out.cell 0 rfl;have p1:=HDa.out.cell 1 rfl;have p2:=HDa.out.cell 2 rfl;have p3:=HDa.out.cell 3 rfl;have p4:=HDa.out.cell 4 rfl;have p5:=HDa.out.cell 5 rfl;have p6:=HDa.out.cell 6 rfl;have p7:=HDa.out.cell 7 rfl;have t0:=HYa.out.cell 0 rfl;have t1:=HYa.out.cell 1 rfl;have t2:=HYa.out.cell 2 rfl;have t3:=HYa.out.cell 3 rfl;have t4:=HYa.out.cell 4 rfl;have t5:=HYa.out.cell 5 rfl;have t6:=HYa.out.cell 6 rfl;have t7:=HYa.out.cell 7 rfl;go_wp2_with fail
   refine(clientIs_yes d d _ _ r _ (by
    by_cases hr0:r=0
    · rw[if_pos hr0];exact HNd8.out.below hba
    · rw[if_neg hr0]
      have:d=zeroN:=by rw[HD.out];exact Cy.he_zero (by rw[←HR.out];exact hr0)
      rw[←this];exact HNd8.out.below hba) (HNw8.out.below hba) (fun _=>rfl)).mono ?_
   rintro e wb ⟨rfl,hbb⟩;have b8b:=below_tr hba hbb;clear p0 p1 p2 p3 p4 p5 p6 p7 t0 t1 t2 t3 t4 t5 t6 t7;go_wp2_with fail;refine(sameCopies_yes C _ _ _ (HKd8.out.below b8b) (HKw8.out.below b8b)).mono ?_
   rintro e wc ⟨rfl,hbc⟩;go_wp2_with fail;go_ret;exact⟨rfl,below_tr hb8 (below_tr b8b hbc)⟩
 · have H0:=hid h0
   have h0':(Cy.chE c==0)=false:=by simpa using h0
   clear h0;have HV:=hid hv;have HA:=hid ha;have HS:=hid hs;have HSA:=hid hsa;have HPB:=hid hpb;have HPM:=hid hpm;have HPT:=hid hpt;have HPC:=hid hpc;obtain⟨vb,vm,vq,rfl,lb,lm,la⟩:=hv
   obtain⟨ab,cb,rfl,_⟩:=lb
   obtain⟨am,cm,rfl,_⟩:=lm
   obtain⟨aa,ca,rfl,_⟩:=la
   obtain⟨vt,vc,rfl,lt,lc⟩:=ha
   obtain⟨xt,yt,rfl,_⟩:=lt
   obtain⟨xc,yc,rfl⟩:=liesO_shape lc
   clear hs hsa hpb hpm hpt hpc lc;obtain⟨wz,hwz⟩: ∃wz,wz=(w.alloc (.cells #[.string c.who,.string c.fo,.slice ab c.base.length cb,.int .i64 c.cur,.slice am c.mine.length cm,.string c.key,.slice aa c.ask.length ca,.int .i64 c.keys] 25)).alloc (.cells #[.int .i64 a.err,.int .i64 a.num,.bool a.pg.reset,.slice xt a.pg.tree.length yt,.slice xc a.pg.cos.length yc,.int .i64 a.pg.cur,.bool a.pg.more] 31):=⟨_,rfl⟩
   have hbz:Below w.heap.size w wz:=by rw[hwz];exact((Below.refl _ _).alloc (Nat.le_refl _) _).alloc (by simp) _
   have HX:Hid (Cs wz w.heap.size [.string c.who,.string c.fo,.slice ab c.base.length cb,.int .i64 c.cur,.slice am c.mine.length cm,.string c.key,.slice aa c.ask.length ca,.int .i64 c.keys]):=(by rw[hwz];exact(Cs.new w [.string c.who,.string c.fo,.slice ab c.base.length cb,.int .i64 c.cur,.slice am c.mine.length cm,.string c.key,.slice aa c.ask.length ca,.int .i64 c.keys] _).below ((Below.refl _ _).alloc (Nat.le_refl _) _):Cs wz w.heap.size _)
   have HC:=hid (show Cs wz (w.heap.size+1) [.int .i64 a.err,.int .i64 a.num,.bool a.pg.reset,.slice xt a.pg.tree.length yt,.slice xc a.pg.cos.length yc,.int .i64 a.pg.cur,.bool a.pg.more]from by
    have:=Cs.new (w.alloc (.cells #[.string c.who,.string c.fo,.slice ab c.base.length cb,.int .i64 c.cur,.slice am c.mine.length cm,.string c.key,.slice aa c.ask.length ca,.int .i64 c.keys] 25)) [.int .i64 a.err,.int .i64 a.num,.bool a.pg.reset,.slice xt a.pg.tree.length yt,.slice xc a.pg.cos.length yc,.int .i64 a.pg.cur,.bool a.pg.more] 31
    rw[hwz];simpa using this)
   obtain⟨r,hr⟩: ∃r,r=Cy.heE c k a:=⟨_,rfl⟩
   have HR:=hid hr;clear hr;go_enter Tryz.func3,Tryz.ntmps3
   go_upto_region 1 with fail;rw[←hwz];clear hwz;have p0:=HX.out.cell 0 rfl;have p1:=HX.out.cell 1 rfl;have p2:=HX.out.cell 2 rfl;have p3:=HX.out.cell 3 rfl;have p4:=HX.out.cell 4 rfl;have p5:=HX.out.cell 5 rfl;have p6:=HX.out.cell 6 rfl;have p7:=HX.out.cell 7 rfl;have t0:=HC.out.cell 0 rfl;have t1:=HC.out.cell 1 rfl;have t2:=HC.out.cell 2 rfl;have t3:=HC.out.cell 3 rfl;have t4:=HC.out.cell 4 rfl;have t5:=HC.out.cell 5 rfl;have t6:=HC.out.cell 6 rfl;go_wp2_with fail;refine(hear_any c k a _ _ _ (HV.out.below hbz) (HA.out.below hbz) HS.out HSA.out).mono ?_
   rintro e w1 ⟨u1,vk,rfl,hN1,hK1,_,hb1⟩;rw[←HR.out];obtain⟨d,hd⟩: ∃d,d=Cy.heC c k a:=⟨_,rfl⟩
   rw[←hd]at hN1;have HD:=hid hd;obtain⟨C,hC⟩: ∃C,C=Cy.heK c k a:=⟨_,rfl⟩
   rw[←hC]at hK1;have HCC:=hid hC;clear hd hC p0 p1 p2 p3 p4 p5 p6 p7 t0 t1 t2 t3 t4 t5 t6;have HN1:=hid hN1;have HK1:=hid hK1;obtain⟨vb,vm,vq,rfl,lb1,lm1,la1⟩:=hN1
   obtain⟨eb,fb,rfl,_⟩:=lb1
   obtain⟨em,fm,rfl,_⟩:=lm1
   obtain⟨ea,fa,rfl,_⟩:=la1
   obtain⟨ja,jc,rfl,_⟩:=hK1
   obtain⟨w2,hw2⟩: ∃w2,w2=w1.alloc (.cells #[.string d.who,.string d.fo,.slice eb d.base.length fb,.int .i64 d.cur,.slice em d.mine.length fm,.string d.key,.slice ea d.ask.length fa,.int .i64 d.keys] 25):=⟨_,rfl⟩
   have b12:Below w1.heap.size w1 w2:=by rw[hw2];exact(Below.refl _ _).alloc (Nat.le_refl _) _
   have HD2:=hid (show Cs w2 w1.heap.size [.string d.who,.string d.fo,.slice eb d.base.length fb,.int .i64 d.cur,.slice em d.mine.length fm,.string d.key,.slice ea d.ask.length fa,.int .i64 d.keys]from by rw[hw2];exact Cs.new w1 [.string d.who,.string d.fo,.slice eb d.base.length fb,.int .i64 d.cur,.slice em d.mine.length fm,.string d.key,.slice ea d.ask.length fa,.int .i64 d.keys] _);have hb01:=below_tr hbz hb1;have hb02:=below_tr hb01 b12;have HX2:=hid ((HX.out.below hb1).below b12);have HC2:=hid ((HC.out.below hb1).below b12);have p0:=HX2.out.cell 0 rfl;have p1:=HX2.out.cell 1 rfl;have p2:=HX2.out.cell 2 rfl;have p3:=HX2.out.cell 3 rfl;have p4:=HX2.out.cell 4 rfl;have p5:=HX2.out.cell 5 rfl;have p6:=HX2.out.cell 6 rfl;have p7:=HX2.out.cell 7 rfl;go_upto_region 2 with fail;rw[←hw2];clear hw2;go_wp2_with fail;refine(rCheckClient_any c _ _ (HV.out.below hb02) HS.out HPB.out HPM.out).mono ?_
   rintro e w5 ⟨rfl,hb5⟩;clear p0 p1 p2 p3 p4 p5 p6 p7;obtain⟨w6,hw6⟩: ∃w6,w6=w5.alloc (.cells #[.string ⟨#[]⟩,.string ⟨#[]⟩,.slice none 0 0,.int .i64 0,.slice none 0 0,.string ⟨#[]⟩,.slice none 0 0,.int .i64 0] 25):=⟨_,rfl⟩
   have b56:Below w5.heap.size w5 w6:=by rw[hw6];exact(Below.refl _ _).alloc (Nat.le_refl _) _
   have HY6:=hid (show Cs w6 w5.heap.size zs from by rw[hw6];exact Cs.new w5 zs _);have b26:=below_tr hb5 b56;have hb06:=below_tr hb02 b26;have HX6:=hid (HX2.out.below b26);have HC6:=hid (HC2.out.below b26);have HD6:=hid (HD2.out.below b26);have HNd6:=hid (HN1.out.below (below_tr b12 b26));have HKk6:=hid (HK1.out.below (below_tr b12 b26));have s1:=hb1.size;have s12:=b12.size;have s4:=hb5.size;have l1:=HD2.out.lt;have l0:=HC.out.lt;have HRE:=hid (show r=Cy.chE c∧d=zeroN∧C=[]from⟨by rw[HR.out,Cy.heE,if_pos H0.out],by rw[HD.out,Cy.heC,if_pos H0.out],by rw[HCC.out,Cy.heK,if_pos H0.out]⟩);rw[←HRE.out.1]at h0'⊢;go_upto_region 6 with fail;rw[←hw6];clear hw6;go_wp2_with fail;refine(clientBegun_yes _).mono ?_
   rintro e wa ⟨rfl,hba⟩;have HDa:=hid (HD6.out.below hba);have HYa:=hid (HY6.out.below hba);have p0:=HDa.out.cell 0 rfl;have p1:=HDa.out.cell 1 rfl;have p2:=HDa.out.cell 2 rfl;have p3:=HDa.out.cell 3 rfl;have p4:=HDa.out.cell 4 rfl;have p5:=HDa.out.cell 5 rfl;have p6:=HDa.out.cell 6 rfl;have p7:=HDa.out.cell 7 rfl;have t0:=HYa.out.cell 0 rfl;have t1:=HYa.out.cell 1 rfl;have t2:=HYa.out.cell 2 rfl;have t3:=HYa.out.cell 3 rfl;have t4:=HYa.out.cell 4 rfl;have t5:=HYa.out.cell 5 rfl;have t6:=HYa.out.cell 6 rfl;have t7:=HYa.out.cell 7 rfl;go_wp2_with fail
   refine(clientIs_yes zeroN zeroN _ _ r _ (by
    have h9:(if r=0 then zeroN else zeroN)=zeroN:=by split<;>rfl
    rw[h9,←HRE.out.2.1];exact HNd6.out.below hba) (ownN_zero 0 _).lies (fun _=>rfl)).mono ?_
   rintro e wb ⟨rfl,hbb⟩;have b8b:=below_tr hba hbb;clear p0 p1 p2 p3 p4 p5 p6 p7 t0 t1 t2 t3 t4 t5 t6 t7;go_wp2_with fail;refine(sameCopies_yes C _ _ _ (HKk6.out.below b8b) (by rw[HRE.out.2.2];exact LiesK.nil _)).mono ?_
   rintro e wc ⟨rfl,hbc⟩;go_wp2_with fail;go_ret;exact⟨rfl,below_tr hb06 (below_tr b8b hbc)⟩
end Go.Proofs.YtlllcifehellpaaGreatDoor
namespace Go.Proofs.YtlllcifehellpaaGreatDoor
open Go.ChangeShapes Go.WideShapes Go.ChangeAt Go.RowKit

namespace Bk
theorem mem {H:Type} {d:DataW H}: ∀{l:List (DataW H)},d∈l→Rows.uptoBulk d≤Rows.uptoBulkAll l
 |[],h=>by cases h
 |x::r,h=>by
  rw[Rows.uptoBulkAll];rcases List.mem_cons.1 h with rfl|h
  · omega
  · have:=mem h;omega
theorem len {H:Type}: ∀{l:List (DataW H)},(∀d∈l,1≤Rows.uptoBulk d)→l.length≤Rows.uptoBulkAll l
 |[],_=>Nat.zero_le _
 |x::r,h=>by
  rw[Rows.uptoBulkAll,List.length_cons];have h1:=h x (by simp);have h2:=len (l:=r) fun d hd=>h d (by simp[hd])
  omega
end Bk

theorem Tryz.cellsE:Tryz.prog.cellsOf 64=4:=by kernel_rfl
theorem Tryz.cells9:Tryz.prog.cellsOf 9=1:=by kernel_rfl
theorem Tryz.cells4:Tryz.prog.cellsOf 4=1:=by kernel_rfl
theorem Tryz.cells3:Tryz.prog.cellsOf 3=1:=by kernel_rfl
def datE {H:Type} (e:En):DataW H:= .agg [.lit (.string e.path.data.toList),.lit (.bool e.folder),.lit (.string e.text.data.toList),.lit (.int .i64 e.ver)]
theorem bulkE {H:Type} (e:En):Rows.uptoBulk (datE (H:=H) e)=e.path.size+e.text.size+5:=by
 rw[datE,Rows.uptoBulk,Rows.uptoBulkAll,Rows.uptoBulkAll,Rows.uptoBulkAll,Rows.uptoBulkAll,Rows.uptoBulkAll,Rows.uptoBulk,Rows.uptoBulk,Rows.uptoBulk,Rows.uptoBulk,Lib.size_eq,Lib.size_eq]
 · omega
 · intro b h;cases h
 · intro b h;cases h
theorem list4 {α:Type} {l:List α} (h:l.length=4): ∃a b c d,l=[a,b,c,d]:=by
 rcases l with _|⟨a,_|⟨b,_|⟨c,_|⟨d,_|⟨e,r⟩⟩⟩⟩⟩
 all_goals first|exact⟨a,b,c,d,rfl⟩|(simp at h)
theorem spot_none {W:World} {a:Addr} {v:Value} (k:W.cell? a=some v):a.spot=none:=by
 unfold World.cell? at k;cases hq:a.spot with
 |none=>rfl
 |some z=>rw[hq]at k;simp at k;split at k<;>cases k
/-- One entry of a tree that is handed in. -/
theorem open_entry {H:Type} {enc:TypeId×Value→H} {W:World} {n i:Nat} {a:Addr} {x:DataW H} {pl:List MemPlace} {cs':List Value} (ha:a.spot=none)
    (h1:W.cells? 0 (a.add (i*Tryz.prog.cellsOf 64)) (Tryz.prog.cellsOf 64)=some cs') (h2:DataW.trod enc Tryz.prog W 0 (fun _=>true) true n 64 cs'=some (x,pl)):
    ∃e:En,x=datE e∧a.spot=none∧EnAt W a.block (a.off+i*4) e:=by
 rw[Tryz.cellsE]at h1;obtain⟨_,hlen,hc⟩:=World.cells?_some h1
 obtain⟨y0,y1,y2,y3,n',hx',_,t0,t1,t2,t3⟩:=Go.Joins.trod_struct4 Tryz.underlying64 h2
 obtain⟨c0,c1,c2,c3,rfl⟩:=list4 hlen
 have t0':DataW.trod enc Tryz.prog W 0 (fun _=>true) true n' 9 [c0]=some y0:=by simpa[Tryz.cells9]using t0
 have t1':DataW.trod enc Tryz.prog W 0 (fun _=>true) true n' 4 [c1]=some y1:=by simpa[Tryz.cells4]using t1
 have t2':DataW.trod enc Tryz.prog W 0 (fun _=>true) true n' 9 [c2]=some y2:=by simpa[Tryz.cells9]using t2
 have t3':DataW.trod enc Tryz.prog W 0 (fun _=>true) true n' 3 [c3]=some y3:=by simpa[Tryz.cells3]using t3
 obtain⟨s0,e0,g0,_⟩:=DataW.trod_string Tryz.underlying9 t0'
 obtain⟨s1,e1,g1⟩:=DataW.trod_bool Tryz.underlying4 t1'
 obtain⟨s2,e2,g2,_⟩:=DataW.trod_string Tryz.underlying9 t2'
 obtain⟨s3,e3,g3,_⟩:=DataW.trod_int Tryz.underlying3 t3'
 obtain rfl:c0= .string s0:=by simpa using e0
 obtain rfl:c1= .bool s1:=by simpa using e1
 obtain rfl:c2= .string s2:=by simpa using e2
 obtain rfl:c3= .int .i64 s3:=by simpa using e3
 subst g0;subst g1;subst g2;subst g3;simp only[Prod.mk.injEq]at hx';have k0:=hc 0 (by omega);have k1:=hc 1 (by omega);have k2:=hc 2 (by omega);have k3:=hc 3 (by omega);obtain⟨ab,ao,asp⟩:=a
 obtain rfl:asp=none:=ha;refine⟨⟨s0,s1,s2,s3⟩,hx'.1,rfl,?_,?_,?_,?_⟩
 · by_cases hi0:i=0
   · subst hi0;simpa[Addr.add]using k0
   · have hi4:i*4≠0:=by omega
     simpa[Addr.add,hi4]using k0
 · by_cases hi0:i=0
   · subst hi0;simpa[Addr.add]using k1
   · have hi4:i*4≠0:=by omega
     simpa[Addr.add,hi4,Nat.add_assoc]using k1
 · by_cases hi0:i=0
   · subst hi0;simpa[Addr.add]using k2
   · have hi4:i*4≠0:=by omega
     simpa[Addr.add,hi4,Nat.add_assoc]using k2
 · by_cases hi0:i=0
   · subst hi0;simpa[Addr.add]using k3
   · have hi4:i*4≠0:=by omega
     simpa[Addr.add,hi4,Nat.add_assoc]using k3
set_option maxRecDepth 100000 in
theorem open_tree {B:Nat} (hB:B≤1000000000) {H:Type} {enc:TypeId×Value→H} {W:World} {v:Value} {d:DataW H} {p:List MemPlace} {fuel:Nat} (hf:DataW.trod enc Tryz.prog W 0 (fun _=>true) true fuel 22 [v]=some (d,p)) (hk:Rows.uptoBulk d≤B):
    ∃L:List En,Lies W v L∧L.length≤B∧ ∀e∈L,e.path.size≤B∧e.text.size≤B:=by
 haveI:Inhabited En:=⟨⟨⟨#[]⟩,false,⟨#[]⟩,0⟩⟩
 rcases Go.Deep.open_slice Tryz.underlying22 hf with⟨hcs,hx⟩|⟨a,len,cap,m,n,D,Pl,hcs,hb,hl,hm,hmm,hx,hel⟩
 · obtain rfl:v= .slice none 0 0:=by simpa using hcs
   exact⟨[],⟨none,0,rfl,Nat.le_refl _,by simp,fun i hi=>absurd hi (by simp)⟩,by simp,fun e he=>by cases he⟩
 obtain rfl:v= .slice (some a) len cap:=by simpa using hcs
 have hm2:m=cap:=hmm.trans (if_pos rfl);clear hmm;have hd:=(Prod.mk.inj hx).1;clear hx;subst hm2
 have hsp:0<len→a.spot=none:=fun h=>by
  obtain⟨cs',h1,_⟩:=hel 0 (by omega)
  rw[Tryz.cellsE]at h1;obtain⟨_,hlen,hc⟩:=World.cells?_some h1
  obtain⟨c0,c1,c2,c3,rfl⟩:=list4 hlen
  have k0:=hc 0 (by omega);exact spot_none (v:=c0) (by simpa[Addr.add]using k0)
 have each: ∀i,i<len→ ∃e:En,D i=datE e∧a.spot=none∧EnAt W a.block (a.off+i*4) e:=fun i hi=>by
  obtain⟨cs',h1,h2⟩:=hel i (by omega)
  exact open_entry (hsp (by omega)) h1 h2
 obtain⟨E,hE⟩:=Go.Deep.choose_lt each
 have hbk:Rows.uptoBulkAll ((List.range len).map D)≤B:=by
  rw[hd,Rows.uptoBulk]at hk;omega
 refine⟨(List.range len).map E,⟨some a,_,by simp;rfl,by simpa using hl,?_,fun i hi=>?_⟩,?_,fun e he=>?_⟩
 · have:=Bk.len (l:=(List.range len).map D) (fun d hd=>by
    obtain⟨i,hi,rfl⟩:=List.mem_map.1 hd
    rw[(hE i (List.mem_range.1 hi)).1,bulkE];omega)
   simp at this⊢
   omega
 · have hi':i<len:=by simpa using hi
   obtain⟨h1,h2,h3⟩:=hE i hi'
   have hlt:a.block<W.heap.size:=by
    have k:=h3.1;rcases Nat.lt_or_ge a.block W.heap.size with h|h
    · exact h
    · unfold World.cell? at k;rw[Array.getElem?_eq_none h]at k;cases k
   refine⟨a.block,a.off,?_,hlt,by simpa using h3⟩
   rw[←h2]
 · have:=Bk.len (l:=(List.range len).map D) (fun d hd=>by
    obtain⟨i,hi,rfl⟩:=List.mem_map.1 hd
    rw[(hE i (List.mem_range.1 hi)).1,bulkE];omega)
   simp at this⊢
   omega
 · obtain⟨i,hi,rfl⟩:=List.mem_map.1 he
   have h1:=Bk.mem (List.mem_map.2 ⟨i,hi,rfl⟩:D i∈(List.range len).map D);rw[(hE i (List.mem_range.1 hi)).1,bulkE]at h1;omega
end Go.Proofs.YtlllcifehellpaaGreatDoor
