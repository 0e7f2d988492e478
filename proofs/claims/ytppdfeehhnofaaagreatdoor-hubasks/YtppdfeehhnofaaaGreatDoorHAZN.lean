/- The program's reader: a page, an answer. -/
import Derived.Test.YtppdfeehhnofaaaGreatDoorHAZM
import Derived.Test.YtppdfeehhnofaaaGreatDoorHAZJ
import Derived.Test.YtppdfeehhnofaaaGreatDoorHAZH
import Derived.Test.YtppdfeehhnofaaaGreatDoorHAC
import Derived.Test.YtppdfeehhnofaaaGreatDoorHAZE
import Derived.Test.YtppdfeehhnofaaaGreatDoorHAZI
import Derived.Deep.Cut
import Derived.Deep.CutBlock
import Derived.Test.YtppdfeehhnofaaaGreatDoorHAZL
import Derived.Deep.CutRange
set_option linter.unusedSimpArgs false
set_option linter.unusedVariables false
namespace Go.Proofs.YtppdfeehhnofaaaGreatDoor
open Go.RowKit

abbrev zpg:List Value:=[.bool false,.slice none 0 0,.slice none 0 0,.int .i64 0,.bool false]
abbrev zan:List Value:=[.int .i64 0,.int .i64 0,.bool false,.slice none 0 0,.slice none 0 0,.int .i64 0,.bool false]
/-- A page that was read. -/
def PgV (B:Nat) (p:Pg) (v:Value) (W:World):Prop:= ∃vt vc,v= .agg #[.bool p.reset,vt,vc,.int .i64 p.cur,.bool p.more]∧RowV B 128 4 VEn p.tree vt W∧RowO B p.cos vc W
/-- An answer that was read. -/
def AnV (B:Nat) (a:An) (v:Value) (W:World):Prop:= ∃vt vc,v= .agg #[.int .i64 a.err,.int .i64 a.num,.bool a.pg.reset,vt,vc,.int .i64 a.pg.cur,.bool a.pg.more]∧RowV B 128 4 VEn a.pg.tree vt W∧RowO B a.pg.cos vc W
theorem AnV.set {B:Nat} {q:An} {v:Value} {W:World} (h:AnV B q v W) {g:Nat} (hg:g<B) (i:Nat) (u:Value):AnV B q v (W.setCell ⟨g,i,none⟩ u):=by
 obtain⟨vt,vc,h1,h2,h3⟩:=h
 exact⟨vt,vc,h1,h2.setE hg i u,h3.setC hg i u⟩
theorem AnV.low {B B':Nat} {q:An} {v:Value} {W:World} (h:AnV B q v W) (hB:B'≤B):AnV B' q v W:=by
 obtain⟨vt,vc,h1,h2,h3⟩:=h
 exact⟨vt,vc,h1,h2.low hB,h3.low hB⟩
theorem AnV.below {B:Nat} {q:An} {v:Value} {W W':World} (h:AnV B q v W) (hw:Below W.heap.size W W'):AnV B q v W':=by
 obtain⟨vt,vc,h1,h2,h3⟩:=h
 exact⟨vt,vc,h1,rowV_below h2 hw (fun _ _ h=>h),h3.below hw⟩
set_option maxHeartbeats 4000000 in
set_option maxRecDepth 8000 in
theorem rpg_any (b:Nat) (l:List UInt8) (w:World) (h:Rd b l w) (hs:l.length≤MaxL) (h6:5<b) (hv:VarsW w):
    Calls Tryz.prog 26 #[.pointer (some ⟨b,0,none⟩)] w fun e w'=>RdPost b (Wr.pgP Wr.gN 1000 l) (PgV w.heap.size) e w'∧w.grownBy w' (some b):=by
 have hmf: ∀(fn:Fn) (first cap:Array Value) (w:World),(Instr.makeFunc fn first cap).run Tryz.prog w= .ok (.func fn first cap) w:=fun _ _ _ _=>rfl
 have HE0:=hid (show Wr.pgP Wr.gN 1000 l=Wr.pgP Wr.gN 1000 l from rfl);conv at HE0=>arg 1;rhs;unfold Wr.pgP
 generalize hP:Wr.pgP Wr.gN 1000 l=res at*;clear hP;have hbl:=h.lt;obtain⟨g,hgg⟩: ∃g,g=w.heap.size:=⟨_,rfl⟩
 obtain⟨wz,hwz⟩: ∃wz,wz=w.alloc (.cells #[.pointer (some ⟨b,0,none⟩)] 80):=⟨_,rfl⟩
 have hbz:Below w.heap.size w wz:=by rw[hwz];exact below_alloc _ _
 have hsz:wz.heap.size=w.heap.size+1:=by rw[hwz];simp
 have hgz:RBox wz b g:=⟨by rw[hgg,hwz];exact heap_alloc_new w _,by omega⟩
 have H0:=hid (r5_new zpg zpg 41 41 (h.below hbz) hgz h6 (hv.belowB (by omega) hbz));obtain⟨w0,hw0⟩: ∃w0,w0=(wz.alloc (.cells zpg.toArray 41)).alloc (.cells zpg.toArray 41):=⟨_,rfl⟩
 rw[←hw0,hsz]at H0;have HF:=hid (nb_below b hbz);have HW0:=hid (show((w.alloc (.cells #[.pointer (some ⟨b,0,none⟩)] 80)).alloc (.cells zpg.toArray 41)).alloc (.cells zpg.toArray 41)=w0 from by rw[hw0,hwz]);have hg1: ¬g=w.heap.size+1:=by omega
 have hg2: ¬g=w.heap.size+1+1:=by omega
 have hg3: ¬w.heap.size+1+1=g:=by omega
 subst hgg;clear hwz hw0 hbz hgz;have PN:=hid (show∀(a:Act) (W:World),a.defers=[]→wz.grownBy W (some b)→res=none→bodyPost Tryz.prog Tryz.f26 (fun e w'=>RdPost b res (PgV w.heap.size) e w'∧w.grownBy w' (some b)) (.panic [{v:= .iface 33 (.int .i64 1),recovered:=false}]) a W from fun a W hd hw hr=>bodyPost_panic hd ⟨RdPost.no hr rfl,nb_tr HF.out hw⟩);clear hv h;go_enter Tryz.func26,Tryz.ntmps26
 go_upto_region 2 with fail;rw[HW0.out];clear HW0;have ga:=H0.out.box.cell;go_wp2_with fail;refine(ryes_any H0.out.r4.rd (by omega) h6 H0.out.r4.v).mono ?_
 rintro e w1 ⟨hp,hn1⟩;cases hq:Wr.yesP Wr.gN l with
 |none=>
  rw[hq]at hp;cases hp
  exact PN.out _ _ rfl (nb_tr H0.out.r4.fr hn1) (HE0.out.trans (Wr.bind_none hq))
 |some z=>
 obtain⟨rs,r1⟩:=z
 rw[hq]at hp;obtain⟨_,rfl,rfl,hr1⟩:=hp
 have HE1:=hid (HE0.out.trans (Wr.bind_some hq));have s1:=Wr.shr_yes _ _ _ _ hq;have H1:=hid (H0.out.call hn1 hr1);clear ga;clear hq HE0;have c0:=H1.out.r4.cC.cell 0 rfl;have f0:=H1.out.r4.cC.fr 0;have gw:=H1.out.box.cell;obtain⟨u1,hu1⟩: ∃W,W=w1.setCell ⟨w.heap.size+1+1,0,none⟩ (.bool rs):=⟨_,rfl⟩
 have HU1:=hid (H1.out.set 0 (.bool rs));rw[←hu1]at HU1;go_upto_region 3 with fail;rw[←hu1];have HX1:=hid hu1;clear hu1 c0 f0 gw;have ga:=HU1.out.box.cell;go_wp2_with fail;refine(rle_any b _ r1 _ HU1.out.r4.rd HU1.out.box (by omega) h6 HU1.out.r4.v).mono ?_
 rintro e w2 ⟨hp,hn2⟩;cases hq:Wr.lstP Wr.gN 60 (Wr.enP Wr.gN 1000) r1 with
 |none=>
  rw[hq]at hp;cases hp
  exact PN.out _ _ rfl (nb_tr HU1.out.r4.fr hn2) (HE1.out.trans (Wr.bind_none hq))
 |some z=>
 obtain⟨ts,r2⟩:=z
 rw[hq]at hp;obtain⟨vts,rfl,hrow,hr2⟩:=hp
 have HE2:=hid (HE1.out.trans (Wr.bind_some hq));have s2:=Wr.shr_lst _ _ (Wr.shr_en _ _) _ _ _ hq;have H2:=hid (HU1.out.call hn2 hr2);obtain⟨ats,lts,cts,rfl⟩:=hrow.shape
 have HBts:=hid (show w.heap.size+1<u1.heap.size∧w.heap.size+1+1<u1.heap.size from⟨HU1.out.r4.cR.lt,HU1.out.r4.cC.lt⟩);have HRts:=hid hrow;clear hrow;clear ga;clear hq HE1;have c1:=H2.out.r4.cC.cell 1 rfl;have f1:=H2.out.r4.cC.fr 1;have gw:=H2.out.box.cell;obtain⟨u2,hu2⟩: ∃W,W=w2.setCell ⟨w.heap.size+1+1,1,none⟩ (.slice ats lts cts):=⟨_,rfl⟩
 have HU2:=hid (H2.out.set 1 (.slice ats lts cts));rw[←hu2]at HU2;go_upto_region 4 with fail;rw[←hu2];have HSts:=hid (show RowV u1.heap.size 128 4 VEn ts (.slice ats lts cts) u2 from by rw[hu2];exact HRts.out.setE HBts.out.2 _ _);clear HRts;have HRts:=HSts;clear HSts;have HX2:=hid hu2;clear hu2 c1 f1 gw;have ga:=HU2.out.box.cell;go_wp2_with fail;refine(rlo_any b _ r2 _ HU2.out.r4.rd HU2.out.box (by omega) h6 HU2.out.r4.v).mono ?_
 rintro e w3 ⟨hp,hn3⟩;cases hq:Wr.lstP Wr.gN 10 (Wr.coP Wr.gN 1000) r2 with
 |none=>
  rw[hq]at hp;cases hp
  exact PN.out _ _ rfl (nb_tr HU2.out.r4.fr hn3) (HE2.out.trans (Wr.bind_none hq))
 |some z=>
 obtain⟨cs,r3⟩:=z
 rw[hq]at hp;obtain⟨vcs,rfl,hrow,hr3⟩:=hp
 replace HRts:=hid (HRts.out.nb hn3 (by have:=HBts.out.1;omega) (fun _ _ h=>h));have HE3:=hid (HE2.out.trans (Wr.bind_some hq));have s3:=Wr.shr_lst _ _ (Wr.shr_co _ _) _ _ _ hq;have H3:=hid (HU2.out.call hn3 hr3);have hrow:RowO u2.heap.size cs vcs w3:=hrow;obtain⟨acs,lcs,ccs,rfl⟩:=hrow.shape
 have HBcs:=hid (show w.heap.size+1<u2.heap.size∧w.heap.size+1+1<u2.heap.size from⟨HU2.out.r4.cR.lt,HU2.out.r4.cC.lt⟩);have HRcs:=hid hrow;clear hrow;clear ga;clear hq HE2;have c2:=H3.out.r4.cC.cell 2 rfl;have f2:=H3.out.r4.cC.fr 2;have gw:=H3.out.box.cell;obtain⟨u3,hu3⟩: ∃W,W=w3.setCell ⟨w.heap.size+1+1,2,none⟩ (.slice acs lcs ccs):=⟨_,rfl⟩
 have HU3:=hid (H3.out.set 2 (.slice acs lcs ccs));rw[←hu3]at HU3;go_upto_region 5 with fail;rw[←hu3];have HSts:=hid (show RowV u1.heap.size 128 4 VEn ts (.slice ats lts cts) u3 from by rw[hu3];exact HRts.out.setE HBts.out.2 _ _);clear HRts;have HRts:=HSts;clear HSts;have HScs:=hid (show RowO u2.heap.size cs (.slice acs lcs ccs) u3 from by rw[hu3];exact HRcs.out.setC HBcs.out.2 _ _);clear HRcs;have HRcs:=HScs;clear HScs;have HX3:=hid hu3;clear hu3 c2 f2 gw;have ga:=HU3.out.box.cell;go_wp2_with fail;refine(rnum_any HU3.out.r4.rd (by omega) h6 HU3.out.r4.v).mono ?_
 rintro e w4 ⟨hp,hn4⟩;cases hq:Wr.rdG Wr.gN r3 with
 |none=>
  rw[hq]at hp;cases hp
  exact PN.out _ _ rfl (nb_tr HU3.out.r4.fr hn4) (HE3.out.trans (Wr.bind_none hq))
 |some z=>
 obtain⟨cu,r4⟩:=z
 rw[hq]at hp;obtain⟨_,rfl,rfl,hr4⟩:=hp
 replace HRts:=hid (HRts.out.nb hn4 (by have:=HBts.out.1;omega) (fun _ _ h=>h));replace HRcs:=hid (HRcs.out.nb hn4 (by have:=HBcs.out.1;omega));have HE4:=hid (HE3.out.trans (Wr.bind_some hq));have s4:=Wr.shr_rd _ _ _ _ hq;have H4:=hid (HU3.out.call hn4 hr4);clear ga;clear hq HE3;have c3:=H4.out.r4.cC.cell 3 rfl;have f3:=H4.out.r4.cC.fr 3;have gw:=H4.out.box.cell;obtain⟨u4,hu4⟩: ∃W,W=w4.setCell ⟨w.heap.size+1+1,3,none⟩ (.int .i64 cu):=⟨_,rfl⟩
 have HU4:=hid (H4.out.set 3 (.int .i64 cu));rw[←hu4]at HU4;go_upto_region 6 with fail;rw[←hu4];have HSts:=hid (show RowV u1.heap.size 128 4 VEn ts (.slice ats lts cts) u4 from by rw[hu4];exact HRts.out.setE HBts.out.2 _ _);clear HRts;have HRts:=HSts;clear HSts;have HScs:=hid (show RowO u2.heap.size cs (.slice acs lcs ccs) u4 from by rw[hu4];exact HRcs.out.setC HBcs.out.2 _ _);clear HRcs;have HRcs:=HScs;clear HScs;have HX4:=hid hu4;clear hu4 c3 f3 gw;have ga:=HU4.out.box.cell;go_wp2_with fail;refine(ryes_any HU4.out.r4.rd (by omega) h6 HU4.out.r4.v).mono ?_
 rintro e w5 ⟨hp,hn5⟩;cases hq:Wr.yesP Wr.gN r4 with
 |none=>
  rw[hq]at hp;cases hp
  exact PN.out _ _ rfl (nb_tr HU4.out.r4.fr hn5) (HE4.out.trans (Wr.bind_none hq))
 |some z=>
 obtain⟨mo,r5⟩:=z
 rw[hq]at hp;obtain⟨_,rfl,rfl,hr5⟩:=hp
 replace HRts:=hid (HRts.out.nb hn5 (by have:=HBts.out.1;omega) (fun _ _ h=>h));replace HRcs:=hid (HRcs.out.nb hn5 (by have:=HBcs.out.1;omega));have HE5:=hid (HE4.out.trans (Wr.bind_some hq));have s5:=Wr.shr_yes _ _ _ _ hq;have H5:=hid (HU4.out.call hn5 hr5);clear ga;clear hq HE4;have c4:=H5.out.r4.cC.cell 4 rfl;have f4:=H5.out.r4.cC.fr 4;have y0:=H5.out.r4.cC.cell 0 rfl;have y1:=H5.out.r4.cC.cell 1 rfl;have y2:=H5.out.r4.cC.cell 2 rfl;have y3:=H5.out.r4.cC.cell 3 rfl;have v0:=H5.out.r4.cR.cell 0 rfl;have x0:=H5.out.r4.cR.fr 0;have v1:=H5.out.r4.cR.cell 1 rfl;have x1:=H5.out.r4.cR.fr 1;have v2:=H5.out.r4.cR.cell 2 rfl;have x2:=H5.out.r4.cR.fr 2;have v3:=H5.out.r4.cR.cell 3 rfl;have x3:=H5.out.r4.cR.fr 3;have v4:=H5.out.r4.cR.cell 4 rfl;have x4:=H5.out.r4.cR.fr 4;have n3: ¬w.heap.size+1=w.heap.size+1+1:=by omega
 have n4: ¬w.heap.size+1+1=w.heap.size+1:=by omega
 go_wp2_with fail;have nR:b≠w.heap.size+1:=by omega
 have nC:b≠w.heap.size+1+1:=by omega
 have l1:wz.heap.size≤w.heap.size+1+1:=by omega
 have l0:wz.heap.size≤w.heap.size+1:=by omega
 refine bodyPost_ret (v:= .agg #[.bool rs,.slice ats lts cts,.slice acs lcs ccs,.int .i64 cu,.bool mo]) (by simp[results,Tryz.results26,go_sem,n3,n4,v0,v1,v2,v3,v4]) rfl ⟨RdPost.yes _ HE5.out rfl ?_ ?_,?_⟩
 · refine⟨_,_,rfl,?_,?_⟩
   · exact(HRts.out|>.setE HBts.out.2 _ _|>.setE HBts.out.1 _ _|>.setE HBts.out.1 _ _|>.setE HBts.out.1 _ _|>.setE HBts.out.1 _ _|>.setE HBts.out.1 _ _).low (by have:=HBts.out.1;omega)
   · exact(HRcs.out|>.setC HBcs.out.2 _ _|>.setC HBcs.out.1 _ _|>.setC HBcs.out.1 _ _|>.setC HBcs.out.1 _ _|>.setC HBcs.out.1 _ _|>.setC HBcs.out.1 _ _).low (by have:=HBcs.out.1;omega)
 · exact(H5.out.r4.rd.set' nC _|>.set' nR _|>.set' nR _|>.set' nR _|>.set' nR _|>.set' nR _)
 · exact nb_tr HF.out ((nb_new (nb_new (nb_new (nb_new (nb_new (nb_new H5.out.r4.fr l1 _) l0 _) l0 _) l0 _) l0 _) l0 _))
set_option maxHeartbeats 4000000 in
set_option maxRecDepth 8000 in
theorem ran_any (b:Nat) (l:List UInt8) (w:World) (h:Rd b l w) (hs:l.length≤MaxL) (h6:5<b) (hv:VarsW w):
    Calls Tryz.prog 24 #[.pointer (some ⟨b,0,none⟩)] w fun e w'=>RdPost b (Wr.anP Wr.gN 1000 l) (AnV w.heap.size) e w'∧w.grownBy w' (some b):=by
 have HE0:=hid (show Wr.anP Wr.gN 1000 l=Wr.anP Wr.gN 1000 l from rfl);conv at HE0=>arg 1;rhs;unfold Wr.anP
 generalize hP:Wr.anP Wr.gN 1000 l=res at*;clear hP;have hbl:=h.lt;have H0:=hid (r4_new zan zan 43 43 h h6 hv);obtain⟨w0,hw0⟩: ∃w0,w0=(w.alloc (.cells zan.toArray 43)).alloc (.cells zan.toArray 43):=⟨_,rfl⟩
 rw[←hw0]at H0;have HW0:=hid (show(w.alloc (.cells zan.toArray 43)).alloc (.cells zan.toArray 43)=w0 from hw0.symm);clear hw0;have PN:=hid (show∀(a:Act) (W:World),a.defers=[]→w.grownBy W (some b)→res=none→bodyPost Tryz.prog Tryz.f24 (fun e w'=>RdPost b res (AnV w.heap.size) e w'∧w.grownBy w' (some b)) (.panic [{v:= .iface 33 (.int .i64 1),recovered:=false}]) a W from fun a W hd hw hr=>bodyPost_panic hd ⟨RdPost.no hr rfl,hw⟩);clear hv h;go_enter Tryz.func24,Tryz.ntmps24
 go_upto_region 2 with fail;rw[HW0.out];clear HW0;go_wp2_with fail;refine(rnum_any H0.out.rd (by omega) h6 H0.out.v).mono ?_
 rintro e w1 ⟨hp,hn1⟩;cases hq:Wr.rdG Wr.gN l with
 |none=>
  rw[hq]at hp;cases hp
  exact PN.out _ _ rfl (nb_tr H0.out.fr hn1) (HE0.out.trans (Wr.bind_none hq))
 |some z=>
 obtain⟨er,r1⟩:=z
 rw[hq]at hp;obtain⟨_,rfl,rfl,hr1⟩:=hp
 have HE1:=hid (HE0.out.trans (Wr.bind_some hq));have s1:=Wr.shr_rd _ _ _ _ hq;have H1:=hid (H0.out.call hn1 hr1);clear hq HE0;have c0:=H1.out.cC.cell 0 rfl;have f0:=H1.out.cC.fr 0;obtain⟨u1,hu1⟩: ∃W,W=w1.setCell ⟨w.heap.size+1,0,none⟩ (.int .i64 er):=⟨_,rfl⟩
 have HU1:=hid (H1.out.set 0 (.int .i64 er));rw[←hu1]at HU1;go_upto_region 3 with fail;rw[←hu1];have HX1:=hid hu1;clear hu1 c0 f0;go_wp2_with fail;refine(rnum_any HU1.out.rd (by omega) h6 HU1.out.v).mono ?_
 rintro e w2 ⟨hp,hn2⟩;cases hq:Wr.rdG Wr.gN r1 with
 |none=>
  rw[hq]at hp;cases hp
  exact PN.out _ _ rfl (nb_tr HU1.out.fr hn2) (HE1.out.trans (Wr.bind_none hq))
 |some z=>
 obtain⟨nu,r2⟩:=z
 rw[hq]at hp;obtain⟨_,rfl,rfl,hr2⟩:=hp
 have HE2:=hid (HE1.out.trans (Wr.bind_some hq));have s2:=Wr.shr_rd _ _ _ _ hq;have H2:=hid (HU1.out.call hn2 hr2);clear hq HE1;have c1:=H2.out.cC.cell 1 rfl;have f1:=H2.out.cC.fr 1;obtain⟨u2,hu2⟩: ∃W,W=w2.setCell ⟨w.heap.size+1,1,none⟩ (.int .i64 nu):=⟨_,rfl⟩
 have HU2:=hid (H2.out.set 1 (.int .i64 nu));rw[←hu2]at HU2;go_upto_region 4 with fail;rw[←hu2];have HX2:=hid hu2;clear hu2 c1 f1;go_wp2_with fail;refine(rpg_any b r2 _ HU2.out.rd (by omega) h6 HU2.out.v).mono ?_
 rintro e w3 ⟨hp,hn3⟩;cases hq:Wr.pgP Wr.gN 1000 r2 with
 |none=>
  rw[hq]at hp;cases hp
  exact PN.out _ _ rfl (nb_tr HU2.out.fr hn3) (HE2.out.trans (Wr.bind_none hq))
 |some z=>
 obtain⟨pg,r3⟩:=z
 rw[hq]at hp;obtain⟨_,rfl,⟨vt,vc,rfl,hrt,hrc⟩,hr3⟩:=hp
 have HE3:=hid (HE2.out.trans (Wr.bind_some hq));have s3:=Wr.shr_pg _ _ _ _ _ hq;have H3:=hid (HU2.out.call hn3 hr3);obtain⟨at_,lt_,ct_,rfl⟩:=hrt.shape
 obtain⟨ac_,lc_,cc_,rfl⟩:=hrc.shape
 have HRt:=hid hrt;have HBp:=hid (show w.heap.size<u2.heap.size∧w.heap.size+1<u2.heap.size from⟨HU2.out.cR.lt,HU2.out.cC.lt⟩);have HRc:=hid hrc;clear hrt hrc;clear hq HE2;have c2:=H3.out.cC.cell 2 rfl;have f2:=H3.out.cC.fr 2;have c3:=H3.out.cC.cell 3 rfl;have f3:=H3.out.cC.fr 3;have c4:=H3.out.cC.cell 4 rfl;have f4:=H3.out.cC.fr 4;have c5:=H3.out.cC.cell 5 rfl;have f5:=H3.out.cC.fr 5;have c6:=H3.out.cC.cell 6 rfl;have f6:=H3.out.cC.fr 6;obtain⟨u3,hu3⟩: ∃W,W=(((((w3.setCell ⟨w.heap.size+1,2,none⟩ (.bool pg.reset)).setCell ⟨w.heap.size+1,3,none⟩ (.slice at_ lt_ ct_)).setCell ⟨w.heap.size+1,4,none⟩ (.slice ac_ lc_ cc_)).setCell ⟨w.heap.size+1,5,none⟩ (.int .i64 pg.cur)).setCell ⟨w.heap.size+1,6,none⟩ (.bool pg.more)):=⟨_,rfl⟩
 have HU3:=hid (((((H3.out.set 2 (.bool pg.reset)).set 3 (.slice at_ lt_ ct_)).set 4 (.slice ac_ lc_ cc_)).set 5 (.int .i64 pg.cur)).set 6 (.bool pg.more));rw[←hu3]at HU3;go_upto_region 5 with fail;rw[←hu3];have HSt:=HRt.out;replace HRt:=hid ((((((HRt.out.setE HBp.out.2 2 (.bool pg.reset)).setE HBp.out.2 3 (.slice at_ lt_ ct_)).setE HBp.out.2 4 (.slice ac_ lc_ cc_)).setE HBp.out.2 5 (.int .i64 pg.cur)).setE HBp.out.2 6 (.bool pg.more)));rw[←hu3]at HRt;clear HSt;have HSc:=HRc.out;replace HRc:=hid ((((((HRc.out.setC HBp.out.2 2 (.bool pg.reset)).setC HBp.out.2 3 (.slice at_ lt_ ct_)).setC HBp.out.2 4 (.slice ac_ lc_ cc_)).setC HBp.out.2 5 (.int .i64 pg.cur)).setC HBp.out.2 6 (.bool pg.more)));rw[←hu3]at HRc;clear HSc;clear hu3 c2 f2 c3 f3 c4 f4 c5 f5 c6 f6;have y0:=HU3.out.cC.cell 0 rfl;have y1:=HU3.out.cC.cell 1 rfl;have y2:=HU3.out.cC.cell 2 rfl;have y3:=HU3.out.cC.cell 3 rfl;have y4:=HU3.out.cC.cell 4 rfl;have y5:=HU3.out.cC.cell 5 rfl;have y6:=HU3.out.cC.cell 6 rfl;have v0:=HU3.out.cR.cell 0 rfl;have x0:=HU3.out.cR.fr 0;have v1:=HU3.out.cR.cell 1 rfl;have x1:=HU3.out.cR.fr 1;have v2:=HU3.out.cR.cell 2 rfl;have x2:=HU3.out.cR.fr 2;have v3:=HU3.out.cR.cell 3 rfl;have x3:=HU3.out.cR.fr 3;have v4:=HU3.out.cR.cell 4 rfl;have x4:=HU3.out.cR.fr 4;have v5:=HU3.out.cR.cell 5 rfl;have x5:=HU3.out.cR.fr 5;have v6:=HU3.out.cR.cell 6 rfl;have x6:=HU3.out.cR.fr 6;have n3: ¬w.heap.size=w.heap.size+1:=by omega
 have n4: ¬w.heap.size+1=w.heap.size:=by omega
 go_wp2_with fail;have nR:b≠w.heap.size:=by omega
 have nC:b≠w.heap.size+1:=by omega
 have l1:w.heap.size≤w.heap.size+1:=by omega
 have l0:w.heap.size≤w.heap.size:=by omega
 refine bodyPost_ret (v:= .agg #[.int .i64 er,.int .i64 nu,.bool pg.reset,.slice at_ lt_ ct_,.slice ac_ lc_ cc_,.int .i64 pg.cur,.bool pg.more]) (by simp[results,Tryz.results24,go_sem,n3,n4,v0,v1,v2,v3,v4,v5,v6]) rfl ⟨RdPost.yes _ HE3.out rfl ?_ ?_,?_⟩
 · refine⟨_,_,rfl,?_,?_⟩
   · exact(HRt.out|>.setE HBp.out.1 _ _|>.setE HBp.out.1 _ _|>.setE HBp.out.1 _ _|>.setE HBp.out.1 _ _|>.setE HBp.out.1 _ _|>.setE HBp.out.1 _ _|>.setE HBp.out.1 _ _).low (by have:=HBp.out.1;omega)
   · exact(HRc.out|>.setC HBp.out.1 _ _|>.setC HBp.out.1 _ _|>.setC HBp.out.1 _ _|>.setC HBp.out.1 _ _|>.setC HBp.out.1 _ _|>.setC HBp.out.1 _ _|>.setC HBp.out.1 _ _).low (by have:=HBp.out.1;omega)
 · exact(HU3.out.rd|>.set' nR _|>.set' nR _|>.set' nR _|>.set' nR _|>.set' nR _|>.set' nR _|>.set' nR _)
 · exact(nb_new (nb_new (nb_new (nb_new (nb_new (nb_new (nb_new HU3.out.fr l0 _) l0 _) l0 _) l0 _) l0 _) l0 _) l0 _)
theorem RowV.rows {B:Nat} {T:TypeId} {n:Nat} {α:Type} {V:α→List Value→World→Prop} {xs:List α} {v:Value} {W:World} (h:RowV B T n V xs v W) (hn:xs.length≤1000000000000000):
    ∃a cap,v= .slice a xs.length cap∧xs.length≤cap∧ ∀i (h:i<xs.length),∃b o r,a=some ⟨b,o,none⟩∧b<W.heap.size∧V xs[i] r W∧ ∀c u,r[c]?=some u→W.cell? ⟨b,o+i*n+c,none⟩=some u:=by
 obtain⟨Z,h1,h2,h3⟩:=h
 have hl:(Z.map (·.2)).length=xs.length:=by rw[←h1];simp
 have hL:LiesR n W v (Z.map (·.2)):=liesR_own (by simpa using h2) (by rw[hl];exact hn) (fun r hr=>by
  obtain⟨z,hz,rfl⟩:=List.mem_map.1 hr
  exact(h3 z hz).2)
 obtain⟨a,cap,hv,hc,_,_,hL⟩:=hL
 rw[hl]at hv hc;refine⟨a,cap,hv,hc,fun i hi=>?_⟩
 have hiZ:i<Z.length:=by rw[←h1]at hi;simpa using hi
 obtain⟨b,o,ha,hb,hu⟩:=hL i (by rw[hl];exact hi)
 refine⟨b,o,Z[i].2,ha,hb,?_,fun c u hcu=>hu c u (by simpa using hcu)⟩
 have e:xs[i]=Z[i].1:=by simp[←h1]
 rw[e];exact(h3 _ (List.getElem_mem hiZ)).1
theorem RowV.lies_en {B:Nat} {xs:List En} {v:Value} {W:World} (h:RowV B 128 4 VEn xs v W) (hn:xs.length≤1000000000000000):Lies W v xs:=by
 obtain⟨a,cap,hv,hc,hL⟩:=h.rows hn
 refine⟨a,cap,hv,hc,hn,fun i hi=>?_⟩
 obtain⟨b,o,r,ha,hb,rfl,hu⟩:=hL i hi
 exact⟨b,o,ha,hb,hu 0 _ rfl,hu 1 _ rfl,hu 2 _ rfl,hu 3 _ rfl⟩
theorem RowO.lies {B:Nat} {cs:List Co} {v:Value} {W:World} (h:RowO B cs v W) (hn:cs.length≤1000000000000000) (hc: ∀c∈cs,c.ch.length≤1000000000000000):LiesO W v cs:=by
 obtain⟨a,cap,hv,hcap,hL⟩:=RowV.rows h hn
 refine⟨a,cap,hv,hcap,hn,fun i hi=>?_⟩
 obtain⟨b,o,r,ha,hb,⟨vc,rfl,hrow⟩,hu⟩:=hL i hi
 exact⟨b,o,ha,hb,hu 0 _ rfl,hu 1 _ rfl,vc,hu 2 _ rfl,hrow.liesC (hc _ (List.getElem_mem hi))⟩
theorem AnV.lies {B:Nat} {a:An} {v:Value} {W:World} (h:AnV B a v W) (h1:a.pg.tree.length≤1000000000000000) (h2:a.pg.cos.length≤1000000000000000) (h3: ∀c∈a.pg.cos,c.ch.length≤1000000000000000):LiesA W v a:=by
 obtain⟨vt,vc,rfl,ht,hc⟩:=h
 exact⟨vt,vc,rfl,ht.lies_en h1,hc.lies h2 h3⟩
set_option maxRecDepth 4000 in
theorem catch_gaveA (p:Addr) (w:World) (hc:w.cell? p=some (.int .i64 0)) (hz:w.frozen? p=false):
    CallsD Tryz.prog 53 #[.pointer (some p)] (.panicking [{v:= .iface 33 (.int .i64 1),recovered:=false}]) w fun e u' w'=>
     e= .returned (.tuple #[])∧u'= .panicking [{v:= .iface 33 (.int .i64 1),recovered:=true}]∧w'=w.setCell p (.int .i64 1):=by
 refine callsD_of_wpS Tryz.func53 rfl fun c₀ cs hu=>?_
 have h1:=Tryz.errnoYes;apply wpS_seq
 apply wpS_region
 simp[wpOpsS,go_sem,recoverD,hu,h1,Tryz.ntmps53,Exit.thenS,Array.replicate]
 apply wpS_seq
 apply wpS_region
 simp[wpOpsS,go_sem,Exit.thenS]
 refine wpS_cond (t:=true) (by simp[Act.eval,Array.replicate]) ?_
 simp only[if_true];apply wpS_region
 simp[wpOpsS,go_sem,hc,hz,bodyPostS,results,Tryz.results53]
set_option maxRecDepth 4000 in
theorem catch_noneA (p:Addr) (w:World):
    CallsD Tryz.prog 53 #[.pointer (some p)] .returning w fun e u' w'=>e= .returned (.tuple #[])∧u'= .returning∧w'=w:=by
 refine callsD_of_wpS Tryz.func53 rfl fun c₀ cs hu=>?_
 have h1:=Tryz.errnoNo;apply wpS_seq
 apply wpS_region
 simp[wpOpsS,go_sem,recoverD,hu,h1,Tryz.ntmps53,Exit.thenS,Array.replicate]
 apply wpS_seq
 apply wpS_region
 simp[wpOpsS,go_sem,Exit.thenS]
 refine wpS_cond (t:=false) (by simp[Act.eval,Array.replicate]) ?_
 simp only[Bool.false_eq_true,if_false];refine wpS_of_wp (wp_skip ?_)
 cases c₀
 simp_all [bodyPostS,results,Tryz.results53]
theorem reada_gave (tm:Array Value) (c e:Nat) (R:Ending→World→Prop) (W:World) (h4:tm.getD 4 undef= .pointer (some ⟨c,0,none⟩)) (h5:tm.getD 5 undef= .pointer (some ⟨e,0,none⟩)) (hne:c≠e) (hcR:Cs W c zan) (hE:Cs W e [.int .i64 0]) (hR:R (.returned (.tuple #[.agg zan.toArray,.int .i64 1])) (W.setCell ⟨e,0,none⟩ (.int .i64 1))):
    Leaves Tryz.prog Tryz.f23 tm R [{target:=Target.fn (Fn.func 53) #[.pointer (some ⟨e,0,none⟩)],args:= #[]}] (.panicking [{v:= .iface 33 (.int .i64 1),recovered:=false}]) W:=by
 refine leaves_cons (f:=53) (args:= #[.pointer (some ⟨e,0,none⟩)]) (by simp) (by simp[go_sem]) ?_
 refine(catch_gaveA ⟨e,0,none⟩ _ (hE.cell 0 rfl) (hE.fr 0)).mono ?_
 rintro e1 u' w'' ⟨rfl,rfl,rfl⟩;have hcR2:=hcR.other (o:=0) hne (.int .i64 1);have hE2:=(hE.set 0 (.int .i64 1)).cell 0 rfl;have y0:=hcR2.cell 0 rfl;have y1:=hcR2.cell 1 rfl;have y2:=hcR2.cell 2 rfl;have y3:=hcR2.cell 3 rfl;have y4:=hcR2.cell 4 rfl;have y5:=hcR2.cell 5 rfl;have y6:=hcR2.cell 6 rfl;refine⟨_,?_,hR⟩
 have h4':tm[4]?.getD undef= .pointer (some ⟨c,0,none⟩):=by rw[←h4];simp
 have h5':tm[5]?.getD undef= .pointer (some ⟨e,0,none⟩):=by rw[←h5];simp
 simp[results,Tryz.results23,go_sem,h4',h5',hE2,y0,y1,y2,y3,y4,y5,y6]
theorem reada_well (tm:Array Value) (e:Nat) (R:Ending→World→Prop) (W:World) (hR: ∃v,(results Tryz.f23 tm).run Tryz.prog W= .ok v W∧R (.returned v) W):
    Leaves Tryz.prog Tryz.f23 tm R [{target:=Target.fn (Fn.func 53) #[.pointer (some ⟨e,0,none⟩)],args:= #[]}] .returning W:=by
 refine leaves_cons (f:=53) (args:= #[.pointer (some ⟨e,0,none⟩)]) (by simp) (by simp[go_sem]) ?_
 refine(catch_noneA ⟨e,0,none⟩ _).mono ?_
 rintro e1 u' w'' ⟨rfl,rfl,rfl⟩;exact hR
theorem ran_enters: ∀args w,(callFunc 24 args).run Tryz.prog w= .ok (.enter 24 args) w:=enters_of Tryz.func24 (by kernel_rfl) rfl
set_option maxHeartbeats 2000000 in
theorem reada_any (s:ByteArray) (w:World) (hs:s.size≤MaxL) (h6:5<w.heap.size) (hv:VarsW w):
    Calls Tryz.prog 23 #[.string s,.func (.func 24) #[] #[]] w fun e w'=>WhPost (Wr.whole (Wr.anP Wr.gN 1000 s.data.toList)) (.agg zan.toArray) (AnV w.heap.size) e w'∧Below w.heap.size w w':=by
 have hmf: ∀(fn:Fn) (first cap:Array Value) (w:World),(Instr.makeFunc fn first cap).run Tryz.prog w= .ok (.func fn first cap) w:=fun _ _ _ _=>rfl
 have eg:=ran_enters;obtain⟨l,rfl⟩: ∃l:List UInt8,s=⟨l.toArray⟩:=⟨s.data.toList,by simp⟩
 have hsl:l.length≤MaxL:=by rw[Lib.size_eq]at hs;simpa using hs
 rw[show(⟨l.toArray⟩:ByteArray).data.toList=l from by simp];obtain⟨w0,hw0⟩: ∃w0,w0=w.alloc (.cells zan.toArray 43):=⟨_,rfl⟩
 obtain⟨w5,hw5⟩: ∃w5,w5=w0.alloc (.cells #[.int .i64 0] 33):=⟨_,rfl⟩
 obtain⟨wa,hwa⟩: ∃wa,wa=w5.alloc (.cells #[.string ⟨l.toArray⟩] 123):=⟨_,rfl⟩
 have s0:w0.heap.size=w.heap.size+1:=by rw[hw0];simp
 have s5:w5.heap.size=w.heap.size+1+1:=by rw[hw5];simp[s0]
 have sa:wa.heap.size=w.heap.size+1+1+1:=by rw[hwa];simp[s5]
 have b0:Below w.heap.size w w0:=by rw[hw0];exact below_alloc _ _
 have b5:Below w0.heap.size w0 w5:=by rw[hw5];exact below_alloc _ _
 have ba:Below w5.heap.size w5 wa:=by rw[hwa];exact below_alloc _ _
 have hba:Below w.heap.size w wa:=(b0.trans (b5.mono (by omega))).trans (ba.mono (by omega))
 have cR0:Cs wa w.heap.size zan:=by
  have h1:Cs w0 w.heap.size zan:=by rw[hw0];exact Cs.new w zan _
  exact(h1.below b5).below ba
 have cE0:Cs wa (w.heap.size+1) [.int .i64 0]:=by
  have h1:Cs w5 w0.heap.size [.int .i64 0]:=by rw[hw5];exact Cs.new w0 [.int .i64 0] _
  rw[s0]at h1;exact h1.below ba
 have rda:Rd (w.heap.size+1+1) l wa:=by rw[←s5,hwa];exact heap_alloc_new w5 _
 have HK:=hid (ran_any (w.heap.size+1+1) l wa rda hsl (by omega) (hv.belowB (by omega) hba));rw[hwa,hw5,hw0]at HK;have HWA:=hid (show wa=((w.alloc (.cells zan.toArray 43)).alloc (.cells #[.int .i64 0] 33)).alloc (.cells #[.string ⟨l.toArray⟩] 123)from by rw[hwa,hw5,hw0]);have HC:=hid (And.intro cR0 (And.intro cE0 hba));have HSA:=hid sa;clear hs hwa hw5 hw0 b0 b5 ba s0 s5 cR0 cE0 hba rda sa;go_enter_defers Tryz.func23,Tryz.ntmps23
 go_wp2_with fail;refine HK.out.mono ?_
 rintro e w1 ⟨hp,hn1⟩;rw[←HWA.out]at hp hn1;obtain⟨cR0,cE0,hba⟩:=HC.out
 have hcR:=cR0.nb hn1 (by omega);have hcE:=cE0.nb hn1 (by omega);have hb1:Below w.heap.size w w1:=hba.trans (nb_low hn1 (by omega) hba.size);have hs1:=hn1.size;rw[HSA.out]at hs1;cases hq:Wr.anP Wr.gN 1000 l with
 |none=>
  rw[hq]at hp;cases hp
  exact reada_gave _ _ _ _ _ rfl rfl (by omega) hcR hcE ⟨by rw[hq];rfl,hb1.setCell (p:=⟨w.heap.size+1,0,none⟩) (by simp) _⟩
 |some z=>
 obtain⟨q,r⟩:=z
 rw[hq]at hp;obtain⟨v1,rfl,hV,hr1⟩:=hp
 have hbr:=hr1.cell;have HV:=hid hV;have HRD:=hid hr1;have HCS:=hid (And.intro hcR (And.intro hcE hb1));obtain⟨vt,vc,rfl,hrt,hrc⟩:=HV.out
 obtain⟨at_,lt_,ct_,rfl⟩:=hrt.shape
 obtain⟨ac_,lc_,cc_,rfl⟩:=hrc.shape
 clear hrt hrc;have q2:w.heap.size+1+1<w1.heap.size:=by omega
 have q1:w.heap.size+1<w1.heap.size:=by omega
 have q0:w.heap.size<w1.heap.size:=by omega
 have m2: ¬w.heap.size+1+1=w1.heap.size:=by omega
 have m1: ¬w.heap.size+1=w1.heap.size:=by omega
 have m0: ¬w.heap.size=w1.heap.size:=by omega
 have HS1:=hid hs1;clear hV hr1 cR0 cE0 hba HK hn1 hs1;cases r with
 |cons x r=>
  have hne:((⟨(x::r).toArray⟩:ByteArray).toList==(⟨#[]⟩:ByteArray).toList)=false:=by
   rw[beq_eq_false_iff_ne];intro h;rw[Lib.toList_data,Lib.toList_data]at h;simp at h
  have hnn:((⟨(x::r).toArray⟩:ByteArray).toList !=(⟨#[]⟩:ByteArray).toList)=true:=by rw[bne,hne];rfl
  clear hcR hcE hb1;go_wp2_with fail;refine(gu_any _).mono ?_
  rintro e w3 ⟨rfl,rfl⟩;obtain⟨hcR,hcE,hb1⟩:=HCS.out
  have hal:=below_alloc w1 (.cells #[.int .i64 q.err,.int .i64 q.num,.bool q.pg.reset,.slice at_ lt_ ct_,.slice ac_ lc_ cc_,.int .i64 q.pg.cur,.bool q.pg.more] 43);exact reada_gave _ _ _ _ _ rfl rfl (by omega) (hcR.below hal) (hcE.below hal) ⟨by rw[hq];rfl,(hb1.trans (hal.mono (Nat.le_of_lt q0))).setCell (p:=⟨w.heap.size+1,0,none⟩) (by simp) _⟩
 |nil=>
  have hne:((⟨[].toArray⟩:ByteArray).toList==(⟨#[]⟩:ByteArray).toList)=true:=by
   rw[Lib.toList_data];rfl
  have hnn:((⟨[].toArray⟩:ByteArray).toList !=(⟨#[]⟩:ByteArray).toList)=false:=by rw[bne,hne];rfl
  have y0:=hcR.cell 0 rfl;have x0:=hcR.fr 0;have y1:=hcR.cell 1 rfl;have x1:=hcR.fr 1;have y2:=hcR.cell 2 rfl;have x2:=hcR.fr 2;have y3:=hcR.cell 3 rfl;have x3:=hcR.fr 3;have y4:=hcR.cell 4 rfl;have x4:=hcR.fr 4;have y5:=hcR.cell 5 rfl;have x5:=hcR.fr 5;have y6:=hcR.cell 6 rfl;have x6:=hcR.fr 6;have e0:=hcE.cell 0 rfl;have g0:=hcE.fr 0;clear hcR hcE hb1;go_wp2_with fail;obtain⟨_,_,hb1⟩:=HCS.out
  have k1: ¬w.heap.size+1=w.heap.size:=by omega
  have k2: ¬w.heap.size=w.heap.size+1:=by omega
  have hB0:w.heap.size<wa.heap.size:=by rw[HSA.out];omega
  have hB1:w.heap.size+1<wa.heap.size:=by rw[HSA.out];omega
  have e1:w.heap.size≤w.heap.size+1:=Nat.le_succ _;have e9:=Nat.le_refl w.heap.size;refine reada_well _ _ _ _ ⟨.tuple #[.agg #[.int .i64 q.err,.int .i64 q.num,.bool q.pg.reset,.slice at_ lt_ ct_,.slice ac_ lc_ cc_,.int .i64 q.pg.cur,.bool q.pg.more],.int .i64 0],?_,?_,?_⟩
  · simp[results,Tryz.results23,go_sem,k1,k2,m0,m1,q0,q1,y0,y1,y2,y3,y4,y5,y6,e0]
  · rw[hq]
    exact⟨_,rfl,(HV.out|>.set hB0 0 _|>.set hB0 1 _|>.set hB0 2 _|>.set hB0 3 _|>.set hB0 4 _|>.set hB0 5 _|>.set hB0 6 _|>.set hB1 0 (.int .i64 0)).low (by rw[HSA.out];omega)|>.below (below_alloc _ _)⟩
  · exact(((hb1|>.setCell (p:=⟨w.heap.size,0,none⟩) e9 _|>.setCell (p:=⟨w.heap.size,1,none⟩) e9 _|>.setCell (p:=⟨w.heap.size,2,none⟩) e9 _|>.setCell (p:=⟨w.heap.size,3,none⟩) e9 _|>.setCell (p:=⟨w.heap.size,4,none⟩) e9 _|>.setCell (p:=⟨w.heap.size,5,none⟩) e9 _|>.setCell (p:=⟨w.heap.size,6,none⟩) e9 _).setCell (p:=⟨w.heap.size+1,0,none⟩) e1 _).alloc (by simp;omega) _)
set_option maxHeartbeats 2000000 in
theorem told_any (s:ByteArray) (w:World) (hs:s.size≤MaxL) (h6:5<w.heap.size) (hv:VarsW w):
    Calls Tryz.prog 9 #[.string s] w fun e w'=>WhPost (Wr.whole (Wr.anP Wr.gN 1000 s.data.toList)) (.agg zan.toArray) (AnV w.heap.size) e w'∧Below w.heap.size w w':=by
 obtain⟨w0,hw0⟩: ∃w0,w0=w.alloc (.cells zan.toArray 43):=⟨_,rfl⟩
 have s0:w0.heap.size=w.heap.size+1:=by rw[hw0];simp
 have b0:Below w.heap.size w w0:=by rw[hw0];exact below_alloc _ _
 have c0:Cs w0 w.heap.size zan:=by rw[hw0];exact Cs.new w zan _
 have HK:=hid (reada_any s w0 hs (by omega) (hv.belowB h6 b0));rw[hw0]at HK;have HW0:=hid hw0;have HB:=hid (And.intro b0 c0);clear hw0 hv b0 c0;generalize hR:Wr.whole (Wr.anP Wr.gN 1000 s.data.toList)=res at*;go_enter Tryz.func9,Tryz.ntmps9
 go_wp2_with fail;refine HK.out.mono ?_
 rintro e w1 ⟨hp,hb1⟩;rw[←HW0.out]at hp hb1;obtain⟨b0,c0⟩:=HB.out
 have hcR:=c0.below hb1;have hB1:Below w.heap.size w w1:=b0.trans (hb1.mono (by omega));have hs1:=hb1.size;have y0:=hcR.cell 0 rfl;have x0:=hcR.fr 0;have y1:=hcR.cell 1 rfl;have x1:=hcR.fr 1;have y2:=hcR.cell 2 rfl;have x2:=hcR.fr 2;have y3:=hcR.cell 3 rfl;have x3:=hcR.fr 3;have y4:=hcR.cell 4 rfl;have x4:=hcR.fr 4;have y5:=hcR.cell 5 rfl;have x5:=hcR.fr 5;have y6:=hcR.cell 6 rfl;have x6:=hcR.fr 6;have e9:=Nat.le_refl w.heap.size;have HB1:=hid hB1;clear hB1 hb1 c0 b0 HK;cases res with
 |none=>
  cases hp
  go_wp2_with fail;refine bodyPost_ret (v:= .tuple #[.agg zan.toArray,.int .i64 1]) (by simp[results,Tryz.results9,go_sem,y0,y1,y2,y3,y4,y5,y6]) rfl ⟨rfl,?_⟩
  exact(HB1.out|>.setCell (p:=⟨w.heap.size,0,none⟩) e9 _|>.setCell (p:=⟨w.heap.size,1,none⟩) e9 _|>.setCell (p:=⟨w.heap.size,2,none⟩) e9 _|>.setCell (p:=⟨w.heap.size,3,none⟩) e9 _|>.setCell (p:=⟨w.heap.size,4,none⟩) e9 _|>.setCell (p:=⟨w.heap.size,5,none⟩) e9 _|>.setCell (p:=⟨w.heap.size,6,none⟩) e9 _)
 |some q=>
  obtain⟨v1,rfl,hV⟩:=hp
  have HV:=hid hV;obtain⟨vt,vc,rfl,hrt,hrc⟩:=HV.out
  obtain⟨at_,lt_,ct_,rfl⟩:=hrt.shape
  obtain⟨ac_,lc_,cc_,rfl⟩:=hrc.shape
  clear hrt hrc;clear hV;go_wp2_with fail;refine bodyPost_ret (v:= .tuple #[.agg #[.int .i64 q.err,.int .i64 q.num,.bool q.pg.reset,.slice at_ lt_ ct_,.slice ac_ lc_ cc_,.int .i64 q.pg.cur,.bool q.pg.more],.int .i64 0]) (by simp[results,Tryz.results9,go_sem,y0,y1,y2,y3,y4,y5,y6]) rfl ⟨⟨_,rfl,?_⟩,?_⟩
  · exact(HV.out|>.set (by rw[s0];omega) 0 _|>.set (by rw[s0];omega) 1 _|>.set (by rw[s0];omega) 2 _|>.set (by rw[s0];omega) 3 _|>.set (by rw[s0];omega) 4 _|>.set (by rw[s0];omega) 5 _|>.set (by rw[s0];omega) 6 _).low (by rw[s0];omega)
  · exact(HB1.out|>.setCell (p:=⟨w.heap.size,0,none⟩) e9 _|>.setCell (p:=⟨w.heap.size,1,none⟩) e9 _|>.setCell (p:=⟨w.heap.size,2,none⟩) e9 _|>.setCell (p:=⟨w.heap.size,3,none⟩) e9 _|>.setCell (p:=⟨w.heap.size,4,none⟩) e9 _|>.setCell (p:=⟨w.heap.size,5,none⟩) e9 _|>.setCell (p:=⟨w.heap.size,6,none⟩) e9 _)
theorem near_i64 {n:Int} (h:Wr.gN n=true):I64 n:=by rw[Wr.gN,Wr.near_iff]at h;exact⟨by omega,by omega⟩
theorem ok_txb {x:ByteArray} (h:Wr.gN x.size=true∧(x.size:Int)≤1000):TxB x:=by unfold TxB;omega
theorem Wr.OkC.wf {c:Pp.Ch} (h:Wr.OkC Wr.gN 1000 c):WfC c:=⟨near_i64 h.k,near_i64 h.b,ok_txb h.p,ok_txb h.q,ok_txb h.t⟩
theorem Wr.OkQ.wf {q:Rq} (h:Wr.OkQ Wr.gN 1000 q):WfQ q:=⟨near_i64 h.kind,near_i64 h.num,near_i64 h.off,near_i64 h.base,ok_txb h.who,ok_txb h.fo,ok_txb h.name,ok_txb h.key,ok_txb h.text,fun c hc=>(h.ch.2 c hc).wf⟩
theorem Wr.OkA.wf {a:An} (h:Wr.OkA Wr.gN 1000 a):WfA a:=⟨near_i64 h.e,near_i64 h.n,near_i64 h.p.u,fun x hx=>⟨near_i64 (h.p.t.2 x hx).v,ok_txb (h.p.t.2 x hx).p,ok_txb (h.p.t.2 x hx).t⟩,fun c hc=>⟨near_i64 (h.p.o.2 c hc).n,ok_txb (h.p.o.2 c hc).k,fun x hx=>((h.p.o.2 c hc).c.2 x hx).wf⟩⟩
theorem bytes_len (l:List UInt8):(⟨l.toArray⟩:ByteArray).size=l.length:=by rw[Lib.size_eq]
/-- What Ask answers, in short. -/
theorem ask_short (q:Rq) (v:Value) (w:World) (hq:LiesQ w v q) (hz:WfQ q) (h3:3<w.heap.size) (ht:PowTab w):
    Calls Tryz.prog 6 #[v] w fun e w'=>(∃(t:ByteArray) (E:Int),e= .returned (.tuple #[.string t,.int .i64 E])∧((E=0∧Wr.ok (Wr.rqI q)=true∧t=⟨(Wr.bytes (Wr.rqI q)).toArray⟩)∨(¬E=0∧Wr.ok (Wr.rqI q)=false)))∧Below w.heap.size w w':=by
 refine(ask_any q v w hq hz h3 ht).mono ?_
 rintro e w' ⟨rfl,hb⟩;refine⟨⟨_,_,rfl,?_⟩,hb⟩
 cases hk:Wr.ok (Wr.rqI q)with
 |true=>rw[Wr.fin_ok hk];exact Or.inl ⟨rfl,rfl,rfl⟩
 |false=>exact Or.inr ⟨(Wr.fin_bad hk).1,rfl⟩
theorem Wr.it_len (x:It) (h:x.ok=true):x.bytes.length≤1021:=by
 cases x with
 |n i=>
  have h1:=Wr.itoa_len (near_i64 h);simp only[It.bytes,List.length_append,List.length_cons,List.length_nil];omega
 |t x=>
  have hx:x.size≤1000:=of_decide_eq_true h;have h1:=Wr.itoa_len (n:=x.size) ⟨by omega,by omega⟩;have h2:x.data.toList.length=x.size:=(Lib.size_eq x).symm;simp only[It.bytes,List.length_append,List.length_cons,List.length_nil,h2];omega
 |big=>simp[It.bytes]
theorem Wr.ok_len: ∀(l:List It),ok l=true→(bytes l).length≤1021*l.length
 |[],_=>by simp[bytes]
 |x::l,h=>by
  simp only[ok,List.all_cons,Bool.and_eq_true]at h;have h1:=it_len x h.1;have h2:=ok_len l h.2;rw[bytes_cons,List.length_append,List.length_cons];omega
theorem Wr.rq_len {q:Rq} (h:Wr.ok (Wr.rqI q)=true):(Wr.bytes (Wr.rqI q)).length≤MaxL:=by
 have h1:=Wr.ok_len _ h;have h2:=Wr.lst_len Wr.chI 20 5 q.ch (fun x hx=>by simp[Wr.chI]);have h3:(Wr.rqI q).length≤110:=by simp only[Wr.rqI,List.length_append,List.length_cons,List.length_nil];omega
 unfold MaxL;omega
theorem Wr.an_len {q:An} (h:Wr.ok (Wr.anI q)=true):(Wr.bytes (Wr.anI q)).length≤MaxL:=by
 have h1:=Wr.ok_len _ h;have h2:=Wr.lst_len Wr.enI 60 4 q.pg.tree (fun x hx=>by simp[Wr.enI])
 have h3:=Wr.lst_len Wr.coI 10 103 q.pg.cos (fun x hx=>by
  have:=Wr.lst_len Wr.chI 20 5 x.ch (fun x hx=>by simp[Wr.chI])
  simp only[Wr.coI,List.length_append,List.length_cons,List.length_nil];omega)
 have h4:(Wr.anI q).length≤2000:=by simp only[Wr.anI,Wr.pgI,List.length_append,List.length_cons,List.length_nil];omega
 unfold MaxL;omega
end Go.Proofs.YtppdfeehhnofaaaGreatDoor
