/- The law's hubBegun answers true. -/
import Derived.Test.YtppdfeehhnofaaaGreatDoorHAZ
import Derived.Test.YtppdfeehhnofaaaGreatDoorHAA
import Derived.Test.YtppdfeehhnofaaaGreatDoorHAB
import Derived.Test.YtppdfeehhnofaaaGreatDoorHAJ
import Derived.Test.YtppdfeehhnofaaaGreatDoorHAG
import Derived.Test.YtppdfeehhnofaaaGreatDoorHAC
import Derived.Deep.RegionHeld3
import Derived.Test.YtppdfeehhnofaaaGreatDoorHAQ
import Derived.Deep.Cut
import Derived.Test.YtppdfeehhnofaaaGreatDoorHAP
set_option linter.unusedSimpArgs false
set_option linter.unusedVariables false
namespace Go.Proofs.YtppdfeehhnofaaaGreatDoor
open Go.RowKit

set_option maxRecDepth 100000 in
set_option maxHeartbeats 8000000 in
theorem hubBegun_yes (w:World):Calls Tryz.prog 4 #[] w fun e w'=>e= .returned (.bool true)∧Below w.heap.size w w':=by
 obtain⟨B1,hB1⟩: ∃B1,B1=Hu.b1:=⟨_,rfl⟩
 obtain⟨B2,hB2⟩: ∃B2,B2=Hu.b2:=⟨_,rfl⟩
 obtain⟨B3,hB3⟩: ∃B3,B3=Hu.b3:=⟨_,rfl⟩
 have HNW:=hid (show Hu.nwH 10 1000=B1 from by rw[hB1];exact Hu.nw1)
 have HS1:=hid (show∀(W:World) (v vq:Value),LiesH W v B1→LiesQ W vq Hu.q1→Calls Tryz.prog 8 #[v,vq] W fun e w'=> ∃u a,e= .returned (.tuple #[u,a,.int .i64 0])∧LiesH w' u B2∧LiesA w' a ⟨0,0,Jn.zeroP⟩∧Below W.heap.size W w' from fun W v vq hv hq=>by
  subst hB1 hB2;have h:=serve_make Hu.b1 Hu.q1 v vq W hv Hu.sz1 hq Hu.szq1 Hu.he1 rfl Hu.ck1 (fun B v=>insert_end B v [] Hu.bF (by simp));have e1:Hu.mkE Hu.b1 Hu.q1.fo Hu.q1.who=0:=Hu.mk1.1;have e2:Hu.mkH Hu.b1 Hu.q1.fo Hu.q1.who=Hu.b2:=Hu.mk1.2;rw[e1,e2]at h;exact h)
 have HS2:=hid (show∀(W:World) (v vq:Value),LiesH W v B2→LiesQ W vq Hu.q2→Calls Tryz.prog 8 #[v,vq] W fun e w'=> ∃u a,e= .returned (.tuple #[u,a,.int .i64 0])∧LiesH w' u B3∧LiesA w' a ⟨0,1,Jn.zeroP⟩∧Below W.heap.size W w' from fun W v vq hv hq=>by
  subst hB2 hB3;have h:=serve_commit Hu.b2 Hu.q2 v vq W hv Hu.sz2 hq Hu.szq2 Hu.he2 rfl Hu.ck2;have e0:Hu.whr Hu.b2.fos Hu.b2.gs Hu.q2.fo=0:=Hu.wh2;have e1:Hu.cmE Hu.b2 0 Hu.q2.key Hu.q2.ch=0:=Hu.cm2.1;have e2:Hu.cmN Hu.b2 0 Hu.q2.key Hu.q2.ch=1:=Hu.cm2.2.1;have e3:Hu.cmH Hu.b2 0 Hu.q2.key Hu.q2.ch=Hu.b3:=Hu.cm2.2.2;rw[e0,e1,e2,e3]at h;exact h)
 have HS3:=hid (show∀(W:World) (v:Value),LiesH W v B3→Calls Tryz.prog 13 #[v,.string ⟨#[102]⟩] W fun e w'=> ∃a c,e= .returned (.tuple #[.slice a 1 c,.int .i64 0])∧Below W.heap.size W w' from fun W v hv=>by
  subst hB3;refine(htree_any Hu.b3 v Hu.bF W hv Hu.sz3 (by decide)).mono ?_
  rintro e w' ⟨u,rfl,⟨a,c,rfl,_⟩,hb⟩;rw[Hu.tr3,Hu.tl3];exact⟨a,c,rfl,hb⟩)
 clear hB1 hB2 hB3;go_enter Tryz.func4,Tryz.ntmps4
 go_wp2_with fail;refine(hnew_any 10 1000 _).mono ?_
 rintro e w1 ⟨u,rfl,hl,hb1⟩;rw[Hu.uch1];rw[HNW.out]at hl;have HL1:=hid hl;obtain⟨fa,fc,ga,gc,sa,sc,rfl⟩:=hl.shape
 clear hl;obtain⟨wa,hwa⟩: ∃wa,wa=w1.alloc (.cells #[.slice fa B1.fos.length fc,.slice ga B1.gs.length gc,.slice sa B1.ss.length sc,.int .i64 B1.nx,.int .i64 B1.la,.int .i64 B1.ro,.int .i64 B1.now] 28):=⟨_,rfl⟩
 have hba:Below w1.heap.size w1 wa:=by rw[hwa];exact(Below.refl _ _).alloc (Nat.le_refl _) _
 have HX:Hid (Cs wa w1.heap.size [.slice fa B1.fos.length fc,.slice ga B1.gs.length gc,.slice sa B1.ss.length sc,.int .i64 B1.nx,.int .i64 B1.la,.int .i64 B1.ro,.int .i64 B1.now]):=(by rw[hwa];exact Cs.new w1 [.slice fa B1.fos.length fc,.slice ga B1.gs.length gc,.slice sa B1.ss.length sc,.int .i64 B1.nx,.int .i64 B1.la,.int .i64 B1.ro,.int .i64 B1.now] _:Cs wa w1.heap.size _)
 have hb0a:=below_tr hb1 hba;have x0:=HX.out.cell 0 rfl;have x1:=HX.out.cell 1 rfl;have x2:=HX.out.cell 2 rfl;have x3:=HX.out.cell 3 rfl;have x4:=HX.out.cell 4 rfl;have x5:=HX.out.cell 5 rfl;have x6:=HX.out.cell 6 rfl;go_upto_region 2 with fail;rw[←hwa];clear hwa;go_wp2_with fail;refine(HS1.out wa _ _ (HL1.out.below hba) ⟨_,rfl,liesC_nil _⟩).mono ?_
 rintro e w2 ⟨u2,a2,rfl,hl2,hA2,hb2⟩;clear x0 x1 x2 x3 x4 x5 x6;have HL2:=hid hl2;have HX2:=hid (HX.out.below hb2);have hlx:=HX.out.lt;obtain⟨fb,fd,gb,gd,sb,sd,rfl⟩:=hl2.shape
 obtain⟨ta,tc,ca,cc,rfl⟩:=hA2.shape
 simp only[Jn.zeroP,List.length_nil];have hs2:=hb2.size;clear hl2 hA2;have n1: ¬w1.heap.size=w2.heap.size:=by omega
 have n2: ¬w2.heap.size=w1.heap.size:=by omega
 have HXb:=hid (HX2.out.below ((Below.refl w2.heap.size w2).alloc (Nat.le_refl _) (.cells #[.int .i64 0,.int .i64 0,.bool false,.slice none 0 0,.slice none 0 0,.int .i64 0,.bool false] 43)));have p0:=HXb.out.cell 0 rfl;have f0:=HXb.out.fr 0;have p1:=HXb.out.cell 1 rfl;have f1:=HXb.out.fr 1;have p2:=HXb.out.cell 2 rfl;have f2:=HXb.out.fr 2;have p3:=HXb.out.cell 3 rfl;have f3:=HXb.out.fr 3;have p4:=HXb.out.cell 4 rfl;have f4:=HXb.out.fr 4;have p5:=HXb.out.cell 5 rfl;have f5:=HXb.out.fr 5;have p6:=HXb.out.cell 6 rfl;have f6:=HXb.out.fr 6;obtain⟨y2,hy2⟩: ∃y2,y2=w2.alloc (.cells #[.int .i64 0,.int .i64 0,.bool false,.slice none 0 0,.slice none 0 0,.int .i64 0,.bool false] 43):=⟨_,rfl⟩
 have hby2:Below w2.heap.size w2 y2:=by rw[hy2];exact(Below.refl _ _).alloc (Nat.le_refl _) _
 have HAy2:=hid (show Cs y2 w2.heap.size [.int .i64 0,.int .i64 0,.bool false,.slice none 0 0,.slice none 0 0,.int .i64 0,.bool false]from by rw[hy2];exact Cs.new w2 [.int .i64 0,.int .i64 0,.bool false,.slice none 0 0,.slice none 0 0,.int .i64 0,.bool false] _);obtain⟨z2,hz2⟩: ∃z2,z2=((((((((((((((y2.setCell ⟨w1.heap.size,0,none⟩ (.slice fb B2.fos.length fd)).setCell ⟨w1.heap.size,1,none⟩ (.slice gb B2.gs.length gd)).setCell ⟨w1.heap.size,2,none⟩ (.slice sb B2.ss.length sd)).setCell ⟨w1.heap.size,3,none⟩ (.int .i64 B2.nx)).setCell ⟨w1.heap.size,4,none⟩ (.int .i64 B2.la)).setCell ⟨w1.heap.size,5,none⟩ (.int .i64 B2.ro)).setCell ⟨w1.heap.size,6,none⟩ (.int .i64 B2.now)).setCell ⟨w2.heap.size,0,none⟩ (.int .i64 0)).setCell ⟨w2.heap.size,1,none⟩ (.int .i64 0)).setCell ⟨w2.heap.size,2,none⟩ (.bool false)).setCell ⟨w2.heap.size,3,none⟩ (.slice ta 0 tc)).setCell ⟨w2.heap.size,4,none⟩ (.slice ca 0 cc)).setCell ⟨w2.heap.size,5,none⟩ (.int .i64 0)).setCell ⟨w2.heap.size,6,none⟩ (.bool false)):=⟨_,rfl⟩
 have HXz2:Hid (Cs z2 w1.heap.size [.slice fb B2.fos.length fd,.slice gb B2.gs.length gd,.slice sb B2.ss.length sd,.int .i64 B2.nx,.int .i64 B2.la,.int .i64 B2.ro,.int .i64 B2.now]):=(by rw[hz2];exact(((((((((HX2.out.below hby2).set 0 (.slice fb B2.fos.length fd)).set 1 (.slice gb B2.gs.length gd)).set 2 (.slice sb B2.ss.length sd)).set 3 (.int .i64 B2.nx)).set 4 (.int .i64 B2.la)).set 5 (.int .i64 B2.ro)).set 6 (.int .i64 B2.now))).nb (grown_on (grown_on (grown_on (grown_on (grown_on (grown_on (nb_set _ (w2.heap.size) 0 (.int .i64 0)) (nb_set _ (w2.heap.size) 1 (.int .i64 0))) (nb_set _ (w2.heap.size) 2 (.bool false))) (nb_set _ (w2.heap.size) 3 (.slice ta 0 tc))) (nb_set _ (w2.heap.size) 4 (.slice ca 0 cc))) (nb_set _ (w2.heap.size) 5 (.int .i64 0))) (nb_set _ (w2.heap.size) 6 (.bool false))) (by omega):Cs z2 w1.heap.size _)
 have HAz2:Hid (Cs z2 w2.heap.size [.int .i64 0,.int .i64 0,.bool false,.slice ta 0 tc,.slice ca 0 cc,.int .i64 0,.bool false]):=(by rw[hz2];exact((((((((HAy2.out.nb (grown_on (grown_on (grown_on (grown_on (grown_on (grown_on (nb_set y2 (w1.heap.size) 0 (.slice fb B2.fos.length fd)) (nb_set _ (w1.heap.size) 1 (.slice gb B2.gs.length gd))) (nb_set _ (w1.heap.size) 2 (.slice sb B2.ss.length sd))) (nb_set _ (w1.heap.size) 3 (.int .i64 B2.nx))) (nb_set _ (w1.heap.size) 4 (.int .i64 B2.la))) (nb_set _ (w1.heap.size) 5 (.int .i64 B2.ro))) (nb_set _ (w1.heap.size) 6 (.int .i64 B2.now))) (by omega)).set 0 (.int .i64 0)).set 1 (.int .i64 0)).set 2 (.bool false)).set 3 (.slice ta 0 tc)).set 4 (.slice ca 0 cc)).set 5 (.int .i64 0)).set 6 (.bool false)):Cs z2 w2.heap.size _)
 have HLz2:=hid (show LiesH z2 (.agg #[.slice fb B2.fos.length fd,.slice gb B2.gs.length gd,.slice sb B2.ss.length sd,.int .i64 B2.nx,.int .i64 B2.la,.int .i64 B2.ro,.int .i64 B2.now]) B2 from by rw[hz2];exact((HL2.out.below hby2).nb (grown_on (grown_on (grown_on (grown_on (grown_on (grown_on (nb_set y2 (w1.heap.size) 0 (.slice fb B2.fos.length fd)) (nb_set _ (w1.heap.size) 1 (.slice gb B2.gs.length gd))) (nb_set _ (w1.heap.size) 2 (.slice sb B2.ss.length sd))) (nb_set _ (w1.heap.size) 3 (.int .i64 B2.nx))) (nb_set _ (w1.heap.size) 4 (.int .i64 B2.la))) (nb_set _ (w1.heap.size) 5 (.int .i64 B2.ro))) (nb_set _ (w1.heap.size) 6 (.int .i64 B2.now))) (noStr_hub (HX2.out.below hby2))).nb (grown_on (grown_on (grown_on (grown_on (grown_on (grown_on (nb_set _ (w2.heap.size) 0 (.int .i64 0)) (nb_set _ (w2.heap.size) 1 (.int .i64 0))) (nb_set _ (w2.heap.size) 2 (.bool false))) (nb_set _ (w2.heap.size) 3 (.slice ta 0 tc))) (nb_set _ (w2.heap.size) 4 (.slice ca 0 cc))) (nb_set _ (w2.heap.size) 5 (.int .i64 0))) (nb_set _ (w2.heap.size) 6 (.bool false))) (noStr_ans (HAy2.out.nb (grown_on (grown_on (grown_on (grown_on (grown_on (grown_on (nb_set y2 (w1.heap.size) 0 (.slice fb B2.fos.length fd)) (nb_set _ (w1.heap.size) 1 (.slice gb B2.gs.length gd))) (nb_set _ (w1.heap.size) 2 (.slice sb B2.ss.length sd))) (nb_set _ (w1.heap.size) 3 (.int .i64 B2.nx))) (nb_set _ (w1.heap.size) 4 (.int .i64 B2.la))) (nb_set _ (w1.heap.size) 5 (.int .i64 B2.ro))) (nb_set _ (w1.heap.size) 6 (.int .i64 B2.now))) (by omega))));have hb0y2:=below_tr (below_tr hb0a hb2) hby2;have hb0z2:Below w.heap.size w z2:=by rw[hz2];exact(bs7 (b:=w2.heap.size) (bs7 (b:=w1.heap.size) hb0y2 (hb1.size)) ((by show w.heap.size≤w2.heap.size;have:=(below_tr hb0a hb2).size;omega)))
 go_upto_region 3 with fail;rw[←hy2,←hz2];clear hz2 hy2 p0 p1 p2 p3 p4 p5 p6 f0 f1 f2 f3 f4 f5 f6 HXb;have hsz2:w2.heap.size<z2.heap.size:=HAz2.out.lt;have x0:=HXz2.out.cell 0 rfl;have x1:=HXz2.out.cell 1 rfl;have x2:=HXz2.out.cell 2 rfl;have x3:=HXz2.out.cell 3 rfl;have x4:=HXz2.out.cell 4 rfl;have x5:=HXz2.out.cell 5 rfl;have x6:=HXz2.out.cell 6 rfl;obtain⟨wl,hwl⟩: ∃wl,wl=z2.alloc (.cells #[.int .i64 2,.string ⟨#[120]⟩,.string ⟨#[]⟩,.string ⟨#[49]⟩,.int .i64 0] 54):=⟨_,rfl⟩
 have hbl:Below z2.heap.size z2 wl:=by rw[hwl];exact(Below.refl _ _).alloc (Nat.le_refl _) _
 have HCH:Hid (Cs wl z2.heap.size [.int .i64 2,.string ⟨#[120]⟩,.string ⟨#[]⟩,.string ⟨#[49]⟩,.int .i64 0]):=(by rw[hwl];exact Cs.new z2 [.int .i64 2,.string ⟨#[120]⟩,.string ⟨#[]⟩,.string ⟨#[49]⟩,.int .i64 0] _:Cs wl z2.heap.size _)
 have hb0l:=below_tr hb0z2 hbl;have HXl:=hid (HXz2.out.below hbl);have HAl:=hid (HAz2.out.below hbl);have hsl:=hbl.size;go_wp2_with fail;rw[←hwl];clear hwl x0 x1 x2 x3 x4 x5 x6
 refine(HS2.out wl _ _ (HLz2.out.below hbl) ⟨_,rfl,⟨some ⟨z2.heap.size,0,none⟩,1,rfl,Nat.le_refl _,by decide,fun i hi=>⟨z2.heap.size,0,rfl,HCH.out.lt,by
  match i,hi with
  |0,_=>exact⟨HCH.out.cell 0 rfl,HCH.out.cell 1 rfl,HCH.out.cell 2 rfl,HCH.out.cell 3 rfl,HCH.out.cell 4 rfl⟩⟩⟩⟩).mono ?_
 rintro e w3 ⟨u3,a3,rfl,hl3,hA3,hb3⟩;have HL3:=hid hl3;have HX3:=hid (HXl.out.below hb3);have HB3:=hid (HAl.out.below hb3);obtain⟨fbq,fdq,gbq,gdq,sbq,sdq,rfl⟩:=hl3.shape
 obtain⟨taq,tcq,caq,ccq,rfl⟩:=hA3.shape
 simp only[Jn.zeroP,List.length_nil];have hs3:=hb3.size;clear hl3 hA3;have n1q: ¬w1.heap.size=w3.heap.size:=by omega
 have n2q: ¬w3.heap.size=w1.heap.size:=by omega
 have HXb:=hid (HX3.out.below ((Below.refl w3.heap.size w3).alloc (Nat.le_refl _) (.cells #[.int .i64 0,.int .i64 0,.bool false,.slice none 0 0,.slice none 0 0,.int .i64 0,.bool false] 43)));have p0:=HXb.out.cell 0 rfl;have f0:=HXb.out.fr 0;have p1:=HXb.out.cell 1 rfl;have f1:=HXb.out.fr 1;have p2:=HXb.out.cell 2 rfl;have f2:=HXb.out.fr 2;have p3:=HXb.out.cell 3 rfl;have f3:=HXb.out.fr 3;have p4:=HXb.out.cell 4 rfl;have f4:=HXb.out.fr 4;have p5:=HXb.out.cell 5 rfl;have f5:=HXb.out.fr 5;have p6:=HXb.out.cell 6 rfl;have f6:=HXb.out.fr 6;obtain⟨y3,hy3⟩: ∃y3,y3=w3.alloc (.cells #[.int .i64 0,.int .i64 0,.bool false,.slice none 0 0,.slice none 0 0,.int .i64 0,.bool false] 43):=⟨_,rfl⟩
 have hby3:Below w3.heap.size w3 y3:=by rw[hy3];exact(Below.refl _ _).alloc (Nat.le_refl _) _
 have HAy3:=hid (show Cs y3 w3.heap.size [.int .i64 0,.int .i64 0,.bool false,.slice none 0 0,.slice none 0 0,.int .i64 0,.bool false]from by rw[hy3];exact Cs.new w3 [.int .i64 0,.int .i64 0,.bool false,.slice none 0 0,.slice none 0 0,.int .i64 0,.bool false] _);obtain⟨z3,hz3⟩: ∃z3,z3=((((((((((((((y3.setCell ⟨w1.heap.size,0,none⟩ (.slice fbq B3.fos.length fdq)).setCell ⟨w1.heap.size,1,none⟩ (.slice gbq B3.gs.length gdq)).setCell ⟨w1.heap.size,2,none⟩ (.slice sbq B3.ss.length sdq)).setCell ⟨w1.heap.size,3,none⟩ (.int .i64 B3.nx)).setCell ⟨w1.heap.size,4,none⟩ (.int .i64 B3.la)).setCell ⟨w1.heap.size,5,none⟩ (.int .i64 B3.ro)).setCell ⟨w1.heap.size,6,none⟩ (.int .i64 B3.now)).setCell ⟨w3.heap.size,0,none⟩ (.int .i64 0)).setCell ⟨w3.heap.size,1,none⟩ (.int .i64 1)).setCell ⟨w3.heap.size,2,none⟩ (.bool false)).setCell ⟨w3.heap.size,3,none⟩ (.slice taq 0 tcq)).setCell ⟨w3.heap.size,4,none⟩ (.slice caq 0 ccq)).setCell ⟨w3.heap.size,5,none⟩ (.int .i64 0)).setCell ⟨w3.heap.size,6,none⟩ (.bool false)):=⟨_,rfl⟩
 have HXz3:Hid (Cs z3 w1.heap.size [.slice fbq B3.fos.length fdq,.slice gbq B3.gs.length gdq,.slice sbq B3.ss.length sdq,.int .i64 B3.nx,.int .i64 B3.la,.int .i64 B3.ro,.int .i64 B3.now]):=(by rw[hz3];exact(((((((((HX3.out.below hby3).set 0 (.slice fbq B3.fos.length fdq)).set 1 (.slice gbq B3.gs.length gdq)).set 2 (.slice sbq B3.ss.length sdq)).set 3 (.int .i64 B3.nx)).set 4 (.int .i64 B3.la)).set 5 (.int .i64 B3.ro)).set 6 (.int .i64 B3.now))).nb (grown_on (grown_on (grown_on (grown_on (grown_on (grown_on (nb_set _ (w3.heap.size) 0 (.int .i64 0)) (nb_set _ (w3.heap.size) 1 (.int .i64 1))) (nb_set _ (w3.heap.size) 2 (.bool false))) (nb_set _ (w3.heap.size) 3 (.slice taq 0 tcq))) (nb_set _ (w3.heap.size) 4 (.slice caq 0 ccq))) (nb_set _ (w3.heap.size) 5 (.int .i64 0))) (nb_set _ (w3.heap.size) 6 (.bool false))) (by omega):Cs z3 w1.heap.size _)
 have HAz3:Hid (Cs z3 w3.heap.size [.int .i64 0,.int .i64 1,.bool false,.slice taq 0 tcq,.slice caq 0 ccq,.int .i64 0,.bool false]):=(by rw[hz3];exact((((((((HAy3.out.nb (grown_on (grown_on (grown_on (grown_on (grown_on (grown_on (nb_set y3 (w1.heap.size) 0 (.slice fbq B3.fos.length fdq)) (nb_set _ (w1.heap.size) 1 (.slice gbq B3.gs.length gdq))) (nb_set _ (w1.heap.size) 2 (.slice sbq B3.ss.length sdq))) (nb_set _ (w1.heap.size) 3 (.int .i64 B3.nx))) (nb_set _ (w1.heap.size) 4 (.int .i64 B3.la))) (nb_set _ (w1.heap.size) 5 (.int .i64 B3.ro))) (nb_set _ (w1.heap.size) 6 (.int .i64 B3.now))) (by omega)).set 0 (.int .i64 0)).set 1 (.int .i64 1)).set 2 (.bool false)).set 3 (.slice taq 0 tcq)).set 4 (.slice caq 0 ccq)).set 5 (.int .i64 0)).set 6 (.bool false)):Cs z3 w3.heap.size _)
 have HLz3:=hid (show LiesH z3 (.agg #[.slice fbq B3.fos.length fdq,.slice gbq B3.gs.length gdq,.slice sbq B3.ss.length sdq,.int .i64 B3.nx,.int .i64 B3.la,.int .i64 B3.ro,.int .i64 B3.now]) B3 from by rw[hz3];exact((HL3.out.below hby3).nb (grown_on (grown_on (grown_on (grown_on (grown_on (grown_on (nb_set y3 (w1.heap.size) 0 (.slice fbq B3.fos.length fdq)) (nb_set _ (w1.heap.size) 1 (.slice gbq B3.gs.length gdq))) (nb_set _ (w1.heap.size) 2 (.slice sbq B3.ss.length sdq))) (nb_set _ (w1.heap.size) 3 (.int .i64 B3.nx))) (nb_set _ (w1.heap.size) 4 (.int .i64 B3.la))) (nb_set _ (w1.heap.size) 5 (.int .i64 B3.ro))) (nb_set _ (w1.heap.size) 6 (.int .i64 B3.now))) (noStr_hub (HX3.out.below hby3))).nb (grown_on (grown_on (grown_on (grown_on (grown_on (grown_on (nb_set _ (w3.heap.size) 0 (.int .i64 0)) (nb_set _ (w3.heap.size) 1 (.int .i64 1))) (nb_set _ (w3.heap.size) 2 (.bool false))) (nb_set _ (w3.heap.size) 3 (.slice taq 0 tcq))) (nb_set _ (w3.heap.size) 4 (.slice caq 0 ccq))) (nb_set _ (w3.heap.size) 5 (.int .i64 0))) (nb_set _ (w3.heap.size) 6 (.bool false))) (noStr_ans (HAy3.out.nb (grown_on (grown_on (grown_on (grown_on (grown_on (grown_on (nb_set y3 (w1.heap.size) 0 (.slice fbq B3.fos.length fdq)) (nb_set _ (w1.heap.size) 1 (.slice gbq B3.gs.length gdq))) (nb_set _ (w1.heap.size) 2 (.slice sbq B3.ss.length sdq))) (nb_set _ (w1.heap.size) 3 (.int .i64 B3.nx))) (nb_set _ (w1.heap.size) 4 (.int .i64 B3.la))) (nb_set _ (w1.heap.size) 5 (.int .i64 B3.ro))) (nb_set _ (w1.heap.size) 6 (.int .i64 B3.now))) (by omega))));have hb0y3:=below_tr (below_tr hb0l hb3) hby3;have hb0z3:Below w.heap.size w z3:=by rw[hz3];exact(bs7 (b:=w3.heap.size) (bs7 (b:=w1.heap.size) hb0y3 (hb1.size)) ((by show w.heap.size≤w3.heap.size;have:=(below_tr hb0l hb3).size;omega)))
 have HBz3:Hid (Cs z3 w2.heap.size [.int .i64 0,.int .i64 0,.bool false,.slice ta 0 tc,.slice ca 0 cc,.int .i64 0,.bool false]):=(by rw[hz3];exact((HB3.out.below hby3).nb (grown_on (grown_on (grown_on (grown_on (grown_on (grown_on (nb_set y3 (w1.heap.size) 0 (.slice fbq B3.fos.length fdq)) (nb_set _ (w1.heap.size) 1 (.slice gbq B3.gs.length gdq))) (nb_set _ (w1.heap.size) 2 (.slice sbq B3.ss.length sdq))) (nb_set _ (w1.heap.size) 3 (.int .i64 B3.nx))) (nb_set _ (w1.heap.size) 4 (.int .i64 B3.la))) (nb_set _ (w1.heap.size) 5 (.int .i64 B3.ro))) (nb_set _ (w1.heap.size) 6 (.int .i64 B3.now))) (by omega)).nb (grown_on (grown_on (grown_on (grown_on (grown_on (grown_on (nb_set _ (w3.heap.size) 0 (.int .i64 0)) (nb_set _ (w3.heap.size) 1 (.int .i64 1))) (nb_set _ (w3.heap.size) 2 (.bool false))) (nb_set _ (w3.heap.size) 3 (.slice taq 0 tcq))) (nb_set _ (w3.heap.size) 4 (.slice caq 0 ccq))) (nb_set _ (w3.heap.size) 5 (.int .i64 0))) (nb_set _ (w3.heap.size) 6 (.bool false))) (by omega):Cs z3 w2.heap.size _)
 go_upto_region 4 with fail;rw[←hy3,←hz3];clear hz3 hy3 p0 p1 p2 p3 p4 p5 p6 f0 f1 f2 f3 f4 f5 f6 HXb;have hsz3:w3.heap.size<z3.heap.size:=HAz3.out.lt;have x0:=HXz3.out.cell 0 rfl;have x1:=HXz3.out.cell 1 rfl;have x2:=HXz3.out.cell 2 rfl;have x3:=HXz3.out.cell 3 rfl;have x4:=HXz3.out.cell 4 rfl;have x5:=HXz3.out.cell 5 rfl;have x6:=HXz3.out.cell 6 rfl;go_wp2_with fail;refine(HS3.out z3 _ HLz3.out).mono ?_
 rintro e w4 ⟨ta4,tc4,rfl,hb4⟩;clear x0 x1 x2 x3 x4 x5 x6;have hb04:=below_tr hb0z3 hb4;have k0:=(HBz3.out.below hb4).cell 0 rfl;have m0:=(HAz3.out.below hb4).cell 0 rfl;have m1:=(HAz3.out.below hb4).cell 1 rfl;go_wp2_with fail;go_ret;exact⟨rfl,hb04⟩
set_option maxHeartbeats 1000000 in
theorem same_yes (L:List En) (v u:Value) (w:World) (hv:Lies w v L) (hu:Lies w u L):
    Calls Tryz.prog 62 #[v,u] w fun e w'=>e= .returned (.bool true)∧Below w.heap.size w w':=by
 obtain⟨a,cap,rfl,hcap,hcap2,hL⟩:=hv
 have HL:Hid (∀i (h:i<L.length),∃b o,a=some ⟨b,o,none⟩∧b<w.heap.size∧EnAt w b (o+i*4) L[i]):=hL;obtain⟨a',cap',rfl,hcap',_,hL'⟩:=hu
 have HL':Hid (∀i (h:i<L.length),∃b o,a'=some ⟨b,o,none⟩∧b<w.heap.size∧EnAt w b (o+i*4) L[i]):=hL';clear hL hL';go_enter Tryz.func62,Tryz.ntmps62
 go_wp2_with fail;go_loopw [5] (fun i wr=> ∃k:Nat,k≤L.length∧i= .int .i64 k∧Below w.heap.size w wr) (fun i _=>L.length-(intOf i).toNat)
 case atStart=>exact⟨0,Nat.zero_le _,rfl,Below.refl _ _⟩
 case round=>
  obtain⟨k,hk,rfl,hbel⟩:=hrel
  by_cases hlt:k<L.length
  · obtain⟨b,o,rfl,hb,he⟩:=HL.out k hlt
    obtain⟨b',o',rfl,hb',he'⟩:=HL'.out k hlt
    obtain⟨c0,c1,c2,c3⟩:=he.below hb hbel
    obtain⟨d0,d1,d2,d3⟩:=he'.below hb' hbel
    go_wp2_with fail;go_region
    go_wp2_with fail;go_roundw
    case rel=>exact⟨k+1,by omega,by simp,hbel.drew⟩
    case measure=>simp[intOf];omega
  · go_wp2_with fail
    go_ret;exact⟨rfl,hbel⟩
--@if tetherpost/tetherpostlaw.treeIs
set_option maxHeartbeats 1000000 in
theorem sameC_yes (L:List Pp.Ch) (v u:Value) (w:World) (hv:LiesC w v L) (hu:LiesC w u L):
    Calls Tryz.prog 107 #[v,u] w fun e w'=>e= .returned (.bool true)∧Below w.heap.size w w':=by
 obtain⟨a,cap,rfl,hcap,hcap2,hL⟩:=hv
 have HL:Hid (∀i (h:i<L.length),∃b o,a=some ⟨b,o,none⟩∧b<w.heap.size∧ChAt w b (o+i*5) L[i]):=hL;obtain⟨a',cap',rfl,hcap',_,hL'⟩:=hu
 have HL':Hid (∀i (h:i<L.length),∃b o,a'=some ⟨b,o,none⟩∧b<w.heap.size∧ChAt w b (o+i*5) L[i]):=hL';clear hL hL';go_enter Tryz.func107,Tryz.ntmps107
 go_wp2_with fail;go_loopw [5] (fun i wr=> ∃k:Nat,k≤L.length∧i= .int .i64 k∧Below w.heap.size w wr) (fun i _=>L.length-(intOf i).toNat)
 case atStart=>exact⟨0,Nat.zero_le _,rfl,Below.refl _ _⟩
 case round=>
  obtain⟨k,hk,rfl,hbel⟩:=hrel
  by_cases hlt:k<L.length
  · obtain⟨b,o,rfl,hb,he⟩:=HL.out k hlt
    obtain⟨b',o',rfl,hb',he'⟩:=HL'.out k hlt
    obtain⟨c0,c1,c2,c3,c4⟩:=he.below hb hbel
    obtain⟨d0,d1,d2,d3,d4⟩:=he'.below hb' hbel
    go_wp2_with fail;go_region
    go_wp2_with fail;go_roundw
    case rel=>exact⟨k+1,by omega,by simp,hbel.drew⟩
    case measure=>simp[intOf];omega
  · go_wp2_with fail
    go_ret;exact⟨rfl,hbel⟩
set_option maxRecDepth 100000 in
set_option maxHeartbeats 4000000 in
theorem sameO_yes (L:List Co) (v u:Value) (w:World) (hv:LiesO w v L) (hu:LiesO w u L):
    Calls Tryz.prog 63 #[v,u] w fun e w'=>e= .returned (.bool true)∧Below w.heap.size w w':=by
 obtain⟨a,cap,rfl,hcap,hcap2,hL⟩:=hv
 have HL:Hid (∀i (h:i<L.length),∃b o,a=some ⟨b,o,none⟩∧b<w.heap.size∧CoAt w b (o+i*3) L[i]):=hL;obtain⟨a',cap',rfl,hcap',_,hL'⟩:=hu
 have HL':Hid (∀i (h:i<L.length),∃b o,a'=some ⟨b,o,none⟩∧b<w.heap.size∧CoAt w b (o+i*3) L[i]):=hL';clear hL hL';go_enter Tryz.func63,Tryz.ntmps63
 go_wp2_with fail;go_loopw [5] (fun i wr=> ∃k:Nat,k≤L.length∧i= .int .i64 k∧Below w.heap.size w wr) (fun i _=>L.length-(intOf i).toNat)
 case atStart=>exact⟨0,Nat.zero_le _,rfl,Below.refl _ _⟩
 case round=>
  obtain⟨k,hk,rfl,hbel⟩:=hrel
  by_cases hlt:k<L.length
  · obtain⟨b,o,rfl,hb,he⟩:=HL.out k hlt
    obtain⟨b',o',rfl,hb',he'⟩:=HL'.out k hlt
    obtain⟨c0,c1,x,c2,hx⟩:=he.below hb hbel
    obtain⟨d0,d1,y,d2,hy⟩:=he'.below hb' hbel
    have hsz:=hbel.size;have hbl:b<wr.heap.size:=by omega
    have hbl':b'<wr.heap.size:=by omega
    generalize L[k]=ck at*;obtain⟨nu,ke,ch⟩:=ck
    simp only at c0 c1 hx d0 d1 hy;have HX:=hid hx;have HY:=hid hy;clear hx hy he he';go_wp2_with fail
    go_region_held3 (fun W=>W.cell? ⟨b,o+k*3,none⟩=some (.int .i64 nu)∧W.cell? ⟨b,o+k*3+1,none⟩=some (.string ke)∧W.cell? ⟨b,o+k*3+2,none⟩=some x∧W.cell? ⟨b',o'+k*3,none⟩=some (.int .i64 nu)∧W.cell? ⟨b',o'+k*3+1,none⟩=some (.string ke)∧W.cell? ⟨b',o'+k*3+2,none⟩=some y) (go_keep) (first
     |(go_at_call 107;refine(sameC_yes ch x y _ (HX.out.below (Below.refl _ _).drew) (HY.out.below (Below.refl _ _).drew)).mono ?_;rintro e wa ⟨rfl,hba⟩;have hza:Below wr.heap.size wr wa:=((Below.refl _ _).drew).trans hba;have j0:=(hza.cell (p:=⟨b,o+k*3,none⟩) hbl).trans c0;have j1:=(hza.cell (p:=⟨b,o+k*3+1,none⟩) hbl).trans c1;have j2:=(hza.cell (p:=⟨b,o+k*3+2,none⟩) hbl).trans c2;have i0:=(hza.cell (p:=⟨b',o'+k*3,none⟩) hbl').trans d0;have i1:=(hza.cell (p:=⟨b',o'+k*3+1,none⟩) hbl').trans d1;have i2:=(hza.cell (p:=⟨b',o'+k*3+2,none⟩) hbl').trans d2))
    have hb2:=below_tr hbel hza;go_wp2_with fail;go_roundw
    case rel=>exact⟨k+1,by omega,by simp,hb2⟩
    case measure=>simp[intOf];omega
  · go_wp2_with fail
    go_ret;exact⟨rfl,hbel⟩
set_option maxRecDepth 100000 in
set_option maxHeartbeats 2000000 in
theorem sameJ_yes (J:Jo) (v u:Value) (w:World) (hv:LiesJ w v J) (hu:LiesJ w u J):
    Calls Tryz.prog 30 #[v,u] w fun e w'=>e= .returned (.bool true)∧Below w.heap.size w w':=by
 obtain⟨vb,vc,rfl,hvb,hvc⟩:=hv
 obtain⟨ub,uc,rfl,hub,huc⟩:=hu
 have HVB:=hid hvb;have HVC:=hid hvc;have HUB:=hid hub;have HUC:=hid huc;obtain⟨a1,b1,rfl,_⟩:=hvb
 obtain⟨a2,b2,rfl,_⟩:=hvc
 obtain⟨a3,b3,rfl,_⟩:=hub
 obtain⟨a4,b4,rfl,_⟩:=huc
 obtain⟨wz,hwz⟩: ∃wz,wz=(w.alloc (.cells #[.slice a1 J.base.length b1,.int .i64 J.first,.slice a2 J.cos.length b2] 88)).alloc (.cells #[.slice a3 J.base.length b3,.int .i64 J.first,.slice a4 J.cos.length b4] 88):=⟨_,rfl⟩
 have hbz:Below w.heap.size w wz:=by rw[hwz];exact((Below.refl _ _).alloc (Nat.le_refl _) _).alloc (by simp) _
 have HBX:=hid (show Cs wz w.heap.size [.slice a1 J.base.length b1,.int .i64 J.first,.slice a2 J.cos.length b2]from by rw[hwz];exact(Cs.new w [.slice a1 J.base.length b1,.int .i64 J.first,.slice a2 J.cos.length b2] _).below ((Below.refl _ _).alloc (Nat.le_refl _) _))
 have HBY:=hid (show Cs wz (w.heap.size+1) [.slice a3 J.base.length b3,.int .i64 J.first,.slice a4 J.cos.length b4]from by
  have:=Cs.new (w.alloc (.cells #[.slice a1 J.base.length b1,.int .i64 J.first,.slice a2 J.cos.length b2] 88)) [.slice a3 J.base.length b3,.int .i64 J.first,.slice a4 J.cos.length b4] 88
  rw[hwz];simpa using this)
 go_enter Tryz.func30,Tryz.ntmps30
 go_wp2_with fail;rw[←hwz];clear hwz;refine(same_yes J.base _ _ _ (HVB.out.below hbz) (HUB.out.below hbz)).mono ?_
 rintro e w1 ⟨rfl,hb1⟩;have x1:=(HBX.out.below hb1).cell 1 rfl;have x2:=(HBX.out.below hb1).cell 2 rfl;have y1:=(HBY.out.below hb1).cell 1 rfl;have y2:=(HBY.out.below hb1).cell 2 rfl;have hb01:=below_tr hbz hb1;go_wp2_with fail;refine(sameO_yes J.cos _ _ _ (HVC.out.below hb01) (HUC.out.below hb01)).mono ?_
 rintro e w2 ⟨rfl,hb2⟩;have hb02:=below_tr hb01 hb2;go_wp2_with fail;go_ret;exact⟨rfl,hb02⟩
set_option maxRecDepth 100000 in
set_option maxHeartbeats 2000000 in
theorem samePg_yes (P:Pg) (v u:Value) (w:World) (hv:LiesPg w v P) (hu:LiesPg w u P):
    Calls Tryz.prog 27 #[v,u] w fun e w'=>e= .returned (.bool true)∧Below w.heap.size w w':=by
 obtain⟨vb,vc,rfl,hvb,hvc⟩:=hv
 obtain⟨ub,uc,rfl,hub,huc⟩:=hu
 have HVB:=hid hvb;have HVC:=hid hvc;have HUB:=hid hub;have HUC:=hid huc;obtain⟨a1,b1,rfl,_⟩:=hvb
 obtain⟨a2,b2,rfl,_⟩:=hvc
 obtain⟨a3,b3,rfl,_⟩:=hub
 obtain⟨a4,b4,rfl,_⟩:=huc
 obtain⟨wz,hwz⟩: ∃wz,wz=(w.alloc (.cells #[.bool P.reset,.slice a1 P.tree.length b1,.slice a2 P.cos.length b2,.int .i64 P.cur,.bool P.more] 41)).alloc (.cells #[.bool P.reset,.slice a3 P.tree.length b3,.slice a4 P.cos.length b4,.int .i64 P.cur,.bool P.more] 41):=⟨_,rfl⟩
 have hbz:Below w.heap.size w wz:=by rw[hwz];exact((Below.refl _ _).alloc (Nat.le_refl _) _).alloc (by simp) _
 have HBX:=hid (show Cs wz w.heap.size [.bool P.reset,.slice a1 P.tree.length b1,.slice a2 P.cos.length b2,.int .i64 P.cur,.bool P.more]from by rw[hwz];exact(Cs.new w [.bool P.reset,.slice a1 P.tree.length b1,.slice a2 P.cos.length b2,.int .i64 P.cur,.bool P.more] _).below ((Below.refl _ _).alloc (Nat.le_refl _) _))
 have HBY:=hid (show Cs wz (w.heap.size+1) [.bool P.reset,.slice a3 P.tree.length b3,.slice a4 P.cos.length b4,.int .i64 P.cur,.bool P.more]from by
  have:=Cs.new (w.alloc (.cells #[.bool P.reset,.slice a1 P.tree.length b1,.slice a2 P.cos.length b2,.int .i64 P.cur,.bool P.more] 41)) [.bool P.reset,.slice a3 P.tree.length b3,.slice a4 P.cos.length b4,.int .i64 P.cur,.bool P.more] 41
  rw[hwz];simpa using this)
 go_enter Tryz.func27,Tryz.ntmps27
 go_wp2_with fail;rw[←hwz];clear hwz;refine(same_yes P.tree _ _ _ (HVB.out.below hbz) (HUB.out.below hbz)).mono ?_
 rintro e w1 ⟨rfl,hb1⟩;have HX1:=hid (HBX.out.below hb1);have HY1:=hid (HBY.out.below hb1);have x2:=HX1.out.cell 2 rfl;have y2:=HY1.out.cell 2 rfl;have hb01:=below_tr hbz hb1;go_wp2_with fail;refine(sameO_yes P.cos _ _ _ (HVC.out.below hb01) (HUC.out.below hb01)).mono ?_
 rintro e w2 ⟨rfl,hb2⟩;have x3:=(HX1.out.below hb2).cell 3 rfl;have y3:=(HY1.out.below hb2).cell 3 rfl;have x4:=(HX1.out.below hb2).cell 4 rfl;have y4:=(HY1.out.below hb2).cell 4 rfl;have hb02:=below_tr hb01 hb2;go_wp2_with fail;go_ret;exact⟨rfl,hb02⟩
set_option maxRecDepth 100000 in
set_option maxHeartbeats 4000000 in
theorem sameAnswer_yes (A:An) (v u:Value) (w:World) (hv:LiesA w v A) (hu:LiesA w u A):
    Calls Tryz.prog 10 #[v,u] w fun e w'=>e= .returned (.bool true)∧Below w.heap.size w w':=by
 obtain⟨vt,vc,rfl,lt,lc⟩:=hv
 obtain⟨ut,uc,rfl,mt,mc⟩:=hu
 have HVT:=hid lt;have HVC:=hid lc;have HUT:=hid mt;have HUC:=hid mc;obtain⟨a1,b1,rfl,_⟩:=lt
 obtain⟨a2,b2,rfl,_⟩:=lc
 obtain⟨a3,b3,rfl,_⟩:=mt
 obtain⟨a4,b4,rfl,_⟩:=mc
 obtain⟨wa,hwa⟩: ∃wa,wa=w.alloc (.cells #[.int .i64 A.err,.int .i64 A.num,.bool A.pg.reset,.slice a1 A.pg.tree.length b1,.slice a2 A.pg.cos.length b2,.int .i64 A.pg.cur,.bool A.pg.more] 43):=⟨_,rfl⟩
 obtain⟨wz,hwz⟩: ∃wz,wz=wa.alloc (.cells #[.int .i64 A.err,.int .i64 A.num,.bool A.pg.reset,.slice a3 A.pg.tree.length b3,.slice a4 A.pg.cos.length b4,.int .i64 A.pg.cur,.bool A.pg.more] 43):=⟨_,rfl⟩
 have sa1:wa.heap.size=w.heap.size+1:=by rw[hwa];simp
 have bwa:Below w.heap.size w wa:=by rw[hwa];exact(Below.refl _ _).alloc (Nat.le_refl _) _
 have bwz:Below wa.heap.size wa wz:=by rw[hwz];exact(Below.refl _ _).alloc (Nat.le_refl _) _
 have hbz:Below w.heap.size w wz:=below_tr bwa bwz;have HBX:Hid (Cs wz w.heap.size [.int .i64 A.err,.int .i64 A.num,.bool A.pg.reset,.slice a1 A.pg.tree.length b1,.slice a2 A.pg.cos.length b2,.int .i64 A.pg.cur,.bool A.pg.more]):=((by rw[hwa];exact Cs.new w [.int .i64 A.err,.int .i64 A.num,.bool A.pg.reset,.slice a1 A.pg.tree.length b1,.slice a2 A.pg.cos.length b2,.int .i64 A.pg.cur,.bool A.pg.more] _:Cs wa w.heap.size [.int .i64 A.err,.int .i64 A.num,.bool A.pg.reset,.slice a1 A.pg.tree.length b1,.slice a2 A.pg.cos.length b2,.int .i64 A.pg.cur,.bool A.pg.more]).below bwz:Cs wz w.heap.size _)
 have HBY:Hid (Cs wz (w.heap.size+1) [.int .i64 A.err,.int .i64 A.num,.bool A.pg.reset,.slice a3 A.pg.tree.length b3,.slice a4 A.pg.cos.length b4,.int .i64 A.pg.cur,.bool A.pg.more]):=(by rw[←sa1,hwz];exact Cs.new wa [.int .i64 A.err,.int .i64 A.num,.bool A.pg.reset,.slice a3 A.pg.tree.length b3,.slice a4 A.pg.cos.length b4,.int .i64 A.pg.cur,.bool A.pg.more] _:Cs wz (w.heap.size+1) _)
 have hwzz:(w.alloc (.cells #[.int .i64 A.err,.int .i64 A.num,.bool A.pg.reset,.slice a1 A.pg.tree.length b1,.slice a2 A.pg.cos.length b2,.int .i64 A.pg.cur,.bool A.pg.more] 43)).alloc (.cells #[.int .i64 A.err,.int .i64 A.num,.bool A.pg.reset,.slice a3 A.pg.tree.length b3,.slice a4 A.pg.cos.length b4,.int .i64 A.pg.cur,.bool A.pg.more] 43)=wz:=by rw[hwz,hwa]
 have HWZ:=hid hwzz;clear hwa hwz bwa bwz sa1 hwzz;have x0:=HBX.out.cell 0 rfl;have x1:=HBX.out.cell 1 rfl;have x2:=HBX.out.cell 2 rfl;have x3:=HBX.out.cell 3 rfl;have x4:=HBX.out.cell 4 rfl;have x5:=HBX.out.cell 5 rfl;have x6:=HBX.out.cell 6 rfl;have y0:=HBY.out.cell 0 rfl;have y1:=HBY.out.cell 1 rfl;have y2:=HBY.out.cell 2 rfl;have y3:=HBY.out.cell 3 rfl;have y4:=HBY.out.cell 4 rfl;have y5:=HBY.out.cell 5 rfl;have y6:=HBY.out.cell 6 rfl;go_enter Tryz.func10,Tryz.ntmps10
 go_upto_region 1 with fail;rw[HWZ.out];clear HWZ;go_wp2_with fail;refine(samePg_yes A.pg _ _ _ ⟨_,_,rfl,HVT.out.below hbz,HVC.out.below hbz⟩ ⟨_,_,rfl,HUT.out.below hbz,HUC.out.below hbz⟩).mono ?_
 rintro e w1 ⟨rfl,hb1⟩;have hb01:=below_tr hbz hb1;go_wp2_with fail;go_ret;exact⟨rfl,hb01⟩
set_option maxHeartbeats 1000000 in
theorem sameGrants_yes (G:List Gr) (v u:Value) (w:World) (hv:LiesG w v G) (hu:LiesG w u G):
    Calls Tryz.prog 28 #[v,u] w fun e w'=>e= .returned (.bool true)∧Below w.heap.size w w':=by
 obtain⟨a,cap,rfl,hcap,hcap2,hL⟩:=hv
 have HL:Hid (∀i (h:i<G.length),∃b o,a=some ⟨b,o,none⟩∧b<w.heap.size∧GrAt w b (o+i*3) G[i]):=hL;obtain⟨a',cap',rfl,hcap',_,hL'⟩:=hu
 have HL':Hid (∀i (h:i<G.length),∃b o,a'=some ⟨b,o,none⟩∧b<w.heap.size∧GrAt w b (o+i*3) G[i]):=hL';clear hL hL';go_enter Tryz.func28,Tryz.ntmps28
 go_wp2_with fail;go_loopw [5] (fun i wr=> ∃k:Nat,k≤G.length∧i= .int .i64 k∧Below w.heap.size w wr) (fun i _=>G.length-(intOf i).toNat)
 case atStart=>exact⟨0,Nat.zero_le _,rfl,Below.refl _ _⟩
 case round=>
  obtain⟨k,hk,rfl,hbel⟩:=hrel
  by_cases hlt:k<G.length
  · obtain⟨b,o,rfl,hb,he⟩:=HL.out k hlt
    obtain⟨b',o',rfl,hb',he'⟩:=HL'.out k hlt
    obtain⟨c0,c1,c2⟩:=he.below hb hbel
    obtain⟨d0,d1,d2⟩:=he'.below hb' hbel
    go_wp2_with fail;go_region
    go_wp2_with fail;go_roundw
    case rel=>exact⟨k+1,by omega,by simp,hbel.drew⟩
    case measure=>simp[intOf];omega
  · go_wp2_with fail
    go_ret;exact⟨rfl,hbel⟩
end Go.Proofs.YtppdfeehhnofaaaGreatDoor
