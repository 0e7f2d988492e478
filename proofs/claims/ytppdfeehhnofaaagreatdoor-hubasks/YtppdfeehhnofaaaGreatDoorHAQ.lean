/- A hub that passes Check, served: what hub.serving answers. -/
import Derived.Test.YtppdfeehhnofaaaGreatDoorHAM
import Derived.Test.YtppdfeehhnofaaaGreatDoorHAN
import Derived.Test.YtppdfeehhnofaaaGreatDoorHAO
import Derived.Test.YtppdfeehhnofaaaGreatDoorHAP
import Derived.Test.YtppdfeehhnofaaaGreatDoorHAB
import Derived.Test.YtppdfeehhnofaaaGreatDoorHAJ
import Derived.Test.YtppdfeehhnofaaaGreatDoorHAD
import Derived.Test.YtppdfeehhnofaaaGreatDoorHAI
set_option linter.unusedSimpArgs false
set_option linter.unusedVariables false
namespace Go.Proofs.YtppdfeehhnofaaaGreatDoor
open Go.RowKit Go.Maps Go.WideMaps

theorem LiesS.nb {W W':World} {v:Value} {L:List Se} {g:Nat} (h:LiesS W v L) (hw:W.grownBy W' (some g)) (hn:NoStr W g):LiesS W' v L:=by
 obtain⟨a,cap,hv,h1,h2,h3⟩:=h
 refine⟨a,cap,hv,h1,h2,fun i hi=>?_⟩
 obtain⟨b,o,ha,hb,he⟩:=h3 i hi
 have hne:b≠g:=fun e=>hn _ _ (e▸he.2.1)
 have c:=cell_nb hw hb hne;exact⟨b,o,ha,Nat.lt_of_lt_of_le hb hw.size,(c _).trans he.1,(c _).trans he.2.1,(c _).trans he.2.2.1,(c _).trans he.2.2.2.1,(c _).trans he.2.2.2.2⟩
namespace Hu
/-- What Check answers of a hub. -/
def hE (H:Hb):Int:=if H.now<0∨1099511627776<H.now then 3 else if¬cfE H.fos=0 then cfE H.fos else if¬Pp.gchE H.gs=0 then Pp.gchE H.gs else if¬telE H.fos H.gs=0 then telE H.fos H.gs else Pp.uchE H.ss H.nx H.la H.ro
theorem h_now {H:Hb} (h:H.now<0∨1099511627776<H.now):hE H=3:=by rw[hE,if_pos h]
theorem h_fos {H:Hb} (h: ¬(H.now<0∨1099511627776<H.now)) (h1: ¬cfE H.fos=0):hE H=cfE H.fos:=by rw[hE,if_neg h,if_pos h1]
theorem h_gs {H:Hb} (h: ¬(H.now<0∨1099511627776<H.now)) (h1:cfE H.fos=0) (h2: ¬Pp.gchE H.gs=0):hE H=Pp.gchE H.gs:=by rw[hE,if_neg h,if_neg (fun x=>x h1),if_pos h2]
theorem h_tel {H:Hb} (h: ¬(H.now<0∨1099511627776<H.now)) (h1:cfE H.fos=0) (h2:Pp.gchE H.gs=0) (h3: ¬telE H.fos H.gs=0):hE H=telE H.fos H.gs:=by rw[hE,if_neg h,if_neg (fun x=>x h1),if_neg (fun x=>x h2),if_pos h3]
theorem h_up {H:Hb} (h: ¬(H.now<0∨1099511627776<H.now)) (h1:cfE H.fos=0) (h2:Pp.gchE H.gs=0) (h3:telE H.fos H.gs=0):hE H=Pp.uchE H.ss H.nx H.la H.ro:=by rw[hE,if_neg h,if_neg (fun x=>x h1),if_neg (fun x=>x h2),if_neg (fun x=>x h3)]
theorem h_parts {H:Hb} (h:hE H=0): ¬(H.now<0∨1099511627776<H.now)∧cfE H.fos=0∧Pp.gchE H.gs=0∧telE H.fos H.gs=0∧Pp.uchE H.ss H.nx H.la H.ro=0:=by
 by_cases a:H.now<0∨1099511627776<H.now
 · rw[h_now a]at h;cases h
 · by_cases b:cfE H.fos=0
   · by_cases c:Pp.gchE H.gs=0
     · by_cases d:telE H.fos H.gs=0
       · rw[h_up a b c d]at h;exact⟨a,b,c,d,h⟩
       · rw[h_tel a b c d]at h;exact absurd h d
     · rw[h_gs a b c]at h;exact absurd h c
   · rw[h_fos a b]at h;exact absurd h b
theorem cf_parts {L:List Sh} (h:cfE L=0):L.length≤8∧shsE L=0∧risB L=true:=by
 rw[cfE]at h;by_cases a:8<L.length
 · rw[if_pos a]at h;cases h
 · rw[if_neg a]at h
   by_cases b:shsE L=0
   · rw[if_neg (fun x=>x b)]at h
     cases c:risB L with
     |true=>exact⟨by omega,b,rfl⟩
     |false=>rw[c]at h;simp at h
   · rw[if_pos b]at h;exact absurd h b
theorem sh_parts {s:Sh} (h:shE s=0):Pp.nmsE [s.na]=0∧Jn.chkE s.jo=0:=by
 rw[shE]at h;by_cases a:Pp.nmsE [s.na]=0
 · rw[if_neg (fun x=>x a)]at h;exact⟨a,h⟩
 · rw[if_pos a]at h;exact absurd h a
theorem cf_mem {L:List Sh} (h:cfE L=0) {s:Sh} (hs:s∈L):Pp.nmsE [s.na]=0∧Jn.chkE s.jo=0:=by
 obtain⟨i,hi,rfl⟩:=List.getElem_of_mem hs
 exact sh_parts (shs_zero.1 (cf_parts h).2.1 i hi)
theorem jo_small {J:Jo} (h:Jn.chkE J=0):J.cos.length≤1000∧J.base.length≤1000∧ ∀c∈J.cos,c.ch.length≤1000000000:=by
 obtain⟨h1,_,h3,_⟩:=Jn.chk_parts h
 have hl:=((Pp.good_iff _).1 h1).len;exact⟨by omega,by omega,fun c hc=>by have:=Jn.chk_few h c hc;omega⟩
end Hu

/-- A server of a hub, its own: its box at g, its map at mb, its rows in blocks from B on. -/
def Sv (B:Nat) (w:World) (g mb:Nat) (vf vg vs:Value) (H:Hb):Prop:=Cs w g [vf,vg,vs,.int .i64 H.nx,.int .i64 H.la,.int .i64 H.ro,.int .i64 H.now,.map (some mb)]∧OwnF B w vf H.fos∧(LiesG w vg H.gs∧Fr B vg)∧(LiesS w vs H.ss∧Fr B vs)∧(∀b,vf.ownBlock=some b→Fr (b+1) vg∧Fr (b+1) vs)∧Rm w vf
def SvM (w:World) (mb n:Nat) (H:Hb):Prop:=w.ownsMap Tryz.prog 9 (plainElem Tryz.prog 3) mb n (Jn.D (Hu.told H.fos H.gs))
theorem Sv.below {B:Nat} {w w':World} {g mb:Nat} {vf vg vs:Value} {H:Hb} (h:Sv B w g mb vf vg vs H) (hw:Below w.heap.size w w'):Sv B w' g mb vf vg vs H:=by
 obtain⟨h1,h2,⟨h3,h4⟩,⟨h5,h6⟩,h7,h8⟩:=h
 exact⟨h1.below hw,h2.below hw,⟨h3.below hw,h4⟩,⟨h5.below hw,h6⟩,h7,h8.below hw⟩
theorem SvM.below {w w':World} {mb n:Nat} {H:Hb} (h:SvM w mb n H) (hw:Below w.heap.size w w'):SvM w' mb n H:=
 World.ownsMap.kept (row:=none) h ⟨hw.os,hw.tape,hw.output,hw.size,fun k hk _=>hw.block k hk⟩ (by simp)
theorem SvM.nb {w w':World} {mb n g:Nat} {H:Hb} (h:SvM w mb n H) (hw:w.grownBy w' (some g)) (hne:mb≠g):SvM w' mb n H:=
 World.ownsMap.kept (row:=some g) h hw (fun e=>hne (by injection e))
set_option maxRecDepth 100000 in
set_option maxHeartbeats 4000000 in
theorem serving_any (H:Hb) (v:Value) (w:World) (hv:LiesH w v H) (hs:SizedH H):
    Calls Tryz.prog 20 #[v] w fun e w'=> ∃p,e= .returned (.tuple #[p,.int .i64 (Hu.hE H)])∧(Hu.hE H=0→p= .pointer (some ⟨w.heap.size+1+1,0,none⟩)∧ ∃B vf vg vs,w.heap.size+1+1+1≤B∧B≤w'.heap.size∧Sv B w' (w.heap.size+1+1) (w.heap.size+1) vf vg vs H∧SvM w' (w.heap.size+1) H.gs.length H)∧(¬Hu.hE H=0→p= .pointer none)∧Below w.heap.size w w':=by
 obtain⟨fos,gs,ss,nx,la,ro,now⟩:=H
 have HV:=hid hv;obtain⟨vf,vg,vs,rfl,lf,lg,ls⟩:=hv
 simp only at lf lg ls;obtain⟨sf,sg,ssz⟩:=hs
 simp only at sf sg ssz;have HLF:=hid lf;have HLG:=hid lg;have HLS:=hid ls;have HSF:=hid sf;have HSG:=hid sg;have HSS:=hid ssz;obtain⟨fa,fc,rfl,_⟩:=lf
 obtain⟨ga,gc,rfl,_⟩:=lg
 obtain⟨sa,sc,rfl,_⟩:=ls
 clear sf sg ssz;have hmm:=Tryz.makeNumbers;obtain⟨wa,hwa⟩: ∃wa,wa=w.alloc (.cells #[.slice fa fos.length fc,.slice ga gs.length gc,.slice sa ss.length sc,.int .i64 nx,.int .i64 la,.int .i64 ro,.int .i64 now] 28):=⟨_,rfl⟩
 obtain⟨wb,hwb⟩: ∃wb,wb=wa.alloc (.map #[] 0):=⟨_,rfl⟩
 obtain⟨wz,hwz⟩: ∃wz,wz=wb.alloc (.cells #[.slice fa fos.length fc,.slice ga gs.length gc,.slice sa ss.length sc,.int .i64 nx,.int .i64 la,.int .i64 ro,.int .i64 now,.map (some (w.heap.size+1))] 78):=⟨_,rfl⟩
 have sa1:wa.heap.size=w.heap.size+1:=by rw[hwa];simp
 have sb1:wb.heap.size=w.heap.size+1+1:=by rw[hwb];simp[sa1]
 have bwa:Below w.heap.size w wa:=by rw[hwa];exact(Below.refl _ _).alloc (Nat.le_refl _) _
 have bwb:Below wa.heap.size wa wb:=by rw[hwb];exact(Below.refl _ _).alloc (Nat.le_refl _) _
 have bwz:Below wb.heap.size wb wz:=by rw[hwz];exact(Below.refl _ _).alloc (Nat.le_refl _) _
 have hbz:Below w.heap.size w wz:=below_tr bwa (below_tr bwb bwz);have HX:Hid (Cs wz w.heap.size [.slice fa fos.length fc,.slice ga gs.length gc,.slice sa ss.length sc,.int .i64 nx,.int .i64 la,.int .i64 ro,.int .i64 now]):=(((by rw[hwa];exact Cs.new w [.slice fa fos.length fc,.slice ga gs.length gc,.slice sa ss.length sc,.int .i64 nx,.int .i64 la,.int .i64 ro,.int .i64 now] _:Cs wa w.heap.size [.slice fa fos.length fc,.slice ga gs.length gc,.slice sa ss.length sc,.int .i64 nx,.int .i64 la,.int .i64 ro,.int .i64 now]).below bwb).below bwz:Cs wz w.heap.size _)
 have HY:Hid (Cs wz (w.heap.size+1+1) [.slice fa fos.length fc,.slice ga gs.length gc,.slice sa ss.length sc,.int .i64 nx,.int .i64 la,.int .i64 ro,.int .i64 now,.map (some (w.heap.size+1))]):=(by rw[←sb1,hwz];exact Cs.new wb [.slice fa fos.length fc,.slice ga gs.length gc,.slice sa ss.length sc,.int .i64 nx,.int .i64 la,.int .i64 ro,.int .i64 now,.map (some (w.heap.size+1))] _:Cs wz (w.heap.size+1+1) _)
 have HM:=hid (show wz.ownsMap Tryz.prog 9 (plainElem Tryz.prog 3) (w.heap.size+1) 0 (.map []:DataW Unit)from by
  have h:=(World.ownsMap_made wa Tryz.prog 9 (plainElem (H:=Unit) Tryz.prog 3)).alloc (.cells #[.slice fa fos.length fc,.slice ga gs.length gc,.slice sa ss.length sc,.int .i64 nx,.int .i64 la,.int .i64 ro,.int .i64 now,.map (some (w.heap.size+1))] 78);rw[hwz,hwb,←sa1];exact(sa1▸h))
 have hNz:w.heap.size+1+1<wz.heap.size:=HY.out.lt;have hwzz:(((w.alloc (.cells #[.slice fa fos.length fc,.slice ga gs.length gc,.slice sa ss.length sc,.int .i64 nx,.int .i64 la,.int .i64 ro,.int .i64 now] 28)).alloc (.map #[] 0)).alloc (.cells #[.slice fa fos.length fc,.slice ga gs.length gc,.slice sa ss.length sc,.int .i64 nx,.int .i64 la,.int .i64 ro,.int .i64 now,.map (some (w.heap.size+1))] 78))=wz:=by rw[hwz,hwb,hwa]
 have HWZ:=hid hwzz;clear hwa hwb hwz bwa bwb bwz sa1 sb1 hwzz;go_enter Tryz.func20,Tryz.ntmps20
 go_upto_region 2 with fail;rw[HWZ.out];clear HWZ;have p6:=HY.out.cell 6 rfl;have p0:=HY.out.cell 0 rfl;by_cases hn1:now<0
 · have HE:=hid (show Hu.hE ⟨fos,gs,ss,nx,la,ro,now⟩=3 from Hu.h_now (Or.inl hn1))
   go_wp2_with fail;go_ret2;exact⟨_,by rw[HE.out];rfl,(fun h=>by rw[HE.out]at h;cases h),(fun _=>rfl),hbz⟩
 by_cases hn2:1099511627776<now
 · have HE:=hid (show Hu.hE ⟨fos,gs,ss,nx,la,ro,now⟩=3 from Hu.h_now (Or.inr hn2))
   go_wp2_with fail;go_ret2;exact⟨_,by rw[HE.out];rfl,(fun h=>by rw[HE.out]at h;cases h),(fun _=>rfl),hbz⟩
 have HNW:=hid (show¬(now<0∨1099511627776<now)from fun x=>x.elim hn1 hn2);go_wp2_with fail;refine(checkFolders_any fos _ _ (HLF.out.below hbz) HSF.out).mono ?_
 rintro e w1 ⟨rfl,hb1⟩;have hb01:=below_tr hbz hb1;have HY1:=hid (HY.out.below hb1);have HX1:=hid (HX.out.below hb1);have hs1:=hb1.size;clear p0 p6;by_cases h0: ¬(Hu.cfE fos=0)
 · skip
   have hz:(Hu.cfE fos==0)=false:=by simpa using h0
   have hz2:(Hu.cfE fos !=0)=true:=by simpa using h0
   have HE:=hid (Hu.h_fos (H:=⟨fos,gs,ss,nx,la,ro,now⟩) HNW.out h0);have H0:=hid h0;clear h0;generalize Hu.cfE fos=rr at*;go_wp2_with fail;go_ret2;exact⟨_,by rw[HE.out];rfl,(fun h=>absurd (HE.out▸h) H0.out),(fun _=>rfl),hb01⟩
 replace h0:=Decidable.not_not.1 h0;have HCF:=hid h0;rw[h0];clear h0;have p1:=HY1.out.cell 1 rfl;go_wp2_with fail;refine(gcheck_any gs _ _ (HLG.out.below hb01) HSG.out).mono ?_
 rintro e w2 ⟨rfl,hb2⟩;have hb02:=below_tr hb01 hb2;have HY2:=hid (HY1.out.below hb2);have HX2:=hid (HX1.out.below hb2);have hs2:=hb2.size;clear p1;by_cases h0: ¬(Pp.gchE gs=0)
 · skip
   have hz:(Pp.gchE gs==0)=false:=by simpa using h0
   have hz2:(Pp.gchE gs !=0)=true:=by simpa using h0
   have HE:=hid (Hu.h_gs (H:=⟨fos,gs,ss,nx,la,ro,now⟩) HNW.out HCF.out h0);have H0:=hid h0;clear h0;generalize Pp.gchE gs=rr at*;go_wp2_with fail;go_ret2;exact⟨_,by rw[HE.out];rfl,(fun h=>absurd (HE.out▸h) H0.out),(fun _=>rfl),hb02⟩
 replace h0:=Decidable.not_not.1 h0;have HGC:=hid h0;rw[h0];clear h0;have hbz2:=below_tr hb1 hb2;have HM2:=hid (show w2.ownsMap Tryz.prog 9 (plainElem Tryz.prog 3) (w.heap.size+1) 0 (.map []:DataW Unit)from HM.out.kept (row:=none) ⟨hbz2.os,hbz2.tape,hbz2.output,hbz2.size,fun k hk _=>hbz2.block k hk⟩ (by simp));have HNS:Hid (NoStr w2 (w.heap.size+1)):=noStr_map HM2.out;go_wp2_with fail;refine(tell_any fos gs _ _ _ nx la ro now (w.heap.size+1+1) (w.heap.size+1) _ HY2.out HM2.out (by omega) (HLF.out.below hb02) (HLG.out.below hb02) HSG.out (Hu.cf_parts HCF.out).2.2 (Hu.cf_parts HCF.out).1 (Pp.gch0 HGC.out).1).mono ?_
 rintro e w3 ⟨rfl,hg3,hm3⟩;have HM3:=hid hm3;have hb03:Below w.heap.size w w3:=hb02.grown hg3 (by omega) (fun k hk=>by injection hk with hk;omega);have HY3:=hid (HY2.out.nb hg3 (by omega));have HX3:=hid (HX2.out.nb hg3 (by omega));have HLF3:=hid ((HLF.out.below hb02).nb hg3 HNS.out);have HLG3:=hid ((HLG.out.below hb02).nb hg3 HNS.out);have HLS3:=hid ((HLS.out.below hb02).nb hg3 HNS.out);have hs3:=hg3.size;clear hm3;by_cases h0: ¬(Hu.telE fos gs=0)
 · skip
   have hz:(Hu.telE fos gs==0)=false:=by simpa using h0
   have hz2:(Hu.telE fos gs !=0)=true:=by simpa using h0
   have HE:=hid (Hu.h_tel (H:=⟨fos,gs,ss,nx,la,ro,now⟩) HNW.out HCF.out HGC.out h0);have H0:=hid h0;clear h0;generalize Hu.telE fos gs=rr at*;go_wp2_with fail;go_ret2;exact⟨_,by rw[HE.out];rfl,(fun h=>absurd (HE.out▸h) H0.out),(fun _=>rfl),hb03⟩
 replace h0:=Decidable.not_not.1 h0;have HTE:=hid h0;have HM4:=hid (HM3.out h0);rw[h0];clear h0 HM3;have q2:=HY3.out.cell 2 rfl;have q3:=HY3.out.cell 3 rfl;have q4:=HY3.out.cell 4 rfl;have q5:=HY3.out.cell 5 rfl;go_wp2_with fail;refine(ucheck_any ss _ nx la ro _ HLS3.out HSS.out).mono ?_
 rintro e w4 ⟨rfl,hb4⟩;have hb04:=below_tr hb03 hb4;have HY4:=hid (HY3.out.below hb4);have HX4:=hid (HX3.out.below hb4);have hs4:=hb4.size;clear q2 q3 q4 q5;by_cases h0: ¬(Pp.uchE ss nx la ro=0)
 · skip
   have hz:(Pp.uchE ss nx la ro==0)=false:=by simpa using h0
   have hz2:(Pp.uchE ss nx la ro !=0)=true:=by simpa using h0
   have HE:=hid (by have:=Hu.h_up (H:=⟨fos,gs,ss,nx,la,ro,now⟩) HNW.out HCF.out HGC.out HTE.out;exact this:Hu.hE ⟨fos,gs,ss,nx,la,ro,now⟩=Pp.uchE ss nx la ro);have H0:=hid h0;clear h0;generalize Pp.uchE ss nx la ro=rr at*;go_wp2_with fail;go_ret2;exact⟨_,by rw[HE.out];rfl,(fun h=>absurd (HE.out▸h) H0.out),(fun _=>rfl),hb04⟩
 replace h0:=Decidable.not_not.1 h0;have HE:=hid (show Hu.hE ⟨fos,gs,ss,nx,la,ro,now⟩=0 from by rw[Hu.h_up (H:=⟨fos,gs,ss,nx,la,ro,now⟩) HNW.out HCF.out HGC.out HTE.out];exact h0);have HSL:Hid (ss.length≤20):=(Pp.bnd_zero (Pp.uch_zero h0).1).1;rw[h0];clear h0;have x0:=HX4.out.cell 0 rfl;have x1:=HX4.out.cell 1 rfl;have x2:=HX4.out.cell 2 rfl;have x3:=HX4.out.cell 3 rfl;have x4:=HX4.out.cell 4 rfl;have x5:=HX4.out.cell 5 rfl;have x6:=HX4.out.cell 6 rfl;go_wp2_with fail;refine(ownHub_any ⟨fos,gs,ss,nx,la,ro,now⟩ _ _ ⟨_,_,_,rfl,HLF3.out.below hb4,HLG3.out.below hb4,HLS3.out.below hb4⟩ (by have:=(Hu.cf_parts HCF.out).1;simp only;omega) (fun s hs=>Hu.jo_small (Hu.cf_mem HCF.out hs).2) (by have:=(Pp.gch0 HGC.out).1;simp only;omega) (by have:=HSL.out;simp only;omega)).mono ?_
 rintro e w5 ⟨uf,ug,us,rfl,hof,⟨hlg,hog⟩,⟨hls,hos⟩,hap,hrm,hb5⟩;have HRM:=hid hrm;clear hrm;simp only at hof hlg hls;have HOF:=hid hof;have HG5:=hid hlg;have HOG:=hid hog;have HS5:=hid hls;have HOS:=hid hos;have HAP:=hid hap;have HY5:=hid (HY4.out.below hb5);have hs5:=hb5.size;have hb05:=below_tr hb04 hb5;obtain⟨ua,uc,rfl,_⟩:=hof.lies
 obtain⟨xa,xc,rfl,_⟩:=hlg
 obtain⟨ya,yc,rfl,_⟩:=hls
 clear hof hog hos hap x0 x1 x2 x3 x4 x5 x6;obtain⟨w6,hw6⟩: ∃w6,w6=(((((((w5.setCell ⟨w.heap.size+1+1,0,none⟩ (.slice ua fos.length uc)).setCell ⟨w.heap.size+1+1,1,none⟩ (.slice xa gs.length xc)).setCell ⟨w.heap.size+1+1,2,none⟩ (.slice ya ss.length yc)).setCell ⟨w.heap.size+1+1,3,none⟩ (.int .i64 nx)).setCell ⟨w.heap.size+1+1,4,none⟩ (.int .i64 la)).setCell ⟨w.heap.size+1+1,5,none⟩ (.int .i64 ro)).setCell ⟨w.heap.size+1+1,6,none⟩ (.int .i64 now)):=⟨_,rfl⟩
 have hg6:w5.grownBy w6 (some (w.heap.size+1+1)):=by rw[hw6];exact(grown_on (grown_on (grown_on (grown_on (grown_on (grown_on (nb_set w5 (w.heap.size+1+1) 0 (.slice ua fos.length uc)) (nb_set _ (w.heap.size+1+1) 1 (.slice xa gs.length xc))) (nb_set _ (w.heap.size+1+1) 2 (.slice ya ss.length yc))) (nb_set _ (w.heap.size+1+1) 3 (.int .i64 nx))) (nb_set _ (w.heap.size+1+1) 4 (.int .i64 la))) (nb_set _ (w.heap.size+1+1) 5 (.int .i64 ro))) (nb_set _ (w.heap.size+1+1) 6 (.int .i64 now)))
 have HY6:Hid (Cs w6 (w.heap.size+1+1) [.slice ua fos.length uc,.slice xa gs.length xc,.slice ya ss.length yc,.int .i64 nx,.int .i64 la,.int .i64 ro,.int .i64 now,.map (some (w.heap.size+1))]):=(by rw[hw6];exact(((((((HY5.out.set 0 (.slice ua fos.length uc)).set 1 (.slice xa gs.length xc)).set 2 (.slice ya ss.length yc)).set 3 (.int .i64 nx)).set 4 (.int .i64 la)).set 5 (.int .i64 ro)).set 6 (.int .i64 now)):Cs w6 (w.heap.size+1+1) _)
 have hb06:Below w.heap.size w w6:=by rw[hw6];exact(bs7 (b:=w.heap.size+1+1) hb05 (by show _≤w.heap.size+1+1;omega))
 have HM6:=hid (show SvM w6 (w.heap.size+1) gs.length ⟨fos,gs,ss,nx,la,ro,now⟩from(SvM.below (H:=⟨fos,gs,ss,nx,la,ro,now⟩) (SvM.below (H:=⟨fos,gs,ss,nx,la,ro,now⟩) HM4.out hb4) hb5).nb hg6 (by omega));have HSV:=hid (show Sv w4.heap.size w6 (w.heap.size+1+1) (w.heap.size+1) (.slice ua fos.length uc) (.slice xa gs.length xc) (.slice ya ss.length yc) ⟨fos,gs,ss,nx,la,ro,now⟩from⟨HY6.out,HOF.out.nbo hg6 (by omega),⟨liesR_gr.2 ((liesR_gr.1 HG5.out).nbo hg6 (fun x hx=>by have:=(HOG.out x hx).1;omega)),fun x hx=>(HOG.out x hx).1⟩,⟨liesR_se.2 ((liesR_se.1 HS5.out).nbo hg6 (fun x hx=>by have:=(HOS.out x hx).1;omega)),fun x hx=>(HOS.out x hx).1⟩,fun b hb=>⟨fun x hx=>((HAP.out b hb).1 x hx).1,fun x hx=>((HAP.out b hb).2 x hx).1⟩,HRM.out.nb hg6 (fun x hx=>by obtain⟨_,_,_,ho,_⟩:=HOF.out;have:=(ho x hx).1;omega)⟩);have p0:=HY5.out.cell 0 rfl;have f0:=HY5.out.fr 0;have p1:=HY5.out.cell 1 rfl;have f1:=HY5.out.fr 1;have p2:=HY5.out.cell 2 rfl;have f2:=HY5.out.fr 2;have p3:=HY5.out.cell 3 rfl;have f3:=HY5.out.fr 3;have p4:=HY5.out.cell 4 rfl;have f4:=HY5.out.fr 4;have p5:=HY5.out.cell 5 rfl;have f5:=HY5.out.fr 5;have p6:=HY5.out.cell 6 rfl;have f6:=HY5.out.fr 6;go_wp2_with fail;rw[←hw6];go_ret2;exact⟨_,by rw[HE.out];rfl,(fun _=>⟨rfl,w4.heap.size,_,_,_,by omega,by have:=hg6.size;omega,HSV.out,HM6.out⟩),(fun h=>absurd HE.out h),hb06⟩
end Go.Proofs.YtppdfeehhnofaaaGreatDoor
namespace Go.Proofs.YtppdfeehhnofaaaGreatDoor
open Go.RowKit

structure Rq where
 kind:Int
 who:ByteArray
 fo:ByteArray
 name:ByteArray
 key:ByteArray
 text:ByteArray
 num:Int
 off:Int
 base:Int
 ch:List Pp.Ch
/-- A request as a value: its changes lie in memory. -/
def LiesQ (w:World) (v:Value) (q:Rq):Prop:= ∃va,v= .agg #[.int .i64 q.kind,.string q.who,.string q.fo,.string q.name,.string q.key,.string q.text,.int .i64 q.num,.int .i64 q.off,.int .i64 q.base,va]∧LiesC w va q.ch
theorem LiesQ.below {w w':World} {v:Value} {q:Rq} (h:LiesQ w v q) (hw:Below w.heap.size w w'):LiesQ w' v q:=by
 obtain⟨va,e,h1⟩:=h
 exact⟨va,e,h1.below hw⟩
def zeroQ:Rq:=⟨0,⟨#[]⟩,⟨#[]⟩,⟨#[]⟩,⟨#[]⟩,⟨#[]⟩,0,0,0,[]⟩
theorem liesC_nil (w:World):LiesC w (.slice none 0 0) []:=⟨none,0,rfl,Nat.le_refl _,Nat.zero_le _,fun i h=>absurd h (by simp)⟩
abbrev zq:List Value:=[.int .i64 0,.string ⟨#[]⟩,.string ⟨#[]⟩,.string ⟨#[]⟩,.string ⟨#[]⟩,.string ⟨#[]⟩,.int .i64 0,.int .i64 0,.int .i64 0,.slice none 0 0]
structure An where
 err:Int
 num:Int
 pg:Pg
/-- An answer as a value: its page's tree and commits lie in memory. -/
def LiesA (w:World) (v:Value) (a:An):Prop:= ∃vt vc,v= .agg #[.int .i64 a.err,.int .i64 a.num,.bool a.pg.reset,vt,vc,.int .i64 a.pg.cur,.bool a.pg.more]∧Lies w vt a.pg.tree∧LiesO w vc a.pg.cos
theorem LiesA.below {w w':World} {v:Value} {a:An} (h:LiesA w v a) (hw:Below w.heap.size w w'):LiesA w' v a:=by
 obtain⟨vt,vc,e,h1,h2⟩:=h
 exact⟨vt,vc,e,h1.below hw,h2.below hw⟩
end Go.Proofs.YtppdfeehhnofaaaGreatDoor
namespace Go.Proofs.YtppdfeehhnofaaaGreatDoor
open Go.RowKit Go.Maps Go.WideMaps

namespace Hu
theorem plc_is {L:List Sh} (hr:risB L=true) {x:ByteArray} (h:isB L x=true): ∃hp:plc L x<L.length,L[plc L x].na.data.toList=x.data.toList:=by
 obtain⟨s,hs,h0⟩:=List.any_eq_true.1 h
 have h0:cm s x=0:=of_decide_eq_true h0;obtain⟨m,hm,rfl⟩:=List.getElem_of_mem hs
 have hp:plc L x<L.length:=List.findIdx_lt_length_of_exists ⟨L[m],List.getElem_mem hm,decide_eq_true (by omega)⟩;refine⟨hp,?_⟩
 have hge:0≤cm L[plc L x] x:=by
  have:=List.findIdx_getElem (p:=fun s=>decide (0≤cm s x)) (w:=hp)
  exact of_decide_eq_true this
 have hle:plc L x≤m:=by
  rcases Nat.lt_or_ge m (plc L x)with hlt|hge2
  · have:=List.not_of_lt_findIdx (p:=fun s=>decide (0≤cm s x)) hlt
    simp at this;omega
  · exact hge2
 by_cases e:plc L x=m
 · simp only[e];exact Pp.cmp_zero _ _ h0
 · obtain⟨d,hd⟩: ∃d,m=plc L x+d+1:=⟨m-plc L x-1,by omega⟩
   have h3:=ris_lt hr d (plc L x) (by omega);have h4:L[m].na.data.toList=x.data.toList:=Pp.cmp_zero _ _ h0;have h5:(L[plc L x+d+1]'(by omega)).na.data.toList=x.data.toList:=by rw[←h4];simp only[hd]
   rw[h5]at h3;have h6:cm L[plc L x] x<0:=h3;omega
theorem plc_same (L:List Sh) {x y:ByteArray} (h:x.data.toList=y.data.toList):plc L x=plc L y:=by
 unfold plc cm;rw[h]
theorem isB_same (L:List Sh) {x y:ByteArray} (h:x.data.toList=y.data.toList):isB L x=isB L y:=by
 unfold isB cm;rw[h]
/-- Is a folder told of? -/
def inG (G:List Gr) (x:ByteArray):Bool:=Jn.hasB (told [] G) x.data.toList
theorem has_told (L:List Sh) (G:List Gr) (p:List UInt8):Jn.hasB (told L G) p=G.any (fun g=>g.fo.data.toList==p):=by
 unfold Jn.hasB told;rw[List.any_map];rfl
theorem inG_eq (L:List Sh) (G:List Gr) (x:ByteArray):Jn.hasB (told L G) x.data.toList=inG G x:=by rw[inG,has_told,has_told]
theorem inG_any (G:List Gr) (x:ByteArray):inG G x=G.any (fun g=>g.fo.data.toList==x.data.toList):=by rw[inG,has_told]
/-- Where the map has a folder: nought, if it has none. -/
def whr (L:List Sh) (G:List Gr) (x:ByteArray):Nat:=if inG G x=true then plc L x else 0
theorem told_at (L:List Sh) (x:ByteArray): ∀G:List Gr,(Jn.D (told L G)).atKey (Jn.key x) (Jn.num 0)=Jn.num (whr L G x):=by
 intro G;refine Jn.snoc_ind (P:=fun G=>(Jn.D (told L G)).atKey (Jn.key x) (Jn.num 0)=Jn.num (whr L G x)) rfl ?_ G
 intro G g ih;have e:told L (G++[g])=told L G++[⟨plc L g.fo,g.fo,[]⟩]:=by unfold told;simp
 rw[e,Jn.D_snoc];by_cases hk:Jn.key x=Jn.key g.fo
 · have hp:=Jn.key_inj hk
   rw[hk,Maps.atKey_put_same (Jn.D_tidy _).isMap (Jn.key_lit _),whr,if_pos (by rw[inG_any,List.any_append];simp[hp]),plc_same L hp]
 · rw[Maps.atKey_put_other hk,ih,whr,whr]
   have hd: ¬g.fo.data=x.data:=fun h=>hk (by rw[Jn.key,Jn.key,h])
   have:inG (G++[g]) x=inG G x:=by rw[inG_any,inG_any,List.any_append];simp[hd]
   rw[this]
theorem tel_is {L:List Sh} {G:List Gr} (h:telE L G=0) {x:ByteArray} (hx:inG G x=true):isB L x=true:=by
 rw[inG_any,List.any_eq_true]at hx;obtain⟨g,hg,hgx⟩:=hx
 have ha:(G.all fun g=>isB L g.fo)=true:=by
  cases hb:(G.all fun g=>isB L g.fo)with
  |true=>rfl
  |false=>rw[telE,hb]at h;simp at h
 have:=List.all_eq_true.1 ha g hg
 rw[←isB_same L (by simpa using hgx:g.fo.data.toList=x.data.toList)];exact this
theorem whr_at {H:Hb} (h:hE H=0) {x:ByteArray} (hx:inG H.gs x=true): ∃hp:whr H.fos H.gs x<H.fos.length,H.fos[whr H.fos H.gs x].na.data.toList=x.data.toList:=by
 obtain⟨_,h1,_,h3,_⟩:=h_parts h
 rw[whr,if_pos hx];exact plc_is (cf_parts h1).2.2 (tel_is h3 hx)
theorem rgt_in {G:List Gr} {f h:ByteArray} (hr: ¬Pp.rgt G f h=0):inG G f=true:=by
 rw[Pp.rgt]at hr;cases hf:G.find? (Pp.ofW f h)with
 |none=>rw[hf]at hr;exact absurd rfl hr
 |some e=>
  have h1:=List.mem_of_find?_eq_some hf;have h2:=List.find?_some hf;rw[Pp.ofW,Bool.and_eq_true]at h2;rw[inG_any,List.any_eq_true];refine⟨e,h1,?_⟩
  have:=h2.1
  rw[Lib.toList_data,Lib.toList_data]at this;exact this
theorem num_inj {a b:Int} (h:Jn.num a= .lit (.int .i64 b)):a=b:=by
 unfold Jn.num at h;injection h with h
 injection h
/-- The least right that a kind of request asks for. -/
def lst (k:Int):Int:=if k=1∨k=7 then 2 else if k=2∨k=3 then 1 else 0
def ckE (G:List Gr) (q:Rq):Int:=if q.kind<1∨8<q.kind then 7 else if¬Pp.nmsE [q.who]=0 then Pp.nmsE [q.who]else if Pp.rigR G q.fo q.who<lst q.kind then 9 else 0
theorem ck_kind {G:List Gr} {q:Rq} (h:q.kind<1∨8<q.kind):ckE G q=7:=by rw[ckE,if_pos h]
theorem ck_who {G:List Gr} {q:Rq} (h: ¬(q.kind<1∨8<q.kind)) (h1: ¬Pp.nmsE [q.who]=0):ckE G q=Pp.nmsE [q.who]:=by rw[ckE,if_neg h,if_pos h1]
theorem ck_right {G:List Gr} {q:Rq} (h: ¬(q.kind<1∨8<q.kind)) (h1:Pp.nmsE [q.who]=0) (h2:Pp.rigR G q.fo q.who<lst q.kind):ckE G q=9:=by rw[ckE,if_neg h,if_neg (fun x=>x h1),if_pos h2]
theorem ck_ok {G:List Gr} {q:Rq} (h: ¬(q.kind<1∨8<q.kind)) (h1:Pp.nmsE [q.who]=0) (h2: ¬Pp.rigR G q.fo q.who<lst q.kind):ckE G q=0:=by rw[ckE,if_neg h,if_neg (fun x=>x h1),if_neg h2]
theorem ck_parts {G:List Gr} {q:Rq} (h:ckE G q=0):1≤q.kind∧q.kind≤8∧Pp.nmsE [q.who]=0∧lst q.kind≤Pp.rigR G q.fo q.who:=by
 by_cases a:q.kind<1∨8<q.kind
 · rw[ck_kind a]at h;cases h
 · by_cases b:Pp.nmsE [q.who]=0
   · by_cases c:Pp.rigR G q.fo q.who<lst q.kind
     · rw[ck_right a b c]at h;cases h
     · exact⟨by omega,by omega,b,by omega⟩
   · rw[ck_who a b]at h;exact absurd h b
theorem rig_in {G:List Gr} {f h:ByteArray} (hr:1≤Pp.rigR G f h):inG G f=true:=by
 rw[Pp.rigR]at hr;split at hr
 · exact rgt_in (h:=h) (by omega)
 · omega
end Hu
structure SizedQ (q:Rq):Prop where
 who:q.who.size≤150000000000000
 fo:q.fo.size≤150000000000000
 name:q.name.size≤150000000000000
 key:q.key.size≤150000000000000
 text:q.text.size≤150000000000000
 ch:SizedC 150000000000000 q.ch
theorem SvM.look {w:World} {mb n:Nat} {H:Hb} (h:SvM w mb n H) (x:ByteArray) (hx:x.size≤150000000000000):(Instr.lookup 76 (.map (some mb)) (.string x) false).run Tryz.prog w= .ok (.int .i64 (Hu.whr H.fos H.gs x:Nat)) w:=by
 have hk:x.size≤maxLen:=by unfold maxLen;omega
 obtain⟨c,hrun,hat,_⟩:=World.ownsMap.lookup_int h (string_keyed Tryz.underlying9) Tryz.underlying76 Tryz.underlying3 (Tryz.zeroInt w) (keyOf_string_mk Tryz.underlying9 hk)
 have h2:=Hu.told_at H.fos x H.gs;have h3:Jn.num (Hu.whr H.fos H.gs x)= .lit (.int .i64 c):=h2.symm.trans hat;have h4:(Hu.whr H.fos H.gs x:Int)=c:=Hu.num_inj h3;rw[hrun,h4]
theorem SvM.look2 {w:World} {mb n:Nat} {H:Hb} (h:SvM w mb n H) (x:ByteArray) (hx:x.size≤150000000000000):(Instr.lookup 76 (.map (some mb)) (.string x) true).run Tryz.prog w= .ok (.tuple #[.int .i64 (Hu.whr H.fos H.gs x:Nat),.bool (Hu.inG H.gs x)]) w:=by
 have hk:x.size≤maxLen:=by unfold maxLen;omega
 obtain⟨v,ps,hrun,hv⟩:=World.ownsMap.look_ok h (string_keyed Tryz.underlying9) Tryz.underlying76 (Tryz.zeroInt w) (plainElem_int Tryz.underlying3 (by decide:(Lit.int .i64 0).wf=true)) (keyOf_string_mk Tryz.underlying9 hk)
 obtain⟨c,rfl,hc,_⟩:=plainElem_int_inv Tryz.underlying3 hv
 simp only[Prod.mk.injEq]at hc;have h2:=Hu.told_at H.fos x H.gs;have h3:Jn.num (Hu.whr H.fos H.gs x)= .lit (.int .i64 c):=h2.symm.trans hc.1;have h4:(Hu.whr H.fos H.gs x:Int)=c:=Hu.num_inj h3;have h5:Maps.has (Jn.D (Hu.told H.fos H.gs)) (Jn.key x)=Hu.inG H.gs x:=by rw[Jn.D_has,Hu.inG_eq]
 rw[hrun,h4,←h5];rfl
/-- A server's box and what lies in it. -/
def SvL (w:World) (g mb:Nat) (H:Hb):Prop:= ∃vf vg vs,Cs w g [vf,vg,vs,.int .i64 H.nx,.int .i64 H.la,.int .i64 H.ro,.int .i64 H.now,.map (some mb)]∧LiesF w vf H.fos∧LiesG w vg H.gs∧LiesS w vs H.ss
theorem Sv.lies {B:Nat} {w:World} {g mb:Nat} {vf vg vs:Value} {H:Hb} (h:Sv B w g mb vf vg vs H):SvL w g mb H:=⟨vf,vg,vs,h.1,h.2.1.lies,h.2.2.1.1,h.2.2.2.1.1⟩
theorem SvL.below {w w':World} {g mb:Nat} {H:Hb} (h:SvL w g mb H) (hw:Below w.heap.size w w'):SvL w' g mb H:=by
 obtain⟨vf,vg,vs,h1,h2,h3,h4⟩:=h
 exact⟨vf,vg,vs,h1.below hw,h2.below hw,h3.below hw,h4.below hw⟩
theorem SvL.nb {w w':World} {g mb k:Nat} {H:Hb} (h:SvL w g mb H) (hw:w.grownBy w' (some k)) (hn:NoStr w k) (hk:g≠k):SvL w' g mb H:=by
 obtain⟨vf,vg,vs,h1,h2,h3,h4⟩:=h
 exact⟨vf,vg,vs,h1.nb hw hk,h2.nb hw hn,h3.nb hw hn,h4.nb hw hn⟩
def bo (v:Value) (g:Nat):Nat:=v.ownBlock.getD g
end Go.Proofs.YtppdfeehhnofaaaGreatDoor
namespace Go.Proofs.YtppdfeehhnofaaaGreatDoor
open Go.RowKit

def OwnP (B:Nat) (w:World) (v:Value) (P:Pg):Prop:= ∃vt vc,v= .agg #[.bool P.reset,vt,vc,.int .i64 P.cur,.bool P.more]∧Lies w vt P.tree∧Own B w vt∧OwnO B w vc P.cos
theorem OwnP.lies {B:Nat} {w:World} {v:Value} {P:Pg} (h:OwnP B w v P):LiesPg w v P:=by
 obtain⟨vt,vc,h1,h2,_,h4⟩:=h
 exact⟨vt,vc,h1,h2,h4.lies⟩
theorem OwnP.below {B:Nat} {w w':World} {v:Value} {P:Pg} (h:OwnP B w v P) (hw:Below w.heap.size w w'):OwnP B w' v P:=by
 obtain⟨vt,vc,h1,h2,h3,h4⟩:=h
 exact⟨vt,vc,h1,h2.below hw,h3.below hw,h4.below hw⟩
theorem ownO_nil (B:Nat) (w:World):OwnO B w (.slice none 0 0) []:=
 ⟨[],⟨rfl,fun i c u hc=>by simp at hc⟩,⟨none,0,rfl,Nat.le_refl _,by decide,(fun r hr=>by cases hr),fun i h=>absurd h (by simp[rowsO])⟩,own_nil _ _,(fun u hu=>by cases hu)⟩
namespace Jn
def zeroP:Pg:=⟨false,[],[],0,false⟩
def rdE (J:Jo) (c m:Int):Int:=if¬chkE J=0 then chkE J else if m<1∨10<m∨c<0 then 3 else if last J<c then 5 else 0
def behind (J:Jo) (c:Int):List Co:=J.cos.drop (c-(J.first-1)).toNat
def few (m:Int) (n:Nat):Nat:=min m.toNat n
def rdR (J:Jo) (c m:Int):Pg:=if¬rdE J c m=0 then zeroP else if c<J.first-1 then⟨true,tree J,[],last J,false⟩else
 ⟨false,[],(behind J c).take (few m (behind J c).length),c+few m (behind J c).length,decide (few m (behind J c).length<(behind J c).length)⟩
theorem rd_bad {J:Jo} {c m e:Int} (h:rdE J c m=e) (he: ¬e=0):rdR J c m=zeroP:=by rw[rdR,h,if_pos he]
theorem rd_chk {J:Jo} {c m:Int} (h: ¬chkE J=0):rdE J c m=chkE J:=by rw[rdE,if_pos h]
theorem rd_range {J:Jo} {c m:Int} (h:chkE J=0) (h1:m<1∨10<m∨c<0):rdE J c m=3:=by rw[rdE,if_neg (fun x=>x h),if_pos h1]
theorem rd_none {J:Jo} {c m:Int} (h:chkE J=0) (h1: ¬(m<1∨10<m∨c<0)) (h2:last J<c):rdE J c m=5:=by rw[rdE,if_neg (fun x=>x h),if_neg h1,if_pos h2]
theorem rd_ok {J:Jo} {c m:Int} (h:chkE J=0) (h1: ¬(m<1∨10<m∨c<0)) (h2: ¬last J<c):rdE J c m=0:=by rw[rdE,if_neg (fun x=>x h),if_neg h1,if_neg h2]
theorem rd_reset {J:Jo} {c m:Int} (h:rdE J c m=0) (h3:c<J.first-1):rdR J c m=⟨true,tree J,[],last J,false⟩:=by rw[rdR,if_neg (fun x=>x h),if_pos h3]
theorem rd_page {J:Jo} {c m:Int} (h:rdE J c m=0) (h3: ¬c<J.first-1):rdR J c m=⟨false,[],(behind J c).take (few m (behind J c).length),c+few m (behind J c).length,decide (few m (behind J c).length<(behind J c).length)⟩:=by rw[rdR,if_neg (fun x=>x h),if_neg h3]
end Jn
/-- A part of a slice of commits. -/
theorem liesO_part {w:World} {a a':Option Addr} {n cap i k cap':Nat} {l:List Co} (h:LiesO w (.slice a n cap) l) (hi:i≤l.length) (hk:k≤(l.drop i).length) (hc:k≤cap') (ha: ∀b o,a=some ⟨b,o,none⟩→0<k→a'=some ⟨b,o+i*3,none⟩):LiesO w (.slice a' k cap') ((l.drop i).take k):=by
 obtain⟨a0,cap0,hv,h1,h2,h3⟩:=h
 injection hv with e1 e2 e3
 subst e1;have hl:((l.drop i).take k).length=k:=by rw[List.length_take];omega
 have hl2:(l.drop i).length=l.length-i:=List.length_drop;refine⟨a',cap',by rw[hl],by rw[hl];exact hc,by rw[hl];omega,fun j hj=>?_⟩
 rw[hl]at hj;obtain⟨b,o,hab,hb,he⟩:=h3 (i+j) (by omega)
 refine⟨b,o+i*3,ha b o hab (by omega),hb,?_⟩
 rw[List.getElem_take,List.getElem_drop,Nat.add_assoc,show i*3+j*3=(i+j)*3 by omega];exact he
end Go.Proofs.YtppdfeehhnofaaaGreatDoor
