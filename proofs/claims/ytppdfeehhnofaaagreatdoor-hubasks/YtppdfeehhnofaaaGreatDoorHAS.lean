/- What the server's take, give and makeFolder do. -/
import Derived.Test.YtppdfeehhnofaaaGreatDoorHAR
set_option linter.unusedSimpArgs false
set_option linter.unusedVariables false
namespace Go.Proofs.YtppdfeehhnofaaaGreatDoor
open Go.RowKit

theorem SvL.shape {w:World} {g mb:Nat} {H:Hb} (h:SvL w g mb H): ∃fa fc ga gc sa sc,Cs w g [.slice fa H.fos.length fc,.slice ga H.gs.length gc,.slice sa H.ss.length sc,.int .i64 H.nx,.int .i64 H.la,.int .i64 H.ro,.int .i64 H.now,.map (some mb)]∧LiesF w (.slice fa H.fos.length fc) H.fos∧LiesG w (.slice ga H.gs.length gc) H.gs∧LiesS w (.slice sa H.ss.length sc) H.ss:=by
 obtain⟨vf,vg,vs,h1,h2,h3,h4⟩:=h
 have l2:=h2;have l3:=h3;have l4:=h4;obtain⟨fa,fc,rfl,_⟩:=h2
 obtain⟨ga,gc,rfl,_⟩:=h3
 obtain⟨sa,sc,rfl,_⟩:=h4
 exact⟨fa,fc,ga,gc,sa,sc,h1,l2,l3,l4⟩
theorem noStr_sv {w:World} {g mb:Nat} {a b c d e f:Nat} {x y z:Option Addr} {n1 n2 n3 n4:Int} (h:Cs w g [.slice x a b,.slice y c d,.slice z e f,.int .i64 n1,.int .i64 n2,.int .i64 n3,.int .i64 n4,.map (some mb)]):NoStr w g:=h.noStr (fun s hs=>by simp at hs)
namespace Hu
def upH (H:Hb) (e:Int) (S:List Se) (x l r:Int):Hb:=if e=0 then⟨H.fos,H.gs,S,x,l,r,H.now⟩else H
def gsH (H:Hb) (e:Int) (G:List Gr):Hb:=if e=0 then {H with gs:=G}else H
end Hu

set_option maxRecDepth 100000 in
set_option maxHeartbeats 4000000 in
theorem stake_any (H:Hb) (S:List Se) (u:Value) (x l r m e:Int) (g mb:Nat) (w:World) (hsv:SvL w g mb H) (hu:LiesS w u S):
    Calls Tryz.prog 94 #[.pointer (some ⟨g,0,none⟩),.agg #[u,.int .i64 x,.int .i64 l,.int .i64 r],.int .i64 m,.int .i64 e] w fun z w'=>z= .returned (.tuple #[.int .i64 m,.int .i64 e])∧SvL w' g mb (Hu.upH H e S x l r)∧w.grownBy w' (some g):=by
 have HU:=hid hu;obtain⟨ua,uc,rfl,_⟩:=hu
 obtain⟨fos,gs,ss,nx,la,ro,now⟩:=H
 obtain⟨fa,fc,ga,gc,sa,sc,hC,hF,hG,hS⟩:=hsv.shape
 simp only at hC hF hG hS;have HC:=hid hC;have HF:=hid hF;have HG:=hid hG;have HS:=hid hS;have hgl:=hC.lt;obtain⟨wz,hwz⟩: ∃wz,wz=w.alloc (.cells #[.slice ua S.length uc,.int .i64 x,.int .i64 l,.int .i64 r] 26):=⟨_,rfl⟩
 have hbz:Below w.heap.size w wz:=by rw[hwz];exact(Below.refl _ _).alloc (Nat.le_refl _) _
 have HX:Hid (Cs wz w.heap.size [.slice ua S.length uc,.int .i64 x,.int .i64 l,.int .i64 r]):=(by rw[hwz];exact Cs.new w [.slice ua S.length uc,.int .i64 x,.int .i64 l,.int .i64 r] _:Cs wz w.heap.size _)
 have HCz:=hid (HC.out.below hbz);clear hsv hF hG hS hC;by_cases he:e=0
 · subst he
   obtain⟨w2,hw2⟩: ∃w2,w2=(((wz.setCell ⟨g,2,none⟩ (.slice ua S.length uc)).setCell ⟨g,2+1,none⟩ (.int .i64 x)).setCell ⟨g,2+2,none⟩ (.int .i64 l)).setCell ⟨g,2+3,none⟩ (.int .i64 r):=⟨_,rfl⟩
   have hg2:wz.grownBy w2 (some g):=by rw[hw2];exact grown_on (grown_on (grown_on (nb_set _ _ _ _) (nb_set _ _ _ _)) (nb_set _ _ _ _)) (nb_set _ _ _ _)
   have HC2:Hid (Cs w2 g [.slice fa fos.length fc,.slice ga gs.length gc,.slice ua S.length uc,.int .i64 x,.int .i64 l,.int .i64 r,.int .i64 now,.map (some mb)]):=(by rw[hw2];exact((((HCz.out.set 2 (.slice ua S.length uc)).set 3 (.int .i64 x)).set 4 (.int .i64 l)).set 5 (.int .i64 r)):Cs w2 g _)
   have HNS:=hid (noStr_sv HCz.out);have HR:=hid (show SvL w2 g mb ⟨fos,gs,S,x,l,r,now⟩from⟨_,_,_,HC2.out,(HF.out.below hbz).nb hg2 HNS.out,(HG.out.below hbz).nb hg2 HNS.out,(HU.out.below hbz).nb hg2 HNS.out⟩);have hg0:w.grownBy w2 (some g):=Nb.trans (Nb.below g hbz) hg2;have y0:=HX.out.cell 0 rfl;have y1:=HX.out.cell 1 rfl;have y2:=HX.out.cell 2 rfl;have y3:=HX.out.cell 3 rfl;have p2:=HCz.out.cell 2 rfl;have p3:=HCz.out.cell 3 rfl;have p4:=HCz.out.cell 4 rfl;have p5:=HCz.out.cell 5 rfl;have f2:=HCz.out.fr 2;have f3:=HCz.out.fr 3;have f4:=HCz.out.fr 4;have f5:=HCz.out.fr 5;go_enter Tryz.func94,Tryz.ntmps94
   go_upto_region 1 with fail;rw[←hwz];clear hwz;go_wp2_with fail;rw[←hw2];go_ret2;exact⟨rfl,by rw[Hu.upH,if_pos rfl];exact HR.out,hg0⟩
 · have hz:(e==0)=false:=by simpa using he
   have HE:=hid he;have HR:=hid (show SvL wz g mb ⟨fos,gs,ss,nx,la,ro,now⟩from⟨_,_,_,HCz.out,HF.out.below hbz,HG.out.below hbz,HS.out.below hbz⟩);clear he;go_enter Tryz.func94,Tryz.ntmps94
   go_upto_region 1 with fail;rw[←hwz];clear hwz;go_wp2_with fail;go_ret2;exact⟨rfl,by rw[Hu.upH,if_neg HE.out];exact HR.out,Nb.below g hbz⟩
/-- What slices.Insert does with a row of folders of one's own: a folder with an empty journal comes in. -/
def InsOK (B:Nat) (v:Value) (L:List Sh) (i:Nat) (na:ByteArray):Prop:= ∀(W:World) (vb:Nat),OwnF B W v L→Rm W v→Cs W vb [.string na,.slice none 0 0,.int .i64 1,.slice none 0 0]→(∀b,v.ownBlock=some b→b<vb)→
 Calls Tryz.prog 126 #[v,.int .i64 i,.slice (some ⟨vb,0,none⟩) 1 1] W fun e w'=> ∃u,e= .returned u∧LiesF w' u (L.take i++⟨na,⟨[],1,[]⟩⟩::L.drop i)∧W.grownBy w' v.ownBlock
namespace Hu
def mkE (H:Hb) (f h:ByteArray):Int:=if¬Pp.maE H.gs f h=0 then Pp.maE H.gs f h else if 8≤H.fos.length then 2 else 0
def mkH (H:Hb) (f h:ByteArray):Hb:=if mkE H f h=0 then {H with fos:=H.fos.take (plc H.fos f)++⟨f,⟨[],1,[]⟩⟩::H.fos.drop (plc H.fos f),gs:=Pp.maL H.gs f h}else H
theorem mk_bad {H:Hb} {f h:ByteArray} (h0: ¬Pp.maE H.gs f h=0):mkE H f h=Pp.maE H.gs f h∧mkH H f h=H:=by
 have e:mkE H f h=Pp.maE H.gs f h:=by rw[mkE,if_pos h0]
 exact⟨e,by rw[mkH,e,if_neg h0]⟩
theorem mk_many {H:Hb} {f h:ByteArray} (h0:Pp.maE H.gs f h=0) (h8:8≤H.fos.length):mkE H f h=2∧mkH H f h=H:=by
 have e:mkE H f h=2:=by rw[mkE,if_neg (fun x=>x h0),if_pos h8]
 exact⟨e,by rw[mkH,e,if_neg (by decide)]⟩
theorem mk_ok {H:Hb} {f h:ByteArray} (h0:Pp.maE H.gs f h=0) (h8: ¬8≤H.fos.length):mkE H f h=0∧mkH H f h={H with fos:=H.fos.take (plc H.fos f)++⟨f,⟨[],1,[]⟩⟩::H.fos.drop (plc H.fos f),gs:=Pp.maL H.gs f h}:=by
 have e:mkE H f h=0:=by rw[mkE,if_neg (fun x=>x h0),if_neg h8]
 exact⟨e,by rw[mkH,e,if_pos rfl]⟩
end Hu
end Go.Proofs.YtppdfeehhnofaaaGreatDoor
namespace Go.Proofs.YtppdfeehhnofaaaGreatDoor
open Go.RowKit

theorem Nb2.of_row {w w':World} {v:Value} {g:Nat} (h:w.grownBy w' v.ownBlock):Nb2 w w' g (bo v g):=
 ⟨h.os,h.tape,h.output,h.size,fun k hk _ h2=>h.block k hk (fun e=>h2 (by rw[bo,←e];rfl))⟩
set_option maxRecDepth 100000 in
set_option maxHeartbeats 8000000 in
theorem smake_any (H:Hb) (q:Rq) (vq vf vg vs:Value) (B g mb:Nat) (w:World) (hsv:Sv B w g mb vf vg vs H) (hgB:g<B) (hBw:B≤w.heap.size) (hs:SizedG H.gs) (hr:Hu.risB H.fos=true) (h8:H.fos.length≤8) (hq:LiesQ w vq q) (hsq:SizedQ q) (hins:InsOK B vf H.fos (Hu.plc H.fos q.fo) q.fo):
    Calls Tryz.prog 91 #[.pointer (some ⟨g,0,none⟩),vq] w fun z w'=>z= .returned (.int .i64 (Hu.mkE H q.fo q.who))∧SvL w' g mb (Hu.mkH H q.fo q.who)∧Nb2 w w' g (bo vf g):=by
 have HSG:=hid hs;have HSQ:=hid hsq;have HR:=hid hr;have HSV:=hid hsv;have HINS:=hid hins;clear hs hsq hr hins;obtain⟨va,rfl,lq⟩:=hq
 have HLQ:=hid lq;obtain⟨qa,qc,rfl,_⟩:=lq
 obtain⟨kind,who,fo,name,key,text,num,off,base,ch⟩:=q
 simp only at*;obtain⟨wz,hwz⟩: ∃wz,wz=w.alloc (.cells #[.int .i64 kind,.string who,.string fo,.string name,.string key,.string text,.int .i64 num,.int .i64 off,.int .i64 base,.slice qa ch.length qc] 31):=⟨_,rfl⟩
 have hbz:Below w.heap.size w wz:=by rw[hwz];exact(Below.refl _ _).alloc (Nat.le_refl _) _
 have HQX:Hid (Cs wz w.heap.size [.int .i64 kind,.string who,.string fo,.string name,.string key,.string text,.int .i64 num,.int .i64 off,.int .i64 base,.slice qa ch.length qc]):=(by rw[hwz];exact Cs.new w [.int .i64 kind,.string who,.string fo,.string name,.string key,.string text,.int .i64 num,.int .i64 off,.int .i64 base,.slice qa ch.length qc] _:Cs wz w.heap.size _)
 obtain⟨fos,gs,ss,nx,la,ro,now⟩:=H
 obtain⟨hC,hOF,⟨hLG,hFG⟩,⟨hLS,hFS⟩,hAP,hRM⟩:=hsv
 simp only at*;have HC:=hid hC;have HOF:=hid hOF;have HG:=hid hLG;have HS:=hid hLS;have HFS:=hid hFS;have HAP:=hid hAP;have HRM:=hid hRM;clear hRM;have HVB:=hid (show∀b,vf.ownBlock=some b→B≤b∧b<w.heap.size from fun b hb=>by obtain⟨_,_,_,ho,_⟩:=HOF.out;exact⟨(ho b hb).1,ho.lt b hb⟩);obtain⟨fa,fc,rfl,_⟩:=hOF.lies
 obtain⟨ga,gc,rfl,_⟩:=hLG
 obtain⟨sa,sc,rfl,_⟩:=hLS
 have hgl:=hC.lt;have HCz:=hid (HC.out.below hbz);have HGz:=hid (HG.out.below hbz);have hgz:g<wz.heap.size:=Nat.lt_of_lt_of_le hgl hbz.size;have hqz:=HQX.out.lt;clear hC hOF hFG hFS hAP HSV;have p1:=HCz.out.cell 1 rfl;have x2:=HQX.out.cell 2 rfl;have x1:=HQX.out.cell 1 rfl;obtain⟨E,hE⟩: ∃E,E=Pp.maE gs fo who:=⟨_,rfl⟩
 obtain⟨L,hL⟩: ∃L,L=Pp.maL gs fo who:=⟨_,rfl⟩
 have HE:=hid hE;have HL:=hid hL;clear hE hL;go_enter Tryz.func91,Tryz.ntmps91
 go_upto_region 1 with fail;rw[←hwz];clear hwz
 go_region_held3 (fun W=>W.cell? ⟨g,1,none⟩=some (.slice ga gs.length gc)∧W.cell? ⟨w.heap.size,2,none⟩=some (.string fo)∧W.cell? ⟨w.heap.size,1,none⟩=some (.string who)) (go_keep) (first
  |(go_at_call 125;refine(make_any gs _ fo who _ (HGz.out.below (Below.refl _ _).drew) HSG.out HSQ.out.fo HSQ.out.who).mono ?_;rw[←HE.out,←HL.out];rintro e wa ⟨u,rfl,⟨hlu,hfu⟩,hba⟩;have hya:Below wz.heap.size wz wa:=((Below.refl _ _).drew).trans hba;have j0:=(hya.cell (p:=⟨g,1,none⟩) hgz).trans p1;have j1:=(hya.cell (p:=⟨w.heap.size,2,none⟩) hqz).trans x2;have j2:=(hya.cell (p:=⟨w.heap.size,1,none⟩) hqz).trans x1))
 have HLU:=hid hlu;have HFU:=hid (show Fr w.heap.size u from hfu.mono (by have:=hbz.size;simp;exact this));obtain⟨ua,uc,rfl,_⟩:=hlu
 have hb0a:=below_tr hbz hya;have HCa:=hid (HC.out.below hb0a);have HQa:=hid (HQX.out.below hya);clear p1 x1 x2 j0 j1 j2 hfu;by_cases he: ¬(E=0)
 · have hz:(E==0)=false:=by simpa using he
   have hz2:(E !=0)=true:=by simpa using he
   have HB:=hid (show Hu.mkE ⟨fos,gs,ss,nx,la,ro,now⟩ fo who=E∧Hu.mkH ⟨fos,gs,ss,nx,la,ro,now⟩ fo who=⟨fos,gs,ss,nx,la,ro,now⟩from by rw[HE.out];exact Hu.mk_bad (H:=⟨fos,gs,ss,nx,la,ro,now⟩) (by rw[←HE.out];exact he));have HRR:=hid (show SvL wa g mb ⟨fos,gs,ss,nx,la,ro,now⟩from⟨_,_,_,HCa.out,HOF.out.lies.below hb0a,HG.out.below hb0a,HS.out.below hb0a⟩);clear he;go_wp2_with fail;go_ret;exact⟨by rw[HB.out.1];rfl,by rw[HB.out.2];exact HRR.out,Nb2.of_below _ _ hb0a⟩
 replace he:=Decidable.not_not.1 he;have HME:=hid (show Pp.maE gs fo who=0 from by rw[←HE.out];exact he);subst he;have p0:=HCa.out.cell 0 rfl;by_cases h88:8≤fos.length
 · have h88':8≤(fos.length:Int):=by omega
   have HB:=hid (Hu.mk_many (H:=⟨fos,gs,ss,nx,la,ro,now⟩) HME.out h88);have HRR:=hid (show SvL wa g mb ⟨fos,gs,ss,nx,la,ro,now⟩from⟨_,_,_,HCa.out,HOF.out.lies.below hb0a,HG.out.below hb0a,HS.out.below hb0a⟩);go_wp2_with fail;go_ret;exact⟨by rw[HB.out.1];rfl,by rw[HB.out.2];exact HRR.out,Nb2.of_below _ _ hb0a⟩
 have h88': ¬8≤(fos.length:Int):=by omega
 have HB:=hid (Hu.mk_ok (H:=⟨fos,gs,ss,nx,la,ro,now⟩) HME.out h88);have y2:=HQa.out.cell 2 rfl;go_wp2_with fail;refine(place_any fos _ fo g _ p0 (HOF.out.lies.below hb0a) HR.out h8).mono ?_
 rintro e w4 ⟨rfl,hb4⟩;have hb04:=below_tr hb0a hb4;have HC4:=hid (HC.out.below hb04);have HQ4:=hid (HQa.out.below hb4);have HLU4:=hid (HLU.out.below hb4);obtain⟨p,hp⟩: ∃p,p=Hu.plc fos fo:=⟨_,rfl⟩
 have hpl:p≤fos.length:=by rw[hp];exact List.findIdx_le_length
 have HP:=hid hp;rw[←hp];generalize Hu.isB fos fo=ib;clear p0 y2 hp;have p0:=HC4.out.cell 0 rfl;have f0:=HC4.out.fr 0;have y2:=HQ4.out.cell 2 rfl;have hg4:=HC4.out.lt;have hq4:=HQ4.out.lt;have n1: ¬g=w4.heap.size:=by omega
 have n2: ¬w.heap.size=w4.heap.size:=by omega
 have hs04:=hb04.size;have hba4:Below w4.heap.size w4 (w4.alloc (.cells #[.string fo,.slice none 0 0,.int .i64 1,.slice none 0 0] 90)).drew:=((Below.refl _ _).alloc (Nat.le_refl _) _).drew
 have HIC:=hid (show∀W,Below w4.heap.size w4 W→Cs W w4.heap.size [.string fo,.slice none 0 0,.int .i64 1,.slice none 0 0]→Calls Tryz.prog 126 #[.slice fa fos.length fc,.int .i64 p,.slice (some ⟨w4.heap.size,0,none⟩) 1 1] W fun e w'=> ∃u,e= .returned u∧LiesF w' u (fos.take p++⟨fo,⟨[],1,[]⟩⟩::fos.drop p)∧W.grownBy w' (Value.slice fa fos.length fc).ownBlock from fun W hW hc=>by
  rw[HP.out];exact HINS.out W w4.heap.size (HOF.out.below (below_tr hb04 hW)) (HRM.out.below (below_tr hb04 hW)) hc (fun b hb=>by have:=(HVB.out b hb).2;omega))
 rw[←HP.out]at HB;have HLEN:=hid (show(fos.take p++(⟨fo,⟨[],1,[]⟩⟩:Sh)::fos.drop p).length=fos.length+1 from by simp;omega);generalize fos.take p++(⟨fo,⟨[],1,[]⟩⟩:Sh)::fos.drop p=F at*;go_wp2_with fail
 go_region_with (
  go_at_call 126;refine(HIC.out _ hba4 ((Cs.new w4 [.string fo,.slice none 0 0,.int .i64 1,.slice none 0 0] _).below ((Below.refl _ _).drew))).mono ?_;rintro e w5 ⟨u5,rfl,hF5,hg5⟩;have HF5:=hid hF5;obtain⟨a5,c5,rfl,_⟩:=hF5;have HC5:=hid ((HC4.out.below hba4).orow hg5 (fun e=>by have:=(HVB.out g e).1;omega));have s0:=HC5.out.cell 0 rfl;have t0:=HC5.out.fr 0)
 all_goals
  have HG5:=hid ((HLU4.out.below hba4).row hg5 (fun b hb e=>by have:=(HVB.out b e).2;have:=HFU.out b hb;omega));have HS5:=hid (((HS.out.below hb04).below hba4).row hg5 (fun b hb e=>by have:=((HAP.out b e).2) b hb;omega));obtain⟨w6,hw6⟩: ∃w6,w6=w5.setCell ⟨g,0,none⟩ (.slice a5 F.length c5):=⟨_,rfl⟩
  have hg6:w5.grownBy w6 (some g):=by rw[hw6];exact nb_set _ _ _ _
  have HC6:Hid (Cs w6 g [.slice a5 F.length c5,.slice ga gs.length gc,.slice sa ss.length sc,.int .i64 nx,.int .i64 la,.int .i64 ro,.int .i64 now,.map (some mb)]):=(by rw[hw6];exact HC5.out.set 0 _:Cs w6 g _)
  have HNS5:=hid (noStr_sv HC5.out);obtain⟨w7,hw7⟩: ∃w7,w7=w6.setCell ⟨g,1,none⟩ (.slice ua L.length uc):=⟨_,rfl⟩
  have hg7:w6.grownBy w7 (some g):=by rw[hw7];exact nb_set _ _ _ _
  have HC7:Hid (Cs w7 g [.slice a5 F.length c5,.slice ua L.length uc,.slice sa ss.length sc,.int .i64 nx,.int .i64 la,.int .i64 ro,.int .i64 now,.map (some mb)]):=(by rw[hw7];exact HC6.out.set 1 _:Cs w7 g _)
  have hg57:w5.grownBy w7 (some g):=Nb.trans hg6 hg7;have HRR:=hid (show SvL w7 g mb ⟨F,L,ss,nx,la,ro,now⟩from⟨_,_,_,HC7.out,HF5.out.nb hg57 HNS5.out,HG5.out.nb hg57 HNS5.out,HS5.out.nb hg57 HNS5.out⟩);have hN7:Nb2 w w7 g (bo (.slice fa fos.length fc) g):=((Nb2.of_below _ _ (below_tr hb04 hba4)).trans (Nb2.of_row hg5)).trans (Nb2.of_left _ hg57);have q1:=HC6.out.cell 1 rfl;have t1:=HC6.out.fr 1;rw[hw6]at q1 t1;go_wp2_with fail;rw[←hw6,←hw7];go_ret;exact⟨by rw[HB.out.1];rfl,by rw[HB.out.2,←HL.out];exact HRR.out,hN7⟩
def zeroA:An:=⟨0,0,Jn.zeroP⟩
def zeroH:Hb:=⟨[],[],[],0,0,0,0⟩
theorem lies_nilE (w:World):Lies w (.slice none 0 0) []:=⟨none,0,rfl,Nat.le_refl _,by decide,fun i h=>absurd h (by simp)⟩
theorem liesA_num (w:World) (e n:Int):LiesA w (.agg #[.int .i64 e,.int .i64 n,.bool false,.slice none 0 0,.slice none 0 0,.int .i64 0,.bool false]) ⟨e,n,Jn.zeroP⟩:=⟨_,_,rfl,lies_nilE _,liesO_nil _⟩
theorem liesH_zero (w:World):LiesH w (.agg #[.slice none 0 0,.slice none 0 0,.slice none 0 0,.int .i64 0,.int .i64 0,.int .i64 0,.int .i64 0]) zeroH:=⟨_,_,_,rfl,liesF_nil _,liesG_nil _,⟨none,0,rfl,Nat.le_refl _,by decide,fun i h=>absurd h (by simp[zeroH])⟩⟩
theorem noStr_ans {w:World} {g:Nat} {e n c:Int} {r m:Bool} {x y:Option Addr} {a b a' b':Nat} (h:Cs w g [.int .i64 e,.int .i64 n,.bool r,.slice x a b,.slice y a' b',.int .i64 c,.bool m]):NoStr w g:=h.noStr (fun s hs=>by simp at hs)
theorem noStr_hub {w:World} {g:Nat} {a b c d e f:Nat} {x y z:Option Addr} {n1 n2 n3 n4:Int} (h:Cs w g [.slice x a b,.slice y c d,.slice z e f,.int .i64 n1,.int .i64 n2,.int .i64 n3,.int .i64 n4]):NoStr w g:=h.noStr (fun s hs=>by simp at hs)
/-- What number answers, and what it leaves. -/
def NumOK (w:World) (g mb:Nat) (vf:Value) (q:Rq) (n e:Int) (H:Hb):Prop:= ∀(W:World) (vq:Value),Below w.heap.size w W→LiesQ W vq q→Calls Tryz.prog 51 #[.pointer (some ⟨g,0,none⟩),vq] W fun z w'=>z= .returned (.tuple #[.int .i64 n,.int .i64 e])∧SvL w' g mb H∧Nb2 W w' g (bo vf g)
/-- What answer answers, and what it leaves. -/
def AnsOK (w:World) (g mb:Nat) (vf vq:Value) (A:An) (H:Hb):Prop:=Calls Tryz.prog 21 #[.pointer (some ⟨g,0,none⟩),vq] w fun z w'=> ∃u,z= .returned u∧LiesA w' u A∧SvL w' g mb H∧Nb2 w w' g (bo vf g)
set_option maxRecDepth 100000 in
set_option maxHeartbeats 8000000 in
theorem sanswer_num (H H':Hb) (q:Rq) (vq vf:Value) (g mb:Nat) (n e:Int) (w:World) (hsv:SvL w g mb H) (hs:SizedG H.gs) (hq:LiesQ w vq q) (hsq:SizedQ q) (hck:Hu.ckE H.gs q=0) (hk: ¬q.kind=2) (hnum:NumOK w g mb vf q n e H') (hvf: ∀b,vf.ownBlock=some b→b<w.heap.size):AnsOK w g mb vf vq ⟨e,n,Jn.zeroP⟩ H':=by
 have HSG:=hid hs;have HSQ:=hid hsq;have HCK:=hid hck;have HNUM:=hid hnum
 have HBO:=hid (show bo vf g<w.heap.size∧g<w.heap.size from by
  obtain⟨_,_,_,h,_⟩:=hsv
  refine⟨?_,h.lt⟩
  rw[bo];cases hb:vf.ownBlock with
  |none=>exact h.lt
  |some b=>exact hvf b hb)
 clear hs hsq hck hnum hvf;unfold AnsOK;obtain⟨va,rfl,lq⟩:=hq
 have HLQ:=hid lq;obtain⟨qa,qc,rfl,_⟩:=lq
 obtain⟨kind,who,fo,name,key,text,num,off,base,ch⟩:=q
 simp only at*;obtain⟨wa,hwa⟩: ∃wa,wa=w.alloc (.cells #[.int .i64 kind,.string who,.string fo,.string name,.string key,.string text,.int .i64 num,.int .i64 off,.int .i64 base,.slice qa ch.length qc] 31):=⟨_,rfl⟩
 obtain⟨wz,hwz⟩: ∃wz,wz=wa.alloc (.cells #[.int .i64 0,.int .i64 0,.bool false,.slice none 0 0,.slice none 0 0,.int .i64 0,.bool false] 43):=⟨_,rfl⟩
 have sa1:wa.heap.size=w.heap.size+1:=by rw[hwa];simp
 have bwa:Below w.heap.size w wa:=by rw[hwa];exact(Below.refl _ _).alloc (Nat.le_refl _) _
 have bwz:Below wa.heap.size wa wz:=by rw[hwz];exact(Below.refl _ _).alloc (Nat.le_refl _) _
 have hbz:Below w.heap.size w wz:=below_tr bwa bwz;have HQX:Hid (Cs wz w.heap.size [.int .i64 kind,.string who,.string fo,.string name,.string key,.string text,.int .i64 num,.int .i64 off,.int .i64 base,.slice qa ch.length qc]):=((by rw[hwa];exact Cs.new w [.int .i64 kind,.string who,.string fo,.string name,.string key,.string text,.int .i64 num,.int .i64 off,.int .i64 base,.slice qa ch.length qc] _:Cs wa w.heap.size [.int .i64 kind,.string who,.string fo,.string name,.string key,.string text,.int .i64 num,.int .i64 off,.int .i64 base,.slice qa ch.length qc]).below bwz:Cs wz w.heap.size _)
 have HAX:=hid (show Cs wz (w.heap.size+1) [.int .i64 0,.int .i64 0,.bool false,.slice none 0 0,.slice none 0 0,.int .i64 0,.bool false]from by rw[←sa1,hwz];exact Cs.new wa [.int .i64 0,.int .i64 0,.bool false,.slice none 0 0,.slice none 0 0,.int .i64 0,.bool false] _);have hwzz:(w.alloc (.cells #[.int .i64 kind,.string who,.string fo,.string name,.string key,.string text,.int .i64 num,.int .i64 off,.int .i64 base,.slice qa ch.length qc] 31)).alloc (.cells #[.int .i64 0,.int .i64 0,.bool false,.slice none 0 0,.slice none 0 0,.int .i64 0,.bool false] 43)=wz:=by rw[hwz,hwa]
 have HWZ:=hid hwzz;have hsz2:w.heap.size+1<wz.heap.size:=HAX.out.lt;clear hwa hwz bwa bwz sa1 hwzz;obtain⟨fa,fc,ga,gc,sa,sc,hC,hF,hG,hS⟩:=hsv.shape
 have HSVz:=hid (hsv.below hbz);have HCz:=hid (hC.below hbz);have HGz:=hid (hG.below hbz);have hgl:=hC.lt;have hgz:g<wz.heap.size:=Nat.lt_of_lt_of_le hgl hbz.size;clear hC hF hG hS;have x0:=HQX.out.cell 0 rfl;have x1:=HQX.out.cell 1 rfl;have x2:=HQX.out.cell 2 rfl;have x3:=HQX.out.cell 3 rfl;have x4:=HQX.out.cell 4 rfl;have x5:=HQX.out.cell 5 rfl;have x6:=HQX.out.cell 6 rfl;have x7:=HQX.out.cell 7 rfl;have x8:=HQX.out.cell 8 rfl;have x9:=HQX.out.cell 9 rfl;go_enter Tryz.func21,Tryz.ntmps21
 go_upto_region 1 with fail;rw[HWZ.out];clear HWZ;go_wp2_with fail;refine(scheck_any H.gs ⟨kind,who,fo,name,key,text,num,off,base,ch⟩ _ _ g wz hgz (HCz.out.cell 1 rfl) HGz.out HSG.out ⟨_,rfl,HLQ.out.below hbz⟩ HSQ.out).mono ?_
 rintro e w1 ⟨rfl,hb1⟩;clear x0 x1 x2 x3 x4 x5 x6 x7 x8 x9;have hb01:=below_tr hbz hb1;have HSV1:=hid (HSVz.out.below hb1);have HQ1:=hid (HQX.out.below hb1);have HA1:=hid (HAX.out.below hb1);have hs1:=hb1.size;rw[HCK.out];have hkk:(kind==2)=false:=by simpa using hk
 clear HCK hk;obtain⟨w2,hw2⟩: ∃w2,w2=w1.alloc (.cells #[.int .i64 0,.int .i64 0,.bool false,.slice none 0 0,.slice none 0 0,.int .i64 0,.bool false] 43):=⟨_,rfl⟩
 have hb2:Below w1.heap.size w1 w2:=by rw[hw2];exact(Below.refl _ _).alloc (Nat.le_refl _) _
 have HB2:=hid (show Cs w2 w1.heap.size [.int .i64 0,.int .i64 0,.bool false,.slice none 0 0,.slice none 0 0,.int .i64 0,.bool false]from by rw[hw2];exact Cs.new w1 [.int .i64 0,.int .i64 0,.bool false,.slice none 0 0,.slice none 0 0,.int .i64 0,.bool false] _);have HQ2:=hid (HQ1.out.below hb2);have HA2:=hid (HA1.out.below hb2);have hb02:=below_tr hb01 hb2;have hs2:=hb2.size;have hl2:=HB2.out.lt;have x0:=HQ2.out.cell 0 rfl;have x1:=HQ2.out.cell 1 rfl;have x2:=HQ2.out.cell 2 rfl;have x3:=HQ2.out.cell 3 rfl;have x4:=HQ2.out.cell 4 rfl;have x5:=HQ2.out.cell 5 rfl;have x6:=HQ2.out.cell 6 rfl;have x7:=HQ2.out.cell 7 rfl;have x8:=HQ2.out.cell 8 rfl;have x9:=HQ2.out.cell 9 rfl;go_upto_region 5 with fail;rw[←hw2];clear hw2;go_wp2_with fail;refine(HNUM.out w2 _ hb02 ⟨_,rfl,HLQ.out.below hb02⟩).mono ?_
 rintro z w3 ⟨rfl,hsv3,hn3⟩;have HSV3:=hid hsv3;have hbo:=HBO.out;have HB3:=hid (HB2.out.nb2 hn3 (by omega) (by omega));have HA3:=hid (HA2.out.nb2 hn3 (by omega) (by omega));have HN3:=hid (show Nb2 w w3 g (bo vf g)from(Nb2.of_below _ _ hb02).trans hn3);have hs3:=hn3.size;clear hsv3 hn3 x0 x1 x2 x3 x4 x5 x6 x7 x8 x9;obtain⟨w4,hw4⟩: ∃w4,w4=(w3.setCell ⟨w1.heap.size,1,none⟩ (.int .i64 n)).setCell ⟨w1.heap.size,0,none⟩ (.int .i64 e):=⟨_,rfl⟩
 have hg4:w3.grownBy w4 (some w1.heap.size):=by rw[hw4];exact grown_on (nb_set _ _ _ _) (nb_set _ _ _ _)
 have HB4:Hid (Cs w4 w1.heap.size [.int .i64 e,.int .i64 n,.bool false,.slice none 0 0,.slice none 0 0,.int .i64 0,.bool false]):=(by rw[hw4];exact(HB3.out.set 1 (.int .i64 n)).set 0 (.int .i64 e):Cs w4 w1.heap.size _)
 have HA4:=hid (HA3.out.nb hg4 (by omega));have HSV4:=hid (HSV3.out.nb hg4 (noStr_ans HB3.out) (by omega));have p0:=HB3.out.cell 0 rfl;have p1:=HB3.out.cell 1 rfl;have f0:=HB3.out.fr 0;have f1:=HB3.out.fr 1;go_upto_region 8 with fail;rw[←hw4];clear hw4 p0 p1 f0 f1;obtain⟨w5,hw5⟩: ∃w5,w5=(((((((w4.setCell ⟨w.heap.size+1,0,none⟩ (.int .i64 e)).setCell ⟨w.heap.size+1,1,none⟩ (.int .i64 n)).setCell ⟨w.heap.size+1,2,none⟩ (.bool false)).setCell ⟨w.heap.size+1,3,none⟩ (.slice none 0 0)).setCell ⟨w.heap.size+1,4,none⟩ (.slice none 0 0)).setCell ⟨w.heap.size+1,5,none⟩ (.int .i64 0)).setCell ⟨w.heap.size+1,6,none⟩ (.bool false)):=⟨_,rfl⟩
 have hg5:w4.grownBy w5 (some (w.heap.size+1)):=by rw[hw5];exact(grown_on (grown_on (grown_on (grown_on (grown_on (grown_on (nb_set w4 (w.heap.size+1) 0 (.int .i64 e)) (nb_set _ (w.heap.size+1) 1 (.int .i64 n))) (nb_set _ (w.heap.size+1) 2 (.bool false))) (nb_set _ (w.heap.size+1) 3 (.slice none 0 0))) (nb_set _ (w.heap.size+1) 4 (.slice none 0 0))) (nb_set _ (w.heap.size+1) 5 (.int .i64 0))) (nb_set _ (w.heap.size+1) 6 (.bool false)))
 have HA5:Hid (Cs w5 (w.heap.size+1) [.int .i64 e,.int .i64 n,.bool false,.slice none 0 0,.slice none 0 0,.int .i64 0,.bool false]):=(by rw[hw5];exact(((((((HA4.out.set 0 (.int .i64 e)).set 1 (.int .i64 n)).set 2 (.bool false)).set 3 (.slice none 0 0)).set 4 (.slice none 0 0)).set 5 (.int .i64 0)).set 6 (.bool false)):Cs w5 (w.heap.size+1) _)
 have HSV5:=hid (HSV4.out.nb hg5 (noStr_ans HA4.out) (by omega));have HN5:=hid (show Nb2 w w5 g (bo vf g)from⟨hg5.os.trans (hg4.os.trans HN3.out.os),hg5.tape.trans (hg4.tape.trans HN3.out.tape),hg5.output.trans (hg4.output.trans HN3.out.output),Nat.le_trans HN3.out.size (Nat.le_trans hg4.size hg5.size),fun k hk h1 h2=>(hg5.block k (by have:=HN3.out.size;have:=hg4.size;omega) (fun e=>by injection e with e;omega)).trans ((hg4.block k (by have:=HN3.out.size;omega) (fun e=>by injection e with e;omega)).trans (HN3.out.block k hk h1 h2))⟩);have q0:=HB4.out.cell 0 rfl;have q1:=HB4.out.cell 1 rfl;have q2:=HB4.out.cell 2 rfl;have q3:=HB4.out.cell 3 rfl;have q4:=HB4.out.cell 4 rfl;have q5:=HB4.out.cell 5 rfl;have q6:=HB4.out.cell 6 rfl;have p0:=HA4.out.cell 0 rfl;have f0:=HA4.out.fr 0;have p1:=HA4.out.cell 1 rfl;have f1:=HA4.out.fr 1;have p2:=HA4.out.cell 2 rfl;have f2:=HA4.out.fr 2;have p3:=HA4.out.cell 3 rfl;have f3:=HA4.out.fr 3;have p4:=HA4.out.cell 4 rfl;have f4:=HA4.out.fr 4;have p5:=HA4.out.cell 5 rfl;have f5:=HA4.out.fr 5;have p6:=HA4.out.cell 6 rfl;have f6:=HA4.out.fr 6;go_wp2_with fail;rw[←hw5];clear p0 p1 p2 p3 p4 p5 p6;have y0:=HA5.out.cell 0 rfl;have y1:=HA5.out.cell 1 rfl;have y2:=HA5.out.cell 2 rfl;have y3:=HA5.out.cell 3 rfl;have y4:=HA5.out.cell 4 rfl;have y5:=HA5.out.cell 5 rfl;have y6:=HA5.out.cell 6 rfl;refine bodyPost_ret (v:= .agg #[.int .i64 e,.int .i64 n,.bool false,.slice none 0 0,.slice none 0 0,.int .i64 0,.bool false]) (by simp[results,Tryz.results21,go_sem,y0,y1,y2,y3,y4,y5,y6]) rfl ⟨_,rfl,liesA_num _ _ _,HSV5.out,HN5.out⟩
set_option maxRecDepth 100000 in
set_option maxHeartbeats 4000000 in
theorem snum_make (H:Hb) (q:Rq) (vq vf vg vs:Value) (B g mb:Nat) (w:World) (hsv:Sv B w g mb vf vg vs H) (hgB:g<B) (hBw:B≤w.heap.size) (hs:SizedG H.gs) (hr:Hu.risB H.fos=true) (h8:H.fos.length≤8) (hq:LiesQ w vq q) (hsq:SizedQ q) (hins:InsOK B vf H.fos (Hu.plc H.fos q.fo) q.fo) (hk:q.kind=8):
    Calls Tryz.prog 51 #[.pointer (some ⟨g,0,none⟩),vq] w fun z w'=>z= .returned (.tuple #[.int .i64 0,.int .i64 (Hu.mkE H q.fo q.who)])∧SvL w' g mb (Hu.mkH H q.fo q.who)∧Nb2 w w' g (bo vf g):=by
 have HINS:=hid hins;have HSG:=hid hs;have HR:=hid hr;clear hins hs hr;have HSV:=hid hsv;have HSQ:=hid hsq;clear hsv hsq;obtain⟨va,rfl,lq⟩:=hq
 have HLQ:=hid lq;obtain⟨qa,qc,rfl,_⟩:=lq
 obtain⟨kind,who,fo,name,key,text,num,off,base,ch⟩:=q
 simp only at*;obtain⟨wz,hwz⟩: ∃wz,wz=w.alloc (.cells #[.int .i64 kind,.string who,.string fo,.string name,.string key,.string text,.int .i64 num,.int .i64 off,.int .i64 base,.slice qa ch.length qc] 31):=⟨_,rfl⟩
 have hbz:Below w.heap.size w wz:=by rw[hwz];exact(Below.refl _ _).alloc (Nat.le_refl _) _
 have HQX:Hid (Cs wz w.heap.size [.int .i64 kind,.string who,.string fo,.string name,.string key,.string text,.int .i64 num,.int .i64 off,.int .i64 base,.slice qa ch.length qc]):=(by rw[hwz];exact Cs.new w [.int .i64 kind,.string who,.string fo,.string name,.string key,.string text,.int .i64 num,.int .i64 off,.int .i64 base,.slice qa ch.length qc] _:Cs wz w.heap.size _)
 subst hk;have x0:=HQX.out.cell 0 rfl;have x1:=HQX.out.cell 1 rfl;have x2:=HQX.out.cell 2 rfl;have x3:=HQX.out.cell 3 rfl;have x4:=HQX.out.cell 4 rfl;have x5:=HQX.out.cell 5 rfl;have x6:=HQX.out.cell 6 rfl;have x7:=HQX.out.cell 7 rfl;have x8:=HQX.out.cell 8 rfl;have x9:=HQX.out.cell 9 rfl;have hs01:=hbz.size;go_enter Tryz.func51,Tryz.ntmps51
 go_upto_region 1 with fail;rw[←hwz];clear hwz;go_wp2_with fail;refine(smake_any H ⟨8,who,fo,name,key,text,num,off,base,ch⟩ _ vf vg vs B g mb wz (HSV.out.below hbz) hgB (by omega) HSG.out HR.out h8 ⟨_,rfl,HLQ.out.below hbz⟩ HSQ.out HINS.out).mono ?_
 rintro z w3 ⟨rfl,hs3,hn3⟩;have HS3:=hid hs3;have HN3:=hid (show Nb2 w w3 g (bo vf g)from(Nb2.of_below _ _ hbz).trans hn3);clear hs3 hn3;go_wp2_with fail;go_ret2;exact⟨rfl,HS3.out,HN3.out⟩
set_option maxRecDepth 100000 in
set_option maxHeartbeats 4000000 in
theorem snum_commit (H:Hb) (q:Rq) (vq vf vg vs:Value) (B g mb n:Nat) (w:World) (hsv:Sv B w g mb vf vg vs H) (hm:SvM w mb n H) (hgB:g<B) (hs:SizedF H.fos) (hq:LiesQ w vq q) (hsq:SizedQ q) (hi:Hu.whr H.fos H.gs q.fo<H.fos.length) (hk:q.kind=1):
    Calls Tryz.prog 51 #[.pointer (some ⟨g,0,none⟩),vq] w fun z w'=>z= .returned (.tuple #[.int .i64 (Hu.cmN H (Hu.whr H.fos H.gs q.fo) q.key q.ch),.int .i64 (Hu.cmE H (Hu.whr H.fos H.gs q.fo) q.key q.ch)])∧SvL w' g mb (Hu.cmH H (Hu.whr H.fos H.gs q.fo) q.key q.ch)∧Nb2 w w' g (bo vf g):=by
 have HSF:=hid hs;have HM:=hid hm;have HI:=hid hi;clear hs hm hi;have HSV:=hid hsv;have HSQ:=hid hsq;clear hsv hsq;obtain⟨va,rfl,lq⟩:=hq
 have HLQ:=hid lq;obtain⟨qa,qc,rfl,_⟩:=lq
 obtain⟨kind,who,fo,name,key,text,num,off,base,ch⟩:=q
 simp only at*;obtain⟨wz,hwz⟩: ∃wz,wz=w.alloc (.cells #[.int .i64 kind,.string who,.string fo,.string name,.string key,.string text,.int .i64 num,.int .i64 off,.int .i64 base,.slice qa ch.length qc] 31):=⟨_,rfl⟩
 have hbz:Below w.heap.size w wz:=by rw[hwz];exact(Below.refl _ _).alloc (Nat.le_refl _) _
 have HQX:Hid (Cs wz w.heap.size [.int .i64 kind,.string who,.string fo,.string name,.string key,.string text,.int .i64 num,.int .i64 off,.int .i64 base,.slice qa ch.length qc]):=(by rw[hwz];exact Cs.new w [.int .i64 kind,.string who,.string fo,.string name,.string key,.string text,.int .i64 num,.int .i64 off,.int .i64 base,.slice qa ch.length qc] _:Cs wz w.heap.size _)
 subst hk;have x0:=HQX.out.cell 0 rfl;have x1:=HQX.out.cell 1 rfl;have x2:=HQX.out.cell 2 rfl;have x3:=HQX.out.cell 3 rfl;have x4:=HQX.out.cell 4 rfl;have x5:=HQX.out.cell 5 rfl;have x6:=HQX.out.cell 6 rfl;have x7:=HQX.out.cell 7 rfl;have x8:=HQX.out.cell 8 rfl;have x9:=HQX.out.cell 9 rfl;have hs01:=hbz.size;go_enter Tryz.func51,Tryz.ntmps51
 go_upto_region 1 with fail;rw[←hwz];clear hwz;go_wp2_with fail;refine(hcommit_any H ⟨1,who,fo,name,key,text,num,off,base,ch⟩ ch _ _ vf vg vs B g mb n wz (HSV.out.below hbz) (HM.out.below hbz) hgB HSF.out ⟨_,rfl,HLQ.out.below hbz⟩ HSQ.out (HLQ.out.below hbz) HSQ.out.ch HI.out).mono ?_
 rintro z w3 ⟨rfl,hs3,hn3⟩;have HS3:=hid hs3;have HN3:=hid (show Nb2 w w3 g (bo vf g)from(Nb2.of_below _ _ hbz).trans hn3);clear hs3 hn3;go_wp2_with fail;go_ret2;exact⟨rfl,HS3.out,HN3.out⟩
end Go.Proofs.YtppdfeehhnofaaaGreatDoor
