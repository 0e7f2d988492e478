/- What the server's finish does. -/
import Derived.Test.YtppdfeehhnofaaaGreatDoorHAT
import Derived.Test.YtppdfeehhnofaaaGreatDoorHAN
set_option linter.unusedSimpArgs false
set_option linter.unusedVariables false
namespace Go.Proofs.YtppdfeehhnofaaaGreatDoor
open Go.RowKit

theorem LiesS.nb2 {w w':World} {u:Value} {L:List Se} {g m B:Nat} (h:LiesS w u L) (hf:Fr B u) (hn:Nb2 w w' g m) (hg:g<B) (hm:m<B):LiesS w' u L:=by
 obtain⟨a,cap,rfl,h1,h2,h3⟩:=h
 refine⟨a,cap,rfl,h1,h2,fun i hi=>?_⟩
 obtain⟨b,o,rfl,hb,he⟩:=h3 i hi
 have hB:B≤b:=hf b rfl;have c: ∀j,w'.cell? ⟨b,j,none⟩=w.cell? ⟨b,j,none⟩:=fun j=>hn.cell hb (by omega) (by omega) j
 exact⟨b,o,rfl,Nat.lt_of_lt_of_le hb hn.size,(c _).trans he.1,(c _).trans he.2.1,(c _).trans he.2.2.1,(c _).trans he.2.2.2.1,(c _).trans he.2.2.2.2⟩
/-- What becomes of uploads where one is finished, and its text. -/
structure Fu where
 e:Int
 ss:List Se
 nx:Int
 la:Int
 ro:Int
 tx:ByteArray
namespace Hu
def fnC (q:Rq) (tx:ByteArray):List Pp.Ch:=[⟨2,q.name,⟨#[]⟩,tx,q.base⟩]
def fnE (H:Hb) (q:Rq) (F:Fu):Int:=if F.e=0 then cmE H (whr H.fos H.gs q.fo) q.key (fnC q F.tx)else F.e
def fnN (H:Hb) (q:Rq) (F:Fu):Int:=if F.e=0 then cmN H (whr H.fos H.gs q.fo) q.key (fnC q F.tx)else 0
def fnH (H:Hb) (q:Rq) (F:Fu):Hb:=if F.e=0 then upH (cmH H (whr H.fos H.gs q.fo) q.key (fnC q F.tx)) (cmE H (whr H.fos H.gs q.fo) q.key (fnC q F.tx)) F.ss F.nx F.la F.ro else H
end Hu
set_option maxRecDepth 100000 in
set_option maxHeartbeats 8000000 in
theorem sfinish_any (H:Hb) (q:Rq) (vq vf vg vs:Value) (B g mb n:Nat) (w:World) (F:Fu) (hsv:Sv B w g mb vf vg vs H) (hm:SvM w mb n H) (hgB:g<B) (hBw:B≤w.heap.size) (hs:SizedF H.fos) (hq:LiesQ w vq q) (hsq:SizedQ q) (htx:F.tx.size≤150000000000000) (hi:Hu.whr H.fos H.gs q.fo<H.fos.length)
    (hop: ∀(W:World) (v:Value),LiesS W v H.ss→Calls Tryz.prog 132 #[.agg #[v,.int .i64 H.nx,.int .i64 H.la,.int .i64 H.ro],.string q.who,.int .i64 q.num,.int .i64 H.now] W fun z w'=> ∃u,z= .returned (.tuple #[.agg #[u,.int .i64 F.nx,.int .i64 F.la,.int .i64 F.ro],.string F.tx,.int .i64 F.e])∧LiesS w' u F.ss∧Fr W.heap.size u∧Below W.heap.size W w'):
    Calls Tryz.prog 98 #[.pointer (some ⟨g,0,none⟩),vq] w fun z w'=>z= .returned (.tuple #[.int .i64 (Hu.fnN H q F),.int .i64 (Hu.fnE H q F)])∧SvL w' g mb (Hu.fnH H q F)∧Nb2 w w' g (bo vf g):=by
 have HOP:=hid hop;have HSV:=hid hsv;have HM:=hid hm;have HSF:=hid hs;have HSQ:=hid hsq;have HTX:=hid htx;have HI:=hid hi;have HQQ:=hid hq;clear hop hs hm hsq htx hi;obtain⟨q0,hq0⟩: ∃q0,q0=q:=⟨_,rfl⟩
 have HQ0:=hid hq0;clear hq0;obtain⟨va,rfl,lq⟩:=hq
 have HLQ:=hid lq;obtain⟨qa,qc,rfl,_⟩:=lq
 obtain⟨kind,who,fo,name,key,text,num,off,base,ch⟩:=q
 simp only at*;obtain⟨wz,hwz⟩: ∃wz,wz=w.alloc (.cells #[.int .i64 kind,.string who,.string fo,.string name,.string key,.string text,.int .i64 num,.int .i64 off,.int .i64 base,.slice qa ch.length qc] 31):=⟨_,rfl⟩
 have hbz:Below w.heap.size w wz:=by rw[hwz];exact(Below.refl _ _).alloc (Nat.le_refl _) _
 have HQX:Hid (Cs wz w.heap.size [.int .i64 kind,.string who,.string fo,.string name,.string key,.string text,.int .i64 num,.int .i64 off,.int .i64 base,.slice qa ch.length qc]):=(by rw[hwz];exact Cs.new w [.int .i64 kind,.string who,.string fo,.string name,.string key,.string text,.int .i64 num,.int .i64 off,.int .i64 base,.slice qa ch.length qc] _:Cs wz w.heap.size _)
 obtain⟨fa,fc,ga,gc,sa,sc,hC,hF,hG,hS⟩:=hsv.lies.shape
 have HC:=hid (hC.below hbz);have HLS:=hid (hS.below hbz);have hgl:g<w.heap.size:=hC.lt;have hgz:=HC.out.lt;have hql:=HQX.out.lt
 have HVF:=hid (show bo vf g<w.heap.size from by
  rw[bo];cases hb:vf.ownBlock with
  |none=>exact hgl
  |some b=>obtain⟨_,_,_,ho,_⟩:=hsv.2.1;exact ho.lt b hb)
 clear hsv hC hF hG hS;have x1:=HQX.out.cell 1 rfl;have x6:=HQX.out.cell 6 rfl;have p2:=HC.out.cell 2 rfl;have p3:=HC.out.cell 3 rfl;have p4:=HC.out.cell 4 rfl;have p5:=HC.out.cell 5 rfl;have p6:=HC.out.cell 6 rfl;have hdr:Below wz.heap.size wz wz.drew:=(Below.refl _ _).drew;have hda:Below wz.heap.size wz (wz.alloc (.cells #[.slice none 0 0,.int .i64 0,.int .i64 0,.int .i64 0] 26)).drew:=((Below.refl _ _).alloc (Nat.le_refl _) _).drew;have hnz: ¬w.heap.size=wz.heap.size:=by omega
 have hnz2: ¬g=wz.heap.size:=by omega
 go_enter Tryz.func98,Tryz.ntmps98
 go_upto_region 1 with fail;rw[←hwz];clear hwz;go_cut [6,7,8] (fun p t e W=> ∃b xa xc,p= .pointer (some ⟨b,0,none⟩)∧t= .string F.tx∧e= .int .i64 F.e∧wz.heap.size≤b∧Hid (Cs W b [.slice xa F.ss.length xc,.int .i64 F.nx,.int .i64 F.la,.int .i64 F.ro])∧Hid (LiesS W (.slice xa F.ss.length xc) F.ss∧Fr wz.heap.size (.slice xa F.ss.length xc))∧Below wz.heap.size wz W)
 case first=>
  go_region_held3 (fun W=>W.cell? ⟨w.heap.size,1,none⟩=some (.string who)∧W.cell? ⟨w.heap.size,6,none⟩=some (.int .i64 num)∧W.cell? ⟨g,2,none⟩=some (.slice sa H.ss.length sc)∧W.cell? ⟨g,3,none⟩=some (.int .i64 H.nx)∧W.cell? ⟨g,4,none⟩=some (.int .i64 H.la)∧W.cell? ⟨g,5,none⟩=some (.int .i64 H.ro)∧W.cell? ⟨g,6,none⟩=some (.int .i64 H.now)) (first|go_keep|(have hx:=((HQX.out.below hb23).nb (grown_on (grown_on (grown_on (nb_set w3 (wz.heap.size) 0 (.slice xa F.ss.length xc)) (nb_set _ (wz.heap.size) 1 (.int .i64 F.nx))) (nb_set _ (wz.heap.size) 2 (.int .i64 F.la))) (nb_set _ (wz.heap.size) 3 (.int .i64 F.ro))) (by omega));have hy:=((HC.out.below hb23).nb (grown_on (grown_on (grown_on (nb_set w3 (wz.heap.size) 0 (.slice xa F.ss.length xc)) (nb_set _ (wz.heap.size) 1 (.int .i64 F.nx))) (nb_set _ (wz.heap.size) 2 (.int .i64 F.la))) (nb_set _ (wz.heap.size) 3 (.int .i64 F.ro))) (by omega));exact⟨hx.cell 1 rfl,hx.cell 6 rfl,hy.cell 2 rfl,hy.cell 3 rfl,hy.cell 4 rfl,hy.cell 5 rfl,hy.cell 6 rfl⟩)) (first
   |(go_at_call 132;refine(HOP.out _ _ (HLS.out.below hdr)).mono ?_;rintro z w3 ⟨u3,rfl,hl3,hf3,hb3⟩;have hb23:=below_tr hdr hb3;have HL3:=hid hl3;have HF3:=hid hf3;obtain⟨xa,xc,rfl,_⟩:=hl3;clear hf3;have q1:=(HQX.out.below hb23).cell 1 rfl;have q6:=(HQX.out.below hb23).cell 6 rfl;have c2:=(HC.out.below hb23).cell 2 rfl;have c3:=(HC.out.below hb23).cell 3 rfl;have c4:=(HC.out.below hb23).cell 4 rfl;have c5:=(HC.out.below hb23).cell 5 rfl;have c6:=(HC.out.below hb23).cell 6 rfl)
   |(go_at_call 132;refine(HOP.out _ _ (HLS.out.below hda)).mono ?_;rintro z w3 ⟨u3,rfl,hl3,hf3,hb3⟩;have hb23:=below_tr hda hb3;have HL3:=hid hl3;have HF3:=hid hf3;obtain⟨xa,xc,rfl,_⟩:=hl3;clear hf3;have q1:=(HQX.out.below hb23).cell 1 rfl;have q6:=(HQX.out.below hb23).cell 6 rfl;have c2:=(HC.out.below hb23).cell 2 rfl;have c3:=(HC.out.below hb23).cell 3 rfl;have c4:=(HC.out.below hb23).cell 4 rfl;have c5:=(HC.out.below hb23).cell 5 rfl;have c6:=(HC.out.below hb23).cell 6 rfl;have HZ:=hid (((Cs.new wz [.slice none 0 0,.int .i64 0,.int .i64 0,.int .i64 0] 26).below ((Below.refl _ _).drew)).below hb3);have d0:=HZ.out.cell 0 rfl;have d1:=HZ.out.cell 1 rfl;have d2:=HZ.out.cell 2 rfl;have d3:=HZ.out.cell 3 rfl;have r0:=HZ.out.fr 0;have r1:=HZ.out.fr 1;have r2:=HZ.out.fr 2;have r3:=HZ.out.fr 3))
  all_goals
   go_wp2_with fail;go_meet
   case rel=>first
    |exact⟨wz.heap.size,xa,xc,rfl,rfl,rfl,Nat.le_refl _,((((HZ.out.set 0 (.slice xa F.ss.length xc)).set 1 (.int .i64 F.nx)).set 2 (.int .i64 F.la)).set 3 (.int .i64 F.ro)),⟨HL3.out.nb2 HF3.out (Nb2.of_left 0 (grown_on (grown_on (grown_on (nb_set w3 (wz.heap.size) 0 (.slice xa F.ss.length xc)) (nb_set _ (wz.heap.size) 1 (.int .i64 F.nx))) (nb_set _ (wz.heap.size) 2 (.int .i64 F.la))) (nb_set _ (wz.heap.size) 3 (.int .i64 F.ro)))) (by simp) (by have:=hda.size;omega),HF3.out.mono hda.size⟩,(bs4 (b:=wz.heap.size) hb23 (Nat.le_refl _))⟩
    |exact⟨_,xa,xc,rfl,rfl,rfl,hb23.size,Cs.new w3 [.slice xa F.ss.length xc,.int .i64 F.nx,.int .i64 F.la,.int .i64 F.ro] _,⟨HL3.out.below ((Below.refl _ _).alloc (Nat.le_refl _) _),HF3.out.mono hdr.size⟩,hb23.alloc hb23.size _⟩
 case rest=>
  obtain⟨b,xa,xc,rfl,rfl,rfl,hbb,HB,HU,hbx⟩:=hcut
  have HQx:=hid (HQX.out.below hbx);have HCx:=hid (HC.out.below hbx);have hsx:=hbx.size;have hlb:=HB.out.lt;clear x1 x6 p2 p3 p4 p5 p6 hdr hda;have hb0x:=below_tr hbz hbx;have HQ0':Hid (⟨kind,who,fo,name,key,text,num,off,base,ch⟩=q0):=(HQ0.out.symm:(⟨kind,who,fo,name,key,text,num,off,base,ch⟩:Rq)=q0)
  by_cases h0:F.e=0
  · have HE:=hid h0
    rw[h0];obtain⟨N,hN⟩: ∃N,N=Hu.cmN H (Hu.whr H.fos H.gs fo) key (Hu.fnC ⟨kind,who,fo,name,key,text,num,off,base,ch⟩ F.tx):=⟨_,rfl⟩
    obtain⟨E,hE⟩: ∃E,E=Hu.cmE H (Hu.whr H.fos H.gs fo) key (Hu.fnC ⟨kind,who,fo,name,key,text,num,off,base,ch⟩ F.tx):=⟨_,rfl⟩
    obtain⟨H2,hH2⟩: ∃H2,H2=Hu.cmH H (Hu.whr H.fos H.gs fo) key (Hu.fnC ⟨kind,who,fo,name,key,text,num,off,base,ch⟩ F.tx):=⟨_,rfl⟩
    have HPOST:=hid (show Hu.fnN H ⟨kind,who,fo,name,key,text,num,off,base,ch⟩ F=N∧Hu.fnE H ⟨kind,who,fo,name,key,text,num,off,base,ch⟩ F=E∧Hu.fnH H ⟨kind,who,fo,name,key,text,num,off,base,ch⟩ F=Hu.upH H2 E F.ss F.nx F.la F.ro from by rw[hN,hE,hH2,Hu.fnN,Hu.fnE,Hu.fnH,if_pos h0,if_pos h0,if_pos h0];exact⟨rfl,rfl,rfl⟩);have HN:=hid hN;have HE2:=hid hE;have HH2:=hid hH2;clear h0 hN hE hH2;obtain⟨wl,hwl⟩: ∃wl,wl=wc.alloc (.cells #[.int .i64 2,.string name,.string ⟨#[]⟩,.string F.tx,.int .i64 base] 54):=⟨_,rfl⟩
    have hbl:Below wc.heap.size wc wl:=by rw[hwl];exact(Below.refl _ _).alloc (Nat.le_refl _) _
    have HCH:Hid (Cs wl wc.heap.size [.int .i64 2,.string name,.string ⟨#[]⟩,.string F.tx,.int .i64 base]):=(by rw[hwl];exact Cs.new wc [.int .i64 2,.string name,.string ⟨#[]⟩,.string F.tx,.int .i64 base] _:Cs wl wc.heap.size _)
    have hb0l:=below_tr hb0x hbl;have HBl:=hid (HB.out.below hbl);have hsl:=hbl.size;have x0:=HQx.out.cell 0 rfl;have x1:=HQx.out.cell 1 rfl;have x2:=HQx.out.cell 2 rfl;have x3:=HQx.out.cell 3 rfl;have x4:=HQx.out.cell 4 rfl;have x5:=HQx.out.cell 5 rfl;have x6:=HQx.out.cell 6 rfl;have x7:=HQx.out.cell 7 rfl;have x8:=HQx.out.cell 8 rfl;have x9:=HQx.out.cell 9 rfl;go_wp2_with fail;rw[←hwl];clear hwl x0 x1 x2 x3 x4 x5 x6 x7 x8 x9
    refine(hcommit_any H ⟨kind,who,fo,name,key,text,num,off,base,ch⟩ (Hu.fnC ⟨kind,who,fo,name,key,text,num,off,base,ch⟩ F.tx) _ _ vf vg vs B g mb n wl (HSV.out.below hb0l) (HM.out.below hb0l) hgB HSF.out ⟨_,rfl,HLQ.out.below hb0l⟩ HSQ.out ⟨some ⟨wc.heap.size,0,none⟩,1,rfl,Nat.le_refl _,by show(1:Nat)≤_;decide,fun i hi=>⟨wc.heap.size,0,rfl,HCH.out.lt,by
     match i,hi with
     |0,_=>exact⟨HCH.out.cell 0 rfl,HCH.out.cell 1 rfl,HCH.out.cell 2 rfl,HCH.out.cell 3 rfl,HCH.out.cell 4 rfl⟩⟩⟩ (fun x hx=>by
     obtain rfl:=List.mem_singleton.1 hx;exact⟨HSQ.out.name,by show(0:Nat)≤_;omega,HTX.out⟩) HI.out).mono ?_
    rintro z w5 ⟨rfl,hsv5,hn5⟩;rw[←HN.out,←HE2.out];rw[←HH2.out]at hsv5;have hvf:=HVF.out;have HSV5:=hid hsv5;have HB5:=hid (HBl.out.nb2 hn5 (by omega) (by omega));have HU5:=hid (show LiesS w5 (.slice xa F.ss.length xc) F.ss from(HU.out.1.below hbl).nb2 HU.out.2 hn5 (by omega) (by omega));have HN5:=hid (show Nb2 w w5 g (bo vf g)from(Nb2.of_below _ _ hb0l).trans hn5);clear hsv5 hn5;have y0:=HB5.out.cell 0 rfl;have y1:=HB5.out.cell 1 rfl;have y2:=HB5.out.cell 2 rfl;have y3:=HB5.out.cell 3 rfl;go_wp2_with fail;refine(stake_any H2 F.ss _ F.nx F.la F.ro N E g mb w5 HSV5.out HU5.out).mono ?_
    rintro z w6 ⟨rfl,hs6,hg6⟩;have HS6:=hid hs6;have HN6:=hid (show Nb2 w w6 g (bo vf g)from HN5.out.trans (Nb2.of_left _ hg6));clear hs6 hg6 y0 y1 y2 y3;go_wp2_with fail;go_ret2;rw[HPOST.out.1,HPOST.out.2.1,HPOST.out.2.2];exact⟨rfl,HS6.out,HN6.out⟩
  · have HPOST:=hid (show Hu.fnN H ⟨kind,who,fo,name,key,text,num,off,base,ch⟩ F=0∧Hu.fnE H ⟨kind,who,fo,name,key,text,num,off,base,ch⟩ F=F.e∧Hu.fnH H ⟨kind,who,fo,name,key,text,num,off,base,ch⟩ F=H from by rw[Hu.fnN,Hu.fnE,Hu.fnH,if_neg h0,if_neg h0,if_neg h0];exact⟨rfl,rfl,rfl⟩)
    have hz2:(F.e !=0)=true:=by simpa using h0
    have hz:(F.e==0)=false:=by simpa using h0
    clear h0;go_wp2_with fail;go_ret2;rw[HPOST.out.1,HPOST.out.2.1,HPOST.out.2.2];exact⟨rfl,HSV.out.lies.below hb0x,Nb2.of_below _ _ hb0x⟩
end Go.Proofs.YtppdfeehhnofaaaGreatDoor
namespace Go.Proofs.YtppdfeehhnofaaaGreatDoor
open Go.RowKit

namespace Pp
/-- The place of the first session of which a predicate holds; -1: of none. -/
def idS (G:List Se) (pr:Se→Bool):Int:=match G.findIdx? pr with
 |some i=>(i:Int)
 |none=> -1
theorem idS_hit {G:List Se} {pr:Se→Bool} {k:Nat} (hlt:k<G.length) (h: ∀j (h:j<G.length),j<k→pr G[j]=false) (hp:pr G[k]=true):(k:Int)=idS G pr:=by
 have:G.findIdx? pr=some k:=List.findIdx?_eq_some_iff_getElem.2 ⟨hlt,hp,fun j hj=>by rw[h j (by omega) hj];simp⟩
 rw[idS,this]
theorem idS_miss {G:List Se} {pr:Se→Bool} (h: ∀j (h:j<G.length),pr G[j]=false): -1=idS G pr:=by
 have:G.findIdx? pr=none:=List.findIdx?_eq_none_iff.2 fun x hx=>by
  obtain⟨j,hj,rfl⟩:=List.getElem_of_mem hx
  exact h j hj
 rw[idS,this]
theorem idS_cases (G:List Se) (pr:Se→Bool):(idS G pr= -1∧ ∀x∈G,pr x=false)∨ ∃k,∃h:k<G.length,idS G pr=(k:Int)∧pr G[k]=true∧ ∀j (hj:j<G.length),j<k→pr G[j]=false:=by
 cases hf:G.findIdx? pr with
 |none=>
  have hn:=List.findIdx?_eq_none_iff.1 hf;exact Or.inl ⟨by rw[idS,hf],fun x hx=>by simpa using hn x hx⟩
 |some k=>
  obtain⟨hlt,hp,hmin⟩:=List.findIdx?_eq_some_iff_getElem.1 hf
  exact Or.inr ⟨k,hlt,by rw[idS,hf],hp,fun j hj hjk=>by have:=hmin j hjk;simpa using this⟩
/-- What is left where j sessions were looked at. -/
def lf (pr:Se→Bool) (L:List Se) (j:Nat):List Se:=(L.take j).filter fun x=> !pr x
theorem lf_keep {pr:Se→Bool} {L:List Se} {j:Nat} (h:j<L.length) (hp:pr L[j]=false):lf pr L (j+1)=lf pr L j++[L[j]]:=by
 rw[lf,lf,List.take_succ_eq_append_getElem h,List.filter_append];simp[hp]
theorem lf_skip {pr:Se→Bool} {L:List Se} {j:Nat} (h:j<L.length) (hp:pr L[j]=true):lf pr L (j+1)=lf pr L j:=by
 rw[lf,lf,List.take_succ_eq_append_getElem h,List.filter_append];simp[hp]
theorem lf_all {pr:Se→Bool} {L:List Se} {k:Nat} (hk:k≤L.length) (h: ∀j (hj:j<L.length),j<k→pr L[j]=false):lf pr L k=L.take k:=by
 rw[lf,List.filter_eq_self];intro x hx;obtain⟨j,hj,rfl⟩:=List.getElem_of_mem hx
 rw[List.length_take]at hj;rw[List.getElem_take,h j (by omega) (by omega)];rfl
theorem lf_len (pr:Se→Bool) (L:List Se) (j:Nat):(lf pr L j).length≤j:=by
 have h1:=List.length_filter_le (fun x=> !pr x) (L.take j);have h2:=List.length_take_le j L;rw[lf];omega
end Pp

set_option maxHeartbeats 1000000 in
theorem sindexFunc_any (G:List Se) (v:Value) (q g:Nat) (cb:Array Value) (pr:Se→Bool) (w:World) (hv:LiesS w v G) (hg:TellsS w q g cb pr):
    Calls Tryz.prog 171 #[v,.func (.func g) #[] cb] w fun e w'=>e= .returned (.int .i64 (Pp.idS G pr))∧Below w.heap.size w w':=by
 obtain⟨a,cap,rfl,hcap,hcap2,hLL⟩:=hv
 have HL:Hid (∀i (h:i<G.length),∃b o,a=some ⟨b,o,none⟩∧b<w.heap.size∧SeAt w b (o+i*5) G[i]):=hLL;have HG:=ghid hg;have eg:=hg.1;clear hLL hg;go_enter Tryz.func171,Tryz.ntmps171
 go_wp2_with fail;go_loopw [8] (fun i wr=> ∃k:Nat,k≤G.length∧i= .int .i64 k∧Hid (∀j (h:j<G.length),j<k→pr G[j]=false)∧Below w.heap.size w wr) (fun i _=>G.length-(intOf i).toNat)
 case atStart=>exact⟨0,Nat.zero_le _,rfl,(fun j _ h=>absurd h (Nat.not_lt_zero _): ∀j (h:j<G.length),j<0→pr G[j]=false),Below.refl _ _⟩
 case round=>
  obtain⟨k,hk,rfl,HP,hbel⟩:=hrel
  by_cases hlt:k<G.length
  · obtain⟨b,o,rfl,hb,he⟩:=HL.out k hlt
    obtain⟨c0,c1,c2,c3,c4⟩:=he.below hb hbel
    go_wp2_with fail;refine(HG.out.2 _ (Nb.below q hbel) G[k]).mono ?_
    rintro e w1 ⟨rfl,hb1⟩;have hbel1:=below_trans hbel hb1;clear c0 c1 c2 c3 c4 hbel hb1;cases hp:pr G[k]with
    |true=>
     have HE:=hid (show(k:Int)=Pp.idS G pr from Pp.idS_hit hlt HP.out hp);go_wp2_with fail;go_ret;exact⟨Pp.ret_int HE.out,hbel1⟩
    |false=>
     have HP2:=hid (show∀j (h:j<G.length),j<k+1→pr G[j]=false from fun j h1 h2=>by
      by_cases e:j=k
      · subst e;exact hp
      · exact HP.out j h1 (by omega))
     go_wp2_with fail;go_roundw
     case rel=>exact⟨k+1,by omega,by simp,HP2,hbel1⟩
     case measure=>simp[intOf];omega
  · have HE:=hid (show-1=Pp.idS G pr from Pp.idS_miss (fun j h=>HP.out j h (by omega)))
    go_wp2_with fail;go_ret;exact⟨Pp.ret_int HE.out,hbel⟩
end Go.Proofs.YtppdfeehhnofaaaGreatDoor
namespace Go.Proofs.YtppdfeehhnofaaaGreatDoor
open Go.RowKit

namespace Pp
def zeS:Se:=⟨0,⟨#[]⟩,⟨#[]⟩,0,0⟩
theorem at_mid {α:Type} {A B C:List α} {j:Nat} {x:α} (h:(A++B).length=j) (hC:C=x::C.tail): ∃hj:j<(A++B++C).length,(A++B++C)[j]=x:=by
 have hl:j<(A++B++C).length:=by rw[List.length_append,h,hC];simp
 refine⟨hl,?_⟩
 rw[List.getElem_append_right (by omega)];subst h;simp only[Nat.sub_self];rw[List.getElem_of_eq hC];rfl
theorem set_mid {α:Type} {A X C:List α} {a x y:α}:(A++(a::X)++(x::C)).set A.length y=A++[y]++(X++[x])++C:=by
 simp
theorem drop_hd {α:Type} {L:List α} {j:Nat} (h:j<L.length):L.drop j=L[j]::L.drop (j+1):=List.drop_eq_getElem_cons h
end Pp

theorem Tryz.zeroS: ∀w,(zeroValue 139).run Tryz.prog w= .ok (.agg #[.int .i64 0,.string ⟨#[]⟩,.string ⟨#[]⟩,.int .i64 0,.int .i64 0]) w:=Tryz.zeroValue139
theorem rowS_some {w:World} {g:Nat} {d:List Se} (h:RowS w g d) {t:Nat} (ht:t<d.length*5):(w.cell? ⟨g,t,none⟩).isSome=true∧w.frozen? ⟨g,t,none⟩=false:=by
 have h1:t/5<d.length:=by omega
 have h2:t/5*5+t % 5=t:=by omega
 have h3:=h.2 (t/5) h1 (t % 5) (by omega);rw[h2]at h3;refine⟨?_,h3.2⟩
 rw[h3.1];have h4:t % 5<5:=by omega
 match t % 5,h4 with
 |0,_=>rfl
 |1,_=>rfl
 |2,_=>rfl
 |3,_=>rfl
 |4,_=>rfl
theorem clearS {w:World} {g:Nat} {A X:List Se} (h:RowS w g (A++X)) (ty:TypeId) (hX:0<X.length):
    ∃w',(∀cap,(Builtin.clear_ #[24] ty #[.slice (some ⟨g,A.length*5,none⟩) X.length cap]).run Tryz.prog w= .ok (.tuple #[]) w')∧RowS w' g A∧w.grownBy w' (some g)∧KeepB g w w':=by
 obtain⟨z,hz⟩: ∃z:Value,z= .agg #[.int .i64 0,.string ⟨#[]⟩,.string ⟨#[]⟩,.int .i64 0,.int .i64 0]:=⟨_,rfl⟩
 have hzv: ∀w,(zeroValue 139).run Tryz.prog w= .ok z w:=by rw[hz];exact Tryz.zeroS
 have hzc:z.cells=(Pp.cellsS Pp.zeS).toArray:=by rw[hz];rfl
 obtain⟨vs,hvs⟩: ∃vs,vs=(Builtin.zeroCells z.cells X.length).toList:=⟨_,rfl⟩
 have hl:vs.length=X.length*5:=by rw[hvs,hzc];simp[Builtin.zeroCells,Pp.cellsS]
 have h1: ∀v∈vs,v.oneCell'=true:=by
  intro v hv;rw[hvs,hzc]at hv;simp[Builtin.zeroCells]at hv
  obtain⟨i,hi,rfl⟩:=hv
  have h4:i % (Pp.cellsS Pp.zeS).length<5:=Nat.mod_lt _ (by decide);refine Pp.cellsS_one Pp.zeS _ ?_
  have h5:i % (Pp.cellsS Pp.zeS).length<(Pp.cellsS Pp.zeS).length:=h4;rw[List.getElem?_eq_getElem h5];exact List.getElem_mem h5
 have hst:=run_storeCells_cells (P:=Tryz.prog) g (A.length*5) vs 0 w (fun j hj=>by
  rw[Nat.add_zero];exact(rowS_some h (by rw[List.length_append];omega)).1) (fun j hj=>by
  rw[Nat.add_zero];exact(rowS_some h (by rw[List.length_append];omega)).2) h1
 simp only[Nat.add_zero]at hst;refine⟨w.setCells g (A.length*5) vs,?_,⟨Nat.lt_of_lt_of_le h.1 (Nb.setCells g _ _ w).size,fun i hi c hc=>⟨?_,?_⟩⟩,Nb.setCells g _ _ w,KeepB.setCells g _ _ w⟩
 · intro cap
   obtain⟨m,hm⟩: ∃m,X.length=m+1:=⟨X.length-1,by omega⟩
   rw[hm]at hvs⊢;simp[Builtin.clear_,run_underlying Tryz.underlying24,hzv,←hvs,hst]
 · have hi':i<(A++X).length:=by rw[List.length_append];omega
   rw[World.cell?_setCells_out g _ _ _ _ (fun _ _=>by simp only;omega),(h.2 i hi' c hc).1,List.getElem_append_left hi]
 · rw[World.frozen?_setCells]
   exact(h.2 i (by rw[List.length_append];omega) c hc).2
set_option maxRecDepth 100000 in
set_option maxHeartbeats 2000000 in
theorem deleteFunc_any (L:List Se) (q cap g:Nat) (cb:Array Value) (pr:Se→Bool) (w:World) (hR:RowS w q L) (hg:TellsS w q g cb pr) (hn:L.length≤1000) (hcap:L.length≤cap):
    Calls Tryz.prog 169 #[.slice (some ⟨q,0,none⟩) L.length cap,.func (.func g) #[] cb] w fun e w'=>e= .returned (.slice (some ⟨q,0,none⟩) (L.filter fun x=> !pr x).length cap)∧RowS w' q (L.filter fun x=> !pr x)∧w.grownBy w' (some q)∧KeepB q w w':=by
 have HR:=ghid hR;have HG:=ghid hg;have eg:=hg.1;have HIX:=ghid (fun W (hW:Below w.heap.size w W)=>sindexFunc_any L _ q g cb pr W ((hR.lies hcap (by omega)).below hW) ⟨hg.1,fun W' hW'=>hg.2 W' (Nb.trans (Nb.below q hW) hW')⟩);clear hR hg;rcases Pp.idS_cases L pr with⟨hi,hall⟩|⟨k0,hk0,hi,hp0,hpre⟩
 · have HI:=ghid hi
   have hF:(L.filter fun x=> !pr x)=L:=by
    rw[List.filter_eq_self];intro x hx;rw[hall x hx];rfl
   rw[hF];clear hi hF hall;go_enter Tryz.func169,Tryz.ntmps169
   go_wp2_with fail;refine(HIX.out w (Below.refl _ _)).mono ?_
   rintro e w1 ⟨rfl,hb1⟩;rw[HI.out];go_wp2;go_ret;exact⟨rfl,HR.out.below hb1,Nb.below q hb1,KeepB.below hb1⟩
 · have HI:=ghid hi
   have H0:=ghid (show Pp.lf pr L (k0+1)=L.take k0 from(Pp.lf_skip hk0 hp0).trans (Pp.lf_all (Nat.le_of_lt hk0) hpre));have HF:=hid (show Pp.lf pr L L.length=L.filter fun x=> !pr x from by rw[Pp.lf,List.take_length]);have hkk:((k0:Int)== -1)=false:=beq_eq_false_iff_ne.2 (by omega);clear hi hp0 hpre;go_enter Tryz.func169,Tryz.ntmps169
   go_wp2_with fail;refine(HIX.out w (Below.refl _ _)).mono ?_
   rintro e w1 ⟨rfl,hb1⟩;rw[HI.out];have HB1:=ghid hb1;clear hb1;go_wp2_with fail;go_loopw [5,6] (fun a b wr=> ∃(j:Nat) (X:List Se),j≤L.length∧a= .int .i64 (Pp.lf pr L j).length∧b= .int .i64 j∧(Pp.lf pr L j).length+X.length=j∧0<X.length∧Hid (RowS wr q (Pp.lf pr L j++X++L.drop j))∧w.grownBy wr (some q)∧KeepB q w wr) (fun _ b _=>L.length-(intOf b).toNat)
   case atStart=>
    have hlen:(Pp.lf pr L (k0+1)).length=k0:=by rw[H0.out,List.length_take];omega
    refine⟨k0+1,[L[k0]],by omega,by rw[hlen],by simp,by rw[hlen];simp,by simp,?_,Nb.below q HB1.out,KeepB.below HB1.out⟩
    have e:Pp.lf pr L (k0+1)++[L[k0]]++L.drop (k0+1)=L:=by
     rw[H0.out,List.append_assoc,List.singleton_append,←Pp.drop_hd hk0,List.take_append_drop]
    have:RowS w1 q (Pp.lf pr L (k0+1)++[L[k0]]++L.drop (k0+1)):=by rw[e];exact HR.out.below HB1.out
    exact this
   case round=>
    obtain⟨j,X,hj,rfl,rfl,hlen,hX,HROW,hnb,hkb⟩:=hrel
    have HNB:=ghid hnb;have HKB:=ghid hkb;clear hnb hkb;by_cases hlt:j<L.length
    · obtain⟨hjj,hget⟩:=Pp.at_mid (A:=Pp.lf pr L j) (B:=X) (C:=L.drop j) (j:=j) (x:=L[j]) (by rw[List.length_append];exact hlen) (by rw[Pp.drop_hd hlt];rfl)
      have hat:=HROW.out.at hjj;rw[hget]at hat;obtain⟨c0,c1,c2,c3,c4⟩:=hat
      have hqlt:=HROW.out.1;clear hget hjj;have HKEEP:=hid (show pr L[j]=false→Pp.lf pr L (j+1)=Pp.lf pr L j++[L[j]]from Pp.lf_keep hlt);have HSKIP:=hid (show pr L[j]=true→Pp.lf pr L (j+1)=Pp.lf pr L j from Pp.lf_skip hlt);have HD:=ghid (Pp.drop_hd hlt);have hil:=Pp.lf_len pr L j;generalize L[j]=s at*;generalize Pp.lf pr L j=A at*;cases hp:pr s with
      |false=>
       have HK:=ghid (HKEEP.out hp);go_wp2_with fail;refine(HG.out.2 _ (Nb.trans HNB.out (Nb.below q ((Below.refl _ _).alloc (Nat.le_refl _) _))) s).mono ?_
       rintro e w2 ⟨rfl,hb2⟩;rw[hp];obtain⟨d0,d1,d2,d3,d4,hbw2,hlt2⟩:=bxU5 hb2
       have hrow2:=HROW.out.below hbw2;have hil2:A.length<(A++X++L.drop j).length:=by simp only[List.length_append];omega
       obtain⟨y,hy⟩: ∃y,y=(A++X++L.drop j)[A.length]:=⟨_,rfl⟩
       obtain⟨t0,t1,t2,t3,t4⟩:=hrow2.at hil2
       rw[←hy]at t0 t1 t2 t3 t4;have f0:=(hrow2.2 _ hil2 0 (by decide)).2;have f1:=(hrow2.2 _ hil2 1 (by decide)).2;have f2:=(hrow2.2 _ hil2 2 (by decide)).2;have f3:=(hrow2.2 _ hil2 3 (by decide)).2;have f4:=(hrow2.2 _ hil2 4 (by decide)).2;rw[Nat.add_zero]at f0;have hset:=hrow2.set hil2 s
       obtain⟨a0,X',rfl⟩: ∃a0 X',X=a0::X':=by
        cases X with
        |nil=>simp at hX
        |cons a0 X'=>exact⟨a0,X',rfl⟩
       rw[HD.out,Pp.set_mid]at hset;have HROW2:=ghid hset;have HNB2:=ghid (Nb.trans (Nb.trans HNB.out (Nb.below q hbw2)) (Nb.setCells q (Pp.cellsS s) (A.length*5) w2));have HKB2:=ghid ((HKB.out.trans (KeepB.below hbw2)).trans (KeepB.setCells q (Pp.cellsS s) (A.length*5) w2));clear hrow2 hb2 hset hy hbw2;go_wp2_with fail;go_roundw
       case rel=>exact⟨j+1,X'++[s],by omega,by rw[HK.out,List.length_append];simp,by simp,by rw[HK.out,List.length_append];simp at hlen⊢;omega,by simp,by rw[HK.out];exact HROW2,HNB2.out,HKB2.out⟩
       case measure=>simp[intOf];omega
      |true=>
       have HK:=ghid (HSKIP.out hp);go_wp2_with fail;refine(HG.out.2 _ (Nb.trans HNB.out (Nb.below q ((Below.refl _ _).alloc (Nat.le_refl _) _))) s).mono ?_
       rintro e w2 ⟨rfl,hb2⟩;rw[hp];obtain⟨d0,d1,d2,d3,d4,hbw2,hlt2⟩:=bxU5 hb2
       have hrow2:=HROW.out.below hbw2;rw[HD.out]at hrow2;have HROW2:=hid (show RowS w2 q (A++(X++[s])++L.drop (j+1))from by simpa using hrow2);have HNB2:=ghid (Nb.trans HNB.out (Nb.below q hbw2));have HKB2:=ghid (HKB.out.trans (KeepB.below hbw2));clear hrow2 hb2 hbw2;go_wp2_with fail;go_roundw
       case rel=>exact⟨j+1,X++[s],by omega,by rw[HK.out],by simp,by rw[HK.out,List.length_append];simp;omega,by simp,by rw[HK.out];exact HROW2,HNB2.out,HKB2.out⟩
       case measure=>simp[intOf];omega
    · obtain rfl:j=L.length:=by omega
      have HRW:=HROW.out;rw[List.drop_length,List.append_nil]at HRW;rw[HF.out]at hlen HRW⊢;obtain⟨wc,hcl0,hrc,hnc,hkc⟩:=clearS HRW 0 hX
      have hcl:=hcl0 (cap-(L.filter fun x=> !pr x).length);clear hcl0;have hXl:X.length=L.length-(L.filter fun x=> !pr x).length:=by omega
      rw[hXl]at hcl;have HRC:=ghid hrc;have HNC:=ghid (Nb.trans HNB.out hnc);have HKC:=ghid (HKB.out.trans hkc);have hfl:(L.filter fun x=> !pr x).length≤L.length:=by omega
      clear HRW hrc hnc hkc;generalize hFF:(L.filter fun x=> !pr x)=FF at*;go_wp2_with fail;go_ret;exact⟨by rw[hFF];rfl,by rw[hFF];exact HRC.out,HNC.out,HKC.out⟩
set_option maxHeartbeats 1000000 in
theorem deleteFunc_nil (g:Nat) (cb:Array Value) (w:World):
    Calls Tryz.prog 169 #[.slice none 0 0,.func (.func g) #[] cb] w fun e w'=>e= .returned (.slice none 0 0)∧Below w.heap.size w w':=by
 have hix: ∀W,Calls Tryz.prog 171 #[.slice none 0 0,.func (.func g) #[] cb] W fun e w'=>e= .returned (.int .i64 (-1))∧w'=W:=by
  intro W;go_enter Tryz.func171,Tryz.ntmps171
  go_wp2_with fail;go_loopw [8] (fun i wr=>i= .int .i64 0∧wr=W) (fun i _=>0)
  case atStart=>exact⟨rfl,rfl⟩
  case round=>
   obtain⟨rfl,rfl⟩:=hrel
   go_wp2_with fail;go_ret;exact⟨rfl,rfl⟩
 go_enter Tryz.func169,Tryz.ntmps169
 go_wp2_with fail;refine(hix _).mono ?_
 rintro e w1 ⟨rfl,hw⟩;rw[hw];go_wp2;go_ret;exact⟨rfl,Below.refl _ _⟩
theorem Tryz.infoSe:(Tryz.prog.info? 139).map (fun i=>(i.zero,i.size,i.bytes))=some (some (.agg #[.int .i64 0,.string ⟨#[]⟩,.string ⟨#[]⟩,.int .i64 0,.int .i64 0]),5,56):=by kernel_rfl
theorem liesS_cells {w:World} {b o:Nat} {L:List Se} (h: ∀i (h:i<L.length),SeAt w b (o+i*5) L[i]): ∀j u,(Pp.flatS L)[j]?=some u→w.cell? ((⟨b,o,none⟩:Addr).add j)=some u:=by
 intro j u hj
 have hjl:j<L.length*5:=by
  have:=(List.getElem?_eq_some_iff.1 hj).1
  rw[Pp.flatS_len]at this;exact this
 have h1:j/5<L.length:=by omega
 have h2:j/5*5+j % 5=j:=by omega
 have h3:=Pp.flatS_get L (j/5) (j % 5) h1 (by omega);rw[h2]at h3;rw[h3]at hj;obtain⟨e0,e1,e2,e3,e4⟩:=h _ h1
 have ha:(⟨b,o,none⟩:Addr).add j=⟨b,o+j/5*5+j % 5,none⟩:=by
  rw[Addr.add_lit,Nat.add_assoc,h2]
 rw[ha];have h4:j % 5<5:=by omega
 generalize j % 5=c at*;match c,h4,hj with
 |0,_,hj=>simp[Pp.cellsS]at hj;subst hj;exact e0
 |1,_,hj=>simp[Pp.cellsS]at hj;subst hj;exact e1
 |2,_,hj=>simp[Pp.cellsS]at hj;subst hj;exact e2
 |3,_,hj=>simp[Pp.cellsS]at hj;subst hj;exact e3
 |4,_,hj=>simp[Pp.cellsS]at hj;subst hj;exact e4
theorem flatS_one (L:List Se): ∀u∈Pp.flatS L,u.oneCell'=true:=by
 intro u hu;obtain⟨s,_,hs⟩:=List.mem_flatMap.1 hu
 exact Pp.cellsS_one s u hs
/-- Nil, and no session; or sessions in memory of their own. -/
def OwnS (base:Nat) (w':World) (u:Value) (L:List Se):Prop:=(u= .slice none 0 0∧L=[])∨ ∃g cap,u= .slice (some ⟨g,0,none⟩) L.length cap∧base≤g∧L.length≤cap∧RowS w' g L∧Blk w' g 139 (cap*5)∧cap≤maxLen
set_option maxHeartbeats 1000000 in
theorem sclone_any (L:List Se) (v:Value) (w:World) (hv:LiesS w v L) (hn:L.length≤1000):
    Calls Tryz.prog 86 #[v] w fun e w'=> ∃u,e= .returned u∧OwnS w.heap.size w' u L∧Below w.heap.size w w':=by
 obtain⟨i0,hi0,hz0,hz1,hz2⟩:=info_parts Tryz.infoSe
 obtain⟨a,cap,rfl,hcap,hcap2,hLL⟩:=hv
 have q22: ∀(w:World) (a:Option Addr) (n c n' c':Nat),(binOp .eql 24 (.slice a n c) (.slice none n' c')).run Tryz.prog w= .ok (.bool a.isNone) w:=fun w a n c n' c'=>Lib.run_eql_slice_nil w _ _ a n c n' c' Tryz.underlying24
 cases a with
 |none=>
  have hL:L=[]:=by
   cases L with
   |nil=>rfl
   |cons s r=>obtain⟨b,o,hb,_⟩:=hLL 0 (by simp);cases hb
  subst hL;go_enter Tryz.func86,Tryz.ntmps86
  go_wp2;go_ret;exact⟨_,rfl,Or.inl ⟨rfl,rfl⟩,Below.refl _ _⟩
 |some ad=>
  have hcells: ∀j u,(Pp.flatS L)[j]?=some u→w.cell? (ad.add j)=some u:=by
   cases L with
   |nil=>intro j u hj;simp[Pp.flatS]at hj
   |cons s r=>
    obtain⟨b,o,hb,_⟩:=hLL 0 (by simp)
    injection hb with hb
    subst hb
    exact liesS_cells fun i hi=>by
     obtain⟨b',o',hb',_,he⟩:=hLL i hi
     injection hb' with hb'
     injection hb' with h1 h2
     subst h1;subst h2;exact he
  have HC:=ghid hcells;have HFL:=ghid (Pp.flatS_len L);clear hcells hLL;go_enter Tryz.func86,Tryz.ntmps86
  go_wp2_with (at_builtin;refine wpList_append_own _ rfl _ _ 24 rfl w.heap.size 139 i0 (.agg #[.int .i64 0,.string ⟨#[]⟩,.string ⟨#[]⟩,.int .i64 0,.int .i64 0]) 5 56 Tryz.underlying24 hi0 hz0 hz1 hz2 rfl (by decide) _ _ _ rfl (World.ownsRow_made w #[] 0 (Nat.le_refl _) (Nat.zero_le _) (by simp)) ad L.length cap (Pp.flatS L) rfl ?qc1 ?qc2 ?qc3 ?qc4 ?qc5 ?qc6 ?_)
  case qc1=>exact HFL.out
  case qc2=>intro j u hj;exact Lib.cell?_alloc_some _ (HC.out j u hj)
  case qc3=>exact flatS_one L
  case qc4=>unfold maxLen;omega
  case qc5=>omega
  case qc6=>simp
  intro v2 w2 ho2 hgr2 hnn2;have hbel2:Below w.heap.size w w2:=((Below.refl _ _).alloc (Nat.le_refl _) _).grown hgr2 (by simp) (fun k hk=>by simp[Value.ownBlock]at hk;omega)
  have hcl:OwnS w.heap.size w2 v2 L:=by
   have ho3:w2.ownsRow w.heap.size 139 5 v2 L.length (Pp.flatS L):=by simpa using ho2
   obtain⟨hl,h2⟩:=ho3
   rcases h2 with⟨rfl,hz⟩|⟨g,cap2,cur,rfl,hg,hh,hn2,hm,hz,htake⟩
   · exact(hnn2 rfl).elim
   · exact Or.inr ⟨g,cap2,rfl,hg,hn2,rowS_own (base:=w.heap.size) (T:=139) (cap:=cap2) (n:=L.length) (by simpa using ho2) rfl,⟨cur,hh,hz⟩,hm⟩
  have HCL:=ghid hcl;clear ho2 hgr2 hnn2 hcl;go_wp2_with fail;go_ret;exact⟨_,rfl,HCL.out,hbel2⟩
end Go.Proofs.YtppdfeehhnofaaaGreatDoor
namespace Go.Proofs.YtppdfeehhnofaaaGreatDoor
open Go.RowKit

def Bx (W:World) (b:Nat) (a0 a1 a2 a3:Value):Prop:=b<W.heap.size∧(W.cell? ⟨b,0,none⟩=some a0∧W.cell? ⟨b,1,none⟩=some a1∧W.cell? ⟨b,2,none⟩=some a2∧W.cell? ⟨b,3,none⟩=some a3)∧W.frozen? ⟨b,0,none⟩=false∧W.frozen? ⟨b,1,none⟩=false∧W.frozen? ⟨b,2,none⟩=false∧W.frozen? ⟨b,3,none⟩=false
theorem Bx.below {W W':World} {b:Nat} {a0 a1 a2 a3:Value} (h:Bx W b a0 a1 a2 a3) (hw:Below W.heap.size W W'):Bx W' b a0 a1 a2 a3:=by
 obtain⟨hb,⟨c0,c1,c2,c3⟩,f0,f1,f2,f3⟩:=h
 exact⟨Nat.lt_of_lt_of_le hb hw.size,⟨(hw.cell (p:=⟨b,0,none⟩) hb).trans c0,(hw.cell (p:=⟨b,1,none⟩) hb).trans c1,(hw.cell (p:=⟨b,2,none⟩) hb).trans c2,(hw.cell (p:=⟨b,3,none⟩) hb).trans c3⟩,(hw.frozen (p:=⟨b,0,none⟩) hb).trans f0,(hw.frozen (p:=⟨b,1,none⟩) hb).trans f1,(hw.frozen (p:=⟨b,2,none⟩) hb).trans f2,(hw.frozen (p:=⟨b,3,none⟩) hb).trans f3⟩
theorem Bx.nb {W W':World} {b g:Nat} {a0 a1 a2 a3:Value} (h:Bx W b a0 a1 a2 a3) (hw:W.grownBy W' (some g)) (hne:b≠g):Bx W' b a0 a1 a2 a3:=by
 obtain⟨hb,⟨c0,c1,c2,c3⟩,f0,f1,f2,f3⟩:=h
 exact⟨Nat.lt_of_lt_of_le hb hw.size,⟨(Nb.cell hw (p:=⟨b,0,none⟩) hb hne).trans c0,(Nb.cell hw (p:=⟨b,1,none⟩) hb hne).trans c1,(Nb.cell hw (p:=⟨b,2,none⟩) hb hne).trans c2,(Nb.cell hw (p:=⟨b,3,none⟩) hb hne).trans c3⟩,(Nb.frozen hw (p:=⟨b,0,none⟩) hb hne).trans f0,(Nb.frozen hw (p:=⟨b,1,none⟩) hb hne).trans f1,(Nb.frozen hw (p:=⟨b,2,none⟩) hb hne).trans f2,(Nb.frozen hw (p:=⟨b,3,none⟩) hb hne).trans f3⟩
theorem Bx.new (w:World) (a0 a1 a2 a3:Value) (T:TypeId):Bx (w.alloc (.cells #[a0,a1,a2,a3] T)) w.heap.size a0 a1 a2 a3:=
 ⟨by simp,⟨by simp,by simp,by simp,by simp⟩,World.frozen?_alloc_at _ _ _ _ rfl,World.frozen?_alloc_at _ _ _ _ rfl,World.frozen?_alloc_at _ _ _ _ rfl,World.frozen?_alloc_at _ _ _ _ rfl⟩
theorem Bx.set {W:World} {b b' o:Nat} {a0 a1 a2 a3 u:Value} (h:Bx W b a0 a1 a2 a3) (hne:b'≠b):Bx (W.setCell ⟨b',o,none⟩ u) b a0 a1 a2 a3:=h.nb (Nb.setCell W b' o u) (fun e=>hne e.symm)
theorem below_set4 {B b:Nat} {w W:World} {a0 a1 a2 a3:Value} (h:Below B w W) (hb:B≤b):Below B w ((((W.setCell ⟨b,0,none⟩ a0).setCell ⟨b,1,none⟩ a1).setCell ⟨b,2,none⟩ a2).setCell ⟨b,3,none⟩ a3):=
 (((h.setCell (p:=⟨b,0,none⟩) hb _).setCell (p:=⟨b,1,none⟩) hb _).setCell (p:=⟨b,2,none⟩) hb _).setCell (p:=⟨b,3,none⟩) hb _
end Go.Proofs.YtppdfeehhnofaaaGreatDoor
