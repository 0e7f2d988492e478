/- What the server's check, journal and page answer. -/
import Derived.Test.YtppdfeehhnofaaaGreatDoorHAQ
import Derived.Deep.RegionHeld3
import Derived.Test.YtppdfeehhnofaaaGreatDoorHAP
set_option linter.unusedSimpArgs false
set_option linter.unusedVariables false
namespace Go.Proofs.YtppdfeehhnofaaaGreatDoor
open Go.RowKit

theorem least_any (k:Int) (w:World):Calls Tryz.prog 88 #[.int .i64 k] w fun e w'=>e= .returned (.int .i64 (Hu.lst k))∧w'=w:=by
 by_cases h1:k=1
 · subst h1
   go_enter Tryz.func88,Tryz.ntmps88
   go_wp2_with fail;go_ret;exact⟨rfl,rfl⟩
 by_cases h7:k=7
 · subst h7
   go_enter Tryz.func88,Tryz.ntmps88
   go_wp2_with fail;go_ret;exact⟨rfl,rfl⟩
 by_cases h2:k=2
 · subst h2
   go_enter Tryz.func88,Tryz.ntmps88
   go_wp2_with fail;go_ret;exact⟨rfl,rfl⟩
 by_cases h3:k=3
 · subst h3
   go_enter Tryz.func88,Tryz.ntmps88
   go_wp2_with fail;go_ret;exact⟨rfl,rfl⟩
 have HE:=hid (show Hu.lst k=0 from by rw[Hu.lst,if_neg (by omega),if_neg (by omega)]);have e1:(k==1)=false:=by simpa using h1
 have e2:(k==2)=false:=by simpa using h2
 have e3:(k==3)=false:=by simpa using h3
 have e7:(k==7)=false:=by simpa using h7
 clear h1 h2 h3 h7;go_enter Tryz.func88,Tryz.ntmps88
 go_wp2_with fail;go_ret;exact⟨by rw[HE.out];rfl,rfl⟩
set_option maxRecDepth 100000 in
set_option maxHeartbeats 4000000 in
theorem scheck_any (G:List Gr) (q:Rq) (vq vg:Value) (g:Nat) (w:World) (hg:g<w.heap.size) (hc:w.cell? ⟨g,1,none⟩=some vg) (hv:LiesG w vg G) (hs:SizedG G) (hq:LiesQ w vq q) (hsq:SizedQ q):
    Calls Tryz.prog 49 #[.pointer (some ⟨g,0,none⟩),vq] w fun e w'=>e= .returned (.int .i64 (Hu.ckE G q))∧Below w.heap.size w w':=by
 have HV:=hid hv;have HS:=hid hs;have HSQ:=hid hsq;obtain⟨va,rfl,lq⟩:=hq
 obtain⟨qa,qc,rfl,_⟩:=lq
 obtain⟨ga,gc,rfl,_⟩:=hv
 clear hs hsq;obtain⟨kind,who,fo,name,key,text,num,off,base,ch⟩:=q
 simp only at*;obtain⟨wz,hwz⟩: ∃wz,wz=w.alloc (.cells #[.int .i64 kind,.string who,.string fo,.string name,.string key,.string text,.int .i64 num,.int .i64 off,.int .i64 base,.slice qa ch.length qc] 31):=⟨_,rfl⟩
 have hbz:Below w.heap.size w wz:=by rw[hwz];exact(Below.refl _ _).alloc (Nat.le_refl _) _
 have HX:Hid (Cs wz w.heap.size [.int .i64 kind,.string who,.string fo,.string name,.string key,.string text,.int .i64 num,.int .i64 off,.int .i64 base,.slice qa ch.length qc]):=(by rw[hwz];exact Cs.new w [.int .i64 kind,.string who,.string fo,.string name,.string key,.string text,.int .i64 num,.int .i64 off,.int .i64 base,.slice qa ch.length qc] _:Cs wz w.heap.size _)
 have hgz:g<wz.heap.size:=Nat.lt_of_lt_of_le hg hbz.size;have hcz:=(hbz.cell (p:=⟨g,1,none⟩) hg).trans hc;have p0:=HX.out.cell 0 rfl;have p1:=HX.out.cell 1 rfl;go_enter Tryz.func49,Tryz.ntmps49
 go_upto_region 1 with fail;rw[←hwz];clear hwz hc;by_cases hk:kind<1
 · have HE:=hid (Hu.ck_kind (G:=G) (q:=⟨kind,who,fo,name,key,text,num,off,base,ch⟩) (Or.inl hk))
   go_wp2_with fail;go_ret;exact⟨by rw[HE.out];rfl,hbz⟩
 by_cases hk8:8<kind
 · have HE:=hid (Hu.ck_kind (G:=G) (q:=⟨kind,who,fo,name,key,text,num,off,base,ch⟩) (Or.inr hk8))
   go_wp2_with fail;go_ret;exact⟨by rw[HE.out];rfl,hbz⟩
 have HK:=hid (show¬(kind<1∨8<kind)from fun x=>x.elim hk hk8);obtain⟨wy,hwy⟩: ∃wy,wy=wz.alloc (.cells #[.string who] 9):=⟨_,rfl⟩
 have hby:Below wz.heap.size wz wy:=by rw[hwy];exact(Below.refl _ _).alloc (Nat.le_refl _) _
 have HN:=hid (show Cs wy wz.heap.size [.string who]from by rw[hwy];exact Cs.new wz [.string who] _);go_wp2_with fail;rw[←hwy];clear hwy p0 p1
 refine(names_any [who] wz.heap.size 0 1 wy HN.out.lt (fun i hi=>by
  match i,hi with
  |0,_=>show who.size≤_;have:who.size≤150000000000000:=HSQ.out.who;omega) (by simp) (fun i hi=>by
  match i,hi with
  |0,_=>exact HN.out.cell 0 rfl)).mono ?_
 rintro e w1 ⟨rfl,hb1⟩;have hbz1:=below_tr hby hb1;have hb01:=below_tr hbz hbz1;have HX1:=hid (HX.out.below hbz1);have hc1:=(hbz1.cell (p:=⟨g,1,none⟩) hgz).trans hcz;have hg1:g<w1.heap.size:=Nat.lt_of_lt_of_le hgz hbz1.size;clear hcz;by_cases hn: ¬(Pp.nmsE [who]=0)
 · have HE:=hid (Hu.ck_who (G:=G) (q:=⟨kind,who,fo,name,key,text,num,off,base,ch⟩) HK.out hn)
   have hz:(Pp.nmsE [who]==0)=false:=by simpa using hn
   have hz2:(Pp.nmsE [who] !=0)=true:=by simpa using hn
   clear hn;simp only at HE;generalize Pp.nmsE [who]=r at*;go_wp2_with fail;go_ret;exact⟨by rw[HE.out];rfl,hb01⟩
 replace hn:=Decidable.not_not.1 hn;have HNM:=hid hn;rw[hn];clear hn;have x1:=HX1.out.cell 1 rfl;have x2:=HX1.out.cell 2 rfl;have hq1:=HX1.out.lt;go_wp2_with fail
 go_region_held3 (fun W=>W.cell? ⟨g,1,none⟩=some (.slice ga G.length gc)∧W.cell? ⟨w.heap.size,2,none⟩=some (.string fo)∧W.cell? ⟨w.heap.size,1,none⟩=some (.string who)) (go_keep) (first
  |(go_at_call 87;refine(right2_any G _ fo who _ (HV.out.below (below_tr hb01 (Below.refl _ _).drew)) HS.out HSQ.out.fo HSQ.out.who).mono ?_;rintro e wa ⟨rfl,hba⟩;have hya:Below w1.heap.size w1 wa:=((Below.refl _ _).drew).trans hba;have j0:=(hya.cell (p:=⟨g,1,none⟩) hg1).trans hc1;have j1:=(hya.cell (p:=⟨w.heap.size,2,none⟩) hq1).trans x2;have j2:=(hya.cell (p:=⟨w.heap.size,1,none⟩) hq1).trans x1))
 have hb0a:=below_tr hb01 hya;have HXa:=hid (HX1.out.below hya);have y0:=HXa.out.cell 0 rfl;clear x1 x2 hc1 j0 j1 j2;obtain⟨rr,hrr⟩: ∃rr,rr=Pp.rigR G fo who:=⟨_,rfl⟩
 rw[←hrr];have HRR:=hid hrr;clear hrr;go_wp2_with fail;refine(least_any kind _).mono ?_
 rintro e w3 ⟨rfl,rfl⟩;obtain⟨ll,hll⟩: ∃ll,ll=Hu.lst kind:=⟨_,rfl⟩
 rw[←hll];have HLL:=hid hll;clear hll;by_cases hr:rr<ll
 · have HE:=hid (show Hu.ckE G ⟨kind,who,fo,name,key,text,num,off,base,ch⟩=9 from Hu.ck_right HK.out HNM.out (by rw[HRR.out,HLL.out]at hr;exact hr))
   go_wp2_with fail;go_ret;exact⟨by rw[HE.out];rfl,hb0a⟩
 · have HE:=hid (show Hu.ckE G ⟨kind,who,fo,name,key,text,num,off,base,ch⟩=0 from Hu.ck_ok HK.out HNM.out (by rw[HRR.out,HLL.out]at hr;exact hr))
   go_wp2_with fail;go_ret;exact⟨by rw[HE.out];rfl,hb0a⟩
set_option maxRecDepth 100000 in
set_option maxHeartbeats 4000000 in
theorem sjournal_any (H:Hb) (vf vg vs:Value) (g mb n:Nat) (fo:ByteArray) (w:World) (hb:Cs w g [vf,vg,vs,.int .i64 H.nx,.int .i64 H.la,.int .i64 H.ro,.int .i64 H.now,.map (some mb)]) (hf:LiesF w vf H.fos) (hm:SvM w mb n H) (hfo:fo.size≤150000000000000) (hi:Hu.whr H.fos H.gs fo<H.fos.length):
    Calls Tryz.prog 90 #[.pointer (some ⟨g,0,none⟩),.string fo] w fun e w'=> ∃u,e= .returned u∧LiesJ w' u (H.fos[Hu.whr H.fos H.gs fo]).jo∧Below w.heap.size w w':=by
 obtain⟨i,hwi⟩: ∃i,i=Hu.whr H.fos H.gs fo:=⟨_,rfl⟩
 have hlk:=fun W (hW:Below w.heap.size w W)=>(hm.below hW).look fo hfo
 simp only[←hwi]at hlk hi⊢;have HLK:=hid hlk;obtain⟨fos,gs,ss,nx,la,ro,now⟩:=H
 simp only at*;obtain⟨a,cap,rfl,hcap,_,hL⟩:=hf
 obtain⟨b,o,rfl,hbl,he⟩:=hL i hi
 obtain⟨c0,u,x,c1,c2,c3,hu,hx⟩:=he
 have hgl:=hb.lt;have p0:=hb.cell 0 rfl;have p7:=hb.cell 7 rfl;generalize fos[i]=s at*;obtain⟨na,⟨jb,jf,jc⟩⟩:=s
 simp only at c0 c1 c2 c3 hu hx⊢;have HU:=hid hu;have HX:=hid hx;obtain⟨ua,uc,rfl,_⟩:=hu
 obtain⟨xa,xc,rfl,_⟩:=hx
 have hii:(i:Int)<fos.length:=by omega
 have hlk1:=hlk (w.alloc (.cells #[.slice none 0 0,.int .i64 0,.slice none 0 0] 88)) ((Below.refl _ _).alloc (Nat.le_refl _) _);have hlk2:=hlk (w.alloc (.cells #[.slice none 0 0,.int .i64 0,.slice none 0 0] 88)).drew (((Below.refl _ _).alloc (Nat.le_refl _) _).drew);have n1: ¬g=w.heap.size:=by omega
 have n2: ¬b=w.heap.size:=by omega
 clear hL hb hm hwi hlk;go_enter Tryz.func90,Tryz.ntmps90
 go_wp2_with fail;go_region
 go_wp2_with fail;refine bodyPost_ret (v:= .agg #[.slice ua jb.length uc,.int .i64 jf,.slice xa jc.length xc]) (by simp[results,Tryz.results90,go_sem]) rfl ⟨_,rfl,⟨_,_,rfl,HU.out.below ?_,HX.out.below ?_⟩,?_⟩
 all_goals exact((Below.refl _ _).alloc (Nat.le_refl _) _).drew
theorem rowsF_set2 {l:List Sh} {us:List (Value×Value)} (h:us.length=l.length) {i:Nat} (hi:i<l.length) (s:Sh) (u:Value×Value):(rowsF l us).set i (rowF s u)=rowsF (l.set i s) (us.set i u):=by
 apply List.ext_getElem?
 intro j;rw[List.getElem?_set,rowsF,rowsF,List.getElem?_zipWith,List.getElem?_zipWith,List.getElem?_set,List.getElem?_set];by_cases hj:i=j
 · subst hj
   simp[h,hi,show i<us.length by omega]
 · simp[hj]
/-- A journal is stored into its folder's row, in place of another one. -/
theorem rowsF_put {w:World} {a:Option Addr} {n cap b o k:Nat} {l:List Sh} {us:List (Value×Value)} {u:Value×Value} {J:Jo} (h:LiesR 4 w (.slice a n cap) (rowsF l us)) (hl:us.length=l.length) (ha:a=some ⟨b,o,none⟩) (hk:k<l.length) (h1:u.1.oneCell'=true) (h2:u.2.oneCell'=true):
    LiesR 4 (((w.setCell ⟨b,o+k*4+1,none⟩ u.1).setCell ⟨b,o+k*4+2,none⟩ (.int .i64 J.first)).setCell ⟨b,o+k*4+3,none⟩ u.2) (.slice a n cap) (rowsF (l.set k ⟨l[k].na,J⟩) (us.set k u)):=by
 have hr:=rowsF_at hl hk;have hkl:k<(rowsF l us).length:=by rw[rowsF_len hl];exact hk
 rw[List.getElem?_eq_getElem hkl]at hr;injection hr with hr
 have s1:=h.set ha (i:=k) (c:=1) hkl (by decide) u.1 h1;have s2:=s1.set ha (i:=k) (c:=2) (by simpa using hkl) (by decide) (.int .i64 J.first) rfl;have s3:=s2.set ha (i:=k) (c:=3) (by simpa using hkl) (by decide) u.2 h2;rw[←rowsF_set2 hl hk ⟨l[k].na,J⟩ u];simpa[hr,rowF]using s3
theorem OwnF.put {B b o n cap k:Nat} {w:World} {l:List Sh} {u1 u2:Value} {J:Jo} (h:OwnF B w (.slice (some ⟨b,o,none⟩) n cap) l) (hk:k<l.length) (h1:Lies w u1 J.base) (h1o:Own (b+1) w u1) (h2:OwnO (b+1) w u2 J.cos):
    LiesF (((w.setCell ⟨b,o+k*4+1,none⟩ u1).setCell ⟨b,o+k*4+2,none⟩ (.int .i64 J.first)).setCell ⟨b,o+k*4+3,none⟩ u2) (.slice (some ⟨b,o,none⟩) n cap) (l.set k ⟨l[k].na,J⟩):=by
 obtain⟨us,⟨hl,hj⟩,hr,ho,hx⟩:=h
 have o1:u1.oneCell'=true:=by obtain⟨_,_,rfl,_⟩:=h1;rfl
 have o2:u2.oneCell'=true:=by obtain⟨_,_,rfl,_⟩:=h2.lies;rfl
 have hs:=rowsF_put (u:=(u1,u2)) (J:=J) hr hl rfl hk o1 o2;have hg:w.grownBy (((w.setCell ⟨b,o+k*4+1,none⟩ u1).setCell ⟨b,o+k*4+2,none⟩ (.int .i64 J.first)).setCell ⟨b,o+k*4+3,none⟩ u2) (some b):=grown_on (grown_on (nb_set _ _ _ _) (nb_set _ _ _ _)) (nb_set _ _ _ _);have ne: ∀{v:Value},Own (b+1) w v→ ∀x,v.ownBlock=some x→x≠b:=fun ho x hx=>by have:=(ho x hx).1;omega
 refine liesF_of (us:=us.set k (u1,u2)) ⟨by simp[hl],fun i c u hc hu=>?_⟩ hs
 by_cases hik:k=i
 · subst hik
   rw[List.getElem?_set_self (by omega)]at hc hu;injection hc with hc
   injection hu with hu
   subst hc;subst hu;exact⟨h1.nbo hg (ne h1o),(h2.nbo hg (Nat.lt_succ_self _)).lies⟩
 · rw[List.getElem?_set_ne hik]at hc hu
   have hz:=(hx i c u hc hu).2 b rfl;exact⟨(hj i c u hc hu).1.nbo hg (ne hz.1),(hz.2.nbo hg (Nat.lt_succ_self _)).lies⟩
theorem LiesG.row {W W':World} {v:Value} {L:List Gr} {r:Option Nat} (h:LiesG W v L) (hw:W.grownBy W' r) (hn: ∀b,v.ownBlock=some b→r≠some b):LiesG W' v L:=by
 obtain⟨a,cap,rfl,h1,h2,h3⟩:=h
 refine⟨a,cap,rfl,h1,h2,fun i hi=>?_⟩
 obtain⟨b,o,rfl,hb,he⟩:=h3 i hi
 have c: ∀k,W'.cell? ⟨b,k,none⟩=W.cell? ⟨b,k,none⟩:=fun k=>World.cell?_of_block (w:=W) (a:=⟨b,k,none⟩) (hw.block b hb (fun e=>hn b rfl e.symm))
 exact⟨b,o,rfl,Nat.lt_of_lt_of_le hb hw.size,(c _).trans he.1,(c _).trans he.2.1,(c _).trans he.2.2⟩
theorem LiesS.row {W W':World} {v:Value} {L:List Se} {r:Option Nat} (h:LiesS W v L) (hw:W.grownBy W' r) (hn: ∀b,v.ownBlock=some b→r≠some b):LiesS W' v L:=by
 obtain⟨a,cap,rfl,h1,h2,h3⟩:=h
 refine⟨a,cap,rfl,h1,h2,fun i hi=>?_⟩
 obtain⟨b,o,rfl,hb,he⟩:=h3 i hi
 have c: ∀k,W'.cell? ⟨b,k,none⟩=W.cell? ⟨b,k,none⟩:=fun k=>World.cell?_of_block (w:=W) (a:=⟨b,k,none⟩) (hw.block b hb (fun e=>hn b rfl e.symm))
 exact⟨b,o,rfl,Nat.lt_of_lt_of_le hb hw.size,(c _).trans he.1,(c _).trans he.2.1,(c _).trans he.2.2.1,(c _).trans he.2.2.2.1,(c _).trans he.2.2.2.2⟩
theorem Cs.orow {W W':World} {b:Nat} {vs:List Value} {r:Option Nat} (h:Cs W b vs) (hw:W.grownBy W' r) (hne:r≠some b):Cs W' b vs:=by
 obtain⟨T,hT⟩:=h
 exact⟨T,(hw.block b (heap_lt hT) (fun e=>hne e.symm)).trans hT⟩
namespace Hu
/-- A hub in which a folder has this journal; what a commit leaves. -/
def putJ (H:Hb) (i:Nat) (J:Jo):Hb:={H with fos:=H.fos.modify i (fun s=>⟨s.na,J⟩)}
def joAt (H:Hb) (i:Nat):Jo:=match H.fos[i]? with|some s=>s.jo|none=>Jn.zeroJ
theorem joAt_eq {H:Hb} {i:Nat} (h:i<H.fos.length):joAt H i=H.fos[i].jo:=by rw[joAt,List.getElem?_eq_getElem h]
theorem putJ_fos {H:Hb} {i:Nat} (h:i<H.fos.length) (J:Jo):(putJ H i J).fos=H.fos.set i ⟨H.fos[i].na,J⟩:=by
 rw[putJ];apply List.ext_getElem?
 intro j;rw[List.getElem?_modify,List.getElem?_set];by_cases e:i=j
 · subst e;simp[h]
 · simp[e]
def cmE (H:Hb) (i:Nat) (key:ByteArray) (l:List Pp.Ch):Int:=Jn.comE (joAt H i) key l
def cmN (H:Hb) (i:Nat) (key:ByteArray) (l:List Pp.Ch):Int:=Jn.comN (joAt H i) key l
def cmH (H:Hb) (i:Nat) (key:ByteArray) (l:List Pp.Ch):Hb:=if cmE H i key l=0 then putJ H i (Jn.comR (joAt H i) key l)else H
end Hu
def JBox (N:Nat) (w W:World) (jx:Nat) (ja:Option Addr) (jc:Nat) (ka:Option Addr) (kc:Nat) (R:Jo):Prop:=N≤jx∧Cs W jx [.slice ja R.base.length jc,.int .i64 R.first,.slice ka R.cos.length kc]∧(Lies W (.slice ja R.base.length jc) R.base∧Own N W (.slice ja R.base.length jc)∧OwnO N W (.slice ka R.cos.length kc) R.cos)∧Below N w W
theorem jbox_set {N C jx jc kc:Nat} {w w5:World} {ja ka:Option Addr} {R:Jo} {a b c:Value} (hN:N≤jx) (hj:jx<C) (h:Cs w5 jx [a,b,c]) (hl:Lies w5 (.slice ja R.base.length jc) R.base) (ho:Own C w5 (.slice ja R.base.length jc)) (hc:OwnO C w5 (.slice ka R.cos.length kc) R.cos) (hb:Below N w w5):
    JBox N w (((w5.setCell ⟨jx,0,none⟩ (.slice ja R.base.length jc)).setCell ⟨jx,1,none⟩ (.int .i64 R.first)).setCell ⟨jx,2,none⟩ (.slice ka R.cos.length kc)) jx ja jc ka kc R:=by
 have hg:=(grown_on (grown_on (nb_set w5 (jx) 0 (.slice ja R.base.length jc)) (nb_set _ (jx) 1 (.int .i64 R.first))) (nb_set _ (jx) 2 (.slice ka R.cos.length kc)))
 have ne: ∀x,(Value.slice ja R.base.length jc).ownBlock=some x→x≠jx:=fun x hx=>by have:=(ho x hx).1;omega
 exact⟨hN,(((h.set 0 (.slice ja R.base.length jc)).set 1 (.int .i64 R.first)).set 2 (.slice ka R.cos.length kc)),⟨hl.nbo hg ne,(ho.nb hg ne).mono (by omega),(hc.nbo hg hj).mono (by omega)⟩,(bs3 (b:=jx) hb (hN))⟩
theorem jbox_new {N C jc kc:Nat} {w w5:World} {ja ka:Option Addr} {R:Jo} {T:TypeId} (hN:N≤C) (hl:Lies w5 (.slice ja R.base.length jc) R.base) (ho:Own C w5 (.slice ja R.base.length jc)) (hc:OwnO C w5 (.slice ka R.cos.length kc) R.cos) (hb:Below N w w5) (hs:N≤w5.heap.size):
    JBox N w (w5.alloc (.cells #[.slice ja R.base.length jc,.int .i64 R.first,.slice ka R.cos.length kc] T)) w5.heap.size ja jc ka kc R:=by
 have ha:Below w5.heap.size w5 (w5.alloc (.cells #[.slice ja R.base.length jc,.int .i64 R.first,.slice ka R.cos.length kc] T)):=(Below.refl _ _).alloc (Nat.le_refl _) _;exact⟨hs,Cs.new w5 [.slice ja R.base.length jc,.int .i64 R.first,.slice ka R.cos.length kc] T,⟨hl.below ha,(ho.below ha).mono hN,(hc.below ha).mono hN⟩,hb.alloc hs _⟩
set_option maxRecDepth 100000 in
set_option maxHeartbeats 8000000 in
theorem hcommit_any (H:Hb) (q:Rq) (l:List Pp.Ch) (vq u vf vg vs:Value) (B g mb n:Nat) (w:World) (hsv:Sv B w g mb vf vg vs H) (hm:SvM w mb n H) (hgB:g<B) (hs:SizedF H.fos) (hq:LiesQ w vq q) (hsq:SizedQ q) (hu:LiesC w u l) (hls:SizedC 150000000000000 l) (hi:Hu.whr H.fos H.gs q.fo<H.fos.length):
    Calls Tryz.prog 93 #[.pointer (some ⟨g,0,none⟩),vq,u] w fun e w'=>e= .returned (.tuple #[.int .i64 (Hu.cmN H (Hu.whr H.fos H.gs q.fo) q.key l),.int .i64 (Hu.cmE H (Hu.whr H.fos H.gs q.fo) q.key l)])∧SvL w' g mb (Hu.cmH H (Hu.whr H.fos H.gs q.fo) q.key l)∧Nb2 w w' g (bo vf g):=by
 have HSV:=hid hsv;have HM:=hid hm;have HSF:=hid hs;have HSQ:=hid hsq;have HU:=hid hu;have HLS:=hid hls;have HPO:=hid (⟨Hu.cmE,rfl⟩: ∃f,f=Hu.cmE);obtain⟨ux,uc,rfl,_⟩:=hu
 clear hs hsq hls hm;obtain⟨va,rfl,lq⟩:=hq
 have HLQ:=hid lq;obtain⟨qa,qc,rfl,_⟩:=lq
 obtain⟨kind,who,fo,name,key,text,num,off,base,ch⟩:=q
 simp only at*;obtain⟨wz,hwz⟩: ∃wz,wz=w.alloc (.cells #[.int .i64 kind,.string who,.string fo,.string name,.string key,.string text,.int .i64 num,.int .i64 off,.int .i64 base,.slice qa ch.length qc] 31):=⟨_,rfl⟩
 have hbz:Below w.heap.size w wz:=by rw[hwz];exact(Below.refl _ _).alloc (Nat.le_refl _) _
 have HQX:Hid (Cs wz w.heap.size [.int .i64 kind,.string who,.string fo,.string name,.string key,.string text,.int .i64 num,.int .i64 off,.int .i64 base,.slice qa ch.length qc]):=(by rw[hwz];exact Cs.new w [.int .i64 kind,.string who,.string fo,.string name,.string key,.string text,.int .i64 num,.int .i64 off,.int .i64 base,.slice qa ch.length qc] _:Cs wz w.heap.size _)
 obtain⟨i,hwi⟩: ∃i,i=Hu.whr H.fos H.gs fo:=⟨_,rfl⟩
 have HWI:=hid hwi;rw[←hwi]at hi⊢;obtain⟨hC,hOF,⟨hLG,hFG⟩,⟨hLS,hFS⟩,hAP,_⟩:=hsv
 have HC:=hid hC;have HOF:=hid hOF;have HLG:=hid hLG;have HLSS:=hid hLS;have HFG:=hid hFG;have HFS:=hid hFS;have HAP:=hid hAP;have HLF:=hid hOF.lies;obtain⟨af,cf,rfl,_,_,hat⟩:=hOF.lies
 obtain⟨ag,cg,rfl,_⟩:=hLG
 obtain⟨xs,cs,rfl,_⟩:=hLS
 obtain⟨b,o,rfl,hbl,he⟩:=hat i hi
 have HSH:=hid he;have hbB:B≤b:=by obtain⟨_,_,_,ho,_⟩:=hOF;exact(ho b rfl).1
 have HOB:=hid (show∀W,Below w.heap.size w W→ ∀k,W.frozen? ⟨b,k,none⟩=false from fun W hW k=>by
  obtain⟨_,_,_,ho,_⟩:=HOF.out.below hW
  obtain⟨_,cur,TT,hcur⟩:=ho b rfl
  simp[World.frozen?,hcur])
 have hgl:=hC.lt;obtain⟨J,hJ⟩: ∃J,J=Hu.joAt H i:=⟨_,rfl⟩
 have HJ:=hid (show J=(H.fos[i]).jo from by rw[hJ,Hu.joAt_eq hi]);have HSJ:=hid (show Sized J.base∧SizedO 150000000000000 J.cos from by rw[HJ.out];exact(HSF.out _ (List.getElem_mem hi)).2)
 have HJC:=hid (show∀W,Below w.heap.size w W→Calls Tryz.prog 90 #[.pointer (some ⟨g,0,none⟩),.string fo] W fun e w'=> ∃u,e= .returned u∧LiesJ w' u J∧Below W.heap.size W w' from fun W hW=>by
  have h:=sjournal_any H _ _ _ g mb n fo W (HC.out.below hW) (HLF.out.below hW) (HM.out.below hW) HSQ.out.fo (by rw[←HWI.out];exact hi);refine h.mono ?_
  rintro e w' ⟨u,rfl,hl,hb⟩;exact⟨u,rfl,by rw[HJ.out];simpa only[HWI.out]using hl,hb⟩)
 have HCC:=hid (show∀W v,Below w.heap.size w W→LiesJ W v J→Calls Tryz.prog 128 #[v,.string key,.slice ux l.length uc] W fun e w'=> ∃r,e= .returned (.tuple #[r,.int .i64 (Jn.comN J key l),.int .i64 (Jn.comE J key l)])∧OwnJ W.heap.size w' r (Jn.comR J key l)∧Below W.heap.size W w' from fun W v hW hv=>jcommit_any J v key l _ W hv (HU.out.below hW) HSJ.out.1 HSJ.out.2 HLS.out (by have:key.size≤150000000000000:=HSQ.out.key;unfold maxLen;omega));have HLK:=hid (show∀W,Below w.heap.size w W→(Instr.lookup 76 (.map (some mb)) (.string fo) false).run Tryz.prog W= .ok (.int .i64 (i:Nat)) W from fun W hW=>by rw[HWI.out];exact(HM.out.below hW).look fo HSQ.out.fo);have HN:=hid (show Hu.cmN H i key l=Jn.comN J key l from by rw[Hu.cmN,hJ]);have HE:=hid (show Hu.cmE H i key l=Jn.comE J key l from by rw[Hu.cmE,hJ]);have HH:=hid (show Hu.cmH H i key l=if Jn.comE J key l=0 then Hu.putJ H i (Jn.comR J key l)else H from by rw[Hu.cmH,HE.out,hJ]);rw[HN.out,HE.out];have HI:=hid hi;clear hwi hJ HJ hat he hOF hFG hFS hAP HPO;obtain⟨R,hR⟩: ∃R,R=Jn.comR J key l:=⟨_,rfl⟩
 rw[←hR]at HCC HH;have hii:(i:Int)<H.fos.length:=by omega
 obtain⟨nn,hnn⟩: ∃nn,nn=Jn.comN J key l:=⟨_,rfl⟩
 obtain⟨ee,hee⟩: ∃ee,ee=Jn.comE J key l:=⟨_,rfl⟩
 rw[←hnn,←hee]at HCC;rw[←hnn,←hee];rw[←hee]at HH;clear hnn hee hR;have x2:=HQX.out.cell 2 rfl;have x4:=HQX.out.cell 4 rfl;have hqz:=HQX.out.lt;have hdr:Below wz.heap.size wz wz.drew:=(Below.refl _ _).drew;have hda:Below wz.heap.size wz (wz.alloc (.cells #[.slice none 0 0,.int .i64 0,.slice none 0 0] 88)).drew:=((Below.refl _ _).alloc (Nat.le_refl _) _).drew;have hdrw:=below_tr hbz hdr;have hnz: ¬w.heap.size=wz.heap.size:=by omega
 have hdaw:=below_tr hbz hda;go_enter Tryz.func93,Tryz.ntmps93
 go_upto_region 1 with fail;rw[←hwz];clear hwz;go_cut [0,4,8,9,10] (fun a r p m e W=>a= .pointer (some ⟨g,0,none⟩)∧r= .pointer (some ⟨w.heap.size,0,none⟩)∧m= .int .i64 nn∧e= .int .i64 ee∧ ∃jx ja jc ka kc,p= .pointer (some ⟨jx,0,none⟩)∧Hid (JBox wz.heap.size wz W jx ja jc ka kc R))
 case first=>
  go_region_held3 (fun W=>W.cell? ⟨w.heap.size,2,none⟩=some (.string fo)∧W.cell? ⟨w.heap.size,4,none⟩=some (.string key)) (first|go_keep|(have hx:=(HQX.out.below hb45).nb (grown_on (grown_on (nb_set w5 (w3.heap.size) 0 (.slice jja R.base.length jjc)) (nb_set _ (w3.heap.size) 1 (.int .i64 R.first))) (nb_set _ (w3.heap.size) 2 (.slice kka R.cos.length kkc))) (by omega);exact⟨hx.cell 2 rfl,hx.cell 4 rfl⟩)|(have hx:=(HQX.out.below hb45).nb (grown_on (grown_on (nb_set w5 (wz.heap.size) 0 (.slice jja R.base.length jjc)) (nb_set _ (wz.heap.size) 1 (.int .i64 R.first))) (nb_set _ (wz.heap.size) 2 (.slice kka R.cos.length kkc))) (by omega);exact⟨hx.cell 2 rfl,hx.cell 4 rfl⟩)) (first
   |(go_at_call 90;refine(HJC.out _ hdrw).mono ?_;rintro e w3 ⟨u3,rfl,hJ3,hb3⟩;have hb23:=below_tr hdr hb3;have hn3: ¬w.heap.size=w3.heap.size:=(by have:=hb23.size;omega);have HJ3:=hid hJ3;obtain⟨vb3,vc3,rfl,lb3,lc3⟩:=hJ3;obtain⟨_,_,rfl,_⟩:=lb3;obtain⟨_,_,rfl⟩:=liesO_shape lc3;clear lc3;have q2:=(HQX.out.below hb23).cell 2 rfl;have q4:=(HQX.out.below hb23).cell 4 rfl)
   |(go_at_call 90;refine(HJC.out _ hdaw).mono ?_;rintro e w3 ⟨u3,rfl,hJ3,hb3⟩;have hb23:=below_tr hda hb3;have hn3: ¬w.heap.size=w3.heap.size:=(by have:=hb23.size;omega);have HJ3:=hid hJ3;obtain⟨vb3,vc3,rfl,lb3,lc3⟩:=hJ3;obtain⟨_,_,rfl,_⟩:=lb3;obtain⟨_,_,rfl⟩:=liesO_shape lc3;clear lc3;have q2:=(HQX.out.below hb23).cell 2 rfl;have q4:=(HQX.out.below hb23).cell 4 rfl;have HZ:=hid (((Cs.new wz [.slice none 0 0,.int .i64 0,.slice none 0 0] 88).below ((Below.refl _ _).drew)).below hb3))
   |(go_at_call 128;refine(HCC.out _ _ (below_tr hbz hb23) HJ3.out).mono ?_;rintro e w5 ⟨u5,rfl,hJ5,hb5⟩;have hb45:=below_tr hb23 hb5;have HY:=hid (HZ.out.below hb5);obtain⟨vb5,vc5,rfl,lb5,ob5,oc5⟩:=hJ5;have HLB5:=hid lb5;obtain⟨jja,jjc,rfl,_⟩:=lb5;obtain⟨kka,kkc,rfl⟩:=liesO_shape oc5.lies;have r2:=(HQX.out.below hb45).cell 2 rfl;have r4:=(HQX.out.below hb45).cell 4 rfl;have HB:=hid (jbox_set (Nat.le_refl _) HZ.out.lt HY.out HLB5.out ob5 oc5 hb45);clear ob5 oc5;have y0:=HY.out.cell 0 rfl;have y1:=HY.out.cell 1 rfl;have y2:=HY.out.cell 2 rfl;have f0:=HY.out.fr 0;have f1:=HY.out.fr 1;have f2:=HY.out.fr 2)
   |(go_at_call 128;refine(HCC.out _ _ (below_tr hbz (hb23.alloc hb23.size _)) (HJ3.out.below ((Below.refl _ _).alloc (Nat.le_refl _) _))).mono ?_;rintro e w5 ⟨u5,rfl,hJ5,hb5⟩;have hb45:=below_tr (hb23.alloc hb23.size _) hb5;have HY:=hid ((Cs.new w3 [.slice none 0 0,.int .i64 0,.slice none 0 0] 88).below hb5);obtain⟨vb5,vc5,rfl,lb5,ob5,oc5⟩:=hJ5;have HLB5:=hid lb5;obtain⟨jja,jjc,rfl,_⟩:=lb5;obtain⟨kka,kkc,rfl⟩:=liesO_shape oc5.lies;have r2:=(HQX.out.below hb45).cell 2 rfl;have r4:=(HQX.out.below hb45).cell 4 rfl;have HB:=hid (jbox_set hb23.size (Cs.new w3 [.slice none 0 0,.int .i64 0,.slice none 0 0] 88).lt HY.out HLB5.out ob5 oc5 hb45);clear ob5 oc5;have y0:=HY.out.cell 0 rfl;have y1:=HY.out.cell 1 rfl;have y2:=HY.out.cell 2 rfl;have f0:=HY.out.fr 0;have f1:=HY.out.fr 1;have f2:=HY.out.fr 2)
   |(go_at_call 128;refine(HCC.out _ _ (below_tr hbz hb23) HJ3.out).mono ?_;rintro e w5 ⟨u5,rfl,hJ5,hb5⟩;have hb45:=below_tr hb23 hb5;obtain⟨vb5,vc5,rfl,lb5,ob5,oc5⟩:=hJ5;have HLB5:=hid lb5;obtain⟨jja,jjc,rfl,_⟩:=lb5;obtain⟨kka,kkc,rfl⟩:=liesO_shape oc5.lies;have r2:=(HQX.out.below hb45).cell 2 rfl;have r4:=(HQX.out.below hb45).cell 4 rfl;have HB:=hid (jbox_new (T:=88) hb23.size HLB5.out ob5 oc5 hb45 hb45.size);clear ob5 oc5))
  all_goals
   go_wp2_with fail;go_meet
   case rel=>exact⟨rfl,rfl,rfl,rfl,_,jja,jjc,kka,kkc,rfl,HB⟩
 case rest=>
  obtain⟨rfl,rfl,rfl,rfl,jx,ja,jc,ka,kc,rfl,HJB⟩:=hcut
  obtain⟨hjx,hJX,hJL,hbx⟩:=HJB.out
  have HJX:=hid hJX;have HJL:=hid hJL;clear hJX hJL;have hb0x:=below_tr hbz hbx;have HCx:=hid (HC.out.below hb0x);have HQx:=hid (HQX.out.below hbx);have HOFx:=hid (HOF.out.below hb0x);have hjl:=HJX.out.lt;have hsx:=hb0x.size;have hbox:bo (.slice (some ⟨b,o,none⟩) H.fos.length cf) g=b:=rfl;by_cases he:ee=0
  · obtain rfl:ee=0:=he
    have HHP:=hid (show Hu.cmH H i key l=Hu.putJ H i R from by rw[HH.out,if_pos rfl]);obtain⟨w6,hw6⟩: ∃w6,w6=((wc.drew.setCell ⟨b,o+i*4+1,none⟩ (.slice ja R.base.length jc)).setCell ⟨b,o+i*4+1+1,none⟩ (.int .i64 R.first)).setCell ⟨b,o+i*4+1+2,none⟩ (.slice ka R.cos.length kc):=⟨_,rfl⟩
    have hdx:Below wc.heap.size wc wc.drew:=(Below.refl _ _).drew;have hb0d:=below_tr hb0x hdx;have hg6:wc.drew.grownBy w6 (some b):=by rw[hw6];exact grown_on (grown_on (nb_set _ _ _ _) (nb_set _ _ _ _)) (nb_set _ _ _ _)
    have hwb:wz.heap.size≤wc.heap.size:=hbx.size;have hwz1:w.heap.size<wz.heap.size:=HQX.out.lt
    have HF6:=hid (show LiesF w6 (.slice (some ⟨b,o,none⟩) H.fos.length cf) (Hu.putJ H i R).fos from by
     rw[Hu.putJ_fos HI.out,hw6];exact(HOF.out.below hb0d).put HI.out (HJL.out.1.below hdx) ((HJL.out.2.1.below hdx).mono (by omega)) ((HJL.out.2.2.below hdx).mono (by omega)))
    have hln:(Hu.putJ H i R).fos.length=H.fos.length:=by rw[Hu.putJ_fos HI.out];simp
    have HAB:=HAP.out b rfl;have HG6:=hid ((HLG.out.below hb0d).row hg6 (fun x hx e=>by injection e with e;have:=HAB.1 x hx;omega));have HS6:=hid ((HLSS.out.below hb0d).row hg6 (fun x hx e=>by injection e with e;have:=HAB.2 x hx;omega));have HC6:=hid ((HC.out.below hb0d).nb hg6 (by omega));have HR6:=hid (show SvL w6 g mb (Hu.putJ H i R)from⟨_,_,_,HC6.out,HF6.out,HG6.out,HS6.out⟩);have HN6:=hid (show Nb2 w w6 g b from(Nb2.of_below _ _ hb0d).trans (Nb2.of_right _ hg6));have hlk1:=HLK.out wc hb0x;have hlk2:=HLK.out wc.drew hb0d;obtain⟨c0,su,sx,c1,c2,c3,_,_⟩:=HSH.out.below hbl hb0x
    have fr1:=HOB.out wc hb0x (o+i*4+1);have fr2:=HOB.out wc hb0x (o+i*4+1+1);have fr3:=HOB.out wc hb0x (o+i*4+1+2);have p0:=HCx.out.cell 0 rfl;have p7:=HCx.out.cell 7 rfl;have x2x:=HQx.out.cell 2 rfl;have m0:=HJX.out.cell 0 rfl;have m1:=HJX.out.cell 1 rfl;have m2:=HJX.out.cell 2 rfl;clear HSF HM HJC HCC HLK HOB HF6 HG6 HS6 HC6 x2 x4 hqz hdr hda hdrw hdaw;go_wp2_with fail;go_region
    go_wp2_with fail;rw[show((((wc.setCell ⟨b,o+i*4+1,none⟩ (.slice ja R.base.length jc)).setCell ⟨b,o+i*4+1+1,none⟩ (.int .i64 R.first)).setCell ⟨b,o+i*4+1+2,none⟩ (.slice ka R.cos.length kc)).drew:World)=w6 from by rw[hw6];rfl];go_ret2;exact⟨rfl,by rw[HHP.out];exact HR6.out,by rw[hbox];exact HN6.out⟩
  · have hz:(ee==0)=false:=by simpa using he
    have HHP:=hid (show Hu.cmH H i key l=H from by rw[HH.out,if_neg he]);have HR6:=hid (show SvL wc g mb H from HSV.out.lies.below hb0x);clear he HH;go_wp2_with fail;go_ret2;exact⟨rfl,by rw[HHP.out];exact HR6.out,Nb2.of_below _ _ hb0x⟩
end Go.Proofs.YtppdfeehhnofaaaGreatDoor
namespace Go.Proofs.YtppdfeehhnofaaaGreatDoor
open Go.RowKit

/-- A row of texts. -/
def LiesB (w:World) (v:Value) (N:List ByteArray):Prop:= ∃a cap,v= .slice a N.length cap∧N.length≤cap∧N.length≤1000000∧ ∀i (h:i<N.length),∃b o,a=some ⟨b,o,none⟩∧b<w.heap.size∧w.cell? ⟨b,o+i,none⟩=some (.string N[i])
theorem LiesB.below {w w':World} {v:Value} {N:List ByteArray} (h:LiesB w v N) (hw:Below w.heap.size w w'):LiesB w' v N:=by
 obtain⟨a,cap,hv,h1,h2,h5⟩:=h
 refine⟨a,cap,hv,h1,h2,fun i hi=>?_⟩
 obtain⟨b,o,ha,hb,he⟩:=h5 i hi
 exact⟨b,o,ha,Nat.lt_of_lt_of_le hb hw.size,(hw.cell (p:=⟨b,o+i,none⟩) hb).trans he⟩
namespace Pp
def bs (N:List ByteArray):List Value:=N.map Value.string
end Pp
namespace Pp
end Pp

namespace Pp
end Pp
end Go.Proofs.YtppdfeehhnofaaaGreatDoor
namespace Go.Proofs.YtppdfeehhnofaaaGreatDoor
open Go.RowKit

namespace Pp
/-- Make, of grants that pass Check. -/
def mkE (G:List Gr) (f m:ByteArray):Int:=if nmsE [f,m]=0 then(if G.any (inF f)=true then 6 else if 60≤G.length then 2 else 0)else 1
theorem mk_cases (G:List Gr) (f m:ByteArray):(nmsE [f,m]=1∧mkE G f m=1)∨(nmsE [f,m]=0∧G.any (inF f)=true∧mkE G f m=6)∨(nmsE [f,m]=0∧G.any (inF f)=false∧60≤G.length∧mkE G f m=2)∨(nmsE [f,m]=0∧G.any (inF f)=false∧G.length<60∧mkE G f m=0):=by
 rcases nms_cases [f,m]with h|h
 · right
   cases ha:G.any (inF f)with
   |true=>left;exact⟨h,rfl,by rw[mkE,if_pos h,ha];rfl⟩
   |false=>
    right
    by_cases h6:60≤G.length
    · left;exact⟨h,rfl,h6,by rw[mkE,if_pos h,ha,if_neg (by decide),if_pos h6]⟩
    · right;exact⟨h,rfl,by omega,by rw[mkE,if_pos h,ha,if_neg (by decide),if_neg h6]⟩
 · left;exact⟨h,by rw[mkE,if_neg (by rw[h];decide)]⟩
def maE (G:List Gr) (f m:ByteArray):Int:=if gchE G=0 then mkE G f m else gchE G
def maL (G:List Gr) (f m:ByteArray):List Gr:=if maE G f m=0 then pgN ⟨f,m,3⟩ G else[]
theorem maL_no {G:List Gr} {f m:ByteArray} (h: ¬maE G f m=0):maL G f m=[]:=if_neg h
theorem maL_yes {G:List Gr} {f m:ByteArray} (h:maE G f m=0):maL G f m=pgN ⟨f,m,3⟩ G:=if_pos h
theorem pg_new {G:List Gr} {f m:ByteArray} (h:G.any (inF f)=false):(pgN ⟨f,m,3⟩ G).length=G.length+1:=by
 have ho:outG ⟨f,m,3⟩ G=G:=by
  rw[outG,List.filter_eq_self];intro y hy;refine oth_fo ?_
  have:=List.any_eq_false.1 h y hy
  simpa[inF]using this
 rw[pgN_yes (by show¬(3:Int)=0;decide),(insG_perm _ _).length_eq,ho];rfl
end Pp

set_option maxRecDepth 100000 in
set_option maxHeartbeats 4000000 in
theorem make_any (G:List Gr) (v:Value) (f m:ByteArray) (w:World) (hv:LiesG w v G) (hs:SizedG G) (hf:f.size≤150000000000000) (hm:m.size≤150000000000000):
    Calls Tryz.prog 125 #[v,.string f,.string m] w fun e w'=> ∃u,e= .returned (.tuple #[u,.int .i64 (Pp.maE G f m)])∧(LiesG w' u (Pp.maL G f m)∧Fr w.heap.size u)∧Below w.heap.size w w':=by
 have HV:=ghid hv;have HS:=ghid hs;clear hv hs;have hsz: ∀i (hi:i<[f,m].length),([f,m][i]).size≤1000000000000000:=fun i hi=>by match i,hi with|0,_=>exact Nat.le_trans hf (by decide)|1,_=>exact Nat.le_trans hm (by decide)
 have HSZ:=ghid hsz;clear hsz hf hm;by_cases hg0:Pp.gchE G=0
 case neg=>
  have eE:Pp.maE G f m=Pp.gchE G:=if_neg hg0;have eC:Pp.calE G [f,m]=Pp.gchE G:=if_neg hg0;have HL:Hid (Pp.maL G f m=[]):=Pp.maL_no (by rw[eE];exact hg0);have HE:=ghid eE;have HC:=ghid eC;have hz:(Pp.gchE G==0)=false:=by simpa using hg0
  clear eE eC hg0;go_enter Tryz.func125,Tryz.ntmps125
  go_wp2_with fail;refine(gcheckAll_any G _ [f,m] w.heap.size 2 _ (HV.out.below ((Below.refl _ _).alloc (Nat.le_refl _) _)) HS.out (by simp) HSZ.out (by simp) (fun i hi=>by match i,hi with|0,_=>simp|1,_=>simp)).mono ?_
  rintro e w1 ⟨rfl,hb1⟩;rw[HC.out];have hb01:Below w.heap.size w w1:=((Below.refl _ _).alloc (Nat.le_refl _) _).trans (hb1.mono (by simp));clear hb1;generalize hy:Pp.gchE G=y at*;go_wp2;go_ret2;exact⟨_,by rw[HE.out];rfl,by rw[HL.out];exact⟨liesG_nil _,fr_nil _⟩,hb01⟩
 case pos=>
 have eE:Pp.maE G f m=Pp.mkE G f m:=if_pos hg0;have eC:Pp.calE G [f,m]=Pp.nmsE [f,m]:=if_pos hg0;obtain⟨hl60,_,hris,_⟩:=Pp.gch0 hg0
 have HPW:=ghid ((Pp.risG_pair G).1 hris);clear hris;rcases Pp.mk_cases G f m with⟨hn,hE⟩|⟨hn,ha,hE⟩|⟨hn,ha,h6,hE⟩|⟨hn,ha,h6,hE⟩
 · have HL:Hid (Pp.maL G f m=[]):=Pp.maL_no (by rw[eE,hE];decide)
   have HE:=ghid (eE.trans hE);have HC:=ghid (eC.trans hn);clear eE eC hE hn hg0;go_enter Tryz.func125,Tryz.ntmps125
   go_wp2_with fail;refine(gcheckAll_any G _ [f,m] w.heap.size 2 _ (HV.out.below ((Below.refl _ _).alloc (Nat.le_refl _) _)) HS.out (by simp) HSZ.out (by simp) (fun i hi=>by match i,hi with|0,_=>simp|1,_=>simp)).mono ?_
   rintro e w1 ⟨rfl,hb1⟩;rw[HC.out];have hb01:Below w.heap.size w w1:=((Below.refl _ _).alloc (Nat.le_refl _) _).trans (hb1.mono (by simp));clear hb1;go_wp2;go_ret2;exact⟨_,by rw[HE.out];rfl,by rw[HL.out];exact⟨liesG_nil _,fr_nil _⟩,hb01⟩
 · have HL:Hid (Pp.maL G f m=[]):=Pp.maL_no (by rw[eE,hE];decide)
   have HE:=ghid (eE.trans hE);have HC:=ghid (eC.trans hn);have HA:=ghid ha;clear eE eC hE hn hg0 ha;go_enter Tryz.func125,Tryz.ntmps125
   go_wp2_with fail;refine(gcheckAll_any G _ [f,m] w.heap.size 2 _ (HV.out.below ((Below.refl _ _).alloc (Nat.le_refl _) _)) HS.out (by simp) HSZ.out (by simp) (fun i hi=>by match i,hi with|0,_=>simp|1,_=>simp)).mono ?_
   rintro e w1 ⟨rfl,hb1⟩;rw[HC.out];have hb01:Below w.heap.size w w1:=((Below.refl _ _).alloc (Nat.le_refl _) _).trans (hb1.mono (by simp));clear hb1;go_wp2_with fail;refine(in_any f _).mono ?_
   rintro e w2 ⟨rfl,ht2,hb2⟩;have HT:=ghid ht2;have hb02:=below_trans hb01 hb2;clear ht2 hb2 hb01;go_wp2_with fail;refine(isAny_any G _ _ _ (Pp.inF f) _ (HV.out.below hb02) HT.out).mono ?_
   rintro e w3 ⟨rfl,hb3⟩;rw[HA.out];have hb03:=below_trans hb02 hb3;clear hb3 hb02;go_wp2;go_ret2;exact⟨_,by rw[HE.out];rfl,by rw[HL.out];exact⟨liesG_nil _,fr_nil _⟩,hb03⟩
 all_goals
  have hpl:=Pp.pg_new (m:=m) ha;have HE:=ghid (eE.trans hE);have HC:=ghid (eC.trans hn);have HA:=ghid ha
  first
   |(have HLN:Hid (Pp.maL G f m=[]):=Pp.maL_no (by rw[eE,hE];decide))
   |(have HLY:Hid (Pp.maL G f m=Pp.pgN ⟨f,m,3⟩ G):=Pp.maL_yes (eE.trans hE))
  clear eE eC hE hn hg0 ha;go_enter Tryz.func125,Tryz.ntmps125
  go_wp2_with fail;refine(gcheckAll_any G _ [f,m] w.heap.size 2 _ (HV.out.below ((Below.refl _ _).alloc (Nat.le_refl _) _)) HS.out (by simp) HSZ.out (by simp) (fun i hi=>by match i,hi with|0,_=>simp|1,_=>simp)).mono ?_
  rintro e w1 ⟨rfl,hb1⟩;rw[HC.out];have hb01:Below w.heap.size w w1:=((Below.refl _ _).alloc (Nat.le_refl _) _).trans (hb1.mono (by simp));clear hb1;go_wp2_with fail;refine(in_any f _).mono ?_
  rintro e w2 ⟨rfl,ht2,hb2⟩;have HT:=ghid ht2;have hb02:=below_trans hb01 hb2;clear ht2 hb2 hb01;go_wp2_with fail;refine(isAny_any G _ _ _ (Pp.inF f) _ (HV.out.below hb02) HT.out).mono ?_
  rintro e w3 ⟨rfl,hb3⟩;rw[HA.out];have hb03:=below_trans hb02 hb3;clear hb3 hb02;go_wp2_with fail;refine(gput_any G _ ⟨f,m,3⟩ _ (HV.out.below hb03) (by omega) HPW.out).mono ?_
  rintro e w4 ⟨u,rfl,⟨hli,hfr⟩,hb4⟩;have HFR:=ghid (hfr.mono hb03.size);clear hfr;have HLI:=ghid hli;have hb04:=below_trans hb03 hb4;clear hli hb4 hb03;go_wp2_with fail
  first
   |refine(bounded_no _ _ _ HLI.out (by omega)).mono ?_
   |refine(bounded_ok _ _ _ HLI.out (by omega)).mono ?_
  rintro e w5 ⟨rfl,hw⟩;rw[hw];clear hw w5;go_wp2;go_ret2
  first
   |exact⟨_,by rw[HE.out];rfl,by rw[HLN.out];exact⟨liesG_nil _,fr_nil _⟩,hb04⟩
   |exact⟨_,by rw[HE.out];rfl,by rw[HLY.out];exact⟨HLI.out,HFR.out⟩,hb04⟩
end Go.Proofs.YtppdfeehhnofaaaGreatDoor
