/- What the reference's SameHub and SameAnswer answer of two that are alike. -/
import Derived.Test.YtppdfeehhnofaaaGreatDoorHAY
import Derived.Test.YtppdfeehhnofaaaGreatDoorHAZL
import Derived.Test.YtppdfeehhnofaaaGreatDoorHAQ
import Derived.Test.YtppdfeehhnofaaaGreatDoorHAF
import Derived.Test.YtppdfeehhnofaaaGreatDoorHAD
import Derived.Test.YtppdfeehhnofaaaGreatDoorHAX
import Derived.Test.YtppdfeehhnofaaaGreatDoorHAZJ
set_option linter.unusedSimpArgs false
set_option linter.unusedVariables false
namespace Go.Proofs.YtppdfeehhnofaaaGreatDoor
open Go.RowKit

set_option maxRecDepth 100000 in
set_option maxHeartbeats 8000000 in
theorem sameHub_yes (H:Hb) (v u:Value) (w:World) (hv:LiesH w v H) (hu:LiesH w u H):
    Calls Tryz.prog 11 #[v,u] w fun e w'=>e= .returned (.bool true)∧Below w.heap.size w w':=by
 obtain⟨fos,gs,ss,nx,la,ro,now⟩:=H
 obtain⟨vf,vg,vs,rfl,lf,lg,ls⟩:=hv
 obtain⟨uf,ug,us,rfl,mf,mg,ms⟩:=hu
 simp only at*;have HVG:=hid lg;have HVS:=hid ls;have HUG:=hid mg;have HUS:=hid ms;obtain⟨fa,fc,rfl,hcap,_,hL⟩:=lf
 have HL:Hid (∀i (h:i<fos.length),∃b o,fa=some ⟨b,o,none⟩∧b<w.heap.size∧ShAt w b (o+i*4) fos[i]):=hL;obtain⟨ea,ec,rfl,hcap',_,hL'⟩:=mf
 have HL':Hid (∀i (h:i<fos.length),∃b o,ea=some ⟨b,o,none⟩∧b<w.heap.size∧ShAt w b (o+i*4) fos[i]):=hL';obtain⟨ga,gc,rfl,_⟩:=lg
 obtain⟨sa,sc,rfl,_⟩:=ls
 obtain⟨ka,kc,rfl,_⟩:=mg
 obtain⟨ya,yc,rfl,_⟩:=ms
 clear hL hL';obtain⟨wa,hwa⟩: ∃wa,wa=w.alloc (.cells #[.slice fa fos.length fc,.slice ga gs.length gc,.slice sa ss.length sc,.int .i64 nx,.int .i64 la,.int .i64 ro,.int .i64 now] 28):=⟨_,rfl⟩
 obtain⟨wz,hwz⟩: ∃wz,wz=wa.alloc (.cells #[.slice ea fos.length ec,.slice ka gs.length kc,.slice ya ss.length yc,.int .i64 nx,.int .i64 la,.int .i64 ro,.int .i64 now] 28):=⟨_,rfl⟩
 have sa1:wa.heap.size=w.heap.size+1:=by rw[hwa];simp
 have bwa:Below w.heap.size w wa:=by rw[hwa];exact(Below.refl _ _).alloc (Nat.le_refl _) _
 have bwz:Below wa.heap.size wa wz:=by rw[hwz];exact(Below.refl _ _).alloc (Nat.le_refl _) _
 have hbz:Below w.heap.size w wz:=below_tr bwa bwz;have HBX:Hid (Cs wz w.heap.size [.slice fa fos.length fc,.slice ga gs.length gc,.slice sa ss.length sc,.int .i64 nx,.int .i64 la,.int .i64 ro,.int .i64 now]):=((by rw[hwa];exact Cs.new w [.slice fa fos.length fc,.slice ga gs.length gc,.slice sa ss.length sc,.int .i64 nx,.int .i64 la,.int .i64 ro,.int .i64 now] _:Cs wa w.heap.size [.slice fa fos.length fc,.slice ga gs.length gc,.slice sa ss.length sc,.int .i64 nx,.int .i64 la,.int .i64 ro,.int .i64 now]).below bwz:Cs wz w.heap.size _)
 have HBY:Hid (Cs wz (w.heap.size+1) [.slice ea fos.length ec,.slice ka gs.length kc,.slice ya ss.length yc,.int .i64 nx,.int .i64 la,.int .i64 ro,.int .i64 now]):=(by rw[←sa1,hwz];exact Cs.new wa [.slice ea fos.length ec,.slice ka gs.length kc,.slice ya ss.length yc,.int .i64 nx,.int .i64 la,.int .i64 ro,.int .i64 now] _:Cs wz (w.heap.size+1) _)
 have hwzz:(w.alloc (.cells #[.slice fa fos.length fc,.slice ga gs.length gc,.slice sa ss.length sc,.int .i64 nx,.int .i64 la,.int .i64 ro,.int .i64 now] 28)).alloc (.cells #[.slice ea fos.length ec,.slice ka gs.length kc,.slice ya ss.length yc,.int .i64 nx,.int .i64 la,.int .i64 ro,.int .i64 now] 28)=wz:=by rw[hwz,hwa]
 have HWZ:=hid hwzz;clear hwa hwz bwa bwz sa1 hwzz;have x0:=HBX.out.cell 0 rfl;have x1:=HBX.out.cell 1 rfl;have x2:=HBX.out.cell 2 rfl;have x3:=HBX.out.cell 3 rfl;have x4:=HBX.out.cell 4 rfl;have x5:=HBX.out.cell 5 rfl;have x6:=HBX.out.cell 6 rfl;have y0:=HBY.out.cell 0 rfl;have y1:=HBY.out.cell 1 rfl;have y2:=HBY.out.cell 2 rfl;have y3:=HBY.out.cell 3 rfl;have y4:=HBY.out.cell 4 rfl;have y5:=HBY.out.cell 5 rfl;have y6:=HBY.out.cell 6 rfl;go_enter Tryz.func11,Tryz.ntmps11
 go_upto_region 1 with fail;rw[HWZ.out];clear HWZ;go_wp2_with fail;refine(sameGrants_yes gs _ _ _ (HVG.out.below hbz) (HUG.out.below hbz)).mono ?_
 rintro e w1 ⟨rfl,hb1⟩;have hb01:=below_tr hbz hb1;have HX1:=hid (HBX.out.below hb1);have HY1:=hid (HBY.out.below hb1);clear x0 x1 x2 x3 x4 x5 x6 y0 y1 y2 y3 y4 y5 y6;have x0:=HX1.out.cell 0 rfl;have x1:=HX1.out.cell 1 rfl;have x2:=HX1.out.cell 2 rfl;have x3:=HX1.out.cell 3 rfl;have x4:=HX1.out.cell 4 rfl;have x5:=HX1.out.cell 5 rfl;have x6:=HX1.out.cell 6 rfl;have y0:=HY1.out.cell 0 rfl;have y1:=HY1.out.cell 1 rfl;have y2:=HY1.out.cell 2 rfl;have y3:=HY1.out.cell 3 rfl;have y4:=HY1.out.cell 4 rfl;have y5:=HY1.out.cell 5 rfl;have y6:=HY1.out.cell 6 rfl;go_wp2_with fail;refine(sameUploads_yes ss _ _ nx la ro _ (HVS.out.below hb01) (HUS.out.below hb01)).mono ?_
 rintro e w2 ⟨rfl,hb2⟩;have hb02:=below_tr hb01 hb2;have HX2:=hid (HX1.out.below hb2);have HY2:=hid (HY1.out.below hb2);clear x0 x1 x2 x3 x4 x5 x6 y0 y1 y2 y3 y4 y5 y6;have x0:=HX2.out.cell 0 rfl;have x1:=HX2.out.cell 1 rfl;have x2:=HX2.out.cell 2 rfl;have x3:=HX2.out.cell 3 rfl;have x4:=HX2.out.cell 4 rfl;have x5:=HX2.out.cell 5 rfl;have x6:=HX2.out.cell 6 rfl;have y0:=HY2.out.cell 0 rfl;have y1:=HY2.out.cell 1 rfl;have y2:=HY2.out.cell 2 rfl;have y3:=HY2.out.cell 3 rfl;have y4:=HY2.out.cell 4 rfl;have y5:=HY2.out.cell 5 rfl;have y6:=HY2.out.cell 6 rfl;go_wp2_with fail;go_loopw [5] (fun i wr=> ∃k:Nat,k≤fos.length∧i= .int .i64 k∧Hid (Cs wr w.heap.size [.slice fa fos.length fc,.slice ga gs.length gc,.slice sa ss.length sc,.int .i64 nx,.int .i64 la,.int .i64 ro,.int .i64 now])∧Hid (Cs wr (w.heap.size+1) [.slice ea fos.length ec,.slice ka gs.length kc,.slice ya ss.length yc,.int .i64 nx,.int .i64 la,.int .i64 ro,.int .i64 now])∧Below w.heap.size w wr) (fun i _=>fos.length-(intOf i).toNat)
 case atStart=>exact⟨0,Nat.zero_le _,rfl,HX2,HY2,hb02⟩
 case round=>
  clear x0 x1 x2 x3 x4 x5 x6 y0 y1 y2 y3 y4 y5 y6 HX2 HY2 hb02;obtain⟨k,hk,rfl,HXr,HYr,hbel⟩:=hrel
  have x0:=HXr.out.cell 0 rfl;have y0:=HYr.out.cell 0 rfl;have hxl:=HXr.out.lt;have hyl:=HYr.out.lt;by_cases hlt:k<fos.length
  · obtain⟨b,o,rfl,hb,he⟩:=HL.out k hlt
    obtain⟨b',o',rfl,hb',he'⟩:=HL'.out k hlt
    obtain⟨c0,cu,cx,c1,c2,c3,hcu,hcx⟩:=he.below hb hbel
    obtain⟨d0,du,dx,d1,d2,d3,hdu,hdx⟩:=he'.below hb' hbel
    have hsz:=hbel.size;have hbl:b<wr.heap.size:=by omega
    have hbl':b'<wr.heap.size:=by omega
    have hkk:(k:Int)<fos.length:=by omega
    clear he he';generalize fos[k]=ck at*;obtain⟨na,⟨jb,jf,jc⟩⟩:=ck
    simp only at c0 c1 c2 c3 hcu hcx d0 d1 d2 d3 hdu hdx;have HCU:=hid hcu;have HCX:=hid hcx;have HDU:=hid hdu;have HDX:=hid hdx;obtain⟨a1,b1,rfl,_⟩:=hcu
    obtain⟨a2,b2,rfl,_⟩:=hcx
    obtain⟨a3,b3,rfl,_⟩:=hdu
    obtain⟨a4,b4,rfl,_⟩:=hdx
    go_wp2_with fail
    go_region_held3 (fun W=>W.cell? ⟨w.heap.size,0,none⟩=some (.slice (some ⟨b,o,none⟩) fos.length fc)∧W.cell? ⟨w.heap.size+1,0,none⟩=some (.slice (some ⟨b',o',none⟩) fos.length ec)∧W.cell? ⟨b,o+k*4,none⟩=some (.string na)∧W.cell? ⟨b,o+k*4+1,none⟩=some (.slice a1 jb.length b1)∧W.cell? ⟨b,o+k*4+2,none⟩=some (.int .i64 jf)∧W.cell? ⟨b,o+k*4+3,none⟩=some (.slice a2 jc.length b2)∧W.cell? ⟨b',o'+k*4,none⟩=some (.string na)∧W.cell? ⟨b',o'+k*4+1,none⟩=some (.slice a3 jb.length b3)∧W.cell? ⟨b',o'+k*4+2,none⟩=some (.int .i64 jf)∧W.cell? ⟨b',o'+k*4+3,none⟩=some (.slice a4 jc.length b4)) (go_keep) (first
     |(go_at_call 30;refine(sameJ_yes ⟨jb,jf,jc⟩ _ _ _ ⟨_,_,rfl,HCU.out.below (Below.refl _ _).drew,HCX.out.below (Below.refl _ _).drew⟩ ⟨_,_,rfl,HDU.out.below (Below.refl _ _).drew,HDX.out.below (Below.refl _ _).drew⟩).mono ?_;rintro e wa ⟨rfl,hba⟩;have hza:Below wr.heap.size wr wa:=((Below.refl _ _).drew).trans hba;have j0:=(hza.cell (p:=⟨w.heap.size,0,none⟩) hxl).trans x0;have j1:=(hza.cell (p:=⟨w.heap.size+1,0,none⟩) hyl).trans y0;have k0:=(hza.cell (p:=⟨b,o+k*4,none⟩) hbl).trans c0;have k1:=(hza.cell (p:=⟨b,o+k*4+1,none⟩) hbl).trans c1;have k2:=(hza.cell (p:=⟨b,o+k*4+2,none⟩) hbl).trans c2;have k3:=(hza.cell (p:=⟨b,o+k*4+3,none⟩) hbl).trans c3;have l0:=(hza.cell (p:=⟨b',o'+k*4,none⟩) hbl').trans d0;have l1:=(hza.cell (p:=⟨b',o'+k*4+1,none⟩) hbl').trans d1;have l2:=(hza.cell (p:=⟨b',o'+k*4+2,none⟩) hbl').trans d2;have l3:=(hza.cell (p:=⟨b',o'+k*4+3,none⟩) hbl').trans d3))
    have hb3:=below_tr hbel hza;have HXa:=hid (HXr.out.below hza);have HYa:=hid (HYr.out.below hza);go_wp2_with fail;go_roundw
    case rel=>exact⟨k+1,by omega,by simp,HXa,HYa,hb3⟩
    case measure=>simp[intOf];omega
  · have hkk: ¬(k:Int)<fos.length:=by omega
    go_wp2_with fail;go_ret;exact⟨rfl,hbel⟩
theorem Tryz.infoW4:(Tryz.prog.info? 128).map (fun i=>(i.zero,i.size,i.bytes))=some (some (.agg #[.string ⟨#[]⟩,.bool false,.string ⟨#[]⟩,.int .i64 0]),4,48):=by kernel_rfl
def VEn (x:En) (r:List Value) (_:World):Prop:=r=[.string x.path,.bool x.folder,.string x.text,.int .i64 x.ver]
theorem rle_enters: ∀args w,(callFunc 59 args).run Tryz.prog w= .ok (.enter 59 args) w:=enters_of Tryz.func59 (by kernel_rfl) rfl
/-- A list that is being read. -/
structure Rrle (w:World) (b g:Nat) (x:Value) (xs:List (En)) (r:List UInt8) (W:World):Prop where
 row:RowV w.heap.size 128 4 VEn xs x W
 rd:Rd b r W
 box:RBox W b g
 v:VarsW W
 fr:w.grownBy W (some b)
 rl:r.length≤MaxL
theorem rle_new (W:World) (x:En): ∀j u,([.string x.path,.bool x.folder,.string x.text,.int .i64 x.ver]:List Value)[j]?=some u→(W.alloc (.cells #[.string x.path,.bool x.folder,.string x.text,.int .i64 x.ver] 128)).cell? ((⟨W.heap.size,0,none⟩:Addr).add j)=some u:=by
 intro j u hu;have h:=Cs.new W ([.string x.path,.bool x.folder,.string x.text,.int .i64 x.ver]) 128;have h2:=h.cell j hu;rw[Addr.add_lit,Nat.zero_add];exact h2
set_option maxHeartbeats 2000000 in
theorem rle_any (b g:Nat) (l:List UInt8) (w:World) (h:Rd b l w) (hg:RBox w b g) (hs:l.length≤MaxL) (h6:5<b) (hv:VarsW w):
    Calls Tryz.prog 58 #[.pointer (some ⟨b,0,none⟩),.int .i64 60,.func (.func 59) #[] #[.pointer (some ⟨g,0,none⟩)]] w fun e w'=>RdPost b (Wr.lstP Wr.gN 60 (Wr.enP Wr.gN 1000) l) (RowV w.heap.size 128 4 VEn) e w'∧w.grownBy w' (some b):=by
 have eg:=rle_enters;cases hc:Wr.cntP Wr.gN 60 l with
 |none=>
  have HK:=hid (rcnt_no h hs h6 hv hc);have HN:=hid (Wr.lst_none (p:=Wr.enP Wr.gN 1000) hc);clear h hv hc hg;go_enter Tryz.func58,Tryz.ntmps58
  go_wp2_with fail;refine HK.out.mono ?_
  rintro e w1 ⟨rfl,hb1⟩;exact bodyPost_panic rfl ⟨RdPost.no HN.out rfl,hb1⟩
 |some z=>
 obtain⟨n,r1⟩:=z
 obtain⟨_,n0,n1⟩:=Wr.cnt_some hc
 obtain⟨N,rfl⟩: ∃k:Nat,n=k:=⟨n.toNat,by omega⟩
 have HK:=hid (rcnt_ok h hs h6 hv hc);have HN:=hid (Wr.lst_some (p:=Wr.enP Wr.gN 1000) hc);rw[show((N:Int).toNat)=N from rfl]at HN;have hl1:=Wr.cnt_len hc;obtain⟨i0,hi0,hz0,hz1,hz2⟩:=info_parts Tryz.infoW4
 have hbl:=h.lt;have hgb:=heap_lt hg.1;have HS:=hid (Wr.shr_en _ _:Wr.Shr (Wr.enP Wr.gN 1000));have HG:=hid hg;have HV0:=hid hv;clear h hv hc hg;go_enter Tryz.func58,Tryz.ntmps58
 go_wp2_with fail;refine HK.out.mono ?_
 rintro e w1 ⟨rfl,hr1,hb1⟩;have HR:=hid (show Rrle w b g (.slice none 0 0) [] r1 w1 from⟨rowV_nil _ _ _ _ _,hr1,HG.out.nb hb1,HV0.out.nb h6 (by omega) hb1,hb1,by omega⟩);clear HK hr1 hb1 HG HV0;go_wp2_with fail;go_loopw [7,11] (fun x i wr=> ∃(k:Nat) (xs:List (En)) (r:List UInt8),k≤N∧i= .int .i64 k∧Hid (Rrle w b g x xs r wr)∧Hid (Wr.lstP Wr.gN 60 (Wr.enP Wr.gN 1000) l=Wr.repA (Wr.enP Wr.gN 1000) (N-k) xs r)∧xs.length=k) (fun _ i _=>N-(intOf i).toNat)
 case atStart=>exact⟨0,[],r1,Nat.zero_le _,rfl,HR,HN,rfl⟩
 case round=>
  obtain⟨k,xs,r,hk,rfl,HL,HE,hxk⟩:=hrel
  by_cases hlt:k<N
  · have HO:=hid (ren1_any b g r wr HL.out.rd HL.out.box HL.out.rl h6 HL.out.v)
    obtain⟨m,hm⟩: ∃m,N-k=m+1:=⟨N-k-1,by omega⟩
    cases hp:(Wr.enP Wr.gN 1000) r with
    |none=>
     have HF:=hid (Wr.repA_no (n:=m) (xs:=xs) hp);rw[hm]at HE;rw[hp]at HO;clear hp HN HR hm;go_wp2_with fail;refine HO.out.mono ?_
     rintro e w2 ⟨he,hb2⟩;cases he
     exact(show bodyPost Tryz.prog Tryz.f58 (fun e w'=>RdPost b (Wr.lstP Wr.gN 60 (Wr.enP Wr.gN 1000) l) (RowV w.heap.size 128 4 VEn) e w'∧w.grownBy w' (some b)) (.panic _) _ w2 from bodyPost_panic rfl ⟨RdPost.no (HE.out.trans HF.out) rfl,nb_tr HL.out.fr hb2⟩)
    |some z=>
     obtain⟨x,r'⟩:=z
     have HF:=hid (Wr.repA_yes (n:=m) (xs:=xs) hp);rw[hm]at HE;have hl2:=HS.out _ _ _ hp;rw[hp]at HO;have hrl:=HL.out.rl;clear hp HN HR;obtain⟨Z,hZ1,hZ2,hZ3⟩:=HL.out.row
     have hZl:Z.length=k:=by rw[←hxk,←hZ1,List.length_map]
     go_wp2_with fail;refine HO.out.mono ?_
     rintro e w2 ⟨⟨v2,rfl,rfl,hr2⟩,hb2⟩;have hfr2:=nb_tr HL.out.fr hb2;have hO2:=ownsRow_nbX hZ2 hb2 hbl;have hsz2:=hfr2.size;have HB2:=hid (HL.out.box.nb hb2);have HV2:=hid (HL.out.v.nb h6 (by have:=HL.out.rd.lt;omega) hb2);have HR2:=hid hr2;have hgl:=HL.out.box;have hsr:=HL.out.fr.size;clear hr2 HO;go_wp2_with (at_builtin;refine wpList_append_own _ rfl _ _ 38 rfl w.heap.size 128 i0 (.agg #[.string ⟨#[]⟩,.bool false,.string ⟨#[]⟩,.int .i64 0]) 4 48 Tryz.underlying38 hi0 hz0 hz1 hz2 rfl (by decide) _ _ _ rfl (hO2.alloc _) ⟨w2.heap.size,0,none⟩ 1 1 ([.string x.path,.bool x.folder,.string x.text,.int .i64 x.ver]) rfl rfl (rle_new w2 x) (by simp[Value.oneCell']) (by unfold maxLen;omega) (by omega) (by simp;omega) ?_)
     intro v5 w5 ho5 hgr5 hnn5;have hB5:Below w.heap.size w2 w5:=((Below.refl _ w2).alloc hsz2 _).grown hgr5 (by simp;omega) (fun q hq=>(hO2.lt q hq).1);have HL5:=hid (show Rrle w b g v5 (xs++[x]) r' w5 from⟨by rw[←hZ1];exact RowV.snoc (r:=[.string x.path,.bool x.folder,.string x.text,.int .i64 x.ver]) (by rw[hZl];exact ho5) (fun z hz=>⟨(hZ3 z hz).1,(hZ3 z hz).2⟩) ⟨rfl,rfl,by simp[Value.oneCell']⟩,HR2.out.belowB hB5 hbl,HB2.out.belowB hB5 hgb,HV2.out.belowB (by omega) hB5,nb_then hfr2 hB5,by omega⟩);clear ho5 hgr5 hnn5 hO2 hZ1 hZ2 hZ3 hB5;go_wp2_with fail;go_roundw
     case rel=>exact⟨k+1,xs++[x],r',by omega,by simp,HL5,hid (by rw[HE.out,HF.out,show N-(k+1)=m from by omega]),by simp[hxk]⟩
     case measure=>simp[intOf];omega
  · obtain rfl:k=N:=by omega
    rw[Nat.sub_self,Wr.repA_zero]at HE;clear HN HR;go_wp2_with fail;go_ret;exact⟨RdPost.yes _ HE.out rfl HL.out.row HL.out.rd,HL.out.fr⟩
abbrev zco:List Value:=[.int .i64 0,.string ⟨#[]⟩,.slice none 0 0]
/-- A commit that was read: its changes lie in a row of their own. -/
def VCo (B:Nat) (x:Co) (r:List Value) (W:World):Prop:= ∃vc,r=[.int .i64 x.nu,.string x.ke,vc]∧RowV B 54 5 VCh x.ch vc W
theorem VCo.nb {B g:Nat} {x:Co} {r:List Value} {W W':World} (h:VCo B x r W) (hw:W.grownBy W' (some g)) (hg:g<B):VCo B x r W':=by
 obtain⟨vc,h1,h2⟩:=h
 exact⟨vc,h1,h2.nb hw hg (fun _ _ h=>h)⟩
theorem rowV_below {B:Nat} {T:TypeId} {n:Nat} {α:Type} {V:α→List Value→World→Prop} {xs:List α} {v:Value} {W W':World} (h:RowV B T n V xs v W) (hw:Below W.heap.size W W') (hV: ∀x r,V x r W→V x r W'):RowV B T n V xs v W':=by
 obtain⟨Z,h1,h2,h3⟩:=h
 refine⟨Z,h1,h2.kept (row:=none) ⟨hw.os,hw.tape,hw.output,hw.size,fun k hk _=>hw.block k hk⟩ (by cases hv:v.ownBlock with
  |none=>exact Or.inl rfl
  |some q=>exact Or.inr (by simp)),fun z hz=>⟨hV _ _ (h3 z hz).1,(h3 z hz).2⟩⟩
theorem VCo.below {B:Nat} {x:Co} {r:List Value} {W W':World} (h:VCo B x r W) (hw:Below W.heap.size W W'):VCo B x r W':=by
 obtain⟨vc,h1,h2⟩:=h
 exact⟨vc,h1,rowV_below h2 hw (fun _ _ h=>h)⟩
theorem VCo.low {B B':Nat} {x:Co} {r:List Value} {W:World} (h:VCo B x r W) (hB:B'≤B):VCo B' x r W:=by
 obtain⟨vc,h1,h2⟩:=h
 exact⟨vc,h1,h2.low hB⟩
/-- Two rows of two types never share a block. -/
theorem ownsRow_apart {w w':World} {B B':Nat} {T T':TypeId} {n n':Nat} {v v':Value} {k k':Nat} {xs xs':List Value} (h:w.ownsRow B T n v k xs) (h':w.ownsRow B' T' n' v' k' xs') (hT:T≠T') (hg:w.grownBy w' v'.ownBlock):w'.ownsRow B T n v k xs:=by
 refine h.kept (row:=v'.ownBlock) hg ?_
 obtain⟨_,h1⟩:=h
 obtain⟨_,h2⟩:=h'
 rcases h1 with⟨rfl,_⟩|⟨g,cap,cur,rfl,_,hh,_⟩
 · exact Or.inl rfl
 · refine Or.inr (fun e=>?_)
   rcases h2 with⟨rfl,_⟩|⟨g',cap',cur',rfl,_,hh',_⟩
   · simp[Value.ownBlock]at e
   · simp only[Value.ownBlock,Option.some.injEq]at e
     subst e;rw[hh]at hh';simp only[Option.some.injEq,Obj.cells.injEq]at hh';exact hT hh'.2.1
theorem VCo.apart {B B':Nat} {x:Co} {r:List Value} {W W':World} {T:TypeId} {n k:Nat} {v:Value} {xs:List Value} (h:VCo B x r W) (h':W.ownsRow B' T n v k xs) (hT:54≠T) (hg:W.grownBy W' v.ownBlock):VCo B x r W':=by
 obtain⟨vc,h1,Z,h2,h3,h4⟩:=h
 exact⟨vc,h1,Z,h2,ownsRow_apart h3 h' hT hg,h4⟩
/-- A row of commits that was read. -/
def RowO (B:Nat) (cs:List Co) (v:Value) (W:World):Prop:=RowV B 132 3 (VCo B) cs v W
theorem RowO.nb {B g:Nat} {cs:List Co} {v:Value} {W W':World} (h:RowO B cs v W) (hw:W.grownBy W' (some g)) (hg:g<B):RowO B cs v W':=RowV.nb h hw hg (fun _ _ h=>h.nb hw hg)
theorem RowO.below {B:Nat} {cs:List Co} {v:Value} {W W':World} (h:RowO B cs v W) (hw:Below W.heap.size W W'):RowO B cs v W':=rowV_below h hw (fun _ _ h=>h.below hw)
theorem RowO.low {B B':Nat} {cs:List Co} {v:Value} {W:World} (h:RowO B cs v W) (hB:B'≤B):RowO B' cs v W:=by
 obtain⟨Z,h1,h2,h3⟩:=RowV.low h hB
 exact⟨Z,h1,h2,fun z hz=>⟨(h3 z hz).1.low hB,(h3 z hz).2⟩⟩
theorem RowO.setC {B g:Nat} {cs:List Co} {v:Value} {W:World} (h:RowO B cs v W) (hg:g<B) (i:Nat) (u:Value):RowO B cs v (W.setCell ⟨g,i,none⟩ u):=h.nb (nb_set W g i u) hg
theorem RowO.shape {B:Nat} {cs:List Co} {v:Value} {W:World} (h:RowO B cs v W): ∃a l c,v= .slice a l c:=RowV.shape h
theorem RowV.setE {B:Nat} {T:TypeId} {n:Nat} {xs:List En} {v:Value} {W:World} (h:RowV B T n VEn xs v W) {g:Nat} (hg:g<B) (i:Nat) (u:Value):RowV B T n VEn xs v (W.setCell ⟨g,i,none⟩ u):=h.nb (nb_set W g i u) hg (fun _ _ h=>h)
set_option maxHeartbeats 4000000 in
set_option maxRecDepth 8000 in
theorem rco1_any (b g:Nat) (l:List UInt8) (w:World) (h:Rd b l w) (hg:RBox w b g) (hs:l.length≤MaxL) (h6:5<b) (hv:VarsW w):
    Calls Tryz.prog 61 #[.pointer (some ⟨g,0,none⟩)] w fun e w'=>RdPost b (Wr.coP Wr.gN 1000 l) (fun x v W=> ∃vc,v= .agg #[.int .i64 x.nu,.string x.ke,vc]∧RowV w.heap.size 54 5 VCh x.ch vc W) e w'∧w.grownBy w' (some b):=by
 have HE0:=hid (show Wr.coP Wr.gN 1000 l=Wr.coP Wr.gN 1000 l from rfl);conv at HE0=>arg 1;rhs;unfold Wr.coP
 generalize hP:Wr.coP Wr.gN 1000 l=res at*;clear hP;have hbl:=h.lt;have hgl:=heap_lt hg.1;have H0:=hid (r5_new zco zco 132 132 h hg h6 hv);obtain⟨w0,hw0⟩: ∃w0,w0=(w.alloc (.cells zco.toArray 132)).alloc (.cells zco.toArray 132):=⟨_,rfl⟩
 rw[←hw0]at H0;have HW0:=hid (show(w.alloc (.cells zco.toArray 132)).alloc (.cells zco.toArray 132)=w0 from hw0.symm);have hg1: ¬g=w.heap.size:=by omega
 have hg2: ¬g=w.heap.size+1:=by omega
 have hg3: ¬w.heap.size+1=g:=by omega
 clear hw0 hg;have PN:=hid (show∀(a:Act) (W:World),a.defers=[]→w.grownBy W (some b)→res=none→bodyPost Tryz.prog Tryz.f61 (fun e w'=>RdPost b res (fun x v W=> ∃vc,v= .agg #[.int .i64 x.nu,.string x.ke,vc]∧RowV w.heap.size 54 5 VCh x.ch vc W) e w'∧w.grownBy w' (some b)) (.panic [{v:= .iface 33 (.int .i64 1),recovered:=false}]) a W from fun a W hd hw hr=>bodyPost_panic hd ⟨RdPost.no hr rfl,hw⟩);clear hv h;go_enter Tryz.func61,Tryz.ntmps61
 go_upto_region 2 with fail;rw[HW0.out];clear HW0;have ga:=H0.out.box.cell;go_wp2_with fail;refine(rnum_any H0.out.r4.rd (by omega) h6 H0.out.r4.v).mono ?_
 rintro e w1 ⟨hp,hn1⟩;cases hq:Wr.rdG Wr.gN l with
 |none=>
  rw[hq]at hp;cases hp
  exact PN.out _ _ rfl (nb_tr H0.out.r4.fr hn1) (HE0.out.trans (Wr.bind_none hq))
 |some z=>
 obtain⟨nn,r1⟩:=z
 rw[hq]at hp;obtain⟨_,rfl,rfl,hr1⟩:=hp
 have HE1:=hid (HE0.out.trans (Wr.bind_some hq));have s1:=Wr.shr_rd _ _ _ _ hq;have H1:=hid (H0.out.call hn1 hr1);clear ga;clear hq HE0;have c0:=H1.out.r4.cC.cell 0 rfl;have f0:=H1.out.r4.cC.fr 0;have gw:=H1.out.box.cell;obtain⟨u1,hu1⟩: ∃W,W=w1.setCell ⟨w.heap.size+1,0,none⟩ (.int .i64 nn):=⟨_,rfl⟩
 have HU1:=hid (H1.out.set 0 (.int .i64 nn));rw[←hu1]at HU1;go_upto_region 3 with fail;rw[←hu1];have HX1:=hid hu1;clear hu1 c0 f0 gw;have ga:=HU1.out.box.cell;go_wp2_with fail;refine(rtxt_any HU1.out.r4.rd (by omega) h6 HU1.out.r4.v).mono ?_
 rintro e w2 ⟨hp,hn2⟩;cases hq:Wr.txtP Wr.gN 1000 r1 with
 |none=>
  rw[hq]at hp;cases hp
  exact PN.out _ _ rfl (nb_tr HU1.out.r4.fr hn2) (HE1.out.trans (Wr.bind_none hq))
 |some z=>
 obtain⟨k,r2⟩:=z
 rw[hq]at hp;obtain⟨_,rfl,rfl,hr2⟩:=hp
 have HE2:=hid (HE1.out.trans (Wr.bind_some hq));have s2:=Wr.shr_txt _ _ _ _ _ hq;have H2:=hid (HU1.out.call hn2 hr2);clear ga;clear hq HE1;have c1:=H2.out.r4.cC.cell 1 rfl;have f1:=H2.out.r4.cC.fr 1;have gw:=H2.out.box.cell;obtain⟨u2,hu2⟩: ∃W,W=w2.setCell ⟨w.heap.size+1,1,none⟩ (.string k):=⟨_,rfl⟩
 have HU2:=hid (H2.out.set 1 (.string k));rw[←hu2]at HU2;go_upto_region 4 with fail;rw[←hu2];have HX2:=hid hu2;clear hu2 c1 f1 gw;have ga:=HU2.out.box.cell;go_wp2_with fail;refine(rchs_any b r2 _ HU2.out.r4.rd (by omega) h6 HU2.out.r4.v).mono ?_
 rintro e w3 ⟨hp,hn3⟩;cases hq:Wr.lstP Wr.gN 20 (Wr.chP Wr.gN 1000) r2 with
 |none=>
  rw[hq]at hp;cases hp
  exact PN.out _ _ rfl (nb_tr HU2.out.r4.fr hn3) (HE2.out.trans (Wr.bind_none hq))
 |some z=>
 obtain⟨cs,r3⟩:=z
 rw[hq]at hp;obtain⟨vcs,rfl,hrow,hr3⟩:=hp
 have HE3:=hid (HE2.out.trans (Wr.bind_some hq));have s3:=Wr.shr_lst _ _ (Wr.shr_ch _ _) _ _ _ hq;have H3:=hid (HU2.out.call hn3 hr3);obtain⟨acs,lcs,ccs,rfl⟩:=hrow.shape
 have HBcs:=hid (show w.heap.size<u2.heap.size∧w.heap.size+1<u2.heap.size from⟨HU2.out.r4.cR.lt,HU2.out.r4.cC.lt⟩);have HRcs:=hid hrow;clear hrow;clear ga;clear hq HE2;have c2:=H3.out.r4.cC.cell 2 rfl;have f2:=H3.out.r4.cC.fr 2;have y0:=H3.out.r4.cC.cell 0 rfl;have y1:=H3.out.r4.cC.cell 1 rfl;have v0:=H3.out.r4.cR.cell 0 rfl;have x0:=H3.out.r4.cR.fr 0;have v1:=H3.out.r4.cR.cell 1 rfl;have x1:=H3.out.r4.cR.fr 1;have v2:=H3.out.r4.cR.cell 2 rfl;have x2:=H3.out.r4.cR.fr 2;have n3: ¬w.heap.size=w.heap.size+1:=by omega
 have n4: ¬w.heap.size+1=w.heap.size:=by omega
 go_wp2_with fail;have nR:b≠w.heap.size:=by omega
 have nC:b≠w.heap.size+1:=by omega
 have l1:w.heap.size≤w.heap.size+1:=by omega
 have l0:w.heap.size≤w.heap.size:=by omega
 refine bodyPost_ret (v:= .agg #[.int .i64 nn,.string k,.slice acs lcs ccs]) (by simp[results,Tryz.results61,go_sem,n3,n4,v0,v1,v2]) rfl ⟨RdPost.yes _ HE3.out rfl ?_ ?_,?_⟩
 · refine⟨_,rfl,?_⟩
   exact(HRcs.out.setC HBcs.out.2 _ _|>.setC HBcs.out.1 _ _|>.setC HBcs.out.1 _ _|>.setC HBcs.out.1 _ _).low (by have:=HU2.out.r4.fr.size;omega)
 · exact(H3.out.r4.rd.set' nC _|>.set' nR _|>.set' nR _|>.set' nR _)
 · exact(nb_new (nb_new (nb_new (nb_new H3.out.r4.fr l1 _) l0 _) l0 _) l0 _)
theorem Tryz.infoW3:(Tryz.prog.info? 132).map (fun i=>(i.zero,i.size,i.bytes))=some (some (.agg #[.int .i64 0,.string ⟨#[]⟩,.slice none 0 0]),3,48):=by kernel_rfl
theorem rlo_enters: ∀args w,(callFunc 61 args).run Tryz.prog w= .ok (.enter 61 args) w:=enters_of Tryz.func61 (by kernel_rfl) rfl
/-- A list that is being read. -/
structure Rrlo (w:World) (b g:Nat) (x:Value) (xs:List (Co)) (r:List UInt8) (W:World):Prop where
 row:RowV w.heap.size 132 3 (VCo w.heap.size) xs x W
 rd:Rd b r W
 box:RBox W b g
 v:VarsW W
 fr:w.grownBy W (some b)
 rl:r.length≤MaxL
theorem rlo_new (W:World) (n:Int) (k:ByteArray) (v:Value): ∀j u,([.int .i64 n,.string k,v]:List Value)[j]?=some u→(W.alloc (.cells #[.int .i64 n,.string k,v] 132)).cell? ((⟨W.heap.size,0,none⟩:Addr).add j)=some u:=by
 intro j u hu;have h:=Cs.new W ([.int .i64 n,.string k,v]) 132;have h2:=h.cell j hu;rw[Addr.add_lit,Nat.zero_add];exact h2
set_option maxHeartbeats 2000000 in
theorem rlo_any (b g:Nat) (l:List UInt8) (w:World) (h:Rd b l w) (hg:RBox w b g) (hs:l.length≤MaxL) (h6:5<b) (hv:VarsW w):
    Calls Tryz.prog 60 #[.pointer (some ⟨b,0,none⟩),.int .i64 10,.func (.func 61) #[] #[.pointer (some ⟨g,0,none⟩)]] w fun e w'=>RdPost b (Wr.lstP Wr.gN 10 (Wr.coP Wr.gN 1000) l) (RowV w.heap.size 132 3 (VCo w.heap.size)) e w'∧w.grownBy w' (some b):=by
 have eg:=rlo_enters;cases hc:Wr.cntP Wr.gN 10 l with
 |none=>
  have HK:=hid (rcnt_no h hs h6 hv hc);have HN:=hid (Wr.lst_none (p:=Wr.coP Wr.gN 1000) hc);clear h hv hc hg;go_enter Tryz.func60,Tryz.ntmps60
  go_wp2_with fail;refine HK.out.mono ?_
  rintro e w1 ⟨rfl,hb1⟩;exact bodyPost_panic rfl ⟨RdPost.no HN.out rfl,hb1⟩
 |some z=>
 obtain⟨n,r1⟩:=z
 obtain⟨_,n0,n1⟩:=Wr.cnt_some hc
 obtain⟨N,rfl⟩: ∃k:Nat,n=k:=⟨n.toNat,by omega⟩
 have HK:=hid (rcnt_ok h hs h6 hv hc);have HN:=hid (Wr.lst_some (p:=Wr.coP Wr.gN 1000) hc);rw[show((N:Int).toNat)=N from rfl]at HN;have hl1:=Wr.cnt_len hc;obtain⟨i0,hi0,hz0,hz1,hz2⟩:=info_parts Tryz.infoW3
 have hbl:=h.lt;have hgb:=heap_lt hg.1;have HS:=hid (Wr.shr_co _ _:Wr.Shr (Wr.coP Wr.gN 1000));have HG:=hid hg;have HV0:=hid hv;clear h hv hc hg;go_enter Tryz.func60,Tryz.ntmps60
 go_wp2_with fail;refine HK.out.mono ?_
 rintro e w1 ⟨rfl,hr1,hb1⟩;have HR:=hid (show Rrlo w b g (.slice none 0 0) [] r1 w1 from⟨rowV_nil _ _ _ _ _,hr1,HG.out.nb hb1,HV0.out.nb h6 (by omega) hb1,hb1,by omega⟩);clear HK hr1 hb1 HG HV0;go_wp2_with fail;go_loopw [7,11] (fun x i wr=> ∃(k:Nat) (xs:List (Co)) (r:List UInt8),k≤N∧i= .int .i64 k∧Hid (Rrlo w b g x xs r wr)∧Hid (Wr.lstP Wr.gN 10 (Wr.coP Wr.gN 1000) l=Wr.repA (Wr.coP Wr.gN 1000) (N-k) xs r)∧xs.length=k) (fun _ i _=>N-(intOf i).toNat)
 case atStart=>exact⟨0,[],r1,Nat.zero_le _,rfl,HR,HN,rfl⟩
 case round=>
  obtain⟨k,xs,r,hk,rfl,HL,HE,hxk⟩:=hrel
  by_cases hlt:k<N
  · have HO:=hid (rco1_any b g r wr HL.out.rd HL.out.box HL.out.rl h6 HL.out.v)
    obtain⟨m,hm⟩: ∃m,N-k=m+1:=⟨N-k-1,by omega⟩
    cases hp:(Wr.coP Wr.gN 1000) r with
    |none=>
     have HF:=hid (Wr.repA_no (n:=m) (xs:=xs) hp);rw[hm]at HE;rw[hp]at HO;clear hp HN HR hm;go_wp2_with fail;refine HO.out.mono ?_
     rintro e w2 ⟨he,hb2⟩;cases he
     exact(show bodyPost Tryz.prog Tryz.f60 (fun e w'=>RdPost b (Wr.lstP Wr.gN 10 (Wr.coP Wr.gN 1000) l) (RowV w.heap.size 132 3 (VCo w.heap.size)) e w'∧w.grownBy w' (some b)) (.panic _) _ w2 from bodyPost_panic rfl ⟨RdPost.no (HE.out.trans HF.out) rfl,nb_tr HL.out.fr hb2⟩)
    |some z=>
     obtain⟨x,r'⟩:=z
     have HF:=hid (Wr.repA_yes (n:=m) (xs:=xs) hp);rw[hm]at HE;have hl2:=HS.out _ _ _ hp;rw[hp]at HO;have hrl:=HL.out.rl;clear hp HN HR;obtain⟨Z,hZ1,hZ2,hZ3⟩:=HL.out.row
     have hZl:Z.length=k:=by rw[←hxk,←hZ1,List.length_map]
     go_wp2_with fail;refine HO.out.mono ?_
     rintro e w2 ⟨⟨v2,rfl,⟨vc,rfl,hvc⟩,hr2⟩,hb2⟩;obtain⟨av,lv,cv,rfl⟩:=hvc.shape
     have HVC:=hid (show VCo w.heap.size x [.int .i64 x.nu,.string x.ke,.slice av lv cv] w2 from⟨_,rfl,hvc.low HL.out.fr.size⟩);clear hvc;have hfr2:=nb_tr HL.out.fr hb2;have hO2:=ownsRow_nbX hZ2 hb2 hbl;have hsz2:=hfr2.size;have HB2:=hid (HL.out.box.nb hb2);have HV2:=hid (HL.out.v.nb h6 (by have:=HL.out.rd.lt;omega) hb2);have HR2:=hid hr2;have hgl:=HL.out.box;have hsr:=HL.out.fr.size;clear hr2 HO;go_wp2_with (at_builtin;refine wpList_append_own _ rfl _ _ 39 rfl w.heap.size 132 i0 (.agg #[.int .i64 0,.string ⟨#[]⟩,.slice none 0 0]) 3 48 Tryz.underlying39 hi0 hz0 hz1 hz2 rfl (by decide) _ _ _ rfl (hO2.alloc _) ⟨w2.heap.size,0,none⟩ 1 1 ([.int .i64 x.nu,.string x.ke,.slice av lv cv]) rfl rfl (rlo_new w2 x.nu x.ke _) (by simp[Value.oneCell']) (by unfold maxLen;omega) (by omega) (by simp;omega) ?_)
     intro v5 w5 ho5 hgr5 hnn5;have hB5:Below w.heap.size w2 w5:=((Below.refl _ w2).alloc hsz2 _).grown hgr5 (by simp;omega) (fun q hq=>(hO2.lt q hq).1);have HL5:=hid (show Rrlo w b g v5 (xs++[x]) r' w5 from⟨by rw[←hZ1];exact RowV.snoc (r:=[.int .i64 x.nu,.string x.ke,.slice av lv cv]) (by rw[hZl];exact ho5) (fun z hz=>⟨(((hZ3 z hz).1.nb hb2 hbl).below (below_alloc w2 _)).apart (hO2.alloc _) (by decide) hgr5,(hZ3 z hz).2⟩) ⟨(HVC.out.below (below_alloc w2 _)).apart (hO2.alloc _) (by decide) hgr5,rfl,by simp[Value.oneCell']⟩,HR2.out.belowB hB5 hbl,HB2.out.belowB hB5 hgb,HV2.out.belowB (by omega) hB5,nb_then hfr2 hB5,by omega⟩);clear ho5 hgr5 hnn5 hO2 hZ1 hZ2 hZ3 hB5;go_wp2_with fail;go_roundw
     case rel=>exact⟨k+1,xs++[x],r',by omega,by simp,HL5,hid (by rw[HE.out,HF.out,show N-(k+1)=m from by omega]),by simp[hxk]⟩
     case measure=>simp[intOf];omega
  · obtain rfl:k=N:=by omega
    rw[Nat.sub_self,Wr.repA_zero]at HE;clear HN HR;go_wp2_with fail;go_ret;exact⟨RdPost.yes _ HE.out rfl HL.out.row HL.out.rd,HL.out.fr⟩
end Go.Proofs.YtppdfeehhnofaaaGreatDoor
