/- What tree.changed and apply answer, for every change. -/
import Derived.Test.YtppdfeehhnofaaaGreatDoorHAF
import Derived.Test.YtppdfeehhnofaaaGreatDoorHAE
import Derived.Test.YtppdfeehhnofaaaGreatDoorHAB
import Derived.Test.YtppdfeehhnofaaaGreatDoorHAC
set_option linter.unusedSimpArgs false
set_option linter.unusedVariables false
namespace Go.Proofs.YtppdfeehhnofaaaGreatDoor
open Go.RowKit

namespace Pp
theorem bytes0 {t:ByteArray} (h:t.data.toList=[]):t=⟨#[]⟩:=bytes_eq h
end Pp

set_option maxHeartbeats 1000000 in
theorem changed_any (L:List En) (v:Value) (k:Int) (p q t:ByteArray) (b n:Int) (w:World) (hv:Lies w v L) (hs:Sized L) (hp:p.size≤150000000000000) (hq:q.size≤150000000000000) (hL:Pp.Good L) (hc:Pp.chgE ⟨k,p,q,t,b⟩=0) (hpl:Pp.plcE L ⟨k,p,q,t,b⟩=0):
    Calls Tryz.prog 215 #[v,.agg #[.int .i64 k,.string p,.string q,.string t,.int .i64 b],.int .i64 n] w fun e w'=> ∃u,e= .returned (.tuple #[u,.int .i64 (Pp.chdE L ⟨k,p,q,t,b⟩ n)])∧Lies w' u (Pp.ifz (Pp.chdE L ⟨k,p,q,t,b⟩ n) (Pp.chdR L ⟨k,p,q,t,b⟩ n))∧Below w.heap.size w w':=by
 have hrest:=Pp.chg_rest hc;have HV:Hid (Lies w v L):=hv;have HS:Hid (Sized L):=hs;have HL:Hid (Pp.Good L):=hL;rcases Pp.plc_rest hpl (Pp.chg_kind hc)with⟨hk,h⟩|⟨hk,h⟩|⟨hk,⟨x,hx⟩,h1,h2⟩|⟨hk,x,hx⟩
 · have hk:k=1:=hk
   subst hk;have ht:t=⟨#[]⟩:=Pp.bytes0 (hrest.2.1.resolve_left (by simp));subst ht;clear hrest h hpl hc hL hs hv;have HE:=hid (show Pp.chdE L ⟨1,p,q,⟨#[]⟩,b⟩ n=if 60<(Pp.out (made 1 p ⟨#[]⟩ n) L).length+1 then 2 else 0 from rfl);have HR:=hid (show Pp.chdR L ⟨1,p,q,⟨#[]⟩,b⟩ n=Pp.ins (made 1 p ⟨#[]⟩ n) (Pp.out (made 1 p ⟨#[]⟩ n) L)from rfl);go_enter Tryz.func215,Tryz.ntmps215
   go_wp2_with fail;refine(put_any L v (made 1 p ⟨#[]⟩ n) _ (HV.out.below ((Below.refl _ _).alloc (Nat.le_refl _) _)) HL.out.len HS.out (by simp only[made];omega) HL.out.rise).mono ?_
   rintro e w1 (⟨h,rfl,hb1⟩|⟨h,u,rfl,hli,hb1⟩)
   · obtain⟨c0,c1,c2,c3,c4,hbw,hlt⟩:=bx5 hb1
     have HH:=hid h;clear h hb1 c0 c1 c2 c3 c4;go_wp2;go_ret2;refine⟨_,by rw[HE.out,if_pos HH.out];rfl,?_,hbw⟩
     rw[Pp.ifz_no (by rw[HE.out,if_pos HH.out];decide)];exact lies_nil _
   · obtain⟨c0,c1,c2,c3,c4,hbw,hlt⟩:=bx5 hb1
     have HLI:=hid hli;have HH:=hid h;clear h hb1 hli c0 c1 c2 c3 c4;go_wp2;go_ret2;refine⟨_,by rw[HE.out,if_neg HH.out];rfl,?_,hbw⟩
     rw[Pp.ifz_yes (by rw[HE.out,if_neg HH.out]),HR.out];exact HLI.out
 · have hk:k=2:=hk
   subst hk;clear hrest h hpl hc hL hs hv;have HE:=hid (show Pp.chdE L ⟨2,p,q,t,b⟩ n=if 60<(Pp.out (made 2 p t n) L).length+1 then 2 else 0 from rfl);have HR:=hid (show Pp.chdR L ⟨2,p,q,t,b⟩ n=Pp.ins (made 2 p t n) (Pp.out (made 2 p t n) L)from rfl);go_enter Tryz.func215,Tryz.ntmps215
   go_wp2_with fail;refine(put_any L v (made 2 p t n) _ (HV.out.below ((Below.refl _ _).alloc (Nat.le_refl _) _)) HL.out.len HS.out (by simp only[made];omega) HL.out.rise).mono ?_
   rintro e w1 (⟨h,rfl,hb1⟩|⟨h,u,rfl,hli,hb1⟩)
   · obtain⟨c0,c1,c2,c3,c4,hbw,hlt⟩:=bx5 hb1
     have HH:=hid h;clear h hb1 c0 c1 c2 c3 c4;go_wp2;go_ret2;refine⟨_,by rw[HE.out,if_pos HH.out];rfl,?_,hbw⟩
     rw[Pp.ifz_no (by rw[HE.out,if_pos HH.out];decide)];exact lies_nil _
   · obtain⟨c0,c1,c2,c3,c4,hbw,hlt⟩:=bx5 hb1
     have HLI:=hid hli;have HH:=hid h;clear h hb1 hli c0 c1 c2 c3 c4;go_wp2;go_ret2;refine⟨_,by rw[HE.out,if_neg HH.out];rfl,?_,hbw⟩
     rw[Pp.ifz_yes (by rw[HE.out,if_neg HH.out]),HR.out];exact HLI.out
 · have hk:k=3:=hk
   subst hk;have HE:=hid (show Pp.chdE L ⟨3,p,q,t,b⟩ n=if(Pp.goL L ⟨3,p,q,t,b⟩).any (fun e=>Pp.big (Pp.mvP ⟨3,p,q,t,b⟩ e))=true then 2 else 0 from rfl);have HR:=hid (show Pp.chdR L ⟨3,p,q,t,b⟩ n=Pp.insAll (Pp.mvL L ⟨3,p,q,t,b⟩ n) (Pp.keptL L ⟨3,p,q,t,b⟩)from rfl);have HC:=hid hc;have HX:=hid hx;have H2:=hid h2;clear hrest hpl hc hL hs hv hx h1 h2;go_enter Tryz.func215,Tryz.ntmps215
   go_wp2_with fail;refine(move_any L v p q t b n _ (HV.out.below ((Below.refl _ _).alloc (Nat.le_refl _) _)) HS.out hp hq HL.out HC.out H2.out x HX.out).mono ?_
   rintro e w1 (⟨h,rfl,hb1⟩|⟨h,u,rfl,hli,hb1⟩)
   · obtain⟨c0,c1,c2,c3,c4,hbw,hlt⟩:=bx5 hb1
     have HH:=hid h;clear h hb1 c0 c1 c2 c3 c4;go_wp2;go_ret2;refine⟨_,by rw[HE.out,if_pos HH.out];rfl,?_,hbw⟩
     rw[Pp.ifz_no (by rw[HE.out,if_pos HH.out];decide)];exact lies_nil _
   · obtain⟨c0,c1,c2,c3,c4,hbw,hlt⟩:=bx5 hb1
     have HLI:=hid hli;have HH:=hid h;clear h hb1 hli c0 c1 c2 c3 c4;go_wp2;go_ret2;refine⟨_,by rw[HE.out,if_neg (by rw[HH.out];decide)];rfl,?_,hbw⟩
     rw[Pp.ifz_yes (by rw[HE.out,if_neg (by rw[HH.out];decide)]),HR.out];exact HLI.out
 · have hk:k=4:=hk
   subst hk;have hcp:=Pp.chg_path hc;have HK:=hid (show L.filter (fun e=> !Pp.inB p.data.toList e)=Pp.keptL L ⟨4,p,q,t,b⟩from Pp.filter_eq fun e he=>by rw[Pp.inB_wi (Pp.entE_path (hL.ents e he)) hcp]);have HKL:=hid (show(Pp.keptL L ⟨4,p,q,t,b⟩).length≤L.length from List.length_filter_le _ _);clear hrest hpl hc hL hs hv hx hcp;go_enter Tryz.func215,Tryz.ntmps215
   go_wp2_with fail;refine(twithin_any p _ (by omega)).mono ?_
   rintro e w1 ⟨rfl,ht1,hb1⟩;obtain⟨c0,c1,c2,c3,c4,hbw,hlt⟩:=bx5 hb1
   have HT1:=hid (show Tells w1 242 #[.pointer (some ⟨w.heap.size+1,0,none⟩)] (Pp.inB p.data.toList)from by simpa using ht1);clear ht1;go_wp2_with fail;refine(not_any _ _ (Pp.inB p.data.toList) _ HT1.out).mono ?_
   rintro e w2 ⟨rfl,ht2,hb2⟩;have HT2:=hid ht2;have hb02:=hb1.trans (hb2.mono hb1.size);clear ht2 c0 c1 c2 c3 c4 hbw hlt hb1 hb2;obtain⟨c0,c1,c2,c3,c4,hbw,hlt⟩:=bx5 hb02
   go_wp2_with fail;refine(every_any L v _ _ (fun e=> !Pp.inB p.data.toList e) _ (HV.out.below hbw) HT2.out (Nat.le_trans HL.out.len (by decide)) HS.out).mono ?_
   rintro e w3 ⟨u1,rfl,ho1,hn1,hb3⟩;rw[HK.out]at ho1;have HLI:=hid (lies_own ho1 (by have:=HKL.out;have:=HL.out.len;omega));have hb03:=hbw.trans (hb3.mono (Nat.le_of_lt hlt));clear c0 c1 c2 c3 c4 hbw hlt hb02 hb3 ho1 hn1;go_wp2;go_ret2;exact⟨_,rfl,HLI.out,hb03⟩
namespace Pp
def appR (L:List En) (c:Ch) (n:Int):List En:=ifz (appE L c n) (chdR L c n)
theorem app_ver {L:List En} {c:Ch} {n:Int} (h: ¬verE n=0):appE L c n=verE n:=by rw[appE,if_pos h]
theorem app_chg {L:List En} {c:Ch} {n:Int} (h:verE n=0) (h1: ¬chgE c=0):appE L c n=chgE c:=by rw[appE,if_neg (fun x=>x h),if_pos h1]
theorem app_plc {L:List En} {c:Ch} {n:Int} (h:verE n=0) (h1:chgE c=0) (h2: ¬plcE L c=0):appE L c n=plcE L c:=by rw[appE,if_neg (fun x=>x h),if_neg (fun x=>x h1),if_pos h2]
theorem app_stl {L:List En} {c:Ch} {n:Int} (h:verE n=0) (h1:chgE c=0) (h2:plcE L c=0) (h3:stl L c=true):appE L c n=8:=by rw[appE,if_neg (fun x=>x h),if_neg (fun x=>x h1),if_neg (fun x=>x h2),if_pos h3]
theorem app_chd {L:List En} {c:Ch} {n:Int} (h:verE n=0) (h1:chgE c=0) (h2:plcE L c=0) (h3:stl L c=false):appE L c n=chdE L c n:=by rw[appE,if_neg (fun x=>x h),if_neg (fun x=>x h1),if_neg (fun x=>x h2),if_neg (by rw[h3];decide)]
theorem appR_no {L:List En} {c:Ch} {n:Int} {e:Int} (h:appE L c n=e) (he: ¬e=0):appR L c n=[]:=by rw[appR,h,ifz_no he]
end Pp

set_option maxHeartbeats 1000000 in
theorem apply_any (L:List En) (v:Value) (k:Int) (p q t:ByteArray) (b n:Int) (w:World) (hv:Lies w v L) (hs:Sized L) (hp:p.size≤150000000000000) (hq:q.size≤150000000000000) (ht:t.size≤150000000000000) (hL:Pp.Good L):
    Calls Tryz.prog 188 #[v,.agg #[.int .i64 k,.string p,.string q,.string t,.int .i64 b],.int .i64 n] w fun e w'=> ∃u,e= .returned (.tuple #[u,.int .i64 (Pp.appE L ⟨k,p,q,t,b⟩ n)])∧Lies w' u (Pp.appR L ⟨k,p,q,t,b⟩ n)∧Below w.heap.size w w':=by
 have HV:Hid (Lies w v L):=hv;have HS:Hid (Sized L):=hs;have HL:Hid (Pp.Good L):=hL;clear hv hs hL;by_cases hver:Pp.verE n=0
 · have HVE:=hid hver
   by_cases hchg:Pp.chgE ⟨k,p,q,t,b⟩=0
   · have HCH:=hid hchg
     by_cases hplc:Pp.plcE L ⟨k,p,q,t,b⟩=0
     · have HPL:=hid hplc
       cases hst:Pp.stl L ⟨k,p,q,t,b⟩with
       |true=>
        have hE:=Pp.app_stl hver hchg hplc hst;have HR:=hid (Pp.appR_no hE (by decide));have HE:=hid hE;have HST:=hid hst;clear hE hst hplc hchg hver;go_enter Tryz.func188,Tryz.ntmps188
        go_wp2_with fail;refine(checkVersion_any n _).mono ?_
        rintro e w1 ⟨rfl,rfl⟩;rw[HVE.out];go_wp2_with fail;refine(checkChange_any k p q t b _ (by omega) (by omega) (by omega)).mono ?_
        rintro e w2 ⟨rfl,hb2⟩;rw[HCH.out];obtain⟨c0,c1,c2,c3,c4,hbw,hlt⟩:=bx5 hb2
        go_wp2_with fail;refine(checkPlace_any L v k p q t b _ (HV.out.below hbw) (fun e he=>(HS.out e he).1) (by omega) (by omega) HCH.out).mono ?_
        rintro e w3 ⟨rfl,hb3⟩;rw[HPL.out];have hb03:=hb2.trans (hb3.mono hb2.size);clear c0 c1 c2 c3 c4 hbw hlt hb2 hb3;obtain⟨c0,c1,c2,c3,c4,hbw,hlt⟩:=bx5 hb03
        go_wp2_with fail;refine(isStale_any L v k p q t b _ (HV.out.below hbw) HS.out (by omega) (fun e he=>Pp.entE_path (HL.out.ents e he)) (Pp.chg_path HCH.out)).mono ?_
        rintro e w4 ⟨rfl,hb4⟩;rw[HST.out];have hb04:=hb03.trans (hb4.mono hb03.size);clear c0 c1 c2 c3 c4 hbw hlt hb03 hb4;obtain⟨c0,c1,c2,c3,c4,hbw,hlt⟩:=bx5 hb04
        clear hb04;go_wp2;go_ret2;exact⟨_,by rw[HE.out];rfl,by rw[HR.out];exact lies_nil _,hbw⟩
       |false=>
        have hE:=Pp.app_chd hver hchg hplc hst;have HE:=hid hE;have HR:=hid (show Pp.appR L ⟨k,p,q,t,b⟩ n=Pp.ifz (Pp.chdE L ⟨k,p,q,t,b⟩ n) (Pp.chdR L ⟨k,p,q,t,b⟩ n)from by rw[Pp.appR,hE]);have HST:=hid hst;clear hE hst hplc hchg hver;go_enter Tryz.func188,Tryz.ntmps188
        go_wp2_with fail;refine(checkVersion_any n _).mono ?_
        rintro e w1 ⟨rfl,rfl⟩;rw[HVE.out];go_wp2_with fail;refine(checkChange_any k p q t b _ (by omega) (by omega) (by omega)).mono ?_
        rintro e w2 ⟨rfl,hb2⟩;rw[HCH.out];obtain⟨c0,c1,c2,c3,c4,hbw,hlt⟩:=bx5 hb2
        go_wp2_with fail;refine(checkPlace_any L v k p q t b _ (HV.out.below hbw) (fun e he=>(HS.out e he).1) (by omega) (by omega) HCH.out).mono ?_
        rintro e w3 ⟨rfl,hb3⟩;rw[HPL.out];have hb03:=hb2.trans (hb3.mono hb2.size);clear c0 c1 c2 c3 c4 hbw hlt hb2 hb3;obtain⟨c0,c1,c2,c3,c4,hbw,hlt⟩:=bx5 hb03
        go_wp2_with fail;refine(isStale_any L v k p q t b _ (HV.out.below hbw) HS.out (by omega) (fun e he=>Pp.entE_path (HL.out.ents e he)) (Pp.chg_path HCH.out)).mono ?_
        rintro e w4 ⟨rfl,hb4⟩;rw[HST.out];have hb04:=hb03.trans (hb4.mono hb03.size);clear c0 c1 c2 c3 c4 hbw hlt hb03 hb4;obtain⟨c0,c1,c2,c3,c4,hbw,hlt⟩:=bx5 hb04
        go_wp2_with fail;refine(changed_any L v k p q t b n _ (HV.out.below hbw) HS.out hp hq HL.out HCH.out HPL.out).mono ?_
        rintro e w5 ⟨u,rfl,hli,hb5⟩;have HLI:=hid hli;have hb05:=hbw.trans (hb5.mono (Nat.le_of_lt hlt));clear c0 c1 c2 c3 c4 hbw hlt hb04 hb5 hli;go_wp2;go_ret2;exact⟨_,by rw[HE.out];rfl,by rw[HR.out];exact HLI.out,hb05⟩
     · have hE:=Pp.app_plc hver hchg hplc
       have HR:=hid (Pp.appR_no hE hplc);have HE:=hid hE;have hz:(Pp.plcE L ⟨k,p,q,t,b⟩==0)=false:=by simpa using hplc
       clear hE hchg hver;go_enter Tryz.func188,Tryz.ntmps188
       go_wp2_with fail;refine(checkVersion_any n _).mono ?_
       rintro e w1 ⟨rfl,rfl⟩;rw[HVE.out];go_wp2_with fail;refine(checkChange_any k p q t b _ (by omega) (by omega) (by omega)).mono ?_
       rintro e w2 ⟨rfl,hb2⟩;rw[HCH.out];obtain⟨c0,c1,c2,c3,c4,hbw,hlt⟩:=bx5 hb2
       go_wp2_with fail;refine(checkPlace_any L v k p q t b _ (HV.out.below hbw) (fun e he=>(HS.out e he).1) (by omega) (by omega) HCH.out).mono ?_
       rintro e w3 ⟨rfl,hb3⟩;have hb03:=hb2.trans (hb3.mono hb2.size);clear c0 c1 c2 c3 c4 hbw hlt hb2 hb3;obtain⟨c0,c1,c2,c3,c4,hbw,hlt⟩:=bx5 hb03
       clear hb03;go_wp2;go_ret2;exact⟨_,by rw[HE.out];rfl,by rw[HR.out];exact lies_nil _,hbw⟩
   · have hE:=Pp.app_chg (L:=L) hver hchg
     have HR:=hid (Pp.appR_no hE hchg);have HE:=hid hE;have hz:(Pp.chgE ⟨k,p,q,t,b⟩==0)=false:=by simpa using hchg
     clear hE hver;go_enter Tryz.func188,Tryz.ntmps188
     go_wp2_with fail;refine(checkVersion_any n _).mono ?_
     rintro e w1 ⟨rfl,rfl⟩;rw[HVE.out];go_wp2_with fail;refine(checkChange_any k p q t b _ (by omega) (by omega) (by omega)).mono ?_
     rintro e w2 ⟨rfl,hb2⟩;obtain⟨c0,c1,c2,c3,c4,hbw,hlt⟩:=bx5 hb2
     clear hb2;go_wp2;go_ret2;exact⟨_,by rw[HE.out];rfl,by rw[HR.out];exact lies_nil _,hbw⟩
 · have hE:=Pp.app_ver (L:=L) (c:=⟨k,p,q,t,b⟩) hver
   have HR:=hid (Pp.appR_no hE hver);have HE:=hid hE;have hz:(Pp.verE n==0)=false:=by simpa using hver
   clear hE;go_enter Tryz.func188,Tryz.ntmps188
   go_wp2_with fail;refine(checkVersion_any n _).mono ?_
   rintro e w1 ⟨rfl,rfl⟩;go_wp2;go_ret2;exact⟨_,by rw[HE.out];rfl,by rw[HR.out];exact lies_nil _,(Below.refl _ _).alloc (Nat.le_refl _) _⟩
namespace Pp
end Pp
end Go.Proofs.YtppdfeehhnofaaaGreatDoor
namespace Go.Proofs.YtppdfeehhnofaaaGreatDoor.Pp

theorem good_sized {R:List En} (hR:Good R):Sized R:=fun e he=>by
 have h1:=chk_len (entE_path (hR.ents e he));have h2:=hR.ents e he;refine⟨by rw[Lib.size_eq];omega,?_⟩
 rw[entE,if_pos (entE_path h2)]at h2;split at h2
 · cases h2
 · split at h2
   · cases h2
   · omega
end Go.Proofs.YtppdfeehhnofaaaGreatDoor.Pp
namespace Go.Proofs.YtppdfeehhnofaaaGreatDoor
open Go.RowKit

set_option maxRecDepth 100000 in
set_option maxHeartbeats 2000000 in
theorem tall_any (L:List En) (v:Value) (cs:List Pp.Ch) (u:Value) (n:Int) (w:World) (hv:Lies w v L) (hs:Sized L) (hu:LiesC w u cs) (hcs:SizedC 150000000000000 cs):
    Calls Tryz.prog 143 #[v,u,.int .i64 n] w fun e w'=> ∃r,e= .returned (.tuple #[r,.int .i64 (Pp.allN L cs n),.int .i64 (Pp.allE L cs n)])∧Lies w' r (Pp.allR L cs n)∧Below w.heap.size w w':=by
 have HV:=hid hv;have HS:=hid hs;have HCS:=hid hcs;obtain⟨a,cap,rfl,hcap,hcap2,hC⟩:=hu
 have HC:Hid (∀i (h:i<cs.length),∃b o,a=some ⟨b,o,none⟩∧b<w.heap.size∧ChAt w b (o+i*5) cs[i]):=hC;clear hv hs hcs hC;by_cases htr:Pp.treeE L=0
 · have HT:=hid htr
   by_cases h20:20<cs.length
   · obtain⟨hE,hN,hR⟩:=Pp.all_many htr h20 n
     rw[hE,hN,hR];clear hE hN hR htr;have h20':20<(cs.length:Int):=by omega
     go_enter Tryz.func143,Tryz.ntmps143
     go_wp2_with fail;refine(tcheck_all L v _ HV.out HS.out).mono ?_
     rintro e w1 ⟨rfl,hb1⟩;rw[HT.out];go_wp2_with fail;go_ret3;exact⟨_,rfl,lies_nil _,hb1⟩
   · have h20': ¬20<(cs.length:Int):=by omega
     have hg:=(Pp.good_iff L).1 htr;have HG:=hid hg;have hlen:=hg.len;have HRUN:=hid (show∀k e R,Pp.runF n L cs=(k,e,R)→Pp.allE L cs n=e∧Pp.allN L cs n=k∧Pp.allR L cs n=R from fun k e R h=>Pp.all_run htr h20 h);clear hg htr;go_enter Tryz.func143,Tryz.ntmps143
     go_wp2_with fail;refine(tcheck_all L v _ HV.out HS.out).mono ?_
     rintro e w1 ⟨rfl,hb1⟩;rw[HT.out];go_wp2_with fail;refine(every_any L v _ _ (fun _=>true) _ (HV.out.below hb1) (yes_tells _) (by omega) HS.out).mono ?_
     rintro e w2 ⟨u,rfl,hou,hnu,hb2⟩;rw[show L.filter (fun _=>true)=L by simp]at hou;have HU:Hid (Lies w2 u L):=lies_own hou (by omega);have hb02:=hb1.trans (hb2.mono hb1.size);clear hou hnu hb1 hb2;go_wp2_with fail;go_loopw [10,26] (fun x i wr=> ∃(k:Nat) (S:List En),k≤cs.length∧i= .int .i64 k∧Hid (Lies wr x S)∧Hid (Pp.Good S)∧Hid (Pp.Left n L cs S k)∧Below w.heap.size w wr) (fun _ i _=>cs.length-(intOf i).toNat)
     case atStart=>exact⟨0,L,Nat.zero_le _,rfl,HU,HG,Pp.left_zero n L cs,hb02⟩
     case round=>
      obtain⟨k,S,hk,rfl,HX,HGS,HLF,hbel⟩:=hrel
      clear hb02;by_cases hlt:k<cs.length
      · obtain⟨b,o,rfl,hb,he⟩:=HC.out k hlt
        obtain⟨c0,c1,c2,c3,c4⟩:=he.below hb hbel
        have hsz:=HCS.out cs[k] (List.getElem_mem hlt);have HZ:=hid hsz;have HNX:=hid (show Pp.appE S cs[k] n=0→Pp.Left n L cs (Pp.chdR S cs[k] n) (k+1)from fun h0=>Pp.left_next HLF.out hlt h0);have HST:=hid (show¬Pp.appE S cs[k] n=0→Pp.runF n L cs=(k,Pp.appE S cs[k] n,[])from fun h0=>Pp.left_stop HLF.out hlt h0);have HGN:=hid (show Pp.appE S cs[k] n=0→Pp.Good (Pp.chdR S cs[k] n)from fun h0=>Pp.app_good HGS.out h0);clear he hsz;generalize cs[k]=ck at*;obtain⟨kk,p,q,t,bs⟩:=ck
        simp only at c0 c1 c2 c3 c4;go_wp2_with fail;refine(apply_any S _ kk p q t bs n _ (HX.out.below ((Below.refl _ _).alloc (Nat.le_refl _) _)) (Pp.good_sized HGS.out) HZ.out.1 HZ.out.2.1 HZ.out.2.2 HGS.out).mono ?_
        rintro e w3 ⟨u3,rfl,hli,hb3⟩;obtain⟨d0,d1,d2,d3,d4,hbw,hlt3⟩:=box5 hb3
        have HLI:=hid hli;have hbel3:=below_trans hbel hbw;clear hb3 hli d0 d1 d2 d3 d4 c0 c1 c2 c3 c4 hbel hbw;by_cases h0:Pp.appE S ⟨kk,p,q,t,bs⟩ n=0
        · have HN:=hid (HNX.out h0)
          have HG3:=hid (HGN.out h0);have hR:Pp.appR S ⟨kk,p,q,t,bs⟩ n=Pp.chdR S ⟨kk,p,q,t,bs⟩ n:=by rw[Pp.appR,Pp.ifz_yes h0]
          have HL3:=hid (show Lies w3 u3 (Pp.chdR S ⟨kk,p,q,t,bs⟩ n)from hR▸HLI.out);rw[h0];clear hR h0 HLI HNX HST HGN;go_wp2_with fail;go_roundw
          case rel=>exact⟨k+1,_,by omega,by simp,HL3,HG3,HN,hbel3⟩
          case measure=>simp[intOf];omega
        · obtain⟨hE,hN,hR⟩:=HRUN.out _ _ _ (HST.out h0)
          have hz:(Pp.appE S ⟨kk,p,q,t,bs⟩ n==0)=false:=by simpa using h0
          have HE:=hid hE;have HN:=hid hN;have HR:=hid hR;clear hE hN hR h0 HLI HNX HST HGN;go_wp2_with fail;go_ret3;exact⟨_,by rw[HE.out,HN.out];rfl,by rw[HR.out];exact lies_nil _,hbel3⟩
      · obtain rfl:k=cs.length:=by omega
        obtain⟨hE,hN,hR⟩:=HRUN.out _ _ _ (Pp.left_end HLF.out)
        have HE:=hid hE;have HN:=hid hN;have HR:=hid hR;clear hE hN hR;go_wp2_with fail;go_ret3;exact⟨_,by rw[HE.out,HN.out];rfl,by rw[HR.out];exact HX.out,hbel⟩
 · obtain⟨hE,hN,hR⟩:=Pp.all_no htr cs n
   rw[hE,hN,hR];have hz:(Pp.treeE L==0)=false:=by simpa using htr
   clear hE hN hR;go_enter Tryz.func143,Tryz.ntmps143
   go_wp2_with fail;refine(tcheck_all L v _ HV.out HS.out).mono ?_
   rintro e w1 ⟨rfl,hb1⟩;go_wp2_with fail;go_ret3;exact⟨_,rfl,lies_nil _,hb1⟩
theorem below_tr {w w1 w2:World} (h1:Below w.heap.size w w1) (h2:Below w1.heap.size w1 w2):Below w.heap.size w w2:=h1.trans (h2.mono h1.size)
end Go.Proofs.YtppdfeehhnofaaaGreatDoor
namespace Go.Proofs.YtppdfeehhnofaaaGreatDoor
open Go.RowKit Go.Maps Go.WideMaps

/-- A keeper in memory: what it keeps, the tree, and the numbers by keys. -/
def Kp (w:World) (b mb:Nat) (vb:Value) (fi:Int) (vc:Value) (T:List En) (nn:Nat) (M:DataW Unit):Prop:=
 ∃vt,Cs w b [vb,.int .i64 fi,vc,vt,.map (some mb)]∧Lies w vt T∧w.ownsMap Tryz.prog 9 (plainElem Tryz.prog 3) mb nn M∧b≠mb
theorem Kp.below {w w':World} {b mb:Nat} {vb:Value} {fi:Int} {vc:Value} {T:List En} {nn:Nat} {M:DataW Unit} (h:Kp w b mb vb fi vc T nn M) (hw:Below w.heap.size w w'):Kp w' b mb vb fi vc T nn M:=by
 obtain⟨vt,h1,h2,h3,h4⟩:=h
 exact⟨vt,h1.below hw,h2.below hw,h3.kept (row:=none) ⟨hw.os,hw.tape,hw.output,hw.size,fun k hk _=>hw.block k hk⟩ (by simp),h4⟩
set_option maxRecDepth 100000 in
set_option maxHeartbeats 2000000 in
theorem take_any (c:Co) (u:Value) (b mb nn:Nat) (vb vc:Value) (fi:Int) (T:List En) (M:DataW Unit) (w:World) (hu:LiesC w u c.ch) (hcs:SizedC 150000000000000 c.ch) (hke:c.ke.size≤maxLen) (hnu:(Lit.int .i64 c.nu).wf=true)
    (hk:Kp w b mb vb fi vc T nn M) (hs:Sized T) (hnn:nn<maxLen) (hvb: ∀s,vb≠ .string s) (hvc: ∀s,vc≠ .string s):
    Calls Tryz.prog 112 #[.pointer (some ⟨b,0,none⟩),.agg #[.int .i64 c.nu,.string c.ke,u]] w fun e w'=>e= .returned (.int .i64 (Pp.allE T c.ch c.nu))∧Nb2 w w' b mb∧
     (Pp.allE T c.ch c.nu=0→Kp w' b mb vb fi vc (Pp.allR T c.ch c.nu) (nn+1) (M.put (Jn.key c.ke) (Jn.num c.nu))):=by
 obtain⟨vt,hbx,hvt,hm,hne⟩:=hk
 have HBX:=hid hbx;have HT:=hid hvt;have HU:=hid hu;have HS:=hid hs;have HCS:=hid hcs;have HM:=hid hm;have hbl:=hbx.lt;have hml:=hm.lt
 have hvs: ∀s,Value.string s∉[vb,.int .i64 fi,vc,vt,.map (some mb)]:=by
  obtain⟨_,_,rfl,_⟩:=hvt
  intro s hs;simp only[List.mem_cons,List.not_mem_nil,or_false]at hs;rcases hs with h|h|h|h|h
  · exact hvb s h.symm
  · cases h
  · exact hvc s h.symm
  · cases h
  · cases h
 obtain⟨wz,hwz⟩: ∃wz,wz=w.alloc (.cells #[.int .i64 c.nu,.string c.ke,u] 132):=⟨_,rfl⟩
 have hbz:Below w.heap.size w wz:=by rw[hwz];exact(Below.refl _ _).alloc (Nat.le_refl _) _
 have z0:wz.cell? ⟨w.heap.size,0,none⟩=some (.int .i64 c.nu):=by rw[hwz];simp
 have z1:wz.cell? ⟨w.heap.size,1,none⟩=some (.string c.ke):=by rw[hwz];simp
 have z2:wz.cell? ⟨w.heap.size,2,none⟩=some u:=by rw[hwz];simp
 have hszz:w.heap.size<wz.heap.size:=by rw[hwz];simp
 have z3:wz.cell? ⟨b,3,none⟩=some vt:=(hbz.cell (p:=⟨b,3,none⟩) hbl).trans (hbx.cell 3 rfl);clear hbx hvt hu hs hcs hm;by_cases h0:Pp.allE T c.ch c.nu=0
 · have H0:=hid h0
   go_enter Tryz.func112,Tryz.ntmps112
   go_wp2_with fail;rw[←hwz];clear hwz
   go_region_held3 (fun W=>W.cell? ⟨w.heap.size,0,none⟩=some (.int .i64 c.nu)∧W.cell? ⟨w.heap.size,2,none⟩=some u∧W.cell? ⟨b,3,none⟩=some vt) (go_keep) (first
    |(go_at_call 143;refine(tall_any T vt c.ch u c.nu _ (HT.out.below (below_tr hbz (Below.refl _ _).drew)) HS.out (HU.out.below (below_tr hbz (Below.refl _ _).drew)) HCS.out).mono ?_;rintro e wa ⟨r,rfl,hli,hba⟩;rw[H0.out];have hza:Below wz.heap.size wz wa:=((Below.refl _ _).drew).trans hba;have j0:=(hza.cell (p:=⟨w.heap.size,0,none⟩) hszz).trans z0;have j2:=(hza.cell (p:=⟨w.heap.size,2,none⟩) hszz).trans z2;have j3:=(hza.cell (p:=⟨b,3,none⟩) (Nat.lt_trans hbl hszz)).trans z3))
   have HLI:=hid hli;obtain⟨ra,rcap,rfl,_,_,_⟩:=hli
   have hwa:=below_tr hbz hza;have HBA:=hid (HBX.out.below hwa);have j3f:=HBA.out.fr 3;have HNB:Hid (NoStr wa b):=HBA.out.noStr hvs;obtain⟨wq,hwq⟩: ∃wq,wq=wa.setCell ⟨b,3,none⟩ (.slice ra (Pp.allR T c.ch c.nu).length rcap):=⟨_,rfl⟩
   have HBQ:=hid (show Cs wq b [vb,.int .i64 fi,vc,.slice ra (Pp.allR T c.ch c.nu).length rcap,.map (some mb)]from by rw[hwq];exact HBA.out.set 3 _);have q4:=HBQ.out.cell 4 rfl;have hwl:=hza.size;have q0:wq.cell? ⟨w.heap.size,0,none⟩=some (.int .i64 c.nu):=by rw[hwq,World.cell?_setCell_other (h:=fun e=>by injection e with e1 e2;omega)];exact j0
   have q1:wq.cell? ⟨w.heap.size,1,none⟩=some (.string c.ke):=by rw[hwq,World.cell?_setCell_other (h:=fun e=>by injection e with e1 e2;omega)];exact(hza.cell (p:=⟨w.heap.size,1,none⟩) hszz).trans z1
   have HMQ:=hid (show wq.ownsMap Tryz.prog 9 (plainElem Tryz.prog 3) mb nn M from by rw[hwq];exact(HM.out.kept (row:=none) ⟨hwa.os,hwa.tape,hwa.output,hwa.size,fun k hk _=>hwa.block k hk⟩ (by simp)).setCell (fun e=>hne e.symm) _);obtain⟨w6,hrun6,hown6,hgr6⟩:=HMQ.out.drew.update (string_keyed Tryz.underlying9) Tryz.underlying76 hnn (keyOf_string_mk Tryz.underlying9 hke) (plainElem_int Tryz.underlying3 hnu)
   have HO6:=hid hown6;clear hown6;go_wp2_with fail;have hbq:Nb2 w wq b mb:=by rw[hwq];exact(Nb2.of_below b mb hwa).trans (Nb2.of_left mb (nb_set _ _ _ _))
   have hlq:w.heap.size<wq.heap.size:=by rw[hwq];simp;omega
   have HLQ:=hid (show Lies wq (.slice ra (Pp.allR T c.ch c.nu).length rcap) (Pp.allR T c.ch c.nu)from by rw[hwq];exact HLI.out.nb (nb_set wa b 3 _) HNB.out);rw[←hwq];clear hwq;go_region
   have hb6:Nb2 w w6 b mb:=(hbq.trans (Nb2.of_below b mb (Below.refl _ _).drew)).trans (Nb2.of_right b hgr6);have hK6:Kp w6 b mb vb fi vc (Pp.allR T c.ch c.nu) (nn+1) (M.put (Jn.key c.ke) (Jn.num c.nu)):=⟨_,(HBQ.out.below (Below.refl _ _).drew).nb hgr6 hne,(HLQ.out.below (Below.refl _ _).drew).nb hgr6 (noStr_map HMQ.out.drew),HO6.out,hne⟩
   have HK6:=hid hK6;clear hK6;go_wp2_with fail;go_ret;exact⟨by rw[H0.out];rfl,hb6,fun _=>HK6.out⟩
 · have hz:(Pp.allE T c.ch c.nu==0)=false:=by simpa using h0
   go_enter Tryz.func112,Tryz.ntmps112
   go_wp2_with fail;rw[←hwz];clear hwz
   go_region_held3 (fun W=>W.cell? ⟨w.heap.size,0,none⟩=some (.int .i64 c.nu)∧W.cell? ⟨w.heap.size,2,none⟩=some u∧W.cell? ⟨b,3,none⟩=some vt) (go_keep) (first
    |(go_at_call 143;refine(tall_any T vt c.ch u c.nu _ (HT.out.below (below_tr hbz (Below.refl _ _).drew)) HS.out (HU.out.below (below_tr hbz (Below.refl _ _).drew)) HCS.out).mono ?_;rintro e wa ⟨r,rfl,hli,hba⟩;have hza:Below wz.heap.size wz wa:=((Below.refl _ _).drew).trans hba;have j0:=(hza.cell (p:=⟨w.heap.size,0,none⟩) hszz).trans z0;have j2:=(hza.cell (p:=⟨w.heap.size,2,none⟩) hszz).trans z2;have j3:=(hza.cell (p:=⟨b,3,none⟩) (Nat.lt_trans hbl hszz)).trans z3))
   go_wp2_with fail;go_ret;exact⟨rfl,Nb2.of_below b mb (below_tr hbz hza),fun h=>absurd h h0⟩
end Go.Proofs.YtppdfeehhnofaaaGreatDoor
