/- What tree.changed and apply answer, for every change. -/
import Derived.Test.YtdifomkoegmngaaGreatDoorRKE
import Derived.Test.YtdifomkoegmngaaGreatDoorRKD
import Derived.Test.YtdifomkoegmngaaGreatDoorRKB
import Derived.Test.YtdifomkoegmngaaGreatDoorRKC
import Derived.Laws.OwnMore
set_option linter.unusedSimpArgs false
set_option linter.unusedVariables false
namespace Go.Proofs.YtdifomkoegmngaaGreatDoor
open Go.RowKit

namespace Pp
theorem bytes0 {t:ByteArray} (h:t.data.toList=[]):t=⟨#[]⟩:=bytes_eq h
end Pp

set_option maxHeartbeats 1000000 in
theorem changed_own (L:List En) (v:Value) (k:Int) (p q t:ByteArray) (b n:Int) (w:World) (hv:Lies w v L) (hs:Sized L) (hp:p.size≤150000000000000) (hq:q.size≤150000000000000) (hL:Pp.Good L) (hc:Pp.chgE ⟨k,p,q,t,b⟩=0) (hpl:Pp.plcE L ⟨k,p,q,t,b⟩=0):
    Calls Tryz.prog 126 #[v,.agg #[.int .i64 k,.string p,.string q,.string t,.int .i64 b],.int .i64 n] w fun e w'=> ∃u,e= .returned (.tuple #[u,.int .i64 (Pp.chdE L ⟨k,p,q,t,b⟩ n)])∧LiesF w.heap.size w' u (Pp.ifz (Pp.chdE L ⟨k,p,q,t,b⟩ n) (Pp.chdR L ⟨k,p,q,t,b⟩ n))∧Below w.heap.size w w':=by
 have hrest:=Pp.chg_rest hc;have HV:Hid (Lies w v L):=hv;have HS:Hid (Sized L):=hs;have HL:Hid (Pp.Good L):=hL;rcases Pp.plc_rest hpl (Pp.chg_kind hc)with⟨hk,h⟩|⟨hk,h⟩|⟨hk,⟨x,hx⟩,h1,h2⟩|⟨hk,x,hx⟩
 · have hk:k=1:=hk
   subst hk;have ht:t=⟨#[]⟩:=Pp.bytes0 (hrest.2.1.resolve_left (by simp));subst ht;clear hrest h hpl hc hL hs hv;have HE:=hid (show Pp.chdE L ⟨1,p,q,⟨#[]⟩,b⟩ n=if 60<(Pp.out (made 1 p ⟨#[]⟩ n) L).length+1 then 2 else 0 from rfl);have HR:=hid (show Pp.chdR L ⟨1,p,q,⟨#[]⟩,b⟩ n=Pp.ins (made 1 p ⟨#[]⟩ n) (Pp.out (made 1 p ⟨#[]⟩ n) L)from rfl);go_enter Tryz.func126,Tryz.ntmps126
   go_wp2_with fail;refine(put_own L v (made 1 p ⟨#[]⟩ n) _ (HV.out.below ((Below.refl _ _).alloc (Nat.le_refl _) _)) HL.out.len HS.out (by simp only[made];omega) HL.out.rise).mono ?_
   rintro e w1 (⟨h,rfl,hb1⟩|⟨h,u,rfl,hli,hb1⟩)
   · obtain⟨c0,c1,c2,c3,c4,hbw,hlt⟩:=bx5 hb1
     have HH:=hid h;clear h hb1 c0 c1 c2 c3 c4;go_wp2;go_ret2;refine⟨_,by rw[HE.out,if_pos HH.out];rfl,?_,hbw⟩
     rw[Pp.ifz_no (by rw[HE.out,if_pos HH.out];decide)];exact liesF_nil _ _
   · obtain⟨c0,c1,c2,c3,c4,hbw,hlt⟩:=bx5 hb1
     have HLI:=hid hli;have HH:=hid h;clear h hb1 hli c0 c1 c2 c3 c4;go_wp2;go_ret2;refine⟨_,by rw[HE.out,if_neg HH.out];rfl,?_,hbw⟩
     rw[Pp.ifz_yes (by rw[HE.out,if_neg HH.out]),HR.out];exact HLI.out.mono (by first|exact Nat.le_of_lt hlt|(simp;done)|omega|exact Nat.le_refl _)
 · have hk:k=2:=hk
   subst hk;clear hrest h hpl hc hL hs hv;have HE:=hid (show Pp.chdE L ⟨2,p,q,t,b⟩ n=if 60<(Pp.out (made 2 p t n) L).length+1 then 2 else 0 from rfl);have HR:=hid (show Pp.chdR L ⟨2,p,q,t,b⟩ n=Pp.ins (made 2 p t n) (Pp.out (made 2 p t n) L)from rfl);go_enter Tryz.func126,Tryz.ntmps126
   go_wp2_with fail;refine(put_own L v (made 2 p t n) _ (HV.out.below ((Below.refl _ _).alloc (Nat.le_refl _) _)) HL.out.len HS.out (by simp only[made];omega) HL.out.rise).mono ?_
   rintro e w1 (⟨h,rfl,hb1⟩|⟨h,u,rfl,hli,hb1⟩)
   · obtain⟨c0,c1,c2,c3,c4,hbw,hlt⟩:=bx5 hb1
     have HH:=hid h;clear h hb1 c0 c1 c2 c3 c4;go_wp2;go_ret2;refine⟨_,by rw[HE.out,if_pos HH.out];rfl,?_,hbw⟩
     rw[Pp.ifz_no (by rw[HE.out,if_pos HH.out];decide)];exact liesF_nil _ _
   · obtain⟨c0,c1,c2,c3,c4,hbw,hlt⟩:=bx5 hb1
     have HLI:=hid hli;have HH:=hid h;clear h hb1 hli c0 c1 c2 c3 c4;go_wp2;go_ret2;refine⟨_,by rw[HE.out,if_neg HH.out];rfl,?_,hbw⟩
     rw[Pp.ifz_yes (by rw[HE.out,if_neg HH.out]),HR.out];exact HLI.out.mono (by first|exact Nat.le_of_lt hlt|(simp;done)|omega|exact Nat.le_refl _)
 · have hk:k=3:=hk
   subst hk;have HE:=hid (show Pp.chdE L ⟨3,p,q,t,b⟩ n=if(Pp.goL L ⟨3,p,q,t,b⟩).any (fun e=>Pp.big (Pp.mvP ⟨3,p,q,t,b⟩ e))=true then 2 else 0 from rfl);have HR:=hid (show Pp.chdR L ⟨3,p,q,t,b⟩ n=Pp.insAll (Pp.mvL L ⟨3,p,q,t,b⟩ n) (Pp.keptL L ⟨3,p,q,t,b⟩)from rfl);have HC:=hid hc;have HX:=hid hx;have H2:=hid h2;clear hrest hpl hc hL hs hv hx h1 h2;go_enter Tryz.func126,Tryz.ntmps126
   go_wp2_with fail;refine(move_own L v p q t b n _ (HV.out.below ((Below.refl _ _).alloc (Nat.le_refl _) _)) HS.out hp hq HL.out HC.out H2.out x HX.out).mono ?_
   rintro e w1 (⟨h,rfl,hb1⟩|⟨h,u,rfl,hli,hb1⟩)
   · obtain⟨c0,c1,c2,c3,c4,hbw,hlt⟩:=bx5 hb1
     have HH:=hid h;clear h hb1 c0 c1 c2 c3 c4;go_wp2;go_ret2;refine⟨_,by rw[HE.out,if_pos HH.out];rfl,?_,hbw⟩
     rw[Pp.ifz_no (by rw[HE.out,if_pos HH.out];decide)];exact liesF_nil _ _
   · obtain⟨c0,c1,c2,c3,c4,hbw,hlt⟩:=bx5 hb1
     have HLI:=hid hli;have HH:=hid h;clear h hb1 hli c0 c1 c2 c3 c4;go_wp2;go_ret2;refine⟨_,by rw[HE.out,if_neg (by rw[HH.out];decide)];rfl,?_,hbw⟩
     rw[Pp.ifz_yes (by rw[HE.out,if_neg (by rw[HH.out];decide)]),HR.out];exact HLI.out.mono (by first|exact Nat.le_of_lt hlt|(simp;done)|omega|exact Nat.le_refl _)
 · have hk:k=4:=hk
   subst hk;have hcp:=Pp.chg_path hc;have HK:=hid (show L.filter (fun e=> !Pp.inB p.data.toList e)=Pp.keptL L ⟨4,p,q,t,b⟩from Pp.filter_eq fun e he=>by rw[Pp.inB_wi (Pp.entE_path (hL.ents e he)) hcp]);have HKL:=hid (show(Pp.keptL L ⟨4,p,q,t,b⟩).length≤L.length from List.length_filter_le _ _);clear hrest hpl hc hL hs hv hx hcp;go_enter Tryz.func126,Tryz.ntmps126
   go_wp2_with fail;refine(twithin_any p _ (by omega)).mono ?_
   rintro e w1 ⟨rfl,ht1,hb1⟩;obtain⟨c0,c1,c2,c3,c4,hbw,hlt⟩:=bx5 hb1
   have HT1:=hid (show Tells w1 160 #[.pointer (some ⟨w.heap.size+1,0,none⟩)] (Pp.inB p.data.toList)from by simpa using ht1);clear ht1;go_wp2_with fail;refine(not_any _ _ (Pp.inB p.data.toList) _ HT1.out).mono ?_
   rintro e w2 ⟨rfl,ht2,hb2⟩;have HT2:=hid ht2;have hb02:=hb1.trans (hb2.mono hb1.size);clear ht2 c0 c1 c2 c3 c4 hbw hlt hb1 hb2;obtain⟨c0,c1,c2,c3,c4,hbw,hlt⟩:=bx5 hb02
   go_wp2_with fail;refine(every_any L v _ _ (fun e=> !Pp.inB p.data.toList e) _ (HV.out.below hbw) HT2.out (Nat.le_trans HL.out.len (by decide)) HS.out).mono ?_
   rintro e w3 ⟨u1,rfl,ho1,hn1,hb3⟩;rw[HK.out]at ho1;have HLI:=hid (lies_ownF ho1 (by have:=HKL.out;have:=HL.out.len;omega));have hltF:=hlt;have hb03:=hbw.trans (hb3.mono (Nat.le_of_lt hlt));clear c0 c1 c2 c3 c4 hbw hlt hb02 hb3 ho1 hn1;go_wp2;go_ret2;exact⟨_,rfl,HLI.out.mono (Nat.le_of_lt hltF),hb03⟩
namespace Pp
def appR (L:List En) (c:Ch) (n:Int):List En:=ifz (appE L c n) (chdR L c n)
theorem app_ver {L:List En} {c:Ch} {n:Int} (h: ¬verE n=0):appE L c n=verE n:=by rw[appE,if_pos h]
theorem app_chg {L:List En} {c:Ch} {n:Int} (h:verE n=0) (h1: ¬chgE c=0):appE L c n=chgE c:=by rw[appE,if_neg (fun x=>x h),if_pos h1]
theorem app_plc {L:List En} {c:Ch} {n:Int} (h:verE n=0) (h1:chgE c=0) (h2: ¬plcE L c=0):appE L c n=plcE L c:=by rw[appE,if_neg (fun x=>x h),if_neg (fun x=>x h1),if_pos h2]
theorem app_stl {L:List En} {c:Ch} {n:Int} (h:verE n=0) (h1:chgE c=0) (h2:plcE L c=0) (h3:stl L c=true):appE L c n=8:=by rw[appE,if_neg (fun x=>x h),if_neg (fun x=>x h1),if_neg (fun x=>x h2),if_pos h3]
theorem app_chd {L:List En} {c:Ch} {n:Int} (h:verE n=0) (h1:chgE c=0) (h2:plcE L c=0) (h3:stl L c=false):appE L c n=chdE L c n:=by rw[appE,if_neg (fun x=>x h),if_neg (fun x=>x h1),if_neg (fun x=>x h2),if_neg (by rw[h3];decide)]
theorem appR_no {L:List En} {c:Ch} {n:Int} {e:Int} (h:appE L c n=e) (he: ¬e=0):appR L c n=[]:=by rw[appR,h,ifz_no he]
end Pp

set_option maxHeartbeats 1000000 in
theorem apply_own (L:List En) (v:Value) (k:Int) (p q t:ByteArray) (b n:Int) (w:World) (hv:Lies w v L) (hs:Sized L) (hp:p.size≤150000000000000) (hq:q.size≤150000000000000) (ht:t.size≤150000000000000) (hL:Pp.Good L):
    Calls Tryz.prog 109 #[v,.agg #[.int .i64 k,.string p,.string q,.string t,.int .i64 b],.int .i64 n] w fun e w'=> ∃u,e= .returned (.tuple #[u,.int .i64 (Pp.appE L ⟨k,p,q,t,b⟩ n)])∧LiesF w.heap.size w' u (Pp.appR L ⟨k,p,q,t,b⟩ n)∧Below w.heap.size w w':=by
 have HV:Hid (Lies w v L):=hv;have HS:Hid (Sized L):=hs;have HL:Hid (Pp.Good L):=hL;clear hv hs hL;by_cases hver:Pp.verE n=0
 · have HVE:=hid hver
   by_cases hchg:Pp.chgE ⟨k,p,q,t,b⟩=0
   · have HCH:=hid hchg
     by_cases hplc:Pp.plcE L ⟨k,p,q,t,b⟩=0
     · have HPL:=hid hplc
       cases hst:Pp.stl L ⟨k,p,q,t,b⟩with
       |true=>
        have hE:=Pp.app_stl hver hchg hplc hst;have HR:=hid (Pp.appR_no hE (by decide));have HE:=hid hE;have HST:=hid hst;clear hE hst hplc hchg hver;go_enter Tryz.func109,Tryz.ntmps109
        go_wp2_with fail;refine(checkVersion_any n _).mono ?_
        rintro e w1 ⟨rfl,rfl⟩;rw[HVE.out];go_wp2_with fail;refine(checkChange_any k p q t b _ (by omega) (by omega) (by omega)).mono ?_
        rintro e w2 ⟨rfl,hb2⟩;rw[HCH.out];obtain⟨c0,c1,c2,c3,c4,hbw,hlt⟩:=bx5 hb2
        go_wp2_with fail;refine(checkPlace_any L v k p q t b _ (HV.out.below hbw) (fun e he=>(HS.out e he).1) (by omega) (by omega) HCH.out).mono ?_
        rintro e w3 ⟨rfl,hb3⟩;rw[HPL.out];have hb03:=hb2.trans (hb3.mono hb2.size);clear c0 c1 c2 c3 c4 hbw hlt hb2 hb3;obtain⟨c0,c1,c2,c3,c4,hbw,hlt⟩:=bx5 hb03
        go_wp2_with fail;refine(isStale_any L v k p q t b _ (HV.out.below hbw) HS.out (by omega) (fun e he=>Pp.entE_path (HL.out.ents e he)) (Pp.chg_path HCH.out)).mono ?_
        rintro e w4 ⟨rfl,hb4⟩;rw[HST.out];have hb04:=hb03.trans (hb4.mono hb03.size);clear c0 c1 c2 c3 c4 hbw hlt hb03 hb4;obtain⟨c0,c1,c2,c3,c4,hbw,hlt⟩:=bx5 hb04
        clear hb04;go_wp2;go_ret2;exact⟨_,by rw[HE.out];rfl,by rw[HR.out];exact liesF_nil _ _,hbw⟩
       |false=>
        have hE:=Pp.app_chd hver hchg hplc hst;have HE:=hid hE;have HR:=hid (show Pp.appR L ⟨k,p,q,t,b⟩ n=Pp.ifz (Pp.chdE L ⟨k,p,q,t,b⟩ n) (Pp.chdR L ⟨k,p,q,t,b⟩ n)from by rw[Pp.appR,hE]);have HST:=hid hst;clear hE hst hplc hchg hver;go_enter Tryz.func109,Tryz.ntmps109
        go_wp2_with fail;refine(checkVersion_any n _).mono ?_
        rintro e w1 ⟨rfl,rfl⟩;rw[HVE.out];go_wp2_with fail;refine(checkChange_any k p q t b _ (by omega) (by omega) (by omega)).mono ?_
        rintro e w2 ⟨rfl,hb2⟩;rw[HCH.out];obtain⟨c0,c1,c2,c3,c4,hbw,hlt⟩:=bx5 hb2
        go_wp2_with fail;refine(checkPlace_any L v k p q t b _ (HV.out.below hbw) (fun e he=>(HS.out e he).1) (by omega) (by omega) HCH.out).mono ?_
        rintro e w3 ⟨rfl,hb3⟩;rw[HPL.out];have hb03:=hb2.trans (hb3.mono hb2.size);clear c0 c1 c2 c3 c4 hbw hlt hb2 hb3;obtain⟨c0,c1,c2,c3,c4,hbw,hlt⟩:=bx5 hb03
        go_wp2_with fail;refine(isStale_any L v k p q t b _ (HV.out.below hbw) HS.out (by omega) (fun e he=>Pp.entE_path (HL.out.ents e he)) (Pp.chg_path HCH.out)).mono ?_
        rintro e w4 ⟨rfl,hb4⟩;rw[HST.out];have hb04:=hb03.trans (hb4.mono hb03.size);clear c0 c1 c2 c3 c4 hbw hlt hb03 hb4;obtain⟨c0,c1,c2,c3,c4,hbw,hlt⟩:=bx5 hb04
        go_wp2_with fail;refine(changed_own L v k p q t b n _ (HV.out.below hbw) HS.out hp hq HL.out HCH.out HPL.out).mono ?_
        rintro e w5 ⟨u,rfl,hli,hb5⟩;have HLI:=hid (hli.mono (Nat.le_of_lt hlt));have hb05:=hbw.trans (hb5.mono (Nat.le_of_lt hlt));clear c0 c1 c2 c3 c4 hbw hlt hb04 hb5 hli;go_wp2;go_ret2;exact⟨_,by rw[HE.out];rfl,by rw[HR.out];exact HLI.out.mono (by first|exact Nat.le_of_lt hlt|(simp;done)|omega|exact Nat.le_refl _),hb05⟩
     · have hE:=Pp.app_plc hver hchg hplc
       have HR:=hid (Pp.appR_no hE hplc);have HE:=hid hE;have hz:(Pp.plcE L ⟨k,p,q,t,b⟩==0)=false:=by simpa using hplc
       clear hE hchg hver;go_enter Tryz.func109,Tryz.ntmps109
       go_wp2_with fail;refine(checkVersion_any n _).mono ?_
       rintro e w1 ⟨rfl,rfl⟩;rw[HVE.out];go_wp2_with fail;refine(checkChange_any k p q t b _ (by omega) (by omega) (by omega)).mono ?_
       rintro e w2 ⟨rfl,hb2⟩;rw[HCH.out];obtain⟨c0,c1,c2,c3,c4,hbw,hlt⟩:=bx5 hb2
       go_wp2_with fail;refine(checkPlace_any L v k p q t b _ (HV.out.below hbw) (fun e he=>(HS.out e he).1) (by omega) (by omega) HCH.out).mono ?_
       rintro e w3 ⟨rfl,hb3⟩;have hb03:=hb2.trans (hb3.mono hb2.size);clear c0 c1 c2 c3 c4 hbw hlt hb2 hb3;obtain⟨c0,c1,c2,c3,c4,hbw,hlt⟩:=bx5 hb03
       clear hb03;go_wp2;go_ret2;exact⟨_,by rw[HE.out];rfl,by rw[HR.out];exact liesF_nil _ _,hbw⟩
   · have hE:=Pp.app_chg (L:=L) hver hchg
     have HR:=hid (Pp.appR_no hE hchg);have HE:=hid hE;have hz:(Pp.chgE ⟨k,p,q,t,b⟩==0)=false:=by simpa using hchg
     clear hE hver;go_enter Tryz.func109,Tryz.ntmps109
     go_wp2_with fail;refine(checkVersion_any n _).mono ?_
     rintro e w1 ⟨rfl,rfl⟩;rw[HVE.out];go_wp2_with fail;refine(checkChange_any k p q t b _ (by omega) (by omega) (by omega)).mono ?_
     rintro e w2 ⟨rfl,hb2⟩;obtain⟨c0,c1,c2,c3,c4,hbw,hlt⟩:=bx5 hb2
     clear hb2;go_wp2;go_ret2;exact⟨_,by rw[HE.out];rfl,by rw[HR.out];exact liesF_nil _ _,hbw⟩
 · have hE:=Pp.app_ver (L:=L) (c:=⟨k,p,q,t,b⟩) hver
   have HR:=hid (Pp.appR_no hE hver);have HE:=hid hE;have hz:(Pp.verE n==0)=false:=by simpa using hver
   clear hE;go_enter Tryz.func109,Tryz.ntmps109
   go_wp2_with fail;refine(checkVersion_any n _).mono ?_
   rintro e w1 ⟨rfl,rfl⟩;go_wp2;go_ret2;exact⟨_,by rw[HE.out];rfl,by rw[HR.out];exact liesF_nil _ _,(Below.refl _ _).alloc (Nat.le_refl _) _⟩
theorem apply_any (L:List En) (v:Value) (k:Int) (p q t:ByteArray) (b n:Int) (w:World) (hv:Lies w v L) (hs:Sized L) (hp:p.size≤150000000000000) (hq:q.size≤150000000000000) (ht:t.size≤150000000000000) (hL:Pp.Good L):
    Calls Tryz.prog 109 #[v,.agg #[.int .i64 k,.string p,.string q,.string t,.int .i64 b],.int .i64 n] w fun e w'=> ∃u,e= .returned (.tuple #[u,.int .i64 (Pp.appE L ⟨k,p,q,t,b⟩ n)])∧Lies w' u (Pp.appR L ⟨k,p,q,t,b⟩ n)∧Below w.heap.size w w':=
 (apply_own L v k p q t b n w hv hs hp hq ht hL).mono fun _ _ ⟨u,h1,h2,h3⟩=>⟨u,h1,h2.1,h3⟩
namespace Pp
end Pp
end Go.Proofs.YtdifomkoegmngaaGreatDoor
namespace Go.Proofs.YtdifomkoegmngaaGreatDoor.Pp

theorem good_sized {R:List En} (hR:Good R):Sized R:=fun e he=>by
 have h1:=chk_len (entE_path (hR.ents e he));have h2:=hR.ents e he;refine⟨by rw[Lib.size_eq];omega,?_⟩
 rw[entE,if_pos (entE_path h2)]at h2;split at h2
 · cases h2
 · split at h2
   · cases h2
   · omega
end Go.Proofs.YtdifomkoegmngaaGreatDoor.Pp
namespace Go.Proofs.YtdifomkoegmngaaGreatDoor
open Go.RowKit

set_option maxRecDepth 100000 in
set_option maxHeartbeats 2000000 in
theorem tall_any (L:List En) (v:Value) (cs:List Pp.Ch) (u:Value) (n:Int) (w:World) (hv:Lies w v L) (hs:Sized L) (hu:LiesC w u cs) (hcs:SizedC 150000000000000 cs):
    Calls Tryz.prog 88 #[v,u,.int .i64 n] w fun e w'=> ∃r,e= .returned (.tuple #[r,.int .i64 (Pp.allN L cs n),.int .i64 (Pp.allE L cs n)])∧Lies w' r (Pp.allR L cs n)∧Below w.heap.size w w':=by
 have HV:=hid hv;have HS:=hid hs;have HCS:=hid hcs;obtain⟨a,cap,rfl,hcap,hcap2,hC⟩:=hu
 have HC:Hid (∀i (h:i<cs.length),∃b o,a=some ⟨b,o,none⟩∧b<w.heap.size∧ChAt w b (o+i*5) cs[i]):=hC;clear hv hs hcs hC;by_cases htr:Pp.treeE L=0
 · have HT:=hid htr
   by_cases h20:20<cs.length
   · obtain⟨hE,hN,hR⟩:=Pp.all_many htr h20 n
     rw[hE,hN,hR];clear hE hN hR htr;have h20':20<(cs.length:Int):=by omega
     go_enter Tryz.func88,Tryz.ntmps88
     go_wp2_with fail;refine(tcheck_all L v _ HV.out HS.out).mono ?_
     rintro e w1 ⟨rfl,hb1⟩;rw[HT.out];go_wp2_with fail;go_ret3;exact⟨_,rfl,lies_nil _,hb1⟩
   · have h20': ¬20<(cs.length:Int):=by omega
     have hg:=(Pp.good_iff L).1 htr;have HG:=hid hg;have hlen:=hg.len;have HRUN:=hid (show∀k e R,Pp.runF n L cs=(k,e,R)→Pp.allE L cs n=e∧Pp.allN L cs n=k∧Pp.allR L cs n=R from fun k e R h=>Pp.all_run htr h20 h);clear hg htr;go_enter Tryz.func88,Tryz.ntmps88
     go_wp2_with fail;refine(tcheck_all L v _ HV.out HS.out).mono ?_
     rintro e w1 ⟨rfl,hb1⟩;rw[HT.out];go_wp2_with fail;refine(every_any L v _ _ (fun _=>true) _ (HV.out.below hb1) (yes_tells _) (by omega) HS.out).mono ?_
     rintro e w2 ⟨u,rfl,hou,hnu,hb2⟩;rw[show L.filter (fun _=>true)=L by simp]at hou;have HU:Hid (Lies w2 u L):=lies_own hou (by omega);have hb02:=hb1.trans (hb2.mono hb1.size);clear hou hnu hb1 hb2;go_wp2_with fail;go_loopw [10,26] (fun x i wr=> ∃(k:Nat) (S:List En),k≤cs.length∧i= .int .i64 k∧Hid (Lies wr x S)∧Hid (Pp.Good S)∧Hid (Pp.Left n L cs S k)∧Below w.heap.size w wr) (fun _ i _=>cs.length-(intOf i).toNat)
     case atStart=>exact⟨0,L,Nat.zero_le _,rfl,HU,HG,Pp.left_zero n L cs,hb02⟩
     case round=>
      obtain⟨k,S,hk,rfl,HX,HGS,HLF,hbel⟩:=hrel
      clear hb02;by_cases hlt:k<cs.length
      · obtain⟨b,o,rfl,hb,he⟩:=HC.out k hlt
        obtain⟨c0,c1,c2,c3,c4⟩:=he.below hb hbel
        have hsz:=HCS.out cs[k] (List.getElem_mem hlt);have HZ:=hid hsz;have HNX:=hid (show Pp.appE S cs[k] n=0→Pp.Left n L cs (Pp.chdR S cs[k] n) (k+1)from fun h0=>Pp.left_next HLF.out hlt h0);have HST:=hid (show¬Pp.appE S cs[k] n=0→Pp.runF n L cs=(k,Pp.appE S cs[k] n,[])from fun h0=>Pp.left_stop HLF.out hlt h0);have HGN:=hid (show Pp.appE S cs[k] n=0→Pp.Good (Pp.chdR S cs[k] n)from fun h0=>Pp.app_good HGS.out h0);clear he hsz;generalize cs[k]=ck at*;obtain⟨kk,p,q,t,bs⟩:=ck
        simp only at c0 c1 c2 c3 c4;go_wp2_with fail;refine(apply_any S _ kk p q t bs n _ (HX.out.below ((Below.refl _ _).alloc (Nat.le_refl _) _)) (Pp.good_sized HGS.out) HZ.out.1 HZ.out.2.1 HZ.out.2.2 HGS.out).mono ?_
        rintro e w3 ⟨u3,rfl,hli,hb3⟩;obtain⟨d0,d1,d2,d3,d4,hbw,hlt3⟩:=box5 hb3
        have HLI:=hid hli;have hbel3:=below_trans hbel hbw;clear hb3 hli d0 d1 d2 d3 d4 c0 c1 c2 c3 c4 hbel hbw;by_cases h0:Pp.appE S ⟨kk,p,q,t,bs⟩ n=0
        · have HN:=hid (HNX.out h0)
          have HG3:=hid (HGN.out h0);have hR:Pp.appR S ⟨kk,p,q,t,bs⟩ n=Pp.chdR S ⟨kk,p,q,t,bs⟩ n:=by rw[Pp.appR,Pp.ifz_yes h0]
          have HL3:=hid (show Lies w3 u3 (Pp.chdR S ⟨kk,p,q,t,bs⟩ n)from hR▸HLI.out);rw[h0];clear hR h0 HLI HNX HST HGN;go_wp2_with fail;go_roundw
          case rel=>exact⟨k+1,_,by omega,by simp,HL3,HG3,HN,hbel3⟩
          case measure=>simp[intOf];omega
        · obtain⟨hE,hN,hR⟩:=HRUN.out _ _ _ (HST.out h0)
          have hz:(Pp.appE S ⟨kk,p,q,t,bs⟩ n==0)=false:=by simpa using h0
          have HE:=hid hE;have HN:=hid hN;have HR:=hid hR;clear hE hN hR h0 HLI HNX HST HGN;go_wp2_with fail;go_ret3;exact⟨_,by rw[HE.out,HN.out];rfl,by rw[HR.out];exact lies_nil _,hbel3⟩
      · obtain rfl:k=cs.length:=by omega
        obtain⟨hE,hN,hR⟩:=HRUN.out _ _ _ (Pp.left_end HLF.out)
        have HE:=hid hE;have HN:=hid hN;have HR:=hid hR;clear hE hN hR;go_wp2_with fail;go_ret3;exact⟨_,by rw[HE.out,HN.out];rfl,by rw[HR.out];exact HX.out,hbel⟩
 · obtain⟨hE,hN,hR⟩:=Pp.all_no htr cs n
   rw[hE,hN,hR];have hz:(Pp.treeE L==0)=false:=by simpa using htr
   clear hE hN hR;go_enter Tryz.func88,Tryz.ntmps88
   go_wp2_with fail;refine(tcheck_all L v _ HV.out HS.out).mono ?_
   rintro e w1 ⟨rfl,hb1⟩;go_wp2_with fail;go_ret3;exact⟨_,rfl,lies_nil _,hb1⟩
theorem below_tr {w w1 w2:World} (h1:Below w.heap.size w w1) (h2:Below w1.heap.size w1 w2):Below w.heap.size w w2:=h1.trans (h2.mono h1.size)
end Go.Proofs.YtdifomkoegmngaaGreatDoor
namespace Go.Proofs.YtdifomkoegmngaaGreatDoor
open Go.RowKit Go.Maps Go.WideMaps

/-- A keeper in memory: what it keeps, the tree, and the numbers by keys. -/
def Kp (w:World) (b mb:Nat) (vb:Value) (fi:Int) (vc:Value) (T:List En) (nn:Nat) (M:DataW Unit):Prop:=
 ∃vt,Cs w b [vb,.int .i64 fi,vc,vt,.map (some mb)]∧Lies w vt T∧w.ownsMap Tryz.prog 9 (plainElem Tryz.prog 3) mb nn M∧b≠mb
theorem Kp.below {w w':World} {b mb:Nat} {vb:Value} {fi:Int} {vc:Value} {T:List En} {nn:Nat} {M:DataW Unit} (h:Kp w b mb vb fi vc T nn M) (hw:Below w.heap.size w w'):Kp w' b mb vb fi vc T nn M:=by
 obtain⟨vt,h1,h2,h3,h4⟩:=h
 exact⟨vt,h1.below hw,h2.below hw,h3.kept (row:=none) ⟨hw.os,hw.tape,hw.output,hw.size,fun k hk _=>hw.block k hk⟩ (by simp),h4⟩
set_option maxRecDepth 100000 in
set_option maxHeartbeats 2000000 in
theorem take_any (c:Co) (u:Value) (b mb nn:Nat) (vb vc:Value) (fi:Int) (T:List En) (M:DataW Unit) (w:World) (hu:LiesC w u c.ch) (hcs:SizedC 150000000000000 c.ch) (hke:c.ke.size≤maxLen) (hnu:(Lit.int .i64 c.nu).wf=true)
    (hk:Kp w b mb vb fi vc T nn M) (hs:Sized T) (hnn:nn<maxLen) (hvb: ∀s,vb≠ .string s) (hvc: ∀s,vc≠ .string s):
    Calls Tryz.prog 53 #[.pointer (some ⟨b,0,none⟩),.agg #[.int .i64 c.nu,.string c.ke,u]] w fun e w'=>e= .returned (.int .i64 (Pp.allE T c.ch c.nu))∧Nb2 w w' b mb∧
     (Pp.allE T c.ch c.nu=0→Kp w' b mb vb fi vc (Pp.allR T c.ch c.nu) (nn+1) (M.put (Jn.key c.ke) (Jn.num c.nu))):=by
 obtain⟨vt,hbx,hvt,hm,hne⟩:=hk
 have HBX:=hid hbx;have HT:=hid hvt;have HU:=hid hu;have HS:=hid hs;have HCS:=hid hcs;have HM:=hid hm;have hbl:=hbx.lt;have hml:=hm.lt
 have hvs: ∀s,Value.string s∉[vb,.int .i64 fi,vc,vt,.map (some mb)]:=by
  obtain⟨_,_,rfl,_⟩:=hvt
  intro s hs;simp only[List.mem_cons,List.not_mem_nil,or_false]at hs;rcases hs with h|h|h|h|h
  · exact hvb s h.symm
  · cases h
  · exact hvc s h.symm
  · cases h
  · cases h
 obtain⟨wz,hwz⟩: ∃wz,wz=w.alloc (.cells #[.int .i64 c.nu,.string c.ke,u] 84):=⟨_,rfl⟩
 have hbz:Below w.heap.size w wz:=by rw[hwz];exact(Below.refl _ _).alloc (Nat.le_refl _) _
 have z0:wz.cell? ⟨w.heap.size,0,none⟩=some (.int .i64 c.nu):=by rw[hwz];simp
 have z1:wz.cell? ⟨w.heap.size,1,none⟩=some (.string c.ke):=by rw[hwz];simp
 have z2:wz.cell? ⟨w.heap.size,2,none⟩=some u:=by rw[hwz];simp
 have hszz:w.heap.size<wz.heap.size:=by rw[hwz];simp
 have z3:wz.cell? ⟨b,3,none⟩=some vt:=(hbz.cell (p:=⟨b,3,none⟩) hbl).trans (hbx.cell 3 rfl);clear hbx hvt hu hs hcs hm;by_cases h0:Pp.allE T c.ch c.nu=0
 · have H0:=hid h0
   go_enter Tryz.func53,Tryz.ntmps53
   go_wp2_with fail;rw[←hwz];clear hwz
   go_region_held3 (fun W=>W.cell? ⟨w.heap.size,0,none⟩=some (.int .i64 c.nu)∧W.cell? ⟨w.heap.size,2,none⟩=some u∧W.cell? ⟨b,3,none⟩=some vt) (go_keep) (first
    |(go_at_call 88;refine(tall_any T vt c.ch u c.nu _ (HT.out.below (below_tr hbz (Below.refl _ _).drew)) HS.out (HU.out.below (below_tr hbz (Below.refl _ _).drew)) HCS.out).mono ?_;rintro e wa ⟨r,rfl,hli,hba⟩;rw[H0.out];have hza:Below wz.heap.size wz wa:=((Below.refl _ _).drew).trans hba;have j0:=(hza.cell (p:=⟨w.heap.size,0,none⟩) hszz).trans z0;have j2:=(hza.cell (p:=⟨w.heap.size,2,none⟩) hszz).trans z2;have j3:=(hza.cell (p:=⟨b,3,none⟩) (Nat.lt_trans hbl hszz)).trans z3))
   have HLI:=hid hli;obtain⟨ra,rcap,rfl,_,_,_⟩:=hli
   have hwa:=below_tr hbz hza;have HBA:=hid (HBX.out.below hwa);have j3f:=HBA.out.fr 3;have HNB:Hid (NoStr wa b):=HBA.out.noStr hvs;obtain⟨wq,hwq⟩: ∃wq,wq=wa.setCell ⟨b,3,none⟩ (.slice ra (Pp.allR T c.ch c.nu).length rcap):=⟨_,rfl⟩
   have HBQ:=hid (show Cs wq b [vb,.int .i64 fi,vc,.slice ra (Pp.allR T c.ch c.nu).length rcap,.map (some mb)]from by rw[hwq];exact HBA.out.set 3 _);have q4:=HBQ.out.cell 4 rfl;have hwl:=hza.size;have q0:wq.cell? ⟨w.heap.size,0,none⟩=some (.int .i64 c.nu):=by rw[hwq,World.cell?_setCell_other (h:=fun e=>by injection e with e1 e2;omega)];exact j0
   have q1:wq.cell? ⟨w.heap.size,1,none⟩=some (.string c.ke):=by rw[hwq,World.cell?_setCell_other (h:=fun e=>by injection e with e1 e2;omega)];exact(hza.cell (p:=⟨w.heap.size,1,none⟩) hszz).trans z1
   have HMQ:=hid (show wq.ownsMap Tryz.prog 9 (plainElem Tryz.prog 3) mb nn M from by rw[hwq];exact(HM.out.kept (row:=none) ⟨hwa.os,hwa.tape,hwa.output,hwa.size,fun k hk _=>hwa.block k hk⟩ (by simp)).setCell (fun e=>hne e.symm) _);obtain⟨w6,hrun6,hown6,hgr6⟩:=HMQ.out.drew.update (string_keyed Tryz.underlying9) Tryz.underlying64 hnn (keyOf_string_mk Tryz.underlying9 hke) (plainElem_int Tryz.underlying3 hnu)
   have HO6:=hid hown6;clear hown6;go_wp2_with fail;have hbq:Nb2 w wq b mb:=by rw[hwq];exact(Nb2.of_below b mb hwa).trans (Nb2.of_left mb (nb_set _ _ _ _))
   have hlq:w.heap.size<wq.heap.size:=by rw[hwq];simp;omega
   have HLQ:=hid (show Lies wq (.slice ra (Pp.allR T c.ch c.nu).length rcap) (Pp.allR T c.ch c.nu)from by rw[hwq];exact HLI.out.nb (nb_set wa b 3 _) HNB.out);rw[←hwq];clear hwq;go_region
   have hb6:Nb2 w w6 b mb:=(hbq.trans (Nb2.of_below b mb (Below.refl _ _).drew)).trans (Nb2.of_right b hgr6);have hK6:Kp w6 b mb vb fi vc (Pp.allR T c.ch c.nu) (nn+1) (M.put (Jn.key c.ke) (Jn.num c.nu)):=⟨_,(HBQ.out.below (Below.refl _ _).drew).nb hgr6 hne,(HLQ.out.below (Below.refl _ _).drew).nb hgr6 (noStr_map HMQ.out.drew),HO6.out,hne⟩
   have HK6:=hid hK6;clear hK6;go_wp2_with fail;go_ret;exact⟨by rw[H0.out];rfl,hb6,fun _=>HK6.out⟩
 · have hz:(Pp.allE T c.ch c.nu==0)=false:=by simpa using h0
   go_enter Tryz.func53,Tryz.ntmps53
   go_wp2_with fail;rw[←hwz];clear hwz
   go_region_held3 (fun W=>W.cell? ⟨w.heap.size,0,none⟩=some (.int .i64 c.nu)∧W.cell? ⟨w.heap.size,2,none⟩=some u∧W.cell? ⟨b,3,none⟩=some vt) (go_keep) (first
    |(go_at_call 88;refine(tall_any T vt c.ch u c.nu _ (HT.out.below (below_tr hbz (Below.refl _ _).drew)) HS.out (HU.out.below (below_tr hbz (Below.refl _ _).drew)) HCS.out).mono ?_;rintro e wa ⟨r,rfl,hli,hba⟩;have hza:Below wz.heap.size wz wa:=((Below.refl _ _).drew).trans hba;have j0:=(hza.cell (p:=⟨w.heap.size,0,none⟩) hszz).trans z0;have j2:=(hza.cell (p:=⟨w.heap.size,2,none⟩) hszz).trans z2;have j3:=(hza.cell (p:=⟨b,3,none⟩) (Nat.lt_trans hbl hszz)).trans z3))
   go_wp2_with fail;go_ret;exact⟨rfl,Nb2.of_below b mb (below_tr hbz hza),fun h=>absurd h h0⟩
/-- A keeper of a journal that passes Check. -/
def Keeps (w:World) (p:Value) (B:Nat) (v:Value) (J:Jo):Prop:= ∃b mb vb vc nn,p= .pointer (some ⟨b,0,none⟩)∧v= .agg #[vb,.int .i64 J.first,vc]∧B≤b∧B≤mb∧Kp w b mb vb J.first vc (Jn.tree J) nn (Jn.D J.cos)∧nn≤30
theorem Keeps.below {w w':World} {p:Value} {B:Nat} {v:Value} {J:Jo} (h:Keeps w p B v J) (hw:Below w.heap.size w w'):Keeps w' p B v J:=by
 obtain⟨b,mb,vb,vc,nn,h1,h2,h3,h4,h6,h7⟩:=h
 exact⟨b,mb,vb,vc,nn,h1,h2,h3,h4,h6.below hw,h7⟩
theorem nostr_slice {a:Option Addr} {n c:Nat} (s:ByteArray):Value.slice a n c≠ .string s:=fun h=>by cases h
namespace Jn
theorem co_zero {c:Co} {n:Int} (h:coE c n=0):c.nu=n∧n≤1000000∧Pp.keyB c.ke.data.toList=true∧0<c.ch.length:=by
 rcases co_cases c n with⟨_,hE⟩|⟨_,_,hE⟩|⟨_,_,_,hE⟩|⟨_,_,_,_,hE⟩|⟨h1,h2,h3,h4,_⟩
 · rw[hE]at h;cases h
 · rw[hE]at h;cases h
 · rw[hE]at h;cases h
 · rw[hE]at h;cases h
 · refine⟨h1,by omega,?_,h4⟩
   cases hb:Pp.keyB c.ke.data.toList with
   |true=>rfl
   |false=>rw[Pp.keyE_no hb]at h3;cases h3
theorem wf_num {n:Int} (h1: -9223372036854775808≤n) (h2:n≤9223372036854775807):(Lit.int .i64 n).wf=true:=by
 have e1:IntKind.i64.min= -9223372036854775808:=by decide
 have e2:IntKind.i64.max=9223372036854775807:=by decide
 simp only[Lit.wf,e1,e2,Bool.and_eq_true,decide_eq_true_eq];exact⟨h1,h2⟩
end Jn

theorem Tryz.makeNumbers (w:World):(Instr.makeMap 64 none).run Tryz.prog w= .ok (.map (some w.heap.size)) (w.alloc (.map #[] 0)):=by
 simp[Instr.makeMap,run_underlying Tryz.underlying64,Result.andThen]
set_option maxRecDepth 100000 in
set_option maxHeartbeats 4000000 in
theorem keep_any (J:Jo) (v:Value) (w:World) (hv:LiesJ w v J) (hs:Sized J.base) (hcs:SizedO 150000000000000 J.cos):
    Calls Tryz.prog 25 #[v] w fun e w'=> ∃p,e= .returned (.tuple #[p,.int .i64 (Jn.chkE J)])∧(Jn.chkE J=0→Keeps w' p w.heap.size v J)∧(¬Jn.chkE J=0→p= .pointer none)∧Below w.heap.size w w':=by
 obtain⟨vb,vc,rfl,hvb,hvc⟩:=hv
 have hmm:=Tryz.makeNumbers;have HVB:=hid hvb;have HVC:=hid hvc;have HS:=hid hs;have HCS:=hid hcs;obtain⟨cb,ccap,rfl,hccap,hccap2,hC⟩:=hvc
 obtain⟨ba,bcap,rfl,hbcap,hbcap2,_⟩:=hvb
 have HC:Hid (∀i (h:i<J.cos.length),∃b o,cb=some ⟨b,o,none⟩∧b<w.heap.size∧CoAt w b (o+i*3) J.cos[i]):=hC;clear hC hs hcs;obtain⟨wz,hwz⟩: ∃wz,wz=((w.alloc (.cells #[.slice ba J.base.length bcap,.int .i64 J.first,.slice cb J.cos.length ccap] 25)).alloc (.map #[] 0)).alloc (.cells #[.slice ba J.base.length bcap,.int .i64 J.first,.slice cb J.cos.length ccap,.slice ba J.base.length bcap,.map (some (w.heap.size+1))] 66):=⟨_,rfl⟩
 have hbz:Below w.heap.size w wz:=by rw[hwz];exact(((Below.refl _ _).alloc (Nat.le_refl _) _).alloc (by simp) _).alloc (by simp;omega) _
 have hsz:w.heap.size+1+1<wz.heap.size:=by rw[hwz];simp
 have HK0:=hid (show Kp wz (w.heap.size+1+1) (w.heap.size+1) (.slice ba J.base.length bcap) J.first (.slice cb J.cos.length ccap) J.base 0 (.map [])from by
  refine⟨.slice ba J.base.length bcap,?_,HVB.out.below hbz,?_,by omega⟩
  · have:=Cs.new ((w.alloc (.cells #[.slice ba J.base.length bcap,.int .i64 J.first,.slice cb J.cos.length ccap] 25)).alloc (.map #[] 0)) [.slice ba J.base.length bcap,.int .i64 J.first,.slice cb J.cos.length ccap,.slice ba J.base.length bcap,.map (some (w.heap.size+1))] 66
    rw[hwz];simpa using this
  · have:=(World.ownsMap_made (w.alloc (.cells #[.slice ba J.base.length bcap,.int .i64 J.first,.slice cb J.cos.length ccap] 25)) Tryz.prog 9 (plainElem (H:=Unit) Tryz.prog 3)).alloc (.cells #[.slice ba J.base.length bcap,.int .i64 J.first,.slice cb J.cos.length ccap,.slice ba J.base.length bcap,.map (some (w.heap.size+1))] 66)
    rw[hwz];simpa using this)
 by_cases ht:Pp.treeE J.base=0
 · have HT:=hid ht
   by_cases hf:Pp.verE J.first=0
   · have hf1:=Jn.ver_iff.1 hf
     by_cases hm:30<J.cos.length
     · have HE:=hid (Jn.chk_many ht hf hm)
       have hm':30<(J.cos.length:Int):=by omega
       obtain⟨f1,f2⟩:=hf1
       clear ht hf;go_enter Tryz.func25,Tryz.ntmps25
       go_wp2_with fail;rw[←hwz];clear hwz;refine(tcheck_all J.base _ _ (HVB.out.below hbz) HS.out).mono ?_
       rintro e w1 ⟨rfl,hb1⟩;rw[HT.out];obtain⟨vt1,HB1,_⟩:=HK0.out.below hb1
       have c1:=HB1.cell 1 rfl;have c2:=HB1.cell 2 rfl;clear HB1;go_wp2_with fail;go_ret2;exact⟨_,by rw[HE.out];rfl,(fun h=>by rw[HE.out]at h;exact absurd h (by decide)),fun _=>rfl,below_tr hbz hb1⟩
     · have hm': ¬30<(J.cos.length:Int):=by omega
       obtain⟨f1,f2⟩:=hf1
       have HG:=hid ((Pp.good_iff J.base).1 ht);have HRUN:=hid (show∀e T,Jn.runJ J.first J.base J.cos=(e,T)→ ¬e=0→Jn.chkE J=e from fun e T h he=>Jn.chk_run ht hf hm h he);have HTW:=hid (show∀T,Jn.runJ J.first J.base J.cos=(0,T)→ ¬Jn.Apart J.cos→Jn.chkE J=6 from fun T h ha=>Jn.chk_twice ht hf hm h ha);have HOK:=hid (show∀T,Jn.runJ J.first J.base J.cos=(0,T)→Jn.Apart J.cos→Jn.chkE J=0∧Jn.tree J=T from fun T h ha=>⟨Jn.chk_ok ht hf hm h ha,Jn.tree_of h⟩);clear ht hf;go_enter Tryz.func25,Tryz.ntmps25
       go_wp2_with fail;rw[←hwz];clear hwz;refine(tcheck_all J.base _ _ (HVB.out.below hbz) HS.out).mono ?_
       rintro e w1 ⟨rfl,hb1⟩;rw[HT.out];have HK1:=hid (HK0.out.below hb1);obtain⟨vt1,HB1,_⟩:=HK1.out
       have c1:=HB1.cell 1 rfl;have c2:=HB1.cell 2 rfl;clear HB1;have hb01:=below_tr hbz hb1;have hsz1:w.heap.size+1+1<w1.heap.size:=Nat.lt_of_lt_of_le hsz hb1.size;clear hb1;go_wp2_with fail;go_loopw [52] (fun i wr=> ∃k:Nat,k≤J.cos.length∧i= .int .i64 k∧Hid (Kp wr (w.heap.size+1+1) (w.heap.size+1) (.slice ba J.base.length bcap) J.first (.slice cb J.cos.length ccap) (Jn.trAt J k) k (Jn.D (J.cos.take k)))∧Hid (Jn.LeftJ J (Jn.trAt J k) k)∧Hid (Pp.Good (Jn.trAt J k))∧Below w.heap.size w wr∧w.heap.size+1+1<wr.heap.size) (fun i _=>J.cos.length-(intOf i).toNat)
       case atStart=>exact⟨0,Nat.zero_le _,rfl,by rw[Jn.trAt_zero,List.take_zero];exact HK1,by rw[Jn.trAt_zero];exact Jn.left_zero J,by rw[Jn.trAt_zero];exact HG,hb01,hsz1⟩
       case round=>
        obtain⟨k,hk,rfl,HK,HL,HGS,hbel,hszr⟩:=hrel
        clear hb01 hsz1 c1 c2;by_cases hlt:k<J.cos.length
        · obtain⟨b,o,rfl,hb,he⟩:=HC.out k hlt
          obtain⟨c0,c1,u,c2,hu⟩:=he.below hb hbel
          have HZ:=hid (HCS.out J.cos[k] (List.getElem_mem hlt));have HBAD:=hid (show¬Jn.coE J.cos[k] (J.first+k)=0→Jn.chkE J=Jn.coE J.cos[k] (J.first+k)from fun h0=>HRUN.out _ _ (Jn.left_bad HL.out hlt h0) h0);have HALL:=hid (show Jn.coE J.cos[k] (J.first+k)=0→ ¬Pp.allE (Jn.trAt J k) J.cos[k].ch J.cos[k].nu=0→Jn.chkE J=Pp.allE (Jn.trAt J k) J.cos[k].ch J.cos[k].nu from fun h0 h1=>HRUN.out _ _ (Jn.left_all HL.out hlt h0 h1) h1);have HNX:=hid (show Jn.coE J.cos[k] (J.first+k)=0→Pp.allE (Jn.trAt J k) J.cos[k].ch J.cos[k].nu=0→Jn.LeftJ J (Jn.trAt J (k+1)) (k+1)from fun h0 h1=>by rw[Jn.trAt_succ hlt];exact Jn.left_next HL.out hlt h0 h1);have HTR:Hid (Jn.trAt J (k+1)=Pp.allR (Jn.trAt J k) J.cos[k].ch J.cos[k].nu):=Jn.trAt_succ hlt;have HD:Hid (Jn.D (J.cos.take (k+1))=(Jn.D (J.cos.take k)).put (Jn.key J.cos[k].ke) (Jn.num J.cos[k].nu)):=Jn.D_take hlt;clear he;generalize J.cos[k]=ck at*;obtain⟨nu,ke,ch⟩:=ck
          simp only at c0 c1 c2 hu;have HKE:=hid (show ke.size≤maxLen from by have:ke.size≤150000000000000:=HZ.out.1;unfold maxLen;omega);have HU:=hid hu;obtain⟨ua,ucap,rfl,_,_,_⟩:=hu
          obtain⟨wy,hwy⟩: ∃wy,wy=wr.alloc (.cells #[.int .i64 nu,.string ke,.slice ua ch.length ucap] 84):=⟨_,rfl⟩
          have hby:Below wr.heap.size wr wy:=by rw[hwy];exact(Below.refl _ _).alloc (Nat.le_refl _) _
          have y0:wy.cell? ⟨wr.heap.size,0,none⟩=some (.int .i64 nu):=by rw[hwy];simp
          have y1:wy.cell? ⟨wr.heap.size,1,none⟩=some (.string ke):=by rw[hwy];simp
          have y2:wy.cell? ⟨wr.heap.size,2,none⟩=some (.slice ua ch.length ucap):=by rw[hwy];simp
          have hszy:wr.heap.size<wy.heap.size:=by rw[hwy];simp
          have HKY:=hid (HK.out.below hby);obtain⟨vt,hB,_⟩:=HKY.out
          have y3:=hB.cell 1 rfl;clear hB;have hwrap:IntKind.i64.wrap (J.first+(k:Int))=J.first+k:=by rw[IntKind.wrap_i64];omega
          go_wp2_with fail;rw[←hwy];clear hwy c0 c1 c2
          go_region_held3 (fun W=>W.cell? ⟨wr.heap.size,0,none⟩=some (.int .i64 nu)∧W.cell? ⟨wr.heap.size,1,none⟩=some (.string ke)∧W.cell? ⟨wr.heap.size,2,none⟩=some (.slice ua ch.length ucap)∧W.cell? ⟨w.heap.size+1+1,1,none⟩=some (.int .i64 J.first)) (go_keep) (first
           |(go_at_call 52;refine(checkCommit_any ⟨nu,ke,ch⟩ _ (J.first+k) _ (HU.out.below (below_tr hby (Below.refl _ _).drew)) HKE.out).mono ?_;rintro e wa ⟨rfl,hba⟩;have hya:Below wy.heap.size wy wa:=((Below.refl _ _).drew).trans hba;have j0:=(hya.cell (p:=⟨wr.heap.size,0,none⟩) hszy).trans y0;have j1:=(hya.cell (p:=⟨wr.heap.size,1,none⟩) hszy).trans y1;have j2:=(hya.cell (p:=⟨wr.heap.size,2,none⟩) hszy).trans y2;have j3:=(hya.cell (p:=⟨w.heap.size+1+1,1,none⟩) (Nat.lt_trans hszr hszy)).trans y3))
          have hbela:=below_tr hbel (below_tr hby hya);have HKA:=hid (HKY.out.below hya);have HUA:=hid (HU.out.below (below_tr hby hya));have hsza:=hya.size;by_cases h0:Jn.coE ⟨nu,ke,ch⟩ (J.first+k)=0
          · obtain⟨n1,n2,_,_⟩:=Jn.co_zero h0
            have hnu:(Lit.int .i64 nu).wf=true:=Jn.wf_num (by simp only at n1;omega) (by simp only at n1;omega);have HNW:=hid hnu;clear n1 n2 hnu;have HA:=hid (HALL.out h0);have HN:=hid (HNX.out h0);have HSZ:=hid (Pp.good_sized HGS.out);have HKM:=hid (show k<maxLen from by unfold maxLen;omega);have HI1:=hid (show w.heap.size≤w.heap.size+1+1 from by omega);have HI2:=hid (show w.heap.size≤w.heap.size+1 from by omega);rw[h0];clear h0 HBAD HALL HNX;go_wp2_with fail;refine(take_any ⟨nu,ke,ch⟩ (.slice ua ch.length ucap) (w.heap.size+1+1) (w.heap.size+1) k (.slice ba J.base.length bcap) (.slice (some ⟨b,o,none⟩) J.cos.length ccap) J.first (Jn.trAt J k) (Jn.D (J.cos.take k)) wa HUA.out HZ.out.2 HKE.out HNW.out HKA.out HSZ.out HKM.out nostr_slice nostr_slice).mono ?_
            rintro e w4 ⟨rfl,hn4,hK4⟩;have hb4:Below w.heap.size wa w4:=hn4.to (by omega) HI1.out HI2.out;clear hn4;have HK4:=hid hK4;have hbel4:=hbela.trans hb4;have hsz4:=hb4.size;clear hK4 hb4;by_cases h1:Pp.allE (Jn.trAt J k) ch nu=0
            · have HK5:=HK4.out h1
              simp only at HK5;rw[←HTR.out,←HD.out]at HK5;have HK6:=hid HK5;have HL6:=hid (HN.out h1);have HG6:=hid (show Pp.Good (Jn.trAt J (k+1))from by rw[HTR.out];exact Jn.all_good h1);rw[h1];clear h1 HK5 HK4 HA HN HTR HD;go_wp2_with fail;go_roundw
              case rel=>exact⟨k+1,by omega,by simp,HK6,HL6,HG6,hbel4,by omega⟩
              case measure=>simp[intOf];omega
            · have HE:=hid (HA.out h1)
              have H1:=hid h1;have hz:(Pp.allE (Jn.trAt J k) ch nu==0)=false:=by simpa using h1
              clear h1 HK4 HA HN HTR HD;go_wp2_with fail;go_ret2;exact⟨_,by rw[HE.out];rfl,fun h=>absurd (HE.out▸h) H1.out,fun _=>rfl,hbel4⟩
          · have HE:=hid (HBAD.out h0)
            have hz:(Jn.coE ⟨nu,ke,ch⟩ (J.first+k)==0)=false:=by simpa using h0
            have H0:=hid h0;clear h0 HBAD HALL HNX HTR HD;go_wp2_with fail;go_ret2;exact⟨_,by rw[HE.out];rfl,fun h=>absurd (HE.out▸h) H0.out,fun _=>rfl,hbela⟩
        · obtain rfl:k=J.cos.length:=by omega
          rw[List.take_length]at HK;have hr:=Jn.left_end HL.out;obtain⟨vt,hB,hLt,hM,hne⟩:=HK.out
          have c2:=hB.cell 2 rfl;have c4:=hB.cell 4 rfl;have hlen:=fun ty=>hM.drew.len Tryz.underlying64 ty
          have hds:=Jn.D_size J.cos;by_cases hap:Jn.Apart J.cos
          · have hsz:(Maps.size (Jn.D J.cos):Int)=J.cos.length:=by rw[hds.2.2 hap]
            obtain⟨hE,hT⟩:=HOK.out _ hr hap
            have HE:=hid hE;have HKK:=hid (show Keeps wr (.pointer (some ⟨w.heap.size+1+1,0,none⟩)) w.heap.size (.agg #[.slice ba J.base.length bcap,.int .i64 J.first,.slice cb J.cos.length ccap]) J from⟨w.heap.size+1+1,w.heap.size+1,_,_,J.cos.length,rfl,rfl,by omega,by omega,by rw[hT];exact HK.out,by omega⟩);clear hE hT hr hB hLt hM hds hap;go_wp2_with fail;go_region
            have HKD:=hid (HKK.out.below (Below.refl _ _).drew);have hbd:=below_tr hbel (Below.refl _ _).drew;go_wp2_with fail;go_ret2;exact⟨_,by rw[HE.out];rfl,fun _=>HKD.out,fun h=>absurd HE.out h,hbd⟩
          · have hsz:(Maps.size (Jn.D J.cos):Int)<J.cos.length:=by
             rcases Nat.lt_or_ge (Maps.size (Jn.D J.cos)) J.cos.length with h|h
             · omega
             · exact absurd (hds.2.1 (by omega)) hap
            have HE:=hid (HTW.out _ hr hap);clear hr hB hLt hM hds hap;have hbd:=below_tr hbel (Below.refl _ _).drew;go_wp2_with fail;go_region
            go_wp2_with fail;go_ret2;exact⟨_,by rw[HE.out];rfl,(fun h=>by rw[HE.out]at h;exact absurd h (by decide)),fun _=>rfl,hbd⟩
   · have HE:=hid (Jn.chk_first ht hf)
     have hf':J.first<1∨1000000<J.first:=by
      rcases Int.lt_or_le J.first 1 with h|h
      · exact Or.inl h
      · rcases Int.lt_or_le 1000000 J.first with h2|h2
        · exact Or.inr h2
        · exact absurd (Jn.ver_iff.2 ⟨h,h2⟩) hf
     clear ht hf;rcases hf' with hf'|hf'
     all_goals
      try (have hf2: ¬J.first<1:=by omega)
      go_enter Tryz.func25,Tryz.ntmps25
      go_wp2_with fail;rw[←hwz];clear hwz;refine(tcheck_all J.base _ _ (HVB.out.below hbz) HS.out).mono ?_
      rintro e w1 ⟨rfl,hb1⟩;rw[HT.out];obtain⟨vt1,HB1,_⟩:=HK0.out.below hb1
      have c1:=HB1.cell 1 rfl;clear HB1;go_wp2_with fail;go_ret2;exact⟨_,by rw[HE.out];rfl,(fun h=>by rw[HE.out]at h;exact absurd h (by decide)),fun _=>rfl,below_tr hbz hb1⟩
 · have hzz:(Pp.treeE J.base==0)=false:=by simpa using ht
   have HE:=hid (Jn.chk_tree ht);have HN:=hid ht;go_enter Tryz.func25,Tryz.ntmps25
   go_wp2_with fail;rw[←hwz];clear hwz;refine(tcheck_all J.base _ _ (HVB.out.below hbz) HS.out).mono ?_
   rintro e w1 ⟨rfl,hb1⟩;go_wp2_with fail;go_ret2;exact⟨_,by rw[HE.out];rfl,fun h=>absurd (HE.out▸h) HN.out,fun _=>rfl,below_tr hbz hb1⟩
end Go.Proofs.YtdifomkoegmngaaGreatDoor
namespace Go.Proofs.YtdifomkoegmngaaGreatDoor
open Go.RowKit

def NoStrV (w:World) (v:Value):Prop:= ∀g,v.ownBlock=some g→NoStr w g
theorem noStr_cells {w:World} {g:Nat} {cur:Array Value} {T:TypeId} {fz:Nat×Nat} (h:w.heap[g]?=some (.cells cur T fz)) (hn: ∀s,Value.string s∉cur.toList):NoStr w g:=by
 intro o s he;have:cur.toList[o]?=some (.string s):=by simpa[World.cell?,h]using he
 exact hn s (List.mem_of_getElem? this)
theorem noStr_of {w:World} {g:Nat} {cur:Array Value} {T:TypeId} {fz:Nat×Nat} (h:w.heap[g]?=some (.cells cur T fz)) (hn:NoStr w g): ∀s,Value.string s∉cur.toList:=by
 intro s hs;obtain⟨o,ho⟩:=List.getElem?_of_mem hs
 exact hn o s (by simpa[World.cell?,h]using ho)
theorem NoStr.keep {w w':World} {g:Nat} (h:NoStr w g) (hb:w'.heap[g]?=w.heap[g]?):NoStr w' g:=by
 intro o s;rw[World.cell?_of_block (w:=w) (a:=⟨g,o,none⟩) hb];exact h o s
theorem NoStrV.below {w w':World} {v:Value} (h:NoStrV w v) (hl: ∀g,v.ownBlock=some g→g<w.heap.size) (hw:Below w.heap.size w w'):NoStrV w' v:=fun g hg=>(h g hg).keep (hw.block g (hl g hg))
theorem zeros_no {z:Array Value} (hz: ∀s,Value.string s∉z.toList) (n:Nat) (s:ByteArray):Value.string s∉(Builtin.zeroCells z n).toList:=by
 intro h;simp only[Builtin.zeroCells]at h;simp at h
 obtain⟨k,hk,he⟩:=h
 have hpos:0<z.size:=by
  rcases Nat.eq_zero_or_pos z.size with h0|h0
  · rw[h0]at hk;simp at hk
  · exact h0
 have hlt:k % z.size<z.size:=Nat.mod_lt _ hpos;rw[getElem!_pos z _ hlt]at he;exact hz s (by rw[←he];simp)
theorem append_noStr {P:Program} (w:World) (base:Nat) (t ty e:TypeId) (i:TypeInfo) (z:Value) (size bytes:Nat) (ht:P.underlying t=some (.slice e)) (hi:P.info? e=some i) (hz:i.zero=some z)
    (hsize:i.size=size) (hby:i.bytes=bytes) (hzs:z.cells.size=size) (hsz:0<size) (v:Value) (n:Nat) (xs:List Value) (hown:w.ownsRow base e size v n xs)
    (a:Addr) (m c:Nat) (news:List Value) (hl:news.length=m*size) (hnews: ∀j u,news[j]?=some u→w.cell? (a.add j)=some u) (h1: ∀u∈news,u.oneCell'=true)
    (h63:n+m≤maxLen) (hbytes:(n+m)*bytes≤140737488355328) (hm:0<m) (hzn: ∀s,Value.string s∉z.cells.toList) (hnn: ∀s,Value.string s∉news) (hvn:NoStrV w v)
    {v':Value} {w':World} (hr:(Builtin.append_ #[t,t] ty #[v,.slice (some a) m c]).run P w= .ok v' w'):NoStrV w' v':=by
 subst hsize;subst hby;have hsmall:n+m≤9223372036854775807:=by simp only[maxLen]at h63;omega
 rcases hown.2 with⟨rfl,rfl⟩|⟨g,cap,cur,rfl,hbg,hg,hnc,hcm,hcs,htake⟩
 · have h2:=run_append_nil (P:=P) w t ty e i z ht hi hz a m c news hl hnews hm (by omega) (by have hb:=hbytes;simp only[Nat.zero_add]at hb;omega)
   rw[hr]at h2;injection h2 with h2 h3
   subst h2;subst h3;intro g hgg;simp only[Value.ownBlock,Option.some.injEq]at hgg;subst hgg;refine noStr_cells (heap_alloc_new w.drew _) ?_
   intro s hs;rw[Array.toList_append,List.mem_append]at hs;rcases hs with hs|hs
   · exact hnn s hs
   · exact zeros_no hzn _ s hs
 · by_cases hroom:n+m≤cap
   · have hfit:n*i.size+news.length≤cur.size:=by rw[hl,hcs,←Nat.add_mul];exact Nat.mul_le_mul_right _ hroom
     have h2:=run_append_room (P:=P) w t ty e i ht hi g n cap cur hg a m c news hl hnews h1 hroom hfit;rw[hr]at h2;injection h2 with h2 h3
     subst h2;subst h3;have hno:=noStr_of hg (hvn g rfl);intro g' hgg;simp only[Value.ownBlock,Option.some.injEq]at hgg;subst hgg;refine noStr_cells (setRow_heap w g cur _ e _ hg) ?_
     intro s hs;simp only[List.mem_append]at hs;rcases hs with(hs|hs)|hs
     · exact hno s (List.mem_of_mem_take hs)
     · exact hnn s hs
     · exact hno s (List.mem_of_mem_drop hs)
   · have h2:=run_append_grow (P:=P) w t ty e i z ht hi hz ⟨g,0,none⟩ n cap xs hown.1 (hown.cells (g:=g) rfl) a m c news hl hnews (by omega) (by omega) (growslice_fits (by omega) hbytes)
     rw[hr]at h2;injection h2 with h2 h3
     subst h2;subst h3;have hno:=noStr_of hg (hvn g rfl);intro g' hgg;simp only[Value.ownBlock,Option.some.injEq]at hgg;subst hgg;refine noStr_cells (heap_alloc_new w.drew _) ?_
     intro s hs;rw[Array.toList_append,Array.toList_append,List.mem_append,List.mem_append]at hs;rcases hs with(hs|hs)|hs
     · have:Value.string s∈xs:=by simpa using hs
       rw[←htake]at this;exact hno s (List.mem_of_mem_take this)
     · exact hnn s (by simpa using hs)
     · exact zeros_no hzn _ s hs
/-- The law of append, with that said too. -/
theorem wpList_append_no {P:Program} (w:World) {ops:Array Oper} {rest:List Oper} {o:Oper} {a:Act} {Q:Exit→Act→World→Prop} (hgd:o.guard=none) (s x:Operand) (t:TypeId)
    (ho:o.op= .call {callee:= .builtin .append,args:= #[s,x],argTypes:= #[t,t]})
    (base:Nat) (e:TypeId) (i:TypeInfo) (z:Value) (size bytes:Nat) (ht:P.underlying t=some (.slice e)) (hi:P.info? e=some i) (hz:i.zero=some z)
    (hsize:i.size=size) (hby:i.bytes=bytes) (hzs:z.cells.size=size) (hsz:0<size)
    (v:Value) (n:Nat) (xs:List Value) (hs:a.eval s=v) (hown:w.ownsRow base e size v n xs)
    (ad:Addr) (m c:Nat) (news:List Value) (hx:a.eval x= .slice (some ad) m c) (hl:news.length=m*size) (hnews: ∀j u,news[j]?=some u→w.cell? (ad.add j)=some u) (h1: ∀u∈news,u.oneCell'=true)
    (h63:n+m≤maxLen) (hbytes:(n+m)*bytes≤140737488355328) (hbase:base≤w.heap.size) (hm:0<m) (hzn: ∀s,Value.string s∉z.cells.toList) (hnn: ∀s,Value.string s∉news) (hvn:NoStrV w v)
    (h: ∀v' w',w'.ownsRow base e size v' (n+m) (xs++news)→w.grownBy w' v.ownBlock→NoStrV w' v'→wpList P ops Q rest (a.put o.dst v') w'):wpList P ops Q (o::rest) a w:=by
 refine wpList_plain hgd fun _ hK=>?_
 obtain⟨v',w',hr,h2,h3,h4⟩:=run_append_own (P:=P) w base t o.type e i z size bytes ht hi hz hsize hby hzs hsz v n xs hown ad m c news hl hnews h1 h63 hbytes hbase
 have h5:=append_noStr (P:=P) w base t o.type e i z size bytes ht hi hz hsize hby hzs hsz v n xs hown ad m c news hl hnews h1 h63 hbytes hm hzn hnn hvn hr;unfold Oper.wp execOp;simp only[ho,resolve,invoke,builtin,Sem.run_bind,Sem.run_pure,Result.andThen_ok,List.map_toArray,List.map_cons,List.map_nil,hs,hx,hr];exact hK _ _ (h v' w' h2 h3 h5)
theorem Lies.row {w w':World} {x v:Value} {L:List En} (h:Lies w x L) (hg:w.grownBy w' v.ownBlock) (hn:NoStrV w v):Lies w' x L:=by
 cases hv:v.ownBlock with
 |none=>
  rw[hv]at hg;exact h.below ⟨hg.os,hg.tape,hg.output,hg.size,fun k hk=>hg.block k hk (by simp)⟩
 |some g=>
  rw[hv]at hg;exact h.nb hg (hn g hv)
end Go.Proofs.YtdifomkoegmngaaGreatDoor
