/- What the reference's CheckWorld answers, of a world that has no letters. -/
import Derived.Test.YtgamnckfmmbjdaaGreatDoorWGZN
import Derived.Deep.CutBlock
import Derived.Test.YtgamnckfmmbjdaaGreatDoorWGZQ
import Derived.Test.YtgamnckfmmbjdaaGreatDoorWGZP
set_option linter.unusedSimpArgs false
set_option linter.unusedVariables false
namespace Go.Proofs.YtgamnckfmmbjdaaGreatDoor
open Go.RowKit Go.Proofs.Tryz
set_option maxHeartbeats 8000000
set_option maxRecDepth 100000
def ep (L:List Cn) (c:Cn):Int:=if Wo.hasB L c=true then 6 else 0
theorem Cw (L:List Cn) (c:Cn):(Wo.hasB L c=true∧ep L c=6)∨(Wo.hasB L c=false∧ep L c=0):=by
 cases h:Wo.hasB L c with
 |true=>exact Or.inl ⟨rfl,by rw[ep,h,if_pos rfl]⟩
 |false=>exact Or.inr ⟨rfl,by rw[ep,h,if_neg (by decide)]⟩
theorem Cx {l:List Cn} {i k:Nat} (d:k<i) (a:i<l.length) (c:Cn):Wo.hasB (l.take (k+1)) c=(Wo.hasB (l.take k) c||(l[k].who.toList==c.who.toList)):=by
 rw[Wo.hasB,Wo.hasB,List.take_succ_eq_append_getElem (by omega),List.any_append];simp
def ay (H:Hb) (l:List Cn):Int:=if¬ae H=0 then ae H else if 4<l.length then 2 else 0
def aD (H:Hb) (l:List Cn):Int:=if¬ay H l=0 then ay H l else bY l
theorem Cz (e:ByteArray→Int) (H:Hb) (l:List Cn):bU e ⟨H,l,[]⟩=if¬aD H l=0 then aD H l else if jg l=true then 6 else 0:=by
 rw[bU,aD,ay];simp only[List.length_nil,dL];by_cases h:ae H=0
 · simp only[h,not_true,if_false]
   by_cases a:4<l.length
   · simp[a]
   · simp only[a,if_false,false_or,show¬(30<0)from by decide,not_true]
     rw[dH];by_cases d:bY l=0
     · simp[d]
     · simp[d]
 · simp[h]
theorem CA (td:ByteArray→Int) (H:Hb) (l:List Cn) (v:Value) (w:World) (hv:di w v ⟨H,l,[]⟩) (D6:hU H) (hu: ∀s∈H.fos,s.na.size≤1048576∧(∀e∈s.jo.base,e.path.size≤1048576∧e.text.size≤1048576)∧dR 1048576 s.jo.cos) (D7: ∀c∈l,fR c) (CQ: ∀c∈l,(∀e∈c.base,e.path.size≤1000000000)∧ ∀e∈c.mine,e.path.size≤1000000000):
    Calls prog 7 #[v] w fun e w'=>e= .returned (.int .i64 (bU td ⟨H,l,[]⟩))∧Below w.heap.size w w':=by
 obtain⟨vf,vg,ag,vc,vl,rfl,⟨lf,lg,aG⟩,lc,ll⟩:=hv
 simp only at lf lg aG lc ll;have Dc:=hid (show cp w (.agg #[vf,vg,ag,.int .i64 H.nx,.int .i64 H.la,.int .i64 H.ro,.int .i64 H.now]) H from⟨vf,vg,ag,rfl,lf,lg,aG⟩);have Da:=hid (fun(X:World) (_:Below w.heap.size w X) (u:Value) (F:cp X u H)=>Ct H u X F D6 hu);have D9:=hid (fun(X:World) (_:Below w.heap.size w X) (c:Cn) (hm:c∈l) (u:Value) (F:dD X u c)=>yG c u X F (D7 c hm) (CQ c hm).1 (CQ c hm).2);have Db:=hid lc;have Dk:l.length≤1000000000000000:=by obtain⟨_,_,_,_,h,_⟩:=lc;exact h
 obtain⟨fa,fc,rfl,_⟩:=lf
 obtain⟨ga,gc,rfl,_⟩:=lg
 obtain⟨sa,sc,rfl,_⟩:=aG
 obtain⟨xa,xc,rfl⟩:=lc.shape
 obtain⟨ya,yc,rfl⟩:=ll.shape
 simp only[List.length_nil];clear lc ll D6 hu D7 CQ;obtain⟨O,CL⟩: ∃x,x=aD H l:=⟨_,rfl⟩
 have J:=hid CL;obtain⟨X2,CM⟩: ∃x,x=bU td ⟨H,l,[]⟩:=⟨_,rfl⟩
 have CG:=hid (show X2=if¬O=0 then O else if jg l=true then 6 else 0 by rw[CM,Cz td H l,←CL]);rw[←CM];clear CL CM;obtain⟨wz,C3⟩: ∃wz,wz=w.alloc (.cells #[.slice fa H.fos.length fc,.slice ga H.gs.length gc,.slice sa H.ss.length sc,.int .i64 H.nx,.int .i64 H.la,.int .i64 H.ro,.int .i64 H.now,.slice xa l.length xc,.slice ya 0 yc] 32):=⟨_,rfl⟩
 have CP:Below w.heap.size w wz:=by rw[C3];exact(Below.refl _ _).alloc (Nat.le_refl _) _
 have HX:=hid (show Cs wz w.heap.size [.slice fa H.fos.length fc,.slice ga H.gs.length gc,.slice sa H.ss.length sc,.int .i64 H.nx,.int .i64 H.la,.int .i64 H.ro,.int .i64 H.now,.slice xa l.length xc,.slice ya 0 yc] by rw[C3];exact Cs.new w [.slice fa H.fos.length fc,.slice ga H.gs.length gc,.slice sa H.ss.length sc,.int .i64 H.nx,.int .i64 H.la,.int .i64 H.ro,.int .i64 H.now,.slice xa l.length xc,.slice ya 0 yc] _);have CX:=hid C3.symm;clear C3;go_enter func7,ntmps7
 go_upto_region 1 with fail;rw[CX.out];clear CX;have p0:=HX.out.cell 0 rfl;have p1:=HX.out.cell 1 rfl;have p2:=HX.out.cell 2 rfl;have p3:=HX.out.cell 3 rfl;have p4:=HX.out.cell 4 rfl;have p5:=HX.out.cell 5 rfl;have p6:=HX.out.cell 6 rfl;go_wp2_with fail;refine(Da.out wz CP _ (Dc.out.below CP)).mono ?_
 rintro e w1 ⟨rfl,D3⟩;have C6:=af CP D3;have S:=hid (HX.out.below D3);clear p0 p1 p2 p3 p4 p5 p6;have p7:=S.out.cell 7 rfl;have p8:=S.out.cell 8 rfl;obtain⟨E1,CZ⟩: ∃x,x=ay H l:=⟨_,rfl⟩
 have I:=hid CZ;obtain⟨B1,CY⟩: ∃x,x=decide (ae H=0∧4<l.length):=⟨_,rfl⟩
 have G:=hid CY;clear CZ CY;go_upto_region 2 with fail;go_cut [25]from 9 to 124 (fun t W=>t= .bool B1∧W=w1)
 case first=>
  by_cases h0:ae H=0
  · have De:(ae H==0)=true:=by rw[h0];rfl
    by_cases h4:4<l.length
    · have Df:4<(l.length:Int):=by omega
      have T:=hid (show B1=true from by rw[G.out];exact decide_eq_true ⟨h0,h4⟩);clear h0;go_wp2_with fail;go_meet
      case rel=>exact⟨by rw[T.out],rfl⟩
    · have Df: ¬4<(l.length:Int):=by omega
      have T:=hid (show B1=false from by rw[G.out];exact decide_eq_false (fun h=>h4 h.2));clear h0;go_wp2_with fail;go_meet
      case rel=>exact⟨by rw[T.out],rfl⟩
  · have De:(ae H==0)=false:=by simpa using h0
    have T:=hid (show B1=false from by rw[G.out];exact decide_eq_false (fun h=>h0 h.1));clear h0;go_wp2_with fail;go_meet
    case rel=>exact⟨by rw[T.out],rfl⟩
 case rest=>
 obtain⟨rfl,rfl⟩:=hcut
 go_upto_if 25 with fail;go_cut [3]from 9 to 124 (fun e W=>e= .int .i64 E1∧W=wc)
 case first=>
  cases hb:B1 with
  |true=>
   have T:=hid (show E1=2 from by
    obtain⟨P,h2⟩:=of_decide_eq_true (G.out.symm.trans hb)
    rw[I.out,ay,if_neg (fun x=>x P),if_pos h2])
   clear hb;go_wp2_with fail;go_meet
   case rel=>exact⟨by rw[T.out],rfl⟩
  |false=>
   have T:=hid (show E1=ae H from by
    have h:=of_decide_eq_false (G.out.symm.trans hb);rw[I.out,ay];by_cases P:ae H=0
    · rw[if_neg (fun x=>x P),if_neg (fun h2=>h ⟨P,h2⟩),P]
    · rw[if_pos P])
   clear hb;go_wp2_with fail;go_meet
   case rel=>exact⟨by rw[T.out],rfl⟩
 case rest=>
  obtain⟨rfl,rfl⟩:=hcut
  clear p7 p8
  have CE:=hid (show∀i (h:i<l.length),∃b o,xa=some ⟨b,o,none⟩∧b<w.heap.size∧en w b (o+i*8) l[i]from by
   obtain⟨a,c,e,_,_,h⟩:=Db.out
   injection e with ay e2 e3
   subst ay;exact h)
  obtain⟨w9,V⟩: ∃X,X=wc:=⟨_,rfl⟩
  have CC:=hid (show Below w.heap.size w w9 by rw[V];exact C6);have CH:=hid (show Cs w9 w.heap.size [.slice fa H.fos.length fc,.slice ga H.gs.length gc,.slice sa H.ss.length sc,.int .i64 H.nx,.int .i64 H.la,.int .i64 H.ro,.int .i64 H.now,.slice xa l.length xc,.slice ya 0 yc] by rw[V];exact S.out);rw[←V];clear V C6 S;go_upto_block 0 with fail
  go_cut [3]from 9 to 124 (fun e W=>e= .int .i64 O∧Below w9.heap.size w9 W)
  case first=>
   go_wp2_with fail;go_loopw [3,4] (fun e i wr=> ∃(k:Nat) (x:Int),k≤l.length∧i= .int .i64 k∧e= .int .i64 x∧Hid ((x=0∧E1=0∧bY (l.take k)=0)∨(¬x=0∧x=O))∧Below w9.heap.size w9 wr) (fun _ i _=>l.length-(intOf i).toNat)
   case atStart=>
    refine⟨0,E1,Nat.zero_le _,rfl,rfl,?_,Below.refl _ _⟩
    by_cases h:E1=0
    · exact hid (Or.inl ⟨h,h,rfl⟩)
    · exact hid (Or.inr ⟨h,by rw[J.out,aD,←I.out,if_pos h]⟩)
   case round=>
    obtain⟨k,x,hk,rfl,rfl,HI,d⟩:=hrel
    have C8:=af CC.out d;have p7:=(CH.out.below d).cell 7 rfl;rcases HI.out with⟨F,ae,D5⟩|⟨F,hX⟩
    · subst F
      have CD:=hid D5;have z:=hid ae;clear D5 ae HI;by_cases f:k<l.length
      · obtain⟨b,o,rfl,hb,he⟩:=CE.out k f
        obtain⟨vb,vm,va,c0,c1,c2,c3,c4,c5,c6,c7,l1,l2,l3⟩:=he.below hb C8
        have CW:=hid (show dD wr (.agg #[.string l[k].who,.string l[k].fo,vb,.int .i64 l[k].cur,vm,.string l[k].key,va,.int .i64 l[k].keys]) l[k]from⟨vb,vm,va,rfl,l1,l2,l3⟩);obtain⟨ea,ec,rfl,_⟩:=l1
        obtain⟨na,nc,rfl,_⟩:=l2
        obtain⟨qa,qc,rfl,_⟩:=l3
        have E:(k:Int)<l.length:=by omega
        clear he;go_wp2_with fail;refine(D9.out wr C8 l[k] (List.getElem_mem f) _ CW.out).mono ?_
        rintro e w2 ⟨rfl,D4⟩;have CN:=af d D4
        have CF:=hid (show(aU l[k]=0∧E1=0∧bY (l.take (k+1))=0)∨(¬aU l[k]=0∧aU l[k]=O)from by
         by_cases h:aU l[k]=0
         · exact Or.inl ⟨h,z.out,(oq f CD.out).trans h⟩
         · refine Or.inr ⟨h,?_⟩
           rw[J.out,aD,←I.out,if_neg (fun y=>y z.out),ot f CD.out h])
        clear c0 c1 c2 c3 c4 c5 c6 c7 p7 CW D4;go_wp2_with fail;go_roundw
        case rel=>exact⟨k+1,_,by omega,by simp,rfl,CF,CN⟩
        case measure=>simp[intOf];omega
      · have CK:=hid (show(0:Int)=O by
         have:=CD.out
         rw[List.take_of_length_le (by omega)]at this;rw[J.out,aD,←I.out,if_neg (fun y=>y z.out),this])
        have E: ¬(k:Int)<l.length:=by omega
        go_wp2_with fail;go_meet
        case rel=>exact⟨by rw[CK.out],d⟩
    · have Dj:(x==0)=false:=by simpa using F
      have CJ:=hid hX;clear F hX HI;rcases(show(k:Int)<l.length∨ ¬(k:Int)<l.length from Decidable.em _)with E|E
      all_goals
       go_wp2_with fail;go_meet
       case rel=>exact⟨by rw[CJ.out],d⟩
  case rest=>
  obtain⟨rfl,A⟩:=hcut
  obtain⟨wd,Y⟩: ∃X,X=wc:=⟨_,rfl⟩
  have CT:=hid (show Below w.heap.size w wd by rw[Y];exact af CC.out A);have CI:=hid (show Cs wd w.heap.size [.slice fa H.fos.length fc,.slice ga H.gs.length gc,.slice sa H.ss.length sc,.int .i64 H.nx,.int .i64 H.la,.int .i64 H.ro,.int .i64 H.now,.slice xa l.length xc,.slice ya 0 yc] by rw[Y];exact CH.out.below A);rw[←Y];clear Y A CH CC;go_upto_block 2 with fail
  go_cut [3]from 9 to 124 (fun e W=>e= .int .i64 X2∧Below wd.heap.size wd W)
  case first=>
   go_wp2_with fail;go_loopw [3,5] (fun e i wr=> ∃(k:Nat) (x:Int),k≤l.length∧i= .int .i64 k∧e= .int .i64 x∧Hid ((x=0∧O=0∧ ∀j (h:j<l.length),j<k→Wo.hasB (l.take j) l[j]=false)∨(¬x=0∧x=X2))∧Below wd.heap.size wd wr) (fun _ i _=>l.length-(intOf i).toNat)
   case atStart=>
    refine⟨0,O,Nat.zero_le _,rfl,rfl,?_,Below.refl _ _⟩
    by_cases h:O=0
    · exact hid (Or.inl ⟨h,h,fun j _ hj=>absurd hj (Nat.not_lt_zero _)⟩)
    · exact hid (Or.inr ⟨h,by rw[CG.out,if_pos h]⟩)
   case round=>
    obtain⟨k,x,hk,rfl,rfl,HI,d⟩:=hrel
    have p7:=(CI.out.below d).cell 7 rfl;rcases HI.out with⟨F,ae,C5⟩|⟨F,hX⟩
    · subst F
      have C4:=hid C5;have z:=hid ae;clear C5 ae HI;by_cases f:k<l.length
      · have E:(k:Int)<l.length:=by omega
        obtain⟨wk,Z⟩: ∃X,X=wr:=⟨_,rfl⟩
        have CV:=hid (show Below wd.heap.size wd wk by rw[Z];exact d);have Dd:=hid (show Cs wk w.heap.size [.slice fa H.fos.length fc,.slice ga H.gs.length gc,.slice sa H.ss.length sc,.int .i64 H.nx,.int .i64 H.la,.int .i64 H.ro,.int .i64 H.now,.slice xa l.length xc,.slice ya 0 yc] by rw[Z];exact CI.out.below d);go_wp2_with fail;rw[←Z];clear Z p7 d;go_loopw [3,6] (fun e i wr=> ∃m:Nat,m≤k∧i= .int .i64 m∧e= .int .i64 (ep (l.take m) l[k])∧Below wk.heap.size wk wr) (fun _ i _=>k-(intOf i).toNat)
        case atStart=>exact⟨0,Nat.zero_le _,rfl,rfl,Below.refl _ _⟩
        case round=>
         obtain⟨m,hm,rfl,rfl,K⟩:=hrel
         by_cases Dh:m<k
         · have Di:m<l.length:=by omega
           have P:(m:Int)<k:=by omega
           have h2:(m:Int)<l.length:=by omega
           have h3:(k:Int)<l.length:=by omega
           have C7:=af CT.out (af CV.out K);obtain⟨b,o,rfl,hb,he⟩:=CE.out k f
           obtain⟨b',o',e2,Dl,CR⟩:=CE.out m Di
           injection e2 with e2
           injection e2 with e3 e4
           subst e3 e4;obtain⟨_,_,_,c0,_⟩:=he.below hb C7
           obtain⟨_,_,_,d0,_⟩:=CR.below hb C7
           have q7:=(Dd.out.below K).cell 7 rfl;have Q:=hid (Cx Dh f l[k]);cases hc:(l[m].who.toList==l[k].who.toList)with
           |true=>
            have C9:=hid (show(6:Int)=ep (l.take (m+1)) l[k] by rw[ep,Q.out,hc,Bool.or_true,if_pos rfl]);clear he CR Q;go_wp2_with fail;go_quiet (fail)
            generalize N:World.drewN wr _=wq;have M:=Below.refl wr.heap.size wr;have CS:Below wr.heap.size wr wq:=N▸⟨M.os,M.tape,M.output,M.size,M.block⟩;have CO:=af K CS;clear N q7 c0 d0;go_wp2_with fail;go_roundw
            case rel=>exact⟨m+1,by omega,by simp,by rw[←C9.out],CO⟩
            case measure=>simp[intOf];omega
           |false=>
            have C9:=hid (show ep (l.take m) l[k]=ep (l.take (m+1)) l[k] by rw[ep,ep,Q.out,hc,Bool.or_false]);clear he CR Q;go_wp2_with fail;go_quiet (fail)
            generalize N:World.drewN wr _=wq;have M:=Below.refl wr.heap.size wr;have CS:Below wr.heap.size wr wq:=N▸⟨M.os,M.tape,M.output,M.size,M.block⟩;have CO:=af K CS;clear N q7 c0 d0;go_wp2_with fail;go_roundw
            case rel=>exact⟨m+1,by omega,by simp,by rw[←C9.out],CO⟩
            case measure=>simp[intOf];omega
         · obtain rfl:m=k:=by omega
           have Dg:=af CV.out K
           have CF:=hid (show(ep (l.take m) l[m]=0∧O=0∧ ∀j (h:j<l.length),j<m+1→Wo.hasB (l.take j) l[j]=false)∨(¬ep (l.take m) l[m]=0∧ep (l.take m) l[m]=X2) by
            rcases Cw (l.take m) l[m]with⟨hh,h6⟩|⟨hh,h6⟩
            · refine Or.inr ⟨by rw[h6];decide,?_⟩
              rw[CG.out,if_neg (fun y=>y z.out),if_pos (show jg l=true from ov [] l m f (by simpa[Wo.hasB]using hh)),h6]
            · refine Or.inl ⟨h6,z.out,fun j P h2=>?_⟩
              by_cases e:j=m
              · subst e;exact hh
              · exact C4.out j P (by omega))
           have P: ¬(m:Int)<m:=by omega
           go_wp2_with fail;go_roundw
           case rel=>exact⟨m+1,_,by omega,by simp,rfl,CF,Dg⟩
           case measure=>simp[intOf];omega
      · have CK:=hid (show(0:Int)=X2 by
         have:jg l=false:=ou [] l (fun j h=>by simpa using C4.out j h (by omega))
         rw[CG.out,if_neg (fun y=>y z.out),this];rfl)
        have E: ¬(k:Int)<l.length:=by omega
        go_wp2_with fail;go_meet
        case rel=>exact⟨by rw[CK.out],d⟩
    · have Dj:(x==0)=false:=by simpa using F
      have CJ:=hid hX;clear F hX HI;rcases(show(k:Int)<l.length∨ ¬(k:Int)<l.length from Decidable.em _)with E|E
      all_goals
       go_wp2_with fail;go_meet
       case rel=>exact⟨by rw[CJ.out],d⟩
  case rest=>
  obtain⟨rfl,A⟩:=hcut
  have CU:=hid (af CT.out A);have p8:=(CI.out.below A).cell 8 rfl;obtain⟨w0,U⟩: ∃X,X=wc:=⟨_,rfl⟩
  have D8:=hid (show Below w.heap.size w w0 by rw[U];exact CU.out);have q8:w0.cell? ⟨w.heap.size,8,none⟩=some (.slice ya 0 yc):=by rw[U];exact p8
  clear A;go_wp2_with fail;rw[←U];clear U p8 CU;go_loopw [3,7] (fun e i W=>e= .int .i64 X2∧i= .int .i64 0∧W=w0) (fun _ _ _=>0)
  case atStart=>exact⟨rfl,rfl,rfl⟩
  case round=>
   obtain⟨rfl,rfl,rfl⟩:=hrel
   go_wp2_with fail;go_ret;exact⟨rfl,D8.out⟩
theorem CB (H:Hb) (l:List Cn) (v vc:Value) (w:World) (hv:cp w v H) (hc:dh w vc l) (hs:hU H) (hu: ∀s∈H.fos,s.na.size≤1048576∧(∀e∈s.jo.base,e.path.size≤1048576∧e.text.size≤1048576)∧dR 1048576 s.jo.cos) (CG: ∀c∈l,fR c) (CF: ∀c∈l,(∀e∈c.base,e.path.size≤1000000000)∧ ∀e∈c.mine,e.path.size≤1000000000) (h6:5<w.heap.size) (CH:aR w):
    Calls prog 3 #[v,vc] w fun e w'=>e= .returned (.bool true)∧Below w.heap.size w w':=by
 have HV:=hid hv;have HC:=hid hc;have HS:=hid hs;have HU:=hid hu;have C7:=hid CG;have CK:=hid CF;have C9:=hid (fun X (f:Below w.heap.size w X)=>CH.belowB h6 f);obtain⟨J,K,M,O,P,Q,rfl⟩:=hv.shape
 obtain⟨xa,xc,rfl⟩:=hc.shape
 clear hv hc hs hu CG CF CH;obtain⟨E,ae⟩: ∃E,E=bU fH ⟨H,l,[]⟩:=⟨_,rfl⟩
 have HE:=hid ae;clear ae;obtain⟨wz,Z⟩: ∃wz,wz=w.alloc (.cells #[.slice J H.fos.length K,.slice M H.gs.length O,.slice P H.ss.length Q,.int .i64 H.nx,.int .i64 H.la,.int .i64 H.ro,.int .i64 H.now] 28):=⟨_,rfl⟩
 have I:Below w.heap.size w wz:=by rw[Z];exact(Below.refl _ _).alloc (Nat.le_refl _) _
 have U:=hid (show Cs wz w.heap.size [.slice J H.fos.length K,.slice M H.gs.length O,.slice P H.ss.length Q,.int .i64 H.nx,.int .i64 H.la,.int .i64 H.ro,.int .i64 H.now] by rw[Z];exact Cs.new w [.slice J H.fos.length K,.slice M H.gs.length O,.slice P H.ss.length Q,.int .i64 H.nx,.int .i64 H.la,.int .i64 H.ro,.int .i64 H.now] _);have CM:5<wz.heap.size:=by have:=I.size;omega
 have x0:=U.out.cell 0 rfl;have aD:=U.out.cell 1 rfl;have x2:=U.out.cell 2 rfl;have x3:=U.out.cell 3 rfl;have x4:=U.out.cell 4 rfl;have x5:=U.out.cell 5 rfl;have x6:=U.out.cell 6 rfl;go_enter func3,ntmps3
 go_upto_region 1 with fail;rw[←Z];clear Z;go_wp2_with fail;refine(sK fH H l _ _ wz (HV.out.below I) (HC.out.below I) HS.out C7.out CM (C9.out wz I)).mono ?_
 rintro e d ⟨u,rfl,hl,_,C5⟩;rw[←HE.out]at hl⊢;clear x0 aD x2 x3 x4 x5 x6;obtain⟨N,hN⟩: ∃N,N=ie E ⟨H,l,[]⟩:=⟨_,rfl⟩
 have HN:=hid hN;rw[←hN]at hl;clear hN;have CE:=af I C5;have HL:=hid hl;obtain⟨vf,vg,ag,vc,vl,rfl,⟨lf,lg,aG⟩,lc,ll⟩:=hl
 obtain⟨fb,fd,rfl,_⟩:=lf
 obtain⟨gb,gd,rfl,_⟩:=lg
 obtain⟨sb,sd,rfl,_⟩:=aG
 obtain⟨xb,xd,rfl⟩:=lc.shape
 obtain⟨yb,yd,rfl⟩:=ll.shape
 clear lc ll;obtain⟨S,z⟩: ∃X,X=d.alloc (.cells #[.slice fb N.hb.fos.length fd,.slice gb N.hb.gs.length gd,.slice sb N.hb.ss.length sd,.int .i64 N.hb.nx,.int .i64 N.hb.la,.int .i64 N.hb.ro,.int .i64 N.hb.now,.slice xb N.cls.length xd,.slice yb N.les.length yd] 32):=⟨_,rfl⟩
 obtain⟨G,Y⟩: ∃X,X=S.alloc (.cells #[.slice J H.fos.length K,.slice M H.gs.length O,.slice P H.ss.length Q,.int .i64 H.nx,.int .i64 H.la,.int .i64 H.ro,.int .i64 H.now,.slice xa l.length xc,.slice none 0 0] 32):=⟨_,rfl⟩
 have CJ:S.heap.size=d.heap.size+1:=by rw[z];simp
 have CD:Below d.heap.size d S:=by rw[z];exact(Below.refl _ _).alloc (Nat.le_refl _) _
 have C4:Below S.heap.size S G:=by rw[Y];exact(Below.refl _ _).alloc (Nat.le_refl _) _
 have C3:Below d.heap.size d G:=af CD C4;have o:=hid ((show Cs S d.heap.size [.slice fb N.hb.fos.length fd,.slice gb N.hb.gs.length gd,.slice sb N.hb.ss.length sd,.int .i64 N.hb.nx,.int .i64 N.hb.la,.int .i64 N.hb.ro,.int .i64 N.hb.now,.slice xb N.cls.length xd,.slice yb N.les.length yd] by rw[z];exact Cs.new d [.slice fb N.hb.fos.length fd,.slice gb N.hb.gs.length gd,.slice sb N.hb.ss.length sd,.int .i64 N.hb.nx,.int .i64 N.hb.la,.int .i64 N.hb.ro,.int .i64 N.hb.now,.slice xb N.cls.length xd,.slice yb N.les.length yd] _).below C4);have y:=hid (show Cs G (d.heap.size+1) [.slice J H.fos.length K,.slice M H.gs.length O,.slice P H.ss.length Q,.int .i64 H.nx,.int .i64 H.la,.int .i64 H.ro,.int .i64 H.now,.slice xa l.length xc,.slice none 0 0] by rw[←CJ,Y];exact Cs.new S [.slice J H.fos.length K,.slice M H.gs.length O,.slice P H.ss.length Q,.int .i64 H.nx,.int .i64 H.la,.int .i64 H.ro,.int .i64 H.now,.slice xa l.length xc,.slice none 0 0] _);have CC:=hid (show(d.alloc (.cells #[.slice fb N.hb.fos.length fd,.slice gb N.hb.gs.length gd,.slice sb N.hb.ss.length sd,.int .i64 N.hb.nx,.int .i64 N.hb.la,.int .i64 N.hb.ro,.int .i64 N.hb.now,.slice xb N.cls.length xd,.slice yb N.les.length yd] 32)).alloc (.cells #[.slice J H.fos.length K,.slice M H.gs.length O,.slice P H.ss.length Q,.int .i64 H.nx,.int .i64 H.la,.int .i64 H.ro,.int .i64 H.now,.slice xa l.length xc,.slice none 0 0] 32)=G by rw[Y,z]);have j:=af CE C3;have CL:=hid (show di G (.agg #[.slice fb N.hb.fos.length fd,.slice gb N.hb.gs.length gd,.slice sb N.hb.ss.length sd,.int .i64 N.hb.nx,.int .i64 N.hb.la,.int .i64 N.hb.ro,.int .i64 N.hb.now,.slice xb N.cls.length xd,.slice yb N.les.length yd]) (ie E ⟨H,l,[]⟩) by rw[←HN.out];exact HL.out.below C3)
 have C6:=hid (show di G (.agg #[.slice J H.fos.length K,.slice M H.gs.length O,.slice P H.ss.length Q,.int .i64 H.nx,.int .i64 H.la,.int .i64 H.ro,.int .i64 H.now,.slice xa l.length xc,.slice none 0 0]) ⟨H,l,[]⟩ by
  obtain⟨vf,vg,ag,e,h1,h2,h3⟩:=HV.out
  simp only[Value.agg.injEq]at e;have g0:=congrArg (fun a=>a.getD 0 .nilFunc) e;have g1:=congrArg (fun a=>a.getD 1 .nilFunc) e;have g2:=congrArg (fun a=>a.getD 2 .nilFunc) e;simp at g0 g1 g2
  subst g0 g1 g2;exact⟨_,_,_,_,_,rfl,⟨h1.below j,h2.below j,h3.below j⟩,HC.out.below j,oo _⟩)
 have C8:=hid (fun X (f:Below G.heap.size G X)=>(show aR X∧5<X.heap.size from⟨C9.out X (af j f),by have:=(af j f).size;omega⟩));have T:=hid (fun X (f:Below G.heap.size G X)=>(show X.cell? ⟨d.heap.size,0,none⟩=some (.slice fb N.hb.fos.length fd)∧X.cell? ⟨d.heap.size,1,none⟩=some (.slice gb N.hb.gs.length gd)∧X.cell? ⟨d.heap.size,2,none⟩=some (.slice sb N.hb.ss.length sd)∧X.cell? ⟨d.heap.size,3,none⟩=some (.int .i64 N.hb.nx)∧X.cell? ⟨d.heap.size,4,none⟩=some (.int .i64 N.hb.la)∧X.cell? ⟨d.heap.size,5,none⟩=some (.int .i64 N.hb.ro)∧X.cell? ⟨d.heap.size,6,none⟩=some (.int .i64 N.hb.now)∧X.cell? ⟨d.heap.size,7,none⟩=some (.slice xb N.cls.length xd)∧X.cell? ⟨d.heap.size,8,none⟩=some (.slice yb N.les.length yd)∧X.cell? ⟨d.heap.size+1,0,none⟩=some (.slice J H.fos.length K)∧X.cell? ⟨d.heap.size+1,1,none⟩=some (.slice M H.gs.length O)∧X.cell? ⟨d.heap.size+1,2,none⟩=some (.slice P H.ss.length Q)∧X.cell? ⟨d.heap.size+1,3,none⟩=some (.int .i64 H.nx)∧X.cell? ⟨d.heap.size+1,4,none⟩=some (.int .i64 H.la)∧X.cell? ⟨d.heap.size+1,5,none⟩=some (.int .i64 H.ro)∧X.cell? ⟨d.heap.size+1,6,none⟩=some (.int .i64 H.now)∧X.cell? ⟨d.heap.size+1,7,none⟩=some (.slice xa l.length xc)∧X.cell? ⟨d.heap.size+1,8,none⟩=some (.slice none 0 0)from⟨(o.out.below f).cell 0 rfl,(o.out.below f).cell 1 rfl,(o.out.below f).cell 2 rfl,(o.out.below f).cell 3 rfl,(o.out.below f).cell 4 rfl,(o.out.below f).cell 5 rfl,(o.out.below f).cell 6 rfl,(o.out.below f).cell 7 rfl,(o.out.below f).cell 8 rfl,(y.out.below f).cell 0 rfl,(y.out.below f).cell 1 rfl,(y.out.below f).cell 2 rfl,(y.out.below f).cell 3 rfl,(y.out.below f).cell 4 rfl,(y.out.below f).cell 5 rfl,(y.out.below f).cell 6 rfl,(y.out.below f).cell 7 rfl,(y.out.below f).cell 8 rfl⟩));obtain⟨z0,z1,z2,z3,z4,z5,z6,z7,z8,z9,Dg,Dh,Di,Dj,Dk,Dl,Dm,Dn⟩:=T.out G (Below.refl _ _)
 have A:=(U.out.below C5)
 have x0:=A.cell 0 rfl;have aD:=A.cell 1 rfl;have x2:=A.cell 2 rfl;have x3:=A.cell 3 rfl;have x4:=A.cell 4 rfl;have x5:=A.cell 5 rfl;have x6:=A.cell 6 rfl;clear z Y CD C4 CJ HN HL;go_upto_region 2 with fail;try simp only[World.setCell_alloc_new]
 have F:=(U.out.below C5).below ((Below.refl d.heap.size d).alloc (Nat.le_refl _) (.cells #[.slice fb N.hb.fos.length fd,.slice gb N.hb.gs.length gd,.slice sb N.hb.ss.length sd,.int .i64 N.hb.nx,.int .i64 N.hb.la,.int .i64 N.hb.ro,.int .i64 N.hb.now,.slice xb N.cls.length xd,.slice yb N.les.length yd] 32));have y0:=F.cell 0 rfl;have y1:=F.cell 1 rfl;have y2:=F.cell 2 rfl;have y3:=F.cell 3 rfl;have y4:=F.cell 4 rfl;have y5:=F.cell 5 rfl;have y6:=F.cell 6 rfl;go_upto_region 3 with fail;try simp only[World.setCell_alloc_new]
 rw[CC.out];clear CC A F x0 aD x2 x3 x4 x5 x6 y0 y1 y2 y3 y4 y5 y6
 go_region_held3 (fun W=>W.cell? ⟨d.heap.size,0,none⟩=some (.slice fb N.hb.fos.length fd)∧W.cell? ⟨d.heap.size,1,none⟩=some (.slice gb N.hb.gs.length gd)∧W.cell? ⟨d.heap.size,2,none⟩=some (.slice sb N.hb.ss.length sd)∧W.cell? ⟨d.heap.size,3,none⟩=some (.int .i64 N.hb.nx)∧W.cell? ⟨d.heap.size,4,none⟩=some (.int .i64 N.hb.la)∧W.cell? ⟨d.heap.size,5,none⟩=some (.int .i64 N.hb.ro)∧W.cell? ⟨d.heap.size,6,none⟩=some (.int .i64 N.hb.now)∧W.cell? ⟨d.heap.size,7,none⟩=some (.slice xb N.cls.length xd)∧W.cell? ⟨d.heap.size,8,none⟩=some (.slice yb N.les.length yd)∧W.cell? ⟨d.heap.size+1,0,none⟩=some (.slice J H.fos.length K)∧W.cell? ⟨d.heap.size+1,1,none⟩=some (.slice M H.gs.length O)∧W.cell? ⟨d.heap.size+1,2,none⟩=some (.slice P H.ss.length Q)∧W.cell? ⟨d.heap.size+1,3,none⟩=some (.int .i64 H.nx)∧W.cell? ⟨d.heap.size+1,4,none⟩=some (.int .i64 H.la)∧W.cell? ⟨d.heap.size+1,5,none⟩=some (.int .i64 H.ro)∧W.cell? ⟨d.heap.size+1,6,none⟩=some (.int .i64 H.now)∧W.cell? ⟨d.heap.size+1,7,none⟩=some (.slice xa l.length xc)∧W.cell? ⟨d.heap.size+1,8,none⟩=some (.slice none 0 0)) (go_keep) (first
  |(go_at_call 5;refine(Ci _ (C8.out _ (by first|exact(Below.refl _ _).drew|exact Below.refl _ _)).2 (C8.out _ (by first|exact(Below.refl _ _).drew|exact Below.refl _ _)).1).mono ?_;rintro e S ⟨rfl,CN⟩;have z:Below G.heap.size G S:=((Below.refl _ _).drew).trans CN;obtain⟨j0,j1,j2,j3,j4,j5,j6,j7,j8,j9,CP,CQ,CR,CS,CT,CU,CV,CW⟩:=T.out S z)
  |(go_at_call 7;refine(CA fH H l _ _ (C6.out.below z) HS.out HU.out C7.out CK.out).mono ?_;rw[←HE.out];rintro e wb ⟨rfl,CO⟩;have V:Below G.heap.size G wb:=af z CO;obtain⟨k0,k1,k2,k3,k4,k5,k6,k7,k8,k9,CX,CY,CZ,D3,D4,D5,D6,D7⟩:=T.out wb V)
  |(go_at_call 6;refine(Cv E H l _ _ _ (CL.out.below V) (C6.out.below V)).mono ?_;rintro e wc ⟨rfl,hbc⟩;have CI:Below G.heap.size G wc:=af V hbc;obtain⟨m0,m1,m2,m3,m4,m5,m6,m7,m8,m9,D8,D9,Da,Db,Dc,Dd,De,Df⟩:=T.out wc CI))
 all_goals
  go_wp2_with fail;go_ret;exact⟨rfl,af j CI⟩
end Go.Proofs.YtgamnckfmmbjdaaGreatDoor
