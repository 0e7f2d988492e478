/- What the reference's SameHub and SameAnswer answer of two that are alike. -/
import Derived.Test.YtgamnckfmmbjdaaGreatDoorWGZO
import Derived.Test.YtgamnckfmmbjdaaGreatDoorWGZM
set_option linter.unusedSimpArgs false
set_option linter.unusedVariables false
namespace Go.Proofs.YtgamnckfmmbjdaaGreatDoor
open Go.RowKit Go.Proofs.Tryz
set_option maxHeartbeats 8000000
set_option maxRecDepth 100000
theorem Cu (H:Hb) (v u:Value) (w:World) (hv:cp w v H) (hu:cp w u H):
    Calls prog 26 #[v,u] w fun e w'=>e= .returned (.bool true)∧Below w.heap.size w w':=by
 obtain⟨fos,gs,ss,nx,la,ro,now⟩:=H
 obtain⟨vf,vg,ag,rfl,lf,lg,aG⟩:=hv
 obtain⟨uf,ug,us,rfl,mf,mg,ms⟩:=hu
 simp only at*;have CO:=hid lg;have CP:=hid aG;have CM:=hid mg;have CN:=hid ms;obtain⟨X,Y,rfl,CZ,_,hL⟩:=lf
 have HL:Hid (∀i (h:i<fos.length),∃b o,X=some ⟨b,o,none⟩∧b<w.heap.size∧fD w b (o+i*4) fos[i]):=hL;obtain⟨ea,ec,rfl,CV,_,CD⟩:=mf
 have CL:Hid (∀i (h:i<fos.length),∃b o,ea=some ⟨b,o,none⟩∧b<w.heap.size∧fD w b (o+i*4) fos[i]):=CD;obtain⟨ga,gc,rfl,_⟩:=lg
 obtain⟨sa,sc,rfl,_⟩:=aG
 obtain⟨ka,kc,rfl,_⟩:=mg
 obtain⟨ya,yc,rfl,_⟩:=ms
 clear hL CD;obtain⟨J,I⟩: ∃J,J=w.alloc (.cells #[.slice X fos.length Y,.slice ga gs.length gc,.slice sa ss.length sc,.int .i64 nx,.int .i64 la,.int .i64 ro,.int .i64 now] 28):=⟨_,rfl⟩
 obtain⟨P,N⟩: ∃P,P=J.alloc (.cells #[.slice ea fos.length ec,.slice ka gs.length kc,.slice ya ss.length yc,.int .i64 nx,.int .i64 la,.int .i64 ro,.int .i64 now] 28):=⟨_,rfl⟩
 have CG:J.heap.size=w.heap.size+1:=by rw[I];simp
 have CC:Below w.heap.size w J:=by rw[I];exact(Below.refl _ _).alloc (Nat.le_refl _) _
 have V:Below J.heap.size J P:=by rw[N];exact(Below.refl _ _).alloc (Nat.le_refl _) _
 have C4:Below w.heap.size w P:=af CC V;have j:Hid (Cs P w.heap.size [.slice X fos.length Y,.slice ga gs.length gc,.slice sa ss.length sc,.int .i64 nx,.int .i64 la,.int .i64 ro,.int .i64 now]):=((by rw[I];exact Cs.new w [.slice X fos.length Y,.slice ga gs.length gc,.slice sa ss.length sc,.int .i64 nx,.int .i64 la,.int .i64 ro,.int .i64 now] _:Cs J w.heap.size [.slice X fos.length Y,.slice ga gs.length gc,.slice sa ss.length sc,.int .i64 nx,.int .i64 la,.int .i64 ro,.int .i64 now]).below V:Cs P w.heap.size _)
 have y:Hid (Cs P (w.heap.size+1) [.slice ea fos.length ec,.slice ka gs.length kc,.slice ya ss.length yc,.int .i64 nx,.int .i64 la,.int .i64 ro,.int .i64 now]):=(by rw[←CG,N];exact Cs.new J [.slice ea fos.length ec,.slice ka gs.length kc,.slice ya ss.length yc,.int .i64 nx,.int .i64 la,.int .i64 ro,.int .i64 now] _:Cs P (w.heap.size+1) _)
 have S:(w.alloc (.cells #[.slice X fos.length Y,.slice ga gs.length gc,.slice sa ss.length sc,.int .i64 nx,.int .i64 la,.int .i64 ro,.int .i64 now] 28)).alloc (.cells #[.slice ea fos.length ec,.slice ka gs.length kc,.slice ya ss.length yc,.int .i64 nx,.int .i64 la,.int .i64 ro,.int .i64 now] 28)=P:=by rw[N,I]
 have C9:=hid S;clear I N CC V CG S;have x0:=j.out.cell 0 rfl;have aD:=j.out.cell 1 rfl;have x2:=j.out.cell 2 rfl;have x3:=j.out.cell 3 rfl;have x4:=j.out.cell 4 rfl;have x5:=j.out.cell 5 rfl;have x6:=j.out.cell 6 rfl;have y0:=y.out.cell 0 rfl;have y1:=y.out.cell 1 rfl;have y2:=y.out.cell 2 rfl;have y3:=y.out.cell 3 rfl;have y4:=y.out.cell 4 rfl;have y5:=y.out.cell 5 rfl;have y6:=y.out.cell 6 rfl;go_enter func26,ntmps26
 go_upto_region 1 with fail;rw[C9.out];clear C9;go_wp2_with fail;refine(xu gs _ _ _ (CO.out.below C4) (CM.out.below C4)).mono ?_
 rintro e w1 ⟨rfl,Z⟩;have G:=af C4 Z;have z:=hid (j.out.below Z);have A:=hid (y.out.below Z);clear x0 aD x2 x3 x4 x5 x6 y0 y1 y2 y3 y4 y5 y6;have x0:=z.out.cell 0 rfl;have aD:=z.out.cell 1 rfl;have x2:=z.out.cell 2 rfl;have x3:=z.out.cell 3 rfl;have x4:=z.out.cell 4 rfl;have x5:=z.out.cell 5 rfl;have x6:=z.out.cell 6 rfl;have y0:=A.out.cell 0 rfl;have y1:=A.out.cell 1 rfl;have y2:=A.out.cell 2 rfl;have y3:=A.out.cell 3 rfl;have y4:=A.out.cell 4 rfl;have y5:=A.out.cell 5 rfl;have y6:=A.out.cell 6 rfl;go_wp2_with fail;refine(BG ss _ _ nx la ro _ (CP.out.below G) (CN.out.below G)).mono ?_
 rintro e w2 ⟨rfl,C3⟩;have Q:=af G C3;have d:=hid (z.out.below C3);have f:=hid (A.out.below C3);clear x0 aD x2 x3 x4 x5 x6 y0 y1 y2 y3 y4 y5 y6;have x0:=d.out.cell 0 rfl;have aD:=d.out.cell 1 rfl;have x2:=d.out.cell 2 rfl;have x3:=d.out.cell 3 rfl;have x4:=d.out.cell 4 rfl;have x5:=d.out.cell 5 rfl;have x6:=d.out.cell 6 rfl;have y0:=f.out.cell 0 rfl;have y1:=f.out.cell 1 rfl;have y2:=f.out.cell 2 rfl;have y3:=f.out.cell 3 rfl;have y4:=f.out.cell 4 rfl;have y5:=f.out.cell 5 rfl;have y6:=f.out.cell 6 rfl;go_wp2_with fail;go_loopw [5] (fun i wr=> ∃k:Nat,k≤fos.length∧i= .int .i64 k∧Hid (Cs wr w.heap.size [.slice X fos.length Y,.slice ga gs.length gc,.slice sa ss.length sc,.int .i64 nx,.int .i64 la,.int .i64 ro,.int .i64 now])∧Hid (Cs wr (w.heap.size+1) [.slice ea fos.length ec,.slice ka gs.length kc,.slice ya ss.length yc,.int .i64 nx,.int .i64 la,.int .i64 ro,.int .i64 now])∧Below w.heap.size w wr) (fun i _=>fos.length-(intOf i).toNat)
 case atStart=>exact⟨0,Nat.zero_le _,rfl,d,f,Q⟩
 case round=>
  clear x0 aD x2 x3 x4 x5 x6 y0 y1 y2 y3 y4 y5 y6 d f Q;obtain⟨k,hk,rfl,T,U,E⟩:=hrel
  have x0:=T.out.cell 0 rfl;have y0:=U.out.cell 0 rfl;have CX:=T.out.lt;have CY:=U.out.lt;by_cases CF:k<fos.length
  · obtain⟨b,o,rfl,hb,he⟩:=HL.out k CF
    obtain⟨K,O,rfl,CS,CE⟩:=CL.out k CF
    obtain⟨c0,cu,cx,c1,c2,c3,C5,C6⟩:=he.below hb E
    obtain⟨d0,du,dx,d1,d2,d3,C7,C8⟩:=CE.below CS E
    have D3:=E.size;have M:b<wr.heap.size:=by omega
    have F:K<wr.heap.size:=by omega
    have CW:(k:Int)<fos.length:=by omega
    clear he CE;generalize fos[k]=ck at*;obtain⟨na,⟨jb,jf,jc⟩⟩:=ck
    simp only at c0 c1 c2 c3 C5 C6 d0 d1 d2 d3 C7 C8;have CH:=hid C5;have CI:=hid C6;have CJ:=hid C7;have CK:=hid C8;obtain⟨a1,b1,rfl,_⟩:=C5
    obtain⟨a2,b2,rfl,_⟩:=C6
    obtain⟨a3,cg,rfl,_⟩:=C7
    obtain⟨a4,b4,rfl,_⟩:=C8
    go_wp2_with fail
    go_region_held3 (fun W=>W.cell? ⟨w.heap.size,0,none⟩=some (.slice (some ⟨b,o,none⟩) fos.length Y)∧W.cell? ⟨w.heap.size+1,0,none⟩=some (.slice (some ⟨K,O,none⟩) fos.length ec)∧W.cell? ⟨b,o+k*4,none⟩=some (.string na)∧W.cell? ⟨b,o+k*4+1,none⟩=some (.slice a1 jb.length b1)∧W.cell? ⟨b,o+k*4+2,none⟩=some (.int .i64 jf)∧W.cell? ⟨b,o+k*4+3,none⟩=some (.slice a2 jc.length b2)∧W.cell? ⟨K,O+k*4,none⟩=some (.string na)∧W.cell? ⟨K,O+k*4+1,none⟩=some (.slice a3 jb.length cg)∧W.cell? ⟨K,O+k*4+2,none⟩=some (.int .i64 jf)∧W.cell? ⟨K,O+k*4+3,none⟩=some (.slice a4 jc.length b4)) (go_keep) (first
     |(go_at_call 71;refine(BF ⟨jb,jf,jc⟩ _ _ _ ⟨_,_,rfl,CH.out.below (Below.refl _ _).drew,CI.out.below (Below.refl _ _).drew⟩ ⟨_,_,rfl,CJ.out.below (Below.refl _ _).drew,CK.out.below (Below.refl _ _).drew⟩).mono ?_;rintro e J ⟨rfl,CU⟩;have a:Below wr.heap.size wr J:=((Below.refl _ _).drew).trans CU;have j0:=(a.cell (p:=⟨w.heap.size,0,none⟩) CX).trans x0;have j1:=(a.cell (p:=⟨w.heap.size+1,0,none⟩) CY).trans y0;have k0:=(a.cell (p:=⟨b,o+k*4,none⟩) M).trans c0;have k1:=(a.cell (p:=⟨b,o+k*4+1,none⟩) M).trans c1;have k2:=(a.cell (p:=⟨b,o+k*4+2,none⟩) M).trans c2;have k3:=(a.cell (p:=⟨b,o+k*4+3,none⟩) M).trans c3;have l0:=(a.cell (p:=⟨K,O+k*4,none⟩) F).trans d0;have l1:=(a.cell (p:=⟨K,O+k*4+1,none⟩) F).trans d1;have l2:=(a.cell (p:=⟨K,O+k*4+2,none⟩) F).trans d2;have l3:=(a.cell (p:=⟨K,O+k*4+3,none⟩) F).trans d3))
    have CT:=af E a;have CQ:=hid (T.out.below a);have CR:=hid (U.out.below a);go_wp2_with fail;go_roundw
    case rel=>exact⟨k+1,by omega,by simp,CQ,CR,CT⟩
    case measure=>simp[intOf];omega
  · have CW: ¬(k:Int)<fos.length:=by omega
    go_wp2_with fail;go_ret;exact⟨rfl,E⟩
theorem tj (H:Hb) (l:List Cn) (v u:Value) (w:World) (hv:di w v ⟨H,l,[]⟩) (hu:di w u ⟨H,l,[]⟩):
    Calls prog 13 #[v,u] w fun e w'=>e= .returned (.bool true)∧Below w.heap.size w w':=by
 obtain⟨vf,vg,ag,vc,vl,rfl,⟨lf,lg,aG⟩,lc,ll⟩:=hv
 obtain⟨uf,ug,us,uc,ul,rfl,⟨mf,mg,ms⟩,mc,ml⟩:=hu
 simp only at lf lg aG lc ll mf mg ms mc ml;have C3:=hid (show cp w (.agg #[vf,vg,ag,.int .i64 H.nx,.int .i64 H.la,.int .i64 H.ro,.int .i64 H.now]) H from⟨vf,vg,ag,rfl,lf,lg,aG⟩);have C4:=hid (show cp w (.agg #[uf,ug,us,.int .i64 H.nx,.int .i64 H.la,.int .i64 H.ro,.int .i64 H.now]) H from⟨uf,ug,us,rfl,mf,mg,ms⟩);obtain⟨fa,fc,rfl,_⟩:=lf
 obtain⟨ga,gc,rfl,_⟩:=lg
 obtain⟨sa,sc,rfl,_⟩:=aG
 obtain⟨fb,fd,rfl,_⟩:=mf
 obtain⟨gb,gd,rfl,_⟩:=mg
 obtain⟨sb,sd,rfl,_⟩:=ms
 obtain⟨V,Z,rfl,_,CP,hL⟩:=lc
 obtain⟨Y,xd,rfl,_,_,C7⟩:=mc
 have HL:Hid (∀i (h:i<l.length),∃b o,V=some ⟨b,o,none⟩∧b<w.heap.size∧en w b (o+i*8) l[i]):=hL;have CE:Hid (∀i (h:i<l.length),∃b o,Y=some ⟨b,o,none⟩∧b<w.heap.size∧en w b (o+i*8) l[i]):=C7;obtain⟨ya,yc,rfl⟩:=ll.shape
 obtain⟨yb,yd,rfl⟩:=ml.shape
 simp only[List.length_nil];clear ll ml hL C7;obtain⟨I,G⟩: ∃I,I=w.alloc (.cells #[.slice fa H.fos.length fc,.slice ga H.gs.length gc,.slice sa H.ss.length sc,.int .i64 H.nx,.int .i64 H.la,.int .i64 H.ro,.int .i64 H.now,.slice V l.length Z,.slice ya 0 yc] 32):=⟨_,rfl⟩
 obtain⟨U,M⟩: ∃U,U=I.alloc (.cells #[.slice fb H.fos.length fd,.slice gb H.gs.length gd,.slice sb H.ss.length sd,.int .i64 H.nx,.int .i64 H.la,.int .i64 H.ro,.int .i64 H.now,.slice Y l.length xd,.slice yb 0 yd] 32):=⟨_,rfl⟩
 have CC:I.heap.size=w.heap.size+1:=by rw[G];simp
 have C6:Below w.heap.size w I:=by rw[G];exact(Below.refl _ _).alloc (Nat.le_refl _) _
 have Q:Below I.heap.size I U:=by rw[M];exact(Below.refl _ _).alloc (Nat.le_refl _) _
 have T:Below w.heap.size w U:=af C6 Q;have N:=hid ((show Cs I w.heap.size [.slice fa H.fos.length fc,.slice ga H.gs.length gc,.slice sa H.ss.length sc,.int .i64 H.nx,.int .i64 H.la,.int .i64 H.ro,.int .i64 H.now,.slice V l.length Z,.slice ya 0 yc] by rw[G];exact Cs.new w [.slice fa H.fos.length fc,.slice ga H.gs.length gc,.slice sa H.ss.length sc,.int .i64 H.nx,.int .i64 H.la,.int .i64 H.ro,.int .i64 H.now,.slice V l.length Z,.slice ya 0 yc] _).below Q);have O:=hid (show Cs U (w.heap.size+1) [.slice fb H.fos.length fd,.slice gb H.gs.length gd,.slice sb H.ss.length sd,.int .i64 H.nx,.int .i64 H.la,.int .i64 H.ro,.int .i64 H.now,.slice Y l.length xd,.slice yb 0 yd] by rw[←CC,M];exact Cs.new I [.slice fb H.fos.length fd,.slice gb H.gs.length gd,.slice sb H.ss.length sd,.int .i64 H.nx,.int .i64 H.la,.int .i64 H.ro,.int .i64 H.now,.slice Y l.length xd,.slice yb 0 yd] _);have C5:=hid (show(w.alloc (.cells #[.slice fa H.fos.length fc,.slice ga H.gs.length gc,.slice sa H.ss.length sc,.int .i64 H.nx,.int .i64 H.la,.int .i64 H.ro,.int .i64 H.now,.slice V l.length Z,.slice ya 0 yc] 32)).alloc (.cells #[.slice fb H.fos.length fd,.slice gb H.gs.length gd,.slice sb H.ss.length sd,.int .i64 H.nx,.int .i64 H.la,.int .i64 H.ro,.int .i64 H.now,.slice Y l.length xd,.slice yb 0 yd] 32)=U by rw[M,G]);clear G M C6 Q CC;go_enter func13,ntmps13
 go_upto_region 1 with fail;rw[C5.out];clear C5;have x0:=N.out.cell 0 rfl;have aD:=N.out.cell 1 rfl;have x2:=N.out.cell 2 rfl;have x3:=N.out.cell 3 rfl;have x4:=N.out.cell 4 rfl;have x5:=N.out.cell 5 rfl;have x6:=N.out.cell 6 rfl;have y0:=O.out.cell 0 rfl;have y1:=O.out.cell 1 rfl;have y2:=O.out.cell 2 rfl;have y3:=O.out.cell 3 rfl;have y4:=O.out.cell 4 rfl;have y5:=O.out.cell 5 rfl;have y6:=O.out.cell 6 rfl;go_wp2_with fail;refine(Cu H _ _ _ (C3.out.below T) (C4.out.below T)).mono ?_
 rintro e w1 ⟨rfl,S⟩;have P:=af T S;have J:=hid (N.out.below S);have K:=hid (O.out.below S);clear x0 aD x2 x3 x4 x5 x6 y0 y1 y2 y3 y4 y5 y6 C3 C4;have x7:=J.out.cell 7 rfl;have x8:=J.out.cell 8 rfl;have y7:=K.out.cell 7 rfl;have y8:=K.out.cell 8 rfl;go_wp2_with fail;go_loopw [5] (fun i wr=> ∃k:Nat,k≤l.length∧i= .int .i64 k∧Hid (Cs wr w.heap.size [.slice fa H.fos.length fc,.slice ga H.gs.length gc,.slice sa H.ss.length sc,.int .i64 H.nx,.int .i64 H.la,.int .i64 H.ro,.int .i64 H.now,.slice V l.length Z,.slice ya 0 yc])∧Hid (Cs wr (w.heap.size+1) [.slice fb H.fos.length fd,.slice gb H.gs.length gd,.slice sb H.ss.length sd,.int .i64 H.nx,.int .i64 H.la,.int .i64 H.ro,.int .i64 H.now,.slice Y l.length xd,.slice yb 0 yd])∧Below w.heap.size w wr) (fun i _=>l.length-(intOf i).toNat)
 case atStart=>exact⟨0,Nat.zero_le _,rfl,J,K,P⟩
 case round=>
  clear x7 x8 y7 y8 J K P;obtain⟨k,hk,rfl,A,E,f⟩:=hrel
  have x7:=A.out.cell 7 rfl;have y7:=E.out.cell 7 rfl;have CN:=A.out.lt;have CO:=E.out.lt;by_cases C9:k<l.length
  · obtain⟨b,o,rfl,hb,he⟩:=HL.out k C9
    obtain⟨j,z,rfl,CJ,C8⟩:=CE.out k C9
    obtain⟨vb,vm,va,c0,c1,c2,c3,c4,c5,c6,c7,l1,l2,l3⟩:=he.below hb f
    obtain⟨ub,um,ua,d0,d1,d2,d3,d4,d5,d6,d7,m1,m2,m3⟩:=C8.below CJ f
    have CQ:=f.size;have y:b<wr.heap.size:=by omega
    have d:j<wr.heap.size:=by omega
    have CM:(k:Int)<l.length:=by omega
    clear he C8;generalize l[k]=ck at*;obtain⟨who,fo,base,cur,mine,key,ask,keys⟩:=ck
    simp only at c0 c1 c2 c3 c4 c5 c6 c7 l1 l2 l3 d0 d1 d2 d3 d4 d5 d6 d7 m1 m2 m3;have CF:=hid (show dD wr (.agg #[.string who,.string fo,vb,.int .i64 cur,vm,.string key,va,.int .i64 keys]) ⟨who,fo,base,cur,mine,key,ask,keys⟩from⟨_,_,_,rfl,l1,l2,l3⟩);have CG:=hid (show dD wr (.agg #[.string who,.string fo,ub,.int .i64 cur,um,.string key,ua,.int .i64 keys]) ⟨who,fo,base,cur,mine,key,ask,keys⟩from⟨_,_,_,rfl,m1,m2,m3⟩);obtain⟨ay,e2,rfl,_⟩:=l1
    obtain⟨n1,n2,rfl,_⟩:=l2
    obtain⟨q1,bP,rfl,_⟩:=l3
    obtain⟨e3,e4,rfl,_⟩:=m1
    obtain⟨n3,n4,rfl,_⟩:=m2
    obtain⟨q3,q4,rfl,_⟩:=m3
    go_wp2_with fail
    go_region_held3 (fun W=>W.cell? ⟨w.heap.size,7,none⟩=some (.slice (some ⟨b,o,none⟩) l.length Z)∧W.cell? ⟨w.heap.size+1,7,none⟩=some (.slice (some ⟨j,z,none⟩) l.length xd)∧W.cell? ⟨b,o+k*8,none⟩=some (.string who)∧W.cell? ⟨b,o+k*8+1,none⟩=some (.string fo)∧W.cell? ⟨b,o+k*8+2,none⟩=some (.slice ay base.length e2)∧W.cell? ⟨b,o+k*8+3,none⟩=some (.int .i64 cur)∧W.cell? ⟨b,o+k*8+4,none⟩=some (.slice n1 mine.length n2)∧W.cell? ⟨b,o+k*8+5,none⟩=some (.string key)∧W.cell? ⟨b,o+k*8+6,none⟩=some (.slice q1 ask.length bP)∧W.cell? ⟨b,o+k*8+7,none⟩=some (.int .i64 keys)∧W.cell? ⟨j,z+k*8,none⟩=some (.string who)∧W.cell? ⟨j,z+k*8+1,none⟩=some (.string fo)∧W.cell? ⟨j,z+k*8+2,none⟩=some (.slice e3 base.length e4)∧W.cell? ⟨j,z+k*8+3,none⟩=some (.int .i64 cur)∧W.cell? ⟨j,z+k*8+4,none⟩=some (.slice n3 mine.length n4)∧W.cell? ⟨j,z+k*8+5,none⟩=some (.string key)∧W.cell? ⟨j,z+k*8+6,none⟩=some (.slice q3 ask.length q4)∧W.cell? ⟨j,z+k*8+7,none⟩=some (.int .i64 keys)) (go_keep) (first
     |(go_at_call 27;refine(vS ⟨who,fo,base,cur,mine,key,ask,keys⟩ _ _ _ (CF.out.below (Below.refl _ _).drew) (CG.out.below (Below.refl _ _).drew)).mono ?_;rintro e I ⟨rfl,CL⟩;have a:Below wr.heap.size wr I:=((Below.refl _ _).drew).trans CL;have j0:=(a.cell (p:=⟨w.heap.size,7,none⟩) CN).trans x7;have j1:=(a.cell (p:=⟨w.heap.size+1,7,none⟩) CO).trans y7;have k0:=(a.cell (p:=⟨b,o+k*8,none⟩) y).trans c0;have k1:=(a.cell (p:=⟨b,o+k*8+1,none⟩) y).trans c1;have k2:=(a.cell (p:=⟨b,o+k*8+2,none⟩) y).trans c2;have k3:=(a.cell (p:=⟨b,o+k*8+3,none⟩) y).trans c3;have k4:=(a.cell (p:=⟨b,o+k*8+4,none⟩) y).trans c4;have k5:=(a.cell (p:=⟨b,o+k*8+5,none⟩) y).trans c5;have k6:=(a.cell (p:=⟨b,o+k*8+6,none⟩) y).trans c6;have k7:=(a.cell (p:=⟨b,o+k*8+7,none⟩) y).trans c7;have l0:=(a.cell (p:=⟨j,z+k*8,none⟩) d).trans d0;have l1:=(a.cell (p:=⟨j,z+k*8+1,none⟩) d).trans d1;have l2:=(a.cell (p:=⟨j,z+k*8+2,none⟩) d).trans d2;have l3:=(a.cell (p:=⟨j,z+k*8+3,none⟩) d).trans d3;have l4:=(a.cell (p:=⟨j,z+k*8+4,none⟩) d).trans d4;have l5:=(a.cell (p:=⟨j,z+k*8+5,none⟩) d).trans d5;have l6:=(a.cell (p:=⟨j,z+k*8+6,none⟩) d).trans d6;have l7:=(a.cell (p:=⟨j,z+k*8+7,none⟩) d).trans d7))
    have CK:=af f a;have CH:=hid (A.out.below a);have CI:=hid (E.out.below a);go_wp2_with fail;go_roundw
    case rel=>exact⟨k+1,by omega,by simp,CH,CI,CK⟩
    case measure=>simp[intOf];omega
  · have CM: ¬(k:Int)<l.length:=by omega
    obtain⟨w0,F⟩: ∃X,X=wr:=⟨_,rfl⟩
    have CD:=hid (show Below w.heap.size w w0 by rw[F];exact f);have x8:w0.cell? ⟨w.heap.size,8,none⟩=some (.slice ya 0 yc):=by rw[F];exact A.out.cell 8 rfl
    have y8:w0.cell? ⟨w.heap.size+1,8,none⟩=some (.slice yb 0 yd):=by rw[F];exact E.out.cell 8 rfl
    go_wp2_with fail;rw[←F];clear F x7 y7 f A E;go_loopw [6] (fun i wr=>i= .int .i64 0∧wr=w0) (fun _ _=>0)
    case atStart=>exact⟨rfl,rfl⟩
    case round=>
     obtain⟨rfl,rfl⟩:=hrel
     go_wp2_with fail;go_ret;exact⟨rfl,CD.out⟩
theorem Cv (E:Int) (H:Hb) (l:List Cn) (v u:Value) (w:World) (hv:di w v (ie E ⟨H,l,[]⟩)) (hu:di w u ⟨H,l,[]⟩):
    Calls prog 6 #[v,.int .i64 E,.int .i64 E,u] w fun e w'=>e= .returned (.bool true)∧Below w.heap.size w w':=by
 by_cases h0:E=0
 · subst h0
   rw[ie,if_pos rfl]at hv;have HV:=hid hv;have HU:=hid hu;obtain⟨vf,vg,ag,vc,vl,rfl,⟨lf,lg,aG⟩,lc,ll⟩:=hv
   obtain⟨uf,ug,us,uc,ul,rfl,⟨mf,mg,ms⟩,mc,ml⟩:=hu
   simp only at lf lg aG lc ll mf mg ms mc ml HV HU⊢;obtain⟨N,P,rfl,_⟩:=lf
   obtain⟨S,U,rfl,_⟩:=lg
   obtain⟨sa,sc,rfl,_⟩:=aG
   obtain⟨O,Q,rfl,_⟩:=mf
   obtain⟨T,V,rfl,_⟩:=mg
   obtain⟨sb,sd,rfl,_⟩:=ms
   obtain⟨xa,xc,rfl⟩:=lc.shape
   obtain⟨xb,xd,rfl⟩:=mc.shape
   obtain⟨ya,yc,rfl⟩:=ll.shape
   obtain⟨yb,yd,rfl⟩:=ml.shape
   simp only[List.length_nil]at HV HU⊢;clear lc mc ll ml;obtain⟨y,d⟩: ∃y,y=w.alloc (.cells #[.slice N H.fos.length P,.slice S H.gs.length U,.slice sa H.ss.length sc,.int .i64 H.nx,.int .i64 H.la,.int .i64 H.ro,.int .i64 H.now,.slice xa l.length xc,.slice ya 0 yc] 32):=⟨_,rfl⟩
   obtain⟨A,o⟩: ∃A,A=y.alloc (.cells #[.slice O H.fos.length Q,.slice T H.gs.length V,.slice sb H.ss.length sd,.int .i64 H.nx,.int .i64 H.la,.int .i64 H.ro,.int .i64 H.now,.slice xb l.length xd,.slice yb 0 yd] 32):=⟨_,rfl⟩
   have M:y.heap.size=w.heap.size+1:=by rw[d];simp
   have I:Below w.heap.size w y:=by rw[d];exact(Below.refl _ _).alloc (Nat.le_refl _) _
   have z:Below y.heap.size y A:=by rw[o];exact(Below.refl _ _).alloc (Nat.le_refl _) _
   have K:Below w.heap.size w A:=af I z;have G:=hid ((show Cs y w.heap.size [.slice N H.fos.length P,.slice S H.gs.length U,.slice sa H.ss.length sc,.int .i64 H.nx,.int .i64 H.la,.int .i64 H.ro,.int .i64 H.now,.slice xa l.length xc,.slice ya 0 yc] by rw[d];exact Cs.new w [.slice N H.fos.length P,.slice S H.gs.length U,.slice sa H.ss.length sc,.int .i64 H.nx,.int .i64 H.la,.int .i64 H.ro,.int .i64 H.now,.slice xa l.length xc,.slice ya 0 yc] _).below z);have a:=hid (show Cs A (w.heap.size+1) [.slice O H.fos.length Q,.slice T H.gs.length V,.slice sb H.ss.length sd,.int .i64 H.nx,.int .i64 H.la,.int .i64 H.ro,.int .i64 H.now,.slice xb l.length xd,.slice yb 0 yd] by rw[←M,o];exact Cs.new y [.slice O H.fos.length Q,.slice T H.gs.length V,.slice sb H.ss.length sd,.int .i64 H.nx,.int .i64 H.la,.int .i64 H.ro,.int .i64 H.now,.slice xb l.length xd,.slice yb 0 yd] _);have F:=hid (show(w.alloc (.cells #[.slice N H.fos.length P,.slice S H.gs.length U,.slice sa H.ss.length sc,.int .i64 H.nx,.int .i64 H.la,.int .i64 H.ro,.int .i64 H.now,.slice xa l.length xc,.slice ya 0 yc] 32)).alloc (.cells #[.slice O H.fos.length Q,.slice T H.gs.length V,.slice sb H.ss.length sd,.int .i64 H.nx,.int .i64 H.la,.int .i64 H.ro,.int .i64 H.now,.slice xb l.length xd,.slice yb 0 yd] 32)=A by rw[o,d]);clear d o I z M;go_enter func6,ntmps6
   go_upto_region 1 with fail;rw[F.out];clear F;have x0:=G.out.cell 0 rfl;have aD:=G.out.cell 1 rfl;have x2:=G.out.cell 2 rfl;have x3:=G.out.cell 3 rfl;have x4:=G.out.cell 4 rfl;have x5:=G.out.cell 5 rfl;have x6:=G.out.cell 6 rfl;have x7:=G.out.cell 7 rfl;have x8:=G.out.cell 8 rfl;have y0:=a.out.cell 0 rfl;have y1:=a.out.cell 1 rfl;have y2:=a.out.cell 2 rfl;have y3:=a.out.cell 3 rfl;have y4:=a.out.cell 4 rfl;have y5:=a.out.cell 5 rfl;have y6:=a.out.cell 6 rfl;have y7:=a.out.cell 7 rfl;have y8:=a.out.cell 8 rfl;go_wp2_with fail;refine(tj H l _ _ _ (HV.out.below K) (HU.out.below K)).mono ?_
   rintro e w1 ⟨rfl,C4⟩;have J:=af K C4;go_wp2_with fail;go_ret;exact⟨rfl,J⟩
 · rw[ie,if_neg h0]at hv
   have hz:(E !=0)=true:=by simpa using h0
   have HV:=hid hv;obtain⟨vf,vg,ag,vc,vl,rfl,⟨lf,lg,aG⟩,lc,ll⟩:=hv
   obtain⟨uf,ug,us,uc,ul,rfl,⟨mf,mg,ms⟩,mc,ml⟩:=hu
   simp only[lZ,lY]at lf lg aG lc ll mf mg ms mc ml HV⊢;obtain⟨N,P,rfl,_⟩:=lf
   obtain⟨S,U,rfl,_⟩:=lg
   obtain⟨sa,sc,rfl,_⟩:=aG
   obtain⟨O,Q,rfl,_⟩:=mf
   obtain⟨T,V,rfl,_⟩:=mg
   obtain⟨sb,sd,rfl,_⟩:=ms
   obtain⟨xa,xc,rfl⟩:=lc.shape
   obtain⟨xb,xd,rfl⟩:=mc.shape
   obtain⟨ya,yc,rfl⟩:=ll.shape
   obtain⟨yb,yd,rfl⟩:=ml.shape
   simp only[List.length_nil]at HV⊢;clear lc mc ll ml;obtain⟨y,d⟩: ∃y,y=w.alloc (.cells #[.slice N 0 P,.slice S 0 U,.slice sa 0 sc,.int .i64 0,.int .i64 0,.int .i64 0,.int .i64 0,.slice xa 0 xc,.slice ya 0 yc] 32):=⟨_,rfl⟩
   obtain⟨A,o⟩: ∃A,A=y.alloc (.cells #[.slice O H.fos.length Q,.slice T H.gs.length V,.slice sb H.ss.length sd,.int .i64 H.nx,.int .i64 H.la,.int .i64 H.ro,.int .i64 H.now,.slice xb l.length xd,.slice yb 0 yd] 32):=⟨_,rfl⟩
   have M:y.heap.size=w.heap.size+1:=by rw[d];simp
   have I:Below w.heap.size w y:=by rw[d];exact(Below.refl _ _).alloc (Nat.le_refl _) _
   have z:Below y.heap.size y A:=by rw[o];exact(Below.refl _ _).alloc (Nat.le_refl _) _
   have K:Below w.heap.size w A:=af I z;have G:=hid ((show Cs y w.heap.size [.slice N 0 P,.slice S 0 U,.slice sa 0 sc,.int .i64 0,.int .i64 0,.int .i64 0,.int .i64 0,.slice xa 0 xc,.slice ya 0 yc] by rw[d];exact Cs.new w [.slice N 0 P,.slice S 0 U,.slice sa 0 sc,.int .i64 0,.int .i64 0,.int .i64 0,.int .i64 0,.slice xa 0 xc,.slice ya 0 yc] _).below z);have a:=hid (show Cs A (w.heap.size+1) [.slice O H.fos.length Q,.slice T H.gs.length V,.slice sb H.ss.length sd,.int .i64 H.nx,.int .i64 H.la,.int .i64 H.ro,.int .i64 H.now,.slice xb l.length xd,.slice yb 0 yd] by rw[←M,o];exact Cs.new y [.slice O H.fos.length Q,.slice T H.gs.length V,.slice sb H.ss.length sd,.int .i64 H.nx,.int .i64 H.la,.int .i64 H.ro,.int .i64 H.now,.slice xb l.length xd,.slice yb 0 yd] _);have F:=hid (show(w.alloc (.cells #[.slice N 0 P,.slice S 0 U,.slice sa 0 sc,.int .i64 0,.int .i64 0,.int .i64 0,.int .i64 0,.slice xa 0 xc,.slice ya 0 yc] 32)).alloc (.cells #[.slice O H.fos.length Q,.slice T H.gs.length V,.slice sb H.ss.length sd,.int .i64 H.nx,.int .i64 H.la,.int .i64 H.ro,.int .i64 H.now,.slice xb l.length xd,.slice yb 0 yd] 32)=A by rw[o,d]);clear d o I z M;obtain⟨w2,Z⟩: ∃X,X=(((((((((A.setCell ⟨(w.heap.size+1),0,none⟩ (.slice none 0 0)).setCell ⟨(w.heap.size+1),1,none⟩ (.slice none 0 0)).setCell ⟨(w.heap.size+1),2,none⟩ (.slice none 0 0)).setCell ⟨(w.heap.size+1),3,none⟩ (.int .i64 0)).setCell ⟨(w.heap.size+1),4,none⟩ (.int .i64 0)).setCell ⟨(w.heap.size+1),5,none⟩ (.int .i64 0)).setCell ⟨(w.heap.size+1),6,none⟩ (.int .i64 0)).setCell ⟨(w.heap.size+1),7,none⟩ (.slice none 0 0)).setCell ⟨(w.heap.size+1),8,none⟩ (.slice none 0 0)):=⟨_,rfl⟩
   have Y:=jh a.out (.slice none 0 0) (.slice none 0 0) (.slice none 0 0) (.int .i64 0) (.int .i64 0) (.int .i64 0) (.int .i64 0) (.slice none 0 0) (.slice none 0 0);rw[←Z]at Y;have f:=hid (G.out.nb Y.2 (by omega));have j:=hid Y.1;have C3:Below w.heap.size w w2:=by rw[Z];exact(((((((((K.setCell (p:=⟨w.heap.size+1,0,none⟩) (Nat.le_succ _) _).setCell (p:=⟨w.heap.size+1,1,none⟩) (Nat.le_succ _) _).setCell (p:=⟨w.heap.size+1,2,none⟩) (Nat.le_succ _) _).setCell (p:=⟨w.heap.size+1,3,none⟩) (Nat.le_succ _) _).setCell (p:=⟨w.heap.size+1,4,none⟩) (Nat.le_succ _) _).setCell (p:=⟨w.heap.size+1,5,none⟩) (Nat.le_succ _) _).setCell (p:=⟨w.heap.size+1,6,none⟩) (Nat.le_succ _) _).setCell (p:=⟨w.heap.size+1,7,none⟩) (Nat.le_succ _) _).setCell (p:=⟨w.heap.size+1,8,none⟩) (Nat.le_succ _) _)
   have y0:=a.out.cell 0 rfl;have y1:=a.out.cell 1 rfl;have y2:=a.out.cell 2 rfl;have y3:=a.out.cell 3 rfl;have y4:=a.out.cell 4 rfl;have y5:=a.out.cell 5 rfl;have y6:=a.out.cell 6 rfl;have y7:=a.out.cell 7 rfl;have y8:=a.out.cell 8 rfl;have f0:=a.out.fr 0;have f1:=a.out.fr 1;have f2:=a.out.fr 2;have f3:=a.out.fr 3;have f4:=a.out.fr 4;have f5:=a.out.fr 5;have f6:=a.out.fr 6;have f7:=a.out.fr 7;have f8:=a.out.fr 8;clear Y;go_enter func6,ntmps6
   go_upto_region 1 with fail;rw[F.out];clear F;go_upto_region 3 with fail;rw[←Z];clear Z y0 y1 y2 y3 y4 y5 y6 y7 y8 f0 f1 f2 f3 f4 f5 f6 f7 f8;have x0:=f.out.cell 0 rfl;have aD:=f.out.cell 1 rfl;have x2:=f.out.cell 2 rfl;have x3:=f.out.cell 3 rfl;have x4:=f.out.cell 4 rfl;have x5:=f.out.cell 5 rfl;have x6:=f.out.cell 6 rfl;have x7:=f.out.cell 7 rfl;have x8:=f.out.cell 8 rfl;have y0:=j.out.cell 0 rfl;have y1:=j.out.cell 1 rfl;have y2:=j.out.cell 2 rfl;have y3:=j.out.cell 3 rfl;have y4:=j.out.cell 4 rfl;have y5:=j.out.cell 5 rfl;have y6:=j.out.cell 6 rfl;have y7:=j.out.cell 7 rfl;have y8:=j.out.cell 8 rfl;go_wp2_with fail;refine(tj lY [] _ _ _ (HV.out.below C3) (sJ _)).mono ?_
   rintro e w1 ⟨rfl,C4⟩;have J:=af C3 C4;go_wp2_with fail;go_ret;exact⟨rfl,J⟩
end Go.Proofs.YtgamnckfmmbjdaaGreatDoor
