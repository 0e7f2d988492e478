/- What the reference's CheckHub answers: the very errno that Check does. -/
import Derived.Test.YtgamnckfmmbjdaaGreatDoorWGZK
import Derived.Test.YtgamnckfmmbjdaaGreatDoorWGP
set_option linter.unusedSimpArgs false
set_option linter.unusedVariables false
namespace Go.Proofs.YtgamnckfmmbjdaaGreatDoor
open Go.RowKit Go.Proofs.Tryz
set_option maxHeartbeats 16000000
set_option maxRecDepth 100000
theorem Cm {x:ByteArray} (h:az x.data.toList=false):bf [x]=1:=by rw[bf];simp[h]
theorem Cp {x:ByteArray} (h:az x.data.toList=true):bf [x]=0:=by rw[bf];simp[h]
theorem Hu.lt_flip {s t:Sh} (h:Hu.lt s t=true):Op.bytesLess t.na.toList s.na.toList=false∧(t.na.toList==s.na.toList)=false:=by
 rw[lK]at h;have h:=of_decide_eq_true h;rw[jU,Lib.toList_data,Lib.toList_data,iL s.na.data.toList t.na.data.toList];refine⟨decide_eq_false (by omega),?_⟩
 rw[beq_eq_false_iff_ne];intro e;rw[e,jS]at h;omega
theorem Cq {s t:Sh} (h:Hu.lt s t=false):Op.bytesLess t.na.toList s.na.toList=true∨(Op.bytesLess t.na.toList s.na.toList=false∧(t.na.toList==s.na.toList)=true):=by
 rw[lK]at h;have h:=of_decide_eq_false h;rw[jU,Lib.toList_data,Lib.toList_data,iL s.na.data.toList t.na.data.toList];by_cases e:Lib.compareBytes s.na.data.toList t.na.data.toList=0
 · right
   refine⟨decide_eq_false (by omega),?_⟩
   rw[beq_iff_eq];exact(iM _ _ e).symm
 · left;exact decide_eq_true (by omega)
theorem Cr (G:List Gr) (x:ByteArray):(c9 G x).length=0↔bT G x=false:=by
 have e:bT G x=G.any (iA x):=by
  rw[jJ];congr 1
  funext g
  rw[iA,Lib.toList_data,Lib.toList_data]
 rw[e];constructor
 · intro h
   cases hb:G.any (iA x)with
   |false=>rfl
   |true=>have:=xO hb;omega
 · exact xP
theorem Ct (H:Hb) (v:Value) (w:World) (hv:cp w v H) (hs:hU H) (hu: ∀s∈H.fos,s.na.size≤1048576∧(∀e∈s.jo.base,e.path.size≤1048576∧e.text.size≤1048576)∧dR 1048576 s.jo.cos):
    Calls prog 14 #[v] w fun e w'=>e= .returned (.int .i64 (ae H))∧Below w.heap.size w w':=by
 obtain⟨fos,gs,ss,nx,la,ro,now⟩:=H
 have HV:=hid hv;obtain⟨vf,vg,ag,rfl,lf,lg,aG⟩:=hv
 simp only at*;have HU:=hid hu;have D4:=hid hs.gs;have D5:=hid hs.ss;have CL:=hid lg;have CY:=hid aG;obtain⟨Y,Z,rfl,Dh,_,hL⟩:=lf
 have HL:Hid (∀i (h:i<fos.length),∃b o,Y=some ⟨b,o,none⟩∧b<w.heap.size∧fD w b (o+i*4) fos[i]):=hL;obtain⟨ga,gc,rfl,Db,_,CO⟩:=lg
 have CX:Hid (∀i (h:i<gs.length),∃b o,ga=some ⟨b,o,none⟩∧b<w.heap.size∧dQ w b (o+i*3) gs[i]):=CO;obtain⟨sa,sc,rfl,_⟩:=aG
 clear hL CO hs hu;obtain⟨wz,C6⟩: ∃wz,wz=w.alloc (.cells #[.slice Y fos.length Z,.slice ga gs.length gc,.slice sa ss.length sc,.int .i64 nx,.int .i64 la,.int .i64 ro,.int .i64 now] 28):=⟨_,rfl⟩
 have U:Below w.heap.size w wz:=by rw[C6];exact(Below.refl _ _).alloc (Nat.le_refl _) _
 have HX:Hid (Cs wz w.heap.size [.slice Y fos.length Z,.slice ga gs.length gc,.slice sa ss.length sc,.int .i64 nx,.int .i64 la,.int .i64 ro,.int .i64 now]):=(by rw[C6];exact Cs.new w [.slice Y fos.length Z,.slice ga gs.length gc,.slice sa ss.length sc,.int .i64 nx,.int .i64 la,.int .i64 ro,.int .i64 now] _:Cs wz w.heap.size _)
 obtain⟨E,ae⟩: ∃E,E=ae ⟨fos,gs,ss,nx,la,ro,now⟩:=⟨_,rfl⟩
 rw[←ae];have HE:=hid ae;clear ae;go_enter func14,ntmps14
 go_upto_region 1 with fail;rw[←C6];clear C6;have x0:=HX.out.cell 0 rfl;have x6:=HX.out.cell 6 rfl;by_cases CT:now<0
 · have y:=hid (show E=3 from by rw[HE.out];exact kD (Or.inl CT))
   go_wp2_with fail;go_ret;exact⟨by rw[y.out];rfl,U⟩
 by_cases CU:1099511627776<now
 · have y:=hid (show E=3 from by rw[HE.out];exact kD (Or.inr CU))
   go_wp2_with fail;go_ret;exact⟨by rw[y.out];rfl,U⟩
 have X:=hid (show¬(now<0∨1099511627776<now)from fun x=>x.elim CT CU);have C9:=hid (show¬Hu.cfE fos=0→E=Hu.cfE fos from fun h=>by rw[HE.out];exact oj (H:=⟨fos,gs,ss,nx,la,ro,now⟩) X.out h);by_cases h8:8<fos.length
 · have y:=hid (show E=2 from by rw[C9.out (by rw[n6 h8];decide)];exact n6 h8)
   have D9:8<(fos.length:Int):=by omega
   go_wp2_with fail;go_ret;exact⟨by rw[y.out];rfl,U⟩
 have H8:=hid h8;have D9: ¬8<(fos.length:Int):=by omega
 go_wp2_with fail;go_loopw [3] (fun i wr=> ∃k:Nat,k≤fos.length∧i= .int .i64 k∧Hid (∀i (h:i<fos.length),i<k→bd fos[i]=0)∧Hid (Cs wr w.heap.size [.slice Y fos.length Z,.slice ga gs.length gc,.slice sa ss.length sc,.int .i64 nx,.int .i64 la,.int .i64 ro,.int .i64 now])∧Below w.heap.size w wr) (fun i _=>fos.length-(intOf i).toNat)
 case atStart=>exact⟨0,Nat.zero_le _,rfl,(fun i _ h=>absurd h (Nat.not_lt_zero _): ∀i (h:i<fos.length),i<0→bd fos[i]=0),HX,U⟩
 case round=>
  clear x0 x6 HX U;obtain⟨k,hk,rfl,P,d,a⟩:=hrel
  have x0:=d.out.cell 0 rfl;by_cases I:k<fos.length
  · obtain⟨b,o,rfl,hb,O⟩:=HL.out k I
    obtain⟨S,u,x,c1,c2,c3,hu,hx⟩:=O.below hb a
    have HZ:=hid (HU.out fos[k] (List.getElem_mem I))
    have f:=hid (show¬bd fos[k]=0→E=bd fos[k]from fun A=>by
     have e:=rj H8.out I P.out A;rw[C9.out (by rw[e];exact A),e])
    have z:=hid (show bd fos[k]=0→ ∀i (h:i<fos.length),i<k+1→bd fos[i]=0 from fun A i h1 h2=>by
     by_cases e:i=k
     · subst e;exact A
     · exact P.out i h1 (by omega))
    have M:(k:Int)<fos.length:=by omega
    clear O;generalize fos[k]=s at*;obtain⟨na,⟨jb,jf,jc⟩⟩:=s
    simp only at S c1 c2 c3 hu hx;have CZ:=hid hu;have D3:=hid hx;obtain⟨ua,uc,rfl,_⟩:=hu
    obtain⟨xa,xc,rfl,_⟩:=hx
    go_wp2_with fail;refine(gB na _ (by have:na.size≤1048576:=HZ.out.1;omega)).mono ?_
    rintro e w1 ⟨rfl,rfl⟩;cases C4:az na.data.toList with
    |false=>
     have y:=hid (show E=1 from by
      have e:bd ⟨na,⟨jb,jf,jc⟩⟩=1:=by rw[bd,Cm C4,if_pos (by decide)]
      rw[f.out (by rw[e];decide),e])
     clear f z C4;go_wp2_with fail;go_ret;exact⟨by rw[y.out];rfl,a⟩
    |true=>
     have CD:=hid (show bd ⟨na,⟨jb,jf,jc⟩⟩=bo ⟨jb,jf,jc⟩from by rw[bd,Cp C4,if_neg (by simp)]);clear C4;go_wp2_with fail;refine(AV ⟨jb,jf,jc⟩ _ _ ⟨_,_,rfl,CZ.out,D3.out⟩ (fun e O=>by have:=(HZ.out.2.1 e O).1;omega) (HZ.out.2.2.mono (by decide))).mono ?_
     rintro e w2 ⟨rfl,CP⟩;have T:=af a CP;have D7:=hid (d.out.below CP);clear S c1 c2 c3;rw[←CD.out];by_cases A:bd ⟨na,⟨jb,jf,jc⟩⟩=0
     · have Q:=hid (z.out A)
       rw[A];clear A f z CD;go_wp2_with fail;go_roundw
       case rel=>exact⟨k+1,by omega,by simp,Q,D7,T⟩
       case measure=>simp[intOf];omega
     · have y:=hid (f.out A)
       have hz:(bd ⟨na,⟨jb,jf,jc⟩⟩==0)=false:=by simpa using A
       have Dg:(bd ⟨na,⟨jb,jf,jc⟩⟩ !=0)=true:=by simpa using A
       clear A f z CD;generalize bd ⟨na,⟨jb,jf,jc⟩⟩=r at*;go_wp2_with fail;go_ret;exact⟨by rw[y.out];rfl,T⟩
  · have M: ¬(k:Int)<fos.length:=by omega
    have HA:=hid (show∀i (h:i<fos.length),bd fos[i]=0 from fun i h=>P.out i h (by omega));clear M P;go_wp2_with fail;clear I hk;go_loopw [5] (fun i wr=> ∃m:Nat,m≤fos.length∧i= .int .i64 ((m:Int)+1)∧Hid (∀i (h:i+1<fos.length),i<m→Hu.lt fos[i] fos[i+1]=true)∧Hid (Cs wr w.heap.size [.slice Y fos.length Z,.slice ga gs.length gc,.slice sa ss.length sc,.int .i64 nx,.int .i64 la,.int .i64 ro,.int .i64 now])∧Below w.heap.size w wr) (fun i _=>fos.length+2-(intOf i).toNat)
    case atStart=>exact⟨0,Nat.zero_le _,rfl,(fun i _ h=>absurd h (Nat.not_lt_zero _): ∀i (h:i+1<fos.length),i<0→Hu.lt fos[i] fos[i+1]=true),d,a⟩
    case round=>
     clear a d x0;obtain⟨m,hm,rfl,HR,d,a⟩:=hrel
     have x0:=d.out.cell 0 rfl;by_cases V:m+1<fos.length
     · obtain⟨b,o,rfl,hb,O⟩:=HL.out m (by omega)
       obtain⟨S,_⟩:=O.below hb a
       obtain⟨b',o',CQ,Dk,CR⟩:=HL.out (m+1) V
       obtain⟨rfl,rfl⟩:b=b'∧o=o':=by simpa using CQ
       obtain⟨d0,_⟩:=CR.below hb a
       have C7:(m:Int)+1<fos.length:=by omega
       have Di:(m:Int)<fos.length:=by omega
       have Dm:IntKind.i64.wrap ((m:Int)+1-1)=m:=by rw[IntKind.wrap_i64];omega
       have Dl:0≤(m:Int)+1:=by omega
       clear CQ O CR;cases hl:Hu.lt fos[m] fos[m+1]with
       |true=>
        obtain⟨CS,Dc⟩:=Hu.lt_flip hl
        have CW:=hid (show∀i (h:i+1<fos.length),i<m+1→Hu.lt fos[i] fos[i+1]=true from fun i h1 h2=>by
         by_cases e:i=m
         · subst e;exact hl
         · exact HR.out i h1 (by omega))
        have D8:=hid (d.out.below ((Below.refl _ _).drew));clear hl;go_wp2_with fail;go_region
        go_wp2;go_roundw
        case rel=>exact⟨m+1,by omega,by simp,CW,D8,a.drew⟩
        case measure=>simp[intOf];omega
       |false=>
        have y:=hid (show E=4 from by
         have e:=rk H8.out HA.out V hl;rw[C9.out (by rw[e];decide),e])
        rcases Cq hl with CS|⟨CS,Dc⟩
        all_goals
         clear hl;go_wp2_with fail;go_region
         go_wp2;go_ret;exact⟨by rw[y.out];rfl,a.drew⟩
     · have C7: ¬(m:Int)+1<fos.length:=by omega
       have CM:=hid (show dz fos=true from(jB fos).2 fun i h=>HR.out i h (by omega));have C8:=hid (show Hu.cfE fos=0 from rm H8.out HA.out fun i h=>HR.out i h (by omega));have CC:=hid (show¬aY gs=0→E=aY gs from fun h=>by rw[HE.out];exact om (H:=⟨fos,gs,ss,nx,la,ro,now⟩) X.out C8.out h);have aD:=d.out.cell 1 rfl;clear HR;go_wp2_with fail;refine(wP gs _ _ (CL.out.below a) D4.out).mono ?_
       rintro e w3 ⟨rfl,CF⟩;have J:=af a CF;have CE:=hid (d.out.below CF);clear x0 aD;by_cases A: ¬(aY gs=0)
       · have y:=hid (CC.out A)
         have hz:(aY gs==0)=false:=by simpa using A
         have Dg:(aY gs !=0)=true:=by simpa using A
         clear A CC;generalize aY gs=r at*;go_wp2_with fail;go_ret;exact⟨by rw[y.out];rfl,J⟩
       replace A:=Decidable.not_not.1 A;have CK:=hid A;have Dj:gs.length≤60:=(lF A).1;have CN:=hid (show¬cA fos gs=0→E=cA fos gs from fun h=>by rw[HE.out];exact on (H:=⟨fos,gs,ss,nx,la,ro,now⟩) X.out C8.out CK.out h);rw[A];clear A CC;have aD:=CE.out.cell 1 rfl;go_wp2_with fail;clear V C7 hm;go_loopw [7] (fun i wr=> ∃k:Nat,k≤gs.length∧i= .int .i64 k∧Hid (∀j (h:j<gs.length),j<k→bS fos gs[j].fo=true)∧Hid (Cs wr w.heap.size [.slice Y fos.length Z,.slice ga gs.length gc,.slice sa ss.length sc,.int .i64 nx,.int .i64 la,.int .i64 ro,.int .i64 now])∧Below w.heap.size w wr) (fun i _=>gs.length-(intOf i).toNat)
       case atStart=>exact⟨0,Nat.zero_le _,rfl,(fun j _ h=>absurd h (Nat.not_lt_zero _): ∀j (h:j<gs.length),j<0→bS fos gs[j].fo=true),CE,J⟩
       case round=>
        clear a CF J d CE aD;obtain⟨k,hk,rfl,P,d,a⟩:=hrel
        have aD:=d.out.cell 1 rfl;by_cases I:k<gs.length
        · obtain⟨b,o,rfl,hb,O⟩:=CX.out k I
          obtain⟨S,_⟩:=O.below hb a
          have M:(k:Int)<gs.length:=by omega
          have CI:b<wr.heap.size:=Nat.lt_of_lt_of_le hb a.size;have Df:=d.out.lt
          have f:=hid (show bS fos gs[k].fo=false→E=5 from fun h=>by
           have e:=rS (L:=fos) I h;rw[CN.out (by rw[e];decide),e])
          have z:=hid (show bS fos gs[k].fo=true→ ∀j (h:j<gs.length),j<k+1→bS fos gs[j].fo=true from fun A j h1 h2=>by
           by_cases e:j=k
           · subst e;exact A
           · exact P.out j h1 (by omega))
          clear O;generalize gs[k]=gg at*;obtain⟨gf,gw,gr⟩:=gg
          simp only at S f z;have z0:=d.out.cell 0 rfl;have z1:=d.out.cell 1 rfl;have z2:=d.out.cell 2 rfl;have z3:=d.out.cell 3 rfl;have z4:=d.out.cell 4 rfl;have z5:=d.out.cell 5 rfl;have z6:=d.out.cell 6 rfl;go_wp2_with fail
          go_region_held3 (fun W=>W.cell? ⟨w.heap.size,0,none⟩=some (.slice Y fos.length Z)∧W.cell? ⟨w.heap.size,1,none⟩=some (.slice (some ⟨b,o,none⟩) gs.length gc)∧W.cell? ⟨w.heap.size,2,none⟩=some (.slice sa ss.length sc)∧W.cell? ⟨w.heap.size,3,none⟩=some (.int .i64 nx)∧W.cell? ⟨w.heap.size,4,none⟩=some (.int .i64 la)∧W.cell? ⟨w.heap.size,5,none⟩=some (.int .i64 ro)∧W.cell? ⟨w.heap.size,6,none⟩=some (.int .i64 now)∧W.cell? ⟨b,o+k*3,none⟩=some (.string gf)) (go_keep) (first
           |(go_at_call 31;refine(AU ⟨fos,gs,ss,nx,la,ro,now⟩ _ gf _ (HV.out.below (af a (Below.refl _ _).drew))).mono ?_;rintro e wa ⟨rfl,CG⟩;have N:Below wr.heap.size wr wa:=((Below.refl _ _).drew).trans CG;have F:=hid (d.out.below N);have j0:=F.out.cell 0 rfl;have j1:=F.out.cell 1 rfl;have j2:=F.out.cell 2 rfl;have j3:=F.out.cell 3 rfl;have j4:=F.out.cell 4 rfl;have j5:=F.out.cell 5 rfl;have j6:=F.out.cell 6 rfl;have j7:=(N.cell (p:=⟨b,o+k*3,none⟩) CI).trans S))
          have G:=af a N;clear j0 j1 j2 j3 j4 j5 j6 j7 z0 z1 z2 z3 z4 z5 z6 S;have C3:=AT fos gf;cases K:bS fos gf with
          |false=>
           have y:=hid (f.out K);have CV:fm fos gf<0:=C3.2 K;clear f z C3 K;generalize fm fos gf=q at*;go_wp2_with fail;go_ret;exact⟨by rw[y.out];rfl,G⟩
          |true=>
           have Q:=hid (z.out K);have CV: ¬fm fos gf<0:=fun h=>by rw[C3.1 h]at K;cases K
           clear f z C3 K;generalize fm fos gf=q at*;go_wp2_with fail;go_roundw
           case rel=>exact⟨k+1,by omega,by simp,Q,F,G⟩
           case measure=>simp[intOf];omega
        · have M: ¬(k:Int)<gs.length:=by omega
          have CJ:=hid (show∀g∈gs,bS fos g.fo=true from fun g hg=>by
           obtain⟨j,hj,rfl⟩:=List.getElem_of_mem hg
           exact P.out j hj (by omega))
          have x0:=d.out.cell 0 rfl;clear P;go_wp2_with fail;clear I hk M;go_loopw [8] (fun i wr=> ∃k:Nat,k≤fos.length∧i= .int .i64 k∧Hid (∀j (h:j<fos.length),j<k→bT gs fos[j].na=true)∧Hid (Cs wr w.heap.size [.slice Y fos.length Z,.slice ga gs.length gc,.slice sa ss.length sc,.int .i64 nx,.int .i64 la,.int .i64 ro,.int .i64 now])∧Below w.heap.size w wr) (fun i _=>fos.length-(intOf i).toNat)
          case atStart=>exact⟨0,Nat.zero_le _,rfl,(fun j _ h=>absurd h (Nat.not_lt_zero _): ∀j (h:j<fos.length),j<0→bT gs fos[j].na=true),d,a⟩
          case round=>
           clear a d x0 aD;obtain⟨k,hk,rfl,P,d,a⟩:=hrel
           have x0:=d.out.cell 0 rfl;have aD:=d.out.cell 1 rfl;by_cases I:k<fos.length
           · obtain⟨b,o,rfl,hb,O⟩:=HL.out k I
             obtain⟨S,_⟩:=O.below hb a
             have M:(k:Int)<fos.length:=by omega
             have CI:b<wr.heap.size:=Nat.lt_of_lt_of_le hb a.size;have Df:=d.out.lt
             have f:=hid (show bT gs fos[k].na=false→E=5 from fun h=>by
              have e:=AQ CM.out CJ.out (List.getElem_mem I) h;rw[CN.out (by rw[e];decide),e])
             have z:=hid (show bT gs fos[k].na=true→ ∀j (h:j<fos.length),j<k+1→bT gs fos[j].na=true from fun A j h1 h2=>by
              by_cases e:j=k
              · subst e;exact A
              · exact P.out j h1 (by omega))
             clear O;generalize fos[k]=s at*;obtain⟨na,jo⟩:=s
             simp only at S f z;go_wp2_with fail
             go_region_held3 (fun W=>W.cell? ⟨w.heap.size,0,none⟩=some (.slice (some ⟨b,o,none⟩) fos.length Z)∧W.cell? ⟨w.heap.size,1,none⟩=some (.slice ga gs.length gc)∧W.cell? ⟨b,o+k*4,none⟩=some (.string na)) (go_keep) (first
              |(go_at_call 32;refine(xt gs _ na _ (CL.out.below (af a (Below.refl _ _).drew)) (by omega)).mono ?_;rintro e wa ⟨u,rfl,De,CG⟩;obtain⟨ua,uc,rfl,Dd⟩:=De;clear Dd;have N:Below wr.heap.size wr wa:=((Below.refl _ _).drew).trans CG;have F:=hid (d.out.below N);have j0:=F.out.cell 0 rfl;have j1:=F.out.cell 1 rfl;have j7:=(N.cell (p:=⟨b,o+k*4,none⟩) CI).trans S))
             have G:=af a N;clear j0 j1 j7 S x0 aD;have C5:=Cr gs na;cases K:bT gs na with
             |false=>
              have y:=hid (f.out K);have hz:(((c9 gs na).length:Int)==0)=true:=by rw[C5.2 K];rfl
              clear f z C5 K;generalize (c9 gs na).length=q at*;go_wp2_with fail;go_ret;exact⟨by rw[y.out];rfl,G⟩
             |true=>
              have Q:=hid (z.out K)
              have hz:(((c9 gs na).length:Int)==0)=false:=by
               rw[beq_eq_false_iff_ne];intro h;have A:(c9 gs na).length=0:=by omega
               rw[C5.1 A]at K;cases K
              clear f z C5 K;generalize (c9 gs na).length=q at*;go_wp2_with fail;go_roundw
              case rel=>exact⟨k+1,by omega,by simp,Q,F,G⟩
              case measure=>simp[intOf];omega
           · have M: ¬(k:Int)<fos.length:=by omega
             have D6:=hid (show cA fos gs=0 from AP CM.out CJ.out (fun s hs=>by
              obtain⟨j,hj,rfl⟩:=List.getElem_of_mem hs
              exact P.out j hj (by omega)))
             have y:=hid (show E=aZ ss nx la ro from by rw[HE.out];exact lP (H:=⟨fos,gs,ss,nx,la,ro,now⟩) X.out C8.out CK.out D6.out);have z0:=d.out.cell 0 rfl;have z1:=d.out.cell 1 rfl;have z2:=d.out.cell 2 rfl;have z3:=d.out.cell 3 rfl;have z4:=d.out.cell 4 rfl;have z5:=d.out.cell 5 rfl;have z6:=d.out.cell 6 rfl;go_wp2_with fail;refine(Ck ss _ nx la ro _ (CY.out.below a) D5.out).mono ?_
             rintro e w9 ⟨rfl,Da⟩;rw[←y.out];have CH:=af a Da;go_wp2_with fail;go_ret;exact⟨rfl,CH⟩
end Go.Proofs.YtgamnckfmmbjdaaGreatDoor
