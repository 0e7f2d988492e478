/- What the reference's serve answers to requests that make a folder. -/
import Derived.Deep.CutRange
import Derived.Test.YtdlpjlfefjipkaaGreatHFSA
set_option linter.unusedSimpArgs false
set_option linter.unusedVariables false
namespace Go.Proofs.YtdlpjlfefjipkaaGreat
open Go.RowKit Go.Proofs.Tryz
set_option maxHeartbeats 8000000
set_option maxRecDepth 100000
theorem Ej (H:Hb) (q:Rq) (v vq:Value) (w:World) (hv:aX w v H) (hs:dd H) (hq:bH w vq q) (EV:cE q) (h0:ae H=0) (hn:aA q.who.data.toList=true) (hk:q.kind=8):
    Calls prog 6 #[v,vq] w fun e w'=> ∃u a,e= .returned (.tuple #[u,a])∧aX w' u (eT H q.fo q.who)∧bX w' a ⟨Hu.mkE H q.fo q.who,0,bt⟩∧Below w.heap.size w w':=by
 have HV:=hid hv;have Fb:=hid hs;have EK:=hid EV;have H0:=hid h0;have HN:=hid hn;clear hs EV h0 hn;obtain⟨fos,gs,ss,nx,la,ro,now⟩:=H
 obtain⟨vf,vg,vs,rfl,lf,lg,ls⟩:=hv
 have HF:=hid lf;have HG:=hid lg;have HS:=hid ls;obtain⟨fa,fc,rfl,-⟩:=lf
 obtain⟨ga,gc,rfl,-⟩:=lg
 obtain⟨sa,sc,rfl,-⟩:=ls
 obtain⟨va,rfl,lq⟩:=hq
 have Fa:=hid lq;obtain⟨qa,qc,rfl,-⟩:=lq
 obtain⟨kind,who,fo,name,key,text,num,off,base,ch⟩:=q
 simp only at*;subst hk;obtain⟨wz,E⟩: ∃wz,wz=(((w.alloc (.cells #[.slice fa fos.length fc,.slice ga gs.length gc,.slice sa ss.length sc,nx,la,ro,now] 28)).alloc (.cells #[.int .i64 8,who,fo,name,key,text,num,off,base,.slice qa ch.length qc] 31)).alloc (.cells  cy  28)).alloc (.cells  bC  38):=⟨_,rfl⟩
 have S0:=hid (show So w wz _ _ from by rw[E];exact So.new w _ _ _ _);obtain⟨x0,x1⟩:=S0.out.r.c2;obtain⟨r,hr⟩: ∃r,r=aL gs fo who:=⟨_,rfl⟩
 obtain⟨ET,EU⟩: ∃ET,ET=dO fos fo:=⟨_,rfl⟩
 have F2:=hid hr;have EW:=hid EU;clear hr EU;go_enter func6,ntmps6
 go_upto_region 1 with fail;rw[←E];clear E;go_wp2_with fail;refine(aM who _ EK.out.who).mono ?_
 rintro e wn ⟨rfl,hw⟩;rw[hw,HN.out];clear hw wn;have x2:=S0.out.r.cell 2 rfl;have c1:=S0.out.h.cell 1 rfl;go_wp2_with fail;refine(cB gs _ fo who _ (HG.out.below S0.out.b)).mono ?_
 rintro e wb ⟨rfl,X⟩;rw[←F2.out];have S1:=hid (S0.out.below X);clear x0 x1 x2 c1 X;have x2:=S1.out.r.cell 2 rfl;obtain⟨V,c1,c2,c3,c4,c5,c6⟩:=S1.out.h.c7;go_wp2_with fail;refine(jV ⟨fos,gs,ss,nx,la,ro,now⟩ _ fo _ (HV.out.below S1.out.b)).mono ?_
 rintro e wk ⟨rfl,X⟩;rw[←EW.out];have S2:=hid (S1.out.below X);clear x2 V c1 c2 c3 c4 c5 c6 X;obtain⟨x0,x1,x2⟩:=S2.out.r.c3;have c1:=S2.out.h.cell 1 rfl;have EN:=(ff H0.out).2.2.1;go_wp2_with fail;refine(Dm gs _ fo who _ (HG.out.below S2.out.b) EK.out.fo EK.out.who EN).mono ?_
 rintro e wd ⟨u,rfl,P,X⟩;have S3:=hid (S2.out.below X);have Q:Hid (eD gs fo who=Pp.mkE gs fo who):=hid (if_pos EN);obtain⟨g,hg⟩: ∃g,g=Pp.mkE gs fo who:=⟨_,rfl⟩
 rw[←hg]at P Q⊢;clear X x1 x2 c1 hg EN;have Fk:fos.length≤8:=(iv (ff H0.out).2.1).1;by_cases E1:g=0
 · subst E1
   have P:=P rfl;have HU:=hid P;obtain⟨ua,uc,rfl,-⟩:=P
   have V:=S3.out.h.cell 0 rfl;by_cases h8:fos.length=8
   · have hz:((fos.length:Int)==8)=true:=by simp[h8]
     have M:=hid (vw (H:=⟨fos,gs,ss,nx,la,ro,now⟩) Q.out (by show 8≤fos.length;omega));clear V h8;have V:=S3.out.h.cell 0 rfl;go_wp2_with fail;refine(fC S3.out.h 2).mono ?_
     rintro e wd ⟨rfl,X⟩;have SB:=hid (S3.out.below X);obtain⟨⟨p0,p1,p2,p3,p4,p5,p6⟩,⟨y0,y1,y2,y3,y4,y5,y6⟩,pf,yf⟩:=SB.out.res
     go_wp2_with fail;exact fD SB.out rfl rfl rfl (by rw[M.out.2];exact HV.out) (by rw[M.out.1])
   · have hz:((fos.length:Int)==8)=false:=by simp;omega
     have M:=hid (qP (H:=⟨fos,gs,ss,nx,la,ro,now⟩) Q.out (by show¬8≤fos.length;omega));have EY:=hid (qz Q.out);have EQ:w.heap.size<wd.heap.size:=by have:=S3.out.l;omega
     go_upto_region 15 with fail;clear V hz h8;go_wp2;go_loopw [11] (fun i wr=> ∃k:Nat,k≤fos.length∧i= .int .i64 k∧Hid (∀m (h:m<fos.length),m<k→Op.bytesLess fos[m].na.toList fo.toList=true)∧Below wd.heap.size wd wr) (fun i _=>fos.length-(intOf i).toNat)
     case atStart=>exact⟨0,Nat.zero_le _,rfl,(fun m _ h=>absurd h (Nat.not_lt_zero _): ∀m (h:m<fos.length),m<0→Op.bytesLess fos[m].na.toList fo.toList=true),aw⟩
     case round=>
      obtain⟨k,hk,rfl,HP,EM⟩:=hrel
      have S4:=hid (S3.out.below EM);have V:=S4.out.h.cell 0 rfl;have x2:=S4.out.r.cell 2 rfl;have Fg:(0:Int)≤(k:Int):=by omega
      go_upto_region 16 with fail;go_cut [106]from 91 to 108 (fun c W=> ∃d:Bool,c= .bool d∧Hid (d=true↔ ∃h:k<fos.length,Op.bytesLess fos[k].na.toList fo.toList=true)∧Below wr.heap.size wr W)
      case first=>
       by_cases E2:k<fos.length
       · obtain⟨_,_,e,-,-,hL⟩:=HF.out.below S4.out.b
         injection e with e1 e2 e3
         subst e1 e3;clear e2;obtain⟨b,o,rfl,Fl,j0,-⟩:=hL k E2
         have F8:(k:Int)<fos.length:=by omega
         clear hL;cases h0:Op.bytesLess fos[k].na.toList fo.toList with
         |true=>
          go_quiet (fail)
          generalize N:World.drewN wr _=wq;have G:Below wr.heap.size wr wq:=N▸⟨rfl,rfl,rfl,ax,fun _ _=>rfl⟩;clear N;go_wp2;go_meet
          case rel=>exact⟨true,rfl,hid ⟨fun _=>⟨E2,h0⟩,fun _=>rfl⟩,G⟩
         |false=>
          go_quiet (fail)
          generalize N:World.drewN wr _=wq;have G:Below wr.heap.size wr wq:=N▸⟨rfl,rfl,rfl,ax,fun _ _=>rfl⟩;clear N;go_wp2;go_meet
          case rel=>exact⟨false,rfl,hid ⟨fun h=>(by cases h),fun⟨_,h⟩=>(by rw[h0]at h;cases h)⟩,G⟩
       · have hd:decide ((k:Int)<fos.length)=false:=by simp;omega
         go_quiet (fail)
         generalize N:World.drewN wr _=wq;have G:Below wr.heap.size wr wq:=N▸⟨rfl,rfl,rfl,ax,fun _ _=>rfl⟩;clear N;go_wp2;go_meet
         case rel=>exact⟨false,rfl,hid ⟨fun h=>(by cases h),fun⟨h,_⟩=>absurd h E2⟩,G⟩
      case rest=>
       obtain⟨d,rfl,HD,G⟩:=hcut
       clear V x2;cases d with
       |true=>
        obtain⟨E2,h0⟩:=HD.out.1 rfl
        have EZ:Hid (∀m (h:m<fos.length),m<k+1→Op.bytesLess fos[m].na.toList fo.toList=true):=hid (fun m h1 h2=>by
         by_cases e:m=k
         · subst e;exact h0
         · exact HP.out m h1 (by omega))
        have F7:=an EM G;clear h0;go_wp2;go_roundw
        case rel=>exact⟨k+1,by omega,by simp,EZ,F7⟩
        case measure=>simp[intOf];omega
       |false=>
        have F0:Hid (cj fos fo=k):=hid (D5 (iv (ff H0.out).2.1).2.2 hk HP.out (fun h=>by have:=HD.out.2 h;cases this));obtain⟨i0,EO,ER,ES,E3⟩:=info_parts Tryz.infoRF
        have O:=hid (S4.out.below G);obtain⟨us,EP,hR⟩:=qn (HF.out.below O.out.b)
        have E9:=hid EP;obtain⟨R,E0⟩: ∃R,R=aS fos us:=⟨_,rfl⟩
        have Fe:R.length=fos.length:=by rw[E0];exact eQ EP.1
        have F1:=hid E0;rw[←E0]at hR;have HR:=hid hR;have H1:Hid (∀r∈R,r.length=4∧ ∀u∈r,u.oneCell'=true):=hid (by obtain⟨_,_,_,_,_,h,_⟩:=hR;exact h);have F3:Hid (∀W,Below wc.heap.size wc W→iW W (.slice fa k fc) k 4 (R.take k).flatten):=hid (fun W hW=>(wJ (HR.out.below hW) (by omega)).1);have F4:Hid (∀W,Below wc.heap.size wc W→iW W (.slice (if fc=k then fa else Option.map (fun x=>x.add (k*4)) fa) (fos.length-k) (fc-k)) (fos.length-k) 4 (R.drop k).flatten):=hid (fun W hW=>(wJ (HR.out.below hW) (by omega)).2);have Ff:fos.length≤fc:=by obtain⟨_,_,e,h,_⟩:=hR;injection e with _ _ e3;omega
        have F8:(k:Int)≤fc:=by omega
        have Fh:(k:Int)≤fos.length:=by omega
        have Fi:(fos.length:Int)≤fc:=by omega
        have x2:=O.out.r.cell 2 rfl;have hwc:w.heap.size<wc.heap.size:=by have:=O.out.l;omega
        have EQ:=hwc;clear E0 hR EP;go_wp2_with fail;refine wp_region_held_drew (S:=fun W=>W.cell? ⟨w.heap.size+1,2,none⟩=some (.string fo)) (by kernel_rfl) (by simpa using x2) (fun A=>?_)
        change wpAnyH _ _ _ _ _ 19 #[false,false,false,false,false,false,false,false,false,false,false,false,false,false,false,false,false,false,false] _ _
        have z:Below wc.heap.size wc wc.drew:= aw.drew;generalize wc.drew=c at A z⊢;clear x2;refine tk 1 ⟨some 110,Op.fieldAddr 28 (Operand.tmp 2) 0,_,_,_,none⟩ A ?_
        try simp only[pu]
        refine tk 3 ⟨some 112,Op.move (Operand.tmp 11),_,_,_,none⟩ A ?_
        try simp only[pu]
        refine tk 6 ⟨some 115,Op.fieldAddr 31 (Operand.tmp 3) 2,_,_,_,none⟩ A ?_
        try simp only[pu]
        refine tk 7 ⟨some 116,Op.load 9 (Operand.tmp 115),_,_,_,none⟩ A ?_
        try simp only[pu]
        refine tk 8 ⟨some 117,Op.build 57 #[(1,Operand.const (Value.int IntKind.i64 1))],_,_,_,none⟩ A ?_
        try simp only[pu]
        refine tk 9 ⟨some 118,Op.build 59 #[(0,Operand.tmp 116),(1,Operand.tmp 117)],_,_,_,none⟩ A ?_
        try simp only[pu]
        refine tk 12 ⟨some 121,Op.fieldAddr 28 (Operand.tmp 2) 0,_,_,_,none⟩ A ?_
        try simp only[pu]
        refine tk 14 ⟨some 123,Op.move (Operand.tmp 11),_,_,_,none⟩ A ?_
        try simp only[pu]
        refine rf (p:=?_) (fun rest=>?_) ?_
        rotate_left
        · skip
          iterate 6
           all_goals
            first
            |(have _g0:=m0;have _g1:=m2;have _g2:=m5;have _g3:=m10;have _g4:=m11;refine wpAnyH_ready (rs:=[13]) (by kernel_rfl) (by simp) ?_;refine AllReadyH.cons rfl (fun K s=>Tg.out (n:=13) ?_) (AllReadyH.nil))
            |(have _g0:=m0;have _g1:=m2;have _g2:=m5;have _g3:=m10;have _g4:=m13;refine wpAnyH_ready (rs:=[11]) (by kernel_rfl) (by simp) ?_;refine AllReadyH.cons rfl (fun K s=>Tg.out (n:=11) ?_) (AllReadyH.nil))
            |(have _g0:=m0;have _g1:=m2;have _g2:=m5;have _g3:=m10;refine wpAnyH_ready (rs:=[11,13]) (by kernel_rfl) (by simp) ?_;refine AllReadyH.cons rfl (fun K s=>Tg.out (n:=11) ?_) (AllReadyH.cons rfl (fun K s=>Tg.out (n:=13) ?_) (AllReadyH.nil)))
            |(have _g0:=m0;have _g1:=m2;have _g2:=m5;have _g3:=m13;refine wpAnyH_ready (rs:=[10]) (by kernel_rfl) (by simp) ?_;refine AllReadyH.cons rfl (fun K s=>Tg.out (n:=10) ?_) (AllReadyH.nil))
            |(have _g0:=m0;have _g1:=m2;have _g2:=m10;have _g3:=m13;refine wpAnyH_ready (rs:=[5]) (by kernel_rfl) (by simp) ?_;refine AllReadyH.cons rfl (fun K s=>Tg.out (n:=5) ?_) (AllReadyH.nil))
            |(have _g0:=m0;have _g1:=m2;have _g2:=m5;refine wpAnyH_ready (rs:=[10,13]) (by kernel_rfl) (by simp) ?_;refine AllReadyH.cons rfl (fun K s=>Tg.out (n:=10) ?_) (AllReadyH.cons rfl (fun K s=>Tg.out (n:=13) ?_) (AllReadyH.nil)))
            |(have _g0:=m0;have _g1:=m2;have _g2:=m10;refine wpAnyH_ready (rs:=[5,13]) (by kernel_rfl) (by simp) ?_;refine AllReadyH.cons rfl (fun K s=>Tg.out (n:=5) ?_) (AllReadyH.cons rfl (fun K s=>Tg.out (n:=13) ?_) (AllReadyH.nil)))
            |(have _g0:=m0;have _g1:=m2;have _g2:=m13;refine wpAnyH_ready (rs:=[5,10]) (by kernel_rfl) (by simp) ?_;refine AllReadyH.cons rfl (fun K s=>Tg.out (n:=5) ?_) (AllReadyH.cons rfl (fun K s=>Tg.out (n:=10) ?_) (AllReadyH.nil)))
            |(have _g0:=m0;have _g1:=m10;have _g2:=m13;refine wpAnyH_ready (rs:=[2]) (by kernel_rfl) (by simp) ?_;refine AllReadyH.cons rfl (fun K s=>Tg.out (n:=2) ?_) (AllReadyH.nil))
            |(have _g0:=m2;have _g1:=m10;have _g2:=m13;refine wpAnyH_ready (rs:=[0]) (by kernel_rfl) (by simp) ?_;refine AllReadyH.cons rfl (fun K s=>Tg.out (n:=0) ?_) (AllReadyH.nil))
            |(have _g0:=m0;have _g1:=m2;refine wpAnyH_ready (rs:=[5,10,13]) (by kernel_rfl) (by simp) ?_;refine AllReadyH.cons rfl (fun K s=>Tg.out (n:=5) ?_) (AllReadyH.cons rfl (fun K s=>Tg.out (n:=10) ?_) (AllReadyH.cons rfl (fun K s=>Tg.out (n:=13) ?_) (AllReadyH.nil))))
            |(have _g0:=m0;have _g1:=m10;refine wpAnyH_ready (rs:=[2,13]) (by kernel_rfl) (by simp) ?_;refine AllReadyH.cons rfl (fun K s=>Tg.out (n:=2) ?_) (AllReadyH.cons rfl (fun K s=>Tg.out (n:=13) ?_) (AllReadyH.nil)))
            |(have _g0:=m0;have _g1:=m13;refine wpAnyH_ready (rs:=[2,10]) (by kernel_rfl) (by simp) ?_;refine AllReadyH.cons rfl (fun K s=>Tg.out (n:=2) ?_) (AllReadyH.cons rfl (fun K s=>Tg.out (n:=10) ?_) (AllReadyH.nil)))
            |(have _g0:=m2;have _g1:=m10;refine wpAnyH_ready (rs:=[0,13]) (by kernel_rfl) (by simp) ?_;refine AllReadyH.cons rfl (fun K s=>Tg.out (n:=0) ?_) (AllReadyH.cons rfl (fun K s=>Tg.out (n:=13) ?_) (AllReadyH.nil)))
            |(have _g0:=m2;have _g1:=m13;refine wpAnyH_ready (rs:=[0,10]) (by kernel_rfl) (by simp) ?_;refine AllReadyH.cons rfl (fun K s=>Tg.out (n:=0) ?_) (AllReadyH.cons rfl (fun K s=>Tg.out (n:=10) ?_) (AllReadyH.nil)))
            |(have _g0:=m10;have _g1:=m13;refine wpAnyH_ready (rs:=[0,2]) (by kernel_rfl) (by simp) ?_;refine AllReadyH.cons rfl (fun K s=>Tg.out (n:=0) ?_) (AllReadyH.cons rfl (fun K s=>Tg.out (n:=2) ?_) (AllReadyH.nil)))
            |(have _g0:=m0;refine wpAnyH_ready (rs:=[2,10,13]) (by kernel_rfl) (by simp) ?_;refine AllReadyH.cons rfl (fun K s=>Tg.out (n:=2) ?_) (AllReadyH.cons rfl (fun K s=>Tg.out (n:=10) ?_) (AllReadyH.cons rfl (fun K s=>Tg.out (n:=13) ?_) (AllReadyH.nil))))
            |(have _g0:=m2;refine wpAnyH_ready (rs:=[0,10,13]) (by kernel_rfl) (by simp) ?_;refine AllReadyH.cons rfl (fun K s=>Tg.out (n:=0) ?_) (AllReadyH.cons rfl (fun K s=>Tg.out (n:=10) ?_) (AllReadyH.cons rfl (fun K s=>Tg.out (n:=13) ?_) (AllReadyH.nil))))
            |(have _g0:=m10;refine wpAnyH_ready (rs:=[0,2,13]) (by kernel_rfl) (by simp) ?_;refine AllReadyH.cons rfl (fun K s=>Tg.out (n:=0) ?_) (AllReadyH.cons rfl (fun K s=>Tg.out (n:=2) ?_) (AllReadyH.cons rfl (fun K s=>Tg.out (n:=13) ?_) (AllReadyH.nil))))
            |(have _g0:=m13;refine wpAnyH_ready (rs:=[0,2,10]) (by kernel_rfl) (by simp) ?_;refine AllReadyH.cons rfl (fun K s=>Tg.out (n:=0) ?_) (AllReadyH.cons rfl (fun K s=>Tg.out (n:=2) ?_) (AllReadyH.cons rfl (fun K s=>Tg.out (n:=10) ?_) (AllReadyH.nil))))
            |(refine wpAnyH_ready (rs:=[0,2,10,13]) (by kernel_rfl) (by simp) ?_;refine AllReadyH.cons rfl (fun K s=>Tg.out (n:=0) ?_) (AllReadyH.cons rfl (fun K s=>Tg.out (n:=2) ?_) (AllReadyH.cons rfl (fun K s=>Tg.out (n:=10) ?_) (AllReadyH.cons rfl (fun K s=>Tg.out (n:=13) ?_) (AllReadyH.nil)))))
           all_goals
            first
            | (refine Tg.mk (n := 0) ?_
               have m0:Tg 0 True:=⟨trivial⟩
               go_simp
               generalize E:World.alloc c (.cells #[] 59)=J;have hz:Below c.heap.size c J:=E▸ak;have C:=an z hz;have o9:J.ownsRow wc.heap.size 59 4 (.slice (some ⟨c.heap.size,0,none⟩) 0 0) 0 []:=E▸World.ownsRow_made c #[] 0 z.size (Nat.zero_le _) (by simp);try (have Y: ∀g,(Value.slice (some ⟨c.heap.size,0,none⟩) 0 0).ownBlock=some g→n9≠g:=fun g h=>(by have:=hN.lt;simp[Value.ownBlock]at h;omega))
               try (have F:=hN.below hz;clear hN;have hN:=F;clear F)
               first|(generalize Value.slice (some (Addr.mk c.heap.size 0 none)) 0 0=v9 at o9 Y⊢)|(generalize Value.slice (some (Addr.mk c.heap.size 0 none)) 0 0=v9 at o9⊢)
               clear E hz;try clear z
               have z:=C;clear C;try clear c
               obtain⟨c,rfl⟩: ∃y,y=J:=⟨_,rfl⟩
               refine s.out _ _ ((O.out.r.below z).cell 2 rfl) (fun B=>?_)
               clear B s K;try simp only[pu])
            | (refine Tg.mk (n := 2) ?_
               have m2:Tg 2 True:=⟨trivial⟩
               have V:=(O.out.h.below z).cell 0 rfl;go_simp
               refine s.out _ _ ((O.out.r.below z).cell 2 rfl) (fun B=>?_)
               clear B s K V;try simp only[pu]
               refine tk 4 ⟨some 113,Op.slice 22 (Operand.tmp 111) none (some (Operand.tmp 112)) none,_,_,_,none⟩ ((O.out.r.below z).cell 2 rfl) ?_
               try simp only[pu])
            | (refine Tg.mk (n := 5) ?_
               have m5:Tg 5 True:=⟨trivial⟩
               refine mL rfl (.tmp 109) (.tmp 113) 22 rfl wc.heap.size 59 i0 (.agg #[.string ⟨#[]⟩,al,ah,al]) 4 72 underlying22 EO ER ES E3 rfl (by decide) v9 0 [] rfl o9 _ k (R.take k).flatten rfl (F3.out c z) (iM fun r hr=>H1.out r (List.mem_of_mem_take hr)) (by unfold maxLen;omega) (by omega) z.size ?_
               intro E4 J ho I;have U:J.ownsRow wc.heap.size 59 4 E4 k (R.take k).flatten:=by simpa using ho
               have C:Below wc.heap.size wc J:=z.grown I z.size (fun k hk=>(o9.lt k hk).1);try (have F:=hN.row I Y;clear hN;have hN:=F;clear F)
               try clear Y
               clear ho I o9;try clear z
               have z:=C;clear C;try clear c
               obtain⟨c,rfl⟩: ∃y,y=J:=⟨_,rfl⟩
               refine s.out _ _ ((O.out.r.below z).cell 2 rfl) (fun B=>?_)
               clear B s K;try simp only[pu])
            | (refine Tg.mk (n := 10) ?_
               have m10:Tg 10 True:=⟨trivial⟩
               go_simp
               generalize E:World.alloc c (.cells #[fo,al,.int .i64 1,al] 59)=J;have hz:Below c.heap.size c J:=E▸ak;have C:=an z hz;have hN:Cs J c.heap.size [fo,al,.int .i64 1,al]:=E▸Cs.new c [fo,al,.int .i64 1,al] _;try (have Y: ∀g,v9.ownBlock=some g→c.heap.size≠g:=fun g h=>(by have:=(o9.lt g h).2;omega))
               try (have F:=(fh o9 (E▸World.grownBy_alloc c _ (some w.heap.size)) EQ);clear o9;have o9:=F;clear F)
               try (have F:=(fh U (E▸World.grownBy_alloc c _ (some w.heap.size)) EQ);clear U;have U:=F;clear F)
               first|(generalize c.heap.size=n9 at hN Y⊢)|(generalize c.heap.size=n9 at hN⊢)
               clear E hz;try clear z
               have z:=C;clear C;try clear c
               obtain⟨c,rfl⟩: ∃y,y=J:=⟨_,rfl⟩
               refine s.out _ _ ((O.out.r.below z).cell 2 rfl) (fun B=>?_)
               clear B s K;try simp only[pu])
            | (refine Tg.mk (n := 11) ?_
               have m11:Tg 11 True:=⟨trivial⟩
               refine mL rfl (.tmp 114) (.tmp 119) 22 rfl wc.heap.size 59 i0 (.agg #[.string ⟨#[]⟩,al,ah,al]) 4 72 underlying22 EO ER ES E3 rfl (by decide) E4 k (R.take k).flatten rfl U _ 1 [fo,al,.int .i64 1,al] rfl (Or.inr ⟨⟨n9,0,none⟩,_,rfl,rfl,fun j u hj=>by have h:=hN.cell j hj;by_cases e:j=0<;>simp[Addr.add,e]at h⊢ <;>exact h⟩) (by intro u P;simp only[List.mem_cons,List.not_mem_nil,or_false]at P;rcases P with rfl|rfl|rfl|rfl<;>rfl) (by unfold maxLen;omega) (by omega) z.size ?_
               intro E5 J E6 I;have C:Below wc.heap.size wc J:=z.grown I z.size (fun k hk=>(U.lt k hk).1);have Z:J.ownsRow wc.heap.size 59 4 E5 (k+1) ((R.take k).flatten++[.string fo,.slice none 0 0,.int .i64 1,.slice none 0 0]):=E6;clear I U hN E6;try clear z
               have z:=C;clear C;try clear c
               obtain⟨c,rfl⟩: ∃y,y=J:=⟨_,rfl⟩
               refine s.out _ _ ((O.out.r.below z).cell 2 rfl) (fun B=>?_)
               clear B s K;try simp only[pu])
            | (refine Tg.mk (n := 13) ?_
               have m13:Tg 13 True:=⟨trivial⟩
               have V:=(O.out.h.below z).cell 0 rfl;go_simp
               refine s.out _ _ ((O.out.r.below z).cell 2 rfl) (fun B=>?_)
               clear B s K V;try simp only[pu]
               refine tk 15 ⟨some 124,Op.slice 22 (Operand.tmp 122) (some (Operand.tmp 123)) none none,_,_,_,none⟩ ((O.out.r.below z).cell 2 rfl) ?_
               try simp only[pu])
          all_goals
           revert Z
           revert z
           revert c
           revert n9
           revert E5
           revert E4
           revert v9
           exact rest.out
        intro v9 E4 E5 n9 c z Z;refine wpAnyH_ready (rs:=[16]) (by kernel_rfl) (by simp) ?_
        refine AllReadyH.cons rfl (fun K s=>?_) AllReadyH.nil
        refine mL rfl (.tmp 120) (.tmp 124) 22 rfl wc.heap.size 59 i0 (.agg #[.string ⟨#[]⟩,al,ah,al]) 4 72 underlying22 EO ER ES E3 rfl (by decide) E5 (k+1) ((R.take k).flatten++[.string fo,.slice none 0 0,.int .i64 1,.slice none 0 0]) rfl Z _ (fos.length-k) (R.drop k).flatten rfl (F4.out c z) (iM fun r hr=>H1.out r (List.mem_of_mem_drop hr)) (by unfold maxLen;omega) (by omega) z.size ?_
        intro F9 J E7 I;have C:Below wc.heap.size wc J:=z.grown I z.size (fun k hk=>(Z.lt k hk).1);clear I Z;try clear z
        have z:=C;clear C;try clear c
        obtain⟨c,rfl⟩: ∃y,y=J:=⟨_,rfl⟩
        refine s.out _ _ ((O.out.r.below z).cell 2 rfl) (fun B=>?_)
        clear B s K;try simp only[pu]
        refine tk 17 ⟨some 126,Op.fieldAddr 28 (Operand.tmp 2) 0,_,_,_,none⟩ ((O.out.r.below z).cell 2 rfl) ?_
        try simp only[pu]
        have EJ:bp 4 c F9 (R.take k++newC fo::R.drop k):=fJ (base:=wc.heap.size) (T:=59) (by
         have e1:(R.take k++newC fo::R.drop k).length=k+1+(fos.length-k):=by simp;omega
         have e2:(R.take k++newC fo::R.drop k).flatten=(R.take k).flatten++[.string fo,.slice none 0 0,.int .i64 1,.slice none 0 0]++(R.drop k).flatten:=by simp[newC]
         rw[e1,e2];exact E7) (by simp;omega) (fun r hr=>by
         rcases List.mem_append.1 hr with h|h
         · exact H1.out r (List.mem_of_mem_take h)
         · rcases List.mem_cons.1 h with rfl|h
           · exact⟨rfl,by intro u P;simp only[newC,List.mem_cons,List.not_mem_nil,or_false]at P;rcases P with rfl|rfl|rfl|rfl<;>rfl⟩
           · exact H1.out r (List.mem_of_mem_drop h))
        rw[F1.out]at EJ;have E8:=hid (mC ⟨E9.out.1,fun j x u hx P=>⟨(E9.out.2 j x u hx P).1.below z,(E9.out.2 j x u hx P).2.below z⟩⟩ hk EJ);clear EJ E7;obtain⟨L2,EL⟩: ∃L2,L2=fos.take k++⟨fo,⟨[],1,[]⟩⟩::fos.drop k:=⟨_,rfl⟩
        rw[←EL]at E8;have EX:=hid EL;have F6:=E8.out;obtain⟨na,nc,rfl,-⟩:=F6
        have S6:=hid (O.out.below z);have F5:=hid (HU.out.below (an (an EM G) z));clear EL;obtain⟨V,c1,c2,c3,c4,c5,c6⟩:=S6.out.h.c7;obtain⟨f0,f1⟩:=S6.out.h.f2;refine wpAnyH_ready (rs:=[18]) (by kernel_rfl) (by simp) ?_
        refine AllReadyH.cons rfl (fun K s=>?_) AllReadyH.nil
        go_simp
        refine s.out _ _ ((S6.out.r.nb (aj _ _ _ _) (by omega)).cell 2 rfl) (fun B=>?_)
        clear B s K;try simp only[pu]
        refine wpAnyH_done (by kernel_rfl) ?_ _
        try generalize (if fc=k then fa else Option.map (fun x=>x.add (k*4)) fa)=Fc
        generalize Fj:L2.length=m2 at*;obtain⟨⟨p0,p1,p2,p3,p4,p5,p6⟩,⟨y0,y1,y2,y3,y4,y5,y6⟩,pf,yf⟩:=S6.out.res
        go_wp2_with fail
        all_goals exact kJ S6.out (by simp) (ar (aj c w.heap.size 0 (.slice na m2 nc)) (aj _ _ 1 (.slice ua (cC ⟨fo,who,3⟩ gs).length uc))) aw rfl rfl rfl (fun hF hG hS hP hbe=>⟨by rw[M.out.2,EY.out];exact⟨_,_,_,rfl,by show cR _ _ (fos.take (cj fos fo)++_);rw[F0.out,←EX.out];exact hF _ _ E8.out,hG _ _ F5.out,HS.out.below hbe⟩,by rw[M.out.1];exact iy _ _ _⟩)
 · have hz:(g==0)=false:=by simpa using E1
   have E3:(g !=0)=true:=by simpa using E1
   have M:=hid (vv (H:=⟨fos,gs,ss,nx,la,ro,now⟩) (f:=fo) (h:=who) (by rw[Q.out];exact E1));go_wp2_with fail;refine(fC S3.out.h g).mono ?_
   rintro e wd ⟨rfl,X⟩;have SB:=hid (S3.out.below X);obtain⟨⟨p0,p1,p2,p3,p4,p5,p6⟩,⟨y0,y1,y2,y3,y4,y5,y6⟩,pf,yf⟩:=SB.out.res
   go_wp2_with fail;exact fD SB.out rfl rfl rfl (by rw[M.out.2];exact HV.out) (by rw[M.out.1];show(⟨eD gs fo who,0,bt⟩:An)=_;rw[Q.out])
end Go.Proofs.YtdlpjlfefjipkaaGreat
