/- What the reference's OpenUpload answers, where all is right. -/
import Derived.Test.YtdlpjlfefjipkaaGreatHFZK
set_option linter.unusedSimpArgs false
set_option linter.unusedVariables false
namespace Go.Proofs.YtdlpjlfefjipkaaGreat
open Go.RowKit Go.Proofs.Tryz
set_option maxHeartbeats 4000000
set_option maxRecDepth 100000
theorem CU (G:List Se) (v:Value) (x l r:Int) (p:ByteArray) (size now:Int) (w:World) (hv:aK w v G) (hs:bq G) (hp:p.size≤150000000000000) (h0:bB G x l r now=0) (hn:aA p.data.toList=true) (h1:0≤size) (h2:size≤300) (h3:x<1099511627776) (h4:(aq now G).length<20) (h5: ¬r<aW (aq now G) p+size):
    Calls prog 23 #[.agg #[v,x,l,r],p,size,.int .i64 now] w fun e w'=> ∃u,e= .returned (.tuple #[.agg #[u,(x+1:Int),l,r],x,ah])∧bR w.heap.size w' u (aq now G++[dA x p size (now+l)])∧Below w.heap.size w w':=by
 have HV:=ac hv;have HS:=ac hs;obtain⟨av,X,rfl,_⟩:=hv
 clear hs;obtain⟨w3,U⟩: ∃w3,w3=(w.alloc (.cells #[.slice av G.length X,x,l,r] 26)).alloc (.cells  aJ  26):=⟨_,rfl⟩
 have B3:=hid (show Below w.heap.size w w3 from by rw[U];exact ak.alloc (by simp) _);have Fk:=hid (show Bx w3 w.heap.size (.slice av G.length X) x (.int .i64 l) r from by rw[U];exact(Bx.new w _ _ _ _ _).below ak)
 have Fg:=hid (show Bx w3 (w.heap.size+1) al ah ah ah from by
  have:=Bx.new (w.alloc (.cells #[.slice av G.length X,x,l,r] 26)) al ah ah ah 26
  rw[U];simpa using this)
 have Ft:w3.heap.size=w.heap.size+2:=by rw[U];simp
 obtain⟨i0,F3,F7,F8,F9⟩:=info_parts Tryz.infoSe
 have H0:=ac h0;have Fe:=ac hn;have F2:bl G x l r now []=0:=by rw[mE];exact h0
 obtain⟨EN,⟨FJ,FK⟩,_⟩:=dz F2
 obtain⟨Fs,⟨FH,FI⟩,⟨FL,FM⟩,FO,FP⟩:=cQ (bu EN).1
 have Fo:=de now G;have E9:=hid (show∀s∈aq now G,0≤s.si∧s.si≤300 from fun s h=>ik (bu EN).2.1 s (List.mem_filter.1 h).1);have FQ:(x==1099511627776)=false:=beq_eq_false_iff_ne.2 (by omega);clear h0 hn F2 EN;go_enter func23,ntmps23
 go_wp2_with fail;rw[←U];clear U;refine(gS G _ x l r now _ (HV.out.below B3.out) HS.out).mono ?_
 rintro e w4 ⟨rfl,Y⟩;have E3:=B3.out.trans (Y.mono B3.out.size);have EV:=ac (Fk.out.below Y);have ET:=ac (Fg.out.below Y);have Fv:=Y.size;clear Y;obtain⟨F,⟨u0,u1,u2,u3⟩,g0,g1,g2,g3⟩:=EV.out
 obtain⟨EJ,⟨c0,c1,c2,c3⟩,f0,f1,f2,f3⟩:=ET.out
 rw[H0.out];go_wp2_with fail;refine(aM p _ hp).mono ?_
 rintro e wn ⟨rfl,hw⟩;rw[hw,Fe.out];clear hw wn;go_wp2_with fail;refine(mG G _ x l r now _ (HV.out.below E3) (by omega)).mono ?_
 rintro e w5 ⟨u5,rfl,E7,Z⟩;have E4:=aG E3 Z;have EW:=ac (EV.out.below Z);have Fh:=ac (ET.out.below Z);have Fw:=Z.size;have V:=ac E7;clear Z E7 u0 u1 u2 u3 g0 g1 g2 g3 c0 c1 c2 c3 f0 f1 f2 f3 F EJ;obtain⟨a5,O,Fp,Fm,_,_⟩:=V.out.lies (by omega)
 subst Fp;obtain⟨M,hM⟩: ∃M,M=aq now G:=⟨_,rfl⟩
 rw[←hM]at E9 V Fo Fm h4⊢;have EQ:=ac hM;clear hM;have EY:M.length≤1000:=by omega
 obtain⟨wq,E0⟩: ∃wq,wq=((((w5.setCell ⟨w.heap.size,0,none⟩ (.slice a5 M.length O)).setCell ⟨w.heap.size,1,none⟩ x).setCell ⟨w.heap.size,2,none⟩ l).setCell ⟨w.heap.size,3,none⟩ r):=⟨_,rfl⟩
 have H:w5.grownBy wq (some w.heap.size):=by rw[E0];exact Nb.set4 _ _ _ _ _ _
 have EZ:Bx wq w.heap.size (.slice a5 M.length O) x (.int .i64 l) r:=by
  obtain⟨Fl,⟨d0,d1,d2,d3⟩,e0,e1,e2,e3⟩:=EW.out
  rw[E0];exact⟨by simpa using Fl,⟨by simp[go_sem,d0,d1,d2,d3],by simp[go_sem,d0,d1,d2,d3],by simp[go_sem,d0,d1,d2,d3],by simp[go_sem,d0,d1,d2,d3]⟩,by simpa using e0,by simpa using e1,by simpa using e2,by simpa using e3⟩
 have EX:=ac EZ;have Fi:=ac (Fh.out.nb H (by omega));have ES:=ac (V.out.nb H (by omega));have E5:Below w.heap.size w wq:=E4.trans (Nb.to H E4.size ax);have Fy:=H.size;obtain⟨F,⟨d0,d1,d2,d3⟩,e0,e1,e2,e3⟩:=EW.out
 obtain⟨F0,⟨y0,y1,y2,y3⟩,y4,y5,y6,y7⟩:=EZ
 rw[E0]at y0 y1 y2 y3;have FD:((M.length:Int)==20)=false:=beq_eq_false_iff_ne.2 (by omega);have EM:=ko p E9.out;have FE:0≤aW M p:=EM.1;have FG:aW M p≤6000:=by have:=EM.2;omega
 have FN:IntKind.i64.wrap (aW M p+size)=aW M p+size:=by rw[IntKind.wrap_i64];omega
 rw[←EQ.out]at h5;clear EM;go_wp2_with fail;rw[←E0];clear E0 H d0 d1 d2 d3 e0 e1 e2 e3 F y0 y1 y2 y3 y4 y5 y6 y7;obtain⟨F,⟨y0,y1,y2,y3⟩,y4,y5,y6,y7⟩:=EX.out
 go_region_held3 (fun W=>W.cell? ⟨w.heap.size,0,none⟩=some (.slice a5 M.length O)∧W.cell? ⟨w.heap.size,3,none⟩=some (.int .i64 r)) (go_keep) (first
  |(go_at_call 46;refine(qS M _ p _ ((ES.out.lies EY).below aw.drew) EY E9.out).mono ?_;rintro e A ⟨rfl,E1⟩;have j0:=(E1.cell (p:=⟨w.heap.size,0,none⟩) F).trans y0;have j3:=(E1.cell (p:=⟨w.heap.size,3,none⟩) F).trans y3))
 all_goals
  have z:Below wq.heap.size wq A:= aw.drew.trans E1;have P:=E5.trans (z.mono E5.size);have EU:=ac (Fi.out.below z);have E:=ac (EX.out.below z);have ER:=ac (ES.out.below z);have Fx:=z.size;clear E1 z y0 y1 y2 y3 y4 y5 y6 y7;generalize aW M p=T at*;obtain⟨F,⟨y0,y1,y2,y3⟩,y4,y5,y6,y7⟩:=E.out
  have FA:IntKind.i64.wrap (now+l)=now+l:=by rw[IntKind.wrap_i64];omega
  go_wp2_with fail;refine wp_region_held_drew (S:=fun W=>W.cell? ⟨w.heap.size,1,none⟩=some (.int .i64 x)∧W.cell? ⟨w.heap.size,2,none⟩=some (.int .i64 l)) (by kernel_rfl) ⟨by simpa using y1,by simpa using y2⟩ (fun a=>?_)
  change wpAnyH _ _ _ _ _ 17 #[false,false,false,false,false,false,false,false,false,false,false,false,false,false,false,false,false] _ _
  have o:Below A.heap.size A A.drew:= aw.drew;generalize A.drew=c at a o⊢;clear y0 y1 y2 y3 y4 y5 y6 y7;refine tk 1 ⟨some 60,Op.fieldAddr 26 (Operand.tmp 4) 0,0,_,_,none⟩ a ?_
  simp only[pu];refine tk 4 ⟨some 63,Op.fieldAddr 26 (Operand.tmp 4) 1,0,_,_,none⟩ a ?_
  simp only[pu];refine tk 5 ⟨some 64,Op.load 3 (Operand.tmp 63),3,_,_,none⟩ a ?_
  simp only[pu];refine tk 6 ⟨some 65,Op.move (Operand.tmp 1),9,_,_,none⟩ a ?_
  simp only[pu];refine tk 7 ⟨some 66,Op.move (Operand.tmp 2),3,_,_,none⟩ a ?_
  simp only[pu];refine tk 8 ⟨some 67,Op.move (Operand.tmp 3),3,_,_,none⟩ a ?_
  simp only[pu];refine tk 9 ⟨some 68,Op.fieldAddr 26 (Operand.tmp 4) 2,0,_,_,none⟩ a ?_
  simp only[pu];refine tk 10 ⟨some 69,Op.load 3 (Operand.tmp 68),3,_,_,none⟩ a ?_
  simp only[pu];refine tk 11 ⟨some 70,Op.binOp BinOp.add 3 (Operand.tmp 67) (Operand.tmp 69) 3,3,_,_,none⟩ a ?_
  simp only[pu];refine tk 12 ⟨some 71,Op.build 79 #[(0,Operand.tmp 64),(1,Operand.tmp 65),(3,Operand.tmp 66),(4,Operand.tmp 70)],79,_,_,none⟩ a ?_
  simp only[pu];refine qT (p:=?_) (fun Fa=>?_) ?_
  rotate_left
  · try clear a
    iterate 4
     all_goals
      first
      |(have _g0:=m0;have _g1:=m2;have _g2:=m3;refine wpAnyH_ready (rs:=[13]) (by kernel_rfl) (by simp) ?_;refine AllReadyH.cons rfl (fun K i=>Tg.out (n:=13) ?_) (AllReadyH.nil))
      |(have _g0:=m0;have _g1:=m2;have _g2:=m13;refine wpAnyH_ready (rs:=[3]) (by kernel_rfl) (by simp) ?_;refine AllReadyH.cons rfl (fun K i=>Tg.out (n:=3) ?_) (AllReadyH.nil))
      |(have _g0:=m0;have _g1:=m2;refine wpAnyH_ready (rs:=[3,13]) (by kernel_rfl) (by simp) ?_;refine AllReadyH.cons rfl (fun K i=>Tg.out (n:=3) ?_) (AllReadyH.cons rfl (fun K i=>Tg.out (n:=13) ?_) (AllReadyH.nil)))
      |(have _g0:=m0;have _g1:=m13;refine wpAnyH_ready (rs:=[2]) (by kernel_rfl) (by simp) ?_;refine AllReadyH.cons rfl (fun K i=>Tg.out (n:=2) ?_) (AllReadyH.nil))
      |(have _g0:=m2;have _g1:=m13;refine wpAnyH_ready (rs:=[0]) (by kernel_rfl) (by simp) ?_;refine AllReadyH.cons rfl (fun K i=>Tg.out (n:=0) ?_) (AllReadyH.nil))
      |(have _g0:=m0;refine wpAnyH_ready (rs:=[2,13]) (by kernel_rfl) (by simp) ?_;refine AllReadyH.cons rfl (fun K i=>Tg.out (n:=2) ?_) (AllReadyH.cons rfl (fun K i=>Tg.out (n:=13) ?_) (AllReadyH.nil)))
      |(have _g0:=m2;refine wpAnyH_ready (rs:=[0,13]) (by kernel_rfl) (by simp) ?_;refine AllReadyH.cons rfl (fun K i=>Tg.out (n:=0) ?_) (AllReadyH.cons rfl (fun K i=>Tg.out (n:=13) ?_) (AllReadyH.nil)))
      |(have _g0:=m13;refine wpAnyH_ready (rs:=[0,2]) (by kernel_rfl) (by simp) ?_;refine AllReadyH.cons rfl (fun K i=>Tg.out (n:=0) ?_) (AllReadyH.cons rfl (fun K i=>Tg.out (n:=2) ?_) (AllReadyH.nil)))
      |(refine wpAnyH_ready (rs:=[0,2,13]) (by kernel_rfl) (by simp) ?_;refine AllReadyH.cons rfl (fun K i=>Tg.out (n:=0) ?_) (AllReadyH.cons rfl (fun K i=>Tg.out (n:=2) ?_) (AllReadyH.cons rfl (fun K i=>Tg.out (n:=13) ?_) (AllReadyH.nil))))
     all_goals
      first
      | (refine Tg.mk (n := 0) ?_
         have m0:Tg 0 True:=⟨trivial⟩
         go_simp
         generalize g:World.alloc c (.cells #[] 79)=R;have hz:Below c.heap.size c R:=g▸ak;have f:Below A.heap.size A R:=aG o hz;try replace C:=C.below hz
         have I:fA A.heap.size R (.slice (some ⟨c.heap.size,0,none⟩) 0 0):=fA.new g o.size;clear g hz;generalize Value.slice (some (Addr.mk c.heap.size 0 none)) 0 0=EO at I⊢;try clear o
         have o:=f;clear f;try clear c
         obtain⟨c,rfl⟩: ∃y,y=R:=⟨_,rfl⟩
         have d:=E.out.below o;refine i.out _ _ ⟨d.2.1.2.1,d.2.1.2.2.1⟩ (fun B=>?_)
         clear B i K d;try simp only[pu])
      | (refine Tg.mk (n := 2) ?_
         have m2:Tg 2 True:=⟨trivial⟩
         obtain⟨f9,⟨f0,s1,s2,s3⟩,f8⟩:=E.out.below o
         go_simp
         refine i.out _ _ ⟨s1,s2⟩ (fun B=>?_)
         clear B i K s1 s2 s3 f0 f8 f9;try simp only[pu])
      | (refine Tg.mk (n := 3) ?_
         have m3:Tg 3 True:=⟨trivial⟩
         refine ly rfl (.tmp 59) (.tmp 61) 24 rfl A.heap.size 79 i0 (.agg #[ah,.string ⟨#[]⟩,.string ⟨#[]⟩,ah,ah]) 5 56 underlying24 F3 F7 F8 F9 rfl (by decide) EO 0 [] rfl I.own (.slice a5 M.length O) M.length (bn M) rfl (iC.own (ER.out.below o)) (jt M) (by unfold maxLen;omega) (by omega) o.size ?_
         intro E2 R ho EK;have N:bR A.heap.size R E2 M:=jv (by rw[Nat.zero_add,List.nil_append]at ho;exact ho);have f:Below A.heap.size A R:=o.grown EK o.size (fun k hk=>(I.own.lt k hk).1);try replace C:=C.gr I EK
         clear ho EK I;try clear o
         have o:=f;clear f;try clear c
         obtain⟨c,rfl⟩: ∃y,y=R:=⟨_,rfl⟩
         have d:=E.out.below o;refine i.out _ _ ⟨d.2.1.2.1,d.2.1.2.2.1⟩ (fun B=>?_)
         clear B i K d;try simp only[pu])
      | (refine Tg.mk (n := 13) ?_
         have m13:Tg 13 True:=⟨trivial⟩
         go_simp
         generalize g:World.alloc c (.cells #[x,p,.string ⟨#[]⟩,size,.int .i64 (now+l)] 79)=R;have hz:Below c.heap.size c R:=g▸ak;have f:Below A.heap.size A R:=aG o hz;try replace I:=I.below hz
         try replace N:=N.below hz
         have C:gT R (.slice (some ⟨c.heap.size,0,none⟩) 1 1) (dA x p size (now+l)):=gT.new (s:=(dA x p size (now+l))) g;clear g hz;generalize Value.slice (some (Addr.mk c.heap.size 0 none)) 1 1=EP at C⊢;try clear o
         have o:=f;clear f;try clear c
         obtain⟨c,rfl⟩: ∃y,y=R:=⟨_,rfl⟩
         have d:=E.out.below o;refine i.out _ _ ⟨d.2.1.2.1,d.2.1.2.2.1⟩ (fun B=>?_)
         clear B i K d;try simp only[pu])
    all_goals
     revert N
     revert C
     revert o
     revert c
     revert EP
     revert E2
     revert EO
     exact Fa.out
  intro EO E2 EP cw o C N;refine wpAnyH_ready (rs:=[14]) (by kernel_rfl) (by simp) ?_
  refine AllReadyH.cons rfl (fun K i=>?_) AllReadyH.nil
  refine ly rfl (.tmp 62) (.tmp 72) 24 rfl A.heap.size 79 i0 (.agg #[ah,.string ⟨#[]⟩,.string ⟨#[]⟩,ah,ah]) 5 56 underlying24 F3 F7 F8 F9 rfl (by decide) E2 M.length (bn M) rfl N.row EP 1 (bD (dA x p size (now+l))) rfl C.src (l8 _) (by unfold maxLen;omega) (by omega) o.size ?_
  intro Fb w2 EL E6;rw[pI]at EL;have F5:w2.ownsRow A.heap.size 79 5 Fb (M++[dA x p size (now+l)]).length (bn (M++[dA x p size (now+l)])):=by rw[List.length_append];exact EL
  have E8:=ac (jv F5);have f:Below A.heap.size A w2:=o.grown E6 o.size (fun k hk=>(N.row.lt k hk).1)
  obtain⟨g5,j,Fq⟩: ∃g5 j,Fb= .slice (some ⟨g5,0,none⟩) (M++[dA x p size (now+l)]).length j:=by
   rcases E8.out with⟨_,F4⟩|⟨g5,j,h5,_⟩
   · simp at F4
   · exact⟨g5,j,h5⟩
  subst Fq;have J:(M++[dA x p size (now+l)]).length=M.length+1:=by simp
  rw[J];have Fc:=ac J;clear EL F5 E6 N C o J;have d:=E.out.below f;refine i.out _ _ ⟨d.2.1.2.1,d.2.1.2.2.1⟩ (fun a=>?_)
  clear i K d;try simp only[pu]
  refine tk 15 ⟨some 74,Op.fieldAddr 26 (Operand.tmp 4) 0,0,_,_,none⟩ a ?_
  simp only[pu];have FB:IntKind.i64.wrap (x+1)=x+1:=by rw[IntKind.wrap_i64];omega
  have FC:IntKind.i64.wrap (x+1-1)=x:=by rw[IntKind.wrap_i64];omega
  obtain⟨F0,⟨q0,q1,q2,q3⟩,k0,k1,k2,k3⟩:=E.out.below f
  refine wpAnyH_ready (rs:=[16]) (by kernel_rfl) (by simp) ?_
  refine AllReadyH.cons rfl (fun K i=>?_) AllReadyH.nil
  go_simp
  refine i.out _ _ ⟨by simpa[go_sem]using q1,by simpa[go_sem]using q2⟩ (fun B=>?_)
  clear B i K;try simp only[pu]
  refine wpAnyH_done (by kernel_rfl) ?_ _
  have Fz:=f.size;have F6:w.heap.size<A.heap.size:=by have:=F;omega
  obtain⟨wz,g⟩: ∃wz,wz=(w2.setCell ⟨w.heap.size,0,none⟩ (.slice (some ⟨g5,0,none⟩) (M.length+1) j)).setCell ⟨w.heap.size,1,none⟩ (x+1:Int):=⟨_,rfl⟩
  have Q:w2.grownBy wz (some w.heap.size):=by rw[g];exact Nb.trans (ai _ _ _ _) (ai _ _ _ _)
  have Fj:=ac ((EU.out.below f).nb Q (by omega));have z0:wz.cell? ⟨w.heap.size,0,none⟩=some (.slice (some ⟨g5,0,none⟩) (M.length+1) j):=by rw[g];simp[go_sem,q0,q1]
  have z1:wz.cell? ⟨w.heap.size,1,none⟩=some (.int .i64 (x+1)):=by rw[g];simp[go_sem,q0,q1]
  have z2:wz.cell? ⟨w.heap.size,2,none⟩=some (.int .i64 l):=by rw[g];simp[go_sem,q2]
  have z3:wz.cell? ⟨w.heap.size,3,none⟩=some (.int .i64 r):=by rw[g];simp[go_sem,q3]
  have F1:Below w.heap.size w wz:=(P.trans (f.mono P.size)).trans (Nb.to Q (P.trans (f.mono P.size)).size ax)
  have Ff:=hid (show bR A.heap.size wz (.slice (some ⟨g5,0,none⟩) (M.length+1) j) (M++[dA x p size (now+l)])from by
   have h:=E8.out.nb Q F6;rw[Fc.out]at h;exact h)
  clear E8 E ER EU Q;go_wp2_with fail;rw[←g];clear g q0 q1 q2 q3 k0 k1 k2 k3 a;obtain⟨EJ,⟨c0,c1,c2,c3⟩,f0,f1,f2,f3⟩:=Fj.out
  go_region
  go_wp2;refine bodyPost_ret (v:= .tuple #[.agg #[.slice (some ⟨g5,0,none⟩) (M.length+1) j,(x+1:Int),l,r],x,ah]) (by simp[results,results23,go_sem,c0,c1,c2,c3,EJ]) rfl ⟨_,rfl,?_,?_⟩
  · rw[←EQ.out]
    exact((Ff.out.nb (Nb.set4 _ (w.heap.size+1) _ _ _ _) (by omega)).below aw.drew).mono (by omega)
  · exact(bz (b:=w.heap.size+1) F1 (by omega)).drew
end Go.Proofs.YtdlpjlfefjipkaaGreat
