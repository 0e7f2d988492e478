/- What the reference's FinishUpload answers. -/
import Derived.Test.YtdlpjlfefjipkaaGreatHFZK
import Derived.Deep.Cut
set_option linter.unusedSimpArgs false
set_option linter.unusedVariables false
namespace Go.Proofs.YtdlpjlfefjipkaaGreat
open Go.RowKit Go.Proofs.Tryz
set_option maxHeartbeats 8000000
set_option maxRecDepth 100000
theorem Pp.flatS_append (A B:List Se):bn (A++B)=bn A++bn B:=by simp[bn]
def jW (M:List Se) (kk:Nat) (s:Se) (x l r:Int) (w:World) (e:Ending) (w':World):Prop:=(¬(s.tx.size:Int)=s.si∧e= .returned (.tuple #[.agg #[.slice none 0 0,.int .i64 0,.int .i64 0,.int .i64 0],.string ⟨#[]⟩,.int .i64 4])∧Below w.heap.size w w')∨((s.tx.size:Int)=s.si∧ ∃u,e= .returned (.tuple #[.agg #[u,.int .i64 x,.int .i64 l,.int .i64 r],.string s.tx,.int .i64 0])∧bR w.heap.size w' u (M.take kk++M.drop (kk+1))∧Below w.heap.size w w')
theorem jW.e4 {M:List Se} {c:Nat} {s:Se} {x l r:Int} {w w':World} (h: ¬(s.tx.size:Int)=s.si) (a:Below w.heap.size w w'):jW M c s x l r w (.returned (.tuple #[.agg  aJ ,.string ⟨#[]⟩,.int .i64 4])) w':=Or.inl ⟨h,rfl,a⟩
theorem jW.ok {M:List Se} {a:Nat} {s:Se} {x l r:Int} {w w':World} {u:Value} (h:(s.tx.size:Int)=s.si) (d:bR w.heap.size w' u (M.take a++M.drop (a+1))) (c:Below w.heap.size w w'):jW M a s x l r w (.returned (.tuple #[.agg #[u,x,l,r],s.tx,ah])) w':=Or.inr ⟨h,u,rfl,d,c⟩
theorem DS (G:List Se) (v:Value) (x l r:Int) (p:ByteArray) (n:Int) (now:Int) (w:World) (hv:aK w v G) (hs:bq G) (hp:p.size≤150000000000000) (h0:bk G x l r p n now=0) (M:List Se) (hM:aq now G=M) (kk:Nat) (FD:kk<M.length) (F0:cM M (cO n p)=(kk:Int)) (s:Se) (hS:M[kk]=s):
    Calls prog 26 #[.agg #[v,x,l,r],p,n,now] w fun e w'=>jW M kk s x l r w e w':=by
 have HV:=ac hv;have HS:=ac hs;obtain⟨av,E9,rfl,_⟩:=hv
 clear hs;obtain⟨w3,E5⟩: ∃w3,w3=(w.alloc (.cells #[.slice av G.length E9,x,l,r] 26)).alloc (.cells  aJ  26):=⟨_,rfl⟩
 have B3:=hid (show Below w.heap.size w w3 from by rw[E5];exact ak.alloc (by simp) _);have Fx:=hid (show Bx w3 w.heap.size (.slice av G.length E9) x (.int .i64 l) r from by rw[E5];exact(Bx.new w _ _ _ _ _).below ak)
 have Ft:=hid (show Bx w3 (w.heap.size+1) al ah ah ah from by
  have:=Bx.new (w.alloc (.cells #[.slice av G.length E9,x,l,r] 26)) al ah ah ah 26
  rw[E5];simpa using this)
 have FJ:w3.heap.size=w.heap.size+2:=by rw[E5];simp
 obtain⟨i0,ET,EV,EW,EX⟩:=info_parts Tryz.infoSe
 have H0:=ac h0;have HI:=ac F0;have Fq:=ac hM;obtain⟨Fe,⟨G4,G5⟩,_⟩:=dz (iA h0)
 obtain⟨FG,⟨G2,G3⟩,⟨G6,G7⟩,Gc,Gd⟩:=cQ (bu Fe).1
 have G9:M.length≤G.length:=by rw[←hM];exact de now G
 have F1:s∈aq now G:=by rw[hM,←hS];exact List.getElem_mem FD
 have Fc:=gO (gN.1 (bu Fe).2.1 _ (List.mem_filter.1 F1).1);obtain⟨FH,FI⟩:=eO Fc.2.1
 have Ga:=Fc.2.2.2.2;have Fw:=ac hS;clear h0 Fe Fc F0 hM F1 hS;go_enter func26,ntmps26
 go_wp2_with fail;rw[←E5];clear E5;refine(lx G _ x l r p n now _ (HV.out.below B3.out) HS.out hp).mono ?_
 rintro e w4 (⟨Fb,_⟩|⟨_,u,k,rfl,hk,Fa,F2,EM⟩)
 · exact absurd H0.out Fb
 rw[Fq.out]at hk Fa F2;obtain rfl:k=kk:=by have:=HI.out;rw[Fa]at this;omega
 have EK:=B3.out.trans (EM.mono B3.out.size);have Fj:=ac (Fx.out.below EM);have Fv:=ac (Ft.out.below EM);have FK:=EM.size;clear EM Fa;rcases F2 with⟨_,Fo⟩|⟨g,H,rfl,FR,FS,ER,Fm,FQ⟩
 · simp[Fo]at hk
 have FE:=ER.1;have hS:=Fw.out;have FC:=hk;clear hk;obtain⟨F,EU⟩: ∃F,F=((((w4.setCell ⟨w.heap.size,0,none⟩ (.slice (some ⟨g,0,none⟩) M.length H)).setCell ⟨w.heap.size,1,none⟩ x).setCell ⟨w.heap.size,2,none⟩ l).setCell ⟨w.heap.size,3,none⟩ r):=⟨_,rfl⟩
 have X:w4.grownBy F (some w.heap.size):=by rw[EU];exact Nb.set4 _ _ _ _ _ _
 have Fk:Bx F w.heap.size (.slice (some ⟨g,0,none⟩) M.length H) x (.int .i64 l) r:=by
  obtain⟨Fy,⟨d0,d1,d2,d3⟩,e0,e1,e2,e3⟩:=Fj.out
  rw[EU];exact⟨by simpa using Fy,⟨by simp[go_sem,d0,d1,d2,d3],by simp[go_sem,d0,d1,d2,d3],by simp[go_sem,d0,d1,d2,d3],by simp[go_sem,d0,d1,d2,d3]⟩,by simpa using e0,by simpa using e1,by simpa using e2,by simpa using e3⟩
 have F8:=ac Fk;have Fi:=ac (Fv.out.nb X (by omega));have E0:=ac (ER.nb X (by omega));have EZ:Below w.heap.size w F:=EK.trans (Nb.to X EK.size ax);have FL:=X.size;obtain⟨FA,⟨d0,d1,d2,d3⟩,e0,e1,e2,e3⟩:=Fj.out
 clear ER Fm X EK Fk;have G8:s.tx.size≤300:=by omega
 have G1:(k:Int)<(M.length:Int):=by omega
 go_upto_region 2 with fail;rw[←EU];clear EU d0 d1 d2 d3 e0 e1 e2 e3 FA;obtain⟨FP,⟨v0,v1,v2,v3⟩,g0,g1,g2,g3⟩:=F8.out
 obtain⟨t0,t1,t2,t3,t4⟩:=E0.out.at FC
 rw[hS]at t0 t1 t2 t3 t4;clear hS;obtain⟨d,J⟩: ∃d,d=F.alloc (.cells #[s.nu,s.wh,s.tx,s.si,s.ti] 79):=⟨_,rfl⟩
 have EN:Below F.heap.size F d:=by rw[J];exact ak
 have E3:=ac (F8.out.below EN);have F5:=ac (Fi.out.below EN);have E6:=ac (E0.out.below EN);have E:=EZ.trans (EN.mono EZ.size);have FM:d.heap.size=F.heap.size+1:=by rw[J];simp
 have s0:d.cell? ⟨F.heap.size,0,none⟩=some (.int .i64 s.nu):=by rw[J];simp
 have s1:d.cell? ⟨F.heap.size,1,none⟩=some (.string s.wh):=by rw[J];simp
 have s2:d.cell? ⟨F.heap.size,2,none⟩=some (.string s.tx):=by rw[J];simp
 have s3:d.cell? ⟨F.heap.size,3,none⟩=some (.int .i64 s.si):=by rw[J];simp
 have s4:d.cell? ⟨F.heap.size,4,none⟩=some (.int .i64 s.ti):=by rw[J];simp
 have Z:d.frozen? ⟨F.heap.size,2,none⟩=false:=by rw[J];exact World.frozen?_alloc_at _ _ _ _ rfl
 have m4:d.frozen? ⟨F.heap.size,4,none⟩=false:=by rw[J];exact World.frozen?_alloc_at _ _ _ _ rfl
 have F7:=ac (And.intro (And.intro s0 (And.intro s1 (And.intro s2 (And.intro s3 s4)))) (And.intro Z m4));clear s0 s1 s2 s3 s4 Z m4 EN;go_upto_region 5 with fail;rw[←J];clear J t0 t1 t2 t3 t4 v0 v1 v2 v3 g0 g1 g2 g3 E0 F8 Fi;obtain⟨⟨s0,s1,s2,s3,s4⟩,Z,m4⟩:=F7.out
 by_cases E4:(s.tx.size:Int)=s.si
 · have Fh:=ac E4
   have Fb:((s.tx.size:Int) !=s.si)=false:=by simpa using E4
   clear E4;have EY:=hid (show∀W,Below d.heap.size d W→iC W (.slice (some ⟨g,0,none⟩) k H) k 5 (bn (M.take k))from fun W hW=>Or.inr ⟨⟨g,0,none⟩,H,rfl,by rw[il,List.length_take,Nat.min_eq_left (by omega)],mq (b:=g) (o:=0) (L:=M.take k) (fun i hi=>by rw[Nat.zero_add];exact((E6.out.below hW).take k).at hi)⟩);have Gb:IntKind.i64.wrap ((k:Int)+1)=(k:Int)+1:=by rw[IntKind.wrap_i64];omega
   have FT:(0:Int)≤(k:Int):=by omega
   have FU:(k:Int)≤(H:Int):=by omega
   have FV:(0:Int)≤(k:Int)+1:=by omega
   have FW:(k:Int)+1≤(M.length:Int):=by omega
   have FY:(M.length:Int)≤(H:Int):=by omega
   have FZ:k+1≤H:=by omega
   have G0:k≤H:=by omega
   go_upto_region 7 with fail;clear s0 s1 s2 s3 s4 Z m4;by_cases Fz:H=k+1
   · subst Fz
     have FN:k≤k+1:=by omega
     have FO:(k:Int)≤(k:Int)+1:=by omega
     have E8:=hid (show∀W,Below d.heap.size d W→iC W (.slice (some ⟨g,0,none⟩) 0 0) 0 5 (bn (M.drop (k+1)))from fun W hW=>Or.inr ⟨⟨g,0,none⟩,_,rfl,by rw[il,List.length_drop];omega,fun j u hj=>by
      have:M.drop (k+1)=[]:=List.drop_eq_nil_iff.2 (by omega)
      rw[this]at hj;simp[bn]at hj⟩)
     have E7:=hid (show∀W,Below d.heap.size d W→iC W (.slice (some ⟨g,0,none⟩) 0 0) 0 5 (bn (M.drop (k+1)))from fun W hW=>E8.out W hW);refine wp_region_held_drew (S:=fun _=>True) (by kernel_rfl) trivial (fun F9=>?_)
     change wpAnyH _ _ _ _ _ 14 #[false,false,false,false,false,false,false,false,false,false,false,false,false,false] _ _
     have B:Below d.heap.size d d.drew:= aw.drew;generalize d.drew=c at B⊢;refine tk 1 ⟨some 40,Op.fieldAddr 26 (Operand.tmp 4) 0,0,_,_,none⟩ trivial ?_
     try simp only[pu]
     refine tk 3 ⟨some 42,Op.move (Operand.tmp 11),3,_,_,none⟩ trivial ?_
     try simp only[pu]
     refine tk 6 ⟨some 45,Op.fieldAddr 26 (Operand.tmp 4) 0,0,_,_,none⟩ trivial ?_
     try simp only[pu]
     refine tk 8 ⟨some 47,Op.move (Operand.tmp 11),3,_,_,none⟩ trivial ?_
     try simp only[pu]
     refine tk 9 ⟨some 48,Op.binOp BinOp.add 3 (Operand.tmp 47) (Operand.const (Value.int IntKind.i64 1)) 3,3,_,_,none⟩ trivial ?_
     try simp only[pu]
     refine qT (p:=?_) (fun ES=>?_) ?_
     rotate_left
     · skip
       iterate 4
        all_goals
         first
         |(have _g0:=m0;have _g1:=Z;have _g2:=m5;refine wpAnyH_ready (rs:=[7]) (by kernel_rfl) (by simp) ?_;refine AllReadyH.cons rfl (fun K a=>Tg.out (n:=7) ?_) (AllReadyH.nil))
         |(have _g0:=m0;have _g1:=Z;have _g2:=m7;refine wpAnyH_ready (rs:=[5]) (by kernel_rfl) (by simp) ?_;refine AllReadyH.cons rfl (fun K a=>Tg.out (n:=5) ?_) (AllReadyH.nil))
         |(have _g0:=m0;have _g1:=Z;refine wpAnyH_ready (rs:=[5,7]) (by kernel_rfl) (by simp) ?_;refine AllReadyH.cons rfl (fun K a=>Tg.out (n:=5) ?_) (AllReadyH.cons rfl (fun K a=>Tg.out (n:=7) ?_) (AllReadyH.nil)))
         |(have _g0:=m0;have _g1:=m7;refine wpAnyH_ready (rs:=[2]) (by kernel_rfl) (by simp) ?_;refine AllReadyH.cons rfl (fun K a=>Tg.out (n:=2) ?_) (AllReadyH.nil))
         |(have _g0:=Z;have _g1:=m7;refine wpAnyH_ready (rs:=[0]) (by kernel_rfl) (by simp) ?_;refine AllReadyH.cons rfl (fun K a=>Tg.out (n:=0) ?_) (AllReadyH.nil))
         |(have _g0:=m0;refine wpAnyH_ready (rs:=[2,7]) (by kernel_rfl) (by simp) ?_;refine AllReadyH.cons rfl (fun K a=>Tg.out (n:=2) ?_) (AllReadyH.cons rfl (fun K a=>Tg.out (n:=7) ?_) (AllReadyH.nil)))
         |(have _g0:=Z;refine wpAnyH_ready (rs:=[0,7]) (by kernel_rfl) (by simp) ?_;refine AllReadyH.cons rfl (fun K a=>Tg.out (n:=0) ?_) (AllReadyH.cons rfl (fun K a=>Tg.out (n:=7) ?_) (AllReadyH.nil)))
         |(have _g0:=m7;refine wpAnyH_ready (rs:=[0,2]) (by kernel_rfl) (by simp) ?_;refine AllReadyH.cons rfl (fun K a=>Tg.out (n:=0) ?_) (AllReadyH.cons rfl (fun K a=>Tg.out (n:=2) ?_) (AllReadyH.nil)))
         |(refine wpAnyH_ready (rs:=[0,2,7]) (by kernel_rfl) (by simp) ?_;refine AllReadyH.cons rfl (fun K a=>Tg.out (n:=0) ?_) (AllReadyH.cons rfl (fun K a=>Tg.out (n:=2) ?_) (AllReadyH.cons rfl (fun K a=>Tg.out (n:=7) ?_) (AllReadyH.nil))))
        all_goals
         first
         | (refine Tg.mk (n := 0) ?_
            have m0:Tg 0 True:=⟨trivial⟩
            go_simp
            generalize z:World.alloc c (.cells #[] 79)=U;have hz:Below c.heap.size c U:=z▸ak;have f:Below d.heap.size d U:=aG B hz;have Q:fA d.heap.size U (.slice (some ⟨c.heap.size,0,none⟩) 0 0):=fA.new z B.size;clear z hz;generalize Value.slice (some (Addr.mk c.heap.size 0 none)) 0 0=E2 at Q⊢;try clear B
            have B:=f;clear f;try clear c
            obtain⟨c,rfl⟩: ∃y,y=U:=⟨_,rfl⟩
            refine a.out _ _ trivial (fun A=>?_)
            clear A a K;try simp only[pu])
         | (refine Tg.mk (n := 2) ?_
            have Z:Tg 2 True:=⟨trivial⟩
            obtain⟨f9,⟨f0,f1,f2,f3⟩,f8⟩:=E3.out.below B
            go_simp
            refine a.out _ _ trivial (fun A=>?_)
            clear A a K f0 f1 f2 f3 f8 f9;try simp only[pu]
            refine tk 4 ⟨some 43,Op.slice 24 (Operand.tmp 41) none (some (Operand.tmp 42)) none,24,_,_,none⟩ trivial ?_
            try simp only[pu])
         | (refine Tg.mk (n := 5) ?_
            have m5:Tg 5 True:=⟨trivial⟩
            refine ly rfl (.tmp 39) (.tmp 43) 24 rfl d.heap.size 79 i0 (.agg #[ah,.string ⟨#[]⟩,.string ⟨#[]⟩,ah,ah]) 5 56 underlying24 ET EV EW EX rfl (by decide) E2 0 [] rfl Q.own _ k (bn (M.take k)) rfl (EY.out _ B) (jt _) (by unfold maxLen;omega) (by omega) B.size ?_
            intro R U ho EO;have O:bR d.heap.size U R (M.take k):=jv (by rw[List.length_take,Nat.min_eq_left (by omega)];rw[Nat.zero_add,List.nil_append]at ho;exact ho);have f:Below d.heap.size d U:=B.grown EO B.size (fun k hk=>(Q.own.lt k hk).1);clear ho EO Q;try clear B
            have B:=f;clear f;try clear c
            obtain⟨c,rfl⟩: ∃y,y=U:=⟨_,rfl⟩
            refine a.out _ _ trivial (fun A=>?_)
            clear A a K;try simp only[pu])
         | (refine Tg.mk (n := 7) ?_
            have m7:Tg 7 True:=⟨trivial⟩
            obtain⟨f9,⟨f0,f1,f2,f3⟩,f8⟩:=E3.out.below B
            go_simp
            refine a.out _ _ trivial (fun A=>?_)
            clear A a K f0 f1 f2 f3 f8 f9;try simp only[pu]
            refine tk 10 ⟨some 49,Op.slice 24 (Operand.tmp 46) (some (Operand.tmp 48)) none none,24,_,_,none⟩ trivial ?_
            try simp only[pu])
       all_goals
        revert O
        revert B
        revert c
        revert R
        revert E2
        exact ES.out
     intro E2 R cw B O;refine wpAnyH_ready (rs:=[11]) (by kernel_rfl) (by simp) ?_
     refine AllReadyH.cons rfl (fun K a=>?_) AllReadyH.nil
     refine ly rfl (.tmp 44) (.tmp 49) 24 rfl d.heap.size 79 i0 (.agg #[ah,.string ⟨#[]⟩,.string ⟨#[]⟩,ah,ah]) 5 56 underlying24 ET EV EW EX rfl (by decide) R (M.take k).length (bn (M.take k)) rfl O.row _ 0 (bn (M.drop (k+1))) rfl (E7.out _ B) (jt _) (by rw[List.length_take];unfold maxLen;omega) (by rw[List.length_take];omega) B.size ?_
     intro Fg w2 EP V
     have E1:(M.take k++M.drop (k+1)).length=(M.take k).length+0:=by
      have h9:(M.take k++M.drop (k+1)).length=(M.take k).length+(M.drop (k+1)).length:=List.length_append;rw[List.length_drop]at h9;omega
     have EQ:w2.ownsRow d.heap.size 79 5 Fg (M.take k++M.drop (k+1)).length (bn (M.take k++M.drop (k+1))):=by rw[E1,Pp.flatS_append];exact EP
     have P:=ac (jv EQ);have f:Below d.heap.size d w2:=B.grown V B.size (fun k hk=>(O.row.lt k hk).1);have Y:(M.take k++M.drop (k+1)).length≤1000:=by rw[E1,List.length_take];omega
     obtain⟨a6,I,Ff,_,_,_⟩:=P.out.lies Y
     subst Ff;obtain⟨N,hN⟩: ∃N,N=(M.take k++M.drop (k+1)):=⟨_,rfl⟩
     have F3:=ac hN;rw[←hN]at P⊢;clear EP EQ V O B E1 Y hN;refine a.out _ _ trivial (fun A=>?_)
     clear a K A;try simp only[pu]
     refine tk 12 ⟨some 51,Op.fieldAddr 26 (Operand.tmp 4) 0,0,_,_,none⟩ trivial ?_
     try simp only[pu]
     obtain⟨Fl,⟨q0,q1,q2,q3⟩,k0,k1,k2,k3⟩:=E3.out.below f
     refine wpAnyH_ready (rs:=[13]) (by kernel_rfl) (by simp) ?_
     refine AllReadyH.cons rfl (fun K a=>?_) AllReadyH.nil
     go_simp
     refine a.out _ _ trivial (fun A=>?_)
     clear A a K;try simp only[pu]
     refine wpAnyH_done (by kernel_rfl) ?_ _
     have Fp:=f.size;obtain⟨T,z⟩: ∃T,T=w2.setCell ⟨w.heap.size,0,none⟩ (.slice a6 N.length I):=⟨_,rfl⟩
     have C:w2.grownBy T (some w.heap.size):=by rw[z];exact ai _ _ _ _
     have F6:=ac ((F5.out.below f).nb C (by omega));have z0:T.cell? ⟨w.heap.size,0,none⟩=some (.slice a6 N.length I):=by rw[z];simp[go_sem,q0]
     have z1:T.cell? ⟨w.heap.size,1,none⟩=some (.int .i64 x):=by rw[z];simp[go_sem,q1]
     have z2:T.cell? ⟨w.heap.size,2,none⟩=some (.int .i64 l):=by rw[z];simp[go_sem,q2]
     have z3:T.cell? ⟨w.heap.size,3,none⟩=some (.int .i64 r):=by rw[z];simp[go_sem,q3]
     have y2:T.cell? ⟨F.heap.size,2,none⟩=some (.string s.tx):=(Nb.cell C (p:=⟨F.heap.size,2,none⟩) (by show F.heap.size<w2.heap.size;omega) (by show F.heap.size≠w.heap.size;omega)).trans ((f.cell (p:=⟨F.heap.size,2,none⟩) (by show F.heap.size<d.heap.size;omega)).trans F7.out.1.2.2.1);have EL:Below w.heap.size w T:=(E.trans (f.mono E.size)).trans (Nb.to C (E.trans (f.mono E.size)).size ax);have F4:=ac (P.out.nb C (by omega));clear P C;go_wp2_with fail;rw[←z];clear z q0 q1 q2 q3 k0 k1 k2 k3;obtain⟨EJ,⟨c0,c1,c2,c3⟩,f0,f1,f2,f3⟩:=F6.out
     go_region
     go_wp2;refine bodyPost_ret (v:= .tuple #[.agg #[.slice a6 N.length I,x,l,r],s.tx,ah]) (by simp[results,results26,go_sem,c0,c1,c2,c3,EJ]) rfl (jW.ok Fh.out ?_ ?_)
     · rw[←F3.out]
       exact((F4.out.nb (Nb.set4 _ (w.heap.size+1) _ _ _ _) (by omega)).below aw.drew).mono (by omega)
     · exact(bz (b:=w.heap.size+1) EL (by omega)).drew
   · have E8:=hid (show∀W,Below d.heap.size d W→iC W (.slice (some ⟨g,(k+1)*5,none⟩) (M.length-(k+1)) (H-(k+1))) (M.length-(k+1)) 5 (bn (M.drop (k+1)))from fun W hW=>Or.inr ⟨⟨g,(k+1)*5,none⟩,_,rfl,by rw[il,List.length_drop],mq (b:=g) (o:=(k+1)*5) (L:=M.drop (k+1)) (fun i hi=>by
      have FB:k+1+i<M.length:=by rw[List.length_drop]at hi;omega
      have h9:=(E6.out.below hW).at FB;rw[show(k+1+i)*5=(k+1)*5+i*5 by omega]at h9;rw[List.getElem_drop];exact h9)⟩)
     have E7:=hid (show∀W,Below d.heap.size d W→iC W (.slice (some ⟨g,(k+1)*5,none⟩) (M.length-(k+1)) (H-(k+1))) (M.length-(k+1)) 5 (bn (M.drop (k+1)))from fun W hW=>E8.out W hW);refine wp_region_held_drew (S:=fun _=>True) (by kernel_rfl) trivial (fun F9=>?_)
     change wpAnyH _ _ _ _ _ 14 #[false,false,false,false,false,false,false,false,false,false,false,false,false,false] _ _
     have B:Below d.heap.size d d.drew:= aw.drew;generalize d.drew=c at B⊢;refine tk 1 ⟨some 40,Op.fieldAddr 26 (Operand.tmp 4) 0,0,_,_,none⟩ trivial ?_
     try simp only[pu]
     refine tk 3 ⟨some 42,Op.move (Operand.tmp 11),3,_,_,none⟩ trivial ?_
     try simp only[pu]
     refine tk 6 ⟨some 45,Op.fieldAddr 26 (Operand.tmp 4) 0,0,_,_,none⟩ trivial ?_
     try simp only[pu]
     refine tk 8 ⟨some 47,Op.move (Operand.tmp 11),3,_,_,none⟩ trivial ?_
     try simp only[pu]
     refine tk 9 ⟨some 48,Op.binOp BinOp.add 3 (Operand.tmp 47) (Operand.const (Value.int IntKind.i64 1)) 3,3,_,_,none⟩ trivial ?_
     try simp only[pu]
     refine qT (p:=?_) (fun ES=>?_) ?_
     rotate_left
     · skip
       iterate 4
        all_goals
         first
         |(have _g0:=m0;have _g1:=Z;have _g2:=m5;refine wpAnyH_ready (rs:=[7]) (by kernel_rfl) (by simp) ?_;refine AllReadyH.cons rfl (fun K a=>Tg.out (n:=7) ?_) (AllReadyH.nil))
         |(have _g0:=m0;have _g1:=Z;have _g2:=m7;refine wpAnyH_ready (rs:=[5]) (by kernel_rfl) (by simp) ?_;refine AllReadyH.cons rfl (fun K a=>Tg.out (n:=5) ?_) (AllReadyH.nil))
         |(have _g0:=m0;have _g1:=Z;refine wpAnyH_ready (rs:=[5,7]) (by kernel_rfl) (by simp) ?_;refine AllReadyH.cons rfl (fun K a=>Tg.out (n:=5) ?_) (AllReadyH.cons rfl (fun K a=>Tg.out (n:=7) ?_) (AllReadyH.nil)))
         |(have _g0:=m0;have _g1:=m7;refine wpAnyH_ready (rs:=[2]) (by kernel_rfl) (by simp) ?_;refine AllReadyH.cons rfl (fun K a=>Tg.out (n:=2) ?_) (AllReadyH.nil))
         |(have _g0:=Z;have _g1:=m7;refine wpAnyH_ready (rs:=[0]) (by kernel_rfl) (by simp) ?_;refine AllReadyH.cons rfl (fun K a=>Tg.out (n:=0) ?_) (AllReadyH.nil))
         |(have _g0:=m0;refine wpAnyH_ready (rs:=[2,7]) (by kernel_rfl) (by simp) ?_;refine AllReadyH.cons rfl (fun K a=>Tg.out (n:=2) ?_) (AllReadyH.cons rfl (fun K a=>Tg.out (n:=7) ?_) (AllReadyH.nil)))
         |(have _g0:=Z;refine wpAnyH_ready (rs:=[0,7]) (by kernel_rfl) (by simp) ?_;refine AllReadyH.cons rfl (fun K a=>Tg.out (n:=0) ?_) (AllReadyH.cons rfl (fun K a=>Tg.out (n:=7) ?_) (AllReadyH.nil)))
         |(have _g0:=m7;refine wpAnyH_ready (rs:=[0,2]) (by kernel_rfl) (by simp) ?_;refine AllReadyH.cons rfl (fun K a=>Tg.out (n:=0) ?_) (AllReadyH.cons rfl (fun K a=>Tg.out (n:=2) ?_) (AllReadyH.nil)))
         |(refine wpAnyH_ready (rs:=[0,2,7]) (by kernel_rfl) (by simp) ?_;refine AllReadyH.cons rfl (fun K a=>Tg.out (n:=0) ?_) (AllReadyH.cons rfl (fun K a=>Tg.out (n:=2) ?_) (AllReadyH.cons rfl (fun K a=>Tg.out (n:=7) ?_) (AllReadyH.nil))))
        all_goals
         first
         | (refine Tg.mk (n := 0) ?_
            have m0:Tg 0 True:=⟨trivial⟩
            go_simp
            generalize z:World.alloc c (.cells #[] 79)=U;have hz:Below c.heap.size c U:=z▸ak;have f:Below d.heap.size d U:=aG B hz;have Q:fA d.heap.size U (.slice (some ⟨c.heap.size,0,none⟩) 0 0):=fA.new z B.size;clear z hz;generalize Value.slice (some (Addr.mk c.heap.size 0 none)) 0 0=E2 at Q⊢;try clear B
            have B:=f;clear f;try clear c
            obtain⟨c,rfl⟩: ∃y,y=U:=⟨_,rfl⟩
            refine a.out _ _ trivial (fun A=>?_)
            clear A a K;try simp only[pu])
         | (refine Tg.mk (n := 2) ?_
            have Z:Tg 2 True:=⟨trivial⟩
            obtain⟨f9,⟨f0,f1,f2,f3⟩,f8⟩:=E3.out.below B
            go_simp
            refine a.out _ _ trivial (fun A=>?_)
            clear A a K f0 f1 f2 f3 f8 f9;try simp only[pu]
            refine tk 4 ⟨some 43,Op.slice 24 (Operand.tmp 41) none (some (Operand.tmp 42)) none,24,_,_,none⟩ trivial ?_
            try simp only[pu])
         | (refine Tg.mk (n := 5) ?_
            have m5:Tg 5 True:=⟨trivial⟩
            refine ly rfl (.tmp 39) (.tmp 43) 24 rfl d.heap.size 79 i0 (.agg #[ah,.string ⟨#[]⟩,.string ⟨#[]⟩,ah,ah]) 5 56 underlying24 ET EV EW EX rfl (by decide) E2 0 [] rfl Q.own _ k (bn (M.take k)) rfl (EY.out _ B) (jt _) (by unfold maxLen;omega) (by omega) B.size ?_
            intro R U ho EO;have O:bR d.heap.size U R (M.take k):=jv (by rw[List.length_take,Nat.min_eq_left (by omega)];rw[Nat.zero_add,List.nil_append]at ho;exact ho);have f:Below d.heap.size d U:=B.grown EO B.size (fun k hk=>(Q.own.lt k hk).1);clear ho EO Q;try clear B
            have B:=f;clear f;try clear c
            obtain⟨c,rfl⟩: ∃y,y=U:=⟨_,rfl⟩
            refine a.out _ _ trivial (fun A=>?_)
            clear A a K;try simp only[pu])
         | (refine Tg.mk (n := 7) ?_
            have m7:Tg 7 True:=⟨trivial⟩
            obtain⟨f9,⟨f0,f1,f2,f3⟩,f8⟩:=E3.out.below B
            go_simp
            refine a.out _ _ trivial (fun A=>?_)
            clear A a K f0 f1 f2 f3 f8 f9;try simp only[pu]
            refine tk 10 ⟨some 49,Op.slice 24 (Operand.tmp 46) (some (Operand.tmp 48)) none none,24,_,_,none⟩ trivial ?_
            try simp only[pu])
       all_goals
        revert O
        revert B
        revert c
        revert R
        revert E2
        exact ES.out
     intro E2 R cw B O;refine wpAnyH_ready (rs:=[11]) (by kernel_rfl) (by simp) ?_
     refine AllReadyH.cons rfl (fun K a=>?_) AllReadyH.nil
     refine ly rfl (.tmp 44) (.tmp 49) 24 rfl d.heap.size 79 i0 (.agg #[ah,.string ⟨#[]⟩,.string ⟨#[]⟩,ah,ah]) 5 56 underlying24 ET EV EW EX rfl (by decide) R (M.take k).length (bn (M.take k)) rfl O.row _ (M.length-(k+1)) (bn (M.drop (k+1))) rfl (E7.out _ B) (jt _) (by rw[List.length_take];unfold maxLen;omega) (by rw[List.length_take];omega) B.size ?_
     intro Fg w2 EP V
     have E1:(M.take k++M.drop (k+1)).length=(M.take k).length+(M.length-(k+1)):=by
      have h9:(M.take k++M.drop (k+1)).length=(M.take k).length+(M.drop (k+1)).length:=List.length_append;rw[List.length_drop]at h9;omega
     have EQ:w2.ownsRow d.heap.size 79 5 Fg (M.take k++M.drop (k+1)).length (bn (M.take k++M.drop (k+1))):=by rw[E1,Pp.flatS_append];exact EP
     have P:=ac (jv EQ);have f:Below d.heap.size d w2:=B.grown V B.size (fun k hk=>(O.row.lt k hk).1);have Y:(M.take k++M.drop (k+1)).length≤1000:=by rw[E1,List.length_take];omega
     obtain⟨a6,I,Ff,_,_,_⟩:=P.out.lies Y
     subst Ff;obtain⟨N,hN⟩: ∃N,N=(M.take k++M.drop (k+1)):=⟨_,rfl⟩
     have F3:=ac hN;rw[←hN]at P⊢;clear EP EQ V O B E1 Y hN;refine a.out _ _ trivial (fun A=>?_)
     clear a K A;try simp only[pu]
     refine tk 12 ⟨some 51,Op.fieldAddr 26 (Operand.tmp 4) 0,0,_,_,none⟩ trivial ?_
     try simp only[pu]
     obtain⟨Fl,⟨q0,q1,q2,q3⟩,k0,k1,k2,k3⟩:=E3.out.below f
     refine wpAnyH_ready (rs:=[13]) (by kernel_rfl) (by simp) ?_
     refine AllReadyH.cons rfl (fun K a=>?_) AllReadyH.nil
     go_simp
     refine a.out _ _ trivial (fun A=>?_)
     clear A a K;try simp only[pu]
     refine wpAnyH_done (by kernel_rfl) ?_ _
     have Fp:=f.size;obtain⟨T,z⟩: ∃T,T=w2.setCell ⟨w.heap.size,0,none⟩ (.slice a6 N.length I):=⟨_,rfl⟩
     have C:w2.grownBy T (some w.heap.size):=by rw[z];exact ai _ _ _ _
     have F6:=ac ((F5.out.below f).nb C (by omega));have z0:T.cell? ⟨w.heap.size,0,none⟩=some (.slice a6 N.length I):=by rw[z];simp[go_sem,q0]
     have z1:T.cell? ⟨w.heap.size,1,none⟩=some (.int .i64 x):=by rw[z];simp[go_sem,q1]
     have z2:T.cell? ⟨w.heap.size,2,none⟩=some (.int .i64 l):=by rw[z];simp[go_sem,q2]
     have z3:T.cell? ⟨w.heap.size,3,none⟩=some (.int .i64 r):=by rw[z];simp[go_sem,q3]
     have y2:T.cell? ⟨F.heap.size,2,none⟩=some (.string s.tx):=(Nb.cell C (p:=⟨F.heap.size,2,none⟩) (by show F.heap.size<w2.heap.size;omega) (by show F.heap.size≠w.heap.size;omega)).trans ((f.cell (p:=⟨F.heap.size,2,none⟩) (by show F.heap.size<d.heap.size;omega)).trans F7.out.1.2.2.1);have EL:Below w.heap.size w T:=(E.trans (f.mono E.size)).trans (Nb.to C (E.trans (f.mono E.size)).size ax);have F4:=ac (P.out.nb C (by omega));clear P C;go_wp2_with fail;rw[←z];clear z q0 q1 q2 q3 k0 k1 k2 k3;obtain⟨EJ,⟨c0,c1,c2,c3⟩,f0,f1,f2,f3⟩:=F6.out
     go_region
     go_wp2;refine bodyPost_ret (v:= .tuple #[.agg #[.slice a6 N.length I,x,l,r],s.tx,ah]) (by simp[results,results26,go_sem,c0,c1,c2,c3,EJ]) rfl (jW.ok Fh.out ?_ ?_)
     · rw[←F3.out]
       exact((F4.out.nb (Nb.set4 _ (w.heap.size+1) _ _ _ _) (by omega)).below aw.drew).mono (by omega)
     · exact(bz (b:=w.heap.size+1) EL (by omega)).drew
 · have Fs:=ac E4
   have Fb:((s.tx.size:Int) !=s.si)=true:=by simpa using E4
   clear E4;obtain⟨EJ,⟨c0,c1,c2,c3⟩,f0,f1,f2,f3⟩:=F5.out
   go_wp2;refine bodyPost_ret (v:= .tuple #[.agg  aJ ,.string ⟨#[]⟩,.int .i64 4]) (by simp[results,results26,go_sem,c0,c1,c2,c3,EJ]) rfl (jW.e4 Fs.out ?_)
   exact bz (b:=w.heap.size+1) E (by omega)
theorem DT (G:List Se) (v:Value) (x l r:Int) (p:ByteArray) (n:Int) (now:Int) (w:World) (F:aK w v G) (B:bq G) (P:p.size≤150000000000000) (z: ¬bk G x l r p n now=0):
    Calls prog 26 #[.agg #[v,x,l,r],p,n,now] w fun e w'=>e= .returned (.tuple #[.agg  aJ ,.string ⟨#[]⟩,bk G x l r p n now])∧Below w.heap.size w w':=by
 have I:=ac F;have H:=ac B;obtain⟨u,c,rfl,_⟩:=F
 clear B;obtain⟨f,a⟩: ∃f,f=(w.alloc (.cells #[.slice u G.length c,x,l,r] 26)).alloc (.cells  aJ  26):=⟨_,rfl⟩
 have i:=hid (show Below w.heap.size w f from by rw[a];exact ak.alloc (by simp) _);have s:=hid (show Bx f w.heap.size (.slice u G.length c) x (.int .i64 l) r from by rw[a];exact(Bx.new w _ _ _ _ _).below ak)
 have o:=hid (show Bx f (w.heap.size+1) al ah ah ah from by
  have:=Bx.new (w.alloc (.cells #[.slice u G.length c,x,l,r] 26)) al ah ah ah 26
  rw[a];simpa using this)
 have C:f.heap.size=w.heap.size+2:=by rw[a];simp
 have j:=ac z;have hz:(bk G x l r p n now==0)=false:=by simpa using z
 clear z;go_enter func26,ntmps26
 go_wp2_with fail;rw[←a];clear a;refine(lx G _ x l r p n now _ (I.out.below i.out) H.out P).mono ?_
 rintro e w4 (⟨_,R,m4,M,rfl,d⟩|⟨O,_⟩);rotate_left
 · exact absurd O j.out
 have g:=i.out.trans (d.mono i.out.size);obtain⟨A,⟨J,K,c2,c3⟩,S,T,f2,U⟩:=o.out.below d
 obtain⟨N,⟨u0,u1,u2,u3⟩,V,X,Y,Z⟩:=s.out.below d
 have E:=d.size;clear d;generalize Q:bk G x l r p n now=y at*;go_wp2;refine bodyPost_ret (v:= .tuple #[.agg  aJ ,.string ⟨#[]⟩,y]) (by simp[results,results26,go_sem,J,K,c2,c3,A]) rfl ⟨by rw[Q],?_⟩
 exact bz (b:=w.heap.size+1) (bz (b:=w.heap.size) g ax) (by omega)
end Go.Proofs.YtdlpjlfefjipkaaGreat
