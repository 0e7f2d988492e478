/- A client in memory of its own: what own.Client and checked answer. -/
import Derived.Test.YtgamnckfmmbjdaaGreatDoorWGL
import Derived.Test.YtgamnckfmmbjdaaGreatDoorWGK
import Derived.Deep.Cut
import Derived.Sort.Walk0
set_option linter.unusedSimpArgs false
set_option linter.unusedVariables false
namespace Go.Proofs.YtgamnckfmmbjdaaGreatDoor
open Go.RowKit Go.Proofs.Tryz
set_option maxHeartbeats 4000000
set_option maxRecDepth 100000
def dS (B:Nat) (w:World) (v:Value) (c:Cn):Prop:= ∃vb vm va,v= .agg #[.string c.who,.string c.fo,vb,.int .i64 c.cur,vm,.string c.key,va,.int .i64 c.keys]∧(aj w vb c.base∧aw B w vb)∧(aj w vm c.mine∧aw B w vm)∧bk w va c.ask∧aw B w va
theorem dS.lies {B:Nat} {w:World} {v:Value} {c:Cn} (h:dS B w v c):dD w v c:=by
 obtain⟨o,u,j,e,a,d,f,_⟩:=h
 exact⟨o,u,j,e,a.1,d.1,f⟩
theorem dS.below {B:Nat} {w w':World} {v:Value} {c:Cn} (h:dS B w v c) (a:Below w.heap.size w w'):dS B w' v c:=by
 obtain⟨y,z,u,e,d,f,j,o⟩:=h
 exact⟨y,z,u,e,⟨d.1.below a,d.2.below a⟩,⟨f.1.below a,f.2.below a⟩,j.below a,o.below a⟩
theorem dS.mono {B d:Nat} {w:World} {v:Value} {c:Cn} (h:dS B w v c) (a:d≤B):dS d w v c:=by
 obtain⟨z,A,y,e,f,j,o,u⟩:=h
 exact⟨z,A,y,e,⟨f.1,f.2.mono a⟩,⟨j.1,j.2.mono a⟩,o,u.mono a⟩
theorem dS.nbo {B g:Nat} {w w':World} {v:Value} {c:Cn} (h:dS B w v c) (a:w.grownBy w' (some g)) (E:g<B):dS B w' v c:=by
 obtain⟨z,A,y,e,d,f,o,j⟩:=h
 have k: ∀{u:Value},aw B w u→ ∀b,u.ownBlock=some b→b≠g:=fun h b hb=>by have:=(h b hb).1;omega
 exact⟨z,A,y,e,⟨d.1.nbo a (k d.2),d.2.nb a (k d.2)⟩,⟨f.1.nbo a (k f.2),f.2.nb a (k f.2)⟩,o.nbo a (k j),j.nb a (k j)⟩
def lw:Cn:=⟨⟨#[]⟩,⟨#[]⟩,[],0,[],⟨#[]⟩,[],0⟩
theorem vK (B:Nat) (w:World):dS B w (.agg #[.string ⟨#[]⟩,.string ⟨#[]⟩,.slice none 0 0,.int .i64 0,.slice none 0 0,.string ⟨#[]⟩,.slice none 0 0,.int .i64 0]) lw:=
 ⟨_,_,_,rfl,⟨iR _,eX _ _⟩,⟨iR _,eX _ _⟩,⟨none,0,rfl,Nat.le_refl _,by decide,fun i h=>absurd h (by simp[lw])⟩,eX _ _⟩
abbrev zs:List Value:=[.string ⟨#[]⟩,.string ⟨#[]⟩,.slice none 0 0,.int .i64 0,.slice none 0 0,.string ⟨#[]⟩,.slice none 0 0,.int .i64 0]
theorem qC (c:Cn) (v:Value) (w:World) (hv:dD w v c) (hb:c.base.length≤1000000) (hm:c.mine.length≤1000000) (ha:c.ask.length≤1000000):
    Calls prog 51 #[v] w fun e w'=> ∃u,e= .returned u∧dS w.heap.size w' u c∧Below w.heap.size w w':=by
 obtain⟨vb,vm,va,rfl,lb,lm,la⟩:=hv
 have CO:=hid lb;have CP:=hid lm;have CN:=hid la;obtain⟨ab,cb,rfl,_⟩:=lb
 obtain⟨am,aO,rfl,_⟩:=lm
 obtain⟨V,X,rfl,_⟩:=la
 obtain⟨A,E⟩: ∃A,A=(w.alloc (.cells #[.string c.who,.string c.fo,.slice ab c.base.length cb,.int .i64 c.cur,.slice am c.mine.length aO,.string c.key,.slice V c.ask.length X,.int .i64 c.keys] 50)).alloc (.cells #[.string ⟨#[]⟩,.string ⟨#[]⟩,.slice none 0 0,.int .i64 0,.slice none 0 0,.string ⟨#[]⟩,.slice none 0 0,.int .i64 0] 50):=⟨_,rfl⟩
 have CI:Below w.heap.size w A:=by rw[E];exact((Below.refl _ _).alloc (Nat.le_refl _) _).alloc (by simp) _
 have CL:Hid (Cs A w.heap.size [.string c.who,.string c.fo,.slice ab c.base.length cb,.int .i64 c.cur,.slice am c.mine.length aO,.string c.key,.slice V c.ask.length X,.int .i64 c.keys]):=(by rw[E];exact(Cs.new w [.string c.who,.string c.fo,.slice ab c.base.length cb,.int .i64 c.cur,.slice am c.mine.length aO,.string c.key,.slice V c.ask.length X,.int .i64 c.keys] _).below ((Below.refl _ _).alloc (Nat.le_refl _) _):Cs A w.heap.size _)
 have Y:=hid (show Cs A (w.heap.size+1) zs from by
  have:=Cs.new (w.alloc (.cells #[.string c.who,.string c.fo,.slice ab c.base.length cb,.int .i64 c.cur,.slice am c.mine.length aO,.string c.key,.slice V c.ask.length X,.int .i64 c.keys] 50)) zs 50
  rw[E];simpa using this)
 have CS:w.heap.size+1<A.heap.size:=Y.out.lt;go_enter func51,ntmps51
 go_wp2_with fail;rw[←E];clear E;refine(ny (c.base.map Pp.cells) _ _ (jA.1 (CO.out.below CI)) (by simp;omega)).mono ?_
 rintro e w1 ⟨u1,rfl,CD,C8,K⟩;have Z:=hid (jA.2 CD);have C5:=hid C8;obtain⟨G,H,rfl,_⟩:=Z.out
 have CV:=K.size;have I:=hid (CL.out.below K);have c0:=I.out.cell 2 rfl;have f0:=I.out.fr 2;have d4:=I.out.cell 4 rfl;obtain⟨M,o⟩: ∃M,M=w1.setCell ⟨w.heap.size,2,none⟩ (.slice G c.base.length H):=⟨_,rfl⟩
 have CJ:Hid (Cs M w.heap.size [.string c.who,.string c.fo,.slice G c.base.length H,.int .i64 c.cur,.slice am c.mine.length aO,.string c.key,.slice V c.ask.length X,.int .i64 c.keys]):=(by rw[o];exact I.out.set 2 _:Cs M w.heap.size _)
 have CQ:=hid (show Cs M (w.heap.size+1) zs from by rw[o];exact(Y.out.below K).other (by omega) _);have CW:M.heap.size=w1.heap.size:=by rw[o];simp
 have S:=hid (show aj M (.slice G c.base.length H) c.base∧aw A.heap.size M (.slice G c.base.length H)from by rw[o];exact⟨Z.out.nbo (au _ _ _ _) (fun b hb=>by have:=(C5.out b hb).1;omega),C5.out.setCell _ _ _⟩);have CG:Below w.heap.size w M:=by rw[o];exact(af CI K).setCell (p:=⟨w.heap.size,2,none⟩) (Nat.le_refl _) _
 clear CD C8;go_wp2_with fail;rw[←o];clear o c0 f0 d4;refine(ny (c.mine.map Pp.cells) _ _ (jA.1 (CP.out.below CG)) (by simp;omega)).mono ?_
 rintro e w3 ⟨u3,rfl,CE,C9,y⟩;have C3:=hid (jA.2 CE);have C6:=hid C9;obtain⟨O,P,rfl,_⟩:=C3.out
 have CX:=y.size;have J:=hid (CJ.out.below y);have c0:=J.out.cell 4 rfl;have f0:=J.out.fr 4;have d6:=J.out.cell 6 rfl;obtain⟨F,j⟩: ∃F,F=w3.setCell ⟨w.heap.size,4,none⟩ (.slice O c.mine.length P):=⟨_,rfl⟩
 have CK:Hid (Cs F w.heap.size [.string c.who,.string c.fo,.slice G c.base.length H,.int .i64 c.cur,.slice O c.mine.length P,.string c.key,.slice V c.ask.length X,.int .i64 c.keys]):=(by rw[j];exact J.out.set 4 _:Cs F w.heap.size _)
 have CR:=hid (show Cs F (w.heap.size+1) zs from by rw[j];exact(CQ.out.below y).other (by omega) _);have CY:F.heap.size=w3.heap.size:=by rw[j];simp
 have T:=hid (show aj F (.slice G c.base.length H) c.base∧aw A.heap.size F (.slice G c.base.length H)from by rw[j];exact⟨(S.out.1.below y).nbo (au _ _ _ _) (fun b hb=>by have:=(S.out.2 b hb).1;omega),(S.out.2.below y).setCell _ _ _⟩);have U:=hid (show aj F (.slice O c.mine.length P) c.mine∧aw A.heap.size F (.slice O c.mine.length P)from by rw[j];exact⟨C3.out.nbo (au _ _ _ _) (fun b hb=>by have:=(C6.out b hb).1;omega),(C6.out.setCell _ _ _).mono (by omega)⟩);have CH:Below w.heap.size w F:=by rw[j];exact(af CG y).setCell (p:=⟨w.heap.size,4,none⟩) (Nat.le_refl _) _
 clear CE C9;go_wp2_with fail;rw[←j];clear j c0 f0 d6;refine(qp (c.ask.map fU) _ _ (lp.1 (CN.out.below CH)) (by simp;omega)).mono ?_
 rintro e w5 ⟨u5,rfl,CF,CC,f⟩;have C4:=hid (lp.2 CF);have C7:=hid CC;obtain⟨za,zc,rfl,_⟩:=C4.out
 have CZ:=f.size;have Q:=hid (CK.out.below f);have c0:=Q.out.cell 6 rfl;have f0:=Q.out.fr 6;obtain⟨N,z⟩: ∃N,N=w5.setCell ⟨w.heap.size,6,none⟩ (.slice za c.ask.length zc):=⟨_,rfl⟩
 have d:Hid (Cs N w.heap.size [.string c.who,.string c.fo,.slice G c.base.length H,.int .i64 c.cur,.slice O c.mine.length P,.string c.key,.slice za c.ask.length zc,.int .i64 c.keys]):=(by rw[z];exact Q.out.set 6 _:Cs N w.heap.size _)
 have a:=hid (show Cs N (w.heap.size+1) zs from by rw[z];exact(CR.out.below f).other (by omega) _)
 have CM:Hid (dS A.heap.size N (.agg #[.string c.who,.string c.fo,.slice G c.base.length H,.int .i64 c.cur,.slice O c.mine.length P,.string c.key,.slice za c.ask.length zc,.int .i64 c.keys]) c):=(by
  rw[z];have k: ∀{W:World} {u:Value},aw A.heap.size W u→ ∀b,u.ownBlock=some b→b≠w.heap.size:=fun h b hb=>by have:=(h b hb).1;omega
  exact⟨_,_,_,rfl,⟨(T.out.1.below f).nbo (au _ _ _ _) (k T.out.2),(T.out.2.below f).setCell _ _ _⟩,⟨(U.out.1.below f).nbo (au _ _ _ _) (k U.out.2),(U.out.2.below f).setCell _ _ _⟩,C4.out.nbo (au _ _ _ _) (fun b hb=>by have:=(C7.out b hb).1;omega),(C7.out.setCell _ _ _).mono (by omega)⟩:dS A.heap.size N _ c)
 have CT:Below w.heap.size w N:=by rw[z];exact(af CH f).setCell (p:=⟨w.heap.size,6,none⟩) (Nat.le_refl _) _
 clear CF CC;go_upto_region 4 with fail;rw[←z];clear z c0 f0;have a0:=d.out.cell 0 rfl;have a1:=d.out.cell 1 rfl;have a2:=d.out.cell 2 rfl;have a3:=d.out.cell 3 rfl;have a4:=d.out.cell 4 rfl;have a5:=d.out.cell 5 rfl;have a6:=d.out.cell 6 rfl;have a7:=d.out.cell 7 rfl;have y0:=a.out.cell 0 rfl;have y1:=a.out.cell 1 rfl;have y2:=a.out.cell 2 rfl;have y3:=a.out.cell 3 rfl;have y4:=a.out.cell 4 rfl;have y5:=a.out.cell 5 rfl;have y6:=a.out.cell 6 rfl;have y7:=a.out.cell 7 rfl;have g0:=a.out.fr 0;have g1:=a.out.fr 1;have g2:=a.out.fr 2;have g3:=a.out.fr 3;have g4:=a.out.fr 4;have g5:=a.out.fr 5;have g6:=a.out.fr 6;have g7:=a.out.fr 7;have CU: ¬w.heap.size=w.heap.size+1:=by omega
 go_wp2_with fail;refine bodyPost_ret (v:= .agg #[.string c.who,.string c.fo,.slice G c.base.length H,.int .i64 c.cur,.slice O c.mine.length P,.string c.key,.slice za c.ask.length zc,.int .i64 c.keys]) (by simp[results,results51,go_sem,y0,y1,y2,y3,y4,y5,y6,y7]) rfl ⟨_,rfl,?_,?_⟩
 · exact(CM.out.nbo (aN (aN (aN (aN (aN (aN (aN (au N (w.heap.size+1) 0 (.string c.who)) (au _ (w.heap.size+1) 1 (.string c.fo))) (au _ (w.heap.size+1) 2 (.slice G c.base.length H))) (au _ (w.heap.size+1) 3 (.int .i64 c.cur))) (au _ (w.heap.size+1) 4 (.slice O c.mine.length P))) (au _ (w.heap.size+1) 5 (.string c.key))) (au _ (w.heap.size+1) 6 (.slice za c.ask.length zc))) (au _ (w.heap.size+1) 7 (.int .i64 c.keys))) CS).mono (by omega)
 · exact((((((((CT.setCell (p:=⟨w.heap.size+1,0,none⟩) (Nat.le_succ _) _).setCell (p:=⟨w.heap.size+1,1,none⟩) (Nat.le_succ _) _).setCell (p:=⟨w.heap.size+1,2,none⟩) (Nat.le_succ _) _).setCell (p:=⟨w.heap.size+1,3,none⟩) (Nat.le_succ _) _).setCell (p:=⟨w.heap.size+1,4,none⟩) (Nat.le_succ _) _).setCell (p:=⟨w.heap.size+1,5,none⟩) (Nat.le_succ _) _).setCell (p:=⟨w.heap.size+1,6,none⟩) (Nat.le_succ _) _).setCell (p:=⟨w.heap.size+1,7,none⟩) (Nat.le_succ _) _)
theorem nK (c:Co) (n:Int):((c.nu==n)=false∧bW c n=4)∨(c.nu=n∧1000000<n∧bW c n=3)∨(c.nu=n∧ ¬1000000<n∧dy c.ke.data.toList=1∧bW c n=1)∨
    (c.nu=n∧ ¬1000000<n∧dy c.ke.data.toList=0∧c.ch.length=0∧bW c n=1)∨(c.nu=n∧ ¬1000000<n∧dy c.ke.data.toList=0∧0<c.ch.length∧bW c n=0):=by
 by_cases a:c.nu=n
 · by_cases d:1000000<n
   · exact Or.inr (Or.inl ⟨a,d,by rw[bW,if_neg (fun x=>x a),if_pos d]⟩)
   · cases e:bV c.ke.data.toList with
     |false=>exact Or.inr (Or.inr (Or.inl ⟨a,d,iq e,by rw[bW,if_neg (fun x=>x a),if_neg d,if_pos (by simp[e])]⟩))
     |true=>
      by_cases f:c.ch=[]
      · exact Or.inr (Or.inr (Or.inr (Or.inl ⟨a,d,jl e,by rw[f];rfl,by rw[bW,if_neg (fun x=>x a),if_neg d,if_neg (fun x=>x e),if_pos f]⟩)))
      · exact Or.inr (Or.inr (Or.inr (Or.inr ⟨a,d,jl e,List.length_pos_iff.2 f,by rw[bW,if_neg (fun x=>x a),if_neg d,if_neg (fun x=>x e),if_neg f]⟩)))
 · exact Or.inl ⟨by simpa using a,by rw[bW,if_pos a]⟩
theorem vL (c:Co) (u:Value) (n:Int) (w:World) (K:bk w u c.ch) (o:c.ke.size≤maxLen):
    Calls prog 202 #[.agg #[.int .i64 c.nu,.string c.ke,u],.int .i64 n] w fun e w'=>e= .returned (.int .i64 (bW c n))∧Below w.heap.size w w':=by
 obtain⟨a,G,rfl,E,j,_⟩:=K
 have d:Below w.heap.size w (w.alloc (.cells #[.int .i64 c.nu,.string c.ke,.slice a c.ch.length G] 111)):=(Below.refl _ _).alloc (Nat.le_refl _) _;rcases nK c n with⟨f,ae⟩|⟨f,z,ae⟩|⟨f,z,F,ae⟩|⟨f,z,F,H,ae⟩|⟨f,z,F,H,ae⟩
 · have y:=hid ae
   clear ae;go_enter func202,ntmps202
   go_wp2;go_ret;exact⟨by rw[y.out];rfl,d⟩
 · have y:=hid ae
   clear ae;obtain⟨nu,ke,ch⟩:=c
   simp only at f z d o⊢;subst f;go_enter func202,ntmps202
   go_wp2;go_ret;exact⟨by rw[y.out];rfl,d⟩
 all_goals
  have y:=hid ae;have J:=hid F;clear ae F;try (have A:((c.ch.length:Int)==0)=true:=by rw[beq_iff_eq];omega)
  try (have A:((c.ch.length:Int)==0)=false:=by rw[beq_eq_false_iff_ne];omega)
  try clear H
  obtain⟨nu,ke,ch⟩:=c
  simp only at f z d o E j⊢;try simp only at A
  subst f;go_enter func202,ntmps202
  go_wp2_with fail;refine(jm ke _ o).mono ?_
  rintro e M ⟨rfl,I⟩;rw[I,J.out];clear I M;go_wp2;go_ret;exact⟨by rw[y.out];rfl,d⟩
def Cy.ok (c:Cn):Cn:=if aU c=0 then c else lw
theorem qD {c:Cn} (h:aU c=0):Cy.ok c=c:=if_pos h
theorem vM {c:Cn} (h: ¬aU c=0):Cy.ok c=lw:=if_neg h
theorem qE {c:Cn} (h:aU c=0):dm c.who c.fo=0∧aA c.base=0∧aA c.mine=0∧eb c=false∧dp c.key c.ask.length=0:=by
 unfold aU at h;split at h
 · rename_i a;exact absurd h a
 · rename_i a
   split at h
   · rename_i d;exact absurd h d
   · rename_i d
     split at h
     · rename_i e;exact absurd h e
     · rename_i e
       split at h
       · cases h
       · rename_i f
         exact⟨Classical.not_not.1 a,Classical.not_not.1 d,Classical.not_not.1 e,by simpa using f,h⟩
theorem vN {key:ByteArray} {n:Nat} (h:dp key n=0):n≤20:=by
 unfold dp at h;split at h
 · cases h
 · split at h
   · cases h
   · split at h
     · cases h
     · omega
theorem vO {c:Cn} (h:aU c=0):c.base.length≤60∧c.mine.length≤60∧c.ask.length≤20:=by
 obtain⟨_,a,d,_,e⟩:=qE h
 exact⟨((gx _).1 a).len,((gx _).1 d).len,vN e⟩
theorem vP (c:Cn) (v:Value) (w:World) (hv:dD w v c) (hs:fR c):
    Calls prog 23 #[v] w fun e w'=> ∃u,e= .returned (.tuple #[u,.int .i64 (aU c)])∧dS w.heap.size w' u (Cy.ok c)∧Below w.heap.size w w':=by
 have HV:=hid hv;have HS:=hid hs;obtain⟨vb,vm,va,rfl,lb,lm,la⟩:=hv
 obtain⟨M,P,rfl,_⟩:=lb
 obtain⟨N,aO,rfl,_⟩:=lm
 obtain⟨K,O,rfl,_⟩:=la
 clear hs;obtain⟨A,o⟩: ∃A,A=(w.alloc (.cells #[.string c.who,.string c.fo,.slice M c.base.length P,.int .i64 c.cur,.slice N c.mine.length aO,.string c.key,.slice K c.ask.length O,.int .i64 c.keys] 50)).alloc (.cells #[.string ⟨#[]⟩,.string ⟨#[]⟩,.slice none 0 0,.int .i64 0,.slice none 0 0,.string ⟨#[]⟩,.slice none 0 0,.int .i64 0] 50):=⟨_,rfl⟩
 have I:Below w.heap.size w A:=by rw[o];exact((Below.refl _ _).alloc (Nat.le_refl _) _).alloc (by simp) _
 have Q:Hid (Cs A w.heap.size [.string c.who,.string c.fo,.slice M c.base.length P,.int .i64 c.cur,.slice N c.mine.length aO,.string c.key,.slice K c.ask.length O,.int .i64 c.keys]):=(by rw[o];exact(Cs.new w [.string c.who,.string c.fo,.slice M c.base.length P,.int .i64 c.cur,.slice N c.mine.length aO,.string c.key,.slice K c.ask.length O,.int .i64 c.keys] _).below ((Below.refl _ _).alloc (Nat.le_refl _) _):Cs A w.heap.size _)
 have E:=hid (show Cs A (w.heap.size+1) zs from by
  have:=Cs.new (w.alloc (.cells #[.string c.who,.string c.fo,.slice M c.base.length P,.int .i64 c.cur,.slice N c.mine.length aO,.string c.key,.slice K c.ask.length O,.int .i64 c.keys] 50)) zs 50
  rw[o];simpa using this)
 have C4:w.heap.size+1<A.heap.size:=E.out.lt;go_enter func23,ntmps23
 go_wp2_with fail;rw[←o];clear o;refine(mY c _ _ (HV.out.below I) HS.out).mono ?_
 rintro e w1 ⟨rfl,y⟩;have j:=af I y;have C6:=y.size;have f:=hid (Q.out.below y);have a:=hid (E.out.below y);have C5: ¬w.heap.size=w.heap.size+1:=by omega
 by_cases z:aU c=0
 · have J:=hid z
   have C3:=vO z;rw[z];clear z;have a0:=f.out.cell 0 rfl;have a1:=f.out.cell 1 rfl;have a2:=f.out.cell 2 rfl;have a3:=f.out.cell 3 rfl;have a4:=f.out.cell 4 rfl;have a5:=f.out.cell 5 rfl;have a6:=f.out.cell 6 rfl;have a7:=f.out.cell 7 rfl;go_wp2_with fail;refine(qC c _ _ (HV.out.below j) (by omega) (by omega) (by omega)).mono ?_
   rintro e w2 ⟨u,rfl,F,H⟩;have G:=af j H;have d:=hid (a.out.below H);have S:=hid F;obtain⟨vb,vm,va,rfl,⟨Y,_⟩,⟨Z,_⟩,X,_⟩:=F
   obtain⟨xb,yb,rfl,_⟩:=Y
   obtain⟨xm,ym,rfl,_⟩:=Z
   obtain⟨xa,ya,rfl,_⟩:=X
   clear a0 a1 a2 a3 a4 a5 a6 a7;have y0:=d.out.cell 0 rfl;have g0:=d.out.fr 0;have y1:=d.out.cell 1 rfl;have g1:=d.out.fr 1;have y2:=d.out.cell 2 rfl;have g2:=d.out.fr 2;have y3:=d.out.cell 3 rfl;have g3:=d.out.fr 3;have y4:=d.out.cell 4 rfl;have g4:=d.out.fr 4;have y5:=d.out.cell 5 rfl;have g5:=d.out.fr 5;have y6:=d.out.cell 6 rfl;have g6:=d.out.fr 6;have y7:=d.out.cell 7 rfl;have g7:=d.out.fr 7;go_wp2_with fail;refine bodyPost_ret (v:= .tuple #[.agg #[.string c.who,.string c.fo,.slice xb c.base.length yb,.int .i64 c.cur,.slice xm c.mine.length ym,.string c.key,.slice xa c.ask.length ya,.int .i64 c.keys],.int .i64 0]) (by simp[results,results23,go_sem,y0,y1,y2,y3,y4,y5,y6,y7]) rfl ⟨_,by rw[J.out],?_,?_⟩
   · rw[qD J.out]
     exact(S.out.nbo (aN (aN (aN (aN (aN (aN (aN (au w2 (w.heap.size+1) 0 (.string c.who)) (au _ (w.heap.size+1) 1 (.string c.fo))) (au _ (w.heap.size+1) 2 (.slice xb c.base.length yb))) (au _ (w.heap.size+1) 3 (.int .i64 c.cur))) (au _ (w.heap.size+1) 4 (.slice xm c.mine.length ym))) (au _ (w.heap.size+1) 5 (.string c.key))) (au _ (w.heap.size+1) 6 (.slice xa c.ask.length ya))) (au _ (w.heap.size+1) 7 (.int .i64 c.keys))) (by omega)).mono (by omega)
   · exact((((((((G.setCell (p:=⟨w.heap.size+1,0,none⟩) (Nat.le_succ _) _).setCell (p:=⟨w.heap.size+1,1,none⟩) (Nat.le_succ _) _).setCell (p:=⟨w.heap.size+1,2,none⟩) (Nat.le_succ _) _).setCell (p:=⟨w.heap.size+1,3,none⟩) (Nat.le_succ _) _).setCell (p:=⟨w.heap.size+1,4,none⟩) (Nat.le_succ _) _).setCell (p:=⟨w.heap.size+1,5,none⟩) (Nat.le_succ _) _).setCell (p:=⟨w.heap.size+1,6,none⟩) (Nat.le_succ _) _).setCell (p:=⟨w.heap.size+1,7,none⟩) (Nat.le_succ _) _)
 · have J:=hid (vM z)
   have U:(aU c !=0)=true:=by simpa using z
   obtain⟨r,V⟩: ∃r,r=aU c:=⟨_,rfl⟩
   rw[←V]at U⊢;have T:=hid V;clear z V;have y0:=a.out.cell 0 rfl;have g0:=a.out.fr 0;have y1:=a.out.cell 1 rfl;have g1:=a.out.fr 1;have y2:=a.out.cell 2 rfl;have g2:=a.out.fr 2;have y3:=a.out.cell 3 rfl;have g3:=a.out.fr 3;have y4:=a.out.cell 4 rfl;have g4:=a.out.fr 4;have y5:=a.out.cell 5 rfl;have g5:=a.out.fr 5;have y6:=a.out.cell 6 rfl;have g6:=a.out.fr 6;have y7:=a.out.cell 7 rfl;have g7:=a.out.fr 7;go_wp2_with fail;refine bodyPost_ret (v:= .tuple #[.agg #[.string ⟨#[]⟩,.string ⟨#[]⟩,.slice none 0 0,.int .i64 0,.slice none 0 0,.string ⟨#[]⟩,.slice none 0 0,.int .i64 0],.int .i64 r]) (by simp[results,results23,go_sem,y0,y1,y2,y3,y4,y5,y6,y7]) rfl ⟨_,by rw[T.out],?_,?_⟩
   · rw[J.out]
     exact vK _ _
   · exact((((((((j.setCell (p:=⟨w.heap.size+1,0,none⟩) (Nat.le_succ _) _).setCell (p:=⟨w.heap.size+1,1,none⟩) (Nat.le_succ _) _).setCell (p:=⟨w.heap.size+1,2,none⟩) (Nat.le_succ _) _).setCell (p:=⟨w.heap.size+1,3,none⟩) (Nat.le_succ _) _).setCell (p:=⟨w.heap.size+1,4,none⟩) (Nat.le_succ _) _).setCell (p:=⟨w.heap.size+1,5,none⟩) (Nat.le_succ _) _).setCell (p:=⟨w.heap.size+1,6,none⟩) (Nat.le_succ _) _).setCell (p:=⟨w.heap.size+1,7,none⟩) (Nat.le_succ _) _)
def ey (who fo:ByteArray):Cn:=⟨who,fo,[],0,[],⟨#[]⟩,[],0⟩
theorem vQ (who fo:ByteArray) (w:World):dD w (.agg #[.string who,.string fo,.slice none 0 0,.int .i64 0,.slice none 0 0,.string ⟨#[]⟩,.slice none 0 0,.int .i64 0]) (ey who fo):=
 ⟨_,_,_,rfl,iR _,iR _,⟨none,0,rfl,Nat.le_refl _,Nat.zero_le _,fun i h=>absurd h (by simp[ey])⟩⟩
theorem qF {who fo:ByteArray} (d:who.size≤150000000000000) (f:fo.size≤150000000000000):fR (ey who fo):=⟨d,f,Nat.zero_le _,(fun e a=>(by cases a)),(fun e a=>(by cases a))⟩
theorem vR (who fo:ByteArray) (w:World) (U:who.size≤150000000000000) (V:fo.size≤150000000000000):
    Calls prog 10 #[.string who,.string fo] w fun e w'=> ∃u,e= .returned (.tuple #[u,.int .i64 (aU (ey who fo))])∧dS w.heap.size w' u (Cy.ok (ey who fo))∧Below w.heap.size w w':=by
 obtain⟨r,G⟩: ∃r,r=aU (ey who fo):=⟨_,rfl⟩
 have T:=hid G;rw[←G];clear G;obtain⟨A,d⟩: ∃A,A=w.alloc (.cells #[.string ⟨#[]⟩,.string ⟨#[]⟩,.slice none 0 0,.int .i64 0,.slice none 0 0,.string ⟨#[]⟩,.slice none 0 0,.int .i64 0] 50):=⟨_,rfl⟩
 have z:Below w.heap.size w A:=by rw[d];exact(Below.refl _ _).alloc (Nat.le_refl _) _
 have j:=hid (show Cs A w.heap.size zs from by rw[d];exact Cs.new w zs 50);have X:w.heap.size<A.heap.size:=j.out.lt;go_enter func10,ntmps10
 go_wp2_with fail;rw[←d];clear d;refine(vP (ey who fo) _ _ (vQ who fo _) (qF U V)).mono ?_
 rintro e Y ⟨u,rfl,f,y⟩;rw[←T.out];have o:=af z y;have a:=hid (j.out.below y);obtain⟨c,F⟩: ∃c,c=Cy.ok (ey who fo):=⟨_,rfl⟩
 rw[←F]at f;have S:=hid F;clear F;have E:=hid f;obtain⟨vb,vm,va,rfl,⟨I,_⟩,⟨J,_⟩,H,_⟩:=f
 obtain⟨M,P,rfl,_⟩:=I
 obtain⟨N,Q,rfl,_⟩:=J
 obtain⟨K,O,rfl,_⟩:=H
 have Z:=a.out.cell 0 rfl;have g0:=a.out.fr 0;have y1:=a.out.cell 1 rfl;have g1:=a.out.fr 1;have y2:=a.out.cell 2 rfl;have g2:=a.out.fr 2;have y3:=a.out.cell 3 rfl;have g3:=a.out.fr 3;have y4:=a.out.cell 4 rfl;have g4:=a.out.fr 4;have y5:=a.out.cell 5 rfl;have g5:=a.out.fr 5;have y6:=a.out.cell 6 rfl;have g6:=a.out.fr 6;have y7:=a.out.cell 7 rfl;have g7:=a.out.fr 7;go_wp2_with fail;refine bodyPost_ret (v:= .tuple #[.agg #[.string c.who,.string c.fo,.slice M c.base.length P,.int .i64 c.cur,.slice N c.mine.length Q,.string c.key,.slice K c.ask.length O,.int .i64 c.keys],.int .i64 r]) (by simp[results,results10,go_sem,Z,y1,y2,y3,y4,y5,y6,y7]) rfl ⟨_,rfl,?_,?_⟩
 · rw[←S.out]
   exact(E.out.nbo (aN (aN (aN (aN (aN (aN (aN (au Y (w.heap.size) 0 (.string c.who)) (au _ (w.heap.size) 1 (.string c.fo))) (au _ (w.heap.size) 2 (.slice M c.base.length P))) (au _ (w.heap.size) 3 (.int .i64 c.cur))) (au _ (w.heap.size) 4 (.slice N c.mine.length Q))) (au _ (w.heap.size) 5 (.string c.key))) (au _ (w.heap.size) 6 (.slice K c.ask.length O))) (au _ (w.heap.size) 7 (.int .i64 c.keys))) (by omega)).mono z.size
 · exact((((((((o.setCell (p:=⟨w.heap.size,0,none⟩) (Nat.le_refl _) _).setCell (p:=⟨w.heap.size,1,none⟩) (Nat.le_refl _) _).setCell (p:=⟨w.heap.size,2,none⟩) (Nat.le_refl _) _).setCell (p:=⟨w.heap.size,3,none⟩) (Nat.le_refl _) _).setCell (p:=⟨w.heap.size,4,none⟩) (Nat.le_refl _) _).setCell (p:=⟨w.heap.size,5,none⟩) (Nat.le_refl _) _).setCell (p:=⟨w.heap.size,6,none⟩) (Nat.le_refl _) _).setCell (p:=⟨w.heap.size,7,none⟩) (Nat.le_refl _) _)
theorem vS (c:Cn) (v u:Value) (w:World) (hv:dD w v c) (hu:dD w u c):
    Calls prog 27 #[v,u] w fun e w'=>e= .returned (.bool true)∧Below w.heap.size w w':=by
 obtain⟨vb,vm,va,rfl,lb,lm,la⟩:=hv
 obtain⟨ub,um,ua,rfl,S,T,Q⟩:=hu
 have HB:=hid lb;have HM:=hid lm;have HA:=hid la;have C4:=hid S;have C5:=hid T;have C3:=hid Q;obtain⟨V,Z,rfl,_⟩:=lb
 obtain⟨X,aO,rfl,_⟩:=lm
 obtain⟨U,Y,rfl,_⟩:=la
 obtain⟨E,H,rfl,_⟩:=S
 obtain⟨F,I,rfl,_⟩:=T
 obtain⟨A,G,rfl,_⟩:=Q
 obtain⟨O,f⟩: ∃O,O=(w.alloc (.cells #[.string c.who,.string c.fo,.slice V c.base.length Z,.int .i64 c.cur,.slice X c.mine.length aO,.string c.key,.slice U c.ask.length Y,.int .i64 c.keys] 50)).alloc (.cells #[.string c.who,.string c.fo,.slice E c.base.length H,.int .i64 c.cur,.slice F c.mine.length I,.string c.key,.slice A c.ask.length G,.int .i64 c.keys] 50):=⟨_,rfl⟩
 have N:Below w.heap.size w O:=by rw[f];exact((Below.refl _ _).alloc (Nat.le_refl _) _).alloc (by simp) _
 have HX:Hid (Cs O w.heap.size [.string c.who,.string c.fo,.slice V c.base.length Z,.int .i64 c.cur,.slice X c.mine.length aO,.string c.key,.slice U c.ask.length Y,.int .i64 c.keys]):=(by rw[f];exact(Cs.new w [.string c.who,.string c.fo,.slice V c.base.length Z,.int .i64 c.cur,.slice X c.mine.length aO,.string c.key,.slice U c.ask.length Y,.int .i64 c.keys] _).below ((Below.refl _ _).alloc (Nat.le_refl _) _):Cs O w.heap.size _)
 have HY:Hid (Cs O (w.heap.size+1) [.string c.who,.string c.fo,.slice E c.base.length H,.int .i64 c.cur,.slice F c.mine.length I,.string c.key,.slice A c.ask.length G,.int .i64 c.keys]):=(by
  have:=Cs.new (w.alloc (.cells #[.string c.who,.string c.fo,.slice V c.base.length Z,.int .i64 c.cur,.slice X c.mine.length aO,.string c.key,.slice U c.ask.length Y,.int .i64 c.keys] 50)) [.string c.who,.string c.fo,.slice E c.base.length H,.int .i64 c.cur,.slice F c.mine.length I,.string c.key,.slice A c.ask.length G,.int .i64 c.keys] 50
  rw[f];simpa using this:Cs O (w.heap.size+1) _)
 go_enter func27,ntmps27
 go_wp2_with fail;rw[←f];clear f;refine(mX c.base _ _ _ (HB.out.below N) (C4.out.below N)).mono ?_
 rintro e w1 ⟨rfl,J⟩;have a:=af N J;have j:=hid (HX.out.below J);have y:=hid (HY.out.below J);have a3:=j.out.cell 3 rfl;have a4:=j.out.cell 4 rfl;have cg:=y.out.cell 3 rfl;have b4:=y.out.cell 4 rfl;go_wp2_with fail;refine(mX c.mine _ _ _ (HM.out.below a) (C5.out.below a)).mono ?_
 rintro e w2 ⟨rfl,K⟩;have d:=af a K;have o:=hid (j.out.below K);have z:=hid (y.out.below K);clear a3 a4 cg b4;have a5:=o.out.cell 5 rfl;have a6:=o.out.cell 6 rfl;have b5:=z.out.cell 5 rfl;have b6:=z.out.cell 6 rfl;go_wp2_with fail;refine(uS c.ask _ _ _ (HA.out.below d) (C3.out.below d)).mono ?_
 rintro e w3 ⟨rfl,M⟩;have P:=af d M;have C6:=hid (o.out.below M);have C7:=hid (z.out.below M);clear a5 a6 b5 b6;have a7:=C6.out.cell 7 rfl;have b7:=C7.out.cell 7 rfl;go_wp2_with fail;go_ret;exact⟨rfl,P⟩
end Go.Proofs.YtgamnckfmmbjdaaGreatDoor
