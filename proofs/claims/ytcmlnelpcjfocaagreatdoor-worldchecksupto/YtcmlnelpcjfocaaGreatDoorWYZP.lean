/- What world.New answers. -/
import Derived.Test.YtcmlnelpcjfocaaGreatDoorWYZM
import Derived.Test.YtcmlnelpcjfocaaGreatDoorWYZK
set_option linter.unusedSimpArgs false
set_option linter.unusedVariables false
namespace Go.Proofs.YtcmlnelpcjfocaaGreatDoor
open Go.RowKit Go.Proofs.Tryz
set_option maxHeartbeats 8000000
set_option maxRecDepth 100000
def yI:Hb:=⟨[],[],[],0,0,0,0⟩
def sZ:Wd:=⟨yI,[],[]⟩
theorem Gg (w:World):eI w (.agg #[.slice none 0 0,.slice none 0 0,.slice none 0 0,.int .i64 0,.int .i64 0,.int .i64 0,.int .i64 0,.slice none 0 0,.slice none 0 0]) sZ:=⟨_,_,_,_,_,rfl,⟨oL _,on _,⟨none,0,rfl,Nat.le_refl _,Nat.zero_le _,fun i h=>absurd h (by simp[sZ,yI])⟩⟩,xr _,rY _⟩
theorem ft.lies {B:Nat} {w:World} {v:Value} {W:Wd} (h:ft B w v W):eI w v W:=by
 obtain⟨F,G,ai,E,H,e,⟨d,⟨f,_⟩,y,_⟩,z,A,_⟩:=h
 exact⟨F,G,ai,E,H,e,⟨d.lies,f,y⟩,z.lies,A⟩
def py (e:Int) (W:Wd):Wd:=if e=0 then W else sZ
theorem Gh (td:ByteArray→Int) (H:Hb) (l:List Cn) (v vc:Value) (w:World) (hv:dC w v H) (hc:eH w vc l) (hs:kd H) (Q: ∀c∈l,iO c) (h6:5<w.heap.size) (S:aX w):
    Calls prog 17 #[v,vc] w fun e w'=> ∃u,e= .returned (.tuple #[u,.int .i64 (bY td ⟨H,l,[]⟩)])∧eI w' u (py (bY td ⟨H,l,[]⟩) ⟨H,l,[]⟩)∧nP u= .slice none 0 0∧Below w.heap.size w w':=by
 obtain⟨vf,vg,ai,rfl,lf,lg,aT⟩:=hv
 have I0:=hid (fun(X:World) (h:Below w.heap.size w X)=>(show eI X (.agg #[vf,vg,ai,.int .i64 H.nx,.int .i64 H.la,.int .i64 H.ro,.int .i64 H.now,vc,.slice none 0 0]) ⟨H,l,[]⟩from⟨_,_,_,_,_,rfl,⟨lf.below h,lg.below h,aT.below h⟩,hc.below h,rY _⟩));have I6:=hid (show iA ⟨H,l,[]⟩from⟨hs,Q,fun x hx=>by cases hx⟩);have I7:=hid (fun X (hW:Below w.heap.size w X)=>S.belowB h6 hW);obtain⟨T,U,rfl,_⟩:=lf
 obtain⟨V,Y,rfl,_⟩:=lg
 obtain⟨Z,sc,rfl,_⟩:=aT
 obtain⟨xa,xc,rfl⟩:=hc.shape
 clear hc hs Q S;obtain⟨I,F⟩: ∃I,I=(w.alloc (.cells #[.slice T H.fos.length U,.slice V H.gs.length Y,.slice Z H.ss.length sc,.int .i64 H.nx,.int .i64 H.la,.int .i64 H.ro,.int .i64 H.now] 28)).alloc (.cells #[.slice none 0 0,.slice none 0 0,.slice none 0 0,.int .i64 0,.int .i64 0,.int .i64 0,.int .i64 0,.slice none 0 0,.slice none 0 0] 32):=⟨_,rfl⟩
 have N:Below w.heap.size w I:=by rw[F];exact((Below.refl _ _).alloc (Nat.le_refl _) _).alloc (by simp) _
 have M:=hid (show Cs I w.heap.size [.slice T H.fos.length U,.slice V H.gs.length Y,.slice Z H.ss.length sc,.int .i64 H.nx,.int .i64 H.la,.int .i64 H.ro,.int .i64 H.now]from by rw[F];exact(Cs.new w [.slice T H.fos.length U,.slice V H.gs.length Y,.slice Z H.ss.length sc,.int .i64 H.nx,.int .i64 H.la,.int .i64 H.ro,.int .i64 H.now] _).below ((Below.refl _ _).alloc (Nat.le_refl _) _))
 have HY:=hid (show Cs I (w.heap.size+1) [.slice none 0 0,.slice none 0 0,.slice none 0 0,.int .i64 0,.int .i64 0,.int .i64 0,.int .i64 0,.slice none 0 0,.slice none 0 0]from by
  have:=Cs.new (w.alloc (.cells #[.slice T H.fos.length U,.slice V H.gs.length Y,.slice Z H.ss.length sc,.int .i64 H.nx,.int .i64 H.la,.int .i64 H.ro,.int .i64 H.now] 28)) [.slice none 0 0,.slice none 0 0,.slice none 0 0,.int .i64 0,.int .i64 0,.int .i64 0,.int .i64 0,.slice none 0 0,.slice none 0 0] 32
  rw[F];simpa using this)
 have O:=hid F.symm;have I8:w.heap.size+1<I.heap.size:=HY.out.lt;clear F;obtain⟨E,ae⟩: ∃E,E=bY td ⟨H,l,[]⟩:=⟨_,rfl⟩
 rw[←ae];have HE:=hid ae;clear ae;go_enter func17,ntmps17
 go_upto_region 1 with fail;rw[O.out];clear O;have p0:=M.out.cell 0 rfl;have p1:=M.out.cell 1 rfl;have p2:=M.out.cell 2 rfl;have p3:=M.out.cell 3 rfl;have p4:=M.out.cell 4 rfl;have p5:=M.out.cell 5 rfl;have p6:=M.out.cell 6 rfl;go_wp2_with fail;refine(pw td ⟨H,l,[]⟩ _ I (I0.out I N) I6.out (fun x hx=>by cases hx) (by omega) (I7.out I N)).mono ?_
 rintro e w1 ⟨hp,P⟩;have K:=ag N P;have d:=hid (HY.out.below P);clear p0 p1 p2 p3 p4 p5 p6;rcases hp with⟨J,rfl⟩|⟨J,rfl,fb,fd,gb,gd,sb,sd,xb,xd,yb,yd,hR,hO,hN⟩
 · rw[←HE.out]at J⊢
   have hz:(E !=0)=true:=by simpa using J
   have HZ:=hid J;clear J;have br:=d.out.cell 0 rfl;have q1:=d.out.cell 1 rfl;have bZ:=d.out.cell 2 rfl;have q3:=d.out.cell 3 rfl;have q4:=d.out.cell 4 rfl;have q5:=d.out.cell 5 rfl;have q6:=d.out.cell 6 rfl;have q7:=d.out.cell 7 rfl;have q8:=d.out.cell 8 rfl;have f0:=d.out.fr 0;have f1:=d.out.fr 1;have f2:=d.out.fr 2;have f3:=d.out.fr 3;have f4:=d.out.fr 4;have f5:=d.out.fr 5;have f6:=d.out.fr 6;have f7:=d.out.fr 7;have f8:=d.out.fr 8;obtain⟨w2,y⟩: ∃X,X=(((((((((w1.setCell ⟨(w.heap.size+1),0,none⟩ (.slice none 0 0)).setCell ⟨(w.heap.size+1),1,none⟩ (.slice none 0 0)).setCell ⟨(w.heap.size+1),2,none⟩ (.slice none 0 0)).setCell ⟨(w.heap.size+1),3,none⟩ (.int .i64 0)).setCell ⟨(w.heap.size+1),4,none⟩ (.int .i64 0)).setCell ⟨(w.heap.size+1),5,none⟩ (.int .i64 0)).setCell ⟨(w.heap.size+1),6,none⟩ (.int .i64 0)).setCell ⟨(w.heap.size+1),7,none⟩ (.slice none 0 0)).setCell ⟨(w.heap.size+1),8,none⟩ (.slice none 0 0)):=⟨_,rfl⟩
   have z:=mx d.out (.slice none 0 0) (.slice none 0 0) (.slice none 0 0) (.int .i64 0) (.int .i64 0) (.int .i64 0) (.int .i64 0) (.slice none 0 0) (.slice none 0 0);rw[←y]at z;have f:=hid z.1;have A:Below w.heap.size w w2:=by rw[y];exact(((((((((K.setCell (p:=⟨w.heap.size+1,0,none⟩) (Nat.le_succ _) _).setCell (p:=⟨w.heap.size+1,1,none⟩) (Nat.le_succ _) _).setCell (p:=⟨w.heap.size+1,2,none⟩) (Nat.le_succ _) _).setCell (p:=⟨w.heap.size+1,3,none⟩) (Nat.le_succ _) _).setCell (p:=⟨w.heap.size+1,4,none⟩) (Nat.le_succ _) _).setCell (p:=⟨w.heap.size+1,5,none⟩) (Nat.le_succ _) _).setCell (p:=⟨w.heap.size+1,6,none⟩) (Nat.le_succ _) _).setCell (p:=⟨w.heap.size+1,7,none⟩) (Nat.le_succ _) _).setCell (p:=⟨w.heap.size+1,8,none⟩) (Nat.le_succ _) _)
   go_wp2_with fail;rw[←y];clear y z br q1 bZ q3 q4 q5 q6 q7 q8 f0 f1 f2 f3 f4 f5 f6 f7 f8;have y0:=f.out.cell 0 rfl;have y1:=f.out.cell 1 rfl;have al:=f.out.cell 2 rfl;have y3:=f.out.cell 3 rfl;have y4:=f.out.cell 4 rfl;have y5:=f.out.cell 5 rfl;have y6:=f.out.cell 6 rfl;have y7:=f.out.cell 7 rfl;have y8:=f.out.cell 8 rfl;refine bodyPost_ret (v:= .tuple #[.agg #[.slice none 0 0,.slice none 0 0,.slice none 0 0,.int .i64 0,.int .i64 0,.int .i64 0,.int .i64 0,.slice none 0 0,.slice none 0 0],.int .i64 E]) (by simp[results,results17,go_sem,y0,y1,al,y3,y4,y5,y6,y7,y8]) rfl ⟨_,rfl,?_,rfl,A⟩
   rw[py,if_neg HZ.out];exact Gg _
 · rw[←HE.out]at J
   have G:=hid hR;have HO:=hid hO;have HZ:=hid J;subst J;have HN:=hid hN;clear hR hO hN;have r0:=G.out.cell 0 rfl;have r1:=G.out.cell 1 rfl;have r2:=G.out.cell 2 rfl;have r3:=G.out.cell 3 rfl;have r4:=G.out.cell 4 rfl;have r5:=G.out.cell 5 rfl;have r6:=G.out.cell 6 rfl;have r7:=G.out.cell 7 rfl;have r8:=G.out.cell 8 rfl;have br:=d.out.cell 0 rfl;have q1:=d.out.cell 1 rfl;have bZ:=d.out.cell 2 rfl;have q3:=d.out.cell 3 rfl;have q4:=d.out.cell 4 rfl;have q5:=d.out.cell 5 rfl;have q6:=d.out.cell 6 rfl;have q7:=d.out.cell 7 rfl;have q8:=d.out.cell 8 rfl;have f0:=d.out.fr 0;have f1:=d.out.fr 1;have f2:=d.out.fr 2;have f3:=d.out.fr 3;have f4:=d.out.fr 4;have f5:=d.out.fr 5;have f6:=d.out.fr 6;have f7:=d.out.fr 7;have f8:=d.out.fr 8;obtain⟨w2,y⟩: ∃X,X=(((((((((w1.setCell ⟨(w.heap.size+1),0,none⟩ (.slice fb H.fos.length fd)).setCell ⟨(w.heap.size+1),1,none⟩ (.slice gb H.gs.length gd)).setCell ⟨(w.heap.size+1),2,none⟩ (.slice sb H.ss.length sd)).setCell ⟨(w.heap.size+1),3,none⟩ (.int .i64 H.nx)).setCell ⟨(w.heap.size+1),4,none⟩ (.int .i64 H.la)).setCell ⟨(w.heap.size+1),5,none⟩ (.int .i64 H.ro)).setCell ⟨(w.heap.size+1),6,none⟩ (.int .i64 H.now)).setCell ⟨(w.heap.size+1),7,none⟩ (.slice xb l.length xd)).setCell ⟨(w.heap.size+1),8,none⟩ (.slice yb 0 yd)):=⟨_,rfl⟩
   have z:=mx d.out (.slice fb H.fos.length fd) (.slice gb H.gs.length gd) (.slice sb H.ss.length sd) (.int .i64 H.nx) (.int .i64 H.la) (.int .i64 H.ro) (.int .i64 H.now) (.slice xb l.length xd) (.slice yb 0 yd);rw[←y]at z;have f:=hid z.1;have I5:=hid (HO.out.nbo z.2 (by omega));have A:Below w.heap.size w w2:=by rw[y];exact(((((((((K.setCell (p:=⟨w.heap.size+1,0,none⟩) (Nat.le_succ _) _).setCell (p:=⟨w.heap.size+1,1,none⟩) (Nat.le_succ _) _).setCell (p:=⟨w.heap.size+1,2,none⟩) (Nat.le_succ _) _).setCell (p:=⟨w.heap.size+1,3,none⟩) (Nat.le_succ _) _).setCell (p:=⟨w.heap.size+1,4,none⟩) (Nat.le_succ _) _).setCell (p:=⟨w.heap.size+1,5,none⟩) (Nat.le_succ _) _).setCell (p:=⟨w.heap.size+1,6,none⟩) (Nat.le_succ _) _).setCell (p:=⟨w.heap.size+1,7,none⟩) (Nat.le_succ _) _).setCell (p:=⟨w.heap.size+1,8,none⟩) (Nat.le_succ _) _)
   go_wp2_with fail;rw[←y];clear y z br q1 bZ q3 q4 q5 q6 q7 q8 f0 f1 f2 f3 f4 f5 f6 f7 f8;have y0:=f.out.cell 0 rfl;have y1:=f.out.cell 1 rfl;have al:=f.out.cell 2 rfl;have y3:=f.out.cell 3 rfl;have y4:=f.out.cell 4 rfl;have y5:=f.out.cell 5 rfl;have y6:=f.out.cell 6 rfl;have y7:=f.out.cell 7 rfl;have y8:=f.out.cell 8 rfl;refine bodyPost_ret (v:= .tuple #[.agg #[.slice fb H.fos.length fd,.slice gb H.gs.length gd,.slice sb H.ss.length sd,.int .i64 H.nx,.int .i64 H.la,.int .i64 H.ro,.int .i64 H.now,.slice xb l.length xd,.slice yb 0 yd],.int .i64 0]) (by simp[results,results17,go_sem,y0,y1,al,y3,y4,y5,y6,y7,y8]) rfl ⟨_,rfl,?_,HN.out rfl,A⟩
   rw[py,if_pos rfl];exact I5.out.lies
def cV (H:Hb) (c:Cn):Bool:=(kh H.gs c.fo c.who==0)||(Sp.sameB c.base (fu H c.fo) && Sp.sameB c.mine (fu H c.fo) && (c.ask.length==0))
theorem yJ {H:Hb} {c:Cn} (h:ae H=0) (z:bo c=0):kh H.gs c.fo c.who=eV H.gs c.fo c.who:=by
 have d:=(mh z).1
 have f:bH [c.who,c.fo]=0:=by
  rw[eu]at d;by_cases x:bH [c.who,c.fo]=0
  · exact x
  · rw[if_pos x]at d;exact absurd d x
 have y:bH [c.fo,c.who]=0:=by
  rw[nS]at f⊢;by_cases x:aM c.who.data.toList=true∧aM c.fo.data.toList=true
  · rw[if_pos ⟨x.2,x.1⟩]
  · rw[if_neg x]at f;cases f
 rw[kh,if_pos (by rw[kU,if_pos (mw h).2.2.1,y])]
theorem Gi {c:Cn} (d:bo c=0):(c.ask.length==0)=decide (c.key.size=0):=by
 have h:=(mh d).2.2.2.2;rw[ew]at h;by_cases a: ¬c.key.size=0∧ ¬eN c.key.data.toList=0
 · rw[if_pos a]at h;cases h
 · rw[if_neg a]at h
   by_cases b:decide (c.key.size=0)≠decide (c.ask.length=0)
   · rw[if_pos b]at h;cases h
   · have:=Decidable.not_not.1 b
     rw[this];cases c.ask.length with
     |zero=>rfl
     |succ n=>simp
theorem yK {H:Hb} {x:ByteArray} (h:ae H=0) (f:bT H.gs x=true): ∃d:eZ H.fos H.gs x<H.fos.length,fv H.fos x=eZ H.fos H.gs x∧bq (H.fos[eZ H.fos H.gs x]).jo=0∧fu H x=Jn.tree (H.fos[eZ H.fos H.gs x]).jo:=by
 obtain⟨d,_⟩:=sD h f
 refine⟨d,yk h f,(oX (mw h).2.1 (List.getElem_mem d)).2,?_⟩
 have e:gI H x=0:=by rw[gI,if_neg (fun y=>y h),if_pos f]
 rw[fu,if_pos e,xK d]
theorem yL {H:Hb} {c:Cn} (h:ae H=0) (f:bo c=0) (d:fv H.fos c.fo<0∨eV H.gs c.fo c.who=0):cV H c=true:=by
 have:eV H.gs c.fo c.who=0:=by
  rcases d with d|d
  · by_cases x:eV H.gs c.fo c.who=0
    · exact x
    · have:=xJ x
      rw[yk h this]at d;omega
  · exact d
 rw[cV,yJ h f,this];rfl
theorem Gj {H:Hb} {c:Cn} (h:ae H=0) (d:bo c=0) (z: ¬eV H.gs c.fo c.who=0): ∃(i:Nat) (A:i<H.fos.length),fv H.fos c.fo=i∧bq (H.fos[i]).jo=0∧cV H c=(Sp.sameB c.base (Jn.tree (H.fos[i]).jo) && Sp.sameB c.mine (Jn.tree (H.fos[i]).jo) && decide (c.key.size=0))∧(Sp.sameB c.base (Jn.tree (H.fos[i]).jo)=true↔nD c.base (Jn.tree (H.fos[i]).jo))∧(Sp.sameB c.mine (Jn.tree (H.fos[i]).jo)=true↔nD c.mine (Jn.tree (H.fos[i]).jo)):=by
 obtain⟨A,E,f,F⟩:=yK h (xJ z)
 have y:=(fP _).2 (qM f);refine⟨_,A,E,f,?_,Sp.sameB_iff (by rw[fT,if_pos (mh d).2.1,y]),Sp.sameB_iff (by rw[fT,if_pos (mh d).2.2.1,y])⟩
 rw[cV,yJ h d,F,Gi d];simp[z]
theorem Gk (p:Addr) (w:World) (f:w.cell? p=some (.int .i64 0)) (z:w.frozen? p=false):
    CallsD prog 175 #[.pointer (some p)] (.panicking [{v:= .iface 33 (.int .i64 1),recovered:=false}]) w fun e A w'=>
     e= .returned (.tuple #[])∧A= .panicking [{v:= .iface 33 (.int .i64 1),recovered:=true}]∧w'=w.setCell p (.int .i64 1):=by
 refine callsD_of_wpS func175 rfl fun E cs y=>?_
 have d:=Tryz.errnoYes;apply wpS_seq
 apply wpS_region
 simp[wpOpsS,go_sem,recoverD,y,d,ntmps175,Exit.thenS,Array.replicate]
 apply wpS_seq
 apply wpS_region
 simp[wpOpsS,go_sem,Exit.thenS]
 refine wpS_cond (t:=true) (by simp[Act.eval,Array.replicate]) ?_
 simp only[if_true];apply wpS_region
 simp[wpOpsS,go_sem,f,z,bodyPostS,results,results175]
theorem Gl (p:Addr) (w:World):
    CallsD prog 175 #[.pointer (some p)] .returning w fun e z w'=>e= .returned (.tuple #[])∧z= .returning∧w'=w:=by
 refine callsD_of_wpS func175 rfl fun d cs y=>?_
 have f:=Tryz.errnoNo;apply wpS_seq
 apply wpS_region
 simp[wpOpsS,go_sem,recoverD,y,f,ntmps175,Exit.thenS,Array.replicate]
 apply wpS_seq
 apply wpS_region
 simp[wpOpsS,go_sem,Exit.thenS]
 refine wpS_cond (t:=false) (by simp[Act.eval,Array.replicate]) ?_
 simp only[Bool.false_eq_true,if_false];refine wpS_of_wp (wp_skip ?_)
 cases d
 simp_all [bodyPostS,results,results175]
theorem yM (y:Array Value) (c e:Nat) (R:Ending→World→Prop) (W:World) (H:y.getD 4 undef= .pointer (some ⟨c,0,none⟩)) (I:y.getD 5 undef= .pointer (some ⟨e,0,none⟩)) (G:c≠e) (F:Cs W c cY) (ae:Cs W e [.int .i64 0]) (J:R (.returned (.tuple #[.agg cY.toArray,.int .i64 1])) (W.setCell ⟨e,0,none⟩ (.int .i64 1))):
    Leaves prog Tryz.f139 y R [{target:=Target.fn (Fn.func 175) #[.pointer (some ⟨e,0,none⟩)],args:= #[]}] (.panicking [{v:= .iface 33 (.int .i64 1),recovered:=false}]) W:=by
 refine leaves_cons (f:=175) (args:= #[.pointer (some ⟨e,0,none⟩)]) (by simp) (by simp[go_sem]) ?_
 refine(Gk ⟨e,0,none⟩ _ (ae.cell 0 rfl) (ae.fr 0)).mono ?_
 rintro T U K ⟨rfl,rfl,rfl⟩;have d:=F.other (o:=0) G (.int .i64 1);have E:=(ae.set 0 (.int .i64 1)).cell 0 rfl;have M:=d.cell 0 rfl;have N:=d.cell 1 rfl;have al:=d.cell 2 rfl;have O:=d.cell 3 rfl;have P:=d.cell 4 rfl;have Q:=d.cell 5 rfl;have S:=d.cell 6 rfl;refine⟨_,?_,J⟩
 have z:y[4]?.getD undef= .pointer (some ⟨c,0,none⟩):=by rw[←H];simp
 have A:y[5]?.getD undef= .pointer (some ⟨e,0,none⟩):=by rw[←I];simp
 simp[results,results139,go_sem,z,A,E,M,N,al,O,P,Q,S]
theorem Gm (d:Array Value) (e:Nat) (R:Ending→World→Prop) (W:World) (y: ∃v,(results Tryz.f139 d).run prog W= .ok v W∧R (.returned v) W):
    Leaves prog Tryz.f139 d R [{target:=Target.fn (Fn.func 175) #[.pointer (some ⟨e,0,none⟩)],args:= #[]}] .returning W:=by
 refine leaves_cons (f:=175) (args:= #[.pointer (some ⟨e,0,none⟩)]) (by simp) (by simp[go_sem]) ?_
 refine(Gl ⟨e,0,none⟩ _).mono ?_
 rintro A E z ⟨rfl,rfl,rfl⟩;exact y
theorem Gn: ∀d w,(callFunc 140 d).run prog w= .ok (.enter 140 d) w:=enters_of func140 (by kernel_rfl) rfl
theorem Gp (s:ByteArray) (w:World) (hs:s.size≤cE) (h6:5<w.heap.size) (hv:aX w):
    Calls prog 139 #[.string s,.func (.func 140) #[] #[]] w fun e w'=>lR (Wr.whole (ei ah 1000 s.data.toList)) (.agg cY.toArray) (fO w.heap.size) e w'∧Below w.heap.size w w':=by
 have ID: ∀(fn:Fn) (first cap:Array Value) (w:World),(Instr.makeFunc fn first cap).run prog w= .ok (.func fn first cap) w:=fun _ _ _ _=>rfl
 have eg:=Gn;obtain⟨l,rfl⟩: ∃l:List UInt8,s=⟨l.toArray⟩:=⟨s.data.toList,by simp⟩
 have Iz:l.length≤cE:=by rw[Lib.size_eq]at hs;simpa using hs
 rw[show(⟨l.toArray⟩:ByteArray).data.toList=l from by simp];obtain⟨N,G⟩: ∃N,N=w.alloc (.cells cY.toArray 57):=⟨_,rfl⟩
 obtain⟨P,H⟩: ∃P,P=N.alloc (.cells #[.int .i64 0] 33):=⟨_,rfl⟩
 obtain⟨J,I⟩: ∃J,J=P.alloc (.cells #[.string ⟨l.toArray⟩] 245):=⟨_,rfl⟩
 have s0:N.heap.size=w.heap.size+1:=by rw[G];simp
 have s5:P.heap.size=w.heap.size+1+1:=by rw[H];simp[s0]
 have sa:J.heap.size=w.heap.size+1+1+1:=by rw[I];simp[s5]
 have aR:Below w.heap.size w N:=by rw[G];exact bO _ _
 have b5:Below N.heap.size N P:=by rw[H];exact bO _ _
 have ba:Below P.heap.size P J:=by rw[I];exact bO _ _
 have E:Below w.heap.size w J:=(aR.trans (b5.mono (by omega))).trans (ba.mono (by omega))
 have M:Cs J w.heap.size cY:=by
  have h1:Cs N w.heap.size cY:=by rw[G];exact Cs.new w cY _
  exact(h1.below b5).below ba
 have K:Cs J (w.heap.size+1) [.int .i64 0]:=by
  have h1:Cs P N.heap.size [.int .i64 0]:=by rw[H];exact Cs.new N [.int .i64 0] _
  rw[s0]at h1;exact h1.below ba
 have Iv:Rd (w.heap.size+1+1) l J:=by rw[←s5,I];exact heap_alloc_new P _
 have HK:=hid (Gf (w.heap.size+1+1) l J Iv Iz (by omega) (hv.belowB (by omega) E));rw[I,H,G]at HK;have Iw:=hid (show J=((w.alloc (.cells cY.toArray 57)).alloc (.cells #[.int .i64 0] 33)).alloc (.cells #[.string ⟨l.toArray⟩] 245)from by rw[I,H,G]);have HC:=hid (And.intro M (And.intro K E));have O:=hid sa;clear hs I H G aR b5 ba s0 s5 M K E Iv sa;go_enter_defers func139,ntmps139
 go_wp2_with fail;refine HK.out.mono ?_
 rintro e Q ⟨hp,F⟩;rw[←Iw.out]at hp F;obtain⟨M,K,E⟩:=HC.out
 have d:=M.nb F (by omega);have y:=K.nb F (by omega);have f:Below w.heap.size w Q:=E.trans (lS F (by omega) E.size);have X:=F.size;rw[O.out]at X;cases hq:ei ah 1000 l with
 |none=>
  rw[hq]at hp;cases hp
  exact yM _ _ _ _ _ rfl rfl (by omega) d y ⟨by rw[hq];rfl,f.setCell (p:=⟨w.heap.size+1,0,none⟩) (by simp) _⟩
 |some z=>
 obtain⟨q,r⟩:=z
 rw[hq]at hp;obtain⟨v1,rfl,hV,V⟩:=hp
 have IC:=V.cell;have HV:=hid hV;have IA:=hid V;have Y:=hid (And.intro d (And.intro y f));obtain⟨vt,vc,rfl,I7,I6⟩:=HV.out
 obtain⟨at_,I9,I5,rfl⟩:=I7.shape
 obtain⟨Z,I8,I0,rfl⟩:=I6.shape
 clear I7 I6;have bZ:w.heap.size+1+1<Q.heap.size:=by omega
 have q1:w.heap.size+1<Q.heap.size:=by omega
 have br:w.heap.size<Q.heap.size:=by omega
 have m2: ¬w.heap.size+1+1=Q.heap.size:=by omega
 have m1: ¬w.heap.size+1=Q.heap.size:=by omega
 have m0: ¬w.heap.size=Q.heap.size:=by omega
 have IB:=hid X;clear hV V M K E HK F X;cases r with
 |cons x r=>
  have U:((⟨(x::r).toArray⟩:ByteArray).toList==(⟨#[]⟩:ByteArray).toList)=false:=by
   rw[beq_eq_false_iff_ne];intro h;rw[Lib.toList_data,Lib.toList_data]at h;simp at h
  have Iy:((⟨(x::r).toArray⟩:ByteArray).toList !=(⟨#[]⟩:ByteArray).toList)=true:=by rw[bne,U];rfl
  clear d y f;go_wp2_with fail;refine(ja _).mono ?_
  rintro e w3 ⟨rfl,rfl⟩;obtain⟨d,y,f⟩:=Y.out
  have T:=bO Q (.cells #[.int .i64 q.err,.int .i64 q.num,.bool q.pg.reset,.slice at_ I9 I5,.slice Z I8 I0,.int .i64 q.pg.cur,.bool q.pg.more] 57);exact yM _ _ _ _ _ rfl rfl (by omega) (d.below T) (y.below T) ⟨by rw[hq];rfl,(f.trans (T.mono (Nat.le_of_lt br))).setCell (p:=⟨w.heap.size+1,0,none⟩) (by simp) _⟩
 |nil=>
  have U:((⟨[].toArray⟩:ByteArray).toList==(⟨#[]⟩:ByteArray).toList)=true:=by
   rw[Lib.toList_data];rfl
  have Iy:((⟨[].toArray⟩:ByteArray).toList !=(⟨#[]⟩:ByteArray).toList)=false:=by rw[bne,U];rfl
  have y0:=d.cell 0 rfl;have x0:=d.fr 0;have y1:=d.cell 1 rfl;have x1:=d.fr 1;have al:=d.cell 2 rfl;have aY:=d.fr 2;have y3:=d.cell 3 rfl;have x3:=d.fr 3;have y4:=d.cell 4 rfl;have x4:=d.fr 4;have y5:=d.cell 5 rfl;have x5:=d.fr 5;have y6:=d.cell 6 rfl;have x6:=d.fr 6;have aL:=y.cell 0 rfl;have g0:=y.fr 0;clear d y f;go_wp2_with fail;obtain⟨_,_,f⟩:=Y.out
  have k1: ¬w.heap.size+1=w.heap.size:=by omega
  have k2: ¬w.heap.size=w.heap.size+1:=by omega
  have A:w.heap.size<J.heap.size:=by rw[O.out];omega
  have Ix:w.heap.size+1<J.heap.size:=by rw[O.out];omega
  have e1:w.heap.size≤w.heap.size+1:=Nat.le_succ _;have S:=Nat.le_refl w.heap.size;refine Gm _ _ _ _ ⟨.tuple #[.agg #[.int .i64 q.err,.int .i64 q.num,.bool q.pg.reset,.slice at_ I9 I5,.slice Z I8 I0,.int .i64 q.pg.cur,.bool q.pg.more],.int .i64 0],?_,?_,?_⟩
  · simp[results,results139,go_sem,k1,k2,m0,m1,br,q1,y0,y1,al,y3,y4,y5,y6,aL]
  · rw[hq]
    exact⟨_,rfl,(HV.out|>.set A 0 _|>.set A 1 _|>.set A 2 _|>.set A 3 _|>.set A 4 _|>.set A 5 _|>.set A 6 _|>.set Ix 0 (.int .i64 0)).low (by rw[O.out];omega)|>.below (bO _ _)⟩
  · exact(((f|>.setCell (p:=⟨w.heap.size,0,none⟩) S _|>.setCell (p:=⟨w.heap.size,1,none⟩) S _|>.setCell (p:=⟨w.heap.size,2,none⟩) S _|>.setCell (p:=⟨w.heap.size,3,none⟩) S _|>.setCell (p:=⟨w.heap.size,4,none⟩) S _|>.setCell (p:=⟨w.heap.size,5,none⟩) S _|>.setCell (p:=⟨w.heap.size,6,none⟩) S _).setCell (p:=⟨w.heap.size+1,0,none⟩) e1 _).alloc (by simp;omega) _)
theorem Gq (s:ByteArray) (w:World) (hs:s.size≤cE) (h6:5<w.heap.size) (Y:aX w):
    Calls prog 96 #[.string s] w fun e w'=>lR (Wr.whole (ei ah 1000 s.data.toList)) (.agg cY.toArray) (fO w.heap.size) e w'∧Below w.heap.size w w':=by
 obtain⟨E,y⟩: ∃E,E=w.alloc (.cells cY.toArray 57):=⟨_,rfl⟩
 have A:E.heap.size=w.heap.size+1:=by rw[y];simp
 have aR:Below w.heap.size w E:=by rw[y];exact bO _ _
 have G:Cs E w.heap.size cY:=by rw[y];exact Cs.new w cY _
 have K:=hid (Gp s E hs (by omega) (Y.belowB h6 aR));rw[y]at K;have M:=hid y;have HB:=hid (And.intro aR G);clear y Y aR G;generalize hR:Wr.whole (ei ah 1000 s.data.toList)=U at*;go_enter func96,ntmps96
 go_wp2_with fail;refine K.out.mono ?_
 rintro e w1 ⟨Q,z⟩;rw[←M.out]at Q z;obtain⟨aR,G⟩:=HB.out
 have d:=G.below z;have H:Below w.heap.size w w1:=aR.trans (z.mono (by omega));have I0:=z.size;have Z:=d.cell 0 rfl;have x0:=d.fr 0;have y1:=d.cell 1 rfl;have x1:=d.fr 1;have al:=d.cell 2 rfl;have aY:=d.fr 2;have y3:=d.cell 3 rfl;have x3:=d.fr 3;have y4:=d.cell 4 rfl;have x4:=d.fr 4;have y5:=d.cell 5 rfl;have x5:=d.fr 5;have y6:=d.cell 6 rfl;have x6:=d.fr 6;have f:=Nat.le_refl w.heap.size;have F:=hid H;clear H z G aR K;cases U with
 |none=>
  cases Q
  go_wp2_with fail;refine bodyPost_ret (v:= .tuple #[.agg cY.toArray,.int .i64 1]) (by simp[results,results96,go_sem,Z,y1,al,y3,y4,y5,y6]) rfl ⟨rfl,?_⟩
  exact(F.out|>.setCell (p:=⟨w.heap.size,0,none⟩) f _|>.setCell (p:=⟨w.heap.size,1,none⟩) f _|>.setCell (p:=⟨w.heap.size,2,none⟩) f _|>.setCell (p:=⟨w.heap.size,3,none⟩) f _|>.setCell (p:=⟨w.heap.size,4,none⟩) f _|>.setCell (p:=⟨w.heap.size,5,none⟩) f _|>.setCell (p:=⟨w.heap.size,6,none⟩) f _)
 |some q=>
  obtain⟨v1,rfl,X⟩:=Q
  have V:=hid X;obtain⟨vt,vc,rfl,J,I⟩:=V.out
  obtain⟨at_,T,P,rfl⟩:=J.shape
  obtain⟨N,S,O,rfl⟩:=I.shape
  clear J I;clear X;go_wp2_with fail;refine bodyPost_ret (v:= .tuple #[.agg #[.int .i64 q.err,.int .i64 q.num,.bool q.pg.reset,.slice at_ T P,.slice N S O,.int .i64 q.pg.cur,.bool q.pg.more],.int .i64 0]) (by simp[results,results96,go_sem,Z,y1,al,y3,y4,y5,y6]) rfl ⟨⟨_,rfl,?_⟩,?_⟩
  · exact(V.out|>.set (by rw[A];omega) 0 _|>.set (by rw[A];omega) 1 _|>.set (by rw[A];omega) 2 _|>.set (by rw[A];omega) 3 _|>.set (by rw[A];omega) 4 _|>.set (by rw[A];omega) 5 _|>.set (by rw[A];omega) 6 _).low (by rw[A];omega)
  · exact(F.out|>.setCell (p:=⟨w.heap.size,0,none⟩) f _|>.setCell (p:=⟨w.heap.size,1,none⟩) f _|>.setCell (p:=⟨w.heap.size,2,none⟩) f _|>.setCell (p:=⟨w.heap.size,3,none⟩) f _|>.setCell (p:=⟨w.heap.size,4,none⟩) f _|>.setCell (p:=⟨w.heap.size,5,none⟩) f _|>.setCell (p:=⟨w.heap.size,6,none⟩) f _)
theorem tf (b i:Nat) (s:ByteArray) (bad:Bool) (w:World) (h:Sc b s i bad w) (hi:i≤s.size) (hs:s.size≤140737488351232):
    Calls prog 39 #[.pointer (some ⟨b,0,none⟩)] w fun e w'=>iC b s bad w (eB aF (s.data.toList.drop i)) (fun x v _=>v= .bool x) (fun _=>True) e w':=by
 have T:=hid (im b i s bad w h hi hs);obtain⟨f,A⟩: ∃x,x=eB aF (s.data.toList.drop i):=⟨_,rfl⟩
 rw[←A]
 have X: ∀n r,aS aF (s.data.toList.drop i)=some (n,r)→f=if 0≤n∧n≤1 then some (decide (n=1),r)else none:=fun n r h=>by
  rw[A,eB];unfold aJ;rw[show cO aF 1 (s.data.toList.drop i)=if 0≤n∧n≤1 then some (n,r)else none from by rw[cO,Wr.bind_some h]];by_cases F:0≤n∧n≤1
  · rw[if_pos F,if_pos F];rfl
  · rw[if_neg F,if_neg F]
 have Y:aS aF (s.data.toList.drop i)=none→f=none:=fun h=>by
  rw[A,eB];exact cJ (by rw[cO];exact cJ h)
 have K:=hid (And.intro X Y);clear h hs A X Y;go_enter func39,ntmps39
 go_wp2_with fail;refine T.out.mono ?_
 rintro e w1 ⟨n,_,j,M,rfl,rfl,hP,F,hj,hg,Z,hF⟩;have P:=hid F;have U:=F.cs.cell 2 rfl;have f2:=F.cs.fr 2;have HT:=hid Z;have O:=hid hF;have hx:(n==1)=decide (n=1):=by by_cases h:n=1<;>simp[h]
 obtain⟨x,I⟩: ∃x,x=(n==1):=⟨_,rfl⟩
 have HX:=hid (I.trans hx);have I0:=I.symm;clear F Z hF T hx I;have G:=hid (show(bad=false→f=none)→ ∀W,Sc b s j true W→w.grownBy W (some b)→iC b s bad w f (fun x v _=>v= .bool x) (fun _=>True) (.returned (.bool x)) W from fun d W hS S=>⟨x,_,j,true,rfl,rfl,trivial,hS,hj,S,fun _=>rfl,fun Q=>⟨fun _=>rfl,fun y r J=>by rw[d Q]at J;cases J⟩⟩);have E:=hid (show Sc b s j true (w1.setCell ⟨b,2,none⟩ (.bool true))∧w.grownBy (w1.setCell ⟨b,2,none⟩ (.bool true)) (some b)from⟨P.out.bad,aG hg (ar _ b 2 _)⟩);cases hb:M with
 |true=>
  rw[hb]at U
  have d:=hid (show bad=false→f=none from fun Q=>by
   cases d:aS aF (s.data.toList.drop i)with
   |none=>exact K.out.2 d
   |some z=>obtain⟨y,r⟩:=z;have:=((O.out Q).2 y r d).1;rw[hb]at this;cases this)
  clear hb;go_wp2_with fail;refine bodyPost_ret (results_tmp rfl _ _ _) rfl ?_
  exact G.out d.out _ E.out.1 E.out.2
 |false=>
  have H:bad=false:=by
   cases h:bad with
   |false=>rfl
   |true=>have:=HT.out h;rw[hb]at this;cases this
  obtain⟨y,r,d⟩: ∃y r,aS aF (s.data.toList.drop i)=some (y,r):=by
   cases d:aS aF (s.data.toList.drop i)with
   |none=>have:=(O.out H).1 d;rw[hb]at this;cases this
   |some z=>exact⟨_,_,rfl⟩
  obtain⟨_,h2,V⟩:=(O.out H).2 y r d
  subst h2;have N:=hid (K.out.1 _ r d);rw[hb]at U P;have HD:=hid V;clear hb d V;by_cases n0:n<0
  · have d:=hid (show bad=false→f=none from fun _=>by rw[N.out,if_neg (by omega)])
    go_wp2_with fail;refine bodyPost_ret (results_tmp rfl _ _ _) rfl ?_
    exact G.out d.out _ E.out.1 E.out.2
  · by_cases n1:1<n
    · have d:=hid (show bad=false→f=none from fun _=>by rw[N.out,if_neg (by omega)])
      go_wp2_with fail;refine bodyPost_ret (results_tmp rfl _ _ _) rfl ?_
      exact G.out d.out _ E.out.1 E.out.2
    · have d:=hid (show f=some (decide (n=1),r)from by rw[N.out,if_pos (by omega)])
      have I5:(decide (n<0)||decide (1<n))=false:=by rw[decide_eq_false n0,decide_eq_false n1];rfl
      go_wp2_with fail;refine bodyPost_ret (results_tmp rfl _ _ _) rfl ?_
      refine⟨x,_,j,false,rfl,rfl,trivial,?_,hj,aG hg (ar _ b 2 _),(fun h=>by rw[H]at h;cases h),fun _=>⟨(fun h=>by rw[d.out]at h;cases h),fun y' r' J=>?_⟩⟩
      · have h9:=P.out
        unfold Sc World.setCell at*;simp only[Array.getElem?_modify,h9,if_true,Option.map_some];rfl
      · rw[d.out]at J
        simp only[Option.some.injEq,Prod.mk.injEq]at J;exact⟨rfl,by rw[HX.out];exact J.1,by rw[HD.out,J.2]⟩
structure mV (g:Int→Bool) (m:Int) (e:En):Prop where
 p:g e.path.size=true∧(e.path.size:Int)≤m
 t:g e.text.size=true∧(e.text.size:Int)≤m
 v:g e.ver=true
structure mW (g:Int→Bool) (m:Int) (c:Co):Prop where
 n:g c.nu=true
 k:g c.ke.size=true∧(c.ke.size:Int)≤m
 c:c.ch.length≤20∧ ∀x∈c.ch,lP g m x
structure yN (g:Int→Bool) (m:Int) (p:Pg):Prop where
 t:p.tree.length≤60∧ ∀x∈p.tree,mV g m x
 o:p.cos.length≤10∧ ∀x∈p.cos,mW g m x
 u:g p.cur=true
structure mX (g:Int→Bool) (m:Int) (a:An):Prop where
 e:g a.err=true
 n:g a.num=true
 p:yN g m a.pg
theorem yO {g:Int→Bool} (d: ∀n,g n=true→dq n) (y:g 0=true) (z:g 1=true):fL (eB g) (fun b=>[fJ b]) (fun _=>True):=fun l b r=>by
 unfold eB;rw[iB];constructor
 · rintro ⟨n,G,A,f⟩
   rw[kr]at f;obtain⟨rfl,rfl⟩:=f
   obtain⟨⟨_,E,F⟩,rfl⟩:=(lO d 1 l n G).1 A
   have:n=0∨n=1:=by omega
   rcases this with rfl|rfl<;>exact⟨trivial,rfl⟩
 · rintro ⟨_,rfl⟩
   cases b with
   |true=>exact⟨1,r,(lO d 1 _ _ _).2 ⟨⟨z,by decide,by decide⟩,rfl⟩,rfl⟩
   |false=>exact⟨0,r,(lO d 1 _ _ _).2 ⟨⟨y,by decide,by decide⟩,rfl⟩,rfl⟩
theorem Gs {g:Int→Bool} (d: ∀n,g n=true→dq n) (E: ∀n:Nat,n≤60→g n=true) (m:Int):fL (dW g m) fe (mV g m):=fun l c r=>by
 have F:=fun l x r=>yO d (E 0 (by omega)) (E 1 (by omega)) l x r
 unfold dW;simp only[iB,kr];constructor
 · rintro ⟨p,K,G,f,M,H,t,N,I,v,r4,J,rfl,rfl⟩
   obtain⟨y,rfl⟩:=(eh d m _ _ _).1 G
   obtain⟨_,rfl⟩:=(F _ _ _).1 H
   obtain⟨z,rfl⟩:=(eh d m _ _ _).1 I
   obtain⟨A,rfl⟩:=(dV d _ _ _).1 J
   exact⟨⟨y,z,A⟩,by simp[fe,Wr.bytes]⟩
 · rintro ⟨⟨y,z,A⟩,rfl⟩
   exact⟨_,_,(eh d m _ c.path (Wr.bytes [fJ c.folder,.t c.text,.n c.ver]++r)).2 ⟨y,by simp[fe,Wr.bytes]⟩,_,_,(F _ c.folder (Wr.bytes [.t c.text,.n c.ver]++r)).2 ⟨trivial,by simp[Wr.bytes]⟩,_,_,(eh d m _ c.text (Wr.bytes [.n c.ver]++r)).2 ⟨z,by simp[Wr.bytes]⟩,_,_,(dV d _ c.ver r).2 ⟨A,by simp[Wr.bytes]⟩,rfl,rfl⟩
theorem Gt {g:Int→Bool} (d: ∀n,g n=true→dq n) (H: ∀n:Nat,n≤60→g n=true) (m:Int):fL (dL g m) eK (mW g m):=fun l c r=>by
 have A:=fun l x r=>pp d 20 (fun n I=>H n (by omega)) (xQ d m) l x r
 unfold dL;simp only[iB,kr];constructor
 · rintro ⟨n,J,E,k,K,F,cs,M,G,rfl,rfl⟩
   obtain⟨f,rfl⟩:=(dV d _ _ _).1 E
   obtain⟨y,rfl⟩:=(eh d m _ _ _).1 F
   obtain⟨z,rfl⟩:=(A _ _ _).1 G
   exact⟨⟨f,y,z⟩,by simp[eK,Wr.bytes]⟩
 · rintro ⟨⟨f,y,z⟩,rfl⟩
   exact⟨_,_,(dV d _ c.nu (Wr.bytes [.t c.ke]++(Wr.bytes (Wr.lst 20 bI c.ch)++r))).2 ⟨f,by simp[eK,Wr.bytes]⟩,_,_,(eh d m _ c.ke (Wr.bytes (Wr.lst 20 bI c.ch)++r)).2 ⟨y,by simp[Wr.bytes]⟩,_,_,(A _ c.ch r).2 ⟨z,rfl⟩,rfl,rfl⟩
theorem Gu {g:Int→Bool} (d: ∀n,g n=true→dq n) (f: ∀n:Nat,n≤60→g n=true) (m:Int):fL (jk g m) jM (yN g m):=fun l p r=>by
 have z:=fun l x r=>yO d (f 0 (by omega)) (f 1 (by omega)) l x r
 have H:=fun l x r=>pp d 60 (fun n O=>f n (by omega)) (Gs d f m) l x r
 have G:=fun l x r=>pp d 10 (fun n O=>f n (by omega)) (Gt d f m) l x r
 unfold jk;simp only[iB,kr];constructor
 · rintro ⟨x,P,I,t,Q,J,o,S,K,u,r4,M,y,T,N,rfl,rfl⟩
   obtain⟨_,rfl⟩:=(z _ _ _).1 I
   obtain⟨A,rfl⟩:=(H _ _ _).1 J
   obtain⟨E,rfl⟩:=(G _ _ _).1 K
   obtain⟨F,rfl⟩:=(dV d _ _ _).1 M
   obtain⟨_,rfl⟩:=(z _ _ _).1 N
   exact⟨⟨A,E,F⟩,by simp[jM,Wr.bytes]⟩
 · rintro ⟨⟨A,E,F⟩,rfl⟩
   obtain⟨x,t,o,u,y⟩:=p
   exact⟨_,_,(z _ x (Wr.bytes (Wr.lst 60 fe t)++(Wr.bytes (Wr.lst 10 eK o)++(Wr.bytes [.n u,fJ y]++r)))).2 ⟨trivial,by simp[jM,Wr.bytes]⟩,
    _,_,(H _ t (Wr.bytes (Wr.lst 10 eK o)++(Wr.bytes [.n u,fJ y]++r))).2 ⟨A,rfl⟩,
    _,_,(G _ o (Wr.bytes [.n u,fJ y]++r)).2 ⟨E,rfl⟩,
    _,_,(dV d _ u (Wr.bytes [fJ y]++r)).2 ⟨F,by simp[Wr.bytes]⟩,
    _,_,(z _ y r).2 ⟨trivial,by simp[Wr.bytes]⟩,rfl,rfl⟩
theorem yP {g:Int→Bool} (d: ∀n,g n=true→dq n) (H: ∀n:Nat,n≤60→g n=true) (m:Int):fL (ei g m) ee (mX g m):=fun l a r=>by
 have A:=fun l x r=>Gu d H m l x r
 unfold ei;simp only[iB,kr];constructor
 · rintro ⟨e,I,E,n,J,F,p,K,G,rfl,rfl⟩
   obtain⟨f,rfl⟩:=(dV d _ _ _).1 E
   obtain⟨y,rfl⟩:=(dV d _ _ _).1 F
   obtain⟨z,rfl⟩:=(A _ _ _).1 G
   exact⟨⟨f,y,z⟩,by simp[ee,Wr.bytes]⟩
 · rintro ⟨⟨f,y,z⟩,rfl⟩
   obtain⟨e,n,p⟩:=a
   exact⟨_,_,(dV d _ e (Wr.bytes [.n n]++(Wr.bytes (jM p)++r))).2 ⟨f,by simp[ee,Wr.bytes]⟩,_,_,(dV d _ n (Wr.bytes (jM p)++r)).2 ⟨y,by simp[Wr.bytes]⟩,_,_,(A _ p r).2 ⟨z,rfl⟩,rfl,rfl⟩
theorem yQ (x:ByteArray):x.size≤1000↔ah x.size=true∧(x.size:Int)≤1000:=by rw[ah,i9];omega
theorem tg (b:Bool):(fJ b).ok=true:=by cases b<;>decide
theorem Gv (e:En):Wr.ok (fe e)=true↔mV ah 1000 e:=by
 have z:=yQ;have A:=tg e.folder;simp only[Wr.ok,fe,List.all_cons,List.all_nil,A,Bool.true_and];simp only[aN.ok,Bool.and_eq_true,decide_eq_true_eq,Bool.and_true,z];constructor
 · rintro ⟨d,f,y⟩;exact⟨d,f,y⟩
 · rintro ⟨d,f,y⟩;exact⟨d,f,y⟩
theorem Gw (c:Co):Wr.ok (eK c)=true↔mW ah 1000 c:=by
 have z:=yQ;rw[eK,pq,Bool.and_eq_true,pu 20 (by omega)];simp only[xV];simp only[Wr.ok,List.all_cons,List.all_nil,aN.ok,Bool.and_eq_true,decide_eq_true_eq,Bool.and_true,z];constructor
 · rintro ⟨⟨d,f⟩,y⟩;exact⟨d,f,y⟩
 · rintro ⟨d,f,y⟩;exact⟨⟨d,f⟩,y⟩
theorem nY (x:aN) (l:List aN):Wr.ok (x::l)=(x.ok && Wr.ok l):=rfl
theorem yR (a:An):Wr.ok (ee a)=true↔mX ah 1000 a:=by
 rw[ee,jM,nY,nY,nY,pq,pq,nY,nY,tg,tg];simp only[Bool.and_eq_true,pu 60 (by omega:60≤1000),pu 10 (by omega:10≤1000),Gv,Gw,aN.ok,true_and,and_true];constructor
 · rintro ⟨f,y,⟨z,A⟩,d⟩;exact⟨f,y,⟨z,A,(by rw[ah];simpa[Wr.ok,aN.ok]using d)⟩⟩
 · rintro ⟨f,y,z,A,d⟩;exact⟨f,y,⟨z,A⟩,(by rw[ah]at d;simpa[Wr.ok,aN.ok]using d)⟩
theorem yS {l:List UInt8} {a:An}:Wr.whole (ei ah 1000 l)=some a↔Wr.ok (ee a)=true∧l=Wr.bytes (ee a):=by
 rw[yR];exact yy (yP xf sG 1000)
theorem mV.weak {e:En} (h:mV ah 1000 e):mV aF bf e:=by
 have d: ∀x:ByteArray,(ah x.size=true∧(x.size:Int)≤1000)→aF x.size=true∧(x.size:Int)≤bf:=fun x d=>⟨fZ _ d.1,by unfold bf;omega⟩
 exact⟨d _ h.p,d _ h.t,fZ _ h.v⟩
theorem mW.weak {c:Co} (h:mW ah 1000 c):mW aF bf c:=
 ⟨fZ _ h.n,⟨fZ _ h.k.1,by have:=h.k.2;unfold bf;omega⟩,h.c.1,fun x d=>(h.c.2 x d).weak⟩
theorem mX.weak {a:An} (h:mX ah 1000 a):mX aF bf a:=
 ⟨fZ _ h.e,fZ _ h.n,⟨h.p.t.1,fun x d=>(h.p.t.2 x d).weak⟩,⟨h.p.o.1,fun x d=>(h.p.o.2 x d).weak⟩,fZ _ h.p.u⟩
theorem yT:fL (ei aF bf) ee (mX aF bf):=yP oS xX bf
theorem Gx {l:List UInt8} {a:An} (h:ei aF bf l=some (a,[])) (d:(cI (Wr.run aL (ee a))).2=0):Wr.whole (ei ah 1000 l)=some a:=by
 rw[yS];refine⟨?_,by simpa using ((yT l a []).1 h).2⟩
 cases f:Wr.ok (ee a)with
 |true=>rfl
 |false=>exact absurd d (xU f).1
theorem Gy {l:List UInt8} {a:An} (h:Wr.whole (ei ah 1000 l)=some a):ei aF bf l=some (a,[])∧(cI (Wr.run aL (ee a))).2=0:=by
 obtain⟨d,f⟩:=yS.1 h
 exact⟨(yT l a []).2 ⟨((yR a).1 d).weak,by simpa using f⟩,by rw[mR d]⟩
end Go.Proofs.YtcmlnelpcjfocaaGreatDoor
