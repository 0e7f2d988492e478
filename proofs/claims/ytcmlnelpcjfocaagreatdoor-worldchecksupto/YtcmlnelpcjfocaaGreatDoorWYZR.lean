/- What world.events answers: a map of method values, by kinds of events. -/
import Derived.Test.YtcmlnelpcjfocaaGreatDoorWYZP
import Derived.Test.YtcmlnelpcjfocaaGreatDoorWYZN
set_option linter.unusedSimpArgs false
set_option linter.unusedVariables false
namespace Go.Proofs.YtcmlnelpcjfocaaGreatDoor
open Go.RowKit Go.Maps Go.ChangeShapes Go.WideShapes Go.ChangeAt Go.Proofs.Tryz
set_option maxHeartbeats 8000000
set_option maxRecDepth 100000
def ku (p:Addr):Value→Option (DataW Unit×List MemPlace)
 | .func (.func n) ⟨[.pointer (some q)]⟩ ⟨[]⟩=>if q=p then some (.lit (.int .i64 n),[])else none
 | .nilFunc=>some (.lit (.int .i64 0),[])
 |_=>none
theorem kv (p:Addr) (n:Nat):ku p (.func (.func n) #[.pointer (some p)] #[])=some (.lit (.int .i64 n),[]):=by simp[ku]
theorem GD {p:Addr} {v:Value} {n:Nat} {y:List MemPlace} (h:ku p v=some (.lit (.int .i64 n),y)) (d: ¬n=0):v= .func (.func n) #[.pointer (some p)] #[]:=by
 unfold ku at h;split at h
 · rename_i m q
   split at h
   · rename_i f
     subst f;simp only[Option.some.injEq,Prod.mk.injEq,DataW.lit.injEq,Lit.int.injEq,true_and]at h;have:m=n:=Int.ofNat.inj h.1
     rw[this]
   · cases h
 · simp only[Option.some.injEq,Prod.mk.injEq,DataW.lit.injEq,Lit.int.injEq,true_and]at h
   exact absurd (Int.ofNat.inj h.1).symm d
 · cases h
def jN (n:Nat):DataW Unit:= .lit (.int .i64 n)
def GF:DataW Unit:=(DataW.map []:DataW Unit).put (.int .i64 1) (jN 79)
def GG:DataW Unit:=GF.put (.int .i64 2) (jN 80)
def GH:DataW Unit:=GG.put (.int .i64 3) (jN 81)
def GI:DataW Unit:=GH.put (.int .i64 4) (jN 82)
def GJ:DataW Unit:=GI.put (.int .i64 5) (jN 83)
def GK:DataW Unit:=GJ.put (.int .i64 6) (jN 84)
def GL:DataW Unit:=GK.put (.int .i64 7) (jN 85)
def GM:DataW Unit:=GL.put (.int .i64 8) (jN 86)
def nZ:DataW Unit:=GM.put (.int .i64 9) (jN 87)
theorem GN:Maps.has nZ (.int .i64 2)=true:=by decide+kernel
theorem GO (z:DataW Unit):nZ.atKey (.int .i64 2) z=jN 80:=by rfl
theorem Tryz.makeEvents (w:World):(Instr.makeMap 118 none).run prog w= .ok (.map (some w.heap.size)) (w.alloc (.map #[] 0)):=by
 simp[Instr.makeMap,run_underlying underlying118,Result.andThen]
theorem GP (p:Addr) (w:World):
    Calls prog 47 #[.pointer (some p)] w fun e w'=> ∃b,e= .returned (.map (some b))∧w'.ownsMap prog 3 (ku p) b 9 nZ∧Below w.heap.size w w':=by
 have I0: ∀(E:Fn) (first cap:Array Value) (w:World),(Instr.makeFunc E first cap).run prog w= .ok (.func E first cap) w:=fun _ _ _ _=>rfl
 have I5:=Tryz.makeEvents;obtain⟨w0,y⟩: ∃X,X=w.alloc (.map #[] 0):=⟨_,rfl⟩
 have z:=World.ownsMap_made w prog 3 (ku p);have aR:Below w.heap.size w w0:=by rw[y];exact(Below.refl _ _).alloc (Nat.le_refl _) _
 rw[←y]at z;have d:=fun(n:Int) (h:(Lit.int .i64 n).wf=true)=>keyOf_int_mk underlying3 h
 have f: ∀n,n≤9→n<maxLen:=fun n h=>by unfold maxLen;omega
 obtain⟨w1,r1,S,F⟩:=z.update (int_keyed underlying3) underlying118 (f 0 (by decide)) (d 1 (by decide)) (kv p 79)
 obtain⟨w2,r2,T,G⟩:=S.update (int_keyed underlying3) underlying118 (f 1 (by decide)) (d 2 (by decide)) (kv p 80)
 obtain⟨w3,r3,U,H⟩:=T.update (int_keyed underlying3) underlying118 (f 2 (by decide)) (d 3 (by decide)) (kv p 81)
 obtain⟨w4,r4,V,I⟩:=U.update (int_keyed underlying3) underlying118 (f 3 (by decide)) (d 4 (by decide)) (kv p 82)
 obtain⟨w5,r5,Y,J⟩:=V.update (int_keyed underlying3) underlying118 (f 4 (by decide)) (d 5 (by decide)) (kv p 83)
 obtain⟨w6,r6,Z,K⟩:=Y.update (int_keyed underlying3) underlying118 (f 5 (by decide)) (d 6 (by decide)) (kv p 84)
 obtain⟨w7,r7,o7,M⟩:=Z.update (int_keyed underlying3) underlying118 (f 6 (by decide)) (d 7 (by decide)) (kv p 85)
 obtain⟨w8,r8,o8,N⟩:=o7.update (int_keyed underlying3) underlying118 (f 7 (by decide)) (d 8 (by decide)) (kv p 86)
 obtain⟨A,r9,o9,O⟩:=o8.update (int_keyed underlying3) underlying118 (f 8 (by decide)) (d 9 (by decide)) (kv p 87)
 have HO:=hid (show A.ownsMap prog 3 (ku p) w.heap.size 9 nZ from o9);have P:w0.grownBy A (some w.heap.size):=Nb.trans (Nb.trans (Nb.trans (Nb.trans (Nb.trans (Nb.trans (Nb.trans (Nb.trans F G) H) I) J) K) M) N) O;have HB:=hid (show Below w.heap.size w A from aR.grown P (by rw[y];simp) (fun k Q=>by injection Q with Q;omega));rw[y]at r1;clear z S T U V Y Z o7 o8 o9 F G H I J K M N O P aR d f;go_enter func47,ntmps47
 go_upto_region 1 with fail;go_wp2_with fail;go_ret;exact⟨_,rfl,HO.out,HB.out⟩
theorem GQ (b o n cap:Nat) (w:World) (y:0<n):
    Calls prog 117 #[.slice (some ⟨b,o,none⟩) n cap,.int .i64 0] w fun e w'=>e= .returned (.tuple #[.pointer (some ⟨b,o,none⟩),.int .i64 0])∧Below w.heap.size w w':=by
 have d:(0:Int)<n:=by omega
 have f: ¬(n:Int)≤0:=by omega
 go_enter func117,ntmps117
 go_wp2_with fail;go_ret2;exact⟨rfl,Below.refl _ _⟩
def tk (w:World) (b:Nat) (p0 p1 p2 p3 p4 p5 p6 p7:Value) (x:Lr) (w':World):Prop:=w.grownBy w' (some b)∧ ∃va,aW 4 w' va [fH x]∧aI w.heap.size w' va∧Cs w' b [p0,p1,p2,p3,p4,p5,p6,p7,va]
theorem GR (x:Lr) (b:Nat) (p0 p1 p2 p3 p4 p5 p6 p7:Value) (w:World) (U:Cs w b [p0,p1,p2,p3,p4,p5,p6,p7,.slice none 0 0]):
    Calls prog 126 #[.pointer (some ⟨b,0,none⟩),.agg #[.int .i64 x.fr,.int .i64 x.kind,.bool x.ans,.string x.tx]] w fun e w'=>e= .returned (.int .i64 0)∧tk w b p0 p1 p2 p3 p4 p5 p6 p7 x w':=by
 obtain⟨aZ,Y,I0,I5,I6⟩:=info_parts Tryz.infoRLr
 obtain⟨d,z⟩: ∃d,d=w.alloc (.cells #[.int .i64 x.fr,.int .i64 x.kind,.bool x.ans,.string x.tx] 52):=⟨_,rfl⟩
 have F:Below w.heap.size w d:=by rw[z];exact(Below.refl _ _).alloc (Nat.le_refl _) _
 have M:=hid (show Cs d w.heap.size [.int .i64 x.fr,.int .i64 x.kind,.bool x.ans,.string x.tx] by rw[z];exact Cs.new w [.int .i64 x.fr,.int .i64 x.kind,.bool x.ans,.string x.tx] _);have K:=hid (U.below F);have I9:=U.lt;have A:=K.out.lt;have Iv: ¬b=w.heap.size:=by omega
 have c8:=K.out.cell 8 rfl;have f8:=K.out.fr 8;have x0:=M.out.cell 0 rfl;have x1:=M.out.cell 1 rfl;have aY:=M.out.cell 2 rfl;have x3:=M.out.cell 3 rfl;have f:Below d.heap.size d (d.drew.alloc (.cells #[.int .i64 x.fr,.int .i64 x.kind,.bool x.ans,.string x.tx] 52)):=((Below.refl _ _).drew).alloc (Nat.le_refl _) _;have T:=hid (show aW 4 (d.drew.alloc (.cells #[.int .i64 x.fr,.int .i64 x.kind,.bool x.ans,.string x.tx] 52)) (.slice none 0 0) []from⟨none,0,rfl,Nat.le_refl _,by simp,by simp,fun i h=>absurd h (by simp)⟩)
 have S:=hid (show(fH x).length=4∧ ∀u∈fH x,u.oneCell'=true from⟨rfl,fun u hu=>by
  simp only[fH,List.mem_cons,List.not_mem_nil,or_false]at hu;rcases hu with rfl|rfl|rfl|rfl<;>rfl⟩)
 have P:=hid (show∀j y,(fH x)[j]?=some y→(d.drew.alloc (.cells #[.int .i64 x.fr,.int .i64 x.kind,.bool x.ans,.string x.tx] 52)).cell? ((⟨d.heap.size,0,none⟩:Addr).add j)=some y from fun j y hj=>by
  rw[Addr.add_lit,Nat.zero_add];exact(Cs.new d.drew [.int .i64 x.fr,.int .i64 x.kind,.bool x.ans,.string x.tx] 52).cell j hj)
 have H:=hid z.symm;clear z U;go_enter func126,ntmps126
 go_upto_region 1 with fail;rw[H.out];clear H;go_wp2_with fail;go_region_law (refine Cc rfl (.tmp 17) (.tmp 19) 30 rfl 52 aZ (.agg #[.int .i64 0,.int .i64 0,.bool false,.string ⟨#[]⟩]) 4 40 underlying30 Y I0 I5 I6 rfl (by decide) none [] 0 rfl (by simp[Act.eval,Act.put]) T.out ⟨d.heap.size,0,none⟩ 1 (by simp[Act.eval,Act.put]) (fH x) S.out P.out (by simp) (by decide) ?_;rintro v5 w5 ⟨I,V,X⟩;have Q:=hid I;have G:=hid V;obtain⟨I7,I8,Z,_⟩:=I;subst Z;have N:Below d.heap.size d w5:=f.trans (X.mono f.size);have d8:=(N.cell (p:=⟨b,8,none⟩) A).trans c8;have e8:=(N.frozen (p:=⟨b,8,none⟩) A).trans f8)
 all_goals
  have J:=ag F N
  have E: ∀g,(Value.slice I7 ([]++[fH x]).length I8).ownBlock=some g→g≠b:=fun g hg=>by
   have h6:d.heap.size≤g:=Nat.le_trans f.size (G.out g hg).1;omega
  have O:=hid (K.out.below N);go_wp2_with fail;go_ret;exact⟨rfl,Nb.trans (Nb.below b J) (ar _ _ _ _),_,Q.out.nbo (ar _ _ _ _) E,(G.out.nb (ar _ _ _ _) E).mono (Nat.le_trans F.size f.size),O.out.set 8 _⟩
def fg:Lr:=⟨0,2,false,⟨bV.toArray⟩⟩
theorem GS (b:Nat) (T U V X Y Z p6 p7:Value) (vq:Value) (w:World) (hC:Cs w b [T,U,V,X,Y,Z,p6,p7,.slice none 0 0]) (hq:jV w vq br) (h6:5<w.heap.size) (hv:aX w):
    Calls prog 120 #[.pointer (some ⟨b,0,none⟩),.int .i64 0,vq] w fun e w'=>e= .returned (.int .i64 0)∧tk w b T U V X Y Z p6 p7 fg w':=by
 have J:=hid hq;obtain⟨va,rfl,M,N,rfl,_⟩:=hq
 simp only[br,List.length_nil]at J⊢;obtain⟨F,y⟩: ∃F,F=w.alloc (.cells #[.int .i64 2,.string ⟨#[97]⟩,.string ⟨#[102]⟩,.string ⟨#[]⟩,.string ⟨#[]⟩,.string ⟨#[]⟩,.int .i64 0,.int .i64 0,.int .i64 0,.slice M 0 N] 61):=⟨_,rfl⟩
 have f:Below w.heap.size w F:=by rw[y];exact(Below.refl _ _).alloc (Nat.le_refl _) _
 have d:=hid (show Cs F w.heap.size [.int .i64 2,.string ⟨#[97]⟩,.string ⟨#[102]⟩,.string ⟨#[]⟩,.string ⟨#[]⟩,.string ⟨#[]⟩,.int .i64 0,.int .i64 0,.int .i64 0,.slice M 0 N] by rw[y];exact Cs.new w [.int .i64 2,.string ⟨#[97]⟩,.string ⟨#[102]⟩,.string ⟨#[]⟩,.string ⟨#[]⟩,.string ⟨#[]⟩,.int .i64 0,.int .i64 0,.int .i64 0,.slice M 0 N] _);have HC:=hid (hC.below f);have K:=hid (hv.belowB h6 f);have I0:5<F.heap.size:=by have:=f.size;omega
 have H:=hid (Et br _ F (J.out.below f) FN (by omega) K.out.pow);rw[FL]at H;have x0:=d.out.cell 0 rfl;have x1:=d.out.cell 1 rfl;have aY:=d.out.cell 2 rfl;have x3:=d.out.cell 3 rfl;have x4:=d.out.cell 4 rfl;have x5:=d.out.cell 5 rfl;have x6:=d.out.cell 6 rfl;have x7:=d.out.cell 7 rfl;have x8:=d.out.cell 8 rfl;have x9:=d.out.cell 9 rfl;have G:=hid y.symm;clear y hC hv J;go_enter func120,ntmps120
 go_upto_region 1 with fail;rw[G.out];clear G;go_wp2_with fail;refine H.out.mono ?_
 rintro e w1 ⟨rfl,A⟩;have z:=ag f A;have I:=hid (HC.out.below A);have y0:=(d.out.below A).cell 0 rfl;clear H x0 x1 aY x3 x4 x5 x6 x7 x8 x9;obtain⟨tt,E⟩: ∃tt:ByteArray,tt=⟨bV.toArray⟩:=⟨_,rfl⟩
 rw[←E];have HT:=hid E;clear E;go_wp2_with fail;refine(GR ⟨0,2,false,tt⟩ b T U V X Y Z p6 p7 w1 I.out).mono ?_
 rintro e w2 ⟨rfl,O,va,P,Q,S⟩;go_wp2_with fail;go_ret;refine⟨rfl,Nb.trans (Nb.below b z) O,?_⟩
 rw[fg,←HT.out];exact⟨va,P,Q.mono z.size,S⟩
theorem GU:nA aR=br:=by rw[nA,if_pos mv];rfl
theorem GV (b g o S:Nat) (p0 p1 p2 p3 p4 p5 p6:Value) (w:World) (hC:Cs w b [p0,p1,p2,p3,p4,p5,p6,.slice (some ⟨g,o,none⟩) 1 S,.slice none 0 0]) (hg:g<w.heap.size) (ID:g≠b) (hc:f9 w g o aR) (h6:5<w.heap.size) (hv:aX w):
    Calls prog 80 #[.pointer (some ⟨b,0,none⟩),.agg #[.int .i64 2,.int .i64 0,.int .i64 0,.string ⟨#[]⟩,.string ⟨#[]⟩,.string ⟨#[]⟩,.int .i64 0,.int .i64 0,.string ⟨#[]⟩,.string ⟨#[]⟩,.string ⟨#[]⟩,.string ⟨#[]⟩,.string ⟨#[]⟩,.int .i64 0,.int .i64 0,.int .i64 0,.slice none 0 0]] w fun e w'=>e= .returned (.int .i64 0)∧tk w b p0 p1 p2 p3 p4 p5 p6 (.slice (some ⟨g,o,none⟩) 1 S) fg w':=by
 obtain⟨I,G⟩: ∃I,I=w.alloc (.cells #[.int .i64 2,.int .i64 0,.int .i64 0,.string ⟨#[]⟩,.string ⟨#[]⟩,.string ⟨#[]⟩,.int .i64 0,.int .i64 0,.string ⟨#[]⟩,.string ⟨#[]⟩,.string ⟨#[]⟩,.string ⟨#[]⟩,.string ⟨#[]⟩,.int .i64 0,.int .i64 0,.int .i64 0,.slice none 0 0] 74):=⟨_,rfl⟩
 have E:Below w.heap.size w I:=by rw[G];exact(Below.refl _ _).alloc (Nat.le_refl _) _
 have U:=hid (show Cs I w.heap.size [.int .i64 2,.int .i64 0,.int .i64 0,.string ⟨#[]⟩,.string ⟨#[]⟩,.string ⟨#[]⟩,.int .i64 0,.int .i64 0,.string ⟨#[]⟩,.string ⟨#[]⟩,.string ⟨#[]⟩,.string ⟨#[]⟩,.string ⟨#[]⟩,.int .i64 0,.int .i64 0,.int .i64 0,.slice none 0 0] by rw[G];exact Cs.new w [.int .i64 2,.int .i64 0,.int .i64 0,.string ⟨#[]⟩,.string ⟨#[]⟩,.string ⟨#[]⟩,.int .i64 0,.int .i64 0,.string ⟨#[]⟩,.string ⟨#[]⟩,.string ⟨#[]⟩,.string ⟨#[]⟩,.string ⟨#[]⟩,.int .i64 0,.int .i64 0,.int .i64 0,.slice none 0 0] _);have T:=hid (hC.below E);have J:=hid (hc.below hg E);have K:=hid (fun X (hW:Below w.heap.size w X)=>hv.belowB h6 hW);have Iz:=U.out.lt;have I8:=T.out.lt;have Iv:g<I.heap.size:=by have:=E.size;omega
 have x1:=U.out.cell 1 rfl;have c7:=T.out.cell 7 rfl;have M:=hid G.symm;clear G hC hv hc;go_enter func80,ntmps80
 go_upto_region 1 with fail;rw[M.out];clear M;go_wp2_with fail
 go_region_held3 (fun W=>W.cell? ⟨w.heap.size,1,none⟩=some (.int .i64 0)∧W.cell? ⟨b,7,none⟩=some (.slice (some ⟨g,o,none⟩) 1 S)) (go_keep) (first
  |(go_at_call 117;refine(GQ g o 1 S _ (by decide)).mono ?_;rintro e Q ⟨rfl,I7⟩;have f:Below I.heap.size I Q:=((Below.refl _ _).drew).trans I7;have j0:=(f.cell (p:=⟨w.heap.size,1,none⟩) Iz).trans x1;have j1:=(f.cell (p:=⟨b,7,none⟩) I8).trans c7))
 have y:=ag E f;have I5:=hid (U.out.below f);have Y:=hid (T.out.below f);have IB:=hid (K.out Q y);have IC:5<Q.heap.size:=by have:=y.size;omega
 obtain⟨vb,vm,va,d0,d1,d2,d3,d4,d5,d6,d7,l1,l2,l3⟩:=J.out.below Iv f
 have HN:=hid (show fU Q (.agg #[.string ⟨#[97]⟩,.string ⟨#[102]⟩,vb,.int .i64 0,vm,.string ⟨#[]⟩,va,.int .i64 0]) aR from⟨vb,vm,va,rfl,l1,l2,l3⟩);obtain⟨ea,ec,rfl,_⟩:=l1
 obtain⟨na,nc,rfl,_⟩:=l2
 obtain⟨qa,qc,rfl,_⟩:=l3
 simp only[aR,ie,List.length_nil]at d0 d1 d2 d3 d4 d5 d6 d7 HN;clear x1 c7 j0 j1 J U T;go_wp2_with fail;refine(B3 aR _ Q HN.out rU).mono ?_
 rintro e O ⟨u,rfl,hq,H⟩;rw[mv];rw[GU]at hq;have HQ:=hid hq;obtain⟨vq,rfl,aq,cq,rfl,_⟩:=hq
 simp only[br,List.length_nil]at HQ⊢;have N:=ag y H;obtain⟨P,F⟩: ∃X,X=O.alloc (.cells #[.int .i64 2,.string ⟨#[97]⟩,.string ⟨#[102]⟩,.string ⟨#[]⟩,.string ⟨#[]⟩,.string ⟨#[]⟩,.int .i64 0,.int .i64 0,.int .i64 0,.slice aq 0 cq] 61):=⟨_,rfl⟩
 have A:Below O.heap.size O P:=by rw[F];exact(Below.refl _ _).alloc (Nat.le_refl _) _
 have z:=hid (show Cs P O.heap.size [.int .i64 2,.string ⟨#[97]⟩,.string ⟨#[102]⟩,.string ⟨#[]⟩,.string ⟨#[]⟩,.string ⟨#[]⟩,.int .i64 0,.int .i64 0,.int .i64 0,.slice aq 0 cq] by rw[F];exact Cs.new O [.int .i64 2,.string ⟨#[97]⟩,.string ⟨#[102]⟩,.string ⟨#[]⟩,.string ⟨#[]⟩,.string ⟨#[]⟩,.int .i64 0,.int .i64 0,.int .i64 0,.slice aq 0 cq] _);have d:=ag N A;have I0:=hid ((I5.out.below H).below A);have V:=hid ((Y.out.below H).below A);have Z:=hid (K.out P d);have I6:5<P.heap.size:=by have:=d.size;omega
 have y1:=I0.out.cell 1 rfl;have r0:=z.out.cell 0 rfl;have r1:=z.out.cell 1 rfl;have r2:=z.out.cell 2 rfl;have r3:=z.out.cell 3 rfl;have r4:=z.out.cell 4 rfl;have r5:=z.out.cell 5 rfl;have r6:=z.out.cell 6 rfl;have r7:=z.out.cell 7 rfl;have r8:=z.out.cell 8 rfl;have r9:=z.out.cell 9 rfl;clear d0 d1 d2 d3 d4 d5 d6 d7;go_upto_region 5 with fail;try simp only[World.setCell_alloc_new]
 rw[←F];clear F;go_wp2_with fail;refine(GS b p0 p1 p2 p3 p4 p5 p6 (.slice (some ⟨g,o,none⟩) 1 S) _ P V.out (HQ.out.below A) I6 Z.out).mono ?_
 rintro e w3 ⟨rfl,I9,IA,Iw,Ix,Iy⟩;go_wp2_with fail;go_ret;exact⟨rfl,Nb.trans (Nb.below b d) I9,IA,Iw,Ix.mono d.size,Iy⟩
theorem ft.below {B:Nat} {w w':World} {v:Value} {W:Wd} (h:ft B w v W) (d:Below w.heap.size w w'):ft B w' v W:=by
 obtain⟨N,O,ai,M,f,e,⟨y,⟨z,H⟩,A,I⟩,E,F,J,K⟩:=h
 exact⟨N,O,ai,M,f,e,⟨y.below d,⟨z.below d,H.below d⟩,A.below d,I.below d⟩,E.below d,F.below d,J.below d,K.kept (row:=none) ⟨d.os,d.tape,d.output,d.size,fun k G _=>d.block k G⟩ (by cases hb:f.ownBlock with|none=>exact Or.inl rfl|some k=>exact Or.inr (by simp))⟩
theorem ft.cl0 {B:Nat} {w:World} {M N O P Q S T U:Value} {d:Option Addr} {n y:Nat} {H:Hb} {c:Cn} {m:List Lr} (h:ft B w (.agg #[M,N,O,P,Q,S,T,.slice d n y,U]) ⟨H,[c],m⟩): ∃g o,d=some ⟨g,o,none⟩∧B≤g∧g<w.heap.size∧f9 w g o c:=by
 obtain⟨vf,vg,ai,V,vl,e,_,f,_⟩:=h
 simp only[Value.agg.injEq]at e
 have A:Value.slice d n y=V:=by
  have:=congrArg (fun a=>a.getD 7 .nilFunc) e
  simpa using this
 subst A;obtain⟨Z,_,_,J,_⟩:=id f
 obtain⟨a,z,K,_,_,F⟩:=f.lies
 injection K with E X Y
 subst E;obtain⟨g,o,rfl,I,G⟩:=F 0 (by simp)
 exact⟨g,o,rfl,(J g rfl).1,I,by simpa using G⟩
theorem Tryz.zeroEvF (w:World):(zeroValue 116).run prog w= .ok .nilFunc w:=by rw[Tryz.zeroValue116]
theorem GW {p:Addr} {y n:Nat} {w:World} (h:w.ownsMap prog 3 (ku p) y n nZ):(Instr.lookup 118 (.map (some y)) (.int .i64 2) true).run prog w= .ok (.tuple #[.func (.func 80) #[.pointer (some p)] #[],.bool true]) w:=by
 obtain⟨v,z,d,f⟩:=h.look_ok (int_keyed underlying3) underlying118 (Tryz.zeroEvF w) (show ku p .nilFunc=some (.lit (.int .i64 0),[])from rfl) (keyOf_int_mk underlying3 (show(Lit.int .i64 2).wf=true by decide))
 rw[GN]at d;rw[GO]at f;rw[GD (n:=80) f (by decide)]at d;exact d
theorem GX (td:ByteArray→Int) (H:Hb) (v:Value) (w:World) (hv:eI w v ⟨H,[aR],[]⟩) (hn:nP v= .slice none 0 0) (hs:iA ⟨H,[aR],[]⟩) (h0:bY td ⟨H,[aR],[]⟩=0) (h6:5<w.heap.size) (IG:aX w):
    Calls prog 18 #[v,.agg #[.int .i64 2,.int .i64 0,.int .i64 0,.string ⟨#[]⟩,.string ⟨#[]⟩,.string ⟨#[]⟩,.int .i64 0,.int .i64 0,.string ⟨#[]⟩,.string ⟨#[]⟩,.string ⟨#[]⟩,.string ⟨#[]⟩,.string ⟨#[]⟩,.int .i64 0,.int .i64 0,.int .i64 0,.slice none 0 0]] w fun e w'=> ∃u,e= .returned (.tuple #[u,.int .i64 0])∧eI w' u ⟨H,[aR],[fg]⟩∧Below w.heap.size w w':=by
 have eg: ∀S w,(callFunc 80 S).run prog w= .ok (.enter 80 S) w:=enters_of func80 (by kernel_rfl) rfl;have HV:=hid hv;have V:=hid hn;have HS:=hid hs;have H0:=hid h0;have Iw:=hid (fun X (hW:Below w.heap.size w X)=>IG.belowB h6 hW);obtain⟨vf,vg,ai,vc,vl,rfl,⟨lf,lg,aT⟩,lc,ll⟩:=hv
 simp only at lf lg aT lc ll HV V⊢;obtain⟨fa,fc,rfl,_⟩:=lf
 obtain⟨ga,gc,rfl,_⟩:=lg
 obtain⟨sa,sc,rfl,_⟩:=aT
 obtain⟨xa,xc,rfl⟩:=lc.shape
 obtain⟨ya,yc,rfl⟩:=ll.shape
 simp only[List.length_nil,List.length_singleton]at HV V⊢;clear lc ll hn hs h0 IG;obtain⟨I,F⟩: ∃X,X=w.alloc (.cells #[.slice fa H.fos.length fc,.slice ga H.gs.length gc,.slice sa H.ss.length sc,.int .i64 H.nx,.int .i64 H.la,.int .i64 H.ro,.int .i64 H.now,.slice xa 1 xc,.slice ya 0 yc] 32):=⟨_,rfl⟩
 obtain⟨J,G⟩: ∃X,X=I.alloc (.cells #[.int .i64 2,.int .i64 0,.int .i64 0,.string ⟨#[]⟩,.string ⟨#[]⟩,.string ⟨#[]⟩,.int .i64 0,.int .i64 0,.string ⟨#[]⟩,.string ⟨#[]⟩,.string ⟨#[]⟩,.string ⟨#[]⟩,.string ⟨#[]⟩,.int .i64 0,.int .i64 0,.int .i64 0,.slice none 0 0] 74):=⟨_,rfl⟩
 obtain⟨T,Q⟩: ∃X,X=J.alloc (.cells #[.slice none 0 0,.slice none 0 0,.slice none 0 0,.int .i64 0,.int .i64 0,.int .i64 0,.int .i64 0,.slice none 0 0,.slice none 0 0] 32):=⟨_,rfl⟩
 have I7:I.heap.size=w.heap.size+1:=by rw[F];simp
 have IH:J.heap.size=w.heap.size+1+1:=by rw[G];simp[I7]
 have ba:Below w.heap.size w I:=by rw[F];exact(Below.refl _ _).alloc (Nat.le_refl _) _
 have bb:Below I.heap.size I J:=by rw[G];exact(Below.refl _ _).alloc (Nat.le_refl _) _
 have bz:Below J.heap.size J T:=by rw[Q];exact(Below.refl _ _).alloc (Nat.le_refl _) _
 have I0:Below w.heap.size w T:=ag (ag ba bb) bz;have M:=hid (((show Cs I w.heap.size [.slice fa H.fos.length fc,.slice ga H.gs.length gc,.slice sa H.ss.length sc,.int .i64 H.nx,.int .i64 H.la,.int .i64 H.ro,.int .i64 H.now,.slice xa 1 xc,.slice ya 0 yc] by rw[F];exact Cs.new w [.slice fa H.fos.length fc,.slice ga H.gs.length gc,.slice sa H.ss.length sc,.int .i64 H.nx,.int .i64 H.la,.int .i64 H.ro,.int .i64 H.now,.slice xa 1 xc,.slice ya 0 yc] _).below bb).below bz);have HE:=hid ((show Cs J (w.heap.size+1) [.int .i64 2,.int .i64 0,.int .i64 0,.string ⟨#[]⟩,.string ⟨#[]⟩,.string ⟨#[]⟩,.int .i64 0,.int .i64 0,.string ⟨#[]⟩,.string ⟨#[]⟩,.string ⟨#[]⟩,.string ⟨#[]⟩,.string ⟨#[]⟩,.int .i64 0,.int .i64 0,.int .i64 0,.slice none 0 0] by rw[←I7,G];exact Cs.new I [.int .i64 2,.int .i64 0,.int .i64 0,.string ⟨#[]⟩,.string ⟨#[]⟩,.string ⟨#[]⟩,.int .i64 0,.int .i64 0,.string ⟨#[]⟩,.string ⟨#[]⟩,.string ⟨#[]⟩,.string ⟨#[]⟩,.string ⟨#[]⟩,.int .i64 0,.int .i64 0,.int .i64 0,.slice none 0 0] _).below bz);have HR:=hid (show Cs T (w.heap.size+1+1) [.slice none 0 0,.slice none 0 0,.slice none 0 0,.int .i64 0,.int .i64 0,.int .i64 0,.int .i64 0,.slice none 0 0,.slice none 0 0] by rw[←IH,Q];exact Cs.new J [.slice none 0 0,.slice none 0 0,.slice none 0 0,.int .i64 0,.int .i64 0,.int .i64 0,.int .i64 0,.slice none 0 0,.slice none 0 0] _);have Ix:=hid (show((w.alloc (.cells #[.slice fa H.fos.length fc,.slice ga H.gs.length gc,.slice sa H.ss.length sc,.int .i64 H.nx,.int .i64 H.la,.int .i64 H.ro,.int .i64 H.now,.slice xa 1 xc,.slice ya 0 yc] 32)).alloc (.cells #[.int .i64 2,.int .i64 0,.int .i64 0,.string ⟨#[]⟩,.string ⟨#[]⟩,.string ⟨#[]⟩,.int .i64 0,.int .i64 0,.string ⟨#[]⟩,.string ⟨#[]⟩,.string ⟨#[]⟩,.string ⟨#[]⟩,.string ⟨#[]⟩,.int .i64 0,.int .i64 0,.int .i64 0,.slice none 0 0] 74)).alloc (.cells #[.slice none 0 0,.slice none 0 0,.slice none 0 0,.int .i64 0,.int .i64 0,.int .i64 0,.int .i64 0,.slice none 0 0,.slice none 0 0] 32)=T by rw[Q,G,F]);have J5:w.heap.size+1+1<T.heap.size:=HR.out.lt;clear F G Q ba bb bz I7 IH;go_enter func18,ntmps18
 go_upto_region 1 with fail;rw[Ix.out];clear Ix;have p0:=M.out.cell 0 rfl;have p1:=M.out.cell 1 rfl;have p2:=M.out.cell 2 rfl;have p3:=M.out.cell 3 rfl;have p4:=M.out.cell 4 rfl;have p5:=M.out.cell 5 rfl;have p6:=M.out.cell 6 rfl;have p7:=M.out.cell 7 rfl;have p8:=M.out.cell 8 rfl;go_wp2_with fail;refine(pw td ⟨H,[aR],[]⟩ _ T (HV.out.below I0) HS.out (fun x hx=>by cases hx) (by omega) (Iw.out T I0)).mono ?_
 rintro e w1 ⟨hp,O⟩;have IA:=ag I0 O;clear p0 p1 p2 p3 p4 p5 p6 p7 p8;rcases hp with⟨h,_⟩|⟨_,rfl,fb,fd,gb,gd,sb,sd,xb,xd,yb,yd,hR,hO,hN⟩
 · exact absurd H0.out h
 have Iy:=hN V.out;simp only[List.length_nil,List.length_singleton,Value.slice.injEq,true_and]at hR hO Iy;obtain⟨rfl,rfl⟩:=Iy
 obtain⟨g,o,rfl,IU,IV,IE⟩:=hO.cl0
 obtain⟨pb,I6⟩: ∃x,x=T.heap.size+1:=⟨_,rfl⟩
 rw[←I6]at hR⊢;have Iz:ft (pb+1) w1 (.agg #[.slice fb H.fos.length fd,.slice gb H.gs.length gd,.slice sb H.ss.length sd,.int .i64 H.nx,.int .i64 H.la,.int .i64 H.ro,.int .i64 H.now,.slice (some ⟨g,o,none⟩) 1 xd,.slice none 0 0]) ⟨H,[aR],[]⟩:=by rw[I6];exact hO
 have J6:pb<g:=by omega
 have J8:w.heap.size+1+1<pb:=by omega
 have Iv:=hid hR;have I8:=hid Iz;have II:=hid IE;have U:=hid (HE.out.below O);have IT:=U.out.lt;have j0:=U.out.cell 0 rfl;clear hN hR hO Iz IE IU I6;go_wp2_with fail
 go_region_held3 (fun W=>W.cell? ⟨w.heap.size+1,0,none⟩=some (.int .i64 2)) (go_keep) (first
  |(go_at_call 47;refine(GP ⟨pb,0,none⟩ _).mono ?_;rintro e wa ⟨mb,rfl,hM,IS⟩;have A:Below w1.heap.size w1 wa:=((Below.refl _ _).drew).trans IS;have aZ:=(A.cell (p:=⟨w.heap.size+1,0,none⟩) IT).trans j0;have IW:=GW hM))
 have E:=ag IA A;have IQ:=hid (Iw.out wa E);have IR:5<wa.heap.size:=by have:=E.size;omega
 have f:=hid (U.out.below A);have I9:=hid (Iv.out.below A);have IJ:=hid (II.out.below IV A);have IF:g<wa.heap.size:=by have:=A.size;omega
 clear j0 aZ IW hM;have k0:=f.out.cell 0 rfl;have k1:=f.out.cell 1 rfl;have k2:=f.out.cell 2 rfl;have k3:=f.out.cell 3 rfl;have k4:=f.out.cell 4 rfl;have k5:=f.out.cell 5 rfl;have k6:=f.out.cell 6 rfl;have k7:=f.out.cell 7 rfl;have k8:=f.out.cell 8 rfl;have k9:=f.out.cell 9 rfl;have IY:=f.out.cell 10 rfl;have IZ:=f.out.cell 11 rfl;have J0:=f.out.cell 12 rfl;have J1:=f.out.cell 13 rfl;have J2:=f.out.cell 14 rfl;have J3:=f.out.cell 15 rfl;have J4:=f.out.cell 16 rfl;go_wp2_with fail;refine(GV pb g o xd _ _ _ _ _ _ _ wa I9.out IF (by omega) IJ.out IR IQ.out).mono ?_
 rintro e w2 ⟨rfl,I5,va,N,Z,Y⟩;clear k0 k1 k2 k3 k4 k5 k6 k7 k8 k9 IY IZ J0 J1 J2 J3 J4;obtain⟨yb,yd,rfl,_⟩:=id N
 simp only[List.length_singleton]at N Z Y;have IK:=hid N;have IP:=hid Z;have y:=hid Y;have J7:w.heap.size≤pb:=by omega
 have IB:Below w.heap.size w w2:=E.grown I5 (Nat.le_of_lt (by have:=E.size;omega)) (fun k hk=>by injection hk with hk;omega);have IM:=hid ((I8.out.below A).nbo I5 (by omega));have d:=hid (((HR.out.below O).below A).nb I5 (by omega));clear N Z Y Iv I9 I8;have y0:=y.out.cell 0 rfl;have y1:=y.out.cell 1 rfl;have al:=y.out.cell 2 rfl;have y3:=y.out.cell 3 rfl;have y4:=y.out.cell 4 rfl;have y5:=y.out.cell 5 rfl;have y6:=y.out.cell 6 rfl;have y7:=y.out.cell 7 rfl;have y8:=y.out.cell 8 rfl;have r0:=d.out.cell 0 rfl;have r1:=d.out.cell 1 rfl;have r2:=d.out.cell 2 rfl;have r3:=d.out.cell 3 rfl;have r4:=d.out.cell 4 rfl;have r5:=d.out.cell 5 rfl;have r6:=d.out.cell 6 rfl;have r7:=d.out.cell 7 rfl;have r8:=d.out.cell 8 rfl;have f0:=d.out.fr 0;have f1:=d.out.fr 1;have f2:=d.out.fr 2;have f3:=d.out.fr 3;have f4:=d.out.fr 4;have f5:=d.out.fr 5;have f6:=d.out.fr 6;have f7:=d.out.fr 7;have f8:=d.out.fr 8;obtain⟨w3,P⟩: ∃X,X=(((((((((w2.setCell ⟨(w.heap.size+1+1),0,none⟩ (.slice fb H.fos.length fd)).setCell ⟨(w.heap.size+1+1),1,none⟩ (.slice gb H.gs.length gd)).setCell ⟨(w.heap.size+1+1),2,none⟩ (.slice sb H.ss.length sd)).setCell ⟨(w.heap.size+1+1),3,none⟩ (.int .i64 H.nx)).setCell ⟨(w.heap.size+1+1),4,none⟩ (.int .i64 H.la)).setCell ⟨(w.heap.size+1+1),5,none⟩ (.int .i64 H.ro)).setCell ⟨(w.heap.size+1+1),6,none⟩ (.int .i64 H.now)).setCell ⟨(w.heap.size+1+1),7,none⟩ (.slice (some ⟨g,o,none⟩) 1 xd)).setCell ⟨(w.heap.size+1+1),8,none⟩ (.slice yb 1 yd)):=⟨_,rfl⟩
 have K:=mx d.out (.slice fb H.fos.length fd) (.slice gb H.gs.length gd) (.slice sb H.ss.length sd) (.int .i64 H.nx) (.int .i64 H.la) (.int .i64 H.ro) (.int .i64 H.now) (.slice (some ⟨g,o,none⟩) 1 xd) (.slice yb 1 yd);rw[←P]at K;have z:=hid K.1;have IN:=hid (IM.out.nbo K.2 (by omega))
 have IX: ∀b,(Value.slice yb 1 yd).ownBlock=some b→b≠w.heap.size+1+1:=fun b hb=>by
  have:=(IP.out b hb).1
  have:=E.size
  have:=A.size
  have:=O.size
  omega
 have IL:=hid (IK.out.nbo K.2 IX);have IC:=IB;have ID:Below w.heap.size w w3:=by rw[P];exact(((((((((IC.setCell (p:=⟨w.heap.size+1+1,0,none⟩) (by show w.heap.size≤w.heap.size+1+1;omega) _).setCell (p:=⟨w.heap.size+1+1,1,none⟩) (by show w.heap.size≤w.heap.size+1+1;omega) _).setCell (p:=⟨w.heap.size+1+1,2,none⟩) (by show w.heap.size≤w.heap.size+1+1;omega) _).setCell (p:=⟨w.heap.size+1+1,3,none⟩) (by show w.heap.size≤w.heap.size+1+1;omega) _).setCell (p:=⟨w.heap.size+1+1,4,none⟩) (by show w.heap.size≤w.heap.size+1+1;omega) _).setCell (p:=⟨w.heap.size+1+1,5,none⟩) (by show w.heap.size≤w.heap.size+1+1;omega) _).setCell (p:=⟨w.heap.size+1+1,6,none⟩) (by show w.heap.size≤w.heap.size+1+1;omega) _).setCell (p:=⟨w.heap.size+1+1,7,none⟩) (by show w.heap.size≤w.heap.size+1+1;omega) _).setCell (p:=⟨w.heap.size+1+1,8,none⟩) (by show w.heap.size≤w.heap.size+1+1;omega) _)
 go_wp2_with fail;rw[←P];clear P K y0 y1 al y3 y4 y5 y6 y7 y8 r0 r1 r2 r3 r4 r5 r6 r7 r8 f0 f1 f2 f3 f4 f5 f6 f7 f8;have z0:=z.out.cell 0 rfl;have z1:=z.out.cell 1 rfl;have z2:=z.out.cell 2 rfl;have z3:=z.out.cell 3 rfl;have z4:=z.out.cell 4 rfl;have z5:=z.out.cell 5 rfl;have z6:=z.out.cell 6 rfl;have z7:=z.out.cell 7 rfl;have z8:=z.out.cell 8 rfl;refine bodyPost_ret (v:= .tuple #[.agg #[.slice fb H.fos.length fd,.slice gb H.gs.length gd,.slice sb H.ss.length sd,.int .i64 H.nx,.int .i64 H.la,.int .i64 H.ro,.int .i64 H.now,.slice (some ⟨g,o,none⟩) 1 xd,.slice yb 1 yd],.int .i64 0]) (by simp[results,results18,go_sem,z0,z1,z2,z3,z4,z5,z6,z7,z8]) rfl ⟨_,rfl,?_,ID⟩
 obtain⟨vf,vg,ai,vc,vl,e,⟨h1,h2,h3⟩,h4,h5⟩:=IN.out.lies
 simp only[Value.agg.injEq]at e;have g0:=congrArg (fun a=>a.getD 0 .nilFunc) e;have g1:=congrArg (fun a=>a.getD 1 .nilFunc) e;have g2:=congrArg (fun a=>a.getD 2 .nilFunc) e;have g7:=congrArg (fun a=>a.getD 7 .nilFunc) e;simp at g0 g1 g2 g7
 subst g0 g1 g2 g7;exact⟨_,_,_,_,_,rfl,⟨h1,h2,h3⟩,h4,kX.2 IL.out⟩
theorem GY (H:Hb) (c:Cn) (b:Nat) (fa Y sa:Option Addr) (fc Z sc:Nat) (p7 p8 v:Value) (w:World) (hC:Cs w b [.slice fa H.fos.length fc,.slice Y H.gs.length Z,.slice sa H.ss.length sc,.int .i64 H.nx,.int .i64 H.la,.int .i64 H.ro,.int .i64 H.now,p7,p8]) (hH:dC w (.agg #[.slice fa H.fos.length fc,.slice Y H.gs.length Z,.slice sa H.ss.length sc,.int .i64 H.nx,.int .i64 H.la,.int .i64 H.ro,.int .i64 H.now]) H) (hg:cD w (.slice Y H.gs.length Z) H.gs) (hc:fU w v c) (hs:kd H) (I9:iO c) (hT:da (fu H c.fo)):
    Calls prog 10 #[.pointer (some ⟨b,0,none⟩),v] w fun e w'=>e= .returned (.bool (cV H c))∧Below w.heap.size w w':=by
 obtain⟨vb,vm,va,rfl,l1,l2,l3⟩:=hc
 have Iw:=hid l1;have Ix:=hid l2;have HS:=hid hs;have I:=hid I9;have HT:=hid hT;obtain⟨ea,ec,rfl,_⟩:=l1
 obtain⟨na,nc,rfl,_⟩:=l2
 obtain⟨qa,qc,rfl,_⟩:=l3
 obtain⟨P,K⟩: ∃P,P=w.alloc (.cells #[.string c.who,.string c.fo,.slice ea c.base.length ec,.int .i64 c.cur,.slice na c.mine.length nc,.string c.key,.slice qa c.ask.length qc,.int .i64 c.keys] 47):=⟨_,rfl⟩
 have F:Below w.heap.size w P:=by rw[K];exact(Below.refl _ _).alloc (Nat.le_refl _) _
 have T:=hid (show Cs P w.heap.size [.string c.who,.string c.fo,.slice ea c.base.length ec,.int .i64 c.cur,.slice na c.mine.length nc,.string c.key,.slice qa c.ask.length qc,.int .i64 c.keys] by rw[K];exact Cs.new w [.string c.who,.string c.fo,.slice ea c.base.length ec,.int .i64 c.cur,.slice na c.mine.length nc,.string c.key,.slice qa c.ask.length qc,.int .i64 c.keys] _);have HC:=hid (hC.below F);have HH:=hid (hH.below F);have HG:=hid (hg.below F);have O:=T.out.lt;have I8:=HC.out.lt;have x0:=T.out.cell 0 rfl;have x1:=T.out.cell 1 rfl;have c1:=HC.out.cell 1 rfl;have S:=hid K.symm;obtain⟨R,hR⟩: ∃R,R=kh H.gs c.fo c.who:=⟨_,rfl⟩
 obtain⟨A,hA⟩: ∃A,A=Sp.sameB c.base (fu H c.fo):=⟨_,rfl⟩
 obtain⟨M,hM⟩: ∃M,M=Sp.sameB c.mine (fu H c.fo):=⟨_,rfl⟩
 have HE:=hid (show cV H c=((R==0)||(A && M && (c.ask.length==0))) by rw[cV,←hR,←hA,←hM]);have HR:=hid hR.symm;have HA:=hid hA.symm;have HM:=hid hM.symm;clear K hC hH hg hs I9 hR hA hM hT;go_enter func10,ntmps10
 go_upto_region 1 with fail;rw[S.out];clear S;go_wp2_with fail
 go_region_held3 (fun W=>W.cell? ⟨w.heap.size,0,none⟩=some (.string c.who)∧W.cell? ⟨w.heap.size,1,none⟩=some (.string c.fo)∧W.cell? ⟨b,1,none⟩=some (.slice Y H.gs.length Z)) (go_keep) (first
  |(go_at_call 27;refine(Dr H.gs _ c.fo c.who _ (HG.out.below (Below.refl _ _).drew) HS.out.gs I.out.fo I.out.who).mono ?_;rintro e wa ⟨rfl,I5⟩;rw[HR.out];have f:Below P.heap.size P wa:=((Below.refl _ _).drew).trans I5;have j0:=(f.cell (p:=⟨w.heap.size,0,none⟩) O).trans x0;have j1:=(f.cell (p:=⟨w.heap.size,1,none⟩) O).trans x1;have j2:=(f.cell (p:=⟨b,1,none⟩) I8).trans c1))
 clear x0 x1 c1 j0 j1 j2 I5;by_cases h0:R=0
 · have E:=hid (show true=cV H c by rw[HE.out,h0];rfl)
   have I0:=ag F f;subst h0;go_wp2_with fail;go_ret;exact⟨bt E.out,I0⟩
 · have Iz:(R==0)=false:=by simpa using h0
   have N:=hid (show cV H c=(A && M && (c.ask.length==0)) by rw[HE.out,Iz];rfl);have U:=hid (T.out.below f);have z:=hid (HC.out.below f);have Iv:=U.out.lt;have d:=z.out.lt;have x1:=U.out.cell 1 rfl;have br:=z.out.cell 0 rfl;have q1:=z.out.cell 1 rfl;have bZ:=z.out.cell 2 rfl;have q3:=z.out.cell 3 rfl;have q4:=z.out.cell 4 rfl;have q5:=z.out.cell 5 rfl;have q6:=z.out.cell 6 rfl;clear h0 O I8;go_wp2_with fail
   go_region_held3 (fun W=>W.cell? ⟨w.heap.size,1,none⟩=some (.string c.fo)∧W.cell? ⟨b,0,none⟩=some (.slice fa H.fos.length fc)∧W.cell? ⟨b,1,none⟩=some (.slice Y H.gs.length Z)∧W.cell? ⟨b,2,none⟩=some (.slice sa H.ss.length sc)∧W.cell? ⟨b,3,none⟩=some (.int .i64 H.nx)∧W.cell? ⟨b,4,none⟩=some (.int .i64 H.la)∧W.cell? ⟨b,5,none⟩=some (.int .i64 H.ro)∧W.cell? ⟨b,6,none⟩=some (.int .i64 H.now)) (go_keep) (first
    |(go_at_call 28;refine(Fq H _ c.fo _ (HH.out.below (by first|exact f|exact f.drew)) HS.out I.out.fo).mono ?_;rintro e wb ⟨u,rfl,IA,I6⟩;have y:Below wa.heap.size wa wb:=(by first|exact I6|exact((Below.refl _ _).drew).trans I6);have j1:=(y.cell (p:=⟨w.heap.size,1,none⟩) Iv).trans x1;have r0:=(y.cell (p:=⟨b,0,none⟩) d).trans br;have r1:=(y.cell (p:=⟨b,1,none⟩) d).trans q1;have r2:=(y.cell (p:=⟨b,2,none⟩) d).trans bZ;have r3:=(y.cell (p:=⟨b,3,none⟩) d).trans q3;have r4:=(y.cell (p:=⟨b,4,none⟩) d).trans q4;have r5:=(y.cell (p:=⟨b,5,none⟩) d).trans q5;have r6:=(y.cell (p:=⟨b,6,none⟩) d).trans q6))
   clear x1 j1 br q1 bZ q3 q4 q5 q6 r0 r1 r2 r3 r4 r5 r6;have G:=ag f y;have Q:=hid IA;have V:=hid (T.out.below G);have aY:=V.out.cell 2 rfl;go_wp2_with fail;refine(vx c.base (fu H c.fo) _ u wb (Iw.out.below (ag F G)) Q.out I.out.base HT.out).mono ?_
   rintro e wc ⟨rfl,hbc⟩;rw[HA.out];have X:=hid (V.out.below hbc);clear aY;have x4:=X.out.cell 4 rfl;go_wp2_with fail;refine(vx c.mine (fu H c.fo) _ u wc (Ix.out.below (ag F (ag G hbc))) (Q.out.below hbc) I.out.mine HT.out).mono ?_
   rintro e wd ⟨rfl,I7⟩;rw[HM.out];have Iy:=hid (X.out.below I7);clear x4;have x6:=Iy.out.cell 6 rfl;have J:=ag F (ag G (ag hbc I7));cases A with
   |false=>
    have E:=hid (show false=cV H c by rw[N.out];rfl);go_wp2_with fail;go_ret;exact⟨bt E.out,J⟩
   |true=>
    cases M with
    |false=>
     have E:=hid (show false=cV H c by rw[N.out];rfl);go_wp2_with fail;go_ret;exact⟨bt E.out,J⟩
    |true=>
     have E:=hid (show((c.ask.length:Int)==0)=cV H c by
      rw[N.out];cases c.ask.length with
      |zero=>rfl
      |succ n=>simp;omega)
     go_wp2_with fail;go_ret;exact⟨bt E.out,J⟩
def Wo.stB (td:ByteArray→Int) (W:Wd):Bool:=decide (bY td W=0) && W.cls.all (cV W.hb)
theorem GZ {H:Hb} (h:ae H=0) (x:ByteArray):da (fu H x):=by
 cases d:bT H.gs x with
 |true=>
  obtain⟨_,_,f,z⟩:=yK h d
  rw[z];exact q9 (qM f)
 |false=>
  have e:gI H x=5:=by rw[gI,if_neg (fun y=>y h),d,if_neg (by decide)]
  rw[fu,e,if_neg (by decide)];intro e A;cases A
theorem tl {d:ByteArray→Int} {W:Wd} (h:bY d W=0):ae W.hb=0:=by
 rw[bY]at h;by_cases x:ae W.hb=0
 · exact x
 · rw[if_pos x]at h;exact absurd h x
theorem zd (O:ByteArray→Int) (W:Wd) (v:Value) (w:World) (hv:eI w v W) (hs:iA W) (I5: ∀x∈W.les,x.ans=true→mT O) (h6:5<w.heap.size) (I6:aX w):
    Calls prog 4 #[v] w fun e w'=>e= .returned (.tuple #[.bool (Wo.stB O W),.int .i64 (bY O W)])∧Below w.heap.size w w':=by
 obtain⟨H,l,m⟩:=W
 have HV:=hid hv;have HS:=hid hs;have IB:=hid I5;have IC:=hid (fun X (hW:Below w.heap.size w X)=>I6.belowB h6 hW);obtain⟨vf,vg,ai,vc,vl,rfl,⟨lf,lg,aT⟩,lc,ll⟩:=hv
 simp only at lf lg aT lc ll HV⊢;obtain⟨fa,fc,rfl,_⟩:=lf
 obtain⟨ga,gc,rfl,_⟩:=lg
 obtain⟨sa,sc,rfl,_⟩:=aT
 obtain⟨xa,xc,rfl⟩:=lc.shape
 obtain⟨ya,yc,rfl⟩:=ll.shape
 obtain⟨E,ae⟩: ∃E,E=bY O ⟨H,l,m⟩:=⟨_,rfl⟩
 obtain⟨Q,hQ⟩: ∃Q,Q=Wo.stB O ⟨H,l,m⟩:=⟨_,rfl⟩
 have HQ:=hid (show Q=(decide (E=0) && l.all (cV H)) by rw[hQ,Wo.stB,←ae]);have HE:=hid ae;rw[←ae,←hQ];clear lc ll hs I5 I6 ae hQ;obtain⟨P,I⟩: ∃X,X=w.alloc (.cells #[.slice fa H.fos.length fc,.slice ga H.gs.length gc,.slice sa H.ss.length sc,.int .i64 H.nx,.int .i64 H.la,.int .i64 H.ro,.int .i64 H.now,.slice xa l.length xc,.slice ya m.length yc] 32):=⟨_,rfl⟩
 have M:Below w.heap.size w P:=by rw[I];exact(Below.refl _ _).alloc (Nat.le_refl _) _
 have A:=hid (show Cs P w.heap.size [.slice fa H.fos.length fc,.slice ga H.gs.length gc,.slice sa H.ss.length sc,.int .i64 H.nx,.int .i64 H.la,.int .i64 H.ro,.int .i64 H.now,.slice xa l.length xc,.slice ya m.length yc] by rw[I];exact Cs.new w [.slice fa H.fos.length fc,.slice ga H.gs.length gc,.slice sa H.ss.length sc,.int .i64 H.nx,.int .i64 H.la,.int .i64 H.ro,.int .i64 H.now,.slice xa l.length xc,.slice ya m.length yc] _);have U:=hid I.symm;have IH:w.heap.size<P.heap.size:=A.out.lt;clear I;have p0:=A.out.cell 0 rfl;have p1:=A.out.cell 1 rfl;have p2:=A.out.cell 2 rfl;have p3:=A.out.cell 3 rfl;have p4:=A.out.cell 4 rfl;have p5:=A.out.cell 5 rfl;have p6:=A.out.cell 6 rfl;have p7:=A.out.cell 7 rfl;have p8:=A.out.cell 8 rfl;go_enter func4,ntmps4
 go_upto_region 1 with fail;rw[U.out];clear U;go_wp2_with fail;refine(pw O ⟨H,l,m⟩ _ P (HV.out.below M) HS.out IB.out (by omega) (IC.out P M)).mono ?_
 rintro e w1 ⟨hp,ID⟩;have y:=ag M ID;clear p0 p1 p2 p3 p4 p5 p6 p7 p8;rcases hp with⟨h,rfl⟩|⟨h,rfl,fb,fd,gb,gd,sb,sd,xb,xd,yb,yd,hR,hO,_⟩
 · rw[←HE.out]at h⊢
   have hz:(E==0)=false:=by simpa using h
   have f:=hid (show Q=false by rw[HQ.out,decide_eq_false h];rfl);clear h;go_wp2_with fail;go_ret2;exact⟨by(rw[f.out])<;>rfl,y⟩
 · have I8:=hid (tl h)
   rw[←HE.out]at h;subst h;have T:=hid (show Q=l.all (cV H) by rw[HQ.out];rfl);simp only at hR hO;obtain⟨pb,I0⟩: ∃x,x=P.heap.size+1:=⟨_,rfl⟩
   rw[←I0]at hR⊢;clear I0;have HR:=hid hR;obtain⟨vf,vg,ai,vc,vl,e,⟨h1,h2,h3⟩,h4,h5⟩:=hO.lies
   simp only[Value.agg.injEq]at e;have g0:=congrArg (fun a=>a.getD 0 .nilFunc) e;have g1:=congrArg (fun a=>a.getD 1 .nilFunc) e;have g2:=congrArg (fun a=>a.getD 2 .nilFunc) e;have g7:=congrArg (fun a=>a.getD 7 .nilFunc) e;simp at g0 g1 g2 g7
   subst g0 g1 g2 g7;have Iw:=hid (show dC w1 (.agg #[.slice fb H.fos.length fd,.slice gb H.gs.length gd,.slice sb H.ss.length sd,.int .i64 H.nx,.int .i64 H.la,.int .i64 H.ro,.int .i64 H.now]) H from⟨_,_,_,rfl,h1,h2,h3⟩);have Iv:=hid h2;have IG:l.length≤1000000000000000:=by obtain⟨_,_,_,_,h,_⟩:=h4;exact h
   have Ix:=hid (show∀i (h:i<l.length),∃b o,xb=some ⟨b,o,none⟩∧b<w1.heap.size∧f9 w1 b (o+i*8) l[i]from by
    obtain⟨a,c,e,_,_,h⟩:=h4
    injection e with e1 aE e3
    subst e1;exact h)
   have q7:=HR.out.cell 7 rfl;clear hR hO e h1 h2 h3 h4 h5;go_wp2_with fail;go_loopw [22] (fun i wr=> ∃k:Nat,k≤l.length∧i= .int .i64 k∧Hid (∀j (h:j<l.length),j<k→cV H l[j]=true)∧Below w1.heap.size w1 wr) (fun i _=>l.length-(intOf i).toNat)
   case atStart=>exact⟨0,Nat.zero_le _,rfl,(fun j _ h=>absurd h (Nat.not_lt_zero _): ∀j (h:j<l.length),j<0→cV H l[j]=true),Below.refl _ _⟩
   case round=>
    obtain⟨k,hk,rfl,S,z⟩:=hrel
    have Y:=ag y z;clear q7;by_cases N:k<l.length
    · have IF:(k:Int)<l.length:=by omega
      obtain⟨b,o,rfl,hb,he⟩:=Ix.out k N
      obtain⟨vb,vm,va,c0,c1,c2,c3,c4,c5,c6,c7,l1,l2,l3⟩:=he.below hb z
      have Iy:=hid (show fU wr (.agg #[.string l[k].who,.string l[k].fo,vb,.int .i64 l[k].cur,vm,.string l[k].key,va,.int .i64 l[k].keys]) l[k]from⟨vb,vm,va,rfl,l1,l2,l3⟩);obtain⟨ea,ec,rfl,_⟩:=l1
      obtain⟨na,nc,rfl,_⟩:=l2
      obtain⟨qa,qc,rfl,_⟩:=l3
      obtain⟨w2,G⟩: ∃X,X=wr.alloc (.cells #[.string l[k].who,.string l[k].fo,.slice ea l[k].base.length ec,.int .i64 l[k].cur,.slice na l[k].mine.length nc,.string l[k].key,.slice qa l[k].ask.length qc,.int .i64 l[k].keys] 47):=⟨_,rfl⟩
      have Z:Below wr.heap.size wr w2:=by rw[G];exact(Below.refl _ _).alloc (Nat.le_refl _) _
      have J:=hid (show Cs w2 wr.heap.size [.string l[k].who,.string l[k].fo,.slice ea l[k].base.length ec,.int .i64 l[k].cur,.slice na l[k].mine.length nc,.string l[k].key,.slice qa l[k].ask.length qc,.int .i64 l[k].keys] by rw[G];exact Cs.new wr [.string l[k].who,.string l[k].fo,.slice ea l[k].base.length ec,.int .i64 l[k].cur,.slice na l[k].mine.length nc,.string l[k].key,.slice qa l[k].ask.length qc,.int .i64 l[k].keys] _);have d:=ag z Z;have IA:=hid (HR.out.below d);have I9:=hid (Iw.out.below d);have I7:=hid (Iv.out.below d);clear he;go_upto_region 7 with fail;try simp only[World.setCell_alloc_new]
      rw[←G];clear G c0 c1 c2 c3 c4 c5 c6 c7;have d0:=J.out.cell 0 rfl;have d1:=J.out.cell 1 rfl;have d2:=J.out.cell 2 rfl;have d3:=J.out.cell 3 rfl;have d4:=J.out.cell 4 rfl;have d5:=J.out.cell 5 rfl;have d6:=J.out.cell 6 rfl;have d7:=J.out.cell 7 rfl;go_wp2_with fail;refine(GY H l[k] pb fb gb sb fd gd sd _ _ _ w2 IA.out I9.out I7.out (Iy.out.below Z) HS.out.hb (HS.out.cls _ (List.getElem_mem N)) (GZ I8.out _)).mono ?_
      rintro e w3 ⟨rfl,IE⟩;have K:=ag d IE;have V:=ag y K;clear d0 d1 d2 d3 d4 d5 d6 d7;cases F:cV H l[k]with
      |true=>
       have Iz:=hid (show∀j (h:j<l.length),j<k+1→cV H l[j]=true from fun j h hj=>by
        by_cases e:j=k
        · subst e;exact F
        · exact S.out j h (by omega))
       clear F S;go_wp2_with fail;go_roundw
       case rel=>exact⟨k+1,by omega,by simp,Iz,K⟩
       case measure=>simp[intOf];omega
      |false=>
       have f:=hid (show Q=false by
        rw[T.out,List.all_eq_false];exact⟨l[k],List.getElem_mem N,by simp[F]⟩)
       clear F S;go_wp2_with fail;go_ret2;exact⟨by(rw[f.out])<;>rfl,V⟩
    · have IF: ¬(k:Int)<l.length:=by omega
      have f:=hid (show Q=true by
       rw[T.out,List.all_eq_true];intro c hc;obtain⟨i,hi,rfl⟩:=List.getElem_of_mem hc
       exact S.out i hi (by omega))
      clear S;go_wp2_with fail;go_ret2;exact⟨by(rw[f.out])<;>rfl,Y⟩
theorem G0:kh [] ⟨#[102]⟩ ⟨#[97]⟩=0:=by decide+kernel
theorem G1 (y:ByteArray→Int) (H:Hb) (d:H.gs=[]) (v:Value) (w:World) (G:eI w v ⟨H,[aR],[fg]⟩) (F:iA ⟨H,[aR],[fg]⟩) (z:bY y ⟨H,[aR],[fg]⟩=0) (E:5<w.heap.size) (f:aX w):
    Calls prog 4 #[v] w fun e w'=>e= .returned (.tuple #[.bool true,.int .i64 0])∧Below w.heap.size w w':=by
 refine(zd y ⟨H,[aR],[fg]⟩ v w G F (fun x A=>by simp only[List.mem_singleton]at A;subst A;intro h;cases h) E f).mono ?_
 rintro e w' ⟨rfl,hb⟩
 have h:Wo.stB y ⟨H,[aR],[fg]⟩=true:=by
  rw[Wo.stB,decide_eq_true z];simp only[List.all_cons,List.all_nil,cV,d];rw[show kh [] aR.fo aR.who=0 from G0];rfl
 rw[h,z];exact⟨rfl,hb⟩
theorem Tryz.cellsCo:prog.cellsOf 110=3:=by kernel_rfl
theorem Tryz.cellsSC:prog.cellsOf 45=1:=by kernel_rfl
theorem Tryz.cellsSO:prog.cellsOf 53=1:=by kernel_rfl
theorem Tryz.cellsSE:prog.cellsOf 44=1:=by kernel_rfl
theorem ze {d:Type} {l:List d} (h:l.length=3): ∃a b c,l=[a,b,c]:=by
 rcases l with _|⟨a,_|⟨b,_|⟨c,_|⟨f,r⟩⟩⟩⟩
 all_goals first|exact⟨a,b,c,rfl⟩|(simp at h)
theorem G2 {H:Type} {enc:TypeId×Value→H} {P:Program} {w:World} {base:Nat} {d:Nat→Bool} {f:Bool} {t:TypeId} {y z A:Field} {fuel:Nat} {cs:List Value} {x:DataW H×List MemPlace} (K:P.underlying t=some (.struct #[y,z,A])) (h:DataW.trod enc P w base d f fuel t cs=some x):
    ∃F G al n,x=(.agg [F.1,G.1,al.1],F.2++(G.2++al.2))∧cs.length=P.cellsOf t∧DataW.trod enc P w base d f n y.type ((cs.drop y.offset).take (P.cellsOf y.type))=some F∧
     DataW.trod enc P w base d f n z.type ((cs.drop z.offset).take (P.cellsOf z.type))=some G∧DataW.trod enc P w base d f n A.type ((cs.drop A.offset).take (P.cellsOf A.type))=some al:=by
 obtain⟨xs,n,_,rfl,J,E,I⟩:=DataW.trod_struct K h
 match xs,E with
 |[F,G,al],_=>exact⟨F,G,al,n,by simp,J,by simpa using I 0 y rfl,by simpa using I 1 z rfl,by simpa using I 2 A rfl⟩
theorem zf {H:Type} (a b c:DataW H):Rows.uptoBulk (.agg [a,b,c])=1+(Rows.uptoBulk a+(Rows.uptoBulk b+Rows.uptoBulk c)):=by
 rw[Rows.uptoBulk,Rows.uptoBulkAll,Rows.uptoBulkAll,Rows.uptoBulkAll,Rows.uptoBulkAll];omega
theorem G3 {B:Nat} (hB:B≤1000000000) {H:Type} {enc:TypeId×Value→H} {W:World} {n i:Nat} {a:Addr} {x:DataW H} {pl:List MemPlace} {z:List Value} (ha:a.spot=none)
    (U:W.cells? 0 (a.add (i*prog.cellsOf 110)) (prog.cellsOf 110)=some z) (h2:DataW.trod enc prog W 0 (fun _=>true) true n 110 z=some (x,pl)) (J:Rows.uptoBulk x≤B):
    ∃c:Co,(1≤Rows.uptoBulk x∧c.ke.size≤B∧lo B c.ch)∧a.spot=none∧iQ W a.block (a.off+i*3) c:=by
 rw[Tryz.cellsCo]at U;obtain⟨_,A,I⟩:=World.cells?_some U
 obtain⟨y0,y1,al,M,y,_,bV,t1,t2⟩:=G2 underlying110 h2
 obtain⟨Q,S,T,rfl⟩:=ze A
 have N:DataW.trod enc prog W 0 (fun _=>true) true M 3 [Q]=some y0:=by simpa[Tryz.cells3]using bV
 have O:DataW.trod enc prog W 0 (fun _=>true) true M 9 [S]=some y1:=by simpa[Tryz.cells9]using t1
 have P:DataW.trod enc prog W 0 (fun _=>true) true M 45 [T]=some al:=by simpa[Tryz.cellsSC]using t2
 obtain⟨Z,aL,g0,_⟩:=DataW.trod_int underlying3 N
 obtain⟨E,e1,g1,_⟩:=DataW.trod_string underlying9 O
 obtain rfl:Q= .int .i64 Z:=by simpa using aL
 obtain rfl:S= .string E:=by simpa using e1
 subst g0;subst g1;obtain⟨d2,p2⟩:=al
 simp only[Prod.mk.injEq]at y;have I0:=J;rw[y.1,zf]at J
 have G:Rows.uptoBulk (.lit (.string E.data.toList):DataW H)=E.size+1:=by
  rw[Rows.uptoBulk,Lib.size_eq]
 rw[G]at J;obtain⟨l,hl,_,K⟩:=yX (B:=B) hB P (by omega)
 have V:=I 0 (by omega);have X:=I 1 (by omega);have Y:=I 2 (by omega);obtain⟨ab,ao,F⟩:=a
 obtain rfl:F=none:=ha;refine⟨⟨Z,E,l⟩,⟨by rw[y.1,zf];omega,by show E.size≤B;omega,K⟩,rfl,?_,?_,T,?_,hl⟩
 · by_cases d:i=0
   · subst d;simpa[Addr.add]using V
   · have f:i*3≠0:=by omega
     simpa[Addr.add,f]using V
 · by_cases d:i=0
   · subst d;simpa[Addr.add]using X
   · have f:i*3≠0:=by omega
     simpa[Addr.add,f,Nat.add_assoc]using X
 · by_cases d:i=0
   · subst d;simpa[Addr.add]using Y
   · have f:i*3≠0:=by omega
     simpa[Addr.add,f,Nat.add_assoc]using Y
theorem G4 {B:Nat} (hB:B≤1000000000) {H:Type} {enc:TypeId×Value→H} {W:World} {v:Value} {d:DataW H} {p:List MemPlace} {fuel:Nat} (hf:DataW.trod enc prog W 0 (fun _=>true) true fuel 53 [v]=some (d,p)) (hk:Rows.uptoBulk d≤B):
    ∃l:List Co,eG W v l∧l.length≤B∧eO B l:=by
 haveI:Inhabited Co:=⟨⟨0,⟨#[]⟩,[]⟩⟩
 rcases Go.Deep.open_slice underlying53 hf with⟨f,X⟩|⟨a,len,z,m,n,D,Pl,f,hb,hl,hm,J,X,G⟩
 · obtain rfl:v= .slice none 0 0:=by simpa using f
   exact⟨[],A8 _,by simp,fun e P=>by cases P⟩
 obtain rfl:v= .slice (some a) len z:=by simpa using f
 have U:m=z:=J.trans (if_pos rfl);clear J;have O:=(Prod.mk.inj X).1;clear X;subst U
 have N:Rows.uptoBulkAll ((List.range len).map D)≤B:=by
  rw[O,Rows.uptoBulk]at hk;omega
 have V:0<len→a.spot=none:=fun h=>by
  obtain⟨K,F,_⟩:=G 0 (by omega)
  rw[Tryz.cellsCo]at F;obtain⟨_,I,hc⟩:=World.cells?_some F
  obtain⟨Z,c1,c2,rfl⟩:=ze I
  have k0:=hc 0 (by omega);exact mj (v:=Z) (by simpa[Addr.add]using k0)
 have A: ∀i,i<len→ ∃e:Co,(1≤Rows.uptoBulk (D i)∧e.ke.size≤B∧lo B e.ch)∧a.spot=none∧iQ W a.block (a.off+i*3) e:=fun i y=>by
  obtain⟨K,F,M⟩:=G i (by omega)
  exact G3 hB (V (by omega)) F M (Nat.le_trans (Bk.mem (List.mem_map.2 ⟨i,List.mem_range.2 y,rfl⟩)) N)
 obtain⟨E,ae⟩:=Go.Deep.choose_lt A
 have S:=Bk.len (l:=(List.range len).map D) (fun d O=>by
  obtain⟨i,y,rfl⟩:=List.mem_map.1 O
  exact(ae i (List.mem_range.1 y)).1.1)
 simp only[List.length_map,List.length_range]at S;refine⟨(List.range len).map E,⟨some a,_,by simp;rfl,by simpa using hl,by simp;omega,fun i y=>?_⟩,by simp;omega,fun e P=>?_⟩
 · have Q:i<len:=by simpa using y
   obtain⟨F,M,Y⟩:=ae i Q
   have T:a.block<W.heap.size:=by
    have k:=Y.1;rcases Nat.lt_or_ge a.block W.heap.size with h|h
    · exact h
    · unfold World.cell? at k;rw[Array.getElem?_eq_none h]at k;cases k
   refine⟨a.block,a.off,?_,T,by simpa using Y⟩
   rw[←M]
 · obtain⟨i,y,rfl⟩:=List.mem_map.1 P
   exact(ae i (List.mem_range.1 y)).1.2
end Go.Proofs.YtcmlnelpcjfocaaGreatDoor
