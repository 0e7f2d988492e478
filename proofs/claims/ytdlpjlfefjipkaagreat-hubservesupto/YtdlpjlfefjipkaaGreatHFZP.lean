/- What the server's number answers to requests that open an upload, or append to one. -/
import Derived.Test.YtdlpjlfefjipkaaGreatHFZL
set_option linter.unusedSimpArgs false
set_option linter.unusedVariables false
namespace Go.Proofs.YtdlpjlfefjipkaaGreat
open Go.RowKit Go.ChangeShapes Go.WideShapes Go.ChangeAt Go.Proofs.Tryz
set_option maxHeartbeats 8000000
set_option maxRecDepth 100000
structure Dc (p:Prop):Prop where out:p
theorem rf {p q:Prop} (h:Dc p→q) (a:p):q:=h ⟨a⟩
structure Ur where
 e:Int
 ss:List Se
 nx:Int
 la:Int
 ro:Int
 num:Int
def kF (W:World) (f:Nat) (args:Array Value) (U:Ur):Prop:=Calls prog f args W fun z w'=> ∃u,z= .returned (.tuple #[.agg #[u,.int .i64 U.nx,.int .i64 U.la,.int .i64 U.ro],.int .i64 U.num,.int .i64 U.e])∧aK w' u U.ss∧Below W.heap.size W w'
theorem Dd (H:Hb) (q:Rq) (vq vf:Value) (g T:Nat) (w:World) (U:Ur) (C:bU w g T H) (hq:bH w vq q) (hk:q.kind=4) (G: ∀(W:World) (v:Value),aK W v H.ss→kF W 79 #[.agg #[v,H.nx,H.la,H.ro],q.who,q.num,H.now] U):
    Calls prog 42 #[.pointer (some ⟨g,0,none⟩),vq] w fun z w'=>z= .returned (.tuple #[U.num,U.e])∧bU w' g T (gy H U.e U.ss U.nx U.la U.ro)∧aZ w w' g (bo vf g):=by
 have N:=hid G;clear G;obtain⟨va,rfl,lq⟩:=hq
 have E0:=hid lq;obtain⟨qa,qc,rfl,_⟩:=lq
 obtain⟨kind,who,fo,name,key,text,num,off,base,ch⟩:=q
 simp only at*;obtain⟨s,x⟩: ∃s,s=w.alloc (.cells #[kind,who,fo,name,key,text,num,off,base,.slice qa ch.length qc] 31):=⟨_,rfl⟩
 have u:Below w.heap.size w s:=by rw[x];exact ak
 have d:Hid (Cs s w.heap.size [kind,who,fo,name,key,text,num,off,base,.slice qa ch.length qc]):=(by rw[x];exact Cs.new w [kind,who,fo,name,key,text,num,off,base,.slice qa ch.length qc] _:Cs s w.heap.size _)
 subst hk;obtain⟨fa,fc,ga,gc,sa,sc,Q,hF,hG,hS⟩:=C.shape
 have j:=hid (Q.below u);have J:=hid (hS.below u);have P:=hid (C.below u);have E1:g<w.heap.size:=Q.lt;have E2:=j.out.lt;have E3:=d.out.lt;clear C Q hF hG hS;have x0:=d.out.cell 0 rfl;have x1:=d.out.cell 1 rfl;have x6:=d.out.cell 6 rfl;go_enter func42,ntmps42
 go_upto_region 1 with fail;rw[←x];clear x;go_wp2_with fail;clear x0;refine wp_region_held_drew (S:=fun W=>W.cell? ⟨w.heap.size,1,none⟩=some (.string who)∧W.cell? ⟨w.heap.size,6,none⟩=some (.int .i64 num)) (by kernel_rfl) ⟨by simpa using x1,by simpa using x6⟩ (fun a=>?_)
 change wpAnyH _ _ _ _ _ 24 #[false,false,false,false,false,false,false,false,false,false,false,false,false,false,false,false,false,false,false,false,false,false,false,false] _ _
 have c:Below s.heap.size s s.drew:= aw.drew;generalize s.drew=c0 at a c⊢;refine tk 0 ⟨some 29,Op.move (Operand.tmp 0),_,_,_,none⟩ a ?_
 try simp only[pu]
 refine tk 1 ⟨some 30,Op.move (Operand.tmp 0),_,_,_,none⟩ a ?_
 try simp only[pu]
 refine tk 2 ⟨some 31,Op.nilCheck (Operand.tmp 30),_,_,_,none⟩ a ?_
 try simp only[pu]
 refine tk 3 ⟨some 32,Op.fieldAddr 54 (Operand.tmp 31) 0,_,_,_,none⟩ a ?_
 try simp only[pu]
 refine tk 4 ⟨some 33,Op.fieldAddr 28 (Operand.tmp 32) 2,_,_,_,none⟩ a ?_
 try simp only[pu]
 refine tk 6 ⟨some 35,Op.fieldAddr 31 (Operand.tmp 3) 1,_,_,_,none⟩ a ?_
 try simp only[pu]
 refine tk 7 ⟨some 36,Op.load 9 (Operand.tmp 35),_,_,_,none⟩ a ?_
 try simp only[pu]
 refine tk 8 ⟨some 37,Op.fieldAddr 31 (Operand.tmp 3) 6,_,_,_,none⟩ a ?_
 try simp only[pu]
 refine tk 9 ⟨some 38,Op.load 3 (Operand.tmp 37),_,_,_,none⟩ a ?_
 try simp only[pu]
 refine tk 10 ⟨some 39,Op.move (Operand.tmp 0),_,_,_,none⟩ a ?_
 try simp only[pu]
 refine tk 11 ⟨some 40,Op.nilCheck (Operand.tmp 39),_,_,_,none⟩ a ?_
 try simp only[pu]
 refine tk 12 ⟨some 41,Op.fieldAddr 54 (Operand.tmp 40) 0,_,_,_,none⟩ a ?_
 try simp only[pu]
 refine tk 13 ⟨some 42,Op.fieldAddr 28 (Operand.tmp 41) 3,_,_,_,none⟩ a ?_
 try simp only[pu]
 refine rf (p:=?_) (fun A=>?_) ?_
 rotate_left
 · skip
   refine wpAnyH_ready (rs:=[5,14]) (by kernel_rfl) (by simp) ?_
   refine AllReadyH.cons rfl (fun K f=>?_) (AllReadyH.cons rfl (fun K f=>?_) AllReadyH.nil)
   · skip
     have V:=(j.out.below c).cell 2 rfl;have X:=(j.out.below c).cell 3 rfl;have Y:=(j.out.below c).cell 4 rfl;have Z:=(j.out.below c).cell 5 rfl;go_simp
     refine f.out _ _ ⟨(d.out.below c).cell 1 rfl,(d.out.below c).cell 6 rfl⟩ (fun i=>?_)
     clear i f K V X Y Z;try simp only[pu]
     refine wpAnyH_ready (rs:=[14]) (by kernel_rfl) (by simp) ?_
     refine AllReadyH.cons rfl (fun K f=>?_) AllReadyH.nil
     have p6:=(j.out.below c).cell 6 rfl;go_simp
     refine f.out _ _ ⟨(d.out.below c).cell 1 rfl,(d.out.below c).cell 6 rfl⟩ (fun i=>?_)
     clear i f K p6;try simp only[pu]
     exact A.out
   · skip
     have p6:=(j.out.below c).cell 6 rfl;go_simp
     refine f.out _ _ ⟨(d.out.below c).cell 1 rfl,(d.out.below c).cell 6 rfl⟩ (fun i=>?_)
     clear i f K p6;try simp only[pu]
     refine wpAnyH_ready (rs:=[5]) (by kernel_rfl) (by simp) ?_
     refine AllReadyH.cons rfl (fun K f=>?_) AllReadyH.nil
     have V:=(j.out.below c).cell 2 rfl;have X:=(j.out.below c).cell 3 rfl;have Y:=(j.out.below c).cell 4 rfl;have Z:=(j.out.below c).cell 5 rfl;go_simp
     refine f.out _ _ ⟨(d.out.below c).cell 1 rfl,(d.out.below c).cell 6 rfl⟩ (fun i=>?_)
     clear i f K V X Y Z;try simp only[pu]
     exact A.out
 refine wpAnyH_ready (rs:=[15]) (by kernel_rfl) (by simp) ?_
 refine AllReadyH.cons rfl (fun K f=>?_) AllReadyH.nil
 go_simp
 refine(N.out c0 _ (J.out.below c)).mono ?_
 rintro e wa ⟨ua,rfl,F,R⟩;have o:Below s.heap.size s wa:=an c R;go_wp2_with fail;refine f.out _ _ ⟨(d.out.below o).cell 1 rfl,(d.out.below o).cell 6 rfl⟩ (fun a=>?_)
 clear f K;try simp only[pu]
 refine tk 16 ⟨some 45,Op.extract (Operand.tmp 44) 0,_,_,_,none⟩ a ?_
 try simp only[pu]
 refine tk 17 ⟨some 46,Op.extract (Operand.tmp 44) 1,_,_,_,none⟩ a ?_
 try simp only[pu]
 refine tk 18 ⟨some 47,Op.extract (Operand.tmp 44) 2,_,_,_,none⟩ a ?_
 try simp only[pu]
 refine wpAnyH_ready (rs:=[19]) (by kernel_rfl) (by simp) ?_
 refine AllReadyH.cons rfl (fun K f=>?_) AllReadyH.nil
 go_simp
 refine(qO H U.ss _ U.nx U.la U.ro U.num U.e g T wa (P.out.below o) F).mono ?_
 rintro e wb ⟨rfl,I,B⟩;have O:=hid I;have M:=hid (show aZ w wb g (bo vf g)from(aZ.of_below _ _ (an u o)).trans (aZ.of_left _ B));have E:=hid ((d.out.below o).nb B (by omega));clear I B F;go_wp2_with fail;refine f.out _ _ ⟨E.out.cell 1 rfl,E.out.cell 6 rfl⟩ (fun a=>?_)
 clear f K;try simp only[pu]
 refine tk 20 ⟨some 49,Op.extract (Operand.tmp 48) 0,_,_,_,none⟩ a ?_
 try simp only[pu]
 refine tk 21 ⟨some 50,Op.extract (Operand.tmp 48) 1,_,_,_,none⟩ a ?_
 try simp only[pu]
 refine tk 22 ⟨some 4,Op.assign (Operand.tmp 49),_,_,_,none⟩ a ?_
 try simp only[pu]
 refine tk 23 ⟨some 5,Op.assign (Operand.tmp 50),_,_,_,none⟩ a ?_
 try simp only[pu]
 refine wpAnyH_done (by kernel_rfl) ?_ _
 go_wp2_with fail;go_ret2;exact⟨rfl,O.out,M.out⟩
theorem De (H:Hb) (q:Rq) (vq vf:Value) (g T:Nat) (w:World) (U:Ur) (E:bU w g T H) (hq:bH w vq q) (hk:q.kind=5) (G: ∀(W:World) (v:Value),aK W v H.ss→kF W 80 #[.agg #[v,H.nx,H.la,H.ro],q.who,q.num,q.off,q.text,H.now] U):
    Calls prog 42 #[.pointer (some ⟨g,0,none⟩),vq] w fun z w'=>z= .returned (.tuple #[U.num,U.e])∧bU w' g T (gy H U.e U.ss U.nx U.la U.ro)∧aZ w w' g (bo vf g):=by
 have N:=hid G;clear G;obtain⟨va,rfl,lq⟩:=hq
 have E0:=hid lq;obtain⟨qa,qc,rfl,_⟩:=lq
 obtain⟨kind,who,fo,name,key,text,num,off,base,ch⟩:=q
 simp only at*;obtain⟨s,A⟩: ∃s,s=w.alloc (.cells #[kind,who,fo,name,key,text,num,off,base,.slice qa ch.length qc] 31):=⟨_,rfl⟩
 have x:Below w.heap.size w s:=by rw[A];exact ak
 have d:Hid (Cs s w.heap.size [kind,who,fo,name,key,text,num,off,base,.slice qa ch.length qc]):=(by rw[A];exact Cs.new w [kind,who,fo,name,key,text,num,off,base,.slice qa ch.length qc] _:Cs s w.heap.size _)
 subst hk;obtain⟨fa,fc,ga,gc,sa,sc,Q,hF,hG,hS⟩:=E.shape
 have o:=hid (Q.below x);have J:=hid (hS.below x);have P:=hid (E.below x);have E1:g<w.heap.size:=Q.lt;have E2:=o.out.lt;have E3:=d.out.lt;clear E Q hF hG hS;have x0:=d.out.cell 0 rfl;have x1:=d.out.cell 1 rfl;have x6:=d.out.cell 6 rfl;have x7:=d.out.cell 7 rfl;have x5:=d.out.cell 5 rfl;go_enter func42,ntmps42
 go_upto_region 1 with fail;rw[←A];clear A;go_wp2_with fail;clear x0;refine wp_region_held_drew (S:=fun W=>W.cell? ⟨w.heap.size,1,none⟩=some (.string who)∧W.cell? ⟨w.heap.size,6,none⟩=some (.int .i64 num)∧W.cell? ⟨w.heap.size,7,none⟩=some (.int .i64 off)∧W.cell? ⟨w.heap.size,5,none⟩=some (.string text)) (by kernel_rfl) ⟨by simpa using x1,by simpa using x6,by simpa using x7,by simpa using x5⟩ (fun a=>?_)
 change wpAnyH _ _ _ _ _ 28 #[false,false,false,false,false,false,false,false,false,false,false,false,false,false,false,false,false,false,false,false,false,false,false,false,false,false,false,false] _ _
 have c:Below s.heap.size s s.drew:= aw.drew;generalize s.drew=c0 at a c⊢;refine tk 0 ⟨some 53,Op.move (Operand.tmp 0),_,_,_,none⟩ a ?_
 try simp only[pu]
 refine tk 1 ⟨some 54,Op.move (Operand.tmp 0),_,_,_,none⟩ a ?_
 try simp only[pu]
 refine tk 2 ⟨some 55,Op.nilCheck (Operand.tmp 54),_,_,_,none⟩ a ?_
 try simp only[pu]
 refine tk 3 ⟨some 56,Op.fieldAddr 54 (Operand.tmp 55) 0,_,_,_,none⟩ a ?_
 try simp only[pu]
 refine tk 4 ⟨some 57,Op.fieldAddr 28 (Operand.tmp 56) 2,_,_,_,none⟩ a ?_
 try simp only[pu]
 refine tk 6 ⟨some 59,Op.fieldAddr 31 (Operand.tmp 3) 1,_,_,_,none⟩ a ?_
 try simp only[pu]
 refine tk 7 ⟨some 60,Op.load 9 (Operand.tmp 59),_,_,_,none⟩ a ?_
 try simp only[pu]
 refine tk 8 ⟨some 61,Op.fieldAddr 31 (Operand.tmp 3) 6,_,_,_,none⟩ a ?_
 try simp only[pu]
 refine tk 9 ⟨some 62,Op.load 3 (Operand.tmp 61),_,_,_,none⟩ a ?_
 try simp only[pu]
 refine tk 10 ⟨some 63,Op.fieldAddr 31 (Operand.tmp 3) 7,_,_,_,none⟩ a ?_
 try simp only[pu]
 refine tk 11 ⟨some 64,Op.load 3 (Operand.tmp 63),_,_,_,none⟩ a ?_
 try simp only[pu]
 refine tk 12 ⟨some 65,Op.fieldAddr 31 (Operand.tmp 3) 5,_,_,_,none⟩ a ?_
 try simp only[pu]
 refine tk 13 ⟨some 66,Op.load 9 (Operand.tmp 65),_,_,_,none⟩ a ?_
 try simp only[pu]
 refine tk 14 ⟨some 67,Op.move (Operand.tmp 0),_,_,_,none⟩ a ?_
 try simp only[pu]
 refine tk 15 ⟨some 68,Op.nilCheck (Operand.tmp 67),_,_,_,none⟩ a ?_
 try simp only[pu]
 refine tk 16 ⟨some 69,Op.fieldAddr 54 (Operand.tmp 68) 0,_,_,_,none⟩ a ?_
 try simp only[pu]
 refine tk 17 ⟨some 70,Op.fieldAddr 28 (Operand.tmp 69) 3,_,_,_,none⟩ a ?_
 try simp only[pu]
 refine rf (p:=?_) (fun B=>?_) ?_
 rotate_left
 · skip
   refine wpAnyH_ready (rs:=[5,18]) (by kernel_rfl) (by simp) ?_
   refine AllReadyH.cons rfl (fun K f=>?_) (AllReadyH.cons rfl (fun K f=>?_) AllReadyH.nil)
   · skip
     have V:=(o.out.below c).cell 2 rfl;have X:=(o.out.below c).cell 3 rfl;have Y:=(o.out.below c).cell 4 rfl;have Z:=(o.out.below c).cell 5 rfl;go_simp
     refine f.out _ _ ⟨(d.out.below c).cell 1 rfl,(d.out.below c).cell 6 rfl,(d.out.below c).cell 7 rfl,(d.out.below c).cell 5 rfl⟩ (fun j=>?_)
     clear j f K V X Y Z;try simp only[pu]
     refine wpAnyH_ready (rs:=[18]) (by kernel_rfl) (by simp) ?_
     refine AllReadyH.cons rfl (fun K f=>?_) AllReadyH.nil
     have p6:=(o.out.below c).cell 6 rfl;go_simp
     refine f.out _ _ ⟨(d.out.below c).cell 1 rfl,(d.out.below c).cell 6 rfl,(d.out.below c).cell 7 rfl,(d.out.below c).cell 5 rfl⟩ (fun j=>?_)
     clear j f K p6;try simp only[pu]
     exact B.out
   · skip
     have p6:=(o.out.below c).cell 6 rfl;go_simp
     refine f.out _ _ ⟨(d.out.below c).cell 1 rfl,(d.out.below c).cell 6 rfl,(d.out.below c).cell 7 rfl,(d.out.below c).cell 5 rfl⟩ (fun j=>?_)
     clear j f K p6;try simp only[pu]
     refine wpAnyH_ready (rs:=[5]) (by kernel_rfl) (by simp) ?_
     refine AllReadyH.cons rfl (fun K f=>?_) AllReadyH.nil
     have V:=(o.out.below c).cell 2 rfl;have X:=(o.out.below c).cell 3 rfl;have Y:=(o.out.below c).cell 4 rfl;have Z:=(o.out.below c).cell 5 rfl;go_simp
     refine f.out _ _ ⟨(d.out.below c).cell 1 rfl,(d.out.below c).cell 6 rfl,(d.out.below c).cell 7 rfl,(d.out.below c).cell 5 rfl⟩ (fun j=>?_)
     clear j f K V X Y Z;try simp only[pu]
     exact B.out
 refine wpAnyH_ready (rs:=[19]) (by kernel_rfl) (by simp) ?_
 refine AllReadyH.cons rfl (fun K f=>?_) AllReadyH.nil
 go_simp
 refine(N.out c0 _ (J.out.below c)).mono ?_
 rintro e wa ⟨ua,rfl,F,R⟩;have i:Below s.heap.size s wa:=an c R;go_wp2_with fail;refine f.out _ _ ⟨(d.out.below i).cell 1 rfl,(d.out.below i).cell 6 rfl,(d.out.below i).cell 7 rfl,(d.out.below i).cell 5 rfl⟩ (fun a=>?_)
 clear f K;try simp only[pu]
 refine tk 20 ⟨some 73,Op.extract (Operand.tmp 72) 0,_,_,_,none⟩ a ?_
 try simp only[pu]
 refine tk 21 ⟨some 74,Op.extract (Operand.tmp 72) 1,_,_,_,none⟩ a ?_
 try simp only[pu]
 refine tk 22 ⟨some 75,Op.extract (Operand.tmp 72) 2,_,_,_,none⟩ a ?_
 try simp only[pu]
 refine wpAnyH_ready (rs:=[23]) (by kernel_rfl) (by simp) ?_
 refine AllReadyH.cons rfl (fun K f=>?_) AllReadyH.nil
 go_simp
 refine(qO H U.ss _ U.nx U.la U.ro U.num U.e g T wa (P.out.below i) F).mono ?_
 rintro e wb ⟨rfl,I,C⟩;have O:=hid I;have M:=hid (show aZ w wb g (bo vf g)from(aZ.of_below _ _ (an x i)).trans (aZ.of_left _ C));have u:=hid ((d.out.below i).nb C (by omega));clear I C F;go_wp2_with fail;refine f.out _ _ ⟨u.out.cell 1 rfl,u.out.cell 6 rfl,u.out.cell 7 rfl,u.out.cell 5 rfl⟩ (fun a=>?_)
 clear f K;try simp only[pu]
 refine tk 24 ⟨some 77,Op.extract (Operand.tmp 76) 0,_,_,_,none⟩ a ?_
 try simp only[pu]
 refine tk 25 ⟨some 78,Op.extract (Operand.tmp 76) 1,_,_,_,none⟩ a ?_
 try simp only[pu]
 refine tk 26 ⟨some 4,Op.assign (Operand.tmp 77),_,_,_,none⟩ a ?_
 try simp only[pu]
 refine tk 27 ⟨some 5,Op.assign (Operand.tmp 78),_,_,_,none⟩ a ?_
 try simp only[pu]
 refine wpAnyH_done (by kernel_rfl) ?_ _
 go_wp2_with fail;go_ret2;exact⟨rfl,O.out,M.out⟩
theorem Df (H:Hb) (q:Rq) (J S:Value) (g I:Nat) (w:World) (n e:Int) (j:bU w g I H) (O:bH w J q) (N:q.kind=6)
    (s: ∀(W:World) (v:Value),aK W v H.ss→Calls prog 81 #[.agg #[v,H.nx,H.la,H.ro],q.who,q.num,H.now] W fun z w'=>z= .returned (.tuple #[n,e])∧Below W.heap.size W w'):
    Calls prog 42 #[.pointer (some ⟨g,0,none⟩),J] w fun z w'=>z= .returned (.tuple #[n,e])∧bU w' g I H∧aZ w w' g (bo S g):=by
 have x:=hid s;clear s;obtain⟨va,rfl,G⟩:=O
 have K:=hid G;obtain⟨C,E,rfl,_⟩:=G
 obtain⟨kind,who,fo,name,key,text,num,off,base,ch⟩:=q
 simp only at*;obtain⟨o,i⟩: ∃o,o=w.alloc (.cells #[kind,who,fo,name,key,text,num,off,base,.slice C ch.length E] 31):=⟨_,rfl⟩
 have f:Below w.heap.size w o:=by rw[i];exact ak
 have c:Hid (Cs o w.heap.size [kind,who,fo,name,key,text,num,off,base,.slice C ch.length E]):=(by rw[i];exact Cs.new w [kind,who,fo,name,key,text,num,off,base,.slice C ch.length E] _:Cs o w.heap.size _)
 subst N;obtain⟨V,X,Y,Z,Q,R,F,hF,hG,hS⟩:=j.shape
 have d:=hid (F.below f);have u:=hid (hS.below f);have A:=hid (j.below f);have M:=d.out.lt;have P:=c.out.lt;clear j F hF hG hS;have T:=c.out.cell 0 rfl;have x1:=c.out.cell 1 rfl;have x6:=c.out.cell 6 rfl;go_enter func42,ntmps42
 go_upto_region 1 with fail;rw[←i];clear i;go_wp2_with fail;clear T;have p2:=d.out.cell 2 rfl;have p3:=d.out.cell 3 rfl;have p4:=d.out.cell 4 rfl;have p5:=d.out.cell 5 rfl;have p6:=d.out.cell 6 rfl
 go_region_held3 (fun W=>W.cell? ⟨w.heap.size,1,none⟩=some (.string who)∧W.cell? ⟨w.heap.size,6,none⟩=some (.int .i64 num)∧W.cell? ⟨g,2,none⟩=some (.slice Q H.ss.length R)∧W.cell? ⟨g,3,none⟩=some (.int .i64 H.nx)∧W.cell? ⟨g,4,none⟩=some (.int .i64 H.la)∧W.cell? ⟨g,5,none⟩=some (.int .i64 H.ro)∧W.cell? ⟨g,6,none⟩=some (.int .i64 H.now)) (go_keep) (
  (go_at_call 81;refine(x.out _ _ (u.out.below ( aw.drew))).mono ?_;rintro z wa ⟨rfl,B⟩;have a:=an ((Below.refl o.heap.size o).drew) B;have q1:=(c.out.below a).cell 1 rfl;have q6:=(c.out.below a).cell 6 rfl;have c2:=(d.out.below a).cell 2 rfl;have c3:=(d.out.below a).cell 3 rfl;have c4:=(d.out.below a).cell 4 rfl;have c5:=(d.out.below a).cell 5 rfl;have U:=(d.out.below a).cell 6 rfl))
 all_goals
  go_wp2_with fail;go_ret2;exact⟨rfl,A.out.below a,aZ.of_below _ _ (an f a)⟩
theorem Tryz.cellsCo:prog.cellsOf 111=3:=by kernel_rfl
theorem Tryz.cellsSC:prog.cellsOf 29=1:=by kernel_rfl
theorem Tryz.cellsSO:prog.cellsOf 34=1:=by kernel_rfl
theorem Tryz.cellsSE:prog.cellsOf 33=1:=by kernel_rfl
theorem ww {d:Type} {l:List d} (h:l.length=3): ∃a b c,l=[a,b,c]:=by
 rcases l with _|⟨a,_|⟨b,_|⟨c,_|⟨f,r⟩⟩⟩⟩
 all_goals first|exact⟨a,b,c,rfl⟩|(simp at h)
theorem Dg {H:Type} {enc:TypeId×Value→H} {P:Program} {w:World} {base:Nat} {a:Nat→Bool} {c:Bool} {t:TypeId} {d f f2:Field} {fuel:Nat} {cs:List Value} {x:DataW H×List MemPlace} (v:P.underlying t=some (.struct #[d,f,f2])) (h:DataW.trod enc P w base a c fuel t cs=some x):
    ∃i j o n,x=(.agg [i.1,j.1,o.1],i.2++(j.2++o.2))∧cs.length=P.cellsOf t∧DataW.trod enc P w base a c n d.type ((cs.drop d.offset).take (P.cellsOf d.type))=some i∧
     DataW.trod enc P w base a c n f.type ((cs.drop f.offset).take (P.cellsOf f.type))=some j∧DataW.trod enc P w base a c n f2.type ((cs.drop f2.offset).take (P.cellsOf f2.type))=some o:=by
 obtain⟨z,n,_,rfl,u,g,s⟩:=DataW.trod_struct v h
 match z,g with
 |[i,j,o],_=>exact⟨i,j,o,n,by simp,u,by simpa using s 0 d rfl,by simpa using s 1 f rfl,by simpa using s 2 f2 rfl⟩
theorem wA {H:Type} (a b c:DataW H):Rows.uptoBulk (.agg [a,b,c])=1+(Rows.uptoBulk a+(Rows.uptoBulk b+Rows.uptoBulk c)):=by
 rw[Rows.uptoBulk,Rows.uptoBulkAll,Rows.uptoBulkAll,Rows.uptoBulkAll,Rows.uptoBulkAll];omega
theorem Dh {B:Nat} (Y:B≤1000000000) {H:Type} {enc:TypeId×Value→H} {W:World} {n i:Nat} {a:Addr} {x:DataW H} {pl:List MemPlace} {j:List Value} (Z:a.spot=none)
    (M:W.cells? 0 (a.add (i*prog.cellsOf 111)) (prog.cellsOf 111)=some j) (X:DataW.trod enc prog W 0 (fun _=>true) true n 111 j=some (x,pl)) (A:Rows.uptoBulk x≤B):
    ∃c:Co,(1≤Rows.uptoBulk x∧c.ke.size≤B∧dV B c.ch)∧a.spot=none∧fH W a.block (a.off+i*3) c:=by
 rw[Tryz.cellsCo]at M;obtain⟨_,o,z⟩:=World.cells?_some M
 obtain⟨y0,y1,R,E,g,_,t0,t1,t2⟩:=Dg underlying111 X
 obtain⟨J,K,c2,rfl⟩:=ww o
 have F:DataW.trod enc prog W 0 (fun _=>true) true E 3 [J]=some y0:=by simpa[Tryz.cells3]using t0
 have G:DataW.trod enc prog W 0 (fun _=>true) true E 9 [K]=some y1:=by simpa[Tryz.cells9]using t1
 have I:DataW.trod enc prog W 0 (fun _=>true) true E 29 [c2]=some R:=by simpa[Tryz.cellsSC]using t2
 obtain⟨Q,S,U,_⟩:=DataW.trod_int underlying3 F
 obtain⟨s,T,V,_⟩:=DataW.trod_string underlying9 G
 obtain rfl:J= .int .i64 Q:=by simpa using S
 obtain rfl:K= .string s:=by simpa using T
 subst U;subst V;obtain⟨d2,p2⟩:=R
 simp only[Prod.mk.injEq]at g;have E0:=A;rw[g.1,wA]at A
 have v:Rows.uptoBulk (.lit (.string s.data.toList):DataW H)=s.size+1:=by
  rw[Rows.uptoBulk,Lib.size_eq]
 rw[v]at A;obtain⟨l,hl,_,C⟩:=vU (B:=B) Y I (by omega)
 have N:=z 0 (by omega);have O:=z 1 (by omega);have P:=z 2 (by omega);obtain⟨ab,ao,u⟩:=a
 obtain rfl:u=none:=Z;refine⟨⟨Q,s,l⟩,⟨by rw[g.1,wA];omega,by show s.size≤B;omega,C⟩,rfl,?_,?_,c2,?_,hl⟩
 · by_cases d:i=0
   · subst d;simpa[Addr.add]using N
   · have f:i*3≠0:=by omega
     simpa[Addr.add,f]using N
 · by_cases d:i=0
   · subst d;simpa[Addr.add]using O
   · have f:i*3≠0:=by omega
     simpa[Addr.add,f,Nat.add_assoc]using O
 · by_cases d:i=0
   · subst d;simpa[Addr.add]using P
   · have f:i*3≠0:=by omega
     simpa[Addr.add,f,Nat.add_assoc]using P
theorem Di {B:Nat} (R:B≤1000000000) {H:Type} {enc:TypeId×Value→H} {W:World} {v:Value} {d:DataW H} {p:List MemPlace} {fuel:Nat} (T:DataW.trod enc prog W 0 (fun _=>true) true fuel 34 [v]=some (d,p)) (U:Rows.uptoBulk d≤B):
    ∃l:List Co,b8 W v l∧l.length≤B∧dm B l:=by
 haveI:Inhabited Co:=⟨⟨0,⟨#[]⟩,[]⟩⟩
 rcases Go.Deep.open_slice underlying34 T with⟨c,O⟩|⟨a,len,g,m,n,D,Y,c,hb,V,hm,x,O,s⟩
 · obtain rfl:v= .slice none 0 0:=by simpa using c
   exact⟨[],kX _,by simp,fun e G=>by cases G⟩
 obtain rfl:v= .slice (some a) len g:=by simpa using c
 have M:m=g:=x.trans (if_pos rfl);clear x;have F:=(Prod.mk.inj O).1;clear O;subst M
 have C:Rows.uptoBulkAll ((List.range len).map D)≤B:=by
  rw[F,Rows.uptoBulk]at U;omega
 have N:0<len→a.spot=none:=fun h=>by
  obtain⟨z,o,_⟩:=s 0 (by omega)
  rw[Tryz.cellsCo]at o;obtain⟨_,u,S⟩:=World.cells?_some o
  obtain⟨Q,Z,c2,rfl⟩:=ww u
  have X:=S 0 (by omega);exact nf (v:=Q) (by simpa[Addr.add]using X)
 have j: ∀i,i<len→ ∃e:Co,(1≤Rows.uptoBulk (D i)∧e.ke.size≤B∧dV B e.ch)∧a.spot=none∧fH W a.block (a.off+i*3) e:=fun i f=>by
  obtain⟨z,o,A⟩:=s i (by omega)
  exact Dh R (N (by omega)) o A (Nat.le_trans (Bk.mem (List.mem_map.2 ⟨i,List.mem_range.2 f,rfl⟩)) C)
 obtain⟨E,hE⟩:=Go.Deep.choose_lt j
 have J:=Bk.len (l:=(List.range len).map D) (fun d F=>by
  obtain⟨i,f,rfl⟩:=List.mem_map.1 F
  exact(hE i (List.mem_range.1 f)).1.1)
 simp only[List.length_map,List.length_range]at J;refine⟨(List.range len).map E,⟨some a,_,by simp;rfl,by simpa using V,by simp;omega,fun i f=>?_⟩,by simp;omega,fun e G=>?_⟩
 · have I:i<len:=by simpa using f
   obtain⟨o,A,P⟩:=hE i I
   have K:a.block<W.heap.size:=by
    have k:=P.1;rcases Nat.lt_or_ge a.block W.heap.size with h|h
    · exact h
    · unfold World.cell? at k;rw[Array.getElem?_eq_none h]at k;cases k
   refine⟨a.block,a.off,?_,K,by simpa using P⟩
   rw[←A]
 · obtain⟨i,f,rfl⟩:=List.mem_map.1 G
   exact(hE i (List.mem_range.1 f)).1.2
end Go.Proofs.YtdlpjlfefjipkaaGreat
