/- What the server's number answers to requests that open an upload, or append to one. -/
import Derived.Test.YtppdfeehhnofaaaGreatDoorHAS
import Derived.Deep.RegionLaw
import Derived.Deep.DeepCutAuto
import Derived.WalkKit
import Derived.Deep.RegionHeld3
set_option linter.unusedSimpArgs false
set_option linter.unusedVariables false
namespace Go.Proofs.YtppdfeehhnofaaaGreatDoor
open Go.RowKit

structure LaterH (p:Prop):Prop where out:p
theorem laterH {p q:Prop} (h:LaterH p→q) (hp:p):q:=h ⟨hp⟩
/-- What becomes of uploads: the error, the sessions, the next number, how long they last, the room, and the number that is told. -/
structure Ur where
 e:Int
 ss:List Se
 nx:Int
 la:Int
 ro:Int
 num:Int
def UpCall (W:World) (f:Nat) (args:Array Value) (U:Ur):Prop:=Calls Tryz.prog f args W fun z w'=> ∃u,z= .returned (.tuple #[.agg #[u,.int .i64 U.nx,.int .i64 U.la,.int .i64 U.ro],.int .i64 U.num,.int .i64 U.e])∧LiesS w' u U.ss∧Below W.heap.size W w'
set_option maxRecDepth 100000 in
set_option maxHeartbeats 8000000 in
theorem snum_open (H:Hb) (q:Rq) (vq vf:Value) (g mb:Nat) (w:World) (U:Ur) (hsv:SvL w g mb H) (hq:LiesQ w vq q) (hk:q.kind=4) (hop: ∀(W:World) (v:Value),LiesS W v H.ss→UpCall W 95 #[.agg #[v,.int .i64 H.nx,.int .i64 H.la,.int .i64 H.ro],.string q.who,.int .i64 q.num,.int .i64 H.now] U):
    Calls Tryz.prog 51 #[.pointer (some ⟨g,0,none⟩),vq] w fun z w'=>z= .returned (.tuple #[.int .i64 U.num,.int .i64 U.e])∧SvL w' g mb (Hu.upH H U.e U.ss U.nx U.la U.ro)∧Nb2 w w' g (bo vf g):=by
 have HOP:=hid hop;clear hop;obtain⟨va,rfl,lq⟩:=hq
 have HLQ:=hid lq;obtain⟨qa,qc,rfl,_⟩:=lq
 obtain⟨kind,who,fo,name,key,text,num,off,base,ch⟩:=q
 simp only at*;obtain⟨wz,hwz⟩: ∃wz,wz=w.alloc (.cells #[.int .i64 kind,.string who,.string fo,.string name,.string key,.string text,.int .i64 num,.int .i64 off,.int .i64 base,.slice qa ch.length qc] 31):=⟨_,rfl⟩
 have hbz:Below w.heap.size w wz:=by rw[hwz];exact(Below.refl _ _).alloc (Nat.le_refl _) _
 have HQX:Hid (Cs wz w.heap.size [.int .i64 kind,.string who,.string fo,.string name,.string key,.string text,.int .i64 num,.int .i64 off,.int .i64 base,.slice qa ch.length qc]):=(by rw[hwz];exact Cs.new w [.int .i64 kind,.string who,.string fo,.string name,.string key,.string text,.int .i64 num,.int .i64 off,.int .i64 base,.slice qa ch.length qc] _:Cs wz w.heap.size _)
 subst hk;obtain⟨fa,fc,ga,gc,sa,sc,hC,hF,hG,hS⟩:=hsv.shape
 have HC:=hid (hC.below hbz);have HLS:=hid (hS.below hbz);have HSZ:=hid (hsv.below hbz);have hgl:g<w.heap.size:=hC.lt;have hgz:=HC.out.lt;have hql:=HQX.out.lt;clear hsv hC hF hG hS;have x0:=HQX.out.cell 0 rfl;have x1:=HQX.out.cell 1 rfl;have x6:=HQX.out.cell 6 rfl;go_enter Tryz.func51,Tryz.ntmps51
 go_upto_region 1 with fail;rw[←hwz];clear hwz;go_wp2_with fail;clear x0;refine wp_region_held_drew (S:=fun W=>W.cell? ⟨w.heap.size,1,none⟩=some (.string who)∧W.cell? ⟨w.heap.size,6,none⟩=some (.int .i64 num)) (by kernel_rfl) ⟨by simpa using x1,by simpa using x6⟩ (fun hHeld=>?_)
 change wpAnyH _ _ _ _ _ 24 #[false,false,false,false,false,false,false,false,false,false,false,false,false,false,false,false,false,false,false,false,false,false,false,false] _ _
 have hc0:Below wz.heap.size wz wz.drew:=(Below.refl _ _).drew;generalize wz.drew=c0 at hHeld hc0⊢;refine wpAnyH_take (i:=0) (oi:=⟨some 29,Op.move (Operand.tmp 0),_,_,_,none⟩) (v:=?_) rfl (by kernel_rfl) (by kernel_rfl) (by kernel_rfl) (fun _ _ _ h=>h) (Or.inl ⟨by rfl,?_⟩) hHeld ?_
 rotate_left
 · (intro W hSw;obtain⟨t0,t1⟩:=hSw;go_simp<;>with_reducible rfl)
 try simp only[Act.put,List.setIfInBounds_toArray,List.set_cons_zero,List.set_cons_succ]
 refine wpAnyH_take (i:=1) (oi:=⟨some 30,Op.move (Operand.tmp 0),_,_,_,none⟩) (v:=?_) rfl (by kernel_rfl) (by kernel_rfl) (by kernel_rfl) (fun _ _ _ h=>h) (Or.inl ⟨by rfl,?_⟩) hHeld ?_
 rotate_left
 · (intro W hSw;obtain⟨t0,t1⟩:=hSw;go_simp<;>with_reducible rfl)
 try simp only[Act.put,List.setIfInBounds_toArray,List.set_cons_zero,List.set_cons_succ]
 refine wpAnyH_take (i:=2) (oi:=⟨some 31,Op.nilCheck (Operand.tmp 30),_,_,_,none⟩) (v:=?_) rfl (by kernel_rfl) (by kernel_rfl) (by kernel_rfl) (fun _ _ _ h=>h) (Or.inl ⟨by rfl,?_⟩) hHeld ?_
 rotate_left
 · (intro W hSw;obtain⟨t0,t1⟩:=hSw;go_simp<;>with_reducible rfl)
 try simp only[Act.put,List.setIfInBounds_toArray,List.set_cons_zero,List.set_cons_succ]
 refine wpAnyH_take (i:=3) (oi:=⟨some 32,Op.fieldAddr 78 (Operand.tmp 31) 0,_,_,_,none⟩) (v:=?_) rfl (by kernel_rfl) (by kernel_rfl) (by kernel_rfl) (fun _ _ _ h=>h) (Or.inl ⟨by rfl,?_⟩) hHeld ?_
 rotate_left
 · (intro W hSw;obtain⟨t0,t1⟩:=hSw;go_simp<;>with_reducible rfl)
 try simp only[Act.put,List.setIfInBounds_toArray,List.set_cons_zero,List.set_cons_succ]
 refine wpAnyH_take (i:=4) (oi:=⟨some 33,Op.fieldAddr 28 (Operand.tmp 32) 2,_,_,_,none⟩) (v:=?_) rfl (by kernel_rfl) (by kernel_rfl) (by kernel_rfl) (fun _ _ _ h=>h) (Or.inl ⟨by rfl,?_⟩) hHeld ?_
 rotate_left
 · (intro W hSw;obtain⟨t0,t1⟩:=hSw;go_simp<;>with_reducible rfl)
 try simp only[Act.put,List.setIfInBounds_toArray,List.set_cons_zero,List.set_cons_succ]
 refine wpAnyH_take (i:=6) (oi:=⟨some 35,Op.fieldAddr 31 (Operand.tmp 3) 1,_,_,_,none⟩) (v:=?_) rfl (by kernel_rfl) (by kernel_rfl) (by kernel_rfl) (fun _ _ _ h=>h) (Or.inl ⟨by rfl,?_⟩) hHeld ?_
 rotate_left
 · (intro W hSw;obtain⟨t0,t1⟩:=hSw;go_simp<;>with_reducible rfl)
 try simp only[Act.put,List.setIfInBounds_toArray,List.set_cons_zero,List.set_cons_succ]
 refine wpAnyH_take (i:=7) (oi:=⟨some 36,Op.load 9 (Operand.tmp 35),_,_,_,none⟩) (v:=?_) rfl (by kernel_rfl) (by kernel_rfl) (by kernel_rfl) (fun _ _ _ h=>h) (Or.inl ⟨by rfl,?_⟩) hHeld ?_
 rotate_left
 · (intro W hSw;obtain⟨t0,t1⟩:=hSw;go_simp<;>with_reducible rfl)
 try simp only[Act.put,List.setIfInBounds_toArray,List.set_cons_zero,List.set_cons_succ]
 refine wpAnyH_take (i:=8) (oi:=⟨some 37,Op.fieldAddr 31 (Operand.tmp 3) 6,_,_,_,none⟩) (v:=?_) rfl (by kernel_rfl) (by kernel_rfl) (by kernel_rfl) (fun _ _ _ h=>h) (Or.inl ⟨by rfl,?_⟩) hHeld ?_
 rotate_left
 · (intro W hSw;obtain⟨t0,t1⟩:=hSw;go_simp<;>with_reducible rfl)
 try simp only[Act.put,List.setIfInBounds_toArray,List.set_cons_zero,List.set_cons_succ]
 refine wpAnyH_take (i:=9) (oi:=⟨some 38,Op.load 3 (Operand.tmp 37),_,_,_,none⟩) (v:=?_) rfl (by kernel_rfl) (by kernel_rfl) (by kernel_rfl) (fun _ _ _ h=>h) (Or.inl ⟨by rfl,?_⟩) hHeld ?_
 rotate_left
 · (intro W hSw;obtain⟨t0,t1⟩:=hSw;go_simp<;>with_reducible rfl)
 try simp only[Act.put,List.setIfInBounds_toArray,List.set_cons_zero,List.set_cons_succ]
 refine wpAnyH_take (i:=10) (oi:=⟨some 39,Op.move (Operand.tmp 0),_,_,_,none⟩) (v:=?_) rfl (by kernel_rfl) (by kernel_rfl) (by kernel_rfl) (fun _ _ _ h=>h) (Or.inl ⟨by rfl,?_⟩) hHeld ?_
 rotate_left
 · (intro W hSw;obtain⟨t0,t1⟩:=hSw;go_simp<;>with_reducible rfl)
 try simp only[Act.put,List.setIfInBounds_toArray,List.set_cons_zero,List.set_cons_succ]
 refine wpAnyH_take (i:=11) (oi:=⟨some 40,Op.nilCheck (Operand.tmp 39),_,_,_,none⟩) (v:=?_) rfl (by kernel_rfl) (by kernel_rfl) (by kernel_rfl) (fun _ _ _ h=>h) (Or.inl ⟨by rfl,?_⟩) hHeld ?_
 rotate_left
 · (intro W hSw;obtain⟨t0,t1⟩:=hSw;go_simp<;>with_reducible rfl)
 try simp only[Act.put,List.setIfInBounds_toArray,List.set_cons_zero,List.set_cons_succ]
 refine wpAnyH_take (i:=12) (oi:=⟨some 41,Op.fieldAddr 78 (Operand.tmp 40) 0,_,_,_,none⟩) (v:=?_) rfl (by kernel_rfl) (by kernel_rfl) (by kernel_rfl) (fun _ _ _ h=>h) (Or.inl ⟨by rfl,?_⟩) hHeld ?_
 rotate_left
 · (intro W hSw;obtain⟨t0,t1⟩:=hSw;go_simp<;>with_reducible rfl)
 try simp only[Act.put,List.setIfInBounds_toArray,List.set_cons_zero,List.set_cons_succ]
 refine wpAnyH_take (i:=13) (oi:=⟨some 42,Op.fieldAddr 28 (Operand.tmp 41) 3,_,_,_,none⟩) (v:=?_) rfl (by kernel_rfl) (by kernel_rfl) (by kernel_rfl) (fun _ _ _ h=>h) (Or.inl ⟨by rfl,?_⟩) hHeld ?_
 rotate_left
 · (intro W hSw;obtain⟨t0,t1⟩:=hSw;go_simp<;>with_reducible rfl)
 try simp only[Act.put,List.setIfInBounds_toArray,List.set_cons_zero,List.set_cons_succ]
 refine laterH (p:=?_) (fun rest=>?_) ?_
 rotate_left
 · skip
   refine wpAnyH_ready (rs:=[5,14]) (by kernel_rfl) (by simp) ?_
   refine AllReadyH.cons (o:=⟨some 34,Op.load 26 (Operand.tmp 33),_,_,_,none⟩) rfl (fun K hK=>?_) (AllReadyH.cons (o:=⟨some 43,Op.load 3 (Operand.tmp 42),_,_,_,none⟩) rfl (fun K hK=>?_) AllReadyH.nil)
   · skip
     have p2:=(HC.out.below hc0).cell 2 rfl;have p3:=(HC.out.below hc0).cell 3 rfl;have p4:=(HC.out.below hc0).cell 4 rfl;have p5:=(HC.out.below hc0).cell 5 rfl;go_simp
     refine hK.out _ _ ⟨(HQX.out.below hc0).cell 1 rfl,(HQX.out.below hc0).cell 6 rfl⟩ (fun hzz=>?_)
     clear hzz hK K p2 p3 p4 p5;try simp only[Act.put,List.setIfInBounds_toArray,List.set_cons_zero,List.set_cons_succ]
     refine wpAnyH_ready (rs:=[14]) (by kernel_rfl) (by simp) ?_
     refine AllReadyH.cons (o:=⟨some 43,Op.load 3 (Operand.tmp 42),_,_,_,none⟩) rfl (fun K hK=>?_) AllReadyH.nil
     have p6:=(HC.out.below hc0).cell 6 rfl;go_simp
     refine hK.out _ _ ⟨(HQX.out.below hc0).cell 1 rfl,(HQX.out.below hc0).cell 6 rfl⟩ (fun hzz=>?_)
     clear hzz hK K p6;try simp only[Act.put,List.setIfInBounds_toArray,List.set_cons_zero,List.set_cons_succ]
     exact rest.out
   · skip
     have p6:=(HC.out.below hc0).cell 6 rfl;go_simp
     refine hK.out _ _ ⟨(HQX.out.below hc0).cell 1 rfl,(HQX.out.below hc0).cell 6 rfl⟩ (fun hzz=>?_)
     clear hzz hK K p6;try simp only[Act.put,List.setIfInBounds_toArray,List.set_cons_zero,List.set_cons_succ]
     refine wpAnyH_ready (rs:=[5]) (by kernel_rfl) (by simp) ?_
     refine AllReadyH.cons (o:=⟨some 34,Op.load 26 (Operand.tmp 33),_,_,_,none⟩) rfl (fun K hK=>?_) AllReadyH.nil
     have p2:=(HC.out.below hc0).cell 2 rfl;have p3:=(HC.out.below hc0).cell 3 rfl;have p4:=(HC.out.below hc0).cell 4 rfl;have p5:=(HC.out.below hc0).cell 5 rfl;go_simp
     refine hK.out _ _ ⟨(HQX.out.below hc0).cell 1 rfl,(HQX.out.below hc0).cell 6 rfl⟩ (fun hzz=>?_)
     clear hzz hK K p2 p3 p4 p5;try simp only[Act.put,List.setIfInBounds_toArray,List.set_cons_zero,List.set_cons_succ]
     exact rest.out
 refine wpAnyH_ready (rs:=[15]) (by kernel_rfl) (by simp) ?_
 refine AllReadyH.cons (o:=⟨some 44,Op.call ⟨Callee.value (Operand.func 95),#[Operand.tmp 34,Operand.tmp 36,Operand.tmp 38,Operand.tmp 43],#[26,9,3,3]⟩,_,_,_,none⟩) rfl (fun K hK=>?_) AllReadyH.nil
 go_simp
 refine(HOP.out c0 _ (HLS.out.below hc0)).mono ?_
 rintro e wa ⟨ua,rfl,hla,hba⟩;have hya:Below wz.heap.size wz wa:=below_tr hc0 hba;go_wp2_with fail;refine hK.out _ _ ⟨(HQX.out.below hya).cell 1 rfl,(HQX.out.below hya).cell 6 rfl⟩ (fun hHeld=>?_)
 clear hK K;try simp only[Act.put,List.setIfInBounds_toArray,List.set_cons_zero,List.set_cons_succ]
 refine wpAnyH_take (i:=16) (oi:=⟨some 45,Op.extract (Operand.tmp 44) 0,_,_,_,none⟩) (v:=?_) rfl (by kernel_rfl) (by kernel_rfl) (by kernel_rfl) (fun _ _ _ h=>h) (Or.inl ⟨by rfl,?_⟩) hHeld ?_
 rotate_left
 · (intro W hSw;obtain⟨t0,t1⟩:=hSw;go_simp<;>with_reducible rfl)
 try simp only[Act.put,List.setIfInBounds_toArray,List.set_cons_zero,List.set_cons_succ]
 refine wpAnyH_take (i:=17) (oi:=⟨some 46,Op.extract (Operand.tmp 44) 1,_,_,_,none⟩) (v:=?_) rfl (by kernel_rfl) (by kernel_rfl) (by kernel_rfl) (fun _ _ _ h=>h) (Or.inl ⟨by rfl,?_⟩) hHeld ?_
 rotate_left
 · (intro W hSw;obtain⟨t0,t1⟩:=hSw;go_simp<;>with_reducible rfl)
 try simp only[Act.put,List.setIfInBounds_toArray,List.set_cons_zero,List.set_cons_succ]
 refine wpAnyH_take (i:=18) (oi:=⟨some 47,Op.extract (Operand.tmp 44) 2,_,_,_,none⟩) (v:=?_) rfl (by kernel_rfl) (by kernel_rfl) (by kernel_rfl) (fun _ _ _ h=>h) (Or.inl ⟨by rfl,?_⟩) hHeld ?_
 rotate_left
 · (intro W hSw;obtain⟨t0,t1⟩:=hSw;go_simp<;>with_reducible rfl)
 try simp only[Act.put,List.setIfInBounds_toArray,List.set_cons_zero,List.set_cons_succ]
 refine wpAnyH_ready (rs:=[19]) (by kernel_rfl) (by simp) ?_
 refine AllReadyH.cons (o:=⟨some 48,Op.call ⟨Callee.value (Operand.func 94),#[Operand.tmp 29,Operand.tmp 45,Operand.tmp 46,Operand.tmp 47],#[71,26,3,33]⟩,_,_,_,none⟩) rfl (fun K hK=>?_) AllReadyH.nil
 go_simp
 refine(stake_any H U.ss _ U.nx U.la U.ro U.num U.e g mb wa (HSZ.out.below hya) hla).mono ?_
 rintro e wb ⟨rfl,hsb,hgb⟩;have HSB:=hid hsb;have HNB:=hid (show Nb2 w wb g (bo vf g)from(Nb2.of_below _ _ (below_tr hbz hya)).trans (Nb2.of_left _ hgb));have HQB:=hid ((HQX.out.below hya).nb hgb (by omega));clear hsb hgb hla;go_wp2_with fail;refine hK.out _ _ ⟨HQB.out.cell 1 rfl,HQB.out.cell 6 rfl⟩ (fun hHeld=>?_)
 clear hK K;try simp only[Act.put,List.setIfInBounds_toArray,List.set_cons_zero,List.set_cons_succ]
 refine wpAnyH_take (i:=20) (oi:=⟨some 49,Op.extract (Operand.tmp 48) 0,_,_,_,none⟩) (v:=?_) rfl (by kernel_rfl) (by kernel_rfl) (by kernel_rfl) (fun _ _ _ h=>h) (Or.inl ⟨by rfl,?_⟩) hHeld ?_
 rotate_left
 · (intro W hSw;obtain⟨t0,t1⟩:=hSw;go_simp<;>with_reducible rfl)
 try simp only[Act.put,List.setIfInBounds_toArray,List.set_cons_zero,List.set_cons_succ]
 refine wpAnyH_take (i:=21) (oi:=⟨some 50,Op.extract (Operand.tmp 48) 1,_,_,_,none⟩) (v:=?_) rfl (by kernel_rfl) (by kernel_rfl) (by kernel_rfl) (fun _ _ _ h=>h) (Or.inl ⟨by rfl,?_⟩) hHeld ?_
 rotate_left
 · (intro W hSw;obtain⟨t0,t1⟩:=hSw;go_simp<;>with_reducible rfl)
 try simp only[Act.put,List.setIfInBounds_toArray,List.set_cons_zero,List.set_cons_succ]
 refine wpAnyH_take (i:=22) (oi:=⟨some 4,Op.assign (Operand.tmp 49),_,_,_,none⟩) (v:=?_) rfl (by kernel_rfl) (by kernel_rfl) (by kernel_rfl) (fun _ _ _ h=>h) (Or.inl ⟨by rfl,?_⟩) hHeld ?_
 rotate_left
 · (intro W hSw;obtain⟨t0,t1⟩:=hSw;go_simp<;>with_reducible rfl)
 try simp only[Act.put,List.setIfInBounds_toArray,List.set_cons_zero,List.set_cons_succ]
 refine wpAnyH_take (i:=23) (oi:=⟨some 5,Op.assign (Operand.tmp 50),_,_,_,none⟩) (v:=?_) rfl (by kernel_rfl) (by kernel_rfl) (by kernel_rfl) (fun _ _ _ h=>h) (Or.inl ⟨by rfl,?_⟩) hHeld ?_
 rotate_left
 · (intro W hSw;obtain⟨t0,t1⟩:=hSw;go_simp<;>with_reducible rfl)
 try simp only[Act.put,List.setIfInBounds_toArray,List.set_cons_zero,List.set_cons_succ]
 refine wpAnyH_done (by kernel_rfl) ?_ _
 go_wp2_with fail;go_ret2;exact⟨rfl,HSB.out,HNB.out⟩
set_option maxRecDepth 100000 in
set_option maxHeartbeats 8000000 in
theorem snum_append (H:Hb) (q:Rq) (vq vf:Value) (g mb:Nat) (w:World) (U:Ur) (hsv:SvL w g mb H) (hq:LiesQ w vq q) (hk:q.kind=5) (hop: ∀(W:World) (v:Value),LiesS W v H.ss→UpCall W 96 #[.agg #[v,.int .i64 H.nx,.int .i64 H.la,.int .i64 H.ro],.string q.who,.int .i64 q.num,.int .i64 q.off,.string q.text,.int .i64 H.now] U):
    Calls Tryz.prog 51 #[.pointer (some ⟨g,0,none⟩),vq] w fun z w'=>z= .returned (.tuple #[.int .i64 U.num,.int .i64 U.e])∧SvL w' g mb (Hu.upH H U.e U.ss U.nx U.la U.ro)∧Nb2 w w' g (bo vf g):=by
 have HOP:=hid hop;clear hop;obtain⟨va,rfl,lq⟩:=hq
 have HLQ:=hid lq;obtain⟨qa,qc,rfl,_⟩:=lq
 obtain⟨kind,who,fo,name,key,text,num,off,base,ch⟩:=q
 simp only at*;obtain⟨wz,hwz⟩: ∃wz,wz=w.alloc (.cells #[.int .i64 kind,.string who,.string fo,.string name,.string key,.string text,.int .i64 num,.int .i64 off,.int .i64 base,.slice qa ch.length qc] 31):=⟨_,rfl⟩
 have hbz:Below w.heap.size w wz:=by rw[hwz];exact(Below.refl _ _).alloc (Nat.le_refl _) _
 have HQX:Hid (Cs wz w.heap.size [.int .i64 kind,.string who,.string fo,.string name,.string key,.string text,.int .i64 num,.int .i64 off,.int .i64 base,.slice qa ch.length qc]):=(by rw[hwz];exact Cs.new w [.int .i64 kind,.string who,.string fo,.string name,.string key,.string text,.int .i64 num,.int .i64 off,.int .i64 base,.slice qa ch.length qc] _:Cs wz w.heap.size _)
 subst hk;obtain⟨fa,fc,ga,gc,sa,sc,hC,hF,hG,hS⟩:=hsv.shape
 have HC:=hid (hC.below hbz);have HLS:=hid (hS.below hbz);have HSZ:=hid (hsv.below hbz);have hgl:g<w.heap.size:=hC.lt;have hgz:=HC.out.lt;have hql:=HQX.out.lt;clear hsv hC hF hG hS;have x0:=HQX.out.cell 0 rfl;have x1:=HQX.out.cell 1 rfl;have x6:=HQX.out.cell 6 rfl;have x7:=HQX.out.cell 7 rfl;have x5:=HQX.out.cell 5 rfl;go_enter Tryz.func51,Tryz.ntmps51
 go_upto_region 1 with fail;rw[←hwz];clear hwz;go_wp2_with fail;clear x0;refine wp_region_held_drew (S:=fun W=>W.cell? ⟨w.heap.size,1,none⟩=some (.string who)∧W.cell? ⟨w.heap.size,6,none⟩=some (.int .i64 num)∧W.cell? ⟨w.heap.size,7,none⟩=some (.int .i64 off)∧W.cell? ⟨w.heap.size,5,none⟩=some (.string text)) (by kernel_rfl) ⟨by simpa using x1,by simpa using x6,by simpa using x7,by simpa using x5⟩ (fun hHeld=>?_)
 change wpAnyH _ _ _ _ _ 28 #[false,false,false,false,false,false,false,false,false,false,false,false,false,false,false,false,false,false,false,false,false,false,false,false,false,false,false,false] _ _
 have hc0:Below wz.heap.size wz wz.drew:=(Below.refl _ _).drew;generalize wz.drew=c0 at hHeld hc0⊢;refine wpAnyH_take (i:=0) (oi:=⟨some 53,Op.move (Operand.tmp 0),_,_,_,none⟩) (v:=?_) rfl (by kernel_rfl) (by kernel_rfl) (by kernel_rfl) (fun _ _ _ h=>h) (Or.inl ⟨by rfl,?_⟩) hHeld ?_
 rotate_left
 · (intro W hSw;obtain⟨t0,t1,t2,t3⟩:=hSw;go_simp<;>with_reducible rfl)
 try simp only[Act.put,List.setIfInBounds_toArray,List.set_cons_zero,List.set_cons_succ]
 refine wpAnyH_take (i:=1) (oi:=⟨some 54,Op.move (Operand.tmp 0),_,_,_,none⟩) (v:=?_) rfl (by kernel_rfl) (by kernel_rfl) (by kernel_rfl) (fun _ _ _ h=>h) (Or.inl ⟨by rfl,?_⟩) hHeld ?_
 rotate_left
 · (intro W hSw;obtain⟨t0,t1,t2,t3⟩:=hSw;go_simp<;>with_reducible rfl)
 try simp only[Act.put,List.setIfInBounds_toArray,List.set_cons_zero,List.set_cons_succ]
 refine wpAnyH_take (i:=2) (oi:=⟨some 55,Op.nilCheck (Operand.tmp 54),_,_,_,none⟩) (v:=?_) rfl (by kernel_rfl) (by kernel_rfl) (by kernel_rfl) (fun _ _ _ h=>h) (Or.inl ⟨by rfl,?_⟩) hHeld ?_
 rotate_left
 · (intro W hSw;obtain⟨t0,t1,t2,t3⟩:=hSw;go_simp<;>with_reducible rfl)
 try simp only[Act.put,List.setIfInBounds_toArray,List.set_cons_zero,List.set_cons_succ]
 refine wpAnyH_take (i:=3) (oi:=⟨some 56,Op.fieldAddr 78 (Operand.tmp 55) 0,_,_,_,none⟩) (v:=?_) rfl (by kernel_rfl) (by kernel_rfl) (by kernel_rfl) (fun _ _ _ h=>h) (Or.inl ⟨by rfl,?_⟩) hHeld ?_
 rotate_left
 · (intro W hSw;obtain⟨t0,t1,t2,t3⟩:=hSw;go_simp<;>with_reducible rfl)
 try simp only[Act.put,List.setIfInBounds_toArray,List.set_cons_zero,List.set_cons_succ]
 refine wpAnyH_take (i:=4) (oi:=⟨some 57,Op.fieldAddr 28 (Operand.tmp 56) 2,_,_,_,none⟩) (v:=?_) rfl (by kernel_rfl) (by kernel_rfl) (by kernel_rfl) (fun _ _ _ h=>h) (Or.inl ⟨by rfl,?_⟩) hHeld ?_
 rotate_left
 · (intro W hSw;obtain⟨t0,t1,t2,t3⟩:=hSw;go_simp<;>with_reducible rfl)
 try simp only[Act.put,List.setIfInBounds_toArray,List.set_cons_zero,List.set_cons_succ]
 refine wpAnyH_take (i:=6) (oi:=⟨some 59,Op.fieldAddr 31 (Operand.tmp 3) 1,_,_,_,none⟩) (v:=?_) rfl (by kernel_rfl) (by kernel_rfl) (by kernel_rfl) (fun _ _ _ h=>h) (Or.inl ⟨by rfl,?_⟩) hHeld ?_
 rotate_left
 · (intro W hSw;obtain⟨t0,t1,t2,t3⟩:=hSw;go_simp<;>with_reducible rfl)
 try simp only[Act.put,List.setIfInBounds_toArray,List.set_cons_zero,List.set_cons_succ]
 refine wpAnyH_take (i:=7) (oi:=⟨some 60,Op.load 9 (Operand.tmp 59),_,_,_,none⟩) (v:=?_) rfl (by kernel_rfl) (by kernel_rfl) (by kernel_rfl) (fun _ _ _ h=>h) (Or.inl ⟨by rfl,?_⟩) hHeld ?_
 rotate_left
 · (intro W hSw;obtain⟨t0,t1,t2,t3⟩:=hSw;go_simp<;>with_reducible rfl)
 try simp only[Act.put,List.setIfInBounds_toArray,List.set_cons_zero,List.set_cons_succ]
 refine wpAnyH_take (i:=8) (oi:=⟨some 61,Op.fieldAddr 31 (Operand.tmp 3) 6,_,_,_,none⟩) (v:=?_) rfl (by kernel_rfl) (by kernel_rfl) (by kernel_rfl) (fun _ _ _ h=>h) (Or.inl ⟨by rfl,?_⟩) hHeld ?_
 rotate_left
 · (intro W hSw;obtain⟨t0,t1,t2,t3⟩:=hSw;go_simp<;>with_reducible rfl)
 try simp only[Act.put,List.setIfInBounds_toArray,List.set_cons_zero,List.set_cons_succ]
 refine wpAnyH_take (i:=9) (oi:=⟨some 62,Op.load 3 (Operand.tmp 61),_,_,_,none⟩) (v:=?_) rfl (by kernel_rfl) (by kernel_rfl) (by kernel_rfl) (fun _ _ _ h=>h) (Or.inl ⟨by rfl,?_⟩) hHeld ?_
 rotate_left
 · (intro W hSw;obtain⟨t0,t1,t2,t3⟩:=hSw;go_simp<;>with_reducible rfl)
 try simp only[Act.put,List.setIfInBounds_toArray,List.set_cons_zero,List.set_cons_succ]
 refine wpAnyH_take (i:=10) (oi:=⟨some 63,Op.fieldAddr 31 (Operand.tmp 3) 7,_,_,_,none⟩) (v:=?_) rfl (by kernel_rfl) (by kernel_rfl) (by kernel_rfl) (fun _ _ _ h=>h) (Or.inl ⟨by rfl,?_⟩) hHeld ?_
 rotate_left
 · (intro W hSw;obtain⟨t0,t1,t2,t3⟩:=hSw;go_simp<;>with_reducible rfl)
 try simp only[Act.put,List.setIfInBounds_toArray,List.set_cons_zero,List.set_cons_succ]
 refine wpAnyH_take (i:=11) (oi:=⟨some 64,Op.load 3 (Operand.tmp 63),_,_,_,none⟩) (v:=?_) rfl (by kernel_rfl) (by kernel_rfl) (by kernel_rfl) (fun _ _ _ h=>h) (Or.inl ⟨by rfl,?_⟩) hHeld ?_
 rotate_left
 · (intro W hSw;obtain⟨t0,t1,t2,t3⟩:=hSw;go_simp<;>with_reducible rfl)
 try simp only[Act.put,List.setIfInBounds_toArray,List.set_cons_zero,List.set_cons_succ]
 refine wpAnyH_take (i:=12) (oi:=⟨some 65,Op.fieldAddr 31 (Operand.tmp 3) 5,_,_,_,none⟩) (v:=?_) rfl (by kernel_rfl) (by kernel_rfl) (by kernel_rfl) (fun _ _ _ h=>h) (Or.inl ⟨by rfl,?_⟩) hHeld ?_
 rotate_left
 · (intro W hSw;obtain⟨t0,t1,t2,t3⟩:=hSw;go_simp<;>with_reducible rfl)
 try simp only[Act.put,List.setIfInBounds_toArray,List.set_cons_zero,List.set_cons_succ]
 refine wpAnyH_take (i:=13) (oi:=⟨some 66,Op.load 9 (Operand.tmp 65),_,_,_,none⟩) (v:=?_) rfl (by kernel_rfl) (by kernel_rfl) (by kernel_rfl) (fun _ _ _ h=>h) (Or.inl ⟨by rfl,?_⟩) hHeld ?_
 rotate_left
 · (intro W hSw;obtain⟨t0,t1,t2,t3⟩:=hSw;go_simp<;>with_reducible rfl)
 try simp only[Act.put,List.setIfInBounds_toArray,List.set_cons_zero,List.set_cons_succ]
 refine wpAnyH_take (i:=14) (oi:=⟨some 67,Op.move (Operand.tmp 0),_,_,_,none⟩) (v:=?_) rfl (by kernel_rfl) (by kernel_rfl) (by kernel_rfl) (fun _ _ _ h=>h) (Or.inl ⟨by rfl,?_⟩) hHeld ?_
 rotate_left
 · (intro W hSw;obtain⟨t0,t1,t2,t3⟩:=hSw;go_simp<;>with_reducible rfl)
 try simp only[Act.put,List.setIfInBounds_toArray,List.set_cons_zero,List.set_cons_succ]
 refine wpAnyH_take (i:=15) (oi:=⟨some 68,Op.nilCheck (Operand.tmp 67),_,_,_,none⟩) (v:=?_) rfl (by kernel_rfl) (by kernel_rfl) (by kernel_rfl) (fun _ _ _ h=>h) (Or.inl ⟨by rfl,?_⟩) hHeld ?_
 rotate_left
 · (intro W hSw;obtain⟨t0,t1,t2,t3⟩:=hSw;go_simp<;>with_reducible rfl)
 try simp only[Act.put,List.setIfInBounds_toArray,List.set_cons_zero,List.set_cons_succ]
 refine wpAnyH_take (i:=16) (oi:=⟨some 69,Op.fieldAddr 78 (Operand.tmp 68) 0,_,_,_,none⟩) (v:=?_) rfl (by kernel_rfl) (by kernel_rfl) (by kernel_rfl) (fun _ _ _ h=>h) (Or.inl ⟨by rfl,?_⟩) hHeld ?_
 rotate_left
 · (intro W hSw;obtain⟨t0,t1,t2,t3⟩:=hSw;go_simp<;>with_reducible rfl)
 try simp only[Act.put,List.setIfInBounds_toArray,List.set_cons_zero,List.set_cons_succ]
 refine wpAnyH_take (i:=17) (oi:=⟨some 70,Op.fieldAddr 28 (Operand.tmp 69) 3,_,_,_,none⟩) (v:=?_) rfl (by kernel_rfl) (by kernel_rfl) (by kernel_rfl) (fun _ _ _ h=>h) (Or.inl ⟨by rfl,?_⟩) hHeld ?_
 rotate_left
 · (intro W hSw;obtain⟨t0,t1,t2,t3⟩:=hSw;go_simp<;>with_reducible rfl)
 try simp only[Act.put,List.setIfInBounds_toArray,List.set_cons_zero,List.set_cons_succ]
 refine laterH (p:=?_) (fun rest=>?_) ?_
 rotate_left
 · skip
   refine wpAnyH_ready (rs:=[5,18]) (by kernel_rfl) (by simp) ?_
   refine AllReadyH.cons (o:=⟨some 58,Op.load 26 (Operand.tmp 57),_,_,_,none⟩) rfl (fun K hK=>?_) (AllReadyH.cons (o:=⟨some 71,Op.load 3 (Operand.tmp 70),_,_,_,none⟩) rfl (fun K hK=>?_) AllReadyH.nil)
   · skip
     have p2:=(HC.out.below hc0).cell 2 rfl;have p3:=(HC.out.below hc0).cell 3 rfl;have p4:=(HC.out.below hc0).cell 4 rfl;have p5:=(HC.out.below hc0).cell 5 rfl;go_simp
     refine hK.out _ _ ⟨(HQX.out.below hc0).cell 1 rfl,(HQX.out.below hc0).cell 6 rfl,(HQX.out.below hc0).cell 7 rfl,(HQX.out.below hc0).cell 5 rfl⟩ (fun hzz=>?_)
     clear hzz hK K p2 p3 p4 p5;try simp only[Act.put,List.setIfInBounds_toArray,List.set_cons_zero,List.set_cons_succ]
     refine wpAnyH_ready (rs:=[18]) (by kernel_rfl) (by simp) ?_
     refine AllReadyH.cons (o:=⟨some 71,Op.load 3 (Operand.tmp 70),_,_,_,none⟩) rfl (fun K hK=>?_) AllReadyH.nil
     have p6:=(HC.out.below hc0).cell 6 rfl;go_simp
     refine hK.out _ _ ⟨(HQX.out.below hc0).cell 1 rfl,(HQX.out.below hc0).cell 6 rfl,(HQX.out.below hc0).cell 7 rfl,(HQX.out.below hc0).cell 5 rfl⟩ (fun hzz=>?_)
     clear hzz hK K p6;try simp only[Act.put,List.setIfInBounds_toArray,List.set_cons_zero,List.set_cons_succ]
     exact rest.out
   · skip
     have p6:=(HC.out.below hc0).cell 6 rfl;go_simp
     refine hK.out _ _ ⟨(HQX.out.below hc0).cell 1 rfl,(HQX.out.below hc0).cell 6 rfl,(HQX.out.below hc0).cell 7 rfl,(HQX.out.below hc0).cell 5 rfl⟩ (fun hzz=>?_)
     clear hzz hK K p6;try simp only[Act.put,List.setIfInBounds_toArray,List.set_cons_zero,List.set_cons_succ]
     refine wpAnyH_ready (rs:=[5]) (by kernel_rfl) (by simp) ?_
     refine AllReadyH.cons (o:=⟨some 58,Op.load 26 (Operand.tmp 57),_,_,_,none⟩) rfl (fun K hK=>?_) AllReadyH.nil
     have p2:=(HC.out.below hc0).cell 2 rfl;have p3:=(HC.out.below hc0).cell 3 rfl;have p4:=(HC.out.below hc0).cell 4 rfl;have p5:=(HC.out.below hc0).cell 5 rfl;go_simp
     refine hK.out _ _ ⟨(HQX.out.below hc0).cell 1 rfl,(HQX.out.below hc0).cell 6 rfl,(HQX.out.below hc0).cell 7 rfl,(HQX.out.below hc0).cell 5 rfl⟩ (fun hzz=>?_)
     clear hzz hK K p2 p3 p4 p5;try simp only[Act.put,List.setIfInBounds_toArray,List.set_cons_zero,List.set_cons_succ]
     exact rest.out
 refine wpAnyH_ready (rs:=[19]) (by kernel_rfl) (by simp) ?_
 refine AllReadyH.cons (o:=⟨some 72,Op.call ⟨Callee.value (Operand.func 96),#[Operand.tmp 58,Operand.tmp 60,Operand.tmp 62,Operand.tmp 64,Operand.tmp 66,Operand.tmp 71],#[26,9,3,3,9,3]⟩,_,_,_,none⟩) rfl (fun K hK=>?_) AllReadyH.nil
 go_simp
 refine(HOP.out c0 _ (HLS.out.below hc0)).mono ?_
 rintro e wa ⟨ua,rfl,hla,hba⟩;have hya:Below wz.heap.size wz wa:=below_tr hc0 hba;go_wp2_with fail;refine hK.out _ _ ⟨(HQX.out.below hya).cell 1 rfl,(HQX.out.below hya).cell 6 rfl,(HQX.out.below hya).cell 7 rfl,(HQX.out.below hya).cell 5 rfl⟩ (fun hHeld=>?_)
 clear hK K;try simp only[Act.put,List.setIfInBounds_toArray,List.set_cons_zero,List.set_cons_succ]
 refine wpAnyH_take (i:=20) (oi:=⟨some 73,Op.extract (Operand.tmp 72) 0,_,_,_,none⟩) (v:=?_) rfl (by kernel_rfl) (by kernel_rfl) (by kernel_rfl) (fun _ _ _ h=>h) (Or.inl ⟨by rfl,?_⟩) hHeld ?_
 rotate_left
 · (intro W hSw;obtain⟨t0,t1,t2,t3⟩:=hSw;go_simp<;>with_reducible rfl)
 try simp only[Act.put,List.setIfInBounds_toArray,List.set_cons_zero,List.set_cons_succ]
 refine wpAnyH_take (i:=21) (oi:=⟨some 74,Op.extract (Operand.tmp 72) 1,_,_,_,none⟩) (v:=?_) rfl (by kernel_rfl) (by kernel_rfl) (by kernel_rfl) (fun _ _ _ h=>h) (Or.inl ⟨by rfl,?_⟩) hHeld ?_
 rotate_left
 · (intro W hSw;obtain⟨t0,t1,t2,t3⟩:=hSw;go_simp<;>with_reducible rfl)
 try simp only[Act.put,List.setIfInBounds_toArray,List.set_cons_zero,List.set_cons_succ]
 refine wpAnyH_take (i:=22) (oi:=⟨some 75,Op.extract (Operand.tmp 72) 2,_,_,_,none⟩) (v:=?_) rfl (by kernel_rfl) (by kernel_rfl) (by kernel_rfl) (fun _ _ _ h=>h) (Or.inl ⟨by rfl,?_⟩) hHeld ?_
 rotate_left
 · (intro W hSw;obtain⟨t0,t1,t2,t3⟩:=hSw;go_simp<;>with_reducible rfl)
 try simp only[Act.put,List.setIfInBounds_toArray,List.set_cons_zero,List.set_cons_succ]
 refine wpAnyH_ready (rs:=[23]) (by kernel_rfl) (by simp) ?_
 refine AllReadyH.cons (o:=⟨some 76,Op.call ⟨Callee.value (Operand.func 94),#[Operand.tmp 53,Operand.tmp 73,Operand.tmp 74,Operand.tmp 75],#[71,26,3,33]⟩,_,_,_,none⟩) rfl (fun K hK=>?_) AllReadyH.nil
 go_simp
 refine(stake_any H U.ss _ U.nx U.la U.ro U.num U.e g mb wa (HSZ.out.below hya) hla).mono ?_
 rintro e wb ⟨rfl,hsb,hgb⟩;have HSB:=hid hsb;have HNB:=hid (show Nb2 w wb g (bo vf g)from(Nb2.of_below _ _ (below_tr hbz hya)).trans (Nb2.of_left _ hgb));have HQB:=hid ((HQX.out.below hya).nb hgb (by omega));clear hsb hgb hla;go_wp2_with fail;refine hK.out _ _ ⟨HQB.out.cell 1 rfl,HQB.out.cell 6 rfl,HQB.out.cell 7 rfl,HQB.out.cell 5 rfl⟩ (fun hHeld=>?_)
 clear hK K;try simp only[Act.put,List.setIfInBounds_toArray,List.set_cons_zero,List.set_cons_succ]
 refine wpAnyH_take (i:=24) (oi:=⟨some 77,Op.extract (Operand.tmp 76) 0,_,_,_,none⟩) (v:=?_) rfl (by kernel_rfl) (by kernel_rfl) (by kernel_rfl) (fun _ _ _ h=>h) (Or.inl ⟨by rfl,?_⟩) hHeld ?_
 rotate_left
 · (intro W hSw;obtain⟨t0,t1,t2,t3⟩:=hSw;go_simp<;>with_reducible rfl)
 try simp only[Act.put,List.setIfInBounds_toArray,List.set_cons_zero,List.set_cons_succ]
 refine wpAnyH_take (i:=25) (oi:=⟨some 78,Op.extract (Operand.tmp 76) 1,_,_,_,none⟩) (v:=?_) rfl (by kernel_rfl) (by kernel_rfl) (by kernel_rfl) (fun _ _ _ h=>h) (Or.inl ⟨by rfl,?_⟩) hHeld ?_
 rotate_left
 · (intro W hSw;obtain⟨t0,t1,t2,t3⟩:=hSw;go_simp<;>with_reducible rfl)
 try simp only[Act.put,List.setIfInBounds_toArray,List.set_cons_zero,List.set_cons_succ]
 refine wpAnyH_take (i:=26) (oi:=⟨some 4,Op.assign (Operand.tmp 77),_,_,_,none⟩) (v:=?_) rfl (by kernel_rfl) (by kernel_rfl) (by kernel_rfl) (fun _ _ _ h=>h) (Or.inl ⟨by rfl,?_⟩) hHeld ?_
 rotate_left
 · (intro W hSw;obtain⟨t0,t1,t2,t3⟩:=hSw;go_simp<;>with_reducible rfl)
 try simp only[Act.put,List.setIfInBounds_toArray,List.set_cons_zero,List.set_cons_succ]
 refine wpAnyH_take (i:=27) (oi:=⟨some 5,Op.assign (Operand.tmp 78),_,_,_,none⟩) (v:=?_) rfl (by kernel_rfl) (by kernel_rfl) (by kernel_rfl) (fun _ _ _ h=>h) (Or.inl ⟨by rfl,?_⟩) hHeld ?_
 rotate_left
 · (intro W hSw;obtain⟨t0,t1,t2,t3⟩:=hSw;go_simp<;>with_reducible rfl)
 try simp only[Act.put,List.setIfInBounds_toArray,List.set_cons_zero,List.set_cons_succ]
 refine wpAnyH_done (by kernel_rfl) ?_ _
 go_wp2_with fail;go_ret2;exact⟨rfl,HSB.out,HNB.out⟩
end Go.Proofs.YtppdfeehhnofaaaGreatDoor
