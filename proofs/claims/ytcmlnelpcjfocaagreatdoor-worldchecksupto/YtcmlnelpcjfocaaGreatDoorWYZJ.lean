/- The wire is begun: the document's example 8, asked and read. -/
import Derived.Test.YtcmlnelpcjfocaaGreatDoorWYZF
import Derived.Test.YtcmlnelpcjfocaaGreatDoorWYZH
import Derived.Test.YtcmlnelpcjfocaaGreatDoorWYY
import Derived.Test.YtcmlnelpcjfocaaGreatDoorWYZB
import Derived.LaidLaws
set_option linter.unusedSimpArgs false
set_option linter.unusedVariables false
namespace Go.Proofs.YtcmlnelpcjfocaaGreatDoor
open Go.RowKit Go.ChangeShapes Go.WideShapes Go.Proofs.Tryz
set_option maxHeartbeats 4000000
set_option maxRecDepth 100000
theorem yy {d:Type} {p:bk d} {enc:d→List aN} {f:d→Prop} (E:fL p enc f) {l:List UInt8} {x:d}:Wr.whole (p l)=some x↔f x∧l=Wr.bytes (enc x):=by
 have A:=E l x [];rw[List.append_nil]at A;rw[←A];cases h:p l with
 |none=>simp[Wr.whole]
 |some z=>
  obtain⟨y,r⟩:=z
  cases r with
  |nil=>simp[Wr.whole]
  |cons a r=>simp[Wr.whole]
theorem sU {l:List UInt8} {q:Rq}:Wr.whole (dK ah 1000 l)=some q↔Wr.ok (dE q)=true∧l=Wr.bytes (dE q):=by
 rw[xW];exact yy (xR xf (fun n h=>sG n (by omega)) 1000)
def br:Rq:=⟨2,⟨#[97]⟩,⟨#[102]⟩,⟨#[]⟩,⟨#[]⟩,⟨#[]⟩,0,0,0,[]⟩
def bV:List UInt8:=[50,59,49,59,97,49,59,102,48,59,48,59,48,59,48,59,48,59,48,59,48,59]
theorem sV (u:Nat) (h:u<10):Lib.itoa u=[UInt8.ofNat (48+u)]:=by rw[Lib.itoa_nonneg,Lib.decDigits,dif_pos h]
theorem aZ:Lib.itoa 0=[48]:=sV 0 (by omega)
theorem dc:Lib.itoa 1=[49]:=sV 1 (by omega)
theorem fN:Lib.itoa 2=[50]:=sV 2 (by omega)
theorem yz:Wr.bytes (dE br)=bV:=by
 have d:(⟨#[]⟩:ByteArray).size=0:=rfl;have f:(⟨#[97]⟩:ByteArray).size=1:=rfl;have y:(⟨#[102]⟩:ByteArray).size=1:=rfl;simp[dE,br,Wr.lst,Wr.bytes,aN.bytes,aZ,dc,fN,d,f,y,bV]
theorem yA:Wr.ok (dE br)=true:=by decide
theorem FL:cI (Wr.run aL (dE br))=(⟨bV.toArray⟩,0):=by rw[mR yA,yz]
theorem FM:Wr.whole (dK ah 1000 bV)=some br:=sU.2 ⟨yA,yz.symm⟩
theorem FN:pe br:=by
 refine⟨?_,?_,?_,?_,?_,?_,?_,?_,?_,?_⟩
 · exact⟨by decide,by decide⟩
 · exact⟨by decide,by decide⟩
 · exact⟨by decide,by decide⟩
 · exact⟨by decide,by decide⟩
 · show(1:Int)≤_;decide
 · show(1:Int)≤_;decide
 · show(0:Int)≤_;decide
 · show(0:Int)≤_;decide
 · show(0:Int)≤_;decide
 · intro c d;exact absurd d (by simp[br])
theorem FO (L:List En) (v:Value) (p q t:ByteArray) (b n:Int) (w:World) (hv:an w v L) (hs: ∀e∈L,e.path.size≤1000000000) (hp:p.size≤1000000000) (hq:q.size≤1000000000) (ht:t.size≤1000000000) (hL:Pp.Good L) (hc:aQ ⟨4,p,q,t,b⟩=0) (H0:Hid (aP L (aC p.data.toList)=0)) (j:Nat) (hj:j<L.length) (HI:Hid (db L p.data.toList=(j:Int))):
    Calls prog 129 #[v,.agg #[.int .i64 4,.string p,.string q,.string t,.int .i64 b],.int .i64 n] w fun e w'=> ∃u,e= .returned (.tuple #[u,.int .i64 (cz L ⟨4,p,q,t,b⟩ n)])∧(cz L ⟨4,p,q,t,b⟩ n=0→an w' u (cQ L ⟨4,p,q,t,b⟩ n))∧Below w.heap.size w w':=by
 obtain⟨aZ,J0,J1,J2,J3⟩:=info_parts Tryz.infoE
 have HV:=hid hv;have HC:=hid hc;have HS:=hid hs;have HR:=hid hL.rise;have Jb:=hid hL;have J7:L.length≤60:=hL.len;have IY: -1≤b:=(kH hc).2.2.2.1;have Jh:t.size≤1000000000:=by exact ht
 have HE:=hid (show gx L ⟨4,p,q,t,b⟩ n=0 from rfl);have HQ:=hid (show cQ L ⟨4,p,q,t,b⟩ n=L.filter (fun e=> !be p.data.toList e)from rfl);have Jg:(j:Int)<L.length:=by omega
 obtain⟨a,Jc,rfl,J6,IZ,IH⟩:=hv
 have HL:Hid (∀i (h:i<L.length),∃b o,a=some ⟨b,o,none⟩∧b<w.heap.size∧dp w b (o+i*4) L[i]):=IH;obtain⟨C,hC⟩: ∃C:ay,C=⟨4,p,q,t,b⟩:=⟨_,rfl⟩
 rw[←hC]at HC HE HQ⊢;have Iw:=hid hC;clear hC IH hL hs hc;go_enter func129,ntmps129
 go_wp2_with fail;refine(gP _ p q _ b _ hp hq (by omega)).mono ?_
 rintro e w1 ⟨rfl,J⟩;rw[←Iw.out,HC.out];obtain⟨c0,Q,c2,c3,V,d,E⟩:=aw J
 go_wp2_with fail;refine(gB p _ hp).mono ?_
 rintro e w2 ⟨rfl,IJ⟩;have Y:=J.trans (IJ.mono J.size);clear c0 Q c2 c3 V d E J IJ;obtain⟨c0,Q,c2,c3,V,d,E⟩:=aw Y
 go_wp2_with fail;refine(gD L _ ⟨(aC p.data.toList).toArray⟩ _ (HV.out.below d)).mono ?_
 rintro e w3 ⟨rfl,IK⟩;rw[show aP L _=0 from H0.out];have Z:=Y.trans (IK.mono Y.size);clear c0 Q c2 c3 V d E Y IK;obtain⟨c0,Q,c2,c3,V,d,E⟩:=aw Z
 go_wp2_with fail;refine(fR L _ p _ (HV.out.below d)).mono ?_
 rintro e w4 ⟨rfl,IL⟩;rw[HI.out];have Iz:=Z.trans (IL.mono Z.size);clear c0 Q c2 c3 V d E Z IL;obtain⟨c0,Q,c2,c3,V,d,E⟩:=aw Iz
 have HB:=hid Iz;go_wp2_with fail;clear c0 Q c2 c3 V d E;go_loopw [11] (fun i wr=> ∃m:Nat,m≤L.length∧i= .int .i64 m∧Hid (∀j (h:j<L.length),j<m→dd p.data.toList b L[j]=false)∧Below w4.heap.size w4 wr) (fun i _=>L.length-(intOf i).toNat)
 case atStart=>exact⟨0,Nat.zero_le _,rfl,(fun j _ h=>absurd h (Nat.not_lt_zero _): ∀j (h:j<L.length),j<0→dd p.data.toList b L[j]=false),Below.refl _ _⟩
 case round=>
  obtain⟨m,hm,rfl,HP,z⟩:=hrel
  have I8:=HB.out.trans (z.mono HB.out.size);obtain⟨c0,Q,c2,c3,V,d,E⟩:=aw I8
  by_cases IP:m<L.length∧0≤b
  · obtain⟨Iy,IX⟩:=IP
    obtain⟨b1,o1,Ix,J,he⟩:=HL.out m Iy
    first|subst Ix|(have II:=Option.some.inj Ix;injection II with e1 aE e3;have IV:=e1.symm;have IW:=aE.symm;subst IV;subst IW)
    obtain⟨d0,d1,d2,d3⟩:=he.below J d
    have I6:b1<wr.heap.size:=Nat.lt_of_lt_of_le J d.size;cases H:aU (L[m]).path.data.toList p.data.toList with
    |false=>
     have IC:=hid H;have P:=hid (nI (b:=b) (e:=L[m]) H);clear H;go_wp2_with fail;refine wp_region_held_drew (S:=fun W=>W.cell? ⟨b1,o1+m*4,none⟩=some (.string L[m].path)∧W.cell? ⟨w.heap.size,1,none⟩=some (.string p)) (by kernel_rfl) ⟨by simpa using d0,by simpa using Q⟩ (fun y=>?_)
     refine wpAnyH_take (i:=0) (oi:=⟨some 103,Op.move (Operand.tmp 0),44,_,_,none⟩) (v:=?_) rfl (by kernel_rfl) (by kernel_rfl) (by kernel_rfl) (fun _ _ _ h=>h) (Or.inl ⟨by rfl,?_⟩) y ?_
     rotate_left
     · (intro W F;obtain⟨s0,s1⟩:=F;go_simp<;>with_reducible rfl)
     simp only[Act.put,List.setIfInBounds_toArray,List.set_cons_zero,List.set_cons_succ];refine wpAnyH_take (i:=1) (oi:=⟨some 104,Op.move (Operand.tmp 11),3,_,_,none⟩) (v:=?_) rfl (by kernel_rfl) (by kernel_rfl) (by kernel_rfl) (fun _ _ _ h=>h) (Or.inl ⟨by rfl,?_⟩) y ?_
     rotate_left
     · (intro W F;obtain⟨s0,s1⟩:=F;go_simp<;>with_reducible rfl)
     simp only[Act.put,List.setIfInBounds_toArray,List.set_cons_zero,List.set_cons_succ];refine wpAnyH_take (i:=2) (oi:=⟨some 105,Op.indexAddr 44 (Operand.tmp 103) (Operand.tmp 104),0,_,_,none⟩) (v:=?_) rfl (by kernel_rfl) (by kernel_rfl) (by kernel_rfl) (fun _ _ _ h=>h) (Or.inl ⟨by rfl,?_⟩) y ?_
     rotate_left
     · (intro W F;obtain⟨s0,s1⟩:=F;go_simp<;>with_reducible rfl)
     simp only[Act.put,List.setIfInBounds_toArray,List.set_cons_zero,List.set_cons_succ];refine wpAnyH_take (i:=3) (oi:=⟨some 106,Op.fieldAddr 107 (Operand.tmp 105) 0,0,_,_,none⟩) (v:=?_) rfl (by kernel_rfl) (by kernel_rfl) (by kernel_rfl) (fun _ _ _ h=>h) (Or.inl ⟨by rfl,?_⟩) y ?_
     rotate_left
     · (intro W F;obtain⟨s0,s1⟩:=F;go_simp<;>with_reducible rfl)
     simp only[Act.put,List.setIfInBounds_toArray,List.set_cons_zero,List.set_cons_succ];refine wpAnyH_take (i:=4) (oi:=⟨some 107,Op.load 9 (Operand.tmp 106),9,_,_,none⟩) (v:=?_) rfl (by kernel_rfl) (by kernel_rfl) (by kernel_rfl) (fun _ _ _ h=>h) (Or.inl ⟨by rfl,?_⟩) y ?_
     rotate_left
     · (intro W F;obtain⟨s0,s1⟩:=F;go_simp<;>with_reducible rfl)
     simp only[Act.put,List.setIfInBounds_toArray,List.set_cons_zero,List.set_cons_succ];refine wpAnyH_take (i:=5) (oi:=⟨some 108,Op.fieldAddr 72 (Operand.tmp 4) 1,0,_,_,none⟩) (v:=?_) rfl (by kernel_rfl) (by kernel_rfl) (by kernel_rfl) (fun _ _ _ h=>h) (Or.inl ⟨by rfl,?_⟩) y ?_
     rotate_left
     · (intro W F;obtain⟨s0,s1⟩:=F;go_simp<;>with_reducible rfl)
     simp only[Act.put,List.setIfInBounds_toArray,List.set_cons_zero,List.set_cons_succ];refine wpAnyH_take (i:=6) (oi:=⟨some 109,Op.load 9 (Operand.tmp 108),9,_,_,none⟩) (v:=?_) rfl (by kernel_rfl) (by kernel_rfl) (by kernel_rfl) (fun _ _ _ h=>h) (Or.inl ⟨by rfl,?_⟩) y ?_
     rotate_left
     · (intro W F;obtain⟨s0,s1⟩:=F;go_simp<;>with_reducible rfl)
     simp only[Act.put,List.setIfInBounds_toArray,List.set_cons_zero,List.set_cons_succ];refine wpAnyH_ready (rs:=[7]) (by kernel_rfl) (by simp) ?_
     refine AllReadyH.cons (o:=⟨some 110,Op.call ⟨Callee.value (Operand.func 163),#[Operand.tmp 107,Operand.tmp 109],#[9,9]⟩,4,_,_,none⟩) rfl (fun K hK=>?_) AllReadyH.nil
     go_simp
     refine(fX L[m].path p _ (HS.out _ (List.getElem_mem Iy)) hp).mono ?_
     rintro e U ⟨rfl,A⟩;rw[IC.out];have k1:U.cell? ⟨b1,o1+m*4,none⟩=some (.string L[m].path):=(A.cell (p:=⟨b1,o1+m*4,none⟩) I6).trans d0;have k2:U.cell? ⟨w.heap.size,1,none⟩=some (.string p):=(A.cell (p:=⟨w.heap.size,1,none⟩) E).trans Q;go_wp2_with fail;refine hK.out _ _ ⟨k1,k2⟩ (fun y=>?_)
     clear hK K;try simp only[Act.put,List.setIfInBounds_toArray,List.set_cons_zero,List.set_cons_succ]
     refine wpAnyH_take (i:=8) (oi:=⟨some 111,Op.move (Operand.tmp 110),4,_,_,none⟩) (v:=?_) rfl (by kernel_rfl) (by kernel_rfl) (by kernel_rfl) (fun _ _ _ h=>h) (Or.inl ⟨by rfl,?_⟩) y ?_
     rotate_left
     · (intro W F;obtain⟨s0,s1⟩:=F;go_simp<;>with_reducible rfl)
     simp only[Act.put,List.setIfInBounds_toArray,List.set_cons_zero,List.set_cons_succ];refine mu (g:=8) (dg:=111) (by kernel_rfl) (by kernel_rfl) (fun _ _ _ _ _ h=>h) y (fuel:=1) [(9,112),(10,113),(11,114),(12,115),(13,116),(14,117),(15,118),(16,119)] _ _ (by kernel_rfl) (by kernel_rfl) ?_
     simp only[lD,lE,Act.put,List.setIfInBounds_toArray,List.set_cons_zero,List.set_cons_succ];refine wpAnyH_take (i:=17) (oi:=⟨some 120,Op.pick (Operand.tmp 111) (Operand.tmp 119) (Operand.const (Value.bool false)),4,_,_,none⟩) (v:=?_) rfl (by kernel_rfl) (by kernel_rfl) (by kernel_rfl) (fun _ _ _ h=>h) (Or.inl ⟨by rfl,?_⟩) y ?_
     rotate_left
     · (intro W F;obtain⟨s0,s1⟩:=F;go_simp<;>with_reducible rfl)
     simp only[Act.put,List.setIfInBounds_toArray,List.set_cons_zero,List.set_cons_succ];refine wpAnyH_done (by kernel_rfl) ?_ _
     have N:Below w4.heap.size w4 U:=z.drew.trans (A.mono z.drew.size);go_wp2_with fail;go_roundw
     case rel=>exact⟨m+1,by omega,by simp,(fun j h1 h2=>by
      by_cases e:j=m
      · subst e;exact P.out
      · exact HP.out j h1 (by omega): ∀j (h:j<L.length),j<m+1→dd p.data.toList b L[j]=false),N⟩
     case measure=>simp[intOf];omega
    |true=>
     have IC:=hid H;have HY:=hid (show b<(L[m]).ver→ ∀(k:Int) (q t:ByteArray),dP L ⟨k,p,q,t,b⟩=true from fun I5 k q t=>nH IX Iy H I5);clear H;go_wp2_with fail
     go_region_held3 (fun W=>W.cell? ⟨b1,o1+m*4,none⟩=some (.string L[m].path)∧W.cell? ⟨w.heap.size,1,none⟩=some (.string p)∧W.cell? ⟨b1,o1+m*4+3,none⟩=some (.int .i64 L[m].ver)∧W.cell? ⟨w.heap.size,4,none⟩=some (.int .i64 b)) (go_keep) (first
      |(go_at_call 163;refine(fX L[m].path p _ (HS.out _ (List.getElem_mem Iy)) hp).mono ?_;rintro e U ⟨rfl,A⟩;rw[IC.out];have k1:U.cell? ⟨b1,o1+m*4,none⟩=some (.string L[m].path):=(A.cell (p:=⟨b1,o1+m*4,none⟩) I6).trans d0;have k2:U.cell? ⟨w.heap.size,1,none⟩=some (.string p):=(A.cell (p:=⟨w.heap.size,1,none⟩) E).trans Q;have k3:U.cell? ⟨b1,o1+m*4+3,none⟩=some (.int .i64 L[m].ver):=(A.cell (p:=⟨b1,o1+m*4+3,none⟩) I6).trans d3;have k4:U.cell? ⟨w.heap.size,4,none⟩=some (.int .i64 b):=(A.cell (p:=⟨w.heap.size,4,none⟩) E).trans V))
     by_cases I5:b<(L[m]).ver
     · have P:=hid (HY.out I5)
       have IN:Below w.heap.size w U:=d.drew.trans (A.mono d.drew.size);go_wp2_with fail;go_ret2;exact⟨_,by rw[cz,if_pos (by rw[Iw.out];exact P.out _ _ _)];rfl,fun h=>by rw[cz,if_pos (by rw[Iw.out];exact P.out _ _ _)]at h;exact absurd h (by decide),IN⟩
     · have P:=hid (nJ (p:=p.data.toList) (b:=b) (e:=L[m]) I5)
       have N:Below w4.heap.size w4 U:=z.drew.trans (A.mono z.drew.size);go_wp2_with fail;go_roundw
       case rel=>exact⟨m+1,by omega,by simp,(fun j h1 h2=>by
        by_cases e:j=m
        · subst e;exact P.out
        · exact HP.out j h1 (by omega): ∀j (h:j<L.length),j<m+1→dd p.data.toList b L[j]=false),N⟩
       case measure=>simp[intOf];omega
  · have hN:dP L C=false:=by
     rw[Iw.out];exact nG IY (fun j h h0=>HP.out j h (by omega))
    have HN:=hid hN;have IS: ¬m<L.length∨(m<L.length∧ ¬0≤b):=by omega
    clear hN IP HP hm;rcases IS with IS|⟨J8,J9⟩
    all_goals
     go_wp2_with fail;have I7:=hid I8;have IT:=hid d;have IQ:=E;have IM:=d.size;clear c0 Q c2 c3 V E z d I8;obtain⟨wf,IF⟩: ∃wf,wf=wr:=⟨_,rfl⟩
     rw[←IF];rw[←IF]at I7 IT IQ IM;clear IF;go_loopw [12,13] (fun o i wr=> ∃x:Nat,x≤L.length∧i= .int .i64 x∧wr.ownsRow wf.heap.size 107 4 o ((L.take x).filter (fun e=> !be p.data.toList e)).length (cr ((L.take x).filter (fun e=> !be p.data.toList e)))∧Below wf.heap.size wf wr) (fun _ i _=>L.length-(intOf i).toNat)
     case atStart=>exact⟨0,Nat.zero_le _,rfl,World.ownsRow_nil _ _ _ _,Below.refl _ _⟩
     case round=>
      obtain⟨x,hx,rfl,I,z⟩:=hrel
      have I9:=I7.out.trans (z.mono I7.out.size);obtain⟨c0,Q,c2,c3,V,d,E⟩:=aw I9
      by_cases ID:x<L.length
      · obtain⟨b1,o1,Ix,J,he⟩:=HL.out x ID
        subst Ix;obtain⟨d0,d1,d2,d3⟩:=he.below J d
        have I6:b1<wr.heap.size:=Nat.lt_of_lt_of_le J d.size;have Jf:((L.take x).filter (fun e=> !be p.data.toList e)).length≤60:=Nat.le_trans (List.length_filter_le _ _) (by rw[List.length_take];omega);have I0:=oN (f:=fun e=> !be p.data.toList e) ID;go_wp2_with fail
        go_region_held3 (fun W=>W.cell? ⟨b1,o1+x*4,none⟩=some (.string L[x].path)∧W.cell? ⟨w.heap.size,1,none⟩=some (.string p)) (go_keep) (first
         |(go_at_call 163;refine(fX L[x].path p _ (HS.out _ (List.getElem_mem ID)) hp).mono ?_;rintro e U ⟨rfl,A⟩;have k1:U.cell? ⟨b1,o1+x*4,none⟩=some (.string L[x].path):=(A.cell (p:=⟨b1,o1+x*4,none⟩) I6).trans d0;have k2:U.cell? ⟨w.heap.size,1,none⟩=some (.string p):=(A.cell (p:=⟨w.heap.size,1,none⟩) E).trans Q))
        have O:=gK I.drew A;have G:Below wf.heap.size wf U:=z.drew.trans (A.mono z.drew.size);have IA:Below w.heap.size w U:=d.drew.trans (A.mono d.drew.size);clear c0 Q c2 c3 V I9 I z d d0 d1 d2 d3 E I6;cases H:be p.data.toList L[x]with
        |true=>
         have T:aU (L[x]).path.data.toList p.data.toList=true:=H;have P:=hid (show(L.take (x+1)).filter (fun e=> !be p.data.toList e)=(L.take x).filter (fun e=> !be p.data.toList e)from by rw[I0];simp[H]);have HO:=hid O;clear I0 H O k1 k2 A;rw[T];clear T;go_wp2_with fail;go_roundw
         case rel=>exact⟨x+1,by omega,by simp,by rw[P.out];exact HO.out,G⟩
         case measure=>simp[intOf];omega
        |false=>
         have T:aU (L[x]).path.data.toList p.data.toList=false:=H;have P:=hid (show(L.take (x+1)).filter (fun e=> !be p.data.toList e)=(L.take x).filter (fun e=> !be p.data.toList e)++[L[x]]from by rw[I0];simp[H]);obtain⟨d0,d1,d2,d3⟩:=he.below J IA
         generalize (L.take x).filter (fun e=> !be p.data.toList e)=X at*;clear I0 H k1 k2 A;rw[T];clear T;go_wp2_with (at_builtin;refine wpList_append_own _ rfl _ _ 44 rfl wf.heap.size 107 aZ (.agg #[.string ⟨#[]⟩,.bool false,.string ⟨#[]⟩,.int .i64 0]) 4 48 underlying44 J0 J1 J2 J3 rfl (by decide) _ _ _ rfl (O.alloc _) ⟨U.heap.size,0,none⟩ 1 1 (Pp.cells L[x]) rfl rfl (ia U L[x] _) (Pp.cells_one _) (by unfold maxLen;omega) (by omega) (by have:=G.size;simp at this⊢;omega) ?_)
         intro v2 w2 IE IB IR;have N:Below wf.heap.size wf w2:=(G.alloc G.size _).grown IB (by have:=G.size;simp at this⊢;omega) (fun g hg=>by have:=(O.lt g hg).1;simp;omega);rw[iq]at IE;have Iv:w2.ownsRow wf.heap.size 107 4 v2 (X++[L[x]]).length (cr (X++[L[x]])):=by rw[List.length_append];exact IE
         have HO:=hid Iv;clear IE IB IR Iv O G IA d0 d1 d2 d3 he;go_wp2_with fail;go_roundw
         case rel=>exact⟨x+1,by omega,by simp,by rw[P.out];exact HO.out,N⟩
         case measure=>simp[intOf];omega
      · have eL:L.take x=L:=List.take_of_length_le (by omega)
        rw[eL]at I;have HO:=hid I;clear eL I;go_wp2_with fail;go_loopw [12,14] (fun o i wr=>i= .int .i64 0∧wr.ownsRow wf.heap.size 107 4 o (L.filter (fun e=> !be p.data.toList e)).length (cr (L.filter (fun e=> !be p.data.toList e)))∧Below wf.heap.size wf wr) (fun _ _ _=>0)
        case atStart=>exact⟨rfl,HO.out,z⟩
        case round=>
         obtain⟨rfl,I,z⟩:=hrel
         have I9:=I7.out.trans (z.mono I7.out.size);clear c0 Q c2 c3 V d E;obtain⟨c0,Q,c2,c3,V,d,E⟩:=aw I9
         have hK:(L.filter (fun e=> !be p.data.toList e)).length≤L.length:=List.length_filter_le _ _;have IU:Hid (cQ L C n=L.filter (fun e=> !be p.data.toList e)):=(HQ.out:cQ L C n=L.filter (fun e=> !be p.data.toList e))
         generalize L.filter (fun e=> !be p.data.toList e)=M at*;have IG:=hid (kP I (by omega));have Jd: ¬60<(M.length:Int):=by omega
         have Ja:0<(L.length:Int):=by omega
         have HX:=hid (show cz L C n=0 from by rw[cz,if_neg (by rw[HN.out];decide),HE.out]);obtain⟨a6,J4,rfl,Je,J5,_⟩:=IG.out
         clear I hK z I9;go_wp2_with fail;go_ret2;exact⟨_,by rw[HX.out];rfl,fun _=>by rw[IU.out];exact IG.out,d⟩
theorem FP (L:List En) (v:Value) (k:Int) (p q t:ByteArray) (b n:Int) (w:World) (I:an w v L) (A:p.size≤1000000000) (E:q.size≤1000000000) (H:t.size≤1000000000) (G:Pp.Good L) (y:bi n=0):
    Calls prog 129 #[v,.agg #[.int .i64 k,.string p,.string q,.string t,.int .i64 b],.int .i64 n] w fun e w'=> ∃u,e= .returned (.tuple #[u,.int .i64 (bX L ⟨k,p,q,t,b⟩ n)])∧(bX L ⟨k,p,q,t,b⟩ n=0→an w' u (cQ L ⟨k,p,q,t,b⟩ n))∧Below w.heap.size w w':=by
 have N: ∀e∈L,e.path.size≤1000000000:=fun e X=>by
  have:=kK (gv (G.ents e X))
  rw[Lib.size_eq];omega
 by_cases d:aQ ⟨k,p,q,t,b⟩=0
 · by_cases f:bP L ⟨k,p,q,t,b⟩=0
   · have M:bX L ⟨k,p,q,t,b⟩ n=cz L ⟨k,p,q,t,b⟩ n:=by
      rw[bX,if_neg (fun x=>x y),if_neg (fun x=>x d),if_neg (fun x=>x f)];rfl
     rw[M];have V:1≤k∧k≤4:=jT d;obtain⟨J,P⟩:=CV V f
     have F:=kH d;rcases P with⟨rfl,z⟩|⟨rfl,z⟩|⟨rfl,j,K,z,U⟩|⟨rfl,⟨j,K,z⟩,U,S,Q⟩|⟨rfl,j,K,z⟩
     · have T:t=⟨#[]⟩:=by
        rcases F.2.1 with O|O
        · exact absurd (show(1:Int)=2 from O) (by decide)
        · exact Dm O
       subst T;exact FI L v p q b n w I N A E G d (hid (by simpa[Pp.goal]using J)) z
     · exact FJ L v p q t b n w I N A E H G d (hid (by simpa[Pp.goal]using J)) z
     · exact Fm L v p q t b n w I N A E H G d (hid (by simpa[Pp.goal]using J)) j K z U
     · exact FK L v p q t b n w I N A E H G d (hid (by simpa[Pp.goal]using J)) j K z U S Q
     · exact FO L v p q t b n w I N A E H G d (hid (by simpa[Pp.goal]using J)) j K z
   · have M:bX L ⟨k,p,q,t,b⟩ n=bP L ⟨k,p,q,t,b⟩:=vM y d f
     rw[M];refine(CX L v k p q t b n w I A E H d f).mono ?_
     rintro e Y ⟨rfl,hb⟩;exact⟨_,rfl,fun h=>absurd h f,hb⟩
 · have M:bX L ⟨k,p,q,t,b⟩ n=aQ ⟨k,p,q,t,b⟩:=vL y d
   rw[M];refine(CW L v k p q t b n w A E H d).mono ?_
   rintro e Y ⟨rfl,hb⟩;exact⟨_,rfl,fun h=>absurd h d,hb⟩
theorem FQ {n:Int} (h: ¬bi n=0) (L:List En) {cs:List ay} (y:0<cs.length):dG n L cs=(0,3,[]):=by
 cases cs with
 |nil=>simp at y
 |cons c r=>
  have f:bi n=3:=by
   unfold bi at h⊢;split
   · rfl
   · rename_i d;rw[if_neg d]at h;exact absurd rfl h
  rw[dG,if_neg (by rw[qZ h];exact h),qZ h,f]
theorem FR (L:List En) (v:Value) (cs:List ay) (u:Value) (n:Int) (w:World) (hv:an w v L) (hL:Pp.Good L) (hu:cj w u cs) (I0:lo 1000000000 cs):
    Calls prog 88 #[v,u,.int .i64 n] w fun e w'=> ∃r,e= .returned (.tuple #[r,.int .i64 (jS L cs n),.int .i64 (cF L cs n)])∧(cF L cs n=0→an w' r (dQ L cs n))∧Below w.heap.size w w':=by
 have HV:=hid hv;have HL:=hid hL;have I6:=hid I0;have J:=(fP L).2 hL;obtain⟨a,Iv,rfl,Z,Q,hC⟩:=hu
 have HC:Hid (∀i (h:i<cs.length),∃b o,a=some ⟨b,o,none⟩∧b<w.heap.size∧iI w b (o+i*5) cs[i]):=hC;clear hv I0 hC;by_cases V:20<cs.length
 · obtain⟨ae,z,E⟩:=oa J V n
   rw[ae,z];clear ae z E J hL;have X:20<(cs.length:Int):=by omega
   go_enter func88,ntmps88
   go_wp2;go_ret3;exact⟨_,rfl,fun h=>absurd h (by decide),Below.refl _ _⟩
 · have X: ¬20<(cs.length:Int):=by omega
   have y:=hid (show∀k e R,dG n L cs=(k,e,R)→cF L cs n=e∧jS L cs n=k∧dQ L cs n=R from fun k e R h=>pY J V h);clear J hL;by_cases hz:cs.length=0
   · have hn:cs=[]:=List.length_eq_zero_iff.1 hz
     subst hn;obtain⟨ae,z,E⟩:=y.out _ _ _ (Ae n L)
     have G:=hid ae;have H:=hid z;have HR:=hid E;clear ae z E hz;simp only[List.length_nil]at Z Q⊢;go_enter func88,ntmps88
     go_wp2_with fail;go_loopw [0,9] (fun x i wr=>x=v∧i= .int .i64 0∧Below w.heap.size w wr) (fun _ _ _=>0)
     case atStart=>exact⟨rfl,rfl,Below.refl _ _⟩
     case round=>
      obtain⟨rfl,rfl,d⟩:=hrel
      go_wp2_with fail;go_ret3;exact⟨_,by rw[G.out,H.out];rfl,fun _=>by rw[HR.out];exact HV.out.below d,d⟩
   · have Iw:0<(cs.length:Int):=by omega
     by_cases A:bi n=0
     · have U:=hid A
       clear A;go_enter func88,ntmps88
       go_wp2_with fail;refine(mC n _).mono ?_
       rintro e w1 ⟨rfl,hw⟩;rw[hw];clear hw w1;rw[U.out];go_wp2_with fail;go_loopw [0,9] (fun x i wr=> ∃(k:Nat) (S:List En),k≤cs.length∧i= .int .i64 k∧Hid (an wr x S)∧Hid (Pp.Good S)∧Hid (Pp.Left n L cs S k)∧Below w.heap.size w wr) (fun _ i _=>cs.length-(intOf i).toNat)
       case atStart=>exact⟨0,L,Nat.zero_le _,rfl,HV,HL,Pp.left_zero n L cs,Below.refl _ _⟩
       case round=>
        obtain⟨k,S,hk,rfl,HX,T,M,d⟩:=hrel
        by_cases I:k<cs.length
        · obtain⟨b,o,rfl,hb,he⟩:=HC.out k I
          obtain⟨c0,c1,c2,c3,c4⟩:=he.below hb d
          have HZ:=hid (I6.out cs[k] (List.getElem_mem I));have O:=hid (show bX S cs[k] n=0→Pp.Left n L cs (cQ S cs[k] n) (k+1)from fun f=>Pp.left_next M.out I f);have P:=hid (show¬bX S cs[k] n=0→dG n L cs=(k,bX S cs[k] n,[])from fun f=>ue M.out I f);have K:=hid (show bX S cs[k] n=0→Pp.Good (cQ S cs[k] n)from fun f=>qh T.out f);clear he;generalize cs[k]=ck at*;obtain⟨kk,p,q,t,fm⟩:=ck
          simp only at c0 c1 c2 c3 c4;go_wp2_with fail;refine(FP S _ kk p q t fm n _ HX.out HZ.out.1 HZ.out.2.1 HZ.out.2.2 T.out U.out).mono ?_
          rintro e w3 ⟨u3,rfl,I5,Y⟩;have N:=hid I5;have F:=bn d Y;clear Y I5 c0 c1 c2 c3 c4 d;by_cases f:bX S ⟨kk,p,q,t,fm⟩ n=0
          · have H:=hid (O.out f)
            have I7:=hid (K.out f);have I8:=hid (N.out f);rw[f];clear f N O P K;go_wp2_with fail;go_roundw
            case rel=>exact⟨k+1,_,by omega,by simp,I8,I7,H,F⟩
            case measure=>simp[intOf];omega
          · obtain⟨ae,z,E⟩:=y.out _ _ _ (P.out f)
            have I9:(bX S ⟨kk,p,q,t,fm⟩ n==0)=false:=by simpa using f
            have G:=hid ae;have H:=hid z;have H0:=hid f;clear ae z E f N O P K;go_wp2_with fail;go_ret3;exact⟨_,by rw[G.out,H.out];rfl,fun h=>absurd (G.out▸h) H0.out,F⟩
        · obtain rfl:k=cs.length:=by omega
          obtain⟨ae,z,E⟩:=y.out _ _ _ (Pp.left_end M.out)
          have G:=hid ae;have H:=hid z;have HR:=hid E;clear ae z E;go_wp2_with fail;go_ret3;exact⟨_,by rw[G.out,H.out];rfl,fun _=>by rw[HR.out];exact HX.out,d⟩
     · obtain⟨ae,z,E⟩:=y.out _ _ _ (FQ A L (by omega))
       have G:=hid ae;have H:=hid z;have I9:(bi n==0)=false:=by simpa using A
       clear ae z E;go_enter func88,ntmps88
       go_wp2_with fail;refine(mC n _).mono ?_
       rintro e w1 ⟨rfl,hw⟩;rw[hw];clear hw w1;go_wp2_with fail;go_ret3;exact⟨_,by rw[G.out,H.out];rfl,(fun h=>by rw[G.out]at h;exact absurd h (by decide)),Below.refl _ _⟩
def Pp.lay (cs:List Value) (o:Obj):Obj:=match o with
 | .cells _ t frozen=> .cells cs.toArray t frozen
 |o=>o
def pv (l:List Nat):List Value:=l.map fun(n:Nat)=>Value.int .u8 (n:Int)
def FS:List Value:=[.int .u64 1,.int .u64 10,.int .u64 100,.int .u64 1000,.int .u64 10000,.int .u64 100000,.int .u64 1000000,.int .u64 10000000,.int .u64 100000000,.int .u64 1000000000,.int .u64 10000000000,.int .u64 100000000000,.int .u64 1000000000000,.int .u64 10000000000000,.int .u64 100000000000000,.int .u64 1000000000000000,.int .u64 10000000000000000,.int .u64 100000000000000000,.int .u64 1000000000000000000,.int .u64 10000000000000000000]
def FT:List Value:=pv [0,1,28,2,29,14,24,3,30,22,20,15,25,17,4,8,31,27,13,23,21,19,16,7,26,12,18,6,11,5,10,9]
def FU:List Value:=pv [0,1,56,2,57,49,28,3,61,58,42,50,38,29,17,4,62,47,59,36,45,43,51,22,53,39,33,30,24,18,12,5,63,55,48,27,60,41,37,16,46,35,44,21,52,32,23,11,54,26,40,15,34,20,31,10,25,14,19,9,13,8,7,6]
def yB (b:Nat):List Value:=[.iface 392 (.pointer (some ⟨b,0,none⟩))]
def yC:Array Obj:= #[.cells #[.string ⟨#[105,110,118,97,108,105,100,32,115,121,110,116,97,120]⟩] 394,.cells #[.string ⟨#[118,97,108,117,101,32,111,117,116,32,111,102,32,114,97,110,103,101]⟩] 394]
theorem FV:(Rows.laid_internal_strconv_uint64pow10:DataW Unit)=Lib.tabData .u64 Lib.pow10Tab:=by kernel_rfl
theorem FW {W:World} {g:Nat} {s:String} {cs:Array Value} (f:prog.globalNamed s=some g) (h:W.var? prog s=some cs):g<W.heap.size:=by
 unfold World.var? at h;rw[f]at h;simp only[Option.bind_some]at h;rcases Nat.lt_or_ge g W.heap.size with d|d
 · exact d
 · rw[Array.getElem?_eq_none d]at h;cases h
def FX:List Value:=pv [128,191,160,191,128,159,144,191,128,143,0,0,0,0,0,0,0,0,0,0,0,0,0,0,0,0,0,0,0,0,0,0]
def FY (h:Array Obj):Array Obj:=((((((h.modify 3 (Pp.lay FS)).modify 4 (Pp.lay FT)).modify 5 (Pp.lay FU)).modify 1 (Pp.lay (yB 13))).modify 2 (Pp.lay (yB 14))).modify 6 (Pp.lay (pv Go.Pinned.utf8FirstZ))).modify 7 (Pp.lay FX)
abbrev yD : List (String × DataW Unit) := [("math/bits.deBruijn32tab", Rows.laid_math_bits_deBruijn32tab), ("math/bits.deBruijn64tab", Rows.laid_math_bits_deBruijn64tab), ("internal/strconv.uint64pow10", Rows.laid_internal_strconv_uint64pow10), ("unicode/utf8.acceptRanges", Rows.laid_unicode_utf8_acceptRanges), ("strconv.ErrRange", Rows.laid_strconv_ErrRange), ("strconv.ErrSyntax", Rows.laid_strconv_ErrSyntax), ("unicode/utf8.first", Rows.laid_unicode_utf8_first)]
theorem FZ {W:World} (h:laidMetH prog yD W):aX W∧5<W.heap.size:=by
 have X:laidMet prog yD W:=h;obtain⟨ps,Z,_⟩:=X
 obtain⟨_,_,_,_,_,_,_,_,_,_,J,_⟩:=Z
 obtain⟨g5,_,_,_,_,_,I,_,Q,_,K,_⟩:=J
 obtain⟨g,t,cs,S,p,q,Y,ht,A,T,M,_⟩:=K
 obtain⟨_,_,_,_,_,_,_,_,_,_,z,_⟩:=M
 obtain⟨g2,t2,V,f2,p2,bZ,H,P,y,F,N,_⟩:=z
 obtain⟨g1,t1,U,f1,p1,q1,G,O,f,E,_,_⟩:=N
 refine⟨⟨?_,?_,?_⟩,?_⟩
 · obtain rfl:=Option.some.inj (Tryz.powAt.symm.trans Y)
   obtain rfl:t=396:=Option.some.inj (ht.symm.trans (show(prog.globals[3]?).map (·.type)=some 396 by kernel_rfl));rw[FV]at T;unfold eA Lib.TabIs;rw[A,←Lib.cells_of_tab underlying396 (show prog.underlying 347=some (.int .u64) by kernel_rfl) (by kernel_rfl) (by kernel_rfl) T]
 · obtain rfl:=Option.some.inj (Tryz.synAt.symm.trans G)
   obtain rfl:t1=249:=Option.some.inj (O.symm.trans (show(prog.globals[1]?).map (·.type)=some 249 by kernel_rfl));obtain⟨_,u,v,d,_⟩:=iface_of_trod underlying249 E
   exact⟨u,v,by rw[f];congr 1;exact Array.ext' (by simpa using d)⟩
 · obtain rfl:=Option.some.inj (Tryz.rngAt.symm.trans H)
   obtain rfl:t2=249:=Option.some.inj (P.symm.trans (show(prog.globals[2]?).map (·.type)=some 249 by kernel_rfl));obtain⟨_,u,v,d,_⟩:=iface_of_trod underlying249 F
   exact⟨u,v,by rw[y];congr 1;exact Array.ext' (by simpa using d)⟩
 · obtain rfl := Option.some.inj ((show prog.globalNamed "math/bits.deBruijn64tab" = some 5 by kernel_rfl).symm.trans I)
   exact FW (show prog.globalNamed "math/bits.deBruijn64tab" = some 5 by kernel_rfl) Q
end Go.Proofs.YtcmlnelpcjfocaaGreatDoor
