/- What the reference's CommitOf answers, for every journal that passes Check. -/
import Derived.Test.YtdlpjlfefjipkaaGreatHFZQ
set_option linter.unusedSimpArgs false
set_option linter.unusedVariables false
namespace Go.Proofs.YtdlpjlfefjipkaaGreat
open Go.RowKit Go.Proofs.Tryz
set_option maxHeartbeats 16000000
set_option maxRecDepth 100000
theorem ov (w:World):cV w (.agg #[al,ah,al]) jq:=⟨_,_,rfl,gL _,kX _⟩
def iZ (l:List Co) (p:List UInt8) (k:Nat):Prop:= ∀x∈l.take k,¬x.ke.data.toList=p
theorem Ed (l:List Co) (p:List UInt8):iZ l p 0:=fun x a=>by simp at a
theorem Ee {l:List Co} {p:List UInt8} {k:Nat} (h:iZ l p k) (d:k<l.length) (c: ¬l[k].ke.data.toList=p):iZ l p (k+1):=by
 intro x a;rw[List.take_succ_eq_append_getElem d,List.mem_append,List.mem_singleton]at a;rcases a with a|rfl
 · exact h x a
 · exact c
theorem Ef {l:List Co} {p:List UInt8} {k:Nat} (h:iZ l p k) (d:k<l.length) (a:l[k].ke.data.toList=p):dy l p=true∧Jn.numOf l p=l[k].nu:=by
 have i:l.find? (fun c=>c.ke.data.toList==p)=some l[k]:=by
  have e:l=l.take k++l[k]::l.drop (k+1):=by rw[←List.drop_eq_getElem_cons d,List.take_append_drop]
  have f:(l.take k).find? (fun c=>c.ke.data.toList==p)=none:=by
   rw[List.find?_eq_none];intro x o j;exact h x o (by simpa using j)
  have g:(l.take k++l[k]::l.drop (k+1)).find? (fun c=>c.ke.data.toList==p)=some l[k]:=by
   rw[List.find?_append,f,List.find?_cons,a];simp
  rwa [←e]at g
 refine⟨?_,by rw[Jn.numOf,i]⟩
 rw[dy,List.any_eq_true];exact⟨l[k],List.getElem_mem d,by simp[a]⟩
theorem Eg {l:List Co} {p:List UInt8} (h:iZ l p l.length):dy l p=false:=by
 rw[dy,List.any_eq_false];intro x c a;exact h x (by rw[List.take_length];exact c) (by simpa using a)
theorem wK {J:Jo}:Jn.newE J []=1:=by rw[Jn.newE,if_pos rfl]
theorem Eh {J:Jo} {l:List aE} (h: ¬l=[]) (a:1000000<Jn.last J+1):Jn.newE J l=3:=by rw[Jn.newE,if_neg h,if_pos a]
theorem Ei {J:Jo} {l:List aE} (h: ¬l=[]) (a: ¬1000000<Jn.last J+1):Jn.newE J l=bw (Jn.tree J) l (Jn.last J+1):=by rw[Jn.newE,if_neg h,if_neg a]
theorem wL (J:Jo) (v:Value) (key:ByteArray) (l:List aE) (u:Value) (w:World) (hv:cV w v J) (hu:cP w u l) (hp: ∀e∈J.base,e.path.size≤1000000000) (G2:dm 1000000000 J.cos) (Gb:dV 1000000000 l) (G5:key.size≤maxLen) (h0:aT J=0):
    Calls prog 27 #[v,key,u] w fun e w'=> ∃r,e= .returned (.tuple #[r,dM J key l,cY J key l])∧cV w' r (dW J key l)∧Below w.heap.size w w':=by
 have HV:=hid hv;have HU:=hid hu;have HP:=hid hp;have FJ:=hid G2;have Gx:=hid Gb;obtain⟨i0,G4,EP,Gj,Gk⟩:=info_parts Tryz.infoCo
 obtain⟨vb,vc,rfl,Gh,Gi⟩:=hv
 have FP:=hid Gh;have GD:=hid Gi;obtain⟨ba,C,rfl,_⟩:=Gh
 obtain⟨ca,M,rfl,GM,Gn,hC⟩:=Gi
 have HC:Hid (∀i (h:i<J.cos.length),∃b o,ca=some ⟨b,o,none⟩∧b<w.heap.size∧fH w b (o+i*3) J.cos[i]):=hC;obtain⟨ua,R,rfl,GQ,Gp,_⟩:=hu
 clear hp G2 Gb hC;obtain⟨wz,G⟩: ∃wz,wz=(w.alloc (.cells #[.slice ba J.base.length C,J.first,.slice ca J.cos.length M] 57)).alloc (.cells #[al,ah,al] 57):=⟨_,rfl⟩
 have G1:Below w.heap.size w wz:=by rw[G];exact ak.alloc (by simp) _
 have Gs:=hid (show Cs wz w.heap.size [.slice ba J.base.length C,J.first,.slice ca J.cos.length M]from by rw[G];exact(Cs.new w [.slice ba J.base.length C,J.first,.slice ca J.cos.length M] _).below ak)
 have E9:=hid (show Cs wz (w.heap.size+1) [al,ah,al]from by
  have:=Cs.new (w.alloc (.cells #[.slice ba J.base.length C,J.first,.slice ca J.cos.length M] 57)) [al,ah,al] 57
  rw[G];simpa using this)
 have He:=E9.out.lt;have H0:=hid h0;have F8:=fp h0;obtain⟨f1,f2⟩:=jj.1 F8.2.1
 have Hd:=F8.2.2.1;have Ga:Jn.last J+1=J.first+J.cos.length:=by rw[Jn.last];omega
 have F3:=hid Ga;have HG:=hid (mY h0);have Gu:=hid ((g9 J.base).1 F8.1);have e1:IntKind.i64.wrap (J.first+(J.cos.length:Int))=J.first+J.cos.length:=by rw[IntKind.wrap_i64];omega
 clear F8 Ga;cases EO:cK key.data.toList with
 |false=>
  obtain⟨hE,hN,hR⟩:=sS (l:=l) h0 EO
  have HE:=hid hE;have HN:=hid hN;have HR:=hid hR;have Fg:=hid EO;clear hE hN hR EO h0;go_enter func27,ntmps27
  go_wp2_with fail;rw[←G];clear G;refine(lQ key _ G5).mono ?_
  rintro e w2 ⟨rfl,hw⟩;rw[hw,Fg.out];clear hw w2;have y0:=E9.out.cell 0 rfl;have y1:=E9.out.cell 1 rfl;have y2:=E9.out.cell 2 rfl;have g0:=E9.out.fr 0;have g1:=E9.out.fr 1;have g2:=E9.out.fr 2;go_wp2;refine bodyPost_ret (v:= .tuple #[.agg #[al,ah,al],ah,.int .i64 1]) (by simp[results,results27,go_sem,y0,y1,y2]) rfl ⟨_,by rw[HN.out,HE.out],?_,?_⟩
  · rw[HR.out]
    exact ov _
  · exact(((G1.setCell (p:=⟨w.heap.size+1,0,none⟩) (Nat.le_succ _) _).setCell (p:=⟨w.heap.size+1,1,none⟩) (Nat.le_succ _) _).setCell (p:=⟨w.heap.size+1,2,none⟩) (Nat.le_succ _) _)
 |true=>
  have Fg:=hid EO
  have Ff:=hid (show∀k (hk:k<J.cos.length),iZ J.cos key.data.toList k→J.cos[k].ke.data.toList=key.data.toList→cY J key l=0∧dM J key l=J.cos[k].nu∧dW J key l=J from fun k hk hn he=>by
   obtain⟨a,b⟩:=Ef hn hk he
   obtain⟨x,y,z⟩:=sU (l:=l) h0 EO a
   exact⟨x,by rw[y,b],z⟩)
  have Fj:=hid (show iZ J.cos key.data.toList J.cos.length→cY J key l=Jn.newE J l∧(¬Jn.newE J l=0→dM J key l=0∧dW J key l=jq)∧(Jn.newE J l=0→dM J key l=Jn.last J+1∧dW J key l=cX J key l)from fun hn=>by
   have hh:=Eg hn;have e:=pp (l:=l) h0 EO hh;refine⟨e,fun h=>sV (by rw[e];exact h),fun h=>(pq h0 EO hh h).2⟩)
  clear EO h0;go_enter func27,ntmps27
  go_wp2_with fail;rw[←G];clear G;refine(lQ key _ G5).mono ?_
  rintro e w2 ⟨rfl,hw⟩;rw[hw,Fg.out];clear hw w2;go_wp2;go_loopw [9] (fun x wr=> ∃k:Nat,k≤J.cos.length∧x= .int .i64 k∧Hid (iZ J.cos key.data.toList k)∧Below wz.heap.size wz wr) (fun x _=>J.cos.length-(intOf x).toNat)
  case atStart=>exact⟨0,Nat.zero_le _,rfl,(Ed _ _:iZ J.cos key.data.toList 0),aw⟩
  case round=>
   obtain⟨k,hk,rfl,F4,F5⟩:=hrel
   have Y:=an G1 F5;have F1:=hid (Gs.out.below F5);have F:=hid (E9.out.below F5);have c0:=F1.out.cell 0 rfl;have c1:=F1.out.cell 1 rfl;have c2:=F1.out.cell 2 rfl;by_cases F7:k<J.cos.length
   · obtain⟨b,o,rfl,hb,he⟩:=HC.out k F7
     obtain⟨d0,d1,_⟩:=he.below hb Y
     have HF:=hid (Ff.out k F7 F4.out);have HS:=hid (show¬J.cos[k].ke.data.toList=key.data.toList→iZ J.cos key.data.toList (k+1)from fun h=>Ee F4.out F7 h);clear he Ff Fj;generalize J.cos[k]=ck at*;obtain⟨nu,ke,ch⟩:=ck
     simp only at d0 d1;cases G6:(ke.toList==key.toList)with
     |true=>
      have hF:=HF.out (by simpa[Lib.toList_data]using G6);have HE:=hid hF.1;have HN:Hid (dM J key l=nu):=hF.2.1;have HR:=hid hF.2.2;clear hF HF HS;have y0:=F.out.cell 0 rfl;have y1:=F.out.cell 1 rfl;have y2:=F.out.cell 2 rfl;have g0:=F.out.fr 0;have g1:=F.out.fr 1;have g2:=F.out.fr 2;go_wp2_with fail;have GY: ¬b=w.heap.size+1:=by omega
      go_region
      go_wp2;refine bodyPost_ret (v:= .tuple #[.agg #[.slice ba J.base.length C,J.first,.slice (some ⟨b,o,none⟩) J.cos.length M],nu,ah]) (by simp[results,results27,go_sem,y0,y1,y2]) rfl ⟨_,by rw[HN.out,HE.out],?_,?_⟩
      · rw[HR.out]
        exact HV.out.below ((((Y.setCell (p:=⟨w.heap.size+1,0,none⟩) (Nat.le_succ _) _).setCell (p:=⟨w.heap.size+1,1,none⟩) (Nat.le_succ _) _).setCell (p:=⟨w.heap.size+1,2,none⟩) (Nat.le_succ _) _)).drew
      · exact((((Y.setCell (p:=⟨w.heap.size+1,0,none⟩) (Nat.le_succ _) _).setCell (p:=⟨w.heap.size+1,1,none⟩) (Nat.le_succ _) _).setCell (p:=⟨w.heap.size+1,2,none⟩) (Nat.le_succ _) _)).drew
     |false=>
      have GA:=hid (HS.out (by simpa[Lib.toList_data]using G6));clear HF HS;go_wp2;go_roundw
      case rel=>exact⟨k+1,by omega,by simp,GA,F5⟩
      case measure=>simp[intOf];omega
   · have G7:k=J.cos.length:=by omega
     have HW:=Fj.out (by rw[←G7];exact F4.out);have HE:=hid HW.1;have I:=hid HW.2.1;have EQ:=hid HW.2.2;clear HW Fj Ff F4;have GZ: ¬(k:Int)<(J.cos.length:Int):=by omega
     clear G7 F7;by_cases hl:l=[]
     · subst hl
       have HB:=hid (I.out (by rw[wK];decide));have ES:=hid (show cY J key []=1 from by rw[HE.out,wK]);clear I EQ HE;have y0:=F.out.cell 0 rfl;have y1:=F.out.cell 1 rfl;have y2:=F.out.cell 2 rfl;have g0:=F.out.fr 0;have g1:=F.out.fr 1;have g2:=F.out.fr 2;go_wp2;refine bodyPost_ret (v:= .tuple #[.agg #[al,ah,al],ah,.int .i64 1]) (by simp[results,results27,go_sem,y0,y1,y2]) rfl ⟨_,by rw[HB.out.1,ES.out],?_,?_⟩
       · rw[HB.out.2]
         exact ov _
       · exact(((Y.setCell (p:=⟨w.heap.size+1,0,none⟩) (Nat.le_succ _) _).setCell (p:=⟨w.heap.size+1,1,none⟩) (Nat.le_succ _) _).setCell (p:=⟨w.heap.size+1,2,none⟩) (Nat.le_succ _) _)
     · have Hf:((l.length:Int)==0)=false:=by
        rw[beq_eq_false_iff_ne];intro h;exact hl (List.length_eq_zero_iff.1 (by omega))
       by_cases hm:1000000<J.first+(J.cos.length:Int)
       · have FA:=Eh (J:=J) hl (by rw[F3.out];exact hm)
         have HB:=hid (I.out (by rw[FA];decide));have ES:=hid (show cY J key l=3 from by rw[HE.out,FA]);clear I EQ HE FA hl;have y0:=F.out.cell 0 rfl;have y1:=F.out.cell 1 rfl;have y2:=F.out.cell 2 rfl;have g0:=F.out.fr 0;have g1:=F.out.fr 1;have g2:=F.out.fr 2;go_wp2;refine bodyPost_ret (v:= .tuple #[.agg #[al,ah,al],ah,.int .i64 3]) (by simp[results,results27,go_sem,y0,y1,y2]) rfl ⟨_,by rw[HB.out.1,ES.out],?_,?_⟩
         · rw[HB.out.2]
           exact ov _
         · exact(((Y.setCell (p:=⟨w.heap.size+1,0,none⟩) (Nat.le_succ _) _).setCell (p:=⟨w.heap.size+1,1,none⟩) (Nat.le_succ _) _).setCell (p:=⟨w.heap.size+1,2,none⟩) (Nat.le_succ _) _)
       · have Gc:=Ei (J:=J) hl (by rw[F3.out];exact hm)
         rw[Gc]at HE I EQ;rw[F3.out]at HE I EQ;clear Gc hl;go_wp2_with fail;refine(vJ J _ _ (HV.out.below Y) HP.out FJ.out H0.out).mono ?_
         rintro e w3 ⟨u3,rfl,Gf,Fx⟩;have GB:=hid Gf;obtain⟨ta,H9,rfl,_⟩:=Gf
         have Fb:=an Y Fx;have Gq:=hid (F1.out.below Fx);have GF:=hid (F.out.below Fx);clear c0 c1 c2;go_wp2_with fail;refine(qm (Jn.tree J) _ l _ (J.first+(J.cos.length:Int)) _ GB.out HG.out (HU.out.below Fb) Gx.out).mono ?_
         rintro e X ⟨r4,rfl,_,Fy⟩;have EV:=an Fb Fy;have B:=hid (Gq.out.below Fy);have EL:=hid (GF.out.below Fy);have y0:=EL.out.cell 0 rfl;have y1:=EL.out.cell 1 rfl;have y2:=EL.out.cell 2 rfl;have g0:=EL.out.fr 0;have g1:=EL.out.fr 1;have g2:=EL.out.fr 2;by_cases E3:bw (Jn.tree J) l (J.first+(J.cos.length:Int))=0
         · have HO:=hid (EQ.out E3)
           have ES:=hid (show cY J key l=0 from by rw[HE.out,E3]);rw[E3];clear I EQ HE E3;have c0:=B.out.cell 0 rfl;have c1:=B.out.cell 1 rfl;have c2:=B.out.cell 2 rfl;go_wp2_with fail;obtain⟨us,F6,hR⟩:=qb GD.out
           have FI:=hid F6;have FM:=hid (iM (vL F6));have FN:=hid (show∀u∈[Value.int .i64 (J.first+(J.cos.length:Int)),.string key,.slice ua l.length R],u.oneCell'=true from fun u hu=>by simp at hu;rcases hu with rfl|rfl|rfl<;>rfl)
           have Fa:=hid (show∀W,Below X.heap.size X W→iW W (.slice ca J.cos.length M) J.cos.length 3 (bQ J.cos us).flatten from fun W hW=>by
            have h:=iW.lies (hR.below (an EV hW));rw[fe F6.1]at h;exact h)
           clear F6 hR y0 y1 y2 g0 g1 g2;refine wp_region_held_drew (S:=fun W=>W.cell? ⟨w.heap.size,0,none⟩=some (.slice ba J.base.length C)∧W.cell? ⟨w.heap.size,1,none⟩=some (.int .i64 J.first)∧W.cell? ⟨w.heap.size,2,none⟩=some (.slice ca J.cos.length M)) (by kernel_rfl) ⟨by simpa using c0,by simpa using c1,by simpa using c2⟩ (fun d=>?_)
           change wpAnyH _ _ _ _ _ 17 #[false,false,false,false,false,false,false,false,false,false,false,false,false,false,false,false,false] _ _
           have A:Below X.heap.size X X.drew:= aw.drew;generalize X.drew=k at d A⊢;clear c0 c1 c2;refine tk 0 ⟨some 67,Op.fieldAddr 57 (Operand.tmp 3) 0,0,_,_,none⟩ d ?_
           try simp only[pu]
           refine tk 1 ⟨some 68,Op.load 33 (Operand.tmp 67),33,_,_,none⟩ d ?_
           try simp only[pu]
           refine tk 2 ⟨some 69,Op.fieldAddr 57 (Operand.tmp 3) 1,0,_,_,none⟩ d ?_
           try simp only[pu]
           refine tk 3 ⟨some 70,Op.load 3 (Operand.tmp 69),3,_,_,none⟩ d ?_
           try simp only[pu]
           refine tk 5 ⟨some 72,Op.fieldAddr 57 (Operand.tmp 3) 2,0,_,_,none⟩ d ?_
           try simp only[pu]
           refine tk 6 ⟨some 73,Op.load 34 (Operand.tmp 72),34,_,_,none⟩ d ?_
           try simp only[pu]
           refine tk 8 ⟨some 75,Op.move (Operand.tmp 10),3,_,_,none⟩ d ?_
           try simp only[pu]
           refine tk 9 ⟨some 76,Op.move (Operand.tmp 1),9,_,_,none⟩ d ?_
           try simp only[pu]
           refine tk 10 ⟨some 77,Op.move (Operand.tmp 2),29,_,_,none⟩ d ?_
           try simp only[pu]
           refine tk 11 ⟨some 78,Op.build 111 #[(0,Operand.tmp 75),(1,Operand.tmp 76),(2,Operand.tmp 77)],111,_,_,none⟩ d ?_
           try simp only[pu]
           refine tJ (p:=?_) (fun Gl=>?_) ?_
           rotate_left
           · try clear d
             iterate 5
              all_goals
               first
               |(have _g0:=m4;have _g1:=m7;have _g2:=m12;have _g3:=m13;refine wpAnyH_ready (rs:=[15]) (by kernel_rfl) (by simp) ?_;refine AllReadyH.cons rfl (fun K E=>Tg.out (n:=15) ?_) (AllReadyH.nil))
               |(have _g0:=m4;have _g1:=m7;have _g2:=m12;have _g3:=m15;refine wpAnyH_ready (rs:=[13]) (by kernel_rfl) (by simp) ?_;refine AllReadyH.cons rfl (fun K E=>Tg.out (n:=13) ?_) (AllReadyH.nil))
               |(have _g0:=m4;have _g1:=m7;have _g2:=m12;refine wpAnyH_ready (rs:=[13,15]) (by kernel_rfl) (by simp) ?_;refine AllReadyH.cons rfl (fun K E=>Tg.out (n:=13) ?_) (AllReadyH.cons rfl (fun K E=>Tg.out (n:=15) ?_) (AllReadyH.nil)))
               |(have _g0:=m4;have _g1:=m7;have _g2:=m15;refine wpAnyH_ready (rs:=[12]) (by kernel_rfl) (by simp) ?_;refine AllReadyH.cons rfl (fun K E=>Tg.out (n:=12) ?_) (AllReadyH.nil))
               |(have _g0:=m4;have _g1:=m12;have _g2:=m15;refine wpAnyH_ready (rs:=[7]) (by kernel_rfl) (by simp) ?_;refine AllReadyH.cons rfl (fun K E=>Tg.out (n:=7) ?_) (AllReadyH.nil))
               |(have _g0:=m4;have _g1:=m7;refine wpAnyH_ready (rs:=[12,15]) (by kernel_rfl) (by simp) ?_;refine AllReadyH.cons rfl (fun K E=>Tg.out (n:=12) ?_) (AllReadyH.cons rfl (fun K E=>Tg.out (n:=15) ?_) (AllReadyH.nil)))
               |(have _g0:=m4;have _g1:=m12;refine wpAnyH_ready (rs:=[7,15]) (by kernel_rfl) (by simp) ?_;refine AllReadyH.cons rfl (fun K E=>Tg.out (n:=7) ?_) (AllReadyH.cons rfl (fun K E=>Tg.out (n:=15) ?_) (AllReadyH.nil)))
               |(have _g0:=m4;have _g1:=m15;refine wpAnyH_ready (rs:=[7,12]) (by kernel_rfl) (by simp) ?_;refine AllReadyH.cons rfl (fun K E=>Tg.out (n:=7) ?_) (AllReadyH.cons rfl (fun K E=>Tg.out (n:=12) ?_) (AllReadyH.nil)))
               |(have _g0:=m12;have _g1:=m15;refine wpAnyH_ready (rs:=[4]) (by kernel_rfl) (by simp) ?_;refine AllReadyH.cons rfl (fun K E=>Tg.out (n:=4) ?_) (AllReadyH.nil))
               |(have _g0:=m4;refine wpAnyH_ready (rs:=[7,12,15]) (by kernel_rfl) (by simp) ?_;refine AllReadyH.cons rfl (fun K E=>Tg.out (n:=7) ?_) (AllReadyH.cons rfl (fun K E=>Tg.out (n:=12) ?_) (AllReadyH.cons rfl (fun K E=>Tg.out (n:=15) ?_) (AllReadyH.nil))))
               |(have _g0:=m12;refine wpAnyH_ready (rs:=[4,15]) (by kernel_rfl) (by simp) ?_;refine AllReadyH.cons rfl (fun K E=>Tg.out (n:=4) ?_) (AllReadyH.cons rfl (fun K E=>Tg.out (n:=15) ?_) (AllReadyH.nil)))
               |(have _g0:=m15;refine wpAnyH_ready (rs:=[4,12]) (by kernel_rfl) (by simp) ?_;refine AllReadyH.cons rfl (fun K E=>Tg.out (n:=4) ?_) (AllReadyH.cons rfl (fun K E=>Tg.out (n:=12) ?_) (AllReadyH.nil)))
               |(refine wpAnyH_ready (rs:=[4,12,15]) (by kernel_rfl) (by simp) ?_;refine AllReadyH.cons rfl (fun K E=>Tg.out (n:=4) ?_) (AllReadyH.cons rfl (fun K E=>Tg.out (n:=12) ?_) (AllReadyH.cons rfl (fun K E=>Tg.out (n:=15) ?_) (AllReadyH.nil))))
              all_goals
               first
               | (refine Tg.mk (n := 4) ?_
                  have m4:Tg 4 True:=⟨trivial⟩
                  go_simp
                  generalize G:World.alloc k (.cells #[] 111)=kn;have hz:Below k.heap.size k kn:=G▸ak;have N:Below X.heap.size X kn:=an A hz;try replace E8:=E8.below hz
                  try replace E2:=jQ E2 hz
                  try replace V:=jQ V hz
                  try replace O:=O.below hz
                  have E1:iX X.heap.size kn (.slice (some ⟨k.heap.size,0,none⟩) 0 0):=iX.new G A.size;clear G hz;generalize Value.slice (some (Addr.mk k.heap.size 0 none)) 0 0=FD at E1⊢;try clear A
                  have A:=N;clear N;try clear k
                  obtain⟨k,rfl⟩: ∃x,x=kn:=⟨_,rfl⟩
                  refine E.out _ _ ⟨(B.out.below A).cell 0 rfl,(B.out.below A).cell 1 rfl,(B.out.below A).cell 2 rfl⟩ (fun d=>?_)
                  clear E K;try simp only[pu]
                  clear d)
               | (refine Tg.mk (n := 7) ?_
                  have m7:Tg 7 True:=⟨trivial⟩
                  refine mL rfl (.tmp 71) (.tmp 73) 34 rfl X.heap.size 111 i0 (.agg #[ah,.string ⟨#[]⟩,al]) 3 48 underlying34 G4 EP Gj Gk rfl (by decide) FD 0 [] rfl E1.own (.slice ca J.cos.length M) J.cos.length (bQ J.cos us).flatten rfl (Fa.out k A) FM.out (by unfold maxLen;omega) (by omega) A.size ?_
                  intro F9 kn ho EN;have E2:kn.ownsRow X.heap.size 111 3 F9 J.cos.length (bQ J.cos us).flatten:=(by rw[Nat.zero_add,List.nil_append]at ho;exact ho)
                  have N:Below X.heap.size X kn:=A.grown EN A.size (fun k hk=>(E1.own.lt k hk).1);try replace E8:=E8.gr (by simp) E1 EN
                  try replace O:=O.gr E1.own EN
                  clear ho EN E1;try clear A
                  have A:=N;clear N;try clear k
                  obtain⟨k,rfl⟩: ∃x,x=kn:=⟨_,rfl⟩
                  refine E.out _ _ ⟨(B.out.below A).cell 0 rfl,(B.out.below A).cell 1 rfl,(B.out.below A).cell 2 rfl⟩ (fun d=>?_)
                  clear E K;try simp only[pu]
                  clear d)
               | (refine Tg.mk (n := 12) ?_
                  have m12:Tg 12 True:=⟨trivial⟩
                  go_simp
                  generalize G:World.alloc k (.cells #[Value.int .i64 (J.first+(J.cos.length:Int)),key,.slice ua l.length R] 111)=kn;have hz:Below k.heap.size k kn:=G▸ak;have N:Below X.heap.size X kn:=an A hz;try replace E1:=E1.below hz
                  try replace E2:=jQ E2 hz
                  try replace V:=jQ V hz
                  try replace O:=O.below hz
                  have E8:gW kn (.slice (some ⟨k.heap.size,0,none⟩) 1 1) [Value.int .i64 (J.first+(J.cos.length:Int)),key,.slice ua l.length R]:=gW.new (r:=[Value.int .i64 (J.first+(J.cos.length:Int)),key,.slice ua l.length R]) G;clear G hz;generalize Value.slice (some (Addr.mk k.heap.size 0 none)) 1 1=FE at E8⊢;try clear A
                  have A:=N;clear N;try clear k
                  obtain⟨k,rfl⟩: ∃x,x=kn:=⟨_,rfl⟩
                  refine E.out _ _ ⟨(B.out.below A).cell 0 rfl,(B.out.below A).cell 1 rfl,(B.out.below A).cell 2 rfl⟩ (fun d=>?_)
                  clear E K;try simp only[pu]
                  clear d)
               | (refine Tg.mk (n := 13) ?_
                  have m13:Tg 13 True:=⟨trivial⟩
                  refine mL rfl (.tmp 74) (.tmp 79) 34 rfl X.heap.size 111 i0 (.agg #[ah,.string ⟨#[]⟩,al]) 3 48 underlying34 G4 EP Gj Gk rfl (by decide) F9 J.cos.length (bQ J.cos us).flatten rfl E2 FE 1 [Value.int .i64 (J.first+(J.cos.length:Int)),key,.slice ua l.length R] rfl (E8.src rfl) FN.out (by unfold maxLen;omega) (by omega) A.size ?_
                  intro GS kn ho EN;have V:kn.ownsRow X.heap.size 111 3 GS (J.cos.length+1) ((bQ J.cos us).flatten++[Value.int .i64 (J.first+(J.cos.length:Int)),.string key,.slice ua l.length R]):=ho;have N:Below X.heap.size X kn:=A.grown EN A.size (fun k hk=>(E2.lt k hk).1);try replace O:=O.gr E2 EN
                  clear ho EN E2 E8;obtain⟨E7,f,rfl⟩:=qU V
                  try clear A
                  have A:=N;clear N;try clear k
                  obtain⟨k,rfl⟩: ∃x,x=kn:=⟨_,rfl⟩
                  refine E.out _ _ ⟨(B.out.below A).cell 0 rfl,(B.out.below A).cell 1 rfl,(B.out.below A).cell 2 rfl⟩ (fun d=>?_)
                  clear E K;try simp only[pu]
                  refine tk 14 ⟨some 81,Op.build 57 #[(0,Operand.tmp 68),(1,Operand.tmp 70),(2,Operand.tmp 80)],57,_,_,none⟩ d ?_
                  try simp only[pu]
                  clear d)
               | (refine Tg.mk (n := 15) ?_
                  have m15:Tg 15 True:=⟨trivial⟩
                  go_simp
                  generalize G:World.alloc k (.cells #[al,ah,al] 57)=kn;have hz:Below k.heap.size k kn:=G▸ak;have N:Below X.heap.size X kn:=an A hz;try replace E1:=E1.below hz
                  try replace E8:=E8.below hz
                  try replace E2:=jQ E2 hz
                  try replace V:=jQ V hz
                  have O:fX X.heap.size kn k.heap.size:=fX.new G A.size;clear G hz;generalize k.heap.size=j at O⊢;try clear A
                  have A:=N;clear N;try clear k
                  obtain⟨k,rfl⟩: ∃x,x=kn:=⟨_,rfl⟩
                  refine E.out _ _ ⟨(B.out.below A).cell 0 rfl,(B.out.below A).cell 1 rfl,(B.out.below A).cell 2 rfl⟩ (fun d=>?_)
                  clear E K;try simp only[pu]
                  clear d)
             all_goals
              revert O
              revert V
              revert A
              revert k
              revert j
              revert f
              revert E7
              revert FE
              revert F9
              revert FD
              exact Gl.out
           intro FD F9 FE E7 f j cw A V O;have EW:=an EV A;have E5:=hid O.cs;have EU:=hid (B.out.below A);have FQ:=hid (EL.out.below A);have H6:w.heap.size<X.heap.size:=B.out.lt;have H7:w.heap.size+1<X.heap.size:=EL.out.lt;have GX:=O.1;have Q: ¬w.heap.size=j:=by omega
           have E4: ¬w.heap.size+1=j:=by omega
           have P:w.heap.size≤j:=by omega
           have Fh:=hid (show b8 cw (.slice E7 (J.cos.length+1) f) (J.cos++[Jn.newC J key l])from by
            have e:(bQ (J.cos++[Jn.newC J key l]) (us++[.slice ua l.length R])).flatten=(bQ J.cos us).flatten++[Value.int .i64 (J.first+(J.cos.length:Int)),.string key,.slice ua l.length R]:=by
             rw[vK FI.out.1,List.flatten_append];simp[dX,Jn.newC,F3.out]
            rw[←e]at V;exact qV (w0:=w) V (by simp) (by simp;omega) ((FI.out.snoc (c:=Jn.newC J key l) HU.out).below EW))
           have Gm:J.cos.length+1≤f:=by
            obtain⟨a',FS,FB,h1,_⟩:=Fh.out
            injection FB with _ _ ec
            rw[ec];simpa using h1
           clear V Fa FM FN O;have t0:=E5.out.cell 0 rfl;have t1:=E5.out.cell 1 rfl;have t2:=E5.out.cell 2 rfl;have s0:=E5.out.fr 0;have s1:=E5.out.fr 1;have s2:=E5.out.fr 2;have q0:=EU.out.cell 0 rfl;have q1:=EU.out.cell 1 rfl;have q2:=EU.out.cell 2 rfl;refine wpAnyH_ready (rs:=[16]) (by kernel_rfl) (by simp) ?_
           refine AllReadyH.cons rfl (fun K E=>?_) AllReadyH.nil
           go_simp
           refine E.out _ _ ⟨by simpa[go_sem,Q]using q0,by simpa[go_sem,Q]using q1,by simpa[go_sem,Q]using q2⟩ (fun FC=>?_)
           clear FC E K;try simp only[pu]
           refine wpAnyH_done (by kernel_rfl) ?_ _
           clear t0 t1 t2 s0 s1 s2 q0 q1 q2;obtain⟨ws,ER⟩: ∃ws,ws=((cw.setCell ⟨j,0,none⟩ (.slice ba J.base.length C)).setCell ⟨j,1,none⟩ J.first).setCell ⟨j,2,none⟩ (.slice E7 (J.cos.length+1) f):=⟨_,rfl⟩
           have Ft:=E5.out.set 0 (.slice ba J.base.length C);have Fv:=Ft.set 1 J.first;have FV:=Fv.set 2 (.slice E7 (J.cos.length+1) f);have EK:=hid (show Cs ws j [.slice ba J.base.length C,J.first,.slice E7 (J.cos.length+1) f]from by rw[ER];exact FV)
           have Fi:=hid (show b8 ws (.slice E7 (J.cos.length+1) f) (J.cos++[Jn.newC J key l])from by
            rw[ER];exact((Fh.out.nb (aj _ _ _ _) (E5.out.noStr (by intro s H;simp at H))).nb (aj _ _ _ _) (Ft.noStr (by intro s H;simp at H))).nb (aj _ _ _ _) (Fv.noStr (by intro s H;simp at H)))
           have F2:=hid (show Cs ws w.heap.size [.slice ba J.base.length C,J.first,.slice ca J.cos.length M]from by rw[ER];exact((EU.out.nb (aj _ _ _ _) Q).nb (aj _ _ _ _) Q).nb (aj _ _ _ _) Q);have E0:=hid (show Cs ws (w.heap.size+1) [al,ah,al]from by rw[ER];exact((FQ.out.nb (aj _ _ _ _) E4).nb (aj _ _ _ _) E4).nb (aj _ _ _ _) E4);have EM:Below w.heap.size w ws:=by rw[ER];exact((EW.setCell (p:=⟨j,0,none⟩) P _).setCell (p:=⟨j,1,none⟩) P _).setCell (p:=⟨j,2,none⟩) P _
           rw[←ER];clear ER Ft Fv FV E5 Fh EU FQ A EW;have o0:=EK.out.cell 0 rfl;have o1:=EK.out.cell 1 rfl;have o2:=EK.out.cell 2 rfl;have y0:=E0.out.cell 0 rfl;have y1:=E0.out.cell 1 rfl;have y2:=E0.out.cell 2 rfl;have g0:=E0.out.fr 0;have g1:=E0.out.fr 1;have g2:=E0.out.fr 2;by_cases FT:30<J.cos.length+1
           · have FU:30<(J.cos.length:Int)+1:=by omega
             obtain⟨c,r,ET⟩: ∃c r,J.cos=c::r:=by
              cases A:J.cos with
              |nil=>rw[A]at FT;simp at FT
              |cons c r=>exact⟨c,r,rfl⟩
             have Ge:r.length+1=J.cos.length:=by rw[ET];simp
             have EX:=pv (n:=J.first) (T:=J.base) (c:=c) (r:=r) (by rw[←ET,(fp H0.out).2.2.2.1]);have Gd:=(nF EX.1).1;have FG:=hid (show bw J.base c.ch J.first=0 from by rw[←Gd];exact EX.2);have Fc:=hid (show cX J key l=⟨ct J.base c.ch J.first,J.first+1,r++[Jn.newC J key l]⟩from by rw[cX,jm,if_pos (by show 30<(J.cos++[Jn.newC J key l]).length;simp;omega)];simp only[ET,List.cons_append]);have Gt:Hid (dV 1000000000 c.ch):=(FJ.out c (by rw[ET];simp)).2;have FH:=hid (show J.cos++[Jn.newC J key l]=c::(r++[Jn.newC J key l])from by rw[ET];rfl);have Gz:=hid (show(r++[Jn.newC J key l]).length=J.cos.length from by simp;omega);clear EX Gd ET;have hL:=Fi.out;rw[FH.out]at hL;have FK:=hid hL
             have GN: ∃g o u7,E7=some ⟨g,o,none⟩∧g<ws.heap.size∧ ¬g=j∧ws.cell? ⟨g,o+2,none⟩=some u7∧cP ws u7 c.ch:=by
              obtain⟨a',FS,FB,_,_,GI⟩:=hL
              injection FB with ea _ _
              obtain⟨g,o,GO,hg,_,d1,u7,d2,GP⟩:=GI 0 (by simp)
              exact⟨g,o,u7,ea.trans GO,hg,fun e=>(EK.out.noStr (by intro s H;simp at H)) _ _ (e▸d1),by simpa using d2,by simpa using GP⟩
             obtain⟨g,o,u7,rfl,hg,G3,Fz,Gg⟩:=GN
             have FO:=hid Gg;obtain⟨GU,GV,rfl,_⟩:=Gg
             clear hL FH;have b0:=F2.out.cell 0 rfl;have b1:=F2.out.cell 1 rfl;have Z:=EK.out.lt;have EY:=F2.out.lt;have n0:=EK.out.fr 0;have Hc:(0:Int)<(J.cos.length:Int)+1:=by omega
             have GW:=hid Ge;clear Ge;go_upto_region 18 with fail;refine wp_region_held_drew (S:=fun W=>W.cell? ⟨w.heap.size,0,none⟩=some (.slice ba J.base.length C)∧W.cell? ⟨w.heap.size,1,none⟩=some (.int .i64 J.first)∧W.cell? ⟨j,2,none⟩=some (.slice (some ⟨g,o,none⟩) (J.cos.length+1) f)∧W.cell? ⟨g,o+2,none⟩=some (.slice GU c.ch.length GV)) (by kernel_rfl) ⟨by simpa using b0,by simpa using b1,by simpa using o2,by simpa using Fz⟩ (fun d=>?_)
             change wpAnyH _ _ _ _ _ 16 #[false,false,false,false,false,false,false,false,false,false,false,false,false,false,false,false] _ _
             have EP:Below ws.heap.size ws ws.drew:= aw.drew;generalize ws.drew=z0 at d EP⊢;refine tk 0 ⟨some 87,Op.fieldAddr 57 (Operand.tmp 3) 0,0,_,_,none⟩ d ?_
             try simp only[pu]
             refine tk 1 ⟨some 88,Op.load 33 (Operand.tmp 87),33,_,_,none⟩ d ?_
             try simp only[pu]
             refine tk 2 ⟨some 89,Op.fieldAddr 57 (Operand.tmp 14) 2,0,_,_,none⟩ d ?_
             try simp only[pu]
             refine tk 3 ⟨some 90,Op.load 34 (Operand.tmp 89),34,_,_,none⟩ d ?_
             try simp only[pu]
             refine tk 4 ⟨some 91,Op.indexAddr 34 (Operand.tmp 90) (Operand.const (Value.int IntKind.i64 0)),0,_,_,none⟩ d ?_
             try simp only[pu]
             refine tk 5 ⟨some 92,Op.fieldAddr 111 (Operand.tmp 91) 2,0,_,_,none⟩ d ?_
             try simp only[pu]
             refine tk 6 ⟨some 93,Op.load 29 (Operand.tmp 92),29,_,_,none⟩ d ?_
             try simp only[pu]
             refine tk 7 ⟨some 94,Op.fieldAddr 57 (Operand.tmp 3) 1,0,_,_,none⟩ d ?_
             try simp only[pu]
             refine tk 8 ⟨some 95,Op.load 3 (Operand.tmp 94),3,_,_,none⟩ d ?_
             try simp only[pu]
             refine wpAnyH_ready (rs:=[9]) (by kernel_rfl) (by simp) ?_
             refine AllReadyH.cons rfl (fun K E=>?_) AllReadyH.nil
             go_simp
             refine(qm J.base _ c.ch _ J.first _ (FP.out.below (an EM EP)) Gu.out (FO.out.below EP) Gt.out).mono ?_
             rintro e wa ⟨r6,rfl,G9,G0⟩;rw[FG.out];have G8:=G9 FG.out;have FL:=hid G8;obtain⟨EZ,F0,rfl,_⟩:=G8
             have U:Below ws.heap.size ws wa:=an EP G0;have e0:=(U.cell (p:=⟨j,0,none⟩) Z).trans o0;have GH:=(U.cell (p:=⟨j,1,none⟩) Z).trans o1;have Fm:=(U.cell (p:=⟨j,2,none⟩) Z).trans o2;have GR:=(U.frozen (p:=⟨j,0,none⟩) Z).trans n0;have Fo:=(U.cell (p:=⟨w.heap.size,0,none⟩) EY).trans b0;have Fp:=(U.cell (p:=⟨w.heap.size,1,none⟩) EY).trans b1;have Fq:=(U.cell (p:=⟨g,o+2,none⟩) hg).trans Fz;go_wp2_with fail;clear G9 G0 EP;refine E.out _ _ ⟨Fo,Fp,Fm,Fq⟩ (fun d=>?_)
             clear E K;try simp only[pu]
             refine tk 10 ⟨some 86,Op.move (Operand.tmp 96),_,_,_,none⟩ d ?_
             try simp only[pu]
             refine tk 11 ⟨some 97,Op.extract (Operand.tmp 86) 0,_,_,_,none⟩ d ?_
             try simp only[pu]
             refine tk 12 ⟨some 98,Op.extract (Operand.tmp 86) 1,_,_,_,none⟩ d ?_
             try simp only[pu]
             refine tk 13 ⟨some 99,Op.extract (Operand.tmp 86) 2,_,_,_,none⟩ d ?_
             try simp only[pu]
             refine tk 14 ⟨some 100,Op.fieldAddr 57 (Operand.tmp 14) 0,0,_,_,none⟩ d ?_
             try simp only[pu]
             refine wpAnyH_ready (rs:=[15]) (by kernel_rfl) (by simp) ?_
             refine AllReadyH.cons rfl (fun K E=>?_) AllReadyH.nil
             go_simp
             refine E.out _ _ ⟨by simpa[go_sem,Q]using Fo,by simpa[go_sem,Q]using Fp,by simpa[go_sem]using Fm,by simpa[go_sem,G3]using Fq⟩ (fun FC=>?_)
             clear FC E K;try simp only[pu]
             refine wpAnyH_done (by kernel_rfl) ?_ _
             obtain⟨wc,hwc⟩: ∃wc,wc=wa.setCell ⟨j,0,none⟩ (.slice EZ (ct J.base c.ch J.first).length F0):=⟨_,rfl⟩
             have Fs:=EK.out.below U;have hN:=Fs.noStr (by intro s H;simp at H);have EJ:=hid (show Cs wc j [.slice EZ (ct J.base c.ch J.first).length F0,J.first,.slice (some ⟨g,o,none⟩) (J.cos.length+1) f]from by rw[hwc];exact Fs.set 0 _);have Gv:=hid (show aF wc (.slice EZ (ct J.base c.ch J.first).length F0) (ct J.base c.ch J.first)from by rw[hwc];exact FL.out.nb (aj _ _ _ _) hN);have Gy:=hid (show b8 wc (.slice (some ⟨g,o,none⟩) (J.cos.length+1) f) (c::(r++[Jn.newC J key l]))from by rw[hwc];exact(FK.out.below U).nb (aj _ _ _ _) hN);have E6:=hid (show Cs wc (w.heap.size+1) [al,ah,al]from by rw[hwc];exact(E0.out.below U).nb (aj _ _ _ _) E4);have FY:Below w.heap.size w wc:=by rw[hwc];exact(an EM U).setCell (p:=⟨j,0,none⟩) P _
             rw[←hwc];clear hwc Fs hN d e0 GH Fm GR Fo Fp Fq b0 b1 o0 o1 o2 Fz y0 y1 y2 g0 g1 g2 n0 FK FL FO EK Fi F2 E0 U EM Z EY;have m0:=EJ.out.cell 0 rfl;have m1:=EJ.out.cell 1 rfl;have m2:=EJ.out.cell 2 rfl;have n1:=EJ.out.fr 1;have n2:=EJ.out.fr 2;have y0:=E6.out.cell 0 rfl;have y1:=E6.out.cell 1 rfl;have y2:=E6.out.cell 2 rfl;have g0:=E6.out.fr 0;have g1:=E6.out.fr 1;have g2:=E6.out.fr 2;have Hg:IntKind.i64.wrap (J.first+1)=J.first+1:=by rw[IntKind.wrap_i64];omega
             have GJ: ¬f=1:=by omega
             have GK:(1:Int)≤f:=by omega
             have GL:(1:Int)≤(J.cos.length:Int)+1:=by omega
             have HT:=hid (uy Gy.out);rw[Gz.out]at HT;have Fe:=hid (EJ.out.set 1 (J.first+1:Int));have Ha:=hid (Fe.out.set 2 (.slice (some ⟨g,o+3,none⟩) J.cos.length (f-1)));have Fk:=hid ((E6.out.nb (aj wc j 1 (J.first+1:Int)) E4).nb (aj _ j 2 (.slice (some ⟨g,o+3,none⟩) J.cos.length (f-1))) E4);have Fl:=hid (Fk.out.set 0 (.slice EZ (ct J.base c.ch J.first).length F0));have FR:=hid (Fl.out.set 1 (J.first+1:Int));have FZ:=(FY.setCell (p:=⟨j,1,none⟩) P (J.first+1:Int)).setCell (p:=⟨j,2,none⟩) P (.slice (some ⟨g,o+3,none⟩) J.cos.length (f-1));have Gw:=hid ((((Gv.out.nb (aj _ _ _ _) (EJ.out.noStr (by intro s H;simp at H))).nb (aj _ _ _ _) (Fe.out.noStr (by intro s H;simp at H))).nb (aj _ _ _ _) (Fk.out.noStr (by intro s H;simp at H))).nb (aj _ _ _ _) (Fl.out.noStr (by intro s H;simp at H))|>.nb (aj _ (w.heap.size+1) 2 (.slice (some ⟨g,o+3,none⟩) J.cos.length (f-1))) (FR.out.noStr (by intro s H;simp at H)));have GC:=hid ((((HT.out.nb (aj _ _ _ _) (EJ.out.noStr (by intro s H;simp at H))).nb (aj _ _ _ _) (Fe.out.noStr (by intro s H;simp at H))).nb (aj _ _ _ _) (Fk.out.noStr (by intro s H;simp at H))).nb (aj _ _ _ _) (Fl.out.noStr (by intro s H;simp at H))|>.nb (aj _ (w.heap.size+1) 2 (.slice (some ⟨g,o+3,none⟩) J.cos.length (f-1))) (FR.out.noStr (by intro s H;simp at H)));go_wp2;refine bodyPost_ret (v:= .tuple #[.agg #[.slice EZ (ct J.base c.ch J.first).length F0,(J.first+1:Int),.slice (some ⟨g,o+3,none⟩) J.cos.length (f-1)],(J.first+(J.cos.length:Int):Int),ah]) (by simp[results,results27,go_sem,y0,y1,y2]) rfl ⟨_,by rw[HO.out.1,ES.out],?_,?_⟩
             · rw[HO.out.2,Fc.out]
               exact⟨_,_,rfl,Gw.out,GC.out⟩
             · exact(((FZ.setCell (p:=⟨w.heap.size+1,0,none⟩) (Nat.le_succ _) _).setCell (p:=⟨w.heap.size+1,1,none⟩) (Nat.le_succ _) _).setCell (p:=⟨w.heap.size+1,2,none⟩) (Nat.le_succ _) _)
           · have FU: ¬30<(J.cos.length:Int)+1:=by omega
             have Fc:=hid (show cX J key l=⟨J.base,J.first,J.cos++[Jn.newC J key l]⟩from by
              rw[cX,jm,if_neg];simp;omega)
             have Fw:=E0.out.set 0 (.slice ba J.base.length C);have FW:=Fw.set 1 J.first;have E6:=hid FW;have GG:=hid Fw;clear Fw FW;go_wp2;refine bodyPost_ret (v:= .tuple #[.agg #[.slice ba J.base.length C,J.first,.slice E7 (J.cos.length+1) f],(J.first+(J.cos.length:Int):Int),ah]) (by simp[results,results27,go_sem,y0,y1,y2]) rfl ⟨_,by rw[HO.out.1,ES.out],?_,?_⟩
             · rw[HO.out.2,Fc.out]
               exact⟨_,_,rfl,FP.out.below (((EM.setCell (p:=⟨w.heap.size+1,0,none⟩) (Nat.le_succ _) _).setCell (p:=⟨w.heap.size+1,1,none⟩) (Nat.le_succ _) _).setCell (p:=⟨w.heap.size+1,2,none⟩) (Nat.le_succ _) _),by simpa using ((Fi.out.nb (aj _ _ _ _) (E0.out.noStr (by intro s H;simp at H))).nb (aj _ _ _ _) (GG.out.noStr (by intro s H;simp at H))).nb (aj _ _ _ _) (E6.out.noStr (by intro s H;simp at H))⟩
             · exact(((EM.setCell (p:=⟨w.heap.size+1,0,none⟩) (Nat.le_succ _) _).setCell (p:=⟨w.heap.size+1,1,none⟩) (Nat.le_succ _) _).setCell (p:=⟨w.heap.size+1,2,none⟩) (Nat.le_succ _) _)
         · have HB:=hid (I.out E3)
           have hz:(bw (Jn.tree J) l (J.first+(J.cos.length:Int))==0)=false:=by simpa using E3
           clear I EQ;go_wp2;refine bodyPost_ret (v:= .tuple #[.agg #[al,ah,al],ah,bw (Jn.tree J) l (J.first+(J.cos.length:Int))]) (by simp[results,results27,go_sem,y0,y1,y2]) rfl ⟨_,by rw[HB.out.1,HE.out],?_,?_⟩
           · rw[HB.out.2]
             exact ov _
           · exact(((EV.setCell (p:=⟨w.heap.size+1,0,none⟩) (Nat.le_succ _) _).setCell (p:=⟨w.heap.size+1,1,none⟩) (Nat.le_succ _) _).setCell (p:=⟨w.heap.size+1,2,none⟩) (Nat.le_succ _) _)
end Go.Proofs.YtdlpjlfefjipkaaGreat
