/- What slices.Clip at commits answers, and what (*keeper).forget does. -/
import Derived.Test.YtdlpjlfefjipkaaGreatHFV
import Derived.Deep.RegionWith
set_option linter.unusedSimpArgs false
set_option linter.unusedVariables false
namespace Go.Proofs.YtdlpjlfefjipkaaGreat
open Go.RowKit Go.Maps Go.WideMaps Go.Proofs.Tryz
set_option maxHeartbeats 4000000
set_option maxRecDepth 100000
theorem fH.ne {W:World} {b o g:Nat} {c:Co} (h:fH W b o c) (d:di W g):b≠g:=fun a=>d (o+1) c.ke (a▸h.2.1)
theorem b8.nb {W j:World} {v:Value} {L:List Co} {g:Nat} (h:b8 W v L) (f:W.grownBy j (some g)) (z:di W g):b8 j v L:=by
 obtain⟨a,d,J,C,E,F⟩:=h
 refine⟨a,d,J,C,E,fun i H=>?_⟩
 obtain⟨b,o,G,s,x⟩:=F i H
 have c:=iK f s (x.ne z);obtain⟨A,B,u,e2,I⟩:=x
 exact⟨b,o,G,Nat.lt_of_lt_of_le s f.size,(c _).trans A,(c _).trans B,u,(c _).trans e2,I.nb f z⟩
theorem uy {w:World} {g o n cap:Nat} {c:Co} {cs:List Co} (h:b8 w (.slice (some ⟨g,o,none⟩) n cap) (c::cs)):b8 w (.slice (some ⟨g,o+3,none⟩) cs.length (cap-1)) cs:=by
 obtain⟨a,f,E,v,x,z⟩:=h
 injection E with j e2 s
 subst j;subst s;simp only[List.length_cons]at v x;refine⟨_,_,rfl,by omega,by omega,fun i B=>?_⟩
 obtain⟨b,F,d,C,A⟩:=z (i+1) (by simpa using B)
 injection d with d
 injection d with e4 u
 subst e4;subst u;refine⟨g,o+3,rfl,C,?_⟩
 rw[show o+3+i*3=o+(i+1)*3 by omega];simpa using A
theorem AI (a:Option Addr) (n cap:Nat) (w:World) (d:n≤cap):
    Calls prog 164 #[.slice a n cap] w fun e w'=>e= .returned (.slice a n n)∧w'=w:=by
 have c:(n:Int)≤cap:=by omega
 go_enter func164,ntmps164
 go_wp2;go_ret;exact⟨rfl,rfl⟩
theorem AJ (base:List En) (d:Int) (c:Co) (cs:List Co) (b:Nat) (vb va J I:Value) (B:Nat) (w:World) (H:Cs w b [vb,d,va,J,I]) (R: ∀s,Value.string s∉[vb,.int .i64 d,va,J,I]) (T:aF w vb base) (S:b8 w va (c::cs)) (h1:1≤cs.length) (A:dk base) (P:dV 150000000000000 c.ch) (EJ:1≤d) (E8:d≤1000000) (h0:bw base c.ch d=0) (hB:B≤b):
    Calls prog 165 #[.pointer (some ⟨b,0,none⟩)] w fun e w'=>e= .returned (.tuple #[])∧Below B w w'∧ ∃f U,Cs w' b [f,(d+1:Int),U,J,I]∧aF w' f (ct base c.ch d)∧b8 w' U cs:=by
 have HK:=hid H;have E1:=hid T;have E0:=hid S;have HS:=hid A;have X:=hid P;have H0:=hid h0;have O:=H.lt;have k0:=H.cell 0 rfl;have k1:=H.cell 1 rfl;have k2:=H.cell 2 rfl;have f0:=H.fr 0;have F:=hid R;obtain⟨ba,E7,rfl,_⟩:=T
 obtain⟨aa,a,rfl,G,z,N⟩:=S
 obtain⟨g,o,rfl,hg,c0,c1,u,c2,hu⟩:=N 0 (by simp)
 have HU:=hid hu;obtain⟨ua,EI,rfl,_⟩:=hu
 simp only[Nat.zero_mul,Nat.add_zero,List.getElem_cons_zero,List.length_cons]at c0 c1 c2 G z k2⊢;have E9:(0:Int)<((cs.length+1:Nat):Int):=by omega
 clear H A P h0 N R;go_enter func165,ntmps165
 go_upto_region 0 with fail;go_cut [0] (fun x V=>x= .pointer (some ⟨b,0,none⟩)∧ ∃f,Hid (Cs V b [f,d,.slice (some ⟨g,o,none⟩) (cs.length+1) a,J,I])∧Hid (aF V f (ct base c.ch d))∧Hid (b8 V (.slice (some ⟨g,o,none⟩) (cs.length+1) a) (c::cs))∧Below B w V)
 case first=>
  go_region_with (go_at_call 152;refine(pX base _ c.ch _ d _ (E1.out.below aw.drew) HS.out (HU.out.below aw.drew) X.out).mono ?_;rintro e wa ⟨r,rfl,Q,E2⟩;rw[H0.out];have i:Below w.heap.size w wa:=( aw.drew).trans E2;have d0:=(i.cell (p:=⟨b,0,none⟩) O).trans k0;have e0:=(i.frozen (p:=⟨b,0,none⟩) O).trans f0;have Z:=hid Q;obtain⟨ra,EH,rfl,_⟩:=Q)
  all_goals
   have K:=HK.out.below i;have HN:=K.noStr F.out;go_wp2;go_meet
   case rel=>exact⟨rfl,_,K.set 0 _,Z.out.nb (aj _ _ _ _) HN,(E0.out.below i).nb (aj _ _ _ _) HN,(i.mono (by omega)).setCell (p:=⟨b,0,none⟩) hB _⟩
 case rest=>
  obtain⟨rfl,f,v,HL,HO,E3⟩:=hcut
  have hl:=v.out.lt;have Y:=hid HL.out;obtain⟨xa,j,rfl,_⟩:=HL.out
  have m0:=v.out.cell 0 rfl;have m1:=v.out.cell 1 rfl;have m2:=v.out.cell 2 rfl;have n1:=v.out.fr 1;have n2:=v.out.fr 2;have EK:IntKind.i64.wrap (d+1)=d+1:=by rw[IntKind.wrap_i64];omega
  have E4: ¬a=1:=by omega
  have E5:(1:Int)≤a:=by omega
  have E6:(1:Int)≤((cs.length+1:Nat):Int):=by omega
  have E:=hid (show∀s,Value.string s∉[.slice xa (ct base c.ch d).length j,.int .i64 d,.slice (some ⟨g,o,none⟩) (cs.length+1) a,J,I]from fun s A=>by
   simp only[List.mem_cons,List.not_mem_nil,or_false]at A;rcases A with h|h|h|h|h
   · cases h
   · cases h
   · cases h
   · exact F.out s (by simp[h])
   · exact F.out s (by simp[h]))
  have C:Hid (Cs (wc.setCell ⟨b,1,none⟩ (d+1:Int)) b [.slice xa (ct base c.ch d).length j,(d+1:Int),.slice (some ⟨g,o,none⟩) (cs.length+1) a,J,I]):=v.out.set 1 _
  have M:=hid (show∀s,Value.string s∉[.slice xa (ct base c.ch d).length j,.int .i64 (d+1),.slice (some ⟨g,o,none⟩) (cs.length+1) a,J,I]from fun s A=>E.out s (by
   simp only[List.mem_cons,List.not_mem_nil,or_false]at A⊢;rcases A with h|h|h|h|h
   · exact Or.inl h
   · cases h
   · exact Or.inr (Or.inr (Or.inl h))
   · exact Or.inr (Or.inr (Or.inr (Or.inl h)))
   · exact Or.inr (Or.inr (Or.inr (Or.inr h)))))
  have HT:=hid (uy HO.out);clear m0;go_wp2_with fail;go_end0
  refine⟨rfl,(E3.setCell (p:=⟨b,1,none⟩) hB _).setCell (p:=⟨b,2,none⟩) hB _,_,_,C.out.set 2 _,(Y.out.nb (aj _ _ _ _) (v.out.noStr E.out)).nb (aj _ _ _ _) (C.out.noStr M.out),(HT.out.nb (aj _ _ _ _) (v.out.noStr E.out)).nb (aj _ _ _ _) (C.out.noStr M.out)⟩
theorem Tryz.infoCo:(prog.info? 111).map (fun i=>(i.zero,i.size,i.bytes))=some (some (.agg #[ah,.string ⟨#[]⟩,al]),3,48):=by kernel_rfl
theorem b8.append {w:World} {v:Value} {l:List Co} {us:List Value} {c:Co} {u:Value} (g:fP w l us) (z:cP w u c.ch) (h:bp 3 w v (bQ l us++[dX c u])):b8 w v (l++[c]):=by
 have j:=g.1;refine qd (us:=us++[u]) ⟨by simp[j],?_⟩ ?_
 · intro i d x a f
   by_cases s:i<l.length
   · rw[List.getElem?_append_left s]at a
     rw[List.getElem?_append_left (by omega)]at f;exact g.2 i d x a f
   · rw[List.getElem?_append_right (by omega)]at a f
     rw[j]at f
     have o:i-l.length=0:=by
      rcases Nat.lt_or_ge (i-l.length) 1 with h|h
      · omega
      · rw[List.getElem?_eq_none (by simpa using h)]at a;cases a
     rw[o]at a f;injection a with a
     injection f with f
     rw[←a,←f];exact z
 · have e:bQ (l++[c]) (us++[u])=bQ l us++[dX c u]:=by
    rw[bQ,bQ,List.zipWith_append (by omega)];rfl
   rw[e];exact h
def uz (w:World) (b:Nat) (J:Jo):Prop:= ∃vb vc vt vm,Cs w b [vb,.int .i64 J.first,vc,vt,vm]∧aF w vb J.base∧b8 w vc J.cos
theorem uA (J:Jo) (key:ByteArray) (l:List aE) (u:Value) (b mb nn:Nat) (vb vc:Value) (w0 w:World) (hJ:aT J=0) (hk:Kp w b mb vb J.first vc (Jn.tree J) nn (Jn.D J.cos)) (F2:aF w0 vb J.base) (F3:b8 w0 vc J.cos) (hu:cP w0 u l) (P:Below w0.heap.size w0 w)
    (EY:dV 150000000000000 l) (Fz:key.size≤maxLen) (EX:dm 150000000000000 J.cos) (FK:nn≤30) (E3:w0.heap.size≤b) (FA:w0.heap.size≤mb):
    Calls prog 143 #[.pointer (some ⟨b,0,none⟩),key,u] w fun e w'=>e= .returned (.int .i64 (Jn.newE J l))∧Below w0.heap.size w0 w'∧(Jn.newE J l=0→uz w' b (cX J key l)):=by
 obtain⟨i0,Fy,FB,FC,FD⟩:=info_parts Tryz.infoCo
 have E6:=fp hJ;obtain⟨f1,f2⟩:=jj.1 E6.2.1
 have FE:=E6.2.2.1;have HJ:=hid hJ;have HK:=hid hk;have EM:=hid F2;have Fp:=hid F3;have HU:=hid hu;have Ff:=hid EY;have F9:=hid EX;obtain⟨vt,hC,_,_,FJ⟩:=hk
 have HC:=hid hC;have FG:=hC.lt;obtain⟨ba,o,rfl,_⟩:=F2
 obtain⟨ca,d,rfl,E4,_⟩:=F3
 obtain⟨z,a,rfl,_,FP,_⟩:=hu
 have E7:=P.size;clear EY EX hC E6 hJ;by_cases i:l=[]
 · have G:=hid (show Jn.newE J l=1 from by rw[Jn.newE,if_pos i])
   have h0:((l.length:Int)==0)=true:=by rw[i];rfl
   clear i;go_enter func143,ntmps143
   go_wp2;go_ret;exact⟨by rw[G.out];rfl,P,fun h=>by rw[G.out]at h;exact absurd h (by decide)⟩
 · have h0:((l.length:Int)==0)=false:=by
    rw[beq_eq_false_iff_ne];intro h;exact i (List.length_eq_zero_iff.1 (by omega))
   have hN:J.first-1+(J.cos.length:Int)+1=Jn.last J+1:=by rw[Jn.last]
   have FQ:IntKind.i64.wrap (J.first-1+(J.cos.length:Int)+1)=Jn.last J+1:=by rw[IntKind.wrap_i64,Jn.last];omega
   by_cases U:1000000<Jn.last J+1
   · have G:=hid (show Jn.newE J l=3 from by rw[Jn.newE,if_neg i,if_pos U])
     clear i hN;go_enter func143,ntmps143
     go_wp2_with fail;refine(jM J.first J.cos.length d b _ _ _ ca _ HC.out f1 (by omega) (by omega)).mono ?_
     rintro e w1 ⟨rfl,C⟩;have EU:=(P.trans (C.mono E7)).alloc (Nat.le_trans E7 C.size) (.cells #[(Jn.last J+1:Int),key,.slice z l.length a] 111);go_wp2;go_ret;exact⟨by rw[G.out];rfl,EU,fun h=>by rw[G.out]at h;exact absurd h (by decide)⟩
   · have G:=hid (show Jn.newE J l=bw (Jn.tree J) l (Jn.last J+1)from by rw[Jn.newE,if_neg i,if_neg U])
     have FH:1≤Jn.last J+1:=by omega
     clear i hN;go_enter func143,ntmps143
     go_wp2_with fail;refine(jM J.first J.cos.length d b _ _ _ ca _ HC.out f1 (by omega) (by omega)).mono ?_
     rintro e w1 ⟨rfl,C⟩;obtain⟨w2,Q⟩: ∃w2,w2=w1.alloc (.cells #[(Jn.last J+1:Int),key,.slice z l.length a] 111):=⟨_,rfl⟩
     have EW:Below w1.heap.size w1 w2:=by rw[Q];exact ak
     have Fs:=hid (show Cs w2 w1.heap.size [(Jn.last J+1:Int),key,.slice z l.length a]from by rw[Q];exact Cs.new _ [(Jn.last J+1:Int),key,.slice z l.length a] _);have S:=an C EW;have Z:Below w0.heap.size w0 w2:=P.trans (S.mono E7);have Fe:=hid (HK.out.below S);have FM:=C.size;have FN:=EW.size;go_wp2_with fail;rw[←Q];clear Q
     have FI:mb<w.heap.size:=by
      obtain⟨_,_,_,hM,_⟩:=HK.out
      exact hM.lt
     have Fj:Hid ((Lit.int .i64 (Jn.last J+1)).wf=true):=pY (by omega) (by omega);have Fh:=hid (show nn<maxLen from by unfold maxLen;omega);refine(tI ⟨Jn.last J+1,key,l⟩ (.slice z l.length a) b mb nn (.slice ba J.base.length o) (.slice ca J.cos.length d) J.first (Jn.tree J) (Jn.D J.cos) _ (HU.out.below Z) Ff.out Fz Fj.out Fe.out (nD (mY HJ.out)) Fh.out nE nE).mono ?_
     rintro e A ⟨rfl,O,EP⟩;have I:Below w0.heap.size w0 A:=Z.trans (O.to (by omega) E3 FA);have E9:=hid EP;have E2:=hid (Fs.out.nb2 O (by omega) (by omega));have FO:=O.size;clear EP O;by_cases ha:bw (Jn.tree J) l (Jn.last J+1)=0
     · obtain⟨E8,B,ET,Ft,_⟩:=E9.out ha
       have F7:=hid B
       have EJ:=hid (show∀s,Value.string s∉[.slice ba J.base.length o,.int .i64 J.first,.slice ca J.cos.length d,E8,.map (some mb)]from by
        obtain⟨_,_,rfl,_⟩:=ET
        intro s hs;simp only[List.mem_cons,List.not_mem_nil,or_false]at hs;rcases hs with h|h|h|h|h<;>exact Value.noConfusion h)
       have V:=B.lt;have m2:=B.cell 2 rfl;have n2:=B.fr 2;have x0:=E2.out.cell 0 rfl;have x1:=E2.out.cell 1 rfl;have x2:=E2.out.cell 2 rfl;obtain⟨us,E5,hR⟩:=qb Fp.out
       have F8:=hid E5;have EL:=hid (fe E5.1);have HR:=hid hR.clip;have HA:=hid ha;rw[ha];have K:Below A.heap.size A (A.drew.alloc (.cells #[(Jn.last J+1:Int),key,.slice z l.length a] 111)):=( aw.drew).alloc ax _;have Y:w0.heap.size≤A.heap.size:=I.size;have Fo:=hid (HR.out.below (I.trans (K.mono Y)))
       have Fm:=hid (show(dX (Jn.newC J key l) (.slice z l.length a)).length=3∧ ∀u∈dX (Jn.newC J key l) (.slice z l.length a),u.oneCell'=true from⟨rfl,fun u hu=>by
        simp only[dX,List.mem_cons,List.not_mem_nil,or_false]at hu;rcases hu with rfl|rfl|rfl<;>rfl⟩)
       have Fg:Hid (∀j y,(dX (Jn.newC J key l) (.slice z l.length a))[j]?=some y→(A.drew.alloc (.cells #[(Jn.last J+1:Int),key,.slice z l.length a] 111)).cell? ((⟨A.heap.size,0,none⟩:Addr).add j)=some y):=(fun j y hj=>by
        rw[Addr.add_lit,Nat.zero_add];exact(Cs.new A.drew [(Jn.last J+1:Int),key,.slice z l.length a] 111).cell j hj:_)
       have Fi:=hid (show(bQ J.cos us).length≤1000000000 from by rw[EL.out];omega);clear B ET Ft E5 hR ha E9;go_upto_region 9 with fail;go_cut [0] (fun x wx=>x= .pointer (some ⟨b,0,none⟩)∧ ∃va,Hid (Cs wx b [.slice ba J.base.length o,J.first,va,E8,.map (some mb)])∧Hid (b8 wx va (J.cos++[Jn.newC J key l]))∧Below w0.heap.size w0 wx)
       case first=>
        go_region_law (first
         |(refine zh rfl (.tmp 33) (.tmp 35) 34 rfl 111 i0 (.agg #[ah,.string ⟨#[]⟩,al]) 3 48 underlying34 Fy FB FC FD rfl (by decide) ca (bQ J.cos us) J.cos.length EL.out (by simp[Act.eval,Act.put]) Fo.out ⟨A.heap.size,0,none⟩ 1 (by simp[Act.eval,Act.put]) (dX (Jn.newC J key l) (.slice z l.length a)) Fm.out Fg.out Fi.out (by decide) ?_;rintro v5 w5 ⟨ES,Fv,Fw⟩;have Fl:=hid ES;have Fk:=hid Fv;obtain⟨F5,F6,F1,_⟩:=ES;obtain⟨n5,EZ⟩: ∃n5,(bQ J.cos us++[dX (Jn.newC J key l) (.slice z l.length a)]).length=n5:=⟨_,rfl⟩;rw[EZ]at F1;subst F1;clear EZ;have q5:Below A.heap.size A w5:=K.trans (Fw.mono K.size);have d2:=(q5.cell (p:=⟨b,2,none⟩) V).trans m2;have e2:=(q5.frozen (p:=⟨b,2,none⟩) V).trans n2)
         |(go_simp;go_at_call 164;refine(AI ca J.cos.length d _ E4).mono ?_;rintro e wa ⟨rfl,rfl⟩))
        all_goals
         have EV:Below w0.heap.size w0 w5:=I.trans (q5.mono Y)
         have F0: ∀g,(Value.slice F5 n5 F6).ownBlock=some g→g≠b:=fun g hg=>by
          have h6:A.heap.size≤g:=Nat.le_trans K.size (Fk.out g hg).1;omega
         go_wp2;go_meet
         case rel=>
          have f:Below w0.heap.size w0 (w5.setCell ⟨b,2,none⟩ (.slice F5 n5 F6)):=EV.setCell (p:=⟨b,2,none⟩) E3 _;exact⟨rfl,_,(F7.out.below q5).set 2 _,b8.append (F8.out.below f) (HU.out.below f) (Fl.out.nbo (aj _ _ _ _) F0),f⟩
       case rest=>
        obtain⟨rfl,va,E1,EH,M⟩:=hcut
        have R:=hid EH.out;obtain⟨F4,F,rfl,_⟩:=EH.out
        have N:(J.cos++[Jn.newC J key l]).length=J.cos.length+1:=by simp
        have y2:=E1.out.cell 2 rfl;by_cases H:30<J.cos.length+1
        · have EN:30<(((J.cos++[Jn.newC J key l]).length:Nat):Int):=by rw[N];omega
          obtain⟨c,r,v⟩: ∃c r,J.cos=c::r:=by
           cases hc:J.cos with
           |nil=>rw[hc]at H;simp at H
           |cons c r=>exact⟨c,r,rfl⟩
          have FL:r.length+1=J.cos.length:=by rw[v];simp
          have E:=pv (n:=J.first) (T:=J.base) (c:=c) (r:=r) (by rw[←v,(fp HJ.out).2.2.2.1]);have X:c.nu=J.first:=(nF E.1).1
          have E0:=hid (show cX J key l=⟨ct J.base c.ch J.first,J.first+1,r++[Jn.newC J key l]⟩from by rw[cX,jm,if_pos (by show 30<(J.cos++[Jn.newC J key l]).length;rw[N];exact H)];simp only[v,List.cons_append]);have Fb:=hid (show bw J.base c.ch J.first=0 from by have:=E.2;rwa [X]at this);have EI:=hid (show b8 wc (.slice F4 (J.cos++[Jn.newC J key l]).length F) (c::(r++[Jn.newC J key l]))from by have:=R.out;rw[v]at this⊢;exact this);have Fa:=hid (show dV 150000000000000 c.ch from(F9.out c (by rw[v];simp)).2);have Fc:=hid (nD ((g9 J.base).1 (fp HJ.out).1))
          have EK:Hid (∀s,Value.string s∉[.slice ba J.base.length o,.int .i64 J.first,.slice F4 (J.cos++[Jn.newC J key l]).length F,E8,.map (some mb)]):=(fun s hs=>by
           simp only[List.mem_cons,List.not_mem_nil,or_false]at hs;rcases hs with h|h|h|h|h
           · exact Value.noConfusion h
           · exact Value.noConfusion h
           · exact Value.noConfusion h
           · exact EJ.out s (by simp[h])
           · exact Value.noConfusion h:_)
          clear v E X;go_wp2_with fail;refine(AJ J.base J.first c (r++[Jn.newC J key l]) b _ _ _ _ w0.heap.size _ E1.out EK.out (EM.out.below M) EI.out (by simp) Fc.out Fa.out f1 f2 Fb.out E3).mono ?_
          rintro e w6 ⟨rfl,Fx,FS,FR,EO,EQ,ER⟩;have HD:=hid (show uz w6 b (cX J key l)from by rw[E0.out];exact⟨_,_,_,_,EO,EQ,ER⟩);have f:=M.trans Fx;clear EO EQ ER;go_wp2;go_ret;exact⟨by rw[G.out,HA.out];rfl,f,fun _=>HD.out⟩
        · have EN: ¬30<(((J.cos++[Jn.newC J key l]).length:Nat):Int):=by rw[N];omega
          have E0:=hid (show cX J key l=⟨J.base,J.first,J.cos++[Jn.newC J key l]⟩from by rw[cX,jm,if_neg (by show¬30<(J.cos++[Jn.newC J key l]).length;rw[N];exact H)]);have Fq:=hid (EM.out.below M);go_wp2;go_ret;refine⟨by rw[G.out,HA.out];rfl,M,fun _=>?_⟩
          rw[E0.out];exact⟨_,_,_,_,E1.out,Fq.out,R.out⟩
     · have hz:(bw (Jn.tree J) l (Jn.last J+1)==0)=false:=by simpa using ha
       have HA:=hid ha;go_wp2;go_ret;exact⟨by rw[G.out];rfl,I,fun h=>by rw[G.out]at h;exact absurd h HA.out⟩
theorem AK (J:Jo) (v:Value) (w:World) (x:cV w v J) (u:dk J.base) (g:dm 150000000000000 J.cos):
    Calls prog 58 #[v] w fun e w'=>e= .returned (.int .i64 (aT J))∧Below w.heap.size w w':=by
 have A:=hid x;have z:=hid u;have i:=hid g;obtain⟨E,F,rfl,o,s⟩:=x
 obtain⟨B,a,rfl,_⟩:=o
 obtain⟨C,c,rfl,_⟩:=s
 clear u g;have f:Below w.heap.size w (w.alloc (.cells #[.slice B J.base.length a,J.first,.slice C J.cos.length c] 57)):=ak;go_enter func58,ntmps58
 go_wp2_with fail;refine(e9 J _ _ (A.out.below f) z.out i.out).mono ?_
 rintro e G ⟨p,rfl,_,_,j⟩;have d:=an f j;go_wp2;go_ret;exact⟨rfl,d⟩
theorem AL (J:Jo) (v:Value) (w:World) (P:cV w v J) (O:dk J.base) (x:dm 150000000000000 J.cos):
    Calls prog 54 #[v] w fun e w'=> ∃r,e= .returned (.tuple #[r,aT J])∧aF w' r (jJ (aT J) (Jn.tree J))∧bi w.heap.size w' r∧Below w.heap.size w w':=by
 have G:=hid P;have F:=hid O;have i:=hid x;obtain⟨vb,vc,rfl,C,E⟩:=P
 obtain⟨V,j,rfl,_⟩:=C
 obtain⟨X,o,rfl,_⟩:=E
 clear O x;have c:Below w.heap.size w (w.alloc (.cells #[.slice V J.base.length j,J.first,.slice X J.cos.length o] 57)):=ak;by_cases g:aT J=0
 · have z:=hid g
   have d:Hid ((jJ (aT J) (Jn.tree J))=Jn.tree J):=lY g _;have R:=hid (mY g);clear g;go_enter func54,ntmps54
   go_wp2_with fail;refine(e9 J _ _ (G.out.below c) F.out i.out).mono ?_
   rintro e w1 ⟨p,rfl,I,_,f⟩;obtain⟨b,mb,vb,vc,nn,rfl,B,hb,Z,⟨vt,H,N,Y,E0⟩,E1⟩:=I z.out
   rw[z.out];have U:=hid N;have k3:=H.cell 3 rfl;obtain⟨ta,Q,rfl,_⟩:=N
   have a:=an c f;clear I B H Y;go_wp2_with fail;refine(pN ((Jn.tree J).map Pp.cells) _ _ (li.1 U.out) (by rw[List.length_map];have:=R.out.len;omega)).mono ?_
   rintro e w2 ⟨u,rfl,M,K,A⟩;have S:=hid (li.2 M);have T:=hid (K.mono a.size);have s:=an a A;clear M K;go_wp2_with fail;go_ret2;exact⟨_,by rw[z.out];rfl,by rw[d.out];exact S.out,T.out,s⟩
 · have d:Hid ((jJ (aT J) (Jn.tree J))=[]):=lZ g _
   have hz:(aT J==0)=false:=by simpa using g
   go_enter func54,ntmps54
   go_wp2_with fail;refine(e9 J _ _ (G.out.below c) F.out i.out).mono ?_
   rintro e w1 ⟨p,rfl,_,_,f⟩;have a:=an c f;go_wp2_with fail;go_ret2;exact⟨_,rfl,by rw[d.out];exact gL _,fq _ _,a⟩
theorem Tryz.zeroInt (w:World):(zeroValue 3).run prog w= .ok (.int .i64 0) w:=by rw[Tryz.zeroValue3]
theorem qi (B:Nat) (w:World):gq B w (.agg #[al,ah,al]) jq:=
 ⟨_,_,rfl,gL _,fq _ _,[],⟨rfl,fun i c u a=>by simp[jq]at a⟩,⟨none,0,rfl,ax,by decide,(fun r d=>by cases d),fun i h=>absurd h (by simp[bQ])⟩,fq _ _,(fun u f=>by cases f)⟩
theorem AM {J:Jo} (key:ByteArray) (l:List aE):(cX J key l).first-1+(cX J key l).cos.length=Jn.last J+1:=by
 rw[cX,jm];by_cases h:30<(J.cos++[Jn.newC J key l]).length
 · rw[if_pos h]
   cases a:J.cos with
   |nil=>rw[a]at h;simp at h
   |cons c r=>simp[Jn.last,a];omega
 · rw[if_neg h]
   simp[Jn.last];omega
theorem AN {J:Jo} (h:aT J=0) (key:ByteArray) (l:List aE):1≤(cX J key l).first∧(cX J key l).first≤1000001∧(cX J key l).cos.length≤31:=by
 obtain⟨_,g,d,_⟩:=fp h
 obtain⟨i,j⟩:=jj.1 g
 rw[cX,jm];by_cases a:30<(J.cos++[Jn.newC J key l]).length
 · rw[if_pos a]
   cases f:J.cos with
   |nil=>rw[f]at a;simp at a
   |cons c r=>rw[f]at d;simp at d⊢;omega
 · rw[if_neg a]
   simp;omega
theorem AO {J:Jo} (h:aT J=0) {l:List aE} (key:ByteArray) (g:Jn.newE J l=0): ∀c∈(cX J key l).cos,c.ch.length≤1000000000:=by
 have o:l.length≤20:=by
  rw[Jn.newE]at g;split at g
  · cases g
  · split at g
    · cases g
    · exact sW g
 have f: ∀c∈J.cos++[Jn.newC J key l],c.ch.length≤1000000000:=fun c a=>by
  rcases List.mem_append.1 a with a|a
  · have:=nk h c a;omega
  · rw[List.mem_singleton]at a
    rw[a];show l.length≤_;omega
 intro c a;rw[cX,jm]at a;by_cases i:30<(J.cos++[Jn.newC J key l]).length
 · rw[if_pos i]at a
   cases j:J.cos with
   |nil=>rw[j]at i;simp at i
   |cons d r=>
    rw[j]at a f;simp only[List.cons_append]at a;exact f c (List.mem_cons_of_mem _ a)
 · rw[if_neg i]at a
   exact f c a
theorem AP {J:Jo} (h:aT J=0) (key:ByteArray) (l:List aE):(cX J key l).base.length≤1000:=by
 have j:=fp h;have o:J.base.length≤1000:=by have:=((g9 J.base).1 j.1).len;omega
 rw[cX,jm];by_cases a:30<(J.cos++[Jn.newC J key l]).length
 · rw[if_pos a]
   cases i:J.cos with
   |nil=>rw[i]at a;simp at a
   |cons d r=>
    simp only[List.cons_append];have f:=pv (n:=J.first) (T:=J.base) (c:=d) (r:=r) (by rw[←i,j.2.2.2.1]);have g:=(nF f.1).1;rw[g]at f;have:=(mX f.2).len
    omega
 · rw[if_neg a];exact o
theorem AQ (J:Jo) (v:Value) (key:ByteArray) (l:List aE) (u:Value) (w:World) (hv:cV w v J) (hu:cP w u l) (hs:dk J.base) (F0:dm 150000000000000 J.cos) (F1:dV 150000000000000 l) (z:key.size≤maxLen):
    Calls prog 104 #[v,key,u] w fun e w'=> ∃r,e= .returned (.tuple #[r,dM J key l,cY J key l])∧gq w.heap.size w' r (dW J key l)∧Below w.heap.size w w':=by
 have HV:=hid hv;have HU:=hid hu;have HS:=hid hs;have M:=hid F0;have ET:=hid F1;obtain⟨vb,vc,rfl,F2,F3⟩:=hv
 have EL:=hid F2;have EM:=hid F3;obtain⟨ba,EJ,rfl,_⟩:=F2
 obtain⟨ca,EK,rfl,_⟩:=F3
 obtain⟨ua,Fh,rfl,_⟩:=hu
 clear hs F0 F1;obtain⟨wz,j⟩: ∃wz,wz=(w.alloc (.cells #[.slice ba J.base.length EJ,J.first,.slice ca J.cos.length EK] 57)).alloc (.cells #[al,ah,al] 57):=⟨_,rfl⟩
 have a:Below w.heap.size w wz:=by rw[j];exact ak.alloc (by simp) _
 have A:=hid (show Cs wz (w.heap.size+1) [al,ah,al]from by
  have:=Cs.new (w.alloc (.cells #[.slice ba J.base.length EJ,J.first,.slice ca J.cos.length EK] 57)) [al,ah,al] 57
  rw[j];simpa using this)
 have Fj:=A.out.lt;by_cases K:aT J=0
 · have H0:=hid K
   have E5:=fp K;obtain⟨f1,f2⟩:=jj.1 E5.2.1
   have Fi:=E5.2.2.1;have F4:=hid E5.2.2.2.2;have Fc:J.base.length≤1000:=by have:=((g9 J.base).1 E5.1).len;omega
   have F8:=hid (show∀c∈J.cos,c.ch.length≤1000000000 from fun c hc=>Nat.le_trans (nk K c hc) (by decide));clear E5;cases x:cK key.data.toList with
   |false=>
    obtain⟨hE,O,P⟩:=sS (l:=l) K x
    have HE:=hid hE;have HN:=hid O;have HR:=hid P;have Y:=hid (j8 x);clear hE O P x K;go_enter func104,ntmps104
    go_wp2_with fail;rw[←j];clear j;refine(e9 J _ _ (HV.out.below a) HS.out M.out).mono ?_
    rintro e w1 ⟨p,rfl,hK,_,f⟩;obtain⟨b,mb,EQ,ER,nn,rfl,s,hb,E3,o,E4⟩:=hK H0.out
    simp only[Value.agg.injEq,Array.mk.injEq,List.cons.injEq,true_and,and_true]at s;obtain⟨rfl,rfl⟩:=s
    rw[H0.out];have Z:=hid o;obtain⟨vt,N,hT,hM,EO⟩:=o
    have HC:=hid N;have HM:=hid hM;have k4:=N.cell 4 rfl;have i:=an a f;have d:=hid (A.out.below f);have y0:=d.out.cell 0 rfl;have y1:=d.out.cell 1 rfl;have y2:=d.out.cell 2 rfl;have g0:=d.out.fr 0;have g1:=d.out.fr 1;have g2:=d.out.fr 2;clear hK N hT hM k4;go_wp2_with fail;refine(lP key _ z).mono ?_
    rintro e w2 ⟨rfl,hw⟩;rw[hw,Y.out];clear hw w2;go_wp2;refine bodyPost_ret (v:= .tuple #[.agg #[al,ah,al],ah,.int .i64 1]) (by simp[results,results104,go_sem,y0,y1,y2]) rfl ⟨_,by rw[HN.out,HE.out],?_,?_⟩
    · rw[HR.out]
      exact qi _ _
    · exact((i.setCell (p:=⟨w.heap.size+1,0,none⟩) (Nat.le_succ _) _).setCell (p:=⟨w.heap.size+1,1,none⟩) (Nat.le_succ _) _).setCell (p:=⟨w.heap.size+1,2,none⟩) (Nat.le_succ _) _
   |true=>
    have Y:=hid (lO x);cases H:dy J.cos key.data.toList with
    |true=>
     obtain⟨hE,O,P⟩:=sU (l:=l) K x H
     have HE:=hid hE;have HN:=hid O;have HR:=hid P;have X:=hid H;clear hE O P x H K;go_enter func104,ntmps104
     go_wp2_with fail;rw[←j];clear j;refine(e9 J _ _ (HV.out.below a) HS.out M.out).mono ?_
     rintro e w1 ⟨p,rfl,hK,_,f⟩;obtain⟨b,mb,EQ,ER,nn,rfl,s,hb,E3,o,E4⟩:=hK H0.out
     simp only[Value.agg.injEq,Array.mk.injEq,List.cons.injEq,true_and,and_true]at s;obtain⟨rfl,rfl⟩:=s
     rw[H0.out];have Z:=hid o;obtain⟨vt,N,hT,hM,EO⟩:=o
     have HC:=hid N;have HM:=hid hM;have k4:=N.cell 4 rfl;have i:=an a f;have d:=hid (A.out.below f);obtain⟨lv,ps,I,G⟩:=HM.out.look_ok (string_keyed underlying9) underlying52 (Tryz.zeroInt w1) (plainElem_int underlying3 (by decide)) (keyOf_string_mk underlying9 z)
     obtain⟨cv,rfl,U,_⟩:=plainElem_int_inv underlying3 G
     rw[show Maps.has (Jn.D J.cos) (Lit.string key.data.toList)=dy J.cos key.data.toList from kZ J.cos key,X.out]at I;have EY:=yk F4.out key 0 X.out
     have Fe:cv=Jn.numOf J.cos key.data.toList:=by
      have h1:Jn.num (Jn.numOf J.cos key.data.toList)= .lit (.int .i64 cv):=EY.symm.trans (congrArg Prod.fst U);simpa[Jn.num]using h1.symm
     subst Fe;clear hK N hT hM G U EY;go_wp2_with fail;refine(lP key _ z).mono ?_
     rintro e w2 ⟨rfl,hw⟩;rw[hw,Y.out];clear hw w2;go_wp2_with fail;refine(tY J b _ _ _ _ _ HC.out (EL.out.below i) (EM.out.below i) (by omega) Fc F8.out).mono ?_
     rintro e w3 ⟨r,rfl,⟨xb,xc,rfl,E6,E8,E7⟩,T⟩;have Q:=hid E6;have C:=hid E8;have B:=hid E7;obtain⟨ea,ec,rfl,_⟩:=E6
     obtain⟨ya,yc,rfl⟩:=eh B.out.lies
     have F:=hid (d.out.below T);have Fk:=f.size;have E1:=an i T;have y0:=F.out.cell 0 rfl;have y1:=F.out.cell 1 rfl;have y2:=F.out.cell 2 rfl;have g0:=F.out.fr 0;have g1:=F.out.fr 1;have g2:=F.out.fr 2;clear E8 E7;go_wp2;refine bodyPost_ret (v:= .tuple #[.agg #[.slice ea J.base.length ec,J.first,.slice ya J.cos.length yc],Jn.numOf J.cos key.data.toList,ah]) (by simp[results,results104,go_sem,y0,y1,y2]) rfl ⟨_,by rw[HN.out,HE.out],?_,?_⟩
     · rw[HR.out]
       have k0: ∀g,(Value.slice ea J.base.length ec).ownBlock=some g→g≠w.heap.size+1:=fun g hg=>by have:=(C.out g hg).1;omega
       refine⟨_,_,rfl,((Q.out.nbo (aj _ _ _ _) k0).nbo (aj _ _ _ _) k0).nbo (aj _ _ _ _) k0,(((C.out.setCell _ _ _).setCell _ _ _).setCell _ _ _).mono (by omega),?_⟩
       exact(((B.out.nbo (aj _ _ _ _) (by omega)).nbo (aj _ _ _ _) (by omega)).nbo (aj _ _ _ _) (by omega)).mono (by omega)
     · exact((E1.setCell (p:=⟨w.heap.size+1,0,none⟩) (Nat.le_succ _) _).setCell (p:=⟨w.heap.size+1,1,none⟩) (Nat.le_succ _) _).setCell (p:=⟨w.heap.size+1,2,none⟩) (Nat.le_succ _) _
    |false=>
     have X:=hid H;by_cases V:Jn.newE J l=0
     · obtain⟨hE,O,P⟩:=pq (l:=l) K x H V
       have HE:=hid hE;have HN:=hid O;have HR:=hid P;have EU:=hid V;have F7:=hid (AO K key V);have F5:=hid (AP K key l);obtain⟨a1,a2,a3⟩:=AN K key l
       have Fa:=hid (AM (J:=J) key l);clear hE O P x H K V;go_enter func104,ntmps104
       go_wp2_with fail;rw[←j];clear j;refine(e9 J _ _ (HV.out.below a) HS.out M.out).mono ?_
       rintro e w1 ⟨p,rfl,hK,_,f⟩;obtain⟨b,mb,EQ,ER,nn,rfl,s,hb,E3,o,E4⟩:=hK H0.out
       simp only[Value.agg.injEq,Array.mk.injEq,List.cons.injEq,true_and,and_true]at s;obtain⟨rfl,rfl⟩:=s
       rw[H0.out];have Z:=hid o;obtain⟨vt,N,hT,hM,EO⟩:=o
       have HC:=hid N;have HM:=hid hM;have k4:=N.cell 4 rfl;have i:=an a f;have d:=hid (A.out.below f);obtain⟨lv,ps,I,G⟩:=HM.out.look_ok (string_keyed underlying9) underlying52 (Tryz.zeroInt w1) (plainElem_int underlying3 (by decide)) (keyOf_string_mk underlying9 z)
       obtain⟨cv,rfl,U,_⟩:=plainElem_int_inv underlying3 G
       rw[show Maps.has (Jn.D J.cos) (Lit.string key.data.toList)=dy J.cos key.data.toList from kZ J.cos key,X.out]at I;clear hK N hT hM G U;go_wp2_with fail;refine(lP key _ z).mono ?_
       rintro e w2 ⟨rfl,hw⟩;rw[hw,Y.out];clear hw w2;go_wp2_with fail;refine(uA J key l _ b mb nn _ _ wz _ H0.out Z.out (EL.out.below a) (EM.out.below a) (HU.out.below a) f ET.out z M.out E4 hb E3).mono ?_
       rintro e w2 ⟨rfl,S,EV⟩;obtain⟨Fo,Fp,Fs,Fq,EW,EX,EN⟩:=EV EU.out
       rw[EU.out];have ES:=hid EW;have F9:=hid EX;have Fb:=hid EN;obtain⟨Ff,EP,rfl⟩:=eh EN
       obtain⟨Fm,Fg,rfl,_⟩:=EX
       have E:=hid (A.out.below S);have E0:=an a S;have Fl:=S.size;clear EV EW EN k4;go_wp2_with fail;refine(tY (cX J key l) b _ _ _ _ _ ES.out F9.out Fb.out (by omega) F5.out F7.out).mono ?_
       rintro e w3 ⟨r,rfl,⟨xb,xc,rfl,E6,E8,E7⟩,T⟩;have Q:=hid E6;have C:=hid E8;have B:=hid E7;obtain⟨ea,ec,rfl,_⟩:=E6
       obtain⟨ya,yc,rfl⟩:=eh B.out.lies
       have F:=hid (E.out.below T);have F6:=hid (ES.out.below T);have E1:=an E0 T;clear E8 E7;go_wp2_with fail;refine(jM (cX J key l).first (cX J key l).cos.length EP b _ _ _ Ff _ F6.out a1 (by omega) (by omega)).mono ?_
       rintro e w4 ⟨rfl,E2⟩;rw[Fa.out];have E9:=hid (Q.out.below E2);have EI:=hid (C.out.below E2);have EH:=hid (B.out.below E2);have R:=hid (F.out.below E2);have EZ:=an E1 E2;clear Q C B;have Q:=E9;have C:=EI;have B:=EH;clear E9 EI EH;have y0:=R.out.cell 0 rfl;have y1:=R.out.cell 1 rfl;have y2:=R.out.cell 2 rfl;have g0:=R.out.fr 0;have g1:=R.out.fr 1;have g2:=R.out.fr 2;go_wp2;refine bodyPost_ret (v:= .tuple #[.agg #[.slice ea (cX J key l).base.length ec,.int .i64 (cX J key l).first,.slice ya (cX J key l).cos.length yc],(Jn.last J+1:Int),ah]) (by simp[results,results104,go_sem,y0,y1,y2]) rfl ⟨_,by rw[HN.out,HE.out],?_,?_⟩
       · rw[HR.out]
         have k0: ∀g,(Value.slice ea (cX J key l).base.length ec).ownBlock=some g→g≠w.heap.size+1:=fun g hg=>by have:=(C.out g hg).1;omega
         refine⟨_,_,rfl,((Q.out.nbo (aj _ _ _ _) k0).nbo (aj _ _ _ _) k0).nbo (aj _ _ _ _) k0,(((C.out.setCell _ _ _).setCell _ _ _).setCell _ _ _).mono (by omega),?_⟩
         exact(((B.out.nbo (aj _ _ _ _) (by omega)).nbo (aj _ _ _ _) (by omega)).nbo (aj _ _ _ _) (by omega)).mono (by omega)
       · exact((EZ.setCell (p:=⟨w.heap.size+1,0,none⟩) (Nat.le_succ _) _).setCell (p:=⟨w.heap.size+1,1,none⟩) (Nat.le_succ _) _).setCell (p:=⟨w.heap.size+1,2,none⟩) (Nat.le_succ _) _
     · have hE:=pp (l:=l) K x H
       obtain⟨O,P⟩:=sV (J:=J) (key:=key) (l:=l) (by rw[hE];exact V)
       have HE:=hid hE;have HN:=hid O;have HR:=hid P;have hz:(Jn.newE J l==0)=false:=by simpa using V
       clear hE O P x H K;go_enter func104,ntmps104
       go_wp2_with fail;rw[←j];clear j;refine(e9 J _ _ (HV.out.below a) HS.out M.out).mono ?_
       rintro e w1 ⟨p,rfl,hK,_,f⟩;obtain⟨b,mb,EQ,ER,nn,rfl,s,hb,E3,o,E4⟩:=hK H0.out
       simp only[Value.agg.injEq,Array.mk.injEq,List.cons.injEq,true_and,and_true]at s;obtain⟨rfl,rfl⟩:=s
       rw[H0.out];have Z:=hid o;obtain⟨vt,N,hT,hM,EO⟩:=o
       have HC:=hid N;have HM:=hid hM;have k4:=N.cell 4 rfl;have i:=an a f;have d:=hid (A.out.below f);obtain⟨lv,ps,I,G⟩:=HM.out.look_ok (string_keyed underlying9) underlying52 (Tryz.zeroInt w1) (plainElem_int underlying3 (by decide)) (keyOf_string_mk underlying9 z)
       obtain⟨cv,rfl,U,_⟩:=plainElem_int_inv underlying3 G
       rw[show Maps.has (Jn.D J.cos) (Lit.string key.data.toList)=dy J.cos key.data.toList from kZ J.cos key,X.out]at I;clear hK N hT hM G U;go_wp2_with fail;refine(lP key _ z).mono ?_
       rintro e w2 ⟨rfl,hw⟩;rw[hw,Y.out];clear hw w2;go_wp2_with fail;refine(uA J key l _ b mb nn _ _ wz _ H0.out Z.out (EL.out.below a) (EM.out.below a) (HU.out.below a) f ET.out z M.out E4 hb E3).mono ?_
       rintro e w2 ⟨rfl,S,_⟩;have E:=hid (A.out.below S);have E0:=an a S;clear k4;have y0:=E.out.cell 0 rfl;have y1:=E.out.cell 1 rfl;have y2:=E.out.cell 2 rfl;have g0:=E.out.fr 0;have g1:=E.out.fr 1;have g2:=E.out.fr 2;go_wp2;refine bodyPost_ret (v:= .tuple #[.agg #[al,ah,al],ah,Jn.newE J l]) (by simp[results,results104,go_sem,y0,y1,y2]) rfl ⟨_,by rw[HN.out,HE.out],?_,?_⟩
       · rw[HR.out]
         exact qi _ _
       · exact((E0.setCell (p:=⟨w.heap.size+1,0,none⟩) (Nat.le_succ _) _).setCell (p:=⟨w.heap.size+1,1,none⟩) (Nat.le_succ _) _).setCell (p:=⟨w.heap.size+1,2,none⟩) (Nat.le_succ _) _
 · obtain⟨hE,O,P⟩:=zi (key:=key) (l:=l) K
   have HE:=hid hE;have HN:=hid O;have HR:=hid P;have hz:(aT J==0)=false:=by simpa using K
   clear hE O P;go_enter func104,ntmps104
   go_wp2_with fail;rw[←j];clear j;refine(e9 J _ _ (HV.out.below a) HS.out M.out).mono ?_
   rintro e w1 ⟨p,rfl,_,_,f⟩;have d:=hid (A.out.below f);have y0:=d.out.cell 0 rfl;have y1:=d.out.cell 1 rfl;have y2:=d.out.cell 2 rfl;have g0:=d.out.fr 0;have g1:=d.out.fr 1;have g2:=d.out.fr 2;have i:=an a f;go_wp2;refine bodyPost_ret (v:= .tuple #[.agg #[al,ah,al],ah,aT J]) (by simp[results,results104,go_sem,y0,y1,y2]) rfl ⟨_,by rw[HN.out,HE.out],?_,?_⟩
   · rw[HR.out]
     exact qi _ _
   · exact((i.setCell (p:=⟨w.heap.size+1,0,none⟩) (Nat.le_succ _) _).setCell (p:=⟨w.heap.size+1,1,none⟩) (Nat.le_succ _) _).setCell (p:=⟨w.heap.size+1,2,none⟩) (Nat.le_succ _) _
end Go.Proofs.YtdlpjlfefjipkaaGreat
