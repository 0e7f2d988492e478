/- What the reference's OpenJournal answers, for every journal. -/
import Derived.Test.YtdlpjlfefjipkaaGreatHFZC
import Derived.Test.YtdlpjlfefjipkaaGreatHFZB
set_option linter.unusedSimpArgs false
set_option linter.unusedVariables false
namespace Go.Proofs.YtdlpjlfefjipkaaGreat
open Go.RowKit Go.Proofs.Tryz
set_option maxHeartbeats 4000000
set_option maxRecDepth 100000
def lp (w:World) (v:Value) (n:Nat) (f:Nat→List En):Prop:= ∃a cap,v= .slice a n cap∧n≤cap∧n≤1000000∧ ∀i,i<n→ ∃b o u,a=some ⟨b,o,none⟩∧b<w.heap.size∧w.cell? ⟨b,o+i,none⟩=some u∧aF w u (f i)
theorem lp.below {w w':World} {v:Value} {n:Nat} {f:Nat→List En} (h:lp w v n f) (d:Below w.heap.size w w'):lp w' v n f:=by
 obtain⟨a,c,E,j,s,x⟩:=h
 refine⟨a,c,E,j,s,fun i B=>?_⟩
 obtain⟨b,o,u,z,g,A,C⟩:=x i B
 exact⟨b,o,u,z,Nat.lt_of_lt_of_le g d.size,(d.cell (p:=⟨b,o+i,none⟩) g).trans A,C.below d⟩
theorem Bv {w:World} {base:Nat} {v:Value} {T:TypeId} {us:List Value} {f:Nat→List En} (h:w.ownsRow base T 1 v us.length us) (A: ∀i u,us[i]?=some u→aF w u (f i)) (o:us.length≤1000000):lp w v us.length f:=by
 have x:=h;obtain⟨E,z⟩:=h
 rcases z with⟨rfl,s⟩|⟨g,a,cur,rfl,C,B,d,F,s,j⟩
 · exact⟨none,0,by rw[s],by omega,o,fun i h=>absurd h (by omega)⟩
 · have c:=fG B
   refine⟨some ⟨g,0,none⟩,a,rfl,d,o,fun i h=>⟨g,0,us[i],rfl,c,?_,A i _ (List.getElem?_eq_getElem h)⟩⟩
   rw[Nat.zero_add,x.cellAt i (by omega)];exact List.getElem?_eq_getElem h
theorem Tryz.infoES:(prog.info? 33).map (fun i=>(i.zero,i.size,i.bytes))=some (some (.slice none 0 0),1,24):=by kernel_rfl
theorem Bw {l:List UInt8} (h:hY l=1):cK l=false:=by
 cases a:cK l with
 |false=>rfl
 |true=>rw[lO a]at h;exact absurd h (by decide)
theorem uS {l:List UInt8} (h:hY l=0):cK l=true:=by
 cases a:cK l with
 |true=>rfl
 |false=>rw[j8 a]at h;exact absurd h (by decide)
theorem jQ {w w':World} {base:Nat} {e:TypeId} {size:Nat} {v:Value} {n:Nat} {c:List Value} (h:w.ownsRow base e size v n c) (a:Below w.heap.size w w'):w'.ownsRow base e size v n c:=
 h.kept (row:=none) ⟨a.os,a.tape,a.output,a.size,fun k d _=>a.block k d⟩ (by cases h:v.ownBlock with
  |none=>exact Or.inl rfl
  |some g=>exact Or.inr (by simp))
def it (wr:World) (J:Jo) (us:List Value) (k:Nat):Prop:=us.length=k+1∧ ∀i u,us[i]?=some u→aF wr u (bO J i)
theorem it.below {w w':World} {J:Jo} {us:List Value} {k:Nat} (h:it w J us k) (c:Below w.heap.size w w'):it w' J us k:=⟨h.1,fun i u a=>(h.2 i u a).below c⟩
theorem it.row {w w':World} {J:Jo} {us:List Value} {k:Nat} {v:Value} (h:it w J us k) (a:w.grownBy w' v.ownBlock) (c:ie w v):it w' J us k:=⟨h.1,fun i u d=>(h.2 i u d).row a c⟩
theorem Cs.row {w w':World} {b:Nat} {vs:List Value} {v:Value} (h:Cs w b vs) (a:w.grownBy w' v.ownBlock) (c: ∀g,v.ownBlock=some g→b≠g):Cs w' b vs:=by
 cases d:v.ownBlock with
 |none=>
  rw[d]at a;exact h.below ⟨a.os,a.tape,a.output,a.size,fun k f=>a.block k f (by simp)⟩
 |some g=>
  rw[d]at a;exact h.nb a (c g d)
theorem it.snoc {w:World} {J:Jo} {us:List Value} {k:Nat} {x:Value} (h:it w J us k) (j:aF w x (bO J (k+1))):it w J (us++[x]) (k+1):=by
 refine⟨by simp[h.1],fun i u a=>?_⟩
 by_cases g:i<us.length
 · rw[List.getElem?_append_left g]at a
   exact h.2 i u a
 · rw[List.getElem?_append_right (by omega)]at a
   have f:=h.1
   have c:i=k+1:=by
    rcases Nat.lt_or_ge (i-us.length) 1 with d|d
    · omega
    · rw[List.getElem?_eq_none (by simpa using d)]at a;cases a
   subst c;rw[f,Nat.sub_self]at a;injection a with a
   exact a▸j
theorem uT (J:Jo) (v:Value) (w:World) (hv:cV w v J) (hp: ∀e∈J.base,e.path.size≤1000000000) (Fk:dm 1000000000 J.cos):
    Calls prog 43 #[v] w fun e w'=> ∃r,e= .returned (.tuple #[r,aT J])∧(aT J=0→lp w' r (J.cos.length+1) (bO J))∧Below w.heap.size w w':=by
 obtain⟨i0,FN,FT,FU,FV⟩:=info_parts Tryz.infoES
 obtain⟨vb,vc,rfl,Fq,FQ⟩:=hv
 have E5:=hid Fq;have HP:=hid hp;have Fx:=hid Fk;obtain⟨cb,E6,rfl,FM,Fv,hC⟩:=FQ
 obtain⟨ba,a,rfl,FK,Ft,_⟩:=Fq
 have HC:Hid (∀i (h:i<J.cos.length),∃b o,cb=some ⟨b,o,none⟩∧b<w.heap.size∧fH w b (o+i*3) J.cos[i]):=hC;clear hC hp Fk;obtain⟨wz,C⟩: ∃wz,wz=w.alloc (.cells #[.slice ba J.base.length a,J.first,.slice cb J.cos.length E6] 57):=⟨_,rfl⟩
 have N:Below w.heap.size w wz:=by rw[C];exact ak
 have EM:=hid (show Cs wz w.heap.size [.slice ba J.base.length a,J.first,.slice cb J.cos.length E6]from by rw[C];exact Cs.new _ _ _);by_cases ht:bg J.base=0
 · have HT:=hid ht
   by_cases hf:bm J.first=0
   · have HF:=hid hf
     by_cases hm:30<J.cos.length
     · have d:=hid (oW ht hf hm)
       have FP:30<(J.cos.length:Int):=by omega
       clear ht hf;go_enter func43,ntmps43
       go_wp2_with fail;rw[←C];clear C;refine(np J.base _ _ (E5.out.below N) HP.out).mono ?_
       rintro e X ⟨rfl,B⟩;rw[HT.out];have c1:=(EM.out.below B).cell 1 rfl;have c2:=(EM.out.below B).cell 2 rfl;go_wp2_with fail;refine(lh J.first _).mono ?_
       rintro e w2 ⟨rfl,P⟩;rw[P];clear P w2;rw[HF.out];go_wp2_with fail;go_ret2;exact⟨_,by rw[d.out];rfl,(fun h=>by rw[d.out]at h;exact absurd h (by decide)),an N B⟩
     · have FP: ¬30<(J.cos.length:Int):=by omega
       obtain⟨f1,f2⟩:=jj.1 hf
       have HG:=hid ((g9 J.base).1 ht);have EQ:=hid (show∀e T,cA J.first J.base J.cos=(e,T)→ ¬e=0→aT J=e from fun e T h he=>oX ht hf hm h he);have FH:=hid (show∀T,cA J.first J.base J.cos=(0,T)→ ¬dE J.cos→aT J=6 from fun T h ha=>oY ht hf hm h ha);have FG:=hid (show∀T,cA J.first J.base J.cos=(0,T)→dE J.cos→aT J=0 from fun T h ha=>se ht hf hm h ha);clear ht hf;go_enter func43,ntmps43
       go_wp2_with fail;rw[←C];clear C;refine(np J.base _ _ (E5.out.below N) HP.out).mono ?_
       rintro e X ⟨rfl,B⟩;rw[HT.out];have Y:=hid (EM.out.below B);have c0:=Y.out.cell 0 rfl;have c1:=Y.out.cell 1 rfl;have c2:=Y.out.cell 2 rfl;have G3:=Y.out.lt;go_wp2_with fail;refine(lh J.first _).mono ?_
       rintro e w2 ⟨rfl,P⟩;rw[P];clear P w2;rw[HF.out];have E7:=an N B;have Fa:Hid ((X.alloc (.cells #[.slice ba J.base.length a] 33)).ownsRow (w.heap.size+1) 33 1 (.slice (some ⟨X.heap.size,0,none⟩) 1 1) 1 [.slice ba J.base.length a]):=(World.ownsRow_lit X #[.slice ba J.base.length a] 1 (by omega) (by decide) rfl:_)
       have F9:=hid (show ie (X.alloc (.cells #[.slice ba J.base.length a] 33)) (.slice (some ⟨X.heap.size,0,none⟩) 1 1)from fun g hg=>by
        simp only[Value.ownBlock,Option.some.injEq]at hg;subst hg;exact nh (heap_alloc_new X _) (by simp))
       have EN:Below X.heap.size X (X.alloc (.cells #[.slice ba J.base.length a] 33)):=ak;have EX:=hid (E5.out.below (an E7 EN))
       have Fb:=hid (show it (X.alloc (.cells #[.slice ba J.base.length a] 33)) J [.slice ba J.base.length a] 0 from⟨rfl,fun i u hu=>by
        rcases Nat.eq_zero_or_pos i with h|h
        · subst h
          simp at hu
          rw[←hu,kf];exact EX.out
        · rw[List.getElem?_eq_none (by simp;omega)]at hu;cases hu⟩)
       have F3:=hid (Y.out.below EN);have ET:=an E7 EN;go_wp2_with fail;generalize FR:X.alloc (.cells #[.slice ba J.base.length a] 33)=wq at*;clear FR EN c0 c1 c2 Y E7;go_loopw [5,6,7] (fun x t i wr=> ∃(k:Nat) (us:List Value),k≤J.cos.length∧i= .int .i64 k∧Hid (wr.ownsRow (w.heap.size+1) 33 1 x us.length us)∧Hid (ie wr x)∧Hid (it wr J us k)∧Hid (aF wr t (bO J k))∧Hid (Pp.Good (bO J k))∧Hid (fm J (bO J k) k)∧Hid (Cs wr w.heap.size [.slice ba J.base.length a,J.first,.slice cb J.cos.length E6])∧Below w.heap.size w wr) (fun _ _ i _=>J.cos.length-(intOf i).toNat)
       case atStart=>exact⟨0,_,Nat.zero_le _,rfl,Fa,F9,Fb,by rw[kf];exact EX,by rw[kf];exact HG,by rw[kf];exact Jn.left_zero J,F3,ET⟩
       case round=>
        obtain⟨k,us,hk,rfl,E4,EZ,u9,F7,F5,HL,z,M⟩:=hrel
        clear Fa F9 Fb EX F3 ET;have c1:=z.out.cell 1 rfl;have c2:=z.out.cell 2 rfl;have G1:=z.out.lt;by_cases S:k<J.cos.length
        · obtain⟨b,o,rfl,hb,he⟩:=HC.out k S
          obtain⟨d0,d1,u,d2,hu⟩:=he.below hb M
          have HZ:=hid (Fx.out J.cos[k] (List.getElem_mem S));have c:=hid (show¬cz J.cos[k] (J.first+k)=0→aT J=cz J.cos[k] (J.first+k)from fun Q=>EQ.out _ _ (r8 HL.out S Q) Q);have E:=hid (show cz J.cos[k] (J.first+k)=0→ ¬bw (bO J k) J.cos[k].ch J.cos[k].nu=0→aT J=bw (bO J k) J.cos[k].ch J.cos[k].nu from fun Q I=>EQ.out _ _ (r9 HL.out S Q I) I);have Z:=hid (show cz J.cos[k] (J.first+k)=0→bw (bO J k) J.cos[k].ch J.cos[k].nu=0→fm J (bO J (k+1)) (k+1)from fun Q I=>by rw[mZ S];exact Jn.left_next HL.out S Q I);have K:Hid (bO J (k+1)=ct (bO J k) J.cos[k].ch J.cos[k].nu):=mZ S;clear he;generalize J.cos[k]=ck at*;obtain⟨nu,ke,ch⟩:=ck
          simp only at d0 d1 d2 hu;have EW:=hid (show ke.size≤maxLen from by have:ke.size≤1000000000:=HZ.out.1;unfold maxLen;omega);have HU:=hid hu;obtain⟨ua,Fs,rfl,_,_,_⟩:=hu
          have FS:IntKind.i64.wrap (J.first+(k:Int))=J.first+k:=by rw[IntKind.wrap_i64];omega
          have U:Below wr.heap.size wr (wr.alloc (.cells #[nu,ke,.slice ua ch.length Fs] 111)):=ak;have H:=an M U;rcases pk ⟨nu,ke,ch⟩ (J.first+k)with⟨I,hE⟩|⟨I,h2,hE⟩|⟨I,h2,h3,hE⟩|⟨I,h2,h3,h4,hE⟩|⟨I,h2,h3,h4,hE⟩
          · have d:=hid (c.out (by rw[hE];decide))
            have A:=hid hE;simp only at I;clear hE c E Z K;go_wp2_with fail;go_ret2;exact⟨_,by rw[d.out,A.out];rfl,(fun h=>by rw[d.out,A.out]at h;exact absurd h (by decide)),H⟩
          · have d:=hid (c.out (by rw[hE];decide))
            have A:=hid hE;simp only at I;subst I;clear hE c E Z K;go_wp2_with fail;go_ret2;exact⟨_,by rw[d.out,A.out];rfl,(fun h=>by rw[d.out,A.out]at h;exact absurd h (by decide)),H⟩
          · have d:=hid (c.out (by rw[hE];decide))
            have A:=hid hE;have E1:Hid (cK ke.data.toList=false):=Bw h3;simp only at I;subst I;clear hE h3 c E Z K;go_wp2_with fail;refine(lQ ke _ EW.out).mono ?_
            rintro e w4 ⟨rfl,P⟩;rw[P,E1.out];clear P w4;go_wp2_with fail;go_ret2;exact⟨_,by rw[d.out,A.out];rfl,(fun h=>by rw[d.out,A.out]at h;exact absurd h (by decide)),H⟩
          · have d:=hid (c.out (by rw[hE];decide))
            have A:=hid hE;have E1:Hid (cK ke.data.toList=true):=uS h3;have FI:((ch.length:Int)==0)=true:=by rw[beq_iff_eq];simp only at h4;omega
            simp only at I;subst I;clear hE h3 h4 c E Z K;go_wp2_with fail;refine(lQ ke _ EW.out).mono ?_
            rintro e w4 ⟨rfl,P⟩;rw[P,E1.out];clear P w4;go_wp2_with fail;go_ret2;exact⟨_,by rw[d.out,A.out];rfl,(fun h=>by rw[d.out,A.out]at h;exact absurd h (by decide)),H⟩
          · have E1:Hid (cK ke.data.toList=true):=uS h3
            have FI:((ch.length:Int)==0)=false:=by rw[beq_eq_false_iff_ne];simp only at h4;omega
            have HA:=hid (E.out hE);have HN:=hid (Z.out hE);simp only at I;subst I;clear hE h3 h4 c E Z;go_wp2_with fail;refine(lQ ke _ EW.out).mono ?_
            rintro e w4 ⟨rfl,P⟩;rw[P,E1.out];clear P w4;go_wp2_with fail;refine(qm (bO J k) _ ch _ (J.first+k) _ (F7.out.below U) F5.out (HU.out.below U) HZ.out.2).mono ?_
            rintro e w5 ⟨r,rfl,Fo,Fh⟩;have EY:=hid Fo;have G:=an U Fh;have EU:=an M G;clear Fo Fh;by_cases Q:bw (bO J k) ch (J.first+k)=0
            · have FC:=hid (HN.out Q)
              have Fz:=hid (show Pp.Good (bO J (k+1))from by rw[K.out];exact mX Q);have Fc:=hid (show aF w5 r (bO J (k+1))from by rw[K.out];exact EY.out Q);rw[Q];have F:=hid (jQ E4.out G);have E2:=hid (EZ.out.below (fun g hg=>(E4.out.lt g hg).2) G);have ER:=hid (u9.out.below G);have EO:=hid (z.out.below G);obtain⟨ra,V,rfl,_,_,_⟩:=Fc.out
              have EL:=u9.out.1;have FY:=G.size;clear Q HA HN K EY E4 EZ u9 z c1 c2;go_wp2_with (at_builtin;refine yK _ rfl _ _ 102 rfl (w.heap.size+1) 33 i0 al 1 24 underlying102 FN FT FU FV rfl (by decide) _ _ _ rfl (F.out.alloc _) ⟨w5.heap.size,0,none⟩ 1 1 [.slice ra (bO J (k+1)).length V] rfl rfl ?qc1 (by intro u hu;simp at hu;subst hu;rfl) (by unfold maxLen;omega) (by omega) (by simp;omega) (by decide) (by intro s;simp[Value.cells]) (by simp) ?qc2 ?_)
              case qc1=>intro j u hj;match j,hj with|0,hj=>simp at hj;subst hj;simp[Addr.add]|j+1,hj=>simp at hj
              case qc2=>exact E2.out.below (fun g hg=>(F.out.lt g hg).2) ak 
              intro v2 w2 Fp O EV;have E0:Below w5.heap.size w5 (w5.alloc (.cells #[.slice ra (bO J (k+1)).length V] 33)):=ak;have E3:=hid (E2.out.below (fun g hg=>(F.out.lt g hg).2) E0);have F6:=hid ((Fc.out.below E0).row O E3.out);have ES:=hid ((ER.out.below E0).row O E3.out);have Fe:=hid (ES.out.snoc F6.out);have F4:=hid ((EO.out.below E0).row O (fun g hg=>by have:=(F.out.lt g hg).1;omega));have Ff:Below w.heap.size w w2:=((an EU E0).grown O (by simp;omega) (fun g hg=>by have:=(F.out.lt g hg).1;omega))
              have FE:=hid (show w2.ownsRow (w.heap.size+1) 33 1 v2 (us++[Value.slice ra (bO J (k+1)).length V]).length (us++[Value.slice ra (bO J (k+1)).length V])from by rw[List.length_append,EL];exact Fp);have FD:=hid EV;clear Fp O EV E0 E3 ES F E2 ER EO;go_wp2;go_roundw
              case rel=>exact⟨k+1,_,by omega,by simp,FE,FD,Fe,F6,Fz,FC,F4,Ff⟩
              case measure=>simp[intOf];omega
            · have d:=hid (HA.out Q)
              have hz:(bw (bO J k) ch (J.first+k)==0)=false:=by simpa using Q
              have H0:=hid Q;clear Q HA HN K EY;go_wp2_with fail;go_ret2;exact⟨_,by rw[d.out];rfl,fun h=>absurd (d.out▸h) H0.out,EU⟩
        · obtain rfl:k=J.cos.length:=by omega
          have hr:=Jn.left_end HL.out;have HR:=hid hr;have EL:=u9.out.1
          have EP:=hid (show lp wr u5 (J.cos.length+1) (bO J)from by
           have:=Bv (f:=bO J) E4.out u9.out.2 (by rw[EL];omega)
           rw[EL]at this;exact this)
          obtain⟨xa,G2,rfl,_,_,_⟩:=EP.out
          clear hr E4 EZ u9 F7 F5 HL EL;generalize wr=wo at*;go_wp2;go_loopw [9] (fun i wr=> ∃m:Nat,m≤J.cos.length∧i= .int .i64 m∧Hid (dE (J.cos.take m))∧Below wo.heap.size wo wr) (fun i _=>J.cos.length-(intOf i).toNat)
          case atStart=>exact⟨0,Nat.zero_le _,rfl,(List.Pairwise.nil:dE []),aw⟩
          case round=>
           obtain⟨m,G4,rfl,F1,R⟩:=hrel
           clear c1 c2;have c2:=(z.out.below R).cell 2 rfl;have FZ:=R.size;by_cases EK:m<J.cos.length
           · obtain⟨b,o,rfl,hb,he⟩:=HC.out m EK
             have Fy:=hid he;clear he;generalize wr=wp at*;go_wp2;go_loopw [10] (fun i wr=> ∃q:Nat,q≤m∧i= .int .i64 q∧Hid (kh J.cos m q)∧Below wp.heap.size wp wr) (fun i _=>m-(intOf i).toNat)
             case atStart=>exact⟨0,Nat.zero_le _,rfl,(ye _ _:kh J.cos m 0),aw⟩
             case round=>
              obtain⟨q,hq,rfl,F0,EJ⟩:=hrel
              clear c2;have c2:=(z.out.below (an R EJ)).cell 2 rfl;have G0:=EJ.size;have E8:=an M (an R EJ);by_cases FO:q<m
              · obtain⟨b',o',E9,FJ,Fl⟩:=HC.out q (by omega)
                injection E9 with E9
                injection E9 with e1 e2
                subst e1;subst e2;have x1:=(Fy.out.below hb E8).2.1;have x2:=(Fl.below FJ E8).2.1;clear Fl;have FA:=hid (show J.cos[q].ke.data.toList≠J.cos[m].ke.data.toList→kh J.cos m (q+1)from fun h=>yg F0.out (by omega) EK h);have FB:=hid (show J.cos[q].ke.data.toList=J.cos[m].ke.data.toList→aT J=6 from fun h=>FH.out _ HR.out (yi EK FO h));generalize J.cos[q].ke=kq at*;generalize J.cos[m].ke=km at*;have FL:Below w.heap.size w wr.drew:=an E8 aw.drew;have Fj:Below wp.heap.size wp wr.drew:=an EJ aw.drew;cases Fm:(kq.toList==km.toList)with
                |true=>
                 have d:=hid (FB.out (by simpa[Lib.toList_data]using Fm));go_wp2_with fail;go_region
                 go_wp2_with fail;go_ret2;exact⟨_,by rw[d.out];rfl,(fun h=>by rw[d.out]at h;exact absurd h (by decide)),FL⟩
                |false=>
                 have HN:=hid (FA.out (by simpa[Lib.toList_data]using Fm));go_wp2_with fail;go_region
                 go_wp2;go_roundw
                 case rel=>exact⟨q+1,by omega,by simp,HN,Fj⟩
                 case measure=>simp[intOf];omega
              · obtain rfl:q=m:=by omega
                have Fw:Hid (dE (J.cos.take (q+1))):=yh EK F1.out F0.out;have Fi:=an R EJ;go_wp2;go_roundw
                case rel=>exact⟨q+1,by omega,by simp,Fw,Fi⟩
                case measure=>simp[intOf];omega
           · obtain rfl:m=J.cos.length:=by omega
             have F2:=hid (show dE J.cos from by have:=F1.out;rwa [List.take_length]at this);have d:=hid (FG.out _ HR.out F2.out);have F8:=hid (EP.out.below R);have Fg:=an M R;clear EK;go_wp2_with fail;go_ret2;exact⟨_,by rw[d.out];rfl,fun _=>F8.out,Fg⟩
   · have d:=hid (oV ht hf)
     have FW:(bm J.first==0)=false:=by simpa using hf
     clear ht hf;go_enter func43,ntmps43
     go_wp2_with fail;rw[←C];clear C;refine(np J.base _ _ (E5.out.below N) HP.out).mono ?_
     rintro e X ⟨rfl,B⟩;rw[HT.out];have c1:=(EM.out.below B).cell 1 rfl;go_wp2_with fail;refine(lh J.first _).mono ?_
     rintro e w2 ⟨rfl,P⟩;rw[P];clear P w2;go_wp2_with fail;go_ret2;exact⟨_,by rw[d.out];rfl,(fun h=>by rw[d.out]at h;exact absurd h (by decide)),an N B⟩
 · have FW:(bg J.base==0)=false:=by simpa using ht
   have d:=hid (oU ht);have HN:=hid ht;go_enter func43,ntmps43
   go_wp2_with fail;rw[←C];clear C;refine(np J.base _ _ (E5.out.below N) HP.out).mono ?_
   rintro e X ⟨rfl,B⟩;go_wp2_with fail;go_ret2;exact⟨_,by rw[d.out];rfl,fun h=>absurd (d.out▸h) HN.out,an N B⟩
def cO (n:Int) (p:ByteArray) (s:Se):Bool:=(s.nu==n) && (s.wh.toList==p.toList)
def bk (G:List Se) (x l r:Int) (p:ByteArray) (n now:Int):Int:=if bl G x l r now [p]=0 then(if cM (aq now G) (cO n p)<0 then 5 else 0)else bl G x l r now [p]
theorem qy (G:List Se) (x l r:Int) (p:ByteArray) (n now:Int):(¬bl G x l r now [p]=0∧bk G x l r p n now=bl G x l r now [p])∨(bl G x l r now [p]=0∧cM (aq now G) (cO n p)= -1∧bk G x l r p n now=5)∨(bl G x l r now [p]=0∧bk G x l r p n now=0∧ ∃k,k<(aq now G).length∧cM (aq now G) (cO n p)=(k:Int)):=by
 by_cases a:bl G x l r now [p]=0
 · right
   have e:bk G x l r p n now=if cM (aq now G) (cO n p)<0 then 5 else 0:=if_pos a
   rcases qf (aq now G) (cO n p)with⟨c,_⟩|⟨k,d,c,_⟩
   · left;exact⟨a,c,by rw[e,c];rfl⟩
   · right;exact⟨a,by rw[e,c,if_neg (by omega)],k,d,c⟩
 · left;exact⟨a,if_neg a⟩
theorem uU (s:Se) (n:Int) (p:ByteArray) (b1 b2:Nat) (w:World) (c:b1<w.heap.size) (d:b2<w.heap.size) (f:w.cell? ⟨b1,0,none⟩=some (.int .i64 n)) (g:w.cell? ⟨b2,0,none⟩=some (.string p)):
    Calls prog 147 #[.agg #[s.nu,s.wh,s.tx,s.si,s.ti],.pointer (some ⟨b1,0,none⟩),.pointer (some ⟨b2,0,none⟩)] w fun r w'=>r= .returned (.bool (cO n p s))∧Below w.heap.size w w':=by
 have j: ∀o,(w.alloc o).cell? ⟨b1,0,none⟩=some (.int .i64 n):=fun o=>(((Below.refl w.heap.size w).alloc ax o).cell (p:=⟨b1,0,none⟩) c).trans f
 have u: ∀o,(w.alloc o).cell? ⟨b2,0,none⟩=some (.string p):=fun o=>(((Below.refl w.heap.size w).alloc ax o).cell (p:=⟨b2,0,none⟩) d).trans g
 cases i:(s.nu==n)with
 |true=>
  have a:=hid (show(s.wh.toList==p.toList)=cO n p s from by rw[cO,i];rfl);go_enter func147,ntmps147
  go_wp2;go_ret;exact⟨br a.out,ak⟩
 |false=>
  have a:=hid (show false=cO n p s from by rw[cO,i];rfl);go_enter func147,ntmps147
  go_wp2;go_ret;exact⟨br a.out,ak⟩
theorem iU (G:List Se) (v:Value) (x l r:Int) (p:ByteArray) (n now:Int) (w:World) (hv:aK w v G) (hs:bq G) (hp:p.size≤150000000000000):
    Calls prog 106 #[.agg #[v,x,l,r],p,n,now] w fun e w'=>(¬bk G x l r p n now=0∧e= .returned (.tuple #[.agg  aJ ,ah,bk G x l r p n now])∧Below w.heap.size w w')∨
     (bk G x l r p n now=0∧ ∃u k,e= .returned (.tuple #[.agg #[u,x,l,r],.int .i64 (k:Nat),ah])∧k<(aq now G).length∧cM (aq now G) (cO n p)=k∧bR w.heap.size w' u (aq now G)∧Below w.heap.size w w'):=by
 have HV:=ac hv;have HS:=ac hs;clear hv hs;obtain⟨I,K⟩: ∃I,I=((w.alloc (.cells #[v,x,l,r] 26)).alloc (.cells #[p] 9)).alloc (.cells #[n] 3):=⟨_,rfl⟩
 have E4:Below w.heap.size w I:=by rw[K];exact( ak.alloc (by simp) _).alloc (by simp;omega) _
 have H:I.heap.size=w.heap.size+3:=by rw[K];simp
 have p2:I.cell? ⟨w.heap.size+1,0,none⟩=some (.string p):=by rw[K];simp[go_sem]
 have n2:I.cell? ⟨w.heap.size+2,0,none⟩=some (.int .i64 n):=by rw[K];simp[go_sem]
 obtain⟨U,z⟩: ∃U,U=(I.alloc (.cells  aJ  26)).alloc (.cells #[p] 9):=⟨_,rfl⟩
 have F:Below I.heap.size I U:=by rw[z];exact ak.alloc (by simp) _
 have V:=ac (E4.trans (F.mono E4.size))
 have E2:=hid (show Bx U (w.heap.size+3) al ah ah ah from by
  have:=(Bx.new I al ah ah ah 26).below ( aw.alloc ax (.cells #[p] 9))
  rw[z];rw[H]at this;exact this)
 have EQ:U.heap.size=w.heap.size+5:=by rw[z];simp[H]
 have P3:=ac ((F.cell (p:=⟨w.heap.size+1,0,none⟩) (by show w.heap.size+1<I.heap.size;omega)).trans p2);have N3:=ac ((F.cell (p:=⟨w.heap.size+2,0,none⟩) (by show w.heap.size+2<I.heap.size;omega)).trans n2)
 have E1:=hid (show gu U (.slice (some ⟨w.heap.size+4,0,none⟩) 1 1) [p]from Or.inr ⟨w.heap.size+4,1,rfl,by omega,fun i hi=>by
  match i,hi with
  |0,_=>
   have:((I.alloc (.cells  aJ  26)).alloc (.cells #[p] 9)).cell? ⟨(I.alloc (.cells  aJ  26)).heap.size,0,none⟩=some (.string p):=by simp
   rw[z];simpa[H]using this⟩)
 have E6: ∀s∈[p],s.size≤150000000000000:=fun s h=>by rw[List.mem_singleton.1 h];exact hp
 rw[K]at z;clear E4 F p2 n2 H K;rcases qy G x l r p n now with⟨N,hE⟩|⟨N,h1,hE⟩|⟨N,hE,k,hk,h1⟩
 · have Z:=ac hE
   have E8:=ac N;have hz:(bl G x l r now [p]==0)=false:=by simpa using N
   clear hE N;go_enter func106,ntmps106
   go_wp2_with fail;rw[←z];clear z;refine(iT G _ x l r now [p] _ _ (HV.out.below V.out) HS.out E1.out E6 (by simp)).mono ?_
   rintro e J (⟨_,rfl,a⟩|⟨hh,_⟩);rotate_left
   · exact absurd hh E8.out
   have d:=V.out.trans (a.mono V.out.size);obtain⟨R,⟨c0,c1,c2,c3⟩,f0,f1,f2,f3⟩:=E2.out.below a
   have Y:=a.size;clear a;generalize hy:bl G x l r now [p]=y at*;go_wp2;refine bodyPost_ret (v:= .tuple #[.agg  aJ ,ah,y]) (by simp[results,results106,go_sem,c0,c1,c2,c3,R]) rfl (Or.inl ⟨by rw[Z.out];exact E8.out,by rw[Z.out],?_⟩)
   exact(bz (b:=w.heap.size+3) d (by omega)).alloc (by simp;omega) _
 · have Z:=ac hE
   have H0:=ac N;have HI:=ac h1;have EK:=(cQ (bu (dz N).1).1).1;have EP:=de now G;clear hE N h1;go_enter func106,ntmps106
   go_wp2_with fail;rw[←z];clear z;refine(iT G _ x l r now [p] _ _ (HV.out.below V.out) HS.out E1.out E6 (by simp)).mono ?_
   rintro e J (⟨E5,_⟩|⟨_,u,rfl,C,a⟩)
   · exact absurd H0.out E5
   have d:=V.out.trans (a.mono V.out.size);have Q:=E2.out.below a;have P4:=ac ((a.cell (p:=⟨w.heap.size+1,0,none⟩) (by show w.heap.size+1<U.heap.size;omega)).trans P3.out);have N4:=ac ((a.cell (p:=⟨w.heap.size+2,0,none⟩) (by show w.heap.size+2<U.heap.size;omega)).trans N3.out);have Y:=a.size;have g:=ac C;clear a C;obtain⟨a5,A,E7,_,_,_⟩:=g.out.lies (by omega)
   subst E7;obtain⟨E,B⟩: ∃E,E=J.alloc (.cells #[.slice a5 (aq now G).length A,x,l,r] 26):=⟨_,rfl⟩
   have c:Below J.heap.size J E:=by rw[B];exact ak
   have O:Bx E J.heap.size (.slice a5 (aq now G).length A) x (.int .i64 l) r:=by rw[B];exact Bx.new _ _ _ _ _ _
   have S:=Q.below c;have o:=d.trans (c.mono d.size);have P:=g.out.below c;have pz:=(c.cell (p:=⟨w.heap.size+1,0,none⟩) (by show w.heap.size+1<J.heap.size;omega)).trans P4.out;have nz:=(c.cell (p:=⟨w.heap.size+2,0,none⟩) (by show w.heap.size+2<J.heap.size;omega)).trans N4.out;have EM:=c.size
   have j:l7 E 0 147 #[.pointer (some ⟨w.heap.size+2,0,none⟩),.pointer (some ⟨w.heap.size+1,0,none⟩)] (cO n p):=
    ⟨enters_of func147 (by kernel_rfl) rfl,fun W X s=>uU s n p (w.heap.size+2) (w.heap.size+1) W (Nat.lt_of_lt_of_le (by omega) X.size) (Nat.lt_of_lt_of_le (by omega) X.size) ((Nb.cell X (p:=⟨w.heap.size+2,0,none⟩) (by show w.heap.size+2<E.heap.size;omega) (by show w.heap.size+2≠0;omega)).trans nz) ((Nb.cell X (p:=⟨w.heap.size+1,0,none⟩) (by show w.heap.size+1<E.heap.size;omega) (by show w.heap.size+1≠0;omega)).trans pz)⟩
   have HT:=ac j;have M:=ac P;have E0:=ac O;clear j Q d c g P;obtain⟨EO,⟨q0,q1,q2,q3⟩,k0,k1,k2,k3⟩:=O
   go_wp2_with fail;rw[←B];clear B;refine(qg (aq now G) _ 0 _ _ (cO n p) _ (M.out.lies (by omega)) HT.out).mono ?_
   rintro e w5 ⟨rfl,f⟩;rw[HI.out];have T:=o.trans (f.mono o.size);have E3:=S.below f;have u9:=ac (E0.out.below f);have E9:=ac (M.out.below f);have EL:=f.size;clear f S o q0 q1 q2 q3 k0 k1 k2 k3;obtain⟨R,⟨c0,c1,c2,c3⟩,f0,f1,f2,f3⟩:=E3
   obtain⟨EJ,⟨q0,q1,q2,q3⟩,k0,k1,k2,k3⟩:=u9.out
   go_wp2;refine bodyPost_ret (v:= .tuple #[.agg  aJ ,ah,.int .i64 5]) (by simp[results,results106,go_sem,c0,c1,c2,c3,R]) rfl (Or.inl ⟨by rw[Z.out];decide,by rw[Z.out],?_⟩)
   exact bz (b:=w.heap.size+3) T (by omega)
 · have Z:=ac hE
   have EN:=ac h1;have ER: ¬(k:Int)<0:=by omega
   have H0:=ac N;have HI:=ac h1;have EK:=(cQ (bu (dz N).1).1).1;have EP:=de now G;clear hE N h1;go_enter func106,ntmps106
   go_wp2_with fail;rw[←z];clear z;refine(iT G _ x l r now [p] _ _ (HV.out.below V.out) HS.out E1.out E6 (by simp)).mono ?_
   rintro e J (⟨E5,_⟩|⟨_,u,rfl,C,a⟩)
   · exact absurd H0.out E5
   have d:=V.out.trans (a.mono V.out.size);have Q:=E2.out.below a;have P4:=ac ((a.cell (p:=⟨w.heap.size+1,0,none⟩) (by show w.heap.size+1<U.heap.size;omega)).trans P3.out);have N4:=ac ((a.cell (p:=⟨w.heap.size+2,0,none⟩) (by show w.heap.size+2<U.heap.size;omega)).trans N3.out);have Y:=a.size;have g:=ac C;clear a C;obtain⟨a5,A,E7,_,_,_⟩:=g.out.lies (by omega)
   subst E7;obtain⟨E,B⟩: ∃E,E=J.alloc (.cells #[.slice a5 (aq now G).length A,x,l,r] 26):=⟨_,rfl⟩
   have c:Below J.heap.size J E:=by rw[B];exact ak
   have O:Bx E J.heap.size (.slice a5 (aq now G).length A) x (.int .i64 l) r:=by rw[B];exact Bx.new _ _ _ _ _ _
   have S:=Q.below c;have o:=d.trans (c.mono d.size);have P:=g.out.below c;have pz:=(c.cell (p:=⟨w.heap.size+1,0,none⟩) (by show w.heap.size+1<J.heap.size;omega)).trans P4.out;have nz:=(c.cell (p:=⟨w.heap.size+2,0,none⟩) (by show w.heap.size+2<J.heap.size;omega)).trans N4.out;have EM:=c.size
   have j:l7 E 0 147 #[.pointer (some ⟨w.heap.size+2,0,none⟩),.pointer (some ⟨w.heap.size+1,0,none⟩)] (cO n p):=
    ⟨enters_of func147 (by kernel_rfl) rfl,fun W X s=>uU s n p (w.heap.size+2) (w.heap.size+1) W (Nat.lt_of_lt_of_le (by omega) X.size) (Nat.lt_of_lt_of_le (by omega) X.size) ((Nb.cell X (p:=⟨w.heap.size+2,0,none⟩) (by show w.heap.size+2<E.heap.size;omega) (by show w.heap.size+2≠0;omega)).trans nz) ((Nb.cell X (p:=⟨w.heap.size+1,0,none⟩) (by show w.heap.size+1<E.heap.size;omega) (by show w.heap.size+1≠0;omega)).trans pz)⟩
   have HT:=ac j;have M:=ac P;have E0:=ac O;clear j Q d c g P;obtain⟨EO,⟨q0,q1,q2,q3⟩,k0,k1,k2,k3⟩:=O
   go_wp2_with fail;rw[←B];clear B;refine(qg (aq now G) _ 0 _ _ (cO n p) _ (M.out.lies (by omega)) HT.out).mono ?_
   rintro e w5 ⟨rfl,f⟩;rw[HI.out];have T:=o.trans (f.mono o.size);have E3:=S.below f;have u9:=ac (E0.out.below f);have E9:=ac (M.out.below f);have EL:=f.size;clear f S o q0 q1 q2 q3 k0 k1 k2 k3;obtain⟨R,⟨c0,c1,c2,c3⟩,f0,f1,f2,f3⟩:=E3
   obtain⟨EJ,⟨q0,q1,q2,q3⟩,k0,k1,k2,k3⟩:=u9.out
   go_wp2;refine bodyPost_ret (v:= .tuple #[.agg #[.slice a5 (aq now G).length A,x,l,r],.int .i64 k,ah]) (by simp[results,results106,go_sem,c0,c1,c2,c3,R]) rfl (Or.inr ⟨Z.out,_,k,rfl,hk,EN.out,?_,?_⟩)
   · exact(E9.out.nb (Nb.set4 _ (w.heap.size+3) _ _ _ _) (by omega)).mono (by omega)
   · exact bz (b:=w.heap.size+3) T (by omega)
def Pp.mkE (G:List Gr) (f m:ByteArray):Int:=if aU [f,m]=0 then(if G.any (eo f)=true then 6 else if 60≤G.length then 2 else 0)else 1
theorem uV (G:List Gr) (f m:ByteArray):(aU [f,m]=1∧Pp.mkE G f m=1)∨(aU [f,m]=0∧G.any (eo f)=true∧Pp.mkE G f m=6)∨(aU [f,m]=0∧G.any (eo f)=false∧60≤G.length∧Pp.mkE G f m=2)∨(aU [f,m]=0∧G.any (eo f)=false∧G.length<60∧Pp.mkE G f m=0):=by
 rcases uv [f,m]with h|h
 · right
   cases c:G.any (eo f)with
   |true=>left;exact⟨h,rfl,by rw[Pp.mkE,if_pos h,c];rfl⟩
   |false=>
    right
    by_cases a:60≤G.length
    · left;exact⟨h,rfl,a,by rw[Pp.mkE,if_pos h,c,if_neg (by decide),if_pos a]⟩
    · right;exact⟨h,rfl,by omega,by rw[Pp.mkE,if_pos h,c,if_neg (by decide),if_neg a]⟩
 · left;exact⟨h,by rw[Pp.mkE,if_neg (by rw[h];decide)]⟩
def eD (G:List Gr) (f m:ByteArray):Int:=if bh G=0 then Pp.mkE G f m else bh G
def iu (G:List Gr) (f m:ByteArray):List Gr:=if eD G f m=0 then cC ⟨f,m,3⟩ G else[]
theorem nN {G:List Gr} {f m:ByteArray} (h: ¬eD G f m=0):iu G f m=[]:=if_neg h
theorem qz {G:List Gr} {f m:ByteArray} (h:eD G f m=0):iu G f m=cC ⟨f,m,3⟩ G:=if_pos h
theorem By {G:List Gr} {f m:ByteArray} (h:G.any (eo f)=false):(cC ⟨f,m,3⟩ G).length=G.length+1:=by
 have a:bP ⟨f,m,3⟩ G=G:=by
  rw[bP,List.filter_eq_self];intro y c;refine mx ?_
  have:=List.any_eq_false.1 h y c
  simpa[eo]using this
 rw[qw (by show¬(3:Int)=0;decide),(mv _ _).length_eq,a];rfl
theorem uW {G:List Gr} {f:ByteArray} (h:G.any (eo f)=true):0<(dt G f).length:=by
 rw[dt,List.length_map,List.length_filter_pos_iff];simpa using h
theorem uX {G:List Gr} {f:ByteArray} (h:G.any (eo f)=false):(dt G f).length=0:=by
 rw[dt,List.length_map]
 have:G.filter (eo f)=[]:=by
  rw[List.filter_eq_nil_iff];intro y a;exact List.any_eq_false.1 h y a
 rw[this];rfl
theorem uY (f m:ByteArray):(aU [f,m]=1∧(aA f.data.toList=false∨(aA f.data.toList=true∧aA m.data.toList=false)))∨(aU [f,m]=0∧aA f.data.toList=true∧aA m.data.toList=true):=by
 cases a:aA f.data.toList<;>cases c:aA m.data.toList<;>simp[aU,a,c]
theorem Bz (G:List Gr) (v:Value) (f m:ByteArray) (w:World) (hv:bj w v G) (hs:eu G) (hf:f.size≤150000000000000) (hm:m.size≤150000000000000):
    Calls prog 101 #[v,f,m] w fun e w'=> ∃u,e= .returned (.tuple #[u,eD G f m])∧(bj w' u (iu G f m)∧Fr w.heap.size u)∧Below w.heap.size w w':=by
 have M:=ac hv;have U:=ac hs;clear hv hs;have T: ∀i (A:i<[f,m].length),([f,m][i]).size≤1000000000000000:=fun i A=>by match i,A with|0,_=>exact Nat.le_trans hf (by decide)|1,_=>exact Nat.le_trans hm (by decide)
 have B:=ac T;clear T hf hm;by_cases g:bh G=0
 case neg=>
  have o:eD G f m=bh G:=if_neg g;have C:gP G [f,m]=bh G:=if_neg g;have P:Hid (iu G f m=[]):=nN (by rw[o];exact g);have F:=ac o;have J:=ac C;have hz:(bh G==0)=false:=by simpa using g
  clear o C g;go_enter func101,ntmps101
  go_wp2_with fail;refine(fT G _ [f,m] w.heap.size 2 _ (M.out.below ak) U.out (by simp) B.out (by simp) (fun i A=>by match i,A with|0,_=>simp|1,_=>simp)).mono ?_
  rintro e O ⟨rfl,d⟩;rw[J.out];have a:Below w.heap.size w O:= ak.trans (d.mono (by simp));clear d;generalize hy:bh G=y at*;go_wp2;go_ret2;exact⟨_,by rw[F.out];rfl,by rw[P.out];exact⟨fu _,fQ _⟩,a⟩
 case pos=>
 have o:eD G f m=Pp.mkE G f m:=if_pos g;have C:gP G [f,m]=aU [f,m]:=if_pos g;obtain⟨E0,_,I,_⟩:=jP g
 have u9:=ac ((mr G).1 I);clear I;rcases uV G f m with⟨E,hE⟩|⟨E,N,hE⟩|⟨E,N,h6,hE⟩|⟨E,N,h6,hE⟩
 · have P:Hid (iu G f m=[]):=nN (by rw[o,hE];decide)
   have F:=ac (o.trans hE);have J:=ac (C.trans E);clear o C hE E g;go_enter func101,ntmps101
   go_wp2_with fail;refine(fT G _ [f,m] w.heap.size 2 _ (M.out.below ak) U.out (by simp) B.out (by simp) (fun i A=>by match i,A with|0,_=>simp|1,_=>simp)).mono ?_
   rintro e O ⟨rfl,d⟩;rw[J.out];have a:Below w.heap.size w O:= ak.trans (d.mono (by simp));clear d;go_wp2;go_ret2;exact⟨_,by rw[F.out];rfl,by rw[P.out];exact⟨fu _,fQ _⟩,a⟩
 · have P:Hid (iu G f m=[]):=nN (by rw[o,hE];decide)
   have F:=ac (o.trans hE);have J:=ac (C.trans E);have V:=ac N;clear o C hE E g N;go_enter func101,ntmps101
   go_wp2_with fail;refine(fT G _ [f,m] w.heap.size 2 _ (M.out.below ak) U.out (by simp) B.out (by simp) (fun i A=>by match i,A with|0,_=>simp|1,_=>simp)).mono ?_
   rintro e O ⟨rfl,d⟩;rw[J.out];have a:Below w.heap.size w O:= ak.trans (d.mono (by simp));clear d;go_wp2_with fail;refine(tW f _).mono ?_
   rintro e w2 ⟨rfl,z,s⟩;have HT:=ac z;have c:=aG a s;clear z s a;go_wp2_with fail;refine(pO G _ _ _ (eo f) _ (M.out.below c) HT.out).mono ?_
   rintro e w3 ⟨rfl,x⟩;rw[V.out];have j:=aG c x;clear x c;go_wp2;go_ret2;exact⟨_,by rw[F.out];rfl,by rw[P.out];exact⟨fu _,fQ _⟩,j⟩
 all_goals
  have E1:=By (m:=m) N;have F:=ac (o.trans hE);have J:=ac (C.trans E);have V:=ac N
  first
   |(have Y:Hid (iu G f m=[]):=nN (by rw[o,hE];decide))
   |(have Z:Hid (iu G f m=cC ⟨f,m,3⟩ G):=qz (o.trans hE))
  clear o C hE E g N;go_enter func101,ntmps101
  go_wp2_with fail;refine(fT G _ [f,m] w.heap.size 2 _ (M.out.below ak) U.out (by simp) B.out (by simp) (fun i A=>by match i,A with|0,_=>simp|1,_=>simp)).mono ?_
  rintro e O ⟨rfl,d⟩;rw[J.out];have a:Below w.heap.size w O:= ak.trans (d.mono (by simp));clear d;go_wp2_with fail;refine(tW f _).mono ?_
  rintro e w2 ⟨rfl,z,s⟩;have HT:=ac z;have c:=aG a s;clear z s a;go_wp2_with fail;refine(pO G _ _ _ (eo f) _ (M.out.below c) HT.out).mono ?_
  rintro e w3 ⟨rfl,x⟩;rw[V.out];have j:=aG c x;clear x c;go_wp2_with fail;refine(nM G _ ⟨f,m,3⟩ _ (M.out.below j) (by omega) u9.out).mono ?_
  rintro e w4 ⟨u,rfl,⟨S,R⟩,Q⟩;have X:=ac (R.mono j.size);clear R;have K:=ac S;have H:=aG j Q;clear S Q j;go_wp2_with fail
  first
   |refine(uP _ _ _ K.out (by omega)).mono ?_
   |refine(ud _ _ _ K.out (by omega)).mono ?_
  rintro e w5 ⟨rfl,hw⟩;rw[hw];clear hw w5;go_wp2;go_ret2
  first
   |exact⟨_,by rw[F.out];rfl,by rw[Y.out];exact⟨fu _,fQ _⟩,H⟩
   |exact⟨_,by rw[F.out];rfl,by rw[Z.out];exact⟨K.out,X.out⟩,H⟩
theorem lr {x:Gr} {X:List Gr} {a:Bool} {y:Gr} (h:a=true∨a7 y x=true) (c:dq x y=true):eA x (X,a) y=(X++[y],a):=by
 rw[eA];rcases h with h|h
 · subst h;simp[c]
 · simp[c,h]
theorem BA {x:Gr} {X:List Gr} {y:Gr} (a:dq x y=false):eA x (X,true) y=(X,true):=by
 rw[eA];simp[a]
theorem BB {x:Gr} {X:List Gr} {y:Gr} (h:a7 y x=false) (a:dq x y=false):eA x (X,false) y=(X++[x],true):=by
 rw[eA];simp[a,h]
theorem uZ {x:Gr} {X:List Gr} {y:Gr} (h:a7 y x=false) (a:dq x y=true):eA x (X,false) y=(X++[x]++[y],true):=by
 rw[eA];simp[a,h]
theorem qA {a b:ByteArray} (c:Op.bytesLess a.toList b.toList=false) (d:(a.toList==b.toList)=true):bx a b=0:=by rw[bx,c,d];simp
theorem nO {x y:Gr} (a:Op.bytesLess y.fo.toList x.fo.toList=false) (c:(y.fo.toList==x.fo.toList)=true) (h:(y.wh.toList==x.wh.toList)=false):dq x y=true:=by
 have d:=uO h;rw[dq,bI,if_pos (qA a c)];simpa using d
theorem EI {x y:Gr} (a:Op.bytesLess y.fo.toList x.fo.toList=false) (c:(y.fo.toList==x.fo.toList)=true) (d:Op.bytesLess y.wh.toList x.wh.toList=false) (h:(y.wh.toList==x.wh.toList)=true):dq x y=false:=by
 rw[dq,bI,if_pos (qA a c),qA d h];rfl
theorem BC (x:Gr) (b:Bool) (L:List Gr): ∀k,k≤L.length→(cU x b (L.take k)).1.length≤2*k:=by
 intro k;induction k with
 |zero=>intro _;simp[cU]
 |succ k ih=>
  intro a;have:=ih (by omega)
  rw[List.take_succ_eq_append_getElem (by omega),qt,eA];split<;>split<;>simp only[List.length_append,List.length_cons,List.length_nil]<;>omega
theorem jw {w w':World} {row:Option Nat} {p:Addr} {v:Value} (a:w.grownBy w' row) (c:p.block<w.heap.size) (d:row≠some p.block) (h:w.cell? p=some v):w'.cell? p=some v:=
 (World.cell?_of_block (w:=w) (a.block p.block c (fun e=>d e.symm))).trans h
theorem gv (G:List Gr) (v:Value) (f m:ByteArray) (r:Int) (w:World) (hv:bj w v G) (hn:G.length≤1000):
    Calls prog 47 #[v,f,m,r] w fun e w'=> ∃u,e= .returned u∧w'.ownsRow w.heap.size 64 3 u (is ⟨f,m,r⟩ (r==0) G).length (dp (is ⟨f,m,r⟩ (r==0) G))∧Below w.heap.size w w':=by
 obtain⟨i0,P,Q,R,T⟩:=info_parts Tryz.infoG
 obtain⟨a,ES,rfl,ER,EQ,EN⟩:=hv
 have HL:Hid (∀i (h:i<G.length),∃b o,a=some ⟨b,o,none⟩∧b<w.heap.size∧em w b (o+i*3) G[i]):=EN;clear EN;obtain⟨O,E8⟩: ∃O,O=(r==0):=⟨_,rfl⟩
 have HX:=hid (show∀k,∀h':k<G.length,cU ⟨f,m,r⟩ O (G.take (k+1))=eA ⟨f,m,r⟩ (cU ⟨f,m,r⟩ O (G.take k)) G[k]from fun k h'=>by rw[List.take_succ_eq_append_getElem h',qt]);have EL:=hid (show∀k,k≤G.length→(cU ⟨f,m,r⟩ O (G.take k)).1.length≤2*k from BC _ _ _);rw[←E8];go_enter func47,ntmps47
 go_wp2;go_loopw [9,10,11] (fun o pt i wr=> ∃k:Nat,k≤G.length∧i= .int .i64 k∧pt= .bool (cU ⟨f,m,r⟩ O (G.take k)).2∧wr.ownsRow w.heap.size 64 3 o (cU ⟨f,m,r⟩ O (G.take k)).1.length (dp (cU ⟨f,m,r⟩ O (G.take k)).1)∧Below w.heap.size w wr) (fun _ _ i _=>G.length-(intOf i).toNat)
 case atStart=>exact⟨0,Nat.zero_le _,rfl,by rw[List.take_zero,E8];rfl,World.ownsRow_nil _ _ _ _,aw⟩
 case round=>
  clear E8;obtain⟨k,hk,rfl,rfl,M,K⟩:=hrel
  have E9:=EL.out k hk;by_cases EP:k<G.length
  · obtain⟨b,o,rfl,hb,he⟩:=HL.out k EP
    obtain⟨c0,c1,c2⟩:=he.below hb K
    have A:=HX.out k EP;clear he;generalize cU ⟨f,m,r⟩ O (G.take k)=S at*;obtain⟨X,pb⟩:=S
    simp only at E9 M;generalize G[k]=y at*;have EO:=K.size;obtain⟨wz,z⟩: ∃wz,wz=wr.alloc (.cells #[y.fo,y.wh,y.ri] 64):=⟨_,rfl⟩
    have E3:=z▸M.alloc (.cells #[y.fo,y.wh,y.ri] 64);have E1:Below w.heap.size w wz:=z▸K.alloc K.size _;have q0:wz.cell? ⟨wr.heap.size,0,none⟩=some (.string y.fo):=by rw[z];simp
    have q1:wz.cell? ⟨wr.heap.size,1,none⟩=some (.string y.wh):=by rw[z];simp
    have q2:wz.cell? ⟨wr.heap.size,2,none⟩=some (.int .i64 y.ri):=by rw[z];simp
    have N:wz.heap.size=wr.heap.size+1:=by rw[z];simp
    have hz: ∀(o:Obj) (c:Nat),(wz.alloc o).cell? ⟨wr.heap.size,c,none⟩=wz.cell? ⟨wr.heap.size,c,none⟩:=fun o c=>((Below.refl wz.heap.size wz).alloc ax o).cell (p:=⟨wr.heap.size,c,none⟩) (by show wr.heap.size<wz.heap.size;omega)
    have HZ:=ac hz;have F:=ac E1;have U:=ac E3;have J:=ac M;have HB:=ac K;clear E1 E3 M K hz;cases pb with
    |true=>
     rcases ir y.fo f with⟨t1,t2,t3,t4⟩|⟨t1,t2,t3,t4⟩|⟨t1,t2,t3,t4⟩
     · have B:=hid (show cU ⟨f,m,r⟩ O (G.take (k+1))=(X++[y],true)from by rw[A];exact lr (Or.inl rfl) (mx t3))
       clear A;go_wp2_with (at_builtin;rw[←z];refine wpList_append_own _ rfl _ _ 23 rfl w.heap.size 64 i0 (.agg #[.string ⟨#[]⟩,.string ⟨#[]⟩,ah]) 3 40 underlying23 P Q R T rfl (by decide) _ _ _ rfl (U.out.alloc _) ⟨wr.heap.size+1,0,none⟩ 1 1 (cd y) rfl rfl (by rw[←N];exact fO wz y _) (fx _) (by unfold maxLen;omega) (by omega) (by simp;omega) ?_)
       intro v2 E x d C;rw[←z]at d;rw[fN]at x;have s:E.ownsRow w.heap.size 64 3 v2 (X++[y]).length (dp (X++[y])):=by rw[List.length_append];exact x
       have j:Below w.heap.size w E:=(F.out.alloc F.out.size _).grown d (by simp;omega) (fun g Y=>(J.out.lt g Y).1);have I:=ac s;have H:=ac j;clear x d C s j z q0 q1 q2;go_wp2;go_roundw
       case rel=>exact⟨k+1,by omega,by simp,by rw[B.out],by rw[B.out];exact I.out,H.out⟩
       case measure=>simp[intOf];omega
     · rcases ir y.wh m with⟨s1,s2,s3,s4⟩|⟨s1,s2,s3,s4⟩|⟨s1,s2,s3,s4⟩
       · have B:=hid (show cU ⟨f,m,r⟩ O (G.take (k+1))=(X++[y],true)from by rw[A];exact lr (Or.inl rfl) (nO t1 t3 s3))
         clear A;go_wp2_with (at_builtin;rw[←z];refine wpList_append_own _ rfl _ _ 23 rfl w.heap.size 64 i0 (.agg #[.string ⟨#[]⟩,.string ⟨#[]⟩,ah]) 3 40 underlying23 P Q R T rfl (by decide) _ _ _ rfl (U.out.alloc _) ⟨wr.heap.size+1,0,none⟩ 1 1 (cd y) rfl rfl (by rw[←N];exact fO wz y _) (fx _) (by unfold maxLen;omega) (by omega) (by simp;omega) ?_)
         intro v2 E x d C;rw[←z]at d;rw[fN]at x;have s:E.ownsRow w.heap.size 64 3 v2 (X++[y]).length (dp (X++[y])):=by rw[List.length_append];exact x
         have j:Below w.heap.size w E:=(F.out.alloc F.out.size _).grown d (by simp;omega) (fun g Y=>(J.out.lt g Y).1);have I:=ac s;have H:=ac j;clear x d C s j z q0 q1 q2;go_wp2;go_roundw
         case rel=>exact⟨k+1,by omega,by simp,by rw[B.out],by rw[B.out];exact I.out,H.out⟩
         case measure=>simp[intOf];omega
       · have B:=hid (show cU ⟨f,m,r⟩ O (G.take (k+1))=(X,true)from by rw[A];exact BA (EI t1 t3 s1 s3))
         clear A;go_wp2;go_roundw
         case rel=>exact⟨k+1,by omega,by simp,by rw[B.out],by rw[B.out];first|exact U.out|(rw[←z];exact U.out),by first|exact F.out|(rw[←z];exact F.out)⟩
         case measure=>simp[intOf];omega
       · have B:=hid (show cU ⟨f,m,r⟩ O (G.take (k+1))=(X++[y],true)from by rw[A];exact lr (Or.inl rfl) (nO t1 t3 s3))
         clear A;go_wp2_with (at_builtin;rw[←z];refine wpList_append_own _ rfl _ _ 23 rfl w.heap.size 64 i0 (.agg #[.string ⟨#[]⟩,.string ⟨#[]⟩,ah]) 3 40 underlying23 P Q R T rfl (by decide) _ _ _ rfl (U.out.alloc _) ⟨wr.heap.size+1,0,none⟩ 1 1 (cd y) rfl rfl (by rw[←N];exact fO wz y _) (fx _) (by unfold maxLen;omega) (by omega) (by simp;omega) ?_)
         intro v2 E x d C;rw[←z]at d;rw[fN]at x;have s:E.ownsRow w.heap.size 64 3 v2 (X++[y]).length (dp (X++[y])):=by rw[List.length_append];exact x
         have j:Below w.heap.size w E:=(F.out.alloc F.out.size _).grown d (by simp;omega) (fun g Y=>(J.out.lt g Y).1);have I:=ac s;have H:=ac j;clear x d C s j z q0 q1 q2;go_wp2;go_roundw
         case rel=>exact⟨k+1,by omega,by simp,by rw[B.out],by rw[B.out];exact I.out,H.out⟩
         case measure=>simp[intOf];omega
     · have B:=hid (show cU ⟨f,m,r⟩ O (G.take (k+1))=(X++[y],true)from by rw[A];exact lr (Or.inl rfl) (mx t3))
       clear A;go_wp2_with (at_builtin;rw[←z];refine wpList_append_own _ rfl _ _ 23 rfl w.heap.size 64 i0 (.agg #[.string ⟨#[]⟩,.string ⟨#[]⟩,ah]) 3 40 underlying23 P Q R T rfl (by decide) _ _ _ rfl (U.out.alloc _) ⟨wr.heap.size+1,0,none⟩ 1 1 (cd y) rfl rfl (by rw[←N];exact fO wz y _) (fx _) (by unfold maxLen;omega) (by omega) (by simp;omega) ?_)
       intro v2 E x d C;rw[←z]at d;rw[fN]at x;have s:E.ownsRow w.heap.size 64 3 v2 (X++[y]).length (dp (X++[y])):=by rw[List.length_append];exact x
       have j:Below w.heap.size w E:=(F.out.alloc F.out.size _).grown d (by simp;omega) (fun g Y=>(J.out.lt g Y).1);have I:=ac s;have H:=ac j;clear x d C s j z q0 q1 q2;go_wp2;go_roundw
       case rel=>exact⟨k+1,by omega,by simp,by rw[B.out],by rw[B.out];exact I.out,H.out⟩
       case measure=>simp[intOf];omega
    |false=>
     rcases ir y.fo f with⟨t1,t2,t3,t4⟩|⟨t1,t2,t3,t4⟩|⟨t1,t2,t3,t4⟩
     · have B:=hid (show cU ⟨f,m,r⟩ O (G.take (k+1))=(X++[y],false)from by rw[A];exact lr (Or.inr (by rw[a7];simp[aN,t1]:a7 y ⟨f,m,r⟩=true)) (mx t3))
       clear A;go_wp2_with (at_builtin;rw[←z];refine wpList_append_own _ rfl _ _ 23 rfl w.heap.size 64 i0 (.agg #[.string ⟨#[]⟩,.string ⟨#[]⟩,ah]) 3 40 underlying23 P Q R T rfl (by decide) _ _ _ rfl (U.out.alloc _) ⟨wr.heap.size+1,0,none⟩ 1 1 (cd y) rfl rfl (by rw[←N];exact fO wz y _) (fx _) (by unfold maxLen;omega) (by omega) (by simp;omega) ?_)
       intro v2 E x d C;rw[←z]at d;rw[fN]at x;have s:E.ownsRow w.heap.size 64 3 v2 (X++[y]).length (dp (X++[y])):=by rw[List.length_append];exact x
       have j:Below w.heap.size w E:=(F.out.alloc F.out.size _).grown d (by simp;omega) (fun g Y=>(J.out.lt g Y).1);have I:=ac s;have H:=ac j;clear x d C s j z q0 q1 q2;go_wp2;go_roundw
       case rel=>exact⟨k+1,by omega,by simp,by rw[B.out],by rw[B.out];exact I.out,H.out⟩
       case measure=>simp[intOf];omega
     · rcases ir y.wh m with⟨s1,s2,s3,s4⟩|⟨s1,s2,s3,s4⟩|⟨s1,s2,s3,s4⟩
       · have B:=hid (show cU ⟨f,m,r⟩ O (G.take (k+1))=(X++[y],false)from by rw[A];exact lr (Or.inr (by rw[a7];simp[aN,t1,t2,s1]:a7 y ⟨f,m,r⟩=true)) (nO t1 t3 s3))
         clear A;go_wp2_with (at_builtin;rw[←z];refine wpList_append_own _ rfl _ _ 23 rfl w.heap.size 64 i0 (.agg #[.string ⟨#[]⟩,.string ⟨#[]⟩,ah]) 3 40 underlying23 P Q R T rfl (by decide) _ _ _ rfl (U.out.alloc _) ⟨wr.heap.size+1,0,none⟩ 1 1 (cd y) rfl rfl (by rw[←N];exact fO wz y _) (fx _) (by unfold maxLen;omega) (by omega) (by simp;omega) ?_)
         intro v2 E x d C;rw[←z]at d;rw[fN]at x;have s:E.ownsRow w.heap.size 64 3 v2 (X++[y]).length (dp (X++[y])):=by rw[List.length_append];exact x
         have j:Below w.heap.size w E:=(F.out.alloc F.out.size _).grown d (by simp;omega) (fun g Y=>(J.out.lt g Y).1);have I:=ac s;have H:=ac j;clear x d C s j z q0 q1 q2;go_wp2;go_roundw
         case rel=>exact⟨k+1,by omega,by simp,by rw[B.out],by rw[B.out];exact I.out,H.out⟩
         case measure=>simp[intOf];omega
       · have B:=hid (show cU ⟨f,m,r⟩ O (G.take (k+1))=(X++[Gr.mk f m r],true)from by rw[A];exact BB ((by rw[a7];simp[aN,t1,t2,s1]:a7 y ⟨f,m,r⟩=false)) (EI t1 t3 s1 s3))
         clear A;go_wp2_with (at_builtin;rw[←z];refine wpList_append_own _ rfl _ _ 23 rfl w.heap.size 64 i0 (.agg #[.string ⟨#[]⟩,.string ⟨#[]⟩,ah]) 3 40 underlying23 P Q R T rfl (by decide) _ _ _ rfl (U.out.alloc _) ⟨wr.heap.size+1,0,none⟩ 1 1 (cd (Gr.mk f m r)) rfl rfl (by rw[←N];exact fO wz ⟨f,m,r⟩ _) (fx _) (by unfold maxLen;omega) (by omega) (by simp;omega) ?_)
         intro v2 E x d C;rw[←z]at d;rw[fN]at x;have s:E.ownsRow w.heap.size 64 3 v2 (X++[Gr.mk f m r]).length (dp (X++[Gr.mk f m r])):=by rw[List.length_append];exact x
         have j:Below w.heap.size w E:=(F.out.alloc F.out.size _).grown d (by simp;omega) (fun g Y=>(J.out.lt g Y).1);have p0:E.cell? ⟨wr.heap.size,0,none⟩=some (.string y.fo):=jw d (by simp;omega) (fun e=>Nat.lt_irrefl _ (J.out.lt _ e).2) ((HZ.out _ _).trans q0);have p1:E.cell? ⟨wr.heap.size,1,none⟩=some (.string y.wh):=jw d (by simp;omega) (fun e=>Nat.lt_irrefl _ (J.out.lt _ e).2) ((HZ.out _ _).trans q1);have p2:E.cell? ⟨wr.heap.size,2,none⟩=some (.int .i64 y.ri):=jw d (by simp;omega) (fun e=>Nat.lt_irrefl _ (J.out.lt _ e).2) ((HZ.out _ _).trans q2);have I:=ac s;have H:=ac j;have E4:=j.size;clear x d C s j z q0 q1 q2;go_wp2;go_roundw
         case rel=>exact⟨k+1,by omega,by simp,by rw[B.out],by rw[B.out];exact I.out,H.out⟩
         case measure=>simp[intOf];omega
       · have B:=hid (show cU ⟨f,m,r⟩ O (G.take (k+1))=(X++[Gr.mk f m r]++[y],true)from by rw[A];exact uZ ((by rw[a7];simp[aN,t1,t2,s1]:a7 y ⟨f,m,r⟩=false)) (nO t1 t3 s3))
         clear A;go_wp2_with (at_builtin;rw[←z];refine wpList_append_own _ rfl _ _ 23 rfl w.heap.size 64 i0 (.agg #[.string ⟨#[]⟩,.string ⟨#[]⟩,ah]) 3 40 underlying23 P Q R T rfl (by decide) _ _ _ rfl (U.out.alloc _) ⟨wr.heap.size+1,0,none⟩ 1 1 (cd (Gr.mk f m r)) rfl rfl (by rw[←N];exact fO wz ⟨f,m,r⟩ _) (fx _) (by unfold maxLen;omega) (by omega) (by simp;omega) ?_)
         intro v2 E x d C;rw[←z]at d;rw[fN]at x;have s:E.ownsRow w.heap.size 64 3 v2 (X++[Gr.mk f m r]).length (dp (X++[Gr.mk f m r])):=by rw[List.length_append];exact x
         have j:Below w.heap.size w E:=(F.out.alloc F.out.size _).grown d (by simp;omega) (fun g Y=>(J.out.lt g Y).1);have p0:E.cell? ⟨wr.heap.size,0,none⟩=some (.string y.fo):=jw d (by simp;omega) (fun e=>Nat.lt_irrefl _ (J.out.lt _ e).2) ((HZ.out _ _).trans q0);have p1:E.cell? ⟨wr.heap.size,1,none⟩=some (.string y.wh):=jw d (by simp;omega) (fun e=>Nat.lt_irrefl _ (J.out.lt _ e).2) ((HZ.out _ _).trans q1);have p2:E.cell? ⟨wr.heap.size,2,none⟩=some (.int .i64 y.ri):=jw d (by simp;omega) (fun e=>Nat.lt_irrefl _ (J.out.lt _ e).2) ((HZ.out _ _).trans q2);have I:=ac s;have H:=ac j;have E4:=j.size;clear x d C s j z q0 q1 q2;have EJ:(X++[Gr.mk f m r]).length=X.length+1:=by simp
         go_wp2_with (at_builtin;refine wpList_append_own _ rfl _ _ 23 rfl w.heap.size 64 i0 (.agg #[.string ⟨#[]⟩,.string ⟨#[]⟩,ah]) 3 40 underlying23 P Q R T rfl (by decide) _ _ _ rfl (I.out.alloc _) ⟨E.heap.size,0,none⟩ 1 1 (cd y) rfl rfl (fO E y _) (fx _) (by unfold maxLen;omega) (by omega) (by simp;omega) ?_)
         intro v3 w3 E0 u9 E2;rw[fN]at E0;have Z:w3.ownsRow w.heap.size 64 3 v3 (X++[Gr.mk f m r]++[y]).length (dp (X++[Gr.mk f m r]++[y])):=by rw[List.length_append,EJ];exact E0
         have V:Below w.heap.size w w3:=(H.out.alloc H.out.size _).grown u9 (by simp;omega) (fun g Y=>(I.out.lt g Y).1);have E6:=ac Z;have E5:=ac V;clear E0 u9 E2 Z V p0 p1 p2;go_wp2;go_roundw
         case rel=>exact⟨k+1,by omega,by simp,by rw[B.out],by rw[B.out];exact E6.out,E5.out⟩
         case measure=>simp[intOf];omega
     · have B:=hid (show cU ⟨f,m,r⟩ O (G.take (k+1))=(X++[Gr.mk f m r]++[y],true)from by rw[A];exact uZ ((by rw[a7];simp[aN,t1,t2]:a7 y ⟨f,m,r⟩=false)) (mx t3))
       clear A;go_wp2_with (at_builtin;rw[←z];refine wpList_append_own _ rfl _ _ 23 rfl w.heap.size 64 i0 (.agg #[.string ⟨#[]⟩,.string ⟨#[]⟩,ah]) 3 40 underlying23 P Q R T rfl (by decide) _ _ _ rfl (U.out.alloc _) ⟨wr.heap.size+1,0,none⟩ 1 1 (cd (Gr.mk f m r)) rfl rfl (by rw[←N];exact fO wz ⟨f,m,r⟩ _) (fx _) (by unfold maxLen;omega) (by omega) (by simp;omega) ?_)
       intro v2 E x d C;rw[←z]at d;rw[fN]at x;have s:E.ownsRow w.heap.size 64 3 v2 (X++[Gr.mk f m r]).length (dp (X++[Gr.mk f m r])):=by rw[List.length_append];exact x
       have j:Below w.heap.size w E:=(F.out.alloc F.out.size _).grown d (by simp;omega) (fun g Y=>(J.out.lt g Y).1);have p0:E.cell? ⟨wr.heap.size,0,none⟩=some (.string y.fo):=jw d (by simp;omega) (fun e=>Nat.lt_irrefl _ (J.out.lt _ e).2) ((HZ.out _ _).trans q0);have p1:E.cell? ⟨wr.heap.size,1,none⟩=some (.string y.wh):=jw d (by simp;omega) (fun e=>Nat.lt_irrefl _ (J.out.lt _ e).2) ((HZ.out _ _).trans q1);have p2:E.cell? ⟨wr.heap.size,2,none⟩=some (.int .i64 y.ri):=jw d (by simp;omega) (fun e=>Nat.lt_irrefl _ (J.out.lt _ e).2) ((HZ.out _ _).trans q2);have I:=ac s;have H:=ac j;have E4:=j.size;clear x d C s j z q0 q1 q2;have EJ:(X++[Gr.mk f m r]).length=X.length+1:=by simp
       go_wp2_with (at_builtin;refine wpList_append_own _ rfl _ _ 23 rfl w.heap.size 64 i0 (.agg #[.string ⟨#[]⟩,.string ⟨#[]⟩,ah]) 3 40 underlying23 P Q R T rfl (by decide) _ _ _ rfl (I.out.alloc _) ⟨E.heap.size,0,none⟩ 1 1 (cd y) rfl rfl (fO E y _) (fx _) (by unfold maxLen;omega) (by omega) (by simp;omega) ?_)
       intro v3 w3 E0 u9 E2;rw[fN]at E0;have Z:w3.ownsRow w.heap.size 64 3 v3 (X++[Gr.mk f m r]++[y]).length (dp (X++[Gr.mk f m r]++[y])):=by rw[List.length_append,EJ];exact E0
       have V:Below w.heap.size w w3:=(H.out.alloc H.out.size _).grown u9 (by simp;omega) (fun g Y=>(I.out.lt g Y).1);have E6:=ac Z;have E5:=ac V;clear E0 u9 E2 Z V p0 p1 p2;go_wp2;go_roundw
       case rel=>exact⟨k+1,by omega,by simp,by rw[B.out],by rw[B.out];exact E6.out,E5.out⟩
       case measure=>simp[intOf];omega
  · have e:G.take k=G:=List.take_of_length_le (by omega)
    rw[e]at M E9⊢;have HR:=hid (show∀X pb,cU ⟨f,m,r⟩ O G=(X,pb)→is ⟨f,m,r⟩ O G=if pb=true then X else X++[Gr.mk f m r]from fun X pb e=>by rw[is,e]);obtain⟨X,hX⟩: ∃X,X=(cU ⟨f,m,r⟩ O G).1:=⟨_,rfl⟩
    obtain⟨pb,EK⟩: ∃pb,pb=(cU ⟨f,m,r⟩ O G).2:=⟨_,rfl⟩
    rw[←hX]at M E9;rw[←EK];have EM:=ac (HR.out X pb (by rw[hX,EK]));clear hX EK;have EO:=K.size;cases pb with
    |true=>
     have E7:=hid (show is ⟨f,m,r⟩ O G=X from by rw[EM.out];rfl);go_wp2;go_ret;exact⟨_,rfl,by rw[E7.out];exact M,K⟩
    |false=>
     have E7:=hid (show is ⟨f,m,r⟩ O G=X++[Gr.mk f m r]from by rw[EM.out];rfl);go_wp2_with (at_builtin;refine wpList_append_own _ rfl _ _ 23 rfl w.heap.size 64 i0 (.agg #[.string ⟨#[]⟩,.string ⟨#[]⟩,ah]) 3 40 underlying23 P Q R T rfl (by decide) _ _ _ rfl (M.alloc _) ⟨wr.heap.size,0,none⟩ 1 1 (cd (Gr.mk f m r)) rfl rfl (fO wr ⟨f,m,r⟩ _) (fx _) (by unfold maxLen;omega) (by omega) (by simp;omega) ?_)
     intro v2 E x d C;rw[fN]at x;have s:E.ownsRow w.heap.size 64 3 v2 (X++[Gr.mk f m r]).length (dp (X++[Gr.mk f m r])):=by rw[List.length_append];exact x
     have j:Below w.heap.size w E:=(K.alloc K.size _).grown d (by simp;omega) (fun g Y=>(M.lt g Y).1);clear x d C M K;go_wp2;go_ret;exact⟨_,rfl,by rw[E7.out];exact s,j⟩
theorem BD (L:List aE) (v u:Value) (w:World) (K:cP w v L) (J:cP w u L):
    Calls prog 88 #[v,u] w fun e w'=>e= .returned (.bool true)∧Below w.heap.size w w':=by
 obtain⟨a,G,rfl,C,x,B⟩:=K
 have E:Hid (∀i (h:i<L.length),∃b o,a=some ⟨b,o,none⟩∧b<w.heap.size∧gI w b (o+i*5) L[i]):=B;obtain⟨F,A,rfl,s,_,d⟩:=J
 have g:Hid (∀i (h:i<L.length),∃b o,F=some ⟨b,o,none⟩∧b<w.heap.size∧gI w b (o+i*5) L[i]):=d;clear B d;go_enter func88,ntmps88
 go_wp2;go_loopw [5] (fun i wr=> ∃k:Nat,k≤L.length∧i= .int .i64 k∧Below w.heap.size w wr) (fun i _=>L.length-(intOf i).toNat)
 case atStart=>exact⟨0,Nat.zero_le _,rfl,aw⟩
 case round=>
  obtain⟨k,U,rfl,c⟩:=hrel
  by_cases f:k<L.length
  · obtain⟨b,o,rfl,H,I⟩:=E.out k f
    obtain⟨M,V,rfl,j,z⟩:=g.out k f
    obtain⟨N,O,c2,c3,c4⟩:=I.below H c
    obtain⟨P,Q,R,S,T⟩:=z.below j c
    go_wp2_with fail;go_region
    go_wp2;go_roundw
    case rel=>exact⟨k+1,by omega,by simp,c.drew⟩
    case measure=>simp[intOf];omega
  · go_wp2
    go_ret;exact⟨rfl,c⟩
theorem vd (L:List Co) (v u:Value) (w:World) (hv:b8 w v L) (hu:b8 w u L):
    Calls prog 56 #[v,u] w fun e w'=>e= .returned (.bool true)∧Below w.heap.size w w':=by
 obtain⟨a,Z,rfl,S,I,R⟩:=hv
 have U:Hid (∀i (h:i<L.length),∃b o,a=some ⟨b,o,none⟩∧b<w.heap.size∧fH w b (o+i*3) L[i]):=R;obtain⟨Y,O,rfl,H,_,z⟩:=hu
 have C:Hid (∀i (h:i<L.length),∃b o,Y=some ⟨b,o,none⟩∧b<w.heap.size∧fH w b (o+i*3) L[i]):=z;clear R z;go_enter func56,ntmps56
 go_wp2;go_loopw [5] (fun i wr=> ∃k:Nat,k≤L.length∧i= .int .i64 k∧Below w.heap.size w wr) (fun i _=>L.length-(intOf i).toNat)
 case atStart=>exact⟨0,Nat.zero_le _,rfl,aw⟩
 case round=>
  obtain⟨k,hk,rfl,c⟩:=hrel
  by_cases B:k<L.length
  · obtain⟨b,o,rfl,hb,T⟩:=U.out k B
    obtain⟨g,s,rfl,E,A⟩:=C.out k B
    obtain⟨M,N,x,c2,J⟩:=T.below hb c
    obtain⟨P,Q,y,d2,K⟩:=A.below E c
    have u9:=c.size;have j:b<wr.heap.size:=by omega
    have f:g<wr.heap.size:=by omega
    generalize L[k]=ck at*;obtain⟨nu,ke,ch⟩:=ck
    simp only at M N J P Q K;have V:=hid J;have X:=hid K;clear J K T A;go_wp2_with fail
    go_region_held3 (fun W=>W.cell? ⟨b,o+k*3,none⟩=some (.int .i64 nu)∧W.cell? ⟨b,o+k*3+1,none⟩=some (.string ke)∧W.cell? ⟨b,o+k*3+2,none⟩=some x∧W.cell? ⟨g,s+k*3,none⟩=some (.int .i64 nu)∧W.cell? ⟨g,s+k*3+1,none⟩=some (.string ke)∧W.cell? ⟨g,s+k*3+2,none⟩=some y) (go_keep) (first
     |(go_at_call 88;refine(BD ch x y _ (V.out.below aw.drew) (X.out.below aw.drew)).mono ?_;rintro e wa ⟨rfl,G⟩;have d:Below wr.heap.size wr wa:=( aw.drew).trans G;have j0:=(d.cell (p:=⟨b,o+k*3,none⟩) j).trans M;have j1:=(d.cell (p:=⟨b,o+k*3+1,none⟩) j).trans N;have j2:=(d.cell (p:=⟨b,o+k*3+2,none⟩) j).trans c2;have i0:=(d.cell (p:=⟨g,s+k*3,none⟩) f).trans P;have i1:=(d.cell (p:=⟨g,s+k*3+1,none⟩) f).trans Q;have i2:=(d.cell (p:=⟨g,s+k*3+2,none⟩) f).trans d2))
    have F:=an c d;go_wp2;go_roundw
    case rel=>exact⟨k+1,by omega,by simp,F⟩
    case measure=>simp[intOf];omega
  · go_wp2
    go_ret;exact⟨rfl,c⟩
theorem BE (J:Jo) (v u:Value) (w:World) (O:cV w v J) (N:cV w u J):
    Calls prog 34 #[v,u] w fun e w'=>e= .returned (.bool true)∧Below w.heap.size w w':=by
 obtain⟨R,S,rfl,s,x⟩:=O
 obtain⟨P,Q,rfl,hub,o⟩:=N
 have F:=hid s;have G:=hid x;have C:=hid hub;have E:=hid o;obtain⟨A,b1,rfl,_⟩:=s
 obtain⟨B,b2,rfl,_⟩:=x
 obtain⟨H,b3,rfl,_⟩:=hub
 obtain⟨I,K,rfl,_⟩:=o
 obtain⟨z,d⟩: ∃z,z=(w.alloc (.cells #[.slice A J.base.length b1,J.first,.slice B J.cos.length b2] 57)).alloc (.cells #[.slice H J.base.length b3,J.first,.slice I J.cos.length K] 57):=⟨_,rfl⟩
 have f:Below w.heap.size w z:=by rw[d];exact ak.alloc (by simp) _
 have g:=hid (show Cs z w.heap.size [.slice A J.base.length b1,J.first,.slice B J.cos.length b2]from by rw[d];exact(Cs.new w [.slice A J.base.length b1,J.first,.slice B J.cos.length b2] _).below ak)
 have i:=hid (show Cs z (w.heap.size+1) [.slice H J.base.length b3,J.first,.slice I J.cos.length K]from by
  have:=Cs.new (w.alloc (.cells #[.slice A J.base.length b1,J.first,.slice B J.cos.length b2] 57)) [.slice H J.base.length b3,J.first,.slice I J.cos.length K] 57
  rw[d];simpa using this)
 go_enter func34,ntmps34
 go_wp2_with fail;rw[←d];clear d;refine(so J.base _ _ _ (F.out.below f) (C.out.below f)).mono ?_
 rintro e T ⟨rfl,c⟩;have V:=(g.out.below c).cell 1 rfl;have X:=(g.out.below c).cell 2 rfl;have Y:=(i.out.below c).cell 1 rfl;have Z:=(i.out.below c).cell 2 rfl;have a:=an f c;go_wp2_with fail;refine(vd J.cos _ _ _ (G.out.below a) (E.out.below a)).mono ?_
 rintro e U ⟨rfl,M⟩;have j:=an a M;go_wp2;go_ret;exact⟨rfl,j⟩
theorem BF (P:Pg) (v u:Value) (w:World) (Q:d6 w v P) (O:d6 w u P):
    Calls prog 31 #[v,u] w fun e w'=>e= .returned (.bool true)∧Below w.heap.size w w':=by
 obtain⟨T,U,rfl,x,z⟩:=Q
 obtain⟨R,S,rfl,hub,s⟩:=O
 have I:=hid x;have J:=hid z;have G:=hid hub;have H:=hid s;obtain⟨B,b1,rfl,_⟩:=x
 obtain⟨C,b2,rfl,_⟩:=z
 obtain⟨K,b3,rfl,_⟩:=hub
 obtain⟨M,N,rfl,_⟩:=s
 obtain⟨A,d⟩: ∃A,A=(w.alloc (.cells #[P.reset,.slice B P.tree.length b1,.slice C P.cos.length b2,P.cur,P.more] 36)).alloc (.cells #[P.reset,.slice K P.tree.length b3,.slice M P.cos.length N,P.cur,P.more] 36):=⟨_,rfl⟩
 have j:Below w.heap.size w A:=by rw[d];exact ak.alloc (by simp) _
 have E:=hid (show Cs A w.heap.size [P.reset,.slice B P.tree.length b1,.slice C P.cos.length b2,P.cur,P.more]from by rw[d];exact(Cs.new w [P.reset,.slice B P.tree.length b1,.slice C P.cos.length b2,P.cur,P.more] _).below ak)
 have F:=hid (show Cs A (w.heap.size+1) [P.reset,.slice K P.tree.length b3,.slice M P.cos.length N,P.cur,P.more]from by
  have:=Cs.new (w.alloc (.cells #[P.reset,.slice B P.tree.length b1,.slice C P.cos.length b2,P.cur,P.more] 36)) [P.reset,.slice K P.tree.length b3,.slice M P.cos.length N,P.cur,P.more] 36
  rw[d];simpa using this)
 go_enter func31,ntmps31
 go_wp2_with fail;rw[←d];clear d;refine(so P.tree _ _ _ (I.out.below j) (G.out.below j)).mono ?_
 rintro e V ⟨rfl,i⟩;have f:=hid (E.out.below i);have g:=hid (F.out.below i);have Y:=f.out.cell 2 rfl;have y2:=g.out.cell 2 rfl;have a:=an j i;go_wp2_with fail;refine(vd P.cos _ _ _ (J.out.below a) (H.out.below a)).mono ?_
 rintro e X ⟨rfl,c⟩;have Z:=(f.out.below c).cell 3 rfl;have y3:=(g.out.below c).cell 3 rfl;have x4:=(f.out.below c).cell 4 rfl;have y4:=(g.out.below c).cell 4 rfl;have o:=an a c;go_wp2;go_ret;exact⟨rfl,o⟩
end Go.Proofs.YtdlpjlfefjipkaaGreat
