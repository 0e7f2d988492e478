/- What the reference's OpenJournal answers, for every journal. -/
import Derived.Test.YtcmlnelpcjfocaaGreatDoorWYZJ
import Derived.Test.YtcmlnelpcjfocaaGreatDoorWYZG
import Derived.Test.YtcmlnelpcjfocaaGreatDoorWYR
set_option linter.unusedSimpArgs false
set_option linter.unusedVariables false
namespace Go.Proofs.YtcmlnelpcjfocaaGreatDoor
open Go.RowKit Go.Proofs.Tryz
set_option maxHeartbeats 16000000
set_option maxRecDepth 100000
def mY (w:World) (v:Value) (n:Nat) (f:Nat→List En):Prop:= ∃a cap,v= .slice a n cap∧n≤cap∧n≤1000000∧ ∀i,i<n→ ∃b o u,a=some ⟨b,o,none⟩∧b<w.heap.size∧w.cell? ⟨b,o+i,none⟩=some u∧an w u (f i)
theorem mY.below {w w':World} {v:Value} {n:Nat} {f:Nat→List En} (h:mY w v n f) (y:Below w.heap.size w w'):mY w' v n f:=by
 obtain⟨a,d,J,z,A,E⟩:=h
 refine⟨a,d,J,z,A,fun i H=>?_⟩
 obtain⟨b,o,u,F,hb,G,I⟩:=E i H
 exact⟨b,o,u,F,Nat.lt_of_lt_of_le hb y.size,(y.cell (p:=⟨b,o+i,none⟩) hb).trans G,I.below y⟩
theorem G7 {w:World} {base:Nat} {v:Value} {T:TypeId} {us:List Value} {f:Nat→List En} (h:w.ownsRow base T 1 v us.length us) (I: ∀i u,us[i]?=some u→an w u (f i)) (E:us.length≤1000000):mY w v us.length f:=by
 have G:=h;obtain⟨M,H⟩:=h
 rcases H with⟨rfl,F⟩|⟨g,d,cur,rfl,K,J,z,N,F,A⟩
 · exact⟨none,0,by rw[F],by omega,E,fun i h=>absurd h (by omega)⟩
 · have y:=cM J
   refine⟨some ⟨g,0,none⟩,d,rfl,z,E,fun i h=>⟨g,0,us[i],rfl,y,?_,I i _ (List.getElem?_eq_getElem h)⟩⟩
   rw[Nat.zero_add,G.cellAt i (by omega)];exact List.getElem?_eq_getElem h
theorem Tryz.infoES:(prog.info? 44).map (fun i=>(i.zero,i.size,i.bytes))=some (some (.slice none 0 0),1,24):=by kernel_rfl
theorem G8 {l:List UInt8} (h:eN l=1):cZ l=false:=by
 cases hb:cZ l with
 |false=>rfl
 |true=>rw[ma hb]at h;exact absurd h (by decide)
theorem zg {l:List UInt8} (h:eN l=0):cZ l=true:=by
 cases hb:cZ l with
 |true=>rfl
 |false=>rw[kG hb]at h;exact absurd h (by decide)
theorem G9 {w w':World} {base:Nat} {e:TypeId} {size:Nat} {v:Value} {n:Nat} {xs:List Value} (h:w.ownsRow base e size v n xs) (d:Below w.heap.size w w'):w'.ownsRow base e size v n xs:=
 h.kept (row:=none) ⟨d.os,d.tape,d.output,d.size,fun k f _=>d.block k f⟩ (by cases h:v.ownBlock with
  |none=>exact Or.inl rfl
  |some g=>exact Or.inr (by simp))
def jr (wr:World) (J:Jo) (us:List Value) (k:Nat):Prop:=us.length=k+1∧ ∀i u,us[i]?=some u→an wr u (bQ J i)
theorem jr.below {w w':World} {J:Jo} {us:List Value} {k:Nat} (h:jr w J us k) (f:Below w.heap.size w w'):jr w' J us k:=⟨h.1,fun i u d=>(h.2 i u d).below f⟩
theorem jr.row {w w':World} {J:Jo} {us:List Value} {k:Nat} {v:Value} (h:jr w J us k) (d:w.grownBy w' v.ownBlock) (f:iL w v):jr w' J us k:=⟨h.1,fun i u y=>(h.2 i u y).row d f⟩
theorem Cs.row {w w':World} {b:Nat} {ai:List Value} {v:Value} (h:Cs w b ai) (d:w.grownBy w' v.ownBlock) (f: ∀g,v.ownBlock=some g→b≠g):Cs w' b ai:=by
 cases y:v.ownBlock with
 |none=>
  rw[y]at d;exact h.below ⟨d.os,d.tape,d.output,d.size,fun k z=>d.block k z (by simp)⟩
 |some g=>
  rw[y]at d;exact h.nb d (f g y)
theorem jr.snoc {w:World} {J:Jo} {us:List Value} {k:Nat} {x:Value} (h:jr w J us k) (E:an w x (bQ J (k+1))):jr w J (us++[x]) (k+1):=by
 refine⟨by simp[h.1],fun i u d=>?_⟩
 by_cases A:i<us.length
 · rw[List.getElem?_append_left A]at d
   exact h.2 i u d
 · rw[List.getElem?_append_right (by omega)]at d
   have z:=h.1
   have f:i=k+1:=by
    rcases Nat.lt_or_ge (i-us.length) 1 with y|y
    · omega
    · rw[List.getElem?_eq_none (by simpa using y)]at d;cases d
   subst f;rw[z,Nat.sub_self]at d;injection d with d
   exact d▸E
theorem zh (J:Jo) (v:Value) (w:World) (hv:iR w v J) (hp: ∀e∈J.base,e.path.size≤1000000000) (Je:eO 1000000000 J.cos):
    Calls prog 48 #[v] w fun e w'=> ∃r,e= .returned (.tuple #[r,.int .i64 (bq J)])∧(bq J=0→mY w' r (J.cos.length+1) (bQ J))∧Below w.heap.size w w':=by
 obtain⟨aZ,JF,JL,JM,JN⟩:=info_parts Tryz.infoES
 obtain⟨vb,vc,rfl,Jj,JI⟩:=hv
 have Iy:=hid Jj;have HP:=hid hp;have Jq:=hid Je;obtain⟨cb,Iz,rfl,JE,Jm,hC⟩:=JI
 obtain⟨ba,d,rfl,JC,Jl,_⟩:=Jj
 have HC:Hid (∀i (h:i<J.cos.length),∃b o,cb=some ⟨b,o,none⟩∧b<w.heap.size∧iQ w b (o+i*3) J.cos[i]):=hC;clear hC hp Je;obtain⟨wz,G⟩: ∃wz,wz=w.alloc (.cells #[.slice ba J.base.length d,.int .i64 J.first,.slice cb J.cos.length Iz] 79):=⟨_,rfl⟩
 have Q:Below w.heap.size w wz:=by rw[G];exact(Below.refl _ _).alloc (Nat.le_refl _) _
 have IG:=hid (show Cs wz w.heap.size [.slice ba J.base.length d,.int .i64 J.first,.slice cb J.cos.length Iz]from by rw[G];exact Cs.new _ _ _);by_cases ht:aH J.base=0
 · have HT:=hid ht
   by_cases hf:bi J.first=0
   · have HF:=hid hf
     by_cases hm:30<J.cos.length
     · have z:=hid (qI ht hf hm)
       have JH:30<(J.cos.length:Int):=by omega
       clear ht hf;go_enter func48,ntmps48
       go_wp2_with fail;rw[←G];clear G;refine(mD J.base _ _ (Iy.out.below Q) HP.out).mono ?_
       rintro e w1 ⟨rfl,F⟩;rw[HT.out];have c1:=(IG.out.below F).cell 1 rfl;have c2:=(IG.out.below F).cell 2 rfl;go_wp2_with fail;refine(mC J.first _).mono ?_
       rintro e w2 ⟨rfl,U⟩;rw[U];clear U w2;rw[HF.out];go_wp2_with fail;go_ret2;exact⟨_,by rw[z.out];rfl,(fun h=>by rw[z.out]at h;exact absurd h (by decide)),ag Q F⟩
     · have JH: ¬30<(J.cos.length:Int):=by omega
       obtain⟨f1,f2⟩:=qF.1 hf
       have HG:=hid ((fP J.base).1 ht);have IK:=hid (show∀e T,cU J.first J.base J.cos=(e,T)→ ¬e=0→bq J=e from fun e T h he=>qJ ht hf hm h he);have Jz:=hid (show∀T,cU J.first J.base J.cos=(0,T)→ ¬Jn.Apart J.cos→bq J=6 from fun T h ha=>qK ht hf hm h ha);have Jy:=hid (show∀T,cU J.first J.base J.cos=(0,T)→Jn.Apart J.cos→bq J=0 from fun T h ha=>uS ht hf hm h ha);clear ht hf;go_enter func48,ntmps48
       go_wp2_with fail;rw[←G];clear G;refine(mD J.base _ _ (Iy.out.below Q) HP.out).mono ?_
       rintro e w1 ⟨rfl,F⟩;rw[HT.out];have I5:=hid (IG.out.below F);have c0:=I5.out.cell 0 rfl;have c1:=I5.out.cell 1 rfl;have c2:=I5.out.cell 2 rfl;have JU:=I5.out.lt;go_wp2_with fail;refine(mC J.first _).mono ?_
       rintro e w2 ⟨rfl,U⟩;rw[U];clear U w2;rw[HF.out];have IA:=ag Q F;have J5:Hid ((w1.alloc (.cells #[.slice ba J.base.length d] 44)).ownsRow (w.heap.size+1) 44 1 (.slice (some ⟨w1.heap.size,0,none⟩) 1 1) 1 [.slice ba J.base.length d]):=(World.ownsRow_lit w1 #[.slice ba J.base.length d] 1 (by omega) (by decide) rfl:_)
       have J4:=hid (show iL (w1.alloc (.cells #[.slice ba J.base.length d] 44)) (.slice (some ⟨w1.heap.size,0,none⟩) 1 1)from fun g hg=>by
        simp only[Value.ownBlock,Option.some.injEq]at hg;subst hg;exact om (heap_alloc_new w1 _) (by simp))
       have IH:Below w1.heap.size w1 (w1.alloc (.cells #[.slice ba J.base.length d] 44)):=(Below.refl _ _).alloc (Nat.le_refl _) _;have IS:=hid (Iy.out.below (ag IA IH))
       have J6:=hid (show jr (w1.alloc (.cells #[.slice ba J.base.length d] 44)) J [.slice ba J.base.length d] 0 from⟨rfl,fun i u hu=>by
        rcases Nat.eq_zero_or_pos i with h|h
        · subst h
          simp at hu
          rw[←hu,ly];exact IS.out
        · rw[List.getElem?_eq_none (by simp;omega)]at hu;cases hu⟩)
       have IY:=hid (I5.out.below IH);have IN:=ag IA IH;go_wp2_with fail;generalize JJ:w1.alloc (.cells #[.slice ba J.base.length d] 44)=wq at*;clear JJ IH c0 c1 c2 I5 IA;go_loopw [5,6,7] (fun x t i wr=> ∃(k:Nat) (us:List Value),k≤J.cos.length∧i= .int .i64 k∧Hid (wr.ownsRow (w.heap.size+1) 44 1 x us.length us)∧Hid (iL wr x)∧Hid (jr wr J us k)∧Hid (an wr t (bQ J k))∧Hid (Pp.Good (bQ J k))∧Hid (gA J (bQ J k) k)∧Hid (Cs wr w.heap.size [.slice ba J.base.length d,.int .i64 J.first,.slice cb J.cos.length Iz])∧Below w.heap.size w wr) (fun _ _ i _=>J.cos.length-(intOf i).toNat)
       case atStart=>exact⟨0,_,Nat.zero_le _,rfl,J5,J4,J6,by rw[ly];exact IS,by rw[ly];exact HG,by rw[ly];exact Jn.left_zero J,IY,IN⟩
       case round=>
        obtain⟨k,us,hk,rfl,Ix,IU,I7,J2,J0,HL,A,P⟩:=hrel
        clear J5 J4 J6 IS IY IN;have c1:=A.out.cell 1 rfl;have c2:=A.out.cell 2 rfl;have JS:=A.out.lt;by_cases Y:k<J.cos.length
        · obtain⟨b,o,rfl,hb,he⟩:=HC.out k Y
          obtain⟨d0,d1,u,d2,hu⟩:=he.below hb P
          have HZ:=hid (Jq.out J.cos[k] (List.getElem_mem Y));have y:=hid (show¬cT J.cos[k] (J.first+k)=0→bq J=cT J.cos[k] (J.first+k)from fun V=>IK.out _ _ (uQ HL.out Y V) V);have H:=hid (show cT J.cos[k] (J.first+k)=0→ ¬cF (bQ J k) J.cos[k].ch J.cos[k].nu=0→bq J=cF (bQ J k) J.cos[k].ch J.cos[k].nu from fun V N=>IK.out _ _ (uR HL.out Y V N) N);have I6:=hid (show cT J.cos[k] (J.first+k)=0→cF (bQ J k) J.cos[k].ch J.cos[k].nu=0→gA J (bQ J (k+1)) (k+1)from fun V N=>by rw[ow Y];exact Jn.left_next HL.out Y V N);have O:Hid (bQ J (k+1)=dQ (bQ J k) J.cos[k].ch J.cos[k].nu):=ow Y;clear he;generalize J.cos[k]=ck at*;obtain⟨nu,ke,ch⟩:=ck
          simp only at d0 d1 d2 hu;have IR:=hid (show ke.size≤maxLen from by have:ke.size≤1000000000:=HZ.out.1;unfold maxLen;omega);have HU:=hid hu;obtain⟨ua,Jk,rfl,_,_,_⟩:=hu
          have JK:IntKind.i64.wrap (J.first+(k:Int))=J.first+k:=by rw[IntKind.wrap_i64];omega
          have Z:Below wr.heap.size wr (wr.alloc (.cells #[.int .i64 nu,.string ke,.slice ua ch.length Jk] 110)):=(Below.refl _ _).alloc (Nat.le_refl _) _;have M:=ag P Z;rcases qR ⟨nu,ke,ch⟩ (J.first+k)with⟨N,ae⟩|⟨N,h2,ae⟩|⟨N,h2,h3,ae⟩|⟨N,h2,h3,h4,ae⟩|⟨N,h2,h3,h4,ae⟩
          · have z:=hid (y.out (by rw[ae];decide))
            have E:=hid ae;simp only at N;clear ae y H I6 O;go_wp2_with fail;go_ret2;exact⟨_,by rw[z.out,E.out];rfl,(fun h=>by rw[z.out,E.out]at h;exact absurd h (by decide)),M⟩
          · have z:=hid (y.out (by rw[ae];decide))
            have E:=hid ae;simp only at N;subst N;clear ae y H I6 O;go_wp2_with fail;go_ret2;exact⟨_,by rw[z.out,E.out];rfl,(fun h=>by rw[z.out,E.out]at h;exact absurd h (by decide)),M⟩
          · have z:=hid (y.out (by rw[ae];decide))
            have E:=hid ae;have I9:Hid (cZ ke.data.toList=false):=G8 h3;simp only at N;subst N;clear ae h3 y H I6 O;go_wp2_with fail;refine(nf ke _ IR.out).mono ?_
            rintro e w4 ⟨rfl,U⟩;rw[U,I9.out];clear U w4;go_wp2_with fail;go_ret2;exact⟨_,by rw[z.out,E.out];rfl,(fun h=>by rw[z.out,E.out]at h;exact absurd h (by decide)),M⟩
          · have z:=hid (y.out (by rw[ae];decide))
            have E:=hid ae;have I9:Hid (cZ ke.data.toList=true):=zg h3;have JA:((ch.length:Int)==0)=true:=by rw[beq_iff_eq];simp only at h4;omega
            simp only at N;subst N;clear ae h3 h4 y H I6 O;go_wp2_with fail;refine(nf ke _ IR.out).mono ?_
            rintro e w4 ⟨rfl,U⟩;rw[U,I9.out];clear U w4;go_wp2_with fail;go_ret2;exact⟨_,by rw[z.out,E.out];rfl,(fun h=>by rw[z.out,E.out]at h;exact absurd h (by decide)),M⟩
          · have I9:Hid (cZ ke.data.toList=true):=zg h3
            have JA:((ch.length:Int)==0)=false:=by rw[beq_eq_false_iff_ne];simp only at h4;omega
            have HA:=hid (H.out ae);have HN:=hid (I6.out ae);simp only at N;subst N;clear ae h3 h4 y H I6;go_wp2_with fail;refine(nf ke _ IR.out).mono ?_
            rintro e w4 ⟨rfl,U⟩;rw[U,I9.out];clear U w4;go_wp2_with fail;refine(FR (bQ J k) _ ch _ (J.first+k) _ (J2.out.below Z) J0.out (HU.out.below Z) HZ.out.2).mono ?_
            rintro e w5 ⟨r,rfl,Jh,Jb⟩;have IT:=hid Jh;have K:=ag Z Jb;have IP:=ag P K;clear Jh Jb;by_cases V:cF (bQ J k) ch (J.first+k)=0
            · have Jv:=hid (HN.out V)
              have Js:=hid (show Pp.Good (bQ J (k+1))from by rw[O.out];exact qL V);have J7:=hid (show an w5 r (bQ J (k+1))from by rw[O.out];exact IT.out V);rw[V];have I:=hid (G9 Ix.out K);have Iv:=hid (IU.out.below (fun g hg=>(Ix.out.lt g hg).2) K);have IL:=hid (I7.out.below K);have II:=hid (A.out.below K);obtain⟨ra,I0,rfl,_,_,_⟩:=J7.out
              have IF:=I7.out.1;have JP:=K.size;clear V HA HN O IT Ix IU I7 A c1 c2;go_wp2_with (at_builtin;refine AN _ rfl _ _ 120 rfl (w.heap.size+1) 44 aZ (.slice none 0 0) 1 24 underlying120 JF JL JM JN rfl (by decide) _ _ _ rfl (I.out.alloc _) ⟨w5.heap.size,0,none⟩ 1 1 [.slice ra (bQ J (k+1)).length I0] rfl rfl ?qc1 (by intro u hu;simp at hu;subst hu;rfl) (by unfold maxLen;omega) (by omega) (by simp;omega) (by decide) (by intro s;simp[Value.cells]) (by simp) ?qc2 ?_)
              case qc1=>intro j u hj;match j,hj with|0,hj=>simp at hj;subst hj;simp[Addr.add]|j+1,hj=>simp at hj
              case qc2=>exact Iv.out.below (fun g hg=>(I.out.lt g hg).2) ((Below.refl _ _).alloc (Nat.le_refl _) _)
              intro v2 w2 Ji S IQ;have I8:Below w5.heap.size w5 (w5.alloc (.cells #[.slice ra (bQ J (k+1)).length I0] 44)):=(Below.refl _ _).alloc (Nat.le_refl _) _;have Iw:=hid (Iv.out.below (fun g hg=>(I.out.lt g hg).2) I8);have J1:=hid ((J7.out.below I8).row S Iw.out);have IM:=hid ((IL.out.below I8).row S Iw.out);have J8:=hid (IM.out.snoc J1.out);have IZ:=hid ((II.out.below I8).row S (fun g hg=>by have:=(I.out.lt g hg).1;omega));have J9:Below w.heap.size w w2:=((ag IP I8).grown S (by simp;omega) (fun g hg=>by have:=(I.out.lt g hg).1;omega))
              have Jx:=hid (show w2.ownsRow (w.heap.size+1) 44 1 v2 (us++[Value.slice ra (bQ J (k+1)).length I0]).length (us++[Value.slice ra (bQ J (k+1)).length I0])from by rw[List.length_append,IF];exact Ji);have Jw:=hid IQ;clear Ji S IQ I8 Iw IM I Iv IL II;go_wp2_with fail;go_roundw
              case rel=>exact⟨k+1,_,by omega,by simp,Jx,Jw,J8,J1,Js,Jv,IZ,J9⟩
              case measure=>simp[intOf];omega
            · have z:=hid (HA.out V)
              have hz:(cF (bQ J k) ch (J.first+k)==0)=false:=by simpa using V
              have H0:=hid V;clear V HA HN O IT;go_wp2_with fail;go_ret2;exact⟨_,by rw[z.out];rfl,fun h=>absurd (z.out▸h) H0.out,IP⟩
        · obtain rfl:k=J.cos.length:=by omega
          have hr:=Jn.left_end HL.out;have HR:=hid hr;have IF:=I7.out.1
          have IJ:=hid (show mY wr u5 (J.cos.length+1) (bQ J)from by
           have:=G7 (f:=bQ J) Ix.out I7.out.2 (by rw[IF];omega)
           rw[IF]at this;exact this)
          obtain⟨xa,JT,rfl,_,_,_⟩:=IJ.out
          clear hr Ix IU I7 J2 J0 HL IF;generalize wr=wo at*;go_wp2_with fail;go_loopw [9] (fun i wr=> ∃m:Nat,m≤J.cos.length∧i= .int .i64 m∧Hid (Jn.Apart (J.cos.take m))∧Below wo.heap.size wo wr) (fun i _=>J.cos.length-(intOf i).toNat)
          case atStart=>exact⟨0,Nat.zero_le _,rfl,(List.Pairwise.nil:Jn.Apart []),Below.refl _ _⟩
          case round=>
           obtain⟨m,JV,rfl,IW,X⟩:=hrel
           clear c1 c2;have c2:=(A.out.below X).cell 2 rfl;have JQ:=X.size;by_cases IE:m<J.cos.length
           · obtain⟨b,o,rfl,hb,he⟩:=HC.out m IE
             have Jr:=hid he;clear he;generalize wr=wp at*;go_wp2_with fail;go_loopw [10] (fun i wr=> ∃q:Nat,q≤m∧i= .int .i64 q∧Hid (lA J.cos m q)∧Below wp.heap.size wp wr) (fun i _=>m-(intOf i).toNat)
             case atStart=>exact⟨0,Nat.zero_le _,rfl,(Ba _ _:lA J.cos m 0),Below.refl _ _⟩
             case round=>
              obtain⟨q,hq,rfl,IV,ID⟩:=hrel
              clear c2;have c2:=(A.out.below (ag X ID)).cell 2 rfl;have JR:=ID.size;have IB:=ag P (ag X ID);by_cases JG:q<m
              · obtain⟨b',o',IC,JB,Jf⟩:=HC.out q (by omega)
                injection IC with IC
                injection IC with e1 aE
                subst e1;subst aE;have x1:=(Jr.out.below hb IB).2.1;have aY:=(Jf.below JB IB).2.1;clear Jf;have Jt:=hid (show J.cos[q].ke.data.toList≠J.cos[m].ke.data.toList→lA J.cos m (q+1)from fun h=>Bb IV.out (by omega) IE h);have Ju:=hid (show J.cos[q].ke.data.toList=J.cos[m].ke.data.toList→bq J=6 from fun h=>Jz.out _ HR.out (Bd IE JG h));generalize J.cos[q].ke=kq at*;generalize J.cos[m].ke=km at*;have JD:Below w.heap.size w wr.drew:=ag IB (Below.refl _ _).drew;have Jd:Below wp.heap.size wp wr.drew:=ag ID (Below.refl _ _).drew;cases Jg:(kq.toList==km.toList)with
                |true=>
                 have z:=hid (Ju.out (by simpa[Lib.toList_data]using Jg));go_wp2_with fail;go_region
                 go_wp2_with fail;go_ret2;exact⟨_,by rw[z.out];rfl,(fun h=>by rw[z.out]at h;exact absurd h (by decide)),JD⟩
                |false=>
                 have HN:=hid (Jt.out (by simpa[Lib.toList_data]using Jg));go_wp2_with fail;go_region
                 go_wp2_with fail;go_roundw
                 case rel=>exact⟨q+1,by omega,by simp,HN,Jd⟩
                 case measure=>simp[intOf];omega
              · obtain rfl:q=m:=by omega
                have Jp:Hid (Jn.Apart (J.cos.take (q+1))):=Bc IE IW.out IV.out;have Jc:=ag X ID;go_wp2_with fail;go_roundw
                case rel=>exact⟨q+1,by omega,by simp,Jp,Jc⟩
                case measure=>simp[intOf];omega
           · obtain rfl:m=J.cos.length:=by omega
             have IX:=hid (show Jn.Apart J.cos from by have:=IW.out;rwa [List.take_length]at this);have z:=hid (Jy.out _ HR.out IX.out);have J3:=hid (IJ.out.below X);have Ja:=ag P X;clear IE;go_wp2_with fail;go_ret2;exact⟨_,by rw[z.out];rfl,fun _=>J3.out,Ja⟩
   · have z:=hid (qH ht hf)
     have JO:(bi J.first==0)=false:=by simpa using hf
     clear ht hf;go_enter func48,ntmps48
     go_wp2_with fail;rw[←G];clear G;refine(mD J.base _ _ (Iy.out.below Q) HP.out).mono ?_
     rintro e w1 ⟨rfl,F⟩;rw[HT.out];have c1:=(IG.out.below F).cell 1 rfl;go_wp2_with fail;refine(mC J.first _).mono ?_
     rintro e w2 ⟨rfl,U⟩;rw[U];clear U w2;go_wp2_with fail;go_ret2;exact⟨_,by rw[z.out];rfl,(fun h=>by rw[z.out]at h;exact absurd h (by decide)),ag Q F⟩
 · have JO:(aH J.base==0)=false:=by simpa using ht
   have z:=hid (qG ht);have HN:=hid ht;go_enter func48,ntmps48
   go_wp2_with fail;rw[←G];clear G;refine(mD J.base _ _ (Iy.out.below Q) HP.out).mono ?_
   rintro e w1 ⟨rfl,F⟩;go_wp2_with fail;go_ret2;exact⟨_,by rw[z.out];rfl,fun h=>absurd (z.out▸h) HN.out,ag Q F⟩
theorem Ha (J:Jo) (v:Value) (w:World) (K:iR w v J) (I: ∀e∈J.base,e.path.size≤1000000000) (A:eO 1000000000 J.cos):
    Calls prog 31 #[v] w fun e w'=>e= .returned (.int .i64 (bq J))∧Below w.heap.size w w':=by
 have N:=hid K;have M:=hid I;have E:=hid A;obtain⟨Q,S,rfl,G,H⟩:=K
 obtain⟨O,d,rfl,_⟩:=G
 obtain⟨P,f,rfl,_⟩:=H
 clear I A;have z:Below w.heap.size w (w.alloc (.cells #[.slice O J.base.length d,.int .i64 J.first,.slice P J.cos.length f] 79)):=(Below.refl _ _).alloc (Nat.le_refl _) _;go_enter func31,ntmps31
 go_wp2_with fail;refine(zh J _ _ (N.out.below z) M.out E.out).mono ?_
 rintro e T ⟨p,rfl,_,F⟩;have y:=ag z F;go_wp2_with fail;go_ret;exact⟨rfl,y⟩
theorem Hc (J:Jo) (v:Value) (w:World) (T:iR w v J) (S: ∀e∈J.base,e.path.size≤1000000000) (F:eO 1000000000 J.cos) (K:bq J=0):
    Calls prog 21 #[v] w fun e w'=> ∃r,e= .returned r∧an w' r (Jn.tree J)∧Below w.heap.size w w':=by
 have Y:=hid T;have X:=hid S;have G:=hid F;have V:=hid K;have I:=hid (A9 K);obtain⟨vb,vc,rfl,O,P⟩:=T
 obtain⟨Z,f,rfl,_⟩:=O
 obtain⟨ca,y,rfl,_⟩:=P
 clear S F K;have E:Below w.heap.size w (w.alloc (.cells #[.slice Z J.base.length f,.int .i64 J.first,.slice ca J.cos.length y] 79)):=(Below.refl _ _).alloc (Nat.le_refl _) _;go_enter func21,ntmps21
 go_wp2_with fail;refine(zh J _ _ (Y.out.below E) X.out G.out).mono ?_
 rintro e w1 ⟨p,rfl,Q,M⟩;obtain⟨a,I0,rfl,I5,I6,z⟩:=Q V.out
 obtain⟨b,o,u,rfl,hb,N,d⟩:=z J.cos.length (by omega)
 rw[←I.out]at d;have H:=hid d;obtain⟨ua,U,rfl,_⟩:=d
 have A:=ag E M;have e1:IntKind.i64.wrap (((J.cos.length+1:Nat):Int)-1)=(J.cos.length:Int):=by rw[IntKind.wrap_i64];omega
 have aE:(J.cos.length:Int)<((J.cos.length+1:Nat):Int):=by omega
 clear Q z;go_wp2_with fail;go_ret;exact⟨_,rfl,H.out,A⟩
theorem Hd {x:ByteArray} (h:aM x.data.toList=false):bH [x]=1:=by rw[bH];simp[h]
theorem He {x:ByteArray} (h:aM x.data.toList=true):bH [x]=0:=by rw[bH];simp[h]
theorem Hu.lt_flip {s t:Sh} (h:Hu.lt s t=true):Op.bytesLess t.na.toList s.na.toList=false∧(t.na.toList==s.na.toList)=false:=by
 rw[oM]at h;have h:=of_decide_eq_true h;rw[nd,Lib.toList_data,Lib.toList_data,ln s.na.data.toList t.na.data.toList];refine⟨decide_eq_false (by omega),?_⟩
 rw[beq_eq_false_iff_ne];intro e;rw[e,m8]at h;omega
theorem Hf {s t:Sh} (h:Hu.lt s t=false):Op.bytesLess t.na.toList s.na.toList=true∨(Op.bytesLess t.na.toList s.na.toList=false∧(t.na.toList==s.na.toList)=true):=by
 rw[oM]at h;have h:=of_decide_eq_false h;rw[nd,Lib.toList_data,Lib.toList_data,ln s.na.data.toList t.na.data.toList];by_cases e:Lib.compareBytes s.na.data.toList t.na.data.toList=0
 · right
   refine⟨decide_eq_false (by omega),?_⟩
   rw[beq_iff_eq];exact(jR _ _ e).symm
 · left;exact decide_eq_true (by omega)
theorem Hg (G:List Gr) (x:ByteArray):(eb G x).length=0↔bT G x=false:=by
 have e:bT G x=G.any (kT x):=by
  rw[jh];congr 1
  funext g
  rw[kT,Lib.toList_data,Lib.toList_data]
 rw[e];constructor
 · intro h
   cases hb:G.any (kT x)with
   |false=>rfl
   |true=>have:=DE hb;omega
 · exact DF
theorem Hh (H:Hb) (v:Value) (w:World) (hv:dC w v H) (hs:kd H) (hu: ∀s∈H.fos,s.na.size≤1048576∧(∀e∈s.jo.base,e.path.size≤1048576∧e.text.size≤1048576)∧eO 1048576 s.jo.cos):
    Calls prog 11 #[v] w fun e w'=>e= .returned (.int .i64 (ae H))∧Below w.heap.size w w':=by
 obtain⟨fos,gs,ss,nx,la,ro,now⟩:=H
 have HV:=hid hv;obtain⟨vf,vg,ai,rfl,lf,lg,aT⟩:=hv
 simp only at*;have HU:=hid hu;have IW:=hid hs.gs;have IX:=hid hs.ss;have IF:=hid lg;have IT:=hid aT;obtain⟨Z,fc,rfl,J9,_,hL⟩:=lf
 have HL:Hid (∀i (h:i<fos.length),∃b o,Z=some ⟨b,o,none⟩∧b<w.heap.size∧i7 w b (o+i*4) fos[i]):=hL;obtain⟨ga,gc,rfl,J3,_,II⟩:=lg
 have IS:Hid (∀i (h:i<gs.length),∃b o,ga=some ⟨b,o,none⟩∧b<w.heap.size∧fS w b (o+i*3) gs[i]):=II;obtain⟨sa,sc,rfl,_⟩:=aT
 clear hL II hs hu;obtain⟨wz,I7⟩: ∃wz,wz=w.alloc (.cells #[.slice Z fos.length fc,.slice ga gs.length gc,.slice sa ss.length sc,.int .i64 nx,.int .i64 la,.int .i64 ro,.int .i64 now] 28):=⟨_,rfl⟩
 have V:Below w.heap.size w wz:=by rw[I7];exact(Below.refl _ _).alloc (Nat.le_refl _) _
 have HX:Hid (Cs wz w.heap.size [.slice Z fos.length fc,.slice ga gs.length gc,.slice sa ss.length sc,.int .i64 nx,.int .i64 la,.int .i64 ro,.int .i64 now]):=(by rw[I7];exact Cs.new w [.slice Z fos.length fc,.slice ga gs.length gc,.slice sa ss.length sc,.int .i64 nx,.int .i64 la,.int .i64 ro,.int .i64 now] _:Cs wz w.heap.size _)
 obtain⟨E,ae⟩: ∃E,E=ae ⟨fos,gs,ss,nx,la,ro,now⟩:=⟨_,rfl⟩
 rw[←ae];have HE:=hid ae;clear ae;go_enter func11,ntmps11
 go_upto_region 1 with fail;rw[←I7];clear I7;have x0:=HX.out.cell 0 rfl;have x6:=HX.out.cell 6 rfl;by_cases IN:now<0
 · have z:=hid (show E=3 from by rw[HE.out];exact nN (Or.inl IN))
   go_wp2_with fail;go_ret;exact⟨by rw[z.out];rfl,V⟩
 by_cases IP:1099511627776<now
 · have z:=hid (show E=3 from by rw[HE.out];exact nN (Or.inr IP))
   go_wp2_with fail;go_ret;exact⟨by rw[z.out];rfl,V⟩
 have Y:=hid (show¬(now<0∨1099511627776<now)from fun x=>x.elim IN IP);have Iv:=hid (show¬Hu.cfE fos=0→E=Hu.cfE fos from fun h=>by rw[HE.out];exact rV (H:=⟨fos,gs,ss,nx,la,ro,now⟩) Y.out h);by_cases h8:8<fos.length
 · have z:=hid (show E=2 from by rw[Iv.out (by rw[rK h8];decide)];exact rK h8)
   have J1:8<(fos.length:Int):=by omega
   go_wp2_with fail;go_ret;exact⟨by rw[z.out];rfl,V⟩
 have H8:=hid h8;have J1: ¬8<(fos.length:Int):=by omega
 go_wp2_with fail;go_loopw [3] (fun i wr=> ∃k:Nat,k≤fos.length∧i= .int .i64 k∧Hid (∀i (h:i<fos.length),i<k→bN fos[i]=0)∧Hid (Cs wr w.heap.size [.slice Z fos.length fc,.slice ga gs.length gc,.slice sa ss.length sc,.int .i64 nx,.int .i64 la,.int .i64 ro,.int .i64 now])∧Below w.heap.size w wr) (fun i _=>fos.length-(intOf i).toNat)
 case atStart=>exact⟨0,Nat.zero_le _,rfl,(fun i _ h=>absurd h (Nat.not_lt_zero _): ∀i (h:i<fos.length),i<0→bN fos[i]=0),HX,V⟩
 case round=>
  clear x0 x6 HX V;obtain⟨k,hk,rfl,Q,f,d⟩:=hrel
  have x0:=f.out.cell 0 rfl;by_cases J:k<fos.length
  · obtain⟨b,o,rfl,hb,P⟩:=HL.out k J
    obtain⟨T,u,x,c1,c2,c3,hu,hx⟩:=P.below hb d
    have HZ:=hid (HU.out fos[k] (List.getElem_mem J))
    have y:=hid (show¬bN fos[k]=0→E=bN fos[k]from fun F=>by
     have e:=wJ H8.out J Q.out F;rw[Iv.out (by rw[e];exact F),e])
    have A:=hid (show bN fos[k]=0→ ∀i (h:i<fos.length),i<k+1→bN fos[i]=0 from fun F i h1 h2=>by
     by_cases e:i=k
     · subst e;exact F
     · exact Q.out i h1 (by omega))
    have N:(k:Int)<fos.length:=by omega
    clear P;generalize fos[k]=s at*;obtain⟨na,⟨jb,jf,jc⟩⟩:=s
    simp only at T c1 c2 c3 hu hx;have IU:=hid hu;have IV:=hid hx;obtain⟨ua,uc,rfl,_⟩:=hu
    obtain⟨xa,xc,rfl,_⟩:=hx
    go_wp2_with fail;refine(js na _ (by have:na.size≤1048576:=HZ.out.1;omega)).mono ?_
    rintro e w1 ⟨rfl,rfl⟩;cases I5:aM na.data.toList with
    |false=>
     have z:=hid (show E=1 from by
      have e:bN ⟨na,⟨jb,jf,jc⟩⟩=1:=by rw[bN,Hd I5,if_pos (by decide)]
      rw[y.out (by rw[e];decide),e])
     clear y A I5;go_wp2_with fail;go_ret;exact⟨by rw[z.out];rfl,d⟩
    |true=>
     have Ix:=hid (show bN ⟨na,⟨jb,jf,jc⟩⟩=bq ⟨jb,jf,jc⟩from by rw[bN,He I5,if_neg (by simp)]);clear I5;go_wp2_with fail;refine(Ha ⟨jb,jf,jc⟩ _ _ ⟨_,_,rfl,IU.out,IV.out⟩ (fun e P=>by have:=(HZ.out.2.1 e P).1;omega) (HZ.out.2.2.mono (by decide))).mono ?_
     rintro e w2 ⟨rfl,IJ⟩;have U:=ag d IJ;have IZ:=hid (f.out.below IJ);clear T c1 c2 c3;rw[←Ix.out];by_cases F:bN ⟨na,⟨jb,jf,jc⟩⟩=0
     · have S:=hid (A.out F)
       rw[F];clear F y A Ix;go_wp2_with fail;go_roundw
       case rel=>exact⟨k+1,by omega,by simp,S,IZ,U⟩
       case measure=>simp[intOf];omega
     · have z:=hid (y.out F)
       have hz:(bN ⟨na,⟨jb,jf,jc⟩⟩==0)=false:=by simpa using F
       have J8:(bN ⟨na,⟨jb,jf,jc⟩⟩ !=0)=true:=by simpa using F
       clear F y A Ix;generalize bN ⟨na,⟨jb,jf,jc⟩⟩=r at*;go_wp2_with fail;go_ret;exact⟨by rw[z.out];rfl,U⟩
  · have N: ¬(k:Int)<fos.length:=by omega
    have HA:=hid (show∀i (h:i<fos.length),bN fos[i]=0 from fun i h=>Q.out i h (by omega));clear N Q;go_wp2_with fail;clear J hk;go_loopw [5] (fun i wr=> ∃m:Nat,m≤fos.length∧i= .int .i64 ((m:Int)+1)∧Hid (∀i (h:i+1<fos.length),i<m→Hu.lt fos[i] fos[i+1]=true)∧Hid (Cs wr w.heap.size [.slice Z fos.length fc,.slice ga gs.length gc,.slice sa ss.length sc,.int .i64 nx,.int .i64 la,.int .i64 ro,.int .i64 now])∧Below w.heap.size w wr) (fun i _=>fos.length+2-(intOf i).toNat)
    case atStart=>exact⟨0,Nat.zero_le _,rfl,(fun i _ h=>absurd h (Nat.not_lt_zero _): ∀i (h:i+1<fos.length),i<0→Hu.lt fos[i] fos[i+1]=true),f,d⟩
    case round=>
     clear d f x0;obtain⟨m,hm,rfl,HR,f,d⟩:=hrel
     have x0:=f.out.cell 0 rfl;by_cases X:m+1<fos.length
     · obtain⟨b,o,rfl,hb,P⟩:=HL.out m (by omega)
       obtain⟨T,_⟩:=P.below hb d
       obtain⟨b',o',IK,Jc,IL⟩:=HL.out (m+1) X
       obtain⟨rfl,rfl⟩:b=b'∧o=o':=by simpa using IK
       obtain⟨d0,_⟩:=IL.below hb d
       have I8:(m:Int)+1<fos.length:=by omega
       have Ja:(m:Int)<fos.length:=by omega
       have Je:IntKind.i64.wrap ((m:Int)+1-1)=m:=by rw[IntKind.wrap_i64];omega
       have Jd:0≤(m:Int)+1:=by omega
       clear IK P IL;cases hl:Hu.lt fos[m] fos[m+1]with
       |true=>
        obtain⟨IM,J4⟩:=Hu.lt_flip hl
        have IR:=hid (show∀i (h:i+1<fos.length),i<m+1→Hu.lt fos[i] fos[i+1]=true from fun i h1 h2=>by
         by_cases e:i=m
         · subst e;exact hl
         · exact HR.out i h1 (by omega))
        have J0:=hid (f.out.below ((Below.refl _ _).drew));clear hl;go_wp2_with fail;go_region
        go_wp2;go_roundw
        case rel=>exact⟨m+1,by omega,by simp,IR,J0,d.drew⟩
        case measure=>simp[intOf];omega
       |false=>
        have z:=hid (show E=4 from by
         have e:=wK H8.out HA.out X hl;rw[Iv.out (by rw[e];decide),e])
        rcases Hf hl with IM|⟨IM,J4⟩
        all_goals
         clear hl;go_wp2_with fail;go_region
         go_wp2;go_ret;exact⟨by rw[z.out];rfl,d.drew⟩
     · have I8: ¬(m:Int)+1<fos.length:=by omega
       have IG:=hid (show eQ fos=true from(mq fos).2 fun i h=>HR.out i h (by omega));have I9:=hid (show Hu.cfE fos=0 from wL H8.out HA.out fun i h=>HR.out i h (by omega));have Iw:=hid (show¬bG gs=0→E=bG gs from fun h=>by rw[HE.out];exact rW (H:=⟨fos,gs,ss,nx,la,ro,now⟩) Y.out I9.out h);have x1:=f.out.cell 1 rfl;clear HR;go_wp2_with fail;refine(CC gs _ _ (IF.out.below d) IW.out).mono ?_
       rintro e w3 ⟨rfl,Iz⟩;have K:=ag d Iz;have Iy:=hid (f.out.below Iz);clear x0 x1;by_cases F: ¬(bG gs=0)
       · have z:=hid (Iw.out F)
         have hz:(bG gs==0)=false:=by simpa using F
         have J8:(bG gs !=0)=true:=by simpa using F
         clear F Iw;generalize bG gs=r at*;go_wp2_with fail;go_ret;exact⟨by rw[z.out];rfl,K⟩
       replace F:=Decidable.not_not.1 F;have IE:=hid F;have Jb:gs.length≤60:=(oO F).1;have IH:=hid (show¬dm fos gs=0→E=dm fos gs from fun h=>by rw[HE.out];exact rX (H:=⟨fos,gs,ss,nx,la,ro,now⟩) Y.out I9.out IE.out h);rw[F];clear F Iw;have x1:=Iy.out.cell 1 rfl;go_wp2_with fail;clear X I8 hm;go_loopw [7] (fun i wr=> ∃k:Nat,k≤gs.length∧i= .int .i64 k∧Hid (∀j (h:j<gs.length),j<k→cy fos gs[j].fo=true)∧Hid (Cs wr w.heap.size [.slice Z fos.length fc,.slice ga gs.length gc,.slice sa ss.length sc,.int .i64 nx,.int .i64 la,.int .i64 ro,.int .i64 now])∧Below w.heap.size w wr) (fun i _=>gs.length-(intOf i).toNat)
       case atStart=>exact⟨0,Nat.zero_le _,rfl,(fun j _ h=>absurd h (Nat.not_lt_zero _): ∀j (h:j<gs.length),j<0→cy fos gs[j].fo=true),Iy,K⟩
       case round=>
        clear d Iz K f Iy x1;obtain⟨k,hk,rfl,Q,f,d⟩:=hrel
        have x1:=f.out.cell 1 rfl;by_cases J:k<gs.length
        · obtain⟨b,o,rfl,hb,P⟩:=IS.out k J
          obtain⟨T,_⟩:=P.below hb d
          have N:(k:Int)<gs.length:=by omega
          have IC:b<wr.heap.size:=Nat.lt_of_lt_of_le hb d.size;have J7:=f.out.lt
          have y:=hid (show cy fos gs[k].fo=false→E=5 from fun h=>by
           have e:=xl (L:=fos) J h;rw[IH.out (by rw[e];decide),e])
          have A:=hid (show cy fos gs[k].fo=true→ ∀j (h:j<gs.length),j<k+1→cy fos gs[j].fo=true from fun F j h1 h2=>by
           by_cases e:j=k
           · subst e;exact F
           · exact Q.out j h1 (by omega))
          clear P;generalize gs[k]=gg at*;obtain⟨gf,gw,gr⟩:=gg
          simp only at T y A;have z0:=f.out.cell 0 rfl;have z1:=f.out.cell 1 rfl;have z2:=f.out.cell 2 rfl;have z3:=f.out.cell 3 rfl;have z4:=f.out.cell 4 rfl;have z5:=f.out.cell 5 rfl;have z6:=f.out.cell 6 rfl;go_wp2_with fail
          go_region_held3 (fun W=>W.cell? ⟨w.heap.size,0,none⟩=some (.slice Z fos.length fc)∧W.cell? ⟨w.heap.size,1,none⟩=some (.slice (some ⟨b,o,none⟩) gs.length gc)∧W.cell? ⟨w.heap.size,2,none⟩=some (.slice sa ss.length sc)∧W.cell? ⟨w.heap.size,3,none⟩=some (.int .i64 nx)∧W.cell? ⟨w.heap.size,4,none⟩=some (.int .i64 la)∧W.cell? ⟨w.heap.size,5,none⟩=some (.int .i64 ro)∧W.cell? ⟨w.heap.size,6,none⟩=some (.int .i64 now)∧W.cell? ⟨b,o+k*3,none⟩=some (.string gf)) (go_keep) (first
           |(go_at_call 19;refine(yl ⟨fos,gs,ss,nx,la,ro,now⟩ _ gf _ (HV.out.below (ag d (Below.refl _ _).drew))).mono ?_;rintro e wa ⟨rfl,IA⟩;have O:Below wr.heap.size wr wa:=((Below.refl _ _).drew).trans IA;have G:=hid (f.out.below O);have j0:=G.out.cell 0 rfl;have j1:=G.out.cell 1 rfl;have j2:=G.out.cell 2 rfl;have j3:=G.out.cell 3 rfl;have j4:=G.out.cell 4 rfl;have j5:=G.out.cell 5 rfl;have j6:=G.out.cell 6 rfl;have j7:=(O.cell (p:=⟨b,o+k*3,none⟩) IC).trans T))
          have I:=ag d O;clear j0 j1 j2 j3 j4 j5 j6 j7 z0 z1 z2 z3 z4 z5 z6 T;have I0:=Fx fos gf;cases M:cy fos gf with
          |false=>
           have z:=hid (y.out M);have IQ:fv fos gf<0:=I0.2 M;clear y A I0 M;generalize fv fos gf=q at*;go_wp2_with fail;go_ret;exact⟨by rw[z.out];rfl,I⟩
          |true=>
           have S:=hid (A.out M);have IQ: ¬fv fos gf<0:=fun h=>by rw[I0.1 h]at M;cases M
           clear y A I0 M;generalize fv fos gf=q at*;go_wp2_with fail;go_roundw
           case rel=>exact⟨k+1,by omega,by simp,S,G,I⟩
           case measure=>simp[intOf];omega
        · have N: ¬(k:Int)<gs.length:=by omega
          have ID:=hid (show∀g∈gs,cy fos g.fo=true from fun g hg=>by
           obtain⟨j,hj,rfl⟩:=List.getElem_of_mem hg
           exact Q.out j hj (by omega))
          have x0:=f.out.cell 0 rfl;clear Q;go_wp2_with fail;clear J hk N;go_loopw [8] (fun i wr=> ∃k:Nat,k≤fos.length∧i= .int .i64 k∧Hid (∀j (h:j<fos.length),j<k→bT gs fos[j].na=true)∧Hid (Cs wr w.heap.size [.slice Z fos.length fc,.slice ga gs.length gc,.slice sa ss.length sc,.int .i64 nx,.int .i64 la,.int .i64 ro,.int .i64 now])∧Below w.heap.size w wr) (fun i _=>fos.length-(intOf i).toNat)
          case atStart=>exact⟨0,Nat.zero_le _,rfl,(fun j _ h=>absurd h (Nat.not_lt_zero _): ∀j (h:j<fos.length),j<0→bT gs fos[j].na=true),f,d⟩
          case round=>
           clear d f x0 x1;obtain⟨k,hk,rfl,Q,f,d⟩:=hrel
           have x0:=f.out.cell 0 rfl;have x1:=f.out.cell 1 rfl;by_cases J:k<fos.length
           · obtain⟨b,o,rfl,hb,P⟩:=HL.out k J
             obtain⟨T,_⟩:=P.below hb d
             have N:(k:Int)<fos.length:=by omega
             have IC:b<wr.heap.size:=Nat.lt_of_lt_of_le hb d.size;have J7:=f.out.lt
             have y:=hid (show bT gs fos[k].na=false→E=5 from fun h=>by
              have e:=Fv IG.out ID.out (List.getElem_mem J) h;rw[IH.out (by rw[e];decide),e])
             have A:=hid (show bT gs fos[k].na=true→ ∀j (h:j<fos.length),j<k+1→bT gs fos[j].na=true from fun F j h1 h2=>by
              by_cases e:j=k
              · subst e;exact F
              · exact Q.out j h1 (by omega))
             clear P;generalize fos[k]=s at*;obtain⟨na,jo⟩:=s
             simp only at T y A;go_wp2_with fail
             go_region_held3 (fun W=>W.cell? ⟨w.heap.size,0,none⟩=some (.slice (some ⟨b,o,none⟩) fos.length fc)∧W.cell? ⟨w.heap.size,1,none⟩=some (.slice ga gs.length gc)∧W.cell? ⟨b,o+k*4,none⟩=some (.string na)) (go_keep) (first
              |(go_at_call 33;refine(DD gs _ na _ (IF.out.below (ag d (Below.refl _ _).drew)) (by omega)).mono ?_;rintro e wa ⟨u,rfl,J6,IA⟩;obtain⟨ua,uc,rfl,J5⟩:=J6;clear J5;have O:Below wr.heap.size wr wa:=((Below.refl _ _).drew).trans IA;have G:=hid (f.out.below O);have j0:=G.out.cell 0 rfl;have j1:=G.out.cell 1 rfl;have j7:=(O.cell (p:=⟨b,o+k*4,none⟩) IC).trans T))
             have I:=ag d O;clear j0 j1 j7 T x0 x1;have I6:=Hg gs na;cases M:bT gs na with
             |false=>
              have z:=hid (y.out M);have hz:(((eb gs na).length:Int)==0)=true:=by rw[I6.2 M];rfl
              clear y A I6 M;generalize (eb gs na).length=q at*;go_wp2_with fail;go_ret;exact⟨by rw[z.out];rfl,I⟩
             |true=>
              have S:=hid (A.out M)
              have hz:(((eb gs na).length:Int)==0)=false:=by
               rw[beq_eq_false_iff_ne];intro h;have F:(eb gs na).length=0:=by omega
               rw[I6.1 F]at M;cases M
              clear y A I6 M;generalize (eb gs na).length=q at*;go_wp2_with fail;go_roundw
              case rel=>exact⟨k+1,by omega,by simp,S,G,I⟩
              case measure=>simp[intOf];omega
           · have N: ¬(k:Int)<fos.length:=by omega
             have IY:=hid (show dm fos gs=0 from Fu IG.out ID.out (fun s hs=>by
              obtain⟨j,hj,rfl⟩:=List.getElem_of_mem hs
              exact Q.out j hj (by omega)))
             have z:=hid (show E=bJ ss nx la ro from by rw[HE.out];exact oW (H:=⟨fos,gs,ss,nx,la,ro,now⟩) Y.out I9.out IE.out IY.out);have z0:=f.out.cell 0 rfl;have z1:=f.out.cell 1 rfl;have z2:=f.out.cell 2 rfl;have z3:=f.out.cell 3 rfl;have z4:=f.out.cell 4 rfl;have z5:=f.out.cell 5 rfl;have z6:=f.out.cell 6 rfl;go_wp2_with fail;refine(G6 ss _ nx la ro _ (IT.out.below d) IX.out).mono ?_
             rintro e w9 ⟨rfl,J2⟩;rw[←z.out];have IB:=ag d J2;go_wp2_with fail;go_ret;exact⟨rfl,IB⟩
end Go.Proofs.YtcmlnelpcjfocaaGreatDoor
