/- Small things of trees. -/
import Derived.Test.YtdlpjlfefjipkaaGreatHFD
set_option linter.unusedSimpArgs false
set_option linter.unusedVariables false
namespace Go.Proofs.YtdlpjlfefjipkaaGreat
open Go.RowKit Go.Proofs.Tryz
set_option maxHeartbeats 2000000
theorem hid {p:Prop} (h:p):Hid p:=h
theorem gL (w:World):aF w (.slice none 0 0) []:=⟨none,0,rfl,ax,by simp,fun i a=>absurd a (by simp)⟩
theorem k7 {l:List UInt8} (h:aD l=0):l.length≤80:=by
 have a:=xp h;rw[bv,Bool.or_eq_false_iff]at a;have:=of_decide_eq_false a.2
 omega
theorem aC {w f:World} {a b c d e:Value} {T:TypeId} (h:Below (w.alloc (.cells #[a,b,c,d,e] T)).heap.size (w.alloc (.cells #[a,b,c,d,e] T)) f):
    f.cell? ⟨w.heap.size,0,none⟩=some a∧f.cell? ⟨w.heap.size,1,none⟩=some b∧f.cell? ⟨w.heap.size,2,none⟩=some c∧f.cell? ⟨w.heap.size,3,none⟩=some d∧f.cell? ⟨w.heap.size,4,none⟩=some e∧Below w.heap.size w f∧w.heap.size<f.heap.size:=by
 have g:w.heap.size<(w.alloc (.cells #[a,b,c,d,e] T)).heap.size:=by simp
 refine⟨?_,?_,?_,?_,?_, ak.trans (h.mono (Nat.le_of_lt g)),Nat.lt_of_lt_of_le g h.size⟩
 · exact(h.cell (p:=⟨w.heap.size,0,none⟩) g).trans (by simp)
 · exact(h.cell (p:=⟨w.heap.size,1,none⟩) g).trans (by simp)
 · exact(h.cell (p:=⟨w.heap.size,2,none⟩) g).trans (by simp)
 · exact(h.cell (p:=⟨w.heap.size,3,none⟩) g).trans (by simp)
 · exact(h.cell (p:=⟨w.heap.size,4,none⟩) g).trans (by simp)
theorem sL {k:Int} (v:k=1∨k=4) (p q t:ByteArray) (b:Int) (u:aD p.data.toList=0):
    (q.toList.isEmpty=false∧Hid (1=aQ ⟨k,p,q,t,b⟩))∨(q.toList.isEmpty=true∧t.toList.isEmpty=false∧Hid (1=aQ ⟨k,p,q,t,b⟩))∨
    (q.toList.isEmpty=true∧t.toList.isEmpty=true∧(t.size:Int)≤300∧b< -1∧Hid (3=aQ ⟨k,p,q,t,b⟩))∨
    (q.toList.isEmpty=true∧t.toList.isEmpty=true∧(t.size:Int)≤300∧1000000<b∧Hid (3=aQ ⟨k,p,q,t,b⟩))∨
    (q.toList.isEmpty=true∧t.toList.isEmpty=true∧(t.size:Int)≤300∧ -1≤b∧b≤1000000∧Hid (0=aQ ⟨k,p,q,t,b⟩)):=by
 have s: ¬k=3:=by omega
 have o: ¬k=2:=by omega
 have c: ¬(k<1∨4<k):=by omega
 have hE:aQ ⟨k,p,q,t,b⟩=if(¬q.data.toList=[])∨(¬t.data.toList=[])then 1 else if 300<t.size then 2 else if b< -1∨1000000<b then 3 else 0:=by
  simp only[aQ,c,if_false,u,not_true,s,o,false_and,not_false_iff,true_and]
 cases i:q.toList.isEmpty with
 |false=>exact Or.inl ⟨rfl,(by rw[hE,if_pos (Or.inl (jH i))]:1=aQ ⟨k,p,q,t,b⟩)⟩
 |true=>
  have d:=(ia q).1 i;cases j:t.toList.isEmpty with
  |false=>exact Or.inr (Or.inl ⟨rfl,rfl,(by rw[hE,if_pos (Or.inr (jH j))]:1=aQ ⟨k,p,q,t,b⟩)⟩)
  |true=>
   have a:=(ia t).1 j;have x:t.size=0:=by rw[Lib.size_eq,a];rfl
   rw[if_neg (by simp[d,a]),if_neg (by omega)]at hE;by_cases f:b< -1
   · exact Or.inr (Or.inr (Or.inl ⟨rfl,rfl,by omega,f,(by rw[hE,if_pos (Or.inl f)]:3=aQ ⟨k,p,q,t,b⟩)⟩))
   · by_cases g:1000000<b
     · exact Or.inr (Or.inr (Or.inr (Or.inl ⟨rfl,rfl,by omega,g,(by rw[hE,if_pos (Or.inr g)]:3=aQ ⟨k,p,q,t,b⟩)⟩)))
     · exact Or.inr (Or.inr (Or.inr (Or.inr ⟨rfl,rfl,by omega,by omega,by omega,(by rw[hE,if_neg (by omega)]:0=aQ ⟨k,p,q,t,b⟩)⟩)))
theorem k8 (p q t:ByteArray) (b:Int) (i:aD p.data.toList=0):
    (q.toList.isEmpty=false∧Hid (1=aQ ⟨2,p,q,t,b⟩))∨(q.toList.isEmpty=true∧300<(t.size:Int)∧Hid (2=aQ ⟨2,p,q,t,b⟩))∨
    (q.toList.isEmpty=true∧(t.size:Int)≤300∧b< -1∧Hid (3=aQ ⟨2,p,q,t,b⟩))∨
    (q.toList.isEmpty=true∧(t.size:Int)≤300∧1000000<b∧Hid (3=aQ ⟨2,p,q,t,b⟩))∨
    (q.toList.isEmpty=true∧(t.size:Int)≤300∧ -1≤b∧b≤1000000∧Hid (0=aQ ⟨2,p,q,t,b⟩)):=by
 have hE:aQ ⟨2,p,q,t,b⟩=if(¬q.data.toList=[])then 1 else if 300<t.size then 2 else if b< -1∨1000000<b then 3 else 0:=by
  simp[aQ,i]
 cases f:q.toList.isEmpty with
 |false=>exact Or.inl ⟨rfl,(by rw[hE,if_pos (jH f)]:1=aQ ⟨2,p,q,t,b⟩)⟩
 |true=>
  have a:=(ia q).1 f;rw[if_neg (by simp[a])]at hE;by_cases g:300<(t.size:Int)
  · exact Or.inr (Or.inl ⟨rfl,g,(by rw[hE,if_pos (by omega)]:2=aQ ⟨2,p,q,t,b⟩)⟩)
  · rw[if_neg (by omega)]at hE
    by_cases c:b< -1
    · exact Or.inr (Or.inr (Or.inl ⟨rfl,by omega,c,(by rw[hE,if_pos (Or.inl c)]:3=aQ ⟨2,p,q,t,b⟩)⟩))
    · by_cases d:1000000<b
      · exact Or.inr (Or.inr (Or.inr (Or.inl ⟨rfl,by omega,d,(by rw[hE,if_pos (Or.inr d)]:3=aQ ⟨2,p,q,t,b⟩)⟩)))
      · exact Or.inr (Or.inr (Or.inr (Or.inr ⟨rfl,by omega,by omega,by omega,(by rw[hE,if_neg (by omega)]:0=aQ ⟨2,p,q,t,b⟩)⟩)))
theorem sM (p q t:ByteArray) (b:Int) (i:aD p.data.toList=0) (g:aD q.data.toList=0):
    (t.toList.isEmpty=false∧Hid (1=aQ ⟨3,p,q,t,b⟩))∨
    (t.toList.isEmpty=true∧(t.size:Int)≤300∧b< -1∧Hid (3=aQ ⟨3,p,q,t,b⟩))∨
    (t.toList.isEmpty=true∧(t.size:Int)≤300∧1000000<b∧Hid (3=aQ ⟨3,p,q,t,b⟩))∨
    (t.toList.isEmpty=true∧(t.size:Int)≤300∧ -1≤b∧b≤1000000∧Hid (0=aQ ⟨3,p,q,t,b⟩)):=by
 have hE:aQ ⟨3,p,q,t,b⟩=if(¬t.data.toList=[])then 1 else if 300<t.size then 2 else if b< -1∨1000000<b then 3 else 0:=by
  simp[aQ,i,g]
 cases f:t.toList.isEmpty with
 |false=>exact Or.inl ⟨rfl,(by rw[hE,if_pos (jH f)]:1=aQ ⟨3,p,q,t,b⟩)⟩
 |true=>
  have a:=(ia t).1 f;have j:t.size=0:=by rw[Lib.size_eq,a];rfl
  rw[if_neg (by simp[a]),if_neg (by omega)]at hE;by_cases c:b< -1
  · exact Or.inr (Or.inl ⟨rfl,by omega,c,(by rw[hE,if_pos (Or.inl c)]:3=aQ ⟨3,p,q,t,b⟩)⟩)
  · by_cases d:1000000<b
    · exact Or.inr (Or.inr (Or.inl ⟨rfl,by omega,d,(by rw[hE,if_pos (Or.inr d)]:3=aQ ⟨3,p,q,t,b⟩)⟩))
    · exact Or.inr (Or.inr (Or.inr ⟨rfl,by omega,by omega,by omega,(by rw[hE,if_neg (by omega)]:0=aQ ⟨3,p,q,t,b⟩)⟩))
theorem ni (k:Int) (p q t:ByteArray) (b:Int) (w:World) (F:p.size≤1000000000000000) (N:q.size≤1000000000000000) (V:t.size≤1000000000000000):
    Calls prog 180 #[.agg #[k,p,q,t,b]] w fun e w'=>e= .returned (.int .i64 (aQ ⟨k,p,q,t,b⟩))∧Below w.heap.size w w':=by
 by_cases K:k<1
 · have d:=hid (show 7=aQ ⟨k,p,q,t,b⟩from by rw[aQ,if_pos (Or.inl K)])
   go_enter func180,ntmps180
   go_wp2;go_ret;exact⟨aB d.out,ak⟩
 by_cases M:4<k
 · have d:=hid (show 7=aQ ⟨k,p,q,t,b⟩from by rw[aQ,if_pos (Or.inr M)])
   go_enter func180,ntmps180
   go_wp2;go_ret;exact⟨aB d.out,ak⟩
 by_cases s:aD p.data.toList=0
 · have H:Hid (aD p.data.toList=0):=s
   have P:(k=1∨k=4)∨k=2∨k=3:=by omega
   clear K M;rcases P with h|rfl|rfl
   · have c:=sL h p q t b s
     clear s;rcases h with rfl|rfl
     all_goals
      rcases c with⟨o,d⟩|⟨o,u,d⟩|⟨o,u,C,I,d⟩|⟨o,u,C,I,d⟩|⟨o,u,C,I,U,d⟩
     all_goals
      go_enter func180,ntmps180
      go_wp2_with fail;refine(eV p _ F).mono ?_
      rintro e J ⟨rfl,a⟩;rw[H.out];obtain⟨v,x,z,A,B,f,j⟩:=aC a
      clear a;go_wp2;go_ret;exact⟨aB d.out,f⟩
   · have c:=k8 p q t b s
     clear s;rcases c with⟨o,d⟩|⟨o,u,d⟩|⟨o,u,C,d⟩|⟨o,u,C,d⟩|⟨o,u,C,I,d⟩
     all_goals
      go_enter func180,ntmps180
      go_wp2_with fail;refine(eV p _ F).mono ?_
      rintro e J ⟨rfl,a⟩;rw[H.out];obtain⟨v,x,z,A,B,f,j⟩:=aC a
      clear a;go_wp2;go_ret;exact⟨aB d.out,f⟩
   · by_cases G:aD q.data.toList=0
     · have c:=sM p q t b s G
       have O:Hid (aD q.data.toList=0):=G;clear s G;rcases c with⟨o,d⟩|⟨o,u,C,d⟩|⟨o,u,C,d⟩|⟨o,u,C,I,d⟩
       all_goals
        go_enter func180,ntmps180
        go_wp2_with fail;refine(eV p _ F).mono ?_
        rintro e J ⟨rfl,a⟩;rw[H.out];obtain⟨v,x,z,A,B,f,j⟩:=aC a
        go_wp2_with fail;refine(eV q _ N).mono ?_
        rintro e T ⟨rfl,i⟩;rw[O.out];have g:=a.trans (i.mono a.size);clear v x z A B f j a i;obtain⟨v,x,z,A,B,f,j⟩:=aC g
        clear g;go_wp2;go_ret;exact⟨aB d.out,f⟩
     · have d:=hid (show aD q.data.toList=aQ ⟨3,p,q,t,b⟩from by simp[aQ,s,G])
       have R:(aD q.data.toList==0)=false:=by simpa using G
       clear s;go_enter func180,ntmps180
       go_wp2_with fail;refine(eV p _ F).mono ?_
       rintro e J ⟨rfl,a⟩;rw[H.out];obtain⟨v,x,z,A,B,f,j⟩:=aC a
       go_wp2_with fail;refine(eV q _ N).mono ?_
       rintro e T ⟨rfl,i⟩;have g:=a.trans (i.mono a.size);clear v x z A B f j a i;obtain⟨v,x,z,A,B,f,j⟩:=aC g
       clear g;go_wp2;go_ret;exact⟨aB d.out,f⟩
 · have d:=hid (show aD p.data.toList=aQ ⟨k,p,q,t,b⟩from by rw[aQ,if_neg (by simp only;omega),if_pos s])
   have S:(aD p.data.toList==0)=false:=by simpa using s
   go_enter func180,ntmps180
   go_wp2_with fail;refine(eV p _ F).mono ?_
   rintro e J ⟨rfl,E⟩;obtain⟨v,x,z,A,B,Q,j⟩:=aC E
   clear E;go_wp2;go_ret;exact⟨aB d.out,Q⟩
def iL (L:List En) (p q:List UInt8):Int:=if a8 q p=true then 3 else if(L.find? (aR q)).isSome=true then 6 else 0
theorem yY (L:List En) (v:Value) (k:Int) (p q t:ByteArray) (b:Int) (w:World) (P:aF w v L) (O: ∀e∈L,e.path.size≤1000000000000000) (M:p.size≤1000000000000000) (N:q.size≤1000000000000000) (J:aD p.data.toList=0) (K:aD q.data.toList=0):
    Calls prog 198 #[v,.agg #[k,p,q,t,b]] w fun e w'=>e= .returned (.int .i64 (iL L p.data.toList q.data.toList))∧Below w.heap.size w w':=by
 have U:Hid (aF w v L):=P;have S:Hid (∀e∈L,e.path.size≤1000000000000000):=O;have g:(bZ [q.data.toList,p.data.toList]==0)=true:=by simp[bZ,J,K]
 clear P O J K;cases o:a8 q.data.toList p.data.toList with
 |true=>
  have H:=hid (show(bZ [q.data.toList,p.data.toList]==0 && a8 q.data.toList p.data.toList)=true from by rw[g,o];rfl);have G:=hid (show 3=iL L p.data.toList q.data.toList from by rw[iL,if_pos o]);clear o g;go_enter func198,ntmps198
  go_wp2_with fail;refine(o3 q p _ N M).mono ?_
  rintro e Q ⟨rfl,c⟩;rw[H.out];obtain⟨s,u,z,A,B,a,f⟩:=aC c
  clear c;go_wp2;go_ret;exact⟨aB G.out,a⟩
 |false=>
  have H:=hid (show(bZ [q.data.toList,p.data.toList]==0 && a8 q.data.toList p.data.toList)=false from by rw[g,o];rfl);have hE:iL L p.data.toList q.data.toList=if(L.find? (aR q.data.toList)).isSome=true then 6 else 0:=by rw[iL,if_neg (by rw[o];decide)]
  clear o g
  have I:(L.find? (aR q.data.toList)=none∧Hid (0=iL L p.data.toList q.data.toList))∨ ∃x,L.find? (aR q.data.toList)=some x∧Hid (6=iL L p.data.toList q.data.toList):=by
   cases j:L.find? (aR q.data.toList)with
   |none=>exact Or.inl ⟨rfl,(by rw[hE,j];rfl:0=iL L p.data.toList q.data.toList)⟩
   |some x=>exact Or.inr ⟨x,rfl,(by rw[hE,j];rfl:6=iL L p.data.toList q.data.toList)⟩
  clear hE;rcases I with⟨j,G⟩|⟨x,j,G⟩
  all_goals
   have R:=hid j;clear j;go_enter func198,ntmps198
   go_wp2_with fail;refine(o3 q p _ N M).mono ?_
   rintro e Q ⟨rfl,c⟩;rw[H.out];obtain⟨s,u,z,A,B,a,f⟩:=aC c
   go_wp2_with fail;refine(jh q _).mono ?_
   rintro e V ⟨rfl,F,C⟩;have T:Hid (dh V 197 #[.pointer (some ⟨Q.heap.size,0,none⟩)] (aR q.data.toList)):=F;have d:=c.trans (C.mono c.size);clear F s u z A B a f c C;obtain⟨s,u,z,A,B,a,f⟩:=aC d
   go_wp2_with fail;refine(iI L v _ _ _ _ (U.out.below a) T.out S.out).mono ?_
   rintro e X ⟨rfl,E⟩;rw[R.out,ic];have i:=d.trans (E.mono d.size);clear s u z A B a f d E;obtain⟨s,u,z,A,B,a,f⟩:=aC i
   clear i;go_wp2;go_ret;exact⟨aB G.out,a.alloc (Nat.le_of_lt f) _⟩
theorem sN {L:List En} {c:aE} (h: ¬aO L (aI (Pp.goal c))=0):aO L (aI (Pp.goal c))=bN L c:=by rw[bN,if_pos h]
theorem sO {L:List En} {c:aE} (h:aO L (aI (Pp.goal c))=0) (a:L.find? (aR c.p.data.toList)=none):bN L c=if c.k=3∨c.k=4 then 5 else 0:=by rw[bN,if_neg (fun x=>x h),a]
theorem sP {L:List En} {c:aE} (h:aO L (aI (Pp.goal c))=0) {x:En} (a:L.find? (aR c.p.data.toList)=some x):bN L c=if c.k=1 then 6 else if c.k=2 then(if x.folder=true then 4 else 0)else if c.k=3 then iL L c.p.data.toList c.q.data.toList else 0:=by
 rw[bN,if_neg (fun x=>x h),a];rfl
theorem pj (L:List En) (v:Value) (k:Int) (p q t:ByteArray) (b:Int) (w:World) (hv:aF w v L) (hs: ∀e∈L,e.path.size≤1000000000000000) (V:p.size≤1000000000000000) (hq:q.size≤1000000000000000) (hg:aQ ⟨k,p,q,t,b⟩=0):
    Calls prog 181 #[v,.agg #[k,p,q,t,b]] w fun e w'=>e= .returned (.int .i64 (bN L ⟨k,p,q,t,b⟩))∧Below w.heap.size w w':=by
 have E2:=je hg;have R:Hid (aD p.data.toList=0):=hD hg;have P:Hid (aF w v L):=hv;have O:Hid (∀e∈L,e.path.size≤1000000000000000):=hs;have h4:(k=1∨k=2∨k=4)∨k=3:=by simp only at E2;omega
 clear hv hs E2;rcases h4 with h4|rfl
 · have H:Pp.goal ⟨k,p,q,t,b⟩=p.data.toList:=by rw[Pp.goal,if_neg (by simp only;omega)]
   clear hg;by_cases B:aO L (aI p.data.toList)=0
   · have Z:Hid (aO L (aI p.data.toList)=0):=B
     rw[←H]at B
     have U:(L.find? (aR p.data.toList)=none)∨ ∃x,L.find? (aR p.data.toList)=some x:=by
      cases L.find? (aR p.data.toList)with
      |none=>exact Or.inl rfl
      |some x=>exact Or.inr ⟨x,rfl⟩
     rcases U with M|⟨x,M⟩
     · have hE:=sO (c:=⟨k,p,q,t,b⟩) B M
       have S:=hid M;clear M B H;rcases h4 with rfl|rfl|rfl
       all_goals
        simp only[Int.reduceEq,or_self,or_true,or_false,if_true,if_false]at hE;have N:=hid hE;clear hE;go_enter func181,ntmps181
        go_wp2_with fail;refine(iH p _ V).mono ?_
        rintro e w1 ⟨rfl,i⟩;rw[R.out,fF rfl];obtain⟨o,s,u,z,A,a,d⟩:=aC i
        go_wp2_with fail;refine(kb L v ⟨(aI p.data.toList).toArray⟩ _ (P.out.below a) O.out).mono ?_
        rintro e Q ⟨rfl,E⟩;rw[show aO L _=0 from Z.out];have f:=i.trans (E.mono i.size);clear o s u z A a d i E;obtain⟨o,s,u,z,A,a,d⟩:=aC f
        go_wp2_with fail;refine(jh p _).mono ?_
        rintro e Y ⟨rfl,K,I⟩;have T:Hid (dh Y 197 #[.pointer (some ⟨Q.heap.size,0,none⟩)] (aR p.data.toList)):=K;have g:=f.trans (I.mono f.size);clear K o s u z A a d f I;obtain⟨o,s,u,z,A,a,d⟩:=aC g
        go_wp2_with fail;refine(iI L v _ _ _ _ (P.out.below a) T.out O.out).mono ?_
        rintro e w4 ⟨rfl,J⟩;rw[S.out,ic];have C:=g.trans (J.mono g.size);clear o s u z A a d g J;obtain⟨o,s,u,z,A,a,d⟩:=aC C
        clear C;go_wp2;go_ret;exact⟨aB N.out.symm,a.alloc (Nat.le_of_lt d) _⟩
     · have hE:=sP (c:=⟨k,p,q,t,b⟩) B M
       have S:=hid M;clear M B H;rcases h4 with rfl|rfl|rfl
       all_goals
        cases hx:x.folder
       all_goals
        simp only[Int.reduceEq,hx,or_self,or_true,or_false,if_true,if_false,Bool.false_eq_true]at hE;have N:=hid hE;clear hE;go_enter func181,ntmps181
        go_wp2_with fail;refine(iH p _ V).mono ?_
        rintro e w1 ⟨rfl,i⟩;rw[R.out,fF rfl];obtain⟨o,s,u,z,A,a,d⟩:=aC i
        go_wp2_with fail;refine(kb L v ⟨(aI p.data.toList).toArray⟩ _ (P.out.below a) O.out).mono ?_
        rintro e Q ⟨rfl,E⟩;rw[show aO L _=0 from Z.out];have f:=i.trans (E.mono i.size);clear o s u z A a d i E;obtain⟨o,s,u,z,A,a,d⟩:=aC f
        go_wp2_with fail;refine(jh p _).mono ?_
        rintro e Y ⟨rfl,K,I⟩;have T:Hid (dh Y 197 #[.pointer (some ⟨Q.heap.size,0,none⟩)] (aR p.data.toList)):=K;have g:=f.trans (I.mono f.size);clear K o s u z A a d f I;obtain⟨o,s,u,z,A,a,d⟩:=aC g
        go_wp2_with fail;refine(iI L v _ _ _ _ (P.out.below a) T.out O.out).mono ?_
        rintro e w4 ⟨rfl,J⟩;rw[S.out,ic,hx];have C:=g.trans (J.mono g.size);clear o s u z A a d g J;obtain⟨o,s,u,z,A,a,d⟩:=aC C
        clear C;go_wp2;go_ret;exact⟨aB N.out.symm,a.alloc (Nat.le_of_lt d) _⟩
   · have X:(aO L (aI p.data.toList)==0)=false:=by simpa using B
     have N:=hid (show aO L (aI p.data.toList)=bN L ⟨k,p,q,t,b⟩from by rw[←sN (by rw[H];exact B),H]);clear B H;rcases h4 with rfl|rfl|rfl
     all_goals
      go_enter func181,ntmps181
      go_wp2_with fail;refine(iH p _ V).mono ?_
      rintro e w1 ⟨rfl,i⟩;rw[R.out,fF rfl];obtain⟨o,s,u,z,A,a,d⟩:=aC i
      go_wp2_with fail;refine(kb L v ⟨(aI p.data.toList).toArray⟩ _ (P.out.below a) O.out).mono ?_
      rintro e Q ⟨rfl,E⟩;have f:=i.trans (E.mono i.size);clear o s u z A a d i E;obtain⟨o,s,u,z,A,a,d⟩:=aC f
      clear f;have E3:(aO L (⟨(aI p.data.toList).toArray⟩:ByteArray).data.toList==0)=false:=X;generalize hG:aO L (⟨(aI p.data.toList).toArray⟩:ByteArray).data.toList=G at*;have E4:(G==0)=false:=E3;go_wp2;go_ret;exact⟨aB N.out,a⟩
 · have H:Pp.goal ⟨3,p,q,t,b⟩=q.data.toList:=rfl
   have HQ:Hid (aD q.data.toList=0):=kV hg rfl;clear hg;by_cases B:aO L (aI q.data.toList)=0
   · have Z:Hid (aO L (aI q.data.toList)=0):=B
     rw[←H]at B
     have U:(L.find? (aR p.data.toList)=none)∨ ∃x,L.find? (aR p.data.toList)=some x:=by
      cases L.find? (aR p.data.toList)with
      |none=>exact Or.inl rfl
      |some x=>exact Or.inr ⟨x,rfl⟩
     rcases U with M|⟨x,M⟩
     · have hE:=sO (c:=⟨3,p,q,t,b⟩) B M
       have S:=hid M;clear M B H;simp only[Int.reduceEq,or_self,or_true,or_false,if_true,if_false]at hE;have N:=hid hE;clear hE;go_enter func181,ntmps181
       go_wp2_with fail;refine(iH p _ V).mono ?_
       rintro e w0 ⟨rfl,F⟩;rw[R.out,fF rfl];obtain⟨o,s,u,z,A,a,d⟩:=aC F
       go_wp2_with fail;refine(iH q _ hq).mono ?_
       rintro e w1 ⟨rfl,i⟩;rw[HQ.out,fF rfl];have j:=F.trans (i.mono F.size);clear o s u z A a d F i;obtain⟨o,s,u,z,A,a,d⟩:=aC j
       go_wp2_with fail;refine(kb L v ⟨(aI q.data.toList).toArray⟩ _ (P.out.below a) O.out).mono ?_
       rintro e Q ⟨rfl,E⟩;rw[show aO L _=0 from Z.out];have f:=j.trans (E.mono j.size);clear o s u z A a d j E;obtain⟨o,s,u,z,A,a,d⟩:=aC f
       go_wp2_with fail;refine(jh p _).mono ?_
       rintro e Y ⟨rfl,K,I⟩;have T:Hid (dh Y 197 #[.pointer (some ⟨Q.heap.size,0,none⟩)] (aR p.data.toList)):=K;have g:=f.trans (I.mono f.size);clear K o s u z A a d f I;obtain⟨o,s,u,z,A,a,d⟩:=aC g
       go_wp2_with fail;refine(iI L v _ _ _ _ (P.out.below a) T.out O.out).mono ?_
       rintro e w4 ⟨rfl,J⟩;rw[S.out,ic];have C:=g.trans (J.mono g.size);clear o s u z A a d g J;obtain⟨o,s,u,z,A,a,d⟩:=aC C
       clear C;go_wp2;go_ret;exact⟨aB N.out.symm,a.alloc (Nat.le_of_lt d) _⟩
     · have hE:=sP (c:=⟨3,p,q,t,b⟩) B M
       have S:=hid M;clear M B H;simp only[Int.reduceEq,or_self,or_true,or_false,if_true,if_false]at hE;have N:=hid hE;clear hE;go_enter func181,ntmps181
       go_wp2_with fail;refine(iH p _ V).mono ?_
       rintro e w0 ⟨rfl,F⟩;rw[R.out,fF rfl];obtain⟨o,s,u,z,A,a,d⟩:=aC F
       go_wp2_with fail;refine(iH q _ hq).mono ?_
       rintro e w1 ⟨rfl,i⟩;rw[HQ.out,fF rfl];have j:=F.trans (i.mono F.size);clear o s u z A a d F i;obtain⟨o,s,u,z,A,a,d⟩:=aC j
       go_wp2_with fail;refine(kb L v ⟨(aI q.data.toList).toArray⟩ _ (P.out.below a) O.out).mono ?_
       rintro e Q ⟨rfl,E⟩;rw[show aO L _=0 from Z.out];have f:=j.trans (E.mono j.size);clear o s u z A a d j E;obtain⟨o,s,u,z,A,a,d⟩:=aC f
       go_wp2_with fail;refine(jh p _).mono ?_
       rintro e Y ⟨rfl,K,I⟩;have T:Hid (dh Y 197 #[.pointer (some ⟨Q.heap.size,0,none⟩)] (aR p.data.toList)):=K;have g:=f.trans (I.mono f.size);clear K o s u z A a d f I;obtain⟨o,s,u,z,A,a,d⟩:=aC g
       go_wp2_with fail;refine(iI L v _ _ _ _ (P.out.below a) T.out O.out).mono ?_
       rintro e w4 ⟨rfl,J⟩;rw[S.out,ic];have C:=g.trans (J.mono g.size);clear o s u z A a d g J;obtain⟨o,s,u,z,A,a,d⟩:=aC C
       go_wp2_with fail;refine(yY L v 3 p q t b _ (P.out.below (a.alloc (Nat.le_of_lt d) _)) O.out V hq R.out HQ.out).mono ?_
       rintro e w5 ⟨rfl,E1⟩;have E0:Below w.heap.size w w5:=(a.alloc (Nat.le_of_lt d) _).trans (E1.mono (by simp;omega));clear o s u z A a d C E1;go_wp2;go_ret;exact⟨aB N.out.symm,E0⟩
   · have X:(aO L (aI q.data.toList)==0)=false:=by simpa using B
     have N:=hid (show aO L (aI q.data.toList)=bN L ⟨3,p,q,t,b⟩from by rw[←sN (by rw[H];exact B),H]);clear B H;go_enter func181,ntmps181
     go_wp2_with fail;refine(iH p _ V).mono ?_
     rintro e w0 ⟨rfl,F⟩;rw[R.out,fF rfl];obtain⟨o,s,u,z,A,a,d⟩:=aC F
     go_wp2_with fail;refine(iH q _ hq).mono ?_
     rintro e w1 ⟨rfl,i⟩;rw[HQ.out,fF rfl];have j:=F.trans (i.mono F.size);clear o s u z A a d F i;obtain⟨o,s,u,z,A,a,d⟩:=aC j
     go_wp2_with fail;refine(kb L v ⟨(aI q.data.toList).toArray⟩ _ (P.out.below a) O.out).mono ?_
     rintro e Q ⟨rfl,E⟩;have f:=j.trans (E.mono j.size);clear o s u z A a d j E;obtain⟨o,s,u,z,A,a,d⟩:=aC f
     clear f;have E3:(aO L (⟨(aI q.data.toList).toArray⟩:ByteArray).data.toList==0)=false:=X;generalize hG:aO L (⟨(aI q.data.toList).toArray⟩:ByteArray).data.toList=G at*;go_wp2;go_ret;exact⟨aB N.out,a⟩
structure An where
 err:Int
 num:Int
 pg:Pg
def bX (w:World) (v:Value) (a:An):Prop:= ∃vt vc,v= .agg #[.int .i64 a.err,.int .i64 a.num,.bool a.pg.reset,vt,vc,.int .i64 a.pg.cur,.bool a.pg.more]∧aF w vt a.pg.tree∧b8 w vc a.pg.cos
theorem bX.below {w w':World} {v:Value} {a:An} (h:bX w v a) (c:Below w.heap.size w w'):bX w' v a:=by
 obtain⟨i,g,e,d,f⟩:=h
 exact⟨i,g,e,d.below c,f.below c⟩
end Go.Proofs.YtdlpjlfefjipkaaGreat
