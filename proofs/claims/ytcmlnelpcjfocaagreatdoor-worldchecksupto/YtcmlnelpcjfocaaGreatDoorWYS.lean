/- Pages as plain mathematics, and in memory; what Read and Follow answer. -/
import Derived.Test.YtcmlnelpcjfocaaGreatDoorWYN
import Derived.Test.YtcmlnelpcjfocaaGreatDoorWYQ
set_option linter.unusedSimpArgs false
set_option linter.unusedVariables false
namespace Go.Proofs.YtcmlnelpcjfocaaGreatDoor
open Go.RowKit Go.Proofs.Tryz
set_option maxHeartbeats 2000000
set_option maxRecDepth 100000
def nE (B:Nat) (w:World) (v:Value) (P:Pg):Prop:= ∃vt vc,v= .agg #[.bool P.reset,vt,vc,.int .i64 P.cur,.bool P.more]∧an w vt P.tree∧aI B w vt∧dT B w vc P.cos
theorem nE.lies {B:Nat} {w:World} {v:Value} {P:Pg} (h:nE B w v P):oI w v P:=by
 obtain⟨A,z,d,f,_,y⟩:=h
 exact⟨A,z,d,f,y.lies⟩
theorem nE.below {B:Nat} {w w':World} {v:Value} {P:Pg} (h:nE B w v P) (d:Below w.heap.size w w'):nE B w' v P:=by
 obtain⟨F,E,f,y,z,A⟩:=h
 exact⟨F,E,f,y.below d,z.below d,A.below d⟩
def wN (J:Jo) (c m:Int):Int:=if¬bq J=0 then bq J else if m<1∨10<m∨c<0 then 3 else if Jn.last J<c then 5 else 0
def Jn.behind (J:Jo) (c:Int):List Co:=J.cos.drop (c-(J.first-1)).toNat
theorem Jn.rd_none {J:Jo} {c m:Int} (h:bq J=0) (d: ¬(m<1∨10<m∨c<0)) (f:Jn.last J<c):wN J c m=5:=by rw[wN,if_neg (fun x=>x h),if_neg d,if_pos f]
theorem CR {A B:List (List UInt8)} (h:A.length<B.length):false=B.isPrefixOf A:=by
 symm
 cases e:B.isPrefixOf A with
 |false=>rfl
 |true=>have:=(List.isPrefixOf_iff_prefix.1 e).length_le;omega
theorem CS {A B:List (List UInt8)} {k:Nat} (y:k<A.length) (d:k<B.length) (h: ¬A[k]=B[k]):false=B.isPrefixOf A:=by
 symm
 cases e:B.isPrefixOf A with
 |false=>rfl
 |true=>
  obtain⟨t,f⟩:=List.isPrefixOf_iff_prefix.1 e
  subst f;exact absurd (by simp[List.getElem_append_left d]) h
theorem CT {A B:List (List UInt8)} (h:A.take B.length=B):true=B.isPrefixOf A:=by
 symm
 rw[List.isPrefixOf_iff_prefix];have:=List.take_prefix B.length A
 rwa [h]at this
theorem fX (s t:ByteArray) (w:World) (hs:s.size≤1000000000) (ht:t.size≤1000000000):
    Calls prog 163 #[.string s,.string t] w fun e w'=>e= .returned (.bool (aU s.data.toList t.data.toList))∧Below w.heap.size w w':=by
 have I0:(aj s.data.toList).length≤s.size+1:=by have:=jP s.data.toList;rwa [←Lib.size_eq]at this
 have I5:(aj t.data.toList).length≤t.size+1:=by have:=jP t.data.toList;rwa [←Lib.size_eq]at this
 obtain⟨A,O⟩: ∃L,L=aj s.data.toList:=⟨_,rfl⟩
 obtain⟨B,P⟩: ∃L,L=aj t.data.toList:=⟨_,rfl⟩
 have HA:Hid (A=aj s.data.toList):=O;have HB:Hid (B=aj t.data.toList):=P;have T:=hid (show aU s.data.toList t.data.toList=B.isPrefixOf A from by rw[aU,O,P]);rw[←O]at I0;rw[←P]at I5;clear O P;go_enter func163,ntmps163
 go_wp2_with fail;refine(gO s _ hs).mono ?_
 rintro e w1 ⟨H,c1,rfl,X,I6,Iv,K,d,I⟩;rw[←HA.out]at X d⊢;go_wp2_with fail;refine(gO t _ ht).mono ?_
 rintro e G ⟨V,c2,rfl,Y,I7,Iw,M,f,E⟩;rw[←HB.out]at Y f⊢;have Q:=hid (show∀i (h:i<A.length),G.cell? ⟨H,i,none⟩=some (.string ⟨(A[i]).toArray⟩)from fun i h=>(E.cell (p:=⟨H,i,none⟩) K).trans (d i h));have S:Hid (∀i (h:i<B.length),G.cell? ⟨V,i,none⟩=some (.string ⟨(B[i]).toArray⟩)):=f;have hb:Below w.heap.size w G:=bn I E;clear d f I E;by_cases N:A.length<B.length
 · have Z:(A.length:Int)<B.length:=by omega
   go_wp2;go_ret;exact⟨bt (by rw[T.out];exact CR N),hb⟩
 · have Z:(B.length:Int)≤A.length:=by omega
   go_wp2_with fail;go_loopw [7] (fun i wr=> ∃k:Nat,k≤B.length∧i= .int .i64 k∧Hid (A.take k=B.take k)∧Below G.heap.size G wr) (fun i _=>B.length-(intOf i).toNat)
   case atStart=>exact⟨0,Nat.zero_le _,rfl,rfl,Below.refl _ _⟩
   case round=>
    obtain⟨k,hk,rfl,HE,y⟩:=hrel
    by_cases F:k<B.length
    · have z:k<A.length:=by omega
      have I8:wr.cell? ⟨H,k,none⟩=some (.string ⟨(A[k]).toArray⟩):=(y.cell (p:=⟨H,k,none⟩) (show H<G.heap.size by omega)).trans (Q.out k z);have I9:wr.cell? ⟨V,k,none⟩=some (.string ⟨(B[k]).toArray⟩):=(y.cell (p:=⟨V,k,none⟩) M).trans (S.out k F);cases J:(A[k]==B[k])with
      |true=>
       have U:=hid (show A[k]=B[k]from by simpa using J);go_wp2_with fail;go_region
       go_wp2;go_roundw
       case rel=>exact⟨k+1,by omega,by simp,(by rw[List.take_succ_eq_append_getElem z,List.take_succ_eq_append_getElem F,HE.out,U.out]:A.take (k+1)=B.take (k+1)),y.drew⟩
       case measure=>simp[intOf];omega
      |false=>
       have U:=hid (show¬A[k]=B[k]from by simpa using J);go_wp2_with fail;go_region
       go_wp2;go_ret;exact⟨bt (by rw[T.out];exact CS z F U.out),(bn hb y).drew⟩
    · go_wp2_with fail
      go_ret;exact⟨bt (by rw[T.out];obtain rfl:k=B.length:=(by omega);exact CT (by have:=HE.out;rwa [List.take_length]at this)),bn hb y⟩
theorem CU {L:List En} {k:Int} {p q t:ByteArray} {b:Int} (K:1≤k∧k≤4) (h: ¬bP L ⟨k,p,q,t,b⟩=0):
    (¬aP L (aC (Pp.goal ⟨k,p,q,t,b⟩))=0∧bP L ⟨k,p,q,t,b⟩=aP L (aC (Pp.goal ⟨k,p,q,t,b⟩)))∨
    (aP L (aC (Pp.goal ⟨k,p,q,t,b⟩))=0∧(
     (k=1∧(∃j,∃h:j<L.length,db L p.data.toList=(j:Int))∧6=bP L ⟨k,p,q,t,b⟩)∨
     (k=2∧(∃j,∃h:j<L.length,db L p.data.toList=(j:Int)∧(L[j]).folder=true)∧4=bP L ⟨k,p,q,t,b⟩)∨
     ((k=3∨k=4)∧db L p.data.toList= -1∧5=bP L ⟨k,p,q,t,b⟩)∨
     (k=3∧(∃j,∃h:j<L.length,db L p.data.toList=(j:Int))∧aU q.data.toList p.data.toList=true∧3=bP L ⟨k,p,q,t,b⟩)∨
     (k=3∧(∃j,∃h:j<L.length,db L p.data.toList=(j:Int))∧aU q.data.toList p.data.toList=false∧(∃j,∃h:j<L.length,db L q.data.toList=(j:Int))∧6=bP L ⟨k,p,q,t,b⟩))):=by
 by_cases E:aP L (aC (Pp.goal ⟨k,p,q,t,b⟩))=0
 · refine Or.inr ⟨E,?_⟩
   have ae:bP L ⟨k,p,q,t,b⟩=match L.find? (aO p.data.toList)with
    |none=>if k=3∨k=4 then 5 else 0
    |some x=>if k=1 then 6 else if k=2 then(if x.folder=true then 4 else 0)
     else if k=3 then(if aU q.data.toList p.data.toList=true then 3 else if(L.find? (aO q.data.toList)).isSome=true then 6 else 0)else 0:=by
    rw[bP,if_neg (fun x=>x E)];rfl
   rcases np L p.data.toList with⟨z,H⟩|⟨j,F,z,H⟩
   · rw[H]at ae
     have d:k=3∨k=4:=by
      by_cases d:k=3∨k=4
      · exact d
      · rw[ae]at h;simp[d]at h
     exact Or.inr (Or.inr (Or.inl ⟨d,z,by rw[ae];simp only[if_pos d]⟩))
   · rw[H]at ae
     have I:k=1∨k=2∨k=3∨k=4:=by omega
     rcases I with rfl|rfl|rfl|rfl
     · exact Or.inl ⟨rfl,⟨j,F,z⟩,by rw[ae];rfl⟩
     · cases y:(L[j]).folder with
       |true=>exact Or.inr (Or.inl ⟨rfl,⟨j,F,z,y⟩,by rw[ae];simp[y]⟩)
       |false=>rw[ae]at h;simp[y]at h
     · cases y:aU q.data.toList p.data.toList with
       |true=>exact Or.inr (Or.inr (Or.inr (Or.inl ⟨rfl,⟨j,F,z⟩,rfl,by rw[ae];simp[y]⟩)))
       |false=>
        rcases np L q.data.toList with⟨A,f⟩|⟨J,G,A,f⟩
        · rw[ae]at h;simp[y,f]at h
        · exact Or.inr (Or.inr (Or.inr (Or.inr ⟨rfl,⟨j,F,z⟩,rfl,⟨J,G,A⟩,by rw[ae];simp[y,f]⟩)))
     · rw[ae]at h;simp at h
 · exact Or.inl ⟨E,by rw[bP,if_pos E]⟩
theorem CV {L:List En} {k:Int} {p q t:ByteArray} {b:Int} (I:1≤k∧k≤4) (h:bP L ⟨k,p,q,t,b⟩=0):
    aP L (aC (Pp.goal ⟨k,p,q,t,b⟩))=0∧(
     (k=1∧db L p.data.toList= -1)∨(k=2∧db L p.data.toList= -1)∨
     (k=2∧ ∃j,∃h:j<L.length,db L p.data.toList=(j:Int)∧(L[j]).folder=false)∨
     (k=3∧(∃j,∃h:j<L.length,db L p.data.toList=(j:Int))∧aU q.data.toList p.data.toList=false∧db L q.data.toList= -1∧L.find? (aO q.data.toList)=none)∨
     (k=4∧ ∃j,∃h:j<L.length,db L p.data.toList=(j:Int))):=by
 have G:=ob h;refine⟨G,?_⟩
 have ae:bP L ⟨k,p,q,t,b⟩=match L.find? (aO p.data.toList)with
  |none=>if k=3∨k=4 then 5 else 0
  |some x=>if k=1 then 6 else if k=2 then(if x.folder=true then 4 else 0)
   else if k=3 then(if aU q.data.toList p.data.toList=true then 3 else if(L.find? (aO q.data.toList)).isSome=true then 6 else 0)else 0:=by
  rw[bP,if_neg (fun x=>x G)];rfl
 rw[ae]at h;have F:k=1∨k=2∨k=3∨k=4:=by omega
 rcases np L p.data.toList with⟨f,E⟩|⟨j,A,f,E⟩
 · rw[E]at h
   rcases F with rfl|rfl|rfl|rfl
   · exact Or.inl ⟨rfl,f⟩
   · exact Or.inr (Or.inl ⟨rfl,f⟩)
   · simp at h
   · simp at h
 · rw[E]at h
   rcases F with rfl|rfl|rfl|rfl
   · simp at h
   · cases z:(L[j]).folder with
     |true=>simp[z]at h
     |false=>exact Or.inr (Or.inr (Or.inl ⟨rfl,j,A,f,z⟩))
   · cases z:aU q.data.toList p.data.toList with
     |true=>simp[z]at h
     |false=>
      rcases np L q.data.toList with⟨y,d⟩|⟨J,H,y,d⟩
      · exact Or.inr (Or.inr (Or.inr (Or.inl ⟨rfl,⟨j,A,f⟩,rfl,y,d⟩)))
      · simp[z,d]at h
   · exact Or.inr (Or.inr (Or.inr (Or.inr ⟨rfl,j,A,f⟩)))
theorem CW (L:List En) (v:Value) (k:Int) (p q t:ByteArray) (b n:Int) (w:World) (A:p.size≤1000000000) (E:q.size≤1000000000) (K:t.size≤1000000000) (y: ¬aQ ⟨k,p,q,t,b⟩=0):
    Calls prog 129 #[v,.agg #[.int .i64 k,.string p,.string q,.string t,.int .i64 b],.int .i64 n] w fun e w'=>e= .returned (.tuple #[.slice none 0 0,.int .i64 (aQ ⟨k,p,q,t,b⟩)])∧Below w.heap.size w w':=by
 have M:(aQ ⟨k,p,q,t,b⟩==0)=false:=by simpa using y
 go_enter func129,ntmps129
 go_wp2_with fail;refine(gP k p q t b _ A E (by omega)).mono ?_
 rintro e N ⟨rfl,d⟩;obtain⟨F,G,H,I,J,f,z⟩:=aw d
 clear d;go_wp2_with fail;go_ret2;exact⟨rfl,f⟩
theorem CX (L:List En) (v:Value) (k:Int) (p q t:ByteArray) (b n:Int) (w:World) (hv:an w v L) (T:p.size≤1000000000) (U:q.size≤1000000000) (ht:t.size≤1000000000) (hc:aQ ⟨k,p,q,t,b⟩=0) (I0: ¬bP L ⟨k,p,q,t,b⟩=0):
    Calls prog 129 #[v,.agg #[.int .i64 k,.string p,.string q,.string t,.int .i64 b],.int .i64 n] w fun e w'=>e= .returned (.tuple #[.slice none 0 0,.int .i64 (bP L ⟨k,p,q,t,b⟩)])∧Below w.heap.size w w':=by
 have S:=hid hv;have Y:=hid hc;have hk:1≤k∧k≤4:=jT hc;rcases CU hk I0 with⟨h0,ae⟩|⟨h0,hr⟩
 · rw[ae]
   have hz:(aP L (aC (Pp.goal ⟨k,p,q,t,b⟩))==0)=false:=by simpa using h0
   clear ae h0 I0 hc hv;by_cases h3:k=3
   · subst h3
     have hg:Pp.goal ⟨3,p,q,t,b⟩=q.data.toList:=rfl;rw[hg]at hz⊢;clear hg hk;go_enter func129,ntmps129
     go_wp2_with fail;refine(gP 3 p q t b _ T U (by omega)).mono ?_
     rintro e w1 ⟨rfl,A⟩;rw[Y.out];obtain⟨F,G,H,I,J,d,y⟩:=aw A
     go_wp2_with fail;refine(gB q _ U).mono ?_
     rintro e w2 ⟨rfl,K⟩;have f:=d.trans (K.mono (Nat.le_of_lt y));clear F G H I J d y A K;go_wp2_with fail;refine(gD L v ⟨(aC q.data.toList).toArray⟩ _ (S.out.below f)).mono ?_
     rintro e w3 ⟨rfl,M⟩;rw[show aP L _=aP L (aC q.data.toList)from rfl];have z:=f.trans (M.mono f.size);clear f M;go_wp2;go_ret2;exact⟨rfl,z⟩
   · have hg:Pp.goal ⟨k,p,q,t,b⟩=p.data.toList:=if_neg h3
     have Ix:(k==3)=false:=by simpa using h3
     rw[hg]at hz⊢;clear hg hk;go_enter func129,ntmps129
     go_wp2_with fail;refine(gP k p q t b _ T U (by omega)).mono ?_
     rintro e w1 ⟨rfl,A⟩;rw[Y.out];obtain⟨F,G,H,I,J,d,y⟩:=aw A
     go_wp2_with fail;refine(gB p _ T).mono ?_
     rintro e w2 ⟨rfl,K⟩;have f:=d.trans (K.mono (Nat.le_of_lt y));clear F G H I J d y A K;go_wp2_with fail;refine(gD L v ⟨(aC p.data.toList).toArray⟩ _ (S.out.below f)).mono ?_
     rintro e w3 ⟨rfl,M⟩;rw[show aP L _=aP L (aC p.data.toList)from rfl];have z:=f.trans (M.mono f.size);clear f M;go_wp2;go_ret2;exact⟨rfl,z⟩
 · have H0:Hid (aP L (aC (Pp.goal ⟨k,p,q,t,b⟩))=0):=h0
   clear I0 hc h0;rcases hr with⟨rfl,⟨j,hj,Q⟩,ae⟩|⟨rfl,⟨j,hj,Q,hx⟩,ae⟩|⟨rfl|rfl,Q,ae⟩|⟨rfl,⟨j,hj,Q⟩,hx,ae⟩|⟨rfl,⟨j,hj,Q⟩,hx,⟨j2,Iy,I6⟩,ae⟩
   · have O:Hid (aP L (aC p.data.toList)=0):=H0.out
     have V:=hid Q;rw[←ae];clear ae Q hv;go_enter func129,ntmps129
     go_wp2_with fail;refine(gP _ p q t b _ T U (by omega)).mono ?_
     rintro e w1 ⟨rfl,A⟩;rw[Y.out];obtain⟨F,G,H,I,J,d,y⟩:=aw A
     go_wp2_with fail;refine(gB p _ T).mono ?_
     rintro e w2 ⟨rfl,K⟩;have f:=A.trans (K.mono A.size);clear F G H I J d y A K;obtain⟨F,G,H,I,J,d,y⟩:=aw f
     go_wp2_with fail;refine(gD L v ⟨(aC p.data.toList).toArray⟩ _ (S.out.below d)).mono ?_
     rintro e w3 ⟨rfl,M⟩;rw[show aP L _=0 from O.out];have z:=f.trans (M.mono f.size);clear F G H I J d y f M;obtain⟨F,G,H,I,J,d,y⟩:=aw z
     go_wp2_with fail;refine(fR L v p _ (S.out.below d)).mono ?_
     rintro e w4 ⟨rfl,N⟩;rw[V.out];have E:=z.trans (N.mono z.size);clear F G H I J d y z N;obtain⟨F,G,H,I,J,d,y⟩:=aw E
     clear E;go_wp2;go_ret2;exact⟨rfl,d⟩
   · have O:Hid (aP L (aC p.data.toList)=0):=H0.out
     have V:=hid Q;rw[←ae];clear ae Q;obtain⟨a,Iw,rfl,Iv,I9,hL⟩:=hv
     obtain⟨b',o',rfl,I8,he⟩:=hL j hj
     have Iz:(j:Int)<L.length:=by omega
     clear hL;go_enter func129,ntmps129
     go_wp2_with fail;refine(gP _ p q t b _ T U (by omega)).mono ?_
     rintro e w1 ⟨rfl,A⟩;rw[Y.out];obtain⟨F,G,H,I,J,d,y⟩:=aw A
     go_wp2_with fail;refine(gB p _ T).mono ?_
     rintro e w2 ⟨rfl,K⟩;have f:=A.trans (K.mono A.size);clear F G H I J d y A K;obtain⟨F,G,H,I,J,d,y⟩:=aw f
     go_wp2_with fail;refine(gD L _ ⟨(aC p.data.toList).toArray⟩ _ (S.out.below d)).mono ?_
     rintro e w3 ⟨rfl,M⟩;rw[show aP L _=0 from O.out];have z:=f.trans (M.mono f.size);clear F G H I J d y f M;obtain⟨F,G,H,I,J,d,y⟩:=aw z
     go_wp2_with fail;refine(fR L _ p _ (S.out.below d)).mono ?_
     rintro e w4 ⟨rfl,N⟩;rw[V.out];have E:=z.trans (N.mono z.size);clear F G H I J d y z N;obtain⟨F,G,H,I,J,d,y⟩:=aw E
     obtain⟨d0,d1,d2,d3⟩:=he.below I8 d
     rw[hx]at d1;clear E hx d0 d2 d3;go_wp2;go_ret2;exact⟨rfl,d⟩
   · have O:Hid (aP L (aC q.data.toList)=0):=H0.out
     have V:=hid Q;rw[←ae];clear ae Q hv;go_enter func129,ntmps129
     go_wp2_with fail;refine(gP _ p q t b _ T U (by omega)).mono ?_
     rintro e w1 ⟨rfl,A⟩;rw[Y.out];obtain⟨F,G,H,I,J,d,y⟩:=aw A
     go_wp2_with fail;refine(gB q _ U).mono ?_
     rintro e w2 ⟨rfl,K⟩;have f:=A.trans (K.mono A.size);clear F G H I J d y A K;obtain⟨F,G,H,I,J,d,y⟩:=aw f
     go_wp2_with fail;refine(gD L v ⟨(aC q.data.toList).toArray⟩ _ (S.out.below d)).mono ?_
     rintro e w3 ⟨rfl,M⟩;rw[show aP L _=0 from O.out];have z:=f.trans (M.mono f.size);clear F G H I J d y f M;obtain⟨F,G,H,I,J,d,y⟩:=aw z
     go_wp2_with fail;refine(fR L v p _ (S.out.below d)).mono ?_
     rintro e w4 ⟨rfl,N⟩;rw[V.out];have E:=z.trans (N.mono z.size);clear F G H I J d y z N;obtain⟨F,G,H,I,J,d,y⟩:=aw E
     clear E;go_wp2;go_ret2;exact⟨rfl,d⟩
   · have O:Hid (aP L (aC p.data.toList)=0):=H0.out
     have V:=hid Q;rw[←ae];clear ae Q hv;go_enter func129,ntmps129
     go_wp2_with fail;refine(gP _ p q t b _ T U (by omega)).mono ?_
     rintro e w1 ⟨rfl,A⟩;rw[Y.out];obtain⟨F,G,H,I,J,d,y⟩:=aw A
     go_wp2_with fail;refine(gB p _ T).mono ?_
     rintro e w2 ⟨rfl,K⟩;have f:=A.trans (K.mono A.size);clear F G H I J d y A K;obtain⟨F,G,H,I,J,d,y⟩:=aw f
     go_wp2_with fail;refine(gD L v ⟨(aC p.data.toList).toArray⟩ _ (S.out.below d)).mono ?_
     rintro e w3 ⟨rfl,M⟩;rw[show aP L _=0 from O.out];have z:=f.trans (M.mono f.size);clear F G H I J d y f M;obtain⟨F,G,H,I,J,d,y⟩:=aw z
     go_wp2_with fail;refine(fR L v p _ (S.out.below d)).mono ?_
     rintro e w4 ⟨rfl,N⟩;rw[V.out];have E:=z.trans (N.mono z.size);clear F G H I J d y z N;obtain⟨F,G,H,I,J,d,y⟩:=aw E
     clear E;go_wp2;go_ret2;exact⟨rfl,d⟩
   · have O:Hid (aP L (aC q.data.toList)=0):=H0.out
     have V:=hid Q;have HX:=hid hx;rw[←ae];clear ae Q hv hx;go_enter func129,ntmps129
     go_wp2_with fail;refine(gP _ p q t b _ T U (by omega)).mono ?_
     rintro e w1 ⟨rfl,A⟩;rw[Y.out];obtain⟨F,G,H,I,J,d,y⟩:=aw A
     go_wp2_with fail;refine(gB q _ U).mono ?_
     rintro e w2 ⟨rfl,K⟩;have f:=A.trans (K.mono A.size);clear F G H I J d y A K;obtain⟨F,G,H,I,J,d,y⟩:=aw f
     go_wp2_with fail;refine(gD L v ⟨(aC q.data.toList).toArray⟩ _ (S.out.below d)).mono ?_
     rintro e w3 ⟨rfl,M⟩;rw[show aP L _=0 from O.out];have z:=f.trans (M.mono f.size);clear F G H I J d y f M;obtain⟨F,G,H,I,J,d,y⟩:=aw z
     go_wp2_with fail;refine(fR L v p _ (S.out.below d)).mono ?_
     rintro e w4 ⟨rfl,N⟩;rw[V.out];have E:=z.trans (N.mono z.size);clear F G H I J d y z N;obtain⟨F,G,H,I,J,d,y⟩:=aw E
     go_wp2_with fail;refine(fX q p _ U T).mono ?_
     rintro e w5 ⟨rfl,X⟩;rw[HX.out];have P:=E.trans (X.mono E.size);clear F G H I J d y E X;obtain⟨F,G,H,I,J,d,y⟩:=aw P
     clear P;go_wp2;go_ret2;exact⟨rfl,d⟩
   · have O:Hid (aP L (aC q.data.toList)=0):=H0.out
     have V:=hid Q;have I7:=hid I6;have HX:=hid hx;rw[←ae];clear ae Q hv hx I6;go_enter func129,ntmps129
     go_wp2_with fail;refine(gP _ p q t b _ T U (by omega)).mono ?_
     rintro e w1 ⟨rfl,A⟩;rw[Y.out];obtain⟨F,G,H,I,J,d,y⟩:=aw A
     go_wp2_with fail;refine(gB q _ U).mono ?_
     rintro e w2 ⟨rfl,K⟩;have f:=A.trans (K.mono A.size);clear F G H I J d y A K;obtain⟨F,G,H,I,J,d,y⟩:=aw f
     go_wp2_with fail;refine(gD L v ⟨(aC q.data.toList).toArray⟩ _ (S.out.below d)).mono ?_
     rintro e w3 ⟨rfl,M⟩;rw[show aP L _=0 from O.out];have z:=f.trans (M.mono f.size);clear F G H I J d y f M;obtain⟨F,G,H,I,J,d,y⟩:=aw z
     go_wp2_with fail;refine(fR L v p _ (S.out.below d)).mono ?_
     rintro e w4 ⟨rfl,N⟩;rw[V.out];have E:=z.trans (N.mono z.size);clear F G H I J d y z N;obtain⟨F,G,H,I,J,d,y⟩:=aw E
     go_wp2_with fail;refine(fX q p _ U T).mono ?_
     rintro e w5 ⟨rfl,X⟩;rw[HX.out];have P:=E.trans (X.mono E.size);clear F G H I J d y E X;obtain⟨F,G,H,I,J,d,y⟩:=aw P
     go_wp2_with fail;refine(fR L v q _ (S.out.below d)).mono ?_
     rintro e w6 ⟨rfl,I5⟩;rw[I7.out];have Z:=P.trans (I5.mono P.size);clear F G H I J d y P I5;obtain⟨F,G,H,I,J,d,y⟩:=aw Z
     clear Z;go_wp2;go_ret2;exact⟨rfl,d⟩
theorem CY {u:Nat} (h:u<10):Lib.decDigits u=[UInt8.ofNat (48+u)]:=by rw[Lib.decDigits,dif_pos h]
theorem CZ {u:Nat} (h: ¬u<10):Lib.decDigits u=Lib.decDigits (u/10)++[UInt8.ofNat (48+u % 10)]:=by rw[Lib.decDigits,dif_neg h]
def Pp.dg (u:Nat):UInt8:=UInt8.ofNat (48+u % 10)
theorem C3 (u:Nat):(Pp.dg u).toNat=48+u % 10:=by
 rw[Pp.dg,UInt8.toNat_ofNat'];omega
theorem C4 {u:Nat} (h:u<10):Lib.decDigits u=[Pp.dg u]:=by rw[CY h,Pp.dg,Nat.mod_eq_of_lt h]
theorem C5 {u:Nat} (h: ¬u<10):Lib.decDigits u=Lib.decDigits (u/10)++[Pp.dg u]:=CZ h
theorem C6 (u:Nat) (w:World) (d:TypeId):
    (convert 186 9 (.slice (some ⟨w.heap.size,0,none⟩) 1 1)).run prog (w.alloc (.cells #[.int .u8 (48+(u:Int) % 10)] d))= .ok (.string ⟨#[Pp.dg u]⟩) (w.alloc (.cells #[.int .u8 (48+(u:Int) % 10)] d)):=by
 refine run_convert_bytes_back (P:=prog) (w.alloc (.cells #[.int .u8 (48+(u:Int) % 10)] d)) 186 9 5 ⟨w.heap.size,0,none⟩ 1 [Pp.dg u] underlying186 underlying5 underlying9 ?_
 intro j f;match j,f with
 |0,_=>
  have e:((Pp.dg u).toNat:Int)=48+(u:Int) % 10:=by rw[C3];omega
  simp only[List.getElem_cons_zero];rw[e];simp[Addr.add]
end Go.Proofs.YtcmlnelpcjfocaaGreatDoor
