/- What tree.checkTo and checkPlace answer, for every change that is right by itself. -/
import Derived.Test.YtcmlnelpcjfocaaGreatDoorWYH
import Derived.Test.YtcmlnelpcjfocaaGreatDoorWYE
set_option linter.unusedSimpArgs false
set_option linter.unusedVariables false
namespace Go.Proofs.YtcmlnelpcjfocaaGreatDoor
open Go.RowKit Go.Proofs.Tryz
set_option maxHeartbeats 2000000
set_option maxRecDepth 100000
def jv (L:List En) (p q:List UInt8):Int:=if aU q p=true then 3 else if(L.find? (aO q)).isSome=true then 6 else 0
theorem BF (L:List En) (v:Value) (k:Int) (p q t:ByteArray) (b:Int) (w:World) (hv:an w v L) (Z: ∀e∈L,e.path.size≤1000000000000000) (X:p.size≤1000000000000000) (Y:q.size≤1000000000000000) (U:az p.data.toList=0) (V:az q.data.toList=0):
    Calls prog 275 #[v,.agg #[.int .i64 k,.string p,.string q,.string t,.int .i64 b]] w fun e w'=>e= .returned (.int .i64 (jv L p.data.toList q.data.toList))∧Below w.heap.size w w':=by
 have HV:Hid (an w v L):=hv;have HS:Hid (∀e∈L,e.path.size≤1000000000000000):=Z;have A:(cd [q.data.toList,p.data.toList]==0)=true:=by simp[cd,U,V]
 clear hv Z U V;cases G:aU q.data.toList p.data.toList with
 |true=>
  have S:=hid (show(cd [q.data.toList,p.data.toList]==0 && aU q.data.toList p.data.toList)=true from by rw[A,G];rfl);have Q:=hid (show 3=jv L p.data.toList q.data.toList from by rw[jv,if_pos G]);clear G A;go_enter func275,ntmps275
  go_wp2_with fail;refine(qm q p _ Y X).mono ?_
  rintro e w1 ⟨rfl,f⟩;rw[S.out];obtain⟨H,I,J,K,M,d,z⟩:=aw f
  clear f;go_wp2_with fail;go_ret;exact⟨aD Q.out,d⟩
 |false=>
  have S:=hid (show(cd [q.data.toList,p.data.toList]==0 && aU q.data.toList p.data.toList)=false from by rw[A,G];rfl);have ae:jv L p.data.toList q.data.toList=if(L.find? (aO q.data.toList)).isSome=true then 6 else 0:=by rw[jv,if_neg (by rw[G];decide)]
  clear G A
  have T:(L.find? (aO q.data.toList)=none∧Hid (0=jv L p.data.toList q.data.toList))∨ ∃x,L.find? (aO q.data.toList)=some x∧Hid (6=jv L p.data.toList q.data.toList):=by
   cases F:L.find? (aO q.data.toList)with
   |none=>exact Or.inl ⟨rfl,(by rw[ae,F];rfl:0=jv L p.data.toList q.data.toList)⟩
   |some x=>exact Or.inr ⟨x,rfl,(by rw[ae,F];rfl:6=jv L p.data.toList q.data.toList)⟩
  clear ae;rcases T with⟨F,Q⟩|⟨x,F,Q⟩
  all_goals
   have HF:=hid F;clear F;go_enter func275,ntmps275
   go_wp2_with fail;refine(qm q p _ Y X).mono ?_
   rintro e w1 ⟨rfl,f⟩;rw[S.out];obtain⟨H,I,J,K,M,d,z⟩:=aw f
   go_wp2_with fail;refine(jW q _).mono ?_
   rintro e w2 ⟨rfl,P,N⟩;have HT:Hid (dk w2 263 #[.pointer (some ⟨w1.heap.size,0,none⟩)] (aO q.data.toList)):=P;have y:=f.trans (N.mono f.size);clear P H I J K M d z f N;obtain⟨H,I,J,K,M,d,z⟩:=aw y
   go_wp2_with fail;refine(jt L v _ _ _ _ (HV.out.below d) HT.out HS.out).mono ?_
   rintro e w4 ⟨rfl,O⟩;rw[HF.out,iK];have E:=y.trans (O.mono y.size);clear H I J K M d z y O;obtain⟨H,I,J,K,M,d,z⟩:=aw E
   clear E;go_wp2_with fail;go_ret;exact⟨aD Q.out,d.alloc (Nat.le_of_lt z) _⟩
theorem vy {L:List En} {c:ay} (h: ¬aP L (aC (Pp.goal c))=0):aP L (aC (Pp.goal c))=bP L c:=by rw[bP,if_pos h]
theorem vz {L:List En} {c:ay} (h:aP L (aC (Pp.goal c))=0) (d:L.find? (aO c.p.data.toList)=none):bP L c=if c.k=3∨c.k=4 then 5 else 0:=by rw[bP,if_neg (fun x=>x h),d]
theorem vA {L:List En} {c:ay} (h:aP L (aC (Pp.goal c))=0) {x:En} (d:L.find? (aO c.p.data.toList)=some x):bP L c=if c.k=1 then 6 else if c.k=2 then(if x.folder=true then 4 else 0)else if c.k=3 then jv L c.p.data.toList c.q.data.toList else 0:=by
 rw[bP,if_neg (fun x=>x h),d];rfl
theorem qV (L:List En) (v:Value) (k:Int) (p q t:ByteArray) (b:Int) (w:World) (hv:an w v L) (hs: ∀e∈L,e.path.size≤1000000000000000) (hp:p.size≤1000000000000000) (hq:q.size≤1000000000000000) (hg:aQ ⟨k,p,q,t,b⟩=0):
    Calls prog 229 #[v,.agg #[.int .i64 k,.string p,.string q,.string t,.int .i64 b]] w fun e w'=>e= .returned (.int .i64 (bP L ⟨k,p,q,t,b⟩))∧Below w.heap.size w w':=by
 have I8:=jT hg;have HC:Hid (az p.data.toList=0):=iJ hg;have Z:Hid (an w v L):=hv;have Y:Hid (∀e∈L,e.path.size≤1000000000000000):=hs;have h4:(k=1∨k=2∨k=4)∨k=3:=by simp only at I8;omega
 clear hv hs I8;rcases h4 with h4|rfl
 · have Q:Pp.goal ⟨k,p,q,t,b⟩=p.data.toList:=by rw[Pp.goal,if_neg (by simp only;omega)]
   clear hg;by_cases M:aP L (aC p.data.toList)=0
   · have HP:Hid (aP L (aC p.data.toList)=0):=M
     rw[←Q]at M
     have I0:(L.find? (aO p.data.toList)=none)∨ ∃x,L.find? (aO p.data.toList)=some x:=by
      cases L.find? (aO p.data.toList)with
      |none=>exact Or.inl rfl
      |some x=>exact Or.inr ⟨x,rfl⟩
     rcases I0 with V|⟨x,V⟩
     · have ae:=vz (c:=⟨k,p,q,t,b⟩) M V
       have HF:=hid V;clear V M Q;rcases h4 with rfl|rfl|rfl
       all_goals
        simp only[Int.reduceEq,or_self,or_true,or_false,if_true,if_false]at ae;have X:=hid ae;clear ae;go_enter func229,ntmps229
        go_wp2_with fail;refine(iG p _ hp).mono ?_
        rintro e w1 ⟨rfl,A⟩;rw[HC.out,gu rfl];obtain⟨F,H,I,J,K,d,f⟩:=aw A
        go_wp2_with fail;refine(lq L v ⟨(aC p.data.toList).toArray⟩ _ (Z.out.below d) Y.out).mono ?_
        rintro e w2 ⟨rfl,O⟩;rw[show aP L _=0 from HP.out];have y:=A.trans (O.mono A.size);clear F H I J K d f A O;obtain⟨F,H,I,J,K,d,f⟩:=aw y
        go_wp2_with fail;refine(jW p _).mono ?_
        rintro e w3 ⟨rfl,U,S⟩;have HT:Hid (dk w3 263 #[.pointer (some ⟨w2.heap.size,0,none⟩)] (aO p.data.toList)):=U;have z:=y.trans (S.mono y.size);clear U F H I J K d f y S;obtain⟨F,H,I,J,K,d,f⟩:=aw z
        go_wp2_with fail;refine(jt L v _ _ _ _ (Z.out.below d) HT.out Y.out).mono ?_
        rintro e w4 ⟨rfl,T⟩;rw[HF.out,iK];have N:=z.trans (T.mono z.size);clear F H I J K d f z T;obtain⟨F,H,I,J,K,d,f⟩:=aw N
        clear N;go_wp2_with fail;go_ret;exact⟨aD X.out.symm,d.alloc (Nat.le_of_lt f) _⟩
     · have ae:=vA (c:=⟨k,p,q,t,b⟩) M V
       have HF:=hid V;clear V M Q;rcases h4 with rfl|rfl|rfl
       all_goals
        cases hx:x.folder
       all_goals
        simp only[Int.reduceEq,hx,or_self,or_true,or_false,if_true,if_false,Bool.false_eq_true]at ae;have X:=hid ae;clear ae;go_enter func229,ntmps229
        go_wp2_with fail;refine(iG p _ hp).mono ?_
        rintro e w1 ⟨rfl,A⟩;rw[HC.out,gu rfl];obtain⟨F,H,I,J,K,d,f⟩:=aw A
        go_wp2_with fail;refine(lq L v ⟨(aC p.data.toList).toArray⟩ _ (Z.out.below d) Y.out).mono ?_
        rintro e w2 ⟨rfl,O⟩;rw[show aP L _=0 from HP.out];have y:=A.trans (O.mono A.size);clear F H I J K d f A O;obtain⟨F,H,I,J,K,d,f⟩:=aw y
        go_wp2_with fail;refine(jW p _).mono ?_
        rintro e w3 ⟨rfl,U,S⟩;have HT:Hid (dk w3 263 #[.pointer (some ⟨w2.heap.size,0,none⟩)] (aO p.data.toList)):=U;have z:=y.trans (S.mono y.size);clear U F H I J K d f y S;obtain⟨F,H,I,J,K,d,f⟩:=aw z
        go_wp2_with fail;refine(jt L v _ _ _ _ (Z.out.below d) HT.out Y.out).mono ?_
        rintro e w4 ⟨rfl,T⟩;rw[HF.out,iK,hx];have N:=z.trans (T.mono z.size);clear F H I J K d f z T;obtain⟨F,H,I,J,K,d,f⟩:=aw N
        clear N;go_wp2_with fail;go_ret;exact⟨aD X.out.symm,d.alloc (Nat.le_of_lt f) _⟩
   · have I5:(aP L (aC p.data.toList)==0)=false:=by simpa using M
     have X:=hid (show aP L (aC p.data.toList)=bP L ⟨k,p,q,t,b⟩from by rw[←vy (by rw[Q];exact M),Q]);clear M Q;rcases h4 with rfl|rfl|rfl
     all_goals
      go_enter func229,ntmps229
      go_wp2_with fail;refine(iG p _ hp).mono ?_
      rintro e w1 ⟨rfl,A⟩;rw[HC.out,gu rfl];obtain⟨F,H,I,J,K,d,f⟩:=aw A
      go_wp2_with fail;refine(lq L v ⟨(aC p.data.toList).toArray⟩ _ (Z.out.below d) Y.out).mono ?_
      rintro e w2 ⟨rfl,O⟩;have y:=A.trans (O.mono A.size);clear F H I J K d f A O;obtain⟨F,H,I,J,K,d,f⟩:=aw y
      clear y;have I9:(aP L (⟨(aC p.data.toList).toArray⟩:ByteArray).data.toList==0)=false:=I5;generalize hG:aP L (⟨(aC p.data.toList).toArray⟩:ByteArray).data.toList=G at*;have Iv:(G==0)=false:=I9;go_wp2_with fail;go_ret;exact⟨aD X.out,d⟩
 · have Q:Pp.goal ⟨3,p,q,t,b⟩=q.data.toList:=rfl
   have HQ:Hid (az q.data.toList=0):=me hg rfl;clear hg;by_cases M:aP L (aC q.data.toList)=0
   · have HP:Hid (aP L (aC q.data.toList)=0):=M
     rw[←Q]at M
     have I0:(L.find? (aO p.data.toList)=none)∨ ∃x,L.find? (aO p.data.toList)=some x:=by
      cases L.find? (aO p.data.toList)with
      |none=>exact Or.inl rfl
      |some x=>exact Or.inr ⟨x,rfl⟩
     rcases I0 with V|⟨x,V⟩
     · have ae:=vz (c:=⟨3,p,q,t,b⟩) M V
       have HF:=hid V;clear V M Q;simp only[Int.reduceEq,or_self,or_true,or_false,if_true,if_false]at ae;have X:=hid ae;clear ae;go_enter func229,ntmps229
       go_wp2_with fail;refine(iG p _ hp).mono ?_
       rintro e w0 ⟨rfl,P⟩;rw[HC.out,gu rfl];obtain⟨F,H,I,J,K,d,f⟩:=aw P
       go_wp2_with fail;refine(iG q _ hq).mono ?_
       rintro e w1 ⟨rfl,A⟩;rw[HQ.out,gu rfl];have E:=P.trans (A.mono P.size);clear F H I J K d f P A;obtain⟨F,H,I,J,K,d,f⟩:=aw E
       go_wp2_with fail;refine(lq L v ⟨(aC q.data.toList).toArray⟩ _ (Z.out.below d) Y.out).mono ?_
       rintro e w2 ⟨rfl,O⟩;rw[show aP L _=0 from HP.out];have y:=E.trans (O.mono E.size);clear F H I J K d f E O;obtain⟨F,H,I,J,K,d,f⟩:=aw y
       go_wp2_with fail;refine(jW p _).mono ?_
       rintro e w3 ⟨rfl,U,S⟩;have HT:Hid (dk w3 263 #[.pointer (some ⟨w2.heap.size,0,none⟩)] (aO p.data.toList)):=U;have z:=y.trans (S.mono y.size);clear U F H I J K d f y S;obtain⟨F,H,I,J,K,d,f⟩:=aw z
       go_wp2_with fail;refine(jt L v _ _ _ _ (Z.out.below d) HT.out Y.out).mono ?_
       rintro e w4 ⟨rfl,T⟩;rw[HF.out,iK];have N:=z.trans (T.mono z.size);clear F H I J K d f z T;obtain⟨F,H,I,J,K,d,f⟩:=aw N
       clear N;go_wp2_with fail;go_ret;exact⟨aD X.out.symm,d.alloc (Nat.le_of_lt f) _⟩
     · have ae:=vA (c:=⟨3,p,q,t,b⟩) M V
       have HF:=hid V;clear V M Q;simp only[Int.reduceEq,or_self,or_true,or_false,if_true,if_false]at ae;have X:=hid ae;clear ae;go_enter func229,ntmps229
       go_wp2_with fail;refine(iG p _ hp).mono ?_
       rintro e w0 ⟨rfl,P⟩;rw[HC.out,gu rfl];obtain⟨F,H,I,J,K,d,f⟩:=aw P
       go_wp2_with fail;refine(iG q _ hq).mono ?_
       rintro e w1 ⟨rfl,A⟩;rw[HQ.out,gu rfl];have E:=P.trans (A.mono P.size);clear F H I J K d f P A;obtain⟨F,H,I,J,K,d,f⟩:=aw E
       go_wp2_with fail;refine(lq L v ⟨(aC q.data.toList).toArray⟩ _ (Z.out.below d) Y.out).mono ?_
       rintro e w2 ⟨rfl,O⟩;rw[show aP L _=0 from HP.out];have y:=E.trans (O.mono E.size);clear F H I J K d f E O;obtain⟨F,H,I,J,K,d,f⟩:=aw y
       go_wp2_with fail;refine(jW p _).mono ?_
       rintro e w3 ⟨rfl,U,S⟩;have HT:Hid (dk w3 263 #[.pointer (some ⟨w2.heap.size,0,none⟩)] (aO p.data.toList)):=U;have z:=y.trans (S.mono y.size);clear U F H I J K d f y S;obtain⟨F,H,I,J,K,d,f⟩:=aw z
       go_wp2_with fail;refine(jt L v _ _ _ _ (Z.out.below d) HT.out Y.out).mono ?_
       rintro e w4 ⟨rfl,T⟩;rw[HF.out,iK];have N:=z.trans (T.mono z.size);clear F H I J K d f z T;obtain⟨F,H,I,J,K,d,f⟩:=aw N
       go_wp2_with fail;refine(BF L v 3 p q t b _ (Z.out.below (d.alloc (Nat.le_of_lt f) _)) Y.out hp hq HC.out HQ.out).mono ?_
       rintro e w5 ⟨rfl,I7⟩;have I6:Below w.heap.size w w5:=(d.alloc (Nat.le_of_lt f) _).trans (I7.mono (by simp;omega));clear F H I J K d f N I7;go_wp2_with fail;go_ret;exact⟨aD X.out.symm,I6⟩
   · have I5:(aP L (aC q.data.toList)==0)=false:=by simpa using M
     have X:=hid (show aP L (aC q.data.toList)=bP L ⟨3,p,q,t,b⟩from by rw[←vy (by rw[Q];exact M),Q]);clear M Q;go_enter func229,ntmps229
     go_wp2_with fail;refine(iG p _ hp).mono ?_
     rintro e w0 ⟨rfl,P⟩;rw[HC.out,gu rfl];obtain⟨F,H,I,J,K,d,f⟩:=aw P
     go_wp2_with fail;refine(iG q _ hq).mono ?_
     rintro e w1 ⟨rfl,A⟩;rw[HQ.out,gu rfl];have E:=P.trans (A.mono P.size);clear F H I J K d f P A;obtain⟨F,H,I,J,K,d,f⟩:=aw E
     go_wp2_with fail;refine(lq L v ⟨(aC q.data.toList).toArray⟩ _ (Z.out.below d) Y.out).mono ?_
     rintro e w2 ⟨rfl,O⟩;have y:=E.trans (O.mono E.size);clear F H I J K d f E O;obtain⟨F,H,I,J,K,d,f⟩:=aw y
     clear y;have I9:(aP L (⟨(aC q.data.toList).toArray⟩:ByteArray).data.toList==0)=false:=I5;generalize hG:aP L (⟨(aC q.data.toList).toArray⟩:ByteArray).data.toList=G at*;go_wp2_with fail;go_ret;exact⟨aD X.out,d⟩
def ai (l:List (List UInt8)):List Value:=l.map fun x=> .string ⟨x.toArray⟩
theorem vB (l:List (List UInt8)) (x:List UInt8):ai l++[.string ⟨x.toArray⟩]=ai (l++[x]):=by simp[ai]
theorem BG (s:ByteArray) (f k:Nat):s.extract f k=⟨((s.data.toList.drop f).take (k-f)).toArray⟩:=dN (Lib.extract_data s f k)
theorem BH (s:ByteArray) (f:Nat):s.extract f s.size=⟨(s.data.toList.drop f).toArray⟩:=dN (by rw[Lib.extract_data];exact List.take_of_length_le (by rw[List.length_drop,←Lib.size_eq];exact Nat.le_refl _))
theorem BI (s:ByteArray) (f k:Nat) (z:f≤k) (d:k<s.size):s.data.toList.drop f=(s.data.toList.drop f).take (k-f)++s[k]::s.data.toList.drop (k+1):=by
 have y:k<s.data.toList.length:=by simpa using d
 conv=>lhs;rw[←List.take_append_drop (k-f) (s.data.toList.drop f)]
 rw[List.drop_drop,show f+(k-f)=k by omega,List.drop_eq_getElem_cons y,byte_at' s k d y]
theorem BJ (s:ByteArray) (f k:Nat) (A:f≤k) (d:k<s.size):(s.data.toList.drop f).take (k+1-f)=(s.data.toList.drop f).take (k-f)++[s[k]]:=by
 have z:k<s.data.toList.length:=by simpa using d
 have y:k-f<(s.data.toList.drop f).length:=by rw[List.length_drop];omega
 rw[show k+1-f=(k-f)+1 by omega,List.take_succ_eq_append_getElem y,List.getElem_drop];congr 2
 rw[←byte_at' s k d z];congr 1
 omega
def lB (s:ByteArray) (dn:List (List UInt8)) (f k:Nat):Prop:=aj s.data.toList=dn++aj (s.data.toList.drop f)∧47∉(s.data.toList.drop f).take (k-f)∧dn.length≤k∧f≤k
theorem BK (s:ByteArray):lB s [] 0 0:=⟨by simp,by simp,by simp,Nat.le_refl _⟩
theorem BL (s:ByteArray) {dn:List (List UInt8)} {f k:Nat} (z:k<s.size) (h:lB s dn f k) (y:(s[k].toNat:Int)=47):lB s (dn++[(s.data.toList.drop f).take (k-f)]) (k+1) (k+1):=by
 have e:s[k]=47:=UInt8.toNat_inj.1 (by simpa using Int.ofNat.inj y);refine⟨?_,by simp,by have:=h.2.2.1;simp;omega,Nat.le_refl _⟩
 have aE:=BI s f k h.2.2.2 z;rw[e]at aE
 have d:aj (s.data.toList.drop f)=(s.data.toList.drop f).take (k-f)::aj (s.data.toList.drop (k+1)):=by
  conv=>lhs;rw[aE]
  exact pI _ _ h.2.1
 rw[h.1,d];simp
theorem BM (s:ByteArray) {dn:List (List UInt8)} {f k:Nat} (z:k<s.size) (h:lB s dn f k) (y:(s[k].toNat:Int)≠47):lB s dn f (k+1):=by
 refine⟨h.1,?_,by have:=h.2.2.1;omega,by have:=h.2.2.2;omega⟩
 rw[BJ s f k h.2.2.2 z];intro d;rcases List.mem_append.1 d with d|d
 · exact h.2.1 d
 · rw[List.mem_singleton]at d
   exact y (by rw[←d];rfl)
theorem BN (s:ByteArray) {dn:List (List UInt8)} {f:Nat} (h:lB s dn f s.size):aj s.data.toList=dn++[s.data.toList.drop f]:=by
 rw[h.1,kB];have:=h.2.1
 rwa [List.take_of_length_le (by rw[List.length_drop,←Lib.size_eq];exact Nat.le_refl _)]at this
theorem Tryz.infoS:(prog.info? 9).map (fun i=>(i.zero,i.size,i.bytes))=some (some (.string ⟨#[]⟩),1,16):=by kernel_rfl
theorem BO (s:ByteArray) (w:World) (hs:s.size≤1000000000):
    Calls prog 111 #[.string s] w fun e w'=> ∃v,e= .returned v∧w'.ownsRow w.heap.size 9 1 v (aj s.data.toList).length (ai (aj s.data.toList))∧Below w.heap.size w w':=by
 obtain⟨aZ,V,J,K,M⟩:=info_parts Tryz.infoS
 go_enter func111,ntmps111
 go_wp2_with fail
 go_loopw [3,4,5] (fun v fr i wr=> ∃(E:List (List UInt8)) (f k:Nat),k≤s.size∧f≤k∧E.length≤k∧fr= .int .i64 f∧i= .int .i64 k∧wr.ownsRow w.heap.size 9 1 v E.length (ai E)∧Below w.heap.size w wr∧Hid (lB s E f k))
  (fun _ _ i _=>s.size-(intOf i).toNat)
 case atStart=>exact⟨[],0,0,Nat.zero_le _,Nat.le_refl _,Nat.le_refl _,rfl,rfl,World.ownsRow_nil _ _ _ _,Below.refl _ _,BK s⟩
 case round=>
  obtain⟨E,f,k,Z,Y,X,rfl,rfl,A,d,P⟩:=hrel
  by_cases H:k<s.size
  · cases U:((s[k].toNat:Int)==47)with
    |true=>
     have S:=hid (show(s[k].toNat:Int)=47 from by simpa using U);go_wp2_with (at_builtin;refine wpList_append_own _ rfl _ _ 96 rfl w.heap.size 9 aZ (.string ⟨#[]⟩) 1 16 underlying96 V J K M rfl (by decide) _ _ _ rfl (A.alloc _) ⟨wr.heap.size,0,none⟩ 1 1 [.string (s.extract f k)] rfl rfl ?c1 ?c2 ?c3 ?c4 ?c5 ?_)
     case c1=>
      intro j u F;match j,F with
      |0,F=>simp at F;subst F;simp[Addr.add]
     case c2=>intro u I;simp at I;subst I;rfl
     case c3=>unfold maxLen;omega
     case c4=>omega
     case c5=>have:=d.size;simp;omega
     intro O N y z _;have G:Below w.heap.size w N:=(d.alloc d.size _).grown z (by have:=d.size;simp;omega) (fun g T=>(A.lt g T).1);rw[BG,vB]at y;have Q:Hid (N.ownsRow w.heap.size 9 1 O (E.length+1) (ai (E++[(s.data.toList.drop f).take (k-f)]))):=y;clear y z A d;go_wp2;go_roundw
     case rel=>exact⟨E++[(s.data.toList.drop f).take (k-f)],k+1,k+1,by omega,Nat.le_refl _,by simp;omega,by simp,by simp,by rw[List.length_append];exact Q.out,G,BL s H P.out S.out⟩
     case measure=>simp[intOf];omega
    |false=>
     have S:=hid (show(s[k].toNat:Int)≠47 from by simpa using U);go_wp2_with fail;go_roundw
     case rel=>exact⟨E,f,k+1,by omega,by omega,by omega,rfl,by simp,A,d,BM s H P.out S.out⟩
     case measure=>simp[intOf];omega
  · obtain rfl:k=s.size:=by omega
    go_wp2_with (at_builtin;refine wpList_append_own _ rfl _ _ 96 rfl w.heap.size 9 aZ (.string ⟨#[]⟩) 1 16 underlying96 V J K M rfl (by decide) _ _ _ rfl (A.alloc _) ⟨wr.heap.size,0,none⟩ 1 1 [.string (s.extract f s.size)] rfl rfl ?d1 ?d2 ?d3 ?d4 ?d5 ?_)
    case d1=>
     intro j u F;match j,F with
     |0,F=>simp at F;subst F;simp[Addr.add]
    case d2=>intro u I;simp at I;subst I;rfl
    case d3=>unfold maxLen;omega
    case d4=>omega
    case d5=>have:=d.size;simp;omega
    intro O N y z _;have G:Below w.heap.size w N:=(d.alloc d.size _).grown z (by have:=d.size;simp;omega) (fun g T=>(A.lt g T).1);rw[BH,vB]at y;have Q:Hid (N.ownsRow w.heap.size 9 1 O (E.length+1) (ai (E++[s.data.toList.drop f]))):=y;clear y z A d;go_wp2;go_ret;exact⟨O,rfl,by rw[BN s P.out,List.length_append];exact Q.out,G⟩
theorem Pp.nm_mem_len: ∀(l:List UInt8) (x:List UInt8),x∈aj l→x.length≤l.length
 |[],x,h=>by simp[aj]at h;simp[h]
 |c::r,x,h=>by
  rw[aj]at h;split at h
  · rcases List.mem_cons.1 h with h|h
    · simp[h]
    · have:=Pp.nm_mem_len r x h;simp;omega
  · cases e:aj r with
    |nil=>exact absurd e (kA r)
    |cons y t=>
     rw[e]at h;rcases List.mem_cons.1 h with h|h
     · have:=Pp.nm_mem_len r y (by rw[e];simp);rw[h];simp;omega
     · have:=Pp.nm_mem_len r x (by rw[e];simp[h]);simp;omega
theorem gO (s:ByteArray) (w:World) (M:s.size≤1000000000):
    Calls prog 111 #[.string s] w fun e w'=> ∃g d,e= .returned (.slice (some ⟨g,0,none⟩) (aj s.data.toList).length d)∧(aj s.data.toList).length≤d∧d≤maxLen∧w.heap.size≤g∧g<w'.heap.size∧
     (∀i (h:i<(aj s.data.toList).length),w'.cell? ⟨g,i,none⟩=some (.string ⟨((aj s.data.toList)[i]).toArray⟩))∧Below w.heap.size w w':=by
 refine(BO s w M).mono ?_
 rintro e w' ⟨v,rfl,y,hb⟩;obtain⟨J,I⟩:=y
 rcases I with⟨_,H⟩|⟨g,d,cur,rfl,E,z,G,F,N,f⟩
 · exact absurd (List.length_eq_zero_iff.1 H) (kA _)
 · have A:g<w'.heap.size:=by
    rcases Nat.lt_or_ge g w'.heap.size with h|h
    · exact h
    · rw[Array.getElem?_eq_none h]at z;cases z
   refine⟨g,d,rfl,G,F,E,A,fun i h=>?_,hb⟩
   have K:w'.ownsRow w.heap.size 9 1 (.slice (some ⟨g,0,none⟩) (aj s.data.toList).length d) (aj s.data.toList).length (ai (aj s.data.toList)):=⟨J,.inr ⟨g,d,cur,rfl,E,z,G,F,N,f⟩⟩
   rw[K.cellAt i (by omega)];simp[ai,h]
theorem qW (s:ByteArray) (w:World) (A:s.size≤1000000000):
    Calls prog 112 #[.string s] w fun e w'=>e= .returned (.bool (Pp.big s.data.toList))∧Below w.heap.size w w':=by
 have K:(aj s.data.toList).length≤s.size+1:=by have:=jP s.data.toList;rwa [←Lib.size_eq]at this
 have d:(6:Int)<(aj s.data.toList).length→true=Pp.big s.data.toList:=fun h=>by
  symm;simp only[Pp.big,Bool.or_eq_true,decide_eq_true_eq];omega
 have f:(80:Int)<s.size→true=Pp.big s.data.toList:=fun h=>by
  symm;simp only[Pp.big,Bool.or_eq_true,decide_eq_true_eq,←Lib.size_eq];omega
 have y:((aj s.data.toList).length:Int)≤6→(s.size:Int)≤80→false=Pp.big s.data.toList:=fun I J=>by
  symm;simp only[Pp.big,Bool.or_eq_false_iff,decide_eq_false_iff_not,←Lib.size_eq];omega
 by_cases F:(6:Int)<(aj s.data.toList).length
 · have H:Hid (true=Pp.big s.data.toList):=d F
   clear d f y;go_enter func112,ntmps112
   go_wp2_with fail;refine(gO s _ A).mono ?_
   rintro e E ⟨g,z,rfl,_,_,_,_,_,hb⟩;go_wp2;go_ret;exact⟨bt H.out,hb⟩
 by_cases G:(80:Int)<s.size
 · have H:Hid (true=Pp.big s.data.toList):=f G
   clear d f y;go_enter func112,ntmps112
   go_wp2_with fail;refine(gO s _ A).mono ?_
   rintro e E ⟨g,z,rfl,_,_,_,_,_,hb⟩;go_wp2;go_ret;exact⟨bt H.out,hb⟩
 · have H:Hid (false=Pp.big s.data.toList):=y (by omega) (by omega)
   clear d f y;go_enter func112,ntmps112
   go_wp2_with fail;refine(gO s _ A).mono ?_
   rintro e E ⟨g,z,rfl,_,_,_,_,_,hb⟩;go_wp2;go_ret;exact⟨bt (by rw[←H.out];simp;omega),hb⟩
theorem iW (s:ByteArray) (w:World) (K:s.size≤1000000000):
    Calls prog 65 #[.string s] w fun e w'=>e= .returned (.int .i64 (az s.data.toList))∧Below w.heap.size w w':=by
 have Y:(aj s.data.toList).length≤s.size+1:=by have:=jP s.data.toList;rwa [←Lib.size_eq]at this
 obtain⟨L,I⟩: ∃L,L=aj s.data.toList:=⟨_,rfl⟩
 have H:Hid (L=aj s.data.toList):=I;rw[←I]at Y
 have G: ∀i (h:i<L.length),(L[i]).length≤s.size:=by
  intro i h;have:=Pp.nm_mem_len s.data.toList L[i] (by rw[←I];exact List.getElem_mem h)
  rwa [←Lib.size_eq]at this
 clear I;go_enter func65,ntmps65
 go_wp2_with fail;refine(gO s _ K).mono ?_
 rintro e P ⟨g,S,rfl,J,T,V,X,d,hb⟩;rw[←H.out]at J d⊢;have Q:Hid (∀i (h:i<L.length),P.cell? ⟨g,i,none⟩=some (.string ⟨(L[i]).toArray⟩)):=d;clear d;go_wp2_with fail;go_loopw [4] (fun i wr=> ∃k:Nat,k≤L.length∧i= .int .i64 k∧Hid ((L.take k).all aM=true)∧wr=P) (fun i _=>L.length-(intOf i).toNat)
 case atStart=>exact⟨0,Nat.zero_le _,rfl,rfl,rfl⟩
 case round=>
  obtain⟨k,Z,rfl,N,rfl⟩:=hrel
  by_cases y:k<L.length
  · have U:=Q.out k y
    cases z:aM L[k]with
    |true=>
     have F:Hid (aM L[k]=true):=z;clear z;go_wp2_with fail;refine(js _ _ (by rw[jQ];have:=G k y;omega)).mono ?_
     rintro e M ⟨rfl,rfl⟩;simp only[F.out];go_wp2_with fail;go_roundw
     case rel=>exact⟨k+1,by omega,by simp,(by rw[List.take_succ_eq_append_getElem y];exact pL N.out F.out:(L.take (k+1)).all aM=true),trivial⟩
     case measure=>simp[intOf];omega
    |false=>
     have F:Hid (aM L[k]=false):=z;clear z;go_wp2_with fail;refine(js _ _ (by rw[jQ];have:=G k y;omega)).mono ?_
     rintro e M ⟨rfl,rfl⟩;simp only[F.out];go_wp2_with fail;go_ret;exact⟨aD (pK s (dn:=L.take k) (r:=L.drop (k+1)) (n:=L[k]) (by rw[←H.out,←List.drop_eq_getElem_cons y,List.take_append_drop]) F.out),hb⟩
  · have O:=hid (show L.all aM=true from by have:=N.out;rwa [List.take_of_length_le (by omega)]at this)
    cases f:Pp.big s.data.toList with
    |true=>
     have E:Hid (Pp.big s.data.toList=true):=f;clear f;go_wp2_with fail;refine(qW s _ K).mono ?_
     rintro e M ⟨rfl,A⟩;simp only[E.out];go_wp2;go_ret;exact⟨aD (by rw[az,←H.out,if_pos O.out,if_pos E.out]),hb.trans (A.mono hb.size)⟩
    |false=>
     have E:Hid (Pp.big s.data.toList=false):=f;clear f;go_wp2_with fail;refine(qW s _ K).mono ?_
     rintro e M ⟨rfl,A⟩;simp only[E.out];go_wp2;go_ret;exact⟨aD (by rw[az,←H.out,if_pos O.out,if_neg (by rw[E.out];decide)]),hb.trans (A.mono hb.size)⟩
end Go.Proofs.YtcmlnelpcjfocaaGreatDoor
