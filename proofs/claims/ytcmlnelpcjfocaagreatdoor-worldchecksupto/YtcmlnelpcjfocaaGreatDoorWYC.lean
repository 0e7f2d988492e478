/- What tree.checkVersion, checkEntry answer, for every entry. -/
import Derived.Test.YtcmlnelpcjfocaaGreatDoorWYB
set_option linter.unusedSimpArgs false
set_option linter.unusedVariables false
namespace Go.Proofs.YtcmlnelpcjfocaaGreatDoor
open Go.RowKit Go.Proofs.Tryz
set_option maxHeartbeats 1000000
theorem lp (n:Int) (w:World):
    Calls prog 172 #[.int .i64 n] w fun e w'=>e= .returned (.int .i64 (bi n))∧w'=w:=by
 by_cases d:n<1
 · have H:=hid (show 3=bi n from by rw[bi,if_pos (Or.inl d)])
   go_enter func172,ntmps172
   go_wp2;go_ret;exact⟨aD H.out,rfl⟩
 by_cases f:1000000<n
 · have H:=hid (show 3=bi n from by rw[bi,if_pos (Or.inr f)])
   go_enter func172,ntmps172
   go_wp2;go_ret;exact⟨aD H.out,rfl⟩
 · have H:=hid (show 0=bi n from by rw[bi,if_neg (by omega)])
   go_enter func172,ntmps172
   go_wp2;go_ret;exact⟨aD H.out,rfl⟩
theorem uk (p:ByteArray) (f:Bool) (t:ByteArray) (n:Int) (w:World) (A:p.size≤1000000000000000) (T:t.size≤1000000000000000):
    Calls prog 136 #[.agg #[.string p,.bool f,.string t,.int .i64 n]] w fun e w'=>e= .returned (.int .i64 (bM ⟨p,f,t,n⟩))∧Below w.heap.size w w':=by
 by_cases E:az p.data.toList=0
 · have F:Hid (az p.data.toList=0):=E
   have ae:bM ⟨p,f,t,n⟩=if f=true∧ ¬t.data.toList=[]then 1 else if 300<t.size then 2 else bi n:=by rw[bM,if_pos E]
   clear E;cases f with
   |true=>
    cases M:t.toList.isEmpty with
    |false=>
     have y:=hid (show 1=bM ⟨p,true,t,n⟩from by rw[ae,if_pos ⟨rfl,kF M⟩]);clear ae;go_enter func136,ntmps136
     go_wp2_with fail;refine(fQ p _ A).mono ?_
     rintro e K ⟨rfl,d⟩;obtain⟨G,H,I,J,hb,z⟩:=dO d
     clear d;rw[F.out];go_wp2_with fail;go_ret;exact⟨aD y.out,hb⟩
    |true=>
     have N:t.size=0:=by rw[Lib.size_eq,(iH t).1 M];rfl
     have y:=hid (show bM ⟨p,true,t,n⟩=bi n from by rw[ae,if_neg (fun h=>h.2 ((iH t).1 M)),if_neg (by omega)]);clear ae;have O:(t.size:Int)≤300:=by omega
     clear N;go_enter func136,ntmps136
     go_wp2_with fail;refine(fQ p _ A).mono ?_
     rintro e K ⟨rfl,d⟩;obtain⟨G,H,I,J,hb,z⟩:=dO d
     clear d;rw[F.out];go_wp2_with fail;refine(lp n _).mono ?_
     rintro e Q ⟨rfl,rfl⟩;go_wp2_with fail;go_ret;exact⟨aD y.out.symm,hb⟩
   |false=>
    by_cases S:300<(t.size:Int)
    · have y:=hid (show 2=bM ⟨p,false,t,n⟩from by rw[ae,if_neg (fun h=>by cases h.1),if_pos (by omega)])
      clear ae;go_enter func136,ntmps136
      go_wp2_with fail;refine(fQ p _ A).mono ?_
      rintro e K ⟨rfl,d⟩;obtain⟨G,H,I,J,hb,z⟩:=dO d
      clear d;rw[F.out];go_wp2_with fail;go_ret;exact⟨aD y.out,hb⟩
    · have y:=hid (show bM ⟨p,false,t,n⟩=bi n from by rw[ae,if_neg (fun h=>by cases h.1),if_neg (by omega)])
      clear ae;go_enter func136,ntmps136
      go_wp2_with fail;refine(fQ p _ A).mono ?_
      rintro e K ⟨rfl,d⟩;obtain⟨G,H,I,J,hb,z⟩:=dO d
      clear d;rw[F.out];go_wp2_with fail;refine(lp n _).mono ?_
      rintro e Q ⟨rfl,rfl⟩;go_wp2_with fail;go_ret;exact⟨aD y.out.symm,hb⟩
 · have y:=hid (show az p.data.toList=bM ⟨p,f,t,n⟩from by rw[bM,if_neg E])
   have P:(az p.data.toList==0)=false:=by simpa using E
   go_enter func136,ntmps136
   go_wp2_with fail;refine(fQ p _ A).mono ?_
   rintro e K ⟨rfl,d⟩;obtain⟨G,H,I,J,hb,z⟩:=dO d
   clear d;go_wp2_with fail;go_ret;exact⟨aD y.out,hb⟩
theorem um {L:List En} {f:En→Bool} {k:Nat} (d:k<L.length) (h: ∀j (h:j<L.length),j<k→f L[j]=false) (z:f L[k]=true):L.find? f=some L[k]:=by
 rw[List.find?_eq_some_iff_getElem];exact⟨z,k,d,rfl,fun j y=>by simpa using h j (by omega) y⟩
theorem As {L:List En} {d:En→Bool} (h: ∀j (h:j<L.length),d L[j]=false):L.find? d=none:=by
 rw[List.find?_eq_none];intro x y;obtain⟨j,f,rfl⟩:=List.getElem_of_mem y
 simpa using h j f
def dk (w:World) (g:Nat) (cb:Array Value) (pr:En→Bool):Prop:=
 (∀args w,(callFunc g args).run prog w= .ok (.enter g args) w)∧
 ∀(W:World),Below w.heap.size w W→ ∀e:En,e.path.size≤1000000000000000→Calls prog g (#[.agg #[.string e.path,.bool e.folder,.string e.text,.int .i64 e.ver]]++cb) W fun r W'=>r= .returned (.bool (pr e))∧Below W.heap.size W W'
theorem dk.below {w w':World} {g:Nat} {d:Array Value} {y:En→Bool} (h:dk w g d y) (f:Below w.heap.size w w'):dk w' g d y:=
 ⟨h.1,fun W z=>h.2 W (f.trans (z.mono f.size))⟩
theorem At (p:ByteArray) (f:Bool) (t:ByteArray) (n:Int) (q:ByteArray) (b:Nat) (w:World) (hb:b<w.heap.size) (d:w.cell? ⟨b,0,none⟩=some (.string q)):
    Calls prog 263 #[.agg #[.string p,.bool f,.string t,.int .i64 n],.pointer (some ⟨b,0,none⟩)] w fun e w'=>e= .returned (.bool (aO q.data.toList ⟨p,f,t,n⟩))∧Below w.heap.size w w':=by
 have y: ∀o,(w.alloc o).cell? ⟨b,0,none⟩=some (.string q):=fun o=>(((Below.refl w.heap.size w).alloc (Nat.le_refl _) o).cell (p:=⟨b,0,none⟩) hb).trans d
 go_enter func263,ntmps263
 go_wp2;go_ret;exact⟨bt (by rw[aO,Lib.toList_data,Lib.toList_data]),(Below.refl _ _).alloc (Nat.le_refl _) _⟩
theorem jW (q:ByteArray) (w:World):
    Calls prog 217 #[.string q] w fun e w'=>e= .returned (.func (.func 263) #[] #[.pointer (some ⟨w.heap.size,0,none⟩)])∧dk w' 263 #[.pointer (some ⟨w.heap.size,0,none⟩)] (aO q.data.toList)∧Below w.heap.size w w':=by
 go_enter func217,ntmps217
 go_wp2;go_ret;refine⟨rfl,⟨enters_of func263 (by kernel_rfl) rfl,fun W d e f=>?_⟩,(Below.refl _ _).alloc (Nat.le_refl _) _⟩
 exact At e.path e.folder e.text e.ver q w.heap.size W (Nat.lt_of_lt_of_le (by simp) d.size) ((d.cell (p:=⟨w.heap.size,0,none⟩) (by simp)).trans (by simp))
def iK (r:Option En):Value:=match r with
 |some x=> .tuple #[.agg #[.string x.path,.bool x.folder,.string x.text,.int .i64 x.ver],.bool true]
 |none=> .tuple #[.agg #[.string ⟨#[]⟩,.bool false,.string ⟨#[]⟩,.int .i64 0],.bool false]
theorem jt (L:List En) (v:Value) (g:Nat) (O:Array Value) (E:En→Bool) (w:World) (hv:an w v L) (Q:dk w g O E) (hs: ∀e∈L,e.path.size≤1000000000000000):
    Calls prog 216 #[v,.func (.func g) #[] O] w fun e w'=>e= .returned (iK (L.find? E))∧Below w.heap.size w w':=by
 obtain⟨a,I6,rfl,I0,P,hL⟩:=hv
 have HL:Hid (∀i (h:i<L.length),∃b o,a=some ⟨b,o,none⟩∧b<w.heap.size∧dp w b (o+i*4) L[i]):=hL;have X:Hid (dk w g O E):=Q;have HS:Hid (∀e∈L,e.path.size≤1000000000000000):=hs;have eg:=Q.1;clear hL Q hs;go_enter func216,ntmps216
 go_wp2_with fail;go_loopw [10] (fun i wr=> ∃k:Nat,k≤L.length∧i= .int .i64 k∧Hid (∀j (h:j<L.length),j<k→E L[j]=false)∧Below (w.alloc (.cells #[.string ⟨#[]⟩,.bool false,.string ⟨#[]⟩,.int .i64 0] 107)).heap.size (w.alloc (.cells #[.string ⟨#[]⟩,.bool false,.string ⟨#[]⟩,.int .i64 0] 107)) wr) (fun i _=>L.length-(intOf i).toNat)
 case atStart=>exact⟨0,Nat.zero_le _,rfl,(fun j _ h=>absurd h (Nat.not_lt_zero _): ∀j (h:j<L.length),j<0→E L[j]=false),Below.refl _ _⟩
 case round=>
  obtain⟨k,hk,rfl,N,d⟩:=hrel
  obtain⟨S,T,U,V,A,F⟩:=dO d
  by_cases G:k<L.length
  · obtain⟨b,o,rfl,hb,he⟩:=HL.out k G
    obtain⟨Y,Z,c2,c3⟩:=he.below hb A
    have J:=HS.out L[k] (List.getElem_mem G);cases K:E L[k]with
    |true=>
     have M:=hid (show L.find? E=some L[k]from um G N.out K);go_wp2_with fail;refine(X.out.2 _ (A.alloc (Nat.le_of_lt F) _) L[k] J).mono ?_
     rintro e w1 ⟨rfl,y⟩;obtain⟨d0,d1,d2,d3,z,I⟩:=dO y
     have f:=d.trans (z.mono d.size);obtain⟨s0,s1,s2,s3,H,I5⟩:=dO f
     have f0:=ip f 0;have f1:=ip f 1;have f2:=ip f 2;have f3:=ip f 3;rw[K];clear y Y Z c2 c3 S T U V d f eg;go_wp2_with fail;refine bodyPost_ret (v:= .tuple #[.agg #[.string L[k].path,.bool L[k].folder,.string L[k].text,.int .i64 L[k].ver],.bool true]) (by simp[results,results216,go_sem,s0,s1,s2,s3]) rfl ⟨by rw[M.out];rfl,?_⟩
     exact(((H.setCell (Nat.le_refl _) _).setCell (Nat.le_refl _) _).setCell (Nat.le_refl _) _).setCell (Nat.le_refl _) _
    |false=>
     go_wp2_with fail;refine(X.out.2 _ (A.alloc (Nat.le_of_lt F) _) L[k] J).mono ?_
     rintro e w1 ⟨rfl,y⟩;obtain⟨d0,d1,d2,d3,z,I⟩:=dO y
     have f:=d.trans (z.mono d.size);rw[K];clear y Y Z c2 c3 S T U V d eg;go_wp2_with fail;go_roundw
     case rel=>exact⟨k+1,by omega,by simp,(fun j h1 h2=>by
      by_cases e:j=k
      · subst e;exact K
      · exact N.out j h1 (by omega): ∀j (h:j<L.length),j<k+1→E L[j]=false),f⟩
     case measure=>simp[intOf];omega
  · have f0:=ip d 0
    have f1:=ip d 1;have f2:=ip d 2;have f3:=ip d 3;have M:=hid (show L.find? E=none from As (fun j h=>N.out j h (by omega)));go_wp2_with fail;refine bodyPost_ret (v:= .tuple #[.agg #[.string ⟨#[]⟩,.bool false,.string ⟨#[]⟩,.int .i64 0],.bool false]) (by simp[results,results216,go_sem,S,T,U,V]) rfl ⟨by rw[M.out];rfl,?_⟩
    exact(((A.setCell (Nat.le_refl _) _).setCell (Nat.le_refl _) _).setCell (Nat.le_refl _) _).setCell (Nat.le_refl _) _
theorem lq (L:List En) (v:Value) (q:ByteArray) (w:World) (N:an w v L) (M: ∀e∈L,e.path.size≤1000000000000000):
    Calls prog 174 #[v,.string q] w fun e w'=>e= .returned (.int .i64 (aP L q.data.toList))∧Below w.heap.size w w':=by
 have J:Hid (an w v L):=N;have I:Hid (∀e∈L,e.path.size≤1000000000000000):=M;clear N M;cases K:q.toList.isEmpty with
 |true=>
  have A:=hid (show 0=aP L q.data.toList from by rw[aP,if_pos ((iH q).1 K)]);go_enter func174,ntmps174
  go_wp2;go_ret;exact⟨aD A.out,Below.refl _ _⟩
 |false=>
  have y:=kF K;cases E:L.find? (aO q.data.toList)with
  |none=>
   have H:Hid (L.find? (aO q.data.toList)=none):=E;have A:=hid (show 5=aP L q.data.toList from by rw[aP,if_neg y,E]);clear E y;go_enter func174,ntmps174
   go_wp2_with fail;refine(jW q _).mono ?_
   rintro e G ⟨rfl,z,d⟩;have F:Hid (dk G 263 #[.pointer (some ⟨w.heap.size,0,none⟩)] (aO q.data.toList)):=z;clear z;go_wp2_with fail;refine(jt L v _ _ _ _ (J.out.below d) F.out I.out).mono ?_
   rintro e P ⟨rfl,f⟩;rw[H.out,iK];go_wp2_with fail;go_ret;exact⟨aD A.out,(bn d f).alloc (Nat.le_trans d.size f.size) _⟩
  |some x=>
   have H:Hid (L.find? (aO q.data.toList)=some x):=E;have ae:aP L q.data.toList=if x.folder=true then 0 else 4:=by rw[aP,if_neg y,E]
   clear E y;cases O:x.folder with
   |true=>
    have A:=hid (show 0=aP L q.data.toList from by rw[ae,O];rfl);clear ae;go_enter func174,ntmps174
    go_wp2_with fail;refine(jW q _).mono ?_
    rintro e G ⟨rfl,z,d⟩;have F:Hid (dk G 263 #[.pointer (some ⟨w.heap.size,0,none⟩)] (aO q.data.toList)):=z;clear z;go_wp2_with fail;refine(jt L v _ _ _ _ (J.out.below d) F.out I.out).mono ?_
    rintro e P ⟨rfl,f⟩;rw[H.out,iK];go_wp2_with fail;go_ret;exact⟨aD A.out,(bn d f).alloc (Nat.le_trans d.size f.size) _⟩
   |false=>
    have A:=hid (show 4=aP L q.data.toList from by rw[ae,O];rfl);clear ae;go_enter func174,ntmps174
    go_wp2_with fail;refine(jW q _).mono ?_
    rintro e G ⟨rfl,z,d⟩;have F:Hid (dk G 263 #[.pointer (some ⟨w.heap.size,0,none⟩)] (aO q.data.toList)):=z;clear z;go_wp2_with fail;refine(jt L v _ _ _ _ (J.out.below d) F.out I.out).mono ?_
    rintro e P ⟨rfl,f⟩;rw[H.out,iK];go_wp2_with fail;go_ret;exact⟨aD A.out,(bn d f).alloc (Nat.le_trans d.size f.size) _⟩
def lr (L:List En) (k:Nat) (told:Int):Prop:=(L.take k).any (fun e=>bw L e==5)=false∧told=if(L.take k).any (fun e=>bw L e==4)=true then 4 else 0
theorem Au (L:List En):lr L 0 0:=⟨by simp,by simp⟩
theorem uo {L:List En} {k:Nat} {t:Int} (d:k<L.length) (h:lr L k t) (f:bw L L[k]≠5):lr L (k+1) (if bw L L[k]=4 then 4 else t):=by
 refine⟨?_,?_⟩
 · rw[List.take_succ_eq_append_getElem d,List.any_append,h.1];simpa using f
 · rw[List.take_succ_eq_append_getElem d,List.any_append,h.2]
   by_cases e:bw L L[k]=4
   · simp[e]
   · simp[e]
theorem uq {L:List En} {k:Nat} (d:k<L.length) (f:bw L L[k]=5):5=fh L L:=by
 rw[fh,if_pos];rw[List.any_eq_true];exact⟨L[k],List.getElem_mem d,by simpa using f⟩
theorem Av {L:List En} {k:Nat} {t:Int} (y:L.length≤k) (h:lr L k t):t=fh L L:=by
 obtain⟨d,f⟩:=h
 rw[List.take_of_length_le y]at d f;rw[fh,if_neg (by rw[d];decide),f]
theorem Aw (L:List En) (v:Value) (w:World) (V:an w v L) (hn:L.length≤60) (U: ∀e∈L,e.path.size≤1000000000000000) (Q: ∀e∈L,az e.path.data.toList=0):
    Calls prog 138 #[v] w fun e w'=>e= .returned (.int .i64 (fh L L))∧Below w.heap.size w w':=by
 have HV:Hid (an w v L):=V;have O:Hid (∀e∈L,e.path.size≤1000000000000000):=U;have Z:Hid (∀e∈L,az e.path.data.toList=0):=Q;obtain⟨a,I0,rfl,S,M,P⟩:=V
 have HL:Hid (∀i (h:i<L.length),∃b o,a=some ⟨b,o,none⟩∧b<w.heap.size∧dp w b (o+i*4) L[i]):=P;clear P U Q;go_enter func138,ntmps138
 go_wp2_with fail;go_loopw [3,10] (fun t i wr=> ∃(k:Nat) (told:Int),k≤L.length∧i= .int .i64 k∧t= .int .i64 told∧Hid (lr L k told)∧Below w.heap.size w wr) (fun _ i _=>L.length-(intOf i).toNat)
 case atStart=>exact⟨0,0,Nat.zero_le _,rfl,rfl,Au L,Below.refl _ _⟩
 case round=>
  obtain⟨k,told,hk,rfl,rfl,K,z⟩:=hrel
  by_cases y:k<L.length
  · obtain⟨b,o,rfl,hb,he⟩:=HL.out k y
    obtain⟨c0,c1,c2,c3⟩:=he.below hb z
    have N:=O.out L[k] (List.getElem_mem y);have HZ:Hid (az (L[k]).path.data.toList=0):=Z.out L[k] (List.getElem_mem y);have b1:=pM (L[k]).path.data.toList;rw[←Lib.size_eq]at b1;go_wp2_with fail;refine(iG (L[k]).path _ N).mono ?_
    rintro e w1 ⟨rfl,G⟩;rw[HZ.out,gu rfl];obtain⟨d0,d1,d2,d3,E,T⟩:=dO G
    have d:=bn z E;clear G c0 c1 c2 c3 d0 d1 d2 d3;go_wp2_with fail;refine(lq L _ ⟨(aC (L[k]).path.data.toList).toArray⟩ _ (HV.out.below d) O.out).mono ?_
    rintro e w2 ⟨rfl,H⟩;have f:=bn d H;clear d H E;rw[show aP L _=bw L L[k]from rfl];by_cases A:bw L L[k]=5
    · have I:Hid (bw L L[k]=5):=A
      clear A;rw[I.out];go_wp2_with fail;go_ret;exact⟨aD (uq y I.out),f⟩
    · have I:Hid (bw L L[k]≠5):=A
      by_cases F:bw L L[k]=4
      · have Y:Hid (bw L L[k]=4):=F
        have J:=hid (show lr L (k+1) 4 from by have:=uo y K.out A;rwa [if_pos F]at this);clear F A;rw[Y.out];go_wp2_with fail;go_roundw
        case rel=>exact⟨k+1,4,by omega,by simp,rfl,J.out,f⟩
        case measure=>simp[intOf];omega
      · have J:=hid (show lr L (k+1) told from by have:=uo y K.out A;rwa [if_neg F]at this)
        have X:=hid (show bw L L[k]=0 from by rcases pR L (aC (L[k]).path.data.toList)with h|h|h;exact h;exact absurd h F;exact absurd h A);clear F A;rw[X.out];go_wp2_with fail;go_roundw
        case rel=>exact⟨k+1,told,by omega,by simp,rfl,J.out,f⟩
        case measure=>simp[intOf];omega
  · go_wp2_with fail
    go_ret;exact⟨aD (Av (by omega) K.out),z⟩
theorem ql: ∀(L:List En),dX L=true↔ ∀i (h:i+1<L.length),Pp.lt L[i] L[i+1]=true
 |[]=>by simp[dX]
 |[_]=>by simp[dX]
 |a::b::r=>by
  rw[dX,Bool.and_eq_true,ql (b::r)];constructor
  · rintro ⟨f,y⟩ i d
    cases i with
    |zero=>exact f
    |succ i=>exact y i (by simpa using d)
  · intro h
    exact⟨h 0 (by simp),fun i d=>h (i+1) (by simpa using d)⟩
theorem ur {L:List En} {m:Nat} (h:m+1<L.length) (d:Pp.lt L[m] L[m+1]=false):false=dX L:=by
 cases e:dX L with
 |false=>rfl
 |true=>have:=(ql L).1 e m h;rw[d]at this;cases this
theorem uu {L:List En} (h: ∀i (h:i+1<L.length),Pp.lt L[i] L[i+1]=true):true=dX L:=((ql L).2 h).symm
theorem uv (L:List En) (v:Value) (w:World) (Z:an w v L) (hn:L.length≤1000000000):
    Calls prog 137 #[v] w fun e w'=>e= .returned (.bool (dX L))∧Below w.heap.size w w':=by
 obtain⟨a,Q,rfl,J,A,I⟩:=Z
 have G:Hid (∀i (h:i<L.length),∃b o,a=some ⟨b,o,none⟩∧b<w.heap.size∧dp w b (o+i*4) L[i]):=I;clear I;go_enter func137,ntmps137
 go_wp2_with fail;go_loopw [3] (fun i wr=> ∃m:Nat,m≤L.length∧i= .int .i64 ((m:Int)+1)∧Hid (∀i (h:i+1<L.length),i<m→Pp.lt L[i] L[i+1]=true)∧Below w.heap.size w wr) (fun i _=>L.length+2-(intOf i).toNat)
 case atStart=>exact⟨0,Nat.zero_le _,rfl,(fun i _ h=>absurd h (Nat.not_lt_zero _): ∀i (h:i+1<L.length),i<0→Pp.lt L[i] L[i+1]=true),Below.refl _ _⟩
 case round=>
  obtain⟨m,hm,rfl,H,d⟩:=hrel
  by_cases y:m+1<L.length
  · obtain⟨b,o,rfl,hb,Y⟩:=G.out m (by omega)
    obtain⟨c0,N,O,P⟩:=Y.below hb d
    obtain⟨M,o',f,X,E⟩:=G.out (m+1) y
    obtain⟨rfl,rfl⟩:b=M∧o=o':=by simpa using f
    obtain⟨d0,S,T,U⟩:=E.below hb d
    have K:(m:Int)+1<L.length:=by omega
    clear N O P S T U f;cases z:Pp.lt L[m] L[m+1]with
    |true=>
     have F:Op.bytesLess (L[m]).path.toList (L[m+1]).path.toList=true:=z;go_wp2_with fail;go_region
     go_wp2;go_roundw
     case rel=>exact⟨m+1,by omega,by simp,(fun i V h2=>by
      by_cases e:i=m
      · subst e;exact z
      · exact H.out i V (by omega): ∀i (h:i+1<L.length),i<m+1→Pp.lt L[i] L[i+1]=true),d.drew⟩
     case measure=>simp[intOf];omega
    |false=>
     have F:Op.bytesLess (L[m]).path.toList (L[m+1]).path.toList=false:=z;go_wp2_with fail;go_region
     go_wp2;go_ret;exact⟨bt (ur y z),d.drew⟩
  · go_wp2_with fail
    go_ret;exact⟨bt (uu fun i h=>H.out i h (by omega)),d⟩
def da (L:List En):Prop:= ∀e∈L,e.path.size≤1000000000000000∧e.text.size≤1000000000000000
theorem Ax (L:List En) (v:Value) (w:World) (hv:an w v L) (hn:L.length≤1000000000) (hs:da L):
    Calls prog 93 #[v] w fun e w'=>e= .returned (.int .i64 (aH L))∧Below w.heap.size w w':=by
 have O:Hid (an w v L):=hv;have HS:Hid (da L):=hs;obtain⟨a,I5,rfl,I0,Y,hL⟩:=hv
 have HL:Hid (∀i (h:i<L.length),∃b o,a=some ⟨b,o,none⟩∧b<w.heap.size∧dp w b (o+i*4) L[i]):=hL;clear hL hs;by_cases I6:60<(L.length:Int)
 · have F:=hid (show 2=aH L from by rw[aH,if_pos (by omega)])
   go_enter func93,ntmps93
   go_wp2_with fail;go_ret;exact⟨aD F.out,Below.refl _ _⟩
 have HT:=hid (show aH L=if cK L=0 then(if dX L=true then fh L L else 4)else cK L from by rw[aH,if_neg (by omega)]);go_enter func93,ntmps93
 go_wp2_with fail;go_loopw [11] (fun i wr=> ∃k:Nat,k≤L.length∧i= .int .i64 k∧Hid (cK L=cK (L.drop k))∧Below w.heap.size w wr) (fun i _=>L.length-(intOf i).toNat)
 case atStart=>exact⟨0,Nat.zero_le _,rfl,(rfl:cK L=cK (L.drop 0)),Below.refl _ _⟩
 case round=>
  obtain⟨k,hk,rfl,M,f⟩:=hrel
  by_cases G:k<L.length
  · obtain⟨b,o,rfl,hb,J⟩:=HL.out k G
    obtain⟨c0,c1,c2,c3⟩:=J.below hb f
    have HD:Hid (L.drop k=L[k]::L.drop (k+1)):=List.drop_eq_getElem_cons G;have E:=HS.out L[k] (List.getElem_mem G);by_cases I:bM L[k]=0
    · have P:Hid (bM L[k]=0):=I
      clear I;go_wp2_with fail;refine(uk (L[k]).path (L[k]).folder (L[k]).text (L[k]).ver _ E.1 E.2).mono ?_
      rintro e Z ⟨rfl,y⟩;rw[show bM _=0 from P.out];obtain⟨Q,S,T,U,z,K⟩:=dO y
      have d:=bn f z;clear y c0 c1 c2 c3 Q S T U;go_wp2_with fail;go_roundw
      case rel=>exact⟨k+1,by omega,by simp,(by rw[M.out,HD.out,cK,if_pos P.out]:cK L=cK (L.drop (k+1))),d⟩
      case measure=>simp[intOf];omega
    · have P:Hid (¬bM L[k]=0):=I
      have I7:(bM L[k]==0)=false:=by simpa using I
      have F:=hid (show bM L[k]=aH L from by
       have e1:cK L=bM L[k]:=by rw[M.out,HD.out,cK,if_neg I]
       rw[HT.out,if_neg (by rw[e1];exact I),e1])
      go_wp2_with fail;refine(uk (L[k]).path (L[k]).folder (L[k]).text (L[k]).ver _ E.1 E.2).mono ?_
      rintro e Z ⟨rfl,y⟩;rw[show bM _=bM L[k]from rfl];obtain⟨Q,S,T,U,z,K⟩:=dO y
      have d:=bn f z;clear y c0 c1 c2 c3 Q S T U;go_wp2_with fail;go_ret;exact⟨aD F.out,d⟩
  · have V:cK L=0:=by rw[M.out,List.drop_of_length_le (by omega)];rfl
    have A:aH L=if dX L=true then fh L L else 4:=by rw[HT.out,if_pos V]
    have HC:=hid (show∀e∈L,az e.path.data.toList=0 from fun e J=>gv (tM V e J));clear V;cases H:dX L with
    |true=>
     have N:Hid (dX L=true):=H;have F:=hid (show fh L L=aH L from by rw[A,if_pos H]);clear H A;go_wp2_with fail;refine(uv L _ _ (O.out.below f) hn).mono ?_
     rintro e Z ⟨rfl,y⟩;rw[N.out];have d:=bn f y;clear f y;go_wp2_with fail;refine(Aw L _ _ (O.out.below d) (by omega) (fun e J=>(HS.out e J).1) HC.out).mono ?_
     rintro e w2 ⟨rfl,X⟩;go_wp2_with fail;go_ret;exact⟨aD F.out,bn d X⟩
    |false=>
     have N:Hid (dX L=false):=H;have F:=hid (show 4=aH L from by rw[A,if_neg (by rw[H];decide)]);clear H A;go_wp2_with fail;refine(uv L _ _ (O.out.below f) hn).mono ?_
     rintro e Z ⟨rfl,y⟩;rw[N.out];go_wp2_with fail;go_ret;exact⟨aD F.out,bn f y⟩
end Go.Proofs.YtcmlnelpcjfocaaGreatDoor
