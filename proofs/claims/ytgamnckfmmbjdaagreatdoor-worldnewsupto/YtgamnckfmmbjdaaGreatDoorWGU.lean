/- What the reference's ChangeOf answers, where a change has an error of form or of place. -/
import Derived.Test.YtgamnckfmmbjdaaGreatDoorWGQ
import Derived.Test.YtgamnckfmmbjdaaGreatDoorWGM
set_option linter.unusedSimpArgs false
set_option linter.unusedVariables false
namespace Go.Proofs.YtgamnckfmmbjdaaGreatDoor
open Go.RowKit Go.Proofs.Tryz
set_option maxHeartbeats 4000000
set_option maxRecDepth 100000
theorem xU {L:List En} {k:Int} {p q t:ByteArray} {b:Int} (G:1≤k∧k≤4) (h: ¬be L ⟨k,p,q,t,b⟩=0):
    (¬aB L (ax (Pp.goal ⟨k,p,q,t,b⟩))=0∧be L ⟨k,p,q,t,b⟩=aB L (ax (Pp.goal ⟨k,p,q,t,b⟩)))∨
    (aB L (ax (Pp.goal ⟨k,p,q,t,b⟩))=0∧(
     (k=1∧(∃j,∃h:j<L.length,bX L p.data.toList=(j:Int))∧6=be L ⟨k,p,q,t,b⟩)∨
     (k=2∧(∃j,∃h:j<L.length,bX L p.data.toList=(j:Int)∧(L[j]).folder=true)∧4=be L ⟨k,p,q,t,b⟩)∨
     ((k=3∨k=4)∧bX L p.data.toList= -1∧5=be L ⟨k,p,q,t,b⟩)∨
     (k=3∧(∃j,∃h:j<L.length,bX L p.data.toList=(j:Int))∧aI q.data.toList p.data.toList=true∧3=be L ⟨k,p,q,t,b⟩)∨
     (k=3∧(∃j,∃h:j<L.length,bX L p.data.toList=(j:Int))∧aI q.data.toList p.data.toList=false∧(∃j,∃h:j<L.length,bX L q.data.toList=(j:Int))∧6=be L ⟨k,p,q,t,b⟩))):=by
 by_cases u:aB L (ax (Pp.goal ⟨k,p,q,t,b⟩))=0
 · refine Or.inr ⟨u,?_⟩
   have ae:be L ⟨k,p,q,t,b⟩=match L.find? (aE p.data.toList)with
    |none=>if k=3∨k=4 then 5 else 0
    |some x=>if k=1 then 6 else if k=2 then(if x.folder=true then 4 else 0)
     else if k=3 then(if aI q.data.toList p.data.toList=true then 3 else if(L.find? (aE q.data.toList)).isSome=true then 6 else 0)else 0:=by
    rw[be,if_neg (fun x=>x u)];rfl
   rcases ko L p.data.toList with⟨f,A⟩|⟨j,y,f,A⟩
   · rw[A]at ae
     have a:k=3∨k=4:=by
      by_cases a:k=3∨k=4
      · exact a
      · rw[ae]at h;simp[a]at h
     exact Or.inr (Or.inr (Or.inl ⟨a,f,by rw[ae];simp only[if_pos a]⟩))
   · rw[A]at ae
     have E:k=1∨k=2∨k=3∨k=4:=by omega
     rcases E with rfl|rfl|rfl|rfl
     · exact Or.inl ⟨rfl,⟨j,y,f⟩,by rw[ae];rfl⟩
     · cases e:(L[j]).folder with
       |true=>exact Or.inr (Or.inl ⟨rfl,⟨j,y,f,e⟩,by rw[ae];simp[e]⟩)
       |false=>rw[ae]at h;simp[e]at h
     · cases e:aI q.data.toList p.data.toList with
       |true=>exact Or.inr (Or.inr (Or.inr (Or.inl ⟨rfl,⟨j,y,f⟩,rfl,by rw[ae];simp[e]⟩)))
       |false=>
        rcases ko L q.data.toList with⟨o,d⟩|⟨F,z,o,d⟩
        · rw[ae]at h;simp[e,d]at h
        · exact Or.inr (Or.inr (Or.inr (Or.inr ⟨rfl,⟨j,y,f⟩,rfl,⟨F,z,o⟩,by rw[ae];simp[e,d]⟩)))
     · rw[ae]at h;simp at h
 · exact Or.inl ⟨u,by rw[be,if_pos u]⟩
theorem xV {L:List En} {k:Int} {p q t:ByteArray} {b:Int} (E:1≤k∧k≤4) (h:be L ⟨k,p,q,t,b⟩=0):
    aB L (ax (Pp.goal ⟨k,p,q,t,b⟩))=0∧(
     (k=1∧bX L p.data.toList= -1)∨(k=2∧bX L p.data.toList= -1)∨
     (k=2∧ ∃j,∃h:j<L.length,bX L p.data.toList=(j:Int)∧(L[j]).folder=false)∨
     (k=3∧(∃j,∃h:j<L.length,bX L p.data.toList=(j:Int))∧aI q.data.toList p.data.toList=false∧bX L q.data.toList= -1∧L.find? (aE q.data.toList)=none)∨
     (k=4∧ ∃j,∃h:j<L.length,bX L p.data.toList=(j:Int))):=by
 have z:=kR h;refine⟨z,?_⟩
 have ae:be L ⟨k,p,q,t,b⟩=match L.find? (aE p.data.toList)with
  |none=>if k=3∨k=4 then 5 else 0
  |some x=>if k=1 then 6 else if k=2 then(if x.folder=true then 4 else 0)
   else if k=3 then(if aI q.data.toList p.data.toList=true then 3 else if(L.find? (aE q.data.toList)).isSome=true then 6 else 0)else 0:=by
  rw[be,if_neg (fun x=>x z)];rfl
 rw[ae]at h;have y:k=1∨k=2∨k=3∨k=4:=by omega
 rcases ko L p.data.toList with⟨d,u⟩|⟨j,o,d,u⟩
 · rw[u]at h
   rcases y with rfl|rfl|rfl|rfl
   · exact Or.inl ⟨rfl,d⟩
   · exact Or.inr (Or.inl ⟨rfl,d⟩)
   · simp at h
   · simp at h
 · rw[u]at h
   rcases y with rfl|rfl|rfl|rfl
   · simp at h
   · cases f:(L[j]).folder with
     |true=>simp[f]at h
     |false=>exact Or.inr (Or.inr (Or.inl ⟨rfl,j,o,d,f⟩))
   · cases f:aI q.data.toList p.data.toList with
     |true=>simp[f]at h
     |false=>
      rcases ko L q.data.toList with⟨e,a⟩|⟨F,A,e,a⟩
      · exact Or.inr (Or.inr (Or.inr (Or.inl ⟨rfl,⟨j,o,d⟩,rfl,e,a⟩)))
      · simp[f,a]at h
   · exact Or.inr (Or.inr (Or.inr (Or.inr ⟨rfl,j,o,d⟩)))
theorem xW (L:List En) (v:Value) (k:Int) (p q t:ByteArray) (b n:Int) (w:World) (o:p.size≤1000000000) (u:q.size≤1000000000) (G:t.size≤1000000000) (f: ¬aC ⟨k,p,q,t,b⟩=0):
    Calls prog 159 #[v,.agg #[.int .i64 k,.string p,.string q,.string t,.int .i64 b],.int .i64 n] w fun e w'=>e= .returned (.tuple #[.slice none 0 0,.int .i64 (aC ⟨k,p,q,t,b⟩)])∧Below w.heap.size w w':=by
 have H:(aC ⟨k,p,q,t,b⟩==0)=false:=by simpa using f
 go_enter func159,ntmps159
 go_wp2_with fail;refine(eN k p q t b _ o u (by omega)).mono ?_
 rintro e I ⟨rfl,a⟩;obtain⟨y,z,A,E,F,d,j⟩:=ak a
 clear a;go_wp2_with fail;go_ret2;exact⟨rfl,d⟩
theorem xX (L:List En) (v:Value) (k:Int) (p q t:ByteArray) (b n:Int) (w:World) (Y:aj w v L) (Q:p.size≤1000000000) (S:q.size≤1000000000) (ht:t.size≤1000000000) (hc:aC ⟨k,p,q,t,b⟩=0) (C3: ¬be L ⟨k,p,q,t,b⟩=0):
    Calls prog 159 #[v,.agg #[.int .i64 k,.string p,.string q,.string t,.int .i64 b],.int .i64 n] w fun e w'=>e= .returned (.tuple #[.slice none 0 0,.int .i64 (be L ⟨k,p,q,t,b⟩)])∧Below w.heap.size w w':=by
 have P:=hid Y;have V:=hid hc;have hk:1≤k∧k≤4:=gU hc;rcases xU hk C3 with⟨h0,ae⟩|⟨h0,hr⟩
 · rw[ae]
   have hz:(aB L (ax (Pp.goal ⟨k,p,q,t,b⟩))==0)=false:=by simpa using h0
   clear ae h0 C3 hc Y;by_cases h3:k=3
   · subst h3
     have hg:Pp.goal ⟨3,p,q,t,b⟩=q.data.toList:=rfl;rw[hg]at hz⊢;clear hg hk;go_enter func159,ntmps159
     go_wp2_with fail;refine(eN 3 p q t b _ Q S (by omega)).mono ?_
     rintro e w1 ⟨rfl,y⟩;rw[V.out];obtain⟨A,E,F,G,H,d,o⟩:=ak y
     go_wp2_with fail;refine(ex q _ S).mono ?_
     rintro e w2 ⟨rfl,I⟩;have f:=d.trans (I.mono (Nat.le_of_lt o));clear A E F G H d o y I;go_wp2_with fail;refine(ez L v ⟨(ax q.data.toList).toArray⟩ _ (P.out.below f)).mono ?_
     rintro e w3 ⟨rfl,J⟩;rw[show aB L _=aB L (ax q.data.toList)from rfl];have u:=f.trans (J.mono f.size);clear f J;go_wp2;go_ret2;exact⟨rfl,u⟩
   · have hg:Pp.goal ⟨k,p,q,t,b⟩=p.data.toList:=if_neg h3
     have CD:(k==3)=false:=by simpa using h3
     rw[hg]at hz⊢;clear hg hk;go_enter func159,ntmps159
     go_wp2_with fail;refine(eN k p q t b _ Q S (by omega)).mono ?_
     rintro e w1 ⟨rfl,y⟩;rw[V.out];obtain⟨A,E,F,G,H,d,o⟩:=ak y
     go_wp2_with fail;refine(ex p _ Q).mono ?_
     rintro e w2 ⟨rfl,I⟩;have f:=d.trans (I.mono (Nat.le_of_lt o));clear A E F G H d o y I;go_wp2_with fail;refine(ez L v ⟨(ax p.data.toList).toArray⟩ _ (P.out.below f)).mono ?_
     rintro e w3 ⟨rfl,J⟩;rw[show aB L _=aB L (ax p.data.toList)from rfl];have u:=f.trans (J.mono f.size);clear f J;go_wp2;go_ret2;exact⟨rfl,u⟩
 · have H0:Hid (aB L (ax (Pp.goal ⟨k,p,q,t,b⟩))=0):=h0
   clear C3 hc h0;rcases hr with⟨rfl,⟨j,hj,O⟩,ae⟩|⟨rfl,⟨j,hj,O,Z⟩,ae⟩|⟨rfl|rfl,O,ae⟩|⟨rfl,⟨j,hj,O⟩,Z,ae⟩|⟨rfl,⟨j,hj,O⟩,Z,⟨j2,CE,C5⟩,ae⟩
   · have M:Hid (aB L (ax p.data.toList)=0):=H0.out
     have T:=hid O;rw[←ae];clear ae O Y;go_enter func159,ntmps159
     go_wp2_with fail;refine(eN _ p q t b _ Q S (by omega)).mono ?_
     rintro e w1 ⟨rfl,y⟩;rw[V.out];obtain⟨A,E,F,G,H,d,o⟩:=ak y
     go_wp2_with fail;refine(ex p _ Q).mono ?_
     rintro e w2 ⟨rfl,I⟩;have f:=y.trans (I.mono y.size);clear A E F G H d o y I;obtain⟨A,E,F,G,H,d,o⟩:=ak f
     go_wp2_with fail;refine(ez L v ⟨(ax p.data.toList).toArray⟩ _ (P.out.below d)).mono ?_
     rintro e w3 ⟨rfl,J⟩;rw[show aB L _=0 from M.out];have u:=f.trans (J.mono f.size);clear A E F G H d o f J;obtain⟨A,E,F,G,H,d,o⟩:=ak u
     go_wp2_with fail;refine(ed L v p _ (P.out.below d)).mono ?_
     rintro e w4 ⟨rfl,K⟩;rw[T.out];have z:=u.trans (K.mono u.size);clear A E F G H d o u K;obtain⟨A,E,F,G,H,d,o⟩:=ak z
     clear z;go_wp2;go_ret2;exact⟨rfl,d⟩
   · have M:Hid (aB L (ax p.data.toList)=0):=H0.out
     have T:=hid O;rw[←ae];clear ae O;obtain⟨a,CC,rfl,C9,C8,hL⟩:=Y
     obtain⟨b',o',rfl,C7,he⟩:=hL j hj
     have CF:(j:Int)<L.length:=by omega
     clear hL;go_enter func159,ntmps159
     go_wp2_with fail;refine(eN _ p q t b _ Q S (by omega)).mono ?_
     rintro e w1 ⟨rfl,y⟩;rw[V.out];obtain⟨A,E,F,G,H,d,o⟩:=ak y
     go_wp2_with fail;refine(ex p _ Q).mono ?_
     rintro e w2 ⟨rfl,I⟩;have f:=y.trans (I.mono y.size);clear A E F G H d o y I;obtain⟨A,E,F,G,H,d,o⟩:=ak f
     go_wp2_with fail;refine(ez L _ ⟨(ax p.data.toList).toArray⟩ _ (P.out.below d)).mono ?_
     rintro e w3 ⟨rfl,J⟩;rw[show aB L _=0 from M.out];have u:=f.trans (J.mono f.size);clear A E F G H d o f J;obtain⟨A,E,F,G,H,d,o⟩:=ak u
     go_wp2_with fail;refine(ed L _ p _ (P.out.below d)).mono ?_
     rintro e w4 ⟨rfl,K⟩;rw[T.out];have z:=u.trans (K.mono u.size);clear A E F G H d o u K;obtain⟨A,E,F,G,H,d,o⟩:=ak z
     obtain⟨d0,d1,d2,d3⟩:=he.below C7 d
     rw[Z]at d1;clear z Z d0 d2 d3;go_wp2;go_ret2;exact⟨rfl,d⟩
   · have M:Hid (aB L (ax q.data.toList)=0):=H0.out
     have T:=hid O;rw[←ae];clear ae O Y;go_enter func159,ntmps159
     go_wp2_with fail;refine(eN _ p q t b _ Q S (by omega)).mono ?_
     rintro e w1 ⟨rfl,y⟩;rw[V.out];obtain⟨A,E,F,G,H,d,o⟩:=ak y
     go_wp2_with fail;refine(ex q _ S).mono ?_
     rintro e w2 ⟨rfl,I⟩;have f:=y.trans (I.mono y.size);clear A E F G H d o y I;obtain⟨A,E,F,G,H,d,o⟩:=ak f
     go_wp2_with fail;refine(ez L v ⟨(ax q.data.toList).toArray⟩ _ (P.out.below d)).mono ?_
     rintro e w3 ⟨rfl,J⟩;rw[show aB L _=0 from M.out];have u:=f.trans (J.mono f.size);clear A E F G H d o f J;obtain⟨A,E,F,G,H,d,o⟩:=ak u
     go_wp2_with fail;refine(ed L v p _ (P.out.below d)).mono ?_
     rintro e w4 ⟨rfl,K⟩;rw[T.out];have z:=u.trans (K.mono u.size);clear A E F G H d o u K;obtain⟨A,E,F,G,H,d,o⟩:=ak z
     clear z;go_wp2;go_ret2;exact⟨rfl,d⟩
   · have M:Hid (aB L (ax p.data.toList)=0):=H0.out
     have T:=hid O;rw[←ae];clear ae O Y;go_enter func159,ntmps159
     go_wp2_with fail;refine(eN _ p q t b _ Q S (by omega)).mono ?_
     rintro e w1 ⟨rfl,y⟩;rw[V.out];obtain⟨A,E,F,G,H,d,o⟩:=ak y
     go_wp2_with fail;refine(ex p _ Q).mono ?_
     rintro e w2 ⟨rfl,I⟩;have f:=y.trans (I.mono y.size);clear A E F G H d o y I;obtain⟨A,E,F,G,H,d,o⟩:=ak f
     go_wp2_with fail;refine(ez L v ⟨(ax p.data.toList).toArray⟩ _ (P.out.below d)).mono ?_
     rintro e w3 ⟨rfl,J⟩;rw[show aB L _=0 from M.out];have u:=f.trans (J.mono f.size);clear A E F G H d o f J;obtain⟨A,E,F,G,H,d,o⟩:=ak u
     go_wp2_with fail;refine(ed L v p _ (P.out.below d)).mono ?_
     rintro e w4 ⟨rfl,K⟩;rw[T.out];have z:=u.trans (K.mono u.size);clear A E F G H d o u K;obtain⟨A,E,F,G,H,d,o⟩:=ak z
     clear z;go_wp2;go_ret2;exact⟨rfl,d⟩
   · have M:Hid (aB L (ax q.data.toList)=0):=H0.out
     have T:=hid O;have HX:=hid Z;rw[←ae];clear ae O Y Z;go_enter func159,ntmps159
     go_wp2_with fail;refine(eN _ p q t b _ Q S (by omega)).mono ?_
     rintro e w1 ⟨rfl,y⟩;rw[V.out];obtain⟨A,E,F,G,H,d,o⟩:=ak y
     go_wp2_with fail;refine(ex q _ S).mono ?_
     rintro e w2 ⟨rfl,I⟩;have f:=y.trans (I.mono y.size);clear A E F G H d o y I;obtain⟨A,E,F,G,H,d,o⟩:=ak f
     go_wp2_with fail;refine(ez L v ⟨(ax q.data.toList).toArray⟩ _ (P.out.below d)).mono ?_
     rintro e w3 ⟨rfl,J⟩;rw[show aB L _=0 from M.out];have u:=f.trans (J.mono f.size);clear A E F G H d o f J;obtain⟨A,E,F,G,H,d,o⟩:=ak u
     go_wp2_with fail;refine(ed L v p _ (P.out.below d)).mono ?_
     rintro e w4 ⟨rfl,K⟩;rw[T.out];have z:=u.trans (K.mono u.size);clear A E F G H d o u K;obtain⟨A,E,F,G,H,d,o⟩:=ak z
     go_wp2_with fail;refine(ee q p _ S Q).mono ?_
     rintro e w5 ⟨rfl,U⟩;rw[HX.out];have N:=z.trans (U.mono z.size);clear A E F G H d o z U;obtain⟨A,E,F,G,H,d,o⟩:=ak N
     clear N;go_wp2;go_ret2;exact⟨rfl,d⟩
   · have M:Hid (aB L (ax q.data.toList)=0):=H0.out
     have T:=hid O;have C6:=hid C5;have HX:=hid Z;rw[←ae];clear ae O Y Z C5;go_enter func159,ntmps159
     go_wp2_with fail;refine(eN _ p q t b _ Q S (by omega)).mono ?_
     rintro e w1 ⟨rfl,y⟩;rw[V.out];obtain⟨A,E,F,G,H,d,o⟩:=ak y
     go_wp2_with fail;refine(ex q _ S).mono ?_
     rintro e w2 ⟨rfl,I⟩;have f:=y.trans (I.mono y.size);clear A E F G H d o y I;obtain⟨A,E,F,G,H,d,o⟩:=ak f
     go_wp2_with fail;refine(ez L v ⟨(ax q.data.toList).toArray⟩ _ (P.out.below d)).mono ?_
     rintro e w3 ⟨rfl,J⟩;rw[show aB L _=0 from M.out];have u:=f.trans (J.mono f.size);clear A E F G H d o f J;obtain⟨A,E,F,G,H,d,o⟩:=ak u
     go_wp2_with fail;refine(ed L v p _ (P.out.below d)).mono ?_
     rintro e w4 ⟨rfl,K⟩;rw[T.out];have z:=u.trans (K.mono u.size);clear A E F G H d o u K;obtain⟨A,E,F,G,H,d,o⟩:=ak z
     go_wp2_with fail;refine(ee q p _ S Q).mono ?_
     rintro e w5 ⟨rfl,U⟩;rw[HX.out];have N:=z.trans (U.mono z.size);clear A E F G H d o z U;obtain⟨A,E,F,G,H,d,o⟩:=ak N
     go_wp2_with fail;refine(ed L v q _ (P.out.below d)).mono ?_
     rintro e w6 ⟨rfl,C4⟩;rw[C6.out];have X:=N.trans (C4.mono N.size);clear A E F G H d o N C4;obtain⟨A,E,F,G,H,d,o⟩:=ak X
     clear X;go_wp2;go_ret2;exact⟨rfl,d⟩
def oe (md:Region.Mode) (ops:Array Oper) (g dg:Nat):Array Bool→List (Nat×Nat)→Bool
 |_,[]=>true
 |listed,(i,d)::r=>((ops[i]?).map (fun o=>(o.dst,o.guard))==some (some d,some (g,true))) && d !=dg && Region.free md ops listed i && (Region.ready md ops listed).contains i && oe md ops g dg (listed.setIfInBounds i true) r
def i9:Array Bool→List (Nat×Nat)→Array Bool
 |listed,[]=>listed
 |listed,(i,_)::r=>i9 (listed.setIfInBounds i true) r
def ja:Act→List (Nat×Nat)→Act
 |a,[]=>a
 |a,(_,d)::r=>ja (a.put (some d) undef) r
theorem jG {P:Program} {A:Region.Mode} {f:Array Oper} {Q:Exit→Act→World→Prop} {S:World→Prop} {g dg:Nat} (H:Region.noSelect f=true) (u:(f[g]?).bind (·.dst)=some dg)
    (E: ∀c a (d:Nat) v w,Q (.panic c) (Act.put a (some d) v) w→Q (.panic c) a w) {w:World} (F:S w) {fuel:Nat}:
    ∀(l:List (Nat×Nat)) (e:Array Bool) (a:Act),oe A f g dg e l=true→a.tmps[dg]?=some (.bool false)→wpAnyH P A f Q S fuel (i9 e l) (ja a l) w→wpAnyH P A f Q S (fuel+l.length) e a w
 |[],_,_,_,_,h=>h
 |(i,d)::r,e,a,hok,ht,h=>by
  rw[oe]at hok;simp only[Bool.and_eq_true,beq_iff_eq,bne_iff_ne]at hok;obtain⟨⟨⟨⟨j,I⟩,J⟩,K⟩,M⟩:=hok
  cases y:f[i]? with
  |none=>rw[y]at j;cases j
  |some o=>
   rw[y]at j;simp only[Option.map_some,Option.some.injEq,Prod.mk.injEq]at j
   have N:Region.wanted o (yielded f a.tmps)=false:=by
    have O:yielded f a.tmps g=some false:=by
     unfold yielded;rw[u];simp only[Option.bind_some,ht]
    unfold Region.wanted;rw[j.2];simp[O]
   have z:(a.put (some d) undef).tmps[dg]?=some (.bool false):=by
    unfold Act.put;simp only;rw[Array.getElem?_setIfInBounds_ne (by exact I)];exact ht
   have ih:=jG H u E F r (e.setIfInBounds i true) (a.put (some d) undef) M z h;refine wpAnyH_take (i:=i) (oi:=o) (v:=undef) y H J K (fun c a w G=>E c a d undef w (by rw[j.1]at G;exact G)) (Or.inr ⟨N,rfl⟩) F ?_
   rw[j.1];exact ih
structure xY (p:Prop):Prop where
 out:p
theorem rF {p q:Prop} (h:xY p→q) (a:p):q:=h ⟨a⟩
theorem xZ {w:World} {base:Nat} {v:Value} {L:List (List UInt8)} (h:w.ownsRow base 9 1 v L.length (ag L)) (u:L≠[]):
    ∃g a,v= .slice (some ⟨g,0,none⟩) L.length a∧base≤g∧g<w.heap.size∧ ∀i (h:i<L.length),w.cell? ⟨g,i,none⟩=some (.string ⟨(L[i]).toArray⟩):=by
 have d:=h;obtain⟨A,y⟩:=h
 rcases y with⟨_,o⟩|⟨g,a,cur,rfl,z,j,F,E,o,f⟩
 · exact absurd (List.length_eq_zero_iff.1 o) u
 · have e:g<w.heap.size:=by
    rcases Nat.lt_or_ge g w.heap.size with h|h
    · exact h
    · rw[Array.getElem?_eq_none h]at j;cases j
   refine⟨g,a,rfl,z,e,fun i h=>?_⟩
   rw[d.cellAt i (by omega)];simp[ag,h]
theorem yf (a b:List (List UInt8)):ag a++ag b=ag (a++b):=by simp[ag]
theorem ia {w:World} {g:Nat} {L:List (List UInt8)} (h: ∀i (h:i<L.length),w.cell? ⟨g,i,none⟩=some (.string ⟨(L[i]).toArray⟩)) (o:Nat): ∀j u,(ag (L.drop o))[j]?=some u→w.cell? ((⟨g,o,none⟩:Addr).add j)=some u:=by
 intro j u f;simp only[ag,List.getElem?_map,List.getElem?_drop,Option.map_eq_some_iff]at f;obtain⟨x,y,rfl⟩:=f
 obtain⟨a,rfl⟩:=List.getElem?_eq_some_iff.1 y
 have e:=h (o+j) a;by_cases d:j=0
 · subst d;simpa[Addr.add]using e
 · simpa[Addr.add,d]using e
theorem gI (L:List (List UInt8)): ∀u∈ag L,u.oneCell'=true:=by
 intro u a;simp only[ag,List.mem_map]at a;obtain⟨x,_,rfl⟩:=a
 rfl
theorem yg (L:List (List UInt8)) (n g o cap:Nat) (w:World) (f:n=L.length) (d:(bB L).length≤1000000000) (j:L.length≤1000000000) (a: ∀i (h:i<L.length),w.cell? ⟨g,o+i,none⟩=some (.string ⟨(L[i]).toArray⟩)):
    Calls prog 127 #[.slice (some ⟨g,o,none⟩) n cap] w fun e w'=>e= .returned (.string ⟨(bB L).toArray⟩)∧w'=w:=by
 subst f;exact qB L g o cap w d j a
theorem lJ {f:En→Bool} {L:List En} {m:Nat} (a:m<L.length):(L.take (m+1)).filter f=if f L[m]=true then(L.take m).filter f++[L[m]]else(L.take m).filter f:=by
 rw[List.take_succ_eq_append_getElem a,List.filter_append,List.filter_cons];split<;>simp
theorem yh (a:List En) (x:En) (K:List En):dP (a++[x]) K=br x (dP a K):=by rw[dP,List.foldl_append];rfl
def cE (L:List En) (c:ar) (n:Int) (m:Nat):List En:=dP (((L.take m).filter (aK c.p.data.toList)).map (aX c n)) (bQ L c)
theorem yi (L:List En) (c:ar) (n:Int):cE L c n L.length=dP (dO L c n) (bQ L c):=by rw[cE,List.take_length];rfl
theorem yj {L:List En} {c:ar} {n:Int} {m:Nat} (a:m<L.length) (d:aK c.p.data.toList L[m]=false):cE L c n (m+1)=cE L c n m:=by
 rw[cE,lJ a,if_neg (by rw[d];decide)];rfl
theorem yk {L:List En} (u:Pp.Good L) {c:ar} {n:Int} {m:Nat} (f:(bQ L c++dO L c n).Pairwise eV) (z:m<L.length) (j:aK c.p.data.toList L[m]=true):eZ (aX c n L[m]) (cE L c n m)=cE L c n (m+1):=by
 have ay:ct L c=(L.take m).filter (aK c.p.data.toList)++L[m]::(L.drop (m+1)).filter (aK c.p.data.toList):=by
  have:L=L.take m++L[m]::L.drop (m+1):=by rw[List.getElem_cons_drop];exact(List.take_append_drop m L).symm
  rw[ct];conv=>lhs;rw[this]
  rw[List.filter_append,List.filter_cons,if_pos j]
 have o:dO L c n=((L.take m).filter (aK c.p.data.toList)).map (aX c n)++aX c n L[m]::((L.drop (m+1)).filter (aK c.p.data.toList)).map (aX c n):=by
  rw[dO,ay,List.map_append,List.map_cons]
 rw[o,←List.append_assoc]at f;have a:=List.pairwise_append.1 f;have E:(cE L c n m).Pairwise (fun x y=>Pp.lt x y=true):=kP _ (List.Pairwise.filter _ u.rise) a.1
 have A:bI (aX c n L[m]) (cE L c n m)=cE L c n m:=by
  rw[bI,List.filter_eq_self];intro y F;have e:y∈bQ L c++((L.take m).filter (aK c.p.data.toList)).map (aX c n):=(jr _ _).mem_iff.1 F;have d:=a.2.2 y e (aX c n L[m]) (by simp);rw[nX d];rfl
 rw[lB E,A,cE,cE,lJ z,if_pos j,List.map_append,List.map_cons,List.map_nil,yh]
theorem yl (L:List En) (c:ar) (n:Int) (m:Nat):(cE L c n m).length≤L.length:=by
 have a:(cE L c n m).length=(bQ L c).length+((L.take m).filter (aK c.p.data.toList)).length:=by
  rw[cE,(jr _ _).length_eq,List.length_append,List.length_map]
 have d:((L.take m).filter (aK c.p.data.toList)).length≤(L.filter (aK c.p.data.toList)).length:=((List.take_sublist m L).filter _).length_le
 have f:(bQ L c).length+(L.filter (aK c.p.data.toList)).length=L.length:=by
  rw[bQ]
  have: ∀(M:List En),(M.filter (fun e=> !aK c.p.data.toList e)).length+(M.filter (aK c.p.data.toList)).length=M.length:=by
   intro M;induction M with
   |nil=>rfl
   |cons x r ih=>
    rw[List.filter_cons,List.filter_cons];cases j:aK c.p.data.toList x<;>simp<;>omega
  exact this L
 omega
theorem yo {L:List En} {c:ar} {m:Nat} (a:m<L.length) (d:aK c.p.data.toList L[m]=true) (hb:Pp.big (bv c L[m])=true):(ct L c).any (fun e=>Pp.big (bv c e))=true:=
 List.any_eq_true.2 ⟨L[m],List.mem_filter.2 ⟨List.getElem_mem a,d⟩,hb⟩
theorem yr {L:List En} {c:ar} (h: ∀j (h:j<L.length),aK c.p.data.toList L[j]=true→Pp.big (bv c L[j])=false):(ct L c).any (fun e=>Pp.big (bv c e))=false:=
 List.any_eq_false.2 fun e f=>by
  obtain⟨a,d⟩:=List.mem_filter.1 f
  obtain⟨j,o,rfl⟩:=List.getElem_of_mem a
  rw[h j o d];decide
def bx (L:List En) (c:ar) (n:Int):Int:=if cO L c=true then 8 else et L c n
theorem og (x:En) (K:List En):(br x K).length=K.length+1:=by rw[(ir x K).length_eq];rfl
theorem kw {L:List En} {k:Int} {p q t:ByteArray} {b:Int} (hb: -1≤b) (h: ∀j (h:j<L.length),0≤b→b9 p.data.toList b L[j]=false):cO L ⟨k,p,q,t,b⟩=false:=by
 rw[cO];by_cases a:b= -1
 · simp[a]
 · rw[List.any_eq_false.2,Bool.and_false]
   intro x e;obtain⟨j,d,rfl⟩:=List.getElem_of_mem e
   rw[h j d (by omega)];decide
theorem kA {L:List En} {k:Int} {p q t:ByteArray} {b:Int} {j:Nat} (hb:0≤b) (f:j<L.length) (a:aI (L[j]).path.data.toList p.data.toList=true) (d:b<(L[j]).ver):cO L ⟨k,p,q,t,b⟩=true:=by
 rw[cO];have e:(b== -1)=false:=by simpa using (by omega: ¬b= -1)
 have:L.any (b9 p.data.toList b)=true:=List.any_eq_true.2 ⟨L[j],List.getElem_mem f,by rw[b9,aK,a];simp[d]⟩
 simp only[e,this];rfl
theorem kB {p:List UInt8} {b:Int} {e:En} (h:aI e.path.data.toList p=false):b9 p b e=false:=by rw[b9,aK,h,Bool.and_false]
theorem kC {p:List UInt8} {b:Int} {e:En} (h: ¬b<e.ver):b9 p b e=false:=by rw[b9];simp[h]
theorem yt {t:ByteArray} (h:t.data.toList=[]):t=⟨#[]⟩:=by
 cases t with
 |mk d=>cases d with
  |mk l=>simp at h;subst h;rfl
theorem yu (L:List En) (v:Value) (p q t:ByteArray) (b n:Int) (w:World) (hv:aj w v L) (hs: ∀e∈L,e.path.size≤1000000000) (hp:p.size≤1000000000) (hq:q.size≤1000000000) (ht:t.size≤1000000000) (hL:Pp.Good L) (hc:aC ⟨2,p,q,t,b⟩=0) (H0:Hid (aB L (ax p.data.toList)=0)) (HI:Hid (bX L p.data.toList= -1)):
    Calls prog 159 #[v,.agg #[.int .i64 2,.string p,.string q,.string t,.int .i64 b],.int .i64 n] w fun e w'=> ∃u,e= .returned (.tuple #[u,.int .i64 (bx L ⟨2,p,q,t,b⟩ n)])∧(bx L ⟨2,p,q,t,b⟩ n=0→aj w' u (bN L ⟨2,p,q,t,b⟩ n))∧Below w.heap.size w w':=by
 obtain⟨aQ,D6,D8,D9,Da⟩:=info_parts Tryz.infoE
 have HV:=hid hv;have HC:=hid hc;have HS:=hid hs;have HR:=hid hL.rise;have CZ:=hid hL;have CW:L.length≤60:=hL.len;have CR: -1≤b:=(iu hc).2.2.2.1;have D7:t.size≤1000000000:=by exact ht
 have HE:=hid (show et L ⟨2,p,q,t,b⟩ n=if 60<(bI (Pp.newE ⟨2,p,q,t,b⟩ n) L).length+1 then 2 else 0 from if_pos (Or.inr rfl));have HQ:=hid (show bN L ⟨2,p,q,t,b⟩ n=br (Pp.newE ⟨2,p,q,t,b⟩ n) (bI (Pp.newE ⟨2,p,q,t,b⟩ n) L)from if_pos (Or.inr rfl));obtain⟨a,D3,rfl,CV,CS,CD⟩:=hv
 have HL:Hid (∀i (h:i<L.length),∃b o,a=some ⟨b,o,none⟩∧b<w.heap.size∧cM w b (o+i*4) L[i]):=CD;obtain⟨C,hC⟩: ∃C:ar,C=⟨2,p,q,t,b⟩:=⟨_,rfl⟩
 rw[←hC]at HC HE HQ⊢;have Q:=hid hC;clear hC CD hL hs hc;go_enter func159,ntmps159
 go_wp2_with fail;refine(eN _ p q _ b _ hp hq (by omega)).mono ?_
 rintro e w1 ⟨rfl,F⟩;rw[←Q.out,HC.out];obtain⟨V,P,X,Y,T,f,z⟩:=ak F
 go_wp2_with fail;refine(ex p _ hp).mono ?_
 rintro e w2 ⟨rfl,CG⟩;have H:=F.trans (CG.mono F.size);clear V P X Y T f z F CG;obtain⟨V,P,X,Y,T,f,z⟩:=ak H
 go_wp2_with fail;refine(ez L _ ⟨(ax p.data.toList).toArray⟩ _ (HV.out.below f)).mono ?_
 rintro e w3 ⟨rfl,CH⟩;rw[show aB L _=0 from H0.out];have I:=H.trans (CH.mono H.size);clear V P X Y T f z H CH;obtain⟨V,P,X,Y,T,f,z⟩:=ak I
 go_wp2_with fail;refine(ed L _ p _ (HV.out.below f)).mono ?_
 rintro e w4 ⟨rfl,CI⟩;rw[HI.out];have C3:=I.trans (CI.mono I.size);clear V P X Y T f z I CI;obtain⟨V,P,X,Y,T,f,z⟩:=ak C3
 have HB:=hid C3;go_wp2_with fail;clear V P X Y T f z;go_loopw [11] (fun i wr=> ∃m:Nat,m≤L.length∧i= .int .i64 m∧Hid (∀j (h:j<L.length),j<m→b9 p.data.toList b L[j]=false)∧Below w4.heap.size w4 wr) (fun i _=>L.length-(intOf i).toNat)
 case atStart=>exact⟨0,Nat.zero_le _,rfl,(fun j _ h=>absurd h (Nat.not_lt_zero _): ∀j (h:j<L.length),j<0→b9 p.data.toList b L[j]=false),Below.refl _ _⟩
 case round=>
  obtain⟨m,hm,rfl,HP,E⟩:=hrel
  have C5:=HB.out.trans (E.mono HB.out.size);obtain⟨V,P,X,Y,T,f,z⟩:=ak C5
  by_cases CL:m<L.length∧0≤b
  · obtain⟨Z,CQ⟩:=CL
    obtain⟨b1,o1,CE,F,he⟩:=HL.out m Z
    first|subst CE|(have CF:=Option.some.inj CE;injection CF with ay e2 e3;have CO:=ay.symm;have CP:=e2.symm;subst CO;subst CP)
    obtain⟨d0,d1,d2,d3⟩:=he.below F f
    have C8:b1<wr.heap.size:=Nat.lt_of_lt_of_le F f.size;cases O:aI (L[m]).path.data.toList p.data.toList with
    |false=>
     have C6:=hid O;have N:=hid (kB (b:=b) (e:=L[m]) O);clear O;go_wp2_with fail;refine wp_region_held_drew (S:=fun W=>W.cell? ⟨b1,o1+m*4,none⟩=some (.string L[m].path)∧W.cell? ⟨w.heap.size,1,none⟩=some (.string p)) (by kernel_rfl) ⟨by simpa using d0,by simpa using P⟩ (fun d=>?_)
     refine wpAnyH_take (i:=0) (oi:=⟨some 103,Op.move (Operand.tmp 0),47,_,_,none⟩) (v:=?_) rfl (by kernel_rfl) (by kernel_rfl) (by kernel_rfl) (fun _ _ _ h=>h) (Or.inl ⟨by rfl,?_⟩) d ?_
     rotate_left
     · (intro W y;obtain⟨s0,s1⟩:=y;go_simp<;>with_reducible rfl)
     simp only[Act.put,List.setIfInBounds_toArray,List.set_cons_zero,List.set_cons_succ];refine wpAnyH_take (i:=1) (oi:=⟨some 104,Op.move (Operand.tmp 11),3,_,_,none⟩) (v:=?_) rfl (by kernel_rfl) (by kernel_rfl) (by kernel_rfl) (fun _ _ _ h=>h) (Or.inl ⟨by rfl,?_⟩) d ?_
     rotate_left
     · (intro W y;obtain⟨s0,s1⟩:=y;go_simp<;>with_reducible rfl)
     simp only[Act.put,List.setIfInBounds_toArray,List.set_cons_zero,List.set_cons_succ];refine wpAnyH_take (i:=2) (oi:=⟨some 105,Op.indexAddr 47 (Operand.tmp 103) (Operand.tmp 104),0,_,_,none⟩) (v:=?_) rfl (by kernel_rfl) (by kernel_rfl) (by kernel_rfl) (fun _ _ _ h=>h) (Or.inl ⟨by rfl,?_⟩) d ?_
     rotate_left
     · (intro W y;obtain⟨s0,s1⟩:=y;go_simp<;>with_reducible rfl)
     simp only[Act.put,List.setIfInBounds_toArray,List.set_cons_zero,List.set_cons_succ];refine wpAnyH_take (i:=3) (oi:=⟨some 106,Op.fieldAddr 108 (Operand.tmp 105) 0,0,_,_,none⟩) (v:=?_) rfl (by kernel_rfl) (by kernel_rfl) (by kernel_rfl) (fun _ _ _ h=>h) (Or.inl ⟨by rfl,?_⟩) d ?_
     rotate_left
     · (intro W y;obtain⟨s0,s1⟩:=y;go_simp<;>with_reducible rfl)
     simp only[Act.put,List.setIfInBounds_toArray,List.set_cons_zero,List.set_cons_succ];refine wpAnyH_take (i:=4) (oi:=⟨some 107,Op.load 9 (Operand.tmp 106),9,_,_,none⟩) (v:=?_) rfl (by kernel_rfl) (by kernel_rfl) (by kernel_rfl) (fun _ _ _ h=>h) (Or.inl ⟨by rfl,?_⟩) d ?_
     rotate_left
     · (intro W y;obtain⟨s0,s1⟩:=y;go_simp<;>with_reducible rfl)
     simp only[Act.put,List.setIfInBounds_toArray,List.set_cons_zero,List.set_cons_succ];refine wpAnyH_take (i:=5) (oi:=⟨some 108,Op.fieldAddr 55 (Operand.tmp 4) 1,0,_,_,none⟩) (v:=?_) rfl (by kernel_rfl) (by kernel_rfl) (by kernel_rfl) (fun _ _ _ h=>h) (Or.inl ⟨by rfl,?_⟩) d ?_
     rotate_left
     · (intro W y;obtain⟨s0,s1⟩:=y;go_simp<;>with_reducible rfl)
     simp only[Act.put,List.setIfInBounds_toArray,List.set_cons_zero,List.set_cons_succ];refine wpAnyH_take (i:=6) (oi:=⟨some 109,Op.load 9 (Operand.tmp 108),9,_,_,none⟩) (v:=?_) rfl (by kernel_rfl) (by kernel_rfl) (by kernel_rfl) (fun _ _ _ h=>h) (Or.inl ⟨by rfl,?_⟩) d ?_
     rotate_left
     · (intro W y;obtain⟨s0,s1⟩:=y;go_simp<;>with_reducible rfl)
     simp only[Act.put,List.setIfInBounds_toArray,List.set_cons_zero,List.set_cons_succ];refine wpAnyH_ready (rs:=[7]) (by kernel_rfl) (by simp) ?_
     refine AllReadyH.cons (o:=⟨some 110,Op.call ⟨Callee.value (Operand.func 210),#[Operand.tmp 107,Operand.tmp 109],#[9,9]⟩,4,_,_,none⟩) rfl (fun K hK=>?_) AllReadyH.nil
     go_simp
     refine(ee L[m].path p _ (HS.out _ (List.getElem_mem Z)) hp).mono ?_
     rintro e U ⟨rfl,A⟩;rw[C6.out];have k1:U.cell? ⟨b1,o1+m*4,none⟩=some (.string L[m].path):=(A.cell (p:=⟨b1,o1+m*4,none⟩) C8).trans d0;have k2:U.cell? ⟨w.heap.size,1,none⟩=some (.string p):=(A.cell (p:=⟨w.heap.size,1,none⟩) z).trans P;go_wp2_with fail;refine hK.out _ _ ⟨k1,k2⟩ (fun d=>?_)
     clear hK K;try simp only[Act.put,List.setIfInBounds_toArray,List.set_cons_zero,List.set_cons_succ]
     refine wpAnyH_take (i:=8) (oi:=⟨some 111,Op.move (Operand.tmp 110),4,_,_,none⟩) (v:=?_) rfl (by kernel_rfl) (by kernel_rfl) (by kernel_rfl) (fun _ _ _ h=>h) (Or.inl ⟨by rfl,?_⟩) d ?_
     rotate_left
     · (intro W y;obtain⟨s0,s1⟩:=y;go_simp<;>with_reducible rfl)
     simp only[Act.put,List.setIfInBounds_toArray,List.set_cons_zero,List.set_cons_succ];refine jG (g:=8) (dg:=111) (by kernel_rfl) (by kernel_rfl) (fun _ _ _ _ _ h=>h) d (fuel:=1) [(9,112),(10,113),(11,114),(12,115),(13,116),(14,117),(15,118),(16,119)] _ _ (by kernel_rfl) (by kernel_rfl) ?_
     simp only[i9,ja,Act.put,List.setIfInBounds_toArray,List.set_cons_zero,List.set_cons_succ];refine wpAnyH_take (i:=17) (oi:=⟨some 120,Op.pick (Operand.tmp 111) (Operand.tmp 119) (Operand.const (Value.bool false)),4,_,_,none⟩) (v:=?_) rfl (by kernel_rfl) (by kernel_rfl) (by kernel_rfl) (fun _ _ _ h=>h) (Or.inl ⟨by rfl,?_⟩) d ?_
     rotate_left
     · (intro W y;obtain⟨s0,s1⟩:=y;go_simp<;>with_reducible rfl)
     simp only[Act.put,List.setIfInBounds_toArray,List.set_cons_zero,List.set_cons_succ];refine wpAnyH_done (by kernel_rfl) ?_ _
     have G:Below w4.heap.size w4 U:=E.drew.trans (A.mono E.drew.size);go_wp2_with fail;go_roundw
     case rel=>exact⟨m+1,by omega,by simp,(fun j h1 h2=>by
      by_cases e:j=m
      · subst e;exact N.out
      · exact HP.out j h1 (by omega): ∀j (h:j<L.length),j<m+1→b9 p.data.toList b L[j]=false),G⟩
     case measure=>simp[intOf];omega
    |true=>
     have C6:=hid O;have HY:=hid (show b<(L[m]).ver→ ∀(k:Int) (q t:ByteArray),cO L ⟨k,p,q,t,b⟩=true from fun J k q t=>kA CQ Z O J);clear O;go_wp2_with fail
     go_region_held3 (fun W=>W.cell? ⟨b1,o1+m*4,none⟩=some (.string L[m].path)∧W.cell? ⟨w.heap.size,1,none⟩=some (.string p)∧W.cell? ⟨b1,o1+m*4+3,none⟩=some (.int .i64 L[m].ver)∧W.cell? ⟨w.heap.size,4,none⟩=some (.int .i64 b)) (go_keep) (first
      |(go_at_call 210;refine(ee L[m].path p _ (HS.out _ (List.getElem_mem Z)) hp).mono ?_;rintro e U ⟨rfl,A⟩;rw[C6.out];have k1:U.cell? ⟨b1,o1+m*4,none⟩=some (.string L[m].path):=(A.cell (p:=⟨b1,o1+m*4,none⟩) C8).trans d0;have k2:U.cell? ⟨w.heap.size,1,none⟩=some (.string p):=(A.cell (p:=⟨w.heap.size,1,none⟩) z).trans P;have k3:U.cell? ⟨b1,o1+m*4+3,none⟩=some (.int .i64 L[m].ver):=(A.cell (p:=⟨b1,o1+m*4+3,none⟩) C8).trans d3;have k4:U.cell? ⟨w.heap.size,4,none⟩=some (.int .i64 b):=(A.cell (p:=⟨w.heap.size,4,none⟩) z).trans T))
     by_cases J:b<(L[m]).ver
     · have N:=hid (HY.out J)
       have CK:Below w.heap.size w U:=f.drew.trans (A.mono f.drew.size);go_wp2_with fail;go_ret2;exact⟨_,by rw[bx,if_pos (by rw[Q.out];exact N.out _ _ _)];rfl,fun h=>by rw[bx,if_pos (by rw[Q.out];exact N.out _ _ _)]at h;exact absurd h (by decide),CK⟩
     · have N:=hid (kC (p:=p.data.toList) (b:=b) (e:=L[m]) J)
       have G:Below w4.heap.size w4 U:=E.drew.trans (A.mono E.drew.size);go_wp2_with fail;go_roundw
       case rel=>exact⟨m+1,by omega,by simp,(fun j h1 h2=>by
        by_cases e:j=m
        · subst e;exact N.out
        · exact HP.out j h1 (by omega): ∀j (h:j<L.length),j<m+1→b9 p.data.toList b L[j]=false),G⟩
       case measure=>simp[intOf];omega
  · have hN:cO L C=false:=by
     rw[Q.out];exact kw CR (fun j h h0=>HP.out j h (by omega))
    have HN:=hid hN;have CM: ¬m<L.length∨(m<L.length∧ ¬0≤b):=by omega
    clear hN CL HP hm;rcases CM with CM|⟨CX,CY⟩
    all_goals
     go_wp2_with fail;refine(lC L _ ⟨p,false,t,n⟩ _ (HV.out.below f) (by omega)).mono ?_
     rintro e w6 ⟨u,rfl,ho,CJ⟩;have HO:=hid (show w6.ownsRow wr.heap.size 108 4 u (eZ (Pp.newE C n) L).length (bw (eZ (Pp.newE C n) L))from by rw[Q.out];exact ho);have C4:Below w.heap.size w w6:=f.trans (CJ.mono f.size);clear ho CJ V P X Y T C5 E f z;rw[lB HR.out]at HO;have hM:=og (Pp.newE C n) (bI (Pp.newE C n) L);have hO:(bI (Pp.newE C n) L).length≤L.length:=List.length_filter_le _ _;rw[←HQ.out]at HO hM;obtain⟨M,C7⟩: ∃M,M=bN L C n:=⟨_,rfl⟩
     rw[←C7]at HO hM;have CN:=hid C7;clear C7;have C9:=hid (iw HO.out (by omega));obtain⟨a6,CT,rfl,D5,CU,_⟩:=C9.out
     by_cases D4:60<M.length
     · have CC:60<(M.length:Int):=by omega
       have HX:=hid (show bx L C n=2 from by rw[bx,if_neg (by rw[HN.out];decide),HE.out,if_pos (by omega)]);clear hM hO HO;go_wp2_with fail;go_ret2;exact⟨_,by rw[HX.out];rfl,fun h=>absurd (HX.out.symm.trans h) (by decide),C4⟩
     · have CC: ¬60<(M.length:Int):=by omega
       have HX:=hid (show bx L C n=0 from by rw[bx,if_neg (by rw[HN.out];decide),HE.out,if_neg (by omega)]);clear hM hO HO;go_wp2_with fail;go_ret2;exact⟨_,by rw[HX.out];rfl,fun _=>by rw[←CN.out];exact C9.out,C4⟩
end Go.Proofs.YtgamnckfmmbjdaaGreatDoor
