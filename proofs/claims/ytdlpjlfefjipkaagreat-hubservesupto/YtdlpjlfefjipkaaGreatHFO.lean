/- What the reference's ChangeOf answers, where a change has an error of form or of place. -/
import Derived.Test.YtdlpjlfefjipkaaGreatHFN
import Derived.Test.YtdlpjlfefjipkaaGreatHFK
import Derived.Test.YtdlpjlfefjipkaaGreatShelfG
set_option linter.unusedSimpArgs false
set_option linter.unusedVariables false
namespace Go.Proofs.YtdlpjlfefjipkaaGreat
open Go.RowKit Go.Proofs.Tryz
set_option maxHeartbeats 2000000
set_option maxRecDepth 100000
theorem zS {L:List En} {k:Int} {p q t:ByteArray} {b:Int} (A:1≤k∧k≤4) (h: ¬bN L ⟨k,p,q,t,b⟩=0):
    (¬aO L (aI (Pp.goal ⟨k,p,q,t,b⟩))=0∧bN L ⟨k,p,q,t,b⟩=aO L (aI (Pp.goal ⟨k,p,q,t,b⟩)))∨
    (aO L (aI (Pp.goal ⟨k,p,q,t,b⟩))=0∧(
     (k=1∧(∃j,∃h:j<L.length,cW L p.data.toList=(j:Int))∧6=bN L ⟨k,p,q,t,b⟩)∨
     (k=2∧(∃j,∃h:j<L.length,cW L p.data.toList=(j:Int)∧(L[j]).folder=true)∧4=bN L ⟨k,p,q,t,b⟩)∨
     ((k=3∨k=4)∧cW L p.data.toList= -1∧5=bN L ⟨k,p,q,t,b⟩)∨
     (k=3∧(∃j,∃h:j<L.length,cW L p.data.toList=(j:Int))∧a8 q.data.toList p.data.toList=true∧3=bN L ⟨k,p,q,t,b⟩)∨
     (k=3∧(∃j,∃h:j<L.length,cW L p.data.toList=(j:Int))∧a8 q.data.toList p.data.toList=false∧(∃j,∃h:j<L.length,cW L q.data.toList=(j:Int))∧6=bN L ⟨k,p,q,t,b⟩))):=by
 by_cases i:aO L (aI (Pp.goal ⟨k,p,q,t,b⟩))=0
 · refine Or.inr ⟨i,?_⟩
   have hE:bN L ⟨k,p,q,t,b⟩=match L.find? (aR p.data.toList)with
    |none=>if k=3∨k=4 then 5 else 0
    |some x=>if k=1 then 6 else if k=2 then(if x.folder=true then 4 else 0)
     else if k=3 then(if a8 q.data.toList p.data.toList=true then 3 else if(L.find? (aR q.data.toList)).isSome=true then 6 else 0)else 0:=by
    rw[bN,if_neg (fun x=>x i)];rfl
   rcases lW L p.data.toList with⟨f,u⟩|⟨j,o,f,u⟩
   · rw[u]at hE
     have a:k=3∨k=4:=by
      by_cases a:k=3∨k=4
      · exact a
      · rw[hE]at h;simp[a]at h
     exact Or.inr (Or.inr (Or.inl ⟨a,f,by rw[hE];simp only[if_pos a]⟩))
   · rw[u]at hE
     have v:k=1∨k=2∨k=3∨k=4:=by omega
     rcases v with rfl|rfl|rfl|rfl
     · exact Or.inl ⟨rfl,⟨j,o,f⟩,by rw[hE];rfl⟩
     · cases d:(L[j]).folder with
       |true=>exact Or.inr (Or.inl ⟨rfl,⟨j,o,f,d⟩,by rw[hE];simp[d]⟩)
       |false=>rw[hE]at h;simp[d]at h
     · cases d:a8 q.data.toList p.data.toList with
       |true=>exact Or.inr (Or.inr (Or.inr (Or.inl ⟨rfl,⟨j,o,f⟩,rfl,by rw[hE];simp[d]⟩)))
       |false=>
        rcases lW L q.data.toList with⟨g,c⟩|⟨z,s,g,c⟩
        · rw[hE]at h;simp[d,c]at h
        · exact Or.inr (Or.inr (Or.inr (Or.inr ⟨rfl,⟨j,o,f⟩,rfl,⟨z,s,g⟩,by rw[hE];simp[d,c]⟩)))
     · rw[hE]at h;simp at h
 · exact Or.inl ⟨i,by rw[bN,if_pos i]⟩
theorem zT {L:List En} {k:Int} {p q t:ByteArray} {b:Int} (v:1≤k∧k≤4) (h:bN L ⟨k,p,q,t,b⟩=0):
    aO L (aI (Pp.goal ⟨k,p,q,t,b⟩))=0∧(
     (k=1∧cW L p.data.toList= -1)∨(k=2∧cW L p.data.toList= -1)∨
     (k=2∧ ∃j,∃h:j<L.length,cW L p.data.toList=(j:Int)∧(L[j]).folder=false)∨
     (k=3∧(∃j,∃h:j<L.length,cW L p.data.toList=(j:Int))∧a8 q.data.toList p.data.toList=false∧cW L q.data.toList= -1∧L.find? (aR q.data.toList)=none)∨
     (k=4∧ ∃j,∃h:j<L.length,cW L p.data.toList=(j:Int))):=by
 have s:=mT h;refine⟨s,?_⟩
 have hE:bN L ⟨k,p,q,t,b⟩=match L.find? (aR p.data.toList)with
  |none=>if k=3∨k=4 then 5 else 0
  |some x=>if k=1 then 6 else if k=2 then(if x.folder=true then 4 else 0)
   else if k=3 then(if a8 q.data.toList p.data.toList=true then 3 else if(L.find? (aR q.data.toList)).isSome=true then 6 else 0)else 0:=by
  rw[bN,if_neg (fun x=>x s)];rfl
 rw[hE]at h;have o:k=1∨k=2∨k=3∨k=4:=by omega
 rcases lW L p.data.toList with⟨c,i⟩|⟨j,g,c,i⟩
 · rw[i]at h
   rcases o with rfl|rfl|rfl|rfl
   · exact Or.inl ⟨rfl,c⟩
   · exact Or.inr (Or.inl ⟨rfl,c⟩)
   · simp at h
   · simp at h
 · rw[i]at h
   rcases o with rfl|rfl|rfl|rfl
   · simp at h
   · cases f:(L[j]).folder with
     |true=>simp[f]at h
     |false=>exact Or.inr (Or.inr (Or.inl ⟨rfl,j,g,c,f⟩))
   · cases f:a8 q.data.toList p.data.toList with
     |true=>simp[f]at h
     |false=>
      rcases lW L q.data.toList with⟨d,a⟩|⟨z,u,d,a⟩
      · exact Or.inr (Or.inr (Or.inr (Or.inl ⟨rfl,⟨j,g,c⟩,rfl,d,a⟩)))
      · simp[f,a]at h
   · exact Or.inr (Or.inr (Or.inr (Or.inr ⟨rfl,j,g,c⟩)))
theorem zV (L:List En) (v:Value) (k:Int) (p q t:ByteArray) (b n:Int) (w:World) (g:p.size≤1000000000) (i:q.size≤1000000000) (z:t.size≤1000000000) (d: ¬aQ ⟨k,p,q,t,b⟩=0):
    Calls prog 85 #[v,.agg #[k,p,q,t,b],n] w fun e w'=>e= .returned (.tuple #[al,aQ ⟨k,p,q,t,b⟩])∧Below w.heap.size w w':=by
 have A:(aQ ⟨k,p,q,t,b⟩==0)=false:=by simpa using d
 go_enter func85,ntmps85
 go_wp2_with fail;refine(fM k p q t b _ g i (by omega)).mono ?_
 rintro e B ⟨rfl,a⟩;obtain⟨j,o,s,u,x,c,f⟩:=aC a
 clear a;go_wp2_with fail;go_ret2;exact⟨rfl,c⟩
theorem zW (L:List En) (v:Value) (k:Int) (p q t:ByteArray) (b n:Int) (w:World) (Q:aF w v L) (J:p.size≤1000000000) (K:q.size≤1000000000) (ht:t.size≤1000000000) (hc:aQ ⟨k,p,q,t,b⟩=0) (S: ¬bN L ⟨k,p,q,t,b⟩=0):
    Calls prog 85 #[v,.agg #[k,p,q,t,b],n] w fun e w'=>e= .returned (.tuple #[al,bN L ⟨k,p,q,t,b⟩])∧Below w.heap.size w w':=by
 have I:=hid Q;have O:=hid hc;have hk:1≤k∧k≤4:=je hc;rcases zS hk S with⟨Y,hE⟩|⟨Y,hr⟩
 · rw[hE]
   have hz:(aO L (aI (Pp.goal ⟨k,p,q,t,b⟩))==0)=false:=by simpa using Y
   clear hE Y S hc Q;by_cases h3:k=3
   · subst h3
     have hg:Pp.goal ⟨3,p,q,t,b⟩=q.data.toList:=rfl;rw[hg]at hz⊢;clear hg hk;go_enter func85,ntmps85
     go_wp2_with fail;refine(fM 3 p q t b _ J K (by omega)).mono ?_
     rintro e T ⟨rfl,i⟩;rw[O.out];obtain⟨s,u,x,z,A,c,f⟩:=aC i
     go_wp2_with fail;refine(fv q _ K).mono ?_
     rintro e U ⟨rfl,B⟩;have d:=c.trans (B.mono (Nat.le_of_lt f));clear s u x z A c f i B;go_wp2_with fail;refine(fw L v ⟨(aI q.data.toList).toArray⟩ _ (I.out.below d)).mono ?_
     rintro e V ⟨rfl,C⟩;rw[show aO L _=aO L (aI q.data.toList)from rfl];have g:=d.trans (C.mono d.size);clear d C;go_wp2;go_ret2;exact⟨rfl,g⟩
   · have hg:Pp.goal ⟨k,p,q,t,b⟩=p.data.toList:=if_neg h3
     have E6:(k==3)=false:=by simpa using h3
     rw[hg]at hz⊢;clear hg hk;go_enter func85,ntmps85
     go_wp2_with fail;refine(fM k p q t b _ J K (by omega)).mono ?_
     rintro e T ⟨rfl,i⟩;rw[O.out];obtain⟨s,u,x,z,A,c,f⟩:=aC i
     go_wp2_with fail;refine(fv p _ J).mono ?_
     rintro e U ⟨rfl,B⟩;have d:=c.trans (B.mono (Nat.le_of_lt f));clear s u x z A c f i B;go_wp2_with fail;refine(fw L v ⟨(aI p.data.toList).toArray⟩ _ (I.out.below d)).mono ?_
     rintro e V ⟨rfl,C⟩;rw[show aO L _=aO L (aI p.data.toList)from rfl];have g:=d.trans (C.mono d.size);clear d C;go_wp2;go_ret2;exact⟨rfl,g⟩
 · have X:Hid (aO L (aI (Pp.goal ⟨k,p,q,t,b⟩))=0):=Y
   clear S hc Y;rcases hr with⟨rfl,⟨j,hj,H⟩,hE⟩|⟨rfl,⟨j,hj,H,R⟩,hE⟩|⟨rfl|rfl,H,hE⟩|⟨rfl,⟨j,hj,H⟩,R,hE⟩|⟨rfl,⟨j,hj,H⟩,R,⟨j2,E7,E0⟩,hE⟩
   · have F:Hid (aO L (aI p.data.toList)=0):=X.out
     have M:=hid H;rw[←hE];clear hE H Q;go_enter func85,ntmps85
     go_wp2_with fail;refine(fM _ p q t b _ J K (by omega)).mono ?_
     rintro e T ⟨rfl,i⟩;rw[O.out];obtain⟨s,u,x,z,A,c,f⟩:=aC i
     go_wp2_with fail;refine(fv p _ J).mono ?_
     rintro e U ⟨rfl,B⟩;have d:=i.trans (B.mono i.size);clear s u x z A c f i B;obtain⟨s,u,x,z,A,c,f⟩:=aC d
     go_wp2_with fail;refine(fw L v ⟨(aI p.data.toList).toArray⟩ _ (I.out.below c)).mono ?_
     rintro e V ⟨rfl,C⟩;rw[show aO L _=0 from F.out];have g:=d.trans (C.mono d.size);clear s u x z A c f d C;obtain⟨s,u,x,z,A,c,f⟩:=aC g
     go_wp2_with fail;refine(eX L v p _ (I.out.below c)).mono ?_
     rintro e w4 ⟨rfl,E⟩;rw[M.out];have o:=g.trans (E.mono g.size);clear s u x z A c f g E;obtain⟨s,u,x,z,A,c,f⟩:=aC o
     clear o;go_wp2;go_ret2;exact⟨rfl,c⟩
   · have F:Hid (aO L (aI p.data.toList)=0):=X.out
     have M:=hid H;rw[←hE];clear hE H;obtain⟨a,E5,rfl,E4,E3,hL⟩:=Q
     obtain⟨b',o',rfl,E2,he⟩:=hL j hj
     have E8:(j:Int)<L.length:=by omega
     clear hL;go_enter func85,ntmps85
     go_wp2_with fail;refine(fM _ p q t b _ J K (by omega)).mono ?_
     rintro e T ⟨rfl,i⟩;rw[O.out];obtain⟨s,u,x,z,A,c,f⟩:=aC i
     go_wp2_with fail;refine(fv p _ J).mono ?_
     rintro e U ⟨rfl,B⟩;have d:=i.trans (B.mono i.size);clear s u x z A c f i B;obtain⟨s,u,x,z,A,c,f⟩:=aC d
     go_wp2_with fail;refine(fw L _ ⟨(aI p.data.toList).toArray⟩ _ (I.out.below c)).mono ?_
     rintro e V ⟨rfl,C⟩;rw[show aO L _=0 from F.out];have g:=d.trans (C.mono d.size);clear s u x z A c f d C;obtain⟨s,u,x,z,A,c,f⟩:=aC g
     go_wp2_with fail;refine(eX L _ p _ (I.out.below c)).mono ?_
     rintro e w4 ⟨rfl,E⟩;rw[M.out];have o:=g.trans (E.mono g.size);clear s u x z A c f g E;obtain⟨s,u,x,z,A,c,f⟩:=aC o
     obtain⟨d0,d1,d2,d3⟩:=he.below E2 c
     rw[R]at d1;clear o R d0 d2 d3;go_wp2;go_ret2;exact⟨rfl,c⟩
   · have F:Hid (aO L (aI q.data.toList)=0):=X.out
     have M:=hid H;rw[←hE];clear hE H Q;go_enter func85,ntmps85
     go_wp2_with fail;refine(fM _ p q t b _ J K (by omega)).mono ?_
     rintro e T ⟨rfl,i⟩;rw[O.out];obtain⟨s,u,x,z,A,c,f⟩:=aC i
     go_wp2_with fail;refine(fv q _ K).mono ?_
     rintro e U ⟨rfl,B⟩;have d:=i.trans (B.mono i.size);clear s u x z A c f i B;obtain⟨s,u,x,z,A,c,f⟩:=aC d
     go_wp2_with fail;refine(fw L v ⟨(aI q.data.toList).toArray⟩ _ (I.out.below c)).mono ?_
     rintro e V ⟨rfl,C⟩;rw[show aO L _=0 from F.out];have g:=d.trans (C.mono d.size);clear s u x z A c f d C;obtain⟨s,u,x,z,A,c,f⟩:=aC g
     go_wp2_with fail;refine(eX L v p _ (I.out.below c)).mono ?_
     rintro e w4 ⟨rfl,E⟩;rw[M.out];have o:=g.trans (E.mono g.size);clear s u x z A c f g E;obtain⟨s,u,x,z,A,c,f⟩:=aC o
     clear o;go_wp2;go_ret2;exact⟨rfl,c⟩
   · have F:Hid (aO L (aI p.data.toList)=0):=X.out
     have M:=hid H;rw[←hE];clear hE H Q;go_enter func85,ntmps85
     go_wp2_with fail;refine(fM _ p q t b _ J K (by omega)).mono ?_
     rintro e T ⟨rfl,i⟩;rw[O.out];obtain⟨s,u,x,z,A,c,f⟩:=aC i
     go_wp2_with fail;refine(fv p _ J).mono ?_
     rintro e U ⟨rfl,B⟩;have d:=i.trans (B.mono i.size);clear s u x z A c f i B;obtain⟨s,u,x,z,A,c,f⟩:=aC d
     go_wp2_with fail;refine(fw L v ⟨(aI p.data.toList).toArray⟩ _ (I.out.below c)).mono ?_
     rintro e V ⟨rfl,C⟩;rw[show aO L _=0 from F.out];have g:=d.trans (C.mono d.size);clear s u x z A c f d C;obtain⟨s,u,x,z,A,c,f⟩:=aC g
     go_wp2_with fail;refine(eX L v p _ (I.out.below c)).mono ?_
     rintro e w4 ⟨rfl,E⟩;rw[M.out];have o:=g.trans (E.mono g.size);clear s u x z A c f g E;obtain⟨s,u,x,z,A,c,f⟩:=aC o
     clear o;go_wp2;go_ret2;exact⟨rfl,c⟩
   · have F:Hid (aO L (aI q.data.toList)=0):=X.out
     have M:=hid H;have HX:=hid R;rw[←hE];clear hE H Q R;go_enter func85,ntmps85
     go_wp2_with fail;refine(fM _ p q t b _ J K (by omega)).mono ?_
     rintro e T ⟨rfl,i⟩;rw[O.out];obtain⟨s,u,x,z,A,c,f⟩:=aC i
     go_wp2_with fail;refine(fv q _ K).mono ?_
     rintro e U ⟨rfl,B⟩;have d:=i.trans (B.mono i.size);clear s u x z A c f i B;obtain⟨s,u,x,z,A,c,f⟩:=aC d
     go_wp2_with fail;refine(fw L v ⟨(aI q.data.toList).toArray⟩ _ (I.out.below c)).mono ?_
     rintro e V ⟨rfl,C⟩;rw[show aO L _=0 from F.out];have g:=d.trans (C.mono d.size);clear s u x z A c f d C;obtain⟨s,u,x,z,A,c,f⟩:=aC g
     go_wp2_with fail;refine(eX L v p _ (I.out.below c)).mono ?_
     rintro e w4 ⟨rfl,E⟩;rw[M.out];have o:=g.trans (E.mono g.size);clear s u x z A c f g E;obtain⟨s,u,x,z,A,c,f⟩:=aC o
     go_wp2_with fail;refine(eZ q p _ K J).mono ?_
     rintro e w5 ⟨rfl,N⟩;rw[HX.out];have G:=o.trans (N.mono o.size);clear s u x z A c f o N;obtain⟨s,u,x,z,A,c,f⟩:=aC G
     clear G;go_wp2;go_ret2;exact⟨rfl,c⟩
   · have F:Hid (aO L (aI q.data.toList)=0):=X.out
     have M:=hid H;have E1:=hid E0;have HX:=hid R;rw[←hE];clear hE H Q R E0;go_enter func85,ntmps85
     go_wp2_with fail;refine(fM _ p q t b _ J K (by omega)).mono ?_
     rintro e T ⟨rfl,i⟩;rw[O.out];obtain⟨s,u,x,z,A,c,f⟩:=aC i
     go_wp2_with fail;refine(fv q _ K).mono ?_
     rintro e U ⟨rfl,B⟩;have d:=i.trans (B.mono i.size);clear s u x z A c f i B;obtain⟨s,u,x,z,A,c,f⟩:=aC d
     go_wp2_with fail;refine(fw L v ⟨(aI q.data.toList).toArray⟩ _ (I.out.below c)).mono ?_
     rintro e V ⟨rfl,C⟩;rw[show aO L _=0 from F.out];have g:=d.trans (C.mono d.size);clear s u x z A c f d C;obtain⟨s,u,x,z,A,c,f⟩:=aC g
     go_wp2_with fail;refine(eX L v p _ (I.out.below c)).mono ?_
     rintro e w4 ⟨rfl,E⟩;rw[M.out];have o:=g.trans (E.mono g.size);clear s u x z A c f g E;obtain⟨s,u,x,z,A,c,f⟩:=aC o
     go_wp2_with fail;refine(eZ q p _ K J).mono ?_
     rintro e w5 ⟨rfl,N⟩;rw[HX.out];have G:=o.trans (N.mono o.size);clear s u x z A c f o N;obtain⟨s,u,x,z,A,c,f⟩:=aC G
     go_wp2_with fail;refine(eX L v q _ (I.out.below c)).mono ?_
     rintro e w6 ⟨rfl,Z⟩;rw[E1.out];have P:=G.trans (Z.mono G.size);clear s u x z A c f G Z;obtain⟨s,u,x,z,A,c,f⟩:=aC P
     clear P;go_wp2;go_ret2;exact⟨rfl,c⟩
def pZ (md:Region.Mode) (ops:Array Oper) (g dg:Nat):Array Bool→List (Nat×Nat)→Bool
 |_,[]=>true
 |listed,(i,d)::r=>((ops[i]?).map (fun o=>(o.dst,o.guard))==some (some d,some (g,true))) && d !=dg && Region.free md ops listed i && (Region.ready md ops listed).contains i && pZ md ops g dg (listed.setIfInBounds i true) r
def kp:Array Bool→List (Nat×Nat)→Array Bool
 |listed,[]=>listed
 |listed,(i,_)::r=>kp (listed.setIfInBounds i true) r
def kr:Act→List (Nat×Nat)→Act
 |a,[]=>a
 |a,(_,d)::r=>kr (a.put (some d) undef) r
theorem lk {P:Program} {A:Region.Mode} {j:Array Oper} {Q:Exit→Act→World→Prop} {S:World→Prop} {g dg:Nat} (F:Region.noSelect j=true) (u:(j[g]?).bind (·.dst)=some dg)
    (B: ∀c a (d:Nat) v w,Q (.panic c) (Act.put a (some d) v) w→Q (.panic c) a w) {w:World} (C:S w) {fuel:Nat}:
    ∀(l:List (Nat×Nat)) (f:Array Bool) (a:Act),pZ A j g dg f l=true→a.tmps[dg]?=some (.bool false)→wpAnyH P A j Q S fuel (kp f l) (kr a l) w→wpAnyH P A j Q S (fuel+l.length) f a w
 |[],_,_,_,_,h=>h
 |(i,d)::r,f,a,hok,ht,h=>by
  rw[pZ]at hok;simp only[Bool.and_eq_true,beq_iff_eq,bne_iff_ne]at hok;obtain⟨⟨⟨⟨s,G⟩,H⟩,I⟩,J⟩:=hok
  cases x:j[i]? with
  |none=>rw[x]at s;cases s
  |some o=>
   rw[x]at s;simp only[Option.map_some,Option.some.injEq,Prod.mk.injEq]at s
   have K:Region.wanted o (yielded j a.tmps)=false:=by
    have M:yielded j a.tmps g=some false:=by
     unfold yielded;rw[u];simp only[Option.bind_some,ht]
    unfold Region.wanted;rw[s.2];simp[M]
   have z:(a.put (some d) undef).tmps[dg]?=some (.bool false):=by
    unfold Act.put;simp only;rw[Array.getElem?_setIfInBounds_ne (by exact G)];exact ht
   have ih:=lk F u B C r (f.setIfInBounds i true) (a.put (some d) undef) J z h;refine wpAnyH_take (i:=i) (oi:=o) (v:=undef) x F H I (fun c a w E=>B c a d undef w (by rw[s.1]at E;exact E)) (Or.inr ⟨K,rfl⟩) C ?_
   rw[s.1];exact ih
structure zX (p:Prop):Prop where
 out:p
theorem tJ {p q:Prop} (h:zX p→q) (a:p):q:=h ⟨a⟩
theorem zY {w:World} {base:Nat} {v:Value} {L:List (List UInt8)} (h:w.ownsRow base 9 1 v L.length (Pp.vs L)) (s:L≠[]):
    ∃g a,v= .slice (some ⟨g,0,none⟩) L.length a∧base≤g∧g<w.heap.size∧ ∀i (h:i<L.length),w.cell? ⟨g,i,none⟩=some (.string ⟨(L[i]).toArray⟩):=by
 have c:=h;obtain⟨z,u⟩:=h
 rcases u with⟨_,o⟩|⟨g,a,cur,rfl,x,j,B,A,o,f⟩
 · exact absurd (List.length_eq_zero_iff.1 o) s
 · have d:g<w.heap.size:=by
    rcases Nat.lt_or_ge g w.heap.size with h|h
    · exact h
    · rw[Array.getElem?_eq_none h]at j;cases j
   refine⟨g,a,rfl,x,d,fun i h=>?_⟩
   rw[c.cellAt i (by omega)];simp[Pp.vs,h]
theorem zZ (a b:List (List UInt8)):Pp.vs a++Pp.vs b=Pp.vs (a++b):=by simp[Pp.vs]
theorem js {w:World} {g:Nat} {L:List (List UInt8)} (h: ∀i (h:i<L.length),w.cell? ⟨g,i,none⟩=some (.string ⟨(L[i]).toArray⟩)) (o:Nat): ∀j u,(Pp.vs (L.drop o))[j]?=some u→w.cell? ((⟨g,o,none⟩:Addr).add j)=some u:=by
 intro j u d;simp only[Pp.vs,List.getElem?_map,List.getElem?_drop,Option.map_eq_some_iff]at d;obtain⟨x,f,rfl⟩:=d
 obtain⟨a,rfl⟩:=List.getElem?_eq_some_iff.1 f
 have e:=h (o+j) a;by_cases c:j=0
 · subst c;simpa[Addr.add]using e
 · simpa[Addr.add,c]using e
theorem iO (L:List (List UInt8)): ∀u∈Pp.vs L,u.oneCell'=true:=by
 intro u a;simp only[Pp.vs,List.mem_map]at a;obtain⟨x,_,rfl⟩:=a
 rfl
theorem z7 (L:List (List UInt8)) (n g o cap:Nat) (w:World) (d:n=L.length) (c:(cr L).length≤1000000000) (f:L.length≤1000000000) (a: ∀i (h:i<L.length),w.cell? ⟨g,o+i,none⟩=some (.string ⟨(L[i]).toArray⟩)):
    Calls prog 116 #[.slice (some ⟨g,o,none⟩) n cap] w fun e w'=>e= .returned (.string ⟨(cr L).toArray⟩)∧w'=w:=by
 subst d;exact te L g o cap w c f a
theorem nG {f:En→Bool} {L:List En} {m:Nat} (a:m<L.length):(L.take (m+1)).filter f=if f L[m]=true then(L.take m).filter f++[L[m]]else(L.take m).filter f:=by
 rw[List.take_succ_eq_append_getElem a,List.filter_append,List.filter_cons];split<;>simp
theorem z8 (a:List En) (x:En) (K:List En):eN (a++[x]) K=b7 x (eN a K):=by rw[eN,List.foldl_append];rfl
def dF (L:List En) (c:aE) (n:Int) (m:Nat):List En:=eN (((L.take m).filter (bf c.p.data.toList)).map (bG c n)) (cT L c)
theorem Aa (L:List En) (c:aE) (n:Int):dF L c n L.length=eN (eM L c n) (cT L c):=by rw[dF,List.take_length];rfl
theorem Ab {L:List En} {c:aE} {n:Int} {m:Nat} (a:m<L.length) (d:bf c.p.data.toList L[m]=false):dF L c n (m+1)=dF L c n m:=by
 rw[dF,nG a,if_neg (by rw[d];decide)];rfl
theorem Ac {L:List En} (o:Pp.Good L) {c:aE} {n:Int} {m:Nat} (g:(cT L c++eM L c n).Pairwise fZ) (s:m<L.length) (i:bf c.p.data.toList L[m]=true):gm (bG c n L[m]) (dF L c n m)=dF L c n (m+1):=by
 have j:dw L c=(L.take m).filter (bf c.p.data.toList)++L[m]::(L.drop (m+1)).filter (bf c.p.data.toList):=by
  have:L=L.take m++L[m]::L.drop (m+1):=by rw[List.getElem_cons_drop];exact(List.take_append_drop m L).symm
  rw[dw];conv=>lhs;rw[this]
  rw[List.filter_append,List.filter_cons,if_pos i]
 have e2:eM L c n=((L.take m).filter (bf c.p.data.toList)).map (bG c n)++bG c n L[m]::((L.drop (m+1)).filter (bf c.p.data.toList)).map (bG c n):=by
  rw[eM,j,List.map_append,List.map_cons]
 rw[e2,←List.append_assoc]at g;have a:=List.pairwise_append.1 g;have v:(dF L c n m).Pairwise (fun x y=>Pp.lt x y=true):=mR _ (List.Pairwise.filter _ o.rise) a.1
 have u:cJ (bG c n L[m]) (dF L c n m)=dF L c n m:=by
  rw[cJ,List.filter_eq_self];intro y z;have f:y∈cT L c++((L.take m).filter (bf c.p.data.toList)).map (bG c n):=(kU _ _).mem_iff.1 z;have d:=a.2.2 y f (bG c n L[m]) (by simp);rw[pM d];rfl
 rw[nr v,u,dF,dF,nG s,if_pos i,List.map_append,List.map_cons,List.map_nil,z8]
theorem Ad (L:List En) (c:aE) (n:Int) (m:Nat):(dF L c n m).length≤L.length:=by
 have a:(dF L c n m).length=(cT L c).length+((L.take m).filter (bf c.p.data.toList)).length:=by
  rw[dF,(kU _ _).length_eq,List.length_append,List.length_map]
 have d:((L.take m).filter (bf c.p.data.toList)).length≤(L.filter (bf c.p.data.toList)).length:=((List.take_sublist m L).filter _).length_le
 have f:(cT L c).length+(L.filter (bf c.p.data.toList)).length=L.length:=by
  rw[cT]
  have: ∀(M:List En),(M.filter (fun e=> !bf c.p.data.toList e)).length+(M.filter (bf c.p.data.toList)).length=M.length:=by
   intro M;induction M with
   |nil=>rfl
   |cons x r ih=>
    rw[List.filter_cons,List.filter_cons];cases g:bf c.p.data.toList x<;>simp<;>omega
  exact this L
 omega
theorem Ae {L:List En} {c:aE} {m:Nat} (d:m<L.length) (f:bf c.p.data.toList L[m]=true) (a:bv (cp c L[m])=true):(dw L c).any (fun e=>bv (cp c e))=true:=
 List.any_eq_true.2 ⟨L[m],List.mem_filter.2 ⟨List.getElem_mem d,f⟩,a⟩
theorem Af {L:List En} {c:aE} (h: ∀j (h:j<L.length),bf c.p.data.toList L[j]=true→bv (cp c L[j])=false):(dw L c).any (fun e=>bv (cp c e))=false:=
 List.any_eq_false.2 fun e f=>by
  obtain⟨a,d⟩:=List.mem_filter.1 f
  obtain⟨j,g,rfl⟩:=List.getElem_of_mem a
  rw[h j g d];decide
def Pp.rstE (L:List En) (c:aE) (n:Int):Int:=if dL L c=true then 8 else fk L c n
theorem p8 (x:En) (K:List En):(b7 x K).length=K.length+1:=by rw[(jF x K).length_eq];rfl
theorem me {L:List En} {k:Int} {p q t:ByteArray} {b:Int} (f: -1≤b) (h: ∀j (h:j<L.length),0≤b→da p.data.toList b L[j]=false):dL L ⟨k,p,q,t,b⟩=false:=by
 rw[dL];by_cases a:b= -1
 · simp[a]
 · rw[List.any_eq_false.2,Bool.and_false]
   intro x d;obtain⟨j,c,rfl⟩:=List.getElem_of_mem d
   rw[h j c (by omega)];decide
theorem mh {L:List En} {k:Int} {p q t:ByteArray} {b:Int} {j:Nat} (f:0≤b) (d:j<L.length) (a:a8 (L[j]).path.data.toList p.data.toList=true) (c:b<(L[j]).ver):dL L ⟨k,p,q,t,b⟩=true:=by
 rw[dL];have e:(b== -1)=false:=by simpa using (by omega: ¬b= -1)
 have:L.any (da p.data.toList b)=true:=List.any_eq_true.2 ⟨L[j],List.getElem_mem d,by rw[da,bf,a];simp[c]⟩
 simp only[e,this];rfl
theorem mi {p:List UInt8} {b:Int} {e:En} (h:a8 e.path.data.toList p=false):da p b e=false:=by rw[da,bf,h,Bool.and_false]
theorem mj {p:List UInt8} {b:Int} {e:En} (h: ¬b<e.ver):da p b e=false:=by rw[da];simp[h]
theorem Ag {t:ByteArray} (h:t.data.toList=[]):t=⟨#[]⟩:=by
 cases t with
 |mk d=>cases d with
  |mk l=>simp at h;subst h;rfl
def aN (x y:ByteArray):Bool:=Op.bytesLess x.toList y.toList
theorem tK (x:ByteArray):aN x x=false:=dU ⟨x,false,x,0⟩
theorem tL (x y z:ByteArray) (a:aN x y=true) (c:aN y z=true):aN x z=true:=fY ⟨x,false,x,0⟩ ⟨y,false,y,0⟩ ⟨z,false,z,0⟩ a c
theorem kt (x y z:ByteArray) (a:aN x y=false) (c:aN y z=false):aN x z=false:=rB ⟨x,false,x,0⟩ ⟨y,false,y,0⟩ ⟨z,false,z,0⟩ a c
def a7 (a b:Gr):Bool:=aN a.fo b.fo||(!(aN b.fo a.fo) && aN a.wh b.wh)
theorem nH (a b:Gr):decide (bI a b<0)=a7 a b:=by
 rcases ir a.fo b.fo with⟨d,s,j,z⟩|⟨d,s,j,z⟩|⟨d,s,j,z⟩
 · have g:aN a.fo b.fo=true:=d
   have i:=nB (a:=a) (b:=b) (Or.inl d);rw[a7,g];simp[i]
 · have g:aN a.fo b.fo=false:=d
   have c:aN b.fo a.fo=false:=s;rcases ir a.wh b.wh with⟨f,u,v,x⟩|⟨f,u,v,x⟩|⟨f,u,v,x⟩
   · have i:=nB (a:=a) (b:=b) (Or.inr ⟨j,d,f⟩)
     have o:aN a.wh b.wh=true:=f;rw[a7,g,c,o];simp[i]
   · have i:=lj (a:=a) (b:=b) (Or.inr ⟨j,d,f⟩)
     have o:aN a.wh b.wh=false:=f;rw[a7,g,c,o];simp;omega
   · have i:=lj (a:=a) (b:=b) (Or.inr ⟨j,d,f⟩)
     have o:aN a.wh b.wh=false:=f;rw[a7,g,c,o];simp;omega
 · have g:aN a.fo b.fo=false:=d
   have c:aN b.fo a.fo=true:=s;have i:=lj (a:=a) (b:=b) (Or.inl ⟨d,j⟩);rw[a7,g,c];simp;omega
theorem nI (a b:Gr):ltOf bI a b=a7 a b:=nH a b
theorem tM (a:Gr):a7 a a=false:=by rw[a7,tK,tK];rfl
theorem ml (a b c:Gr) (f:a7 a b=true) (d:a7 b c=true):a7 a c=true:=by
 simp only[a7,Bool.or_eq_true,Bool.and_eq_true,Bool.not_eq_true']at*;rcases f with f|⟨f,i⟩
 · rcases d with d|⟨d,g⟩
   · exact Or.inl (tL _ _ _ f d)
   · left
     cases h:aN a.fo c.fo with
     |true=>rfl
     |false=>have:=kt _ _ _ h d;rw[this]at f;cases f
 · rcases d with d|⟨d,g⟩
   · left
     cases h:aN a.fo c.fo with
     |true=>rfl
     |false=>have:=kt _ _ _ f h;rw[this]at d;cases d
   · exact Or.inr ⟨kt _ _ _ d f,tL _ _ _ i g⟩
theorem tN (a b c:Gr) (f:a7 a b=false) (g:a7 b c=false):a7 a c=false:=by
 simp only[a7,Bool.or_eq_false_iff,Bool.and_eq_false_iff,Bool.not_eq_false']at*;obtain⟨f,i⟩:=f
 obtain⟨g,j⟩:=g
 refine⟨kt _ _ _ f g,?_⟩
 rcases i with h|h
 · left
   cases o:aN c.fo a.fo with
   |true=>rfl
   |false=>have:=kt _ _ _ g o;rw[this]at h;cases h
 · rcases j with d|d
   · left
     cases o:aN c.fo a.fo with
     |true=>rfl
     |false=>have:=kt _ _ _ o f;rw[this]at d;cases d
   · exact Or.inr (kt _ _ _ h d)
theorem Ah:Sort.SWO (ltOf bI) where
 irrefl x:=by rw[nI];exact tM x
 trans x y z h1 h2:=by rw[nI]at*;exact ml x y z h1 h2
 ntrans x y z h1 h2:=by rw[nI]at*;exact tN x y z h1 h2
def cd (e:Gr):List Value:=[.string e.fo,.string e.wh,.int .i64 e.ri]
def dp (G:List Gr):List Value:=G.flatMap cd
theorem fx (e:Gr): ∀u∈cd e,u.oneCell'=true:=by
 intro u a;simp only[cd,List.mem_cons,List.not_mem_nil,or_false]at a;rcases a with rfl|rfl|rfl<;>rfl
theorem tO: ∀(L:List Gr) (i c:Nat) (h:i<L.length),c<3→(dp L)[i*3+c]?=(cd L[i])[c]?
 |[],i,c,h,_=>absurd h (Nat.not_lt_zero _)
 |a::r,0,c,_,hc=>by
  rw[dp,List.flatMap_cons,Nat.zero_mul,Nat.zero_add,List.getElem?_append_left (by simpa[cd]using hc)];rfl
 |a::r,i+1,c,h,hc=>by
  have ih:=tO r i c (by simpa using h) hc;rw[dp,List.flatMap_cons,List.getElem?_append_right (by simp[cd];omega)];rw[show(i+1)*3+c-(cd a).length=i*3+c by simp[cd];omega];exact ih
theorem tP (e:Gr) (c:Nat) (a:c<3):(cd e)[c]?=some ((cd e)[c]!):=by
 have:c<(cd e).length:=by simpa[cd]using a
 rw[List.getElem?_eq_getElem this,getElem!_pos _ c this]
theorem fN (L:List Gr) (e:Gr):dp L++cd e=dp (L++[e]):=by simp[dp]
theorem tQ [Inhabited Gr] {w:World} {base g n cap:Nat} {T:TypeId} {L:List Gr} (h:w.ownsRow base T 3 (.slice (some ⟨g,0,none⟩) n cap) n (dp L)) (f:n=L.length):Sort.HoldsK cd 3 w g 0 L.toArray:=by
 subst f;intro j a;rw[Sort.size_flatK,List.size_toArray]at a;refine⟨?_,by rw[Nat.zero_add];exact h.frozenAt j⟩
 rw[Nat.zero_add,h.cellAt j a,id,Sort.get_flatK _ _ _ _ (by simpa using a)];have c:j/3<L.length:=by omega
 have d:=tO L (j/3) (j % 3) c (by omega);rw[show j/3*3+j % 3=j by omega]at d;rw[d,tP _ _ (by omega)];have e:L.toArray[j/3]! =L[j/3]:=by rw[getElem!_pos _ _ (by simpa using c)];simp
 rw[e]
theorem Pp.liesG_holds [Inhabited Gr] {w:World} {g cap:Nat} {d:Array Gr} (u:g<w.heap.size) (h:Sort.HoldsK cd 3 w g 0 d) (s:d.size≤cap) (a:d.size≤1000000000000000):bj w (.slice (some ⟨g,0,none⟩) d.size cap) d.toList:=by
 refine⟨some ⟨g,0,none⟩,cap,by simp,by simpa using s,by simpa using a,fun i v=>⟨g,0,rfl,u,?_⟩⟩
 have j:i<d.size:=by simpa using v
 have e:d[i]! =d.toList[i]:=by rw[getElem!_pos d i j];simp
 have key: ∀c,c<3→w.cell? ⟨g,0+i*3+c,none⟩=(cd d.toList[i])[c]?:=by
  intro c f;have o:i*3+c<d.size*3:=by omega
  have:=(h (i*3+c) (by rw[Sort.size_flatK];exact o)).1
  rw[id,Sort.get_flatK _ _ _ _ o,show(i*3+c)/3=i by omega,show(i*3+c) % 3=c by omega,e,←tP _ c f]at this;rw[Nat.add_assoc];exact this
 exact⟨key 0 (by omega),key 1 (by omega),key 2 (by omega)⟩
theorem Ai {B:Nat} {w0 w:World} (h:Below B w0 w) (a:B≤w.heap.size) (os:Array Obj):Below B w0 (Sort.grow w os):=
 h.trans ⟨rfl,rfl,rfl,by simp[Sort.grow],fun k c=>by simp[Sort.grow,Array.getElem?_append_left (show k<w.heap.size by omega)]⟩
theorem Aj (a b:Int) (g:Nat) (w:World) (v:w.cell? ⟨g,0,none⟩=some (.int .i64 a)) (x:w.cell? ⟨g,1,none⟩=some (.int .i64 b)):
    Calls prog 126 #[.slice (some ⟨g,0,none⟩) 2 2] w fun e w'=>e= .returned (.int .i64 (if a=0 then b else a))∧w'=w:=by
 have z:=ac v;have A:=ac x;clear v x;obtain⟨r,u⟩: ∃r,r=if a=0 then b else a:=⟨_,rfl⟩
 rw[←u];have s:=ac u;clear u;go_enter func126,ntmps126
 go_wp2;go_loopw [8] (fun i wr=>(i= .int .i64 0∨(i= .int .i64 1∧a=0)∨(i= .int .i64 2∧a=0∧b=0))∧wr=w) (fun i _=>2-(intOf i).toNat)
 case atStart=>exact⟨Or.inl rfl,rfl⟩
 case round=>
  obtain⟨B,c⟩:=hrel
  have E:wr.cell? ⟨g,0,none⟩=some (.int .i64 a):=c▸z.out;have F:wr.cell? ⟨g,1,none⟩=some (.int .i64 b):=c▸A.out;have f:=ac c;clear c;rcases B with rfl|⟨rfl,d⟩|⟨rfl,d,o⟩
  · by_cases d:a=0
    · subst d
      go_wp2;go_roundw
      case rel=>exact⟨by simp,f.out⟩
      case measure=>simp[intOf]
    · have j:=hid (show a=r from by rw[s.out,if_neg d])
      have C:(a==0)=false:=by simpa using d
      go_wp2;go_ret;exact⟨aB j.out,f.out⟩
  · subst d
    by_cases o:b=0
    · subst o
      go_wp2;go_roundw
      case rel=>exact⟨by simp,f.out⟩
      case measure=>simp[intOf]
    · have j:=hid (show b=r from by rw[s.out,if_pos rfl])
      have C:(b==0)=false:=by simpa using o
      go_wp2;go_ret;exact⟨aB j.out,f.out⟩
  · subst d
    subst o;have j:=hid (show(0:Int)=r from by rw[s.out,if_pos rfl]);go_wp2;go_ret;exact⟨aB j.out,f.out⟩
theorem Ak (a b:Gr) (w:World):
    Calls prog 90 #[.agg #[a.fo,a.wh,a.ri],.agg #[b.fo,b.wh,b.ri]] w fun e w'=>e= .returned (.int .i64 (bI a b))∧ ∃q c,w'=Sort.grow (w.drewN q) c:=by
 have d:Hid ((if bx a.fo b.fo=0 then bx a.wh b.wh else bx a.fo b.fo)=bI a b):=rfl;go_enter func90,ntmps90
 go_wp2_with fail
 go_region_held3 (fun W=>W.cell? ⟨w.heap.size,0,none⟩=some (.string a.fo)∧W.cell? ⟨w.heap.size,1,none⟩=some (.string a.wh)∧W.cell? ⟨w.heap.size+1,0,none⟩=some (.string b.fo)∧W.cell? ⟨w.heap.size+1,1,none⟩=some (.string b.wh)) (go_keep) (first
  |(go_at_call 127;refine(tb _ _ _).mono ?_;rintro e f ⟨rfl,rfl⟩)
  |(go_at_call 126;refine(Aj (bx a.fo b.fo) (bx a.wh b.wh) _ _ (by simp[go_sem]) (by simp[go_sem])).mono ?_;rintro e g ⟨rfl,rfl⟩;rw[d.out]))
 all_goals
  go_wp2;go_ret;exact⟨rfl,1,_,by rw[Sort.alloc_eq_grow,Sort.alloc_eq_grow,Sort.alloc_eq_grow,Sort.grow_grow,Sort.grow_grow];rfl⟩
theorem Al (G:List Gr) (base g cap:Nat) (w:World) (N:w.ownsRow base 64 3 (.slice (some ⟨g,0,none⟩) G.length cap) G.length (dp G)) (O:G.length≤1000000000) (I:G.length≤cap) (H:base≤g) (B:g<w.heap.size):
    Calls prog 161 #[.slice (some ⟨g,0,none⟩) G.length cap,.func (.func 90) #[] #[]] w fun e w'=>e= .returned (.tuple #[])∧ ∃M:List Gr,M.Perm G∧M.Pairwise (fun a b=>a7 b a=false)∧bj w' (.slice (some ⟨g,0,none⟩) G.length cap) M∧Below base w w':=by
 have E:Inhabited Gr:=⟨⟨⟨#[]⟩,⟨#[]⟩,0⟩⟩
 have A:=tQ N rfl;have F: ∀f w,(callFunc 90 f).run prog w= .ok (.enter 90 f) w:=enters_of func90 (by kernel_rfl) rfl;have c:=AnyQ.slices_SortFunc Tryz.sortG 3 Tryz.isAgg64 Tryz.sizeOf64 cd (fun _=>rfl) (fun x=>fx x) bI Ah 90 #[] g 0 cap G.toArray w F (fun _ _ _ _ x y=>Ak x y _) A B (by simp;omega);change Calls prog 161 _ _ _ at c
 rw[List.size_toArray]at c;refine c.mono ?_
 rintro e w' ⟨rfl,o,n,os,C,s,rfl⟩;have d:o.size=G.length:=by have:=C.1;simpa using this
 refine⟨rfl,o.toList,?_,?_,?_,?_⟩
 · have:=C.2.2
   rw[←d]at this;simp only[Array.extract_size]at this;rw[d,←List.size_toArray,Array.extract_size]at this;exact this
 · rw[List.pairwise_iff_getElem]
   intro i j J K v;have z:j<o.size:=by simpa using K
   have u:i<o.size:=by simpa using J
   have:=s i j (Nat.zero_le _) v (by omega)
   rw[nI,getElem!_pos o i u,getElem!_pos o j z]at this;simpa using this
 · rw[←d]
   exact Pp.liesG_holds (by rw[sortWorldK];simp[Sort.grow,Sort.size_putRowK,Sort.ahead];omega) (holdsK_sortWorldK_c cd 3 w g 0 G.toArray o n os A B (by rw[d];simp)) (by omega) (by omega)
 · exact Ai (Lib.below_putRow (Below.refl base w) H) (by simp[Sort.putRow,Sort.mapBlock,Sort.ahead];omega) os
theorem tR {w w':World} {base:Nat} {e:TypeId} {size:Nat} {v:Value} {n:Nat} {i:List Value} (h:w.ownsRow base e size v n i) (o:Below w.heap.size w w'):w'.ownsRow base e size v n i:=by
 obtain⟨j,c⟩:=h
 refine⟨j,?_⟩
 rcases c with c|⟨g,a,cur,u,s,d,r⟩
 · exact .inl c
 · have f:g<w.heap.size:=by
    rcases Nat.lt_or_ge g w.heap.size with h|h
    · exact h
    · rw[Array.getElem?_eq_none h]at d;cases d
   exact .inr ⟨g,a,cur,u,s,(o.block g f).trans d,r⟩
theorem Am {w:World} {base B:Nat} {e:TypeId} {size:Nat} {v:Value} {n:Nat} {d:List Value} (h:w.ownsRow base e size v n d) (i:B≤base):w.ownsRow B e size v n d:=by
 obtain⟨f,c⟩:=h
 refine⟨f,?_⟩
 rcases c with c|⟨g,a,cur,o,j,r⟩
 · exact .inl c
 · exact .inr ⟨g,a,cur,o,Nat.le_trans i j,r⟩
theorem fO (w:World) (e:Gr) (T:TypeId): ∀j u,(cd e)[j]?=some u→(w.alloc (.cells #[e.fo,e.wh,e.ri] T)).cell? ((⟨w.heap.size,0,none⟩:Addr).add j)=some u:=by
 intro j u a;match j,a with
 |0,a=>simp[cd]at a;subst a;simp[Addr.add]
 |1,a=>simp[cd]at a;subst a;simp[Addr.add]
 |2,a=>simp[cd]at a;subst a;simp[Addr.add]
 |j+3,a=>simp[cd]at a
theorem tS {L:List Gr} {k:Nat} (h:k<L.length) {a:Gr→Bool} (c:a L[k]=true):(L.take (k+1)).filter a=(L.take k).filter a++[L[k]]:=by
 rw[List.take_succ_eq_append_getElem h,List.filter_append];simp[c]
theorem tT {L:List Gr} {k:Nat} (h:k<L.length) {a:Gr→Bool} (c:a L[k]=false):(L.take (k+1)).filter a=(L.take k).filter a:=by
 rw[List.take_succ_eq_append_getElem h,List.filter_append];simp[c]
theorem Tryz.infoG:(prog.info? 64).map (fun i=>(i.zero,i.size,i.bytes))=some (some (.agg #[.string ⟨#[]⟩,.string ⟨#[]⟩,ah]),3,40):=by kernel_rfl
theorem tU (L:List Gr) (v:Value) (g:Nat) (T:Array Value) (x:Gr→Bool) (w:World) (hv:bj w v L) (V:gn w g T x) (hn:L.length≤1000000000):
    Calls prog 159 #[v,.func (.func g) #[] T] w fun e w'=> ∃u,e= .returned u∧w'.ownsRow w.heap.size 64 3 u (L.filter x).length (dp (L.filter x))∧u≠ .slice none 0 0∧Below w.heap.size w w':=by
 obtain⟨i0,J,O,P,Q⟩:=info_parts Tryz.infoG
 obtain⟨a,E1,rfl,E0,U,hL⟩:=hv
 have HL:Hid (∀i (h:i<L.length),∃b o,a=some ⟨b,o,none⟩∧b<w.heap.size∧em w b (o+i*3) L[i]):=hL;have Z:Hid (gn w g T x):=V;have eg:=V.1;clear hL V;go_enter func159,ntmps159
 go_wp2_with (at_make;refine wpList_make_own _ rfl _ _ 23 rfl w.heap.size 64 i0 (.agg #[.string ⟨#[]⟩,.string ⟨#[]⟩,ah]) 3 underlying23 J O P .i64 .i64 (L.length:Int) L.length rfl rfl rfl ?m2 ?m3 ?m4 ?_)
 case m2=>rw[Q];omega
 case m3=>unfold maxLen;omega
 case m4=>exact ax
 intro w0 N A;have I:Below w.heap.size w w0:= aw.grown A ax (fun k hk=>by cases hk);clear A;go_wp2;go_loopw [5,13] (fun u i wr=> ∃k:Nat,k≤L.length∧i= .int .i64 k∧wr.ownsRow w.heap.size 64 3 u ((L.take k).filter x).length (dp ((L.take k).filter x))∧u≠ .slice none 0 0∧Below w.heap.size w wr) (fun _ i _=>L.length-(intOf i).toNat)
 case atStart=>exact⟨0,Nat.zero_le _,rfl,N,by simp,I⟩
 case round=>
  obtain⟨k,hk,rfl,s,G,c⟩:=hrel
  clear N I
  have X:((L.take k).filter x).length≤k:=by
   have h1:=List.length_filter_le x (L.take k);have h2:=List.length_take_le k L;omega
  by_cases F:k<L.length
  · obtain⟨b,o,rfl,hb,he⟩:=HL.out k F
    obtain⟨c0,c1,c2⟩:=he.below hb c
    cases R:x L[k]with
    |true=>
     have S:Hid ((L.take (k+1)).filter x=(L.take k).filter x++[L[k]]):=tS F R;go_wp2_with fail;refine(Z.out.2 _ (c.alloc c.size _) L[k]).mono ?_
     rintro e Y ⟨rfl,z⟩;obtain⟨d0,d1,d2,f,K⟩:=ey z
     have d:=aG c f;have j:=tR s f;rw[R];clear z c0 c1 c2 eg s c f;go_wp2_with (at_builtin;refine wpList_append_own _ rfl _ _ 23 rfl w.heap.size 64 i0 (.agg #[.string ⟨#[]⟩,.string ⟨#[]⟩,ah]) 3 40 underlying23 J O P Q rfl (by decide) _ _ _ rfl (j.alloc _) ⟨Y.heap.size,0,none⟩ 1 1 (cd L[k]) rfl rfl ?c1 ?c2 ?c3 ?c4 ?c5 ?_)
     case c1=>exact fO Y L[k] _
     case c2=>exact fx _
     case c3=>unfold maxLen;omega
     case c4=>omega
     case c5=>have:=d.size;simp;omega
     intro v2 w2 H B C;have E:Below w.heap.size w w2:=(d.alloc d.size _).grown B (by have:=d.size;simp;omega) (fun q hq=>(j.lt q hq).1);rw[fN]at H;have HO:Hid (w2.ownsRow w.heap.size 64 3 v2 (((L.take k).filter x).length+1) (dp ((L.take k).filter x++[L[k]]))):=H;have M:v2≠ .slice none 0 0:=by simpa using C
     clear H B C j d d0 d1 d2 G;go_wp2;go_roundw
     case rel=>exact⟨k+1,by omega,by simp,by rw[S.out,List.length_append];exact HO.out,M,E⟩
     case measure=>simp[intOf];omega
    |false=>
     have S:Hid ((L.take (k+1)).filter x=(L.take k).filter x):=tT F R;go_wp2_with fail;refine(Z.out.2 _ (c.alloc c.size _) L[k]).mono ?_
     rintro e Y ⟨rfl,z⟩;obtain⟨d0,d1,d2,f,K⟩:=ey z
     have d:=aG c f;have j:=tR s f;rw[R];clear z c0 c1 c2 eg s c f;go_wp2;go_roundw
     case rel=>exact⟨k+1,by omega,by simp,by rw[S.out];exact j,G,d⟩
     case measure=>simp[intOf];omega
  · go_wp2
    go_ret;exact⟨_,rfl,by have e:L.take k=L:=List.take_of_length_le (by omega);rw[e]at s;exact s,G,c⟩
def dq (x e:Gr):Bool:= !(bI e x==0)
def bP (x:Gr) (G:List Gr):List Gr:=G.filter (dq x)
theorem tV (e x:Gr) (b:Nat) (w:World) (d:b<w.heap.size) (g:w.cell? ⟨b,0,none⟩=some (.string x.fo)) (i:w.cell? ⟨b,1,none⟩=some (.string x.wh)) (j:w.cell? ⟨b,2,none⟩=some (.int .i64 x.ri)):
    Calls prog 160 #[.agg #[e.fo,e.wh,e.ri],.pointer (some ⟨b,0,none⟩)] w fun r w'=>r= .returned (.bool (dq x e))∧Below w.heap.size w w':=by
 have f:Hid ((!(bI e x==0))=dq x e):=rfl;have A: ∀o,(w.alloc o).cell? ⟨b,0,none⟩=some (.string x.fo):=fun o=>(((Below.refl w.heap.size w).alloc ax o).cell (p:=⟨b,0,none⟩) d).trans g
 have B: ∀o,(w.alloc o).cell? ⟨b,1,none⟩=some (.string x.wh):=fun o=>(((Below.refl w.heap.size w).alloc ax o).cell (p:=⟨b,1,none⟩) d).trans i
 have C: ∀o,(w.alloc o).cell? ⟨b,2,none⟩=some (.int .i64 x.ri):=fun o=>(((Below.refl w.heap.size w).alloc ax o).cell (p:=⟨b,2,none⟩) d).trans j
 go_enter func160,ntmps160
 go_wp2_with fail;refine(td e x _).mono ?_
 rintro r E ⟨rfl,a⟩
 first
  |(obtain⟨u,v,z,c,s⟩:=ey a)
  |(have c:=a)
 generalize bI e x=y at*;go_wp2;go_ret;exact⟨br f.out,c⟩
theorem Ao (e:Gr) (f:ByteArray) (b:Nat) (w:World) (c:b<w.heap.size) (d:w.cell? ⟨b,0,none⟩=some (.string f)):
    Calls prog 158 #[.agg #[e.fo,e.wh,e.ri],.pointer (some ⟨b,0,none⟩)] w fun r w'=>r= .returned (.bool (eo f e))∧Below w.heap.size w w':=by
 have g: ∀o,(w.alloc o).cell? ⟨b,0,none⟩=some (.string f):=fun o=>(((Below.refl w.heap.size w).alloc ax o).cell (p:=⟨b,0,none⟩) c).trans d
 have a:Hid ((e.fo.toList==f.toList)=eo f e):=rfl;go_enter func158,ntmps158
 go_wp2;go_ret;exact⟨br a.out,ak⟩
theorem tW (f:ByteArray) (w:World):
    Calls prog 135 #[f] w fun e w'=>e= .returned (.func (.func 158) #[] #[.pointer (some ⟨w.heap.size,0,none⟩)])∧gn w' 158 #[.pointer (some ⟨w.heap.size,0,none⟩)] (eo f)∧Below w.heap.size w w':=by
 go_enter func135,ntmps135
 go_wp2;go_ret;refine⟨rfl,⟨enters_of func158 (by kernel_rfl) rfl,fun W a e=>?_⟩,ak⟩
 exact Ao e f w.heap.size W (Nat.lt_of_lt_of_le (by simp) a.size) ((a.cell (p:=⟨w.heap.size,0,none⟩) (by simp)).trans (by simp))
theorem Ap (e:Gr) (f h:ByteArray) (b b2:Nat) (w:World) (i:b<w.heap.size) (c:b2<w.heap.size) (j:w.cell? ⟨b,0,none⟩=some (.string f)) (d:w.cell? ⟨b2,0,none⟩=some (.string h)):
    Calls prog 134 #[.agg #[e.fo,e.wh,e.ri],.pointer (some ⟨b,0,none⟩),.pointer (some ⟨b2,0,none⟩)] w fun r w'=>r= .returned (.bool (dI f h e))∧Below w.heap.size w w':=by
 have s: ∀o,(w.alloc o).cell? ⟨b,0,none⟩=some (.string f):=fun o=>(((Below.refl w.heap.size w).alloc ax o).cell (p:=⟨b,0,none⟩) i).trans j
 have u: ∀o,(w.alloc o).cell? ⟨b2,0,none⟩=some (.string h):=fun o=>(((Below.refl w.heap.size w).alloc ax o).cell (p:=⟨b2,0,none⟩) c).trans d
 cases g:(e.fo.toList==f.toList)with
 |true=>
  have a:=hid (show(e.wh.toList==h.toList)=dI f h e from by rw[dI,g];rfl);go_enter func134,ntmps134
  go_wp2;go_ret;exact⟨br a.out,ak⟩
 |false=>
  have a:=hid (show false=dI f h e from by rw[dI,g];rfl);go_enter func134,ntmps134
  go_wp2;go_ret;exact⟨br a.out,ak⟩
def aL (G:List Gr) (f h:ByteArray):Int:=match G.find? (dI f h)with
 |some e=>e.ri
 |none=>0
theorem jL (G:List Gr) (v:Value) (f h:ByteArray) (w:World) (B:bj w v G):
    Calls prog 99 #[v,f,h] w fun e w'=>e= .returned (.int .i64 (aL G f h))∧Below w.heap.size w w':=by
 have E:=ac B
 have F:gn ((w.alloc (.cells #[f] 9)).alloc (.cells #[h] 9)) 134 #[.pointer (some ⟨w.heap.size,0,none⟩),.pointer (some ⟨w.heap.size+1,0,none⟩)] (dI f h):=by
  refine⟨enters_of func134 (by kernel_rfl) rfl,fun W u e=>?_⟩
  exact Ap e f h w.heap.size (w.heap.size+1) W (Nat.lt_of_lt_of_le (by simp;omega) u.size) (Nat.lt_of_lt_of_le (by simp) u.size) ((u.cell (p:=⟨w.heap.size,0,none⟩) (by simp;omega)).trans (by simp[go_sem])) ((u.cell (p:=⟨w.heap.size+1,0,none⟩) (by simp)).trans (by simp[go_sem]))
 have C:=ac F;clear F;have c:Below w.heap.size w ((w.alloc (.cells #[f] 9)).alloc (.cells #[h] 9)):= ak.alloc (by simp) _;rcases tD G (dI f h)with⟨s,j,_⟩|⟨k,M,s,j,_⟩
 · have z:=ac s
   have x:=hid (show 0=aL G f h from by rw[aL,j]);clear s j B;go_enter func99,ntmps99
   go_wp2_with fail;refine(ny G _ _ _ (dI f h) _ (E.out.below c) C.out).mono ?_
   rintro e O ⟨rfl,g⟩;rw[z.out];have d:=c.trans (g.mono c.size);go_wp2;go_ret;exact⟨aB x.out,d⟩
 · have z:=ac s
   have x:=hid (show(G[k]).ri=aL G f h from by rw[aL,j]);obtain⟨a,I,rfl,H,A,i⟩:=B
   obtain⟨b,o,rfl,J,K⟩:=i k M
   have N:(k:Int)<G.length:=by omega
   clear s j i;go_enter func99,ntmps99
   go_wp2_with fail;refine(ny G _ _ _ (dI f h) _ (E.out.below c) C.out).mono ?_
   rintro e O ⟨rfl,g⟩;rw[z.out];have d:=c.trans (g.mono c.size);obtain⟨P,Q,R⟩:=K.below J d
   go_wp2;go_ret;exact⟨aB x.out,d⟩
end Go.Proofs.YtdlpjlfefjipkaaGreat
