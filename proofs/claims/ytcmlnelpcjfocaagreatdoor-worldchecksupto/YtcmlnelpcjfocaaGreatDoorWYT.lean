/- What slices.Clip at commits answers, and what (*keeper).forget does. -/
import Derived.Test.YtcmlnelpcjfocaaGreatDoorWYQ
import Derived.Deep.RegionWith
import Derived.Test.YtcmlnelpcjfocaaGreatDoorWYO
import Derived.Test.YtcmlnelpcjfocaaGreatDoorWYN
set_option linter.unusedSimpArgs false
set_option linter.unusedVariables false
namespace Go.Proofs.YtcmlnelpcjfocaaGreatDoor
open Go.RowKit Go.Maps Go.WideMaps Go.Proofs.Tryz
set_option maxHeartbeats 1000000
set_option maxRecDepth 100000
theorem iQ.ne {W:World} {b o g:Nat} {c:Co} (h:iQ W b o c) (d:dx W g):b≠g:=fun hb=>d (o+1) c.ke (hb▸h.2.1)
theorem eG.nb {W y:World} {v:Value} {L:List Co} {g:Nat} (h:eG W v L) (f:W.grownBy y (some g)) (A:dx W g):eG y v L:=by
 obtain⟨a,d,M,F,G,H⟩:=h
 refine⟨a,d,M,F,G,fun i J=>?_⟩
 obtain⟨b,o,I,hb,z⟩:=H i J
 have c:=ir f hb (z.ne A);obtain⟨aL,E,u,aE,K⟩:=z
 exact⟨b,o,I,Nat.lt_of_lt_of_le hb f.size,(c _).trans aL,(c _).trans E,u,(c _).trans aE,K.nb f A⟩
theorem eG.append {w:World} {v:Value} {l:List Co} {us:List Value} {c:Co} {u:Value} (z:kR w l us) (G:cj w u c.ch) (h:aW 3 w v (dS l us++[iv c u])):eG w v (l++[c]):=by
 have A:=z.1;refine vQ (us:=us++[u]) ⟨by simp[A],?_⟩ ?_
 · intro i d x f y
   by_cases F:i<l.length
   · rw[List.getElem?_append_left F]at f
     rw[List.getElem?_append_left (by omega)]at y;exact z.2 i d x f y
   · rw[List.getElem?_append_right (by omega)]at f y
     rw[A]at y
     have E:i-l.length=0:=by
      rcases Nat.lt_or_ge (i-l.length) 1 with h|h
      · omega
      · rw[List.getElem?_eq_none (by simpa using h)]at f;cases f
     rw[E]at f y;injection f with f
     injection y with y
     rw[←f,←y];exact G
 · have e:dS (l++[c]) (us++[u])=dS l us++[iv c u]:=by
    rw[dS,dS,List.zipWith_append (by omega)];rfl
   rw[e];exact h
theorem CH (J:Jo) (v:Value) (w:World) (K:iR w v J) (I:da J.base) (A:eO 150000000000000 J.cos):
    Calls prog 130 #[v] w fun e w'=>e= .returned (.int .i64 (bq J))∧Below w.heap.size w w':=by
 have N:=hid K;have M:=hid I;have E:=hid A;obtain⟨Q,S,rfl,G,H⟩:=K
 obtain⟨O,d,rfl,_⟩:=G
 obtain⟨P,f,rfl,_⟩:=H
 clear I A;have z:Below w.heap.size w (w.alloc (.cells #[.slice O J.base.length d,.int .i64 J.first,.slice P J.cos.length f] 79)):=(Below.refl _ _).alloc (Nat.le_refl _) _;go_enter func130,ntmps130
 go_wp2_with fail;refine(rb J _ _ (N.out.below z) M.out E.out).mono ?_
 rintro e T ⟨p,rfl,_,_,F⟩;have y:=ag z F;go_wp2_with fail;go_ret;exact⟨rfl,y⟩
theorem CI (J:Jo) (v:Value) (w:World) (hv:iR w v J) (Z:da J.base) (I:eO 150000000000000 J.cos):
    Calls prog 60 #[v] w fun e w'=> ∃r,e= .returned (.tuple #[r,.int .i64 (bq J)])∧an w' r (kI (bq J) (Jn.tree J))∧aI w.heap.size w' r∧Below w.heap.size w w':=by
 have S:=hid hv;have Q:=hid Z;have E:=hid I;obtain⟨vb,vc,rfl,O,P⟩:=hv
 obtain⟨ba,F,rfl,_⟩:=O
 obtain⟨ca,G,rfl,_⟩:=P
 clear Z I;have f:Below w.heap.size w (w.alloc (.cells #[.slice ba J.base.length F,.int .i64 J.first,.slice ca J.cos.length G] 79)):=(Below.refl _ _).alloc (Nat.le_refl _) _;by_cases A:bq J=0
 · have K:=hid A
   have y:Hid ((kI (bq J) (Jn.tree J))=Jn.tree J):=nh A _;have HG:=hid (qM A);clear A;go_enter func60,ntmps60
   go_wp2_with fail;refine(rb J _ _ (S.out.below f) Q.out E.out).mono ?_
   rintro e w1 ⟨p,rfl,U,_,z⟩;obtain⟨b,mb,vb,vc,nn,rfl,N,hb,I5,⟨vt,T,Y,hM,I6⟩,I7⟩:=U K.out
   rw[K.out];have HT:=hid Y;have k3:=T.cell 3 rfl;obtain⟨ta,I0,rfl,_⟩:=Y
   have d:=ag f z;clear U N T hM;go_wp2_with fail;refine(oo ((Jn.tree J).map Pp.cells) _ _ (kM.1 HT.out) (by rw[List.length_map];have:=HG.out.len;omega)).mono ?_
   rintro e w2 ⟨u,rfl,X,V,M⟩;have HL:=hid (kM.2 X);have HO:=hid (V.mono d.size);have H:=ag d M;clear X V;go_wp2_with fail;go_ret2;exact⟨_,by rw[K.out];rfl,by rw[y.out];exact HL.out,HO.out,H⟩
 · have y:Hid ((kI (bq J) (Jn.tree J))=[]):=ni A _
   have hz:(bq J==0)=false:=by simpa using A
   go_enter func60,ntmps60
   go_wp2_with fail;refine(rb J _ _ (S.out.below f) Q.out E.out).mono ?_
   rintro e w1 ⟨p,rfl,_,_,z⟩;have d:=ag f z;go_wp2_with fail;go_ret2;exact⟨_,rfl,by rw[y.out];exact kJ _,gM _ _,d⟩
theorem Tryz.zeroInt (w:World):(zeroValue 3).run prog w= .ok (.int .i64 0) w:=by rw[Tryz.zeroValue3]
structure Sh where
 na:ByteArray
 jo:Jo
structure Hb where
 fos:List Sh
 gs:List Gr
 ss:List Se
 nx:Int
 la:Int
 ro:Int
 now:Int
def i7 (w:World) (b o:Nat) (s:Sh):Prop:=w.cell? ⟨b,o,none⟩=some (.string s.na)∧ ∃u x,w.cell? ⟨b,o+1,none⟩=some u∧w.cell? ⟨b,o+2,none⟩=some (.int .i64 s.jo.first)∧w.cell? ⟨b,o+3,none⟩=some x∧an w u s.jo.base∧eG w x s.jo.cos
def eP (w:World) (v:Value) (l:List Sh):Prop:= ∃a cap,v= .slice a l.length cap∧l.length≤cap∧l.length≤1000000000000000∧ ∀i (h:i<l.length),∃b o,a=some ⟨b,o,none⟩∧b<w.heap.size∧i7 w b (o+i*4) l[i]
def dC (w:World) (v:Value) (h:Hb):Prop:= ∃vf vg ai,v= .agg #[vf,vg,ai,.int .i64 h.nx,.int .i64 h.la,.int .i64 h.ro,.int .i64 h.now]∧eP w vf h.fos∧cD w vg h.gs∧de w ai h.ss
theorem i7.below {w w':World} {b o:Nat} {s:Sh} (h:i7 w b o s) (hb:b<w.heap.size) (d:Below w.heap.size w w'):i7 w' b o s:=by
 obtain⟨f,u,x,y,z,A,E,F⟩:=h
 exact⟨(d.cell (p:=⟨b,o,none⟩) hb).trans f,u,x,(d.cell (p:=⟨b,o+1,none⟩) hb).trans y,(d.cell (p:=⟨b,o+2,none⟩) hb).trans z,(d.cell (p:=⟨b,o+3,none⟩) hb).trans A,E.below d,F.below d⟩
theorem eP.below {w w':World} {v:Value} {l:List Sh} (h:eP w v l) (f:Below w.heap.size w w'):eP w' v l:=by
 obtain⟨a,d,H,y,z,A⟩:=h
 refine⟨a,d,H,y,z,fun i G=>?_⟩
 obtain⟨b,o,E,hb,F⟩:=A i G
 exact⟨b,o,E,Nat.lt_of_lt_of_le hb f.size,F.below hb f⟩
theorem dC.below {w w':World} {v:Value} {h:Hb} (A:dC w v h) (d:Below w.heap.size w w'):dC w' v h:=by
 obtain⟨E,F,ai,rfl,f,y,z⟩:=A
 exact⟨E,F,ai,rfl,f.below d,y.below d,z.below d⟩
theorem oL (w:World):eP w (.slice none 0 0) []:=⟨none,0,rfl,Nat.le_refl _,by decide,fun i h=>absurd h (by simp)⟩
def wI (l:List Sh):Prop:= ∀s∈l,s.na.size≤150000000000000∧da s.jo.base∧eO 150000000000000 s.jo.cos
structure kd (h:Hb):Prop where
 fos:wI h.fos
 gs:jY h.gs
 ss:mg h.ss
def bN (s:Sh):Int:=if¬bH [s.na]=0 then bH [s.na]else bq s.jo
def jF:List Sh→Int
 |[]=>0
 |s::r=>if¬bN s=0 then bN s else jF r
def Hu.lt (a b:Sh):Bool:=Op.bytesLess a.na.toList b.na.toList
def eQ:List Sh→Bool
 |[]=>true
 |[_]=>true
 |a::b::r=>Hu.lt a b && eQ (b::r)
def Hu.cfE (l:List Sh):Int:=if 8<l.length then 2 else if¬jF l=0 then jF l else if eQ l=true then 0 else 4
theorem mq: ∀(L:List Sh),eQ L=true↔ ∀i (h:i+1<L.length),Hu.lt L[i] L[i+1]=true
 |[]=>by simp[eQ]
 |[_]=>by simp[eQ]
 |a::b::r=>by
  rw[eQ,Bool.and_eq_true,mq (b::r)];constructor
  · rintro ⟨d,f⟩ i h
    cases i with
    |zero=>exact d
    |succ i=>exact f i (by simpa using h)
  · intro h
    exact⟨h 0 (by simp),fun i y=>h (i+1) (by simpa using y)⟩
theorem rJ {L:List Sh}:jF L=0↔ ∀i (h:i<L.length),bN L[i]=0:=by
 induction L with
 |nil=>simp[jF]
 |cons s r ih=>
  rw[jF];constructor
  · intro h i f
    by_cases d:bN s=0
    · rw[if_neg (fun x=>x d)]at h
      cases i with
      |zero=>exact d
      |succ i=>exact ih.1 h i (by simpa using f)
    · rw[if_pos d]at h;exact absurd h d
  · intro h
    rw[if_neg (fun x=>x (h 0 (by simp)))];exact ih.2 fun i f=>h (i+1) (by simpa using f)
theorem CJ {L:List Sh} {k:Nat} (f:k<L.length) (h: ∀i (h:i<L.length),i<k→bN L[i]=0) (d: ¬bN L[k]=0):jF L=bN L[k]:=by
 induction L generalizing k with
 |nil=>exact absurd f (by simp)
 |cons s r ih=>
  rw[jF];cases k with
  |zero=>exact if_pos d
  |succ k=>
   rw[if_neg (fun x=>x (h 0 (by simp) (by omega)))];exact ih (by simpa using f) (fun i y z=>h (i+1) (by simpa using y) (by omega)) d
theorem rK {L:List Sh} (h:8<L.length):Hu.cfE L=2:=by rw[Hu.cfE,if_pos h]
theorem wJ {L:List Sh} {k:Nat} (f: ¬8<L.length) (y:k<L.length) (h: ∀i (h:i<L.length),i<k→bN L[i]=0) (d: ¬bN L[k]=0):Hu.cfE L=bN L[k]:=by
 have e:=CJ y h d;rw[Hu.cfE,if_neg f,e,if_pos d]
theorem wK {L:List Sh} {m:Nat} (d: ¬8<L.length) (h: ∀i (h:i<L.length),bN L[i]=0) (y:m+1<L.length) (f:Hu.lt L[m] L[m+1]=false):Hu.cfE L=4:=by
 rw[Hu.cfE,if_neg d,if_neg (fun x=>x (rJ.2 h)),if_neg (fun x=>by have:=(mq L).1 x m y;rw[f]at this;cases this)]
theorem wL {L:List Sh} (d: ¬8<L.length) (h: ∀i (h:i<L.length),bN L[i]=0) (f: ∀i (h:i+1<L.length),Hu.lt L[i] L[i+1]=true):Hu.cfE L=0:=by
 rw[Hu.cfE,if_neg d,if_neg (fun x=>x (rJ.2 h)),if_pos ((mq L).2 f)]
theorem Tryz.infoRF:(prog.info? 81).map (fun i=>(i.zero,i.size,i.bytes))=some (some (.agg #[.string ⟨#[]⟩,.slice none 0 0,.int .i64 0,.slice none 0 0]),4,72):=by kernel_rfl
def Rm (w:World) (v:Value):Prop:=v= .slice none 0 0∨ ∃g n cap cur,v= .slice (some ⟨g,0,none⟩) n cap∧w.heap[g]?=some (.cells cur 81 (0,0))∧n≤cap∧cap≤maxLen∧cur.size=cap*4
theorem CK {w:World} {base:Nat} {v:Value} {n:Nat} {xs:List Value} (h:w.ownsRow base 81 4 v n xs):Rm w v:=by
 obtain⟨_,f⟩:=h
 rcases f with⟨rfl,_⟩|⟨g,d,cur,rfl,_,z,y,A,E,_⟩
 · exact Or.inl rfl
 · exact Or.inr ⟨g,n,d,cur,rfl,z,y,A,E⟩
theorem Rm.below {w w':World} {v:Value} (h:Rm w v) (A:Below w.heap.size w w'):Rm w' v:=by
 rcases h with h|⟨g,n,d,cur,y,f,z⟩
 · exact Or.inl h
 · exact Or.inr ⟨g,n,d,cur,y,(A.block g (cM f)).trans f,z⟩
theorem Rm.nb {w w':World} {v:Value} {g:Nat} (h:Rm w v) (E:w.grownBy w' (some g)) (A: ∀b,v.ownBlock=some b→b≠g):Rm w' v:=by
 rcases h with h|⟨b,n,d,cur,f,y,z⟩
 · exact Or.inl h
 · exact Or.inr ⟨b,n,d,cur,f,(E.block b (cM y) (fun e=>A b (by rw[f];rfl) (by injection e))).trans y,z⟩
theorem Rm.setCell {w:World} {v:Value} (h:Rm w v) (b o:Nat) (u:Value):Rm (w.setCell ⟨b,o,none⟩ u) v:=by
 rcases h with h|⟨g,n,d,cur,y,f,z,A,E⟩
 · exact Or.inl h
 · by_cases hb:b=g
   · subst hb
     refine Or.inr ⟨b,n,d,cur.setIfInBounds o u,y,?_,z,A,by simpa using E⟩
     unfold World.setCell;simp only[Array.getElem?_modify,f,if_true,Option.map_some];rfl
   · exact Or.inr ⟨g,n,d,cur,y,((ar w b o u).block g (cM f) (fun e=>hb (by injection e with e;exact e.symm))).trans f,z,A,E⟩
theorem CL (R:List (List Value)) (v:Value) (w:World) (hv:aW 4 w v R) (hn:R.length≤1000000000000):
    Calls prog 98 #[v] w fun e w'=> ∃u,e= .returned u∧aW 4 w' u R∧aI w.heap.size w' u∧Rm w' u∧Below w.heap.size w w':=by
 obtain⟨aZ,S,V,X,Y⟩:=info_parts Tryz.infoRF
 obtain⟨a,P,rfl,I5,Q,G,f⟩:=hv
 have M:=hid G;have I7: ∀(w:World) (a:Option Addr) (n c Z O:Nat),(binOp .eql 22 (.slice a n c) (.slice none Z O)).run prog w= .ok (.bool a.isNone) w:=fun w a n c Z O=>Lib.run_eql_slice_nil w _ _ a n c Z O underlying22
 cases a with
 |none=>
  have hL:R=[]:=by
   cases R with
   |nil=>rfl
   |cons s r=>obtain⟨b,o,hb,_⟩:=f 0 (by simp);cases hb
  subst hL;clear G;go_enter func98,ntmps98
  go_wp2;go_ret;exact⟨_,rfl,⟨none,0,rfl,Nat.le_refl _,by simp,M.out,fun i h=>absurd h (by simp)⟩,gM _ _,Or.inl rfl,Below.refl _ _⟩
 |some ad=>
  have d: ∀j u,R.flatten[j]?=some u→w.cell? (ad.add j)=some u:=by
   cases R with
   |nil=>intro j u T;simp at T
   |cons s r=>
    obtain⟨b,o,hb,_⟩:=f 0 (by simp)
    injection hb with hb
    subst hb
    exact jX (by decide) (fun r U=>(G r U).1) fun i hi=>by
     obtain⟨b',o',A,_,he⟩:=f i hi
     injection A with A
     injection A with h1 h2
     subst h1;subst h2;exact he
  have HC:=hid d;have J:=hid (iu (fun r U=>(G r U).1):R.flatten.length=R.length*4);clear d f G;go_enter func98,ntmps98
  go_wp2_with (at_builtin;refine wpList_append_own _ rfl _ _ 22 rfl w.heap.size 81 aZ (.agg #[.string ⟨#[]⟩,.slice none 0 0,.int .i64 0,.slice none 0 0]) 4 72 underlying22 S V X Y rfl (by decide) _ _ _ rfl (World.ownsRow_made w #[] 0 (Nat.le_refl _) (Nat.zero_le _) (by simp)) ad R.length P R.flatten rfl ?qc1 ?qc2 ?qc3 ?qc4 ?qc5 ?qc6 ?_)
  case qc1=>exact J.out
  case qc2=>intro j u T;exact Lib.cell?_alloc_some _ (HC.out j u T)
  case qc3=>exact kL M.out
  case qc4=>unfold maxLen;omega
  case qc5=>omega
  case qc6=>simp
  intro v2 w2 I z H;have E:Below w.heap.size w w2:=((Below.refl _ _).alloc (Nat.le_refl _) _).grown z (by simp) (fun k hk=>by simp[Value.ownBlock]at hk;omega);have y:w2.ownsRow w.heap.size 81 4 v2 R.length R.flatten:=by simpa using I
  have F:=hid (iN y (by omega) M.out);have K:=hid (iM y);have N:=hid (CK y);obtain⟨a2,I0,I6,_,_,_⟩:=F.out
  clear I y z H;go_wp2_with fail;go_ret;exact⟨_,rfl,F.out,K.out,N.out,E⟩
theorem Tryz.infoRG:(prog.info? 95).map (fun i=>(i.zero,i.size,i.bytes))=some (some (.agg #[.string ⟨#[]⟩,.string ⟨#[]⟩,.int .i64 0]),3,40):=by kernel_rfl
theorem CM (R:List (List Value)) (v:Value) (w:World) (hv:aW 3 w v R) (hn:R.length≤1000000000000):
    Calls prog 100 #[v] w fun e w'=> ∃u,e= .returned u∧aW 3 w' u R∧aI w.heap.size w' u∧Below w.heap.size w w':=by
 obtain⟨aZ,Q,U,V,X⟩:=info_parts Tryz.infoRG
 obtain⟨a,O,rfl,I0,P,G,f⟩:=hv
 have M:=hid G;have I6: ∀(w:World) (a:Option Addr) (n c Y N:Nat),(binOp .eql 23 (.slice a n c) (.slice none Y N)).run prog w= .ok (.bool a.isNone) w:=fun w a n c Y N=>Lib.run_eql_slice_nil w _ _ a n c Y N underlying23
 cases a with
 |none=>
  have hL:R=[]:=by
   cases R with
   |nil=>rfl
   |cons s r=>obtain⟨b,o,hb,_⟩:=f 0 (by simp);cases hb
  subst hL;clear G;go_enter func100,ntmps100
  go_wp2;go_ret;exact⟨_,rfl,⟨none,0,rfl,Nat.le_refl _,by simp,M.out,fun i h=>absurd h (by simp)⟩,gM _ _,Below.refl _ _⟩
 |some ad=>
  have d: ∀j u,R.flatten[j]?=some u→w.cell? (ad.add j)=some u:=by
   cases R with
   |nil=>intro j u S;simp at S
   |cons s r=>
    obtain⟨b,o,hb,_⟩:=f 0 (by simp)
    injection hb with hb
    subst hb
    exact jX (by decide) (fun r T=>(G r T).1) fun i hi=>by
     obtain⟨b',o',z,_,he⟩:=f i hi
     injection z with z
     injection z with h1 h2
     subst h1;subst h2;exact he
  have HC:=hid d;have J:=hid (iu (fun r T=>(G r T).1):R.flatten.length=R.length*3);clear d f G;go_enter func100,ntmps100
  go_wp2_with (at_builtin;refine wpList_append_own _ rfl _ _ 23 rfl w.heap.size 95 aZ (.agg #[.string ⟨#[]⟩,.string ⟨#[]⟩,.int .i64 0]) 3 40 underlying23 Q U V X rfl (by decide) _ _ _ rfl (World.ownsRow_made w #[] 0 (Nat.le_refl _) (Nat.zero_le _) (by simp)) ad R.length O R.flatten rfl ?qc1 ?qc2 ?qc3 ?qc4 ?qc5 ?qc6 ?_)
  case qc1=>exact J.out
  case qc2=>intro j u S;exact Lib.cell?_alloc_some _ (HC.out j u S)
  case qc3=>exact kL M.out
  case qc4=>unfold maxLen;omega
  case qc5=>omega
  case qc6=>simp
  intro v2 w2 I y H;have A:Below w.heap.size w w2:=((Below.refl _ _).alloc (Nat.le_refl _) _).grown y (by simp) (fun k hk=>by simp[Value.ownBlock]at hk;omega);have E:w2.ownsRow w.heap.size 95 3 v2 R.length R.flatten:=by simpa using I
  have F:=hid (iN E (by omega) M.out);have K:=hid (iM E);obtain⟨a2,Z,I5,_,_,_⟩:=F.out
  clear I E y H;go_wp2_with fail;go_ret;exact⟨_,rfl,F.out,K.out,A⟩
theorem Tryz.infoRS:(prog.info? 142).map (fun i=>(i.zero,i.size,i.bytes))=some (some (.agg #[.int .i64 0,.string ⟨#[]⟩,.string ⟨#[]⟩,.int .i64 0,.int .i64 0]),5,56):=by kernel_rfl
theorem CN (R:List (List Value)) (v:Value) (w:World) (hv:aW 5 w v R) (hn:R.length≤1000000000000):
    Calls prog 101 #[v] w fun e w'=> ∃u,e= .returned u∧aW 5 w' u R∧aI w.heap.size w' u∧Below w.heap.size w w':=by
 obtain⟨aZ,Q,U,V,X⟩:=info_parts Tryz.infoRS
 obtain⟨a,O,rfl,I0,P,G,f⟩:=hv
 have M:=hid G;have I6: ∀(w:World) (a:Option Addr) (n c Y N:Nat),(binOp .eql 24 (.slice a n c) (.slice none Y N)).run prog w= .ok (.bool a.isNone) w:=fun w a n c Y N=>Lib.run_eql_slice_nil w _ _ a n c Y N underlying24
 cases a with
 |none=>
  have hL:R=[]:=by
   cases R with
   |nil=>rfl
   |cons s r=>obtain⟨b,o,hb,_⟩:=f 0 (by simp);cases hb
  subst hL;clear G;go_enter func101,ntmps101
  go_wp2;go_ret;exact⟨_,rfl,⟨none,0,rfl,Nat.le_refl _,by simp,M.out,fun i h=>absurd h (by simp)⟩,gM _ _,Below.refl _ _⟩
 |some ad=>
  have d: ∀j u,R.flatten[j]?=some u→w.cell? (ad.add j)=some u:=by
   cases R with
   |nil=>intro j u S;simp at S
   |cons s r=>
    obtain⟨b,o,hb,_⟩:=f 0 (by simp)
    injection hb with hb
    subst hb
    exact jX (by decide) (fun r T=>(G r T).1) fun i hi=>by
     obtain⟨b',o',z,_,he⟩:=f i hi
     injection z with z
     injection z with h1 h2
     subst h1;subst h2;exact he
  have HC:=hid d;have J:=hid (iu (fun r T=>(G r T).1):R.flatten.length=R.length*5);clear d f G;go_enter func101,ntmps101
  go_wp2_with (at_builtin;refine wpList_append_own _ rfl _ _ 24 rfl w.heap.size 142 aZ (.agg #[.int .i64 0,.string ⟨#[]⟩,.string ⟨#[]⟩,.int .i64 0,.int .i64 0]) 5 56 underlying24 Q U V X rfl (by decide) _ _ _ rfl (World.ownsRow_made w #[] 0 (Nat.le_refl _) (Nat.zero_le _) (by simp)) ad R.length O R.flatten rfl ?qc1 ?qc2 ?qc3 ?qc4 ?qc5 ?qc6 ?_)
  case qc1=>exact J.out
  case qc2=>intro j u S;exact Lib.cell?_alloc_some _ (HC.out j u S)
  case qc3=>exact kL M.out
  case qc4=>unfold maxLen;omega
  case qc5=>omega
  case qc6=>simp
  intro v2 w2 I y H;have A:Below w.heap.size w w2:=((Below.refl _ _).alloc (Nat.le_refl _) _).grown y (by simp) (fun k hk=>by simp[Value.ownBlock]at hk;omega);have E:w2.ownsRow w.heap.size 142 5 v2 R.length R.flatten:=by simpa using I
  have F:=hid (iN E (by omega) M.out);have K:=hid (iM E);obtain⟨a2,Z,I5,_,_,_⟩:=F.out
  clear I E y H;go_wp2_with fail;go_ret;exact⟨_,rfl,F.out,K.out,A⟩
def lC (g:Gr):List Value:=[.string g.fo,.string g.wh,.int .i64 g.ri]
def kf (s:Se):List Value:=[.int .i64 s.nu,.string s.wh,.string s.tx,.int .i64 s.si,.int .i64 s.ti]
theorem eR {w:World} {v:Value} {L:List Gr}:cD w v L↔aW 3 w v (L.map lC):=by
 constructor
 · rintro ⟨a,f,H,z,A,E⟩
   refine⟨a,f,by simpa using H,by simpa using z,by simpa using A,?_,fun i G=>?_⟩
   · intro r J
     obtain⟨e,_,rfl⟩:=List.mem_map.1 J
     refine⟨rfl,fun u d=>?_⟩
     simp only[lC,List.mem_cons,List.not_mem_nil,or_false]at d;rcases d with rfl|rfl|rfl<;>rfl
   · obtain⟨b,o,F,hb,y⟩:=E i (by simpa using G)
     refine⟨b,o,F,hb,fun c u d=>?_⟩
     rw[List.getElem_map]at d;obtain⟨aL,I,aE⟩:=y
     match c,d with
     |0,d=>simp[lC]at d;subst d;exact aL
     |1,d=>simp[lC]at d;subst d;exact I
     |2,d=>simp[lC]at d;subst d;exact aE
     |c+3,d=>simp[lC]at d
 · rintro ⟨a,f,H,z,A,_,E⟩
   refine⟨a,f,by simpa using H,by simpa using z,by simpa using A,fun i G=>?_⟩
   obtain⟨b,o,F,hb,y⟩:=E i (by simpa using G)
   rw[List.getElem_map]at y;exact⟨b,o,F,hb,y 0 _ rfl,y 1 _ rfl,y 2 _ rfl⟩
theorem fl {w:World} {v:Value} {L:List Se}:de w v L↔aW 5 w v (L.map kf):=by
 constructor
 · rintro ⟨a,y,H,z,A,E⟩
   refine⟨a,y,by simpa using H,by simpa using z,by simpa using A,?_,fun i G=>?_⟩
   · intro r M
     obtain⟨e,_,rfl⟩:=List.mem_map.1 M
     refine⟨rfl,fun u d=>?_⟩
     simp only[kf,List.mem_cons,List.not_mem_nil,or_false]at d;rcases d with rfl|rfl|rfl|rfl|rfl<;>rfl
   · obtain⟨b,o,F,hb,f⟩:=E i (by simpa using G)
     refine⟨b,o,F,hb,fun c u d=>?_⟩
     rw[List.getElem_map]at d;obtain⟨aL,I,aE,J,K⟩:=f
     match c,d with
     |0,d=>simp[kf]at d;subst d;exact aL
     |1,d=>simp[kf]at d;subst d;exact I
     |2,d=>simp[kf]at d;subst d;exact aE
     |3,d=>simp[kf]at d;subst d;exact J
     |4,d=>simp[kf]at d;subst d;exact K
     |c+5,d=>simp[kf]at d
 · rintro ⟨a,y,H,z,A,_,E⟩
   refine⟨a,y,by simpa using H,by simpa using z,by simpa using A,fun i G=>?_⟩
   obtain⟨b,o,F,hb,f⟩:=E i (by simpa using G)
   rw[List.getElem_map]at f;exact⟨b,o,F,hb,f 0 _ rfl,f 1 _ rfl,f 2 _ rfl,f 3 _ rfl,f 4 _ rfl⟩
def gT (c:Sh) (u:Value×Value):List Value:=[.string c.na,u.1,.int .i64 c.jo.first,u.2]
def dh (l:List Sh) (us:List (Value×Value)):List (List Value):=List.zipWith gT l us
theorem ij {l:List Sh} {us:List (Value×Value)} (h:us.length=l.length):(dh l us).length=l.length:=by simp[dh,h]
theorem mr {l:List Sh} {us:List (Value×Value)} (h:us.length=l.length) {i:Nat} (d:i<l.length):(dh l us)[i]?=some (gT l[i] (us[i]'(by omega))):=by
 rw[dh,List.getElem?_zipWith,List.getElem?_eq_getElem d,List.getElem?_eq_getElem (by omega)]
theorem CO {l:List Sh} {us:List (Value×Value)} (h:us.length=l.length) {i:Nat} (d:i<l.length) (u:Value×Value):(dh l us).set i (gT l[i] u)=dh l (us.set i u):=by
 apply List.ext_getElem?
 intro j;rw[List.getElem?_set,dh,dh,List.getElem?_zipWith,List.getElem?_zipWith,List.getElem?_set];by_cases f:i=j
 · subst f
   have y:i<(List.zipWith gT l us).length:=by simp[h];omega
   simp[h,d,List.getElem?_eq_getElem d,show i<us.length by omega]
 · simp[f]
def rL (w:World) (l:List Sh) (us:List (Value×Value)):Prop:=us.length=l.length∧ ∀(i:Nat) (c:Sh) (u:Value×Value),l[i]?=some c→us[i]?=some u→an w u.1 c.jo.base∧eG w u.2 c.jo.cos
theorem CP {w:World} {v:Value} {l:List Sh} (h:eP w v l): ∃O,rL w l O∧aW 4 w v (dh l O):=by
 obtain⟨a,K,U,P,Q,S⟩:=h
 have y: ∀i:Fin l.length,∃u:Value×Value,(an w u.1 l[i].jo.base∧eG w u.2 l[i].jo.cos)∧ ∃b o,a=some ⟨b,o,none⟩∧b<w.heap.size∧w.cell? ⟨b,o+i*4,none⟩=some (.string l[i].na)∧w.cell? ⟨b,o+i*4+1,none⟩=some u.1∧w.cell? ⟨b,o+i*4+2,none⟩=some (.int .i64 l[i].jo.first)∧w.cell? ⟨b,o+i*4+3,none⟩=some u.2:=fun i=>by
  obtain⟨b,o,M,hb,G,u,x,H,I,J,f,V⟩:=S i i.2
  exact⟨(u,x),⟨f,V⟩,b,o,M,hb,G,H,I,J⟩
 have d:(List.ofFn fun i:Fin l.length=>Classical.choose (y i)).length=l.length:=by simp
 refine⟨List.ofFn (fun i:Fin l.length=>Classical.choose (y i)),⟨d,?_⟩,a,K,by rw[ij d];exact U,by rw[ij d];exact P,by rw[ij d];exact Q,?_,?_⟩
 · intro i c u E f
   have A:i<l.length:=(List.getElem?_eq_some_iff.1 E).1;rw[List.getElem?_eq_getElem A]at E;injection E with E
   rw[List.getElem?_eq_getElem (by simpa using A),List.getElem_ofFn]at f;injection f with f
   rw[←E,←f];exact(Classical.choose_spec (y ⟨i,A⟩)).1
 · intro r T
   obtain⟨i,A⟩:=List.getElem?_of_mem T
   have z:i<l.length:=by
    have:=(List.getElem?_eq_some_iff.1 A).1
    rw[ij d]at this;exact this
   rw[mr d z]at A;injection A with A
   rw[←A];refine⟨rfl,fun u f=>?_⟩
   simp only[gT,List.mem_cons,List.not_mem_nil,or_false]at f;rcases f with rfl|rfl|rfl|rfl
   · rfl
   · rw[List.getElem_ofFn]
     obtain⟨⟨_,_,N,_⟩,_⟩:=(Classical.choose_spec (y ⟨i,z⟩)).1
     rw[N];rfl
   · rfl
   · rw[List.getElem_ofFn]
     obtain⟨_,⟨_,_,N,_⟩⟩:=(Classical.choose_spec (y ⟨i,z⟩)).1
     rw[N];rfl
 · intro i A
   have z:i<l.length:=by rw[ij d]at A;exact A
   obtain⟨b,o,M,hb,G,H,I,J⟩:=(Classical.choose_spec (y ⟨i,z⟩)).2
   refine⟨b,o,M,hb,fun c u f=>?_⟩
   have F:(dh l (List.ofFn fun i:Fin l.length=>Classical.choose (y i)))[i]?=some (gT l[i] (Classical.choose (y ⟨i,z⟩))):=by rw[mr d z,List.getElem_ofFn]
   rw[List.getElem?_eq_getElem A]at F;injection F with F
   rw[F]at f;match c,f with
   |0,f=>simp[gT]at f;subst f;exact G
   |1,f=>simp[gT]at f;subst f;exact H
   |2,f=>simp[gT]at f;subst f;exact I
   |3,f=>simp[gT]at f;subst f;exact J
   |c+4,f=>simp[gT]at f
theorem wM {w:World} {v:Value} {l:List Sh} {us:List (Value×Value)} (N:rL w l us) (h:aW 4 w v (dh l us)):eP w v l:=by
 obtain⟨d,E⟩:=N
 obtain⟨a,A,J,G,H,_,K⟩:=h
 rw[ij d]at J G H;refine⟨a,A,J,G,H,fun i F=>?_⟩
 have y:i<(dh l us).length:=by rw[ij d];exact F
 obtain⟨b,o,M,hb,f⟩:=K i y
 have z:=mr d F;rw[List.getElem?_eq_getElem y]at z;injection z with z
 rw[z]at f;have I:=E i _ _ (List.getElem?_eq_getElem F) (List.getElem?_eq_getElem (by omega));exact⟨b,o,M,hb,f 0 _ rfl,_,_,f 1 _ rfl,f 2 _ rfl,f 3 _ rfl,I.1,I.2⟩
def fG (B:Nat) (w:World) (v:Value) (l:List Sh):Prop:= ∃us,rL w l us∧aW 4 w v (dh l us)∧aI B w v∧ ∀(i:Nat) (c:Sh) (u:Value×Value),l[i]?=some c→us[i]?=some u→(aI B w u.1∧dT B w u.2 c.jo.cos)∧ ∀b,v.ownBlock=some b→aI (b+1) w u.1∧dT (b+1) w u.2 c.jo.cos
theorem fG.lies {B:Nat} {w:World} {v:Value} {l:List Sh} (h:fG B w v l):eP w v l:=by
 obtain⟨y,d,f,_⟩:=h
 exact wM d f
def gU (B:Nat) (wr:World) (l:List Sh) (us0 us:List (Value×Value)) (k:Nat):Prop:=us.length=l.length∧
 (∀(j:Nat) (c:Sh) (u:Value×Value),j<k→l[j]?=some c→us[j]?=some u→an wr u.1 c.jo.base∧aI B wr u.1∧dT B wr u.2 c.jo.cos)∧ ∀j,k≤j→us[j]?=us0[j]?
theorem gU.zero {B:Nat} {w:World} {l:List Sh} {d:List (Value×Value)} (h:d.length=l.length):gU B w l d d 0:=⟨h,fun j c u f=>absurd f (Nat.not_lt_zero _),fun j _=>rfl⟩
theorem gU.below {B:Nat} {w w':World} {l:List Sh} {d us:List (Value×Value)} {k:Nat} (h:gU B w l d us k) (A:Below w.heap.size w w'):gU B w' l d us k:=
 ⟨h.1,fun j c u y f z=>⟨(h.2.1 j c u y f z).1.below A,(h.2.1 j c u y f z).2.1.below A,(h.2.1 j c u y f z).2.2.below A⟩,h.2.2⟩
theorem gU.next {B b:Nat} {w w':World} {l:List Sh} {E us:List (Value×Value)} {k:Nat} {u:Value×Value} (h:gU B w l E us k) (P:k<l.length) (H:w.grownBy w' (some b)) (hb:b<B)
    (J:an w u.1 l[k].jo.base) (K:aI B w u.1) (M:dT B w u.2 l[k].jo.cos):gU B w' l E (us.set k u) (k+1):=by
 obtain⟨Q,N,S⟩:=h
 refine⟨by rw[List.length_set];exact Q,fun j c y O z d=>?_,fun j O=>?_⟩
 · have keep: ∀{c:Sh} {y:Value×Value},an w y.1 c.jo.base→aI B w y.1→dT B w y.2 c.jo.cos→an w' y.1 c.jo.base∧aI B w' y.1∧dT B w' y.2 c.jo.cos:=fun F f G=>
    ⟨F.nbo H (fun x I=>by have:=(f x I).1;omega),f.nb H (fun x I=>by have:=(f x I).1;omega),G.nbo H hb⟩
   by_cases A:k=j
   · subst A
     rw[List.getElem?_set_self (by omega)]at d;injection d with d
     subst d;rw[List.getElem?_eq_getElem P]at z;injection z with z
     subst z;exact keep J K M
   · rw[List.getElem?_set_ne A]at d
     obtain⟨F,f,G⟩:=N j c y (by omega) z d
     exact keep F f G
 · rw[List.getElem?_set_ne (by omega)]
   exact S j (by omega)
theorem gU.own {b:Nat} {w:World} {v:Value} {l:List Sh} {y us:List (Value×Value)} {B:Nat} (h:gU (b+1) w l y us l.length) (G:aW 4 w v (dh l us)) (F:aI B w v) (H: ∀x,v.ownBlock=some x→x=b) (A:B≤b+1):fG B w v l:=by
 obtain⟨E,z,_⟩:=h
 refine⟨us,⟨E,fun i c u d f=>?_⟩,G,F,fun i c u d f=>?_⟩
 · have g:=z i c u (List.getElem?_eq_some_iff.1 d).1 d f
   exact⟨g.1,g.2.2.lies⟩
 · have g:=z i c u (List.getElem?_eq_some_iff.1 d).1 d f
   exact⟨⟨g.2.1.mono A,g.2.2.mono A⟩,fun x I=>by rw[H x I];exact g.2⟩
theorem CQ {w:World} {a:Option Addr} {n cap b o k:Nat} {l:List Sh} {us:List (Value×Value)} {u:Value×Value} (h:aW 4 w (.slice a n cap) (dh l us)) (A:us.length=l.length) (y:a=some ⟨b,o,none⟩) (z:k<l.length) (E:u.1.oneCell'=true) (F:u.2.oneCell'=true):
    aW 4 (((w.setCell ⟨b,o+k*4+1,none⟩ u.1).setCell ⟨b,o+k*4+2,none⟩ (.int .i64 l[k].jo.first)).setCell ⟨b,o+k*4+3,none⟩ u.2) (.slice a n cap) (dh l (us.set k u)):=by
 have f:=mr A z;have d:k<(dh l us).length:=by rw[ij A];exact z
 rw[List.getElem?_eq_getElem d]at f;injection f with f
 have G:=h.set y (i:=k) (c:=1) d (by decide) u.1 E;have H:=G.set y (i:=k) (c:=2) (by simpa using d) (by decide) (.int .i64 l[k].jo.first) rfl;have I:=H.set y (i:=k) (c:=3) (by simpa using d) (by decide) u.2 F;rw[←CO A z u];simpa[f,gT]using I
end Go.Proofs.YtcmlnelpcjfocaaGreatDoor
