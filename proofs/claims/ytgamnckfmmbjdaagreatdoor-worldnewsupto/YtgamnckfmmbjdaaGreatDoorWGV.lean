/- What slices.Clip at commits answers, and what (*keeper).forget does. -/
import Derived.Test.YtgamnckfmmbjdaaGreatDoorWGR
import Derived.Deep.RegionWith
import Derived.Test.YtgamnckfmmbjdaaGreatDoorWGS
set_option linter.unusedSimpArgs false
set_option linter.unusedVariables false
namespace Go.Proofs.YtgamnckfmmbjdaaGreatDoor
open Go.RowKit Go.Maps Go.WideMaps Go.Proofs.Tryz
set_option maxHeartbeats 1000000
set_option maxRecDepth 100000
theorem fB.ne {W:World} {b o g:Nat} {c:Co} (h:fB W b o c) (a:cy W g):b≠g:=fun hb=>a (o+1) c.ke (hb▸h.2.1)
theorem dd.nb {W f:World} {v:Value} {L:List Co} {g:Nat} (h:dd W v L) (e:W.grownBy f (some g)) (y:cy W g):dd f v L:=by
 obtain⟨a,d,J,A,E,F⟩:=h
 refine⟨a,d,J,A,E,fun i H=>?_⟩
 obtain⟨b,o,G,hb,j⟩:=F i H
 have c:=fw e hb (j.ne y);obtain⟨aP,ay,u,z,I⟩:=j
 exact⟨b,o,G,Nat.lt_of_lt_of_le hb e.size,(c _).trans aP,(c _).trans ay,u,(c _).trans z,I.nb e y⟩
theorem dd.append {w:World} {v:Value} {l:List Co} {us:List Value} {c:Co} {u:Value} (j:iy w l us) (A:bk w u c.ch) (h:aJ 3 w v (cQ l us++[fC c u])):dd w v (l++[c]):=by
 have o:=j.1;refine qO (us:=us++[u]) ⟨by simp[o],?_⟩ ?_
 · intro i d x a f
   by_cases z:i<l.length
   · rw[List.getElem?_append_left z]at a
     rw[List.getElem?_append_left (by omega)]at f;exact j.2 i d x a f
   · rw[List.getElem?_append_right (by omega)]at a f
     rw[o]at f
     have y:i-l.length=0:=by
      rcases Nat.lt_or_ge (i-l.length) 1 with h|h
      · omega
      · rw[List.getElem?_eq_none (by simpa using h)]at a;cases a
     rw[y]at a f;injection a with a
     injection f with f
     rw[←a,←f];exact A
 · have e:cQ (l++[c]) (us++[u])=cQ l us++[fC c u]:=by
    rw[cQ,cQ,List.zipWith_append (by omega)];rfl
   rw[e];exact h
theorem xv (J:Jo) (v:Value) (w:World) (F:fV w v J) (E:cP J.base) (o:dR 150000000000000 J.cos):
    Calls prog 128 #[v] w fun e w'=>e= .returned (.int .i64 (bo J))∧Below w.heap.size w w':=by
 have H:=hid F;have G:=hid E;have u:=hid o;obtain⟨M,N,rfl,z,A⟩:=F
 obtain⟨I,a,rfl,_⟩:=z
 obtain⟨K,d,rfl,_⟩:=A
 clear E o;have j:Below w.heap.size w (w.alloc (.cells #[.slice I J.base.length a,.int .i64 J.first,.slice K J.cos.length d] 90)):=(Below.refl _ _).alloc (Nat.le_refl _) _;go_enter func128,ntmps128
 go_wp2_with fail;refine(wm J _ _ (H.out.below j) G.out u.out).mono ?_
 rintro e O ⟨p,rfl,_,_,y⟩;have f:=af j y;go_wp2_with fail;go_ret;exact⟨rfl,f⟩
structure Sh where
 na:ByteArray
 jo:Jo
structure Hb where
 fos:List Sh
 gs:List Gr
 ss:List Se
 nx:Int
 la:Int
 ro:Int
 now:Int
def fD (w:World) (b o:Nat) (s:Sh):Prop:=w.cell? ⟨b,o,none⟩=some (.string s.na)∧ ∃u x,w.cell? ⟨b,o+1,none⟩=some u∧w.cell? ⟨b,o+2,none⟩=some (.int .i64 s.jo.first)∧w.cell? ⟨b,o+3,none⟩=some x∧aj w u s.jo.base∧dd w x s.jo.cos
def dt (w:World) (v:Value) (l:List Sh):Prop:= ∃a cap,v= .slice a l.length cap∧l.length≤cap∧l.length≤1000000000000000∧ ∀i (h:i<l.length),∃b o,a=some ⟨b,o,none⟩∧b<w.heap.size∧fD w b (o+i*4) l[i]
def cp (w:World) (v:Value) (h:Hb):Prop:= ∃vf vg ag,v= .agg #[vf,vg,ag,.int .i64 h.nx,.int .i64 h.la,.int .i64 h.ro,.int .i64 h.now]∧dt w vf h.fos∧bt w vg h.gs∧bR w ag h.ss
theorem fD.below {w w':World} {b o:Nat} {s:Sh} (h:fD w b o s) (hb:b<w.heap.size) (a:Below w.heap.size w w'):fD w' b o s:=by
 obtain⟨d,u,x,e,f,j,y,z⟩:=h
 exact⟨(a.cell (p:=⟨b,o,none⟩) hb).trans d,u,x,(a.cell (p:=⟨b,o+1,none⟩) hb).trans e,(a.cell (p:=⟨b,o+2,none⟩) hb).trans f,(a.cell (p:=⟨b,o+3,none⟩) hb).trans j,y.below a,z.below a⟩
theorem dt.below {w w':World} {v:Value} {l:List Sh} (h:dt w v l) (e:Below w.heap.size w w'):dt w' v l:=by
 obtain⟨a,d,E,f,j,u⟩:=h
 refine⟨a,d,E,f,j,fun i A=>?_⟩
 obtain⟨b,o,y,hb,z⟩:=u i A
 exact⟨b,o,y,Nat.lt_of_lt_of_le hb e.size,z.below hb e⟩
theorem cp.below {w w':World} {v:Value} {h:Hb} (j:cp w v h) (a:Below w.heap.size w w'):cp w' v h:=by
 obtain⟨o,u,ag,rfl,d,e,f⟩:=j
 exact⟨o,u,ag,rfl,d.below a,e.below a,f.below a⟩
theorem lE (w:World):dt w (.slice none 0 0) []:=⟨none,0,rfl,Nat.le_refl _,by decide,fun i h=>absurd h (by simp)⟩
def rh (l:List Sh):Prop:= ∀s∈l,s.na.size≤150000000000000∧cP s.jo.base∧dR 150000000000000 s.jo.cos
structure hU (h:Hb):Prop where
 fos:rh h.fos
 gs:gZ h.gs
 ss:jv h.ss
def bd (s:Sh):Int:=if¬bf [s.na]=0 then bf [s.na]else bo s.jo
def gH:List Sh→Int
 |[]=>0
 |s::r=>if¬bd s=0 then bd s else gH r
def Hu.lt (a b:Sh):Bool:=Op.bytesLess a.na.toList b.na.toList
def dz:List Sh→Bool
 |[]=>true
 |[_]=>true
 |a::b::r=>Hu.lt a b && dz (b::r)
def Hu.cfE (l:List Sh):Int:=if 8<l.length then 2 else if¬gH l=0 then gH l else if dz l=true then 0 else 4
theorem jB: ∀(L:List Sh),dz L=true↔ ∀i (h:i+1<L.length),Hu.lt L[i] L[i+1]=true
 |[]=>by simp[dz]
 |[_]=>by simp[dz]
 |a::b::r=>by
  rw[dz,Bool.and_eq_true,jB (b::r)];constructor
  · rintro ⟨d,e⟩ i h
    cases i with
    |zero=>exact d
    |succ i=>exact e i (by simpa using h)
  · intro h
    exact⟨h 0 (by simp),fun i f=>h (i+1) (by simpa using f)⟩
theorem nZ {L:List Sh}:gH L=0↔ ∀i (h:i<L.length),bd L[i]=0:=by
 induction L with
 |nil=>simp[gH]
 |cons s r ih=>
  rw[gH];constructor
  · intro h i d
    by_cases a:bd s=0
    · rw[if_neg (fun x=>x a)]at h
      cases i with
      |zero=>exact a
      |succ i=>exact ih.1 h i (by simpa using d)
    · rw[if_pos a]at h;exact absurd h a
  · intro h
    rw[if_neg (fun x=>x (h 0 (by simp)))];exact ih.2 fun i d=>h (i+1) (by simpa using d)
theorem xw {L:List Sh} {k:Nat} (d:k<L.length) (h: ∀i (h:i<L.length),i<k→bd L[i]=0) (a: ¬bd L[k]=0):gH L=bd L[k]:=by
 induction L generalizing k with
 |nil=>exact absurd d (by simp)
 |cons s r ih=>
  rw[gH];cases k with
  |zero=>exact if_pos a
  |succ k=>
   rw[if_neg (fun x=>x (h 0 (by simp) (by omega)))];exact ih (by simpa using d) (fun i e f=>h (i+1) (by simpa using e) (by omega)) a
theorem n6 {L:List Sh} (h:8<L.length):Hu.cfE L=2:=by rw[Hu.cfE,if_pos h]
theorem rj {L:List Sh} {k:Nat} (d: ¬8<L.length) (f:k<L.length) (h: ∀i (h:i<L.length),i<k→bd L[i]=0) (a: ¬bd L[k]=0):Hu.cfE L=bd L[k]:=by
 have e:=xw f h a;rw[Hu.cfE,if_neg d,e,if_pos a]
theorem rk {L:List Sh} {m:Nat} (a: ¬8<L.length) (h: ∀i (h:i<L.length),bd L[i]=0) (e:m+1<L.length) (d:Hu.lt L[m] L[m+1]=false):Hu.cfE L=4:=by
 rw[Hu.cfE,if_neg a,if_neg (fun x=>x (nZ.2 h)),if_neg (fun x=>by have:=(jB L).1 x m e;rw[d]at this;cases this)]
theorem rm {L:List Sh} (a: ¬8<L.length) (h: ∀i (h:i<L.length),bd L[i]=0) (d: ∀i (h:i+1<L.length),Hu.lt L[i] L[i+1]=true):Hu.cfE L=0:=by
 rw[Hu.cfE,if_neg a,if_neg (fun x=>x (nZ.2 h)),if_pos ((jB L).2 d)]
theorem Tryz.infoRF:(prog.info? 92).map (fun i=>(i.zero,i.size,i.bytes))=some (some (.agg #[.string ⟨#[]⟩,.slice none 0 0,.int .i64 0,.slice none 0 0]),4,72):=by kernel_rfl
def Rm (w:World) (v:Value):Prop:=v= .slice none 0 0∨ ∃g n cap cur,v= .slice (some ⟨g,0,none⟩) n cap∧w.heap[g]?=some (.cells cur 92 (0,0))∧n≤cap∧cap≤maxLen∧cur.size=cap*4
theorem xx {w:World} {base:Nat} {v:Value} {n:Nat} {xs:List Value} (h:w.ownsRow base 92 4 v n xs):Rm w v:=by
 obtain⟨_,d⟩:=h
 rcases d with⟨rfl,_⟩|⟨g,a,cur,rfl,_,f,e,j,o,_⟩
 · exact Or.inl rfl
 · exact Or.inr ⟨g,n,a,cur,rfl,f,e,j,o⟩
theorem Rm.below {w w':World} {v:Value} (h:Rm w v) (j:Below w.heap.size w w'):Rm w' v:=by
 rcases h with h|⟨g,n,a,cur,e,d,f⟩
 · exact Or.inl h
 · exact Or.inr ⟨g,n,a,cur,e,(j.block g (cn d)).trans d,f⟩
theorem Rm.nb {w w':World} {v:Value} {g:Nat} (h:Rm w v) (u:w.grownBy w' (some g)) (o: ∀b,v.ownBlock=some b→b≠g):Rm w' v:=by
 rcases h with h|⟨b,n,a,cur,d,f,j⟩
 · exact Or.inl h
 · exact Or.inr ⟨b,n,a,cur,d,(u.block b (cn f) (fun e=>o b (by rw[d];rfl) (by injection e))).trans f,j⟩
theorem Rm.setCell {w:World} {v:Value} (h:Rm w v) (b o:Nat) (u:Value):Rm (w.setCell ⟨b,o,none⟩ u) v:=by
 rcases h with h|⟨g,n,a,cur,f,d,j,y,z⟩
 · exact Or.inl h
 · by_cases hb:b=g
   · subst hb
     refine Or.inr ⟨b,n,a,cur.setIfInBounds o u,f,?_,j,y,by simpa using z⟩
     unfold World.setCell;simp only[Array.getElem?_modify,d,if_true,Option.map_some];rfl
   · exact Or.inr ⟨g,n,a,cur,f,((au w b o u).block g (cn d) (fun e=>hb (by injection e with e;exact e.symm))).trans d,j,y,z⟩
theorem xy (R:List (List Value)) (v:Value) (w:World) (hv:aJ 4 w v R) (hn:R.length≤1000000000000):
    Calls prog 97 #[v] w fun e w'=> ∃u,e= .returned u∧aJ 4 w' u R∧aw w.heap.size w' u∧Rm w' u∧Below w.heap.size w w':=by
 obtain⟨aQ,S,V,X,Y⟩:=info_parts Tryz.infoRF
 obtain⟨a,P,rfl,C4,Q,G,f⟩:=hv
 have M:=hid G;have C6: ∀(w:World) (a:Option Addr) (n c Z O:Nat),(binOp .eql 22 (.slice a n c) (.slice none Z O)).run prog w= .ok (.bool a.isNone) w:=fun w a n c Z O=>Lib.run_eql_slice_nil w _ _ a n c Z O underlying22
 cases a with
 |none=>
  have hL:R=[]:=by
   cases R with
   |nil=>rfl
   |cons s r=>obtain⟨b,o,hb,_⟩:=f 0 (by simp);cases hb
  subst hL;clear G;go_enter func97,ntmps97
  go_wp2;go_ret;exact⟨_,rfl,⟨none,0,rfl,Nat.le_refl _,by simp,M.out,fun i h=>absurd h (by simp)⟩,eX _ _,Or.inl rfl,Below.refl _ _⟩
 |some ad=>
  have d: ∀j u,R.flatten[j]?=some u→w.cell? (ad.add j)=some u:=by
   cases R with
   |nil=>intro j u T;simp at T
   |cons s r=>
    obtain⟨b,o,hb,_⟩:=f 0 (by simp)
    injection hb with hb
    subst hb
    exact gX (by decide) (fun r U=>(G r U).1) fun i hi=>by
     obtain⟨b',o',A,_,he⟩:=f i hi
     injection A with A
     injection A with h1 h2
     subst h1;subst h2;exact he
  have HC:=hid d;have J:=hid (fy (fun r U=>(G r U).1):R.flatten.length=R.length*4);clear d f G;go_enter func97,ntmps97
  go_wp2_with (at_builtin;refine wpList_append_own _ rfl _ _ 22 rfl w.heap.size 92 aQ (.agg #[.string ⟨#[]⟩,.slice none 0 0,.int .i64 0,.slice none 0 0]) 4 72 underlying22 S V X Y rfl (by decide) _ _ _ rfl (World.ownsRow_made w #[] 0 (Nat.le_refl _) (Nat.zero_le _) (by simp)) ad R.length P R.flatten rfl ?qc1 ?qc2 ?qc3 ?qc4 ?qc5 ?qc6 ?_)
  case qc1=>exact J.out
  case qc2=>intro j u T;exact Lib.cell?_alloc_some _ (HC.out j u T)
  case qc3=>exact iv M.out
  case qc4=>unfold maxLen;omega
  case qc5=>omega
  case qc6=>simp
  intro v2 w2 I z H;have E:Below w.heap.size w w2:=((Below.refl _ _).alloc (Nat.le_refl _) _).grown z (by simp) (fun k hk=>by simp[Value.ownBlock]at hk;omega);have y:w2.ownsRow w.heap.size 92 4 v2 R.length R.flatten:=by simpa using I
  have F:=hid (gY y (by omega) M.out);have K:=hid (fO y);have N:=hid (xx y);obtain⟨a2,C3,C5,_,_,_⟩:=F.out
  clear I y z H;go_wp2_with fail;go_ret;exact⟨_,rfl,F.out,K.out,N.out,E⟩
theorem Tryz.infoRG:(prog.info? 97).map (fun i=>(i.zero,i.size,i.bytes))=some (some (.agg #[.string ⟨#[]⟩,.string ⟨#[]⟩,.int .i64 0]),3,40):=by kernel_rfl
theorem xz (R:List (List Value)) (v:Value) (w:World) (hv:aJ 3 w v R) (hn:R.length≤1000000000000):
    Calls prog 99 #[v] w fun e w'=> ∃u,e= .returned u∧aJ 3 w' u R∧aw w.heap.size w' u∧Below w.heap.size w w':=by
 obtain⟨aQ,Q,U,V,X⟩:=info_parts Tryz.infoRG
 obtain⟨a,O,rfl,C3,P,G,f⟩:=hv
 have M:=hid G;have C5: ∀(w:World) (a:Option Addr) (n c Y N:Nat),(binOp .eql 23 (.slice a n c) (.slice none Y N)).run prog w= .ok (.bool a.isNone) w:=fun w a n c Y N=>Lib.run_eql_slice_nil w _ _ a n c Y N underlying23
 cases a with
 |none=>
  have hL:R=[]:=by
   cases R with
   |nil=>rfl
   |cons s r=>obtain⟨b,o,hb,_⟩:=f 0 (by simp);cases hb
  subst hL;clear G;go_enter func99,ntmps99
  go_wp2;go_ret;exact⟨_,rfl,⟨none,0,rfl,Nat.le_refl _,by simp,M.out,fun i h=>absurd h (by simp)⟩,eX _ _,Below.refl _ _⟩
 |some ad=>
  have d: ∀j u,R.flatten[j]?=some u→w.cell? (ad.add j)=some u:=by
   cases R with
   |nil=>intro j u S;simp at S
   |cons s r=>
    obtain⟨b,o,hb,_⟩:=f 0 (by simp)
    injection hb with hb
    subst hb
    exact gX (by decide) (fun r T=>(G r T).1) fun i hi=>by
     obtain⟨b',o',z,_,he⟩:=f i hi
     injection z with z
     injection z with h1 h2
     subst h1;subst h2;exact he
  have HC:=hid d;have J:=hid (fy (fun r T=>(G r T).1):R.flatten.length=R.length*3);clear d f G;go_enter func99,ntmps99
  go_wp2_with (at_builtin;refine wpList_append_own _ rfl _ _ 23 rfl w.heap.size 97 aQ (.agg #[.string ⟨#[]⟩,.string ⟨#[]⟩,.int .i64 0]) 3 40 underlying23 Q U V X rfl (by decide) _ _ _ rfl (World.ownsRow_made w #[] 0 (Nat.le_refl _) (Nat.zero_le _) (by simp)) ad R.length O R.flatten rfl ?qc1 ?qc2 ?qc3 ?qc4 ?qc5 ?qc6 ?_)
  case qc1=>exact J.out
  case qc2=>intro j u S;exact Lib.cell?_alloc_some _ (HC.out j u S)
  case qc3=>exact iv M.out
  case qc4=>unfold maxLen;omega
  case qc5=>omega
  case qc6=>simp
  intro v2 w2 I y H;have A:Below w.heap.size w w2:=((Below.refl _ _).alloc (Nat.le_refl _) _).grown y (by simp) (fun k hk=>by simp[Value.ownBlock]at hk;omega);have E:w2.ownsRow w.heap.size 97 3 v2 R.length R.flatten:=by simpa using I
  have F:=hid (gY E (by omega) M.out);have K:=hid (fO E);obtain⟨a2,Z,C4,_,_,_⟩:=F.out
  clear I E y H;go_wp2_with fail;go_ret;exact⟨_,rfl,F.out,K.out,A⟩
theorem Tryz.infoRS:(prog.info? 125).map (fun i=>(i.zero,i.size,i.bytes))=some (some (.agg #[.int .i64 0,.string ⟨#[]⟩,.string ⟨#[]⟩,.int .i64 0,.int .i64 0]),5,56):=by kernel_rfl
theorem xA (R:List (List Value)) (v:Value) (w:World) (hv:aJ 5 w v R) (hn:R.length≤1000000000000):
    Calls prog 100 #[v] w fun e w'=> ∃u,e= .returned u∧aJ 5 w' u R∧aw w.heap.size w' u∧Below w.heap.size w w':=by
 obtain⟨aQ,Q,U,V,X⟩:=info_parts Tryz.infoRS
 obtain⟨a,O,rfl,C3,P,G,f⟩:=hv
 have M:=hid G;have C5: ∀(w:World) (a:Option Addr) (n c Y N:Nat),(binOp .eql 24 (.slice a n c) (.slice none Y N)).run prog w= .ok (.bool a.isNone) w:=fun w a n c Y N=>Lib.run_eql_slice_nil w _ _ a n c Y N underlying24
 cases a with
 |none=>
  have hL:R=[]:=by
   cases R with
   |nil=>rfl
   |cons s r=>obtain⟨b,o,hb,_⟩:=f 0 (by simp);cases hb
  subst hL;clear G;go_enter func100,ntmps100
  go_wp2;go_ret;exact⟨_,rfl,⟨none,0,rfl,Nat.le_refl _,by simp,M.out,fun i h=>absurd h (by simp)⟩,eX _ _,Below.refl _ _⟩
 |some ad=>
  have d: ∀j u,R.flatten[j]?=some u→w.cell? (ad.add j)=some u:=by
   cases R with
   |nil=>intro j u S;simp at S
   |cons s r=>
    obtain⟨b,o,hb,_⟩:=f 0 (by simp)
    injection hb with hb
    subst hb
    exact gX (by decide) (fun r T=>(G r T).1) fun i hi=>by
     obtain⟨b',o',z,_,he⟩:=f i hi
     injection z with z
     injection z with h1 h2
     subst h1;subst h2;exact he
  have HC:=hid d;have J:=hid (fy (fun r T=>(G r T).1):R.flatten.length=R.length*5);clear d f G;go_enter func100,ntmps100
  go_wp2_with (at_builtin;refine wpList_append_own _ rfl _ _ 24 rfl w.heap.size 125 aQ (.agg #[.int .i64 0,.string ⟨#[]⟩,.string ⟨#[]⟩,.int .i64 0,.int .i64 0]) 5 56 underlying24 Q U V X rfl (by decide) _ _ _ rfl (World.ownsRow_made w #[] 0 (Nat.le_refl _) (Nat.zero_le _) (by simp)) ad R.length O R.flatten rfl ?qc1 ?qc2 ?qc3 ?qc4 ?qc5 ?qc6 ?_)
  case qc1=>exact J.out
  case qc2=>intro j u S;exact Lib.cell?_alloc_some _ (HC.out j u S)
  case qc3=>exact iv M.out
  case qc4=>unfold maxLen;omega
  case qc5=>omega
  case qc6=>simp
  intro v2 w2 I y H;have A:Below w.heap.size w w2:=((Below.refl _ _).alloc (Nat.le_refl _) _).grown y (by simp) (fun k hk=>by simp[Value.ownBlock]at hk;omega);have E:w2.ownsRow w.heap.size 125 5 v2 R.length R.flatten:=by simpa using I
  have F:=hid (gY E (by omega) M.out);have K:=hid (fO E);obtain⟨a2,Z,C4,_,_,_⟩:=F.out
  clear I E y H;go_wp2_with fail;go_ret;exact⟨_,rfl,F.out,K.out,A⟩
def i7 (g:Gr):List Value:=[.string g.fo,.string g.wh,.int .i64 g.ri]
def hY (s:Se):List Value:=[.int .i64 s.nu,.string s.wh,.string s.tx,.int .i64 s.si,.int .i64 s.ti]
theorem dv {w:World} {v:Value} {L:List Gr}:bt w v L↔aJ 3 w v (L.map i7):=by
 constructor
 · rintro ⟨a,f,G,y,z,A⟩
   refine⟨a,f,by simpa using G,by simpa using y,by simpa using z,?_,fun i F=>?_⟩
   · intro r I
     obtain⟨e,_,rfl⟩:=List.mem_map.1 I
     refine⟨rfl,fun u d=>?_⟩
     simp only[i7,List.mem_cons,List.not_mem_nil,or_false]at d;rcases d with rfl|rfl|rfl<;>rfl
   · obtain⟨b,o,E,hb,j⟩:=A i (by simpa using F)
     refine⟨b,o,E,hb,fun c u d=>?_⟩
     rw[List.getElem_map]at d;obtain⟨aP,ay,H⟩:=j
     match c,d with
     |0,d=>simp[i7]at d;subst d;exact aP
     |1,d=>simp[i7]at d;subst d;exact ay
     |2,d=>simp[i7]at d;subst d;exact H
     |c+3,d=>simp[i7]at d
 · rintro ⟨a,f,G,y,z,_,A⟩
   refine⟨a,f,by simpa using G,by simpa using y,by simpa using z,fun i F=>?_⟩
   obtain⟨b,o,E,hb,j⟩:=A i (by simpa using F)
   rw[List.getElem_map]at j;exact⟨b,o,E,hb,j 0 _ rfl,j 1 _ rfl,j 2 _ rfl⟩
theorem dG {w:World} {v:Value} {L:List Se}:bR w v L↔aJ 5 w v (L.map hY):=by
 constructor
 · rintro ⟨a,j,G,y,z,A⟩
   refine⟨a,j,by simpa using G,by simpa using y,by simpa using z,?_,fun i F=>?_⟩
   · intro r K
     obtain⟨e,_,rfl⟩:=List.mem_map.1 K
     refine⟨rfl,fun u d=>?_⟩
     simp only[hY,List.mem_cons,List.not_mem_nil,or_false]at d;rcases d with rfl|rfl|rfl|rfl|rfl<;>rfl
   · obtain⟨b,o,E,hb,f⟩:=A i (by simpa using F)
     refine⟨b,o,E,hb,fun c u d=>?_⟩
     rw[List.getElem_map]at d;obtain⟨aP,ay,H,I,J⟩:=f
     match c,d with
     |0,d=>simp[hY]at d;subst d;exact aP
     |1,d=>simp[hY]at d;subst d;exact ay
     |2,d=>simp[hY]at d;subst d;exact H
     |3,d=>simp[hY]at d;subst d;exact I
     |4,d=>simp[hY]at d;subst d;exact J
     |c+5,d=>simp[hY]at d
 · rintro ⟨a,j,G,y,z,_,A⟩
   refine⟨a,j,by simpa using G,by simpa using y,by simpa using z,fun i F=>?_⟩
   obtain⟨b,o,E,hb,f⟩:=A i (by simpa using F)
   rw[List.getElem_map]at f;exact⟨b,o,E,hb,f 0 _ rfl,f 1 _ rfl,f 2 _ rfl,f 3 _ rfl,f 4 _ rfl⟩
def eP (c:Sh) (u:Value×Value):List Value:=[.string c.na,u.1,.int .i64 c.jo.first,u.2]
def cf (l:List Sh) (us:List (Value×Value)):List (List Value):=List.zipWith eP l us
theorem ff {l:List Sh} {us:List (Value×Value)} (h:us.length=l.length):(cf l us).length=l.length:=by simp[cf,h]
theorem jC {l:List Sh} {us:List (Value×Value)} (h:us.length=l.length) {i:Nat} (a:i<l.length):(cf l us)[i]?=some (eP l[i] (us[i]'(by omega))):=by
 rw[cf,List.getElem?_zipWith,List.getElem?_eq_getElem a,List.getElem?_eq_getElem (by omega)]
theorem xB {l:List Sh} {us:List (Value×Value)} (h:us.length=l.length) {i:Nat} (a:i<l.length) (u:Value×Value):(cf l us).set i (eP l[i] u)=cf l (us.set i u):=by
 apply List.ext_getElem?
 intro j;rw[List.getElem?_set,cf,cf,List.getElem?_zipWith,List.getElem?_zipWith,List.getElem?_set];by_cases d:i=j
 · subst d
   have e:i<(List.zipWith eP l us).length:=by simp[h];omega
   simp[h,a,List.getElem?_eq_getElem a,show i<us.length by omega]
 · simp[d]
def n7 (w:World) (l:List Sh) (us:List (Value×Value)):Prop:=us.length=l.length∧ ∀(i:Nat) (c:Sh) (u:Value×Value),l[i]?=some c→us[i]?=some u→aj w u.1 c.jo.base∧dd w u.2 c.jo.cos
theorem xC {w:World} {v:Value} {l:List Sh} (h:dt w v l): ∃M,n7 w l M∧aJ 4 w v (cf l M):=by
 obtain⟨a,I,S,N,O,P⟩:=h
 have f: ∀i:Fin l.length,∃u:Value×Value,(aj w u.1 l[i].jo.base∧dd w u.2 l[i].jo.cos)∧ ∃b o,a=some ⟨b,o,none⟩∧b<w.heap.size∧w.cell? ⟨b,o+i*4,none⟩=some (.string l[i].na)∧w.cell? ⟨b,o+i*4+1,none⟩=some u.1∧w.cell? ⟨b,o+i*4+2,none⟩=some (.int .i64 l[i].jo.first)∧w.cell? ⟨b,o+i*4+3,none⟩=some u.2:=fun i=>by
  obtain⟨b,o,J,hb,E,u,x,F,G,H,e,T⟩:=P i i.2
  exact⟨(u,x),⟨e,T⟩,b,o,J,hb,E,F,G,H⟩
 have d:(List.ofFn fun i:Fin l.length=>Classical.choose (f i)).length=l.length:=by simp
 refine⟨List.ofFn (fun i:Fin l.length=>Classical.choose (f i)),⟨d,?_⟩,a,I,by rw[ff d];exact S,by rw[ff d];exact N,by rw[ff d];exact O,?_,?_⟩
 · intro i c u z e
   have y:i<l.length:=(List.getElem?_eq_some_iff.1 z).1;rw[List.getElem?_eq_getElem y]at z;injection z with z
   rw[List.getElem?_eq_getElem (by simpa using y),List.getElem_ofFn]at e;injection e with e
   rw[←z,←e];exact(Classical.choose_spec (f ⟨i,y⟩)).1
 · intro r Q
   obtain⟨i,y⟩:=List.getElem?_of_mem Q
   have j:i<l.length:=by
    have:=(List.getElem?_eq_some_iff.1 y).1
    rw[ff d]at this;exact this
   rw[jC d j]at y;injection y with y
   rw[←y];refine⟨rfl,fun u e=>?_⟩
   simp only[eP,List.mem_cons,List.not_mem_nil,or_false]at e;rcases e with rfl|rfl|rfl|rfl
   · rfl
   · rw[List.getElem_ofFn]
     obtain⟨⟨_,_,K,_⟩,_⟩:=(Classical.choose_spec (f ⟨i,j⟩)).1
     rw[K];rfl
   · rfl
   · rw[List.getElem_ofFn]
     obtain⟨_,⟨_,_,K,_⟩⟩:=(Classical.choose_spec (f ⟨i,j⟩)).1
     rw[K];rfl
 · intro i y
   have j:i<l.length:=by rw[ff d]at y;exact y
   obtain⟨b,o,J,hb,E,F,G,H⟩:=(Classical.choose_spec (f ⟨i,j⟩)).2
   refine⟨b,o,J,hb,fun c u e=>?_⟩
   have A:(cf l (List.ofFn fun i:Fin l.length=>Classical.choose (f i)))[i]?=some (eP l[i] (Classical.choose (f ⟨i,j⟩))):=by rw[jC d j,List.getElem_ofFn]
   rw[List.getElem?_eq_getElem y]at A;injection A with A
   rw[A]at e;match c,e with
   |0,e=>simp[eP]at e;subst e;exact E
   |1,e=>simp[eP]at e;subst e;exact F
   |2,e=>simp[eP]at e;subst e;exact G
   |3,e=>simp[eP]at e;subst e;exact H
   |c+4,e=>simp[eP]at e
theorem rn {w:World} {v:Value} {l:List Sh} {us:List (Value×Value)} (J:n7 w l us) (h:aJ 4 w v (cf l us)):dt w v l:=by
 obtain⟨d,y⟩:=J
 obtain⟨a,u,G,A,E,_,H⟩:=h
 rw[ff d]at G A E;refine⟨a,u,G,A,E,fun i z=>?_⟩
 have f:i<(cf l us).length:=by rw[ff d];exact z
 obtain⟨b,o,I,hb,e⟩:=H i f
 have j:=jC d z;rw[List.getElem?_eq_getElem f]at j;injection j with j
 rw[j]at e;have F:=y i _ _ (List.getElem?_eq_getElem z) (List.getElem?_eq_getElem (by omega));exact⟨b,o,I,hb,e 0 _ rfl,_,_,e 1 _ rfl,e 2 _ rfl,e 3 _ rfl,F.1,F.2⟩
def dU (B:Nat) (w:World) (v:Value) (l:List Sh):Prop:= ∃us,n7 w l us∧aJ 4 w v (cf l us)∧aw B w v∧ ∀(i:Nat) (c:Sh) (u:Value×Value),l[i]?=some c→us[i]?=some u→(aw B w u.1∧cT B w u.2 c.jo.cos)∧ ∀b,v.ownBlock=some b→aw (b+1) w u.1∧cT (b+1) w u.2 c.jo.cos
theorem dU.lies {B:Nat} {w:World} {v:Value} {l:List Sh} (h:dU B w v l):dt w v l:=by
 obtain⟨e,a,d,_⟩:=h
 exact rn a d
def eQ (B:Nat) (wr:World) (l:List Sh) (us0 us:List (Value×Value)) (k:Nat):Prop:=us.length=l.length∧
 (∀(j:Nat) (c:Sh) (u:Value×Value),j<k→l[j]?=some c→us[j]?=some u→aj wr u.1 c.jo.base∧aw B wr u.1∧cT B wr u.2 c.jo.cos)∧ ∀j,k≤j→us[j]?=us0[j]?
theorem eQ.zero {B:Nat} {w:World} {l:List Sh} {a:List (Value×Value)} (h:a.length=l.length):eQ B w l a a 0:=⟨h,fun j c u d=>absurd d (Nat.not_lt_zero _),fun j _=>rfl⟩
theorem eQ.below {B:Nat} {w w':World} {l:List Sh} {a us:List (Value×Value)} {k:Nat} (h:eQ B w l a us k) (o:Below w.heap.size w w'):eQ B w' l a us k:=
 ⟨h.1,fun j c u e d f=>⟨(h.2.1 j c u e d f).1.below o,(h.2.1 j c u e d f).2.1.below o,(h.2.1 j c u e d f).2.2.below o⟩,h.2.2⟩
theorem eQ.next {B b:Nat} {w w':World} {l:List Sh} {o us:List (Value×Value)} {k:Nat} {u:Value×Value} (h:eQ B w l o us k) (M:k<l.length) (E:w.grownBy w' (some b)) (hb:b<B)
    (G:aj w u.1 l[k].jo.base) (H:aw B w u.1) (I:cT B w u.2 l[k].jo.cos):eQ B w' l o (us.set k u) (k+1):=by
 obtain⟨N,J,O⟩:=h
 refine⟨by rw[List.length_set];exact N,fun j c y K e a=>?_,fun j K=>?_⟩
 · have keep: ∀{c:Sh} {y:Value×Value},aj w y.1 c.jo.base→aw B w y.1→cT B w y.2 c.jo.cos→aj w' y.1 c.jo.base∧aw B w' y.1∧cT B w' y.2 c.jo.cos:=fun z d A=>
    ⟨z.nbo E (fun x F=>by have:=(d x F).1;omega),d.nb E (fun x F=>by have:=(d x F).1;omega),A.nbo E hb⟩
   by_cases f:k=j
   · subst f
     rw[List.getElem?_set_self (by omega)]at a;injection a with a
     subst a;rw[List.getElem?_eq_getElem M]at e;injection e with e
     subst e;exact keep G H I
   · rw[List.getElem?_set_ne f]at a
     obtain⟨z,d,A⟩:=J j c y (by omega) e a
     exact keep z d A
 · rw[List.getElem?_set_ne (by omega)]
   exact O j (by omega)
theorem eQ.own {b:Nat} {w:World} {v:Value} {l:List Sh} {e us:List (Value×Value)} {B:Nat} (h:eQ (b+1) w l e us l.length) (z:aJ 4 w v (cf l us)) (y:aw B w v) (A: ∀x,v.ownBlock=some x→x=b) (j:B≤b+1):dU B w v l:=by
 obtain⟨o,f,_⟩:=h
 refine⟨us,⟨o,fun i c u a d=>?_⟩,z,y,fun i c u a d=>?_⟩
 · have g:=f i c u (List.getElem?_eq_some_iff.1 a).1 a d
   exact⟨g.1,g.2.2.lies⟩
 · have g:=f i c u (List.getElem?_eq_some_iff.1 a).1 a d
   exact⟨⟨g.2.1.mono j,g.2.2.mono j⟩,fun x E=>by rw[A x E];exact g.2⟩
theorem xD {w:World} {a:Option Addr} {n cap b o k:Nat} {l:List Sh} {us:List (Value×Value)} {u:Value×Value} (h:aJ 4 w (.slice a n cap) (cf l us)) (y:us.length=l.length) (f:a=some ⟨b,o,none⟩) (j:k<l.length) (z:u.1.oneCell'=true) (A:u.2.oneCell'=true):
    aJ 4 (((w.setCell ⟨b,o+k*4+1,none⟩ u.1).setCell ⟨b,o+k*4+2,none⟩ (.int .i64 l[k].jo.first)).setCell ⟨b,o+k*4+3,none⟩ u.2) (.slice a n cap) (cf l (us.set k u)):=by
 have e:=jC y j;have d:k<(cf l us).length:=by rw[ff y];exact j
 rw[List.getElem?_eq_getElem d]at e;injection e with e
 have E:=h.set f (i:=k) (c:=1) d (by decide) u.1 z;have F:=E.set f (i:=k) (c:=2) (by simpa using d) (by decide) (.int .i64 l[k].jo.first) rfl;have G:=F.set f (i:=k) (c:=3) (by simpa using d) (by decide) u.2 A;rw[←xB y j u];simpa[e,eP]using G
end Go.Proofs.YtgamnckfmmbjdaaGreatDoor
