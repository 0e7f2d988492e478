/- Worlds: records that lie in memory; what is wrong with one, as plain mathematics. -/
import Derived.Test.YtgamnckfmmbjdaaGreatDoorWGZB
set_option linter.unusedSimpArgs false
set_option linter.unusedVariables false
namespace Go.Proofs.YtgamnckfmmbjdaaGreatDoor
open Go.RowKit Go.Proofs.Tryz
set_option maxHeartbeats 1000000
structure Lr where
 fr:Int
 kind:Int
 ans:Bool
 tx:ByteArray
structure Wd where
 hb:Hb
 cls:List Cn
 les:List Lr
def en (w:World) (b o:Nat) (c:Cn):Prop:= ∃vb vm va,w.cell? ⟨b,o,none⟩=some (.string c.who)∧w.cell? ⟨b,o+1,none⟩=some (.string c.fo)∧w.cell? ⟨b,o+2,none⟩=some vb∧w.cell? ⟨b,o+3,none⟩=some (.int .i64 c.cur)∧w.cell? ⟨b,o+4,none⟩=some vm∧w.cell? ⟨b,o+5,none⟩=some (.string c.key)∧w.cell? ⟨b,o+6,none⟩=some va∧w.cell? ⟨b,o+7,none⟩=some (.int .i64 c.keys)∧aj w vb c.base∧aj w vm c.mine∧bk w va c.ask
theorem en.below {w w':World} {b o:Nat} {c:Cn} (h:en w b o c) (hb:b<w.heap.size) (a:Below w.heap.size w w'):en w' b o c:=by
 obtain⟨I,J,H,d,e,f,j,u,y,z,A,E,F,G⟩:=h
 have k: ∀x,w'.cell? ⟨b,x,none⟩=w.cell? ⟨b,x,none⟩:=fun x=>a.cell (p:=⟨b,x,none⟩) hb
 exact⟨I,J,H,(k _).trans d,(k _).trans e,(k _).trans f,(k _).trans j,(k _).trans u,(k _).trans y,(k _).trans z,(k _).trans A,E.below a,F.below a,G.below a⟩
def dh (w:World) (v:Value) (l:List Cn):Prop:= ∃a cap,v= .slice a l.length cap∧l.length≤cap∧l.length≤1000000000000000∧ ∀i (h:i<l.length),∃b o,a=some ⟨b,o,none⟩∧b<w.heap.size∧en w b (o+i*8) l[i]
theorem dh.below {w w':World} {v:Value} {l:List Cn} (h:dh w v l) (e:Below w.heap.size w w'):dh w' v l:=by
 obtain⟨a,d,E,f,j,u⟩:=h
 refine⟨a,d,E,f,j,fun i A=>?_⟩
 obtain⟨b,o,y,hb,z⟩:=u i A
 exact⟨b,o,y,Nat.lt_of_lt_of_le hb e.size,z.below hb e⟩
theorem dh.shape {w:World} {v:Value} {l:List Cn} (h:dh w v l): ∃a d,v= .slice a l.length d:=by
 obtain⟨a,d,e,_⟩:=h
 exact⟨a,d,e⟩
theorem rV (w:World):dh w (.slice none 0 0) []:=⟨none,0,rfl,Nat.le_refl _,by decide,fun i h=>absurd h (by simp)⟩
def kF (w:World) (b o:Nat) (l:Lr):Prop:=w.cell? ⟨b,o,none⟩=some (.int .i64 l.fr)∧w.cell? ⟨b,o+1,none⟩=some (.int .i64 l.kind)∧w.cell? ⟨b,o+2,none⟩=some (.bool l.ans)∧w.cell? ⟨b,o+3,none⟩=some (.string l.tx)
theorem kF.below {w w':World} {b o:Nat} {l:Lr} (h:kF w b o l) (hb:b<w.heap.size) (a:Below w.heap.size w w'):kF w' b o l:=by
 have k: ∀x,w'.cell? ⟨b,x,none⟩=w.cell? ⟨b,x,none⟩:=fun x=>a.cell (p:=⟨b,x,none⟩) hb
 exact⟨(k _).trans h.1,(k _).trans h.2.1,(k _).trans h.2.2.1,(k _).trans h.2.2.2⟩
def fg (w:World) (v:Value) (l:List Lr):Prop:= ∃a cap,v= .slice a l.length cap∧l.length≤cap∧l.length≤1000000000000000∧ ∀i (h:i<l.length),∃b o,a=some ⟨b,o,none⟩∧b<w.heap.size∧kF w b (o+i*4) l[i]
theorem fg.below {w w':World} {v:Value} {l:List Lr} (h:fg w v l) (e:Below w.heap.size w w'):fg w' v l:=by
 obtain⟨a,d,E,f,j,u⟩:=h
 refine⟨a,d,E,f,j,fun i A=>?_⟩
 obtain⟨b,o,y,hb,z⟩:=u i A
 exact⟨b,o,y,Nat.lt_of_lt_of_le hb e.size,z.below hb e⟩
theorem fg.shape {w:World} {v:Value} {l:List Lr} (h:fg w v l): ∃a d,v= .slice a l.length d:=by
 obtain⟨a,d,e,_⟩:=h
 exact⟨a,d,e⟩
theorem oo (w:World):fg w (.slice none 0 0) []:=⟨none,0,rfl,Nat.le_refl _,by decide,fun i h=>absurd h (by simp)⟩
def di (w:World) (v:Value) (W:Wd):Prop:= ∃vf vg ag vc vl,v= .agg #[vf,vg,ag,.int .i64 W.hb.nx,.int .i64 W.hb.la,.int .i64 W.hb.ro,.int .i64 W.hb.now,vc,vl]∧(dt w vf W.hb.fos∧bt w vg W.hb.gs∧bR w ag W.hb.ss)∧dh w vc W.cls∧fg w vl W.les
theorem di.below {w w':World} {v:Value} {W:Wd} (h:di w v W) (a:Below w.heap.size w w'):di w' v W:=by
 obtain⟨z,A,ag,y,E,e,⟨d,f,j⟩,o,u⟩:=h
 exact⟨z,A,ag,y,E,e,⟨d.below a,f.below a,j.below a⟩,o.below a,u.below a⟩
structure iD (W:Wd):Prop where
 hb:hU W.hb
 cls: ∀c∈W.cls,fR c
 les: ∀l∈W.les,l.tx.size≤140737488351232
def bY:List Cn→Int
 |[]=>0
 |c::r=>if¬aU c=0 then aU c else bY r
def Wo.hasB (l:List Cn) (c:Cn):Bool:=l.any (fun o=>o.who.toList==c.who.toList)
def je:List Cn→List Cn→Bool
 |_,[]=>false
 |a,c::r=>Wo.hasB a c||je (a++[c]) r
def jg (l:List Cn):Bool:=je [] l
def dH (l:List Cn):Int:=if¬bY l=0 then bY l else if jg l=true then 6 else 0
theorem oq: ∀{l:List Cn} {k:Nat} (h:k<l.length),bY (l.take k)=0→bY (l.take (k+1))=aU l[k]
 |[],_,h,_=>absurd h (by simp)
 |c::r,0,_,_=>by
  simp only[List.take_succ_cons,List.take_zero,bY,List.getElem_cons_zero];by_cases a:aU c=0
  · rw[if_neg (fun x=>x a),a]
  · rw[if_pos a]
 |c::r,k+1,h,h0=>by
  rw[List.take_succ_cons,bY]at h0;rw[List.take_succ_cons,bY];by_cases a:aU c=0
  · rw[if_neg (fun x=>x a)]at h0⊢
    rw[oq (by simpa using h) h0];simp
  · rw[if_pos a]at h0
    exact absurd h0 a
theorem ot: ∀{l:List Cn} {k:Nat} (h:k<l.length),bY (l.take k)=0→ ¬aU l[k]=0→bY l=aU l[k]
 |[],_,h,_,_=>absurd h (by simp)
 |c::r,0,_,_,hn=>by
  simp only[List.getElem_cons_zero]at hn⊢;rw[bY,if_pos hn]
 |c::r,k+1,h,h0,hn=>by
  rw[List.take_succ_cons,bY]at h0;by_cases a:aU c=0
  · rw[if_neg (fun x=>x a)]at h0
    rw[bY,if_neg (fun x=>x a)];simp only[List.getElem_cons_succ]at hn⊢;exact ot (by simpa using h) h0 hn
  · rw[if_pos a]at h0
    exact absurd h0 a
theorem ou: ∀(a r:List Cn),(∀k (h:k<r.length),Wo.hasB (a++r.take k) r[k]=false)→je a r=false
 |a,[],_=>rfl
 |a,c::r,h=>by
  rw[je,Bool.or_eq_false_iff];refine⟨by have:=h 0 (by simp);simpa using this,ou (a++[c]) r fun k d=>?_⟩
  have:=h (k+1) (by simpa using d)
  simpa using this
theorem ov: ∀(a r:List Cn) (k:Nat) (h:k<r.length),Wo.hasB (a++r.take k) r[k]=true→je a r=true
 |a,[],_,h,_=>absurd h (by simp)
 |a,c::r,0,_,hk=>by
  rw[je,Bool.or_eq_true];exact Or.inl (by simpa using hk)
 |a,c::r,k+1,h,hk=>by
  rw[je,Bool.or_eq_true];exact Or.inr (ov (a++[c]) r k (by simpa using h) (by simpa using hk))
abbrev cU:=Value×Value×Value
def dI (c:Cn) (u:cU):List Value:=[.string c.who,.string c.fo,u.1,.int .i64 c.cur,u.2.1,.string c.key,u.2.2,.int .i64 c.keys]
def cL (l:List Cn) (us:List cU):List (List Value):=List.zipWith dI l us
theorem gL {l:List Cn} {us:List cU} (h:us.length=l.length):(cL l us).length=l.length:=by simp[cL,h]
theorem kG {l:List Cn} {us:List cU} (h:us.length=l.length) {i:Nat} (a:i<l.length):(cL l us)[i]?=some (dI l[i] (us[i]'(by omega))):=by
 rw[cL,List.getElem?_zipWith,List.getElem?_eq_getElem a,List.getElem?_eq_getElem (by omega)]
theorem yX {l:List Cn} {us:List cU} (h:us.length=l.length) {i:Nat} (a:i<l.length) (u:cU):(cL l us).set i (dI l[i] u)=cL l (us.set i u):=by
 apply List.ext_getElem?
 intro j;rw[List.getElem?_set,cL,cL,List.getElem?_zipWith,List.getElem?_zipWith,List.getElem?_set];by_cases d:i=j
 · subst d
   have e:i<(List.zipWith dI l us).length:=by simp[h];omega
   simp[h,a,List.getElem?_eq_getElem a,show i<us.length by omega]
 · simp[d]
def ow (w:World) (l:List Cn) (us:List cU):Prop:=us.length=l.length∧ ∀(i:Nat) (c:Cn) (u:cU),l[i]?=some c→us[i]?=some u→aj w u.1 c.base∧aj w u.2.1 c.mine∧bk w u.2.2 c.ask
theorem yY {w:World} {v:Value} {l:List Cn} (h:dh w v l): ∃N,ow w l N∧aJ 8 w v (cL l N):=by
 obtain⟨a,H,hv,Y,Z,h3⟩:=h
 have j: ∀i:Fin l.length,∃u:cU,(aj w u.1 l[i].base∧aj w u.2.1 l[i].mine∧bk w u.2.2 l[i].ask)∧(u.1.oneCell'=true∧u.2.1.oneCell'=true∧u.2.2.oneCell'=true)∧ ∃b o,a=some ⟨b,o,none⟩∧b<w.heap.size∧ ∀c x,(dI l[i] u)[c]?=some x→w.cell? ⟨b,o+i*8+c,none⟩=some x:=fun i=>by
  obtain⟨b,o,I,hb,vb,vm,va,O,P,Q,S,T,U,V,X,J,K,M⟩:=h3 i i.2
  refine⟨(vb,vm,va),⟨J,K,M⟩,⟨by obtain⟨_,_,e,_⟩:=J;rw[e];rfl,by obtain⟨_,_,e,_⟩:=K;rw[e];rfl,by obtain⟨_,_,e,_⟩:=M;rw[e];rfl⟩,b,o,I,hb,fun c x d=>?_⟩
  match c,d with
  |0,d=>simp[dI]at d;subst d;exact O
  |1,d=>simp[dI]at d;subst d;exact P
  |2,d=>simp[dI]at d;subst d;exact Q
  |3,d=>simp[dI]at d;subst d;exact S
  |4,d=>simp[dI]at d;subst d;exact T
  |5,d=>simp[dI]at d;subst d;exact U
  |6,d=>simp[dI]at d;subst d;exact V
  |7,d=>simp[dI]at d;subst d;exact X
  |c+8,d=>simp[dI]at d
 have f:(List.ofFn fun i:Fin l.length=>Classical.choose (j i)).length=l.length:=by simp
 refine⟨List.ofFn (fun i:Fin l.length=>Classical.choose (j i)),⟨f,?_⟩,a,H,by rw[gL f];exact hv,by rw[gL f];exact Y,by rw[gL f];exact Z,?_,?_⟩
 · intro i c u E A
   have y:i<l.length:=(List.getElem?_eq_some_iff.1 E).1;rw[List.getElem?_eq_getElem y]at E;injection E with E
   rw[List.getElem?_eq_getElem (by simpa using y),List.getElem_ofFn]at A;injection A with A
   rw[←E,←A];exact(Classical.choose_spec (j ⟨i,y⟩)).1
 · intro r hr
   obtain⟨i,y⟩:=List.getElem?_of_mem hr
   have z:i<l.length:=by
    have:=(List.getElem?_eq_some_iff.1 y).1
    rw[gL f]at this;exact this
   rw[kG f z]at y;injection y with y
   rw[←y];refine⟨rfl,fun u A=>?_⟩
   rw[List.getElem_ofFn]at A;have F:=(Classical.choose_spec (j ⟨i,z⟩)).2.1;simp only[dI,List.mem_cons,List.not_mem_nil,or_false]at A;rcases A with rfl|rfl|rfl|rfl|rfl|rfl|rfl|rfl
   · rfl
   · rfl
   · exact F.1
   · rfl
   · exact F.2.1
   · rfl
   · exact F.2.2
   · rfl
 · intro i y
   have z:i<l.length:=by rw[gL f]at y;exact y
   obtain⟨b,o,I,hb,E⟩:=(Classical.choose_spec (j ⟨i,z⟩)).2.2
   refine⟨b,o,I,hb,fun c u A=>?_⟩
   have G:(cL l (List.ofFn fun i:Fin l.length=>Classical.choose (j i)))[i]?=some (dI l[i] (Classical.choose (j ⟨i,z⟩))):=by rw[kG f z,List.getElem_ofFn]
   rw[List.getElem?_eq_getElem y]at G;injection G with G
   rw[G]at A;exact E c u A
theorem yZ {w:World} {v:Value} {l:List Cn} {us:List cU} (I:ow w l us) (h:aJ 8 w v (cL l us)):dh w v l:=by
 obtain⟨d,y⟩:=I
 obtain⟨a,u,F,A,E,_,G⟩:=h
 rw[gL d]at F A E;refine⟨a,u,F,A,E,fun i z=>?_⟩
 have f:i<(cL l us).length:=by rw[gL d];exact z
 obtain⟨b,o,H,hb,e⟩:=G i f
 have j:=kG d z;rw[List.getElem?_eq_getElem f]at j;injection j with j
 rw[j]at e;obtain⟨J,K,M⟩:=y i _ _ (List.getElem?_eq_getElem z) (List.getElem?_eq_getElem (by omega))
 exact⟨b,o,H,hb,_,_,_,e 0 _ rfl,e 1 _ rfl,e 2 _ rfl,e 3 _ rfl,e 4 _ rfl,e 5 _ rfl,e 6 _ rfl,e 7 _ rfl,J,K,M⟩
def dV (l:Lr):List Value:=[.int .i64 l.fr,.int .i64 l.kind,.bool l.ans,.string l.tx]
theorem iF {w:World} {v:Value} {L:List Lr}:fg w v L↔aJ 4 w v (L.map dV):=by
 constructor
 · rintro ⟨a,e,z,j,y,A⟩
   refine⟨a,e,by rw[List.length_map];exact z,by rw[List.length_map];exact j,by rw[List.length_map];exact y,?_,fun i F=>?_⟩
   · intro r K
     obtain⟨x,_,rfl⟩:=List.mem_map.1 K
     refine⟨rfl,fun u d=>?_⟩
     simp only[dV,List.mem_cons,List.not_mem_nil,or_false]at d;rcases d with rfl|rfl|rfl|rfl<;>rfl
   · obtain⟨b,o,E,hb,G,H,I,J⟩:=A i (by simpa using F)
     refine⟨b,o,E,hb,fun c u d=>?_⟩
     rw[List.getElem_map]at d;match c,d with
     |0,d=>simp[dV]at d;subst d;exact G
     |1,d=>simp[dV]at d;subst d;exact H
     |2,d=>simp[dV]at d;subst d;exact I
     |3,d=>simp[dV]at d;subst d;exact J
     |c+4,d=>simp[dV]at d
 · rintro ⟨a,e,z,j,y,_,A⟩
   rw[List.length_map]at z j y;refine⟨a,e,z,j,y,fun i F=>?_⟩
   obtain⟨b,o,E,hb,f⟩:=A i (by simpa using F)
   rw[List.getElem_map]at f;exact⟨b,o,E,hb,f 0 _ rfl,f 1 _ rfl,f 2 _ rfl,f 3 _ rfl⟩
theorem Tryz.infoRCl:(prog.info? 50).map (fun i=>(i.zero,i.size,i.bytes))=some (some (.agg #[.string ⟨#[]⟩,.string ⟨#[]⟩,.slice none 0 0,.int .i64 0,.slice none 0 0,.string ⟨#[]⟩,.slice none 0 0,.int .i64 0]),8,136):=by kernel_rfl
theorem zd (R:List (List Value)) (v:Value) (w:World) (hv:aJ 8 w v R) (hn:R.length≤1000000000000):
    Calls prog 50 #[v] w fun e w'=> ∃u,e= .returned u∧aJ 8 w' u R∧aw w.heap.size w' u∧Below w.heap.size w w':=by
 obtain⟨aQ,Q,U,V,X⟩:=info_parts Tryz.infoRCl
 obtain⟨a,O,rfl,C3,P,G,f⟩:=hv
 have M:=hid G;have C5: ∀(w:World) (a:Option Addr) (n c Y N:Nat),(binOp .eql 29 (.slice a n c) (.slice none Y N)).run prog w= .ok (.bool a.isNone) w:=fun w a n c Y N=>Lib.run_eql_slice_nil w _ _ a n c Y N underlying29
 cases a with
 |none=>
  have hL:R=[]:=by
   cases R with
   |nil=>rfl
   |cons s r=>obtain⟨b,o,hb,_⟩:=f 0 (by simp);cases hb
  subst hL;clear G;go_enter func50,ntmps50
  go_wp2;go_ret;exact⟨_,rfl,⟨none,0,rfl,Nat.le_refl _,by simp,M.out,fun i h=>absurd h (by simp)⟩,eX _ _,Below.refl _ _⟩
 |some ad=>
  have d: ∀j u,R.flatten[j]?=some u→w.cell? (ad.add j)=some u:=by
   cases R with
   |nil=>intro j u S;simp at S
   |cons s r=>
    obtain⟨b,o,hb,_⟩:=f 0 (by simp)
    injection hb with hb
    subst hb
    exact gX (by decide) (fun r T=>(G r T).1) fun i hi=>by
     obtain⟨b',o',z,_,he⟩:=f i hi
     injection z with z
     injection z with h1 h2
     subst h1;subst h2;exact he
  have HC:=hid d;have J:=hid (fy (fun r T=>(G r T).1):R.flatten.length=R.length*8);clear d f G;go_enter func50,ntmps50
  go_wp2_with (at_builtin;refine wpList_append_own _ rfl _ _ 29 rfl w.heap.size 50 aQ (.agg #[.string ⟨#[]⟩,.string ⟨#[]⟩,.slice none 0 0,.int .i64 0,.slice none 0 0,.string ⟨#[]⟩,.slice none 0 0,.int .i64 0]) 8 136 underlying29 Q U V X rfl (by decide) _ _ _ rfl (World.ownsRow_made w #[] 0 (Nat.le_refl _) (Nat.zero_le _) (by simp)) ad R.length O R.flatten rfl ?qc1 ?qc2 ?qc3 ?qc4 ?qc5 ?qc6 ?_)
  case qc1=>exact J.out
  case qc2=>intro j u S;exact Lib.cell?_alloc_some _ (HC.out j u S)
  case qc3=>exact iv M.out
  case qc4=>unfold maxLen;omega
  case qc5=>omega
  case qc6=>simp
  intro v2 w2 I y H;have A:Below w.heap.size w w2:=((Below.refl _ _).alloc (Nat.le_refl _) _).grown y (by simp) (fun k hk=>by simp[Value.ownBlock]at hk;omega);have E:w2.ownsRow w.heap.size 50 8 v2 R.length R.flatten:=by simpa using I
  have F:=hid (gY E (by omega) M.out);have K:=hid (fO E);obtain⟨a2,Z,C4,_,_,_⟩:=F.out
  clear I E y H;go_wp2_with fail;go_ret;exact⟨_,rfl,F.out,K.out,A⟩
theorem Tryz.infoRLr:(prog.info? 66).map (fun i=>(i.zero,i.size,i.bytes))=some (some (.agg #[.int .i64 0,.int .i64 0,.bool false,.string ⟨#[]⟩]),4,40):=by kernel_rfl
theorem ze (R:List (List Value)) (v:Value) (w:World) (hv:aJ 4 w v R) (hn:R.length≤1000000000000):
    Calls prog 52 #[v] w fun e w'=> ∃u,e= .returned u∧aJ 4 w' u R∧aw w.heap.size w' u∧w'.ownsRow w.heap.size 66 4 u R.length R.flatten∧(v= .slice none 0 0→u= .slice none 0 0)∧Below w.heap.size w w':=by
 obtain⟨aQ,T,X,Y,Z⟩:=info_parts Tryz.infoRLr
 obtain⟨a,P,rfl,C4,S,G,f⟩:=hv
 have N:=hid G;have C6: ∀(w:World) (a:Option Addr) (n c n' O:Nat),(binOp .eql 30 (.slice a n c) (.slice none n' O)).run prog w= .ok (.bool a.isNone) w:=fun w a n c n' O=>Lib.run_eql_slice_nil w _ _ a n c n' O underlying30
 cases a with
 |none=>
  have hL:R=[]:=by
   cases R with
   |nil=>rfl
   |cons s r=>obtain⟨b,o,hb,_⟩:=f 0 (by simp);cases hb
  subst hL;clear G;go_enter func52,ntmps52
  go_wp2;go_ret;exact⟨_,rfl,⟨none,0,rfl,Nat.le_refl _,by simp,N.out,fun i h=>absurd h (by simp)⟩,eX _ _,World.ownsRow_nil _ _ _ _,(fun _=>rfl),Below.refl _ _⟩
 |some ad=>
  have d: ∀j u,R.flatten[j]?=some u→w.cell? (ad.add j)=some u:=by
   cases R with
   |nil=>intro j u U;simp at U
   |cons s r=>
    obtain⟨b,o,hb,_⟩:=f 0 (by simp)
    injection hb with hb
    subst hb
    exact gX (by decide) (fun r V=>(G r V).1) fun i hi=>by
     obtain⟨b',o',A,_,he⟩:=f i hi
     injection A with A
     injection A with Q h2
     subst Q;subst h2;exact he
  have HC:=hid d;have J:=hid (fy (fun r V=>(G r V).1):R.flatten.length=R.length*4);clear d f G;go_enter func52,ntmps52
  go_wp2_with (at_builtin;refine wpList_append_own _ rfl _ _ 30 rfl w.heap.size 66 aQ (.agg #[.int .i64 0,.int .i64 0,.bool false,.string ⟨#[]⟩]) 4 40 underlying30 T X Y Z rfl (by decide) _ _ _ rfl (World.ownsRow_made w #[] 0 (Nat.le_refl _) (Nat.zero_le _) (by simp)) ad R.length P R.flatten rfl ?qc1 ?qc2 ?qc3 ?qc4 ?qc5 ?qc6 ?_)
  case qc1=>exact J.out
  case qc2=>intro j u U;exact Lib.cell?_alloc_some _ (HC.out j u U)
  case qc3=>exact iv N.out
  case qc4=>unfold maxLen;omega
  case qc5=>omega
  case qc6=>simp
  intro v2 w2 I z H;have E:Below w.heap.size w w2:=((Below.refl _ _).alloc (Nat.le_refl _) _).grown z (by simp) (fun k hk=>by simp[Value.ownBlock]at hk;omega);have y:w2.ownsRow w.heap.size 66 4 v2 R.length R.flatten:=by simpa using I
  have F:=hid (gY y (by omega) N.out);have M:=hid (fO y);obtain⟨a2,C3,C5,_,_,_⟩:=F.out
  have K:=hid y;clear I y z H;go_wp2_with fail;go_ret;exact⟨_,rfl,F.out,M.out,K.out,(fun h=>by have Q:=congrArg (fun v:Value=>match v with| .slice a _ _=>a.isSome|_=>false) h;simp at Q),E⟩
theorem zf {W:World} {b:Nat} {y aD z A E F G:Value} {r:List Value} (h:Cs W b (y::aD::z::A::E::F::G::r)) (a d e f j o u:Value):Cs (((((((W.setCell ⟨b,0,none⟩ (a)).setCell ⟨b,1,none⟩ (d)).setCell ⟨b,2,none⟩ (e)).setCell ⟨b,3,none⟩ (f)).setCell ⟨b,4,none⟩ (j)).setCell ⟨b,5,none⟩ (o)).setCell ⟨b,6,none⟩ (u)) b (a::d::e::f::j::o::u::r)∧W.grownBy (((((((W.setCell ⟨b,0,none⟩ (a)).setCell ⟨b,1,none⟩ (d)).setCell ⟨b,2,none⟩ (e)).setCell ⟨b,3,none⟩ (f)).setCell ⟨b,4,none⟩ (j)).setCell ⟨b,5,none⟩ (o)).setCell ⟨b,6,none⟩ (u)) (some b):=⟨(((((((h.set 0 a).set 1 d).set 2 e).set 3 f).set 4 j).set 5 o).set 6 u),(aN (aN (aN (aN (aN (aN (au _ _ _ _) (au _ _ _ _)) (au _ _ _ _)) (au _ _ _ _)) (au _ _ _ _)) (au _ _ _ _)) (au _ _ _ _))⟩
theorem jh {W:World} {b:Nat} {A aD E F G H I J K:Value} {r:List Value} (h:Cs W b (A::aD::E::F::G::H::I::J::K::r)) (a d e f j o u y z:Value):Cs (((((((((W.setCell ⟨b,0,none⟩ (a)).setCell ⟨b,1,none⟩ (d)).setCell ⟨b,2,none⟩ (e)).setCell ⟨b,3,none⟩ (f)).setCell ⟨b,4,none⟩ (j)).setCell ⟨b,5,none⟩ (o)).setCell ⟨b,6,none⟩ (u)).setCell ⟨b,7,none⟩ (y)).setCell ⟨b,8,none⟩ (z)) b (a::d::e::f::j::o::u::y::z::r)∧W.grownBy (((((((((W.setCell ⟨b,0,none⟩ (a)).setCell ⟨b,1,none⟩ (d)).setCell ⟨b,2,none⟩ (e)).setCell ⟨b,3,none⟩ (f)).setCell ⟨b,4,none⟩ (j)).setCell ⟨b,5,none⟩ (o)).setCell ⟨b,6,none⟩ (u)).setCell ⟨b,7,none⟩ (y)).setCell ⟨b,8,none⟩ (z)) (some b):=⟨(((((((((h.set 0 a).set 1 d).set 2 e).set 3 f).set 4 j).set 5 o).set 6 u).set 7 y).set 8 z),(aN (aN (aN (aN (aN (aN (aN (aN (au _ _ _ _) (au _ _ _ _)) (au _ _ _ _)) (au _ _ _ _)) (au _ _ _ _)) (au _ _ _ _)) (au _ _ _ _)) (au _ _ _ _)) (au _ _ _ _))⟩
def fh (B:Nat) (w:World) (v:Value) (l:List Cn):Prop:= ∃us,ow w l us∧aJ 8 w v (cL l us)∧aw B w v∧ ∀(i:Nat) (c:Cn) (u:cU),l[i]?=some c→us[i]?=some u→aw B w u.1∧aw B w u.2.1∧aw B w u.2.2
theorem fh.lies {B:Nat} {w:World} {v:Value} {l:List Cn} (h:fh B w v l):dh w v l:=by
 obtain⟨e,a,d,_⟩:=h
 exact yZ a d
theorem fh.below {B:Nat} {w w':World} {v:Value} {l:List Cn} (h:fh B w v l) (a:Below w.heap.size w w'):fh B w' v l:=by
 obtain⟨A,⟨o,f⟩,y,z,j⟩:=h
 exact⟨A,⟨o,fun i c u d e=>⟨(f i c u d e).1.below a,(f i c u d e).2.1.below a,(f i c u d e).2.2.below a⟩⟩,y.below a,z.below a,fun i c u d e=>⟨(j i c u d e).1.below a,(j i c u d e).2.1.below a,(j i c u d e).2.2.below a⟩⟩
theorem fh.mono {B j:Nat} {w:World} {v:Value} {l:List Cn} (h:fh B w v l) (a:j≤B):fh j w v l:=by
 obtain⟨A,o,y,z,d⟩:=h
 exact⟨A,o,y,z.mono a,fun i c u e f=>⟨(d i c u e f).1.mono a,(d i c u e f).2.1.mono a,(d i c u e f).2.2.mono a⟩⟩
theorem bh {B g:Nat} {w:World} {v:Value} (h:aw B w v) (a:g<B): ∀b,v.ownBlock=some b→b≠g:=fun b hb=>by have:=(h b hb).1;omega
theorem fh.nbo {B g:Nat} {w w':World} {v:Value} {l:List Cn} (h:fh B w v l) (j:w.grownBy w' (some g)) (f:g<B):fh B w' v l:=by
 obtain⟨E,⟨z,o⟩,A,y,e⟩:=h
 exact⟨E,⟨z,fun i c u a d=>⟨(o i c u a d).1.nbo j (bh (e i c u a d).1 f),(o i c u a d).2.1.nbo j (bh (e i c u a d).2.1 f),(o i c u a d).2.2.nbo j (bh (e i c u a d).2.2 f)⟩⟩,A.nbo j (bh y f),y.nb j (bh y f),fun i c u a d=>⟨(e i c u a d).1.nb j (bh (e i c u a d).1 f),(e i c u a d).2.1.nb j (bh (e i c u a d).2.1 f),(e i c u a d).2.2.nb j (bh (e i c u a d).2.2 f)⟩⟩
def eR (B:Nat) (wr:World) (l:List Cn) (us0 us:List cU) (k:Nat):Prop:=us.length=l.length∧
 (∀(j:Nat) (c:Cn) (u:cU),j<k→l[j]?=some c→us[j]?=some u→(aj wr u.1 c.base∧aw B wr u.1)∧(aj wr u.2.1 c.mine∧aw B wr u.2.1)∧bk wr u.2.2 c.ask∧aw B wr u.2.2)∧ ∀j,k≤j→us[j]?=us0[j]?
theorem eR.zero {B:Nat} {w:World} {l:List Cn} {a:List cU} (h:a.length=l.length):eR B w l a a 0:=⟨h,fun j c u d=>absurd d (Nat.not_lt_zero _),fun j _=>rfl⟩
theorem eR.below {B:Nat} {w w':World} {l:List Cn} {d us:List cU} {k:Nat} (h:eR B w l d us k) (a:Below w.heap.size w w'):eR B w' l d us k:=
 ⟨h.1,fun j c u A z E=>by
  obtain⟨⟨e,f⟩,⟨b1,b2⟩,o,y⟩:=h.2.1 j c u A z E
  exact⟨⟨e.below a,f.below a⟩,⟨b1.below a,b2.below a⟩,o.below a,y.below a⟩,h.2.2⟩
theorem eR.next {B b:Nat} {w w':World} {l:List Cn} {o us:List cU} {k:Nat} {u:cU} (h:eR B w l o us k) (J:k<l.length) (a:w.grownBy w' (some b)) (hb:b<B)
    (G:(aj w u.1 l[k].base∧aw B w u.1)∧(aj w u.2.1 l[k].mine∧aw B w u.2.1)∧bk w u.2.2 l[k].ask∧aw B w u.2.2):eR B w' l o (us.set k u) (k+1):=by
 obtain⟨K,H,M⟩:=h
 refine⟨by rw[List.length_set];exact K,fun j c y I e d=>?_,fun j I=>?_⟩
 · have keep: ∀{c:Cn} {y:cU},((aj w y.1 c.base∧aw B w y.1)∧(aj w y.2.1 c.mine∧aw B w y.2.1)∧bk w y.2.2 c.ask∧aw B w y.2.2)→(aj w' y.1 c.base∧aw B w' y.1)∧(aj w' y.2.1 c.mine∧aw B w' y.2.1)∧bk w' y.2.2 c.ask∧aw B w' y.2.2:=fun⟨⟨E,z⟩,⟨b1,b2⟩,F,A⟩=>
    ⟨⟨E.nbo a (bh z hb),z.nb a (bh z hb)⟩,⟨b1.nbo a (bh b2 hb),b2.nb a (bh b2 hb)⟩,F.nbo a (bh A hb),A.nb a (bh A hb)⟩
   by_cases f:k=j
   · subst f
     rw[List.getElem?_set_self (by omega)]at d;injection d with d
     subst d;rw[List.getElem?_eq_getElem J]at e;injection e with e
     subst e;exact keep G
   · rw[List.getElem?_set_ne f]at d
     exact keep (H j c y (by omega) e d)
 · rw[List.getElem?_set_ne (by omega)]
   exact M j (by omega)
theorem eR.own {b:Nat} {w:World} {v:Value} {l:List Cn} {f us:List cU} {B:Nat} (h:eR (b+1) w l f us l.length) (z:aJ 8 w v (cL l us)) (y:aw B w v) (d:B≤b+1):fh B w v l:=by
 obtain⟨o,j,_⟩:=h
 refine⟨us,⟨o,fun i c u a e=>?_⟩,z,y,fun i c u a e=>?_⟩
 · have g:=j i c u (List.getElem?_eq_some_iff.1 a).1 a e
   exact⟨g.1.1,g.2.1.1,g.2.2.1⟩
 · have g:=j i c u (List.getElem?_eq_some_iff.1 a).1 a e
   exact⟨g.1.2.mono d,g.2.1.2.mono d,g.2.2.2.mono d⟩
theorem aJ.set1 {n:Nat} {w:World} {a:Option Addr} {k cap b o i c:Nat} {R:List (List Value)} {r:List Value} (h:aJ n w (.slice a k cap) (R.set i r)) (e:a=some ⟨b,o,none⟩) (j:i<R.length) (f:c<n) (u:Value) (y:u.oneCell'=true):
    aJ n (w.setCell ⟨b,o+i*n+c,none⟩ u) (.slice a k cap) (R.set i (r.set c u)):=by
 have d:=h.set e (i:=i) (c:=c) (by simpa using j) f u y;rw[List.getElem_set_self,List.set_set]at d;exact d
def rW (W:World) (b p:Nat) (v0 v1 v2 v3 v4 v5 v6 v7:Value):World:=((((((((W.setCell ⟨b,p,none⟩ (v0)).setCell ⟨b,p+1,none⟩ (v1)).setCell ⟨b,p+2,none⟩ (v2)).setCell ⟨b,p+3,none⟩ (v3)).setCell ⟨b,p+4,none⟩ (v4)).setCell ⟨b,p+5,none⟩ (v5)).setCell ⟨b,p+6,none⟩ (v6)).setCell ⟨b,p+7,none⟩ (v7))
theorem zg {w:World} {a:Option Addr} {n cap b o k:Nat} {l:List Cn} {us:List cU} {u:cU} (h:aJ 8 w (.slice a n cap) (cL l us)) (y:us.length=l.length) (e:a=some ⟨b,o,none⟩) (j:k<l.length) (z:u.1.oneCell'=true) (A:u.2.1.oneCell'=true) (E:u.2.2.oneCell'=true):
    aJ 8 (rW w b (o+k*8) (.string l[k].who) (.string l[k].fo) u.1 (.int .i64 l[k].cur) u.2.1 (.string l[k].key) u.2.2 (.int .i64 l[k].keys)) (.slice a n cap) (cL l (us.set k u)):=by
 have f:=kG y j;have d:k<(cL l us).length:=by rw[gL y];exact j
 rw[List.getElem?_eq_getElem d]at f;replace f:=Option.some.inj f
 have s:aJ 8 w (.slice a n cap) ((cL l us).set k (dI l[k] (us[k]'(by omega)))):=by
  rw[←f,List.set_getElem_self];exact h
 rw[←yX y j u];generalize cL l us=R at*;have F:=s.set1 e d (c:=0) (by decide) (.string l[k].who) rfl;have G:=F.set1 e d (c:=1) (by decide) (.string l[k].fo) rfl;have H:=G.set1 e d (c:=2) (by decide) (u.1) z;have I:=H.set1 e d (c:=3) (by decide) (.int .i64 l[k].cur) rfl;have J:=I.set1 e d (c:=4) (by decide) (u.2.1) A;have K:=J.set1 e d (c:=5) (by decide) (.string l[k].key) rfl;have M:=K.set1 e d (c:=6) (by decide) (u.2.2) E;have N:=M.set1 e d (c:=7) (by decide) (.int .i64 l[k].keys) rfl;exact N
def kH:Value→Value
 | .agg cs=>cs.getD 8 .nilFunc
 |v=>v
def zh (B:Nat) (w:World) (v:Value) (l:List Lr):Prop:=w.ownsRow B 66 4 v l.length (l.map dV).flatten
theorem ox {B g:Nat} {w:World} {v:Value} (h:aw B w v) (a:g<B):v.ownBlock=none∨v.ownBlock≠some g:=by
 cases hb:v.ownBlock with
 |none=>exact Or.inl rfl
 |some k=>exact Or.inr (by have:=bh h a k hb;simpa using this)
def dJ (B:Nat) (w:World) (v:Value) (W:Wd):Prop:= ∃vf vg ag vc vl,v= .agg #[vf,vg,ag,.int .i64 W.hb.nx,.int .i64 W.hb.la,.int .i64 W.hb.ro,.int .i64 W.hb.now,vc,vl]∧(dU B w vf W.hb.fos∧(bt w vg W.hb.gs∧aw B w vg)∧bR w ag W.hb.ss∧aw B w ag)∧fh B w vc W.cls∧fg w vl W.les∧aw B w vl∧zh B w vl W.les
end Go.Proofs.YtgamnckfmmbjdaaGreatDoor
