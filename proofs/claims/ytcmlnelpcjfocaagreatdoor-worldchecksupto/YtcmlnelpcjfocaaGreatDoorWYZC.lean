/- Worlds: records that lie in memory; what is wrong with one, as plain mathematics. -/
import Derived.Test.YtcmlnelpcjfocaaGreatDoorWYZ
set_option linter.unusedSimpArgs false
set_option linter.unusedVariables false
namespace Go.Proofs.YtcmlnelpcjfocaaGreatDoor
open Go.RowKit Go.Proofs.Tryz
set_option maxHeartbeats 1000000
structure Lr where
 fr:Int
 kind:Int
 ans:Bool
 tx:ByteArray
structure Wd where
 hb:Hb
 cls:List Cn
 les:List Lr
def f9 (w:World) (b o:Nat) (c:Cn):Prop:= ∃vb vm va,w.cell? ⟨b,o,none⟩=some (.string c.who)∧w.cell? ⟨b,o+1,none⟩=some (.string c.fo)∧w.cell? ⟨b,o+2,none⟩=some vb∧w.cell? ⟨b,o+3,none⟩=some (.int .i64 c.cur)∧w.cell? ⟨b,o+4,none⟩=some vm∧w.cell? ⟨b,o+5,none⟩=some (.string c.key)∧w.cell? ⟨b,o+6,none⟩=some va∧w.cell? ⟨b,o+7,none⟩=some (.int .i64 c.keys)∧an w vb c.base∧an w vm c.mine∧cj w va c.ask
theorem f9.below {w w':World} {b o:Nat} {c:Cn} (h:f9 w b o c) (hb:b<w.heap.size) (d:Below w.heap.size w w'):f9 w' b o c:=by
 obtain⟨N,O,M,f,y,z,A,E,F,G,H,I,J,K⟩:=h
 have k: ∀x,w'.cell? ⟨b,x,none⟩=w.cell? ⟨b,x,none⟩:=fun x=>d.cell (p:=⟨b,x,none⟩) hb
 exact⟨N,O,M,(k _).trans f,(k _).trans y,(k _).trans z,(k _).trans A,(k _).trans E,(k _).trans F,(k _).trans G,(k _).trans H,I.below d,J.below d,K.below d⟩
def eH (w:World) (v:Value) (l:List Cn):Prop:= ∃a cap,v= .slice a l.length cap∧l.length≤cap∧l.length≤1000000000000000∧ ∀i (h:i<l.length),∃b o,a=some ⟨b,o,none⟩∧b<w.heap.size∧f9 w b (o+i*8) l[i]
theorem eH.below {w w':World} {v:Value} {l:List Cn} (h:eH w v l) (f:Below w.heap.size w w'):eH w' v l:=by
 obtain⟨a,d,H,y,z,A⟩:=h
 refine⟨a,d,H,y,z,fun i G=>?_⟩
 obtain⟨b,o,E,hb,F⟩:=A i G
 exact⟨b,o,E,Nat.lt_of_lt_of_le hb f.size,F.below hb f⟩
theorem eH.shape {w:World} {v:Value} {l:List Cn} (h:eH w v l): ∃a d,v= .slice a l.length d:=by
 obtain⟨a,d,f,_⟩:=h
 exact⟨a,d,f⟩
theorem xr (w:World):eH w (.slice none 0 0) []:=⟨none,0,rfl,Nat.le_refl _,by decide,fun i h=>absurd h (by simp)⟩
def kW (w:World) (b o:Nat) (l:Lr):Prop:=w.cell? ⟨b,o,none⟩=some (.int .i64 l.fr)∧w.cell? ⟨b,o+1,none⟩=some (.int .i64 l.kind)∧w.cell? ⟨b,o+2,none⟩=some (.bool l.ans)∧w.cell? ⟨b,o+3,none⟩=some (.string l.tx)
theorem kW.below {w w':World} {b o:Nat} {l:Lr} (h:kW w b o l) (hb:b<w.heap.size) (d:Below w.heap.size w w'):kW w' b o l:=by
 have k: ∀x,w'.cell? ⟨b,x,none⟩=w.cell? ⟨b,x,none⟩:=fun x=>d.cell (p:=⟨b,x,none⟩) hb
 exact⟨(k _).trans h.1,(k _).trans h.2.1,(k _).trans h.2.2.1,(k _).trans h.2.2.2⟩
def gV (w:World) (v:Value) (l:List Lr):Prop:= ∃a cap,v= .slice a l.length cap∧l.length≤cap∧l.length≤1000000000000000∧ ∀i (h:i<l.length),∃b o,a=some ⟨b,o,none⟩∧b<w.heap.size∧kW w b (o+i*4) l[i]
theorem gV.below {w w':World} {v:Value} {l:List Lr} (h:gV w v l) (f:Below w.heap.size w w'):gV w' v l:=by
 obtain⟨a,d,H,y,z,A⟩:=h
 refine⟨a,d,H,y,z,fun i G=>?_⟩
 obtain⟨b,o,E,hb,F⟩:=A i G
 exact⟨b,o,E,Nat.lt_of_lt_of_le hb f.size,F.below hb f⟩
theorem gV.shape {w:World} {v:Value} {l:List Lr} (h:gV w v l): ∃a d,v= .slice a l.length d:=by
 obtain⟨a,d,f,_⟩:=h
 exact⟨a,d,f⟩
theorem rY (w:World):gV w (.slice none 0 0) []:=⟨none,0,rfl,Nat.le_refl _,by decide,fun i h=>absurd h (by simp)⟩
def eI (w:World) (v:Value) (W:Wd):Prop:= ∃vf vg ai vc vl,v= .agg #[vf,vg,ai,.int .i64 W.hb.nx,.int .i64 W.hb.la,.int .i64 W.hb.ro,.int .i64 W.hb.now,vc,vl]∧(eP w vf W.hb.fos∧cD w vg W.hb.gs∧de w ai W.hb.ss)∧eH w vc W.cls∧gV w vl W.les
theorem eI.below {w w':World} {v:Value} {W:Wd} (h:eI w v W) (d:Below w.heap.size w w'):eI w' v W:=by
 obtain⟨G,H,ai,F,I,e,⟨f,y,z⟩,A,E⟩:=h
 exact⟨G,H,ai,F,I,e,⟨f.below d,y.below d,z.below d⟩,A.below d,E.below d⟩
structure iA (W:Wd):Prop where
 hb:kd W.hb
 cls: ∀c∈W.cls,iO c
 les: ∀l∈W.les,l.tx.size≤140737488351232
def cX:List Cn→Int
 |[]=>0
 |c::r=>if¬bo c=0 then bo c else cX r
def Wo.hasB (l:List Cn) (c:Cn):Bool:=l.any (fun o=>o.who.toList==c.who.toList)
def lI:List Cn→List Cn→Bool
 |_,[]=>false
 |a,c::r=>Wo.hasB a c||lI (a++[c]) r
def lJ (l:List Cn):Bool:=lI [] l
def eS (l:List Cn):Int:=if¬cX l=0 then cX l else if lJ l=true then 6 else 0
theorem rZ: ∀{l:List Cn} {k:Nat} (h:k<l.length),cX (l.take k)=0→cX (l.take (k+1))=bo l[k]
 |[],_,h,_=>absurd h (by simp)
 |c::r,0,_,_=>by
  simp only[List.take_succ_cons,List.take_zero,cX,List.getElem_cons_zero];by_cases d:bo c=0
  · rw[if_neg (fun x=>x d),d]
  · rw[if_pos d]
 |c::r,k+1,h,h0=>by
  rw[List.take_succ_cons,cX]at h0;rw[List.take_succ_cons,cX];by_cases d:bo c=0
  · rw[if_neg (fun x=>x d)]at h0⊢
    rw[rZ (by simpa using h) h0];simp
  · rw[if_pos d]at h0
    exact absurd h0 d
theorem se: ∀{l:List Cn} {k:Nat} (h:k<l.length),cX (l.take k)=0→ ¬bo l[k]=0→cX l=bo l[k]
 |[],_,h,_,_=>absurd h (by simp)
 |c::r,0,_,_,hn=>by
  simp only[List.getElem_cons_zero]at hn⊢;rw[cX,if_pos hn]
 |c::r,k+1,h,h0,hn=>by
  rw[List.take_succ_cons,cX]at h0;by_cases d:bo c=0
  · rw[if_neg (fun x=>x d)]at h0
    rw[cX,if_neg (fun x=>x d)];simp only[List.getElem_cons_succ]at hn⊢;exact se (by simpa using h) h0 hn
  · rw[if_pos d]at h0
    exact absurd h0 d
theorem sh: ∀(a r:List Cn),(∀k (h:k<r.length),Wo.hasB (a++r.take k) r[k]=false)→lI a r=false
 |a,[],_=>rfl
 |a,c::r,h=>by
  rw[lI,Bool.or_eq_false_iff];refine⟨by have:=h 0 (by simp);simpa using this,sh (a++[c]) r fun k d=>?_⟩
  have:=h (k+1) (by simpa using d)
  simpa using this
theorem sj: ∀(a r:List Cn) (k:Nat) (h:k<r.length),Wo.hasB (a++r.take k) r[k]=true→lI a r=true
 |a,[],_,h,_=>absurd h (by simp)
 |a,c::r,0,_,hk=>by
  rw[lI,Bool.or_eq_true];exact Or.inl (by simpa using hk)
 |a,c::r,k+1,h,hk=>by
  rw[lI,Bool.or_eq_true];exact Or.inr (sj (a++[c]) r k (by simpa using h) (by simpa using hk))
abbrev dU:=Value×Value×Value
def fs (c:Cn) (u:dU):List Value:=[.string c.who,.string c.fo,u.1,.int .i64 c.cur,u.2.1,.string c.key,u.2.2,.int .i64 c.keys]
def dI (l:List Cn) (us:List dU):List (List Value):=List.zipWith fs l us
theorem jK {l:List Cn} {us:List dU} (h:us.length=l.length):(dI l us).length=l.length:=by simp[dI,h]
theorem nO {l:List Cn} {us:List dU} (h:us.length=l.length) {i:Nat} (d:i<l.length):(dI l us)[i]?=some (fs l[i] (us[i]'(by omega))):=by
 rw[dI,List.getElem?_zipWith,List.getElem?_eq_getElem d,List.getElem?_eq_getElem (by omega)]
theorem DP {l:List Cn} {us:List dU} (h:us.length=l.length) {i:Nat} (d:i<l.length) (u:dU):(dI l us).set i (fs l[i] u)=dI l (us.set i u):=by
 apply List.ext_getElem?
 intro j;rw[List.getElem?_set,dI,dI,List.getElem?_zipWith,List.getElem?_zipWith,List.getElem?_set];by_cases f:i=j
 · subst f
   have y:i<(List.zipWith fs l us).length:=by simp[h];omega
   simp[h,d,List.getElem?_eq_getElem d,show i<us.length by omega]
 · simp[f]
def sk (w:World) (l:List Cn) (us:List dU):Prop:=us.length=l.length∧ ∀(i:Nat) (c:Cn) (u:dU),l[i]?=some c→us[i]?=some u→an w u.1 c.base∧an w u.2.1 c.mine∧cj w u.2.2 c.ask
theorem DQ {w:World} {v:Value} {l:List Cn} (h:eH w v l): ∃O,sk w l O∧aW 8 w v (dI l O):=by
 obtain⟨a,I,hv,Z,h2,h3⟩:=h
 have y: ∀i:Fin l.length,∃u:dU,(an w u.1 l[i].base∧an w u.2.1 l[i].mine∧cj w u.2.2 l[i].ask)∧(u.1.oneCell'=true∧u.2.1.oneCell'=true∧u.2.2.oneCell'=true)∧ ∃b o,a=some ⟨b,o,none⟩∧b<w.heap.size∧ ∀c x,(fs l[i] u)[c]?=some x→w.cell? ⟨b,o+i*8+c,none⟩=some x:=fun i=>by
  obtain⟨b,o,J,hb,vb,vm,va,P,Q,S,T,U,V,X,Y,K,M,N⟩:=h3 i i.2
  refine⟨(vb,vm,va),⟨K,M,N⟩,⟨by obtain⟨_,_,e,_⟩:=K;rw[e];rfl,by obtain⟨_,_,e,_⟩:=M;rw[e];rfl,by obtain⟨_,_,e,_⟩:=N;rw[e];rfl⟩,b,o,J,hb,fun c x d=>?_⟩
  match c,d with
  |0,d=>simp[fs]at d;subst d;exact P
  |1,d=>simp[fs]at d;subst d;exact Q
  |2,d=>simp[fs]at d;subst d;exact S
  |3,d=>simp[fs]at d;subst d;exact T
  |4,d=>simp[fs]at d;subst d;exact U
  |5,d=>simp[fs]at d;subst d;exact V
  |6,d=>simp[fs]at d;subst d;exact X
  |7,d=>simp[fs]at d;subst d;exact Y
  |c+8,d=>simp[fs]at d
 have f:(List.ofFn fun i:Fin l.length=>Classical.choose (y i)).length=l.length:=by simp
 refine⟨List.ofFn (fun i:Fin l.length=>Classical.choose (y i)),⟨f,?_⟩,a,I,by rw[jK f];exact hv,by rw[jK f];exact Z,by rw[jK f];exact h2,?_,?_⟩
 · intro i c u F E
   have z:i<l.length:=(List.getElem?_eq_some_iff.1 F).1;rw[List.getElem?_eq_getElem z]at F;injection F with F
   rw[List.getElem?_eq_getElem (by simpa using z),List.getElem_ofFn]at E;injection E with E
   rw[←F,←E];exact(Classical.choose_spec (y ⟨i,z⟩)).1
 · intro r hr
   obtain⟨i,z⟩:=List.getElem?_of_mem hr
   have A:i<l.length:=by
    have:=(List.getElem?_eq_some_iff.1 z).1
    rw[jK f]at this;exact this
   rw[nO f A]at z;injection z with z
   rw[←z];refine⟨rfl,fun u E=>?_⟩
   rw[List.getElem_ofFn]at E;have G:=(Classical.choose_spec (y ⟨i,A⟩)).2.1;simp only[fs,List.mem_cons,List.not_mem_nil,or_false]at E;rcases E with rfl|rfl|rfl|rfl|rfl|rfl|rfl|rfl
   · rfl
   · rfl
   · exact G.1
   · rfl
   · exact G.2.1
   · rfl
   · exact G.2.2
   · rfl
 · intro i z
   have A:i<l.length:=by rw[jK f]at z;exact z
   obtain⟨b,o,J,hb,F⟩:=(Classical.choose_spec (y ⟨i,A⟩)).2.2
   refine⟨b,o,J,hb,fun c u E=>?_⟩
   have H:(dI l (List.ofFn fun i:Fin l.length=>Classical.choose (y i)))[i]?=some (fs l[i] (Classical.choose (y ⟨i,A⟩))):=by rw[nO f A,List.getElem_ofFn]
   rw[List.getElem?_eq_getElem z]at H;injection H with H
   rw[H]at E;exact F c u E
theorem DR {w:World} {v:Value} {l:List Cn} {us:List dU} (M:sk w l us) (h:aW 8 w v (dI l us)):eH w v l:=by
 obtain⟨d,E⟩:=M
 obtain⟨a,A,I,G,H,_,J⟩:=h
 rw[jK d]at I G H;refine⟨a,A,I,G,H,fun i F=>?_⟩
 have y:i<(dI l us).length:=by rw[jK d];exact F
 obtain⟨b,o,K,hb,f⟩:=J i y
 have z:=nO d F;rw[List.getElem?_eq_getElem y]at z;injection z with z
 rw[z]at f;obtain⟨N,O,P⟩:=E i _ _ (List.getElem?_eq_getElem F) (List.getElem?_eq_getElem (by omega))
 exact⟨b,o,K,hb,_,_,_,f 0 _ rfl,f 1 _ rfl,f 2 _ rfl,f 3 _ rfl,f 4 _ rfl,f 5 _ rfl,f 6 _ rfl,f 7 _ rfl,N,O,P⟩
def fH (l:Lr):List Value:=[.int .i64 l.fr,.int .i64 l.kind,.bool l.ans,.string l.tx]
theorem kX {w:World} {v:Value} {L:List Lr}:gV w v L↔aW 4 w v (L.map fH):=by
 constructor
 · rintro ⟨a,f,E,z,A,F⟩
   refine⟨a,f,by rw[List.length_map];exact E,by rw[List.length_map];exact z,by rw[List.length_map];exact A,?_,fun i H=>?_⟩
   · intro r N
     obtain⟨x,_,rfl⟩:=List.mem_map.1 N
     refine⟨rfl,fun u d=>?_⟩
     simp only[fH,List.mem_cons,List.not_mem_nil,or_false]at d;rcases d with rfl|rfl|rfl|rfl<;>rfl
   · obtain⟨b,o,G,hb,I,J,K,M⟩:=F i (by simpa using H)
     refine⟨b,o,G,hb,fun c u d=>?_⟩
     rw[List.getElem_map]at d;match c,d with
     |0,d=>simp[fH]at d;subst d;exact I
     |1,d=>simp[fH]at d;subst d;exact J
     |2,d=>simp[fH]at d;subst d;exact K
     |3,d=>simp[fH]at d;subst d;exact M
     |c+4,d=>simp[fH]at d
 · rintro ⟨a,f,E,z,A,_,F⟩
   rw[List.length_map]at E z A;refine⟨a,f,E,z,A,fun i H=>?_⟩
   obtain⟨b,o,G,hb,y⟩:=F i (by simpa using H)
   rw[List.getElem_map]at y;exact⟨b,o,G,hb,y 0 _ rfl,y 1 _ rfl,y 2 _ rfl,y 3 _ rfl⟩
theorem Tryz.infoRCl:(prog.info? 47).map (fun i=>(i.zero,i.size,i.bytes))=some (some (.agg #[.string ⟨#[]⟩,.string ⟨#[]⟩,.slice none 0 0,.int .i64 0,.slice none 0 0,.string ⟨#[]⟩,.slice none 0 0,.int .i64 0]),8,136):=by kernel_rfl
theorem DS (R:List (List Value)) (v:Value) (w:World) (hv:aW 8 w v R) (hn:R.length≤1000000000000):
    Calls prog 55 #[v] w fun e w'=> ∃u,e= .returned u∧aW 8 w' u R∧aI w.heap.size w' u∧Below w.heap.size w w':=by
 obtain⟨aZ,Q,U,V,X⟩:=info_parts Tryz.infoRCl
 obtain⟨a,O,rfl,I0,P,G,f⟩:=hv
 have M:=hid G;have I6: ∀(w:World) (a:Option Addr) (n c Y N:Nat),(binOp .eql 29 (.slice a n c) (.slice none Y N)).run prog w= .ok (.bool a.isNone) w:=fun w a n c Y N=>Lib.run_eql_slice_nil w _ _ a n c Y N underlying29
 cases a with
 |none=>
  have hL:R=[]:=by
   cases R with
   |nil=>rfl
   |cons s r=>obtain⟨b,o,hb,_⟩:=f 0 (by simp);cases hb
  subst hL;clear G;go_enter func55,ntmps55
  go_wp2;go_ret;exact⟨_,rfl,⟨none,0,rfl,Nat.le_refl _,by simp,M.out,fun i h=>absurd h (by simp)⟩,gM _ _,Below.refl _ _⟩
 |some ad=>
  have d: ∀j u,R.flatten[j]?=some u→w.cell? (ad.add j)=some u:=by
   cases R with
   |nil=>intro j u S;simp at S
   |cons s r=>
    obtain⟨b,o,hb,_⟩:=f 0 (by simp)
    injection hb with hb
    subst hb
    exact jX (by decide) (fun r T=>(G r T).1) fun i hi=>by
     obtain⟨b',o',z,_,he⟩:=f i hi
     injection z with z
     injection z with h1 h2
     subst h1;subst h2;exact he
  have HC:=hid d;have J:=hid (iu (fun r T=>(G r T).1):R.flatten.length=R.length*8);clear d f G;go_enter func55,ntmps55
  go_wp2_with (at_builtin;refine wpList_append_own _ rfl _ _ 29 rfl w.heap.size 47 aZ (.agg #[.string ⟨#[]⟩,.string ⟨#[]⟩,.slice none 0 0,.int .i64 0,.slice none 0 0,.string ⟨#[]⟩,.slice none 0 0,.int .i64 0]) 8 136 underlying29 Q U V X rfl (by decide) _ _ _ rfl (World.ownsRow_made w #[] 0 (Nat.le_refl _) (Nat.zero_le _) (by simp)) ad R.length O R.flatten rfl ?qc1 ?qc2 ?qc3 ?qc4 ?qc5 ?qc6 ?_)
  case qc1=>exact J.out
  case qc2=>intro j u S;exact Lib.cell?_alloc_some _ (HC.out j u S)
  case qc3=>exact kL M.out
  case qc4=>unfold maxLen;omega
  case qc5=>omega
  case qc6=>simp
  intro v2 w2 I y H;have A:Below w.heap.size w w2:=((Below.refl _ _).alloc (Nat.le_refl _) _).grown y (by simp) (fun k hk=>by simp[Value.ownBlock]at hk;omega);have E:w2.ownsRow w.heap.size 47 8 v2 R.length R.flatten:=by simpa using I
  have F:=hid (iN E (by omega) M.out);have K:=hid (iM E);obtain⟨a2,Z,I5,_,_,_⟩:=F.out
  clear I E y H;go_wp2_with fail;go_ret;exact⟨_,rfl,F.out,K.out,A⟩
theorem Tryz.infoRLr:(prog.info? 52).map (fun i=>(i.zero,i.size,i.bytes))=some (some (.agg #[.int .i64 0,.int .i64 0,.bool false,.string ⟨#[]⟩]),4,40):=by kernel_rfl
theorem DT (R:List (List Value)) (v:Value) (w:World) (hv:aW 4 w v R) (hn:R.length≤1000000000000):
    Calls prog 57 #[v] w fun e w'=> ∃u,e= .returned u∧aW 4 w' u R∧aI w.heap.size w' u∧w'.ownsRow w.heap.size 52 4 u R.length R.flatten∧(v= .slice none 0 0→u= .slice none 0 0)∧Below w.heap.size w w':=by
 obtain⟨aZ,T,X,Y,Z⟩:=info_parts Tryz.infoRLr
 obtain⟨a,P,rfl,I5,S,G,f⟩:=hv
 have N:=hid G;have I7: ∀(w:World) (a:Option Addr) (n c n' O:Nat),(binOp .eql 30 (.slice a n c) (.slice none n' O)).run prog w= .ok (.bool a.isNone) w:=fun w a n c n' O=>Lib.run_eql_slice_nil w _ _ a n c n' O underlying30
 cases a with
 |none=>
  have hL:R=[]:=by
   cases R with
   |nil=>rfl
   |cons s r=>obtain⟨b,o,hb,_⟩:=f 0 (by simp);cases hb
  subst hL;clear G;go_enter func57,ntmps57
  go_wp2;go_ret;exact⟨_,rfl,⟨none,0,rfl,Nat.le_refl _,by simp,N.out,fun i h=>absurd h (by simp)⟩,gM _ _,World.ownsRow_nil _ _ _ _,(fun _=>rfl),Below.refl _ _⟩
 |some ad=>
  have d: ∀j u,R.flatten[j]?=some u→w.cell? (ad.add j)=some u:=by
   cases R with
   |nil=>intro j u U;simp at U
   |cons s r=>
    obtain⟨b,o,hb,_⟩:=f 0 (by simp)
    injection hb with hb
    subst hb
    exact jX (by decide) (fun r V=>(G r V).1) fun i hi=>by
     obtain⟨b',o',A,_,he⟩:=f i hi
     injection A with A
     injection A with Q h2
     subst Q;subst h2;exact he
  have HC:=hid d;have J:=hid (iu (fun r V=>(G r V).1):R.flatten.length=R.length*4);clear d f G;go_enter func57,ntmps57
  go_wp2_with (at_builtin;refine wpList_append_own _ rfl _ _ 30 rfl w.heap.size 52 aZ (.agg #[.int .i64 0,.int .i64 0,.bool false,.string ⟨#[]⟩]) 4 40 underlying30 T X Y Z rfl (by decide) _ _ _ rfl (World.ownsRow_made w #[] 0 (Nat.le_refl _) (Nat.zero_le _) (by simp)) ad R.length P R.flatten rfl ?qc1 ?qc2 ?qc3 ?qc4 ?qc5 ?qc6 ?_)
  case qc1=>exact J.out
  case qc2=>intro j u U;exact Lib.cell?_alloc_some _ (HC.out j u U)
  case qc3=>exact kL N.out
  case qc4=>unfold maxLen;omega
  case qc5=>omega
  case qc6=>simp
  intro v2 w2 I z H;have E:Below w.heap.size w w2:=((Below.refl _ _).alloc (Nat.le_refl _) _).grown z (by simp) (fun k hk=>by simp[Value.ownBlock]at hk;omega);have y:w2.ownsRow w.heap.size 52 4 v2 R.length R.flatten:=by simpa using I
  have F:=hid (iN y (by omega) N.out);have M:=hid (iM y);obtain⟨a2,I0,I6,_,_,_⟩:=F.out
  have K:=hid y;clear I y z H;go_wp2_with fail;go_ret;exact⟨_,rfl,F.out,M.out,K.out,(fun h=>by have Q:=congrArg (fun v:Value=>match v with| .slice a _ _=>a.isSome|_=>false) h;simp at Q),E⟩
theorem DU {W:World} {b:Nat} {G H aY I J K M:Value} {r:List Value} (h:Cs W b (G::H::aY::I::J::K::M::r)) (d f y z A E F:Value):Cs (((((((W.setCell ⟨b,0,none⟩ (d)).setCell ⟨b,1,none⟩ (f)).setCell ⟨b,2,none⟩ (y)).setCell ⟨b,3,none⟩ (z)).setCell ⟨b,4,none⟩ (A)).setCell ⟨b,5,none⟩ (E)).setCell ⟨b,6,none⟩ (F)) b (d::f::y::z::A::E::F::r)∧W.grownBy (((((((W.setCell ⟨b,0,none⟩ (d)).setCell ⟨b,1,none⟩ (f)).setCell ⟨b,2,none⟩ (y)).setCell ⟨b,3,none⟩ (z)).setCell ⟨b,4,none⟩ (A)).setCell ⟨b,5,none⟩ (E)).setCell ⟨b,6,none⟩ (F)) (some b):=⟨(((((((h.set 0 d).set 1 f).set 2 y).set 3 z).set 4 A).set 5 E).set 6 F),(bj (bj (bj (bj (bj (bj (ar _ _ _ _) (ar _ _ _ _)) (ar _ _ _ _)) (ar _ _ _ _)) (ar _ _ _ _)) (ar _ _ _ _)) (ar _ _ _ _))⟩
theorem mx {W:World} {b:Nat} {I J aY K M N O P Q:Value} {r:List Value} (h:Cs W b (I::J::aY::K::M::N::O::P::Q::r)) (d f y z A E F G H:Value):Cs (((((((((W.setCell ⟨b,0,none⟩ (d)).setCell ⟨b,1,none⟩ (f)).setCell ⟨b,2,none⟩ (y)).setCell ⟨b,3,none⟩ (z)).setCell ⟨b,4,none⟩ (A)).setCell ⟨b,5,none⟩ (E)).setCell ⟨b,6,none⟩ (F)).setCell ⟨b,7,none⟩ (G)).setCell ⟨b,8,none⟩ (H)) b (d::f::y::z::A::E::F::G::H::r)∧W.grownBy (((((((((W.setCell ⟨b,0,none⟩ (d)).setCell ⟨b,1,none⟩ (f)).setCell ⟨b,2,none⟩ (y)).setCell ⟨b,3,none⟩ (z)).setCell ⟨b,4,none⟩ (A)).setCell ⟨b,5,none⟩ (E)).setCell ⟨b,6,none⟩ (F)).setCell ⟨b,7,none⟩ (G)).setCell ⟨b,8,none⟩ (H)) (some b):=⟨(((((((((h.set 0 d).set 1 f).set 2 y).set 3 z).set 4 A).set 5 E).set 6 F).set 7 G).set 8 H),(bj (bj (bj (bj (bj (bj (bj (bj (ar _ _ _ _) (ar _ _ _ _)) (ar _ _ _ _)) (ar _ _ _ _)) (ar _ _ _ _)) (ar _ _ _ _)) (ar _ _ _ _)) (ar _ _ _ _)) (ar _ _ _ _))⟩
def il (B:Nat) (w:World) (v:Value) (l:List Cn):Prop:= ∃us,sk w l us∧aW 8 w v (dI l us)∧aI B w v∧ ∀(i:Nat) (c:Cn) (u:dU),l[i]?=some c→us[i]?=some u→aI B w u.1∧aI B w u.2.1∧aI B w u.2.2
theorem il.lies {B:Nat} {w:World} {v:Value} {l:List Cn} (h:il B w v l):eH w v l:=by
 obtain⟨y,d,f,_⟩:=h
 exact DR d f
theorem il.below {B:Nat} {w w':World} {v:Value} {l:List Cn} (h:il B w v l) (d:Below w.heap.size w w'):il B w' v l:=by
 obtain⟨H,⟨E,z⟩,F,G,A⟩:=h
 exact⟨H,⟨E,fun i c u f y=>⟨(z i c u f y).1.below d,(z i c u f y).2.1.below d,(z i c u f y).2.2.below d⟩⟩,F.below d,G.below d,fun i c u f y=>⟨(A i c u f y).1.below d,(A i c u f y).2.1.below d,(A i c u f y).2.2.below d⟩⟩
theorem il.mono {B B':Nat} {w:World} {v:Value} {l:List Cn} (h:il B w v l) (d:B'≤B):il B' w v l:=by
 obtain⟨G,A,E,F,f⟩:=h
 exact⟨G,A,E,F.mono d,fun i c u y z=>⟨(f i c u y z).1.mono d,(f i c u y z).2.1.mono d,(f i c u y z).2.2.mono d⟩⟩
theorem bS {B g:Nat} {w:World} {v:Value} (h:aI B w v) (d:g<B): ∀b,v.ownBlock=some b→b≠g:=fun b hb=>by have:=(h b hb).1;omega
theorem il.nbo {B g:Nat} {w w':World} {v:Value} {l:List Cn} (h:il B w v l) (A:w.grownBy w' (some g)) (z:g<B):il B w' v l:=by
 obtain⟨I,⟨G,E⟩,H,F,y⟩:=h
 exact⟨I,⟨G,fun i c u d f=>⟨(E i c u d f).1.nbo A (bS (y i c u d f).1 z),(E i c u d f).2.1.nbo A (bS (y i c u d f).2.1 z),(E i c u d f).2.2.nbo A (bS (y i c u d f).2.2 z)⟩⟩,H.nbo A (bS F z),F.nb A (bS F z),fun i c u d f=>⟨(y i c u d f).1.nb A (bS (y i c u d f).1 z),(y i c u d f).2.1.nb A (bS (y i c u d f).2.1 z),(y i c u d f).2.2.nb A (bS (y i c u d f).2.2 z)⟩⟩
def gW (B:Nat) (wr:World) (l:List Cn) (us0 us:List dU) (k:Nat):Prop:=us.length=l.length∧
 (∀(j:Nat) (c:Cn) (u:dU),j<k→l[j]?=some c→us[j]?=some u→(an wr u.1 c.base∧aI B wr u.1)∧(an wr u.2.1 c.mine∧aI B wr u.2.1)∧cj wr u.2.2 c.ask∧aI B wr u.2.2)∧ ∀j,k≤j→us[j]?=us0[j]?
theorem gW.zero {B:Nat} {w:World} {l:List Cn} {d:List dU} (h:d.length=l.length):gW B w l d d 0:=⟨h,fun j c u f=>absurd f (Nat.not_lt_zero _),fun j _=>rfl⟩
theorem gW.below {B:Nat} {w w':World} {l:List Cn} {f us:List dU} {k:Nat} (h:gW B w l f us k) (d:Below w.heap.size w w'):gW B w' l f us k:=
 ⟨h.1,fun j c u G F H=>by
  obtain⟨⟨y,z⟩,⟨b1,b2⟩,A,E⟩:=h.2.1 j c u G F H
  exact⟨⟨y.below d,z.below d⟩,⟨b1.below d,b2.below d⟩,A.below d,E.below d⟩,h.2.2⟩
theorem gW.next {B b:Nat} {w w':World} {l:List Cn} {E us:List dU} {k:Nat} {u:dU} (h:gW B w l E us k) (N:k<l.length) (d:w.grownBy w' (some b)) (hb:b<B)
    (J:(an w u.1 l[k].base∧aI B w u.1)∧(an w u.2.1 l[k].mine∧aI B w u.2.1)∧cj w u.2.2 l[k].ask∧aI B w u.2.2):gW B w' l E (us.set k u) (k+1):=by
 obtain⟨O,K,P⟩:=h
 refine⟨by rw[List.length_set];exact O,fun j c y M z f=>?_,fun j M=>?_⟩
 · have keep: ∀{c:Cn} {y:dU},((an w y.1 c.base∧aI B w y.1)∧(an w y.2.1 c.mine∧aI B w y.2.1)∧cj w y.2.2 c.ask∧aI B w y.2.2)→(an w' y.1 c.base∧aI B w' y.1)∧(an w' y.2.1 c.mine∧aI B w' y.2.1)∧cj w' y.2.2 c.ask∧aI B w' y.2.2:=fun⟨⟨H,F⟩,⟨b1,b2⟩,I,G⟩=>
    ⟨⟨H.nbo d (bS F hb),F.nb d (bS F hb)⟩,⟨b1.nbo d (bS b2 hb),b2.nb d (bS b2 hb)⟩,I.nbo d (bS G hb),G.nb d (bS G hb)⟩
   by_cases A:k=j
   · subst A
     rw[List.getElem?_set_self (by omega)]at f;injection f with f
     subst f;rw[List.getElem?_eq_getElem N]at z;injection z with z
     subst z;exact keep J
   · rw[List.getElem?_set_ne A]at f
     exact keep (K j c y (by omega) z f)
 · rw[List.getElem?_set_ne (by omega)]
   exact P j (by omega)
theorem gW.own {b:Nat} {w:World} {v:Value} {l:List Cn} {z us:List dU} {B:Nat} (h:gW (b+1) w l z us l.length) (G:aW 8 w v (dI l us)) (F:aI B w v) (f:B≤b+1):il B w v l:=by
 obtain⟨E,A,_⟩:=h
 refine⟨us,⟨E,fun i c u d y=>?_⟩,G,F,fun i c u d y=>?_⟩
 · have g:=A i c u (List.getElem?_eq_some_iff.1 d).1 d y
   exact⟨g.1.1,g.2.1.1,g.2.2.1⟩
 · have g:=A i c u (List.getElem?_eq_some_iff.1 d).1 d y
   exact⟨g.1.2.mono f,g.2.1.2.mono f,g.2.2.2.mono f⟩
theorem aW.set1 {n:Nat} {w:World} {a:Option Addr} {k cap b o i c:Nat} {R:List (List Value)} {r:List Value} (h:aW n w (.slice a k cap) (R.set i r)) (f:a=some ⟨b,o,none⟩) (z:i<R.length) (y:c<n) (u:Value) (A:u.oneCell'=true):
    aW n (w.setCell ⟨b,o+i*n+c,none⟩ u) (.slice a k cap) (R.set i (r.set c u)):=by
 have d:=h.set f (i:=i) (c:=c) (by simpa using z) y u A;rw[List.getElem_set_self,List.set_set]at d;exact d
def xt (W:World) (b p:Nat) (v0 v1 v2 v3 v4 v5 v6 v7:Value):World:=((((((((W.setCell ⟨b,p,none⟩ (v0)).setCell ⟨b,p+1,none⟩ (v1)).setCell ⟨b,p+2,none⟩ (v2)).setCell ⟨b,p+3,none⟩ (v3)).setCell ⟨b,p+4,none⟩ (v4)).setCell ⟨b,p+5,none⟩ (v5)).setCell ⟨b,p+6,none⟩ (v6)).setCell ⟨b,p+7,none⟩ (v7))
theorem DV {w:World} {a:Option Addr} {n cap b o k:Nat} {l:List Cn} {us:List dU} {u:dU} (h:aW 8 w (.slice a n cap) (dI l us)) (A:us.length=l.length) (f:a=some ⟨b,o,none⟩) (z:k<l.length) (E:u.1.oneCell'=true) (F:u.2.1.oneCell'=true) (G:u.2.2.oneCell'=true):
    aW 8 (xt w b (o+k*8) (.string l[k].who) (.string l[k].fo) u.1 (.int .i64 l[k].cur) u.2.1 (.string l[k].key) u.2.2 (.int .i64 l[k].keys)) (.slice a n cap) (dI l (us.set k u)):=by
 have y:=nO A z;have d:k<(dI l us).length:=by rw[jK A];exact z
 rw[List.getElem?_eq_getElem d]at y;replace y:=Option.some.inj y
 have s:aW 8 w (.slice a n cap) ((dI l us).set k (fs l[k] (us[k]'(by omega)))):=by
  rw[←y,List.set_getElem_self];exact h
 rw[←DP A z u];generalize dI l us=R at*;have H:=s.set1 f d (c:=0) (by decide) (.string l[k].who) rfl;have I:=H.set1 f d (c:=1) (by decide) (.string l[k].fo) rfl;have J:=I.set1 f d (c:=2) (by decide) (u.1) E;have K:=J.set1 f d (c:=3) (by decide) (.int .i64 l[k].cur) rfl;have M:=K.set1 f d (c:=4) (by decide) (u.2.1) F;have N:=M.set1 f d (c:=5) (by decide) (.string l[k].key) rfl;have O:=N.set1 f d (c:=6) (by decide) (u.2.2) G;have P:=O.set1 f d (c:=7) (by decide) (.int .i64 l[k].keys) rfl;exact P
def nP:Value→Value
 | .agg cs=>cs.getD 8 .nilFunc
 |v=>v
def DW (B:Nat) (w:World) (v:Value) (l:List Lr):Prop:=w.ownsRow B 52 4 v l.length (l.map fH).flatten
theorem sl {B g:Nat} {w:World} {v:Value} (h:aI B w v) (d:g<B):v.ownBlock=none∨v.ownBlock≠some g:=by
 cases hb:v.ownBlock with
 |none=>exact Or.inl rfl
 |some k=>exact Or.inr (by have:=bS h d k hb;simpa using this)
def ft (B:Nat) (w:World) (v:Value) (W:Wd):Prop:= ∃vf vg ai vc vl,v= .agg #[vf,vg,ai,.int .i64 W.hb.nx,.int .i64 W.hb.la,.int .i64 W.hb.ro,.int .i64 W.hb.now,vc,vl]∧(fG B w vf W.hb.fos∧(cD w vg W.hb.gs∧aI B w vg)∧de w ai W.hb.ss∧aI B w ai)∧il B w vc W.cls∧gV w vl W.les∧aI B w vl∧DW B w vl W.les
end Go.Proofs.YtcmlnelpcjfocaaGreatDoor
