/- Copies of entries and changes, in memory of their own. -/
import Derived.Test.YtgamnckfmmbjdaaGreatDoorWGI
import Derived.Test.YtgamnckfmmbjdaaGreatDoorWGH
set_option linter.unusedSimpArgs false
set_option linter.unusedVariables false
namespace Go.Proofs.YtgamnckfmmbjdaaGreatDoor
open Go.RowKit Go.Proofs.Tryz
set_option maxHeartbeats 2000000
def fU (c:ar):List Value:=[.int .i64 c.k,.string c.p,.string c.q,.string c.t,.int .i64 c.b]
theorem jA {w:World} {v:Value} {L:List En}:aj w v L↔aJ 4 w v (L.map Pp.cells):=by
 constructor
 · rintro ⟨a,f,G,y,z,A⟩
   refine⟨a,f,by simpa using G,by simpa using y,by simpa using z,?_,fun i F=>?_⟩
   · intro r J
     obtain⟨e,_,rfl⟩:=List.mem_map.1 J
     exact⟨rfl,Pp.cells_one e⟩
   · obtain⟨b,o,E,hb,j⟩:=A i (by simpa using F)
     refine⟨b,o,E,hb,fun c u d=>?_⟩
     rw[List.getElem_map]at d;obtain⟨aP,ay,H,I⟩:=j
     match c,d with
     |0,d=>simp[Pp.cells]at d;subst d;exact aP
     |1,d=>simp[Pp.cells]at d;subst d;exact ay
     |2,d=>simp[Pp.cells]at d;subst d;exact H
     |3,d=>simp[Pp.cells]at d;subst d;exact I
     |c+4,d=>simp[Pp.cells]at d
 · rintro ⟨a,f,G,y,z,_,A⟩
   refine⟨a,f,by simpa using G,by simpa using y,by simpa using z,fun i F=>?_⟩
   obtain⟨b,o,E,hb,j⟩:=A i (by simpa using F)
   rw[List.getElem_map]at j;exact⟨b,o,E,hb,j 0 _ rfl,j 1 _ rfl,j 2 _ rfl,j 3 _ rfl⟩
theorem lp {w:World} {v:Value} {L:List ar}:bk w v L↔aJ 5 w v (L.map fU):=by
 constructor
 · rintro ⟨a,j,G,y,z,A⟩
   refine⟨a,j,by simpa using G,by simpa using y,by simpa using z,?_,fun i F=>?_⟩
   · intro r K
     obtain⟨e,_,rfl⟩:=List.mem_map.1 K
     refine⟨rfl,fun u d=>?_⟩
     simp only[fU,List.mem_cons,List.not_mem_nil,or_false]at d;rcases d with rfl|rfl|rfl|rfl|rfl<;>rfl
   · obtain⟨b,o,E,hb,f⟩:=A i (by simpa using F)
     refine⟨b,o,E,hb,fun c u d=>?_⟩
     rw[List.getElem_map]at d;obtain⟨aP,ay,H,I,J⟩:=f
     match c,d with
     |0,d=>simp[fU]at d;subst d;exact aP
     |1,d=>simp[fU]at d;subst d;exact ay
     |2,d=>simp[fU]at d;subst d;exact H
     |3,d=>simp[fU]at d;subst d;exact I
     |4,d=>simp[fU]at d;subst d;exact J
     |c+5,d=>simp[fU]at d
 · rintro ⟨a,j,G,y,z,_,A⟩
   refine⟨a,j,by simpa using G,by simpa using y,by simpa using z,fun i F=>?_⟩
   obtain⟨b,o,E,hb,f⟩:=A i (by simpa using F)
   rw[List.getElem_map]at f;exact⟨b,o,E,hb,f 0 _ rfl,f 1 _ rfl,f 2 _ rfl,f 3 _ rfl,f 4 _ rfl⟩
theorem Tryz.infoRE:(prog.info? 108).map (fun i=>(i.zero,i.size,i.bytes))=some (some (.agg #[.string ⟨#[]⟩,.bool false,.string ⟨#[]⟩,.int .i64 0]),4,48):=by kernel_rfl
theorem ny (R:List (List Value)) (v:Value) (w:World) (hv:aJ 4 w v R) (hn:R.length≤1000000000000):
    Calls prog 101 #[v] w fun e w'=> ∃u,e= .returned u∧aJ 4 w' u R∧aw w.heap.size w' u∧Below w.heap.size w w':=by
 obtain⟨aQ,Q,U,V,X⟩:=info_parts Tryz.infoRE
 obtain⟨a,O,rfl,C3,P,G,f⟩:=hv
 have M:=hid G;have C5: ∀(w:World) (a:Option Addr) (n c Y N:Nat),(binOp .eql 47 (.slice a n c) (.slice none Y N)).run prog w= .ok (.bool a.isNone) w:=fun w a n c Y N=>Lib.run_eql_slice_nil w _ _ a n c Y N underlying47
 cases a with
 |none=>
  have hL:R=[]:=by
   cases R with
   |nil=>rfl
   |cons s r=>obtain⟨b,o,hb,_⟩:=f 0 (by simp);cases hb
  subst hL;clear G;go_enter func101,ntmps101
  go_wp2;go_ret;exact⟨_,rfl,⟨none,0,rfl,Nat.le_refl _,by simp,M.out,fun i h=>absurd h (by simp)⟩,eX _ _,Below.refl _ _⟩
 |some ad=>
  have d: ∀j u,R.flatten[j]?=some u→w.cell? (ad.add j)=some u:=by
   cases R with
   |nil=>intro j u S;simp at S
   |cons s r=>
    obtain⟨b,o,hb,_⟩:=f 0 (by simp)
    injection hb with hb
    subst hb
    exact gX (by decide) (fun r T=>(G r T).1) fun i hi=>by
     obtain⟨b',o',z,_,he⟩:=f i hi
     injection z with z
     injection z with h1 h2
     subst h1;subst h2;exact he
  have HC:=hid d;have J:=hid (fy (fun r T=>(G r T).1):R.flatten.length=R.length*4);clear d f G;go_enter func101,ntmps101
  go_wp2_with (at_builtin;refine wpList_append_own _ rfl _ _ 47 rfl w.heap.size 108 aQ (.agg #[.string ⟨#[]⟩,.bool false,.string ⟨#[]⟩,.int .i64 0]) 4 48 underlying47 Q U V X rfl (by decide) _ _ _ rfl (World.ownsRow_made w #[] 0 (Nat.le_refl _) (Nat.zero_le _) (by simp)) ad R.length O R.flatten rfl ?qc1 ?qc2 ?qc3 ?qc4 ?qc5 ?qc6 ?_)
  case qc1=>exact J.out
  case qc2=>intro j u S;exact Lib.cell?_alloc_some _ (HC.out j u S)
  case qc3=>exact iv M.out
  case qc4=>unfold maxLen;omega
  case qc5=>omega
  case qc6=>simp
  intro v2 w2 I y H;have A:Below w.heap.size w w2:=((Below.refl _ _).alloc (Nat.le_refl _) _).grown y (by simp) (fun k hk=>by simp[Value.ownBlock]at hk;omega);have E:w2.ownsRow w.heap.size 108 4 v2 R.length R.flatten:=by simpa using I
  have F:=hid (gY E (by omega) M.out);have K:=hid (fO E);obtain⟨a2,Z,C4,_,_,_⟩:=F.out
  clear I E y H;go_wp2_with fail;go_ret;exact⟨_,rfl,F.out,K.out,A⟩
theorem Tryz.infoRC:(prog.info? 55).map (fun i=>(i.zero,i.size,i.bytes))=some (some (.agg #[.int .i64 0,.string ⟨#[]⟩,.string ⟨#[]⟩,.string ⟨#[]⟩,.int .i64 0]),5,64):=by kernel_rfl
theorem qp (R:List (List Value)) (v:Value) (w:World) (hv:aJ 5 w v R) (hn:R.length≤1000000000000):
    Calls prog 102 #[v] w fun e w'=> ∃u,e= .returned u∧aJ 5 w' u R∧aw w.heap.size w' u∧Below w.heap.size w w':=by
 obtain⟨aQ,Q,U,V,X⟩:=info_parts Tryz.infoRC
 obtain⟨a,O,rfl,C3,P,G,f⟩:=hv
 have M:=hid G;have C5: ∀(w:World) (a:Option Addr) (n c Y N:Nat),(binOp .eql 48 (.slice a n c) (.slice none Y N)).run prog w= .ok (.bool a.isNone) w:=fun w a n c Y N=>Lib.run_eql_slice_nil w _ _ a n c Y N underlying48
 cases a with
 |none=>
  have hL:R=[]:=by
   cases R with
   |nil=>rfl
   |cons s r=>obtain⟨b,o,hb,_⟩:=f 0 (by simp);cases hb
  subst hL;clear G;go_enter func102,ntmps102
  go_wp2;go_ret;exact⟨_,rfl,⟨none,0,rfl,Nat.le_refl _,by simp,M.out,fun i h=>absurd h (by simp)⟩,eX _ _,Below.refl _ _⟩
 |some ad=>
  have d: ∀j u,R.flatten[j]?=some u→w.cell? (ad.add j)=some u:=by
   cases R with
   |nil=>intro j u S;simp at S
   |cons s r=>
    obtain⟨b,o,hb,_⟩:=f 0 (by simp)
    injection hb with hb
    subst hb
    exact gX (by decide) (fun r T=>(G r T).1) fun i hi=>by
     obtain⟨b',o',z,_,he⟩:=f i hi
     injection z with z
     injection z with h1 h2
     subst h1;subst h2;exact he
  have HC:=hid d;have J:=hid (fy (fun r T=>(G r T).1):R.flatten.length=R.length*5);clear d f G;go_enter func102,ntmps102
  go_wp2_with (at_builtin;refine wpList_append_own _ rfl _ _ 48 rfl w.heap.size 55 aQ (.agg #[.int .i64 0,.string ⟨#[]⟩,.string ⟨#[]⟩,.string ⟨#[]⟩,.int .i64 0]) 5 64 underlying48 Q U V X rfl (by decide) _ _ _ rfl (World.ownsRow_made w #[] 0 (Nat.le_refl _) (Nat.zero_le _) (by simp)) ad R.length O R.flatten rfl ?qc1 ?qc2 ?qc3 ?qc4 ?qc5 ?qc6 ?_)
  case qc1=>exact J.out
  case qc2=>intro j u S;exact Lib.cell?_alloc_some _ (HC.out j u S)
  case qc3=>exact iv M.out
  case qc4=>unfold maxLen;omega
  case qc5=>omega
  case qc6=>simp
  intro v2 w2 I y H;have A:Below w.heap.size w w2:=((Below.refl _ _).alloc (Nat.le_refl _) _).grown y (by simp) (fun k hk=>by simp[Value.ownBlock]at hk;omega);have E:w2.ownsRow w.heap.size 55 5 v2 R.length R.flatten:=by simpa using I
  have F:=hid (gY E (by omega) M.out);have K:=hid (fO E);obtain⟨a2,Z,C4,_,_,_⟩:=F.out
  clear I E y H;go_wp2_with fail;go_ret;exact⟨_,rfl,F.out,K.out,A⟩
theorem bk.nbo {W f:World} {v:Value} {L:List ar} {g:Nat} (h:bk W v L) (j:W.grownBy f (some g)) (E: ∀b,v.ownBlock=some b→b≠g):bk f v L:=by
 obtain⟨a,e,rfl,u,y,z⟩:=h
 refine⟨a,e,rfl,u,y,fun i A=>?_⟩
 obtain⟨b,o,rfl,hb,d⟩:=z i A
 have c:=fw j hb (E b rfl);exact⟨b,o,rfl,Nat.lt_of_lt_of_le hb j.size,(c _).trans d.1,(c _).trans d.2.1,(c _).trans d.2.2.1,(c _).trans d.2.2.2.1,(c _).trans d.2.2.2.2⟩
theorem aw.nb {B:Nat} {w w':World} {v:Value} {g:Nat} (h:aw B w v) (j:w.grownBy w' (some g)) (f: ∀b,v.ownBlock=some b→b≠g):aw B w' v:=fun b hb=>by
 obtain⟨d,cur,T,a⟩:=h b hb
 exact⟨d,cur,T,(j.block b (cn a) (fun e=>f b hb (by injection e))).trans a⟩
theorem aw.setCell {B:Nat} {w:World} {v:Value} (h:aw B w v) (b o:Nat) (u:Value):aw B (w.setCell ⟨b,o,none⟩ u) v:=fun g f=>by
 obtain⟨d,cur,T,a⟩:=h g f
 by_cases hb:b=g
 · subst hb
   refine⟨d,cur.setIfInBounds o u,T,?_⟩
   unfold World.setCell;simp only[Array.getElem?_modify,a,if_true,Option.map_some];rfl
 · exact⟨d,cur,T,((au w b o u).block g (cn a) (fun e=>hb (by injection e with e;exact e.symm))).trans a⟩
theorem aj.nbo {W f:World} {v:Value} {L:List En} {g:Nat} (h:aj W v L) (j:W.grownBy f (some g)) (E: ∀b,v.ownBlock=some b→b≠g):aj f v L:=by
 obtain⟨a,e,rfl,u,y,z⟩:=h
 refine⟨a,e,rfl,u,y,fun i A=>?_⟩
 obtain⟨b,o,rfl,hb,d⟩:=z i A
 have c:=fw j hb (E b rfl);exact⟨b,o,rfl,Nat.lt_of_lt_of_le hb j.size,(c _).trans d.1,(c _).trans d.2.1,(c _).trans d.2.2.1,(c _).trans d.2.2.2⟩
theorem aJ.nbo {n:Nat} {W f:World} {v:Value} {R:List (List Value)} {g:Nat} (h:aJ n W v R) (j:W.grownBy f (some g)) (H: ∀b,v.ownBlock=some b→b≠g):aJ n f v R:=by
 obtain⟨a,e,rfl,y,z,E,A⟩:=h
 refine⟨a,e,rfl,y,z,E,fun i G=>?_⟩
 obtain⟨b,o,rfl,hb,F⟩:=A i G
 have c:=fw j hb (H b rfl);exact⟨b,o,rfl,Nat.lt_of_lt_of_le hb j.size,fun d u I=>(c _).trans (F d u I)⟩
theorem aN {a b c:World} {g:Nat} (h:a.grownBy b (some g)) (k:b.grownBy c (some g)):a.grownBy c (some g):=⟨k.os.trans h.os,k.tape.trans h.tape,k.output.trans h.output,Nat.le_trans h.size k.size,fun x e d=>(k.block x (Nat.lt_of_lt_of_le e h.size) d).trans (h.block x e d)⟩
structure Co where
 nu:Int
 ke:ByteArray
 ch:List ar
structure Jo where
 base:List En
 first:Int
 cos:List Co
def fB (w:World) (b o:Nat) (c:Co):Prop:=w.cell? ⟨b,o,none⟩=some (.int .i64 c.nu)∧w.cell? ⟨b,o+1,none⟩=some (.string c.ke)∧ ∃u,w.cell? ⟨b,o+2,none⟩=some u∧bk w u c.ch
def dd (w:World) (v:Value) (l:List Co):Prop:= ∃a cap,v= .slice a l.length cap∧l.length≤cap∧l.length≤1000000000000000∧ ∀i (h:i<l.length),∃b o,a=some ⟨b,o,none⟩∧b<w.heap.size∧fB w b (o+i*3) l[i]
def fV (w:World) (v:Value) (J:Jo):Prop:= ∃vb vc,v= .agg #[vb,.int .i64 J.first,vc]∧aj w vb J.base∧dd w vc J.cos
theorem fB.below {w w':World} {b o:Nat} {c:Co} (h:fB w b o c) (hb:b<w.heap.size) (a:Below w.heap.size w w'):fB w' b o c:=by
 obtain⟨d,e,u,f,j⟩:=h
 exact⟨(a.cell (p:=⟨b,o,none⟩) hb).trans d,(a.cell (p:=⟨b,o+1,none⟩) hb).trans e,u,(a.cell (p:=⟨b,o+2,none⟩) hb).trans f,j.below a⟩
theorem dd.below {w w':World} {v:Value} {l:List Co} (h:dd w v l) (e:Below w.heap.size w w'):dd w' v l:=by
 obtain⟨a,d,E,f,j,u⟩:=h
 refine⟨a,d,E,f,j,fun i A=>?_⟩
 obtain⟨b,o,y,hb,z⟩:=u i A
 exact⟨b,o,y,Nat.lt_of_lt_of_le hb e.size,z.below hb e⟩
theorem fV.below {w w':World} {v:Value} {J:Jo} (h:fV w v J) (a:Below w.heap.size w w'):fV w' v J:=by
 obtain⟨f,j,rfl,d,e⟩:=h
 exact⟨f,j,rfl,d.below a,e.below a⟩
theorem vz (w:World):dd w (.slice none 0 0) []:=⟨none,0,rfl,Nat.le_refl _,by decide,fun i h=>absurd h (by simp)⟩
def dR (B:Nat) (l:List Co):Prop:= ∀c∈l,c.ke.size≤B∧iQ B c.ch
theorem dR.mono {B e:Nat} {l:List Co} (h:dR B l) (hb:B≤e):dR e l:=fun c a=>⟨Nat.le_trans (h c a).1 hb,fun x d=>⟨Nat.le_trans ((h c a).2 x d).1 hb,Nat.le_trans ((h c a).2 x d).2.1 hb,Nat.le_trans ((h c a).2 x d).2.2 hb⟩⟩
def bW (c:Co) (n:Int):Int:=if¬c.nu=n then 4 else if 1000000<n then 3 else if¬bV c.ke.data.toList=true then 1 else if c.ch=[]then 1 else 0
def cz:Int→List En→List Co→Int×List En
 |_,T,[]=>(0,T)
 |n,T,c::r=>if¬bW c n=0 then(bW c n,[])else if¬bJ T c.ch c.nu=0 then(bJ T c.ch c.nu,[])else cz (n+1) (cX T c.ch c.nu) r
def cY (l:List Co):Prop:=l.Pairwise (fun x y=>x.ke.data.toList≠y.ke.data.toList)
instance (l:List Co):Decidable (cY l):=by unfold cY;infer_instance
def bo (J:Jo):Int:=if¬aA J.base=0 then aA J.base else if¬aM J.first=0 then 3 else if 30<J.cos.length then 2 else
 if¬(cz J.first J.base J.cos).1=0 then(cz J.first J.base J.cos).1 else if¬cY J.cos then 6 else 0
def Jn.tree (J:Jo):List En:=(cz J.first J.base J.cos).2
def Jn.last (J:Jo):Int:=J.first-1+J.cos.length
def ew (J:Jo) (S:List En) (k:Nat):Prop:=cz J.first J.base J.cos=cz (J.first+k) S (J.cos.drop k)
theorem Jn.left_zero (J:Jo):ew J J.base 0:=by rw[ew];simp
theorem nz {J:Jo} {S:List En} {k:Nat} (h:ew J S k) (a:k<J.cos.length):cz J.first J.base J.cos=if¬bW J.cos[k] (J.first+k)=0 then(bW J.cos[k] (J.first+k),[])else if¬bJ S J.cos[k].ch J.cos[k].nu=0 then(bJ S J.cos[k].ch J.cos[k].nu,[])else cz (J.first+(k+1:Nat)) (cX S J.cos[k].ch J.cos[k].nu) (J.cos.drop (k+1)):=by
 rw[ew,List.drop_eq_getElem_cons a,cz]at h;rw[h,show J.first+(k:Int)+1=J.first+((k+1:Nat):Int) by omega]
theorem qq {J:Jo} {S:List En} {k:Nat} (h:ew J S k) (d:k<J.cos.length) (a: ¬bW J.cos[k] (J.first+k)=0):cz J.first J.base J.cos=(bW J.cos[k] (J.first+k),[]):=by
 rw[nz h d,if_pos a]
theorem qr {J:Jo} {S:List En} {k:Nat} (h:ew J S k) (e:k<J.cos.length) (a:bW J.cos[k] (J.first+k)=0) (d: ¬bJ S J.cos[k].ch J.cos[k].nu=0):cz J.first J.base J.cos=(bJ S J.cos[k].ch J.cos[k].nu,[]):=by
 rw[nz h e,if_neg (fun x=>x a),if_pos d]
theorem Jn.left_next {J:Jo} {S:List En} {k:Nat} (h:ew J S k) (e:k<J.cos.length) (a:bW J.cos[k] (J.first+k)=0) (d:bJ S J.cos[k].ch J.cos[k].nu=0):ew J (cX S J.cos[k].ch J.cos[k].nu) (k+1):=by
 rw[ew,nz h e,if_neg (fun x=>x a),if_neg (fun x=>x d)]
theorem Jn.left_end {J:Jo} {S:List En} (h:ew J S J.cos.length):cz J.first J.base J.cos=(0,S):=by
 rw[ew,List.drop_length,cz]at h;exact h
theorem nA {n:Int}:aM n=0↔1≤n∧n≤1000000:=by
 unfold aM;split
 · exact⟨(fun h=>by cases h),fun h=>by omega⟩
 · exact⟨fun _=>by omega,fun _=>rfl⟩
theorem nB {J:Jo} (h: ¬aA J.base=0):bo J=aA J.base:=by rw[bo,if_pos h]
theorem nD {J:Jo} (h:aA J.base=0) (a: ¬aM J.first=0):bo J=3:=by rw[bo,if_neg (fun x=>x h),if_pos a]
theorem nE {J:Jo} (h:aA J.base=0) (a:aM J.first=0) (d:30<J.cos.length):bo J=2:=by rw[bo,if_neg (fun x=>x h),if_neg (fun x=>x a),if_pos d]
theorem nF {J:Jo} (h:aA J.base=0) (a:aM J.first=0) (d: ¬30<J.cos.length) {e:Int} {T:List En} (j:cz J.first J.base J.cos=(e,T)) (f: ¬e=0):bo J=e:=by
 rw[bo,if_neg (fun x=>x h),if_neg (fun x=>x a),if_neg d,j,if_pos f]
theorem nG {J:Jo} (h:aA J.base=0) (a:aM J.first=0) (d: ¬30<J.cos.length) {T:List En} (f:cz J.first J.base J.cos=(0,T)) (e: ¬cY J.cos):bo J=6:=by
 rw[bo,if_neg (fun x=>x h),if_neg (fun x=>x a),if_neg d,f,if_neg (fun x=>x rfl),if_pos e]
theorem qs {J:Jo} (h:aA J.base=0) (a:aM J.first=0) (d: ¬30<J.cos.length) {T:List En} (f:cz J.first J.base J.cos=(0,T)) (e:cY J.cos):bo J=0:=by
 rw[bo,if_neg (fun x=>x h),if_neg (fun x=>x a),if_neg d,f,if_neg (fun x=>x rfl),if_neg (fun x=>x e)]
theorem qt {J:Jo} {T:List En} (a:cz J.first J.base J.cos=(0,T)):Jn.tree J=T:=by rw[Jn.tree,a]
theorem qu {J:Jo} (h:bo J=0):aA J.base=0∧aM J.first=0∧ ¬30<J.cos.length∧cz J.first J.base J.cos=(0,Jn.tree J)∧cY J.cos:=by
 by_cases a:aA J.base=0
 · by_cases d:aM J.first=0
   · by_cases f:30<J.cos.length
     · rw[nE a d f]at h;cases h
     · rcases o:cz J.first J.base J.cos with⟨e,T⟩
       by_cases j:e=0
       · subst j
         by_cases u:cY J.cos
         · exact⟨a,d,f,by rw[qt o],u⟩
         · rw[nG a d f o u]at h;cases h
       · rw[nF a d f o j]at h;exact absurd h j
   · rw[nD a d]at h;cases h
 · rw[nB a]at h;exact absurd h a
theorem qv {T:List En} {cs:List ar} {n:Int} (h:bJ T cs n=0):Pp.Good (cX T cs n):=by
 have a:aA T=0:=by
  by_cases a:aA T=0
  · exact a
  · rw[(mM a cs n).1]at h;exact absurd h a
 have f: ¬20<cs.length:=fun f=>by rw[(kY a f n).1]at h;cases h
 have j:=mN a f (n:=n) (k:=(cJ n T cs).1) (e:=(cJ n T cs).2.1) (R:=(cJ n T cs).2.2) rfl;rw[j.1]at h;rw[j.2.2];have o:=(gx T).1 a;clear j a f;induction cs generalizing T with
 |nil=>exact o
 |cons c r ih=>
  rw[cJ]at h⊢;by_cases d:bn T c n=0
  · rw[if_pos d]at h⊢
    exact ih h (mJ o d)
  · rw[if_neg d]at h
    exact absurd h d
def bp (J:Jo) (k:Nat):List En:=(J.cos.take k).foldl (fun T c=>cX T c.ch c.nu) J.base
theorem iV (J:Jo):bp J 0=J.base:=by simp[bp]
theorem lq {J:Jo} {k:Nat} (a:k<J.cos.length):bp J (k+1)=cX (bp J k) J.cos[k].ch J.cos[k].nu:=by
 rw[bp,List.take_succ_eq_append_getElem a,List.foldl_append];rfl
def iW (l:List Co) (i k:Nat):Prop:= ∀x∈l.take k,∀y,l[i]?=some y→x.ke.data.toList≠y.ke.data.toList
theorem vA (l:List Co) (i:Nat):iW l i 0:=fun x a=>by simp at a
theorem vB {l:List Co} {i k:Nat} (h:iW l i k) (j:k<l.length) (f:i<l.length) (e:l[k].ke.data.toList≠l[i].ke.data.toList):iW l i (k+1):=by
 intro x d y a;rw[List.take_succ_eq_append_getElem j,List.mem_append,List.mem_singleton]at d;rcases d with d|rfl
 · exact h x d y a
 · rw[List.getElem?_eq_getElem f]at a
   injection a with a
   rw[←a];exact e
theorem vC {l:List Co} {i:Nat} (a:i<l.length) (h:cY (l.take i)) (e:iW l i i):cY (l.take (i+1)):=by
 rw[List.take_succ_eq_append_getElem a,cY,List.pairwise_append];refine⟨h,by simp,fun x f y d=>?_⟩
 rw[List.mem_singleton]at d;exact e x f y (by rw[d];exact List.getElem?_eq_getElem a)
theorem vD {l:List Co} {i k:Nat} (d:i<l.length) (e:k<i) (a:l[k].ke.data.toList=l[i].ke.data.toList): ¬cY l:=fun h=>(List.pairwise_iff_getElem.1 h k i (by omega) d e) a
def Jn.key (p:ByteArray):Lit:= .string p.data.toList
def Jn.num (n:Int):DataW Unit:= .lit (.int .i64 n)
def Jn.D (l:List Co):DataW Unit:=l.foldl (fun m c=>m.put (Jn.key c.ke) (Jn.num c.nu)) (.map [])
theorem lr (l:List Co) (c:Co):Jn.D (l++[c])=(Jn.D l).put (Jn.key c.ke) (Jn.num c.nu):=by simp[Jn.D]
theorem qw {l:List Co} {k:Nat} (a:k<l.length):Jn.D (l.take (k+1))=(Jn.D (l.take k)).put (Jn.key l[k].ke) (Jn.num l[k].nu):=by
 rw[List.take_succ_eq_append_getElem a,lr]
theorem qx (p:ByteArray):WideAt.IsKeyLit (Jn.key p):=by simp[Jn.key,WideAt.IsKeyLit]
theorem vE {p q:ByteArray} (h:Jn.key p=Jn.key q):p.data.toList=q.data.toList:=by simpa[Jn.key]using h
theorem nH (l:List Co):Maps.Tidy (Jn.D l):=by
 have: ∀(l:List Co) (m:DataW Unit),Maps.Tidy m→Maps.Tidy (l.foldl (fun m c=>m.put (Jn.key c.ke) (Jn.num c.nu)) m):=by
  intro l;induction l with
  |nil=>intro m h;exact h
  |cons c r ih=>intro m h;exact ih _ (h.put (qx _) _)
 exact this l _ Maps.tidy_empty
def Jn.hasB (l:List Co) (p:List UInt8):Bool:=l.any (fun c=>c.ke.data.toList==p)
theorem nI {d:Type} {P:List d→Prop} (f:P []) (j: ∀L e,P L→P (L++[e])) (L:List d):P L:=by
 have h: ∀R:List d,P R.reverse:=fun R=>by
  induction R with
  |nil=>exact f
  |cons a r ih=>rw[List.reverse_cons];exact j _ _ ih
 have o:=h L.reverse;rwa [List.reverse_reverse]at o
theorem qy (l:List Co) (p:ByteArray):Maps.has (Jn.D l) (Jn.key p)=Jn.hasB l p.data.toList:=by
 refine nI (P:=fun l=>Maps.has (Jn.D l) (Jn.key p)=Jn.hasB l p.data.toList) rfl ?_ l
 intro l c ih;rw[lr,Jn.hasB,List.any_append];by_cases a:Jn.key p=Jn.key c.ke
 · rw[a,Maps.has_put_same (nH l).isMap (qx _)]
   simp[vE a]
 · rw[Maps.has_put_other a,ih,Jn.hasB]
   have d: ¬c.ke.data=p.data:=fun h=>a (by rw[Jn.key,Jn.key,h])
   simp[d]
theorem vF (l:List Co):Maps.size (Jn.D l)≤l.length∧(Maps.size (Jn.D l)=l.length↔cY l):=by
 refine nI (P:=fun l=>Maps.size (Jn.D l)≤l.length∧(Maps.size (Jn.D l)=l.length↔cY l)) ⟨Nat.le_refl _,⟨fun _=>List.Pairwise.nil,fun _=>rfl⟩⟩ ?_ l
 intro l c ⟨u,e⟩;rw[lr,Maps.size_put (nH l),qy,List.length_append,cY,List.pairwise_append];cases hb:Jn.hasB l c.ke.data.toList with
 |true=>
  rw[if_pos rfl];refine⟨by omega,⟨fun h=>?_,fun h=>?_⟩⟩
  · simp at h;omega
  · obtain⟨x,o,f⟩:=List.any_eq_true.1 hb
    exact absurd (by simpa using f) (h.2.2 x o c (by simp))
 |false=>
  rw[if_neg (by simp)];refine⟨by simp;omega,⟨fun h=>?_,fun h=>?_⟩⟩
  · refine⟨e.1 (by simp at h;omega),by simp,fun a j b d=>?_⟩
    simp at d
    subst d;intro f;have:=List.any_eq_false.1 hb a j
    simp[f]at this
  · have:=e.2 h.1
    simp;omega
theorem iw {w:World} {base:Nat} {T:TypeId} {v:Value} {L:List En} (h:w.ownsRow base T 4 v L.length (bw L)) (u:L.length≤1000000000000000):aj w v L:=by
 haveI:Inhabited En:=⟨⟨⟨#[]⟩,false,⟨#[]⟩,0⟩⟩
 by_cases f:L=[]
 · subst f
   obtain⟨_,o⟩:=h
   rcases o with⟨rfl,_⟩|⟨g,cap,cur,rfl,j,y,a,_⟩
   · exact⟨none,0,rfl,Nat.le_refl _,by simp,fun i e=>absurd e (by simp)⟩
   · exact⟨some ⟨g,0,none⟩,cap,rfl,a,by simp,fun i e=>absurd e (by simp)⟩
 · obtain⟨g,cap,rfl,hb,j,a,z⟩:=Pp.own_shape h f
   have:=Pp.lies_holds j (qi h rfl) (d:=L.toArray) (cap:=cap) (by simpa using a) (by simpa using u)
   simpa using this
theorem vG (x:En) (w:World):
    Calls prog 290 #[.agg #[.string x.path,.bool x.folder,.string x.text,.int .i64 x.ver]] w fun r w'=>r= .returned (.bool true)∧Below w.heap.size w w':=by
 go_enter func290,ntmps290
 go_wp2;go_ret;exact⟨rfl,by first|exact Below.refl _ _|exact(Below.refl _ _).alloc (Nat.le_refl _) _⟩
theorem vH (w:World):cj w 290 #[] (fun _=>true):=
 ⟨enters_of func290 (by kernel_rfl) rfl,fun W a x d=>vG x W⟩
theorem vI (L:List En) (v:Value) (k:Int) (p q t:ByteArray) (b:Int) (w:World) (M:aj w v L) (J: ∀e∈L,e.path.size≤1000000000000000) (Z:p.size≤1000000000000000) (Y: ¬b= -1) (x:En) (I:L.find? (Pp.stB p.data.toList b)=some x):
    Calls prog 227 #[v,.agg #[.int .i64 k,.string p,.string q,.string t,.int .i64 b]] w fun e w'=>e= .returned (.bool true)∧Below w.heap.size w w':=by
 have S:Hid (aj w v L):=M;have P:Hid (∀e∈L,e.path.size≤1000000000000000):=J;have O:Hid (L.find? (Pp.stB p.data.toList b)=some x):=I;have h2:(b== -1)=false:=by simpa using Y
 clear M J I;have C3: ∀(W:World) (a:Addr) (f:Fn) (x y:Array Value),(store a (.func f x y)).run prog W=stored prog W a (.func f x y) .plain:=fun W a f x y=>run_store prog W a _ _ rfl
 go_enter func227,ntmps227
 go_wp2_with fail;refine(kf p _ Z).mono ?_
 rintro e F ⟨rfl,K,u⟩;obtain⟨T,U,V,X,H,z,d⟩:=ak u
 have Q:Hid (cj F 312 #[.pointer (some ⟨(w.alloc (.cells #[.int .i64 k,.string p,.string q,.string t,.int .i64 b] 55)).heap.size,0,none⟩)] (dk p.data.toList)):=K;clear K u;go_wp2_with fail;refine(gA L v _ _ (Pp.stB p.data.toList b) _ (S.out.below (z.alloc (Nat.le_of_lt d) _)) ⟨enters_of func274 (by kernel_rfl) rfl,?_⟩ P.out).mono ?_
 · intro W G x hx
   have j:Below F.heap.size F W:=((Below.refl _ _).alloc (Nat.le_refl _) _).trans (G.mono (by simp));refine qm x p k t q b w.heap.size F.heap.size 312 #[.pointer (some ⟨w.heap.size+1,0,none⟩)] W (Nat.lt_of_lt_of_le d j.size) (Nat.lt_of_lt_of_le (by simp) G.size) ((j.cell (p:=⟨w.heap.size,4,none⟩) d).trans H) ((G.cell (p:=⟨F.heap.size,0,none⟩) (by simp)).trans (by simp)) ?_ hx
   have h:=Q.out.below j;simpa using h
 · rintro e N ⟨rfl,o⟩
   rw[O.out,fM];have A:Below w.heap.size w N:=(z.alloc (Nat.le_of_lt d) _).trans (o.mono (by simp;omega));have E:w.heap.size<N.heap.size:=by have:=o.size;simp at this;omega
   clear o T U V X H;go_wp2;go_ret;exact⟨rfl,A.alloc (Nat.le_of_lt E) _⟩
theorem lu {e:En} {p:List UInt8} (a:al e.path.data.toList=0) (d:al p=0):dk p e=aK p e:=by
 rw[dk,aK];simp[bq,a,d]
theorem qz {e:En} {p:List UInt8} {b:Int} (a:al e.path.data.toList=0) (d:al p=0):Pp.stB p b e=b9 p b e:=by
 rw[Pp.stB,b9,lu a d]
theorem nJ {f g:En→Bool} {L:List En} (h: ∀e∈L,f e=g e):L.filter f=L.filter g:=List.filter_congr h
theorem vJ {L:List En} {c:ar} (j: ∀e∈L,al e.path.data.toList=0) (u:al c.p.data.toList=0):cO L c=(!(c.b== -1) && (L.find? (Pp.stB c.p.data.toList c.b)).isSome):=by
 rw[cO];congr 1
 cases a:L.find? (Pp.stB c.p.data.toList c.b)with
 |none=>
  rw[List.any_eq_false.2]
  · rfl
  · intro e o
    have:=List.find?_eq_none.1 a e o
    rw[qz (j e o) u]at this;exact this
 |some x=>
  have d:=List.find?_some a;have f:=List.mem_of_find?_eq_some a;rw[qz (j x f) u]at d;rw[List.any_eq_true.2 ⟨x,f,d⟩];rfl
theorem qA (L:List En) (v:Value) (k:Int) (p q t:ByteArray) (b:Int) (w:World) (u:aj w v L) (o:cP L) (j:p.size≤1000000000000000) (z: ∀e∈L,al e.path.data.toList=0) (A:al p.data.toList=0):
    Calls prog 227 #[v,.agg #[.int .i64 k,.string p,.string q,.string t,.int .i64 b]] w fun e w'=>e= .returned (.bool (cO L ⟨k,p,q,t,b⟩))∧Below w.heap.size w w':=by
 have a:=vJ (c:=⟨k,p,q,t,b⟩) z A;by_cases f:b= -1
 · rw[a];subst f
   exact qn L v k p q t (-1) w u o j (Or.inl rfl)
 · have y:(b== -1)=false:=by simpa using f
   cases d:L.find? (Pp.stB p.data.toList b)with
   |none=>
    have e:cO L ⟨k,p,q,t,b⟩=false:=by rw[a];simp only[d];simp
    rw[e];exact qn L v k p q t b w u o j (Or.inr d)
   |some x=>
    have e:cO L ⟨k,p,q,t,b⟩=true:=by rw[a];simp only[d,y];rfl
    rw[e];exact vI L v k p q t b w u (fun e E=>(o e E).1) j f x d
theorem qB (L:List (List UInt8)) (g o cap:Nat) (w:World) (F:(bB L).length≤1000000000) (H:L.length≤1000000000) (a: ∀i (h:i<L.length),w.cell? ⟨g,o+i,none⟩=some (.string ⟨(L[i]).toArray⟩)):
    Calls prog 127 #[.slice (some ⟨g,o,none⟩) L.length cap] w fun e w'=>e= .returned (.string ⟨(bB L).toArray⟩)∧w'=w:=by
 have z:Hid (∀i (h:i<L.length),w.cell? ⟨g,o+i,none⟩=some (.string ⟨(L[i]).toArray⟩)):=a;clear a;go_enter func127,ntmps127
 go_wp2_with fail;go_loop [3,4] (fun s i=> ∃k:Nat,k≤L.length∧i= .int .i64 k∧s= .string ⟨(bB (L.take k)).toArray⟩) (fun _ i=>L.length-(intOf i).toNat)
 case atStart=>exact⟨0,Nat.zero_le _,rfl,rfl⟩
 case round=>
  obtain⟨k,G,rfl,rfl⟩:=hrel
  by_cases d:k<L.length
  · have f:=z.out k d
    have b1:=mw L k;have b2:=mw L (k+1);have cg:=tD L k d;by_cases u:0<k
    · have j:Hid ((⟨(bB (L.take k)).toArray⟩:ByteArray)++⟨#[47]⟩++⟨(L[k]).toArray⟩=⟨(bB (L.take (k+1))).toArray⟩):=tB L k d u
      have A:0<(k:Int):=by omega
      go_wp2;go_round
      case rel=>exact⟨k+1,by omega,by go_num,by rw[←j.out]⟩
      case measure=>simp[intOf];omega
    · obtain rfl:k=0:=by omega
      have j:Hid ((⟨#[]⟩:ByteArray)++⟨(L[0]).toArray⟩=⟨(bB (L.take 1)).toArray⟩):=tC L d;have y:w.cell? ⟨g,o,none⟩=some (.string ⟨(L[0]).toArray⟩):=f;have E:(bB []).length=0:=rfl;clear f;go_wp2;go_round
      case rel=>exact⟨0+1,by omega,by go_num,by rw[←j.out];rfl⟩
      case measure=>simp[intOf];omega
  · go_wp2
    go_ret;exact⟨by rw[List.take_of_length_le (by omega)];rfl,rfl⟩
theorem ex (s:ByteArray) (w:World) (H:s.size≤1000000000):
    Calls prog 81 #[.string s] w fun e w'=>e= .returned (.string ⟨(ax s.data.toList).toArray⟩)∧Below w.heap.size w w':=by
 have K:(ah s.data.toList).length≤s.size+1:=by have:=gQ s.data.toList;rwa [←Lib.size_eq]at this
 have G:=oZ s.data.toList;rw[←Lib.size_eq]at G;have J:1≤(ah s.data.toList).length:=Nat.pos_of_ne_zero (fun e=>ik _ (List.length_eq_zero_iff.1 e));have o:Hid (bB (ah s.data.toList).dropLast=ax s.data.toList):=rfl;have y:=hid (show∀i (h:i<(ah s.data.toList).dropLast.length) (f:i<(ah s.data.toList).length),(ah s.data.toList).dropLast[i]=(ah s.data.toList)[i]from fun i h f=>List.getElem_dropLast h);have d:Hid ((ah s.data.toList).dropLast.length=(ah s.data.toList).length-1):=List.length_dropLast;go_enter func81,ntmps81
 go_wp2_with fail;refine(eM s _ H).mono ?_
 rintro e I ⟨g,j,rfl,z,A,E,F,a,hb⟩;have u:Hid (∀i (h:i<(ah s.data.toList).length),I.cell? ⟨g,i,none⟩=some (.string ⟨((ah s.data.toList)[i]).toArray⟩)):=a;clear a;go_wp2_with fail;rw[←d.out];refine(qB (ah s.data.toList).dropLast g 0 j _ (by rw[o.out];omega) (by rw[d.out];omega) (fun i h=>?_)).mono ?_
 · have f:i<(ah s.data.toList).length:=by rw[d.out]at h;omega
   rw[Nat.zero_add,y.out i h f];exact u.out i f
 rintro e M ⟨rfl,rfl⟩;rw[o.out,d.out];go_wp2;go_ret;exact⟨rfl,hb⟩
theorem eN (k:Int) (p q t:ByteArray) (b:Int) (w:World) (N:p.size≤1000000000) (V:q.size≤1000000000) (ht:t.size≤1000000000000000):
    Calls prog 209 #[.agg #[.int .i64 k,.string p,.string q,.string t,.int .i64 b]] w fun e w'=>e= .returned (.int .i64 (aC ⟨k,p,q,t,b⟩))∧Below w.heap.size w w':=by
 by_cases T:k<1
 · have f:=hid (show 7=aC ⟨k,p,q,t,b⟩from by rw[aC,if_pos (Or.inl T)])
   go_enter func209,ntmps209
   go_wp2;go_ret;exact⟨an f.out,(Below.refl _ _).alloc (Nat.le_refl _) _⟩
 by_cases U:4<k
 · have f:=hid (show 7=aC ⟨k,p,q,t,b⟩from by rw[aC,if_pos (Or.inr U)])
   go_enter func209,ntmps209
   go_wp2;go_ret;exact⟨an f.out,(Below.refl _ _).alloc (Nat.le_refl _) _⟩
 by_cases A:al p.data.toList=0
 · have P:Hid (al p.data.toList=0):=A
   have Y:(k=1∨k=4)∨k=2∨k=3:=by omega
   clear T U;rcases Y with h|rfl|rfl
   · have d:=pJ h p q t b A
     clear A;rcases h with rfl|rfl
     all_goals
      rcases d with⟨z,f⟩|⟨z,E,f⟩|⟨z,E,K,Q,f⟩|⟨z,E,K,Q,f⟩|⟨z,E,K,Q,f5,f⟩
     all_goals
      go_enter func209,ntmps209
      go_wp2_with fail;refine(fT p _ N).mono ?_
      rintro e S ⟨rfl,a⟩;rw[P.out];obtain⟨F,G,H,I,J,j,y⟩:=ak a
      clear a;go_wp2_with fail;go_ret;exact⟨an f.out,j⟩
   · have d:=pK p q t b A
     clear A;rcases d with⟨z,f⟩|⟨z,E,f⟩|⟨z,E,K,f⟩|⟨z,E,K,f⟩|⟨z,E,K,Q,f⟩
     all_goals
      go_enter func209,ntmps209
      go_wp2_with fail;refine(fT p _ N).mono ?_
      rintro e S ⟨rfl,a⟩;rw[P.out];obtain⟨F,G,H,I,J,j,y⟩:=ak a
      clear a;go_wp2_with fail;go_ret;exact⟨an f.out,j⟩
   · by_cases O:al q.data.toList=0
     · have d:=pL p q t b A O
       have X:Hid (al q.data.toList=0):=O;clear A O;rcases d with⟨z,f⟩|⟨z,E,K,f⟩|⟨z,E,K,f⟩|⟨z,E,K,Q,f⟩
       all_goals
        go_enter func209,ntmps209
        go_wp2_with fail;refine(fT p _ N).mono ?_
        rintro e S ⟨rfl,a⟩;rw[P.out];obtain⟨F,G,H,I,J,j,y⟩:=ak a
        go_wp2_with fail;refine(fT q _ V).mono ?_
        rintro e w2 ⟨rfl,u⟩;rw[X.out];have o:=a.trans (u.mono a.size);clear F G H I J j y a u;obtain⟨F,G,H,I,J,j,y⟩:=ak o
        clear o;go_wp2_with fail;go_ret;exact⟨an f.out,j⟩
     · have f:=hid (show al q.data.toList=aC ⟨3,p,q,t,b⟩from by simp[aC,A,O])
       have Z:(al q.data.toList==0)=false:=by simpa using O
       clear A;go_enter func209,ntmps209
       go_wp2_with fail;refine(fT p _ N).mono ?_
       rintro e S ⟨rfl,a⟩;rw[P.out];obtain⟨F,G,H,I,J,j,y⟩:=ak a
       go_wp2_with fail;refine(fT q _ V).mono ?_
       rintro e w2 ⟨rfl,u⟩;have o:=a.trans (u.mono a.size);clear F G H I J j y a u;obtain⟨F,G,H,I,J,j,y⟩:=ak o
       clear o;go_wp2_with fail;go_ret;exact⟨an f.out,j⟩
 · have f:=hid (show al p.data.toList=aC ⟨k,p,q,t,b⟩from by rw[aC,if_neg (by simp only;omega),if_pos A])
   have C3:(al p.data.toList==0)=false:=by simpa using A
   go_enter func209,ntmps209
   go_wp2_with fail;refine(fT p _ N).mono ?_
   rintro e S ⟨rfl,M⟩;obtain⟨F,G,H,I,J,hb,y⟩:=ak M
   clear M;go_wp2_with fail;go_ret;exact⟨an f.out,hb⟩
end Go.Proofs.YtgamnckfmmbjdaaGreatDoor
