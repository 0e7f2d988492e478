/- append to a slice that has no room, in a region that draws its order. -/
import Derived.Test.YtcmlnelpcjfocaaGreatDoorWYK
import Derived.Test.YtcmlnelpcjfocaaGreatDoorWYJ
import Derived.Test.YtcmlnelpcjfocaaGreatDoorWYL
set_option linter.unusedSimpArgs false
set_option linter.unusedVariables false
namespace Go.Proofs.YtcmlnelpcjfocaaGreatDoor
open Go.RowKit Go.Maps Go.WideMaps Go.Proofs.Tryz
set_option maxHeartbeats 2000000
set_option maxRecDepth 100000
theorem Cb {P:Program} (w:World) (t ty e:TypeId) (i:TypeInfo) (z:Value) (size bytes:Nat) (ht:P.underlying t=some (.slice e)) (O:P.info? e=some i) (hz:i.zero=some z)
    (H:i.size=size) (U:i.bytes=bytes) (Z:z.cells.size=size) (Y:0<size) (a:Option Addr) (R:List (List Value)) (hR:aW size w (.slice a R.length R.length) R)
    (ad:Addr) (c:Nat) (r:List Value) (I:r.length=size∧ ∀u∈r,u.oneCell'=true) (f: ∀j u,r[j]?=some u→w.cell? (ad.add j)=some u) (hn:R.length≤1000000000) (hb:bytes≤1000):
    ∃v' w',(Builtin.append_ #[t,t] ty #[.slice a R.length R.length,.slice (some ad) 1 c]).run P w= .ok v' w'∧aW size w' v' (R++[r])∧aI w.heap.size w' v'∧Below w.heap.size w w':=by
 subst H;subst U;obtain⟨a',I0,hv,h1,h2,S,Q⟩:=hR
 injection hv with e1 aE e3
 subst e1
 have N: ∀x∈R++[r],x.length=i.size∧ ∀u∈x,u.oneCell'=true:=fun x y=>by
  rcases List.mem_append.1 y with y|y
  · exact S x y
  · rw[List.mem_singleton]at y;rw[y];exact I
 have J:R.flatten.length=R.length*i.size:=iu (fun x y=>(S x y).1);have M:(R.length+1)*i.bytes≤(1000000000+1)*1000:=Nat.mul_le_mul (by omega) hb
 have cI: ∀d,R.length+1≤d→(w.drew.alloc (.cells (R.flatten.toArray++r.toArray++Builtin.zeroCells z.cells (d-(R.length+1))) e)).ownsRow w.heap.size e i.size (.slice (some ⟨w.heap.size,0,none⟩) (R.length+1) d) (R.length+1) (R++[r]).flatten→aW i.size (w.drew.alloc (.cells (R.flatten.toArray++r.toArray++Builtin.zeroCells z.cells (d-(R.length+1))) e)) (.slice (some ⟨w.heap.size,0,none⟩) (R.length+1) d) (R++[r])∧aI w.heap.size (w.drew.alloc (.cells (R.flatten.toArray++r.toArray++Builtin.zeroCells z.cells (d-(R.length+1))) e)) (.slice (some ⟨w.heap.size,0,none⟩) (R.length+1) d)∧Below w.heap.size w (w.drew.alloc (.cells (R.flatten.toArray++r.toArray++Builtin.zeroCells z.cells (d-(R.length+1))) e)):=fun d A ho=>
  ⟨iN (by simpa using ho) (by simp;omega) N,iM ho,((Below.refl _ _).drew).alloc (Nat.le_refl _) _⟩
 have own: ∀d,R.length+1≤d→d≤maxLen→(w.drew.alloc (.cells (R.flatten.toArray++r.toArray++Builtin.zeroCells z.cells (d-(R.length+1))) e)).ownsRow w.heap.size e i.size (.slice (some ⟨w.heap.size,0,none⟩) (R.length+1) d) (R.length+1) (R++[r]).flatten:=fun d A V=>by
  have hl:(R++[r]).flatten.length=(R.length+1)*i.size:=by
   rw[iu (fun x y=>(N x y).1)];simp
  refine⟨hl,.inr ⟨w.heap.size,_,_,rfl,Nat.le_refl _,heap_alloc_new w.drew _,A,V,?_,?_⟩⟩
  · simp only[Array.size_append,List.size_toArray,size_zeroCells,Z,J,I.1]
    have:R.length*i.size+i.size+(d-(R.length+1))*i.size=(R.length+1+(d-(R.length+1)))*i.size:=by
     rw[Nat.add_mul,Nat.add_mul];omega
    rw[this];congr 1
    omega
  · simp only[Array.toList_append,List.append_assoc]
    rw[←hl];have e:R.flatten.toArray.toList++(r.toArray.toList++(Builtin.zeroCells z.cells (d-(R.length+1))).toList)=(R++[r]).flatten++(Builtin.zeroCells z.cells (d-(R.length+1))).toList:=by simp
    rw[e];exact List.take_left
 have K:R.length+1≤maxLen:=by unfold maxLen;omega
 cases a with
 |none=>
  have T:R=[]:=by
   cases R with
   |nil=>rfl
   |cons s r=>obtain⟨b,o,hb,_⟩:=Q 0 (by simp);cases hb
  subst T;have G:=run_append_nil (P:=P) w t ty e i z ht O hz ad 1 c r (by rw[I.1,Nat.one_mul]) f (by decide) (by decide) (by simp at M⊢;omega);have X:=own (grownCap w 1 0 e) (grownCap_ge w 1 0 e) (grownCap_le_maxLen w 1 0 e K);have hf:=cI (grownCap w 1 0 e) (grownCap_ge w 1 0 e) X;refine⟨_,_,G,?_⟩
  simpa using hf
 |some aR=>
  have F: ∀j u,R.flatten[j]?=some u→w.cell? (aR.add j)=some u:=by
   cases R with
   |nil=>intro j u hj;simp at hj
   |cons s r=>
    obtain⟨b,o,hb,_⟩:=Q 0 (by simp)
    injection hb with hb
    subst hb
    exact jX Y (fun r I=>(S r I).1) fun i O=>by
     obtain⟨b',o',E,_,he⟩:=Q i O
     injection E with E
     injection E with h1 h2
     subst h1;subst h2;exact he
  have G:=run_append_grow (P:=P) w t ty e i z ht O hz aR R.length R.length R.flatten J F ad 1 c r (by rw[I.1,Nat.one_mul]) f (by omega) (by omega) (growslice_fits (by omega) (by omega));have X:=own (grownCap w (R.length+1) R.length e) (grownCap_ge w _ _ e) (grownCap_le_maxLen w _ _ e K);exact⟨_,_,G,cI _ (grownCap_ge w _ _ e) X⟩
theorem Cc {P:Program} {A:Array Oper} {o:Oper} {a:Act} {w:World} {K:Act→World→Prop} {Q:Exit→Act→World→Prop} {E:Prop}
    (U:o.guard=none) (s x:Operand) (t:TypeId) (J:o.op=Op.call {callee:=Callee.builtin Builtin.append,args:= #[s,x],argTypes:= #[t,t]})
    (e:TypeId) (i:TypeInfo) (z:Value) (size bytes:Nat) (ht:P.underlying t=some (.slice e)) (V:P.info? e=some i) (hz:i.zero=some z)
    (f:i.size=size) (I:i.bytes=bytes) (N:z.cells.size=size) (M:0<size) (G:Option Addr) (R:List (List Value)) (n:Nat) (H:R.length=n) (Z:a.eval s= .slice G n n) (T:aW size w (.slice G n n) R)
    (ad:Addr) (c:Nat) (hx:a.eval x= .slice (some ad) 1 c) (r:List Value) (Y:r.length=size∧ ∀u∈r,u.oneCell'=true) (d: ∀j u,r[j]?=some u→w.cell? (ad.add j)=some u) (X:R.length≤1000000000) (hb:bytes≤1000)
    (S: ∀F w',aW size w' F (R++[r])∧aI w.heap.size w' F∧Below w.heap.size w w'→K (a.put o.dst F) w'):
    if Region.wanted o (yielded A a.tmps)=true then Oper.wp P o a w K Q else E:=by
 have hw:Region.wanted o (yielded A a.tmps)=true:=by simp[Region.wanted,U]
 rw[if_pos hw];subst H;obtain⟨F,w',y,O⟩:=Cb (P:=P) w t o.type e i z size bytes ht V hz f I N M G R T ad c r Y d X hb
 unfold Oper.wp;simp[execOp,J,resolve,invoke,builtin,Z,hx,y,Result.andThen]
 exact S _ _ O
def gQ:List Se→Bool
 |[]=>true
 |[_]=>true
 |a::b::r=>decide (a.nu<b.nu) && gQ (b::r)
theorem re: ∀{G:List Se} {k:Nat} (h:k+1<G.length),¬(G[k]).nu<(G[k+1]).nu→gQ G=false
 |[],k,h,_=>absurd h (by simp)
 |[_],k,h,_=>absurd h (by simp)
 |a::b::r,0,h,hk=>by
  have d: ¬a.nu<b.nu:=hk;rw[gQ,decide_eq_false d];rfl
 |a::b::r,k+1,h,hk=>by
  have:=re (G:=b::r) (k:=k) (by simpa using h) hk
  rw[gQ,this,Bool.and_false]
theorem rf: ∀{G:List Se},(∀k (h:k+1<G.length),(G[k]).nu<(G[k+1]).nu)→gQ G=true
 |[],_=>rfl
 |[_],_=>rfl
 |a::b::r,h=>by
  have d:a.nu<b.nu:=h 0 (by simp);rw[gQ,decide_eq_true d,rf (G:=b::r) fun k f=>h (k+1) (by simpa using f)];rfl
def bu:List Se→ByteArray→Int
 |[],_=>0
 |s::r,p=>(if(s.wh.toList==p.toList)=true then s.si else 0)+bu r p
theorem rh: ∀(L:List Se) (s:Se) (p:ByteArray),bu (L++[s]) p=bu L p+(if(s.wh.toList==p.toList)=true then s.si else 0)
 |[],s,p=>by simp[bu]
 |a::r,s,p=>by rw[List.cons_append,bu,bu,rh r s p];omega
theorem rj: ∀{L:List Se} (p:ByteArray),(∀s∈L,0≤s.si∧s.si≤300)→0≤bu L p∧bu L p≤300*L.length
 |[],p,_=>by simp[bu]
 |a::r,p,h=>by
  have f:=h a (by simp);have y:=rj (L:=r) p fun s d=>h s (by simp[d])
  rw[bu,List.length_cons];split<;>omega
def iw (L:List Se) (room:Int):Int:=if(L.all fun s=>decide (bu L s.wh≤room))=true then 0 else 10
theorem vR {L:List Se} {d:Int} {k:Nat} (h:k<L.length) (y:d<bu L (L[k]).wh):10=iw L d:=by
 rw[iw,if_neg];rw[List.all_eq_true];intro f;have:=of_decide_eq_true (f L[k] (List.getElem_mem h))
 omega
theorem vS {L:List Se} {d:Int} (h: ∀j (h:j<L.length),bu L (L[j]).wh≤d):0=iw L d:=by
 rw[iw,if_pos];rw[List.all_eq_true];intro x y;obtain⟨j,f,rfl⟩:=List.getElem_of_mem y
 exact decide_eq_true (h j f)
def fk (x:Int):List Se→Int
 |[]=>0
 |g::r=>if cN x g=0 then fk x r else cN x g
theorem rk {x:Int}: ∀{G:List Se} {k:Nat} (d:k<G.length),(∀j (h:j<G.length),j<k→cN x G[j]=0)→ ¬cN x G[k]=0→fk x G=cN x G[k]
 |[],k,d,_,_=>absurd d (by simp)
 |g::r,0,_,_,hk=>by rw[fk,if_neg (show¬cN x g=0 from hk)];rfl
 |g::r,k+1,d,h,hk=>by
  rw[fk,if_pos (show cN x g=0 from h 0 (by simp) (by omega))];have:=rk (G:=r) (k:=k) (by simpa using d) (fun j f y=>h (j+1) (by simpa using f) (by omega)) hk
  rw[this];rfl
theorem rm {x:Int}: ∀{G:List Se},(∀j (h:j<G.length),cN x G[j]=0)→fk x G=0
 |[],_=>rfl
 |g::r,h=>by
  rw[fk,if_pos (show cN x g=0 from h 0 (by simp))];exact rm fun j d=>h (j+1) (by simpa using d)
theorem Cd {x:Int} {G:List Se}:fk x G=0↔ ∀g∈G,cN x g=0:=by
 induction G with
 |nil=>simp[fk]
 |cons g r ih=>
  rw[fk];by_cases h:cN x g=0
  · rw[if_pos h,ih];simp[h]
  · rw[if_neg h];simp[h]
theorem Ce {x:Int} {s:Se} (h:cN x s=0):bp 1 s.nu (x-1)=true∧bp 0 s.si 300=true∧bp 0 s.ti 2199023255552=true∧aM s.wh.data.toList=true∧(s.tx.size:Int)≤s.si:=by
 rcases qD x s with⟨d,ae⟩|⟨d,f,ae⟩|⟨d,f,y,ae⟩|⟨d,f,y,z,ae⟩|⟨d,f,y,z,A,ae⟩|⟨d,f,y,z,A,ae⟩
 · rw[h]at ae;cases ae
 · rw[h]at ae;cases ae
 · rw[h]at ae;cases ae
 · rw[h]at ae;cases ae
 · rw[h]at ae;cases ae
 · exact⟨d,f,y,z,by omega⟩
theorem vT {x:Int} {G:List Se} (h:fk x G=0): ∀s∈G,0≤s.si∧s.si≤300:=fun s d=>ot (Ce (Cd.1 h s d)).2.1
def bJ (G:List Se) (x l r:Int):Int:=if¬eF G.length x l r=0 then eF G.length x l r else if¬fk x G=0 then fk x G else if gQ G=false then 4 else iw G r
theorem mm {G:List Se} {x l r:Int} (h: ¬eF G.length x l r=0):bJ G x l r=eF G.length x l r:=if_pos h
theorem rn {G:List Se} {x l r:Int} (h:eF G.length x l r=0) (d: ¬fk x G=0):bJ G x l r=fk x G:=by rw[bJ,if_neg (fun k=>k h),if_pos d]
theorem rp {G:List Se} {x l r:Int} (h:eF G.length x l r=0) (d:fk x G=0) (f:gQ G=false):bJ G x l r=4:=by rw[bJ,if_neg (fun k=>k h),if_neg (fun k=>k d),if_pos f]
theorem rq {G:List Se} {x l r:Int} (h:eF G.length x l r=0) (d:fk x G=0) (f:gQ G=true):bJ G x l r=iw G r:=by rw[bJ,if_neg (fun k=>k h),if_neg (fun k=>k d),if_neg (by rw[f];decide)]
theorem oF {n:Nat} {x l r:Int} (h:eF n x l r=0):n≤20∧(1≤l∧l≤1000000)∧(0≤r∧r≤100000)∧(1≤x∧x≤1099511627776):=by
 rcases qC n x l r with⟨d,ae⟩|⟨d,f,ae⟩|⟨d,f,y,ae⟩|⟨d,f,y,z,ae⟩|⟨d,f,y,z,ae⟩
 · rw[h]at ae;cases ae
 · rw[h]at ae;cases ae
 · rw[h]at ae;cases ae
 · rw[h]at ae;cases ae
 · exact⟨by omega,ot d,ot f,ot y⟩
theorem vU (G:List Se) (v:Value) (w:World) (X:de w v G):
    Calls prog 77 #[v] w fun e w'=>e= .returned (.bool (gQ G))∧Below w.heap.size w w':=by
 obtain⟨a,T,rfl,O,I,y⟩:=X
 have K:Hid (∀i (h:i<G.length),∃b o,a=some ⟨b,o,none⟩∧b<w.heap.size∧ic w b (o+i*5) G[i]):=y;clear y;obtain⟨r,J⟩: ∃r,r=gQ G:=⟨_,rfl⟩
 rw[←J];have N:=ak J;clear J;go_enter func77,ntmps77
 go_wp2_with fail;go_loopw [3] (fun i wr=> ∃k:Nat,(k≤G.length∨k=1)∧1≤k∧i= .int .i64 k∧Hid (∀j (h:j+1<G.length),j+1<k→(G[j]).nu<(G[j+1]).nu)∧Below w.heap.size w wr) (fun i _=>G.length-(intOf i).toNat)
 case atStart=>exact⟨1,Or.inr rfl,Nat.le_refl _,rfl,(fun j _ h=>absurd h (by omega): ∀j (h:j+1<G.length),j+1<1→(G[j]).nu<(G[j+1]).nu),Below.refl _ _⟩
 case round=>
  obtain⟨k,hk,V,rfl,M,d⟩:=hrel
  obtain⟨m,rfl⟩: ∃m,k=m+1:=⟨k-1,by omega⟩
  by_cases A:m+1<G.length
  · obtain⟨b,o,rfl,hb,P⟩:=K.out m (by omega)
    obtain⟨Z,_⟩:=P.below hb d
    obtain⟨S,Y,f,H,z⟩:=K.out (m+1) A
    obtain⟨rfl,rfl⟩:S=b∧Y=o:=by simp at f;exact⟨f.1.symm,f.2.symm⟩
    obtain⟨d0,_⟩:=z.below H d
    clear P z f;by_cases Q:(G[m]).nu<(G[m+1]).nu
    · have F:=hid (show∀j (h:j+1<G.length),j+1<m+1+1→(G[j]).nu<(G[j+1]).nu from fun j U h2=>by
       by_cases e:j=m
       · subst e;exact Q
       · exact M.out j U (by omega))
      generalize (G[m]).nu=p at*;generalize (G[m+1]).nu=q at*;go_wp2_with fail;go_region
      go_wp2_with fail;go_roundw
      case rel=>exact⟨m+1+1,by omega,by omega,by simp,F,d.drew⟩
      case measure=>simp[intOf];omega
    · have E:=hid (show false=r from by rw[N.out];exact(re A Q).symm)
      generalize (G[m]).nu=p at*;generalize (G[m+1]).nu=q at*;go_wp2_with fail;go_region
      go_wp2_with fail;go_ret;exact⟨bt E.out,d.drew⟩
  · have E:=hid (show true=r from by rw[N.out];exact(rf fun j h=>M.out j h (by omega)).symm)
    go_wp2_with fail;go_ret;exact⟨bt E.out,d⟩
theorem Cf (G:List Se) (v:Value) (p:ByteArray) (w:World) (U:de w v G) (hn:G.length≤1000) (F: ∀s∈G,0≤s.si∧s.si≤300):
    Calls prog 116 #[v,.string p] w fun e w'=>e= .returned (.int .i64 (bu G p))∧Below w.heap.size w w':=by
 obtain⟨a,Q,rfl,I,E,A⟩:=U
 have N:Hid (∀i (h:i<G.length),∃b o,a=some ⟨b,o,none⟩∧b<w.heap.size∧ic w b (o+i*5) G[i]):=A;have O:=hid (show∀i (h:i<G.length),0≤(G[i]).si∧(G[i]).si≤300 from fun i h=>F _ (List.getElem_mem h))
 have P:=hid (show∀k,0≤bu (G.take k) p∧bu (G.take k) p≤300*G.length from fun k=>by
  have h1:=rj (L:=G.take k) p fun s H=>F s (List.mem_of_mem_take H)
  have h2:(G.take k).length≤G.length:=by rw[List.length_take];omega
  omega)
 clear A F;go_enter func116,ntmps116
 go_wp2_with fail;go_loopw [5,10] (fun t i wr=> ∃k:Nat,k≤G.length∧i= .int .i64 k∧t= .int .i64 (bu (G.take k) p)∧Below w.heap.size w wr) (fun _ i _=>G.length-(intOf i).toNat)
 case atStart=>exact⟨0,Nat.zero_le _,rfl,rfl,Below.refl _ _⟩
 case round=>
  obtain⟨k,hk,rfl,rfl,d⟩:=hrel
  by_cases z:k<G.length
  · obtain⟨b,o,rfl,hb,J⟩:=N.out k z
    obtain⟨V,X,Y,Z,c4⟩:=J.below hb d
    obtain⟨s1,s2⟩:=O.out k z
    obtain⟨t1,t2⟩:=P.out k
    have f:bu (G.take (k+1)) p=bu (G.take k) p+(if((G[k]).wh.toList==p.toList)=true then(G[k]).si else 0):=by rw[List.take_succ_eq_append_getElem z,rh]
    have S:=d.size;clear J;generalize G[k]=s at*;generalize bu (G.take k) p=T at*;cases K:(s.wh.toList==p.toList)with
    |true=>
     have y:=hid (show bu (G.take (k+1)) p=T+s.si from by rw[f,K];rfl);clear f;go_wp2_with fail;go_roundw
     case rel=>exact⟨k+1,by omega,by simp,by rw[y.out],d.alloc d.size _⟩
     case measure=>simp[intOf];omega
    |false=>
     have y:=hid (show bu (G.take (k+1)) p=T from by rw[f,K];simp);clear f;go_wp2_with fail;go_roundw
     case rel=>exact⟨k+1,by omega,by simp,by rw[y.out],d.alloc d.size _⟩
     case measure=>simp[intOf];omega
  · have M:=hid (show bu (G.take k) p=bu G p from by rw[List.take_of_length_le (by omega)])
    go_wp2_with fail;go_ret;exact⟨aD M.out,d⟩
theorem Cg (G:List Se) (v:Value) (x l r:Int) (w:World) (hv:de w v G) (hn:G.length≤1000) (hs: ∀s∈G,0≤s.si∧s.si≤300):
    Calls prog 78 #[.agg #[v,.int .i64 x,.int .i64 l,.int .i64 r]] w fun e w'=>e= .returned (.int .i64 (iw G r))∧Below w.heap.size w w':=by
 have HV:=ak hv;have HS:=ak hs;obtain⟨a,d,rfl,Z,X,M⟩:=hv
 have HL:Hid (∀i (h:i<G.length),∃b o,a=some ⟨b,o,none⟩∧b<w.heap.size∧ic w b (o+i*5) G[i]):=M;clear M hs;go_enter func78,ntmps78
 go_wp2_with fail;go_loopw [8] (fun i wr=> ∃k:Nat,k≤G.length∧i= .int .i64 k∧Hid (∀j (h:j<G.length),j<k→bu G (G[j]).wh≤r)∧Below (w.alloc (.cells #[.slice a G.length d,.int .i64 x,.int .i64 l,.int .i64 r] 26)).heap.size (w.alloc (.cells #[.slice a G.length d,.int .i64 x,.int .i64 l,.int .i64 r] 26)) wr) (fun i _=>G.length-(intOf i).toNat)
 case atStart=>exact⟨0,Nat.zero_le _,rfl,(fun j _ h=>absurd h (Nat.not_lt_zero _): ∀j (h:j<G.length),j<0→bu G (G[j]).wh≤r),Below.refl _ _⟩
 case round=>
  obtain⟨k,hk,rfl,Y,f⟩:=hrel
  obtain⟨aR,b1,b2,dF,y,I0⟩:=iP f
  have J:=ak f;clear f;by_cases N:k<G.length
  · obtain⟨b,o,rfl,hb,he⟩:=HL.out k N
    obtain⟨c0,c1,c2,c3,c4⟩:=he.below hb y
    have I5:=y.size;clear he;have S:=hid (show r<bu G (G[k]).wh→10=iw G r from fun h=>vR N h)
    have K:=hid (show bu G (G[k]).wh≤r→ ∀j (h:j<G.length),j<k+1→bu G (G[j]).wh≤r from fun hh j h1 h2=>by
     by_cases e:j=k
     · subst e;exact hh
     · exact Y.out j h1 (by omega))
    generalize G[k]=s at*;obtain⟨P,E⟩: ∃P,P=wr.alloc (.cells #[.int .i64 s.nu,.string s.wh,.string s.tx,.int .i64 s.si,.int .i64 s.ti] 142):=⟨_,rfl⟩
    have A:Below (w.alloc (.cells #[.slice (some ⟨b,o,none⟩) G.length d,.int .i64 x,.int .i64 l,.int .i64 r] 26)).heap.size (w.alloc (.cells #[.slice (some ⟨b,o,none⟩) G.length d,.int .i64 x,.int .i64 l,.int .i64 r] 26)) P:=E▸J.out.alloc J.out.size _;obtain⟨z0,_,_,z3,V,I⟩:=iP A
    have z1:P.cell? ⟨wr.heap.size,1,none⟩=some (.string s.wh):=by rw[E];simp
    have O:wr.heap.size<P.heap.size:=by rw[E];simp
    have F:=ak A;clear A J y aR b1 b2 dF;go_wp2_with fail;rw[←E];clear E c0 c1 c2 c3 c4
    go_region_held3 (fun W=>W.cell? ⟨w.heap.size,0,none⟩=some (.slice (some ⟨b,o,none⟩) G.length d)∧W.cell? ⟨w.heap.size,3,none⟩=some (.int .i64 r)∧W.cell? ⟨wr.heap.size,1,none⟩=some (.string s.wh)) (go_keep) (first
     |(go_at_call 116;refine(Cf G _ s.wh _ (HV.out.below V.drew) hn HS.out).mono ?_;rintro e wa ⟨rfl,z⟩;have k0:=(z.cell (p:=⟨w.heap.size,0,none⟩) I).trans z0;have k3:=(z.cell (p:=⟨w.heap.size,3,none⟩) I).trans z3;have k1:=(z.cell (p:=⟨wr.heap.size,1,none⟩) O).trans z1))
    all_goals
     have H:Below (w.alloc (.cells #[.slice (some ⟨b,o,none⟩) G.length d,.int .i64 x,.int .i64 l,.int .i64 r] 26)).heap.size (w.alloc (.cells #[.slice (some ⟨b,o,none⟩) G.length d,.int .i64 x,.int .i64 l,.int .i64 r] 26)) wa:=F.out.drew.trans (z.mono F.out.drew.size);clear z;by_cases hr:r<bu G s.wh
     · have Q:=ak (S.out hr)
       generalize bu G s.wh=T at*;go_wp2_with fail;go_ret;exact⟨aD Q.out,(iP H).2.2.2.2.1⟩
     · have U:=ak (K.out (by omega))
       generalize bu G s.wh=T at*;go_wp2_with fail;go_roundw
       case rel=>exact⟨k+1,by omega,by simp,U,H⟩
       case measure=>simp[intOf];omega
  · have Q:=hid (show 0=iw G r from vS fun j h=>Y.out j h (by omega))
    go_wp2_with fail;go_ret;exact⟨aD Q.out,y⟩
theorem vV (G:List Se) (v:Value) (x l r:Int) (w:World) (hv:de w v G) (hs:mg G):
    Calls prog 45 #[.agg #[v,.int .i64 x,.int .i64 l,.int .i64 r]] w fun e w'=>e= .returned (.int .i64 (bJ G x l r))∧Below w.heap.size w w':=by
 have T:=ak hv;have HS:=ak hs;obtain⟨a,V,rfl,Iy,Ix,X⟩:=hv
 have HL:Hid (∀i (h:i<G.length),∃b o,a=some ⟨b,o,none⟩∧b<w.heap.size∧ic w b (o+i*5) G[i]):=X;clear X hs;by_cases I:eF G.length x l r=0
 case neg=>
  have K:=hid (show eF G.length x l r=bJ G x l r from(mm I).symm);have hz:(eF G.length x l r==0)=false:=by simpa using I
  clear I;go_enter func45,ntmps45
  go_wp2_with fail;refine(uL G _ x l r _ (T.out.below ((Below.refl _ _).alloc (Nat.le_refl _) _))).mono ?_
  rintro e w1 ⟨rfl,d⟩;obtain⟨aR,b1,b2,dF,f,A⟩:=iP d
  clear d;generalize eF G.length x l r=y at*;go_wp2;go_ret;exact⟨aD K.out,f⟩
 case pos=>
 have J:=ak I;obtain⟨Iz,⟨IA,IB⟩,⟨IC,ID⟩,⟨I5,I6⟩⟩:=oF I
 clear I;go_enter func45,ntmps45
 go_wp2_with fail;refine(uL G _ x l r _ (T.out.below ((Below.refl _ _).alloc (Nat.le_refl _) _))).mono ?_
 rintro e w1 ⟨rfl,d⟩;rw[J.out];have I7:=ak d;obtain⟨aR,b1,b2,dF,N,A⟩:=iP d
 clear d;go_wp2_with fail;go_loopw [15] (fun i wr=> ∃k:Nat,k≤G.length∧i= .int .i64 k∧Hid (∀j (h:j<G.length),j<k→cN x G[j]=0)∧Below (w.alloc (.cells #[.slice a G.length V,.int .i64 x,.int .i64 l,.int .i64 r] 26)).heap.size (w.alloc (.cells #[.slice a G.length V,.int .i64 x,.int .i64 l,.int .i64 r] 26)) wr) (fun i _=>G.length-(intOf i).toNat)
 case atStart=>exact⟨0,Nat.zero_le _,rfl,(fun j _ h=>absurd h (Nat.not_lt_zero _): ∀j (h:j<G.length),j<0→cN x G[j]=0),I7.out⟩
 case round=>
  clear aR b1 b2 dF N A;obtain⟨k,hk,rfl,HP,H⟩:=hrel
  obtain⟨aR,b1,b2,dF,f,A⟩:=iP H
  have Q:=ak H;clear H;by_cases O:k<G.length
  · obtain⟨b,o,rfl,hb,he⟩:=HL.out k O
    obtain⟨c0,c1,c2,c3,c4⟩:=he.below hb f
    have IE:=f.size;clear he
    have I8:=hid (show¬cN x G[k]=0→cN x G[k]=bJ G x l r from fun h=>by
     have hg:=rk O HP.out h;rw[rn J.out (by rw[hg];exact h),hg])
    have U:=hid (show cN x G[k]=0→ ∀j (h:j<G.length),j<k+1→cN x G[j]=0 from fun hh j h1 h2=>by
     by_cases e:j=k
     · subst e;exact hh
     · exact HP.out j h1 (by omega))
    have I0:=(HS.out G[k] (List.getElem_mem O)).1;generalize G[k]=s at*;by_cases P:cN x s=0
    · have I9:=ak (U.out P)
      have S:=ak P;clear P;go_wp2_with fail;refine(uM s x _ I5 I6 I0).mono ?_
      rintro e w1 ⟨rfl,d⟩;rw[S.out];obtain⟨d0,d1,d2,d3,d4,F,Z⟩:=qB d
      have z:=Q.out.trans (F.mono Q.out.size);clear d F f;go_wp2_with fail;go_roundw
      case rel=>exact⟨k+1,by omega,by simp,I9,z⟩
      case measure=>simp[intOf];omega
    · have K:=ak (I8.out P)
      have hz:(cN x s==0)=false:=by simpa using P
      clear P;go_wp2_with fail;refine(uM s x _ I5 I6 I0).mono ?_
      rintro e w1 ⟨rfl,d⟩;obtain⟨d0,d1,d2,d3,d4,F,Z⟩:=qB d
      have z:=bn f F;clear d F f;generalize cN x s=y at*;go_wp2_with fail;go_ret;exact⟨aD K.out,z⟩
  · have M:=ak (rm fun j h=>HP.out j h (by omega))
    have Iv:=ak (vT M.out);cases E:gQ G with
    |false=>
     have K:=hid (show 4=bJ G x l r from(rp J.out M.out E).symm);have S:=ak E;clear E;go_wp2_with fail;refine(vU G _ _ (T.out.below f)).mono ?_
     rintro e w1 ⟨rfl,d⟩;rw[S.out];have z:=bn f d;go_wp2;go_ret;exact⟨aD K.out,z⟩
    |true=>
     have K:=hid (show iw G r=bJ G x l r from(rq J.out M.out E).symm);have S:=ak E;clear E;go_wp2_with fail;refine(vU G _ _ (T.out.below f)).mono ?_
     rintro e w1 ⟨rfl,d⟩;rw[S.out];have z:=bn f d;have f0:=(d.cell (p:=⟨w.heap.size,0,none⟩) A).trans aR;have f1:=(d.cell (p:=⟨w.heap.size,1,none⟩) A).trans b1;have f2:=(d.cell (p:=⟨w.heap.size,2,none⟩) A).trans b2;have f3:=(d.cell (p:=⟨w.heap.size,3,none⟩) A).trans dF;clear d f aR b1 b2 dF;go_wp2_with fail;refine(Cg G _ x l r _ (T.out.below z) (by omega) Iv.out).mono ?_
     rintro e w2 ⟨rfl,Iw⟩;have Y:=bn z Iw;generalize iw G r=y at*;go_wp2;go_ret;exact⟨aD K.out,Y⟩
def ix (x y:En):Bool:=(x.path.toList==y.path.toList) && ((x.folder==y.folder) && (x.text.toList==y.text.toList))
def nD (A B:List En):Prop:=A.length=B.length∧ ∀j (h:j<A.length) (h2:j<B.length),ix A[j] B[j]=true
theorem rt {x y:En}:ix x y=true↔x.path.data.toList=y.path.data.toList∧x.folder=y.folder∧x.text.data.toList=y.text.data.toList:=by
 rw[ix,Lib.toList_data,Lib.toList_data,Lib.toList_data,Lib.toList_data];simp
theorem Ci {A B:List (List UInt8)} (z:A.Pairwise (fun x y=>x<y)) (E:B.Pairwise (fun x y=>x<y)) (h: ∀x,x∈A↔x∈B):A=B:=by
 induction A generalizing B with
 |nil=>
  cases B with
  |nil=>rfl
  |cons b r=>exact absurd ((h b).2 (by simp)) (by simp)
 |cons a A ih=>
  cases B with
  |nil=>exact absurd ((h a).1 (by simp)) (by simp)
  |cons b B=>
   rw[List.pairwise_cons]at z E
   have F:a=b:=by
    rcases List.mem_cons.1 ((h a).1 (by simp))with e|d
    · exact e
    · rcases List.mem_cons.1 ((h b).2 (by simp))with e|G
      · exact e.symm
      · exact absurd (List.lt_trans (z.1 b G) (E.1 a d)) (List.lt_irrefl _)
   subst F;congr 1
   refine ih z.2 E.2 fun x=>⟨fun f=>?_,fun f=>?_⟩
   · rcases List.mem_cons.1 ((h x).1 (by simp[f]))with e|d
     · subst e;exact absurd (z.1 _ f) (List.lt_irrefl _)
     · exact d
   · rcases List.mem_cons.1 ((h x).2 (by simp[f]))with e|d
     · subst e;exact absurd (E.1 _ f) (List.lt_irrefl _)
     · exact d
theorem vW {L:List En} (h:L.Pairwise (fun x y=>Pp.lt x y=true)):(L.map (fun e=>e.path.data.toList)).Pairwise (fun x y=>x<y):=by
 rw[List.pairwise_map];refine List.Pairwise.imp ?_ h
 intro x y d;rwa [Pp.lt,Lib.toList_data,Lib.toList_data,bytesLess_eq,decide_eq_true_eq]at d
theorem ru (e:En):(e.folder=true∧Sp.wh e=1)∨(e.folder=false∧Sp.wh e=2):=by
 unfold Sp.wh;cases e.folder<;>simp
theorem rv {x y:En}:Sp.wh x=Sp.wh y↔x.folder=y.folder:=by
 rcases ru x with⟨d,f⟩|⟨d,f⟩<;>rcases ru y with⟨z,A⟩|⟨z,A⟩<;>simp[d,f,z,A]
theorem vX {L:List En} {p:List UInt8} {x:En} (h:Sp.at_ L p=some x):x∈L∧x.path.data.toList=p:=⟨List.mem_of_find?_eq_some h,mi.1 (List.find?_some h)⟩
theorem rx {L:List En} {p:List UInt8} {e:En} (h:Sp.wh e=ey L p): ∃x,Sp.at_ L p=some x∧x∈L∧x.path.data.toList=p∧x.folder=e.folder:=by
 rw[ey]at h;cases d:Sp.at_ L p with
 |none=>
  rw[d]at h;simp only at h;rcases ru e with⟨_,f⟩|⟨_,f⟩<;>omega
 |some x=>
  rw[d]at h;exact⟨x,rfl,(vX d).1,(vX d).2,(rv.1 h).symm⟩
theorem Cj {p:List UInt8} (h:aC p≠[]):(aC p).length<p.length:=by
 by_cases d:47∈p
 · obtain⟨a,b,hb,rfl⟩:=l6 d
   rw[gn a hb];simp
 · exact absurd (m6 d) h
theorem vY {e:En} (h:bM e=0) (f:e.folder=true):e.text.data.toList=[]:=by
 rw[bM,if_pos (gv h)]at h;by_cases d:e.text.data.toList=[]
 · exact d
 · rw[if_pos ⟨f,d⟩]at h;cases h
theorem Ck {A B:List En} (K:Pp.Good A) (I:dR A B=[]): ∀(n:Nat) (e:En),e∈A→e.path.data.toList.length≤n→Sp.wh e=ey B e.path.data.toList:=by
 have y: ∀e∈A,fF B e=false:=by
  rw[dR,List.map_eq_nil_iff,List.filter_eq_nil_iff]at I;intro e d;simpa using I e d
 intro n;induction n with
 |zero=>
  intro e d M;have J:e.path.data.toList=[]:=List.length_eq_zero_iff.1 (by omega);have f:=y e d
  have E:iU B e.path.data.toList=true:=by
   rw[iU,J,m6 (by simp)];rfl
  rw[fF,E,Bool.and_true]at f;simpa using f
 |succ n ih=>
  intro e d M;have f:=y e d
  have E:iU B e.path.data.toList=true:=by
   by_cases F:aC e.path.data.toList=[]
   · rw[iU,F];rfl
   · obtain⟨x,N,z,G,_⟩:=l8 (K.pars e d) F
     have H:=ih x N (by rw[z];have:=Cj F;omega);rw[z]at H;rw[iU,←H];simp[Sp.wh,G]
  rw[fF,E,Bool.and_true]at f;simpa using f
theorem Cm {A B:List En} (K:Pp.Good A) (P:Pp.Good B):dR A B++dZ A B=[]↔nD A B:=by
 constructor
 · intro h
   obtain⟨hd,Y⟩:=List.append_eq_nil_iff.1 h
   have I: ∀e∈A,Sp.wh e=ey B e.path.data.toList:=fun e d=>Ck K hd _ e d (Nat.le_refl _)
   have H: ∀e∈B,kO A e=false:=by
    rw[dZ,List.map_eq_nil_iff,List.filter_eq_nil_iff]at Y;intro e d;simpa using Y e d
   have J: ∀e∈B,Sp.wh e=ey A e.path.data.toList∧(Sp.tx e).toList=(iT A e.path.data.toList).toList:=fun e d=>by
    have:=H e d
    rw[kO]at this;simpa using this
   have M:A.map (fun e=>e.path.data.toList)=B.map (fun e=>e.path.data.toList):=by
    refine Ci (vW K.rise) (vW P.rise) fun x=>⟨fun N=>?_,fun N=>?_⟩
    · obtain⟨e,d,rfl⟩:=List.mem_map.1 N
      obtain⟨y,_,V,G,_⟩:=rx (I e d)
      exact List.mem_map.2 ⟨y,V,G⟩
    · obtain⟨e,d,rfl⟩:=List.mem_map.1 N
      obtain⟨y,_,V,G,_⟩:=rx (J e d).1
      exact List.mem_map.2 ⟨y,V,G⟩
   refine⟨by simpa using congrArg List.length M,fun j z E=>rt.2 ?_⟩
   have Z:A[j].path.data.toList=B[j].path.data.toList:=by
    have:=congrArg (fun l=>l[j]?) M
    simpa[z,E]using this
   obtain⟨O,f⟩:=J B[j] (List.getElem_mem E)
   obtain⟨x,N,T,U,F⟩:=rx O
   have S:x=A[j]:=K.uniq T (List.getElem_mem z) (U.trans Z.symm);rw[iT,N]at f;subst S;refine⟨Z,F,?_⟩
   replace f:(Sp.tx B[j]).toList=(Sp.tx A[j]).toList:=f;unfold Sp.tx at f;rw[F]at f;cases Q:B[j].folder with
   |true=>
    rw[vY (K.ents _ (List.getElem_mem z)) (F.trans Q),vY (P.ents _ (List.getElem_mem E)) Q]
   |false=>
    rw[Q]at f;simp only[Bool.false_eq_true,if_false]at f;rw[Lib.toList_data,Lib.toList_data]at f;exact f.symm
 · intro ⟨hl,h⟩
   have X:=jZ K.rise;have aB:=jZ P.rise;rw[List.append_eq_nil_iff];constructor
   · rw[dR,List.map_eq_nil_iff,List.filter_eq_nil_iff]
     intro e d;obtain⟨j,z,rfl⟩:=List.getElem_of_mem d
     obtain⟨I,H,J⟩:=rt.1 (h j z (by omega))
     rw[fF,I,vo aB (List.getElem_mem _),rv.2 H];simp
   · rw[dZ,List.map_eq_nil_iff,List.filter_eq_nil_iff]
     intro e d;obtain⟨j,z,rfl⟩:=List.getElem_of_mem d
     obtain⟨I,H,J⟩:=rt.1 (h j (by omega) z)
     have O:(Sp.tx B[j]).toList=(Sp.tx (A[j]'(by omega))).toList:=by
      unfold Sp.tx;rw[H];split
      · rfl
      · rw[Lib.toList_data,Lib.toList_data];exact J.symm
     rw[kO,←I,vo X (List.getElem_mem _),Bs X (List.getElem_mem _),rv.2 H,O];simp
def iY (x:En) (s:List En×Bool) (y:En):List En×Bool:=
 (if y.path.data.toList=x.path.data.toList then(if s.2=false∧Pp.lt y x=false then s.1++[x]else s.1)else(if s.2=false∧Pp.lt y x=false then s.1++[x]else s.1)++[y],s.2|| !(Pp.lt y x))
def dH (x:En) (L:List En):List En×Bool:=L.foldl (iY x) ([],false)
def Pp.putR (x:En) (L:List En):List En:=if(dH x L).2=true then(dH x L).1 else(dH x L).1++[x]
theorem vZ (x:En) (A:List En) (y:En):dH x (A++[y])=iY x (dH x A) y:=by rw[dH,List.foldl_append];rfl
theorem ry {x:En}: ∀{A:List En},(∀y∈A,Pp.lt y x=true)→ ∀B,cg x (A++B)=A++cg x B
 |[],_,_=>rfl
 |y::r,h,B=>by
  rw[List.cons_append,cg,if_pos (h y (by simp)),ry (fun z d=>h z (by simp[d]))];rfl
theorem we {x y:En} (h:Pp.lt y x=false): ∀K,cg x (K++[y])=cg x K++[y]
 |[]=>by simp[cg,h]
 |z::r=>by
  rw[List.cons_append,cg,cg];split
  · rw[we h r];rfl
  · rfl
theorem Cp {x y:En} (h:y.path.data.toList=x.path.data.toList):aO x.path.data.toList y=true:=by rw[aO,h];exact beq_self_eq_true _
theorem rz {x y:En} (h: ¬y.path.data.toList=x.path.data.toList):aO x.path.data.toList y=false:=by rw[aO];exact beq_eq_false_iff_ne.2 h
theorem Cq {x y:En} (h:y.path.data.toList=x.path.data.toList):cL x [y]=[]:=by rw[cL,List.filter_cons,Cp h];rfl
theorem wj {x y:En} (h: ¬y.path.data.toList=x.path.data.toList):cL x [y]=[y]:=by rw[cL,List.filter_cons,rz h];rfl
theorem wu {x:En} {A:List En} (h: ∀y∈A,Pp.lt y x=true):cL x A=A:=by
 rw[cL,List.filter_eq_self];intro y d;rw[rz (lZ (h y d))];rfl
theorem ww (x:En) (A B:List En):cL x (A++B)=cL x A++cL x B:=by rw[cL,List.filter_append];rfl
theorem wA {x x' y:En} (h:x.path.data.toList=x'.path.data.toList):Pp.lt y x=Pp.lt y x':=by
 rw[iF,iF];unfold Pp.cfE;rw[h]
theorem Cr {x:En} {L:List En} (N:L.Pairwise (fun x y=>Pp.lt x y=true)): ∀k,k≤L.length→dH x (L.take k)=if(L.take k).all (fun y=>Pp.lt y x)=true then(L.take k,false)else(cg x (cL x (L.take k)),true):=by
 intro k;induction k with
 |zero=>intro _;simp[dH]
 |succ k ih=>
  intro S;have I:k<L.length:=by omega
  have ih:=ih (by omega)
  have J: ∀z∈L.take k,Pp.lt z L[k]=true:=fun z K=>by
   obtain⟨i,Q,rfl⟩:=List.getElem_of_mem K
   rw[List.length_take]at Q;rw[List.getElem_take];exact List.pairwise_iff_getElem.1 N i k (by omega) I (by omega)
  rw[List.take_succ_eq_append_getElem I,vZ,ih];generalize L[k]=y at*;generalize L.take k=A at*;cases d:A.all (fun y=>Pp.lt y x)with
  |true=>
   have M: ∀z∈A,Pp.lt z x=true:=fun z K=>List.all_eq_true.1 d z K
   cases f:Pp.lt y x with
   |true=>
    have O:=lZ f;have H:(A++[y]).all (fun y=>Pp.lt y x)=true:=by rw[List.all_append,d];simp[f]
    rw[if_pos rfl,if_pos H,iY];simp only[f,if_neg (show¬y.path.data.toList=x.path.data.toList from O)];simp
   |false=>
    have H:(A++[y]).all (fun y=>Pp.lt y x)=false:=by rw[List.all_append,d];simp[f]
    rw[if_pos rfl,if_neg (by rw[H];decide),iY,ww,wu M,ry M];by_cases E:y.path.data.toList=x.path.data.toList
    · have aE:=Cq E
      rw[aE];simp only[E,f,cg,if_true,if_false,and_self,Bool.false_eq_true,Bool.not_false,Bool.or_true,List.append_assoc,List.cons_append,List.nil_append]
    · have aE:=wj E
      rw[aE];simp only[E,f,cg,if_true,if_false,and_self,Bool.false_eq_true,Bool.not_false,Bool.or_true,List.append_assoc,List.cons_append,List.nil_append]
  |false=>
   obtain⟨z,K,F⟩: ∃z∈A,Pp.lt z x=false:=by
    have:=List.all_eq_false.1 d
    simpa using this
   have G:=J z K
   have f:Pp.lt y x=false:=by
    cases P:Pp.lt y x with
    |false=>rfl
    |true=>rw[hU z y x G P]at F;cases F
   have E: ¬y.path.data.toList=x.path.data.toList:=fun e=>by
    rw[wA e,F]at G;cases G
   have H:(A++[y]).all (fun y=>Pp.lt y x)=false:=by rw[List.all_append,d];rfl
   have aE:=wj E;rw[if_neg (by decide),if_neg (by rw[H];decide),iY,ww,aE,we f];simp only[E,if_false,Bool.true_eq_false,false_and,Bool.true_or]
theorem oG {x:En} {L:List En} (A:L.Pairwise (fun x y=>Pp.lt x y=true)):Pp.putR x L=cg x (cL x L):=by
 have h:=Cr (x:=x) A L.length (Nat.le_refl _);rw[List.take_length]at h;rw[Pp.putR,h];cases d:L.all (fun y=>Pp.lt y x)with
 |true=>
  have f: ∀z∈L,Pp.lt z x=true:=fun z E=>List.all_eq_true.1 d z E
  have e:=ry f [];rw[List.append_nil]at e;rw[wu f,e];simp[cg]
 |false=>simp
theorem oH (L:List En) (v:Value) (x:En) (w:World) (hv:an w v L) (hn:L.length≤1000000):
    Calls prog 164 #[v,.agg #[.string x.path,.bool x.folder,.string x.text,.int .i64 x.ver]] w fun e w'=> ∃u,e= .returned u∧w'.ownsRow w.heap.size 107 4 u (Pp.putR x L).length (cr (Pp.putR x L))∧Below w.heap.size w w':=by
 obtain⟨aZ,T,U,V,Z⟩:=info_parts Tryz.infoE
 obtain⟨a,IA,rfl,Iy,Iw,hL⟩:=hv
 have HL:Hid (∀i (h:i<L.length),∃b o,a=some ⟨b,o,none⟩∧b<w.heap.size∧dp w b (o+i*4) L[i]):=hL;clear hL;go_enter func164,ntmps164
 go_wp2_with fail;have HX:=hid (show∀k,∀h:k<L.length,dH x (L.take (k+1))=iY x (dH x (L.take k)) L[k]from fun k h=>by rw[List.take_succ_eq_append_getElem h,vZ]);go_loopw [5,6,7] (fun o pt i wr=> ∃k:Nat,k≤L.length∧i= .int .i64 k∧pt= .bool (dH x (L.take k)).2∧(dH x (L.take k)).1.length≤2*k∧wr.ownsRow (w.heap.size+1) 107 4 o (dH x (L.take k)).1.length (cr (dH x (L.take k)).1)∧Below (w.alloc (.cells #[.string x.path,.bool x.folder,.string x.text,.int .i64 x.ver] 107)).heap.size (w.alloc (.cells #[.string x.path,.bool x.folder,.string x.text,.int .i64 x.ver] 107)) wr) (fun _ _ i _=>L.length-(intOf i).toNat)
 case atStart=>exact⟨0,Nat.zero_le _,rfl,rfl,by simp[dH],World.ownsRow_nil _ _ _ _,Below.refl _ _⟩
 case round=>
  obtain⟨k,hk,rfl,rfl,I7,G,J⟩:=hrel
  obtain⟨r0,r1,r2,r3,I8,Iz⟩:=dO J
  by_cases Iv:k<L.length
  · obtain⟨b,o,rfl,hb,he⟩:=HL.out k Iv
    obtain⟨c0,c1,c2,c3⟩:=he.below hb I8
    have O:=HX.out k Iv;generalize dH x (L.take k)=S at*;obtain⟨X,pb⟩:=S
    simp only at I7 G;have I:=G.drew.drew;have z:=J.drew.drew;have M:=G.drew;have E:=J.drew;cases pb with
    |true=>
     cases hp:(L[k].path.toList==x.path.toList)with
     |true=>
      have N:L[k].path.data.toList=x.path.data.toList:=by rw[Lib.toList_data,Lib.toList_data]at hp;simpa using hp
      have H:=hid (show dH x (L.take (k+1))=(X,true)from by rw[O,iY];simp only[N,if_true,Bool.true_eq_false,false_and,if_false,Bool.true_or]);clear O N;go_wp2_with fail;go_region
      go_wp2_with fail;go_region
      go_wp2_with fail;go_roundw
      case rel=>exact⟨k+1,by omega,by simp,by rw[H.out],by rw[H.out];simp only;omega,by rw[H.out];exact I,z⟩
      case measure=>simp[intOf];omega
     |false=>
      have N: ¬L[k].path.data.toList=x.path.data.toList:=by rw[Lib.toList_data,Lib.toList_data]at hp;simpa using hp
      have H:=hid (show dH x (L.take (k+1))=(X++[L[k]],true)from by rw[O,iY];simp only[N,if_false,Bool.true_eq_false,false_and,Bool.true_or]);clear O N;go_wp2_with fail;go_region
      go_wp2_with fail;go_region
      go_wp2_with (at_builtin;refine wpList_append_own _ rfl _ _ 44 rfl (w.heap.size+1) 107 aZ (.agg #[.string ⟨#[]⟩,.bool false,.string ⟨#[]⟩,.int .i64 0]) 4 48 underlying44 T U V Z rfl (by decide) _ _ _ rfl (I.alloc _) ⟨wr.heap.size,0,none⟩ 1 1 (Pp.cells L[k]) rfl rfl (ia wr.drew.drew L[k] _) (Pp.cells_one _) (by unfold maxLen;omega) (by omega) (by have:=z.size;simp at this⊢;omega) ?_)
      intro v2 Q F A K;have d:Below (w.alloc (.cells #[.string x.path,.bool x.folder,.string x.text,.int .i64 x.ver] 107)).heap.size (w.alloc (.cells #[.string x.path,.bool x.folder,.string x.text,.int .i64 x.ver] 107)) Q:=(z.alloc z.size _).grown A (by have:=z.size;simp at this⊢;omega) (fun g hg=>by have:=(I.lt g hg).1;simp;omega);rw[iq]at F;have f:Q.ownsRow (w.heap.size+1) 107 4 v2 (X++[L[k]]).length (cr (X++[L[k]])):=by rw[List.length_append];exact F
      clear F A K;have HO:=hid f;clear f G J I z M E c0 c1 c2 c3 r0 r1 r2 r3 he;go_wp2_with fail;go_roundw
      case rel=>exact⟨k+1,by omega,by simp,by rw[H.out],by rw[H.out,List.length_append];simp only[List.length_singleton];omega,by rw[H.out];exact HO.out,d⟩
      case measure=>simp[intOf];omega
    |false=>
     cases hl:Pp.lt L[k] x with
     |true=>
      have Ix:Op.bytesLess L[k].path.toList x.path.toList=true:=hl
      have I9:Op.bytesLess x.path.toList L[k].path.toList=false:=by
       cases hh:Op.bytesLess x.path.toList L[k].path.toList with
       |false=>rfl
       |true=>have:=hU L[k] x L[k] hl hh;rw[fA]at this;cases this
      have N: ¬L[k].path.data.toList=x.path.data.toList:=lZ hl;have hp:(L[k].path.toList==x.path.toList)=false:=by rw[Lib.toList_data,Lib.toList_data];exact beq_eq_false_iff_ne.2 N
      have H:=hid (show dH x (L.take (k+1))=(X++[L[k]],false)from by rw[O,iY,hl];simp only[N,if_false,Bool.true_eq_false,and_false,Bool.not_true,Bool.or_false]);clear O N hl;go_wp2_with fail;go_region
      go_wp2_with fail;go_region
      go_wp2_with (at_builtin;refine wpList_append_own _ rfl _ _ 44 rfl (w.heap.size+1) 107 aZ (.agg #[.string ⟨#[]⟩,.bool false,.string ⟨#[]⟩,.int .i64 0]) 4 48 underlying44 T U V Z rfl (by decide) _ _ _ rfl (I.alloc _) ⟨wr.heap.size,0,none⟩ 1 1 (Pp.cells L[k]) rfl rfl (ia wr.drew.drew L[k] _) (Pp.cells_one _) (by unfold maxLen;omega) (by omega) (by have:=z.size;simp at this⊢;omega) ?_)
      intro v2 Q F A K;have d:Below (w.alloc (.cells #[.string x.path,.bool x.folder,.string x.text,.int .i64 x.ver] 107)).heap.size (w.alloc (.cells #[.string x.path,.bool x.folder,.string x.text,.int .i64 x.ver] 107)) Q:=(z.alloc z.size _).grown A (by have:=z.size;simp at this⊢;omega) (fun g hg=>by have:=(I.lt g hg).1;simp;omega);rw[iq]at F;have f:Q.ownsRow (w.heap.size+1) 107 4 v2 (X++[L[k]]).length (cr (X++[L[k]])):=by rw[List.length_append];exact F
      clear F A K;have HO:=hid f;clear f G J I z M E c0 c1 c2 c3 r0 r1 r2 r3 he;go_wp2_with fail;go_roundw
      case rel=>exact⟨k+1,by omega,by simp,by rw[H.out],by rw[H.out,List.length_append];simp only[List.length_singleton];omega,by rw[H.out];exact HO.out,d⟩
      case measure=>simp[intOf];omega
     |false=>
      have Ix:Op.bytesLess L[k].path.toList x.path.toList=false:=hl;cases hp:(L[k].path.toList==x.path.toList)with
      |true=>
       have N:L[k].path.data.toList=x.path.data.toList:=by rw[Lib.toList_data,Lib.toList_data]at hp;simpa using hp
       have I9:Op.bytesLess x.path.toList L[k].path.toList=false:=by
        have:=fA x
        rw[←wA (x:=L[k]) (x':=x) (y:=x) N]at this;exact this
       have H:=hid (show dH x (L.take (k+1))=(X++[x],true)from by rw[O,iY,hl];simp only[N,if_true,and_self,Bool.not_false,Bool.or_true]);clear O N hl;go_wp2_with fail;go_region
       go_wp2_with (at_builtin;refine wpList_append_own _ rfl _ _ 44 rfl (w.heap.size+1) 107 aZ (.agg #[.string ⟨#[]⟩,.bool false,.string ⟨#[]⟩,.int .i64 0]) 4 48 underlying44 T U V Z rfl (by decide) _ _ _ rfl (M.alloc _) ⟨wr.heap.size,0,none⟩ 1 1 (Pp.cells x) rfl rfl (ia wr.drew x _) (Pp.cells_one _) (by unfold maxLen;omega) (by omega) (by have:=E.size;simp at this⊢;omega) ?_)
       intro v2 Q F A K;have d:Below (w.alloc (.cells #[.string x.path,.bool x.folder,.string x.text,.int .i64 x.ver] 107)).heap.size (w.alloc (.cells #[.string x.path,.bool x.folder,.string x.text,.int .i64 x.ver] 107)) Q:=(E.alloc E.size _).grown A (by have:=E.size;simp at this⊢;omega) (fun g hg=>by have:=(M.lt g hg).1;simp;omega);rw[iq]at F;have f:Q.ownsRow (w.heap.size+1) 107 4 v2 (X++[x]).length (cr (X++[x])):=by rw[List.length_append];exact F
       clear F A K;obtain⟨s0,s1,s2,s3,P,I5⟩:=dO d
       obtain⟨d0,d1,d2,d3⟩:=he.below hb P
       have HO:=hid f;clear f G J I z M E c0 c1 c2 c3 r0 r1 r2 r3 he;go_wp2_with fail;go_region
       go_wp2_with fail;go_roundw
       case rel=>exact⟨k+1,by omega,by simp,by rw[H.out],by rw[H.out,List.length_append];simp only[List.length_singleton];omega,by rw[H.out];exact HO.out.drew,d.drew⟩
       case measure=>simp[intOf];omega
      |false=>
       have N: ¬L[k].path.data.toList=x.path.data.toList:=by rw[Lib.toList_data,Lib.toList_data]at hp;simpa using hp
       have I9:Op.bytesLess x.path.toList L[k].path.toList=true:=by
        cases hh:Op.bytesLess x.path.toList L[k].path.toList with
        |true=>rfl
        |false=>exact absurd (lX hl hh) N
       have H:=hid (show dH x (L.take (k+1))=(X++[x]++[L[k]],true)from by rw[O,iY,hl];simp only[N,if_true,if_false,and_self,Bool.not_false,Bool.or_true]);clear O N hl;go_wp2_with fail;go_region
       go_wp2_with (at_builtin;refine wpList_append_own _ rfl _ _ 44 rfl (w.heap.size+1) 107 aZ (.agg #[.string ⟨#[]⟩,.bool false,.string ⟨#[]⟩,.int .i64 0]) 4 48 underlying44 T U V Z rfl (by decide) _ _ _ rfl (M.alloc _) ⟨wr.heap.size,0,none⟩ 1 1 (Pp.cells x) rfl rfl (ia wr.drew x _) (Pp.cells_one _) (by unfold maxLen;omega) (by omega) (by have:=E.size;simp at this⊢;omega) ?_)
       intro v2 Q F A K;have d:Below (w.alloc (.cells #[.string x.path,.bool x.folder,.string x.text,.int .i64 x.ver] 107)).heap.size (w.alloc (.cells #[.string x.path,.bool x.folder,.string x.text,.int .i64 x.ver] 107)) Q:=(E.alloc E.size _).grown A (by have:=E.size;simp at this⊢;omega) (fun g hg=>by have:=(M.lt g hg).1;simp;omega);rw[iq]at F;have f:Q.ownsRow (w.heap.size+1) 107 4 v2 (X++[x]).length (cr (X++[x])):=by rw[List.length_append];exact F
       clear F A K;obtain⟨s0,s1,s2,s3,P,I5⟩:=dO d
       obtain⟨d0,d1,d2,d3⟩:=he.below hb P
       have IB:(X++[x]).length≤X.length+1:=by simp
       generalize X++[x]=Y at*;clear G J I z M E c0 c1 c2 c3 r0 r1 r2 r3;go_wp2_with fail;go_region
       go_wp2_with (at_builtin;refine wpList_append_own _ rfl _ _ 44 rfl (w.heap.size+1) 107 aZ (.agg #[.string ⟨#[]⟩,.bool false,.string ⟨#[]⟩,.int .i64 0]) 4 48 underlying44 T U V Z rfl (by decide) _ _ _ rfl (f.drew.alloc _) ⟨Q.heap.size,0,none⟩ 1 1 (Pp.cells L[k]) rfl rfl (ia Q.drew L[k] _) (Pp.cells_one _) (by unfold maxLen;omega) (by omega) (by have:=d.size;simp at this⊢;omega) ?_)
       intro v3 w3 F A K;have I6:Below (w.alloc (.cells #[.string x.path,.bool x.folder,.string x.text,.int .i64 x.ver] 107)).heap.size (w.alloc (.cells #[.string x.path,.bool x.folder,.string x.text,.int .i64 x.ver] 107)) w3:=(d.drew.alloc d.drew.size _).grown A (by have:=d.size;simp at this⊢;omega) (fun g hg=>by have:=(f.drew.lt g hg).1;simp;omega);rw[iq]at F;have I0:w3.ownsRow (w.heap.size+1) 107 4 v3 (Y++[L[k]]).length (cr (Y++[L[k]])):=by rw[List.length_append];exact F
       clear F A K;have HO:=hid I0;clear I0 f d d0 d1 d2 d3 s0 s1 s2 s3 he;go_wp2_with fail;go_roundw
       case rel=>exact⟨k+1,by omega,by simp,by rw[H.out],by rw[H.out,List.length_append];simp only[List.length_singleton];omega,by rw[H.out];exact HO.out,I6⟩
       case measure=>simp[intOf];omega
  · have ek:L.take k=L:=List.take_of_length_le (by omega)
    rw[ek]at G I7⊢;have hR:Pp.putR x L=if(dH x L).2=true then(dH x L).1 else(dH x L).1++[x]:=rfl
    generalize dH x L=S at*;obtain⟨X,pb⟩:=S
    simp only at I7 G hR;cases pb with
    |true=>
     rw[if_pos rfl]at hR;have HR:=hid hR;clear hR;go_wp2_with fail;go_ret;exact⟨_,rfl,by rw[HR.out];exact Pp.own_mono G (by simp),I8⟩
    |false=>
     rw[if_neg (by decide)]at hR;have HR:=hid hR;clear hR;go_wp2_with (at_builtin;refine wpList_append_own _ rfl _ _ 44 rfl (w.heap.size+1) 107 aZ (.agg #[.string ⟨#[]⟩,.bool false,.string ⟨#[]⟩,.int .i64 0]) 4 48 underlying44 T U V Z rfl (by decide) _ _ _ rfl (G.alloc _) ⟨wr.heap.size,0,none⟩ 1 1 (Pp.cells x) rfl rfl (ia wr x _) (Pp.cells_one _) (by unfold maxLen;omega) (by omega) (by have:=J.size;simp at this⊢;omega) ?_)
     intro v2 Q F A K;have d:Below (w.alloc (.cells #[.string x.path,.bool x.folder,.string x.text,.int .i64 x.ver] 107)).heap.size (w.alloc (.cells #[.string x.path,.bool x.folder,.string x.text,.int .i64 x.ver] 107)) Q:=(J.alloc J.size _).grown A (by have:=J.size;simp at this⊢;omega) (fun g hg=>by have:=(G.lt g hg).1;simp;omega);rw[iq]at F;have f:Q.ownsRow (w.heap.size+1) 107 4 v2 (X++[x]).length (cr (X++[x])):=by rw[List.length_append];exact F
     clear F A K;obtain⟨s0,s1,s2,s3,P,I5⟩:=dO d
     have HO:=hid f;clear f G J r0 r1 r2 r3 s0 s1 s2 s3;go_wp2_with fail;go_ret;exact⟨_,rfl,by rw[HR.out];exact Pp.own_mono HO.out (by simp),P⟩
end Go.Proofs.YtcmlnelpcjfocaaGreatDoor
