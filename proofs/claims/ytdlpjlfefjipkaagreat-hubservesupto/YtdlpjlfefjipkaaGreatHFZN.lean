/- slices.Insert of a folder, at any place. -/
import Derived.Test.YtdlpjlfefjipkaaGreatHFZL
import Derived.Test.YtdlpjlfefjipkaaGreatHFXU29
import Derived.Deep.Cut
set_option linter.unusedSimpArgs false
set_option linter.unusedVariables false
namespace Go.Proofs.YtdlpjlfefjipkaaGreat
open Go.RowKit Go.Proofs.Tryz
set_option maxHeartbeats 16000000
set_option maxRecDepth 100000
theorem Tryz.sizeSh:(prog.info? 59).map (·.size)=some 4:=by
 obtain⟨d,a,_,c,_⟩:=info_parts Tryz.infoRF
 rw[a];simp[c]
theorem Tryz.sizeOfSh (w:World):(Go.sizeOf 59).run prog w= .ok 4 w:=by
 obtain⟨d,a,_,c,_⟩:=info_parts Tryz.infoRF
 simp[Go.sizeOf,typeInfo,a,c]
theorem CV {W:World} {b:Nat} {vs:List Value} (h:Cs W b vs): ∃T,W.shape? b=some (T,vs.length):=by
 obtain⟨T,h⟩:=h
 exact⟨T,by simp[World.shape?,h]⟩
theorem CW (g n cap i c:Nat) (cur X:List Value) (na:ByteArray) (W:World) (hi:i<n) (E2:n+1≤cap) (J:cap≤maxLen) (F:W.heap[g]?=some (.cells cur.toArray 59 (0,0))) (s:cur.length=cap*4) (hX:X.length=n*4) (hc:cur.take X.length=X) (h1: ∀v∈X,v.oneCell'=true) (H:Cs W c (newC na)) (S:c≠g):
    Calls prog 102 #[.slice (some ⟨g,0,none⟩) n cap,i,.slice (some ⟨c,0,none⟩) 1 1] W fun e w'=>e= .returned (.slice (some ⟨g,0,none⟩) (n+1) cap)∧w'.heap[g]?=some (.cells (splice (splice cur (i*4+4) (X.drop (i*4))) (i*4) (newC na)).toArray 59 (0,0))∧W.grownBy w' (some g):=by
 unfold maxLen at J;have HG:=hid F;obtain⟨tA,P⟩:=CV H
 have Q:W.shape? g=some (59,cur.length):=by simp[World.shape?,F]
 have M:W.frozen? ⟨c,0,none⟩=false:=H.fr 0;have N:W.frozen? ⟨c,(newC na).length,none⟩=false:=H.fr _
 have E1: ∀lb Y,(callFunc 138 #[.slice (some ⟨c,0,none⟩) 1 1,.slice (some ⟨g,(i+1)*4,none⟩) lb Y]).run prog W= .ok (.value (.bool false)) W:=fun lb Y=>by
  rw[run_callFunc_extern func138 (by kernel_rfl) (by kernel_rfl) (by kernel_rfl) (e:=Extern.SlicesOverlaps.overlaps #[22,22] #[4]) (by kernel_rfl),
   Lib.run_overlaps_apart W 22 4 59 underlying22 4 Tryz.sizeOfSh ⟨c,0,none⟩ ⟨g,(i+1)*4,none⟩ 1 1 lb Y S tA 59 _ _ P Q (by omega) M N]
  rfl
 have EQ: ¬((i:Int)=(n:Int)):=by omega
 have EO:IntKind.i64.wrap ((i:Int)+1)=(i:Int)+1:=by rw[IntKind.wrap_i64];omega
 have EP:IntKind.i64.wrap ((n:Int)+1)=(n:Int)+1:=by rw[IntKind.wrap_i64];omega
 have E4:(0:Int)≤(i:Int)+1:=by omega
 have E3:(0:Int)≤(n:Int)+1:=by omega
 have EK:(0:Int)≤(i:Int):=by omega
 have EL:i≤n:=by omega
 have EN:((i:Int)+1).toNat=i+1:=by omega
 have EM:((n:Int)+1).toNat=n+1:=by omega
 have E5: ¬(cap=i+1):=by omega
 have E6:(i:Int)≤(n:Int)+1:=by omega
 have E7: ¬(cap=i):=by omega
 have E8: ¬((cap:Int)<(n:Int)+1):=by omega
 have E9:(n:Int)+1≤(cap:Int):=by omega
 have EJ:(i:Int)+1≤(n:Int)+1:=by omega
 have o:(X.drop (i*4)).length=(n-i)*4:=by rw[List.length_drop,hX];omega
 have K: ∀j,j<X.length→cur[j]?=X[j]?:=fun j C=>by
  conv=>rhs;rw[←hc]
  rw[List.getElem?_take,if_pos C]
 have e4:(i+1)*4=i*4+4:=by omega
 have u: ∀E z sc,(Builtin.copy_ #[22,22] E #[.slice (some ⟨g,(i+1)*4,none⟩) (n+1-(i+1)) z,.slice (some ⟨g,i*4,none⟩) (n+1-i) sc]).run prog W.drew= .ok (goInt (Nat.min (n+1-i) (n+1-(i+1)):Nat)) (W.drew.setRow g (splice cur ((i+1)*4) (X.drop (i*4))).toArray):=fun E z sc=>
  nX W.drew _ _ E 59 4 g ((i+1)*4) (n+1-(i+1)) z ⟨g,i*4,none⟩ (n+1-i) sc cur 59 (X.drop (i*4)) underlying22 Tryz.sizeSh F (by rw[o];simp only[Nat.min_def];split<;>omega)
   (fun j v C=>by
    rw[Addr.add_lit];rw[List.getElem?_drop]at C;have E0:i*4+j<X.length:=(List.getElem?_eq_some_iff.1 C).1;have Z:=(K _ E0).trans C;show W.cell? _=_
    simp only[World.cell?,F];simpa using Z) (by rw[o,s];omega) (fun v hv=>h1 v (List.mem_of_mem_drop hv))
 obtain⟨a,d⟩: ∃a,a=W.drew.setRow g (splice cur ((i+1)*4) (X.drop (i*4))).toArray:=⟨_,rfl⟩
 rw[←d]at u;have A:a.heap[g]?=some (.cells (splice cur ((i+1)*4) (X.drop (i*4))).toArray 59 (0,0)):=by rw[d];exact setRow_heap W.drew g _ _ _ _ F
 have B:W.grownBy a (some g):=by rw[d];exact Nb.trans (Nb.below g ((Below.refl W.heap.size W).drew)) (vH W.drew g _)
 have R:(splice cur ((i+1)*4) (X.drop (i*4))).length=cap*4:=by rw[length_splice _ _ _ (by rw[o,s];omega),s]
 have I:Cs a c (newC na):=H.nb B S
 have x: ∀E z,(Builtin.copy_ #[22,22] E #[.slice (some ⟨g,i*4,none⟩) (n+1-i) z,.slice (some ⟨c,0,none⟩) 1 1]).run prog a= .ok (goInt (Nat.min 1 (n+1-i):Nat)) (a.setRow g (splice (splice cur ((i+1)*4) (X.drop (i*4))) (i*4) (newC na)).toArray):=fun E z=>
  nX a _ _ E 59 4 g (i*4) (n+1-i) z ⟨c,0,none⟩ 1 1 _ 59 (newC na) underlying22 Tryz.sizeSh A (by rw[(fy na).1];simp only[Nat.min_def];split<;>omega)
   (fun j v C=>by rw[Addr.add_lit,Nat.zero_add];exact I.cell j C) (by rw[R,(fy na).1];omega) (fy na).2
 obtain⟨T,f⟩: ∃T,T=a.setRow g (splice (splice cur ((i+1)*4) (X.drop (i*4))) (i*4) (newC na)).toArray:=⟨_,rfl⟩
 rw[←f]at x;have G:T.heap[g]?=some (.cells (splice (splice cur (i*4+4) (X.drop (i*4))) (i*4) (newC na)).toArray 59 (0,0)):=by rw[←e4,f];exact setRow_heap a g _ _ _ _ A
 have O:W.grownBy T (some g):=by rw[f];exact ar B (vH a g _)
 have V:=hid G;have U:=hid O;clear o K e4 A B R I G O d f hc hX h1 H F HG P Q M N s;go_enter func102,ntmps102
 go_wp2_with (simp only[E1])
 go_region_law (refine vE rfl (.tmp 73) (.tmp 76) 22 22 rfl (.slice (some ⟨g,(i+1)*4,none⟩) (n+1-(i+1)) (cap-(i+1))) (.slice (some ⟨g,i*4,none⟩) (n+1-i) (cap-i)) (by simp[Act.eval,Act.put]) (by simp[Act.eval,Act.put]) (u _ _ _) ?_)
 go_wp2_with (at_builtin;refine vD rfl _ _ 22 22 rfl (.slice (some ⟨g,i*4,none⟩) (n+1-i) (cap-i)) (.slice (some ⟨c,0,none⟩) 1 1) (by simp[Act.eval,Act.put]) (by simp[Act.eval,Act.put]) (x _ _) ?_)
 go_ret;exact⟨rfl,V.out,U.out⟩
theorem CX (g n i O:Nat) (X:List Value) (na:ByteArray) (W:World) (hi:i<n) (h8:n≤8) (M: ∀j v,X[j]?=some v→W.cell? ⟨g,j,none⟩=some v) (E5:g<W.heap.size) (hX:X.length=n*4) (h1: ∀v∈X,v.oneCell'=true) (hN:Cs W O (newC na)):
    Calls prog 102 #[.slice (some ⟨g,0,none⟩) n n,i,.slice (some ⟨O,0,none⟩) 1 1] W fun e w'=> ∃(G:Nat) (cur:List Value),e= .returned (.slice (some ⟨W.heap.size,0,none⟩) (n+1) G)∧n+1≤G∧G≤maxLen∧cur.length=G*4∧cur.take (X.length+4)=X.take (i*4)++(newC na++X.drop (i*4))∧w'.heap[W.heap.size]?=some (.cells cur.toArray 59 (0,0))∧Below W.heap.size W w':=by
 obtain⟨i0,T,V,Y,N⟩:=info_parts Tryz.infoRF
 have E:(Builtin.firstCells i0.size i (.slice (some ⟨g,0,none⟩) i n)).run prog W.drew= .ok (X.take (i*4)).toArray W.drew:=by
  rw[Y]
  exact run_firstCells_some W.drew 4 i ⟨g,0,none⟩ i n (X.take (i*4)) (by rw[List.length_take,hX];omega) (fun j v z=>by
   rw[Addr.add_lit,Nat.zero_add];rw[List.getElem?_take]at z;split at z
   · exact M j v z
   · cases z)
 obtain⟨G,hG⟩: ∃G,G=grownCap W (n+1) n 59:=⟨_,rfl⟩
 have E4:n+1≤G:=by rw[hG];exact grownCap_ge W _ _ _
 have Q:G≤maxLen:=by rw[hG];exact grownCap_le_maxLen W (n+1) n 59 (by unfold maxLen;omega)
 obtain⟨R,hR⟩: ∃R:List Value,R.toArray=(X.take (i*4)).toArray++Builtin.zeroCells (Value.agg #[.string ⟨#[]⟩,al,ah,al]).cells (n+1-i)++Builtin.zeroCells (Value.agg #[.string ⟨#[]⟩,al,ah,al]).cells (G-(n+1)):=⟨_,Array.toArray_toList⟩
 have a:R.length=G*4∧R.take (i*4)=X.take (i*4):=by
  have e:R=X.take (i*4)++((Builtin.zeroCells (Value.agg #[.string ⟨#[]⟩,al,ah,al]).cells (n+1-i)).toList++(Builtin.zeroCells (Value.agg #[.string ⟨#[]⟩,al,ah,al]).cells (G-(n+1))).toList):=by
   have:=congrArg Array.toList hR
   simpa using this
  have l0:(X.take (i*4)).length=i*4:=mH (by omega);refine⟨?_,by rw[e,jT (by omega),l0,Nat.sub_self,List.take_zero,List.append_nil]⟩
  rw[e];simp[Builtin.zeroCells,Value.cells,l0]
  omega
 obtain⟨c,o⟩: ∃c,c=W.drew.alloc (.cells R.toArray 59):=⟨_,rfl⟩
 have U:(n:Int)+1-(i:Int)=((n+1-i:Nat):Int):=by omega
 have E6: ∀d,(Builtin.append_ #[22,3] d #[.slice (some ⟨g,0,none⟩) i n,((n:Int)+1-(i:Int):Int)]).run prog W= .ok (.slice (some ⟨W.heap.size,0,none⟩) (n+1) G) c:=fun d=>by
  have h:=Lib.run_append_grow_zeros W 22 3 d 59 i0 _ .i64 .i64 underlying22 underlying3 T V (some ⟨g,0,none⟩) i n (X.take (i*4)) E (n+1-i) (by omega) (by omega) (by omega) (by omega) (by rw[N];omega) (by rw[N,show i+(n+1-i)=n+1 by omega];exact growslice_fits (by omega) (by omega));rw[show i+(n+1-i)=n+1 by omega,←hG,←hR,←o]at h;rw[U];exact h
 have J:Below W.heap.size W c:=by rw[o];exact( aw.drew).alloc ax _
 have H:c.heap[W.heap.size]?=some (.cells R.toArray 59 (0,0)):=by rw[o];show(W.heap.push _)[W.heap.size]?=_;simp
 have S:Cs c O (newC na):=hN.below J;have ES:=hN.lt
 have B: ∀d F,(Builtin.copy_ #[22,22] d #[.slice (some ⟨W.heap.size,i*4,none⟩) (n+1-i) F,.slice (some ⟨O,0,none⟩) 1 1]).run prog c= .ok (goInt (Nat.min 1 (n+1-i):Nat)) (c.setRow W.heap.size (splice R (i*4) (newC na)).toArray):=fun d F=>
  nX c _ _ d 59 4 W.heap.size (i*4) (n+1-i) F ⟨O,0,none⟩ 1 1 R 59 (newC na) underlying22 Tryz.sizeSh H (by rw[(fy na).1];simp only[Nat.min_def];split<;>omega)
   (fun j v z=>by rw[Addr.add_lit,Nat.zero_add];exact S.cell j z) (by rw[a.1,(fy na).1];omega) (fy na).2
 obtain⟨f,s⟩: ∃f,f=c.setRow W.heap.size (splice R (i*4) (newC na)).toArray:=⟨_,rfl⟩
 rw[←s]at B;have I:f.heap[W.heap.size]?=some (.cells (splice R (i*4) (newC na)).toArray 59 (0,0)):=by rw[s];exact setRow_heap c _ _ _ _ _ H
 have K:Below W.heap.size W f:=by rw[s];exact below_setRow J ax _
 have A:(splice R (i*4) (newC na)).length=G*4:=by rw[length_splice _ _ _ (by rw[(fy na).1,a.1];omega),a.1]
 have x:(X.drop (i*4)).length=(n-i)*4:=by rw[List.length_drop,hX];omega
 have C: ∀d F sc,(Builtin.copy_ #[22,22] d #[.slice (some ⟨W.heap.size,(i+1)*4,none⟩) (n+1-(i+1)) F,.slice (some ⟨g,i*4,none⟩) (n-i) sc]).run prog f.drew= .ok (goInt (Nat.min (n-i) (n+1-(i+1)):Nat)) (f.drew.setRow W.heap.size (splice (splice R (i*4) (newC na)) ((i+1)*4) (X.drop (i*4))).toArray):=fun d F sc=>
  nX f.drew _ _ d 59 4 W.heap.size ((i+1)*4) (n+1-(i+1)) F ⟨g,i*4,none⟩ (n-i) sc _ 59 (X.drop (i*4)) underlying22 Tryz.sizeSh I (by rw[x];simp only[Nat.min_def];split<;>omega)
   (fun j v z=>by
    rw[Addr.add_lit];rw[List.getElem?_drop]at z;exact(K.cell (p:=⟨g,i*4+j,none⟩) E5).trans (M _ v z)) (by rw[x,A];omega) (fun v hv=>h1 v (List.mem_of_mem_drop hv))
 obtain⟨Z,u⟩: ∃Z,Z=f.drew.setRow W.heap.size (splice (splice R (i*4) (newC na)) ((i+1)*4) (X.drop (i*4))).toArray:=⟨_,rfl⟩
 rw[←u]at C;have E3:=hid (show Z.heap[W.heap.size]?=some (.cells (splice (splice R (i*4) (newC na)) (i*4+4) (X.drop (i*4))).toArray 59 (0,0))from by rw[show i*4+4=(i+1)*4 by omega,u];exact setRow_heap f.drew _ _ _ _ _ I);have E0:=hid (show Below W.heap.size W Z from by rw[u];exact below_setRow K.drew ax _);have P:=hid (show(splice (splice R (i*4) (newC na)) (i*4+4) (X.drop (i*4))).length=G*4∧(splice (splice R (i*4) (newC na)) (i*4+4) (X.drop (i*4))).take (X.length+4)=X.take (i*4)++(newC na++X.drop (i*4))from⟨by rw[length_splice _ _ _ (by rw[x,A];omega),A],Cr (fy na).1 (by rw[hX,a.1];omega) (by omega) a.2⟩);have E2:=hid E4;have E1:=hid Q;have EW: ¬((i:Int)=(n:Int)):=by omega
 have ET:IntKind.i64.wrap ((i:Int)+1)=(i:Int)+1:=by rw[IntKind.wrap_i64];omega
 have EU:IntKind.i64.wrap ((n:Int)+1)=(n:Int)+1:=by rw[IntKind.wrap_i64];omega
 have EV:IntKind.i64.wrap ((n:Int)+1-(i:Int))=(n:Int)+1-(i:Int):=by rw[IntKind.wrap_i64];omega
 have EJ:(0:Int)≤(i:Int)+1:=by omega
 have E9:(0:Int)≤(n:Int)+1:=by omega
 have E7:(0:Int)≤(i:Int):=by omega
 have E8:i≤n:=by omega
 have ER:((i:Int)+1).toNat=i+1:=by omega
 have EK: ¬(G=i+1):=by omega
 have EL: ¬(G=i):=by omega
 have EM:((n:Int)<(n:Int)+1):=by omega
 have EN:(i:Int)≤(n:Int):=by omega
 have EO:(i:Int)+1≤(n:Int)+1:=by omega
 have EP: ¬(n=i):=by omega
 have EQ:(i:Int)≤(n:Int)+1:=by omega
 unfold maxLen at Q;clear E hR a U J H S I K A x hG hX h1 M hN o s u T V Y N;go_enter func102,ntmps102
 go_wp2_with (first
  |(at_builtin;refine Cn rfl _ _ 22 3 rfl (.slice (some ⟨g,0,none⟩) i n) (.int .i64 ((n:Int)+1-(i:Int))) (by simp[Act.eval,Act.put]) (by simp[Act.eval,Act.put]) (E6 _) ?_)
  |(at_builtin;refine vD rfl _ _ 22 22 rfl (.slice (some ⟨W.heap.size,i*4,none⟩) (n+1-i) (G-i)) (.slice (some ⟨O,0,none⟩) 1 1) (by simp[Act.eval,Act.put]) (by simp[Act.eval,Act.put]) (B _ _) ?_))
 go_region_law (refine vE rfl (.tmp 50) (.tmp 53) 22 22 rfl (.slice (some ⟨W.heap.size,(i+1)*4,none⟩) (n+1-(i+1)) (G-(i+1))) (.slice (some ⟨g,i*4,none⟩) (n-i) (n-i)) (by simp[Act.eval,Act.put]) (by simp[Act.eval,Act.put]) (C _ _ _) ?_)
 go_wp2;go_ret;exact⟨G,_,rfl,E2.out,E1.out,P.out.1,P.out.2,E3.out,E0.out⟩
theorem CY (B:Nat) (v:Value) (L:List Sh) (i:Nat) (na:ByteArray) (h8:L.length≤8) (hi:i≤L.length):mB B v L i na:=by
 by_cases T:i=L.length
 · subst T;exact vy B v L na h8
 intro W vb hO hM hc hb;obtain⟨a,H,E,ho,hx⟩:=hO
 have s:=eQ H.1;have f: ∀r∈aS L a,r.length=4∧ ∀u∈r,u.oneCell'=true:=by obtain⟨_,_,_,_,_,h4,_⟩:=E;exact h4
 have J: ∀r∈aS L a,r.length=4:=fun r E=>(f r E).1
 have M:=uE E hM (ho.mono (Nat.zero_le B));obtain⟨hl,h2⟩:=M
 rcases h2 with⟨_,N⟩|⟨g,o,cur,rfl,_,S,V,hm,N,d⟩
 · rw[s]at N;omega
 have A: ∀u∈(aS L a).flatten,u.oneCell'=true:=fun u Z=>by
  obtain⟨r,E,Z⟩:=List.mem_flatten.1 Z
  exact(f r E).2 u Z
 have x: ∀r∈(aS L a).take i++newC na::(aS L a).drop i,r.length=4∧ ∀u∈r,u.oneCell'=true:=fun r E=>by
  rcases List.mem_append.1 E with h|h
  · exact f r (List.mem_of_mem_take h)
  · rcases List.mem_cons.1 h with rfl|h
    · exact fy na
    · exact f r (List.mem_of_mem_drop h)
 have z:((aS L a).take i++newC na::(aS L a).drop i).length=L.length+1:=by simp[s];omega
 have K:((aS L a).take i++newC na::(aS L a).drop i).flatten=(aS L a).flatten.take (i*4)++(newC na++(aS L a).flatten.drop (i*4)):=by
  rw[List.flatten_append,List.flatten_cons,vF J,vG J]
 have F:((aS L a).take i++newC na::(aS L a).drop i).flatten.length=(L.length+1)*4:=by rw[fs (n:=4) (fun r E=>(x r E).1),z]
 have c:(aS L a).flatten.length=L.length*4:=by rw[hl,s]
 have E1:g<vb:=hb g rfl;rw[s]at V hx⊢;rw[s]at d;by_cases I:L.length+1≤o
 · refine(CW g L.length o i vb cur.toList (aS L a).flatten na W (by omega) I hm (by simpa using S) (by simpa using N) c (by rw[c];exact d) A hc (by omega)).mono ?_
   rintro e w' ⟨rfl,P,hG⟩;refine⟨_,rfl,?_,hG⟩
   have X:(splice (splice cur.toList (i*4+4) ((aS L a).flatten.drop (i*4))) (i*4) (newC na)).length=o*4:=by
    have hd:((aS L a).flatten.drop (i*4)).length=(L.length-i)*4:=by rw[List.length_drop,c];omega
    rw[length_splice _ _ _ (by rw[length_splice _ _ _ (by rw[hd];simp;omega),(fy na).1];simp;omega),length_splice _ _ _ (by rw[hd];simp;omega)];simpa using N
   have C:w'.ownsRow 0 59 4 (.slice (some ⟨g,0,none⟩) (L.length+1) o) ((aS L a).take i++newC na::(aS L a).drop i).length ((aS L a).take i++newC na::(aS L a).drop i).flatten:=by
    rw[z];refine⟨F,Or.inr ⟨g,o,_,rfl,Nat.zero_le _,P,by omega,hm,by simpa using X,?_⟩⟩
    rw[K,←Cq (cur:=cur.toList) (fy na).1 (by rw[c];simp;omega) (by rw[c];omega) (by rw[c];exact d),c];simp[Nat.add_mul]
   exact mC (nU H hx hG) (by omega) (fJ C (by rw[z];omega) x)
 · obtain rfl:o=L.length:=by omega
   have R: ∀j u,(aS L a).flatten[j]?=some u→W.cell? ⟨g,j,none⟩=some u:=fun j u H=>by
    have U:j<L.length*4:=by rw[←c];exact(List.getElem?_eq_some_iff.1 H).1
    simp only[World.cell?,S];rw[←d,List.getElem?_take,if_pos U]at H;simpa using H
   refine(CX g L.length i vb (aS L a).flatten na W (by omega) h8 R (fG S) c A hc).mono ?_
   rintro e w' ⟨G,c2,rfl,E0,O,Q,Y,P,hB⟩;have hG:W.grownBy w' (some g):=Nb.below g hB;refine⟨_,rfl,?_,hG⟩
   have C:w'.ownsRow 0 59 4 (.slice (some ⟨W.heap.size,0,none⟩) (L.length+1) G) ((aS L a).take i++newC na::(aS L a).drop i).length ((aS L a).take i++newC na::(aS L a).drop i).flatten:=by
    rw[z];refine⟨F,Or.inr ⟨W.heap.size,G,_,rfl,Nat.zero_le _,P,by omega,O,by simpa using Q,?_⟩⟩
    rw[K,←Y,c];simp[Nat.add_mul]
   exact mC (nU H hx hG) (by omega) (fJ C (by rw[z];omega) x)
theorem CZ {G:List Se} {x l r now:Int} {p:ByteArray}:(¬bB G x l r now=0∧bl G x l r now [p]=bB G x l r now)∨(bB G x l r now=0∧aA p.data.toList=false∧bl G x l r now [p]=1)∨(bB G x l r now=0∧aA p.data.toList=true∧bl G x l r now [p]=0):=by
 by_cases a:be G x l r=0
 · cases c:a9 0 now 1099511627776 with
   |false=>
    left
    rw[bB,bl,if_pos a,if_pos a,c];simp
   |true=>
    right
    have d:bB G x l r now=0:=by rw[bB,if_pos a,c,if_pos rfl]
    have f:bl G x l r now [p]=aU [p]:=by rw[bl,if_pos a,c,if_pos rfl]
    cases g:aA p.data.toList with
    |false=>left;exact⟨d,rfl,by rw[f,l6 g];rfl⟩
    |true=>right;exact⟨d,rfl,by rw[f,l6 g];rfl⟩
 · left
   rw[bB,bl,if_neg a,if_neg a];exact⟨a,rfl⟩
theorem vV (G:List Se) (v:Value) (x l r:Int) (p:ByteArray) (size now:Int) (w:World) (o:aK w v G) (j:bq G) (i:p.size≤150000000000000):
    Calls prog 23 #[.agg #[v,x,l,r],p,size,now] w fun e w'=>(¬dr G x l r p size now=0∧e= .returned (.tuple #[.agg  aJ ,ah,dr G x l r p size now])∧Below w.heap.size w w')∨
     (dr G x l r p size now=0∧ ∃u,e= .returned (.tuple #[.agg #[u,(x+1:Int),l,r],x,ah])∧bR w.heap.size w' u (aq now G++[dA x p size (now+l)])∧Below w.heap.size w w'):=by
 rcases CZ (G:=G) (x:=x) (l:=l) (r:=r) (now:=now) (p:=p)with⟨a,s⟩|⟨a,g,s⟩|⟨a,g,s⟩
 · have hE:dr G x l r p size now=bB G x l r now:=by rw[dr,s,if_pos a]
   rw[hE];exact(B9 G v x l r p size now w o j i a).mono fun e w' h=>Or.inl ⟨a,h⟩
 · have hE:dr G x l r p size now=1:=by rw[dr,s,if_pos (by decide)]
   rw[hE];exact(Ca G v x l r p size now w o j i a g).mono fun e w' h=>Or.inl ⟨by decide,h⟩
 · rcases qp G x l r p size now with⟨d,hE⟩|⟨d,c,hE⟩|⟨d,c,f,hE⟩|⟨d,c,f,A,hE⟩|⟨d,c,f,A,B,hE⟩|⟨d,c,f,A,B,C,hE⟩|⟨d,c,f,A,B,C,hE⟩
   · exact absurd s d
   · rw[hE];exact(Cb G v x l r p size now w o j i a g c).mono fun e w' h=>Or.inl ⟨by decide,h⟩
   · rw[hE];exact(Cc G v x l r p size now w o j i a g c f).mono fun e w' h=>Or.inl ⟨by decide,h⟩
   · have E:x=1099511627776:=by
      have:=(cQ (bu (dz d).1).1).2.2.2.2
      omega
     rw[hE];exact(Cd G v x l r p size now w o j i a g c f (by simp[E])).mono fun e w' h=>Or.inl ⟨by decide,h⟩
   · have z:(aq now G).length=20:=by
      have F:=(cQ (bu (dz d).1).1).1;have H:=de now G;omega
     rw[hE];exact(CB G v x l r p size now w o j i a g c f (by omega) z).mono fun e w' h=>Or.inl ⟨by decide,h⟩
   · rw[hE];exact(CT G v x l r p size now w o j i a g c f (by omega) (by omega) C).mono fun e w' h=>Or.inl ⟨by decide,h⟩
   · rw[hE];exact(CU G v x l r p size now w o j i a g c f (by omega) (by omega) (by omega)).mono fun e w' h=>Or.inr ⟨rfl,h⟩
theorem vW (A:An) (v u:Value) (w:World) (S:bX w v A) (R:bX w u A):
    Calls prog 8 #[v,u] w fun e w'=>e= .returned (.bool true)∧Below w.heap.size w w':=by
 obtain⟨X,V,rfl,lt,P⟩:=S
 obtain⟨U,T,rfl,mt,Q⟩:=R
 have N:=hid lt;have M:=hid P;have K:=hid mt;have J:=hid Q;obtain⟨z,b1,rfl,_⟩:=lt
 obtain⟨B,b2,rfl,_⟩:=P
 obtain⟨G,b3,rfl,_⟩:=mt
 obtain⟨H,I,rfl,_⟩:=Q
 obtain⟨i,f⟩: ∃i,i=w.alloc (.cells #[A.err,A.num,A.pg.reset,.slice z A.pg.tree.length b1,.slice B A.pg.cos.length b2,A.pg.cur,A.pg.more] 38):=⟨_,rfl⟩
 obtain⟨j,g⟩: ∃j,j=i.alloc (.cells #[A.err,A.num,A.pg.reset,.slice G A.pg.tree.length b3,.slice H A.pg.cos.length I,A.pg.cur,A.pg.more] 38):=⟨_,rfl⟩
 have F:i.heap.size=w.heap.size+1:=by rw[f];simp
 have C:Below w.heap.size w i:=by rw[f];exact ak
 have s:Below i.heap.size i j:=by rw[g];exact ak
 have d:Below w.heap.size w j:=an C s;have a:Hid (Cs j w.heap.size [A.err,A.num,A.pg.reset,.slice z A.pg.tree.length b1,.slice B A.pg.cos.length b2,A.pg.cur,A.pg.more]):=((by rw[f];exact Cs.new w [A.err,A.num,A.pg.reset,.slice z A.pg.tree.length b1,.slice B A.pg.cos.length b2,A.pg.cur,A.pg.more] _:Cs i w.heap.size [A.err,A.num,A.pg.reset,.slice z A.pg.tree.length b1,.slice B A.pg.cos.length b2,A.pg.cur,A.pg.more]).below s:Cs j w.heap.size _)
 have c:Hid (Cs j (w.heap.size+1) [A.err,A.num,A.pg.reset,.slice G A.pg.tree.length b3,.slice H A.pg.cos.length I,A.pg.cur,A.pg.more]):=(by rw[←F,g];exact Cs.new i [A.err,A.num,A.pg.reset,.slice G A.pg.tree.length b3,.slice H A.pg.cos.length I,A.pg.cur,A.pg.more] _:Cs j (w.heap.size+1) _)
 have o:(w.alloc (.cells #[A.err,A.num,A.pg.reset,.slice z A.pg.tree.length b1,.slice B A.pg.cos.length b2,A.pg.cur,A.pg.more] 38)).alloc (.cells #[A.err,A.num,A.pg.reset,.slice G A.pg.tree.length b3,.slice H A.pg.cos.length I,A.pg.cur,A.pg.more] 38)=j:=by rw[g,f]
 have x:=hid o;clear f g C s F o;have Z:=a.out.cell 0 rfl;have x1:=a.out.cell 1 rfl;have x2:=a.out.cell 2 rfl;have x3:=a.out.cell 3 rfl;have x4:=a.out.cell 4 rfl;have x5:=a.out.cell 5 rfl;have x6:=a.out.cell 6 rfl;have y0:=c.out.cell 0 rfl;have y1:=c.out.cell 1 rfl;have y2:=c.out.cell 2 rfl;have y3:=c.out.cell 3 rfl;have y4:=c.out.cell 4 rfl;have y5:=c.out.cell 5 rfl;have y6:=c.out.cell 6 rfl;go_enter func8,ntmps8
 go_upto_region 1 with fail;rw[x.out];clear x;go_wp2_with fail;refine(BF A.pg _ _ _ ⟨_,_,rfl,N.out.below d,M.out.below d⟩ ⟨_,_,rfl,K.out.below d,J.out.below d⟩).mono ?_
 rintro e Y ⟨rfl,O⟩;have E:=an d O;go_wp2;go_ret;exact⟨rfl,E⟩
theorem vX (H:Hb) (v u:Value) (w:World) (hv:aX w v H) (hu:aX w u H):
    Calls prog 9 #[v,u] w fun e w'=>e= .returned (.bool true)∧Below w.heap.size w w':=by
 obtain⟨fos,gs,ss,nx,la,ro,now⟩:=H
 obtain⟨vf,vg,vs,rfl,lf,lg,ls⟩:=hv
 obtain⟨uf,ug,us,rfl,mf,mg,ms⟩:=hu
 simp only at*;have EM:=hid lg;have EN:=hid ls;have EK:=hid mg;have EL:=hid ms;obtain⟨Q,R,rfl,EX,_,hL⟩:=lf
 have HL:Hid (∀i (h:i<fos.length),∃b o,Q=some ⟨b,o,none⟩∧b<w.heap.size∧gQ w b (o+i*4) fos[i]):=hL;obtain⟨ea,ec,rfl,ET,_,E2⟩:=mf
 have EJ:Hid (∀i (h:i<fos.length),∃b o,ea=some ⟨b,o,none⟩∧b<w.heap.size∧gQ w b (o+i*4) fos[i]):=E2;obtain⟨ga,gc,rfl,_⟩:=lg
 obtain⟨sa,sc,rfl,_⟩:=ls
 obtain⟨ka,kc,rfl,_⟩:=mg
 obtain⟨ya,yc,rfl,_⟩:=ms
 clear hL E2;obtain⟨C,B⟩: ∃C,C=w.alloc (.cells #[.slice Q fos.length R,.slice ga gs.length gc,.slice sa ss.length sc,nx,la,ro,now] 28):=⟨_,rfl⟩
 obtain⟨J,G⟩: ∃J,J=C.alloc (.cells #[.slice ea fos.length ec,.slice ka gs.length kc,.slice ya ss.length yc,nx,la,ro,now] 28):=⟨_,rfl⟩
 have E5:C.heap.size=w.heap.size+1:=by rw[B];simp
 have E1:Below w.heap.size w C:=by rw[B];exact ak
 have P:Below C.heap.size C J:=by rw[G];exact ak
 have U:Below w.heap.size w J:=an E1 P;have f:Hid (Cs J w.heap.size [.slice Q fos.length R,.slice ga gs.length gc,.slice sa ss.length sc,nx,la,ro,now]):=((by rw[B];exact Cs.new w [.slice Q fos.length R,.slice ga gs.length gc,.slice sa ss.length sc,nx,la,ro,now] _:Cs C w.heap.size [.slice Q fos.length R,.slice ga gs.length gc,.slice sa ss.length sc,nx,la,ro,now]).below P:Cs J w.heap.size _)
 have g:Hid (Cs J (w.heap.size+1) [.slice ea fos.length ec,.slice ka gs.length kc,.slice ya ss.length yc,nx,la,ro,now]):=(by rw[←E5,G];exact Cs.new C [.slice ea fos.length ec,.slice ka gs.length kc,.slice ya ss.length yc,nx,la,ro,now] _:Cs J (w.heap.size+1) _)
 have M:(w.alloc (.cells #[.slice Q fos.length R,.slice ga gs.length gc,.slice sa ss.length sc,nx,la,ro,now] 28)).alloc (.cells #[.slice ea fos.length ec,.slice ka gs.length kc,.slice ya ss.length yc,nx,la,ro,now] 28)=J:=by rw[G,B]
 have E0:=hid M;clear B G E1 P E5 M;have x0:=f.out.cell 0 rfl;have x1:=f.out.cell 1 rfl;have x2:=f.out.cell 2 rfl;have x3:=f.out.cell 3 rfl;have x4:=f.out.cell 4 rfl;have x5:=f.out.cell 5 rfl;have x6:=f.out.cell 6 rfl;have y0:=g.out.cell 0 rfl;have y1:=g.out.cell 1 rfl;have y2:=g.out.cell 2 rfl;have y3:=g.out.cell 3 rfl;have y4:=g.out.cell 4 rfl;have y5:=g.out.cell 5 rfl;have y6:=g.out.cell 6 rfl;go_enter func9,ntmps9
 go_upto_region 1 with fail;rw[E0.out];clear E0;go_wp2_with fail;refine(B0 gs _ _ _ (EM.out.below U) (EK.out.below U)).mono ?_
 rintro e w1 ⟨rfl,S⟩;have A:=an U S;have j:=hid (f.out.below S);have s:=hid (g.out.below S);clear x0 x1 x2 x3 x4 x5 x6 y0 y1 y2 y3 y4 y5 y6;have x0:=j.out.cell 0 rfl;have x1:=j.out.cell 1 rfl;have x2:=j.out.cell 2 rfl;have x3:=j.out.cell 3 rfl;have x4:=j.out.cell 4 rfl;have x5:=j.out.cell 5 rfl;have x6:=j.out.cell 6 rfl;have y0:=s.out.cell 0 rfl;have y1:=s.out.cell 1 rfl;have y2:=s.out.cell 2 rfl;have y3:=s.out.cell 3 rfl;have y4:=s.out.cell 4 rfl;have y5:=s.out.cell 5 rfl;have y6:=s.out.cell 6 rfl;go_wp2_with fail;refine(A9 ss _ _ nx la ro _ (EN.out.below A) (EL.out.below A)).mono ?_
 rintro e w2 ⟨rfl,T⟩;have K:=an A T;have c:=hid (j.out.below T);have d:=hid (s.out.below T);clear x0 x1 x2 x3 x4 x5 x6 y0 y1 y2 y3 y4 y5 y6;have x0:=c.out.cell 0 rfl;have x1:=c.out.cell 1 rfl;have x2:=c.out.cell 2 rfl;have x3:=c.out.cell 3 rfl;have x4:=c.out.cell 4 rfl;have x5:=c.out.cell 5 rfl;have x6:=c.out.cell 6 rfl;have y0:=d.out.cell 0 rfl;have y1:=d.out.cell 1 rfl;have y2:=d.out.cell 2 rfl;have y3:=d.out.cell 3 rfl;have y4:=d.out.cell 4 rfl;have y5:=d.out.cell 5 rfl;have y6:=d.out.cell 6 rfl;go_wp2;go_loopw [5] (fun i wr=> ∃k:Nat,k≤fos.length∧i= .int .i64 k∧Hid (Cs wr w.heap.size [.slice Q fos.length R,.slice ga gs.length gc,.slice sa ss.length sc,nx,la,ro,now])∧Hid (Cs wr (w.heap.size+1) [.slice ea fos.length ec,.slice ka gs.length kc,.slice ya ss.length yc,nx,la,ro,now])∧Below w.heap.size w wr) (fun i _=>fos.length-(intOf i).toNat)
 case atStart=>exact⟨0,Nat.zero_le _,rfl,c,d,K⟩
 case round=>
  clear x0 x1 x2 x3 x4 x5 x6 y0 y1 y2 y3 y4 y5 y6 c d K;obtain⟨k,hk,rfl,N,O,x⟩:=hrel
  have x0:=N.out.cell 0 rfl;have y0:=O.out.cell 0 rfl;have EV:=N.out.lt;have EW:=O.out.lt;by_cases E4:k<fos.length
  · obtain⟨b,o,rfl,hb,he⟩:=HL.out k E4
    obtain⟨E,I,rfl,EQ,E3⟩:=EJ.out k E4
    obtain⟨c0,cu,cx,c1,c2,c3,V,X⟩:=he.below hb x
    obtain⟨d0,du,dx,d1,d2,d3,Y,Z⟩:=E3.below EQ x
    have EY:=x.size;have F:b<wr.heap.size:=by omega
    have z:E<wr.heap.size:=by omega
    have EU:(k:Int)<fos.length:=by omega
    clear he E3;generalize fos[k]=ck at*;obtain⟨na,⟨jb,jf,jc⟩⟩:=ck
    simp only at c0 c1 c2 c3 V X d0 d1 d2 d3 Y Z;have E6:=hid V;have E7:=hid X;have E8:=hid Y;have E9:=hid Z;obtain⟨a1,b1,rfl,_⟩:=V
    obtain⟨a2,b2,rfl,_⟩:=X
    obtain⟨a3,b3,rfl,_⟩:=Y
    obtain⟨a4,b4,rfl,_⟩:=Z
    go_wp2_with fail
    go_region_held3 (fun W=>W.cell? ⟨w.heap.size,0,none⟩=some (.slice (some ⟨b,o,none⟩) fos.length R)∧W.cell? ⟨w.heap.size+1,0,none⟩=some (.slice (some ⟨E,I,none⟩) fos.length ec)∧W.cell? ⟨b,o+k*4,none⟩=some (.string na)∧W.cell? ⟨b,o+k*4+1,none⟩=some (.slice a1 jb.length b1)∧W.cell? ⟨b,o+k*4+2,none⟩=some (.int .i64 jf)∧W.cell? ⟨b,o+k*4+3,none⟩=some (.slice a2 jc.length b2)∧W.cell? ⟨E,I+k*4,none⟩=some (.string na)∧W.cell? ⟨E,I+k*4+1,none⟩=some (.slice a3 jb.length b3)∧W.cell? ⟨E,I+k*4+2,none⟩=some (.int .i64 jf)∧W.cell? ⟨E,I+k*4+3,none⟩=some (.slice a4 jc.length b4)) (go_keep) (first
     |(go_at_call 34;refine(BE ⟨jb,jf,jc⟩ _ _ _ ⟨_,_,rfl,E6.out.below aw.drew,E7.out.below aw.drew⟩ ⟨_,_,rfl,E8.out.below aw.drew,E9.out.below aw.drew⟩).mono ?_;rintro e C ⟨rfl,ES⟩;have a:Below wr.heap.size wr C:=( aw.drew).trans ES;have j0:=(a.cell (p:=⟨w.heap.size,0,none⟩) EV).trans x0;have j1:=(a.cell (p:=⟨w.heap.size+1,0,none⟩) EW).trans y0;have k0:=(a.cell (p:=⟨b,o+k*4,none⟩) F).trans c0;have k1:=(a.cell (p:=⟨b,o+k*4+1,none⟩) F).trans c1;have k2:=(a.cell (p:=⟨b,o+k*4+2,none⟩) F).trans c2;have k3:=(a.cell (p:=⟨b,o+k*4+3,none⟩) F).trans c3;have l0:=(a.cell (p:=⟨E,I+k*4,none⟩) z).trans d0;have l1:=(a.cell (p:=⟨E,I+k*4+1,none⟩) z).trans d1;have l2:=(a.cell (p:=⟨E,I+k*4+2,none⟩) z).trans d2;have l3:=(a.cell (p:=⟨E,I+k*4+3,none⟩) z).trans d3))
    have ER:=an x a;have EO:=hid (N.out.below a);have EP:=hid (O.out.below a);go_wp2;go_roundw
    case rel=>exact⟨k+1,by omega,by simp,EO,EP,ER⟩
    case measure=>simp[intOf];omega
  · have EU: ¬(k:Int)<fos.length:=by omega
    go_wp2;go_ret;exact⟨rfl,x⟩
theorem re (L:List Sh) (x:ByteArray):cl L x=true↔ ∃s∈L,s.na.data.toList=x.data.toList:=by
 rw[cl,List.any_eq_true];constructor
 · rintro ⟨s,a,h⟩
   exact⟨s,a,i9 _ _ (of_decide_eq_true h)⟩
 · rintro ⟨s,a,h⟩
   refine⟨s,a,decide_eq_true ?_⟩
   rw[cH,h];exact lI _
theorem vY {L:List Sh} (o:dQ L=true):L.Pairwise (fun a b=>a.na.data.toList≠b.na.data.toList):=by
 rw[List.pairwise_iff_getElem];intro i j s g f c;obtain⟨d,rfl⟩: ∃d,j=i+d+1:=⟨j-i-1,by omega⟩
 have h:=mw o d i g;rw[c,lI]at h;omega
theorem C3 {L:List Sh} {x:List UInt8} (h: ∀s∈L,s.na.data.toList≠x):L.filter (fun s=>s.na.data.toList==x)=[]:=by
 rw[List.filter_eq_nil_iff];intro s c a;exact h s c (by simpa using a)
theorem vZ: ∀{L:List Sh} {x:List UInt8},L.Pairwise (fun a b=>a.na.data.toList≠b.na.data.toList)→(∃s∈L,s.na.data.toList=x)→(L.filter (fun s=>s.na.data.toList==x)).length=1
 |[],x,_,h=>by obtain⟨s,g,_⟩:=h;cases g
 |s::r,x,hp,h=>by
  rw[List.pairwise_cons]at hp;by_cases e:s.na.data.toList=x
  · rw[List.filter_cons_of_pos (by simpa using e),C3 (fun t c f=>hp.1 t c (by rw[e,f]))]
    rfl
  · rw[List.filter_cons_of_neg (by simpa using e)]
    refine vZ hp.2 ?_
    obtain⟨t,c,d⟩:=h
    rcases List.mem_cons.1 c with rfl|c
    · exact absurd d e
    · exact⟨t,c,d⟩
theorem v7 {a:Type} (p q:a→Bool): ∀(L:List a),(∀s∈L,q s=true→p s=false)→(L.filter (fun s=>p s||q s)).length=(L.filter p).length+(L.filter q).length
 |[],_=>rfl
 |s::r,h=>by
  have ih:=v7 p q r (fun t f=>h t (List.mem_cons_of_mem _ f));cases d:q s with
  |true=>
   have c:=h s (List.mem_cons_self ..) d;rw[List.filter_cons_of_pos (by simp[d]),List.filter_cons_of_neg (by simp[c]),List.filter_cons_of_pos d,List.length_cons,List.length_cons,ih];omega
  |false=>
   cases c:p s with
   |true=>rw[List.filter_cons_of_pos (by simp[c]),List.filter_cons_of_pos c,List.filter_cons_of_neg (by simp[d]),List.length_cons,List.length_cons,ih];omega
   |false=>rw[List.filter_cons_of_neg (by simp[c,d]),List.filter_cons_of_neg (by simp[c]),List.filter_cons_of_neg (by simp[d]),ih]
theorem C4 (G:List Gr) (g:Gr) (x:ByteArray):bJ (G++[g]) x=(bJ G x||(x.data.toList==g.fo.data.toList)):=by
 rw[iw,iw,List.any_append];simp only[List.any_cons,List.any_nil,Bool.or_false];congr 1
 exact Bool.eq_iff_iff.2 ⟨fun h=>by rw[beq_iff_eq]at h⊢;exact h.symm,fun h=>by rw[beq_iff_eq]at h⊢;exact h.symm⟩
theorem v8 {L:List Sh} (i:dQ L=true): ∀G:List Gr,(∀g∈G,cl L g.fo=true)→Maps.size (Jn.D (Hu.told L G))=(L.filter (fun s=>bJ G s.na)).length:=by
 intro G;refine lS (P:=fun G=>(∀g∈G,cl L g.fo=true)→Maps.size (Jn.D (Hu.told L G))=(L.filter (fun s=>bJ G s.na)).length) ?_ ?_ G
 · intro _
   have:L.filter (fun s=>bJ [] s.na)=[]:=List.filter_eq_nil_iff.2 (fun s _ h=>by rw[iw]at h;cases h)
   rw[this];rfl
 · intro G g ih ha
   have ih:=ih (fun x j=>ha x (List.mem_append_left _ j));have e:Hu.told L (G++[g])=Hu.told L G++[⟨cj L g.fo,g.fo,[]⟩]:=by unfold Hu.told;simp
   rw[e,kY,Maps.size_put (lR _),kZ];have f:(fun s:Sh=>bJ (G++[g]) s.na)=(fun s:Sh=>bJ G s.na||(s.na.data.toList==g.fo.data.toList)):=funext fun s=>C4 G g s.na
   rw[f,ve];have a: ∀s:Sh,s.na.data.toList=g.fo.data.toList→bJ G s.na=bJ G g.fo:=fun s c=>by rw[iw,iw,c]
   cases d:bJ G g.fo with
   |true=>
    rw[if_pos rfl,ih]
    have:(fun s:Sh=>bJ G s.na||(s.na.data.toList==g.fo.data.toList))=(fun s:Sh=>bJ G s.na):=funext fun s=>by
     by_cases c:s.na.data.toList=g.fo.data.toList
     · rw[a s c,d];rfl
     · rw[show(s.na.data.toList==g.fo.data.toList)=false from by simpa using c,Bool.or_false]
    rw[this]
   |false=>
    rw[if_neg (by simp),ih,v7 (fun s:Sh=>bJ G s.na) (fun s:Sh=>s.na.data.toList==g.fo.data.toList) L (fun s _ c=>by rw[a s (by simpa using c)];exact d),vZ (vY i) ((re L g.fo).1 (ha g (by simp)))]
theorem C5 {L:List Sh} {G:List Gr} (c:dQ L=true) (a: ∀g∈G,cl L g.fo=true) (h: ∀s∈L,bJ G s.na=true):dj L G=0:=by
 rw[dj,if_pos (List.all_eq_true.2 a),v8 c G a,List.filter_eq_self.2 h,if_neg (Nat.lt_irrefl _)]
theorem C6 {L:List Sh} {G:List Gr} (f:dQ L=true) (d: ∀g∈G,cl L g.fo=true) {s:Sh} (i:s∈L) (h:bJ G s.na=false):dj L G=5:=by
 have c:(L.filter (fun s=>bJ G s.na)).length<L.length:=by
  rcases Nat.lt_or_ge (L.filter (fun s=>bJ G s.na)).length L.length with a|a
  · exact a
  · have e:L.filter (fun s=>bJ G s.na)=L:=(List.filter_sublist).eq_of_length_le a
    have:=List.filter_eq_self.1 e s i
    rw[h]at this;cases this
 rw[dj,if_pos (List.all_eq_true.2 d),v8 f G d,if_pos c]
def dO (L:List Sh) (x:ByteArray):Int:=match L.findIdx? (fun s=>s.na.toList==x.toList)with
 |some i=>i
 |none=> -1
theorem wj {L:List Sh} {x:ByteArray} {k:Nat} (c:k<L.length) (h: ∀m (h:m<L.length),m<k→(L[m].na.toList==x.toList)=false) (a:(L[k].na.toList==x.toList)=true):dO L x=k:=by
 have:L.findIdx? (fun s=>s.na.toList==x.toList)=some k:=List.findIdx?_eq_some_iff_getElem.2 ⟨c,a,fun m d=>by rw[h m (by omega) d];decide⟩
 rw[dO,this]
theorem C7 {L:List Sh} {x:ByteArray} (h: ∀m (h:m<L.length),(L[m].na.toList==x.toList)=false):dO L x= -1:=by
 have:L.findIdx? (fun s=>s.na.toList==x.toList)=none:=List.findIdx?_eq_none_iff.2 fun s c=>by
  obtain⟨m,a,rfl⟩:=List.getElem_of_mem c
  exact h m a
 rw[dO,this]
theorem C8 (L:List Sh) (x:ByteArray):dO L x<0↔cl L x=false:=by
 rw[dO];cases h:L.findIdx? (fun s=>s.na.toList==x.toList)with
 |some i=>
  obtain⟨f,a,_⟩:=List.findIdx?_eq_some_iff_getElem.1 h
  have:cl L x=true:=(re L x).2 ⟨L[i],List.getElem_mem f,by rw[Lib.toList_data,Lib.toList_data]at a;simpa using a⟩
  rw[this];simp
 |none=>
  have:cl L x=false:=by
   cases c:cl L x with
   |false=>rfl
   |true=>
    obtain⟨s,g,d⟩:=(re L x).1 c
    have:=List.findIdx?_eq_none_iff.1 h s g
    rw[Lib.toList_data,Lib.toList_data,d]at this;simp at this
  rw[this];simp
theorem C9 {H:Hb} (h:ae H=0) {x:ByteArray} (j:bJ H.gs x=true):dO H.fos x=aV H.fos H.gs x:=by
 obtain⟨f,d⟩:=lu h j
 refine wj f (fun m i c=>?_) (by rw[Lib.toList_data,Lib.toList_data,d];simp)
 obtain⟨_,g,_⟩:=ff h
 have a:=List.pairwise_iff_getElem.1 (vY (iv g).2.2) m _ i f c;rw[d]at a;rw[Lib.toList_data,Lib.toList_data];simpa using a
theorem jV (H:Hb) (v:Value) (x:ByteArray) (w:World) (S:aX w v H):
    Calls prog 15 #[v,x] w fun e w'=>e= .returned (.int .i64 (dO H.fos x))∧Below w.heap.size w w':=by
 obtain⟨fos,gs,ss,nx,la,ro,now⟩:=H
 obtain⟨Y,Z,vs,rfl,lf,T,ls⟩:=S
 simp only at*;obtain⟨s,B,rfl,M,_,K⟩:=lf
 have O:Hid (∀i (h:i<fos.length),∃b o,s=some ⟨b,o,none⟩∧b<w.heap.size∧gQ w b (o+i*4) fos[i]):=K;obtain⟨C,E,rfl,_⟩:=T
 obtain⟨G,I,rfl,_⟩:=ls
 clear K;obtain⟨g,a⟩: ∃g,g=w.alloc (.cells #[.slice s fos.length B,.slice C gs.length E,.slice G ss.length I,nx,la,ro,now] 28):=⟨_,rfl⟩
 have f:Below w.heap.size w g:=by rw[a];exact ak
 have P:Hid (Cs g w.heap.size [.slice s fos.length B,.slice C gs.length E,.slice G ss.length I,nx,la,ro,now]):=(by rw[a];exact Cs.new w [.slice s fos.length B,.slice C gs.length E,.slice G ss.length I,nx,la,ro,now] _:Cs g w.heap.size _)
 go_enter func15,ntmps15
 go_upto_region 1 with fail;rw[←a];clear a;have x0:=P.out.cell 0 rfl;go_wp2;go_loopw [5] (fun i wr=> ∃k:Nat,k≤fos.length∧i= .int .i64 k∧Hid (∀m (h:m<fos.length),m<k→(fos[m].na.toList==x.toList)=false)∧wr=g) (fun i _=>fos.length-(intOf i).toNat)
 case atStart=>exact⟨0,Nat.zero_le _,rfl,(fun m _ h=>absurd h (Nat.not_lt_zero _): ∀m (h:m<fos.length),m<0→(fos[m].na.toList==x.toList)=false),rfl⟩
 case round=>
  obtain⟨k,X,rfl,z,rfl⟩:=hrel
  by_cases j:k<fos.length
  · obtain⟨b,o,rfl,R,N⟩:=O.out k j
    obtain⟨U,_⟩:=N.below R f
    have F:(k:Int)<fos.length:=by omega
    have c:=hid (show(fos[k].na.toList==x.toList)=true→dO fos x=k from fun h=>wj j z.out h)
    have d:=hid (show(fos[k].na.toList==x.toList)=false→ ∀m (h:m<fos.length),m<k+1→(fos[m].na.toList==x.toList)=false from fun h m Q V=>by
     by_cases e:m=k
     · subst e;exact h
     · exact z.out m Q (by omega))
    clear N;cases J:(fos[k].na.toList==x.toList)with
    |true=>
     have u:=hid (c.out J);clear c d;go_wp2;go_ret;exact⟨by rw[u.out];rfl,f⟩
    |false=>
     have A:=hid (d.out J);clear c d;go_wp2;go_roundw
     case rel=>exact⟨k+1,by omega,by simp,A,by simp⟩
     case measure=>simp[intOf];omega
  · have F: ¬(k:Int)<fos.length:=by omega
    have u:=hid (show dO fos x= -1 from C7 fun m h=>z.out m h (by omega));go_wp2;go_ret;exact⟨by rw[u.out];rfl,f⟩
theorem wm {x:ByteArray} (h:aA x.data.toList=false):aU [x]=1:=by rw[aU];simp[h]
theorem wu {x:ByteArray} (h:aA x.data.toList=true):aU [x]=0:=by rw[aU];simp[h]
theorem Hu.lt_flip {s t:Sh} (h:Hu.lt s t=true):Op.bytesLess t.na.toList s.na.toList=false∧(t.na.toList==s.na.toList)=false:=by
 rw[nL]at h;have h:=of_decide_eq_true h;rw[kR,Lib.toList_data,Lib.toList_data,jZ s.na.data.toList t.na.data.toList];refine⟨decide_eq_false (by omega),?_⟩
 rw[beq_eq_false_iff_ne];intro e;rw[e,lI]at h;omega
theorem kE {s t:Sh} (h:Hu.lt s t=false):Op.bytesLess t.na.toList s.na.toList=true∨(Op.bytesLess t.na.toList s.na.toList=false∧(t.na.toList==s.na.toList)=true):=by
 rw[nL]at h;have h:=of_decide_eq_false h;rw[kR,Lib.toList_data,Lib.toList_data,jZ s.na.data.toList t.na.data.toList];by_cases e:Lib.compareBytes s.na.data.toList t.na.data.toList=0
 · right
   refine⟨decide_eq_false (by omega),?_⟩
   rw[beq_iff_eq];exact(i9 _ _ e).symm
 · left;exact decide_eq_true (by omega)
theorem Da (G:List Gr) (x:ByteArray):(dt G x).length=0↔bJ G x=false:=by
 have e:bJ G x=G.any (eo x):=by
  rw[iw];congr 1
  funext g
  rw[eo,Lib.toList_data,Lib.toList_data]
 rw[e];constructor
 · intro h
   cases a:G.any (eo x)with
   |false=>rfl
   |true=>have:=uW a;omega
 · exact uX
theorem Db (H:Hb) (v:Value) (w:World) (hv:aX w v H) (hs:dd H) (hu: ∀s∈H.fos,s.na.size≤1048576∧(∀e∈s.jo.base,e.path.size≤1048576∧e.text.size≤1048576)∧dm 1048576 s.jo.cos):
    Calls prog 5 #[v] w fun e w'=>e= .returned (.int .i64 (ae H))∧Below w.heap.size w w':=by
 obtain⟨fos,gs,ss,nx,la,ro,now⟩:=H
 have HV:=hid hv;obtain⟨vf,vg,vs,rfl,lf,lg,ls⟩:=hv
 simp only at*;have HU:=hid hu;have F5:=hid hs.gs;have F6:=hid hs.ss;have EP:=hid lg;have F2:=hid ls;obtain⟨V,X,rfl,Fj,_,hL⟩:=lf
 have HL:Hid (∀i (h:i<fos.length),∃b o,V=some ⟨b,o,none⟩∧b<w.heap.size∧gQ w b (o+i*4) fos[i]):=hL;obtain⟨Y,Z,rfl,Fc,_,ES⟩:=lg
 have F1:Hid (∀i (h:i<gs.length),∃b o,Y=some ⟨b,o,none⟩∧b<w.heap.size∧em w b (o+i*3) gs[i]):=ES;obtain⟨sa,sc,rfl,_⟩:=ls
 clear hL ES hs hu;obtain⟨wz,E3⟩: ∃wz,wz=w.alloc (.cells #[.slice V fos.length X,.slice Y gs.length Z,.slice sa ss.length sc,nx,la,ro,now] 28):=⟨_,rfl⟩
 have R:Below w.heap.size w wz:=by rw[E3];exact ak
 have HX:Hid (Cs wz w.heap.size [.slice V fos.length X,.slice Y gs.length Z,.slice sa ss.length sc,nx,la,ro,now]):=(by rw[E3];exact Cs.new w [.slice V fos.length X,.slice Y gs.length Z,.slice sa ss.length sc,nx,la,ro,now] _:Cs wz w.heap.size _)
 obtain⟨E,hE⟩: ∃E,E=ae ⟨fos,gs,ss,nx,la,ro,now⟩:=⟨_,rfl⟩
 rw[←hE];have HE:=hid hE;clear hE;go_enter func5,ntmps5
 go_upto_region 1 with fail;rw[←E3];clear E3;have x0:=HX.out.cell 0 rfl;have x6:=HX.out.cell 6 rfl;by_cases EX:now<0
 · have f:=hid (show E=3 from by rw[HE.out];exact mA (Or.inl EX))
   go_wp2;go_ret;exact⟨by rw[f.out];rfl,R⟩
 by_cases EY:1099511627776<now
 · have f:=hid (show E=3 from by rw[HE.out];exact mA (Or.inr EY))
   go_wp2;go_ret;exact⟨by rw[f.out];rfl,R⟩
 have U:=hid (show¬(now<0∨1099511627776<now)from fun x=>x.elim EX EY);have E6:=hid (show¬Hu.cfE fos=0→E=Hu.cfE fos from fun h=>by rw[HE.out];exact qB (H:=⟨fos,gs,ss,nx,la,ro,now⟩) U.out h);by_cases h8:8<fos.length
 · have f:=hid (show E=2 from by rw[E6.out (by rw[ql h8];decide)];exact ql h8)
   have Fa:8<(fos.length:Int):=by omega
   go_wp2;go_ret;exact⟨by rw[f.out];rfl,R⟩
 have H8:=hid h8;have Fa: ¬8<(fos.length:Int):=by omega
 go_wp2;go_loopw [3] (fun i wr=> ∃k:Nat,k≤fos.length∧i= .int .i64 k∧Hid (∀i (h:i<fos.length),i<k→bM fos[i]=0)∧Hid (Cs wr w.heap.size [.slice V fos.length X,.slice Y gs.length Z,.slice sa ss.length sc,nx,la,ro,now])∧Below w.heap.size w wr) (fun i _=>fos.length-(intOf i).toNat)
 case atStart=>exact⟨0,Nat.zero_le _,rfl,(fun i _ h=>absurd h (Nat.not_lt_zero _): ∀i (h:i<fos.length),i<0→bM fos[i]=0),HX,R⟩
 case round=>
  clear x0 x6 HX R;obtain⟨k,hk,rfl,N,c,a⟩:=hrel
  have x0:=c.out.cell 0 rfl;by_cases F:k<fos.length
  · obtain⟨b,o,rfl,T,M⟩:=HL.out k F
    obtain⟨P,u,x,c1,c2,c3,hu,hx⟩:=M.below T a
    have HZ:=hid (HU.out fos[k] (List.getElem_mem F))
    have d:=hid (show¬bM fos[k]=0→E=bM fos[k]from fun A=>by
     have e:=uB H8.out F N.out A;rw[E6.out (by rw[e];exact A),e])
    have z:=hid (show bM fos[k]=0→ ∀i (h:i<fos.length),i<k+1→bM fos[i]=0 from fun A i h1 h2=>by
     by_cases e:i=k
     · subst e;exact A
     · exact N.out i h1 (by omega))
    have J:(k:Int)<fos.length:=by omega
    clear M;generalize fos[k]=s at*;obtain⟨na,⟨jb,jf,jc⟩⟩:=s
    simp only at P c1 c2 c3 hu hx;have F3:=hid hu;have F4:=hid hx;obtain⟨ua,uc,rfl,_⟩:=hu
    obtain⟨xa,xc,rfl,_⟩:=hx
    go_wp2_with fail;refine(aM na _ (by have:na.size≤1048576:=HZ.out.1;omega)).mono ?_
    rintro e w1 ⟨rfl,rfl⟩;cases E1:aA na.data.toList with
    |false=>
     have f:=hid (show E=1 from by
      have e:bM ⟨na,⟨jb,jf,jc⟩⟩=1:=by rw[bM,wm E1,if_pos (by decide)]
      rw[d.out (by rw[e];decide),e])
     clear d z E1;go_wp2;go_ret;exact⟨by rw[f.out];rfl,a⟩
    |true=>
     have E8:=hid (show bM ⟨na,⟨jb,jf,jc⟩⟩=aT ⟨jb,jf,jc⟩from by rw[bM,wu E1,if_neg (by simp)]);clear E1;go_wp2_with fail;refine(Cv ⟨jb,jf,jc⟩ _ _ ⟨_,_,rfl,F3.out,F4.out⟩ (fun e M=>by have:=(HZ.out.2.1 e M).1;omega) (HZ.out.2.2.mono (by decide))).mono ?_
     rintro e w2 ⟨rfl,ET⟩;have Q:=an a ET;have F8:=hid (c.out.below ET);clear P c1 c2 c3;rw[←E8.out];by_cases A:bM ⟨na,⟨jb,jf,jc⟩⟩=0
     · have O:=hid (z.out A)
       rw[A];clear A d z E8;go_wp2;go_roundw
       case rel=>exact⟨k+1,by omega,by simp,O,F8,Q⟩
       case measure=>simp[intOf];omega
     · have f:=hid (d.out A)
       have hz:(bM ⟨na,⟨jb,jf,jc⟩⟩==0)=false:=by simpa using A
       have Fi:(bM ⟨na,⟨jb,jf,jc⟩⟩ !=0)=true:=by simpa using A
       clear A d z E8;generalize bM ⟨na,⟨jb,jf,jc⟩⟩=r at*;go_wp2;go_ret;exact⟨by rw[f.out];rfl,Q⟩
  · have J: ¬(k:Int)<fos.length:=by omega
    have HA:=hid (show∀i (h:i<fos.length),bM fos[i]=0 from fun i h=>N.out i h (by omega));clear J N;go_wp2_with fail;clear F hk;go_loopw [5] (fun i wr=> ∃m:Nat,m≤fos.length∧i= .int .i64 ((m:Int)+1)∧Hid (∀i (h:i+1<fos.length),i<m→Hu.lt fos[i] fos[i+1]=true)∧Hid (Cs wr w.heap.size [.slice V fos.length X,.slice Y gs.length Z,.slice sa ss.length sc,nx,la,ro,now])∧Below w.heap.size w wr) (fun i _=>fos.length+2-(intOf i).toNat)
    case atStart=>exact⟨0,Nat.zero_le _,rfl,(fun i _ h=>absurd h (Nat.not_lt_zero _): ∀i (h:i+1<fos.length),i<0→Hu.lt fos[i] fos[i+1]=true),c,a⟩
    case round=>
     clear a c x0;obtain⟨m,hm,rfl,HR,c,a⟩:=hrel
     have x0:=c.out.cell 0 rfl;by_cases S:m+1<fos.length
     · obtain⟨b,o,rfl,T,M⟩:=HL.out m (by omega)
       obtain⟨P,_⟩:=M.below T a
       obtain⟨b',o',EU,Fm,EV⟩:=HL.out (m+1) S
       obtain⟨rfl,rfl⟩:b=b'∧o=o':=by simpa using EU
       obtain⟨d0,_⟩:=EV.below T a
       have E4:(m:Int)+1<fos.length:=by omega
       have Fk:(m:Int)<fos.length:=by omega
       have Fp:IntKind.i64.wrap ((m:Int)+1-1)=m:=by rw[IntKind.wrap_i64];omega
       have Fo:0≤(m:Int)+1:=by omega
       clear EU M EV;cases hl:Hu.lt fos[m] fos[m+1]with
       |true=>
        obtain⟨EW,Fe⟩:=Hu.lt_flip hl
        have F0:=hid (show∀i (h:i+1<fos.length),i<m+1→Hu.lt fos[i] fos[i+1]=true from fun i h1 h2=>by
         by_cases e:i=m
         · subst e;exact hl
         · exact HR.out i h1 (by omega))
        have F9:=hid (c.out.below ( aw.drew));clear hl;go_wp2_with fail;go_region
        go_wp2;go_roundw
        case rel=>exact⟨m+1,by omega,by simp,F0,F9,a.drew⟩
        case measure=>simp[intOf];omega
       |false=>
        have f:=hid (show E=4 from by
         have e:=uC H8.out HA.out S hl;rw[E6.out (by rw[e];decide),e])
        rcases kE hl with EW|⟨EW,Fe⟩
        all_goals
         clear hl;go_wp2_with fail;go_region
         go_wp2;go_ret;exact⟨by rw[f.out];rfl,a.drew⟩
     · have E4: ¬(m:Int)+1<fos.length:=by omega
       have EQ:=hid (show dQ fos=true from(ln fos).2 fun i h=>HR.out i h (by omega));have E5:=hid (show Hu.cfE fos=0 from uD H8.out HA.out fun i h=>HR.out i h (by omega));have E7:=hid (show¬bh gs=0→E=bh gs from fun h=>by rw[HE.out];exact qC (H:=⟨fos,gs,ss,nx,la,ro,now⟩) U.out E5.out h);have x1:=c.out.cell 1 rfl;clear HR;go_wp2_with fail;refine(zK gs _ _ (EP.out.below a) F5.out).mono ?_
       rintro e w3 ⟨rfl,EJ⟩;have G:=an a EJ;have E9:=hid (c.out.below EJ);clear x0 x1;by_cases A: ¬(bh gs=0)
       · have f:=hid (E7.out A)
         have hz:(bh gs==0)=false:=by simpa using A
         have Fi:(bh gs !=0)=true:=by simpa using A
         clear A E7;generalize bh gs=r at*;go_wp2;go_ret;exact⟨by rw[f.out];rfl,G⟩
       replace A:=Decidable.not_not.1 A;have EO:=hid A;have Fl:gs.length≤60:=(jP A).1;have ER:=hid (show¬dj fos gs=0→E=dj fos gs from fun h=>by rw[HE.out];exact qD (H:=⟨fos,gs,ss,nx,la,ro,now⟩) U.out E5.out EO.out h);rw[A];clear A E7;have x1:=E9.out.cell 1 rfl;go_wp2_with fail;clear S E4 hm;go_loopw [7] (fun i wr=> ∃k:Nat,k≤gs.length∧i= .int .i64 k∧Hid (∀j (h:j<gs.length),j<k→cl fos gs[j].fo=true)∧Hid (Cs wr w.heap.size [.slice V fos.length X,.slice Y gs.length Z,.slice sa ss.length sc,nx,la,ro,now])∧Below w.heap.size w wr) (fun i _=>gs.length-(intOf i).toNat)
       case atStart=>exact⟨0,Nat.zero_le _,rfl,(fun j _ h=>absurd h (Nat.not_lt_zero _): ∀j (h:j<gs.length),j<0→cl fos gs[j].fo=true),E9,G⟩
       case round=>
        clear a EJ G c E9 x1;obtain⟨k,hk,rfl,N,c,a⟩:=hrel
        have x1:=c.out.cell 1 rfl;by_cases F:k<gs.length
        · obtain⟨b,o,rfl,T,M⟩:=F1.out k F
          obtain⟨P,_⟩:=M.below T a
          have J:(k:Int)<gs.length:=by omega
          have EM:b<wr.heap.size:=Nat.lt_of_lt_of_le T a.size;have Fh:=c.out.lt
          have d:=hid (show cl fos gs[k].fo=false→E=5 from fun h=>by
           have e:=uK (L:=fos) F h;rw[ER.out (by rw[e];decide),e])
          have z:=hid (show cl fos gs[k].fo=true→ ∀j (h:j<gs.length),j<k+1→cl fos gs[j].fo=true from fun A j h1 h2=>by
           by_cases e:j=k
           · subst e;exact A
           · exact N.out j h1 (by omega))
          clear M;generalize gs[k]=gg at*;obtain⟨gf,gw,gr⟩:=gg
          simp only at P d z;have z0:=c.out.cell 0 rfl;have z1:=c.out.cell 1 rfl;have z2:=c.out.cell 2 rfl;have z3:=c.out.cell 3 rfl;have z4:=c.out.cell 4 rfl;have z5:=c.out.cell 5 rfl;have z6:=c.out.cell 6 rfl;go_wp2_with fail
          go_region_held3 (fun W=>W.cell? ⟨w.heap.size,0,none⟩=some (.slice V fos.length X)∧W.cell? ⟨w.heap.size,1,none⟩=some (.slice (some ⟨b,o,none⟩) gs.length Z)∧W.cell? ⟨w.heap.size,2,none⟩=some (.slice sa ss.length sc)∧W.cell? ⟨w.heap.size,3,none⟩=some (.int .i64 nx)∧W.cell? ⟨w.heap.size,4,none⟩=some (.int .i64 la)∧W.cell? ⟨w.heap.size,5,none⟩=some (.int .i64 ro)∧W.cell? ⟨w.heap.size,6,none⟩=some (.int .i64 now)∧W.cell? ⟨b,o+k*3,none⟩=some (.string gf)) (go_keep) (first
           |(go_at_call 15;refine(jV ⟨fos,gs,ss,nx,la,ro,now⟩ _ gf _ (HV.out.below (an a aw.drew))).mono ?_;rintro e wa ⟨rfl,EK⟩;have K:Below wr.heap.size wr wa:=( aw.drew).trans EK;have B:=hid (c.out.below K);have j0:=B.out.cell 0 rfl;have j1:=B.out.cell 1 rfl;have j2:=B.out.cell 2 rfl;have j3:=B.out.cell 3 rfl;have j4:=B.out.cell 4 rfl;have j5:=B.out.cell 5 rfl;have j6:=B.out.cell 6 rfl;have j7:=(K.cell (p:=⟨b,o+k*3,none⟩) EM).trans P))
          have C:=an a K;clear j0 j1 j2 j3 j4 j5 j6 j7 z0 z1 z2 z3 z4 z5 z6 P;have E0:=C8 fos gf;cases I:cl fos gf with
          |false=>
           have f:=hid (d.out I);have EZ:dO fos gf<0:=E0.2 I;clear d z E0 I;generalize dO fos gf=q at*;go_wp2;go_ret;exact⟨by rw[f.out];rfl,C⟩
          |true=>
           have O:=hid (z.out I);have EZ: ¬dO fos gf<0:=fun h=>by rw[E0.1 h]at I;cases I
           clear d z E0 I;generalize dO fos gf=q at*;go_wp2;go_roundw
           case rel=>exact⟨k+1,by omega,by simp,O,B,C⟩
           case measure=>simp[intOf];omega
        · have J: ¬(k:Int)<gs.length:=by omega
          have EN:=hid (show∀g∈gs,cl fos g.fo=true from fun g hg=>by
           obtain⟨j,hj,rfl⟩:=List.getElem_of_mem hg
           exact N.out j hj (by omega))
          have x0:=c.out.cell 0 rfl;clear N;go_wp2_with fail;clear F hk J;go_loopw [8] (fun i wr=> ∃k:Nat,k≤fos.length∧i= .int .i64 k∧Hid (∀j (h:j<fos.length),j<k→bJ gs fos[j].na=true)∧Hid (Cs wr w.heap.size [.slice V fos.length X,.slice Y gs.length Z,.slice sa ss.length sc,nx,la,ro,now])∧Below w.heap.size w wr) (fun i _=>fos.length-(intOf i).toNat)
          case atStart=>exact⟨0,Nat.zero_le _,rfl,(fun j _ h=>absurd h (Nat.not_lt_zero _): ∀j (h:j<fos.length),j<0→bJ gs fos[j].na=true),c,a⟩
          case round=>
           clear a c x0 x1;obtain⟨k,hk,rfl,N,c,a⟩:=hrel
           have x0:=c.out.cell 0 rfl;have x1:=c.out.cell 1 rfl;by_cases F:k<fos.length
           · obtain⟨b,o,rfl,T,M⟩:=HL.out k F
             obtain⟨P,_⟩:=M.below T a
             have J:(k:Int)<fos.length:=by omega
             have EM:b<wr.heap.size:=Nat.lt_of_lt_of_le T a.size;have Fh:=c.out.lt
             have d:=hid (show bJ gs fos[k].na=false→E=5 from fun h=>by
              have e:=C6 EQ.out EN.out (List.getElem_mem F) h;rw[ER.out (by rw[e];decide),e])
             have z:=hid (show bJ gs fos[k].na=true→ ∀j (h:j<fos.length),j<k+1→bJ gs fos[j].na=true from fun A j h1 h2=>by
              by_cases e:j=k
              · subst e;exact A
              · exact N.out j h1 (by omega))
             clear M;generalize fos[k]=s at*;obtain⟨na,jo⟩:=s
             simp only at P d z;go_wp2_with fail
             go_region_held3 (fun W=>W.cell? ⟨w.heap.size,0,none⟩=some (.slice (some ⟨b,o,none⟩) fos.length X)∧W.cell? ⟨w.heap.size,1,none⟩=some (.slice Y gs.length Z)∧W.cell? ⟨b,o+k*4,none⟩=some (.string na)) (go_keep) (first
              |(go_at_call 16;refine(uQ gs _ na _ (EP.out.below (an a aw.drew)) (by omega)).mono ?_;rintro e wa ⟨u,rfl,Fg,EK⟩;obtain⟨ua,uc,rfl,Ff⟩:=Fg;clear Ff;have K:Below wr.heap.size wr wa:=( aw.drew).trans EK;have B:=hid (c.out.below K);have j0:=B.out.cell 0 rfl;have j1:=B.out.cell 1 rfl;have j7:=(K.cell (p:=⟨b,o+k*4,none⟩) EM).trans P))
             have C:=an a K;clear j0 j1 j7 P x0 x1;have E2:=Da gs na;cases I:bJ gs na with
             |false=>
              have f:=hid (d.out I);have hz:(((dt gs na).length:Int)==0)=true:=by rw[E2.2 I];rfl
              clear d z E2 I;generalize (dt gs na).length=q at*;go_wp2;go_ret;exact⟨by rw[f.out];rfl,C⟩
             |true=>
              have O:=hid (z.out I)
              have hz:(((dt gs na).length:Int)==0)=false:=by
               rw[beq_eq_false_iff_ne];intro h;have A:(dt gs na).length=0:=by omega
               rw[E2.1 A]at I;cases I
              clear d z E2 I;generalize (dt gs na).length=q at*;go_wp2;go_roundw
              case rel=>exact⟨k+1,by omega,by simp,O,B,C⟩
              case measure=>simp[intOf];omega
           · have J: ¬(k:Int)<fos.length:=by omega
             have F7:=hid (show dj fos gs=0 from C5 EQ.out EN.out (fun s hs=>by
              obtain⟨j,hj,rfl⟩:=List.getElem_of_mem hs
              exact N.out j hj (by omega)))
             have f:=hid (show E=be ss nx la ro from by rw[HE.out];exact nP (H:=⟨fos,gs,ss,nx,la,ro,now⟩) U.out E5.out EO.out F7.out);have z0:=c.out.cell 0 rfl;have z1:=c.out.cell 1 rfl;have z2:=c.out.cell 2 rfl;have z3:=c.out.cell 3 rfl;have z4:=c.out.cell 4 rfl;have z5:=c.out.cell 5 rfl;have z6:=c.out.cell 6 rfl;go_wp2_with fail;refine(mD ss _ nx la ro _ (F2.out.below a) F6.out).mono ?_
             rintro e w9 ⟨rfl,Fb⟩;rw[←f.out];have EL:=an a Fb;go_wp2;go_ret;exact⟨rfl,EL⟩
end Go.Proofs.YtdlpjlfefjipkaaGreat
