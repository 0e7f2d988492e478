/- What grant.put and checkGive answer, for every list of grants that rises. -/
import Derived.Lib.AtoiAll
import Derived.Lib.AtoiAllCases
import Derived.Lib.ItoaMem
import Derived.Lib.Builder
import Derived.Lib.AppendStr
import Derived.Lib.UnsafeStr
import Derived.Lib.OthersKept
import Derived.Lib.OwnKind
import Derived.Laws.Externs
import Derived.Lib.LaidTab
import Derived.Test.YtgamnckfmmbjdaaGreatDoorWGR
import Derived.Test.YtgamnckfmmbjdaaGreatDoorWGS
set_option linter.unusedSimpArgs false
set_option linter.unusedVariables false
namespace Go.Proofs.YtgamnckfmmbjdaaGreatDoor
open Go.RowKit Go.Proofs.Tryz
set_option maxHeartbeats 2000000
set_option maxRecDepth 100000
theorem lF {G:List Gr} (h:aY G=0):G.length≤60∧eO G=0∧dT G=true∧fY G=0:=by
 by_cases a:60<G.length
 · rw[nO a]at h;cases h
 · by_cases d:eO G=0
   · cases e:dT G with
     |false=>rw[nQ a d e]at h;cases h
     |true=>rw[nS a d e]at h;exact⟨by omega,d,rfl,h⟩
   · rw[nP a d]at h;exact absurd h d
structure An where
 err:Int
 num:Int
 pg:Pg
def iB (w:World) (v:Value) (a:An):Prop:= ∃vt vc,v= .agg #[.int .i64 a.err,.int .i64 a.num,.bool a.pg.reset,vt,vc,.int .i64 a.pg.cur,.bool a.pg.more]∧aj w vt a.pg.tree∧dd w vc a.pg.cos
theorem iB.below {w w':World} {v:Value} {a:An} (h:iB w v a) (d:Below w.heap.size w w'):iB w' v a:=by
 obtain⟨u,o,e,f,j⟩:=h
 exact⟨u,o,e,f.below d,j.below d⟩
structure Ws where
 l:List UInt8
 mn:Bool
 fr:Bool
def eh (n:Int):Prop:= -9223372036854775808≤n∧n≤9223372036854775807
def eB (n:Int):Bool:=decide (-1099511627776≤n) && decide (n≤1099511627776)
theorem jD {n:Int}:eB n=true↔ -1099511627776≤n∧n≤1099511627776:=by simp[eB]
inductive aL where
 |n (i:Int)
 |t (s:ByteArray)
 |big
def Wr.num (s:Ws) (n:Int):Ws:=⟨s.l++(Lib.itoa n++[59]),s.mn,s.fr|| !eB n⟩
def ks (s:Ws):Ws:=⟨s.l,true,s.fr⟩
def hZ (s:Ws) (x:ByteArray):Ws:=if 1000<x.size then ks s else⟨(Wr.num s x.size).l++x.data.toList,(Wr.num s x.size).mn,(Wr.num s x.size).fr⟩
def Wr.put (s:Ws):aL→Ws
 | .n i=>Wr.num s i
 | .t x=>hZ s x
 | .big=>ks s
def Wr.run (s:Ws) (l:List aL):Ws:=l.foldl Wr.put s
theorem n8 (s:Ws) (a b:List aL):Wr.run s (a++b)=Wr.run (Wr.run s a) b:=by simp[Wr.run]
theorem rp (s:Ws) (x:aL) (a:List aL):Wr.run s (x::a)=Wr.run (Wr.put s x) a:=rfl
def aL.wf:aL→Prop
 | .n i=>eh i
 |_=>True
def aL.ok:aL→Bool
 | .n i=>eB i
 | .t x=>decide (x.size≤1000)
 | .big=>false
def aL.bytes:aL→List UInt8
 | .n i=>Lib.itoa i++[59]
 | .t x=>Lib.itoa x.size++[59]++x.data.toList
 | .big=>[]
def Wr.bytes (l:List aL):List UInt8:=l.flatMap aL.bytes
theorem rq (a b:List aL):Wr.bytes (a++b)=Wr.bytes a++Wr.bytes b:=by simp[Wr.bytes]
theorem n9 (x:aL) (b:List aL):Wr.bytes (x::b)=x.bytes++Wr.bytes b:=rfl
def Wr.ok (l:List aL):Bool:=l.all aL.ok
def ei (s:Ws):ByteArray×Int:=if s.mn=true then(⟨#[]⟩,2)else if s.fr=true then(⟨#[]⟩,3)else(⟨s.l.toArray⟩,0)
theorem lG (u:Nat) (h:u<10):(UInt8.ofNat (48+u)).toNat=48+u:=by rw[UInt8.toNat_ofNat'];omega
theorem oa: ∀(n u:Nat),u<n→ ∀x∈Lib.decDigits u,48≤x.toNat∧x.toNat≤57
 |0,u,h=>absurd h (Nat.not_lt_zero _)
 |n+1,u,h=>by
  intro x a;rw[Lib.decDigits]at a;split at a
  · rename_i d
    simp only[List.mem_singleton]at a;subst a;rw[lG u d];omega
  · rename_i d
    rw[List.mem_append,List.mem_singleton]at a;rcases a with a|rfl
    · exact oa n (u/10) (by omega) x a
    · rw[lG _ (by omega)];omega
theorem rt: ∀u,Lib.decDigits u≠[]:=by
 intro u;rw[Lib.decDigits];split<;>simp
theorem ru: ∀(k u:Nat),u<10^(k+1)→(Lib.decDigits u).length≤k+1
 |0,u,h=>by rw[Lib.decDigits,dif_pos (by omega)];simp
 |k+1,u,h=>by
  rw[Lib.decDigits];split
  · simp
  · have:=ru k (u/10) (by rw[Nat.pow_succ]at h;omega)
    simp only[List.length_append,List.length_cons,List.length_nil];omega
theorem rv {n:Int} (h:eh n):(Lib.itoa n).length≤20:=by
 have a := ru 18 n.natAbs (by obtain ⟨a, d⟩ := h; have : (10 : Nat) ^ (18 + 1) = 10000000000000000000 := by decide
                              omega)
 unfold Lib.itoa;split
 · simp only[List.length_cons];omega
 · have e:n.toNat=n.natAbs:=by omega
   rw[e];omega
theorem rx (n:Int):(59:UInt8)∉Lib.itoa n:=by
 have d: ∀u,(59:UInt8)∉Lib.decDigits u:=fun u a=>by
  have:=oa (u+1) u (Nat.lt_succ_self u) 59 a
  simp at this
 unfold Lib.itoa;split
 · intro a
   rw[List.mem_cons]at a;rcases a with a|a
   · simp at a
   · exact d _ a
 · exact d _
theorem ry: ∀(l:List UInt8) (d:Nat) (c:UInt8),Lib.parseUint10 d (l++[c])=match Lib.parseUint10 d l with
    | .ok a=>Lib.parseUint10 a [c]
    | .«syntax» => .«syntax»
    | .range=> .range
 |[],d,c=>rfl
 |x::l,d,c=>by
  rw[List.cons_append];conv=>lhs;unfold Lib.parseUint10
  conv=>rhs;unfold Lib.parseUint10
  split
  · split
    · rfl
    · split
      · rfl
      · exact ry l _ c
  · rfl
theorem rz: ∀(n u:Nat),u<n→u<1000000000000000000→Lib.parseUint10 0 (Lib.decDigits u)= .ok u
 |0,u,h,_=>absurd h (Nat.not_lt_zero _)
 |n+1,u,h,hb=>by
  rw[Lib.decDigits];split
  · rename_i a
    have e:=lG u a;simp only[Lib.parseUint10,e];rw[if_pos (by omega),if_neg (by omega),if_neg (by omega)];congr 1;omega
  · rename_i a
    have e:=lG (u % 10) (by omega);rw[ry,rz n (u/10) (by omega) (by omega)];simp only[Lib.parseUint10,e];rw[if_pos (by omega),if_neg (by omega),if_neg (by omega)];congr 1;omega
def fE (n:Int):Prop:=n.natAbs<1000000000000000000
theorem xE {n:Int} (h:eB n=true):fE n:=by rw[jD]at h;unfold fE;omega
theorem xF {n:Int} (h:fE n):Lib.atoiAll (Lib.itoa n)= .ok n:=by
 unfold fE at h
 have a:Lib.parseMag (Lib.decDigits n.natAbs)= .ok n.natAbs:=by
  rw[Lib.parseMag,if_neg (rt _),rz _ _ (Nat.lt_succ_self _) h]
 unfold Lib.itoa;split
 · rename_i f
   rw[Lib.atoiAll_minus,a];simp only[Lib.signed];rw[if_neg (by omega)];congr 1;omega
 · rename_i f
   have e:n.toNat=n.natAbs:=by omega
   rw[e];obtain⟨c,r,d⟩: ∃c r,Lib.decDigits n.natAbs=c::r:=List.exists_cons_of_ne_nil (rt _)
   have j:=oa _ _ (Nat.lt_succ_self n.natAbs) c (by rw[d];simp);rw[d]at a⊢;rw[Lib.atoiAll_plain c r (by omega) (by omega),a];simp only[Lib.signless];rw[if_neg (by omega)];congr 1;omega
def Wr.upto (l:List UInt8):List UInt8:=l.takeWhile (fun x=> !(x==59))
def Wr.behind (l:List UInt8):List UInt8:=(l.dropWhile (fun x=> !(x==59))).drop 1
theorem xG {a r:List UInt8} (h:(59:UInt8)∉a):Wr.upto (a++59::r)=a:=by
 unfold Wr.upto;rw[List.takeWhile_append_of_pos (by intro x d;simp;intro e;exact h (e▸d))];simp
theorem xH {a r:List UInt8} (h:(59:UInt8)∉a):Wr.behind (a++59::r)=r:=by
 unfold Wr.behind;rw[List.dropWhile_append_of_pos (by intro x d;simp;intro e;exact h (e▸d))];simp
theorem rA {l:List UInt8} (h:(59:UInt8)∈l):l=Wr.upto l++59::Wr.behind l:=by
 induction l with
 |nil=>cases h
 |cons x l ih=>
  by_cases e:x=59
  · subst e;simp[Wr.upto,Wr.behind]
  · have a:(59:UInt8)∈l:=by
     rw[List.mem_cons]at h;exact h.resolve_left (fun h=>e h.symm)
    have:=ih a
    unfold Wr.upto Wr.behind at this⊢;simp only[List.takeWhile_cons,List.dropWhile_cons,beq_iff_eq,e,Bool.not_eq_true',not_false_eq_true,beq_eq_false_iff_ne,ne_eq,if_true,List.cons_append];rw[←this]
def bC (g:Int→Bool) (l:List UInt8):Option (Int×List UInt8):=match Lib.atoiAll (Wr.upto l)with
 | .ok n=>if(59:UInt8)∈l∧Lib.itoa n=Wr.upto l∧g n=true then some (n,Wr.behind l)else none
 |_=>none
theorem xI {g:Int→Bool} (e: ∀n,g n=true→fE n) {l r:List UInt8} {n:Int}:bC g l=some (n,r)↔g n=true∧l=Lib.itoa n++59::r:=by
 constructor
 · intro h
   unfold bC at h;split at h
   · rename_i m f
     split at h
     · rename_i a
       simp only[Option.some.injEq,Prod.mk.injEq]at h;obtain⟨rfl,rfl⟩:=h
       exact⟨a.2.2,by rw[a.2.1];exact rA a.1⟩
     · cases h
   · cases h
 · rintro ⟨d,rfl⟩
   have ay:=xG (r:=r) (rx n);unfold bC;rw[ay,xF (e n d)];simp only;rw[if_pos (by simp[d]),xH (rx n)]
def aF:Int→Bool:=eB
theorem xJ (n:Int) (h:aF n=true):fE n:=xE h
def da (B b:Nat) (p:Value) (s:Ws) (w:World):Prop:=
 B≤b∧ ∃v,w.heap[b]?=some (.cells #[p,v,.bool s.mn,.bool s.fr] 259 (0,0))∧w.ownsRow B 5 1 v s.l.length (Lib.byteCells s.l)∧v.ownBlock≠some b
def Wt (B b:Nat) (s:Ws) (w:World):Prop:=da B b (.pointer none) s w∨da B b (.pointer (some ⟨b,0,none⟩)) s w
theorem Wt.at {B b:Nat} {s:Ws} {w:World} (h:Wt B b s w): ∃p,da B b p s w:=h.elim (fun h=>⟨_,h⟩) (fun h=>⟨_,h⟩)
def bg (B b:Nat) (w w':World):Prop:=Below B w w'∧Lib.OthersKept 5 (some b) w w'
theorem bg.refl (B b:Nat) (w:World):bg B b w w:=⟨Below.refl _ _,Lib.OthersKept.refl _ _ _⟩
theorem bg.trans {B b:Nat} {a c d:World} (h:bg B b a c) (k:bg B b c d):bg B b a d:=⟨h.1.trans k.1,h.2.trans k.2⟩
theorem ob {B b:Nat} {a w:World} (h:bg B b a w) (d:B≤b) (i:Nat) (v:Value):bg B b a (w.setCell ⟨b,i,none⟩ v):=⟨h.1.setCell (p:=⟨b,i,none⟩) d _,h.2.setCell ⟨b,i,none⟩ rfl _⟩
theorem da.lt {B b:Nat} {p:Value} {s:Ws} {w:World} (h:da B b p s w):b<w.heap.size:=by
 obtain⟨_,v,hb,_⟩:=h
 exact cn hb
theorem lH {B b:Nat} {w:World} {v:Value} {n:Nat} {xs:List Value} (a:w.ownsRow B 5 1 v n xs) (d:v.ownBlock≠some b) (i:Nat) (q:Value):(w.setCell ⟨b,i,none⟩ q).ownsRow B 5 1 v n xs:=
 a.kept (row:=some b) ⟨rfl,rfl,rfl,by simp[World.setCell],fun k _ f=>Below.heap_setCell _ _ _ _ (fun e=>f (by simp[e]))⟩ (Or.inr d)
theorem da.used {B b:Nat} {p:Value} {s:Ws} {w:World} (h:da B b p s w) (q:Value):da B b q s (w.setCell ⟨b,0,none⟩ q):=by
 obtain⟨e,v,hb,d,a⟩:=h
 exact⟨e,v,by simp[World.setCell,Array.getElem?_modify,hb],lH d a _ _,a⟩
theorem da.far {B b:Nat} {p:Value} {s:Ws} {w:World} (h:da B b p s w):da B b p {s with fr:=true} (w.setCell ⟨b,3,none⟩ (.bool true)):=by
 obtain⟨e,v,hb,d,a⟩:=h
 exact⟨e,v,by simp[World.setCell,Array.getElem?_modify,hb],lH d a _ _,a⟩
theorem da.many {B b:Nat} {p:Value} {s:Ws} {w:World} (h:da B b p s w):da B b p {s with mn:=true} (w.setCell ⟨b,2,none⟩ (.bool true)):=by
 obtain⟨e,v,hb,d,a⟩:=h
 exact⟨e,v,by simp[World.setCell,Array.getElem?_modify,hb],lH d a _ _,a⟩
theorem da.put {B b:Nat} {p v e:Value} {l:List UInt8} {m f:Bool} {w:World} (j:B≤b) (hb:w.heap[b]?=some (.cells #[p,v,.bool m,.bool f] 259 (0,0))) (a:w.ownsRow B 5 1 e l.length (Lib.byteCells l)):
    da B b p ⟨l,m,f⟩ (w.setCell ⟨b,1,none⟩ e):=by
 have d:=Lib.ownBlock_ne a hb (by decide);exact⟨j,e,by simp[World.setCell,Array.getElem?_modify,hb],lH a d _ _,d⟩
theorem Wt.below {B b:Nat} {s:Ws} {w w':World} (h:Wt B b s w) (hb:Below w.heap.size w w'):Wt B b s w':=by
 have one: ∀p,da B b p s w→da B b p s w':=fun p ⟨f,v,a,d,e⟩=>⟨f,v,(hb.block b (cn a)).trans a,eI d hb,e⟩
 exact h.elim (fun h=>Or.inl (one _ h)) (fun h=>Or.inr (one _ h))
theorem iC {B b:Nat} {w w':World} (h:Below w.heap.size w w') (d:B≤w.heap.size):bg B b w w':=
 ⟨h.mono d,fun k o a _ _=>(h.block k (cn a)).trans a⟩
theorem xK (b:Nat) (w:World) (d:w.cell? ⟨b,0,none⟩=some (.pointer (some ⟨b,0,none⟩))):
    Calls prog 279 #[.pointer (some ⟨b,0,none⟩)] w fun e w'=>e= .returned (.tuple #[])∧w'=w:=by
 obtain⟨j,a,_⟩: ∃j,prog.info? 257=some j∧j.size=2:=Option.map_eq_some_iff.1 (by kernel_rfl)
 go_enter func279,ntmps279
 go_wp2;rw[Lib.run_neq_ptr_same w _ underlying255 a];go_wp2;go_end0
 exact⟨rfl,rfl⟩
theorem xL (b:Nat) (w:World) (u:w.cell? ⟨b,0,none⟩=some (.pointer none)) (a:w.shape? b=some (259,4)) (o:w.frozen? ⟨b,0,none⟩=false):
    Calls prog 279 #[.pointer (some ⟨b,0,none⟩)] w fun e w'=>e= .returned (.tuple #[])∧w'=w.setCell ⟨b,0,none⟩ (.pointer (some ⟨b,0,none⟩)):=by
 obtain⟨j,f,d⟩: ∃j,prog.info? 257=some j∧j.size=2:=Option.map_eq_some_iff.1 (by kernel_rfl)
 go_enter func279,ntmps279
 go_wp2;rw[Lib.run_to_unsafe w ⟨b,0,none⟩ underlying255 underlying366 f (by rw[d];decide) a (Nat.zero_lt_succ 3)];simp only[Result.andThen];rw[Oper.upon_value];go_wp2;rw[run_callFunc_extern func316 (by kernel_rfl) (by kernel_rfl) (by kernel_rfl) (e:=Extern.AbiNoEscape.same) (by kernel_rfl)];rw[Lib.run_noEscape];simp only[Result.andThen];rw[Oper.upon_value];go_wp2;rw[Lib.run_from_unsafe w ⟨b,0,none⟩ underlying366 underlying255 f a (by kernel_rfl)];simp only[Result.andThen];rw[Oper.upon_value];go_wp2;go_end0
 exact⟨rfl,rfl⟩
theorem rB (B b:Nat) (s:Ws) (w:World) (h:Wt B b s w):
    Calls prog 279 #[.pointer (some ⟨b,0,none⟩)] w fun e w'=>e= .returned (.tuple #[])∧da B b (.pointer (some ⟨b,0,none⟩)) s w'∧bg B b w w':=by
 rcases h with h|h
 · have a:=h
   obtain⟨d,v,hb,_⟩:=a
   refine(xL b w (by rw[Lib.cell_of_heap hb];rfl) (by simp[World.shape?,hb]) (Lib.frozen_of_heap hb 0)).mono ?_
   rintro e w' ⟨rfl,rfl⟩;exact⟨rfl,h.used _,ob (bg.refl _ _ _) d _ _⟩
 · have a:=h
   obtain⟨d,v,hb,_⟩:=a
   refine(xK b w (by rw[Lib.cell_of_heap hb];rfl)).mono ?_
   rintro e w' ⟨rfl,rfl⟩;exact⟨rfl,h,bg.refl _ _ _⟩
theorem rC (B b:Nat) (s:Ws) (c:UInt8) (w:World) (h:Wt B b s w) (F:s.l.length+1≤140737488355328) (V:B≤w.heap.size):
    Calls prog 230 #[.pointer (some ⟨b,0,none⟩),.int .u8 c.toNat] w fun e w'=>e= .returned .nilIface∧da B b (.pointer (some ⟨b,0,none⟩)) {s with l:=s.l++[c]} w'∧bg B b w w':=by
 obtain⟨aQ,X,O,P,Q⟩:=info_parts (show(prog.info? 5).map (fun i=>(i.zero,i.size,i.bytes))=some (some (.int .u8 0),1,1) by kernel_rfl)
 have J:=rB B b s w h;obtain⟨l,m,f⟩:=s
 go_enter func230,ntmps230
 go_wp2_with fail;refine J.mono ?_
 rintro e G ⟨rfl,U,z,K⟩;obtain⟨S,v,E,d,N⟩:=U
 have c0:G.cell? ⟨b,0,none⟩=some (.pointer (some ⟨b,0,none⟩)):=by rw[Lib.cell_of_heap E];rfl
 have c1:G.cell? ⟨b,1,none⟩=some v:=by rw[Lib.cell_of_heap E];rfl
 go_wp2_with (at_builtin;refine wpList_append_own _ rfl _ _ 203 rfl B 5 aQ (.int .u8 0) 1 1 underlying203 X O P Q rfl (by decide) _ _ _ rfl (d.alloc _) ⟨G.heap.size,0,none⟩ 1 1 [.int .u8 c.toNat] rfl rfl ?c1 ?c2 ?c3 ?c4 ?c5 ?_)
 case c1=>
  intro j u H;match j,H with
  |0,H=>simp at H;subst H;simp[Addr.add]
 case c2=>intro u T;simp at T;subst T;rfl
 case c3=>unfold maxLen;have:l.length+1≤140737488355328:=F;omega
 case c4=>have:l.length+1≤140737488355328:=F;omega
 case c5=>have:=z.size;simp;omega
 intro v' I o a _;have M:b<G.heap.size:=cn E
 have A:I.heap[b]?=some (.cells #[.pointer (some ⟨b,0,none⟩),v,.bool m,.bool f] 259 (0,0)):=by
  rw[a.block b (by simp;omega) (fun e=>N e.symm),Lib.alloc_old G _ b M];exact E
 have d0:I.cell? ⟨b,0,none⟩=some (.pointer (some ⟨b,0,none⟩)):=by rw[Lib.cell_of_heap A];rfl
 have d1:I.cell? ⟨b,1,none⟩=some v:=by rw[Lib.cell_of_heap A];rfl
 have f1:I.frozen? ⟨b,1,none⟩=false:=Lib.frozen_of_heap A 1;have ay:(Lib.byteCells l++[Value.int .u8 c.toNat])=Lib.byteCells (l++[c]):=by simp[Lib.byteCells]
 obtain⟨g,y,rfl⟩: ∃g y,v'= .slice (some ⟨g,0,none⟩) (l.length+1) y:=by
  rcases o.2 with⟨_,h0⟩|⟨g,y,cur,Z,_⟩
  · omega
  · exact⟨g,y,Z⟩
 go_wp2;go_ret;refine⟨rfl,?_,?_,((K.alloc _).grown a (Lib.ownsRow_kind (d.alloc _))).setCell ⟨b,1,none⟩ rfl _⟩
 · exact da.put S A (by rw[←ay];simpa using o)
 · exact((z.alloc (by have:=z.size;omega) _).grown a (by have:=z.size;simp;omega) (fun k Y=>(d.lt k Y).1)).setCell (p:=⟨b,1,none⟩) S _
theorem oc (B b:Nat) (s:Ws) (x:ByteArray) (w:World) (h:Wt B b s w) (y:s.l.length+x.size≤140737488355328) (U:B≤w.heap.size):
    Calls prog 229 #[.pointer (some ⟨b,0,none⟩),.string x] w fun e w'=>e= .returned (.tuple #[.int .i64 x.size,.nilIface])∧da B b (.pointer (some ⟨b,0,none⟩)) {s with l:=s.l++x.data.toList} w'∧bg B b w w':=by
 obtain⟨aQ,V,K,M,N⟩:=info_parts (show(prog.info? 5).map (fun i=>(i.zero,i.size,i.bytes))=some (some (.int .u8 0),1,1) by kernel_rfl)
 have F:=rB B b s w h;obtain⟨l,m,f⟩:=s
 go_enter func229,ntmps229
 go_wp2_with fail;refine F.mono ?_
 rintro e O ⟨rfl,T,A,G⟩;obtain⟨Q,v,u,d,I⟩:=T
 have Z:O.cell? ⟨b,0,none⟩=some (.pointer (some ⟨b,0,none⟩)):=by rw[Lib.cell_of_heap u];rfl
 have c1:O.cell? ⟨b,1,none⟩=some v:=by rw[Lib.cell_of_heap u];rfl
 go_wp2_with (at_builtin;refine Lib.wpList_append_own_string _ rfl _ _ 203 9 rfl B 5 aQ underlying203 underlying9 V K M N _ _ _ rfl d x rfl ?c3 ?c4 ?c5 ?_)
 case c3=>unfold maxLen;have:l.length+x.size≤140737488355328:=y;omega
 case c4=>have:l.length+x.size≤140737488355328:=y;omega
 case c5=>have:=A.size;omega
 intro Y E j a _;have H:b<O.heap.size:=cn u
 have o:E.heap[b]?=some (.cells #[.pointer (some ⟨b,0,none⟩),v,.bool m,.bool f] 259 (0,0)):=by
  rw[a.block b H (fun e=>I e.symm)];exact u
 have d0:E.cell? ⟨b,0,none⟩=some (.pointer (some ⟨b,0,none⟩)):=by rw[Lib.cell_of_heap o];rfl
 have d1:E.cell? ⟨b,1,none⟩=some v:=by rw[Lib.cell_of_heap o];rfl
 have f1:E.frozen? ⟨b,1,none⟩=false:=Lib.frozen_of_heap o 1;have ay:Lib.byteCells l++Lib.strCells x=Lib.byteCells (l++x.data.toList):=by simp[Lib.byteCells,Lib.strCells]
 obtain⟨P,S,z,rfl⟩: ∃P S z,Y= .slice P S z:=by
  rcases j.2 with⟨J,_⟩|⟨g,z,cur,J,_⟩
  · exact⟨_,_,_,J⟩
  · exact⟨_,_,_,J⟩
 go_wp2;go_ret2;refine⟨rfl,?_,?_,(G.grown a (Lib.ownsRow_kind d)).setCell ⟨b,1,none⟩ rfl _⟩
 · exact da.put Q o (by rw[←ay];simpa[Lib.strCells_length]using j)
 · exact(A.grown a (by have:=A.size;omega) (fun k X=>(d.lt k X).1)).setCell (p:=⟨b,1,none⟩) Q _
theorem xM (B b:Nat) (s:Ws) (w:World) (h:Wt B b s w) (u:s.l≠[]):
    Calls prog 234 #[.pointer (some ⟨b,0,none⟩)] w fun e w'=>e= .returned (.string ⟨s.l.toArray⟩)∧Below B w w':=by
 obtain⟨p,S,v,o,d,M⟩:=h.at
 obtain⟨l,m,f⟩:=s
 simp only at o d u⊢;have E:l.length≠0:=by simpa using u
 obtain⟨g,a,cur,rfl,y,J,K,z,I,F⟩: ∃g a cur,v= .slice (some ⟨g,0,none⟩) l.length a∧B≤g∧w.heap[g]?=some (.cells cur 5 (0,0))∧l.length≤a∧a≤maxLen∧cur.size=a*1∧cur.toList.take (l.length*1)=Lib.byteCells l:=by
  rcases d.2 with⟨_,P⟩|⟨g,a,cur,N,r⟩
  · exact absurd P E
  · exact⟨g,a,cur,N,r⟩
 have Q:w.drew.cell? ⟨b,1,none⟩=some (.slice (some ⟨g,0,none⟩) l.length a):=by
  have:w.drew.heap[b]?=some (.cells #[p,.slice (some ⟨g,0,none⟩) l.length a,.bool m,.bool f] 259 (0,0)):=o
  rw[Lib.cell_of_heap this];rfl
 have G:(Builtin.unsafeSliceData_ #[203] 334 #[.slice (some ⟨g,0,none⟩) l.length a]).run prog w.drew= .ok (.pointer (some ⟨g,0,none⟩)) w.drew:=
  Lib.run_unsafeSliceData_row _ _ _ _ _ _ (by omega)
 have H:(Builtin.unsafeString_ #[334,3] 9 #[.pointer (some ⟨g,0,none⟩),.int .i64 l.length]).run prog w.drew= .ok (.string ⟨l.toArray⟩) (w.drew.freeze ⟨g,0,none⟩ l.length):=by
  refine Lib.run_unsafeString_row w.drew 334 3 9 5 underlying334 (by kernel_rfl) g cur.size (by have A:w.drew.heap[g]?=some (.cells cur 5 (0,0)):=J;simp[World.shape?,A]) l u (by omega) (by unfold maxLen at z;omega) ?_
  intro j x O;have:=d.cells (g:=g) rfl j (.int .u8 x.toNat) (by simp[Lib.byteCells,O])
  exact this
 go_enter func234,ntmps234
 go_wp2;go_region
 all_goals (go_wp2;go_ret;exact⟨rfl,Lib.below_freeze (Below.drew (Below.refl B w)) (p:=⟨g,0,none⟩) y _⟩)
def df (W : World) : Prop := Lib.TabIs prog W "internal/strconv.uint64pow10" .u64 Lib.pow10Tab
theorem Tryz.powAt : prog.globalNamed "internal/strconv.uint64pow10" = some 3 := by kernel_rfl
theorem df.belowB {B:Nat} {W a:World} (h:df W) (d:3<B) (hb:Below B W a):df a:=by
 unfold df Lib.TabIs World.var? at h⊢;rw[Tryz.powAt]at h⊢;simp only[Option.bind_some]at h⊢;rw[hb.block 3 d];exact h
theorem below_drewN (W:World) (B k:Nat):Below B W (W.drewN k):=⟨rfl,rfl,rfl,Nat.le_refl _,fun _ _=>rfl⟩
theorem kt {n:Int} (h:eh n) (W:World) (f:df W):Calls prog 174 #[.int .i64 n] W fun e w'=>e= .returned (.string ⟨(Lib.itoa n).toArray⟩)∧Below W.heap.size W w':=by
 refine(Tryz.strconv_Itoa n h.1 h.2 W f).mono ?_
 rintro e w' ⟨rfl,k,os,rfl⟩;have a:=below_drewN W W.heap.size k
 exact⟨rfl,a.os,a.tape,a.output,by show _≤(_++os).size;rw[Array.size_append];have:=a.size;omega,fun j d=>by
  show((W.drewN k).heap++os)[j]?=_
  rw[Array.getElem?_append_left (Nat.lt_of_lt_of_le d a.size)];exact a.block j d⟩
theorem lI (n:Int) (w:World):Calls prog 175 #[.int .i64 n] w fun e w'=>e= .returned (.bool (eB n))∧w'=w:=by
 by_cases a: -1099511627776≤n
 · by_cases d:n≤1099511627776
   · go_enter func175,ntmps175
     go_wp2;go_ret;exact⟨by simp[eB,a,d],rfl⟩
   · go_enter func175,ntmps175
     go_wp2;go_ret;exact⟨by simp[eB,a,d],rfl⟩
 · go_enter func175,ntmps175
   go_wp2;go_ret;exact⟨by simp[eB];intro h;omega,rfl⟩
theorem ku (B b:Nat) (s:Ws) (n:Int) (w:World) (h:Wt B b s w) (hn:eh n) (G:s.l.length≤1000000000) (h3:3<B) (U:df w):
    Calls prog 191 #[.pointer (some ⟨b,0,none⟩),.int .i64 n] w fun e w'=>e= .returned (.tuple #[])∧Wt B b (Wr.num s n) w'∧bg B b w w':=by
 have C5:b<w.heap.size:=by obtain⟨p,A⟩:=h.at;exact A.lt
 have hB:B≤b:=by obtain⟨p,A,_⟩:=h.at;exact A
 have O:B≤w.heap.size:=by omega
 have C4:=rv hn;have S:(⟨(Lib.itoa n).toArray⟩:ByteArray).size=(Lib.itoa n).length:=by simp[ByteArray.size]
 cases T:eB n with
 |true=>
  have P:=lI n w;rw[T]at P;have M:(⟨(s.l++Lib.itoa n)++[59],s.mn,s.fr⟩:Ws)=Wr.num s n:=by simp[Wr.num,T]
  have N:Wt B b s w:=h;have f:bg B b w w:=bg.refl _ _ _;have J:s.l.length≤1000000000:=G;clear h;have V:=hid M;clear M;go_enter func191,ntmps191
  go_wp2_with fail;refine P.mono ?_
  rintro e w1 ⟨rfl,y⟩;rw[y];clear y;go_wp2_with fail;have d:B≤w.heap.size:=Nat.le_trans O f.1.size;have Q:b<w.heap.size:=by obtain⟨p,A⟩:=N.at;exact A.lt
  have j:Below w.heap.size w w.drew:=(Below.refl _ _).drew;have K:df w.drew:=U.belowB h3 (f.1.drew);clear U
  go_region_with (first
   |(go_at_call 174;refine(kt hn _ K).mono ?_;rintro e w3 ⟨rfl,a⟩)
   |(go_at_call 229;refine(oc B b s ⟨(Lib.itoa n).toArray⟩ w3 ((N.below j).below a) (by rw[S];omega) (Nat.le_trans d a.size)).mono ?_;rintro e w4 ⟨rfl,Y,o⟩))
  all_goals
   go_wp2_with fail;refine(rC B b _ 59 _ (Or.inr Y) (by show(s.l++(Lib.itoa n)).length+1≤_;rw[List.length_append];omega) (Nat.le_trans d (Nat.le_trans a.size o.1.size))).mono ?_
   rintro e w5 ⟨rfl,Z,I⟩;go_wp2_with fail;go_end0
   refine⟨rfl,Or.inr ?_,f.trans ((iC (af j a) d).trans (o.trans I))⟩
   rw[←V.out];exact Z
 |false=>
  have P:=lI n w;rw[T]at P;obtain⟨p,A⟩:=h.at
  obtain⟨F,u⟩: ∃F:Ws,F={s with fr:=true}:=⟨_,rfl⟩
  obtain⟨z,E⟩: ∃z,z=w.setCell ⟨b,3,none⟩ (.bool true):=⟨_,rfl⟩
  have X:=hid E;have C3:=hid u;have M:(⟨(F.l++Lib.itoa n)++[59],F.mn,F.fr⟩:Ws)=Wr.num s n:=by rw[u];simp[Wr.num,T]
  have N:Wt B b F z:=by rw[u,E];exact h.elim (fun h=>Or.inl h.far) (fun h=>Or.inr h.far)
  have f:bg B b w z:=by rw[E];exact ob (bg.refl _ _ _) hB _ _
  have J:F.l.length≤1000000000:=by rw[u];exact G
  obtain⟨_,v,H,_,_⟩:=A
  have c3:w.cell? ⟨b,3,none⟩=some (.bool s.fr):=by rw[Lib.cell_of_heap H];rfl
  have f3:w.frozen? ⟨b,3,none⟩=false:=Lib.frozen_of_heap H 3;clear h H E u;have V:=hid M;clear M;go_enter func191,ntmps191
  go_wp2_with fail;refine P.mono ?_
  rintro e w1 ⟨rfl,y⟩;rw[y];clear y;go_wp2_with fail;rw[←X.out];clear c3 f3;have d:B≤z.heap.size:=Nat.le_trans O f.1.size;have Q:b<z.heap.size:=by obtain⟨p,A⟩:=N.at;exact A.lt
  have j:Below z.heap.size z z.drew:=(Below.refl _ _).drew;have K:df z.drew:=U.belowB h3 (f.1.drew);clear U
  go_region_with (first
   |(go_at_call 174;refine(kt hn _ K).mono ?_;rintro e w3 ⟨rfl,a⟩)
   |(go_at_call 229;refine(oc B b F ⟨(Lib.itoa n).toArray⟩ w3 ((N.below j).below a) (by rw[S];omega) (Nat.le_trans d a.size)).mono ?_;rintro e w4 ⟨rfl,Y,o⟩))
  all_goals
   go_wp2_with fail;refine(rC B b _ 59 _ (Or.inr Y) (by show(F.l++(Lib.itoa n)).length+1≤_;rw[List.length_append];omega) (Nat.le_trans d (Nat.le_trans a.size o.1.size))).mono ?_
   rintro e w5 ⟨rfl,Z,I⟩;go_wp2_with fail;go_end0
   refine⟨rfl,Or.inr ?_,f.trans ((iC (af j a) d).trans (o.trans I))⟩
   rw[←V.out];exact Z
theorem Wt.B {B b:Nat} {s:Ws} {w:World} (h:Wt B b s w):B≤b:=by obtain⟨p,a,_⟩:=h.at;exact a
theorem Wt.lt {B b:Nat} {s:Ws} {w:World} (h:Wt B b s w):b<w.heap.size:=by obtain⟨p,a⟩:=h.at;exact a.lt
theorem Wr.num_len {s:Ws} {n:Int} (h:eh n):(Wr.num s n).l.length≤s.l.length+21:=by
 have:=rv h
 simp only[Wr.num,List.length_append,List.length_cons,List.length_nil];omega
theorem Wr.txt_len {s:Ws} {x:ByteArray}:(hZ s x).l.length≤s.l.length+1021:=by
 unfold hZ;split
 · simp[ks]
 · rename_i h
   have a:(Wr.num s x.size).l.length≤s.l.length+21:=Wr.num_len ⟨by omega,by omega⟩;have d:x.data.toList.length=x.size:=by rw[Array.length_toList];rfl
   simp only[List.length_append];omega
theorem Wr.put_len {s:Ws} {x:aL} (h:x.wf):(Wr.put s x).l.length≤s.l.length+1021:=by
 cases x with
 |n i=>have:=Wr.num_len (s:=s) h;show(Wr.num s i).l.length≤_;omega
 |t x=>exact Wr.txt_len
 |big=>show s.l.length≤_;omega
theorem Wr.run_len: ∀(l:List aL) (s:Ws),(∀x∈l,x.wf)→(Wr.run s l).l.length≤s.l.length+1021*l.length
 |[],s,_=>by simp[Wr.run]
 |x::l,s,h=>by
  have d:=Wr.put_len (s:=s) (h x (by simp));have e:=Wr.run_len l (Wr.put s x) (fun y a=>h y (by simp[a]));rw[rp,List.length_cons];omega
theorem rD (B b:Nat) (s:Ws) (n m:Int) (w:World) (h:Wt B b s w) (F:eh n) (f:s.l.length≤1000000000) (z:3<B) (G:df w):
    Calls prog 280 #[.pointer (some ⟨b,0,none⟩),.int .i64 n,.int .i64 m] w fun e w'=>e= .returned (.bool (decide (n≤m)))∧Wt B b (if n≤m then Wr.num s n else ks s) w'∧bg B b w w':=by
 by_cases j:n≤m
 · rw[if_pos j]
   have E:=ku B b s n w h F f z G;have d: ¬n>m:=by omega
   go_enter func280,ntmps280
   go_wp2_with fail;refine E.mono ?_
   rintro e J ⟨rfl,u,o⟩;go_wp2_with fail;go_ret;exact⟨by simp[j],u,o⟩
 · rw[if_neg j]
   have A:=h.B;have y:Wt B b (ks s) (w.setCell ⟨b,2,none⟩ (.bool true)):=h.elim (fun h=>Or.inl h.many) (fun h=>Or.inr h.many);obtain⟨p,_,v,a,_,_⟩:=h.at
   have H:w.cell? ⟨b,2,none⟩=some (.bool s.mn):=by rw[Lib.cell_of_heap a];rfl
   have I:w.frozen? ⟨b,2,none⟩=false:=Lib.frozen_of_heap a 2;have d:m<n:=by omega
   clear a;go_enter func280,ntmps280
   go_wp2_with fail;go_ret;exact⟨by simp[d],y,ob (bg.refl _ _ _) A _ _⟩
theorem df.fr {B b:Nat} {W a:World} (h:df W) (d:3<B) (hb:bg B b W a):df a:=h.belowB d hb.1
theorem xN (B b:Nat) (s:Ws) (x:ByteArray) (w:World) (h:Wt B b s w) (d:s.l.length≤1000000000) (E:3<B) (G:df w) (y:(x.size:Int)≤9223372036854775807):
    Calls prog 231 #[.pointer (some ⟨b,0,none⟩),.string x] w fun e w'=>e= .returned (.tuple #[])∧Wt B b (hZ s x) w'∧bg B b w w':=by
 have H:=h.B;have F:=h.lt;have f:=rD B b s x.size 1000 w h ⟨by omega,y⟩ d E G;by_cases j:(x.size:Int)≤1000
 · rw[if_pos j,decide_eq_true j]at f
   have I:=Wr.num_len (s:=s) (n:=x.size) ⟨by omega,y⟩;go_enter func231,ntmps231
   go_wp2_with fail;refine f.mono ?_
   rintro e z ⟨rfl,o,a⟩;go_wp2_with fail;refine(oc B b _ x z o (by omega) (by have:=a.1.size;omega)).mono ?_
   rintro e J ⟨rfl,A,u⟩;go_wp2_with fail;go_end0
   exact⟨rfl,Or.inr (by rw[hZ,if_neg (by omega)];exact A),a.trans u⟩
 · rw[if_neg j,decide_eq_false j]at f
   go_enter func231,ntmps231
   go_wp2_with fail;refine f.mono ?_
   rintro e z ⟨rfl,o,a⟩;go_wp2_with fail;go_end0
   exact⟨rfl,by rw[hZ,if_pos (by omega)];exact o,a⟩
def kv (B:Nat) (w:World) (v:Value) (P:Pg):Prop:= ∃vt vc,v= .agg #[.bool P.reset,vt,vc,.int .i64 P.cur,.bool P.more]∧aj w vt P.tree∧aw B w vt∧cT B w vc P.cos
theorem kv.lies {B:Nat} {w:World} {v:Value} {P:Pg} (h:kv B w v P):lD w v P:=by
 obtain⟨j,f,a,d,_,e⟩:=h
 exact⟨j,f,a,d,e.lies⟩
theorem kv.below {B:Nat} {w w':World} {v:Value} {P:Pg} (h:kv B w v P) (a:Below w.heap.size w w'):kv B w' v P:=by
 obtain⟨u,o,d,e,f,j⟩:=h
 exact⟨u,o,d,e.below a,f.below a,j.below a⟩
def rE (J:Jo) (c m:Int):Int:=if¬bo J=0 then bo J else if m<1∨10<m∨c<0 then 3 else if Jn.last J<c then 5 else 0
def Jn.behind (J:Jo) (c:Int):List Co:=J.cos.drop (c-(J.first-1)).toNat
theorem Jn.rd_none {J:Jo} {c m:Int} (h:bo J=0) (a: ¬(m<1∨10<m∨c<0)) (d:Jn.last J<c):rE J c m=5:=by rw[rE,if_neg (fun x=>x h),if_neg a,if_pos d]
theorem xO {G:List Gr} {f:ByteArray} (h:G.any (iA f)=true):0<(c9 G f).length:=by
 rw[c9,List.length_map,List.length_filter_pos_iff];simpa using h
theorem xP {G:List Gr} {f:ByteArray} (h:G.any (iA f)=false):(c9 G f).length=0:=by
 rw[c9,List.length_map]
 have:G.filter (iA f)=[]:=by
  rw[List.filter_eq_nil_iff];intro y a;exact List.any_eq_false.1 h y a
 rw[this];rfl
end Go.Proofs.YtgamnckfmmbjdaaGreatDoor
