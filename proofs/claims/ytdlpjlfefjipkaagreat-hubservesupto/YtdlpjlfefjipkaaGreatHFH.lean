/- The order of paths, as a sort asks for it. -/
import Derived.Shelf.SlSortCmp.WholeK
import Derived.Test.YtdlpjlfefjipkaaGreatHFD
import Derived.Test.YtdlpjlfefjipkaaGreatShelfS
import Derived.Lib.OwnBridge
import Derived.Deep.DeepCutAuto
import Derived.Laws.OwnMore
import Derived.Test.YtdlpjlfefjipkaaGreatHFF
set_option linter.unusedSimpArgs false
set_option linter.unusedVariables false
namespace Go.Proofs.YtdlpjlfefjipkaaGreat
open Go.RowKit Go.Maps Go.Proofs.Tryz
set_option maxHeartbeats 2000000
set_option maxRecDepth 100000
theorem ng (x y:En):ltOf Pp.cfE x y=Pp.lt x y:=by rw[gZ];rfl
theorem yz:Sort.SWO (ltOf Pp.cfE) where
 irrefl x:=by rw[ng];exact dU x
 trans x y z h1 h2:=by rw[ng]at*;exact fY x y z h1 h2
 ntrans x y z h1 h2:=by rw[ng]at*;exact rB x y z h1 h2
theorem yA (x y:En) (W:World):Calls prog 225 #[.agg #[x.path,x.folder,x.text,x.ver],.agg #[y.path,y.folder,y.text,y.ver]] W fun e w'=>e= .returned (.int .i64 (Pp.cfE x y))∧ ∃q a,w'=Sort.grow (W.drewN q) a:=by
 have c:Hid (Lib.compareBytes x.path.data.toList y.path.data.toList=Pp.cfE x y):=rfl;go_enter func225,ntmps225
 go_wp2_with fail;refine(Tryz.strings_Compare _ _ _).mono ?_
 rintro e d ⟨rfl,rfl⟩;rw[c.out];go_wp2;go_ret;exact⟨rfl,0,_,by rw[Sort.alloc_eq_grow,Sort.alloc_eq_grow,Sort.grow_grow];rfl⟩
theorem yB {B:Nat} {w0 w:World} (h:Below B w0 w) (a:B≤w.heap.size) (os:Array Obj):Below B w0 (Sort.grow w os):=
 h.trans ⟨rfl,rfl,rfl,by simp[Sort.grow],fun k c=>by simp[Sort.grow,Array.getElem?_append_left (show k<w.heap.size by omega)]⟩
theorem sy: ∀(L:List En) (i c:Nat) (h:i<L.length),c<4→(cq L)[i*4+c]?=(Pp.cells L[i])[c]?
 |[],i,c,h,_=>absurd h (Nat.not_lt_zero _)
 |a::r,0,c,_,hc=>by
  rw[cq,List.flatMap_cons,Nat.zero_mul,Nat.zero_add,List.getElem?_append_left (by simpa[Pp.cells]using hc)];rfl
 |a::r,i+1,c,h,hc=>by
  have ih:=sy r i c (by simpa using h) hc;rw[cq,List.flatMap_cons,List.getElem?_append_right (by simp[Pp.cells];omega)];rw[show(i+1)*4+c-(Pp.cells a).length=i*4+c by simp[Pp.cells];omega];exact ih
theorem sA (e:En) (c:Nat) (a:c<4):(Pp.cells e)[c]?=some ((Pp.cells e)[c]!):=by
 have:c<(Pp.cells e).length:=by simpa[Pp.cells]using a
 rw[List.getElem?_eq_getElem this,getElem!_pos _ c this]
theorem sB [Inhabited En] {w:World} {base g n cap:Nat} {T:TypeId} {L:List En} (h:w.ownsRow base T 4 (.slice (some ⟨g,0,none⟩) n cap) n (cq L)) (f:n=L.length):Sort.HoldsK Pp.cells 4 w g 0 L.toArray:=by
 subst f;intro j a;rw[Sort.size_flatK,List.size_toArray]at a;refine⟨?_,by rw[Nat.zero_add];exact h.frozenAt j⟩
 rw[Nat.zero_add,h.cellAt j a,id,Sort.get_flatK _ _ _ _ (by simpa using a)];have c:j/4<L.length:=by omega
 have d:=sy L (j/4) (j % 4) c (by omega);rw[show j/4*4+j % 4=j by omega]at d;rw[d,sA _ _ (by omega)];have e:L.toArray[j/4]! =L[j/4]:=by rw[getElem!_pos _ _ (by simpa using c)];simp
 rw[e]
theorem Pp.heap_sorted {a:Type} [Inhabited a] (enc:a→List Value) (k:Nat) {w:World} {g n:Nat} (d:Array a) (os:Array Obj) {cur:Array Value} {T:TypeId} {f:Nat×Nat} (h:w.heap[g]?=some (.cells cur T f)) (i:g<w.heap.size): ∃c,(sortWorldK enc k w g 0 n d os).heap[g]?=some (.cells c T f):=by
 simp only[sortWorldK,Sort.putRowK,Sort.putRow,Sort.mapBlock,Sort.grow,Sort.ahead];rw[Array.getElem?_append_left (by simpa using i),Array.getElem?_modify,if_pos rfl,h];exact⟨_,rfl⟩
theorem Pp.lies_holds [Inhabited En] {w:World} {g cap:Nat} {d:Array En} (u:g<w.heap.size) (h:Sort.HoldsK Pp.cells 4 w g 0 d) (s:d.size≤cap) (a:d.size≤1000000000000000):aF w (.slice (some ⟨g,0,none⟩) d.size cap) d.toList:=by
 refine⟨some ⟨g,0,none⟩,cap,by simp,by simpa using s,by simpa using a,fun i v=>⟨g,0,rfl,u,?_⟩⟩
 have j:i<d.size:=by simpa using v
 have e:d[i]! =d.toList[i]:=by rw[getElem!_pos d i j];simp
 have key: ∀c,c<4→w.cell? ⟨g,0+i*4+c,none⟩=(Pp.cells d.toList[i])[c]?:=by
  intro c f;have o:i*4+c<d.size*4:=by omega
  have:=(h (i*4+c) (by rw[Sort.size_flatK];exact o)).1
  rw[id,Sort.get_flatK _ _ _ _ o,show(i*4+c)/4=i by omega,show(i*4+c) % 4=c by omega,e,←sA _ c f]at this;rw[Nat.add_assoc];exact this
 exact⟨key 0 (by omega),key 1 (by omega),key 2 (by omega),key 3 (by omega)⟩
theorem yC {p:Prop} (h:p):Hid p:=h
theorem sC (L:List En) (base g cap:Nat) (w:World) (H:w.ownsRow base 145 4 (.slice (some ⟨g,0,none⟩) L.length cap) L.length (cq L)) (V:L.length≤1000000000) (P:L.length≤cap) (J:base≤g) (B:g<w.heap.size):
    Calls prog 215 #[.slice (some ⟨g,0,none⟩) L.length cap] w fun e w'=>e= .returned (.tuple #[])∧ ∃M:List En,M.Perm L∧M.Pairwise (fun a b=>Pp.lt b a=false)∧gJ base w' (.slice (some ⟨g,0,none⟩) L.length cap) M∧Below base w w':=by
 have N:Inhabited En:=⟨⟨⟨#[]⟩,false,⟨#[]⟩,0⟩⟩
 have A:=sB H rfl;have v:=yC (jk H g rfl).2;have I: ∀o w,(callFunc 225 o).run prog w= .ok (.enter 225 o) w:=enters_of func225 (by kernel_rfl) rfl;have c:=AnyQ.slices_SortFunc Tryz.sortE 4 Tryz.isAgg145 Tryz.sizeOf145 Pp.cells (fun _=>rfl) (fun x=>gH x) Pp.cfE yz 225 #[] g 0 cap L.toArray w I (fun _ _ _ _ x y=>yA x y _) A B (by simp;omega);change Calls prog 224 _ _ _ at c
 rw[List.size_toArray]at c;have O:Hid (Sort.HoldsK Pp.cells 4 w g 0 L.toArray):=A;clear A H I;go_enter func215,ntmps215
 go_wp2_with fail;refine c.mono ?_
 rintro e w' ⟨rfl,d,n,os,K,s,rfl⟩;have u:Hid (Sort.PermIn 0 L.length L.toArray d):=K;have z:Hid (Sort.SortedIn (ltOf Pp.cfE) 0 L.length d):=s;clear K s c;go_wp2;go_end0
 have f:d.size=L.length:=by have:=u.out.1;simpa using this
 refine⟨rfl,d.toList,?_,?_,?_,?_⟩
 · have:=u.out.2.2
   rw[←f]at this;simp only[Array.extract_size]at this;rw[f,←List.size_toArray,Array.extract_size]at this;exact this
 · rw[List.pairwise_iff_getElem]
   intro i j R S F;have G:j<d.size:=by simpa using S
   have E:i<d.size:=by simpa using R
   have:=z.out i j (Nat.zero_le _) F (by omega)
   rw[ng,getElem!_pos d i E,getElem!_pos d j G]at this;simpa using this
 · refine⟨?_,fun U C=>by cases C;obtain⟨cur,T,Q⟩:=v.out;exact⟨J,(Pp.heap_sorted _ _ _ _ Q B).imp fun _ h=>⟨T,h⟩⟩⟩
   rw[←f];exact Pp.lies_holds (by rw[sortWorldK];simp[Sort.grow,Sort.size_putRowK,Sort.ahead];omega) (holdsK_sortWorldK_c Pp.cells 4 w g 0 L.toArray d n os O.out B (by rw[f];simp)) (by omega) (by omega)
 · exact yB (Lib.below_putRow (Below.refl base w) J) (by simp[Sort.putRow,Sort.mapBlock,Sort.ahead];omega) os
theorem Pp.out_ne (x:En) (L:List En): ∀y∈L.filter (fun e=> !aR x.path.data.toList e),y.path.data.toList≠x.path.data.toList:=by
 intro y a;have:=(List.mem_filter.1 a).2
 simpa[aR]using this
def Pp.out (x:En) (L:List En):List En:=L.filter (fun e=> !aR x.path.data.toList e)
theorem Pp.own_mono {w:World} {base B:Nat} {e:TypeId} {size:Nat} {v:Value} {n:Nat} {d:List Value} (h:w.ownsRow base e size v n d) (i:B≤base):w.ownsRow B e size v n d:=by
 obtain⟨f,c⟩:=h
 refine⟨f,?_⟩
 rcases c with c|⟨g,a,cur,o,j,r⟩
 · exact .inl c
 · exact .inr ⟨g,a,cur,o,Nat.le_trans i j,r⟩
theorem Pp.carry {W c:World} {g:Nat} {a:List Value} (h:Below W.heap.size W c) (f:g<W.heap.size) (i: ∀j u,a[j]?=some u→W.cell? ((⟨g,0,none⟩:Addr).add j)=some u): ∀j u,a[j]?=some u→c.cell? ((⟨g,0,none⟩:Addr).add j)=some u:=by
 intro j u o;have d:((⟨g,0,none⟩:Addr).add j).block=g:=by unfold Addr.add;split<;>rfl
 exact(h.cell (p:=(⟨g,0,none⟩:Addr).add j) (by rw[d];exact f)).trans (i j u o)
theorem yD (w:World) (x:En) (T a:TypeId): ∀j u,(Pp.cells x)[j]?=some u→((w.alloc (.cells #[x.path,x.folder,x.text,x.ver] T)).alloc (.cells #[x.path,x.folder,x.text,x.ver] a)).drew.cell? ((⟨w.heap.size+1,0,none⟩:Addr).add j)=some u:=by
 intro j u c;have h:=gi (w.alloc (.cells #[x.path,x.folder,x.text,x.ver] T)) x a j u c;rw[show(w.alloc (.cells #[x.path,x.folder,x.text,x.ver] T)).heap.size=w.heap.size+1 by simp]at h;exact h
theorem Pp.own_shape {w:World} {base:Nat} {T:TypeId} {v:Value} {L:List En} (h:w.ownsRow base T 4 v L.length (cq L)) (j:L≠[]): ∃g a,v= .slice (some ⟨g,0,none⟩) L.length a∧base≤g∧g<w.heap.size∧L.length≤a∧a≤maxLen:=by
 obtain⟨z,o⟩:=h
 rcases o with⟨_,i⟩|⟨g,a,cur,rfl,s,f,x,u,i,d⟩
 · exact absurd (List.length_eq_zero_iff.1 i) j
 · have c:g<w.heap.size:=by
    rcases Nat.lt_or_ge g w.heap.size with h|h
    · exact h
    · rw[Array.getElem?_eq_none h]at f;cases f
   exact⟨g,a,rfl,s,c,x,u⟩
theorem o8 {W a:World} (h:Below W.heap.size W a) {b:Nat} (c:b<W.heap.size) (p:ByteArray) (f:Bool) (t:ByteArray) (n:Int) (d:W.cell? ⟨b,0,none⟩=some (.string p)) (g:W.cell? ⟨b,1,none⟩=some (.bool f)) (i:W.cell? ⟨b,2,none⟩=some (.string t)) (j:W.cell? ⟨b,3,none⟩=some (.int .i64 n)):
    a.cell? ⟨b,0,none⟩=some (.string p)∧a.cell? ⟨b,1,none⟩=some (.bool f)∧a.cell? ⟨b,2,none⟩=some (.string t)∧a.cell? ⟨b,3,none⟩=some (.int .i64 n):=
 ⟨(h.cell (p:=⟨b,0,none⟩) c).trans d,(h.cell (p:=⟨b,1,none⟩) c).trans g,(h.cell (p:=⟨b,2,none⟩) c).trans i,(h.cell (p:=⟨b,3,none⟩) c).trans j⟩
theorem yE {W a:World} {row:Option Nat} (h:W.grownBy a row) {b:Nat} (c:some b≠row) (p:ByteArray) (f:Bool) (t:ByteArray) (n:Int) (d:W.cell? ⟨b,0,none⟩=some (.string p)) (g:W.cell? ⟨b,1,none⟩=some (.bool f)) (i:W.cell? ⟨b,2,none⟩=some (.string t)) (j:W.cell? ⟨b,3,none⟩=some (.int .i64 n)):
    a.cell? ⟨b,0,none⟩=some (.string p)∧a.cell? ⟨b,1,none⟩=some (.bool f)∧a.cell? ⟨b,2,none⟩=some (.string t)∧a.cell? ⟨b,3,none⟩=some (.int .i64 n):=
 ⟨h.cell d c,h.cell g c,h.cell i c,h.cell j c⟩
theorem sD (L:List En) (v:Value) (x:En) (w:World) (hv:aF w v L) (hn:L.length≤60) (hs:dk L) (hx:x.path.size≤1000000000000000) (hL:L.Pairwise (fun x y=>Pp.lt x y=true)):
    Calls prog 201 #[v,.agg #[.string x.path,.bool x.folder,.string x.text,.int .i64 x.ver]] w fun e w'=>
     (60<(Pp.out x L).length+1∧e= .returned (.tuple #[al,.int .i64 2])∧Below w.heap.size w w')∨
     (¬60<(Pp.out x L).length+1∧ ∃u,e= .returned (.tuple #[u,ah])∧gJ w.heap.size w' u (b7 x (Pp.out x L))∧Below w.heap.size w w'):=by
 obtain⟨i0,Z,E1,E2,E3⟩:=info_parts Tryz.infoE
 have HV:Hid (aF w v L):=hv;have HS:Hid (dk L):=hs;have HL:Hid (L.Pairwise (fun x y=>Pp.lt x y=true)):=hL;clear hv hs hL;have E5:(L.filter (fun e=> !aR x.path.data.toList e)).length≤L.length:=List.length_filter_le _ _;go_enter func201,ntmps201
 go_wp2_with fail
 go_region_held3 (fun W=>W.cell? ⟨w.heap.size,0,none⟩=some (.string x.path)∧W.cell? ⟨w.heap.size,1,none⟩=some (.bool x.folder)∧W.cell? ⟨w.heap.size,2,none⟩=some (.string x.text)∧W.cell? ⟨w.heap.size,3,none⟩=some (.int .i64 x.ver)) (go_keep) (first
  |(go_at_call 179;refine(jh _ _).mono ?_;rintro e wa ⟨rfl,I,d⟩;have E0:Below w.heap.size w wa:=Below.trans (by go_grown) (d.mono (by first|(simp;done)|(simp;omega)));have s:w.heap.size<wa.heap.size:=(by have:=d.size;simp at this;omega);have A:=o8 (b:=w.heap.size) d (by first|(simp;done)|(simp;omega)) x.path x.folder x.text x.ver (by simp) (by simp) (by simp) (by simp))
  |(go_at_call 203;refine(o5 _ _ (aR x.path.data.toList) _ (by first|(simpa using I)|(simpa using I.below ak))).mono ?_;rintro e wb ⟨rfl,J,c⟩;have K:Below w.heap.size w wb:=Below.trans (by go_grown) (c.mono (by(try simp);omega));have z:w.heap.size<wb.heap.size:=(by have:=c.size;(try simp at this);omega);have C:=o8 (b:=w.heap.size) c (by(try simp);omega) x.path x.folder x.text x.ver (by first|exact A.1|simp[go_sem,A,s]) (by first|exact A.2.1|simp[go_sem,A,s]) (by first|exact A.2.2.1|simp[go_sem,A,s]) (by first|exact A.2.2.2|simp[go_sem,A,s]);clear A I)
  |(go_at_call 169;refine(lU L v _ _ (fun e=> !aR x.path.data.toList e) _ (HV.out.below (by first|exact K|go_grown)) (by first|(simpa using J)|(simpa using J.below ak)) (by omega) HS.out).mono ?_;rintro e wc ⟨u,rfl,hou,hnu,hbc⟩;have hwc:Below w.heap.size w wc:=Below.trans (by first|exact K|go_grown) (hbc.mono (by(try simp);omega));have i:w.heap.size<wc.heap.size:=(by have:=hbc.size;(try simp at this);omega);have E:=o8 (b:=w.heap.size) hbc (by(try simp);omega) x.path x.folder x.text x.ver (by first|exact C.1|simp[go_sem,C,z]) (by first|exact C.2.1|simp[go_sem,C,z]) (by first|exact C.2.2.1|simp[go_sem,C,z]) (by first|exact C.2.2.2|simp[go_sem,C,z]);have S:=Pp.own_mono hou (B:=w.heap.size+1) (by(try simp);omega);clear C J hou)
  |(refine gK rfl (.tmp 12) (.tmp 14) 33 rfl (w.heap.size+1) 145 i0 (.agg #[.string ⟨#[]⟩,false,.string ⟨#[]⟩,ah]) 4 48 underlying33 Z E1 E2 E3 rfl (by decide) u _ _ (by simp[Act.eval,Act.put]) (by first|exact S|exact S.alloc _) _ 1 1 (Pp.cells x) (by simp[Act.eval,Act.put];rfl) rfl (by first|exact gi wc x _|exact Pp.carry hbc (by simp) (gi wb x _)|exact Pp.carry hbc (by have:=c.size;simp at this;omega) (Pp.carry c (by simp) (gi wa x _))|exact Pp.carry hbc (by have:=c.size;have:=d.size;simp at this;omega) (Pp.carry c (by have:=d.size;simp at this;omega) (Pp.carry (g:=w.heap.size+1) d (by simp) (yD w x _ _)))) (gH x) (by unfold maxLen;omega) (by omega) (by(try simp);omega) ?_;intro v5 w5 H j R;have kq:=yE (b:=w.heap.size) j (fun e=>by have:=(S.lt _ e.symm).1;omega) x.path x.folder x.text x.ver (by first|exact E.1|simp[go_sem,E,i]) (by first|exact E.2.1|simp[go_sem,E,i]) (by first|exact E.2.2.1|simp[go_sem,E,i]) (by first|exact E.2.2.2|simp[go_sem,E,i]);clear E))
 all_goals
  have P:Below w.heap.size w w5:=Below.grown (by first|exact hwc|exact hwc.alloc (Nat.le_of_lt i) _) j (by(try simp);omega) (fun k hk=>by have:=(S.lt k hk).1;omega);rw[gG]at H
  have T:w5.ownsRow w.heap.size 145 4 v5 (Pp.out x L++[x]).length (cq (Pp.out x L++[x])):=by
   rw[List.length_append];exact Pp.own_mono H (by omega)
  have HO:Hid (w5.ownsRow w.heap.size 145 4 v5 (Pp.out x L++[x]).length (cq (Pp.out x L++[x]))):=T;clear H T j R kq S hnu hwc i hbc c d K E0 s z;obtain⟨g,N,rfl,X,Y,V,E4⟩:=Pp.own_shape HO.out (by simp)
  by_cases f:60<((Pp.out x L++[x]).length:Int)
  · have O:60<(Pp.out x L).length+1:=by rw[List.length_append]at f;simp at f;omega
    have G:Hid (60<(Pp.out x L).length+1):=O;clear O;rw[List.length_append,List.length_singleton]at f;go_wp2_with fail;go_ret2;exact Or.inl ⟨G.out,rfl,P⟩
  · have G:=hid (show¬60<(Pp.out x L).length+1 from by rw[List.length_append]at f;simp at f;omega)
    have o:(Pp.out x L++[x]).length=(Pp.out x L).length+1:=by simp
    rw[o]at f V;have a:Hid ((Pp.out x L).length+1=(Pp.out x L++[x]).length):=o.symm;clear o;go_wp2_with fail;rw[a.out];refine(sC (Pp.out x L++[x]) w.heap.size g N _ HO.out (by rw[←a.out];omega) (by rw[←a.out];omega) X Y).mono ?_
    rintro e w6 ⟨rfl,M,hp,F,Q,U⟩
    have HM:=hid (show gJ w.heap.size w6 (.slice (some ⟨g,0,none⟩) (Pp.out x L++[x]).length N) (b7 x (Pp.out x L))from by
     have e:=xv hp F (List.Pairwise.filter _ HL.out) (Pp.out_ne x L);rw[←e];exact Q)
    clear hp F Q;rw[←a.out];go_wp2;go_ret2;exact Or.inr ⟨G.out,_,rfl,by rw[a.out];exact HM.out,P.trans U⟩
theorem sE {w f:World} {a b c d e:Value} {T:TypeId} (h:Below (w.alloc (.cells #[a,b,c,d,e] T)).heap.size (w.alloc (.cells #[a,b,c,d,e] T)) f):
    f.cell? ⟨w.heap.size,0,none⟩=some a∧f.cell? ⟨w.heap.size,1,none⟩=some b∧f.cell? ⟨w.heap.size,2,none⟩=some c∧f.cell? ⟨w.heap.size,3,none⟩=some d∧f.cell? ⟨w.heap.size,4,none⟩=some e∧Below w.heap.size w f∧w.heap.size<f.heap.size:=by
 have g:w.heap.size<(w.alloc (.cells #[a,b,c,d,e] T)).heap.size:=by simp
 refine⟨?_,?_,?_,?_,?_, ak.trans (h.mono (Nat.le_of_lt g)),Nat.lt_of_lt_of_le g h.size⟩
 · exact(h.cell (p:=⟨w.heap.size,0,none⟩) g).trans (by simp)
 · exact(h.cell (p:=⟨w.heap.size,1,none⟩) g).trans (by simp)
 · exact(h.cell (p:=⟨w.heap.size,2,none⟩) g).trans (by simp)
 · exact(h.cell (p:=⟨w.heap.size,3,none⟩) g).trans (by simp)
 · exact(h.cell (p:=⟨w.heap.size,4,none⟩) g).trans (by simp)
def eW (q:List UInt8) (b:Int) (e:En):Bool:=decide (b<e.ver) && d7 q e
theorem sF (x:En) (q:ByteArray) (k:Int) (t u:ByteArray) (b:Int) (c d g:Nat) (i:Array Value) (w:World) (F:c<w.heap.size) (H:d<w.heap.size) (E:w.cell? ⟨c,4,none⟩=some (.int .i64 b)) (s:w.cell? ⟨d,0,none⟩=some (.func (.func g) #[] i)) (v:dh w g i (d7 q.data.toList)) (J:x.path.size≤1000000000000000):
    Calls prog 200 #[.agg #[x.path,x.folder,x.text,x.ver],.pointer (some ⟨c,0,none⟩),.pointer (some ⟨d,0,none⟩)] w fun r w'=>r= .returned (.bool (eW q.data.toList b x))∧Below w.heap.size w w':=by
 have G: ∀o,(w.alloc o).cell? ⟨c,4,none⟩=some (.int .i64 b):=fun o=>(((Below.refl w.heap.size w).alloc ax o).cell (p:=⟨c,4,none⟩) F).trans E
 have I: ∀o,(w.alloc o).cell? ⟨d,0,none⟩=some (.func (.func g) #[] i):=fun o=>(((Below.refl w.heap.size w).alloc ax o).cell (p:=⟨d,0,none⟩) H).trans s
 have B:Hid (dh w g i (d7 q.data.toList)):=v;have C:=v.1;clear v;by_cases A:b<x.ver
 · have j:=hid (show d7 q.data.toList x=eW q.data.toList b x from by rw[eW];simp[A])
   go_enter func200,ntmps200
   go_wp2_with fail;refine(B.out.2 _ ak x J).mono ?_
   rintro r P ⟨rfl,a⟩;obtain⟨K,M,N,O,f,z⟩:=dK a
   clear a C;go_wp2;go_ret;exact⟨br j.out,f⟩
 · have j:=hid (show false=eW q.data.toList b x from by rw[eW];simp[A])
   go_enter func200,ntmps200
   go_wp2;go_ret;exact⟨br j.out,ak⟩
theorem sG (L:List En) (v:Value) (k:Int) (p q t:ByteArray) (b:Int) (w:World) (G:aF w v L) (E:dk L) (S:p.size≤1000000000000000) (C:b= -1∨L.find? (eW p.data.toList b)=none):
    Calls prog 182 #[v,.agg #[k,p,q,t,b]] w fun e w'=>e= .returned (.bool false)∧Below w.heap.size w w':=by
 have M:Hid (aF w v L):=G;have J:=hid (show∀e∈L,e.path.size≤1000000000000000 from fun e R=>(E e R).1);clear G E;by_cases z:b= -1
 · subst z
   go_enter func182,ntmps182
   go_wp2;go_ret;exact⟨rfl,ak⟩
 · have I:=hid (show L.find? (eW p.data.toList b)=none from C.resolve_left z)
   have V:(b== -1)=false:=by simpa using z
   clear C;have T: ∀(W:World) (a:Addr) (f:Fn) (x y:Array Value),(store a (.func f x y)).run prog W=stored prog W a (.func f x y) .plain:=fun W a f x y=>run_store prog W a _ _ rfl
   go_enter func182,ntmps182
   go_wp2_with fail;refine(lT p _ S).mono ?_
   rintro e u ⟨rfl,F,i⟩;obtain⟨N,O,P,Q,B,j,c⟩:=sE i
   have K:Hid (dh u 214 #[.pointer (some ⟨(w.alloc (.cells #[k,p,q,t,b] 83)).heap.size,0,none⟩)] (d7 p.data.toList)):=F;clear F i;go_wp2_with fail;refine(iI L v _ _ (eW p.data.toList b) _ (M.out.below (j.alloc (Nat.le_of_lt c) _)) ⟨enters_of func200 (by kernel_rfl) rfl,?_⟩ J.out).mono ?_
   · intro W A x U
     have d:Below u.heap.size u W:= ak.trans (A.mono (by simp));refine sF x p k t q b w.heap.size u.heap.size 214 #[.pointer (some ⟨w.heap.size+1,0,none⟩)] W (Nat.lt_of_lt_of_le c d.size) (Nat.lt_of_lt_of_le (by simp) A.size) ((d.cell (p:=⟨w.heap.size,4,none⟩) c).trans B) ((A.cell (p:=⟨u.heap.size,0,none⟩) (by simp)).trans (by simp)) ?_ U
     have h:=K.out.below d;simpa using h
   · rintro e H ⟨rfl,g⟩
     rw[I.out,ic];have o:Below w.heap.size w H:=(j.alloc (Nat.le_of_lt c) _).trans (g.mono (by simp;omega));have s:w.heap.size<H.heap.size:=by have:=g.size;simp at this;omega
     clear g N O P Q B;go_wp2;go_ret;exact⟨rfl,o.alloc (Nat.le_of_lt s) _⟩
def iJ (k:Int) (p t:ByteArray) (n:Int):En:=⟨p,decide (k=1),t,n⟩
def cW (L:List En) (q:List UInt8):Int:=match L.findIdx? (aR q)with
 |some i=>(i:Int)
 |none=> -1
theorem yF {L:List En} {q:List UInt8} {k:Nat} (a:k<L.length) (h: ∀j (h:j<L.length),j<k→aR q L[j]=false) (d:aR q L[k]=true):(k:Int)=cW L q:=by
 have:L.findIdx? (aR q)=some k:=List.findIdx?_eq_some_iff_getElem.2 ⟨a,d,fun j c=>by rw[h j (by omega) c];simp⟩
 rw[cW,this]
theorem yG {L:List En} {q:List UInt8} (h: ∀j (h:j<L.length),aR q L[j]=false): -1=cW L q:=by
 have:L.findIdx? (aR q)=none:=List.findIdx?_eq_none_iff.2 fun x c=>by
  obtain⟨j,a,rfl⟩:=List.getElem_of_mem c
  exact h j a
 rw[cW,this]
theorem lW (L:List En) (q:List UInt8):(cW L q= -1∧L.find? (aR q)=none)∨ ∃k,∃h:k<L.length,cW L q=(k:Int)∧L.find? (aR q)=some L[k]:=by
 cases d:L.findIdx? (aR q)with
 |none=>
  refine Or.inl ⟨by rw[cW,d],?_⟩
  rw[List.find?_eq_none];intro x i;have:=List.findIdx?_eq_none_iff.1 d x i
  simp[this]
 |some k=>
  obtain⟨a,g,c⟩:=List.findIdx?_eq_some_iff_getElem.1 d
  refine Or.inr ⟨k,a,by rw[cW,d],rU a (fun j h f=>?_) g⟩
  have:=c j f
  simpa using this
theorem eX (L:List En) (v:Value) (q:ByteArray) (w:World) (H:aF w v L):
    Calls prog 113 #[v,q] w fun e w'=>e= .returned (.int .i64 (cW L q.data.toList))∧Below w.heap.size w w':=by
 obtain⟨a,C,rfl,A,u,z⟩:=H
 have B:Hid (∀i (h:i<L.length),∃b o,a=some ⟨b,o,none⟩∧b<w.heap.size∧dJ w b (o+i*4) L[i]):=z;clear z;go_enter func113,ntmps113
 go_wp2;go_loopw [5] (fun i wr=> ∃k:Nat,k≤L.length∧i= .int .i64 k∧Hid (∀j (h:j<L.length),j<k→aR q.data.toList L[j]=false)∧Below w.heap.size w wr) (fun i _=>L.length-(intOf i).toNat)
 case atStart=>exact⟨0,Nat.zero_le _,rfl,(fun j _ h=>absurd h (Nat.not_lt_zero _): ∀j (h:j<L.length),j<0→aR q.data.toList L[j]=false),aw⟩
 case round=>
  obtain⟨k,O,rfl,s,c⟩:=hrel
  by_cases d:k<L.length
  · obtain⟨b,o,rfl,F,G⟩:=B.out k d
    obtain⟨I,J,K,M⟩:=G.below F c
    cases f:aR q.data.toList L[k]with
    |true=>
     have x:((L[k]).path.toList==q.toList)=true:=by rw[←f,aR,Lib.toList_data,Lib.toList_data]
     have g:=hid (show(k:Int)=cW L q.data.toList from yF d s.out f);go_wp2;go_ret;exact⟨aB g.out,c⟩
    |false=>
     have x:((L[k]).path.toList==q.toList)=false:=by rw[←f,aR,Lib.toList_data,Lib.toList_data]
     go_wp2;go_roundw
     case rel=>exact⟨k+1,by omega,by simp,(fun j E N=>by
      by_cases e:j=k
      · subst e;exact f
      · exact s.out j E (by omega): ∀j (h:j<L.length),j<k+1→aR q.data.toList L[j]=false),c⟩
     case measure=>simp[intOf];omega
  · have g:=hid (show-1=cW L q.data.toList from yG (fun j h=>s.out j h (by omega)))
    go_wp2;go_ret;exact⟨aB g.out,c⟩
def yH (c:Int):Int:=if c<0∨1000000<c then 3 else 0
def sH (T:List En) (c:Int):Int:=if¬bg T=0 then bg T else yH c
def Jn.rstE (P:Pg):Int:=if¬sH P.tree P.cur=0 then sH P.tree P.cur else if 0<P.cos.length∨P.more=true then 1 else 0
def Cs (W:World) (b:Nat) (vs:List Value):Prop:= ∃T,W.heap[b]?=some (.cells vs.toArray T (0,0))
theorem Cs.lt {W:World} {b:Nat} {vs:List Value} (h:Cs W b vs):b<W.heap.size:=h.elim fun _ h=>fG h
theorem Cs.cell {W:World} {b:Nat} {vs:List Value} (h:Cs W b vs) (i:Nat) {v:Value} (a:vs[i]?=some v):W.cell? ⟨b,i,none⟩=some v:=by
 obtain⟨T,h⟩:=h
 simp[World.cell?,h,a]
theorem Cs.fr {W:World} {b:Nat} {vs:List Value} (h:Cs W b vs) (i:Nat):W.frozen? ⟨b,i,none⟩=false:=by
 obtain⟨T,h⟩:=h
 simp[World.frozen?,h]
theorem Cs.belowAt {W a:World} {b B:Nat} {vs:List Value} (h:Cs W b vs) (d:Below B W a) (c:b<B):Cs a b vs:=by
 obtain⟨T,h⟩:=h
 exact⟨T,(d.block b c).trans h⟩
theorem Cs.below {W a:World} {b:Nat} {vs:List Value} (h:Cs W b vs) (c:Below W.heap.size W a):Cs a b vs:=h.belowAt c h.lt
theorem Cs.nb {W c:World} {b g:Nat} {vs:List Value} (h:Cs W b vs) (f:W.grownBy c (some g)) (a:b≠g):Cs c b vs:=by
 have d:=h.lt;obtain⟨T,h⟩:=h
 exact⟨T,(f.block b d (fun e=>a (by injection e))).trans h⟩
theorem Cs.new (w:World) (vs:List Value) (T:TypeId):Cs (w.alloc (.cells vs.toArray T)) w.heap.size vs:=⟨T,by show(w.heap.push _)[w.heap.size]?=_;simp⟩
theorem Cs.set {W:World} {b:Nat} {vs:List Value} (h:Cs W b vs) (i:Nat) (u:Value):Cs (W.setCell ⟨b,i,none⟩ u) b (vs.set i u):=by
 obtain⟨T,h⟩:=h
 refine⟨T,?_⟩
 unfold World.setCell;simp only[Array.getElem?_modify,h,if_true,Option.map_some];simp
theorem aj (W:World) (b o:Nat) (u:Value):W.grownBy (W.setCell ⟨b,o,none⟩ u) (some b):=
 ⟨rfl,rfl,rfl,by simp,fun k _ a=>Below.heap_setCell W _ u k (fun e=>a (by rw[e]))⟩
theorem Cs.other {W:World} {b a o:Nat} {vs:List Value} (h:Cs W b vs) (c:b≠a) (u:Value):Cs (W.setCell ⟨a,o,none⟩ u) b vs:=h.nb (aj W a o u) c
def di (W:World) (g:Nat):Prop:= ∀o s,W.cell? ⟨g,o,none⟩≠some (.string s)
theorem Cs.noStr {W:World} {b:Nat} {vs:List Value} (h:Cs W b vs) (c: ∀s,Value.string s∉vs):di W b:=by
 obtain⟨T,h⟩:=h
 intro o s;simp only[World.cell?,h];intro a;have:vs[o]?=some (.string s):=by simpa using a
 exact c s (List.mem_of_getElem? this)
theorem pd {W:World} {P:Program} {k:TypeId} {R:Value→Option (DataW Unit×List MemPlace)} {b n:Nat} {D:DataW Unit} (h:W.ownsMap P k R b n D):di W b:=by
 obtain⟨d,a,c,_⟩:=h
 intro o s;simp[World.cell?,c]
theorem dJ.ne {W:World} {b o g:Nat} {e:En} (h:dJ W b o e) (c:di W g):b≠g:=fun a=>c o e.path (a▸h.1)
theorem gI.ne {W:World} {b o g:Nat} {c:aE} (h:gI W b o c) (d:di W g):b≠g:=fun a=>d (o+1) c.p (a▸h.2.1)
theorem iK {W d:World} {g b:Nat} (i:W.grownBy d (some g)) (f:b<W.heap.size) (c:b≠g) (o:Nat):d.cell? ⟨b,o,none⟩=W.cell? ⟨b,o,none⟩:=
 World.cell?_of_block (w:=W) (a:=⟨b,o,none⟩) (i.block b f (fun e=>c (by injection e)))
theorem aF.nb {W j:World} {v:Value} {L:List En} {g:Nat} (h:aF W v L) (u:W.grownBy j (some g)) (E:di W g):aF j v L:=by
 obtain⟨a,f,F,x,z,A⟩:=h
 refine⟨a,f,F,x,z,fun i C=>?_⟩
 obtain⟨b,o,B,s,d⟩:=A i C
 have c:=iK u s (d.ne E);exact⟨b,o,B,Nat.lt_of_lt_of_le s u.size,(c _).trans d.1,(c _).trans d.2.1,(c _).trans d.2.2.1,(c _).trans d.2.2.2⟩
theorem cP.nb {W j:World} {v:Value} {L:List aE} {g:Nat} (h:cP W v L) (u:W.grownBy j (some g)) (E:di W g):cP j v L:=by
 obtain⟨a,f,F,x,z,A⟩:=h
 refine⟨a,f,F,x,z,fun i C=>?_⟩
 obtain⟨b,o,B,s,d⟩:=A i C
 have c:=iK u s (d.ne E);exact⟨b,o,B,Nat.lt_of_lt_of_le s u.size,(c _).trans d.1,(c _).trans d.2.1,(c _).trans d.2.2.1,(c _).trans d.2.2.2.1,(c _).trans d.2.2.2.2⟩
structure aZ (w w':World) (b m:Nat):Prop where
 os:w'.os=w.os
 tape:w'.tape=w.tape
 output:w'.output=w.output
 size:w.heap.size≤w'.heap.size
 block: ∀k,k<w.heap.size→k≠b→k≠m→w'.heap[k]?=w.heap[k]?
theorem aZ.of_below {w w':World} (b m:Nat) (h:Below w.heap.size w w'):aZ w w' b m:=⟨h.os,h.tape,h.output,h.size,fun k a _ _=>h.block k a⟩
theorem aZ.of_left {w w':World} {b:Nat} (m:Nat) (h:w.grownBy w' (some b)):aZ w w' b m:=⟨h.os,h.tape,h.output,h.size,fun k c a _=>h.block k c (fun e=>a (by injection e))⟩
theorem aZ.of_right {w w':World} {m:Nat} (b:Nat) (h:w.grownBy w' (some m)):aZ w w' b m:=⟨h.os,h.tape,h.output,h.size,fun k a _ c=>h.block k a (fun e=>c (by injection e))⟩
theorem aZ.trans {a c d:World} {b m:Nat} (h:aZ a c b m) (k:aZ c d b m):aZ a d b m:=
 ⟨k.os.trans h.os,k.tape.trans h.tape,k.output.trans h.output,Nat.le_trans h.size k.size,fun q i f g=>(k.block q (Nat.lt_of_lt_of_le i h.size) f g).trans (h.block q i f g)⟩
theorem aZ.to {w w':World} {b m B:Nat} (h:aZ w w' b m) (d:B≤w.heap.size) (a:B≤b) (c:B≤m):Below B w w':=⟨h.os,h.tape,h.output,h.size,fun k f=>h.block k (by omega) (by omega) (by omega)⟩
theorem aZ.cell {w w':World} {b m k:Nat} (h:aZ w w' b m) (f:k<w.heap.size) (c:k≠b) (d:k≠m) (o:Nat):w'.cell? ⟨k,o,none⟩=w.cell? ⟨k,o,none⟩:=World.cell?_of_block (w:=w) (a:=⟨k,o,none⟩) (h.block k f c d)
theorem Cs.nb2 {w w':World} {b m k:Nat} {vs:List Value} (h:Cs w k vs) (f:aZ w w' b m) (a:k≠b) (c:k≠m):Cs w' k vs:=by
 have d:=h.lt;obtain⟨T,h⟩:=h
 exact⟨T,(f.block k d a c).trans h⟩
theorem pe {B b:Nat} {w0 W:World} {v0 v1 v2:Value} (h:Below B w0 W) (a:B≤b):Below B w0 (((W.setCell ⟨b,0,none⟩ v0).setCell ⟨b,1,none⟩ v1).setCell ⟨b,2,none⟩ v2):=(((h.setCell (p:=⟨b,0,none⟩) a _).setCell (p:=⟨b,1,none⟩) a _).setCell (p:=⟨b,2,none⟩) a _)
theorem yI {B b:Nat} {w0 W:World} {v0 v1 v2 v3:Value} (h:Below B w0 W) (a:B≤b):Below B w0 ((((W.setCell ⟨b,0,none⟩ v0).setCell ⟨b,1,none⟩ v1).setCell ⟨b,2,none⟩ v2).setCell ⟨b,3,none⟩ v3):=((((h.setCell (p:=⟨b,0,none⟩) a _).setCell (p:=⟨b,1,none⟩) a _).setCell (p:=⟨b,2,none⟩) a _).setCell (p:=⟨b,3,none⟩) a _)
theorem ph {B b:Nat} {w0 W:World} {v0 v1 v2 v3 v4:Value} (h:Below B w0 W) (a:B≤b):Below B w0 (((((W.setCell ⟨b,0,none⟩ v0).setCell ⟨b,1,none⟩ v1).setCell ⟨b,2,none⟩ v2).setCell ⟨b,3,none⟩ v3).setCell ⟨b,4,none⟩ v4):=(((((h.setCell (p:=⟨b,0,none⟩) a _).setCell (p:=⟨b,1,none⟩) a _).setCell (p:=⟨b,2,none⟩) a _).setCell (p:=⟨b,3,none⟩) a _).setCell (p:=⟨b,4,none⟩) a _)
theorem ei {B b:Nat} {w0 W:World} {v0 v1 v2 v3 v4 v5 v6:Value} (h:Below B w0 W) (a:B≤b):Below B w0 (((((((W.setCell ⟨b,0,none⟩ v0).setCell ⟨b,1,none⟩ v1).setCell ⟨b,2,none⟩ v2).setCell ⟨b,3,none⟩ v3).setCell ⟨b,4,none⟩ v4).setCell ⟨b,5,none⟩ v5).setCell ⟨b,6,none⟩ v6):=(((((((h.setCell (p:=⟨b,0,none⟩) a _).setCell (p:=⟨b,1,none⟩) a _).setCell (p:=⟨b,2,none⟩) a _).setCell (p:=⟨b,3,none⟩) a _).setCell (p:=⟨b,4,none⟩) a _).setCell (p:=⟨b,5,none⟩) a _).setCell (p:=⟨b,6,none⟩) a _)
def ie (w:World) (v:Value):Prop:= ∀g,v.ownBlock=some g→di w g
theorem nh {w:World} {g:Nat} {cur:Array Value} {T:TypeId} {a:Nat×Nat} (h:w.heap[g]?=some (.cells cur T a)) (d: ∀s,Value.string s∉cur.toList):di w g:=by
 intro o s c;have:cur.toList[o]?=some (.string s):=by simpa[World.cell?,h]using c
 exact d s (List.mem_of_getElem? this)
theorem sI {w:World} {g:Nat} {cur:Array Value} {T:TypeId} {a:Nat×Nat} (h:w.heap[g]?=some (.cells cur T a)) (c:di w g): ∀s,Value.string s∉cur.toList:=by
 intro s f;obtain⟨o,d⟩:=List.getElem?_of_mem f
 exact c o s (by simpa[World.cell?,h]using d)
theorem di.keep {w w':World} {g:Nat} (h:di w g) (c:w'.heap[g]?=w.heap[g]?):di w' g:=by
 intro o s;rw[World.cell?_of_block (w:=w) (a:=⟨g,o,none⟩) c];exact h o s
theorem ie.below {w w':World} {v:Value} (h:ie w v) (c: ∀g,v.ownBlock=some g→g<w.heap.size) (d:Below w.heap.size w w'):ie w' v:=fun g a=>(h g a).keep (d.block g (c g a))
theorem sJ {z:Array Value} (i: ∀s,Value.string s∉z.toList) (n:Nat) (s:ByteArray):Value.string s∉(Builtin.zeroCells z n).toList:=by
 intro h;simp only[Builtin.zeroCells]at h;simp at h
 obtain⟨k,g,f⟩:=h
 have a:0<z.size:=by
  rcases Nat.eq_zero_or_pos z.size with c|c
  · rw[c]at g;simp at g
  · exact c
 have d:k % z.size<z.size:=Nat.mod_lt _ a;rw[getElem!_pos z _ d]at f;exact i s (by rw[←f];simp)
theorem yJ {P:Program} (w:World) (base:Nat) (t T e:TypeId) (i:TypeInfo) (z:Value) (size bytes:Nat) (ht:P.underlying t=some (.slice e)) (Y:P.info? e=some i) (hz:i.zero=some z)
    (I:i.size=size) (V:i.bytes=bytes) (E4:z.cells.size=size) (E3:0<size) (v:Value) (n:Nat) (xs:List Value) (C:w.ownsRow base e size v n xs)
    (a:Addr) (m c:Nat) (d:List Value) (R:d.length=m*size) (x: ∀j u,d[j]?=some u→w.cell? (a.add j)=some u) (h1: ∀u∈d,u.oneCell'=true)
    (U:n+m≤maxLen) (B:(n+m)*bytes≤140737488355328) (hm:0<m) (O: ∀s,Value.string s∉z.cells.toList) (H: ∀s,Value.string s∉d) (N:ie w v)
    {v':Value} {w':World} (Z:(Builtin.append_ #[t,t] T #[v,.slice (some a) m c]).run P w= .ok v' w'):ie w' v':=by
 subst I;subst V;have S:n+m≤9223372036854775807:=by simp only[maxLen]at U;omega
 rcases C.2 with⟨rfl,rfl⟩|⟨g,G,cur,rfl,E0,Q,E2,E1,X,J⟩
 · have A:=run_append_nil (P:=P) w t T e i z ht Y hz a m c d R x hm (by omega) (by have hb:=B;simp only[Nat.zero_add]at hb;omega)
   rw[Z]at A;injection A with A K
   subst A;subst K;intro g o;simp only[Value.ownBlock,Option.some.injEq]at o;subst o;refine nh (heap_alloc_new w.drew _) ?_
   intro s f;rw[Array.toList_append,List.mem_append]at f;rcases f with f|f
   · exact H s f
   · exact sJ O _ s f
 · by_cases E:n+m≤G
   · have M:n*i.size+d.length≤cur.size:=by rw[R,X,←Nat.add_mul];exact Nat.mul_le_mul_right _ E
     have A:=run_append_room (P:=P) w t T e i ht Y g n G cur Q a m c d R x h1 E M;rw[Z]at A;injection A with A K
     subst A;subst K;have F:=sI Q (N g rfl);intro g' o;simp only[Value.ownBlock,Option.some.injEq]at o;subst o;refine nh (setRow_heap w g cur _ e _ Q) ?_
     intro s f;simp only[List.mem_append]at f;rcases f with(f|f)|f
     · exact F s (List.mem_of_mem_take f)
     · exact H s f
     · exact F s (List.mem_of_mem_drop f)
   · have A:=run_append_grow (P:=P) w t T e i z ht Y hz ⟨g,0,none⟩ n G xs C.1 (C.cells (g:=g) rfl) a m c d R x (by omega) (by omega) (growslice_fits (by omega) B)
     rw[Z]at A;injection A with A K
     subst A;subst K;have F:=sI Q (N g rfl);intro g' o;simp only[Value.ownBlock,Option.some.injEq]at o;subst o;refine nh (heap_alloc_new w.drew _) ?_
     intro s f;rw[Array.toList_append,Array.toList_append,List.mem_append,List.mem_append]at f;rcases f with(f|f)|f
     · have:Value.string s∈xs:=by simpa using f
       rw[←J]at this;exact F s (List.mem_of_mem_take this)
     · exact H s (by simpa using f)
     · exact sJ O _ s f
theorem yK {P:Program} (w:World) {I:Array Oper} {rest:List Oper} {o:Oper} {a:Act} {Q:Exit→Act→World→Prop} (M:o.guard=none) (s x:Operand) (t:TypeId)
    (ho:o.op= .call {callee:= .builtin .append,args:= #[s,x],argTypes:= #[t,t]})
    (base:Nat) (e:TypeId) (i:TypeInfo) (z:Value) (size bytes:Nat) (X:P.underlying t=some (.slice e)) (T:P.info? e=some i) (Y:i.zero=some z)
    (A:i.size=size) (F:i.bytes=bytes) (H:z.cells.size=size) (G:0<size)
    (v:Value) (n:Nat) (K:List Value) (hs:a.eval s=v) (B:w.ownsRow base e size v n K)
    (ad:Addr) (m c:Nat) (d:List Value) (hx:a.eval x= .slice (some ad) m c) (U:d.length=m*size) (g: ∀j u,d[j]?=some u→w.cell? (ad.add j)=some u) (S: ∀u∈d,u.oneCell'=true)
    (E:n+m≤maxLen) (f:(n+m)*bytes≤140737488355328) (C:base≤w.heap.size) (hm:0<m) (R: ∀s,Value.string s∉z.cells.toList) (N: ∀s,Value.string s∉d) (O:ie w v)
    (h: ∀J w',w'.ownsRow base e size J (n+m) (K++d)→w.grownBy w' v.ownBlock→ie w' J→wpList P I Q rest (a.put o.dst J) w'):wpList P I Q (o::rest) a w:=by
 refine wpList_plain M fun _ hK=>?_
 obtain⟨J,w',V,Z,h3,h4⟩:=run_append_own (P:=P) w base t o.type e i z size bytes X T Y A F H G v n K B ad m c d U g S E f C
 have h5:=yJ (P:=P) w base t o.type e i z size bytes X T Y A F H G v n K B ad m c d U g S E f hm R N O V;unfold Oper.wp execOp;simp only[ho,resolve,invoke,builtin,Sem.run_bind,Sem.run_pure,Result.andThen_ok,List.map_toArray,List.map_cons,List.map_nil,hs,hx,V];exact hK _ _ (h J w' Z h3 h5)
theorem aF.row {w w':World} {x v:Value} {L:List En} (h:aF w x L) (a:w.grownBy w' v.ownBlock) (f:ie w v):aF w' x L:=by
 cases c:v.ownBlock with
 |none=>
  rw[c]at a;exact h.below ⟨a.os,a.tape,a.output,a.size,fun k d=>a.block k d (by simp)⟩
 |some g=>
  rw[c]at a;exact h.nb a (f g c)
theorem ac {p:Prop} (h:p):Hid p:=h
theorem yL {l:List UInt8} (h:aA l=true):47∉l:=by
 intro a
 have d: ∀c∈l,dD c=true:=by
  simp only[aA,Bool.and_eq_true,List.all_eq_true]at h;first|exact h.1|exact h.1.1|exact h.1.1.1|exact h.1.1.1.1|exact h.1.1.1.1.1|exact h.1.1.1.1.1.1|exact fun c f=>(h.1 c f)|simp_all
 exact absurd (d 47 a) (by decide)
theorem yM {l:List UInt8} (h:aA l=true):l.length≤20:=by
 simp only[aA,Bool.and_eq_true,decide_eq_true_eq]at h;omega
theorem yN {l:List UInt8} (h:aA l=true):aD l=0:=by
 have a:az l=[l]:=jC l (yL h);have c:(az l).all aA=true:=by rw[a];simp[h]
 rw[oE c,if_neg];have:=yM h
 simp[bv,a]
 omega
def lX (l:List UInt8):Int:=if aA l=true then 0 else 1
def aU (ns:List ByteArray):Int:=if(ns.all fun s=>aA s.data.toList)=true then 0 else 1
theorem yO (s:ByteArray) (w:World) (o:s.size≤1000000000000000):
    Calls prog 89 #[.string ⟨#[]⟩,s] w fun e w'=> ∃u,e= .returned (.tuple #[u,lX s.data.toList])∧Below w.heap.size w w':=by
 have j:s.size≤maxLen:=by unfold maxLen;omega
 cases c:aA s.data.toList with
 |true=>
  have f:=ac c;have v:=ac (yN c);have d:=hid (show lX s.data.toList=0 from if_pos c);have x:=hid (show(⟨(jE [] s.data.toList).toArray⟩:ByteArray)=s from by rw[jE,if_pos rfl]);clear c;go_enter func89,ntmps89
  go_wp2_with fail;refine(kT s _ j).mono ?_
  rintro e i ⟨rfl,a⟩;rw[a,f.out];clear a i;go_wp2_with fail;refine(xP ⟨#[]⟩ s _ (by decide) o).mono ?_
  rintro e z ⟨rfl,a⟩;rw[a,show(⟨(jE (⟨#[]⟩:ByteArray).data.toList s.data.toList).toArray⟩:ByteArray)=s from x.out];clear a z;go_wp2_with fail;refine(rR s _ o v.out).mono ?_
  rintro e A ⟨rfl,g⟩;go_wp2;go_ret2;exact⟨_,by rw[d.out];rfl,g⟩
 |false=>
  have f:=ac c;have d:=hid (show lX s.data.toList=1 from if_neg (by rw[c];decide));clear c;go_enter func89,ntmps89
  go_wp2_with fail;refine(kT s _ j).mono ?_
  rintro e i ⟨rfl,a⟩;rw[a,f.out];clear a i;go_wp2_with fail;go_ret2;exact⟨_,by rw[d.out];rfl,aw⟩
theorem k6 (a:List ByteArray) (g o cap:Nat) (w:World) (O:g<w.heap.size) (G: ∀i (h:i<a.length),(a[i]).size≤1000000000000000) (S:a.length≤1000) (E: ∀i (h:i<a.length),w.cell? ⟨g,o+i,none⟩=some (.string a[i])):
    Calls prog 57 #[.slice (some ⟨g,o,none⟩) a.length cap] w fun e w'=>e= .returned (.int .i64 (aU a))∧Below w.heap.size w w':=by
 have H:=ac E;have I:=ac G;clear E G;go_enter func57,ntmps57
 have J:=hid (show∀k (h:k<a.length),(∀j (h:j<a.length),j<k→aA (a[j]).data.toList=true)→aA (a[k]).data.toList=false→(a.all fun s=>aA s.data.toList)=false from fun k h _ F=>List.all_eq_false.2 ⟨a[k],List.getElem_mem h,by rw[F];decide⟩)
 have K:=hid (show(∀j (h:j<a.length),aA (a[j]).data.toList=true)→(a.all fun s=>aA s.data.toList)=true from fun h=>List.all_eq_true.2 fun x Q=>by
  obtain⟨j,P,rfl⟩:=List.getElem_of_mem Q
  exact h j P)
 go_wp2;go_loopw [9] (fun i wr=> ∃k:Nat,k≤a.length∧i= .int .i64 k∧Hid (∀j (h:j<a.length),j<k→aA (a[j]).data.toList=true)∧Below w.heap.size w wr) (fun i _=>a.length-(intOf i).toNat)
 case atStart=>exact⟨0,Nat.zero_le _,rfl,(fun j _ h=>absurd h (Nat.not_lt_zero _): ∀j (h:j<a.length),j<0→aA (a[j]).data.toList=true),aw⟩
 case round=>
  obtain⟨k,F,rfl,B,c⟩:=hrel
  by_cases f:k<a.length
  · have M:=(c.cell (p:=⟨g,o+k,none⟩) O).trans (H.out k f)
    go_wp2_with fail;refine(yO a[k] _ (I.out k f)).mono ?_
    rintro e T ⟨u,rfl,z⟩;have d:=aG c z;clear c z M;cases v:aA (a[k]).data.toList with
    |true=>
     rw[lX,if_pos v]
     have C:=hid (show∀j (h:j<a.length),j<k+1→aA (a[j]).data.toList=true from fun j N R=>by
      by_cases e:j=k
      · subst e;exact v
      · exact B.out j N (by omega))
     clear v;go_wp2;go_roundw
     case rel=>exact⟨k+1,by omega,by simp,C,d⟩
     case measure=>simp[intOf];omega
    |false=>
     rw[lX,if_neg (by rw[v];decide)];have A:=hid (show(1:Int)=aU a from by rw[aU,if_neg (by rw[J.out k f B.out v];decide)]);clear v;go_wp2;go_ret;exact⟨aB A.out,d⟩
  · have A:=hid (show(0:Int)=aU a from by rw[aU,if_pos (K.out (fun j h=>B.out j h (by omega)))])
    go_wp2;go_ret;exact⟨aB A.out,c⟩
def Pp.vs (l:List (List UInt8)):List Value:=l.map fun x=> .string ⟨x.toArray⟩
theorem sK (l:List (List UInt8)) (x:List UInt8):Pp.vs l++[.string ⟨x.toArray⟩]=Pp.vs (l++[x]):=by simp[Pp.vs]
theorem yP (s:ByteArray) (f k:Nat):s.extract f k=⟨((s.data.toList.drop f).take (k-f)).toArray⟩:=gE (Lib.extract_data s f k)
theorem yQ (s:ByteArray) (f:Nat):s.extract f s.size=⟨(s.data.toList.drop f).toArray⟩:=gE (by rw[Lib.extract_data];exact List.take_of_length_le (by rw[List.length_drop,←Lib.size_eq];exact ax))
theorem yR (s:ByteArray) (f k:Nat) (d:f≤k) (a:k<s.size):s.data.toList.drop f=(s.data.toList.drop f).take (k-f)++s[k]::s.data.toList.drop (k+1):=by
 have c:k<s.data.toList.length:=by simpa using a
 conv=>lhs;rw[←List.take_append_drop (k-f) (s.data.toList.drop f)]
 rw[List.drop_drop,show f+(k-f)=k by omega,List.drop_eq_getElem_cons c,byte_at' s k a c]
theorem yS (s:ByteArray) (f k:Nat) (g:f≤k) (a:k<s.size):(s.data.toList.drop f).take (k+1-f)=(s.data.toList.drop f).take (k-f)++[s[k]]:=by
 have d:k<s.data.toList.length:=by simpa using a
 have c:k-f<(s.data.toList.drop f).length:=by rw[List.length_drop];omega
 rw[show k+1-f=(k-f)+1 by omega,List.take_succ_eq_append_getElem c,List.getElem_drop];congr 2
 rw[←byte_at' s k a d];congr 1
 omega
def kj (s:ByteArray) (dn:List (List UInt8)) (f k:Nat):Prop:=az s.data.toList=dn++az (s.data.toList.drop f)∧47∉(s.data.toList.drop f).take (k-f)∧dn.length≤k∧f≤k
theorem yT (s:ByteArray):kj s [] 0 0:=⟨by simp,by simp,by simp,ax⟩
theorem yU (s:ByteArray) {dn:List (List UInt8)} {f k:Nat} (d:k<s.size) (h:kj s dn f k) (c:(s[k].toNat:Int)=47):kj s (dn++[(s.data.toList.drop f).take (k-f)]) (k+1) (k+1):=by
 have e:s[k]=47:=UInt8.toNat_inj.1 (by simpa using Int.ofNat.inj c);refine⟨?_,by simp,by have:=h.2.2.1;simp;omega,ax⟩
 have e2:=yR s f k h.2.2.2 d;rw[e]at e2
 have a:az (s.data.toList.drop f)=(s.data.toList.drop f).take (k-f)::az (s.data.toList.drop (k+1)):=by
  conv=>lhs;rw[e2]
  exact ox _ _ h.2.1
 rw[h.1,a];simp
theorem yV (s:ByteArray) {dn:List (List UInt8)} {f k:Nat} (d:k<s.size) (h:kj s dn f k) (c:(s[k].toNat:Int)≠47):kj s dn f (k+1):=by
 refine⟨h.1,?_,by have:=h.2.2.1;omega,by have:=h.2.2.2;omega⟩
 rw[yS s f k h.2.2.2 d];intro a;rcases List.mem_append.1 a with a|a
 · exact h.2.1 a
 · rw[List.mem_singleton]at a
   exact c (by rw[←a];rfl)
theorem yW (s:ByteArray) {dn:List (List UInt8)} {f:Nat} (h:kj s dn f s.size):az s.data.toList=dn++[s.data.toList.drop f]:=by
 rw[h.1,jC];have:=h.2.1
 rwa [List.take_of_length_le (by rw[List.length_drop,←Lib.size_eq];exact ax)]at this
theorem Tryz.infoS:(prog.info? 9).map (fun i=>(i.zero,i.size,i.bytes))=some (some (.string ⟨#[]⟩),1,16):=by kernel_rfl
theorem yX (s:ByteArray) (w:World) (U:s.size≤1000000000):
    Calls prog 117 #[s] w fun e w'=> ∃v,e= .returned v∧w'.ownsRow w.heap.size 9 1 v (az s.data.toList).length (Pp.vs (az s.data.toList))∧Below w.heap.size w w':=by
 obtain⟨Q,P,E,F,G⟩:=info_parts Tryz.infoS
 go_enter func117,ntmps117
 go_wp2
 go_loopw [3,4,5] (fun v fr i wr=> ∃(x:List (List UInt8)) (f k:Nat),k≤s.size∧f≤k∧x.length≤k∧fr= .int .i64 f∧i= .int .i64 k∧wr.ownsRow w.heap.size 9 1 v x.length (Pp.vs x)∧Below w.heap.size w wr∧Hid (kj s x f k))
  (fun _ _ i _=>s.size-(intOf i).toNat)
 case atStart=>exact⟨[],0,0,Nat.zero_le _,ax,ax,rfl,rfl,World.ownsRow_nil _ _ _ _,aw,yT s⟩
 case round=>
  obtain⟨x,f,k,T,S,R,rfl,rfl,o,a,J⟩:=hrel
  by_cases B:k<s.size
  · cases O:((s[k].toNat:Int)==47)with
    |true=>
     have M:=hid (show(s[k].toNat:Int)=47 from by simpa using O);go_wp2_with (at_builtin;refine wpList_append_own _ rfl _ _ 65 rfl w.heap.size 9 Q (.string ⟨#[]⟩) 1 16 underlying65 P E F G rfl (by decide) _ _ _ rfl (o.alloc _) ⟨wr.heap.size,0,none⟩ 1 1 [s.extract f k] rfl rfl ?c1 ?c2 ?c3 ?c4 ?c5 ?_)
     case c1=>
      intro j u z;match j,z with
      |0,z=>simp at z;subst z;simp[Addr.add]
     case c2=>intro u C;simp at C;subst C;rfl
     case c3=>unfold maxLen;omega
     case c4=>omega
     case c5=>have:=a.size;simp;omega
     intro I H c d _;have A:Below w.heap.size w H:=(a.alloc a.size _).grown d (by have:=a.size;simp;omega) (fun g N=>(o.lt g N).1);rw[yP,sK]at c;have K:Hid (H.ownsRow w.heap.size 9 1 I (x.length+1) (Pp.vs (x++[(s.data.toList.drop f).take (k-f)]))):=c;clear c d o a;go_wp2;go_roundw
     case rel=>exact⟨x++[(s.data.toList.drop f).take (k-f)],k+1,k+1,by omega,ax,by simp;omega,by simp,by simp,by rw[List.length_append];exact K.out,A,yU s B J.out M.out⟩
     case measure=>simp[intOf];omega
    |false=>
     have M:=hid (show(s[k].toNat:Int)≠47 from by simpa using O);go_wp2;go_roundw
     case rel=>exact⟨x,f,k+1,by omega,by omega,by omega,rfl,by simp,o,a,yV s B J.out M.out⟩
     case measure=>simp[intOf];omega
  · obtain rfl:k=s.size:=by omega
    go_wp2_with (at_builtin;refine wpList_append_own _ rfl _ _ 65 rfl w.heap.size 9 Q (.string ⟨#[]⟩) 1 16 underlying65 P E F G rfl (by decide) _ _ _ rfl (o.alloc _) ⟨wr.heap.size,0,none⟩ 1 1 [s.extract f s.size] rfl rfl ?d1 ?d2 ?d3 ?d4 ?d5 ?_)
    case d1=>
     intro j u z;match j,z with
     |0,z=>simp at z;subst z;simp[Addr.add]
    case d2=>intro u C;simp at C;subst C;rfl
    case d3=>unfold maxLen;omega
    case d4=>omega
    case d5=>have:=a.size;simp;omega
    intro I H c d _;have A:Below w.heap.size w H:=(a.alloc a.size _).grown d (by have:=a.size;simp;omega) (fun g N=>(o.lt g N).1);rw[yQ,sK]at c;have K:Hid (H.ownsRow w.heap.size 9 1 I (x.length+1) (Pp.vs (x++[s.data.toList.drop f]))):=c;clear c d o a;go_wp2;go_ret;exact⟨I,rfl,by rw[yW s J.out,List.length_append];exact K.out,A⟩
theorem Pp.nm_mem_len: ∀(l:List UInt8) (x:List UInt8),x∈az l→x.length≤l.length
 |[],x,h=>by simp[az]at h;simp[h]
 |c::r,x,h=>by
  rw[az]at h;split at h
  · rcases List.mem_cons.1 h with h|h
    · simp[h]
    · have:=Pp.nm_mem_len r x h;simp;omega
  · cases e:az r with
    |nil=>exact absurd e (jB r)
    |cons y t=>
     rw[e]at h;rcases List.mem_cons.1 h with h|h
     · have:=Pp.nm_mem_len r y (by rw[e];simp);rw[h];simp;omega
     · have:=Pp.nm_mem_len r x (by rw[e];simp[h]);simp;omega
theorem fI (s:ByteArray) (w:World) (F:s.size≤1000000000):
    Calls prog 117 #[s] w fun e w'=> ∃g a,e= .returned (.slice (some ⟨g,0,none⟩) (az s.data.toList).length a)∧(az s.data.toList).length≤a∧a≤maxLen∧w.heap.size≤g∧g<w'.heap.size∧
     (∀i (h:i<(az s.data.toList).length),w'.cell? ⟨g,i,none⟩=some (.string ⟨((az s.data.toList)[i]).toArray⟩))∧Below w.heap.size w w':=by
 refine(yX s w F).mono ?_
 rintro e w' ⟨v,rfl,d,B⟩;obtain⟨C,A⟩:=d
 rcases A with⟨_,z⟩|⟨g,a,cur,rfl,o,f,x,u,G,c⟩
 · exact absurd (List.length_eq_zero_iff.1 z) (jB _)
 · have j:g<w'.heap.size:=by
    rcases Nat.lt_or_ge g w'.heap.size with h|h
    · exact h
    · rw[Array.getElem?_eq_none h]at f;cases f
   refine⟨g,a,rfl,x,u,o,j,fun i h=>?_,B⟩
   have E:w'.ownsRow w.heap.size 9 1 (.slice (some ⟨g,0,none⟩) (az s.data.toList).length a) (az s.data.toList).length (Pp.vs (az s.data.toList)):=⟨C,.inr ⟨g,a,cur,rfl,o,f,x,u,G,c⟩⟩
   rw[E.cellAt i (by omega)];simp[Pp.vs,h]
theorem pi (s:ByteArray) (w:World) (j:s.size≤1000000000):
    Calls prog 118 #[s] w fun e w'=>e= .returned (.bool (bv s.data.toList))∧Below w.heap.size w w':=by
 have A:(az s.data.toList).length≤s.size+1:=by have:=i6 s.data.toList;rwa [←Lib.size_eq]at this
 have a:(6:Int)<(az s.data.toList).length→true=bv s.data.toList:=fun h=>by
  symm;simp only[bv,Bool.or_eq_true,decide_eq_true_eq];omega
 have c:(80:Int)<s.size→true=bv s.data.toList:=fun h=>by
  symm;simp only[bv,Bool.or_eq_true,decide_eq_true_eq,←Lib.size_eq];omega
 have d:((az s.data.toList).length:Int)≤6→(s.size:Int)≤80→false=bv s.data.toList:=fun x z=>by
  symm;simp only[bv,Bool.or_eq_false_iff,decide_eq_false_iff_not,←Lib.size_eq];omega
 by_cases u:(6:Int)<(az s.data.toList).length
 · have H:Hid (true=bv s.data.toList):=a u
   clear a c d;go_enter func118,ntmps118
   go_wp2_with fail;refine(fI s _ j).mono ?_
   rintro e o ⟨g,f,rfl,_,_,_,_,_,i⟩;go_wp2;go_ret;exact⟨br H.out,i⟩
 by_cases v:(80:Int)<s.size
 · have H:Hid (true=bv s.data.toList):=c v
   clear a c d;go_enter func118,ntmps118
   go_wp2_with fail;refine(fI s _ j).mono ?_
   rintro e o ⟨g,f,rfl,_,_,_,_,_,i⟩;go_wp2;go_ret;exact⟨br H.out,i⟩
 · have H:Hid (false=bv s.data.toList):=d (by omega) (by omega)
   clear a c d;go_enter func118,ntmps118
   go_wp2_with fail;refine(fI s _ j).mono ?_
   rintro e o ⟨g,f,rfl,_,_,_,_,_,i⟩;go_wp2;go_ret;exact⟨br (by rw[←H.out];simp;omega),i⟩
theorem ig (s:ByteArray) (w:World) (C:s.size≤1000000000):
    Calls prog 109 #[s] w fun e w'=>e= .returned (.int .i64 (aD s.data.toList))∧Below w.heap.size w w':=by
 have P:(az s.data.toList).length≤s.size+1:=by have:=i6 s.data.toList;rwa [←Lib.size_eq]at this
 obtain⟨L,A⟩: ∃L,L=az s.data.toList:=⟨_,rfl⟩
 have z:Hid (L=az s.data.toList):=A;rw[←A]at P
 have x: ∀i (h:i<L.length),(L[i]).length≤s.size:=by
  intro i h;have:=Pp.nm_mem_len s.data.toList L[i] (by rw[←A];exact List.getElem_mem h)
  rwa [←Lib.size_eq]at this
 clear A;go_enter func109,ntmps109
 go_wp2_with fail;refine(fI s _ C).mono ?_
 rintro e H ⟨g,J,rfl,B,K,N,O,a,v⟩;rw[←z.out]at B a⊢;have I:Hid (∀i (h:i<L.length),H.cell? ⟨g,i,none⟩=some (.string ⟨(L[i]).toArray⟩)):=a;clear a;go_wp2;go_loopw [4] (fun i wr=> ∃k:Nat,k≤L.length∧i= .int .i64 k∧Hid ((L.take k).all aA=true)∧wr=H) (fun i _=>L.length-(intOf i).toNat)
 case atStart=>exact⟨0,Nat.zero_le _,rfl,rfl,rfl⟩
 case round=>
  obtain⟨k,Q,rfl,F,rfl⟩:=hrel
  by_cases d:k<L.length
  · have M:=I.out k d
    cases f:aA L[k]with
    |true=>
     have u:Hid (aA L[k]=true):=f;clear f;go_wp2_with fail;refine(aM _ _ (by rw[i7];have:=x k d;omega)).mono ?_
     rintro e E ⟨rfl,rfl⟩;simp only[u.out];go_wp2;go_roundw
     case rel=>exact⟨k+1,by omega,by simp,(by rw[List.take_succ_eq_append_getElem d];exact oA F.out u.out:(L.take (k+1)).all aA=true),trivial⟩
     case measure=>simp[intOf];omega
    |false=>
     have u:Hid (aA L[k]=false):=f;clear f;go_wp2_with fail;refine(aM _ _ (by rw[i7];have:=x k d;omega)).mono ?_
     rintro e E ⟨rfl,rfl⟩;simp only[u.out];go_wp2;go_ret;exact⟨aB (oz s (dn:=L.take k) (r:=L.drop (k+1)) (n:=L[k]) (by rw[←z.out,←List.drop_eq_getElem_cons d,List.take_append_drop]) u.out),v⟩
  · have G:=hid (show L.all aA=true from by have:=F.out;rwa [List.take_of_length_le (by omega)]at this)
    cases c:bv s.data.toList with
    |true=>
     have o:Hid (bv s.data.toList=true):=c;clear c;go_wp2_with fail;refine(pi s _ C).mono ?_
     rintro e E ⟨rfl,j⟩;simp only[o.out];go_wp2;go_ret;exact⟨aB (by rw[aD,←z.out,if_pos G.out,if_pos o.out]),v.trans (j.mono v.size)⟩
    |false=>
     have o:Hid (bv s.data.toList=false):=c;clear c;go_wp2_with fail;refine(pi s _ C).mono ?_
     rintro e E ⟨rfl,j⟩;simp only[o.out];go_wp2;go_ret;exact⟨aB (by rw[aD,←z.out,if_pos G.out,if_neg (by rw[o.out];decide)]),v.trans (j.mono v.size)⟩
end Go.Proofs.YtdlpjlfefjipkaaGreat
