/- What tree.sortPaths does: it puts entries in the order of their paths. -/
import Derived.Test.YtgamnckfmmbjdaaGreatDoorWGG
import Derived.Test.YtgamnckfmmbjdaaGreatDoorWGF
import Derived.Test.YtgamnckfmmbjdaaGreatDoorShelfS
import Derived.Lib.OwnBridge
import Derived.Deep.DeepCutAuto
import Derived.Test.YtgamnckfmmbjdaaGreatDoorWGE
set_option linter.unusedSimpArgs false
set_option linter.unusedVariables false
namespace Go.Proofs.YtgamnckfmmbjdaaGreatDoor
open Go.RowKit Go.Proofs.Tryz
set_option maxHeartbeats 2000000
set_option maxRecDepth 100000
theorem u9 (x y:En) (W:World):Calls prog 350 #[.agg #[.string x.path,.bool x.folder,.string x.text,.int .i64 x.ver],.agg #[.string y.path,.bool y.folder,.string y.text,.int .i64 y.ver]] W fun e w'=>e= .returned (.int .i64 (Pp.cfE x y))∧ ∃q a,w'=Sort.grow (W.drewN q) a:=by
 have d:Hid (Lib.compareBytes x.path.data.toList y.path.data.toList=Pp.cfE x y):=rfl;go_enter func350,ntmps350
 go_wp2_with fail;refine(Tryz.strings_Compare _ _ _).mono ?_
 rintro e f ⟨rfl,rfl⟩;rw[d.out];go_wp2;go_ret;exact⟨rfl,0,_,by rw[Sort.alloc_eq_grow,Sort.alloc_eq_grow,Sort.grow_grow];rfl⟩
theorem vd {B:Nat} {a w:World} (h:Below B a w) (d:B≤w.heap.size) (os:Array Obj):Below B a (Sort.grow w os):=
 h.trans ⟨rfl,rfl,rfl,by simp[Sort.grow],fun k e=>by simp[Sort.grow,Array.getElem?_append_left (show k<w.heap.size by omega)]⟩
theorem qg: ∀(L:List En) (i c:Nat) (h:i<L.length),c<4→(bw L)[i*4+c]?=(Pp.cells L[i])[c]?
 |[],i,c,h,_=>absurd h (Nat.not_lt_zero _)
 |a::r,0,c,_,hc=>by
  rw[bw,List.flatMap_cons,Nat.zero_mul,Nat.zero_add,List.getElem?_append_left (by simpa[Pp.cells]using hc)];rfl
 |a::r,i+1,c,h,hc=>by
  have ih:=qg r i c (by simpa using h) hc;rw[bw,List.flatMap_cons,List.getElem?_append_right (by simp[Pp.cells];omega)];rw[show(i+1)*4+c-(Pp.cells a).length=i*4+c by simp[Pp.cells];omega];exact ih
theorem qh (e:En) (c:Nat) (a:c<4):(Pp.cells e)[c]?=some ((Pp.cells e)[c]!):=by
 have:c<(Pp.cells e).length:=by simpa[Pp.cells]using a
 rw[List.getElem?_eq_getElem this,getElem!_pos _ c this]
theorem qi [Inhabited En] {w:World} {base g n cap:Nat} {T:TypeId} {L:List En} (h:w.ownsRow base T 4 (.slice (some ⟨g,0,none⟩) n cap) n (bw L)) (o:n=L.length):Sort.HoldsK Pp.cells 4 w g 0 L.toArray:=by
 subst o;intro j a;rw[Sort.size_flatK,List.size_toArray]at a;refine⟨?_,by rw[Nat.zero_add];exact h.frozenAt j⟩
 rw[Nat.zero_add,h.cellAt j a,id,Sort.get_flatK _ _ _ _ (by simpa using a)];have d:j/4<L.length:=by omega
 have f:=qg L (j/4) (j % 4) d (by omega);rw[show j/4*4+j % 4=j by omega]at f;rw[f,qh _ _ (by omega)];have e:L.toArray[j/4]! =L[j/4]:=by rw[getElem!_pos _ _ (by simpa using d)];simp
 rw[e]
theorem Pp.heap_sorted {a:Type} [Inhabited a] (enc:a→List Value) (k:Nat) {w:World} {g n:Nat} (d:Array a) (os:Array Obj) {cur:Array Value} {T:TypeId} {f:Nat×Nat} (h:w.heap[g]?=some (.cells cur T f)) (j:g<w.heap.size): ∃e,(sortWorldK enc k w g 0 n d os).heap[g]?=some (.cells e T f):=by
 simp only[sortWorldK,Sort.putRowK,Sort.putRow,Sort.mapBlock,Sort.grow,Sort.ahead];rw[Array.getElem?_append_left (by simpa using j),Array.getElem?_modify,if_pos rfl,h];exact⟨_,rfl⟩
theorem Pp.lies_holds [Inhabited En] {w:World} {g cap:Nat} {d:Array En} (y:g<w.heap.size) (h:Sort.HoldsK Pp.cells 4 w g 0 d) (u:d.size≤cap) (a:d.size≤1000000000000000):aj w (.slice (some ⟨g,0,none⟩) d.size cap) d.toList:=by
 refine⟨some ⟨g,0,none⟩,cap,by simp,by simpa using u,by simpa using a,fun i z=>⟨g,0,rfl,y,?_⟩⟩
 have j:i<d.size:=by simpa using z
 have e:d[i]! =d.toList[i]:=by rw[getElem!_pos d i j];simp
 have key: ∀c,c<4→w.cell? ⟨g,0+i*4+c,none⟩=(Pp.cells d.toList[i])[c]?:=by
  intro c f;have o:i*4+c<d.size*4:=by omega
  have:=(h (i*4+c) (by rw[Sort.size_flatK];exact o)).1
  rw[id,Sort.get_flatK _ _ _ _ o,show(i*4+c)/4=i by omega,show(i*4+c) % 4=c by omega,e,←qh _ c f]at this;rw[Nat.add_assoc];exact this
 exact⟨key 0 (by omega),key 1 (by omega),key 2 (by omega),key 3 (by omega)⟩
theorem ve {p:Prop} (h:p):Hid p:=h
theorem qj (L:List En) (base g cap:Nat) (w:World) (O:w.ownsRow base 108 4 (.slice (some ⟨g,0,none⟩) L.length cap) L.length (bw L)) (hn:L.length≤1000000000) (V:L.length≤cap) (hb:base≤g) (H:g<w.heap.size):
    Calls prog 313 #[.slice (some ⟨g,0,none⟩) L.length cap] w fun e w'=>e= .returned (.tuple #[])∧ ∃M:List En,M.Perm L∧M.Pairwise (fun a b=>Pp.lt b a=false)∧fx base w' (.slice (some ⟨g,0,none⟩) L.length cap) M∧Below base w w':=by
 have S:Inhabited En:=⟨⟨⟨#[]⟩,false,⟨#[]⟩,0⟩⟩
 have G:=qi O rfl;have E:=ve (fO O g rfl).2;have P: ∀u w,(callFunc 350 u).run prog w= .ok (.enter 350 u) w:=enters_of func350 (by kernel_rfl) rfl;have d:=AnyQ.slices_SortFunc Tryz.sortE 4 Tryz.isAgg108 Tryz.sizeOf108 Pp.cells (fun _=>rfl) (fun x=>Pp.cells_one x) Pp.cfE uB 350 #[] g 0 cap L.toArray w P (fun _ _ _ _ x y=>u9 x y _) G H (by simp;omega);change Calls prog 349 _ _ _ at d
 rw[List.size_toArray]at d;have U:Hid (Sort.HoldsK Pp.cells 4 w g 0 L.toArray):=G;clear G O P;go_enter func313,ntmps313
 go_wp2_with fail;refine d.mono ?_
 rintro e w' ⟨rfl,f,n,os,Q,z,rfl⟩;have A:Hid (Sort.PermIn 0 L.length L.toArray f):=Q;have F:Hid (Sort.SortedIn (ltOf Pp.cfE) 0 L.length f):=z;clear Q z d;go_wp2;go_end0
 have o:f.size=L.length:=by have:=A.out.1;simpa using this
 refine⟨rfl,f.toList,?_,?_,?_,?_⟩
 · have:=A.out.2.2
   rw[←o]at this;simp only[Array.extract_size]at this;rw[o,←List.size_toArray,Array.extract_size]at this;exact this
 · rw[List.pairwise_iff_getElem]
   intro i j Y Z K;have N:j<f.size:=by simpa using Z
   have J:i<f.size:=by simpa using Y
   have:=F.out i j (Nat.zero_le _) K (by omega)
   rw[kV,getElem!_pos f i J,getElem!_pos f j N]at this;simpa using this
 · refine⟨?_,fun g' I=>by cases I;obtain⟨cur,T,X⟩:=E.out;exact⟨hb,(Pp.heap_sorted _ _ _ _ X H).imp fun _ h=>⟨T,h⟩⟩⟩
   rw[←o];exact Pp.lies_holds (by rw[sortWorldK];simp[Sort.grow,Sort.size_putRowK,Sort.ahead];omega) (holdsK_sortWorldK_c Pp.cells 4 w g 0 L.toArray f n os U.out H (by rw[o];simp)) (by omega) (by omega)
 · exact vd (Lib.below_putRow (Below.refl base w) hb) (by simp[Sort.putRow,Sort.mapBlock,Sort.ahead];omega) os
theorem Pp.out_ne (x:En) (L:List En): ∀y∈L.filter (fun e=> !aE x.path.data.toList e),y.path.data.toList≠x.path.data.toList:=by
 intro y a;have:=(List.mem_filter.1 a).2
 simpa[aE]using this
def Pp.out (x:En) (L:List En):List En:=L.filter (fun e=> !aE x.path.data.toList e)
theorem Pp.own_mono {w:World} {base B:Nat} {e:TypeId} {size:Nat} {v:Value} {n:Nat} {xs:List Value} (h:w.ownsRow base e size v n xs) (j:B≤base):w.ownsRow B e size v n xs:=by
 obtain⟨f,d⟩:=h
 refine⟨f,?_⟩
 rcases d with d|⟨g,a,cur,u,o,r⟩
 · exact .inl d
 · exact .inr ⟨g,a,cur,u,Nat.le_trans j o,r⟩
theorem Pp.carry {W d:World} {g:Nat} {a:List Value} (h:Below W.heap.size W d) (e:g<W.heap.size) (f: ∀j u,a[j]?=some u→W.cell? ((⟨g,0,none⟩:Addr).add j)=some u): ∀j u,a[j]?=some u→d.cell? ((⟨g,0,none⟩:Addr).add j)=some u:=by
 intro j u o;have hb:((⟨g,0,none⟩:Addr).add j).block=g:=by unfold Addr.add;split<;>rfl
 exact(h.cell (p:=(⟨g,0,none⟩:Addr).add j) (by rw[hb];exact e)).trans (f j u o)
theorem vh (w:World) (x:En) (T a:TypeId): ∀j u,(Pp.cells x)[j]?=some u→((w.alloc (.cells #[.string x.path,.bool x.folder,.string x.text,.int .i64 x.ver] T)).alloc (.cells #[.string x.path,.bool x.folder,.string x.text,.int .i64 x.ver] a)).drew.cell? ((⟨w.heap.size+1,0,none⟩:Addr).add j)=some u:=by
 intro j u d;have h:=eW (w.alloc (.cells #[.string x.path,.bool x.folder,.string x.text,.int .i64 x.ver] T)) x a j u d;rw[show(w.alloc (.cells #[.string x.path,.bool x.folder,.string x.text,.int .i64 x.ver] T)).heap.size=w.heap.size+1 by simp]at h;exact h
theorem Pp.own_shape {w:World} {base:Nat} {T:TypeId} {v:Value} {L:List En} (h:w.ownsRow base T 4 v L.length (bw L)) (o:L≠[]): ∃g a,v= .slice (some ⟨g,0,none⟩) L.length a∧base≤g∧g<w.heap.size∧L.length≤a∧a≤maxLen:=by
 obtain⟨E,u⟩:=h
 rcases u with⟨_,j⟩|⟨g,a,cur,rfl,y,f,A,z,j,e⟩
 · exact absurd (List.length_eq_zero_iff.1 j) o
 · have d:g<w.heap.size:=by
    rcases Nat.lt_or_ge g w.heap.size with h|h
    · exact h
    · rw[Array.getElem?_eq_none h]at f;cases f
   exact⟨g,a,rfl,y,d,A,z⟩
theorem nv {W a:World} (h:Below W.heap.size W a) {b:Nat} (hb:b<W.heap.size) (p:ByteArray) (f:Bool) (t:ByteArray) (n:Int) (d:W.cell? ⟨b,0,none⟩=some (.string p)) (e:W.cell? ⟨b,1,none⟩=some (.bool f)) (j:W.cell? ⟨b,2,none⟩=some (.string t)) (o:W.cell? ⟨b,3,none⟩=some (.int .i64 n)):
    a.cell? ⟨b,0,none⟩=some (.string p)∧a.cell? ⟨b,1,none⟩=some (.bool f)∧a.cell? ⟨b,2,none⟩=some (.string t)∧a.cell? ⟨b,3,none⟩=some (.int .i64 n):=
 ⟨(h.cell (p:=⟨b,0,none⟩) hb).trans d,(h.cell (p:=⟨b,1,none⟩) hb).trans e,(h.cell (p:=⟨b,2,none⟩) hb).trans j,(h.cell (p:=⟨b,3,none⟩) hb).trans o⟩
theorem vk {W a:World} {row:Option Nat} (h:W.grownBy a row) {b:Nat} (hb:some b≠row) (p:ByteArray) (f:Bool) (t:ByteArray) (n:Int) (d:W.cell? ⟨b,0,none⟩=some (.string p)) (e:W.cell? ⟨b,1,none⟩=some (.bool f)) (j:W.cell? ⟨b,2,none⟩=some (.string t)) (o:W.cell? ⟨b,3,none⟩=some (.int .i64 n)):
    a.cell? ⟨b,0,none⟩=some (.string p)∧a.cell? ⟨b,1,none⟩=some (.bool f)∧a.cell? ⟨b,2,none⟩=some (.string t)∧a.cell? ⟨b,3,none⟩=some (.int .i64 n):=
 ⟨h.cell d hb,h.cell e hb,h.cell j hb,h.cell o hb⟩
theorem qk (L:List En) (v:Value) (x:En) (w:World) (hv:aj w v L) (hn:L.length≤60) (hs:cP L) (hx:x.path.size≤1000000000000000) (hL:L.Pairwise (fun x y=>Pp.lt x y=true)):
    Calls prog 275 #[v,.agg #[.string x.path,.bool x.folder,.string x.text,.int .i64 x.ver]] w fun e w'=>
     (60<(Pp.out x L).length+1∧e= .returned (.tuple #[.slice none 0 0,.int .i64 2])∧Below w.heap.size w w')∨
     (¬60<(Pp.out x L).length+1∧ ∃u,e= .returned (.tuple #[u,.int .i64 0])∧fx w.heap.size w' u (br x (Pp.out x L))∧Below w.heap.size w w'):=by
 obtain⟨aQ,C8,CC,CD,CE⟩:=info_parts Tryz.infoE
 have HV:Hid (aj w v L):=hv;have HS:Hid (cP L):=hs;have HL:Hid (L.Pairwise (fun x y=>Pp.lt x y=true)):=hL;clear hv hs hL;have CG:(L.filter (fun e=> !aE x.path.data.toList e)).length≤L.length:=List.length_filter_le _ _;go_enter func275,ntmps275
 go_wp2_with fail
 go_region_held3 (fun W=>W.cell? ⟨w.heap.size,0,none⟩=some (.string x.path)∧W.cell? ⟨w.heap.size,1,none⟩=some (.bool x.folder)∧W.cell? ⟨w.heap.size,2,none⟩=some (.string x.text)∧W.cell? ⟨w.heap.size,3,none⟩=some (.int .i64 x.ver)) (go_keep) (first
  |(go_at_call 219;refine(gS _ _).mono ?_;rintro e wa ⟨rfl,O,f⟩;have C9:Below w.heap.size w wa:=Below.trans (by go_grown) (f.mono (by first|(simp;done)|(simp;omega)));have E:w.heap.size<wa.heap.size:=(by have:=f.size;simp at this;omega);have G:=nv (b:=w.heap.size) f (by first|(simp;done)|(simp;omega)) x.path x.folder x.text x.ver (by simp) (by simp) (by simp) (by simp))
  |(go_at_call 278;refine(mQ _ _ (aE x.path.data.toList) _ (by first|(simpa using O)|(simpa using O.below ((Below.refl _ _).alloc (Nat.le_refl _) _)))).mono ?_;rintro e wb ⟨rfl,P,d⟩;have Q:Below w.heap.size w wb:=Below.trans (by go_grown) (d.mono (by(try simp);omega));have F:w.heap.size<wb.heap.size:=(by have:=d.size;(try simp at this);omega);have H:=nv (b:=w.heap.size) d (by(try simp);omega) x.path x.folder x.text x.ver (by first|exact G.1|simp[go_sem,G,E]) (by first|exact G.2.1|simp[go_sem,G,E]) (by first|exact G.2.2.1|simp[go_sem,G,E]) (by first|exact G.2.2.2|simp[go_sem,G,E]);clear G O)
  |(go_at_call 277;refine(kg L v _ _ (fun e=> !aE x.path.data.toList e) _ (HV.out.below (by first|exact Q|go_grown)) (by first|(simpa using P)|(simpa using P.below ((Below.refl _ _).alloc (Nat.le_refl _) _))) (by omega) HS.out).mono ?_;rintro e wc ⟨u,rfl,hou,hnu,hbc⟩;have S:Below w.heap.size w wc:=Below.trans (by first|exact Q|go_grown) (hbc.mono (by(try simp);omega));have o:w.heap.size<wc.heap.size:=(by have:=hbc.size;(try simp at this);omega);have I:=nv (b:=w.heap.size) hbc (by(try simp);omega) x.path x.folder x.text x.ver (by first|exact H.1|simp[go_sem,H,F]) (by first|exact H.2.1|simp[go_sem,H,F]) (by first|exact H.2.2.1|simp[go_sem,H,F]) (by first|exact H.2.2.2|simp[go_sem,H,F]);have Z:=Pp.own_mono hou (B:=w.heap.size+1) (by(try simp);omega);clear H P hou)
  |(refine fP rfl (.tmp 12) (.tmp 14) 47 rfl (w.heap.size+1) 108 aQ (.agg #[.string ⟨#[]⟩,.bool false,.string ⟨#[]⟩,.int .i64 0]) 4 48 underlying47 C8 CC CD CE rfl (by decide) u _ _ (by simp[Act.eval,Act.put]) (by first|exact Z|exact Z.alloc _) _ 1 1 (Pp.cells x) (by simp[Act.eval,Act.put];rfl) rfl (by first|exact eW wc x _|exact Pp.carry hbc (by simp) (eW wb x _)|exact Pp.carry hbc (by have:=d.size;simp at this;omega) (Pp.carry d (by simp) (eW wa x _))|exact Pp.carry hbc (by have:=d.size;have:=f.size;simp at this;omega) (Pp.carry d (by have:=f.size;simp at this;omega) (Pp.carry (g:=w.heap.size+1) f (by simp) (vh w x _ _)))) (Pp.cells_one x) (by unfold maxLen;omega) (by omega) (by(try simp);omega) ?_;intro v5 w5 N z Y;have kq:=vk (b:=w.heap.size) z (fun e=>by have:=(Z.lt _ e.symm).1;omega) x.path x.folder x.text x.ver (by first|exact I.1|simp[go_sem,I,o]) (by first|exact I.2.1|simp[go_sem,I,o]) (by first|exact I.2.2.1|simp[go_sem,I,o]) (by first|exact I.2.2.2|simp[go_sem,I,o]);clear I))
 all_goals
  have V:Below w.heap.size w w5:=Below.grown (by first|exact S|exact S.alloc (Nat.le_of_lt o) _) z (by(try simp);omega) (fun k hk=>by have:=(Z.lt k hk).1;omega);rw[fv]at N
  have C3:w5.ownsRow w.heap.size 108 4 v5 (Pp.out x L++[x]).length (bw (Pp.out x L++[x])):=by
   rw[List.length_append];exact Pp.own_mono N (by omega)
  have HO:Hid (w5.ownsRow w.heap.size 108 4 v5 (Pp.out x L++[x]).length (bw (Pp.out x L++[x]))):=C3;clear N C3 z Y kq Z hnu S o hbc d f Q C9 E F;obtain⟨g,T,rfl,C6,C7,C5,CF⟩:=Pp.own_shape HO.out (by simp)
  by_cases j:60<((Pp.out x L++[x]).length:Int)
  · have U:60<(Pp.out x L).length+1:=by rw[List.length_append]at j;simp at j;omega
    have K:Hid (60<(Pp.out x L).length+1):=U;clear U;rw[List.length_append,List.length_singleton]at j;go_wp2_with fail;go_ret2;exact Or.inl ⟨K.out,rfl,V⟩
  · have K:=hid (show¬60<(Pp.out x L).length+1 from by rw[List.length_append]at j;simp at j;omega)
    have A:(Pp.out x L++[x]).length=(Pp.out x L).length+1:=by simp
    rw[A]at j C5;have a:Hid ((Pp.out x L).length+1=(Pp.out x L++[x]).length):=A.symm;clear A;go_wp2_with fail;rw[a.out];refine(qj (Pp.out x L++[x]) w.heap.size g T _ HO.out (by rw[←a.out];omega) (by rw[←a.out];omega) C6 C7).mono ?_
    rintro e w6 ⟨rfl,M,hp,J,X,C4⟩
    have HM:=hid (show fx w.heap.size w6 (.slice (some ⟨g,0,none⟩) (Pp.out x L++[x]).length T) (br x (Pp.out x L))from by
     have e:=tN hp J (List.Pairwise.filter _ HL.out) (Pp.out_ne x L);rw[←e];exact X)
    clear hp J X;rw[←a.out];go_wp2;go_ret2;exact Or.inr ⟨K.out,_,rfl,by rw[a.out];exact HM.out,V.trans C4⟩
theorem ql {w f:World} {a b c d e:Value} {T:TypeId} (h:Below (w.alloc (.cells #[a,b,c,d,e] T)).heap.size (w.alloc (.cells #[a,b,c,d,e] T)) f):
    f.cell? ⟨w.heap.size,0,none⟩=some a∧f.cell? ⟨w.heap.size,1,none⟩=some b∧f.cell? ⟨w.heap.size,2,none⟩=some c∧f.cell? ⟨w.heap.size,3,none⟩=some d∧f.cell? ⟨w.heap.size,4,none⟩=some e∧Below w.heap.size w f∧w.heap.size<f.heap.size:=by
 have j:w.heap.size<(w.alloc (.cells #[a,b,c,d,e] T)).heap.size:=by simp
 refine⟨?_,?_,?_,?_,?_,((Below.refl _ _).alloc (Nat.le_refl _) _).trans (h.mono (Nat.le_of_lt j)),Nat.lt_of_lt_of_le j h.size⟩
 · exact(h.cell (p:=⟨w.heap.size,0,none⟩) j).trans (by simp)
 · exact(h.cell (p:=⟨w.heap.size,1,none⟩) j).trans (by simp)
 · exact(h.cell (p:=⟨w.heap.size,2,none⟩) j).trans (by simp)
 · exact(h.cell (p:=⟨w.heap.size,3,none⟩) j).trans (by simp)
 · exact(h.cell (p:=⟨w.heap.size,4,none⟩) j).trans (by simp)
def Pp.stB (q:List UInt8) (b:Int) (e:En):Bool:=decide (b<e.ver) && dk q e
theorem qm (x:En) (q:ByteArray) (k:Int) (t u:ByteArray) (b:Int) (c d g:Nat) (f:Array Value) (w:World) (I:c<w.heap.size) (K:d<w.heap.size) (H:w.cell? ⟨c,4,none⟩=some (.int .i64 b)) (y:w.cell? ⟨d,0,none⟩=some (.func (.func g) #[] f)) (z:cj w g f (dk q.data.toList)) (N:x.path.size≤1000000000000000):
    Calls prog 274 #[.agg #[.string x.path,.bool x.folder,.string x.text,.int .i64 x.ver],.pointer (some ⟨c,0,none⟩),.pointer (some ⟨d,0,none⟩)] w fun r w'=>r= .returned (.bool (Pp.stB q.data.toList b x))∧Below w.heap.size w w':=by
 have J: ∀o,(w.alloc o).cell? ⟨c,4,none⟩=some (.int .i64 b):=fun o=>(((Below.refl w.heap.size w).alloc (Nat.le_refl _) o).cell (p:=⟨c,4,none⟩) I).trans H
 have M: ∀o,(w.alloc o).cell? ⟨d,0,none⟩=some (.func (.func g) #[] f):=fun o=>(((Below.refl w.heap.size w).alloc (Nat.le_refl _) o).cell (p:=⟨d,0,none⟩) K).trans y
 have F:Hid (cj w g f (dk q.data.toList)):=z;have G:=z.1;clear z;by_cases E:b<x.ver
 · have j:=hid (show dk q.data.toList x=Pp.stB q.data.toList b x from by rw[Pp.stB];simp[E])
   go_enter func274,ntmps274
   go_wp2_with fail;refine(F.out.2 _ ((Below.refl _ _).alloc (Nat.le_refl _) _) x N).mono ?_
   rintro r T ⟨rfl,a⟩;obtain⟨O,P,Q,S,e,A⟩:=cN a
   clear a G;go_wp2;go_ret;exact⟨aV j.out,e⟩
 · have j:=hid (show false=Pp.stB q.data.toList b x from by rw[Pp.stB];simp[E])
   go_enter func274,ntmps274
   go_wp2;go_ret;exact⟨aV j.out,(Below.refl _ _).alloc (Nat.le_refl _) _⟩
theorem qn (L:List En) (v:Value) (k:Int) (p q t:ByteArray) (b:Int) (w:World) (M:aj w v L) (J:cP L) (Z:p.size≤1000000000000000) (hb:b= -1∨L.find? (Pp.stB p.data.toList b)=none):
    Calls prog 227 #[v,.agg #[.int .i64 k,.string p,.string q,.string t,.int .i64 b]] w fun e w'=>e= .returned (.bool false)∧Below w.heap.size w w':=by
 have S:Hid (aj w v L):=M;have P:=hid (show∀e∈L,e.path.size≤1000000000000000 from fun e Y=>(J e Y).1);clear M J;by_cases G:b= -1
 · subst G
   go_enter func227,ntmps227
   go_wp2;go_ret;exact⟨rfl,(Below.refl _ _).alloc (Nat.le_refl _) _⟩
 · have O:=hid (show L.find? (Pp.stB p.data.toList b)=none from hb.resolve_left G)
   have h2:(b== -1)=false:=by simpa using G
   clear hb;have C3: ∀(W:World) (a:Addr) (f:Fn) (x y:Array Value),(store a (.func f x y)).run prog W=stored prog W a (.func f x y) .plain:=fun W a f x y=>run_store prog W a _ _ rfl
   go_enter func227,ntmps227
   go_wp2_with fail;refine(kf p _ Z).mono ?_
   rintro e F ⟨rfl,K,u⟩;obtain⟨T,U,V,X,I,z,d⟩:=ql u
   have Q:Hid (cj F 312 #[.pointer (some ⟨(w.alloc (.cells #[.int .i64 k,.string p,.string q,.string t,.int .i64 b] 55)).heap.size,0,none⟩)] (dk p.data.toList)):=K;clear K u;go_wp2_with fail;refine(gA L v _ _ (Pp.stB p.data.toList b) _ (S.out.below (z.alloc (Nat.le_of_lt d) _)) ⟨enters_of func274 (by kernel_rfl) rfl,?_⟩ P.out).mono ?_
   · intro W H x hx
     have j:Below F.heap.size F W:=((Below.refl _ _).alloc (Nat.le_refl _) _).trans (H.mono (by simp));refine qm x p k t q b w.heap.size F.heap.size 312 #[.pointer (some ⟨w.heap.size+1,0,none⟩)] W (Nat.lt_of_lt_of_le d j.size) (Nat.lt_of_lt_of_le (by simp) H.size) ((j.cell (p:=⟨w.heap.size,4,none⟩) d).trans I) ((H.cell (p:=⟨F.heap.size,0,none⟩) (by simp)).trans (by simp)) ?_ hx
     have h:=Q.out.below j;simpa using h
   · rintro e N ⟨rfl,o⟩
     rw[O.out,fM];have A:Below w.heap.size w N:=(z.alloc (Nat.le_of_lt d) _).trans (o.mono (by simp;omega));have E:w.heap.size<N.heap.size:=by have:=o.size;simp at this;omega
     clear o T U V X I;go_wp2;go_ret;exact⟨rfl,A.alloc (Nat.le_of_lt E) _⟩
def gD (k:Int) (p t:ByteArray) (n:Int):En:=⟨p,decide (k=1),t,n⟩
def ag (l:List (List UInt8)):List Value:=l.map fun x=> .string ⟨x.toArray⟩
theorem qo (l:List (List UInt8)) (x:List UInt8):ag l++[.string ⟨x.toArray⟩]=ag (l++[x]):=by simp[ag]
theorem vn (s:ByteArray) (f k:Nat):s.extract f k=⟨((s.data.toList.drop f).take (k-f)).toArray⟩:=dZ (Lib.extract_data s f k)
theorem vo (s:ByteArray) (f:Nat):s.extract f s.size=⟨(s.data.toList.drop f).toArray⟩:=dZ (by rw[Lib.extract_data];exact List.take_of_length_le (by rw[List.length_drop,←Lib.size_eq];exact Nat.le_refl _))
theorem vp (s:ByteArray) (f k:Nat) (e:f≤k) (a:k<s.size):s.data.toList.drop f=(s.data.toList.drop f).take (k-f)++s[k]::s.data.toList.drop (k+1):=by
 have d:k<s.data.toList.length:=by simpa using a
 conv=>lhs;rw[←List.take_append_drop (k-f) (s.data.toList.drop f)]
 rw[List.drop_drop,show f+(k-f)=k by omega,List.drop_eq_getElem_cons d,byte_at' s k a d]
theorem vr (s:ByteArray) (f k:Nat) (j:f≤k) (a:k<s.size):(s.data.toList.drop f).take (k+1-f)=(s.data.toList.drop f).take (k-f)++[s[k]]:=by
 have e:k<s.data.toList.length:=by simpa using a
 have d:k-f<(s.data.toList.drop f).length:=by rw[List.length_drop];omega
 rw[show k+1-f=(k-f)+1 by omega,List.take_succ_eq_append_getElem d,List.getElem_drop];congr 2
 rw[←byte_at' s k a e];congr 1
 omega
def iU (s:ByteArray) (dn:List (List UInt8)) (f k:Nat):Prop:=ah s.data.toList=dn++ah (s.data.toList.drop f)∧47∉(s.data.toList.drop f).take (k-f)∧dn.length≤k∧f≤k
theorem vu (s:ByteArray):iU s [] 0 0:=⟨by simp,by simp,by simp,Nat.le_refl _⟩
theorem vv (s:ByteArray) {dn:List (List UInt8)} {f k:Nat} (o:k<s.size) (h:iU s dn f k) (j:(s[k].toNat:Int)=47):iU s (dn++[(s.data.toList.drop f).take (k-f)]) (k+1) (k+1):=by
 have e:s[k]=47:=UInt8.toNat_inj.1 (by simpa using Int.ofNat.inj j);refine⟨?_,by simp,by have:=h.2.2.1;simp;omega,Nat.le_refl _⟩
 have a:=vp s f k h.2.2.2 o;rw[e]at a
 have d:ah (s.data.toList.drop f)=(s.data.toList.drop f).take (k-f)::ah (s.data.toList.drop (k+1)):=by
  conv=>lhs;rw[a]
  exact mm _ _ h.2.1
 rw[h.1,d];simp
theorem vw (s:ByteArray) {dn:List (List UInt8)} {f k:Nat} (e:k<s.size) (h:iU s dn f k) (d:(s[k].toNat:Int)≠47):iU s dn f (k+1):=by
 refine⟨h.1,?_,by have:=h.2.2.1;omega,by have:=h.2.2.2;omega⟩
 rw[vr s f k h.2.2.2 e];intro a;rcases List.mem_append.1 a with a|a
 · exact h.2.1 a
 · rw[List.mem_singleton]at a
   exact d (by rw[←a];rfl)
theorem vx (s:ByteArray) {dn:List (List UInt8)} {f:Nat} (h:iU s dn f s.size):ah s.data.toList=dn++[s.data.toList.drop f]:=by
 rw[h.1,il];have:=h.2.1
 rwa [List.take_of_length_le (by rw[List.length_drop,←Lib.size_eq];exact Nat.le_refl _)]at this
theorem Tryz.infoS:(prog.info? 9).map (fun i=>(i.zero,i.size,i.bytes))=some (some (.string ⟨#[]⟩),1,16):=by kernel_rfl
theorem vy (s:ByteArray) (w:World) (Y:s.size≤1000000000):
    Calls prog 124 #[.string s] w fun e w'=> ∃v,e= .returned v∧w'.ownsRow w.heap.size 9 1 v (ah s.data.toList).length (ag (ah s.data.toList))∧Below w.heap.size w w':=by
 obtain⟨aQ,T,H,I,J⟩:=info_parts Tryz.infoS
 go_enter func124,ntmps124
 go_wp2_with fail
 go_loopw [3,4,5] (fun v fr i wr=> ∃(z:List (List UInt8)) (f k:Nat),k≤s.size∧f≤k∧z.length≤k∧fr= .int .i64 f∧i= .int .i64 k∧wr.ownsRow w.heap.size 9 1 v z.length (ag z)∧Below w.heap.size w wr∧Hid (iU s z f k))
  (fun _ _ i _=>s.size-(intOf i).toNat)
 case atStart=>exact⟨[],0,0,Nat.zero_le _,Nat.le_refl _,Nat.le_refl _,rfl,rfl,World.ownsRow_nil _ _ _ _,Below.refl _ _,vu s⟩
 case round=>
  obtain⟨z,f,k,X,V,U,rfl,rfl,y,a,N⟩:=hrel
  by_cases F:k<s.size
  · cases S:((s[k].toNat:Int)==47)with
    |true=>
     have P:=hid (show(s[k].toNat:Int)=47 from by simpa using S);go_wp2_with (at_builtin;refine wpList_append_own _ rfl _ _ 98 rfl w.heap.size 9 aQ (.string ⟨#[]⟩) 1 16 underlying98 T H I J rfl (by decide) _ _ _ rfl (y.alloc _) ⟨wr.heap.size,0,none⟩ 1 1 [.string (s.extract f k)] rfl rfl ?c1 ?c2 ?c3 ?c4 ?c5 ?_)
     case c1=>
      intro j u A;match j,A with
      |0,A=>simp at A;subst A;simp[Addr.add]
     case c2=>intro u G;simp at G;subst G;rfl
     case c3=>unfold maxLen;omega
     case c4=>omega
     case c5=>have:=a.size;simp;omega
     intro M K d o _;have E:Below w.heap.size w K:=(a.alloc a.size _).grown o (by have:=a.size;simp;omega) (fun g Q=>(y.lt g Q).1);rw[vn,qo]at d;have O:Hid (K.ownsRow w.heap.size 9 1 M (z.length+1) (ag (z++[(s.data.toList.drop f).take (k-f)]))):=d;clear d o y a;go_wp2;go_roundw
     case rel=>exact⟨z++[(s.data.toList.drop f).take (k-f)],k+1,k+1,by omega,Nat.le_refl _,by simp;omega,by simp,by simp,by rw[List.length_append];exact O.out,E,vv s F N.out P.out⟩
     case measure=>simp[intOf];omega
    |false=>
     have P:=hid (show(s[k].toNat:Int)≠47 from by simpa using S);go_wp2_with fail;go_roundw
     case rel=>exact⟨z,f,k+1,by omega,by omega,by omega,rfl,by simp,y,a,vw s F N.out P.out⟩
     case measure=>simp[intOf];omega
  · obtain rfl:k=s.size:=by omega
    go_wp2_with (at_builtin;refine wpList_append_own _ rfl _ _ 98 rfl w.heap.size 9 aQ (.string ⟨#[]⟩) 1 16 underlying98 T H I J rfl (by decide) _ _ _ rfl (y.alloc _) ⟨wr.heap.size,0,none⟩ 1 1 [.string (s.extract f s.size)] rfl rfl ?d1 ?d2 ?d3 ?d4 ?d5 ?_)
    case d1=>
     intro j u A;match j,A with
     |0,A=>simp at A;subst A;simp[Addr.add]
    case d2=>intro u G;simp at G;subst G;rfl
    case d3=>unfold maxLen;omega
    case d4=>omega
    case d5=>have:=a.size;simp;omega
    intro M K d o _;have E:Below w.heap.size w K:=(a.alloc a.size _).grown o (by have:=a.size;simp;omega) (fun g Q=>(y.lt g Q).1);rw[vo,qo]at d;have O:Hid (K.ownsRow w.heap.size 9 1 M (z.length+1) (ag (z++[s.data.toList.drop f]))):=d;clear d o y a;go_wp2;go_ret;exact⟨M,rfl,by rw[vx s N.out,List.length_append];exact O.out,E⟩
theorem Pp.nm_mem_len: ∀(l:List UInt8) (x:List UInt8),x∈ah l→x.length≤l.length
 |[],x,h=>by simp[ah]at h;simp[h]
 |c::r,x,h=>by
  rw[ah]at h;split at h
  · rcases List.mem_cons.1 h with h|h
    · simp[h]
    · have:=Pp.nm_mem_len r x h;simp;omega
  · cases e:ah r with
    |nil=>exact absurd e (ik r)
    |cons y t=>
     rw[e]at h;rcases List.mem_cons.1 h with h|h
     · have:=Pp.nm_mem_len r y (by rw[e];simp);rw[h];simp;omega
     · have:=Pp.nm_mem_len r x (by rw[e];simp[h]);simp;omega
theorem eM (s:ByteArray) (w:World) (H:s.size≤1000000000):
    Calls prog 124 #[.string s] w fun e w'=> ∃g a,e= .returned (.slice (some ⟨g,0,none⟩) (ah s.data.toList).length a)∧(ah s.data.toList).length≤a∧a≤maxLen∧w.heap.size≤g∧g<w'.heap.size∧
     (∀i (h:i<(ah s.data.toList).length),w'.cell? ⟨g,i,none⟩=some (.string ⟨((ah s.data.toList)[i]).toArray⟩))∧Below w.heap.size w w':=by
 refine(vy s w H).mono ?_
 rintro e w' ⟨v,rfl,f,hb⟩;obtain⟨F,E⟩:=f
 rcases E with⟨_,A⟩|⟨g,a,cur,rfl,u,j,z,y,I,d⟩
 · exact absurd (List.length_eq_zero_iff.1 A) (ik _)
 · have o:g<w'.heap.size:=by
    rcases Nat.lt_or_ge g w'.heap.size with h|h
    · exact h
    · rw[Array.getElem?_eq_none h]at j;cases j
   refine⟨g,a,rfl,z,y,u,o,fun i h=>?_,hb⟩
   have G:w'.ownsRow w.heap.size 9 1 (.slice (some ⟨g,0,none⟩) (ah s.data.toList).length a) (ah s.data.toList).length (ag (ah s.data.toList)):=⟨F,.inr ⟨g,a,cur,rfl,u,j,z,y,I,d⟩⟩
   rw[G.cellAt i (by omega)];simp[ag,h]
theorem nw (s:ByteArray) (w:World) (o:s.size≤1000000000):
    Calls prog 125 #[.string s] w fun e w'=>e= .returned (.bool (Pp.big s.data.toList))∧Below w.heap.size w w':=by
 have F:(ah s.data.toList).length≤s.size+1:=by have:=gQ s.data.toList;rwa [←Lib.size_eq]at this
 have a:(6:Int)<(ah s.data.toList).length→true=Pp.big s.data.toList:=fun h=>by
  symm;simp only[Pp.big,Bool.or_eq_true,decide_eq_true_eq];omega
 have d:(80:Int)<s.size→true=Pp.big s.data.toList:=fun h=>by
  symm;simp only[Pp.big,Bool.or_eq_true,decide_eq_true_eq,←Lib.size_eq];omega
 have f:((ah s.data.toList).length:Int)≤6→(s.size:Int)≤80→false=Pp.big s.data.toList:=fun A E=>by
  symm;simp only[Pp.big,Bool.or_eq_false_iff,decide_eq_false_iff_not,←Lib.size_eq];omega
 by_cases y:(6:Int)<(ah s.data.toList).length
 · have H:Hid (true=Pp.big s.data.toList):=a y
   clear a d f;go_enter func125,ntmps125
   go_wp2_with fail;refine(eM s _ o).mono ?_
   rintro e u ⟨g,j,rfl,_,_,_,_,_,hb⟩;go_wp2;go_ret;exact⟨aV H.out,hb⟩
 by_cases z:(80:Int)<s.size
 · have H:Hid (true=Pp.big s.data.toList):=d z
   clear a d f;go_enter func125,ntmps125
   go_wp2_with fail;refine(eM s _ o).mono ?_
   rintro e u ⟨g,j,rfl,_,_,_,_,_,hb⟩;go_wp2;go_ret;exact⟨aV H.out,hb⟩
 · have H:Hid (false=Pp.big s.data.toList):=f (by omega) (by omega)
   clear a d f;go_enter func125,ntmps125
   go_wp2_with fail;refine(eM s _ o).mono ?_
   rintro e u ⟨g,j,rfl,_,_,_,_,_,hb⟩;go_wp2;go_ret;exact⟨aV (by rw[←H.out];simp;omega),hb⟩
theorem fT (s:ByteArray) (w:World) (G:s.size≤1000000000):
    Calls prog 78 #[.string s] w fun e w'=>e= .returned (.int .i64 (al s.data.toList))∧Below w.heap.size w w':=by
 have T:(ah s.data.toList).length≤s.size+1:=by have:=gQ s.data.toList;rwa [←Lib.size_eq]at this
 obtain⟨L,E⟩: ∃L,L=ah s.data.toList:=⟨_,rfl⟩
 have A:Hid (L=ah s.data.toList):=E;rw[←E]at T
 have z: ∀i (h:i<L.length),(L[i]).length≤s.size:=by
  intro i h;have:=Pp.nm_mem_len s.data.toList L[i] (by rw[←E];exact List.getElem_mem h)
  rwa [←Lib.size_eq]at this
 clear E;go_enter func78,ntmps78
 go_wp2_with fail;refine(eM s _ G).mono ?_
 rintro e K ⟨g,N,rfl,F,O,Q,S,a,hb⟩;rw[←A.out]at F a⊢;have M:Hid (∀i (h:i<L.length),K.cell? ⟨g,i,none⟩=some (.string ⟨(L[i]).toArray⟩)):=a;clear a;go_wp2_with fail;go_loopw [4] (fun i wr=> ∃k:Nat,k≤L.length∧i= .int .i64 k∧Hid ((L.take k).all az=true)∧wr=K) (fun i _=>L.length-(intOf i).toNat)
 case atStart=>exact⟨0,Nat.zero_le _,rfl,rfl,rfl⟩
 case round=>
  obtain⟨k,U,rfl,I,rfl⟩:=hrel
  by_cases f:k<L.length
  · have P:=M.out k f
    cases j:az L[k]with
    |true=>
     have y:Hid (az L[k]=true):=j;clear j;go_wp2_with fail;refine(gB _ _ (by rw[gR];have:=z k f;omega)).mono ?_
     rintro e H ⟨rfl,rfl⟩;simp only[y.out];go_wp2_with fail;go_roundw
     case rel=>exact⟨k+1,by omega,by simp,(by rw[List.take_succ_eq_append_getElem f];exact mr I.out y.out:(L.take (k+1)).all az=true),trivial⟩
     case measure=>simp[intOf];omega
    |false=>
     have y:Hid (az L[k]=false):=j;clear j;go_wp2_with fail;refine(gB _ _ (by rw[gR];have:=z k f;omega)).mono ?_
     rintro e H ⟨rfl,rfl⟩;simp only[y.out];go_wp2_with fail;go_ret;exact⟨an (mq s (dn:=L.take k) (r:=L.drop (k+1)) (n:=L[k]) (by rw[←A.out,←List.drop_eq_getElem_cons f,List.take_append_drop]) y.out),hb⟩
  · have J:=hid (show L.all az=true from by have:=I.out;rwa [List.take_of_length_le (by omega)]at this)
    cases d:Pp.big s.data.toList with
    |true=>
     have u:Hid (Pp.big s.data.toList=true):=d;clear d;go_wp2_with fail;refine(nw s _ G).mono ?_
     rintro e H ⟨rfl,o⟩;simp only[u.out];go_wp2;go_ret;exact⟨an (by rw[al,←A.out,if_pos J.out,if_pos u.out]),hb.trans (o.mono hb.size)⟩
    |false=>
     have u:Hid (Pp.big s.data.toList=false):=d;clear d;go_wp2_with fail;refine(nw s _ G).mono ?_
     rintro e H ⟨rfl,o⟩;simp only[u.out];go_wp2;go_ret;exact⟨an (by rw[al,←A.out,if_pos J.out,if_neg (by rw[u.out];decide)]),hb.trans (o.mono hb.size)⟩
end Go.Proofs.YtgamnckfmmbjdaaGreatDoor
