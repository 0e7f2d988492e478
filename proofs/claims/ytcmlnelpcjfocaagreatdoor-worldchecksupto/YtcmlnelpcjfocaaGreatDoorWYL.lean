/- What tree.put answers: the tree with an entry in its place. -/
import Derived.Test.YtcmlnelpcjfocaaGreatDoorWYG
import Derived.Deep.DeepCutAuto
import Derived.Test.YtcmlnelpcjfocaaGreatDoorWYI
set_option linter.unusedSimpArgs false
set_option linter.unusedVariables false
namespace Go.Proofs.YtcmlnelpcjfocaaGreatDoor
open Go.RowKit Go.Proofs.Tryz
set_option maxHeartbeats 2000000
set_option maxRecDepth 100000
theorem Pp.out_ne (x:En) (L:List En): ∀y∈L.filter (fun e=> !aO x.path.data.toList e),y.path.data.toList≠x.path.data.toList:=by
 intro y d;have:=(List.mem_filter.1 d).2
 simpa[aO]using this
def Pp.out (x:En) (L:List En):List En:=L.filter (fun e=> !aO x.path.data.toList e)
theorem Pp.own_mono {w:World} {base B:Nat} {e:TypeId} {size:Nat} {v:Value} {n:Nat} {xs:List Value} (h:w.ownsRow base e size v n xs) (z:B≤base):w.ownsRow B e size v n xs:=by
 obtain⟨y,f⟩:=h
 refine⟨y,?_⟩
 rcases f with f|⟨g,d,cur,E,A,r⟩
 · exact .inl f
 · exact .inr ⟨g,d,cur,E,Nat.le_trans z A,r⟩
theorem Pp.carry {W f:World} {g:Nat} {d:List Value} (h:Below W.heap.size W f) (y:g<W.heap.size) (z: ∀j u,d[j]?=some u→W.cell? ((⟨g,0,none⟩:Addr).add j)=some u): ∀j u,d[j]?=some u→f.cell? ((⟨g,0,none⟩:Addr).add j)=some u:=by
 intro j u A;have hb:((⟨g,0,none⟩:Addr).add j).block=g:=by unfold Addr.add;split<;>rfl
 exact(h.cell (p:=(⟨g,0,none⟩:Addr).add j) (by rw[hb];exact y)).trans (z j u A)
theorem BP (w:World) (x:En) (T d:TypeId): ∀j u,(Pp.cells x)[j]?=some u→((w.alloc (.cells #[.string x.path,.bool x.folder,.string x.text,.int .i64 x.ver] T)).alloc (.cells #[.string x.path,.bool x.folder,.string x.text,.int .i64 x.ver] d)).drew.cell? ((⟨w.heap.size+1,0,none⟩:Addr).add j)=some u:=by
 intro j u f;have h:=ia (w.alloc (.cells #[.string x.path,.bool x.folder,.string x.text,.int .i64 x.ver] T)) x d j u f;rw[show(w.alloc (.cells #[.string x.path,.bool x.folder,.string x.text,.int .i64 x.ver] T)).heap.size=w.heap.size+1 by simp]at h;exact h
theorem Pp.own_shape {w:World} {base:Nat} {T:TypeId} {v:Value} {L:List En} (h:w.ownsRow base T 4 v L.length (cr L)) (E:L≠[]): ∃g d,v= .slice (some ⟨g,0,none⟩) L.length d∧base≤g∧g<w.heap.size∧L.length≤d∧d≤maxLen:=by
 obtain⟨J,F⟩:=h
 rcases F with⟨_,A⟩|⟨g,d,cur,rfl,G,z,I,H,A,y⟩
 · exact absurd (List.length_eq_zero_iff.1 A) E
 · have f:g<w.heap.size:=by
    rcases Nat.lt_or_ge g w.heap.size with h|h
    · exact h
    · rw[Array.getElem?_eq_none h]at z;cases z
   exact⟨g,d,rfl,G,f,I,H⟩
theorem qX {W d:World} (h:Below W.heap.size W d) {b:Nat} (hb:b<W.heap.size) (p:ByteArray) (f:Bool) (t:ByteArray) (n:Int) (y:W.cell? ⟨b,0,none⟩=some (.string p)) (z:W.cell? ⟨b,1,none⟩=some (.bool f)) (A:W.cell? ⟨b,2,none⟩=some (.string t)) (E:W.cell? ⟨b,3,none⟩=some (.int .i64 n)):
    d.cell? ⟨b,0,none⟩=some (.string p)∧d.cell? ⟨b,1,none⟩=some (.bool f)∧d.cell? ⟨b,2,none⟩=some (.string t)∧d.cell? ⟨b,3,none⟩=some (.int .i64 n):=
 ⟨(h.cell (p:=⟨b,0,none⟩) hb).trans y,(h.cell (p:=⟨b,1,none⟩) hb).trans z,(h.cell (p:=⟨b,2,none⟩) hb).trans A,(h.cell (p:=⟨b,3,none⟩) hb).trans E⟩
theorem BQ {W d:World} {row:Option Nat} (h:W.grownBy d row) {b:Nat} (hb:some b≠row) (p:ByteArray) (f:Bool) (t:ByteArray) (n:Int) (y:W.cell? ⟨b,0,none⟩=some (.string p)) (z:W.cell? ⟨b,1,none⟩=some (.bool f)) (A:W.cell? ⟨b,2,none⟩=some (.string t)) (E:W.cell? ⟨b,3,none⟩=some (.int .i64 n)):
    d.cell? ⟨b,0,none⟩=some (.string p)∧d.cell? ⟨b,1,none⟩=some (.bool f)∧d.cell? ⟨b,2,none⟩=some (.string t)∧d.cell? ⟨b,3,none⟩=some (.int .i64 n):=
 ⟨h.cell y hb,h.cell z hb,h.cell A hb,h.cell E hb⟩
theorem vC (L:List En) (v:Value) (x:En) (w:World) (hv:an w v L) (hn:L.length≤60) (hs:da L) (hx:x.path.size≤1000000000000000) (hL:L.Pairwise (fun x y=>Pp.lt x y=true)):
    Calls prog 278 #[v,.agg #[.string x.path,.bool x.folder,.string x.text,.int .i64 x.ver]] w fun e w'=>
     (60<(Pp.out x L).length+1∧e= .returned (.tuple #[.slice none 0 0,.int .i64 2])∧Below w.heap.size w w')∨
     (¬60<(Pp.out x L).length+1∧ ∃u,e= .returned (.tuple #[u,.int .i64 0])∧is w.heap.size w' u (cg x (Pp.out x L))∧Below w.heap.size w w'):=by
 obtain⟨aZ,Iw,Iy,Iz,IA⟩:=info_parts Tryz.infoE
 have HV:Hid (an w v L):=hv;have HS:Hid (da L):=hs;have HL:Hid (L.Pairwise (fun x y=>Pp.lt x y=true)):=hL;clear hv hs hL;have IC:(L.filter (fun e=> !aO x.path.data.toList e)).length≤L.length:=List.length_filter_le _ _;go_enter func278,ntmps278
 go_wp2_with fail
 go_region_held3 (fun W=>W.cell? ⟨w.heap.size,0,none⟩=some (.string x.path)∧W.cell? ⟨w.heap.size,1,none⟩=some (.bool x.folder)∧W.cell? ⟨w.heap.size,2,none⟩=some (.string x.text)∧W.cell? ⟨w.heap.size,3,none⟩=some (.int .i64 x.ver)) (go_keep) (first
  |(go_at_call 217;refine(jW _ _).mono ?_;rintro e wa ⟨rfl,S,z⟩;have Ix:Below w.heap.size w wa:=Below.trans (by go_grown) (z.mono (by first|(simp;done)|(simp;omega)));have H:w.heap.size<wa.heap.size:=(by have:=z.size;simp at this;omega);have J:=qX (b:=w.heap.size) z (by first|(simp;done)|(simp;omega)) x.path x.folder x.text x.ver (by simp) (by simp) (by simp) (by simp))
  |(go_at_call 280;refine(qq _ _ (aO x.path.data.toList) _ (by first|(simpa using S)|(simpa using S.below ((Below.refl _ _).alloc (Nat.le_refl _) _)))).mono ?_;rintro e wb ⟨rfl,T,f⟩;have U:Below w.heap.size w wb:=Below.trans (by go_grown) (f.mono (by(try simp);omega));have I:w.heap.size<wb.heap.size:=(by have:=f.size;(try simp at this);omega);have K:=qX (b:=w.heap.size) f (by(try simp);omega) x.path x.folder x.text x.ver (by first|exact J.1|simp[go_sem,J,H]) (by first|exact J.2.1|simp[go_sem,J,H]) (by first|exact J.2.2.1|simp[go_sem,J,H]) (by first|exact J.2.2.2|simp[go_sem,J,H]);clear J S)
  |(go_at_call 223;refine(nl L v _ _ (fun e=> !aO x.path.data.toList e) _ (HV.out.below (by first|exact U|go_grown)) (by first|(simpa using T)|(simpa using T.below ((Below.refl _ _).alloc (Nat.le_refl _) _))) (by omega) HS.out).mono ?_;rintro e wc ⟨u,rfl,hou,hnu,hbc⟩;have V:Below w.heap.size w wc:=Below.trans (by first|exact U|go_grown) (hbc.mono (by(try simp);omega));have E:w.heap.size<wc.heap.size:=(by have:=hbc.size;(try simp at this);omega);have N:=qX (b:=w.heap.size) hbc (by(try simp);omega) x.path x.folder x.text x.ver (by first|exact K.1|simp[go_sem,K,I]) (by first|exact K.2.1|simp[go_sem,K,I]) (by first|exact K.2.2.1|simp[go_sem,K,I]) (by first|exact K.2.2.2|simp[go_sem,K,I]);have ho:=Pp.own_mono hou (B:=w.heap.size+1) (by(try simp);omega);clear K T hou)
  |(refine iS rfl (.tmp 12) (.tmp 14) 44 rfl (w.heap.size+1) 107 aZ (.agg #[.string ⟨#[]⟩,.bool false,.string ⟨#[]⟩,.int .i64 0]) 4 48 underlying44 Iw Iy Iz IA rfl (by decide) u _ _ (by simp[Act.eval,Act.put]) (by first|exact ho|exact ho.alloc _) _ 1 1 (Pp.cells x) (by simp[Act.eval,Act.put];rfl) rfl (by first|exact ia wc x _|exact Pp.carry hbc (by simp) (ia wb x _)|exact Pp.carry hbc (by have:=f.size;simp at this;omega) (Pp.carry f (by simp) (ia wa x _))|exact Pp.carry hbc (by have:=f.size;have:=z.size;simp at this;omega) (Pp.carry f (by have:=z.size;simp at this;omega) (Pp.carry (g:=w.heap.size+1) z (by simp) (BP w x _ _)))) (Pp.cells_one x) (by unfold maxLen;omega) (by omega) (by(try simp);omega) ?_;intro v5 w5 Q F I5;have kq:=BQ (b:=w.heap.size) F (fun e=>by have:=(ho.lt _ e.symm).1;omega) x.path x.folder x.text x.ver (by first|exact N.1|simp[go_sem,N,E]) (by first|exact N.2.1|simp[go_sem,N,E]) (by first|exact N.2.2.1|simp[go_sem,N,E]) (by first|exact N.2.2.2|simp[go_sem,N,E]);clear N))
 all_goals
  have Z:Below w.heap.size w w5:=Below.grown (by first|exact V|exact V.alloc (Nat.le_of_lt E) _) F (by(try simp);omega) (fun k hk=>by have:=(ho.lt k hk).1;omega);rw[iq]at Q
  have I6:w5.ownsRow w.heap.size 107 4 v5 (Pp.out x L++[x]).length (cr (Pp.out x L++[x])):=by
   rw[List.length_append];exact Pp.own_mono Q (by omega)
  have HO:Hid (w5.ownsRow w.heap.size 107 4 v5 (Pp.out x L++[x]).length (cr (Pp.out x L++[x]))):=I6;clear Q I6 F I5 kq ho hnu V E hbc f z U Ix H I;obtain⟨g,X,rfl,I9,Iv,I8,IB⟩:=Pp.own_shape HO.out (by simp)
  by_cases A:60<((Pp.out x L++[x]).length:Int)
  · have Y:60<(Pp.out x L).length+1:=by rw[List.length_append]at A;simp at A;omega
    have P:Hid (60<(Pp.out x L).length+1):=Y;clear Y;rw[List.length_append,List.length_singleton]at A;go_wp2_with fail;go_ret2;exact Or.inl ⟨P.out,rfl,Z⟩
  · have P:=hid (show¬60<(Pp.out x L).length+1 from by rw[List.length_append]at A;simp at A;omega)
    have G:(Pp.out x L++[x]).length=(Pp.out x L).length+1:=by simp
    rw[G]at A I8;have d:Hid ((Pp.out x L).length+1=(Pp.out x L++[x]).length):=G.symm;clear G;go_wp2_with fail;rw[d.out];refine(uI (Pp.out x L++[x]) w.heap.size g X _ HO.out (by rw[←d.out];omega) (by rw[←d.out];omega) I9 Iv).mono ?_
    rintro e w6 ⟨rfl,M,hp,O,I0,I7⟩
    have HM:=hid (show is w.heap.size w6 (.slice (some ⟨g,0,none⟩) (Pp.out x L++[x]).length X) (cg x (Pp.out x L))from by
     have e:=zP hp O (List.Pairwise.filter _ HL.out) (Pp.out_ne x L);rw[←e];exact I0)
    clear hp O I0;rw[←d.out];go_wp2;go_ret2;exact Or.inr ⟨P.out,_,rfl,by rw[d.out];exact HM.out,Z.trans I7⟩
theorem vD {w f:World} {a b c d e:Value} {T:TypeId} (h:Below (w.alloc (.cells #[a,b,c,d,e] T)).heap.size (w.alloc (.cells #[a,b,c,d,e] T)) f):
    f.cell? ⟨w.heap.size,0,none⟩=some a∧f.cell? ⟨w.heap.size,1,none⟩=some b∧f.cell? ⟨w.heap.size,2,none⟩=some c∧f.cell? ⟨w.heap.size,3,none⟩=some d∧f.cell? ⟨w.heap.size,4,none⟩=some e∧Below w.heap.size w f∧w.heap.size<f.heap.size:=by
 have y:w.heap.size<(w.alloc (.cells #[a,b,c,d,e] T)).heap.size:=by simp
 refine⟨?_,?_,?_,?_,?_,((Below.refl _ _).alloc (Nat.le_refl _) _).trans (h.mono (Nat.le_of_lt y)),Nat.lt_of_lt_of_le y h.size⟩
 · exact(h.cell (p:=⟨w.heap.size,0,none⟩) y).trans (by simp)
 · exact(h.cell (p:=⟨w.heap.size,1,none⟩) y).trans (by simp)
 · exact(h.cell (p:=⟨w.heap.size,2,none⟩) y).trans (by simp)
 · exact(h.cell (p:=⟨w.heap.size,3,none⟩) y).trans (by simp)
 · exact(h.cell (p:=⟨w.heap.size,4,none⟩) y).trans (by simp)
def Pp.stB (q:List UInt8) (b:Int) (e:En):Bool:=decide (b<e.ver) && eE q e
theorem vE (x:En) (q:ByteArray) (k:Int) (t u:ByteArray) (b:Int) (c d g:Nat) (z:Array Value) (w:World) (M:c<w.heap.size) (O:d<w.heap.size) (K:w.cell? ⟨c,4,none⟩=some (.int .i64 b)) (E:w.cell? ⟨d,0,none⟩=some (.func (.func g) #[] z)) (F:dk w g z (eE q.data.toList)) (Q:x.path.size≤1000000000000000):
    Calls prog 277 #[.agg #[.string x.path,.bool x.folder,.string x.text,.int .i64 x.ver],.pointer (some ⟨c,0,none⟩),.pointer (some ⟨d,0,none⟩)] w fun r w'=>r= .returned (.bool (Pp.stB q.data.toList b x))∧Below w.heap.size w w':=by
 have N: ∀o,(w.alloc o).cell? ⟨c,4,none⟩=some (.int .i64 b):=fun o=>(((Below.refl w.heap.size w).alloc (Nat.le_refl _) o).cell (p:=⟨c,4,none⟩) M).trans K
 have P: ∀o,(w.alloc o).cell? ⟨d,0,none⟩=some (.func (.func g) #[] z):=fun o=>(((Below.refl w.heap.size w).alloc (Nat.le_refl _) o).cell (p:=⟨d,0,none⟩) O).trans E
 have I:Hid (dk w g z (eE q.data.toList)):=F;have J:=F.1;clear F;by_cases H:b<x.ver
 · have A:=hid (show eE q.data.toList x=Pp.stB q.data.toList b x from by rw[Pp.stB];simp[H])
   go_enter func277,ntmps277
   go_wp2_with fail;refine(I.out.2 _ ((Below.refl _ _).alloc (Nat.le_refl _) _) x Q).mono ?_
   rintro r X ⟨rfl,f⟩;obtain⟨S,T,U,V,y,G⟩:=dO f
   clear f J;go_wp2;go_ret;exact⟨bt A.out,y⟩
 · have A:=hid (show false=Pp.stB q.data.toList b x from by rw[Pp.stB];simp[H])
   go_enter func277,ntmps277
   go_wp2;go_ret;exact⟨bt A.out,(Below.refl _ _).alloc (Nat.le_refl _) _⟩
theorem vF (L:List En) (v:Value) (k:Int) (p q t:ByteArray) (b:Int) (w:World) (P:an w v L) (N:da L) (hp:p.size≤1000000000000000) (hb:b= -1∨L.find? (Pp.stB p.data.toList b)=none):
    Calls prog 230 #[v,.agg #[.int .i64 k,.string p,.string q,.string t,.int .i64 b]] w fun e w'=>e= .returned (.bool false)∧Below w.heap.size w w':=by
 have V:Hid (an w v L):=P;have T:=hid (show∀e∈L,e.path.size≤1000000000000000 from fun e he=>(N e he).1);clear P N;by_cases J:b= -1
 · subst J
   go_enter func230,ntmps230
   go_wp2;go_ret;exact⟨rfl,(Below.refl _ _).alloc (Nat.le_refl _) _⟩
 · have S:=hid (show L.find? (Pp.stB p.data.toList b)=none from hb.resolve_left J)
   have h2:(b== -1)=false:=by simpa using J
   clear hb;have I0: ∀(W:World) (a:Addr) (f:Fn) (x y:Array Value),(store a (.func f x y)).run prog W=stored prog W a (.func f x y) .plain:=fun W a f x y=>run_store prog W a _ _ rfl
   go_enter func230,ntmps230
   go_wp2_with fail;refine(nk p _ hp).mono ?_
   rintro e I ⟨rfl,O,E⟩;obtain⟨X,Y,Z,c3,M,F,d⟩:=vD E
   have U:Hid (dk I 321 #[.pointer (some ⟨(w.alloc (.cells #[.int .i64 k,.string p,.string q,.string t,.int .i64 b] 72)).heap.size,0,none⟩)] (eE p.data.toList)):=O;clear O E;go_wp2_with fail;refine(jt L v _ _ (Pp.stB p.data.toList b) _ (V.out.below (F.alloc (Nat.le_of_lt d) _)) ⟨enters_of func277 (by kernel_rfl) rfl,?_⟩ T.out).mono ?_
   · intro W K x hx
     have z:Below I.heap.size I W:=((Below.refl _ _).alloc (Nat.le_refl _) _).trans (K.mono (by simp));refine vE x p k t q b w.heap.size I.heap.size 321 #[.pointer (some ⟨w.heap.size+1,0,none⟩)] W (Nat.lt_of_lt_of_le d z.size) (Nat.lt_of_lt_of_le (by simp) K.size) ((z.cell (p:=⟨w.heap.size,4,none⟩) d).trans M) ((K.cell (p:=⟨I.heap.size,0,none⟩) (by simp)).trans (by simp)) ?_ hx
     have h:=U.out.below z;simpa using h
   · rintro e Q ⟨rfl,A⟩
     rw[S.out,iK];have G:Below w.heap.size w Q:=(F.alloc (Nat.le_of_lt d) _).trans (A.mono (by simp;omega));have H:w.heap.size<Q.heap.size:=by have:=A.size;simp at this;omega
     clear A X Y Z c3 M;go_wp2;go_ret;exact⟨rfl,G.alloc (Nat.le_of_lt H) _⟩
def jw (k:Int) (p t:ByteArray) (n:Int):En:=⟨p,decide (k=1),t,n⟩
theorem kP {w:World} {base:Nat} {T:TypeId} {v:Value} {L:List En} (h:w.ownsRow base T 4 v L.length (cr L)) (F:L.length≤1000000000000000):an w v L:=by
 haveI:Inhabited En:=⟨⟨⟨#[]⟩,false,⟨#[]⟩,0⟩⟩
 by_cases z:L=[]
 · subst z
   obtain⟨_,E⟩:=h
   rcases E with⟨rfl,_⟩|⟨g,cap,cur,rfl,A,G,f,_⟩
   · exact⟨none,0,rfl,Nat.le_refl _,by simp,fun i y=>absurd y (by simp)⟩
   · exact⟨some ⟨g,0,none⟩,cap,rfl,f,by simp,fun i y=>absurd y (by simp)⟩
 · obtain⟨g,cap,rfl,hb,A,f,H⟩:=Pp.own_shape h z
   have:=Pp.lies_holds A (uH h rfl) (d:=L.toArray) (cap:=cap) (by simpa using f) (by simpa using F)
   simpa using this
theorem BR (x:En) (w:World):
    Calls prog 224 #[.agg #[.string x.path,.bool x.folder,.string x.text,.int .i64 x.ver]] w fun r w'=>r= .returned (.bool true)∧Below w.heap.size w w':=by
 go_enter func224,ntmps224
 go_wp2;go_ret;exact⟨rfl,by first|exact Below.refl _ _|exact(Below.refl _ _).alloc (Nat.le_refl _) _⟩
theorem BS (w:World):dk w 224 #[] (fun _=>true):=
 ⟨enters_of func224 (by kernel_rfl) rfl,fun W d x f=>BR x W⟩
theorem BT (L:List En) (v:Value) (k:Int) (p q t:ByteArray) (b:Int) (w:World) (P:an w v L) (N: ∀e∈L,e.path.size≤1000000000000000) (hp:p.size≤1000000000000000) (h1: ¬b= -1) (x:En) (M:L.find? (Pp.stB p.data.toList b)=some x):
    Calls prog 230 #[v,.agg #[.int .i64 k,.string p,.string q,.string t,.int .i64 b]] w fun e w'=>e= .returned (.bool true)∧Below w.heap.size w w':=by
 have V:Hid (an w v L):=P;have T:Hid (∀e∈L,e.path.size≤1000000000000000):=N;have S:Hid (L.find? (Pp.stB p.data.toList b)=some x):=M;have h2:(b== -1)=false:=by simpa using h1
 clear P N M;have I0: ∀(W:World) (a:Addr) (f:Fn) (x y:Array Value),(store a (.func f x y)).run prog W=stored prog W a (.func f x y) .plain:=fun W a f x y=>run_store prog W a _ _ rfl
 go_enter func230,ntmps230
 go_wp2_with fail;refine(nk p _ hp).mono ?_
 rintro e I ⟨rfl,O,E⟩;obtain⟨X,Y,Z,c3,K,F,d⟩:=aw E
 have U:Hid (dk I 321 #[.pointer (some ⟨(w.alloc (.cells #[.int .i64 k,.string p,.string q,.string t,.int .i64 b] 72)).heap.size,0,none⟩)] (eE p.data.toList)):=O;clear O E;go_wp2_with fail;refine(jt L v _ _ (Pp.stB p.data.toList b) _ (V.out.below (F.alloc (Nat.le_of_lt d) _)) ⟨enters_of func277 (by kernel_rfl) rfl,?_⟩ T.out).mono ?_
 · intro W J x hx
   have z:Below I.heap.size I W:=((Below.refl _ _).alloc (Nat.le_refl _) _).trans (J.mono (by simp));refine vE x p k t q b w.heap.size I.heap.size 321 #[.pointer (some ⟨w.heap.size+1,0,none⟩)] W (Nat.lt_of_lt_of_le d z.size) (Nat.lt_of_lt_of_le (by simp) J.size) ((z.cell (p:=⟨w.heap.size,4,none⟩) d).trans K) ((J.cell (p:=⟨I.heap.size,0,none⟩) (by simp)).trans (by simp)) ?_ hx
   have h:=U.out.below z;simpa using h
 · rintro e Q ⟨rfl,A⟩
   rw[S.out,iK];have G:Below w.heap.size w Q:=(F.alloc (Nat.le_of_lt d) _).trans (A.mono (by simp;omega));have H:w.heap.size<Q.heap.size:=by have:=A.size;simp at this;omega
   clear A X Y Z c3 K;go_wp2;go_ret;exact⟨rfl,G.alloc (Nat.le_of_lt H) _⟩
theorem oC {e:En} {p:List UInt8} (d:az e.path.data.toList=0) (f:az p=0):eE p e=be p e:=by
 rw[eE,be];simp[cd,d,f]
theorem vG {e:En} {p:List UInt8} {b:Int} (d:az e.path.data.toList=0) (f:az p=0):Pp.stB p b e=dd p b e:=by
 rw[Pp.stB,dd,oC d f]
theorem qY {f g:En→Bool} {L:List En} (h: ∀e∈L,f e=g e):L.filter f=L.filter g:=List.filter_congr h
theorem BU {L:List En} {c:ay} (z: ∀e∈L,az e.path.data.toList=0) (E:az c.p.data.toList=0):dP L c=(!(c.b== -1) && (L.find? (Pp.stB c.p.data.toList c.b)).isSome):=by
 rw[dP];congr 1
 cases d:L.find? (Pp.stB c.p.data.toList c.b)with
 |none=>
  rw[List.any_eq_false.2]
  · rfl
  · intro e A
    have:=List.find?_eq_none.1 d e A
    rw[vG (z e A) E]at this;exact this
 |some x=>
  have f:=List.find?_some d;have y:=List.mem_of_find?_eq_some d;rw[vG (z x y) E]at f;rw[List.any_eq_true.2 ⟨x,y,f⟩];rfl
theorem vH (L:List En) (v:Value) (k:Int) (p q t:ByteArray) (b:Int) (w:World) (E:an w v L) (A:da L) (z:p.size≤1000000000000000) (G: ∀e∈L,az e.path.data.toList=0) (H:az p.data.toList=0):
    Calls prog 230 #[v,.agg #[.int .i64 k,.string p,.string q,.string t,.int .i64 b]] w fun e w'=>e= .returned (.bool (dP L ⟨k,p,q,t,b⟩))∧Below w.heap.size w w':=by
 have d:=BU (c:=⟨k,p,q,t,b⟩) G H;by_cases y:b= -1
 · rw[d];subst y
   exact vF L v k p q t (-1) w E A z (Or.inl rfl)
 · have F:(b== -1)=false:=by simpa using y
   cases f:L.find? (Pp.stB p.data.toList b)with
   |none=>
    have e:dP L ⟨k,p,q,t,b⟩=false:=by rw[d];simp only[f];simp
    rw[e];exact vF L v k p q t b w E A z (Or.inr f)
   |some x=>
    have e:dP L ⟨k,p,q,t,b⟩=true:=by rw[d];simp only[f,F];rfl
    rw[e];exact BT L v k p q t b w E (fun e I=>(A e I).1) z y x f
theorem vI (L:List (List UInt8)) (g o cap:Nat) (w:World) (I:(cB L).length≤1000000000) (K:L.length≤1000000000) (d: ∀i (h:i<L.length),w.cell? ⟨g,o+i,none⟩=some (.string ⟨(L[i]).toArray⟩)):
    Calls prog 114 #[.slice (some ⟨g,o,none⟩) L.length cap] w fun e w'=>e= .returned (.string ⟨(cB L).toArray⟩)∧w'=w:=by
 have F:Hid (∀i (h:i<L.length),w.cell? ⟨g,o+i,none⟩=some (.string ⟨(L[i]).toArray⟩)):=d;clear d;go_enter func114,ntmps114
 go_wp2_with fail;go_loop [3,4] (fun s i=> ∃k:Nat,k≤L.length∧i= .int .i64 k∧s= .string ⟨(cB (L.take k)).toArray⟩) (fun _ i=>L.length-(intOf i).toNat)
 case atStart=>exact⟨0,Nat.zero_le _,rfl,rfl⟩
 case round=>
  obtain⟨k,J,rfl,rfl⟩:=hrel
  by_cases f:k<L.length
  · have y:=F.out k f
    have b1:=pN L k;have b2:=pN L (k+1);have dF:=zH L k f;by_cases A:0<k
    · have z:Hid ((⟨(cB (L.take k)).toArray⟩:ByteArray)++⟨#[47]⟩++⟨(L[k]).toArray⟩=⟨(cB (L.take (k+1))).toArray⟩):=zF L k f A
      have G:0<(k:Int):=by omega
      go_wp2;go_round
      case rel=>exact⟨k+1,by omega,by go_num,by rw[←z.out]⟩
      case measure=>simp[intOf];omega
    · obtain rfl:k=0:=by omega
      have z:Hid ((⟨#[]⟩:ByteArray)++⟨(L[0]).toArray⟩=⟨(cB (L.take 1)).toArray⟩):=zG L f;have E:w.cell? ⟨g,o,none⟩=some (.string ⟨(L[0]).toArray⟩):=y;have H:(cB []).length=0:=rfl;clear y;go_wp2;go_round
      case rel=>exact⟨0+1,by omega,by go_num,by rw[←z.out];rfl⟩
      case measure=>simp[intOf];omega
  · go_wp2
    go_ret;exact⟨by rw[List.take_of_length_le (by omega)];rfl,rfl⟩
theorem gB (s:ByteArray) (w:World) (M:s.size≤1000000000):
    Calls prog 68 #[.string s] w fun e w'=>e= .returned (.string ⟨(aC s.data.toList).toArray⟩)∧Below w.heap.size w w':=by
 have P:(aj s.data.toList).length≤s.size+1:=by have:=jP s.data.toList;rwa [←Lib.size_eq]at this
 have K:=pM s.data.toList;rw[←Lib.size_eq]at K;have O:1≤(aj s.data.toList).length:=Nat.pos_of_ne_zero (fun e=>kA _ (List.length_eq_zero_iff.1 e));have A:Hid (cB (aj s.data.toList).dropLast=aC s.data.toList):=rfl;have F:=hid (show∀i (h:i<(aj s.data.toList).dropLast.length) (y:i<(aj s.data.toList).length),(aj s.data.toList).dropLast[i]=(aj s.data.toList)[i]from fun i h y=>List.getElem_dropLast h);have f:Hid ((aj s.data.toList).dropLast.length=(aj s.data.toList).length-1):=List.length_dropLast;go_enter func68,ntmps68
 go_wp2_with fail;refine(gO s _ M).mono ?_
 rintro e N ⟨g,z,rfl,G,H,I,J,d,hb⟩;have E:Hid (∀i (h:i<(aj s.data.toList).length),N.cell? ⟨g,i,none⟩=some (.string ⟨((aj s.data.toList)[i]).toArray⟩)):=d;clear d;go_wp2_with fail;rw[←f.out];refine(vI (aj s.data.toList).dropLast g 0 z _ (by rw[A.out];omega) (by rw[f.out];omega) (fun i h=>?_)).mono ?_
 · have y:i<(aj s.data.toList).length:=by rw[f.out]at h;omega
   rw[Nat.zero_add,F.out i h y];exact E.out i y
 rintro e Q ⟨rfl,rfl⟩;rw[A.out,f.out];go_wp2;go_ret;exact⟨rfl,hb⟩
theorem gP (k:Int) (p q t:ByteArray) (b:Int) (w:World) (S:p.size≤1000000000) (hq:q.size≤1000000000) (ht:t.size≤1000000000000000):
    Calls prog 162 #[.agg #[.int .i64 k,.string p,.string q,.string t,.int .i64 b]] w fun e w'=>e= .returned (.int .i64 (aQ ⟨k,p,q,t,b⟩))∧Below w.heap.size w w':=by
 by_cases Y:k<1
 · have y:=hid (show 7=aQ ⟨k,p,q,t,b⟩from by rw[aQ,if_pos (Or.inl Y)])
   go_enter func162,ntmps162
   go_wp2;go_ret;exact⟨aD y.out,(Below.refl _ _).alloc (Nat.le_refl _) _⟩
 by_cases Z:4<k
 · have y:=hid (show 7=aQ ⟨k,p,q,t,b⟩from by rw[aQ,if_pos (Or.inr Z)])
   go_enter func162,ntmps162
   go_wp2;go_ret;exact⟨aD y.out,(Below.refl _ _).alloc (Nat.le_refl _) _⟩
 by_cases H:az p.data.toList=0
 · have U:Hid (az p.data.toList=0):=H
   have h4:(k=1∨k=4)∨k=2∨k=3:=by omega
   clear Y Z;rcases h4 with h|rfl|rfl
   · have f:=ux h p q t b H
     clear H;rcases h with rfl|rfl
     all_goals
      rcases f with⟨G,y⟩|⟨G,I,y⟩|⟨G,I,P,V,y⟩|⟨G,I,P,V,y⟩|⟨G,I,P,V,f5,y⟩
     all_goals
      go_enter func162,ntmps162
      go_wp2_with fail;refine(iW p _ S).mono ?_
      rintro e X ⟨rfl,d⟩;rw[U.out];obtain⟨J,K,M,N,O,z,F⟩:=aw d
      clear d;go_wp2_with fail;go_ret;exact⟨aD y.out,z⟩
   · have f:=uy p q t b H
     clear H;rcases f with⟨G,y⟩|⟨G,I,y⟩|⟨G,I,P,y⟩|⟨G,I,P,y⟩|⟨G,I,P,V,y⟩
     all_goals
      go_enter func162,ntmps162
      go_wp2_with fail;refine(iW p _ S).mono ?_
      rintro e X ⟨rfl,d⟩;rw[U.out];obtain⟨J,K,M,N,O,z,F⟩:=aw d
      clear d;go_wp2_with fail;go_ret;exact⟨aD y.out,z⟩
   · by_cases T:az q.data.toList=0
     · have f:=uz p q t b H T
       have HY:Hid (az q.data.toList=0):=T;clear H T;rcases f with⟨G,y⟩|⟨G,I,P,y⟩|⟨G,I,P,y⟩|⟨G,I,P,V,y⟩
       all_goals
        go_enter func162,ntmps162
        go_wp2_with fail;refine(iW p _ S).mono ?_
        rintro e X ⟨rfl,d⟩;rw[U.out];obtain⟨J,K,M,N,O,z,F⟩:=aw d
        go_wp2_with fail;refine(iW q _ hq).mono ?_
        rintro e w2 ⟨rfl,E⟩;rw[HY.out];have A:=d.trans (E.mono d.size);clear J K M N O z F d E;obtain⟨J,K,M,N,O,z,F⟩:=aw A
        clear A;go_wp2_with fail;go_ret;exact⟨aD y.out,z⟩
     · have y:=hid (show az q.data.toList=aQ ⟨3,p,q,t,b⟩from by simp[aQ,H,T])
       have I0:(az q.data.toList==0)=false:=by simpa using T
       clear H;go_enter func162,ntmps162
       go_wp2_with fail;refine(iW p _ S).mono ?_
       rintro e X ⟨rfl,d⟩;rw[U.out];obtain⟨J,K,M,N,O,z,F⟩:=aw d
       go_wp2_with fail;refine(iW q _ hq).mono ?_
       rintro e w2 ⟨rfl,E⟩;have A:=d.trans (E.mono d.size);clear J K M N O z F d E;obtain⟨J,K,M,N,O,z,F⟩:=aw A
       clear A;go_wp2_with fail;go_ret;exact⟨aD y.out,z⟩
 · have y:=hid (show az p.data.toList=aQ ⟨k,p,q,t,b⟩from by rw[aQ,if_neg (by simp only;omega),if_pos H])
   have I5:(az p.data.toList==0)=false:=by simpa using H
   go_enter func162,ntmps162
   go_wp2_with fail;refine(iW p _ S).mono ?_
   rintro e X ⟨rfl,Q⟩;obtain⟨J,K,M,N,O,hb,F⟩:=aw Q
   clear Q;go_wp2_with fail;go_ret;exact⟨aD y.out,hb⟩
end Go.Proofs.YtcmlnelpcjfocaaGreatDoor
