/- Where the grants' folders are, as plain mathematics; what the server's map answers. -/
import Derived.Test.YtcmlnelpcjfocaaGreatDoorWYZ
import Derived.Test.YtcmlnelpcjfocaaGreatDoorWYX
import Derived.Test.YtcmlnelpcjfocaaGreatDoorWYV
set_option linter.unusedSimpArgs false
set_option linter.unusedVariables false
namespace Go.Proofs.YtcmlnelpcjfocaaGreatDoor
open Go.RowKit Go.Maps Go.WideMaps Go.ChangeShapes Go.WideShapes Go.ChangeAt Go.Proofs.Tryz
set_option maxHeartbeats 4000000
set_option maxRecDepth 8000
theorem EP {L:List Sh} (M:eQ L=true) {x:ByteArray} (h:cy L x=true): ∃A:dy L x<L.length,L[dy L x].na.data.toList=x.data.toList:=by
 obtain⟨s,N,y⟩:=List.any_eq_true.1 h
 have y:bh s x=0:=of_decide_eq_true y;obtain⟨m,K,rfl⟩:=List.getElem_of_mem N
 have A:dy L x<L.length:=List.findIdx_lt_length_of_exists ⟨L[m],List.getElem_mem K,decide_eq_true (by omega)⟩;refine⟨A,?_⟩
 have I:0≤bh L[dy L x] x:=by
  have:=List.findIdx_getElem (p:=fun s=>decide (0≤bh s x)) (w:=A)
  exact of_decide_eq_true this
 have J:dy L x≤m:=by
  rcases Nat.lt_or_ge m (dy L x)with z|f
  · have:=List.not_of_lt_findIdx (p:=fun s=>decide (0≤bh s x)) z
    simp at this;omega
  · exact f
 by_cases e:dy L x=m
 · simp only[e];exact jR _ _ y
 · obtain⟨d,H⟩: ∃d,m=dy L x+d+1:=⟨m-dy L x-1,by omega⟩
   have E:=nF M d (dy L x) (by omega);have F:L[m].na.data.toList=x.data.toList:=jR _ _ y;have G:(L[dy L x+d+1]'(by omega)).na.data.toList=x.data.toList:=by rw[←F];simp only[H]
   rw[G]at E;have O:bh L[dy L x] x<0:=E;omega
theorem EQ (L:List Sh) {x y:ByteArray} (h:x.data.toList=y.data.toList):dy L x=dy L y:=by
 unfold dy bh;rw[h]
theorem ER (L:List Sh) {x y:ByteArray} (h:x.data.toList=y.data.toList):cy L x=cy L y:=by
 unfold cy bh;rw[h]
def bT (G:List Gr) (x:ByteArray):Bool:=Jn.hasB (Hu.told [] G) x.data.toList
theorem sC (L:List Sh) (G:List Gr) (p:List UInt8):Jn.hasB (Hu.told L G) p=G.any (fun g=>g.fo.data.toList==p):=by
 unfold Jn.hasB Hu.told;rw[List.any_map];rfl
theorem xI (L:List Sh) (G:List Gr) (x:ByteArray):Jn.hasB (Hu.told L G) x.data.toList=bT G x:=by rw[bT,sC,sC]
theorem jh (G:List Gr) (x:ByteArray):bT G x=G.any (fun g=>g.fo.data.toList==x.data.toList):=by rw[bT,sC]
def eZ (L:List Sh) (G:List Gr) (x:ByteArray):Nat:=if bT G x=true then dy L x else 0
theorem ES (L:List Sh) (x:ByteArray): ∀G:List Gr,(Jn.D (Hu.told L G)).atKey (Jn.key x) (Jn.num 0)=Jn.num (eZ L G x):=by
 intro G;refine Jn.snoc_ind (P:=fun G=>(Jn.D (Hu.told L G)).atKey (Jn.key x) (Jn.num 0)=Jn.num (eZ L G x)) rfl ?_ G
 intro G g ih;have e:Hu.told L (G++[g])=Hu.told L G++[⟨dy L g.fo,g.fo,[]⟩]:=by unfold Hu.told;simp
 rw[e,Jn.D_snoc];by_cases d:Jn.key x=Jn.key g.fo
 · have f:=Jn.key_inj d
   rw[d,Maps.atKey_put_same (nw _).isMap (ox _),eZ,if_pos (by rw[jh,List.any_append];simp[f]),EQ L f]
 · rw[Maps.atKey_put_other d,ih,eZ,eZ]
   have y: ¬g.fo.data=x.data:=fun h=>d (by rw[Jn.key,Jn.key,h])
   have:bT (G++[g]) x=bT G x:=by rw[jh,jh,List.any_append];simp[y]
   rw[this]
theorem ET {L:List Sh} {G:List Gr} (h:dm L G=0) {x:ByteArray} (f:bT G x=true):cy L x=true:=by
 rw[jh,List.any_eq_true]at f;obtain⟨g,z,d⟩:=f
 have y:(G.all fun g=>cy L g.fo)=true:=by
  cases hb:(G.all fun g=>cy L g.fo)with
  |true=>rfl
  |false=>rw[dm,hb]at h;simp at h
 have:=List.all_eq_true.1 y g z
 rw[←ER L (by simpa using d:g.fo.data.toList=x.data.toList)];exact this
theorem sD {H:Hb} (h:ae H=0) {x:ByteArray} (d:bT H.gs x=true): ∃z:eZ H.fos H.gs x<H.fos.length,H.fos[eZ H.fos H.gs x].na.data.toList=x.data.toList:=by
 obtain⟨_,f,_,y,_⟩:=mw h
 rw[eZ,if_pos d];exact EP (lH f).2.2 (ET y d)
theorem xJ {G:List Gr} {f h:ByteArray} (y: ¬eV G f h=0):bT G f=true:=by
 rw[eV]at y;cases d:G.find? (ez f h)with
 |none=>rw[d]at y;exact absurd rfl y
 |some e=>
  have A:=List.mem_of_find?_eq_some d;have z:=List.find?_some d;rw[ez,Bool.and_eq_true]at z;rw[jh,List.any_eq_true];refine⟨e,A,?_⟩
  have:=z.1
  rw[Lib.toList_data,Lib.toList_data]at this;exact this
theorem EU {a b:Int} (h:Jn.num a= .lit (.int .i64 b)):a=b:=by
 unfold Jn.num at h;injection h with h
 injection h
def Hu.lst (k:Int):Int:=if k=1∨k=7 then 2 else if k=2∨k=3 then 1 else 0
theorem iz.look2 {w:World} {y n:Nat} {H:Hb} (h:iz w y n H) (x:ByteArray) (J:x.size≤150000000000000):(Instr.lookup 133 (.map (some y)) (.string x) true).run prog w= .ok (.tuple #[.int .i64 (eZ H.fos H.gs x:Nat),.bool (bT H.gs x)]) w:=by
 have G:x.size≤maxLen:=by unfold maxLen;omega
 obtain⟨v,K,d,I⟩:=World.ownsMap.look_ok h (string_keyed underlying9) underlying133 (Tryz.zeroInt w) (plainElem_int underlying3 (by decide:(Lit.int .i64 0).wf=true)) (keyOf_string_mk underlying9 G)
 obtain⟨c,rfl,f,_⟩:=plainElem_int_inv underlying3 I
 simp only[Prod.mk.injEq]at f;have z:=ES H.fos x H.gs;have A:Jn.num (eZ H.fos H.gs x)= .lit (.int .i64 c):=z.symm.trans f.1;have E:(eZ H.fos H.gs x:Int)=c:=EU A;have F:Maps.has (Jn.D (Hu.told H.fos H.gs)) (Jn.key x)=bT H.gs x:=by rw[qN,xI]
 rw[d,E,←F];rfl
def ji (w:World) (g mb:Nat) (H:Hb):Prop:= ∃vf vg ai,Cs w g [vf,vg,ai,.int .i64 H.nx,.int .i64 H.la,.int .i64 H.ro,.int .i64 H.now,.map (some mb)]∧eP w vf H.fos∧cD w vg H.gs∧de w ai H.ss
theorem Sv.lies {B:Nat} {w:World} {g d:Nat} {f y ai:Value} {H:Hb} (h:Sv B w g d f y ai H):ji w g d H:=⟨f,y,ai,h.1,h.2.1.lies,h.2.2.1.1,h.2.2.2.1.1⟩
theorem ji.below {w w':World} {g f:Nat} {H:Hb} (h:ji w g f H) (d:Below w.heap.size w w'):ji w' g f H:=by
 obtain⟨F,G,ai,y,z,A,E⟩:=h
 exact⟨F,G,ai,y.below d,z.below d,A.below d,E.below d⟩
theorem ji.nb {w w':World} {g y k:Nat} {H:Hb} (h:ji w g y H) (d:w.grownBy w' (some k)) (f:dx w k) (G:g≠k):ji w' g y H:=by
 obtain⟨I,J,ai,z,A,E,F⟩:=h
 exact⟨I,J,ai,z.nb d G,A.nb d f,E.nb d f,F.nb d f⟩
theorem EV {l:List Sh} {us:List (Value×Value)} (h:us.length=l.length) {i:Nat} (f:i<l.length) (s:Sh) (u:Value×Value):(dh l us).set i (gT s u)=dh (l.set i s) (us.set i u):=by
 apply List.ext_getElem?
 intro j;rw[List.getElem?_set,dh,dh,List.getElem?_zipWith,List.getElem?_zipWith,List.getElem?_set,List.getElem?_set];by_cases d:i=j
 · subst d
   simp[h,f,show i<us.length by omega]
 · simp[d]
theorem EW {w:World} {a:Option Addr} {n cap b o k:Nat} {l:List Sh} {us:List (Value×Value)} {u:Value×Value} {J:Jo} (h:aW 4 w (.slice a n cap) (dh l us)) (A:us.length=l.length) (y:a=some ⟨b,o,none⟩) (z:k<l.length) (E:u.1.oneCell'=true) (F:u.2.oneCell'=true):
    aW 4 (((w.setCell ⟨b,o+k*4+1,none⟩ u.1).setCell ⟨b,o+k*4+2,none⟩ (.int .i64 J.first)).setCell ⟨b,o+k*4+3,none⟩ u.2) (.slice a n cap) (dh (l.set k ⟨l[k].na,J⟩) (us.set k u)):=by
 have f:=mr A z;have d:k<(dh l us).length:=by rw[ij A];exact z
 rw[List.getElem?_eq_getElem d]at f;injection f with f
 have G:=h.set y (i:=k) (c:=1) d (by decide) u.1 E;have H:=G.set y (i:=k) (c:=2) (by simpa using d) (by decide) (.int .i64 J.first) rfl;have I:=H.set y (i:=k) (c:=3) (by simpa using d) (by decide) u.2 F;rw[←EV A z ⟨l[k].na,J⟩ u];simpa[f,gT]using I
theorem fG.put {B b o n cap k:Nat} {w:World} {l:List Sh} {y z:Value} {J:Jo} (h:fG B w (.slice (some ⟨b,o,none⟩) n cap) l) (P:k<l.length) (H:an w y J.base) (F:aI (b+1) w y) (I:dT (b+1) w z J.cos):
    eP (((w.setCell ⟨b,o+k*4+1,none⟩ y).setCell ⟨b,o+k*4+2,none⟩ (.int .i64 J.first)).setCell ⟨b,o+k*4+3,none⟩ z) (.slice (some ⟨b,o,none⟩) n cap) (l.set k ⟨l[k].na,J⟩):=by
 obtain⟨us,⟨K,O⟩,Q,M,G⟩:=h
 have T:y.oneCell'=true:=by obtain⟨_,_,rfl,_⟩:=H;rfl
 have U:z.oneCell'=true:=by obtain⟨_,_,rfl,_⟩:=I.lies;rfl
 have S:=EW (u:=(y,z)) (J:=J) Q K rfl P T U;have E:w.grownBy (((w.setCell ⟨b,o+k*4+1,none⟩ y).setCell ⟨b,o+k*4+2,none⟩ (.int .i64 J.first)).setCell ⟨b,o+k*4+3,none⟩ z) (some b):=bj (bj (ar _ _ _ _) (ar _ _ _ _)) (ar _ _ _ _);have ne: ∀{v:Value},aI (b+1) w v→ ∀x,v.ownBlock=some x→x≠b:=fun M x G=>by have:=(M x G).1;omega
 refine wM (us:=us.set k (y,z)) ⟨by simp[K],fun i c u d f=>?_⟩ S
 by_cases A:k=i
 · subst A
   rw[List.getElem?_set_self (by omega)]at d f;injection d with d
   injection f with f
   subst d;subst f;exact⟨H.nbo E (ne F),(I.nbo E (Nat.lt_succ_self _)).lies⟩
 · rw[List.getElem?_set_ne A]at d f
   have N:=(G i c u d f).2 b rfl;exact⟨(O i c u d f).1.nbo E (ne N.1),(N.2.nbo E (Nat.lt_succ_self _)).lies⟩
theorem cD.row {W d:World} {v:Value} {L:List Gr} {r:Option Nat} (h:cD W v L) (z:W.grownBy d r) (H: ∀b,v.ownBlock=some b→r≠some b):cD d v L:=by
 obtain⟨a,f,rfl,A,E,F⟩:=h
 refine⟨a,f,rfl,A,E,fun i G=>?_⟩
 obtain⟨b,o,rfl,hb,y⟩:=F i G
 have c: ∀k,d.cell? ⟨b,k,none⟩=W.cell? ⟨b,k,none⟩:=fun k=>World.cell?_of_block (w:=W) (a:=⟨b,k,none⟩) (z.block b hb (fun e=>H b rfl e.symm))
 exact⟨b,o,rfl,Nat.lt_of_lt_of_le hb z.size,(c _).trans y.1,(c _).trans y.2.1,(c _).trans y.2.2⟩
theorem de.row {W f:World} {v:Value} {L:List Se} {r:Option Nat} (h:de W v L) (z:W.grownBy f r) (H: ∀b,v.ownBlock=some b→r≠some b):de f v L:=by
 obtain⟨a,y,rfl,A,E,F⟩:=h
 refine⟨a,y,rfl,A,E,fun i G=>?_⟩
 obtain⟨b,o,rfl,hb,d⟩:=F i G
 have c: ∀k,f.cell? ⟨b,k,none⟩=W.cell? ⟨b,k,none⟩:=fun k=>World.cell?_of_block (w:=W) (a:=⟨b,k,none⟩) (z.block b hb (fun e=>H b rfl e.symm))
 exact⟨b,o,rfl,Nat.lt_of_lt_of_le hb z.size,(c _).trans d.1,(c _).trans d.2.1,(c _).trans d.2.2.1,(c _).trans d.2.2.2.1,(c _).trans d.2.2.2.2⟩
def sE (H:Hb) (i:Nat):Jo:=match H.fos[i]? with|some s=>s.jo|none=>Be
theorem xK {H:Hb} {i:Nat} (h:i<H.fos.length):sE H i=H.fos[i].jo:=by rw[sE,List.getElem?_eq_getElem h]
theorem ji.shape {w:World} {g I:Nat} {H:Hb} (h:ji w g I H): ∃d f y z A sc,Cs w g [.slice d H.fos.length f,.slice y H.gs.length z,.slice A H.ss.length sc,.int .i64 H.nx,.int .i64 H.la,.int .i64 H.ro,.int .i64 H.now,.map (some I)]∧eP w (.slice d H.fos.length f) H.fos∧cD w (.slice y H.gs.length z) H.gs∧de w (.slice A H.ss.length sc) H.ss:=by
 obtain⟨O,P,ai,J,E,F,G⟩:=h
 have K:=E;have M:=F;have N:=G;obtain⟨d,f,rfl,_⟩:=E
 obtain⟨y,z,rfl,_⟩:=F
 obtain⟨A,sc,rfl,_⟩:=G
 exact⟨d,f,y,z,A,sc,J,K,M,N⟩
def nT:Hb:=⟨[],[],[],0,0,0,0⟩
theorem xL (w:World):an w (.slice none 0 0) []:=⟨none,0,rfl,Nat.le_refl _,by decide,fun i h=>absurd h (by simp)⟩
theorem EX (w:World):dC w (.agg #[.slice none 0 0,.slice none 0 0,.slice none 0 0,.int .i64 0,.int .i64 0,.int .i64 0,.int .i64 0]) nT:=⟨_,_,_,rfl,oL _,on _,⟨none,0,rfl,Nat.le_refl _,by decide,fun i h=>absurd h (by simp[nT])⟩⟩
def fJ (b:Bool):aN:= .n (if b=true then 1 else 0)
theorem pi (b:Bool):(fJ b).wf:=by cases b<;>exact(show dz _ from⟨by decide,by decide⟩)
def fe (e:En):List aN:=[.t e.path,fJ e.folder,.t e.text,.n e.ver]
def eK (c:Co):List aN:=[.n c.nu,.t c.ke]++Wr.lst 20 bI c.ch
def jM (p:Pg):List aN:=fJ p.reset::(Wr.lst 60 fe p.tree++Wr.lst 10 eK p.cos++[.n p.cur,fJ p.more])
def ee (a:An):List aN:= .n a.err:: .n a.num::jM a.pg
structure mO (e:En):Prop where
 v:dz e.ver
 p:gY e.path
 t:gY e.text
structure pj (c:Co):Prop where
 n:dz c.nu
 k:gY c.ke
 c: ∀x∈c.ch,je x
structure EY (p:Pg):Prop where
 u:dz p.cur
 t: ∀x∈p.tree,mO x
 o: ∀x∈p.cos,pj x
structure xM (a:An):Prop where
 e:dz a.err
 n:dz a.num
 p:EY a.pg
theorem mO.it {e:En} (h:mO e):(fe e).length≤4∧ ∀y∈fe e,y.wf:=by
 refine⟨by simp[fe],fun y d=>?_⟩
 simp only[fe,List.mem_cons,List.not_mem_nil,or_false]at d;rcases d with rfl|rfl|rfl|rfl
 · trivial
 · exact pi _
 · trivial
 · exact h.v
theorem pj.it {c:Co} (h:pj c):(eK c).length≤103∧ ∀y∈eK c,y.wf:=by
 have z:=Ep bI 20 5 c.ch (fun x f=>(h.c x f).it.1);refine⟨by simp only[eK,List.length_append,List.length_cons,List.length_nil];omega,fun y d=>?_⟩
 simp only[eK,List.mem_append,List.mem_cons,List.not_mem_nil,or_false]at d;rcases d with(rfl|rfl)|d
 · exact h.n
 · trivial
 · exact Er _ 20 c.ch (by omega) (fun x f=>(h.c x f).it.2) y d
theorem xN (n:Nat) (w:World) (M:n≤100000000000000000):
    Calls prog 69 #[.int .i64 n] w fun e w'=>e= .returned (.string ⟨(Lib.decDigits n).toArray⟩)∧Below w.heap.size w w':=by
 have F:=hid (show(Lib.decDigits n).length≤20 from oQ 19 n (by omega));have J: ¬(n:Int)<0:=by omega
 go_enter func69,ntmps69
 go_wp2_with fail;go_loopw [0,3] (fun m r wr=> ∃(u:Nat) (l:List UInt8),m= .int .i64 u∧r= .string ⟨l.toArray⟩∧u≤n∧l.length≤20∧Hid (Lib.decDigits n=Lib.decDigits u++l)∧Below w.heap.size w wr) (fun m _ _=>(intOf m).toNat)
 case atStart=>exact⟨n,[],rfl,rfl,Nat.le_refl _,by simp,(by simp:Lib.decDigits n=Lib.decDigits n++[]),Below.refl _ _⟩
 case round=>
  obtain⟨u,l,rfl,rfl,N,K,E,d⟩:=hrel
  have G:=fun I=>C6 u wr I
  by_cases y:u<10
  · have z:=hid (show(⟨#[Pp.dg u]⟩:ByteArray)++⟨l.toArray⟩=⟨(Lib.decDigits n).toArray⟩from dN (by
     rw[Joins.data_append,E.out,C4 y]))
    have H:((u:Int)/10==0)=true:=by rw[beq_iff_eq];omega
    go_wp2_with fail;go_ret;exact⟨by rw[←z.out];rfl,d.alloc d.size _⟩
  · have z:=hid (show(⟨#[Pp.dg u]⟩:ByteArray)++⟨l.toArray⟩=⟨(Pp.dg u::l).toArray⟩from dN (by rw[Joins.data_append];rfl))
    have f:=hid (show Lib.decDigits n=Lib.decDigits (u/10)++(Pp.dg u::l)from by rw[E.out,C5 y];simp)
    have A:(Pp.dg u::l).length≤20:=by
     have:=congrArg List.length f.out
     rw[List.length_append]at this;have:=F.out
     omega
    have H:((u:Int)/10==0)=false:=by rw[beq_eq_false_iff_ne];omega
    go_wp2_with fail;go_roundw
    case rel=>exact⟨u/10,Pp.dg u::l,by simp,by rw[z.out],by omega,A,f.out,d.alloc d.size _⟩
    case measure=>simp[intOf];omega
theorem xO (n:Int) (w:World) (F:n.natAbs≤100000000000000000):
    Calls prog 69 #[.int .i64 n] w fun e w'=>e= .returned (.string ⟨(Lib.itoa n).toArray⟩)∧Below w.heap.size w w':=by
 by_cases A:n<0
 · obtain⟨u,rfl⟩: ∃u:Nat,n= -(u:Int):=⟨n.natAbs,by omega⟩
   have f:=hid (fun W=>xN u W (by omega));have E:=oQ 19 u (by omega);rw[Lib.itoa_neg u (by omega)];have G:IntKind.i64.wrap (-(-(u:Int)))=u:=by rw[IntKind.wrap_i64]<;>omega
   have z: - -(u:Int)=u:=by omega
   have y:=hid (show(⟨#[45]⟩:ByteArray)++⟨(Lib.decDigits u).toArray⟩=⟨(45::Lib.decDigits u).toArray⟩from dN (by rw[Joins.data_append];rfl));go_enter func69,ntmps69
   go_wp2_with fail;refine(f.out _).mono ?_
   rintro e H ⟨rfl,d⟩;go_wp2_with fail;go_ret;exact⟨by rw[←y.out];rfl,d⟩
 · obtain⟨u,rfl⟩: ∃u:Nat,n=u:=⟨n.toNat,by omega⟩
   rw[Lib.itoa_nonneg];exact xN u w (by omega)
def Sc (b:Nat) (s:ByteArray) (i:Nat) (bad:Bool) (w:World):Prop:=w.heap[b]?=some (.cells #[.string s,.int .i64 i,.bool bad] 103 (0,0))
theorem Sc.cs {b:Nat} {s:ByteArray} {i:Nat} {bad:Bool} {w:World} (h:Sc b s i bad w):Cs w b [.string s,.int .i64 i,.bool bad]:=⟨_,h⟩
theorem Sc.lt {b:Nat} {s:ByteArray} {i:Nat} {bad:Bool} {w:World} (h:Sc b s i bad w):b<w.heap.size:=cM h
theorem Sc.drewN {b:Nat} {s:ByteArray} {i k:Nat} {bad:Bool} {w:World} (h:Sc b s i bad w):Sc b s i bad (w.drewN k):=h
theorem Sc.set {b:Nat} {s:ByteArray} {i:Nat} {bad:Bool} {w:World} (h:Sc b s i bad w) (j:Nat):Sc b s j bad (w.setCell ⟨b,1,none⟩ (.int .i64 j)):=by
 unfold Sc at h⊢;unfold World.setCell;simp only[Array.getElem?_modify,h,if_true,Option.map_some];simp
theorem Sc.bad {b:Nat} {s:ByteArray} {i:Nat} {bad:Bool} {w:World} (h:Sc b s i bad w):Sc b s i true (w.setCell ⟨b,2,none⟩ (.bool true)):=by
 unfold Sc at h⊢;unfold World.setCell;simp only[Array.getElem?_modify,h,if_true,Option.map_some];simp
theorem Sc.below {b:Nat} {s:ByteArray} {i:Nat} {bad:Bool} {w w':World} (h:Sc b s i bad w) (hb:Below w.heap.size w w'):Sc b s i bad w':=(hb.block b h.lt).trans h
theorem fK (w:World) (b k:Nat):w.grownBy (w.drewN k) (some b):=⟨rfl,rfl,rfl,Nat.le_refl _,fun _ _ _=>rfl⟩
theorem Wr.drop_at {L:List UInt8} {k:Nat} (h:k<L.length):L.drop k=L[k]::L.drop (k+1):=List.drop_eq_getElem_cons h
theorem Wr.sgn_cons {c:UInt8} {l:List UInt8}:kY (c::l)=((c.toNat:Int)==45):=by
 by_cases h:c=45
 · subst h;rfl
 · have f:((c.toNat:Int)==45)=false:=by
    rw[beq_eq_false_iff_ne];intro e;exact h (UInt8.toNat_inj.1 (by rw[show(45:UInt8).toNat=45 from rfl];omega))
   rw[f];unfold kY;split
   · rename_i d;injection d with e _;exact absurd e h
   · rfl
def pk (b:Nat) (W:World):Nat:=match W.cell? ⟨b,1,none⟩with
 |some (.int _ n)=>n.toNat
 |_=>0
theorem Sc.at {b:Nat} {s:ByteArray} {i:Nat} {bad:Bool} {w:World} (h:Sc b s i bad w):pk b w=i:=by
 unfold pk;rw[h.cs.cell 1 rfl];simp
def pn (b i:Nat) (s:ByteArray) (bad:Bool) (w:World) (res:Option (Int×List UInt8)) (e:Ending) (w':World):Prop:=
 ∃n j bad',e= .returned (.int .i64 n)∧Sc b s j bad' w'∧j≤s.size∧w.grownBy w' (some b)∧
  ((bad=true∨res=none)→bad'=true∧n=0)∧(bad=false→ ∀m r,res=some (m,r)→bad'=false∧n=m∧s.data.toList.drop j=r)
theorem nU {s:ByteArray} {k:Nat} (h:k<s.size):k<s.data.toList.length:=by rw[←Lib.size_eq];exact h
theorem nV {s:ByteArray} {k:Nat} (h:k<s.size):s[k]=s.data.toList[k]'(nU h):=by simp[ByteArray.getElem_eq_getElem_data]
def gH:Code→Code
 | .seq _ y=>y
 |c=>c
def sF:Option Code→Code
 |some c=>c
 |none=> .skip
theorem EZ {b i k:Nat} {s:ByteArray} {bad neg:Bool} {m:Int} {w wc:World} {RES:Option (Int×List UInt8)} {u6 u7 u8 u9 u10 u11 u12 u13 u14 u15 u16 u17 u18 u19 u20 u21 u22 u23 u24 u25 u26 u27 u28 u29 u30 u31 u32 u33 u34 u35 u36 u37 u38 u39 u40 u41 u42 u43 u44 u45 u46 u47 u48 u49 u50 u51 u52 u53 u54 u55 u56 u57 u58 u59 u60 u61 u62 u63 u64 u65 u66 u67 u68 u69 u70 u71 u72 u73 u74 u75 u76 u77 u78 u79 u80 u81 u82 u83 u84 u85 u86 u87 u88 u89 u90 u91 u92 u93 u94 u95 u96 u97 u98 u99 u100 u101 u102 u103 u104 u105 u106 u107 u108 u109 u110 u111 u112 u113 u114 u115 u116 u117 u118 u119 u120 u121 u122 u123 u124 u125 u126 u127 u128 u129 u130 u131 u132 u133 u134 u135 u136 u137 u138 u139 u140 u141 u142 u143 u144 u145 u146 u147 u148 u149 u150 u151 u152 u153 u154 u155:Value} (M:Hid (Sc b s k bad wc)) (G:Hid (w.grownBy wc (some b))) (hk:k≤s.size) (Ix:i≤k) (HS:Hid (s.size≤140737488351232)) (mb:m.natAbs≤20000000000000000)
    (HR:Hid (RES=if(s.data.toList.drop k).head?=some 59∧(s.data.toList.drop i).take (k-i)=Lib.itoa m then some (m,(s.data.toList.drop k).drop 1)else none)):
    Code.wp prog (gH (gH (gH (gH (gH (gH (gH (sF Tryz.f38.body)))))))) (bodyPost prog Tryz.f38 fun e w'=>pn b i s bad w RES e w')
     ⟨#[.pointer (some ⟨b,0,none⟩),undef,.int .i64 0,.int .i64 i,.bool neg,.int .i64 m,u6,u7,u8,u9,u10,u11,u12,u13,u14,u15,u16,u17,u18,u19,u20,u21,u22,u23,u24,u25,u26,u27,u28,u29,u30,u31,u32,u33,u34,u35,u36,u37,u38,u39,u40,u41,u42,u43,u44,u45,u46,u47,u48,u49,u50,u51,u52,u53,u54,u55,u56,u57,u58,u59,u60,u61,u62,u63,u64,u65,u66,u67,u68,u69,u70,u71,u72,u73,u74,u75,u76,u77,u78,u79,u80,u81,u82,u83,u84,u85,u86,u87,u88,u89,u90,u91,u92,u93,u94,u95,u96,u97,u98,u99,u100,u101,u102,u103,u104,u105,u106,u107,u108,u109,u110,u111,u112,u113,u114,u115,u116,u117,u118,u119,u120,u121,u122,u123,u124,u125,u126,u127,u128,u129,u130,u131,u132,u133,u134,u135,u136,u137,u138,u139,u140,u141,u142,u143,u144,u145,u146,u147,u148,u149,u150,u151,u152,u153,u154,u155],[]⟩ wc:=by
 obtain⟨C,hC⟩: ∃C,C=gH (gH (gH (gH (gH (gH (gH (sF Tryz.f38.body))))))):=⟨_,rfl⟩
 rw[←hC];unfold Tryz.f38 at hC;simp only[gH,sF]at hC;subst hC
 obtain⟨t,I8⟩: ∃t:Bool,(t=false↔bad=false∧(s.data.toList.drop k).head?=some 59∧(s.data.toList.drop i).take (k-i)=Lib.itoa m):=by
  by_cases hp:bad=false∧(s.data.toList.drop k).head?=some 59∧(s.data.toList.drop i).take (k-i)=Lib.itoa m
  · exact⟨false,fun _=>hp,fun _=>rfl⟩
  · exact⟨true,(fun h=>by cases h),fun h=>absurd h hp⟩
 have y:=hid I8;clear I8;go_wp2_with fail;go_cut [144] (fun x W=>x= .bool t∧Hid (Sc b s k bad W)∧Hid (w.grownBy W (some b)))
 case first=>
  have c0:=M.out.cs.cell 0 rfl;have c1:=M.out.cs.cell 1 rfl;have c2:=M.out.cs.cell 2 rfl;cases f:bad with
  |true=>
   have P:t=true:=by
    cases t with
    |true=>rfl
    |false=>have:=(y.out.1 rfl).1;rw[f]at this;cases this
   rw[f]at c2;go_quiet (fail)
   generalize d:World.drewN wc _=K;have F:=hid (d▸M.out.drewN:Sc b s k bad K);have Z:=hid (aG G.out (d▸fK wc b _:wc.grownBy K (some b)));clear d;go_wp2_with fail;go_meet
   case rel=>exact⟨by rw[P],F,Z⟩
  |false=>
   rw[f]at c2;by_cases H:k<s.size
   · have l1:(k:Int)<s.size:=by omega
     have l2: ¬(s.size:Int)≤k:=by omega
     have E:(s.data.toList.drop k).head?=some s[k]:=by rw[Wr.drop_at (nU H),nV H];rfl
     cases A:((s[k].toNat:Int)==59)with
     |false=>
      have I5:((s[k].toNat:Int) !=59)=true:=by rw[bne,A];rfl
      have P:t=true:=by
       cases t with
       |true=>rfl
       |false=>
        have z:=(y.out.1 rfl).2.1;rw[E]at z;injection z with z
        rw[z]at A;exact absurd A (by decide)
      clear E;go_quiet (fail)
      generalize d:World.drewN wc _=K;have F:=hid (d▸M.out.drewN:Sc b s k bad K);have Z:=hid (aG G.out (d▸fK wc b _:wc.grownBy K (some b)));clear d;go_wp2_with fail;go_meet
      case rel=>exact⟨by rw[P],F,Z⟩
     |true=>
      have I5:((s[k].toNat:Int) !=59)=false:=by rw[bne,A];rfl
      have I0:s[k]=59:=UInt8.toNat_inj.1 (by rw[beq_iff_eq]at A;show s[k].toNat=59;omega);rw[I0]at E;have I9:=hid E;have V:=hid (show s.extract i k=(⟨((s.data.toList.drop i).take (k-i)).toArray⟩:ByteArray)from dN (by rw[Lib.extract_data]));obtain⟨Y,hY⟩: ∃Y:ByteArray,Y=⟨(Lib.itoa m).toArray⟩:=⟨_,rfl⟩
      have N:=hid (show(s.extract i k).toList=(s.data.toList.drop i).take (k-i)from by rw[V.out,Lib.toList_data]);have O:=hid (show Y.toList=Lib.itoa m from by rw[hY,Lib.toList_data]);have HD:=hid (fun W=>xO m W (by omega));rw[←hY]at HD;have li:(i:Int)≤k:=by omega
      have lk:(k:Int)≤s.size:=by omega
      have lz:(0:Int)≤i:=by omega
      have Iv:=hid (fun(W:World) (hW:Below wc.heap.size wc W)=>(M.out.below hW));have Iw: ∀W:World,Below W.heap.size W W.drew:=fun W=>(Below.refl _ _).drew
      obtain⟨q,I⟩: ∃q,((s.extract i k).toList==Y.toList)=q:=⟨_,rfl⟩
      have Iy:((s.extract i k).toList !=Y.toList)= !q:=by rw[bne,I]
      have P:t= !q:=by
       cases q with
       |true=>exact y.out.2 ⟨f,I9.out,by rw[←N.out,←O.out];exact eq_of_beq I⟩
       |false=>
        cases t with
        |true=>rfl
        |false=>
         have z:=(y.out.1 rfl).2.2;rw[←N.out,←O.out]at z;rw[z]at I;simp at I
      clear E hY N O V;go_region_held3 (fun W=>W.cell? ⟨b,0,none⟩=some (.string s)∧W.cell? ⟨b,1,none⟩=some (.int .i64 k)∧W.cell? ⟨b,2,none⟩=some (.bool false)) (first|go_keep|exact⟨k0,k1,k2⟩) (first|(go_at_call 69;refine(HD.out _).mono ?_;rintro e w5 ⟨rfl,I7⟩;have I6:=(Iw wc).trans I7;have F:=hid (Iv.out w5 I6);have k0:=F.out.cs.cell 0 rfl;have k1:=F.out.cs.cell 1 rfl;have k2:=(F.out.cs.cell 2 rfl);rw[f]at k2))
      go_wp2_with fail;go_meet
      case rel=>exact⟨by rw[P],F,hid (aG G.out (gi b I6))⟩
   · have l1: ¬(k:Int)<s.size:=by omega
     have l2:(s.size:Int)≤k:=by omega
     have P:t=true:=by
      cases t with
      |true=>rfl
      |false=>
       have z:=(y.out.1 rfl).2.1;rw[List.drop_eq_nil_of_le (by rw[←Lib.size_eq];omega)]at z;cases z
     go_quiet (fail)
     generalize d:World.drewN wc _=K;have F:=hid (d▸M.out.drewN:Sc b s k bad K);have Z:=hid (aG G.out (d▸fK wc b _:wc.grownBy K (some b)));clear d;go_wp2_with fail;go_meet
     case rel=>exact⟨by rw[P],F,Z⟩
 case rest=>
  obtain⟨rfl,Q,X⟩:=hcut
  have c1:=Q.out.cs.cell 1 rfl;have f1:=Q.out.cs.fr 1;have c2:=Q.out.cs.cell 2 rfl;have f2:=Q.out.cs.fr 2;cases t with
  |true=>
   go_wp2_with fail;refine bodyPost_ret (results_tmp rfl _ _ _) rfl ?_
   refine⟨0,k,true,rfl,Q.out.bad,hk,aG X.out (ar _ b 2 _),fun _=>⟨rfl,rfl⟩,fun hb m' r' J=>?_⟩
   rw[HR.out]at J;split at J
   · rename_i S
     have:=y.out.2 ⟨hb,S⟩
     cases this
   · cases J
  |false=>
   obtain⟨hb,S⟩:=y.out.1 rfl
   have H:k<s.size:=by
    rcases Nat.lt_or_ge k s.size with z|z
    · exact z
    · rw[List.drop_eq_nil_of_le (by rw[←Lib.size_eq];omega)]at S;cases S.1
   have w4:IntKind.i64.wrap ((k:Int)+1)=k+1:=by have:=HS.out;rw[IntKind.wrap_i64]<;>omega
   have U:=hid S;have T:=hid hb;have R3:=hid (Q.out.set (k+1));clear S hb;go_wp2_with fail;refine bodyPost_ret (results_tmp rfl _ _ _) rfl ?_
   refine⟨m,k+1,bad,rfl,R3.out,H,aG X.out (ar _ b 1 _),fun h=>?_,fun hb m' r' J=>?_⟩
   · rcases h with h|h
     · rw[T.out]at h;cases h
     · rw[HR.out,if_pos U.out]at h;cases h
   · rw[HR.out,if_pos U.out]at J
     simp only[Option.some.injEq,Prod.mk.injEq]at J;exact⟨T.out,J.1,by rw[←J.2,List.drop_drop]⟩
theorem Tryz.cellsC:prog.cellsOf 72=5:=by kernel_rfl
theorem xP {f:Type} {l:List f} (h:l.length=5): ∃a b c d e,l=[a,b,c,d,e]:=by
 rcases l with _|⟨a,_|⟨b,_|⟨c,_|⟨d,_|⟨e,_|⟨y,r⟩⟩⟩⟩⟩⟩
 all_goals first|exact⟨a,b,c,d,e,rfl⟩|(simp at h)
theorem E0 {H:Type} {enc:TypeId×Value→H} {P:Program} {w:World} {base:Nat} {d:Nat→Bool} {f:Bool} {t:TypeId} {y z A E F:Field} {fuel:Nat} {cs:List Value} {x:DataW H×List MemPlace} (Q:P.underlying t=some (.struct #[y,z,A,E,F])) (h:DataW.trod enc P w base d f fuel t cs=some x):
    ∃J K al M N n,x=(.agg [J.1,K.1,al.1,M.1,N.1],J.2++(K.2++(al.2++(M.2++N.2))))∧cs.length=P.cellsOf t∧DataW.trod enc P w base d f n y.type ((cs.drop y.offset).take (P.cellsOf y.type))=some J∧
     DataW.trod enc P w base d f n z.type ((cs.drop z.offset).take (P.cellsOf z.type))=some K∧DataW.trod enc P w base d f n A.type ((cs.drop A.offset).take (P.cellsOf A.type))=some al∧
     DataW.trod enc P w base d f n E.type ((cs.drop E.offset).take (P.cellsOf E.type))=some M∧DataW.trod enc P w base d f n F.type ((cs.drop F.offset).take (P.cellsOf F.type))=some N:=by
 obtain⟨xs,n,_,rfl,O,I,G⟩:=DataW.trod_struct Q h
 match xs,I with
 |[J,K,al,M,N],_=>exact⟨J,K,al,M,N,n,by simp,O,by simpa using G 0 y rfl,by simpa using G 1 z rfl,by simpa using G 2 A rfl,by simpa using G 3 E rfl,by simpa using G 4 F rfl⟩
end Go.Proofs.YtcmlnelpcjfocaaGreatDoor
