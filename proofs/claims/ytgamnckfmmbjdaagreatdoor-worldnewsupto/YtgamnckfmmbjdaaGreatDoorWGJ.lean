/- How grants are compared: cmp.Compare of texts, cmp.Or of two numbers, grant.compare, grant.rises. -/
import Derived.Test.YtgamnckfmmbjdaaGreatDoorWGI
import Derived.Deep.DeepCutAuto
import Derived.Deep.DeepMust
set_option linter.unusedSimpArgs false
set_option linter.unusedVariables false
namespace Go.Proofs.YtgamnckfmmbjdaaGreatDoor
open Go.RowKit Go.Proofs.Tryz
set_option maxHeartbeats 2000000
set_option maxRecDepth 100000
def cZ (x y:ByteArray):Int:=if Op.bytesLess x.toList y.toList=true then-1 else if(x.toList==y.toList)=true then 0 else 1
def de (a b:Gr):Int:=if cZ a.fo b.fo=0 then cZ a.wh b.wh else cZ a.fo b.fo
theorem wD (x y:ByteArray) (w:World):
    Calls prog 213 #[.string x,.string y] w fun e w'=>e= .returned (.int .i64 (cZ x y))∧w'=w:=by
 cases d:Op.bytesLess x.toList y.toList with
 |true=>
  have a:=hid (show-1=cZ x y from by rw[cZ,if_pos d]);go_enter func213,ntmps213
  go_wp2;go_ret;exact⟨an a.out,rfl⟩
 |false=>
  cases f:(x.toList==y.toList)with
  |true=>
   have a:=hid (show 0=cZ x y from by rw[cZ,if_neg (by rw[d];decide),if_pos f]);go_enter func213,ntmps213
   go_wp2;go_ret;exact⟨an a.out,rfl⟩
  |false=>
   have a:=hid (show 1=cZ x y from by rw[cZ,if_neg (by rw[d];decide),if_neg (by rw[f];decide)]);go_enter func213,ntmps213
   go_wp2;go_ret;exact⟨an a.out,rfl⟩
theorem wE (a b:Int) (g:Nat) (w:World) (A:g<w.heap.size) (y:w.cell? ⟨g,0,none⟩=some (.int .i64 a)) (z:w.cell? ⟨g,1,none⟩=some (.int .i64 b)):
    Calls prog 212 #[.slice (some ⟨g,0,none⟩) 2 2] w fun e w'=>e= .returned (.int .i64 (if a=0 then b else a))∧Below w.heap.size w w':=by
 have E:=ai y;have F:=ai z;clear y z;obtain⟨r,u⟩: ∃r,r=if a=0 then b else a:=⟨_,rfl⟩
 rw[←u];have o:=ai u;clear u;go_enter func212,ntmps212
 go_wp2_with fail;go_loopw [8] (fun i wr=>(i= .int .i64 0∨(i= .int .i64 1∧a=0)∨(i= .int .i64 2∧a=0∧b=0))∧Below w.heap.size w wr) (fun i _=>2-(intOf i).toNat)
 case atStart=>exact⟨Or.inl rfl,Below.refl _ _⟩
 case round=>
  obtain⟨G,d⟩:=hrel
  have I:=(d.cell (p:=⟨g,0,none⟩) A).trans E.out;have J:=(d.cell (p:=⟨g,1,none⟩) A).trans F.out;rcases G with rfl|⟨rfl,f⟩|⟨rfl,f,hb⟩
  · by_cases f:a=0
    · subst f
      go_wp2_with fail;go_roundw
      case rel=>exact⟨by simp,d⟩
      case measure=>simp[intOf]
    · have j:=hid (show a=r from by rw[o.out,if_neg f])
      have H:(a==0)=false:=by simpa using f
      go_wp2_with fail;go_ret;exact⟨an j.out,d⟩
  · subst f
    by_cases hb:b=0
    · subst hb
      go_wp2_with fail;go_roundw
      case rel=>exact⟨by simp,d⟩
      case measure=>simp[intOf]
    · have j:=hid (show b=r from by rw[o.out,if_pos rfl])
      have H:(b==0)=false:=by simpa using hb
      go_wp2_with fail;go_ret;exact⟨an j.out,d⟩
  · subst f
    subst hb;have j:=hid (show(0:Int)=r from by rw[o.out,if_pos rfl]);go_wp2_with fail;go_ret;exact⟨an j.out,d⟩
theorem wF (a b:Gr) (w:World):
    Calls prog 160 #[.agg #[.string a.fo,.string a.wh,.int .i64 a.ri],.agg #[.string b.fo,.string b.wh,.int .i64 b.ri]] w fun e w'=>e= .returned (.int .i64 (de a b))∧Below w.heap.size w w':=by
 have j:Hid ((if cZ a.fo b.fo=0 then cZ a.wh b.wh else cZ a.fo b.fo)=de a b):=rfl;go_enter func160,ntmps160
 go_wp2_with fail
 go_region_held3 (fun W=>W.cell? ⟨w.heap.size,0,none⟩=some (.string a.fo)∧W.cell? ⟨w.heap.size,1,none⟩=some (.string a.wh)∧W.cell? ⟨w.heap.size+1,0,none⟩=some (.string b.fo)∧W.cell? ⟨w.heap.size+1,1,none⟩=some (.string b.wh)) (go_keep) (first
  |(go_at_call 213;refine(wD _ _ _).mono ?_;rintro e A ⟨rfl,rfl⟩)
  |(go_at_call 212;go_must (refine(wE (cZ a.fo b.fo) (cZ a.wh b.wh) _ _ (by first|(simp;done)|(simp;omega)) (by simp[go_sem]) (by simp[go_sem])).mono ?_);rintro e f ⟨rfl,d⟩;rw[j.out];have o:f.cell? ⟨w.heap.size,0,none⟩=some (.string a.fo):=(d.cell (p:=⟨w.heap.size,0,none⟩) (by simp;omega)).trans (by simp[go_sem]);have u:f.cell? ⟨w.heap.size,1,none⟩=some (.string a.wh):=(d.cell (p:=⟨w.heap.size,1,none⟩) (by simp;omega)).trans (by simp[go_sem]);have y:f.cell? ⟨w.heap.size+1,0,none⟩=some (.string b.fo):=(d.cell (p:=⟨w.heap.size+1,0,none⟩) (by simp)).trans (by simp[go_sem]);have z:f.cell? ⟨w.heap.size+1,1,none⟩=some (.string b.wh):=(d.cell (p:=⟨w.heap.size+1,1,none⟩) (by simp)).trans (by simp[go_sem])))
 all_goals
  go_wp2;go_ret;exact⟨rfl,Below.trans (by go_grown) (d.mono (by simp;omega))⟩
def dT:List Gr→Bool
 |[]=>true
 |[_]=>true
 |a::b::r=>decide (de a b<0) && dT (b::r)
theorem lz (G:List Gr):dT G=true↔ ∀k (h:k+1<G.length),de G[k] G[k+1]<0:=by
 match G with
 |[]=>simp[dT]
 |[a]=>simp[dT]
 |a::b::r=>
  rw[dT,Bool.and_eq_true,lz (b::r)];constructor
  · intro ⟨e,f⟩ k d
    match k with
    |0=>simpa using e
    |k+1=>
     have:=f k (by simpa using d)
     simpa using this
  · intro h
    refine⟨by simpa using h 0 (by simp),fun k d=>?_⟩
    have:=h (k+1) (by simpa using d)
    simpa using this
theorem qP {G:List Gr} {k:Nat} (h:k+1<G.length) (d:0≤de G[k] G[k+1]):dT G=false:=by
 cases a:dT G with
 |false=>rfl
 |true=>
  have:=(lz G).1 a k h
  omega
theorem wG (G:List Gr) (v:Value) (w:World) (hv:bt w v G) (hn:G.length≤1000):
    Calls prog 130 #[v] w fun e w'=>e= .returned (.bool (dT G))∧Below w.heap.size w w':=by
 obtain⟨a,C3,rfl,S,N,A⟩:=hv
 have P:Hid (∀i (h:i<G.length),∃b o,a=some ⟨b,o,none⟩∧b<w.heap.size∧dQ w b (o+i*3) G[i]):=A;clear A;go_enter func130,ntmps130
 go_wp2_with fail;go_loopw [3] (fun i wr=> ∃m:Nat,(m=0∨m<G.length)∧i= .int .i64 ((m:Int)+1)∧Hid (∀j (h:j+1<G.length),j<m→de G[j] G[j+1]<0)∧Below w.heap.size w wr) (fun i _=>G.length+2-(intOf i).toNat)
 case atStart=>exact⟨0,Or.inl rfl,rfl,(fun j _ h=>absurd h (Nat.not_lt_zero _): ∀j (h:j+1<G.length),j<0→de G[j] G[j+1]<0),Below.refl _ _⟩
 case round=>
  obtain⟨m,hk,rfl,Q,d⟩:=hrel
  by_cases E:m+1<G.length
  · obtain⟨b,o,rfl,hb,he⟩:=P.out (m+1) E
    obtain⟨b',o',K,M,O⟩:=P.out m (by omega)
    cases K
    obtain⟨c0,c1,c2⟩:=he.below hb d
    obtain⟨d0,d1,d2⟩:=O.below M d
    have u:b<wr.heap.size:=Nat.lt_of_lt_of_le hb d.size;have C4:(0:Int)≤(m:Int):=by omega
    have C5:(m:Int)<(G.length:Int):=by omega
    have C6:(m:Int)+1<(G.length:Int):=by omega
    have C7:(0:Int)≤(m:Int)+1:=by omega
    have C8:((m:Int)+1).toNat=m+1:=by omega
    have C9:IntKind.i64.wrap ((m:Int)+1-1)=(m:Int):=by rw[IntKind.wrap_i64];omega
    have CC:IntKind.i64.wrap (m:Int)=(m:Int):=by rw[IntKind.wrap_i64];omega
    have T:=ai c0;have U:=ai c1;have V:=ai c2;have X:=ai d0;have Y:=ai d1;have Z:=ai d2;have H:=hid (show 0≤de G[m] G[m+1]→false=dT G from fun h=>(qP E h).symm)
    have I:=hid (show de G[m] G[m+1]<0→ ∀j (h:j+1<G.length),j<m+1→de G[j] G[j+1]<0 from fun h0 j h1 h2=>by
     by_cases e:j=m
     · subst e;exact h0
     · exact Q.out j h1 (by omega))
    generalize G[m]=x at*;generalize G[m+1]=y at*;go_wp2_with fail
    go_region_held3 (fun W=>W.cell? ⟨b,o+m*3,none⟩=some (.string x.fo)∧W.cell? ⟨b,o+m*3+1,none⟩=some (.string x.wh)∧W.cell? ⟨b,o+m*3+2,none⟩=some (.int .i64 x.ri)∧W.cell? ⟨b,o+(m+1)*3,none⟩=some (.string y.fo)∧W.cell? ⟨b,o+(m+1)*3+1,none⟩=some (.string y.wh)∧W.cell? ⟨b,o+(m+1)*3+2,none⟩=some (.int .i64 y.ri)) (go_keep) (first
     |(go_at_call 160;refine(wF x y _).mono ?_;rintro e wa ⟨rfl,f⟩;have k0:=(f.cell (p:=⟨b,o+m*3,none⟩) u).trans X.out;have k1:=(f.cell (p:=⟨b,o+m*3+1,none⟩) u).trans Y.out;have k2:=(f.cell (p:=⟨b,o+m*3+2,none⟩) u).trans Z.out;have k3:=(f.cell (p:=⟨b,o+(m+1)*3,none⟩) u).trans T.out;have k4:=(f.cell (p:=⟨b,o+(m+1)*3+1,none⟩) u).trans U.out;have k5:=(f.cell (p:=⟨b,o+(m+1)*3+2,none⟩) u).trans V.out))
    have z:Below w.heap.size w wa:=d.drew.trans (f.mono d.drew.size);by_cases hc:0≤de x y
    · have F:=ai (H.out hc)
      go_wp2_with fail;go_ret;exact⟨aV F.out,z⟩
    · have J:=ai (I.out (by omega))
      go_wp2_with fail;go_roundw
      case rel=>exact⟨m+1,by omega,by simp,J,z⟩
      case measure=>simp[intOf];omega
  · have F:=hid (show true=dT G from((lz G).2 fun j h=>Q.out j h (by omega)).symm)
    go_wp2_with fail;go_ret;exact⟨aV F.out,d⟩
def iz (w:World) (g:Nat) (cb:Array Value) (pr:Gr→Bool):Prop:=
 (∀args w,(callFunc g args).run prog w= .ok (.enter g args) w)∧
 ∀(W:World),Below w.heap.size w W→ ∀e:Gr,Calls prog g (#[.agg #[.string e.fo,.string e.wh,.int .i64 e.ri]]++cb) W fun r W'=>r= .returned (.bool (pr e))∧Below W.heap.size W W'
theorem iz.below {w w':World} {g:Nat} {a:Array Value} {e:Gr→Bool} (h:iz w g a e) (d:Below w.heap.size w w'):iz w' g a e:=
 ⟨h.1,fun W f=>h.2 W (d.trans (f.mono d.size))⟩
def fX (G:List Gr) (pr:Gr→Bool):Int:=match G.findIdx? pr with
 |some i=>(i:Int)
 |none=> -1
theorem wH {G:List Gr} {a:Gr→Bool} {k:Nat} (d:k<G.length) (h: ∀j (h:j<G.length),j<k→a G[j]=false) (f:a G[k]=true):(k:Int)=fX G a:=by
 have:G.findIdx? a=some k:=List.findIdx?_eq_some_iff_getElem.2 ⟨d,f,fun j e=>by rw[h j (by omega) e];simp⟩
 rw[fX,this]
theorem wI {G:List Gr} {a:Gr→Bool} (h: ∀j (h:j<G.length),a G[j]=false): -1=fX G a:=by
 have:G.findIdx? a=none:=List.findIdx?_eq_none_iff.2 fun x e=>by
  obtain⟨j,d,rfl⟩:=List.getElem_of_mem e
  exact h j d
 rw[fX,this]
theorem qQ (G:List Gr) (d:Gr→Bool):(fX G d= -1∧G.find? d=none∧G.any d=false)∨ ∃k,∃h:k<G.length,fX G d=(k:Int)∧G.find? d=some G[k]∧G.any d=true:=by
 cases f:G.findIdx? d with
 |none=>
  have u:=List.findIdx?_eq_none_iff.1 f;refine Or.inl ⟨by rw[fX,f],?_,?_⟩
  · rw[List.find?_eq_none]
    intro x o;simp[u x o]
  · exact List.any_eq_false.2 fun x o=>by simp[u x o]
 |some k=>
  obtain⟨a,y,e⟩:=List.findIdx?_eq_some_iff_getElem.1 f
  refine Or.inr ⟨k,a,by rw[fX,f],?_,List.any_eq_true.2 ⟨G[k],List.getElem_mem a,y⟩⟩
  rw[List.find?_eq_some_iff_getElem];exact⟨y,k,a,rfl,fun j z=>by have:=e j z;simpa using this⟩
theorem lA (G:List Gr) (v:Value) (g:Nat) (K:Array Value) (u:Gr→Bool) (w:World) (Y:bt w v G) (J:iz w g K u):
    Calls prog 153 #[v,.func (.func g) #[] K] w fun e w'=>e= .returned (.int .i64 (fX G u))∧Below w.heap.size w w':=by
 obtain⟨a,U,rfl,M,I,y⟩:=Y
 have P:Hid (∀i (h:i<G.length),∃b o,a=some ⟨b,o,none⟩∧b<w.heap.size∧dQ w b (o+i*3) G[i]):=y;have O:=ai J;have Z:=J.1;clear y J;go_enter func153,ntmps153
 go_wp2_with fail;go_loopw [8] (fun i wr=> ∃k:Nat,k≤G.length∧i= .int .i64 k∧Hid (∀j (h:j<G.length),j<k→u G[j]=false)∧Below w.heap.size w wr) (fun i _=>G.length-(intOf i).toNat)
 case atStart=>exact⟨0,Nat.zero_le _,rfl,(fun j _ h=>absurd h (Nat.not_lt_zero _): ∀j (h:j<G.length),j<0→u G[j]=false),Below.refl _ _⟩
 case round=>
  obtain⟨k,hk,rfl,F,d⟩:=hrel
  by_cases A:k<G.length
  · obtain⟨b,o,rfl,hb,X⟩:=P.out k A
    obtain⟨Q,S,T⟩:=X.below hb d
    go_wp2_with fail;refine(O.out.2 _ d G[k]).mono ?_
    rintro e w1 ⟨rfl,z⟩;have f:=bj d z;clear Q S T d z;cases N:u G[k]with
    |true=>
     have E:=hid (show(k:Int)=fX G u from wH A F.out N);go_wp2_with fail;go_ret;exact⟨an E.out,f⟩
    |false=>
     have H:=hid (show∀j (h:j<G.length),j<k+1→u G[j]=false from fun j V h2=>by
      by_cases e:j=k
      · subst e;exact N
      · exact F.out j V (by omega))
     go_wp2_with fail;go_roundw
     case rel=>exact⟨k+1,by omega,by simp,H,f⟩
     case measure=>simp[intOf];omega
  · have E:=hid (show-1=fX G u from wI (fun j h=>F.out j h (by omega)))
    go_wp2_with fail;go_ret;exact⟨an E.out,d⟩
theorem wJ (G:List Gr) (v:Value) (g:Nat) (A:Array Value) (j:Gr→Bool) (w:World) (F:bt w v G) (E:iz w g A j):
    Calls prog 260 #[v,.func (.func g) #[] A] w fun e w'=>e= .returned (.bool (G.any j))∧Below w.heap.size w w':=by
 have z:=ai F;have y:=ai E;clear F E;rcases qQ G j with⟨f,_,d⟩|⟨k,I,f,_,d⟩
 · have u:=ai f
   have o:=ai d;clear f d;go_enter func260,ntmps260
   go_wp2_with fail;refine(lA G _ _ _ j _ z.out y.out).mono ?_
   rintro e H ⟨rfl,a⟩;rw[u.out];go_wp2;go_ret;exact⟨by rw[o.out];rfl,a⟩
 · have u:=ai f
   have o:=ai d;clear f d;go_enter func260,ntmps260
   go_wp2_with fail;refine(lA G _ _ _ j _ z.out y.out).mono ?_
   rintro e H ⟨rfl,a⟩;rw[u.out];go_wp2;go_ret;exact⟨by rw[o.out];rfl,a⟩
theorem wK (G:List Gr) (v:Value) (g:Nat) (j:Array Value) (a:Gr→Bool) (w:World) (u:bt w v G) (o:iz w g j a):
    Calls prog 214 #[v,.func (.func g) #[] j] w fun e w'=>e= .returned (.bool (G.any a))∧Below w.heap.size w w':=by
 have A:=ai u;have y:=ai o;clear u o;go_enter func214,ntmps214
 go_wp2_with fail;refine(wJ G _ _ _ a _ A.out y.out).mono ?_
 rintro e E ⟨rfl,d⟩;obtain⟨r,f⟩: ∃r,G.any a=r:=⟨_,rfl⟩
 rw[f];have z:=ai f;clear f;go_wp2;go_ret;exact⟨by rw[z.out];rfl,d⟩
def iA (f:ByteArray) (e:Gr):Bool:=e.fo.toList==f.toList
def cd (f:ByteArray) (e:Gr):Bool:=(e.fo.toList==f.toList) && (e.ri==3)
def gE (f h:ByteArray) (e:Gr):Bool:=(e.fo.toList==f.toList) && (e.wh.toList==h.toList)
theorem wL (e:Gr) (f:ByteArray) (b:Nat) (w:World) (hb:b<w.heap.size) (j:w.cell? ⟨b,0,none⟩=some (.string f)):
    Calls prog 215 #[.agg #[.string e.fo,.string e.wh,.int .i64 e.ri],.pointer (some ⟨b,0,none⟩)] w fun r w'=>r= .returned (.bool (cd f e))∧Below w.heap.size w w':=by
 have u: ∀o,(w.alloc o).cell? ⟨b,0,none⟩=some (.string f):=fun o=>(((Below.refl w.heap.size w).alloc (Nat.le_refl _) o).cell (p:=⟨b,0,none⟩) hb).trans j
 cases d:(e.fo.toList==f.toList)with
 |true=>
  have a:=hid (show(e.ri==3)=cd f e from by rw[cd,d];rfl);go_enter func215,ntmps215
  go_wp2;go_ret;exact⟨aV a.out,(Below.refl _ _).alloc (Nat.le_refl _) _⟩
 |false=>
  have a:=hid (show false=cd f e from by rw[cd,d];rfl);go_enter func215,ntmps215
  go_wp2;go_ret;exact⟨aV a.out,(Below.refl _ _).alloc (Nat.le_refl _) _⟩
theorem wM (G:List Gr) (v:Value) (f:ByteArray) (w:World) (y:bt w v G):
    Calls prog 161 #[v,.string f] w fun e w'=>e= .returned (.bool (G.any (cd f)))∧Below w.heap.size w w':=by
 have E:=ai y;clear y
 have o:iz (w.alloc (.cells #[.string f] 9)) 215 #[.pointer (some ⟨w.heap.size,0,none⟩)] (cd f):=by
  refine⟨enters_of func215 (by kernel_rfl) rfl,fun W u e=>?_⟩
  exact wL e f w.heap.size W (Nat.lt_of_lt_of_le (by simp) u.size) ((u.cell (p:=⟨w.heap.size,0,none⟩) (by simp)).trans (by simp))
 have A:=ai o;clear o;go_enter func161,ntmps161
 go_wp2_with fail;refine(wK G _ _ _ (cd f) _ (E.out.below ((Below.refl _ _).alloc (Nat.le_refl _) _)) A.out).mono ?_
 rintro e F ⟨rfl,a⟩;have d:=(tJ a).2.1;obtain⟨r,j⟩: ∃r,G.any (cd f)=r:=⟨_,rfl⟩
 rw[j];have z:=ai j;clear j;go_wp2;go_ret;exact⟨by rw[z.out];rfl,d⟩
def eO:List Gr→Int
 |[]=>0
 |g::r=>if bE g=0 then eO r else bE g
theorem nM: ∀{G:List Gr} {k:Nat} (a:k<G.length),(∀j (h:j<G.length),j<k→bE G[j]=0)→ ¬bE G[k]=0→eO G=bE G[k]
 |[],k,a,_,_=>absurd a (by simp)
 |g::r,0,_,_,hk=>by rw[eO,if_neg (show¬bE g=0 from hk)];rfl
 |g::r,k+1,a,h,hk=>by
  rw[eO,if_pos (show bE g=0 from h 0 (by simp) (by omega))];have:=nM (G:=r) (k:=k) (by simpa using a) (fun j d e=>h (j+1) (by simpa using d) (by omega)) hk
  rw[this];rfl
theorem nN: ∀{G:List Gr},(∀j (h:j<G.length),bE G[j]=0)→eO G=0
 |[],_=>rfl
 |g::r,h=>by
  rw[eO,if_pos (show bE g=0 from h 0 (by simp))];exact nN fun j a=>h (j+1) (by simpa using a)
def fY (G:List Gr):Int:=if(G.all fun g=>G.any (cd g.fo))=true then 0 else 5
def aY (G:List Gr):Int:=if 60<G.length then 2 else if¬eO G=0 then eO G else if dT G=false then 4 else fY G
theorem nO {G:List Gr} (h:60<G.length):aY G=2:=if_pos h
theorem nP {G:List Gr} (h: ¬60<G.length) (a: ¬eO G=0):aY G=eO G:=by rw[aY,if_neg h,if_pos a]
theorem nQ {G:List Gr} (h: ¬60<G.length) (a:eO G=0) (d:dT G=false):aY G=4:=by rw[aY,if_neg h,if_neg (fun x=>x a),if_pos d]
theorem nS {G:List Gr} (h: ¬60<G.length) (a:eO G=0) (d:dT G=true):aY G=fY G:=by rw[aY,if_neg h,if_neg (fun x=>x a),if_neg (by rw[d];decide)]
theorem qR {G:List Gr} {k:Nat} (a:k<G.length) (h:G.any (cd (G[k]).fo)=false):5=fY G:=by
 rw[fY,if_neg];rw[List.all_eq_true];intro d;have:=d G[k] (List.getElem_mem a)
 rw[h]at this;cases this
theorem qS {G:List Gr} (h: ∀j (h:j<G.length),G.any (cd (G[j]).fo)=true):0=fY G:=by
 rw[fY,if_pos];rw[List.all_eq_true];intro x d;obtain⟨j,a,rfl⟩:=List.getElem_of_mem d
 exact h j a
theorem wN (G:List Gr) (v:Value) (w:World) (N:bt w v G):
    Calls prog 131 #[v] w fun e w'=>e= .returned (.int .i64 (fY G))∧Below w.heap.size w w':=by
 have P:=ai N;obtain⟨a,U,rfl,K,I,y⟩:=N
 have O:Hid (∀i (h:i<G.length),∃b o,a=some ⟨b,o,none⟩∧b<w.heap.size∧dQ w b (o+i*3) G[i]):=y;clear y;go_enter func131,ntmps131
 go_wp2_with fail;go_loopw [7] (fun i wr=> ∃k:Nat,k≤G.length∧i= .int .i64 k∧Hid (∀j (h:j<G.length),j<k→G.any (cd (G[j]).fo)=true)∧Below w.heap.size w wr) (fun i _=>G.length-(intOf i).toNat)
 case atStart=>exact⟨0,Nat.zero_le _,rfl,(fun j _ h=>absurd h (Nat.not_lt_zero _): ∀j (h:j<G.length),j<0→G.any (cd (G[j]).fo)=true),Below.refl _ _⟩
 case round=>
  obtain⟨k,hk,rfl,J,d⟩:=hrel
  by_cases A:k<G.length
  · obtain⟨b,o,rfl,hb,he⟩:=O.out k A
    obtain⟨Q,S,T⟩:=he.below hb d
    have C3:=d.size;go_wp2_with fail;refine(wM G _ (G[k]).fo _ (P.out.below (d.alloc d.size _))).mono ?_
    rintro e w1 ⟨rfl,z⟩;obtain⟨V,X,Y,u,M⟩:=mW z
    have f:=bj d u;clear Q S T d z u V X Y;cases E:G.any (cd (G[k]).fo)with
    |true=>
     have H:=hid (show∀j (h:j<G.length),j<k+1→G.any (cd (G[j]).fo)=true from fun j Z h2=>by
      by_cases e:j=k
      · subst e;exact E
      · exact J.out j Z (by omega))
     clear E;go_wp2_with fail;go_roundw
     case rel=>exact⟨k+1,by omega,by simp,H,f⟩
     case measure=>simp[intOf];omega
    |false=>
     have F:=hid (show 5=fY G from qR A E);clear E;go_wp2_with fail;go_ret;exact⟨an F.out,f⟩
  · have F:=hid (show 0=fY G from qS (fun j h=>J.out j h (by omega)))
    go_wp2_with fail;go_ret;exact⟨an F.out,d⟩
theorem nT (G:List Gr) (v:Value) (w:World) (V:bt w v G) (U:gZ G):
    Calls prog 89 #[v] w fun e w'=>e= .returned (.int .i64 (aY G))∧Below w.heap.size w w':=by
 have S:=ai V;have Y:=ai U;obtain⟨a,C3,rfl,T,P,I⟩:=V
 have X:Hid (∀i (h:i<G.length),∃b o,a=some ⟨b,o,none⟩∧b<w.heap.size∧dQ w b (o+i*3) G[i]):=I;clear I U;by_cases y:60<G.length
 · have z:=hid (show 2=aY G from(nO y).symm)
   have H:60<(G.length:Int):=by omega
   go_enter func89,ntmps89
   go_wp2_with fail;go_ret;exact⟨an z.out,Below.refl _ _⟩
 · have H: ¬60<(G.length:Int):=by omega
   go_enter func89,ntmps89
   go_wp2_with fail;go_loopw [11] (fun i wr=> ∃k:Nat,k≤G.length∧i= .int .i64 k∧Hid (∀j (h:j<G.length),j<k→bE G[j]=0)∧Below w.heap.size w wr) (fun i _=>G.length-(intOf i).toNat)
   case atStart=>exact⟨0,Nat.zero_le _,rfl,(fun j _ h=>absurd h (Nat.not_lt_zero _): ∀j (h:j<G.length),j<0→bE G[j]=0),Below.refl _ _⟩
   case round=>
    obtain⟨k,hk,rfl,K,f⟩:=hrel
    by_cases A:k<G.length
    · obtain⟨b,o,rfl,hb,he⟩:=X.out k A
      obtain⟨Z,c1,c2⟩:=he.below hb f
      have J:=Y.out _ (List.getElem_mem A);go_wp2_with fail;refine(uR G[k] _ J.1 J.2).mono ?_
      rintro e w1 ⟨rfl,u⟩
      first
       |(have d:=bj f u)
       |(have d:=bj f (mW u).2.2.2.1)
      clear Z c1 c2 f u;by_cases E:bE G[k]=0
      · rw[E]
        have N:=hid (show∀j (h:j<G.length),j<k+1→bE G[j]=0 from fun j h1 h2=>by
         by_cases e:j=k
         · subst e;exact E
         · exact K.out j h1 (by omega))
        clear E;go_wp2_with fail;go_roundw
        case rel=>exact⟨k+1,by omega,by simp,N,d⟩
        case measure=>simp[intOf];omega
      · have Q:=nM A K.out E
        have z:=hid (show bE G[k]=aY G from by rw[nP y (by rw[Q];exact E),Q]);have hz:(bE G[k]==0)=false:=by simpa using E
        clear Q E;generalize bE G[k]=x at*;go_wp2_with fail;go_ret;exact⟨an z.out,d⟩
    · have F:=ai (nN (fun j h=>K.out j h (by omega)))
      clear K;go_wp2_with fail;refine(wG G _ _ (S.out.below f) (by omega)).mono ?_
      rintro e w1 ⟨rfl,u⟩;have d:=bj f u;clear f u;cases M:dT G with
      |false=>
       have z:=hid (show 4=aY G from(nQ y F.out M).symm);clear M;go_wp2_with fail;go_ret;exact⟨an z.out,d⟩
      |true=>
       have z:=hid (show fY G=aY G from(nS y F.out M).symm);clear M;go_wp2_with fail;refine(wN G _ _ (S.out.below d)).mono ?_
       rintro e w2 ⟨rfl,O⟩;go_wp2_with fail;go_ret;exact⟨an z.out,bj d O⟩
end Go.Proofs.YtgamnckfmmbjdaaGreatDoor
