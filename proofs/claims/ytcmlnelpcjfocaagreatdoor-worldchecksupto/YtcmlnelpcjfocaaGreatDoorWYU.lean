/- Rows of sessions that are written in place; what slices.IndexFunc and slices.DeleteFunc answer of them. -/
import Derived.Test.YtcmlnelpcjfocaaGreatDoorWYO
import Derived.Lib.SliceRun
import Derived.Test.YtcmlnelpcjfocaaGreatDoorWYN
import Derived.Lib.AtoiAll
import Derived.Lib.AtoiAllCases
import Derived.Lib.ItoaMem
import Derived.Lib.Builder
import Derived.Lib.AppendStr
import Derived.Lib.UnsafeStr
import Derived.Lib.OthersKept
import Derived.Lib.OwnKind
import Derived.Laws.Externs
import Derived.Lib.LaidTab
import Derived.Test.YtcmlnelpcjfocaaGreatDoorWYM
set_option linter.unusedSimpArgs false
set_option linter.unusedVariables false
namespace Go.Proofs.YtcmlnelpcjfocaaGreatDoor
open Go.RowKit Go.ChangeShapes Go.WideShapes Go.ChangeAt Go.Proofs.Tryz
set_option maxHeartbeats 2000000
set_option maxRecDepth 100000
theorem Nb.refl (w:World) (g:Nat):w.grownBy w (some g):=⟨rfl,rfl,rfl,Nat.le_refl _,fun _ _ _=>rfl⟩
theorem Nb.trans {a b c:World} {g:Nat} (h:a.grownBy b (some g)) (k:b.grownBy c (some g)):a.grownBy c (some g):=
 ⟨k.os.trans h.os,k.tape.trans h.tape,k.output.trans h.output,Nat.le_trans h.size k.size,fun q f d=>(k.block q (Nat.lt_of_lt_of_le f h.size) d).trans (h.block q f d)⟩
theorem Nb.below {a b:World} (g:Nat) (h:Below a.heap.size a b):a.grownBy b (some g):=
 ⟨h.os,h.tape,h.output,h.size,fun q d _=>h.block q d⟩
theorem Nb.«to» {B:Nat} {w w':World} {g:Nat} (h:w.grownBy w' (some g)) (d:B≤w.heap.size) (y:B≤g):Below B w w':=
 ⟨h.os,h.tape,h.output,h.size,fun k f=>h.block k (Nat.lt_of_lt_of_le f d) (fun e=>by injection e with e;omega)⟩
theorem Nb.cell {w w':World} {g:Nat} (h:w.grownBy w' (some g)) {p:Addr} (f:p.block<w.heap.size) (d:p.block≠g):w'.cell? p=w.cell? p:=
 World.cell?_of_block (w:=w) (h.block p.block f (fun e=>d (by injection e)))
theorem Nb.frozen {w w':World} {g:Nat} (h:w.grownBy w' (some g)) {p:Addr} (f:p.block<w.heap.size) (d:p.block≠g):w'.frozen? p=w.frozen? p:=
 World.frozen?_of_block (w:=w) (h.block p.block f (fun e=>d (by injection e)))
theorem ac (w:World) (g o:Nat) (v:Value):w.grownBy (w.setCell ⟨g,o,none⟩ v) (some g):=by
 exact⟨rfl,rfl,rfl,by simp,fun k _ d=>Below.heap_setCell w _ v k (fun e=>d (by rw[e]))⟩
theorem lF (g:Nat): ∀(ai:List Value) (o:Nat) (w:World),w.grownBy (w.setCells g o ai) (some g)
 |[],_,w=>Nb.refl w g
 |v::r,o,w=>Nb.trans (ac w g o v) (lF g r (o+1) (w.setCell ⟨g,o,none⟩ v))
def jH (W:World) (g:Nat) (T:TypeId) (n:Nat):Prop:= ∃cur,W.heap[g]?=some (.cells cur T (0,0))∧cur.size=n
def gE (g:Nat) (w W:World):Prop:= ∀T n,jH w g T n→jH W g T n
theorem jH.lt {W:World} {g n:Nat} {T:TypeId} (h:jH W g T n):g<W.heap.size:=by
 obtain⟨cur,d,_⟩:=h
 rcases Nat.lt_or_ge g W.heap.size with h|h
 · exact h
 · rw[Array.getElem?_eq_none h]at d;cases d
theorem jH.below {W f:World} {g n:Nat} {T:TypeId} (h:jH W g T n) (A:Below W.heap.size W f):jH f g T n:=by
 have d:=h.lt;obtain⟨cur,y,z⟩:=h
 exact⟨cur,(A.block g d).trans y,z⟩
theorem jH.nb {W y:World} {g b n:Nat} {T:TypeId} (h:jH W g T n) (E:W.grownBy y (some b)) (f:g≠b):jH y g T n:=by
 have d:=h.lt;obtain⟨cur,z,A⟩:=h
 exact⟨cur,(E.block g d (fun e=>f (by injection e))).trans z,A⟩
theorem gE.refl (g:Nat) (w:World):gE g w w:=fun _ _ h=>h
theorem gE.trans {g:Nat} {a b c:World} (h:gE g a b) (k:gE g b c):gE g a c:=fun T n x=>k T n (h T n x)
theorem gE.below {g:Nat} {a b:World} (h:Below a.heap.size a b):gE g a b:=fun _ _ x=>x.below h
theorem gE.setCell (g o:Nat) (v:Value) (w:World):gE g w (w.setCell ⟨g,o,none⟩ v):=by
 intro T n h;obtain⟨cur,d,f⟩:=h
 refine⟨cur.setIfInBounds o v,?_,by simpa using f⟩
 unfold World.setCell;simp only[Array.getElem?_modify,d,if_true,Option.map_some];rfl
theorem gE.setCells (g:Nat): ∀(ai:List Value) (o:Nat) (w:World),gE g w (w.setCells g o ai)
 |[],_,w=>gE.refl g w
 |v::r,o,w=>(gE.setCell g o v w).trans (gE.setCells g r (o+1) (w.setCell ⟨g,o,none⟩ v))
def jI (s:Se):List Value:=[.int .i64 s.nu,.string s.wh,.string s.tx,.int .i64 s.si,.int .i64 s.ti]
def ik (w:World) (g:Nat) (d:List Se):Prop:=g<w.heap.size∧ ∀i (h:i<d.length),∀c,c<5→w.cell? ⟨g,i*5+c,none⟩=(jI d[i])[c]?∧w.frozen? ⟨g,i*5+c,none⟩=false
theorem ik.at {w:World} {g:Nat} {d:List Se} (h:ik w g d) {i:Nat} (f:i<d.length):ic w g (i*5) d[i]:=
 ⟨by have:=(h.2 i f 0 (by decide)).1;simpa[jI]using this,by have:=(h.2 i f 1 (by decide)).1;simpa[jI]using this,by have:=(h.2 i f 2 (by decide)).1;simpa[jI]using this,by have:=(h.2 i f 3 (by decide)).1;simpa[jI]using this,by have:=(h.2 i f 4 (by decide)).1;simpa[jI]using this⟩
theorem ik.below {w w':World} {g:Nat} {d:List Se} (h:ik w g d) (f:Below w.heap.size w w'):ik w' g d:=
 ⟨Nat.lt_of_lt_of_le h.1 f.size,fun i z c y=>⟨(f.cell (p:=⟨g,i*5+c,none⟩) h.1).trans (h.2 i z c y).1,(f.frozen (p:=⟨g,i*5+c,none⟩) h.1).trans (h.2 i z c y).2⟩⟩
theorem ik.lies {w:World} {g cap:Nat} {d:List Se} (h:ik w g d) (f:d.length≤cap) (z:d.length≤1000000000000000):de w (.slice (some ⟨g,0,none⟩) d.length cap) d:=
 ⟨_,cap,rfl,f,z,fun i y=>⟨g,0,rfl,h.1,by rw[Nat.zero_add];exact h.at y⟩⟩
theorem ik.take {w:World} {g:Nat} {d:List Se} (h:ik w g d) (k:Nat):ik w g (d.take k):=
 ⟨h.1,fun i z c y=>by
  have f:i<d.length:=by rw[List.length_take]at z;omega
  have:=h.2 i f c y
  rw[List.getElem_take];exact this⟩
theorem ik.set {w:World} {g:Nat} {d:List Se} (h:ik w g d) {i:Nat} (H:i<d.length) (s:Se):ik (w.setCells g (i*5) (jI s)) g (d.set i s):=by
 refine⟨Nat.lt_of_lt_of_le h.1 (lF g _ _ w).size,fun j F c y=>⟨?_,?_⟩⟩
 · have E:j<d.length:=by simpa using F
   by_cases e:j=i
   · subst e
     have:=World.cell?_setCells_in g (jI s) (j*5) w (fun z A=>by
      have f:z<5:=A;rw[(h.2 j H z f).1];match z,f with
      |0,_=>rfl
      |1,_=>rfl
      |2,_=>rfl
      |3,_=>rfl
      |4,_=>rfl) c y
     rw[this];simp only[List.getElem_set_self];exact(List.getElem?_eq_getElem (show c<(jI s).length from y)).symm
   · rw[World.cell?_setCells_out g _ _ _ _ (fun _ _=>by simp only[show(jI s).length=5 from rfl];omega),(h.2 j E c y).1]
     rw[List.getElem_set_ne (fun G=>e G.symm)]
 · rw[World.frozen?_setCells];exact(h.2 j (by simpa using F) c y).2
theorem Dn {L:List Gr} {k:Nat} (h:k<L.length) {d:Gr→Bool} (f:d L[k]=true):(L.take (k+1)).filter d=(L.take k).filter d++[L[k]]:=by
 rw[List.take_succ_eq_append_getElem h,List.filter_append];simp[f]
theorem Do {L:List Gr} {k:Nat} (h:k<L.length) {d:Gr→Bool} (f:d L[k]=false):(L.take (k+1)).filter d=(L.take k).filter d:=by
 rw[List.take_succ_eq_append_getElem h,List.filter_append];simp[f]
theorem Dp (e:Gr) (f h:ByteArray) (b b2:Nat) (w:World) (hb:b<w.heap.size) (y:b2<w.heap.size) (E:w.cell? ⟨b,0,none⟩=some (.string f)) (z:w.cell? ⟨b2,0,none⟩=some (.string h)):
    Calls prog 106 #[.agg #[.string e.fo,.string e.wh,.int .i64 e.ri],.pointer (some ⟨b,0,none⟩),.pointer (some ⟨b2,0,none⟩)] w fun r w'=>r= .returned (.bool (ez f h e))∧Below w.heap.size w w':=by
 have F: ∀o,(w.alloc o).cell? ⟨b,0,none⟩=some (.string f):=fun o=>(((Below.refl w.heap.size w).alloc (Nat.le_refl _) o).cell (p:=⟨b,0,none⟩) hb).trans E
 have G: ∀o,(w.alloc o).cell? ⟨b2,0,none⟩=some (.string h):=fun o=>(((Below.refl w.heap.size w).alloc (Nat.le_refl _) o).cell (p:=⟨b2,0,none⟩) y).trans z
 cases A:(e.fo.toList==f.toList)with
 |true=>
  have d:=hid (show(e.wh.toList==h.toList)=ez f h e from by rw[ez,A];rfl);go_enter func106,ntmps106
  go_wp2;go_ret;exact⟨bt d.out,(Below.refl _ _).alloc (Nat.le_refl _) _⟩
 |false=>
  have d:=hid (show false=ez f h e from by rw[ez,A];rfl);go_enter func106,ntmps106
  go_wp2;go_ret;exact⟨bt d.out,(Below.refl _ _).alloc (Nat.le_refl _) _⟩
def eV (G:List Gr) (f h:ByteArray):Int:=match G.find? (ez f h)with
 |some e=>e.ri
 |none=>0
theorem Dq (G:List Gr) (v:Value) (f h:ByteArray) (w:World) (M:cD w v G):
    Calls prog 59 #[v,.string f,.string h] w fun e w'=>e= .returned (.int .i64 (eV G f h))∧Below w.heap.size w w':=by
 have O:=ak M
 have P:kS ((w.alloc (.cells #[.string f] 9)).alloc (.cells #[.string h] 9)) 106 #[.pointer (some ⟨w.heap.size,0,none⟩),.pointer (some ⟨w.heap.size+1,0,none⟩)] (ez f h):=by
  refine⟨enters_of func106 (by kernel_rfl) rfl,fun W H e=>?_⟩
  exact Dp e f h w.heap.size (w.heap.size+1) W (Nat.lt_of_lt_of_le (by simp;omega) H.size) (Nat.lt_of_lt_of_le (by simp) H.size) ((H.cell (p:=⟨w.heap.size,0,none⟩) (by simp;omega)).trans (by simp[go_sem])) ((H.cell (p:=⟨w.heap.size+1,0,none⟩) (by simp)).trans (by simp[go_sem]))
 have N:=ak P;clear P;have d:Below w.heap.size w ((w.alloc (.cells #[.string f] 9)).alloc (.cells #[.string h] 9)):=((Below.refl _ _).alloc (Nat.le_refl _) _).alloc (by simp) _;rcases wB G (ez f h)with⟨F,E,_⟩|⟨k,U,F,E,_⟩
 · have J:=ak F
   have I:=hid (show 0=eV G f h from by rw[eV,E]);clear F E M;go_enter func59,ntmps59
   go_wp2_with fail;refine(oJ G _ _ _ (ez f h) _ (O.out.below d) N.out).mono ?_
   rintro e X ⟨rfl,z⟩;rw[J.out];have y:=d.trans (z.mono d.size);go_wp2;go_ret;exact⟨aD I.out,y⟩
 · have J:=ak F
   have I:=hid (show(G[k]).ri=eV G f h from by rw[eV,E]);obtain⟨a,S,rfl,Q,K,A⟩:=M
   obtain⟨b,o,rfl,hb,T⟩:=A k U
   have V:(k:Int)<G.length:=by omega
   clear F E A;go_enter func59,ntmps59
   go_wp2_with fail;refine(oJ G _ _ _ (ez f h) _ (O.out.below d) N.out).mono ?_
   rintro e X ⟨rfl,z⟩;rw[J.out];have y:=d.trans (z.mono d.size);obtain⟨Y,Z,c2⟩:=T.below hb y
   go_wp2;go_ret;exact⟨aD I.out,y⟩
def Fr (B:Nat) (v:Value):Prop:= ∀g,v.ownBlock=some g→B≤g
theorem Fr.mono {B B':Nat} {v:Value} (h:Fr B v) (d:B'≤B):Fr B' v:=fun g f=>Nat.le_trans d (h g f)
def kU (G:List Gr) (ns:List ByteArray):Int:=if bG G=0 then bH ns else bG G
theorem wT (G:List Gr) (v:Value) (d:List ByteArray) (g cap:Nat) (w:World) (N:cD w v G) (M:jY G) (K:g<w.heap.size) (A: ∀i (h:i<d.length),(d[i]).size≤1000000000000000) (S:d.length≤1000) (J: ∀i (h:i<d.length),w.cell? ⟨g,0+i,none⟩=some (.string d[i])):
    Calls prog 58 #[v,.slice (some ⟨g,0,none⟩) d.length cap] w fun e w'=>e= .returned (.int .i64 (kU G d))∧Below w.heap.size w w':=by
 have I:=ak N;have H:=ak M;have Q:=ak A;have P:=ak J;clear N M A J;by_cases z:bG G=0
 · have O:=ak z
   have E:=hid (show bH d=kU G d from(if_pos z).symm);clear z;go_enter func58,ntmps58
   go_wp2_with fail;refine(rG G _ _ I.out H.out).mono ?_
   rintro e T ⟨rfl,f⟩;rw[O.out];go_wp2_with fail;refine(nt d g 0 cap _ (Nat.lt_of_lt_of_le K f.size) Q.out S (fun i h=>(f.cell (p:=⟨g,0+i,none⟩) K).trans (P.out i h))).mono ?_
   rintro e V ⟨rfl,F⟩;generalize bH d=y at*;go_wp2;go_ret;exact⟨aD E.out,bn f F⟩
 · have E:=hid (show bG G=kU G d from(if_neg z).symm)
   have U:(bG G==0)=false:=by simpa using z
   go_enter func58,ntmps58
   go_wp2_with fail;refine(rG G _ _ I.out H.out).mono ?_
   rintro e T ⟨rfl,f⟩;generalize bG G=y at*;go_wp2;go_ret;exact⟨aD E.out,f⟩
def kh (G:List Gr) (f h:ByteArray):Int:=if kU G [f,h]=0 then eV G f h else 0
theorem Dr (G:List Gr) (v:Value) (f h:ByteArray) (w:World) (O:cD w v G) (N:jY G) (Q:f.size≤150000000000000) (S:h.size≤150000000000000):
    Calls prog 27 #[v,.string f,.string h] w fun e w'=>e= .returned (.tuple #[.int .i64 (kh G f h),.int .i64 (kU G [f,h])])∧Below w.heap.size w w':=by
 have I:=ak O;have M:=ak N;clear O N;have F: ∀i (A:i<[f,h].length),([f,h][i]).size≤1000000000000000:=fun i A=>by match i,A with|0,_=>exact Nat.le_trans Q (by decide)|1,_=>exact Nat.le_trans S (by decide)
 by_cases z:kU G [f,h]=0
 · have H:=hid (show eV G f h=kh G f h from(if_pos z).symm)
   have P:=ak z;rw[z];clear z;go_enter func27,ntmps27
   go_wp2_with fail;refine(wT G _ [f,h] w.heap.size 2 _ (I.out.below ((Below.refl _ _).alloc (Nat.le_refl _) _)) M.out (by simp) F (by simp) (fun i A=>by match i,A with|0,_=>simp|1,_=>simp)).mono ?_
   rintro e K ⟨rfl,y⟩;rw[P.out];have d:Below w.heap.size w K:=((Below.refl _ _).alloc (Nat.le_refl _) _).trans (y.mono (by simp));clear y;go_wp2_with fail;refine(Dq G _ f h _ (I.out.below d)).mono ?_
   rintro e U ⟨rfl,J⟩;rw[H.out];have E:=bn d J;go_wp2;go_ret2;exact⟨rfl,E⟩
 · have H:=hid (show 0=kh G f h from(if_neg z).symm)
   have T:(kU G [f,h]==0)=false:=by simpa using z
   go_enter func27,ntmps27
   go_wp2_with fail;refine(wT G _ [f,h] w.heap.size 2 _ (I.out.below ((Below.refl _ _).alloc (Nat.le_refl _) _)) M.out (by simp) F (by simp) (fun i A=>by match i,A with|0,_=>simp|1,_=>simp)).mono ?_
   rintro e K ⟨rfl,y⟩;have d:Below w.heap.size w K:=((Below.refl _ _).alloc (Nat.le_refl _) _).trans (y.mono (by simp));go_wp2;go_ret2;exact⟨by rw[←H.out];rfl,d⟩
theorem Ds (G:List Gr) (v:Value) (f h:ByteArray) (w:World) (Y:cD w v G):
    Calls prog 20 #[v,.string f,.string h] w fun e w'=>e= .returned (.int .i64 (eV G f h))∧Below w.heap.size w w':=by
 obtain⟨a,V,rfl,S,J,A⟩:=Y
 have T:Hid (∀i (h:i<G.length),∃b o,a=some ⟨b,o,none⟩∧b<w.heap.size∧fS w b (o+i*3) G[i]):=A;clear A;obtain⟨r,N⟩: ∃r,r=eV G f h:=⟨_,rfl⟩
 rw[←N];have P:=ak N;clear N;go_enter func20,ntmps20
 go_wp2_with fail;go_loopw [7] (fun i wr=> ∃k:Nat,k≤G.length∧i= .int .i64 k∧Hid (∀j (Q:j<G.length),j<k→ez f h G[j]=false)∧Below w.heap.size w wr) (fun i _=>G.length-(intOf i).toNat)
 case atStart=>exact⟨0,Nat.zero_le _,rfl,(fun j _ h=>absurd h (Nat.not_lt_zero _): ∀j (Q:j<G.length),j<0→ez f h G[j]=false),Below.refl _ _⟩
 case round=>
  obtain⟨k,hk,rfl,H,d⟩:=hrel
  by_cases E:k<G.length
  · obtain⟨b,o,rfl,hb,X⟩:=T.out k E
    obtain⟨c0,c1,c2⟩:=X.below hb d
    have U:=hid (show ez f h G[k]=true→(G[k]).ri=r from fun M=>by
     have:G.find? (ez f h)=some G[k]:=by
      rw[List.find?_eq_some_iff_getElem];exact⟨M,k,E,rfl,fun j K=>by simpa using H.out j (by omega) K⟩
     rw[P.out,eV,this])
    have O:=hid (show ez f h G[k]=false→ ∀j (Q:j<G.length),j<k+1→ez f h G[j]=false from fun M j z I=>by
     by_cases e:j=k
     · subst e;exact M
     · exact H.out j z (by omega))
    generalize G[k]=x at*;cases z:(x.fo.toList==f.toList)with
    |true=>
     cases I:(x.wh.toList==h.toList)with
     |true=>
      have F:=ak (U.out (by rw[ez,z,I];rfl));go_wp2_with fail;go_ret;exact⟨aD F.out,d⟩
     |false=>
      have y:=ak (O.out (by rw[ez,z,I];rfl));go_wp2_with fail;go_roundw
      case rel=>exact⟨k+1,by omega,by simp,y,d⟩
      case measure=>simp[intOf];omega
    |false=>
     have y:=ak (O.out (by rw[ez,z];rfl));go_wp2_with fail;go_roundw
     case rel=>exact⟨k+1,by omega,by simp,y,d⟩
     case measure=>simp[intOf];omega
  · have F:=hid (show 0=r from by
     have:G.find? (ez f h)=none:=by
      rw[List.find?_eq_none];intro x Z;obtain⟨j,K,rfl⟩:=List.getElem_of_mem Z
      simpa using H.out j K (by omega)
     rw[P.out,eV,this])
    go_wp2_with fail;go_ret;exact⟨aD F.out,d⟩
theorem oO {G:List Gr} (h:bG G=0):G.length≤60∧gS G=0∧fE G=true∧i6 G=0:=by
 by_cases d:60<G.length
 · rw[rC d]at h;cases h
 · by_cases f:gS G=0
   · cases y:fE G with
     |false=>rw[rE d f y]at h;cases h
     |true=>rw[rF d f y]at h;exact⟨by omega,f,rfl,h⟩
   · rw[rD d f]at h;exact absurd h f
theorem wU {G:List Se} {x l r:Int} (h:bJ G x l r=0):eF G.length x l r=0∧fk x G=0∧gQ G=true∧iw G r=0:=by
 by_cases d:eF G.length x l r=0
 · by_cases f:fk x G=0
   · cases y:gQ G with
     |false=>rw[rp d f y]at h;cases h
     |true=>rw[rq d f y]at h;exact⟨d,f,rfl,h⟩
   · rw[rn d f]at h;exact absurd h f
 · rw[mm d]at h;exact absurd h d
structure An where
 err:Int
 num:Int
 pg:Pg
def jJ (w:World) (v:Value) (a:An):Prop:= ∃vt vc,v= .agg #[.int .i64 a.err,.int .i64 a.num,.bool a.pg.reset,vt,vc,.int .i64 a.pg.cur,.bool a.pg.more]∧an w vt a.pg.tree∧eG w vc a.pg.cos
theorem jJ.below {w w':World} {v:Value} {a:An} (h:jJ w v a) (d:Below w.heap.size w w'):jJ w' v a:=by
 obtain⟨A,z,e,f,y⟩:=h
 exact⟨A,z,e,f.below d,y.below d⟩
structure Ws where
 l:List UInt8
 mn:Bool
 fr:Bool
def dz (n:Int):Prop:= -9223372036854775808≤n∧n≤9223372036854775807
def eW (n:Int):Bool:=decide (-1099511627776≤n) && decide (n≤1099511627776)
theorem i9 {n:Int}:eW n=true↔ -1099511627776≤n∧n≤1099511627776:=by simp[eW]
inductive aN where
 |n (i:Int)
 |t (s:ByteArray)
 |big
def Wr.num (s:Ws) (n:Int):Ws:=⟨s.l++(Lib.itoa n++[59]),s.mn,s.fr|| !eW n⟩
def fY (s:Ws):Ws:=⟨s.l,true,s.fr⟩
def iy (s:Ws) (x:ByteArray):Ws:=if 1000<x.size then fY s else⟨(Wr.num s x.size).l++x.data.toList,(Wr.num s x.size).mn,(Wr.num s x.size).fr⟩
def Wr.put (s:Ws):aN→Ws
 | .n i=>Wr.num s i
 | .t x=>iy s x
 | .big=>fY s
def Wr.run (s:Ws) (l:List aN):Ws:=l.foldl Wr.put s
theorem rO (s:Ws) (a b:List aN):Wr.run s (a++b)=Wr.run (Wr.run s a) b:=by simp[Wr.run]
theorem rP (s:Ws) (x:aN) (a:List aN):Wr.run s (x::a)=Wr.run (Wr.put s x) a:=rfl
def aN.wf:aN→Prop
 | .n i=>dz i
 |_=>True
def aN.ok:aN→Bool
 | .n i=>eW i
 | .t x=>decide (x.size≤1000)
 | .big=>false
def aN.bytes:aN→List UInt8
 | .n i=>Lib.itoa i++[59]
 | .t x=>Lib.itoa x.size++[59]++x.data.toList
 | .big=>[]
def Wr.bytes (l:List aN):List UInt8:=l.flatMap aN.bytes
theorem wV (a b:List aN):Wr.bytes (a++b)=Wr.bytes a++Wr.bytes b:=by simp[Wr.bytes]
theorem rQ (x:aN) (b:List aN):Wr.bytes (x::b)=x.bytes++Wr.bytes b:=rfl
def Wr.ok (l:List aN):Bool:=l.all aN.ok
def cI (s:Ws):ByteArray×Int:=if s.mn=true then(⟨#[]⟩,2)else if s.fr=true then(⟨#[]⟩,3)else(⟨s.l.toArray⟩,0)
theorem lG (u:Nat) (h:u<10):(UInt8.ofNat (48+u)).toNat=48+u:=by rw[UInt8.toNat_ofNat'];omega
theorem oP: ∀(n u:Nat),u<n→ ∀x∈Lib.decDigits u,48≤x.toNat∧x.toNat≤57
 |0,u,h=>absurd h (Nat.not_lt_zero _)
 |n+1,u,h=>by
  intro x d;rw[Lib.decDigits]at d;split at d
  · rename_i f
    simp only[List.mem_singleton]at d;subst d;rw[lG u f];omega
  · rename_i f
    rw[List.mem_append,List.mem_singleton]at d;rcases d with d|rfl
    · exact oP n (u/10) (by omega) x d
    · rw[lG _ (by omega)];omega
theorem rR: ∀u,Lib.decDigits u≠[]:=by
 intro u;rw[Lib.decDigits];split<;>simp
theorem oQ: ∀(k u:Nat),u<10^(k+1)→(Lib.decDigits u).length≤k+1
 |0,u,h=>by rw[Lib.decDigits,dif_pos (by omega)];simp
 |k+1,u,h=>by
  rw[Lib.decDigits];split
  · simp
  · have:=oQ k (u/10) (by rw[Nat.pow_succ]at h;omega)
    simp only[List.length_append,List.length_cons,List.length_nil];omega
theorem oR {n:Int} (h:dz n):(Lib.itoa n).length≤20:=by
 have d := oQ 18 n.natAbs (by obtain ⟨d, f⟩ := h; have : (10 : Nat) ^ (18 + 1) = 10000000000000000000 := by decide
                              omega)
 unfold Lib.itoa;split
 · simp only[List.length_cons];omega
 · have e:n.toNat=n.natAbs:=by omega
   rw[e];omega
theorem wW (n:Int):(59:UInt8)∉Lib.itoa n:=by
 have f: ∀u,(59:UInt8)∉Lib.decDigits u:=fun u d=>by
  have:=oP (u+1) u (Nat.lt_succ_self u) 59 d
  simp at this
 unfold Lib.itoa;split
 · intro d
   rw[List.mem_cons]at d;rcases d with d|d
   · simp at d
   · exact f _ d
 · exact f _
theorem wX: ∀(l:List UInt8) (d:Nat) (c:UInt8),Lib.parseUint10 d (l++[c])=match Lib.parseUint10 d l with
    | .ok a=>Lib.parseUint10 a [c]
    | .«syntax» => .«syntax»
    | .range=> .range
 |[],d,c=>rfl
 |x::l,d,c=>by
  rw[List.cons_append];conv=>lhs;unfold Lib.parseUint10
  conv=>rhs;unfold Lib.parseUint10
  split
  · split
    · rfl
    · split
      · rfl
      · exact wX l _ c
  · rfl
theorem wY: ∀(n u:Nat),u<n→u<1000000000000000000→Lib.parseUint10 0 (Lib.decDigits u)= .ok u
 |0,u,h,_=>absurd h (Nat.not_lt_zero _)
 |n+1,u,h,hb=>by
  rw[Lib.decDigits];split
  · rename_i d
    have e:=lG u d;simp only[Lib.parseUint10,e];rw[if_pos (by omega),if_neg (by omega),if_neg (by omega)];congr 1;omega
  · rename_i d
    have e:=lG (u % 10) (by omega);rw[wX,wY n (u/10) (by omega) (by omega)];simp only[Lib.parseUint10,e];rw[if_pos (by omega),if_neg (by omega),if_neg (by omega)];congr 1;omega
def dq (n:Int):Prop:=n.natAbs<1000000000000000000
theorem Dt {n:Int} (h:eW n=true):dq n:=by rw[i9]at h;unfold dq;omega
theorem Du {n:Int} (h:dq n):Lib.atoiAll (Lib.itoa n)= .ok n:=by
 unfold dq at h
 have d:Lib.parseMag (Lib.decDigits n.natAbs)= .ok n.natAbs:=by
  rw[Lib.parseMag,if_neg (rR _),wY _ _ (Nat.lt_succ_self _) h]
 unfold Lib.itoa;split
 · rename_i y
   rw[Lib.atoiAll_minus,d];simp only[Lib.signed];rw[if_neg (by omega)];congr 1;omega
 · rename_i y
   have e:n.toNat=n.natAbs:=by omega
   rw[e];obtain⟨c,r,f⟩: ∃c r,Lib.decDigits n.natAbs=c::r:=List.exists_cons_of_ne_nil (rR _)
   have z:=oP _ _ (Nat.lt_succ_self n.natAbs) c (by rw[f];simp);rw[f]at d⊢;rw[Lib.atoiAll_plain c r (by omega) (by omega),d];simp only[Lib.signless];rw[if_neg (by omega)];congr 1;omega
def Wr.upto (l:List UInt8):List UInt8:=l.takeWhile (fun x=> !(x==59))
def Wr.behind (l:List UInt8):List UInt8:=(l.dropWhile (fun x=> !(x==59))).drop 1
theorem Dv {a r:List UInt8} (h:(59:UInt8)∉a):Wr.upto (a++59::r)=a:=by
 unfold Wr.upto;rw[List.takeWhile_append_of_pos (by intro x d;simp;intro e;exact h (e▸d))];simp
theorem Dw {a r:List UInt8} (h:(59:UInt8)∉a):Wr.behind (a++59::r)=r:=by
 unfold Wr.behind;rw[List.dropWhile_append_of_pos (by intro x d;simp;intro e;exact h (e▸d))];simp
theorem wZ {l:List UInt8} (h:(59:UInt8)∈l):l=Wr.upto l++59::Wr.behind l:=by
 induction l with
 |nil=>cases h
 |cons x l ih=>
  by_cases e:x=59
  · subst e;simp[Wr.upto,Wr.behind]
  · have d:(59:UInt8)∈l:=by
     rw[List.mem_cons]at h;exact h.resolve_left (fun h=>e h.symm)
    have:=ih d
    unfold Wr.upto Wr.behind at this⊢;simp only[List.takeWhile_cons,List.dropWhile_cons,beq_iff_eq,e,Bool.not_eq_true',not_false_eq_true,beq_eq_false_iff_ne,ne_eq,if_true,List.cons_append];rw[←this]
def aS (g:Int→Bool) (l:List UInt8):Option (Int×List UInt8):=match Lib.atoiAll (Wr.upto l)with
 | .ok n=>if(59:UInt8)∈l∧Lib.itoa n=Wr.upto l∧g n=true then some (n,Wr.behind l)else none
 |_=>none
theorem xe {g:Int→Bool} (z: ∀n,g n=true→dq n) {l r:List UInt8} {n:Int}:aS g l=some (n,r)↔g n=true∧l=Lib.itoa n++59::r:=by
 constructor
 · intro h
   unfold aS at h;split at h
   · rename_i m A
     split at h
     · rename_i d
       simp only[Option.some.injEq,Prod.mk.injEq]at h;obtain⟨rfl,rfl⟩:=h
       exact⟨d.2.2,by rw[d.2.1];exact wZ d.1⟩
     · cases h
   · cases h
 · rintro ⟨f,rfl⟩
   have y:=Dv (r:=r) (wW n);unfold aS;rw[y,Du (z n f)];simp only;rw[if_pos (by simp[f]),Dw (wW n)]
def ah:Int→Bool:=eW
def aF (n:Int):Bool:=decide (n.natAbs/10<1125899906842624)
theorem xf (n:Int) (h:ah n=true):dq n:=Dt h
theorem oS (n:Int) (h:aF n=true):dq n:=by simp only[aF,decide_eq_true_eq]at h;unfold dq;omega
theorem fZ (n:Int) (h:ah n=true):aF n=true:=by
 have:=i9.1 h
 simp only[aF,decide_eq_true_eq];omega
def d9 (B b:Nat) (p:Value) (s:Ws) (w:World):Prop:=
 B≤b∧ ∃v,w.heap[b]?=some (.cells #[p,v,.bool s.mn,.bool s.fr] 268 (0,0))∧w.ownsRow B 5 1 v s.l.length (Lib.byteCells s.l)∧v.ownBlock≠some b
def Wt (B b:Nat) (s:Ws) (w:World):Prop:=d9 B b (.pointer none) s w∨d9 B b (.pointer (some ⟨b,0,none⟩)) s w
theorem Wt.at {B b:Nat} {s:Ws} {w:World} (h:Wt B b s w): ∃p,d9 B b p s w:=h.elim (fun h=>⟨_,h⟩) (fun h=>⟨_,h⟩)
def bR (B b:Nat) (w w':World):Prop:=Below B w w'∧Lib.OthersKept 5 (some b) w w'
theorem bR.refl (B b:Nat) (w:World):bR B b w w:=⟨Below.refl _ _,Lib.OthersKept.refl _ _ _⟩
theorem bR.trans {B b:Nat} {a c d:World} (h:bR B b a c) (k:bR B b c d):bR B b a d:=⟨h.1.trans k.1,h.2.trans k.2⟩
theorem rS {B b:Nat} {a w:World} (h:bR B b a w) (d:B≤b) (i:Nat) (v:Value):bR B b a (w.setCell ⟨b,i,none⟩ v):=⟨h.1.setCell (p:=⟨b,i,none⟩) d _,h.2.setCell ⟨b,i,none⟩ rfl _⟩
theorem d9.lt {B b:Nat} {p:Value} {s:Ws} {w:World} (h:d9 B b p s w):b<w.heap.size:=by
 obtain⟨_,v,hb,_⟩:=h
 exact cM hb
theorem oT {B b:Nat} {w:World} {v:Value} {n:Nat} {xs:List Value} (d:w.ownsRow B 5 1 v n xs) (f:v.ownBlock≠some b) (i:Nat) (q:Value):(w.setCell ⟨b,i,none⟩ q).ownsRow B 5 1 v n xs:=
 d.kept (row:=some b) ⟨rfl,rfl,rfl,by simp[World.setCell],fun k _ y=>Below.heap_setCell _ _ _ _ (fun e=>y (by simp[e]))⟩ (Or.inr f)
theorem d9.used {B b:Nat} {p:Value} {s:Ws} {w:World} (h:d9 B b p s w) (q:Value):d9 B b q s (w.setCell ⟨b,0,none⟩ q):=by
 obtain⟨y,v,hb,f,d⟩:=h
 exact⟨y,v,by simp[World.setCell,Array.getElem?_modify,hb],oT f d _ _,d⟩
theorem d9.far {B b:Nat} {p:Value} {s:Ws} {w:World} (h:d9 B b p s w):d9 B b p {s with fr:=true} (w.setCell ⟨b,3,none⟩ (.bool true)):=by
 obtain⟨y,v,hb,f,d⟩:=h
 exact⟨y,v,by simp[World.setCell,Array.getElem?_modify,hb],oT f d _ _,d⟩
theorem d9.many {B b:Nat} {p:Value} {s:Ws} {w:World} (h:d9 B b p s w):d9 B b p {s with mn:=true} (w.setCell ⟨b,2,none⟩ (.bool true)):=by
 obtain⟨y,v,hb,f,d⟩:=h
 exact⟨y,v,by simp[World.setCell,Array.getElem?_modify,hb],oT f d _ _,d⟩
theorem d9.put {B b:Nat} {p v z:Value} {l:List UInt8} {m f:Bool} {w:World} (A:B≤b) (hb:w.heap[b]?=some (.cells #[p,v,.bool m,.bool f] 268 (0,0))) (d:w.ownsRow B 5 1 z l.length (Lib.byteCells l)):
    d9 B b p ⟨l,m,f⟩ (w.setCell ⟨b,1,none⟩ z):=by
 have y:=Lib.ownBlock_ne d hb (by decide);exact⟨A,z,by simp[World.setCell,Array.getElem?_modify,hb],oT d y _ _,y⟩
theorem Wt.below {B b:Nat} {s:Ws} {w w':World} (h:Wt B b s w) (hb:Below w.heap.size w w'):Wt B b s w':=by
 have one: ∀p,d9 B b p s w→d9 B b p s w':=fun p ⟨z,v,d,f,y⟩=>⟨z,v,(hb.block b (cM d)).trans d,gK f hb,y⟩
 exact h.elim (fun h=>Or.inl (one _ h)) (fun h=>Or.inr (one _ h))
theorem kV {B b:Nat} {w w':World} (h:Below w.heap.size w w') (f:B≤w.heap.size):bR B b w w':=
 ⟨h.mono f,fun k o d _ _=>(h.block k (cM d)).trans d⟩
theorem Dx (b:Nat) (w:World) (f:w.cell? ⟨b,0,none⟩=some (.pointer (some ⟨b,0,none⟩))):
    Calls prog 281 #[.pointer (some ⟨b,0,none⟩)] w fun e w'=>e= .returned (.tuple #[])∧w'=w:=by
 obtain⟨j,d,_⟩: ∃j,prog.info? 266=some j∧j.size=2:=Option.map_eq_some_iff.1 (by kernel_rfl)
 go_enter func281,ntmps281
 go_wp2;rw[Lib.run_neq_ptr_same w _ underlying264 d];go_wp2;go_end0
 exact⟨rfl,rfl⟩
theorem Dy (b:Nat) (w:World) (A:w.cell? ⟨b,0,none⟩=some (.pointer none)) (d:w.shape? b=some (268,4)) (z:w.frozen? ⟨b,0,none⟩=false):
    Calls prog 281 #[.pointer (some ⟨b,0,none⟩)] w fun e w'=>e= .returned (.tuple #[])∧w'=w.setCell ⟨b,0,none⟩ (.pointer (some ⟨b,0,none⟩)):=by
 obtain⟨j,y,f⟩: ∃j,prog.info? 266=some j∧j.size=2:=Option.map_eq_some_iff.1 (by kernel_rfl)
 go_enter func281,ntmps281
 go_wp2;rw[Lib.run_to_unsafe w ⟨b,0,none⟩ underlying264 underlying370 y (by rw[f];decide) d (Nat.zero_lt_succ 3)];simp only[Result.andThen];rw[Oper.upon_value];go_wp2;rw[run_callFunc_extern func325 (by kernel_rfl) (by kernel_rfl) (by kernel_rfl) (e:=Extern.AbiNoEscape.same) (by kernel_rfl)];rw[Lib.run_noEscape];simp only[Result.andThen];rw[Oper.upon_value];go_wp2;rw[Lib.run_from_unsafe w ⟨b,0,none⟩ underlying370 underlying264 y d (by kernel_rfl)];simp only[Result.andThen];rw[Oper.upon_value];go_wp2;go_end0
 exact⟨rfl,rfl⟩
theorem xg (B b:Nat) (s:Ws) (w:World) (h:Wt B b s w):
    Calls prog 281 #[.pointer (some ⟨b,0,none⟩)] w fun e w'=>e= .returned (.tuple #[])∧d9 B b (.pointer (some ⟨b,0,none⟩)) s w'∧bR B b w w':=by
 rcases h with h|h
 · have d:=h
   obtain⟨f,v,hb,_⟩:=d
   refine(Dy b w (by rw[Lib.cell_of_heap hb];rfl) (by simp[World.shape?,hb]) (Lib.frozen_of_heap hb 0)).mono ?_
   rintro e w' ⟨rfl,rfl⟩;exact⟨rfl,h.used _,rS (bR.refl _ _ _) f _ _⟩
 · have d:=h
   obtain⟨f,v,hb,_⟩:=d
   refine(Dx b w (by rw[Lib.cell_of_heap hb];rfl)).mono ?_
   rintro e w' ⟨rfl,rfl⟩;exact⟨rfl,h,bR.refl _ _ _⟩
theorem xh (B b:Nat) (s:Ws) (c:UInt8) (w:World) (h:Wt B b s w) (H:s.l.length+1≤140737488355328) (Z:B≤w.heap.size):
    Calls prog 233 #[.pointer (some ⟨b,0,none⟩),.int .u8 c.toNat] w fun e w'=>e= .returned .nilIface∧d9 B b (.pointer (some ⟨b,0,none⟩)) {s with l:=s.l++[c]} w'∧bR B b w w':=by
 obtain⟨aZ,hi,Q,S,T⟩:=info_parts (show(prog.info? 5).map (fun i=>(i.zero,i.size,i.bytes))=some (some (.int .u8 0),1,1) by kernel_rfl)
 have M:=xg B b s w h;obtain⟨l,m,f⟩:=s
 go_enter func233,ntmps233
 go_wp2_with fail;refine M.mono ?_
 rintro e I ⟨rfl,Y,E,N⟩;obtain⟨U,v,G,y,P⟩:=Y
 have c0:I.cell? ⟨b,0,none⟩=some (.pointer (some ⟨b,0,none⟩)):=by rw[Lib.cell_of_heap G];rfl
 have c1:I.cell? ⟨b,1,none⟩=some v:=by rw[Lib.cell_of_heap G];rfl
 go_wp2_with (at_builtin;refine wpList_append_own _ rfl _ _ 186 rfl B 5 aZ (.int .u8 0) 1 1 underlying186 hi Q S T rfl (by decide) _ _ _ rfl (y.alloc _) ⟨I.heap.size,0,none⟩ 1 1 [.int .u8 c.toNat] rfl rfl ?c1 ?c2 ?c3 ?c4 ?c5 ?_)
 case c1=>
  intro j u J;match j,J with
  |0,J=>simp at J;subst J;simp[Addr.add]
 case c2=>intro u V;simp at V;subst V;rfl
 case c3=>unfold maxLen;have:l.length+1≤140737488355328:=H;omega
 case c4=>have:l.length+1≤140737488355328:=H;omega
 case c5=>have:=E.size;simp;omega
 intro v' K z d _;have O:b<I.heap.size:=cM G
 have F:K.heap[b]?=some (.cells #[.pointer (some ⟨b,0,none⟩),v,.bool m,.bool f] 268 (0,0)):=by
  rw[d.block b (by simp;omega) (fun e=>P e.symm),Lib.alloc_old I _ b O];exact G
 have d0:K.cell? ⟨b,0,none⟩=some (.pointer (some ⟨b,0,none⟩)):=by rw[Lib.cell_of_heap F];rfl
 have d1:K.cell? ⟨b,1,none⟩=some v:=by rw[Lib.cell_of_heap F];rfl
 have f1:K.frozen? ⟨b,1,none⟩=false:=Lib.frozen_of_heap F 1;have X:(Lib.byteCells l++[Value.int .u8 c.toNat])=Lib.byteCells (l++[c]):=by simp[Lib.byteCells]
 obtain⟨g,A,rfl⟩: ∃g A,v'= .slice (some ⟨g,0,none⟩) (l.length+1) A:=by
  rcases z.2 with⟨_,h0⟩|⟨g,A,cur,hv,_⟩
  · omega
  · exact⟨g,A,hv⟩
 go_wp2;go_ret;refine⟨rfl,?_,?_,((N.alloc _).grown d (Lib.ownsRow_kind (y.alloc _))).setCell ⟨b,1,none⟩ rfl _⟩
 · exact d9.put U F (by rw[←X];simpa using z)
 · exact((E.alloc (by have:=E.size;omega) _).grown d (by have:=E.size;simp;omega) (fun k hk=>(y.lt k hk).1)).setCell (p:=⟨b,1,none⟩) U _
theorem rT (B b:Nat) (s:Ws) (x:ByteArray) (w:World) (h:Wt B b s w) (F:s.l.length+x.size≤140737488355328) (I0:B≤w.heap.size):
    Calls prog 232 #[.pointer (some ⟨b,0,none⟩),.string x] w fun e w'=>e= .returned (.tuple #[.int .i64 x.size,.nilIface])∧d9 B b (.pointer (some ⟨b,0,none⟩)) {s with l:=s.l++x.data.toList} w'∧bR B b w w':=by
 obtain⟨aZ,hi,P,Q,S⟩:=info_parts (show(prog.info? 5).map (fun i=>(i.zero,i.size,i.bytes))=some (some (.int .u8 0),1,1) by kernel_rfl)
 have J:=xg B b s w h;obtain⟨l,m,f⟩:=s
 go_enter func232,ntmps232
 go_wp2_with fail;refine J.mono ?_
 rintro e T ⟨rfl,Z,H,K⟩;obtain⟨V,v,E,y,N⟩:=Z
 have c0:T.cell? ⟨b,0,none⟩=some (.pointer (some ⟨b,0,none⟩)):=by rw[Lib.cell_of_heap E];rfl
 have c1:T.cell? ⟨b,1,none⟩=some v:=by rw[Lib.cell_of_heap E];rfl
 go_wp2_with (at_builtin;refine Lib.wpList_append_own_string _ rfl _ _ 186 9 rfl B 5 aZ underlying186 underlying9 hi P Q S _ _ _ rfl y x rfl ?c3 ?c4 ?c5 ?_)
 case c3=>unfold maxLen;have:l.length+x.size≤140737488355328:=F;omega
 case c4=>have:l.length+x.size≤140737488355328:=F;omega
 case c5=>have:=H.size;omega
 intro v' I z d _;have M:b<T.heap.size:=cM E
 have A:I.heap[b]?=some (.cells #[.pointer (some ⟨b,0,none⟩),v,.bool m,.bool f] 268 (0,0)):=by
  rw[d.block b M (fun e=>N e.symm)];exact E
 have d0:I.cell? ⟨b,0,none⟩=some (.pointer (some ⟨b,0,none⟩)):=by rw[Lib.cell_of_heap A];rfl
 have d1:I.cell? ⟨b,1,none⟩=some v:=by rw[Lib.cell_of_heap A];rfl
 have f1:I.frozen? ⟨b,1,none⟩=false:=Lib.frozen_of_heap A 1;have Y:Lib.byteCells l++Lib.strCells x=Lib.byteCells (l++x.data.toList):=by simp[Lib.byteCells,Lib.strCells]
 obtain⟨U,X,G,rfl⟩: ∃U X G,v'= .slice U X G:=by
  rcases z.2 with⟨O,_⟩|⟨g,G,cur,O,_⟩
  · exact⟨_,_,_,O⟩
  · exact⟨_,_,_,O⟩
 go_wp2;go_ret2;refine⟨rfl,?_,?_,(K.grown d (Lib.ownsRow_kind y)).setCell ⟨b,1,none⟩ rfl _⟩
 · exact d9.put V A (by rw[←Y];simpa[Lib.strCells_length]using z)
 · exact(H.grown d (by have:=H.size;omega) (fun k hk=>(y.lt k hk).1)).setCell (p:=⟨b,1,none⟩) V _
theorem Dz (B b:Nat) (s:Ws) (w:World) (h:Wt B b s w) (A:s.l≠[]):
    Calls prog 237 #[.pointer (some ⟨b,0,none⟩)] w fun e w'=>e= .returned (.string ⟨s.l.toArray⟩)∧Below B w w':=by
 obtain⟨p,V,v,z,y,P⟩:=h.at
 obtain⟨l,m,f⟩:=s
 simp only at z y A⊢;have H:l.length≠0:=by simpa using A
 obtain⟨g,d,cur,rfl,E,N,O,F,M,I⟩: ∃g d cur,v= .slice (some ⟨g,0,none⟩) l.length d∧B≤g∧w.heap[g]?=some (.cells cur 5 (0,0))∧l.length≤d∧d≤maxLen∧cur.size=d*1∧cur.toList.take (l.length*1)=Lib.byteCells l:=by
  rcases y.2 with⟨_,T⟩|⟨g,d,cur,Q,r⟩
  · exact absurd T H
  · exact⟨g,d,cur,Q,r⟩
 have U:w.drew.cell? ⟨b,1,none⟩=some (.slice (some ⟨g,0,none⟩) l.length d):=by
  have:w.drew.heap[b]?=some (.cells #[p,.slice (some ⟨g,0,none⟩) l.length d,.bool m,.bool f] 268 (0,0)):=z
  rw[Lib.cell_of_heap this];rfl
 have J:(Builtin.unsafeSliceData_ #[186] 330 #[.slice (some ⟨g,0,none⟩) l.length d]).run prog w.drew= .ok (.pointer (some ⟨g,0,none⟩)) w.drew:=
  Lib.run_unsafeSliceData_row _ _ _ _ _ _ (by omega)
 have K:(Builtin.unsafeString_ #[330,3] 9 #[.pointer (some ⟨g,0,none⟩),.int .i64 l.length]).run prog w.drew= .ok (.string ⟨l.toArray⟩) (w.drew.freeze ⟨g,0,none⟩ l.length):=by
  refine Lib.run_unsafeString_row w.drew 330 3 9 5 underlying330 (by kernel_rfl) g cur.size (by have G:w.drew.heap[g]?=some (.cells cur 5 (0,0)):=N;simp[World.shape?,G]) l A (by omega) (by unfold maxLen at F;omega) ?_
  intro j x S;have:=y.cells (g:=g) rfl j (.int .u8 x.toNat) (by simp[Lib.byteCells,S])
  exact this
 go_enter func237,ntmps237
 go_wp2;go_region
 all_goals (go_wp2;go_ret;exact⟨rfl,Lib.below_freeze (Below.drew (Below.refl B w)) (p:=⟨g,0,none⟩) E _⟩)
def eA (W : World) : Prop := Lib.TabIs prog W "internal/strconv.uint64pow10" .u64 Lib.pow10Tab
theorem Tryz.powAt : prog.globalNamed "internal/strconv.uint64pow10" = some 3 := by kernel_rfl
theorem eA.belowB {B:Nat} {W d:World} (h:eA W) (f:3<B) (hb:Below B W d):eA d:=by
 unfold eA Lib.TabIs World.var? at h⊢;rw[Tryz.powAt]at h⊢;simp only[Option.bind_some]at h⊢;rw[hb.block 3 f];exact h
theorem below_drewN (W:World) (B k:Nat):Below B W (W.drewN k):=⟨rfl,rfl,rfl,Nat.le_refl _,fun _ _=>rfl⟩
theorem nK {n:Int} (h:dz n) (W:World) (y:eA W):Calls prog 179 #[.int .i64 n] W fun e w'=>e= .returned (.string ⟨(Lib.itoa n).toArray⟩)∧Below W.heap.size W w':=by
 refine(Tryz.strconv_Itoa n h.1 h.2 W y).mono ?_
 rintro e w' ⟨rfl,k,os,rfl⟩;have d:=below_drewN W W.heap.size k
 exact⟨rfl,d.os,d.tape,d.output,by show _≤(_++os).size;rw[Array.size_append];have:=d.size;omega,fun j f=>by
  show((W.drewN k).heap++os)[j]?=_
  rw[Array.getElem?_append_left (Nat.lt_of_lt_of_le f d.size)];exact d.block j f⟩
theorem oU (n:Int) (w:World):Calls prog 180 #[.int .i64 n] w fun e w'=>e= .returned (.bool (eW n))∧w'=w:=by
 by_cases d: -1099511627776≤n
 · by_cases f:n≤1099511627776
   · go_enter func180,ntmps180
     go_wp2;go_ret;exact⟨by simp[eW,d,f],rfl⟩
   · go_enter func180,ntmps180
     go_wp2;go_ret;exact⟨by simp[eW,d,f],rfl⟩
 · go_enter func180,ntmps180
   go_wp2;go_ret;exact⟨by simp[eW];intro h;omega,rfl⟩
theorem nL (B b:Nat) (s:Ws) (n:Int) (w:World) (h:Wt B b s w) (hn:dz n) (K:s.l.length≤1000000000) (h3:3<B) (Y:eA w):
    Calls prog 199 #[.pointer (some ⟨b,0,none⟩),.int .i64 n] w fun e w'=>e= .returned (.tuple #[])∧Wt B b (Wr.num s n) w'∧bR B b w w':=by
 have I7:b<w.heap.size:=by obtain⟨p,H⟩:=h.at;exact H.lt
 have hB:B≤b:=by obtain⟨p,H,_⟩:=h.at;exact H
 have S:B≤w.heap.size:=by omega
 have I6:=oR hn;have V:(⟨(Lib.itoa n).toArray⟩:ByteArray).size=(Lib.itoa n).length:=by simp[ByteArray.size]
 cases X:eW n with
 |true=>
  have T:=oU n w;rw[X]at T;have aE:(⟨(s.l++Lib.itoa n)++[59],s.mn,s.fr⟩:Ws)=Wr.num s n:=by simp[Wr.num,X]
  have Q:Wt B b s w:=h;have y:bR B b w w:=bR.refl _ _ _;have O:s.l.length≤1000000000:=K;clear h;have Z:=hid aE;clear aE;go_enter func199,ntmps199
  go_wp2_with fail;refine T.mono ?_
  rintro e w1 ⟨rfl,F⟩;rw[F];clear F;go_wp2_with fail;have f:B≤w.heap.size:=Nat.le_trans S y.1.size;have U:b<w.heap.size:=by obtain⟨p,H⟩:=Q.at;exact H.lt
  have z:Below w.heap.size w w.drew:=(Below.refl _ _).drew;have P:eA w.drew:=Y.belowB h3 (y.1.drew);clear Y
  go_region_with (first
   |(go_at_call 179;refine(nK hn _ P).mono ?_;rintro e w3 ⟨rfl,d⟩)
   |(go_at_call 232;refine(rT B b s ⟨(Lib.itoa n).toArray⟩ w3 ((Q.below z).below d) (by rw[V];omega) (Nat.le_trans f d.size)).mono ?_;rintro e w4 ⟨rfl,h4,A⟩))
  all_goals
   go_wp2_with fail;refine(xh B b _ 59 _ (Or.inr h4) (by show(s.l++(Lib.itoa n)).length+1≤_;rw[List.length_append];omega) (Nat.le_trans f (Nat.le_trans d.size A.1.size))).mono ?_
   rintro e w5 ⟨rfl,h5,N⟩;go_wp2_with fail;go_end0
   refine⟨rfl,Or.inr ?_,y.trans ((kV (ag z d) f).trans (A.trans N))⟩
   rw[←Z.out];exact h5
 |false=>
  have T:=oU n w;rw[X]at T;obtain⟨p,H⟩:=h.at
  obtain⟨J,E⟩: ∃J:Ws,J={s with fr:=true}:=⟨_,rfl⟩
  obtain⟨G,I⟩: ∃G,G=w.setCell ⟨b,3,none⟩ (.bool true):=⟨_,rfl⟩
  have I0:=hid I;have I5:=hid E;have aE:(⟨(J.l++Lib.itoa n)++[59],J.mn,J.fr⟩:Ws)=Wr.num s n:=by rw[E];simp[Wr.num,X]
  have Q:Wt B b J G:=by rw[E,I];exact h.elim (fun h=>Or.inl h.far) (fun h=>Or.inr h.far)
  have y:bR B b w G:=by rw[I];exact rS (bR.refl _ _ _) hB _ _
  have O:J.l.length≤1000000000:=by rw[E];exact K
  obtain⟨_,v,M,_,_⟩:=H
  have c3:w.cell? ⟨b,3,none⟩=some (.bool s.fr):=by rw[Lib.cell_of_heap M];rfl
  have f3:w.frozen? ⟨b,3,none⟩=false:=Lib.frozen_of_heap M 3;clear h M I E;have Z:=hid aE;clear aE;go_enter func199,ntmps199
  go_wp2_with fail;refine T.mono ?_
  rintro e w1 ⟨rfl,F⟩;rw[F];clear F;go_wp2_with fail;rw[←I0.out];clear c3 f3;have f:B≤G.heap.size:=Nat.le_trans S y.1.size;have U:b<G.heap.size:=by obtain⟨p,H⟩:=Q.at;exact H.lt
  have z:Below G.heap.size G G.drew:=(Below.refl _ _).drew;have P:eA G.drew:=Y.belowB h3 (y.1.drew);clear Y
  go_region_with (first
   |(go_at_call 179;refine(nK hn _ P).mono ?_;rintro e w3 ⟨rfl,d⟩)
   |(go_at_call 232;refine(rT B b J ⟨(Lib.itoa n).toArray⟩ w3 ((Q.below z).below d) (by rw[V];omega) (Nat.le_trans f d.size)).mono ?_;rintro e w4 ⟨rfl,h4,A⟩))
  all_goals
   go_wp2_with fail;refine(xh B b _ 59 _ (Or.inr h4) (by show(J.l++(Lib.itoa n)).length+1≤_;rw[List.length_append];omega) (Nat.le_trans f (Nat.le_trans d.size A.1.size))).mono ?_
   rintro e w5 ⟨rfl,h5,N⟩;go_wp2_with fail;go_end0
   refine⟨rfl,Or.inr ?_,y.trans ((kV (ag z d) f).trans (A.trans N))⟩
   rw[←Z.out];exact h5
theorem Wt.B {B b:Nat} {s:Ws} {w:World} (h:Wt B b s w):B≤b:=by obtain⟨p,d,_⟩:=h.at;exact d
theorem Wt.lt {B b:Nat} {s:Ws} {w:World} (h:Wt B b s w):b<w.heap.size:=by obtain⟨p,d⟩:=h.at;exact d.lt
theorem Wr.num_len {s:Ws} {n:Int} (h:dz n):(Wr.num s n).l.length≤s.l.length+21:=by
 have:=oR h
 simp only[Wr.num,List.length_append,List.length_cons,List.length_nil];omega
theorem Wr.txt_len {s:Ws} {x:ByteArray}:(iy s x).l.length≤s.l.length+1021:=by
 unfold iy;split
 · simp[fY]
 · rename_i h
   have d:(Wr.num s x.size).l.length≤s.l.length+21:=Wr.num_len ⟨by omega,by omega⟩;have f:x.data.toList.length=x.size:=by rw[Array.length_toList];rfl
   simp only[List.length_append];omega
theorem Wr.put_len {s:Ws} {x:aN} (h:x.wf):(Wr.put s x).l.length≤s.l.length+1021:=by
 cases x with
 |n i=>have:=Wr.num_len (s:=s) h;show(Wr.num s i).l.length≤_;omega
 |t x=>exact Wr.txt_len
 |big=>show s.l.length≤_;omega
theorem Wr.run_len: ∀(l:List aN) (s:Ws),(∀x∈l,x.wf)→(Wr.run s l).l.length≤s.l.length+1021*l.length
 |[],s,_=>by simp[Wr.run]
 |x::l,s,h=>by
  have f:=Wr.put_len (s:=s) (h x (by simp));have z:=Wr.run_len l (Wr.put s x) (fun y d=>h y (by simp[d]));rw[rP,List.length_cons];omega
theorem xi (B b:Nat) (s:Ws) (n m:Int) (w:World) (h:Wt B b s w) (J:dz n) (y:s.l.length≤1000000000) (G:3<B) (K:eA w):
    Calls prog 282 #[.pointer (some ⟨b,0,none⟩),.int .i64 n,.int .i64 m] w fun e w'=>e= .returned (.bool (decide (n≤m)))∧Wt B b (if n≤m then Wr.num s n else fY s) w'∧bR B b w w':=by
 by_cases z:n≤m
 · rw[if_pos z]
   have I:=nL B b s n w h J y G K;have f: ¬n>m:=by omega
   go_enter func282,ntmps282
   go_wp2_with fail;refine I.mono ?_
   rintro e O ⟨rfl,E,A⟩;go_wp2_with fail;go_ret;exact⟨by simp[z],E,A⟩
 · rw[if_neg z]
   have H:=h.B;have F:Wt B b (fY s) (w.setCell ⟨b,2,none⟩ (.bool true)):=h.elim (fun h=>Or.inl h.many) (fun h=>Or.inr h.many);obtain⟨p,_,v,d,_,_⟩:=h.at
   have M:w.cell? ⟨b,2,none⟩=some (.bool s.mn):=by rw[Lib.cell_of_heap d];rfl
   have N:w.frozen? ⟨b,2,none⟩=false:=Lib.frozen_of_heap d 2;have f:m<n:=by omega
   clear d;go_enter func282,ntmps282
   go_wp2_with fail;go_ret;exact⟨by simp[f],F,rS (bR.refl _ _ _) H _ _⟩
theorem eA.fr {B b:Nat} {W d:World} (h:eA W) (f:3<B) (hb:bR B b W d):eA d:=h.belowB f hb.1
theorem DA (B b:Nat) (s:Ws) (x:ByteArray) (w:World) (h:Wt B b s w) (f:s.l.length≤1000000000) (I:3<B) (K:eA w) (F:(x.size:Int)≤9223372036854775807):
    Calls prog 234 #[.pointer (some ⟨b,0,none⟩),.string x] w fun e w'=>e= .returned (.tuple #[])∧Wt B b (iy s x) w'∧bR B b w w':=by
 have M:=h.B;have J:=h.lt;have y:=xi B b s x.size 1000 w h ⟨by omega,F⟩ f I K;by_cases z:(x.size:Int)≤1000
 · rw[if_pos z,decide_eq_true z]at y
   have N:=Wr.num_len (s:=s) (n:=x.size) ⟨by omega,F⟩;go_enter func234,ntmps234
   go_wp2_with fail;refine y.mono ?_
   rintro e G ⟨rfl,A,d⟩;go_wp2_with fail;refine(rT B b _ x G A (by omega) (by have:=d.1.size;omega)).mono ?_
   rintro e O ⟨rfl,H,E⟩;go_wp2_with fail;go_end0
   exact⟨rfl,Or.inr (by rw[iy,if_neg (by omega)];exact H),d.trans E⟩
 · rw[if_neg z,decide_eq_false z]at y
   go_enter func234,ntmps234
   go_wp2_with fail;refine y.mono ?_
   rintro e G ⟨rfl,A,d⟩;go_wp2_with fail;go_end0
   exact⟨rfl,by rw[iy,if_pos (by omega)];exact A,d⟩
def nM (w:World) (v:Value) (N:List ByteArray):Prop:= ∃a cap,v= .slice a N.length cap∧N.length≤cap∧N.length≤1000000∧ ∀i (h:i<N.length),∃b o,a=some ⟨b,o,none⟩∧b<w.heap.size∧w.cell? ⟨b,o+i,none⟩=some (.string N[i])
theorem nM.below {w w':World} {v:Value} {N:List ByteArray} (h:nM w v N) (f:Below w.heap.size w w'):nM w' v N:=by
 obtain⟨a,d,H,y,z,A⟩:=h
 refine⟨a,d,H,y,z,fun i G=>?_⟩
 obtain⟨b,o,E,hb,F⟩:=A i G
 exact⟨b,o,E,Nat.lt_of_lt_of_le hb f.size,(f.cell (p:=⟨b,o+i,none⟩) hb).trans F⟩
def fm (N:List ByteArray):List Value:=N.map Value.string
theorem DB (N:List ByteArray) (x:ByteArray):fm N++[.string x]=fm (N++[x]):=by simp[fm]
theorem DC {w:World} {base:Nat} {v:Value} {N:List ByteArray} (h:w.ownsRow base 9 1 v N.length (fm N)) (A:N.length≤1000000):nM w v N:=by
 have G:=h;obtain⟨J,H⟩:=h
 rcases H with⟨rfl,F⟩|⟨g,d,cur,rfl,I,E,y,K,F,z⟩
 · exact⟨none,0,by rw[F],by omega,A,fun i h=>absurd h (by omega)⟩
 · have f:g<w.heap.size:=by
    rcases Nat.lt_or_ge g w.heap.size with h|h
    · exact h
    · rw[Array.getElem?_eq_none h]at E;cases E
   refine⟨some ⟨g,0,none⟩,d,rfl,y,A,fun i h=>⟨g,0,rfl,f,?_⟩⟩
   rw[Nat.zero_add,G.cellAt i (by omega)];simp[fm,h]
theorem Tryz.infoS9:(prog.info? 9).map (fun i=>(i.zero,i.size,i.bytes))=some (some (.string ⟨#[]⟩),1,16):=by kernel_rfl
def eb (G:List Gr) (f:ByteArray):List ByteArray:=(G.filter (kT f)).map Gr.wh
theorem DD (G:List Gr) (v:Value) (f:ByteArray) (w:World) (hv:cD w v G) (hn:G.length≤1000):
    Calls prog 33 #[v,.string f] w fun e w'=> ∃u,e= .returned u∧nM w' u (eb G f)∧Below w.heap.size w w':=by
 obtain⟨aZ,Q,S,T,U⟩:=info_parts Tryz.infoS9
 obtain⟨a,I0,rfl,V,P,K⟩:=hv
 have HL:Hid (∀i (h:i<G.length),∃b o,a=some ⟨b,o,none⟩∧b<w.heap.size∧fS w b (o+i*3) G[i]):=K;clear K;go_enter func33,ntmps33
 go_wp2_with fail;go_loopw [5,6] (fun u i wr=> ∃k:Nat,k≤G.length∧i= .int .i64 k∧wr.ownsRow w.heap.size 9 1 u (eb (G.take k) f).length (fm (eb (G.take k) f))∧Below w.heap.size w wr) (fun _ i _=>G.length-(intOf i).toNat)
 case atStart=>exact⟨0,Nat.zero_le _,rfl,World.ownsRow_nil _ _ _ _,Below.refl _ _⟩
 case round=>
  obtain⟨k,hk,rfl,y,d⟩:=hrel
  by_cases F:k<G.length
  · obtain⟨b,o,rfl,hb,he⟩:=HL.out k F
    obtain⟨c0,c1,c2⟩:=he.below hb d
    have I5:(eb (G.take k) f).length≤1000:=by
     rw[eb,List.length_map];exact Nat.le_trans (List.length_filter_le _ _) (by rw[List.length_take];omega)
    cases J:kT f G[k]with
    |true=>
     have h1:((G[k]).fo.toList==f.toList)=true:=J;have N:=hid (show eb (G.take (k+1)) f=eb (G.take k) f++[(G[k]).wh]from by rw[eb,Dn F J,List.map_append];rfl);clear J;generalize eb (G.take k) f=X at*;go_wp2_with (at_builtin;refine wpList_append_own _ rfl _ _ 96 rfl w.heap.size 9 aZ (.string ⟨#[]⟩) 1 16 underlying96 Q S T U rfl (by decide) _ _ _ rfl (y.alloc _) ⟨wr.heap.size,0,none⟩ 1 1 [.string (G[k]).wh] rfl rfl (by intro j u I;match j,I with|0,I=>simp at I;subst I;simp[Addr.add]|j+1,I=>simp at I) (by intro u Y;simp at Y;subst Y;rfl) (by unfold maxLen;omega) (by omega) (by have:=d.size;simp at this⊢;omega) ?_)
     intro v2 Z H A M;have E:Below w.heap.size w Z:=(d.alloc d.size _).grown A (by have:=d.size;simp at this⊢;omega) (fun g hg=>(y.lt g hg).1);rw[DB]at H;have z:Z.ownsRow w.heap.size 9 1 v2 (X++[(G[k]).wh]).length (fm (X++[(G[k]).wh])):=by rw[List.length_append];exact H
     have HO:=ak z;clear H A M z y d c0 c1 c2;go_wp2_with fail;go_roundw
     case rel=>exact⟨k+1,by omega,by simp,by rw[N.out];exact HO.out,E⟩
     case measure=>simp[intOf];omega
    |false=>
     have h1:((G[k]).fo.toList==f.toList)=false:=J;have N:=hid (show eb (G.take (k+1)) f=eb (G.take k) f from by rw[eb,Do F J];rfl);clear J;go_wp2_with fail;go_roundw
     case rel=>exact⟨k+1,by omega,by simp,by rw[N.out];exact y,d⟩
     case measure=>simp[intOf];omega
  · have e:G.take k=G:=List.take_of_length_le (by omega)
    rw[e]at y
    have O:=ak (DC y (by
     rw[eb,List.length_map];exact Nat.le_trans (List.length_filter_le _ _) (by omega)))
    go_wp2_with fail;go_ret;exact⟨_,rfl,O.out,d⟩
theorem DE {G:List Gr} {f:ByteArray} (h:G.any (kT f)=true):0<(eb G f).length:=by
 rw[eb,List.length_map,List.length_filter_pos_iff];simpa using h
theorem DF {G:List Gr} {f:ByteArray} (h:G.any (kT f)=false):(eb G f).length=0:=by
 rw[eb,List.length_map]
 have:G.filter (kT f)=[]:=by
  rw[List.filter_eq_nil_iff];intro y d;exact List.any_eq_false.1 h y d
 rw[this];rfl
def aR:Cn:=ie ⟨#[97]⟩ ⟨#[102]⟩
def Cy.b1:Cn:=⟨⟨#[97]⟩,⟨#[102]⟩,[],0,[⟨⟨#[120]⟩,false,⟨#[49]⟩,1⟩],⟨#[]⟩,[],0⟩
def Cy.b2:Cn:=⟨⟨#[97]⟩,⟨#[102]⟩,[],0,[⟨⟨#[120]⟩,false,⟨#[49]⟩,1⟩],⟨#[97,45,49]⟩,[⟨2,⟨#[120]⟩,⟨#[]⟩,⟨#[49]⟩,0⟩],1⟩
theorem mv:bo aR=0:=by decide
theorem rU:iO aR:=uP (by decide) (by decide)
theorem Sp.sameB_iff {A B:List En} (h:fT A B=0):Sp.sameB A B=true↔nD A B:=by
 have d:aH A=0∧aH B=0:=by
  by_cases f:aH A=0
  · rw[fT,if_pos f]at h;exact⟨f,h⟩
  · rw[fT,if_neg f]at h;exact absurd h f
 rw[←Cm ((fP A).1 d.1) ((fP B).1 d.2),Sp.sameB,ig,if_pos h,h];simp
theorem BkG.mem {H:Type} {d:DataW H}: ∀{l:List (DataW H)},d∈l→Rows.uptoBulk d≤Rows.uptoBulkAll l
 |[],h=>by cases h
 |x::r,h=>by
  rw[Rows.uptoBulkAll];rcases List.mem_cons.1 h with rfl|h
  · omega
  · have:=BkG.mem h;omega
theorem BkG.len {H:Type}: ∀{l:List (DataW H)},(∀d∈l,1≤Rows.uptoBulk d)→l.length≤Rows.uptoBulkAll l
 |[],_=>Nat.zero_le _
 |x::r,h=>by
  rw[Rows.uptoBulkAll,List.length_cons];have y:=h x (by simp);have z:=BkG.len (l:=r) fun d f=>h d (by simp[f])
  omega
theorem Tryz.cellsG:prog.cellsOf 95=3:=by kernel_rfl
theorem Tryz.cellsG9:prog.cellsOf 9=1:=by kernel_rfl
theorem Tryz.cellsG3:prog.cellsOf 3=1:=by kernel_rfl
def oV {H:Type} (e:Gr):DataW H:= .agg [.lit (.string e.fo.data.toList),.lit (.string e.wh.data.toList),.lit (.int .i64 e.ri)]
theorem xj {d:Type} {l:List d} (h:l.length=3): ∃a b c,l=[a,b,c]:=by
 rcases l with _|⟨a,_|⟨b,_|⟨c,_|⟨f,r⟩⟩⟩⟩
 all_goals first|exact⟨a,b,c,rfl⟩|(simp at h)
theorem DG {W:World} {a:Addr} {v:Value} (k:W.cell? a=some v):a.spot=none:=by
 unfold World.cell? at k;cases d:a.spot with
 |none=>rfl
 |some z=>rw[d]at k;simp at k;split at k<;>cases k
theorem DH {H:Type} {enc:TypeId×Value→H} {P:Program} {w:World} {base:Nat} {d:Nat→Bool} {f:Bool} {t:TypeId} {y z A:Field} {fuel:Nat} {cs:List Value} {x:DataW H×List MemPlace} (K:P.underlying t=some (.struct #[y,z,A])) (h:DataW.trod enc P w base d f fuel t cs=some x):
    ∃F G al n,x=(.agg [F.1,G.1,al.1],F.2++(G.2++al.2))∧cs.length=P.cellsOf t∧DataW.trod enc P w base d f n y.type ((cs.drop y.offset).take (P.cellsOf y.type))=some F∧
     DataW.trod enc P w base d f n z.type ((cs.drop z.offset).take (P.cellsOf z.type))=some G∧DataW.trod enc P w base d f n A.type ((cs.drop A.offset).take (P.cellsOf A.type))=some al:=by
 obtain⟨xs,n,_,rfl,J,E,I⟩:=DataW.trod_struct K h
 match xs,E with
 |[F,G,al],_=>exact⟨F,G,al,n,by simp,J,by simpa using I 0 y rfl,by simpa using I 1 z rfl,by simpa using I 2 A rfl⟩
theorem DI {H:Type} {enc:TypeId×Value→H} {W:World} {n i:Nat} {a:Addr} {x:DataW H} {pl:List MemPlace} {y:List Value} (ha:a.spot=none)
    (P:W.cells? 0 (a.add (i*prog.cellsOf 95)) (prog.cellsOf 95)=some y) (h2:DataW.trod enc prog W 0 (fun _=>true) true n 95 y=some (x,pl)):
    ∃e:Gr,x=oV e∧a.spot=none∧fS W a.block (a.off+i*3) e:=by
 rw[Tryz.cellsG]at P;obtain⟨_,z,F⟩:=World.cells?_some P
 obtain⟨y0,y1,al,G,A,_,bV,t1,t2⟩:=DH underlying95 h2
 obtain⟨M,N,O,rfl⟩:=xj z
 have I:DataW.trod enc prog W 0 (fun _=>true) true G 9 [M]=some y0:=by simpa[Tryz.cellsG9]using bV
 have J:DataW.trod enc prog W 0 (fun _=>true) true G 9 [N]=some y1:=by simpa[Tryz.cellsG9]using t1
 have K:DataW.trod enc prog W 0 (fun _=>true) true G 3 [O]=some al:=by simpa[Tryz.cellsG3]using t2
 obtain⟨U,aL,Z,_⟩:=DataW.trod_string underlying9 I
 obtain⟨V,Y,g1,_⟩:=DataW.trod_string underlying9 J
 obtain⟨X,aE,g2,_⟩:=DataW.trod_int underlying3 K
 obtain rfl:M= .string U:=by simpa using aL
 obtain rfl:N= .string V:=by simpa using Y
 obtain rfl:O= .int .i64 X:=by simpa using aE
 subst Z;subst g1;subst g2;simp only[Prod.mk.injEq]at A;have Q:=F 0 (by omega);have S:=F 1 (by omega);have T:=F 2 (by omega);obtain⟨ab,ao,E⟩:=a
 obtain rfl:E=none:=ha;refine⟨⟨U,V,X⟩,A.1,rfl,?_,?_,?_⟩
 · by_cases d:i=0
   · subst d;simpa[Addr.add]using Q
   · have f:i*3≠0:=by omega
     simpa[Addr.add,f]using Q
 · by_cases d:i=0
   · subst d;simpa[Addr.add]using S
   · have f:i*3≠0:=by omega
     simpa[Addr.add,f,Nat.add_assoc]using S
 · by_cases d:i=0
   · subst d;simpa[Addr.add]using T
   · have f:i*3≠0:=by omega
     simpa[Addr.add,f,Nat.add_assoc]using T
theorem Tryz.bytesG:prog.bytesOf 95=40:=by kernel_rfl
theorem xk {H:Type} {P:Program} {e:TypeId}: ∀{l:List (DataW H)} {d:DataW H},d∈l→ ∀n∈d.weights P e,n∈DataW.weightsAll P e l
 |[],_,h=>by cases h
 |x::r,d,h=>by
  intro n f;rw[DataW.weightsAll];rcases List.mem_cons.1 h with rfl|h
  · exact List.mem_append_left _ f
  · exact List.mem_append_right _ (xk h n f)
theorem DJ {H:Type} {enc:TypeId×Value→H} {W:World} {v:Value} {d:DataW H} {p:List MemPlace} {fuel:Nat} (hf:DataW.trod enc prog W 0 (fun _=>true) true fuel 23 [v]=some (d,p)) (hk: ∀n∈d.weights prog 23,n≤reachBytes):
    ∃L:List Gr,cD W v L∧jY L:=by
 haveI:Inhabited Gr:=⟨⟨⟨#[]⟩,⟨#[]⟩,0⟩⟩
 rcases Go.Deep.open_slice underlying23 hf with⟨z,Z⟩|⟨a,len,F,m,n,D,Pl,z,hb,hl,hm,N,Z,J⟩
 · obtain rfl:v= .slice none 0 0:=by simpa using z
   exact⟨[],on _,fun e T=>by cases T⟩
 obtain rfl:v= .slice (some a) len F:=by simpa using z
 have X:m=F:=N.trans (if_pos rfl);clear N;have hd:=(Prod.mk.inj Z).1;clear Z;subst X
 have Y:0<len→a.spot=none:=fun h=>by
  obtain⟨Q,f,_⟩:=J 0 (by omega)
  rw[Tryz.cellsG]at f;obtain⟨_,M,hc⟩:=World.cells?_some f
  obtain⟨c0,c1,c2,rfl⟩:=xj M
  have k0:=hc 0 (by omega);exact DG (v:=c0) (by simpa[Addr.add]using k0)
 have G: ∀i,i<len→ ∃e:Gr,D i=oV e∧a.spot=none∧fS W a.block (a.off+i*3) e:=fun i A=>by
  obtain⟨Q,f,S⟩:=J i (by omega)
  exact DI (Y (by omega)) f S
 obtain⟨E,ae⟩:=Go.Deep.choose_lt G
 obtain⟨P,I⟩: ∃P,d= .slice ((List.range len).map D) P:=⟨_,hd⟩
 have y:(len+P.length)*40≤reachBytes:=by
  have:=hk ((len+P.length)*40) (by
   rw[I,DataW.weights];simp only[underlying23,Tryz.bytesG,List.length_map,List.length_range];exact List.mem_cons_self ..)
  exact this
 have K: ∀i,i<len→ ∀n∈(D i).weights prog 95,n≤reachBytes:=fun i A n hn=>hk n (by
  rw[I,DataW.weights];simp only[underlying23];refine List.mem_cons_of_mem _ (List.mem_append_left _ (xk (List.mem_map.2 ⟨i,List.mem_range.2 A,rfl⟩) n hn)))
 have O:reachBytes=140737488351232:=by decide
 refine⟨(List.range len).map E,⟨some a,_,by simp;rfl,by simpa using hl,?_,fun i A=>?_⟩,fun e T=>?_⟩
 · rw[O]at y
   simp only[List.length_map,List.length_range];omega
 · have U:i<len:=by simpa using A
   obtain⟨f,S,h3⟩:=ae i U
   have V:a.block<W.heap.size:=by
    have k:=h3.1;rcases Nat.lt_or_ge a.block W.heap.size with h|h
    · exact h
    · unfold World.cell? at k;rw[Array.getElem?_eq_none h]at k;cases k
   refine⟨a.block,a.off,?_,V,by simpa using h3⟩
   rw[←S]
 · obtain⟨i,A,rfl⟩:=List.mem_map.1 T
   have f:=K i (List.mem_range.1 A);rw[(ae i (List.mem_range.1 A)).1]at f
   have hw:DataW.weights prog 95 (oV (H:=H) (E i))=[(E i).fo.data.toList.length,(E i).wh.data.toList.length]:=by
    rw[oV,DataW.weights];simp only[underlying95];simp[DataW.weightsEach,DataW.weights]
   rw[hw,O]at f;rw[Lib.size_eq,Lib.size_eq];have a1:=f _ (List.mem_cons_self ..);have a2:=f _ (List.mem_cons_of_mem _ (List.mem_cons_self ..));exact⟨by omega,by omega⟩
end Go.Proofs.YtcmlnelpcjfocaaGreatDoor
