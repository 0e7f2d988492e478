/- Boxes of some cells in memory, and what is stored in them; what lies elsewhere stays. -/
import Derived.Test.YtgamnckfmmbjdaaGreatDoorWGD
import Derived.Maps.OwnSet
import Derived.Shelf.SlSortCmp.WholeK
import Derived.Laws.OwnMore
set_option linter.unusedSimpArgs false
set_option linter.unusedVariables false
namespace Go.Proofs.YtgamnckfmmbjdaaGreatDoor
open Go.RowKit Go.Maps
def Cs (W:World) (b:Nat) (ag:List Value):Prop:= ∃T,W.heap[b]?=some (.cells ag.toArray T (0,0))
theorem Cs.lt {W:World} {b:Nat} {ag:List Value} (h:Cs W b ag):b<W.heap.size:=h.elim fun _ h=>cn h
theorem Cs.cell {W:World} {b:Nat} {ag:List Value} (h:Cs W b ag) (i:Nat) {v:Value} (a:ag[i]?=some v):W.cell? ⟨b,i,none⟩=some v:=by
 obtain⟨T,h⟩:=h
 simp[World.cell?,h,a]
theorem Cs.fr {W:World} {b:Nat} {ag:List Value} (h:Cs W b ag) (i:Nat):W.frozen? ⟨b,i,none⟩=false:=by
 obtain⟨T,h⟩:=h
 simp[World.frozen?,h]
theorem Cs.belowAt {W a:World} {b B:Nat} {ag:List Value} (h:Cs W b ag) (d:Below B W a) (hb:b<B):Cs a b ag:=by
 obtain⟨T,h⟩:=h
 exact⟨T,(d.block b hb).trans h⟩
theorem Cs.below {W a:World} {b:Nat} {ag:List Value} (h:Cs W b ag) (d:Below W.heap.size W a):Cs a b ag:=h.belowAt d h.lt
theorem Cs.nb {W d:World} {b g:Nat} {ag:List Value} (h:Cs W b ag) (j:W.grownBy d (some g)) (a:b≠g):Cs d b ag:=by
 have f:=h.lt;obtain⟨T,h⟩:=h
 exact⟨T,(j.block b f (fun e=>a (by injection e))).trans h⟩
theorem Cs.new (w:World) (ag:List Value) (T:TypeId):Cs (w.alloc (.cells ag.toArray T)) w.heap.size ag:=⟨T,by show(w.heap.push _)[w.heap.size]?=_;simp⟩
theorem Cs.set {W:World} {b:Nat} {ag:List Value} (h:Cs W b ag) (i:Nat) (u:Value):Cs (W.setCell ⟨b,i,none⟩ u) b (ag.set i u):=by
 obtain⟨T,h⟩:=h
 refine⟨T,?_⟩
 unfold World.setCell;simp only[Array.getElem?_modify,h,if_true,Option.map_some];simp
theorem au (W:World) (b o:Nat) (u:Value):W.grownBy (W.setCell ⟨b,o,none⟩ u) (some b):=
 ⟨rfl,rfl,rfl,by simp,fun k _ a=>Below.heap_setCell W _ u k (fun e=>a (by rw[e]))⟩
theorem Cs.other {W:World} {b a o:Nat} {ag:List Value} (h:Cs W b ag) (d:b≠a) (u:Value):Cs (W.setCell ⟨a,o,none⟩ u) b ag:=h.nb (au W a o u) d
def cy (W:World) (g:Nat):Prop:= ∀o s,W.cell? ⟨g,o,none⟩≠some (.string s)
theorem Cs.noStr {W:World} {b:Nat} {ag:List Value} (h:Cs W b ag) (d: ∀s,Value.string s∉ag):cy W b:=by
 obtain⟨T,h⟩:=h
 intro o s;simp only[World.cell?,h];intro a;have:ag[o]?=some (.string s):=by simpa using a
 exact d s (List.mem_of_getElem? this)
theorem mL {W:World} {P:Program} {k:TypeId} {R:Value→Option (DataW Unit×List MemPlace)} {b n:Nat} {D:DataW Unit} (h:W.ownsMap P k R b n D):cy W b:=by
 obtain⟨d,a,hb,_⟩:=h
 intro o s;simp[World.cell?,hb]
theorem cM.ne {W:World} {b o g:Nat} {e:En} (h:cM W b o e) (a:cy W g):b≠g:=fun hb=>a o e.path (hb▸h.1)
theorem eJ.ne {W:World} {b o g:Nat} {c:ar} (h:eJ W b o c) (a:cy W g):b≠g:=fun hb=>a (o+1) c.p (hb▸h.2.1)
theorem fw {W f:World} {g b:Nat} (j:W.grownBy f (some g)) (hb:b<W.heap.size) (d:b≠g) (o:Nat):f.cell? ⟨b,o,none⟩=W.cell? ⟨b,o,none⟩:=
 World.cell?_of_block (w:=W) (a:=⟨b,o,none⟩) (j.block b hb (fun e=>d (by injection e)))
theorem aj.nb {W f:World} {v:Value} {L:List En} {g:Nat} (h:aj W v L) (j:W.grownBy f (some g)) (F:cy W g):aj f v L:=by
 obtain⟨a,e,G,u,y,z⟩:=h
 refine⟨a,e,G,u,y,fun i E=>?_⟩
 obtain⟨b,o,A,hb,d⟩:=z i E
 have c:=fw j hb (d.ne F);exact⟨b,o,A,Nat.lt_of_lt_of_le hb j.size,(c _).trans d.1,(c _).trans d.2.1,(c _).trans d.2.2.1,(c _).trans d.2.2.2⟩
theorem bk.nb {W f:World} {v:Value} {L:List ar} {g:Nat} (h:bk W v L) (j:W.grownBy f (some g)) (F:cy W g):bk f v L:=by
 obtain⟨a,e,G,u,y,z⟩:=h
 refine⟨a,e,G,u,y,fun i E=>?_⟩
 obtain⟨b,o,A,hb,d⟩:=z i E
 have c:=fw j hb (d.ne F);exact⟨b,o,A,Nat.lt_of_lt_of_le hb j.size,(c _).trans d.1,(c _).trans d.2.1,(c _).trans d.2.2.1,(c _).trans d.2.2.2.1,(c _).trans d.2.2.2.2⟩
structure dc (w w':World) (b m:Nat):Prop where
 os:w'.os=w.os
 tape:w'.tape=w.tape
 output:w'.output=w.output
 size:w.heap.size≤w'.heap.size
 block: ∀k,k<w.heap.size→k≠b→k≠m→w'.heap[k]?=w.heap[k]?
theorem dc.of_below {w w':World} (b m:Nat) (h:Below w.heap.size w w'):dc w w' b m:=⟨h.os,h.tape,h.output,h.size,fun k a _ _=>h.block k a⟩
theorem dc.of_left {w w':World} {b:Nat} (m:Nat) (h:w.grownBy w' (some b)):dc w w' b m:=⟨h.os,h.tape,h.output,h.size,fun k a hb _=>h.block k a (fun e=>hb (by injection e))⟩
theorem dc.of_right {w w':World} {m:Nat} (b:Nat) (h:w.grownBy w' (some m)):dc w w' b m:=⟨h.os,h.tape,h.output,h.size,fun k a _ d=>h.block k a (fun e=>d (by injection e))⟩
theorem dc.trans {a c d:World} {b m:Nat} (h:dc a c b m) (k:dc c d b m):dc a d b m:=
 ⟨k.os.trans h.os,k.tape.trans h.tape,k.output.trans h.output,Nat.le_trans h.size k.size,fun q j e f=>(k.block q (Nat.lt_of_lt_of_le j h.size) e f).trans (h.block q j e f)⟩
theorem dc.to {w w':World} {b m B:Nat} (h:dc w w' b m) (e:B≤w.heap.size) (a:B≤b) (d:B≤m):Below B w w':=⟨h.os,h.tape,h.output,h.size,fun k f=>h.block k (by omega) (by omega) (by omega)⟩
theorem dc.cell {w w':World} {b m k:Nat} (h:dc w w' b m) (f:k<w.heap.size) (d:k≠b) (e:k≠m) (o:Nat):w'.cell? ⟨k,o,none⟩=w.cell? ⟨k,o,none⟩:=World.cell?_of_block (w:=w) (a:=⟨k,o,none⟩) (h.block k f d e)
theorem kU {B b:Nat} {a W:World} {d e f j o u y:Value} (h:Below B a W) (hb:B≤b):Below B a (((((((W.setCell ⟨b,0,none⟩ d).setCell ⟨b,1,none⟩ e).setCell ⟨b,2,none⟩ f).setCell ⟨b,3,none⟩ j).setCell ⟨b,4,none⟩ o).setCell ⟨b,5,none⟩ u).setCell ⟨b,6,none⟩ y):=(((((((h.setCell (p:=⟨b,0,none⟩) hb _).setCell (p:=⟨b,1,none⟩) hb _).setCell (p:=⟨b,2,none⟩) hb _).setCell (p:=⟨b,3,none⟩) hb _).setCell (p:=⟨b,4,none⟩) hb _).setCell (p:=⟨b,5,none⟩) hb _).setCell (p:=⟨b,6,none⟩) hb _)
theorem af {w a e:World} (d:Below w.heap.size w a) (f:Below a.heap.size a e):Below w.heap.size w e:=d.trans (f.mono d.size)
def aw (B:Nat) (w:World) (v:Value):Prop:= ∀g,v.ownBlock=some g→B≤g∧ ∃cur T,w.heap[g]?=some (.cells cur T (0,0))
theorem eX (B:Nat) (w:World):aw B w (.slice none 0 0):=fun g h=>by simp[Value.ownBlock]at h
theorem aw.lt {B:Nat} {w:World} {v:Value} (h:aw B w v): ∀g,v.ownBlock=some g→g<w.heap.size:=fun g a=>by
 obtain⟨_,cur,T,d⟩:=h g a
 exact cn d
theorem aw.below {B:Nat} {w w':World} {v:Value} (h:aw B w v) (f:Below w.heap.size w w'):aw B w' v:=fun g e=>by
 obtain⟨d,cur,T,a⟩:=h g e
 exact⟨d,cur,T,(f.block g (cn a)).trans a⟩
theorem aw.mono {B a:Nat} {w:World} {v:Value} (h:aw B w v) (e:a≤B):aw a w v:=fun g d=>⟨Nat.le_trans e (h g d).1,(h g d).2⟩
theorem fO {w:World} {base:Nat} {e:TypeId} {size:Nat} {v:Value} {n:Nat} {xs:List Value} (h:w.ownsRow base e size v n xs):aw base w v:=by
 obtain⟨_,f⟩:=h
 rcases f with⟨rfl,_⟩|⟨g,d,cur,rfl,j,o,_⟩
 · exact eX _ _
 · intro u a
   simp only[Value.ownBlock,Option.some.injEq]at a;subst a;exact⟨j,cur,e,o⟩
def fx (B:Nat) (w:World) (v:Value) (L:List En):Prop:=aj w v L∧aw B w v
theorem fx.mono {A B:Nat} {w:World} {v:Value} {L:List En} (h:fx B w v L) (a:A≤B):fx A w v L:=⟨h.1,h.2.mono a⟩
theorem iS (B:Nat) (w:World):fx B w (.slice none 0 0) []:=⟨⟨none,0,rfl,Nat.le_refl _,by simp,fun i a=>absurd a (by simp)⟩,eX _ _⟩
theorem uA {w:World} {base:Nat} {T:TypeId} {v:Value} {L:List En} (h:w.ownsRow base T 4 v L.length (bw L)) (a:L.length≤1000000000000000):fx base w v L:=⟨uj h a,fO h⟩
theorem ak {w f:World} {a b c d e:Value} {T:TypeId} (h:Below (w.alloc (.cells #[a,b,c,d,e] T)).heap.size (w.alloc (.cells #[a,b,c,d,e] T)) f):
    f.cell? ⟨w.heap.size,0,none⟩=some a∧f.cell? ⟨w.heap.size,1,none⟩=some b∧f.cell? ⟨w.heap.size,2,none⟩=some c∧f.cell? ⟨w.heap.size,3,none⟩=some d∧f.cell? ⟨w.heap.size,4,none⟩=some e∧Below w.heap.size w f∧w.heap.size<f.heap.size:=by
 have j:w.heap.size<(w.alloc (.cells #[a,b,c,d,e] T)).heap.size:=by simp
 refine⟨?_,?_,?_,?_,?_,((Below.refl _ _).alloc (Nat.le_refl _) _).trans (h.mono (Nat.le_of_lt j)),Nat.lt_of_lt_of_le j h.size⟩
 · exact(h.cell (p:=⟨w.heap.size,0,none⟩) j).trans (by simp)
 · exact(h.cell (p:=⟨w.heap.size,1,none⟩) j).trans (by simp)
 · exact(h.cell (p:=⟨w.heap.size,2,none⟩) j).trans (by simp)
 · exact(h.cell (p:=⟨w.heap.size,3,none⟩) j).trans (by simp)
 · exact(h.cell (p:=⟨w.heap.size,4,none⟩) j).trans (by simp)
theorem pJ {k:Int} (E:k=1∨k=4) (p q t:ByteArray) (b:Int) (A:al p.data.toList=0):
    (q.toList.isEmpty=false∧Hid (1=aC ⟨k,p,q,t,b⟩))∨(q.toList.isEmpty=true∧t.toList.isEmpty=false∧Hid (1=aC ⟨k,p,q,t,b⟩))∨
    (q.toList.isEmpty=true∧t.toList.isEmpty=true∧(t.size:Int)≤300∧b< -1∧Hid (3=aC ⟨k,p,q,t,b⟩))∨
    (q.toList.isEmpty=true∧t.toList.isEmpty=true∧(t.size:Int)≤300∧1000000<b∧Hid (3=aC ⟨k,p,q,t,b⟩))∨
    (q.toList.isEmpty=true∧t.toList.isEmpty=true∧(t.size:Int)≤300∧ -1≤b∧b≤1000000∧Hid (0=aC ⟨k,p,q,t,b⟩)):=by
 have z: ¬k=3:=by omega
 have y: ¬k=2:=by omega
 have d: ¬(k<1∨4<k):=by omega
 have ae:aC ⟨k,p,q,t,b⟩=if(¬q.data.toList=[])∨(¬t.data.toList=[])then 1 else if 300<t.size then 2 else if b< -1∨1000000<b then 3 else 0:=by
  simp only[aC,d,if_false,A,not_true,z,y,false_and,not_false_iff,true_and]
 cases o:q.toList.isEmpty with
 |false=>exact Or.inl ⟨rfl,(by rw[ae,if_pos (Or.inl (is o))]:1=aC ⟨k,p,q,t,b⟩)⟩
 |true=>
  have e:=(fL q).1 o;cases u:t.toList.isEmpty with
  |false=>exact Or.inr (Or.inl ⟨rfl,rfl,(by rw[ae,if_pos (Or.inr (is u))]:1=aC ⟨k,p,q,t,b⟩)⟩)
  |true=>
   have a:=(fL t).1 u;have F:t.size=0:=by rw[Lib.size_eq,a];rfl
   rw[if_neg (by simp[e,a]),if_neg (by omega)]at ae;by_cases f:b< -1
   · exact Or.inr (Or.inr (Or.inl ⟨rfl,rfl,by omega,f,(by rw[ae,if_pos (Or.inl f)]:3=aC ⟨k,p,q,t,b⟩)⟩))
   · by_cases j:1000000<b
     · exact Or.inr (Or.inr (Or.inr (Or.inl ⟨rfl,rfl,by omega,j,(by rw[ae,if_pos (Or.inr j)]:3=aC ⟨k,p,q,t,b⟩)⟩)))
     · exact Or.inr (Or.inr (Or.inr (Or.inr ⟨rfl,rfl,by omega,by omega,by omega,(by rw[ae,if_neg (by omega)]:0=aC ⟨k,p,q,t,b⟩)⟩)))
theorem pK (p q t:ByteArray) (b:Int) (o:al p.data.toList=0):
    (q.toList.isEmpty=false∧Hid (1=aC ⟨2,p,q,t,b⟩))∨(q.toList.isEmpty=true∧300<(t.size:Int)∧Hid (2=aC ⟨2,p,q,t,b⟩))∨
    (q.toList.isEmpty=true∧(t.size:Int)≤300∧b< -1∧Hid (3=aC ⟨2,p,q,t,b⟩))∨
    (q.toList.isEmpty=true∧(t.size:Int)≤300∧1000000<b∧Hid (3=aC ⟨2,p,q,t,b⟩))∨
    (q.toList.isEmpty=true∧(t.size:Int)≤300∧ -1≤b∧b≤1000000∧Hid (0=aC ⟨2,p,q,t,b⟩)):=by
 have ae:aC ⟨2,p,q,t,b⟩=if(¬q.data.toList=[])then 1 else if 300<t.size then 2 else if b< -1∨1000000<b then 3 else 0:=by
  simp[aC,o]
 cases f:q.toList.isEmpty with
 |false=>exact Or.inl ⟨rfl,(by rw[ae,if_pos (is f)]:1=aC ⟨2,p,q,t,b⟩)⟩
 |true=>
  have a:=(fL q).1 f;rw[if_neg (by simp[a])]at ae;by_cases j:300<(t.size:Int)
  · exact Or.inr (Or.inl ⟨rfl,j,(by rw[ae,if_pos (by omega)]:2=aC ⟨2,p,q,t,b⟩)⟩)
  · rw[if_neg (by omega)]at ae
    by_cases d:b< -1
    · exact Or.inr (Or.inr (Or.inl ⟨rfl,by omega,d,(by rw[ae,if_pos (Or.inl d)]:3=aC ⟨2,p,q,t,b⟩)⟩))
    · by_cases e:1000000<b
      · exact Or.inr (Or.inr (Or.inr (Or.inl ⟨rfl,by omega,e,(by rw[ae,if_pos (Or.inr e)]:3=aC ⟨2,p,q,t,b⟩)⟩)))
      · exact Or.inr (Or.inr (Or.inr (Or.inr ⟨rfl,by omega,by omega,by omega,(by rw[ae,if_neg (by omega)]:0=aC ⟨2,p,q,t,b⟩)⟩)))
theorem pL (p q t:ByteArray) (b:Int) (o:al p.data.toList=0) (j:al q.data.toList=0):
    (t.toList.isEmpty=false∧Hid (1=aC ⟨3,p,q,t,b⟩))∨
    (t.toList.isEmpty=true∧(t.size:Int)≤300∧b< -1∧Hid (3=aC ⟨3,p,q,t,b⟩))∨
    (t.toList.isEmpty=true∧(t.size:Int)≤300∧1000000<b∧Hid (3=aC ⟨3,p,q,t,b⟩))∨
    (t.toList.isEmpty=true∧(t.size:Int)≤300∧ -1≤b∧b≤1000000∧Hid (0=aC ⟨3,p,q,t,b⟩)):=by
 have ae:aC ⟨3,p,q,t,b⟩=if(¬t.data.toList=[])then 1 else if 300<t.size then 2 else if b< -1∨1000000<b then 3 else 0:=by
  simp[aC,o,j]
 cases f:t.toList.isEmpty with
 |false=>exact Or.inl ⟨rfl,(by rw[ae,if_pos (is f)]:1=aC ⟨3,p,q,t,b⟩)⟩
 |true=>
  have a:=(fL t).1 f;have u:t.size=0:=by rw[Lib.size_eq,a];rfl
  rw[if_neg (by simp[a]),if_neg (by omega)]at ae;by_cases d:b< -1
  · exact Or.inr (Or.inl ⟨rfl,by omega,d,(by rw[ae,if_pos (Or.inl d)]:3=aC ⟨3,p,q,t,b⟩)⟩)
  · by_cases e:1000000<b
    · exact Or.inr (Or.inr (Or.inl ⟨rfl,by omega,e,(by rw[ae,if_pos (Or.inr e)]:3=aC ⟨3,p,q,t,b⟩)⟩))
    · exact Or.inr (Or.inr (Or.inr ⟨rfl,by omega,by omega,by omega,(by rw[ae,if_neg (by omega)]:0=aC ⟨3,p,q,t,b⟩)⟩))
theorem kV (x y:En):ltOf Pp.cfE x y=Pp.lt x y:=by rw[fK];rfl
theorem uB:Sort.SWO (ltOf Pp.cfE) where
 irrefl x:=by rw[kV];exact ft x
 trans x y z h1 h2:=by rw[kV]at*;exact fu x y z h1 h2
 ntrans x y z h1 h2:=by rw[kV]at*;exact tM x y z h1 h2
def kd (e:Int) (L:List En):List En:=if e=0 then L else[]
theorem kW {e:Int} (h:e=0) (L:List En):kd e L=L:=if_pos h
theorem kX {e:Int} (h: ¬e=0) (L:List En):kd e L=[]:=if_neg h
def pM (w:World) (sx:Value) (m size:Nat) (news:List Value):Prop:=(sx= .slice none 0 0∧m=0∧news=[])∨ ∃ad c,sx= .slice (some ad) m c∧news.length=m*size∧(∀j u,news[j]?=some u→w.cell? (ad.add j)=some u)
theorem pM.own {w:World} {B:Nat} {e:TypeId} {size:Nat} {v:Value} {n:Nat} {xs:List Value} (h:w.ownsRow B e size v n xs):pM w v n size xs:=by
 have A:=h;obtain⟨z,E⟩:=h
 rcases E with⟨rfl,rfl⟩|⟨g,d,cur,rfl,F,G,I,H,J,o⟩
 · exact Or.inl ⟨rfl,rfl,List.length_eq_zero_iff.1 (by rw[z];simp)⟩
 · refine Or.inr ⟨⟨g,0,none⟩,d,rfl,z,fun j u y=>?_⟩
   have a:(⟨g,0,none⟩:Addr).add j=⟨g,j,none⟩:=by unfold Addr.add;split<;>simp_all
   have f:j<n*size:=by
    have:=(List.getElem?_eq_some_iff.1 y).1
    omega
   rw[a,A.cellAt j f];exact y
def pN (A B:List En):Int:=if aA A=0 then aA B else aA A
end Go.Proofs.YtgamnckfmmbjdaaGreatDoor
