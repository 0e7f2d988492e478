/- Folders, grants and sessions as rows of cells. -/
import Derived.Test.YtppdfeehhnofaaaGreatDoorHAN
import Derived.Test.YtppdfeehhnofaaaGreatDoorHAI
import Derived.Test.YtppdfeehhnofaaaGreatDoorHAM
import Derived.BigQuiet
import Derived.Deep.QuietTactic
import Derived.Test.YtppdfeehhnofaaaGreatDoorShelfG
import Derived.Shelf.SlSortCmp.WholeK
import Derived.Lib.OwnBridge
set_option linter.unusedSimpArgs false
set_option linter.unusedVariables false
namespace Go.Proofs.YtppdfeehhnofaaaGreatDoor
open Go.RowKit

namespace Hu
def grC (g:Gr):List Value:=[.string g.fo,.string g.wh,.int .i64 g.ri]
def seC (s:Se):List Value:=[.int .i64 s.nu,.string s.wh,.string s.tx,.int .i64 s.si,.int .i64 s.ti]
end Hu
theorem liesR_gr {w:World} {v:Value} {L:List Gr}:LiesG w v L↔LiesR 3 w v (L.map Hu.grC):=by
 constructor
 · rintro ⟨a,cap,hv,h1,h2,h3⟩
   refine⟨a,cap,by simpa using hv,by simpa using h1,by simpa using h2,?_,fun i hi=>?_⟩
   · intro r hr
     obtain⟨e,_,rfl⟩:=List.mem_map.1 hr
     refine⟨rfl,fun u hu=>?_⟩
     simp only[Hu.grC,List.mem_cons,List.not_mem_nil,or_false]at hu;rcases hu with rfl|rfl|rfl<;>rfl
   · obtain⟨b,o,ha,hb,he⟩:=h3 i (by simpa using hi)
     refine⟨b,o,ha,hb,fun c u hu=>?_⟩
     rw[List.getElem_map]at hu;obtain⟨e0,e1,e2⟩:=he
     match c,hu with
     |0,hu=>simp[Hu.grC]at hu;subst hu;exact e0
     |1,hu=>simp[Hu.grC]at hu;subst hu;exact e1
     |2,hu=>simp[Hu.grC]at hu;subst hu;exact e2
     |c+3,hu=>simp[Hu.grC]at hu
 · rintro ⟨a,cap,hv,h1,h2,_,h3⟩
   refine⟨a,cap,by simpa using hv,by simpa using h1,by simpa using h2,fun i hi=>?_⟩
   obtain⟨b,o,ha,hb,he⟩:=h3 i (by simpa using hi)
   rw[List.getElem_map]at he;exact⟨b,o,ha,hb,he 0 _ rfl,he 1 _ rfl,he 2 _ rfl⟩
theorem liesR_se {w:World} {v:Value} {L:List Se}:LiesS w v L↔LiesR 5 w v (L.map Hu.seC):=by
 constructor
 · rintro ⟨a,cap,hv,h1,h2,h3⟩
   refine⟨a,cap,by simpa using hv,by simpa using h1,by simpa using h2,?_,fun i hi=>?_⟩
   · intro r hr
     obtain⟨e,_,rfl⟩:=List.mem_map.1 hr
     refine⟨rfl,fun u hu=>?_⟩
     simp only[Hu.seC,List.mem_cons,List.not_mem_nil,or_false]at hu;rcases hu with rfl|rfl|rfl|rfl|rfl<;>rfl
   · obtain⟨b,o,ha,hb,he⟩:=h3 i (by simpa using hi)
     refine⟨b,o,ha,hb,fun c u hu=>?_⟩
     rw[List.getElem_map]at hu;obtain⟨e0,e1,e2,e3,e4⟩:=he
     match c,hu with
     |0,hu=>simp[Hu.seC]at hu;subst hu;exact e0
     |1,hu=>simp[Hu.seC]at hu;subst hu;exact e1
     |2,hu=>simp[Hu.seC]at hu;subst hu;exact e2
     |3,hu=>simp[Hu.seC]at hu;subst hu;exact e3
     |4,hu=>simp[Hu.seC]at hu;subst hu;exact e4
     |c+5,hu=>simp[Hu.seC]at hu
 · rintro ⟨a,cap,hv,h1,h2,_,h3⟩
   refine⟨a,cap,by simpa using hv,by simpa using h1,by simpa using h2,fun i hi=>?_⟩
   obtain⟨b,o,ha,hb,he⟩:=h3 i (by simpa using hi)
   rw[List.getElem_map]at he;exact⟨b,o,ha,hb,he 0 _ rfl,he 1 _ rfl,he 2 _ rfl,he 3 _ rfl,he 4 _ rfl⟩
def rowF (c:Sh) (u:Value×Value):List Value:=[.string c.na,u.1,.int .i64 c.jo.first,u.2]
def rowsF (l:List Sh) (us:List (Value×Value)):List (List Value):=List.zipWith rowF l us
theorem rowsF_len {l:List Sh} {us:List (Value×Value)} (h:us.length=l.length):(rowsF l us).length=l.length:=by simp[rowsF,h]
theorem rowsF_at {l:List Sh} {us:List (Value×Value)} (h:us.length=l.length) {i:Nat} (hi:i<l.length):(rowsF l us)[i]?=some (rowF l[i] (us[i]'(by omega))):=by
 rw[rowsF,List.getElem?_zipWith,List.getElem?_eq_getElem hi,List.getElem?_eq_getElem (by omega)]
theorem rowsF_set {l:List Sh} {us:List (Value×Value)} (h:us.length=l.length) {i:Nat} (hi:i<l.length) (u:Value×Value):(rowsF l us).set i (rowF l[i] u)=rowsF l (us.set i u):=by
 apply List.ext_getElem?
 intro j;rw[List.getElem?_set,rowsF,rowsF,List.getElem?_zipWith,List.getElem?_zipWith,List.getElem?_set];by_cases hj:i=j
 · subst hj
   have h1:i<(List.zipWith rowF l us).length:=by simp[h];omega
   simp[h,hi,List.getElem?_eq_getElem hi,show i<us.length by omega]
 · simp[hj]
/-- The journals of folders, by their slices. -/
def JosAt (w:World) (l:List Sh) (us:List (Value×Value)):Prop:=us.length=l.length∧ ∀(i:Nat) (c:Sh) (u:Value×Value),l[i]?=some c→us[i]?=some u→Lies w u.1 c.jo.base∧LiesO w u.2 c.jo.cos
theorem liesF_rows {w:World} {v:Value} {l:List Sh} (h:LiesF w v l): ∃us,JosAt w l us∧LiesR 4 w v (rowsF l us):=by
 obtain⟨a,cap,hv,h1,h2,h3⟩:=h
 have hex: ∀i:Fin l.length,∃u:Value×Value,(Lies w u.1 l[i].jo.base∧LiesO w u.2 l[i].jo.cos)∧ ∃b o,a=some ⟨b,o,none⟩∧b<w.heap.size∧w.cell? ⟨b,o+i*4,none⟩=some (.string l[i].na)∧w.cell? ⟨b,o+i*4+1,none⟩=some u.1∧w.cell? ⟨b,o+i*4+2,none⟩=some (.int .i64 l[i].jo.first)∧w.cell? ⟨b,o+i*4+3,none⟩=some u.2:=fun i=>by
  obtain⟨b,o,ha,hb,c0,u,x,c1,c2,c3,hu,hx⟩:=h3 i i.2
  exact⟨(u,x),⟨hu,hx⟩,b,o,ha,hb,c0,c1,c2,c3⟩
 have hlen:(List.ofFn fun i:Fin l.length=>Classical.choose (hex i)).length=l.length:=by simp
 refine⟨List.ofFn (fun i:Fin l.length=>Classical.choose (hex i)),⟨hlen,?_⟩,a,cap,by rw[rowsF_len hlen];exact hv,by rw[rowsF_len hlen];exact h1,by rw[rowsF_len hlen];exact h2,?_,?_⟩
 · intro i c u hc hu
   have hi:i<l.length:=(List.getElem?_eq_some_iff.1 hc).1;rw[List.getElem?_eq_getElem hi]at hc;injection hc with hc
   rw[List.getElem?_eq_getElem (by simpa using hi),List.getElem_ofFn]at hu;injection hu with hu
   rw[←hc,←hu];exact(Classical.choose_spec (hex ⟨i,hi⟩)).1
 · intro r hr
   obtain⟨i,hi⟩:=List.getElem?_of_mem hr
   have hil:i<l.length:=by
    have:=(List.getElem?_eq_some_iff.1 hi).1
    rw[rowsF_len hlen]at this;exact this
   rw[rowsF_at hlen hil]at hi;injection hi with hi
   rw[←hi];refine⟨rfl,fun u hu=>?_⟩
   simp only[rowF,List.mem_cons,List.not_mem_nil,or_false]at hu;rcases hu with rfl|rfl|rfl|rfl
   · rfl
   · rw[List.getElem_ofFn]
     obtain⟨⟨_,_,hs,_⟩,_⟩:=(Classical.choose_spec (hex ⟨i,hil⟩)).1
     rw[hs];rfl
   · rfl
   · rw[List.getElem_ofFn]
     obtain⟨_,⟨_,_,hs,_⟩⟩:=(Classical.choose_spec (hex ⟨i,hil⟩)).1
     rw[hs];rfl
 · intro i hi
   have hil:i<l.length:=by rw[rowsF_len hlen]at hi;exact hi
   obtain⟨b,o,ha,hb,c0,c1,c2,c3⟩:=(Classical.choose_spec (hex ⟨i,hil⟩)).2
   refine⟨b,o,ha,hb,fun c u hu=>?_⟩
   have he:(rowsF l (List.ofFn fun i:Fin l.length=>Classical.choose (hex i)))[i]?=some (rowF l[i] (Classical.choose (hex ⟨i,hil⟩))):=by rw[rowsF_at hlen hil,List.getElem_ofFn]
   rw[List.getElem?_eq_getElem hi]at he;injection he with he
   rw[he]at hu;match c,hu with
   |0,hu=>simp[rowF]at hu;subst hu;exact c0
   |1,hu=>simp[rowF]at hu;subst hu;exact c1
   |2,hu=>simp[rowF]at hu;subst hu;exact c2
   |3,hu=>simp[rowF]at hu;subst hu;exact c3
   |c+4,hu=>simp[rowF]at hu
theorem liesF_of {w:World} {v:Value} {l:List Sh} {us:List (Value×Value)} (hc:JosAt w l us) (h:LiesR 4 w v (rowsF l us)):LiesF w v l:=by
 obtain⟨hlen,hch⟩:=hc
 obtain⟨a,cap,hv,h1,h2,_,h3⟩:=h
 rw[rowsF_len hlen]at hv h1 h2;refine⟨a,cap,hv,h1,h2,fun i hi=>?_⟩
 have hir:i<(rowsF l us).length:=by rw[rowsF_len hlen];exact hi
 obtain⟨b,o,ha,hb,he⟩:=h3 i hir
 have hr:=rowsF_at hlen hi;rw[List.getElem?_eq_getElem hir]at hr;injection hr with hr
 rw[hr]at he;have hj:=hch i _ _ (List.getElem?_eq_getElem hi) (List.getElem?_eq_getElem (by omega));exact⟨b,o,ha,hb,he 0 _ rfl,_,_,he 1 _ rfl,he 2 _ rfl,he 3 _ rfl,hj.1,hj.2⟩
/-- Folders in memory of the caller's own, their journals too, which lie in blocks behind the row's: a store into the row hits none of them. -/
def OwnF (B:Nat) (w:World) (v:Value) (l:List Sh):Prop:= ∃us,JosAt w l us∧LiesR 4 w v (rowsF l us)∧Own B w v∧ ∀(i:Nat) (c:Sh) (u:Value×Value),l[i]?=some c→us[i]?=some u→(Own B w u.1∧OwnO B w u.2 c.jo.cos)∧ ∀b,v.ownBlock=some b→Own (b+1) w u.1∧OwnO (b+1) w u.2 c.jo.cos
theorem OwnF.lies {B:Nat} {w:World} {v:Value} {l:List Sh} (h:OwnF B w v l):LiesF w v l:=by
 obtain⟨us,h1,h2,_⟩:=h
 exact liesF_of h1 h2
end Go.Proofs.YtppdfeehhnofaaaGreatDoor
namespace Go.Proofs.YtppdfeehhnofaaaGreatDoor
open Go.RowKit

/-- The first k journals are copied, into blocks from B on; the others are as they were. -/
def ClF (B:Nat) (wr:World) (l:List Sh) (us0 us:List (Value×Value)) (k:Nat):Prop:=us.length=l.length∧
 (∀(j:Nat) (c:Sh) (u:Value×Value),j<k→l[j]?=some c→us[j]?=some u→Lies wr u.1 c.jo.base∧Own B wr u.1∧OwnO B wr u.2 c.jo.cos)∧ ∀j,k≤j→us[j]?=us0[j]?
theorem ClF.zero {B:Nat} {w:World} {l:List Sh} {us0:List (Value×Value)} (h:us0.length=l.length):ClF B w l us0 us0 0:=⟨h,fun j c u hj=>absurd hj (Nat.not_lt_zero _),fun j _=>rfl⟩
theorem ClF.below {B:Nat} {w w':World} {l:List Sh} {us0 us:List (Value×Value)} {k:Nat} (h:ClF B w l us0 us k) (hw:Below w.heap.size w w'):ClF B w' l us0 us k:=
 ⟨h.1,fun j c u hj hc hu=>⟨(h.2.1 j c u hj hc hu).1.below hw,(h.2.1 j c u hj hc hu).2.1.below hw,(h.2.1 j c u hj hc hu).2.2.below hw⟩,h.2.2⟩
theorem ClF.next {B b:Nat} {w w':World} {l:List Sh} {us0 us:List (Value×Value)} {k:Nat} {u:Value×Value} (h:ClF B w l us0 us k) (hk:k<l.length) (hg:w.grownBy w' (some b)) (hb:b<B)
    (h1:Lies w u.1 l[k].jo.base) (h2:Own B w u.1) (h3:OwnO B w u.2 l[k].jo.cos):ClF B w' l us0 (us.set k u) (k+1):=by
 obtain⟨hl,ha,hz⟩:=h
 refine⟨by rw[List.length_set];exact hl,fun j c y hj hc hy=>?_,fun j hj=>?_⟩
 · have keep: ∀{c:Sh} {y:Value×Value},Lies w y.1 c.jo.base→Own B w y.1→OwnO B w y.2 c.jo.cos→Lies w' y.1 c.jo.base∧Own B w' y.1∧OwnO B w' y.2 c.jo.cos:=fun g1 g2 g3=>
    ⟨g1.nbo hg (fun x hx=>by have:=(g2 x hx).1;omega),g2.nb hg (fun x hx=>by have:=(g2 x hx).1;omega),g3.nbo hg hb⟩
   by_cases hjk:k=j
   · subst hjk
     rw[List.getElem?_set_self (by omega)]at hy;injection hy with hy
     subst hy;rw[List.getElem?_eq_getElem hk]at hc;injection hc with hc
     subst hc;exact keep h1 h2 h3
   · rw[List.getElem?_set_ne hjk]at hy
     obtain⟨g1,g2,g3⟩:=ha j c y (by omega) hc hy
     exact keep g1 g2 g3
 · rw[List.getElem?_set_ne (by omega)]
   exact hz j (by omega)
theorem ClF.own {b:Nat} {w:World} {v:Value} {l:List Sh} {us0 us:List (Value×Value)} {B:Nat} (h:ClF (b+1) w l us0 us l.length) (hr:LiesR 4 w v (rowsF l us)) (ho:Own B w v) (hv: ∀x,v.ownBlock=some x→x=b) (hB:B≤b+1):OwnF B w v l:=by
 obtain⟨h1,h2,_⟩:=h
 refine⟨us,⟨h1,fun i c u hc hu=>?_⟩,hr,ho,fun i c u hc hu=>?_⟩
 · have g:=h2 i c u (List.getElem?_eq_some_iff.1 hc).1 hc hu
   exact⟨g.1,g.2.2.lies⟩
 · have g:=h2 i c u (List.getElem?_eq_some_iff.1 hc).1 hc hu
   exact⟨⟨g.2.1.mono hB,g.2.2.mono hB⟩,fun x hx=>by rw[hv x hx];exact g.2⟩
/-- A journal is stored into its folder's row. -/
theorem rowsF_store {w:World} {a:Option Addr} {n cap b o k:Nat} {l:List Sh} {us:List (Value×Value)} {u:Value×Value} (h:LiesR 4 w (.slice a n cap) (rowsF l us)) (hl:us.length=l.length) (ha:a=some ⟨b,o,none⟩) (hk:k<l.length) (h1:u.1.oneCell'=true) (h2:u.2.oneCell'=true):
    LiesR 4 (((w.setCell ⟨b,o+k*4+1,none⟩ u.1).setCell ⟨b,o+k*4+2,none⟩ (.int .i64 l[k].jo.first)).setCell ⟨b,o+k*4+3,none⟩ u.2) (.slice a n cap) (rowsF l (us.set k u)):=by
 have hr:=rowsF_at hl hk;have hkl:k<(rowsF l us).length:=by rw[rowsF_len hl];exact hk
 rw[List.getElem?_eq_getElem hkl]at hr;injection hr with hr
 have s1:=h.set ha (i:=k) (c:=1) hkl (by decide) u.1 h1;have s2:=s1.set ha (i:=k) (c:=2) (by simpa using hkl) (by decide) (.int .i64 l[k].jo.first) rfl;have s3:=s2.set ha (i:=k) (c:=3) (by simpa using hkl) (by decide) u.2 h2;rw[←rowsF_set hl hk u];simpa[hr,rowF]using s3
theorem OwnF.below {B:Nat} {w w':World} {v:Value} {l:List Sh} (h:OwnF B w v l) (hw:Below w.heap.size w w'):OwnF B w' v l:=by
 obtain⟨us,⟨h0,h1⟩,h2,h3,h4⟩:=h
 exact⟨us,⟨h0,fun i c u hc hu=>⟨(h1 i c u hc hu).1.below hw,(h1 i c u hc hu).2.below hw⟩⟩,h2.below hw,h3.below hw,fun i c u hc hu=>⟨⟨(h4 i c u hc hu).1.1.below hw,(h4 i c u hc hu).1.2.below hw⟩,fun b hb=>⟨((h4 i c u hc hu).2 b hb).1.below hw,((h4 i c u hc hu).2 b hb).2.below hw⟩⟩⟩
theorem OwnF.mono {B B':Nat} {w:World} {v:Value} {l:List Sh} (h:OwnF B w v l) (hB:B'≤B):OwnF B' w v l:=by
 obtain⟨us,h1,h2,h3,h4⟩:=h
 exact⟨us,h1,h2,h3.mono hB,fun i c u hc hu=>⟨⟨(h4 i c u hc hu).1.1.mono hB,(h4 i c u hc hu).1.2.mono hB⟩,(h4 i c u hc hu).2⟩⟩
theorem OwnF.nbo {B g:Nat} {w w':World} {v:Value} {l:List Sh} (h:OwnF B w v l) (hw:w.grownBy w' (some g)) (hg:g<B):OwnF B w' v l:=by
 obtain⟨us,⟨h0,h1⟩,h2,h3,h4⟩:=h
 have k: ∀{x:Value},Own B w x→ ∀b,x.ownBlock=some b→b≠g:=fun ho b hb=>by have:=(ho b hb).1;omega
 exact⟨us,⟨h0,fun i c u hc hu=>⟨(h1 i c u hc hu).1.nbo hw (k (h4 i c u hc hu).1.1),((h4 i c u hc hu).1.2.nbo hw hg).lies⟩⟩,h2.nbo hw (k h3),h3.nb hw (k h3),fun i c u hc hu=>⟨⟨(h4 i c u hc hu).1.1.nb hw (k (h4 i c u hc hu).1.1),(h4 i c u hc hu).1.2.nbo hw hg⟩,fun b hb=>⟨((h4 i c u hc hu).2 b hb).1.nb hw (k (h4 i c u hc hu).1.1),((h4 i c u hc hu).2 b hb).2.nbo hw (by have:=(h3 b hb).1;omega)⟩⟩⟩
set_option maxRecDepth 100000 in
set_option maxHeartbeats 4000000 in
theorem ownHub_any (H:Hb) (v:Value) (w:World) (hv:LiesH w v H) (h8:H.fos.length≤1000) (hj: ∀s∈H.fos,s.jo.cos.length≤1000∧s.jo.base.length≤1000∧ ∀c∈s.jo.cos,c.ch.length≤1000000000) (hgn:H.gs.length≤1000) (hsn:H.ss.length≤1000):
    Calls Tryz.prog 48 #[v] w fun e w'=> ∃vf vg vs,e= .returned (.agg #[vf,vg,vs,.int .i64 H.nx,.int .i64 H.la,.int .i64 H.ro,.int .i64 H.now])∧OwnF w.heap.size w' vf H.fos∧(LiesG w' vg H.gs∧Own w.heap.size w' vg)∧(LiesS w' vs H.ss∧Own w.heap.size w' vs)∧(∀b,vf.ownBlock=some b→Own (b+1) w' vg∧Own (b+1) w' vs)∧Rm w' vf∧Below w.heap.size w w':=by
 obtain⟨fos,gs,ss,nx,la,ro,now⟩:=H
 simp only at h8 hj hgn hsn⊢;obtain⟨vf,vg,vs,rfl,lf,lg,ls⟩:=hv
 simp only at lf lg ls;have HJ:=hid hj;have HLF:=hid lf;have HLG:=hid lg;have HLS:=hid ls;obtain⟨us0,hjo0,hr0⟩:=liesF_rows lf
 have HJO:=hid hjo0;have HR0:=hid hr0;have hl0:=hjo0.1;have hlr:=rowsF_len hl0;obtain⟨fa,fc,rfl,_⟩:=lf
 obtain⟨ga,gc,rfl,_⟩:=lg
 obtain⟨sa,sc,rfl,_⟩:=ls
 clear hj hjo0 hr0;obtain⟨wz,hwz⟩: ∃wz,wz=(w.alloc (.cells #[.slice fa fos.length fc,.slice ga gs.length gc,.slice sa ss.length sc,.int .i64 nx,.int .i64 la,.int .i64 ro,.int .i64 now] 28)).alloc (.cells #[.slice none 0 0,.slice none 0 0,.slice none 0 0,.int .i64 0,.int .i64 0,.int .i64 0,.int .i64 0] 28):=⟨_,rfl⟩
 have hbz:Below w.heap.size w wz:=by rw[hwz];exact((Below.refl _ _).alloc (Nat.le_refl _) _).alloc (by simp) _
 have HX:=hid (show Cs wz w.heap.size [.slice fa fos.length fc,.slice ga gs.length gc,.slice sa ss.length sc,.int .i64 nx,.int .i64 la,.int .i64 ro,.int .i64 now]from by rw[hwz];exact(Cs.new w [.slice fa fos.length fc,.slice ga gs.length gc,.slice sa ss.length sc,.int .i64 nx,.int .i64 la,.int .i64 ro,.int .i64 now] _).below ((Below.refl _ _).alloc (Nat.le_refl _) _))
 have HY:=hid (show Cs wz (w.heap.size+1) [.slice none 0 0,.slice none 0 0,.slice none 0 0,.int .i64 0,.int .i64 0,.int .i64 0,.int .i64 0]from by
  have:=Cs.new (w.alloc (.cells #[.slice fa fos.length fc,.slice ga gs.length gc,.slice sa ss.length sc,.int .i64 nx,.int .i64 la,.int .i64 ro,.int .i64 now] 28)) [.slice none 0 0,.slice none 0 0,.slice none 0 0,.int .i64 0,.int .i64 0,.int .i64 0,.int .i64 0] 28
  rw[hwz];simpa using this)
 have hwz':=hwz.symm;have HWZ:=hid hwz';clear hwz hwz';go_enter Tryz.func48,Tryz.ntmps48
 go_upto_region 1 with fail;rw[HWZ.out];clear HWZ;have p0:=HX.out.cell 0 rfl;go_wp2_with fail;refine(cloneF (rowsF fos us0) _ _ (by have:=HR0.out.below hbz;simpa[hlr]using this) (by rw[hlr];omega)).mono ?_
 rintro e w1 ⟨u,rfl,hR1,hO1,hM1,hb1⟩;have hs0:w.heap.size+1<wz.heap.size:=HY.out.lt;obtain⟨ua,uc,rfl,_⟩:=id hR1
 rw[hlr]at hR1 hO1 hM1⊢
 obtain⟨bb,hbb,hbw⟩: ∃bb,(∀x,(Value.slice ua fos.length uc).ownBlock=some x→x=bb)∧wz.heap.size≤bb:=by
  cases h:(Value.slice ua fos.length uc).ownBlock with
  |none=>exact⟨wz.heap.size,fun x hx=>(by cases hx),Nat.le_refl _⟩
  |some y=>exact⟨y,fun x hx=>(by injection hx with hx;exact hx.symm),(hO1 y h).1⟩
 have HBB:=hid hbb;have HX1:=hid (HX.out.below hb1);have HY1:=hid (HY.out.below hb1);have hb01:=below_tr hbz hb1;obtain⟨w2,hw2⟩: ∃w2,w2=w1.setCell ⟨w.heap.size,0,none⟩ (.slice ua fos.length uc):=⟨_,rfl⟩
 have hg2:w1.grownBy w2 (some w.heap.size):=by rw[hw2];exact nb_set _ _ _ _
 have HX2:Hid (Cs w2 w.heap.size [.slice ua fos.length uc,.slice ga gs.length gc,.slice sa ss.length sc,.int .i64 nx,.int .i64 la,.int .i64 ro,.int .i64 now]):=(by rw[hw2];exact HX1.out.set 0 _:Cs w2 w.heap.size _)
 have HY2:=hid (HY1.out.nb hg2 (by omega));have HR2:=hid (hR1.nbo hg2 (fun x hx=>by have:=(hO1 x hx).1;omega));have HO2:=hid (hO1.nb hg2 (fun x hx=>by have:=(hO1 x hx).1;omega));have HM2:=hid (hM1.nb hg2 (fun x hx=>by have:=(hO1 x hx).1;omega));have hb02:Below w.heap.size w w2:=by rw[hw2];exact hb01.setCell (p:=⟨w.heap.size,0,none⟩) (Nat.le_refl _) _
 have q0:=HX1.out.cell 0 rfl;have f0:=HX1.out.fr 0;clear hR1 hO1 hM1 p0 hbb;go_upto_region 2 with fail;rw[←hw2];clear hw2 q0 f0;have p0:=HX2.out.cell 0 rfl;go_wp2_with fail;go_loopw [11] (fun i wr=> ∃(k:Nat) (us:List (Value×Value)),k≤fos.length∧i= .int .i64 k∧Hid (Cs wr w.heap.size [.slice ua fos.length uc,.slice ga gs.length gc,.slice sa ss.length sc,.int .i64 nx,.int .i64 la,.int .i64 ro,.int .i64 now])∧Hid (Cs wr (w.heap.size+1) [.slice none 0 0,.slice none 0 0,.slice none 0 0,.int .i64 0,.int .i64 0,.int .i64 0,.int .i64 0])∧Hid (LiesR 4 wr (.slice ua fos.length uc) (rowsF fos us))∧Hid (Own wz.heap.size wr (.slice ua fos.length uc))∧Hid (Rm wr (.slice ua fos.length uc))∧Hid (ClF (bb+1) wr fos us0 us k)∧Below w.heap.size w wr) (fun i _=>fos.length-(intOf i).toNat)
 case atStart=>exact⟨0,us0,Nat.zero_le _,rfl,HX2,HY2,HR2,HO2,HM2,ClF.zero hl0,hb02⟩
 case round=>
  obtain⟨k,us,hk,rfl,HXr,HYr,HRr,HOr,HMr,HCl,hbel⟩:=hrel
  clear p0 HX2 HY2 HR2 HO2 HM2 hb02;by_cases hlt:k<fos.length
  · have hul:=HCl.out.1
    have hkr:k<(rowsF fos us).length:=by rw[rowsF_len hul];exact hlt
    have hrk:=rowsF_at hul hlt;rw[List.getElem?_eq_getElem hkr]at hrk;injection hrk with hrk
    obtain⟨a',cap',hv',_,_,_,hat⟩:=id HRr.out
    injection hv' with e1 e2 e3
    subst e1;clear e2 e3;obtain⟨b,o,hga,hb,he⟩:=hat k hkr
    subst hga;rw[hrk]at he;have c1:=he 1 _ rfl;have c2:=he 2 _ rfl;have c3:=he 3 _ rfl
    have hus:us[k]'(by omega)=us0[k]'(by omega):=by
     have:=HCl.out.2.2 k (Nat.le_refl _)
     rw[List.getElem?_eq_getElem (by omega),List.getElem?_eq_getElem (by omega)]at this;injection this
    rw[hus]at c1 c3;have hJ:=HJO.out.2 k fos[k] (us0[k]'(by omega)) (List.getElem?_eq_getElem hlt) (List.getElem?_eq_getElem (by omega));have HLB:=hid (hJ.1.below hbel);have HLO:=hid (hJ.2.below hbel);have HSZ:=hid (HJ.out fos[k] (List.getElem_mem hlt));obtain rfl:b=bb:=HBB.out b rfl;have HST:=hid (show∀(W:World) (y:Value×Value),LiesR 4 W (.slice (some ⟨b,o,none⟩) fos.length uc) (rowsF fos us)→y.1.oneCell'=true→y.2.oneCell'=true→LiesR 4 (((W.setCell ⟨b,o+k*4+1,none⟩ y.1).setCell ⟨b,o+k*4+2,none⟩ (.int .i64 fos[k].jo.first)).setCell ⟨b,o+k*4+3,none⟩ y.2) (.slice (some ⟨b,o,none⟩) fos.length uc) (rowsF fos (us.set k y))from fun W y h h1 h2=>rowsF_store h hul rfl hlt h1 h2);have HNX:=hid (show∀(W W':World) (y:Value×Value),ClF (b+1) W fos us0 us k→W.grownBy W' (some b)→Lies W y.1 fos[k].jo.base→Own (b+1) W y.1→OwnO (b+1) W y.2 fos[k].jo.cos→ClF (b+1) W' fos us0 (us.set k y) (k+1)from fun W W' y h hg h1 h2 h3=>h.next hlt hg (Nat.lt_succ_self _) h1 h2 h3);clear hrk hat he hus hJ hkr;generalize fos[k].jo=J at*;generalize us0[k]'(by omega)=u0 at*;obtain⟨jb,jf,jc⟩:=J
    obtain⟨u1,u2⟩:=u0
    simp only at c1 c2 c3;obtain⟨x1,y1,rfl,_⟩:=id HLB.out
    obtain⟨x2,y2,rfl,_⟩:=id HLO.out
    have x0:=HXr.out.cell 0 rfl;have hxl:=HXr.out.lt;go_wp2_with fail
    go_region_with (
     go_at_call 84;refine(ownJournal_any ⟨jb,jf,jc⟩ _ _ ⟨_,_,rfl,HLB.out.below (Below.refl _ _).drew,HLO.out.below (Below.refl _ _).drew⟩ HSZ.out.1 HSZ.out.2.1 HSZ.out.2.2).mono ?_;rintro e wa ⟨y,rfl,hOJ,hba⟩;have hya:Below wr.heap.size wr wa:=((Below.refl _ _).drew).trans hba;obtain⟨yb,yc,rfl,lyb,oyb,oyc⟩:=hOJ;have HLYB:=hid lyb;have HOYB:=hid oyb;have HOYC:=hid oyc;obtain⟨xb,zb,rfl,_⟩:=lyb;obtain⟨xc,zc,rfl,_⟩:=OwnO.lies oyc;clear oyb oyc;have HOa:=hid (HOr.out.below hya);obtain⟨_,cur,TT,hcur⟩:=HOa.out b rfl;have fr1:wa.frozen? ⟨b,o+k*4+1,none⟩=false:=(by simp[World.frozen?,hcur]);have fr2:wa.frozen? ⟨b,o+k*4+2,none⟩=false:=(by simp[World.frozen?,hcur]);have fr3:wa.frozen? ⟨b,o+k*4+3,none⟩=false:=(by simp[World.frozen?,hcur]);clear hcur;have j0:=(hya.cell (p:=⟨w.heap.size,0,none⟩) hxl).trans x0;have j1:=(hya.cell (p:=⟨b,o+k*4+1,none⟩) hb).trans c1;have j2:=(hya.cell (p:=⟨b,o+k*4+2,none⟩) hb).trans c2;have j3:=(hya.cell (p:=⟨b,o+k*4+3,none⟩) hb).trans c3)
    all_goals
     have hNb:w.heap.size+1<b:=by have:=(HOr.out b rfl).1;omega
     obtain⟨w3,hw3⟩: ∃w3,w3=((wa.setCell ⟨b,o+k*4+1,none⟩ (.slice xb jb.length zb)).setCell ⟨b,o+k*4+1+1,none⟩ (.int .i64 jf)).setCell ⟨b,o+k*4+1+2,none⟩ (.slice xc jc.length zc):=⟨_,rfl⟩
     have hg3:wa.grownBy w3 (some b):=by rw[hw3];exact grown_on (grown_on (nb_set _ _ _ _) (nb_set _ _ _ _)) (nb_set _ _ _ _)
     have HR3:=hid (show LiesR 4 w3 (.slice (some ⟨b,o,none⟩) fos.length uc) (rowsF fos (us.set k (.slice xb jb.length zb,.slice xc jc.length zc)))from by rw[hw3];exact HST.out wa (.slice xb jb.length zb,.slice xc jc.length zc) (HRr.out.below hya) rfl rfl);have HC3:=hid (HNX.out wa w3 (.slice xb jb.length zb,.slice xc jc.length zc) (HCl.out.below hya) hg3 HLYB.out (HOYB.out.mono (by show b+1≤wr.heap.size;omega)) (HOYC.out.mono (by show b+1≤wr.heap.size;omega)));have HX3:=hid ((HXr.out.below hya).nb hg3 (by omega));have HY3:=hid ((HYr.out.below hya).nb hg3 (by omega));have HO3:=hid (show Own wz.heap.size w3 (.slice (some ⟨b,o,none⟩) fos.length uc)from by rw[hw3];exact((HOa.out.setCell _ _ _).setCell _ _ _).setCell _ _ _);have hb3:Below w.heap.size w w3:=by rw[hw3];exact(((below_tr hbel hya).setCell (p:=⟨b,o+k*4+1,none⟩) (by show w.heap.size≤b;omega) _).setCell (p:=⟨b,o+k*4+1+1,none⟩) (by show w.heap.size≤b;omega) _).setCell (p:=⟨b,o+k*4+1+2,none⟩) (by show w.heap.size≤b;omega) _
     have HM3:=hid (show Rm w3 (.slice (some ⟨b,o,none⟩) fos.length uc)from by rw[hw3];exact(((HMr.out.below hya).setCell _ _ _).setCell _ _ _).setCell _ _ _);clear HST HNX HRr HCl HOr HMr;go_wp2_with fail;rw[←hw3];go_roundw
     case rel=>exact⟨k+1,_,by omega,by simp,HX3,HY3,HR3,HO3,HM3,HC3,hb3⟩
     case measure=>simp[intOf];omega
  · obtain rfl:k=fos.length:=by omega
    have HF:=hid (HCl.out.own HRr.out HOr.out HBB.out (by omega));have HVB:Hid (∀x,(Value.slice ua fos.length uc).ownBlock=some x→x<wr.heap.size):=HOr.out.lt;have hxl:=HXr.out.lt;have hyl:=HYr.out.lt;have HVW:=hid (show∀x,(Value.slice ua fos.length uc).ownBlock=some x→wz.heap.size≤x from fun x hx=>(HOr.out x hx).1);clear HRr HOr HCl HR0;have p1:=HXr.out.cell 1 rfl;go_wp2_with fail;refine(cloneG (gs.map Hu.grC) _ _ (liesR_gr.1 (HLG.out.below hbel)) (by rw[List.length_map];omega)).mono ?_
    rintro e w4 ⟨u4,rfl,hR4,hO4,hb4⟩;have hG4:=liesR_gr.2 hR4;have HG4:=hid hG4;have HO4:=hid hO4;obtain⟨g4,c4,rfl,_⟩:=hG4
    have HX4:=hid (HXr.out.below hb4);have HY4:=hid (HYr.out.below hb4);have HF4:=hid (HF.out.below hb4);have HM4:=hid (HMr.out.below hb4);have s4:=hb4.size;obtain⟨w5,hw5⟩: ∃w5,w5=w4.setCell ⟨w.heap.size,1,none⟩ (.slice g4 gs.length c4):=⟨_,rfl⟩
    have g5:w4.grownBy w5 (some w.heap.size):=by rw[hw5];exact nb_set _ _ _ _
    have HX5:Hid (Cs w5 w.heap.size [.slice ua fos.length uc,.slice g4 gs.length c4,.slice sa ss.length sc,.int .i64 nx,.int .i64 la,.int .i64 ro,.int .i64 now]):=(by rw[hw5];exact HX4.out.set 1 _:Cs w5 w.heap.size _)
    have HY5:=hid (HY4.out.nb g5 (by omega));have HF5:=hid (HF4.out.nbo g5 (by omega));have HM5:=hid (HM4.out.nb g5 (fun x hx=>by have:=HVW.out x hx;omega));have HG5:=hid (liesR_gr.2 ((liesR_gr.1 HG4.out).nbo g5 (fun x hx=>by have:=(HO4.out x hx).1;omega)));have HO5:=hid (HO4.out.nb g5 (fun x hx=>by have:=(HO4.out x hx).1;omega));have hb5:Below w.heap.size w w5:=by rw[hw5];exact(below_tr hbel hb4).setCell (p:=⟨w.heap.size,1,none⟩) (Nat.le_refl _) _
    have q1:=HX4.out.cell 1 rfl;have f1:=HX4.out.fr 1;have s5:=g5.size;clear hR4 hO4 p1;go_upto_region 8 with fail;rw[←hw5];clear hw5 q1 f1;have p2:=HX5.out.cell 2 rfl;go_wp2_with fail;refine(cloneS (ss.map Hu.seC) _ _ (liesR_se.1 (HLS.out.below hb5)) (by rw[List.length_map];omega)).mono ?_
    rintro e w6 ⟨u6,rfl,hR6,hO6,hb6⟩;have hS6:=liesR_se.2 hR6;have HS6:=hid hS6;have HO6:=hid hO6;obtain⟨g6,c6,rfl,_⟩:=hS6
    have HX6:=hid (HX5.out.below hb6);have HY6:=hid (HY5.out.below hb6);have HF6:=hid (HF5.out.below hb6);have HM6:=hid (HM5.out.below hb6);have HG6:=hid (HG5.out.below hb6);have HP6:=hid (HO5.out.below hb6);have s6:=hb6.size;obtain⟨w7,hw7⟩: ∃w7,w7=w6.setCell ⟨w.heap.size,2,none⟩ (.slice g6 ss.length c6):=⟨_,rfl⟩
    have g7:w6.grownBy w7 (some w.heap.size):=by rw[hw7];exact nb_set _ _ _ _
    have HX7:Hid (Cs w7 w.heap.size [.slice ua fos.length uc,.slice g4 gs.length c4,.slice g6 ss.length c6,.int .i64 nx,.int .i64 la,.int .i64 ro,.int .i64 now]):=(by rw[hw7];exact HX6.out.set 2 _:Cs w7 w.heap.size _)
    have HY7:=hid (HY6.out.nb g7 (by omega));have HF7:=hid (HF6.out.nbo g7 (by omega));have HM7:=hid (HM6.out.nb g7 (fun x hx=>by have:=HVW.out x hx;omega));have HG7:=hid (liesR_gr.2 ((liesR_gr.1 HG6.out).nbo g7 (fun x hx=>by have:=(HP6.out x hx).1;omega)));have HP7:=hid (HP6.out.nb g7 (fun x hx=>by have:=(HP6.out x hx).1;omega));have HS7:=hid (liesR_se.2 ((liesR_se.1 HS6.out).nbo g7 (fun x hx=>by have:=(HO6.out x hx).1;omega)));have HQ7:=hid (HO6.out.nb g7 (fun x hx=>by have:=(HO6.out x hx).1;omega));have hb7:Below w.heap.size w w7:=by rw[hw7];exact(below_tr hb5 hb6).setCell (p:=⟨w.heap.size,2,none⟩) (Nat.le_refl _) _
    have q2:=HX6.out.cell 2 rfl;have f2:=HX6.out.fr 2;have s7:=g7.size;clear hR6 hO6 p2;go_upto_region 9 with fail;rw[←hw7];clear hw7 q2 f2;have p0:=HX7.out.cell 0 rfl;have y0:=HY7.out.cell 0 rfl;have z0:=HY7.out.fr 0;have p1:=HX7.out.cell 1 rfl;have y1:=HY7.out.cell 1 rfl;have z1:=HY7.out.fr 1;have p2:=HX7.out.cell 2 rfl;have y2:=HY7.out.cell 2 rfl;have z2:=HY7.out.fr 2;have p3:=HX7.out.cell 3 rfl;have y3:=HY7.out.cell 3 rfl;have z3:=HY7.out.fr 3;have p4:=HX7.out.cell 4 rfl;have y4:=HY7.out.cell 4 rfl;have z4:=HY7.out.fr 4;have p5:=HX7.out.cell 5 rfl;have y5:=HY7.out.cell 5 rfl;have z5:=HY7.out.fr 5;have p6:=HX7.out.cell 6 rfl;have y6:=HY7.out.cell 6 rfl;have z6:=HY7.out.fr 6;go_wp2_with fail;have gz:w7.grownBy _ (some (w.heap.size+1)):=(grown_on (grown_on (grown_on (grown_on (grown_on (grown_on (nb_set w7 (w.heap.size+1) 0 (.slice ua fos.length uc)) (nb_set _ (w.heap.size+1) 1 (.slice g4 gs.length c4))) (nb_set _ (w.heap.size+1) 2 (.slice g6 ss.length c6))) (nb_set _ (w.heap.size+1) 3 (.int .i64 nx))) (nb_set _ (w.heap.size+1) 4 (.int .i64 la))) (nb_set _ (w.heap.size+1) 5 (.int .i64 ro))) (nb_set _ (w.heap.size+1) 6 (.int .i64 now)))
    have hbl:=(((((((hb7.setCell (p:=⟨w.heap.size+1,0,none⟩) (by show w.heap.size≤w.heap.size+1;omega) (.slice ua fos.length uc)).setCell (p:=⟨w.heap.size+1,1,none⟩) (by show w.heap.size≤w.heap.size+1;omega) (.slice g4 gs.length c4)).setCell (p:=⟨w.heap.size+1,2,none⟩) (by show w.heap.size≤w.heap.size+1;omega) (.slice g6 ss.length c6)).setCell (p:=⟨w.heap.size+1,3,none⟩) (by show w.heap.size≤w.heap.size+1;omega) (.int .i64 nx)).setCell (p:=⟨w.heap.size+1,4,none⟩) (by show w.heap.size≤w.heap.size+1;omega) (.int .i64 la)).setCell (p:=⟨w.heap.size+1,5,none⟩) (by show w.heap.size≤w.heap.size+1;omega) (.int .i64 ro)).setCell (p:=⟨w.heap.size+1,6,none⟩) (by show w.heap.size≤w.heap.size+1;omega) (.int .i64 now))
    refine bodyPost_ret (v:= .agg #[.slice ua fos.length uc,.slice g4 gs.length c4,.slice g6 ss.length c6,.int .i64 nx,.int .i64 la,.int .i64 ro,.int .i64 now]) (by simp[results,Tryz.results48,go_sem,y0,y1,y2,y3,y4,y5,y6]) rfl ⟨_,_,_,rfl,(HF7.out.nbo gz (by omega)).mono (by omega),⟨liesR_gr.2 ((liesR_gr.1 HG7.out).nbo gz (fun x hx=>by have:=(HP7.out x hx).1;omega)),(HP7.out.nb gz (fun x hx=>by have:=(HP7.out x hx).1;omega)).mono (by omega)⟩,⟨liesR_se.2 ((liesR_se.1 HS7.out).nbo gz (fun x hx=>by have:=(HQ7.out x hx).1;omega)),(HQ7.out.nb gz (fun x hx=>by have:=(HQ7.out x hx).1;omega)).mono (by omega)⟩,(fun b hb=>⟨(HP7.out.nb gz (fun x hx=>by have:=(HP7.out x hx).1;omega)).mono (by have:=HVB.out b hb;omega),(HQ7.out.nb gz (fun x hx=>by have:=(HQ7.out x hx).1;omega)).mono (by have:=HVB.out b hb;omega)⟩),HM7.out.nb gz (fun x hx=>by have:=HVW.out x hx;omega),hbl⟩
namespace Pp
theorem tri (x y:ByteArray):(Op.bytesLess x.toList y.toList=true∧Op.bytesLess y.toList x.toList=false∧(x.toList==y.toList)=false∧(y.toList==x.toList)=false)∨
    (Op.bytesLess x.toList y.toList=false∧Op.bytesLess y.toList x.toList=false∧(x.toList==y.toList)=true∧(y.toList==x.toList)=true)∨
    (Op.bytesLess x.toList y.toList=false∧Op.bytesLess y.toList x.toList=true∧(x.toList==y.toList)=false∧(y.toList==x.toList)=false):=by
 have irr: ∀z:ByteArray,Op.bytesLess z.toList z.toList=false:=fun z=>lt_irrefl ⟨z,false,z,0⟩
 have tr:Op.bytesLess x.toList y.toList=true→Op.bytesLess y.toList x.toList=true→False:=fun h1 h2=>by
  have:=lt_trans ⟨x,false,x,0⟩ ⟨y,false,y,0⟩ ⟨x,false,x,0⟩ h1 h2
  have h3:=irr x;rw[show Op.bytesLess x.toList x.toList=lt ⟨x,false,x,0⟩ ⟨x,false,x,0⟩from rfl,this]at h3;cases h3
 have ne: ∀a b:ByteArray,Op.bytesLess a.toList b.toList=true→(a.toList==b.toList)=false∧(b.toList==a.toList)=false:=fun a b h=>by
  constructor<;>(rw[beq_eq_false_iff_ne];intro e)
  · rw[e]at h;rw[irr b]at h;cases h
  · rw[e]at h;rw[irr a]at h;cases h
 cases h1:Op.bytesLess x.toList y.toList with
 |true=>
  have h2:Op.bytesLess y.toList x.toList=false:=by
   cases h2:Op.bytesLess y.toList x.toList with
   |false=>rfl
   |true=>exact(tr h1 h2).elim
  exact Or.inl ⟨rfl,h2,(ne x y h1).1,(ne x y h1).2⟩
 |false=>
  cases h2:Op.bytesLess y.toList x.toList with
  |true=>exact Or.inr (Or.inr ⟨rfl,rfl,(ne y x h2).2,(ne y x h2).1⟩)
  |false=>
   have e:x.data.toList=y.data.toList:=lt_same (x:=⟨x,false,x,0⟩) (y:=⟨y,false,y,0⟩) h1 h2;refine Or.inr (Or.inl ⟨rfl,rfl,?_,?_⟩)
   · rw[Lib.toList_data,Lib.toList_data,e];simp
   · rw[Lib.toList_data,Lib.toList_data,e];simp
end Pp

namespace Pp
theorem cG_neg {a b:Gr} (h:Op.bytesLess a.fo.toList b.fo.toList=true∨((a.fo.toList==b.fo.toList)=true∧Op.bytesLess a.fo.toList b.fo.toList=false∧Op.bytesLess a.wh.toList b.wh.toList=true)):cG a b<0:=by
 rcases h with h|⟨h1,h2,h3⟩
 · rw[cG,if_neg (by rw[cS,if_pos h];decide),cS,if_pos h];decide
 · rw[cG,if_pos (by rw[cS,if_neg (by rw[h2];decide),if_pos h1]),cS,if_pos h3];decide
theorem cG_pos {a b:Gr} (h:(Op.bytesLess a.fo.toList b.fo.toList=false∧(a.fo.toList==b.fo.toList)=false)∨((a.fo.toList==b.fo.toList)=true∧Op.bytesLess a.fo.toList b.fo.toList=false∧Op.bytesLess a.wh.toList b.wh.toList=false)):0≤cG a b:=by
 rcases h with⟨h1,h2⟩|⟨h1,h2,h3⟩
 · have:cS a.fo b.fo=1:=by rw[cS,if_neg (by rw[h1];decide),if_neg (by rw[h2];decide)]
   rw[cG,if_neg (by rw[this];decide),this];decide
 · rw[cG,if_pos (by rw[cS,if_neg (by rw[h2];decide),if_pos h1]),cS,if_neg (by rw[h3];decide)]
   split<;>decide
end Pp

end Go.Proofs.YtppdfeehhnofaaaGreatDoor
namespace Go.Proofs.YtppdfeehhnofaaaGreatDoor
open Go.RowKit

namespace Pp
def ls (x y:ByteArray):Bool:=Op.bytesLess x.toList y.toList
theorem ls_irr (x:ByteArray):ls x x=false:=lt_irrefl ⟨x,false,x,0⟩
theorem ls_trans (x y z:ByteArray) (h1:ls x y=true) (h2:ls y z=true):ls x z=true:=lt_trans ⟨x,false,x,0⟩ ⟨y,false,y,0⟩ ⟨z,false,z,0⟩ h1 h2
theorem ls_ntrans (x y z:ByteArray) (h1:ls x y=false) (h2:ls y z=false):ls x z=false:=lt_ntrans ⟨x,false,x,0⟩ ⟨y,false,y,0⟩ ⟨z,false,z,0⟩ h1 h2
def ltG (a b:Gr):Bool:=ls a.fo b.fo||(!(ls b.fo a.fo) && ls a.wh b.wh)
theorem ltG_c (a b:Gr):decide (cG a b<0)=ltG a b:=by
 rcases tri a.fo b.fo with⟨t1,t2,t3,t4⟩|⟨t1,t2,t3,t4⟩|⟨t1,t2,t3,t4⟩
 · have h1:ls a.fo b.fo=true:=t1
   have h2:=cG_neg (a:=a) (b:=b) (Or.inl t1);rw[ltG,h1];simp[h2]
 · have h1:ls a.fo b.fo=false:=t1
   have h1':ls b.fo a.fo=false:=t2;rcases tri a.wh b.wh with⟨r1,r2,r3,r4⟩|⟨r1,r2,r3,r4⟩|⟨r1,r2,r3,r4⟩
   · have h2:=cG_neg (a:=a) (b:=b) (Or.inr ⟨t3,t1,r1⟩)
     have h3:ls a.wh b.wh=true:=r1;rw[ltG,h1,h1',h3];simp[h2]
   · have h2:=cG_pos (a:=a) (b:=b) (Or.inr ⟨t3,t1,r1⟩)
     have h3:ls a.wh b.wh=false:=r1;rw[ltG,h1,h1',h3];simp;omega
   · have h2:=cG_pos (a:=a) (b:=b) (Or.inr ⟨t3,t1,r1⟩)
     have h3:ls a.wh b.wh=false:=r1;rw[ltG,h1,h1',h3];simp;omega
 · have h1:ls a.fo b.fo=false:=t1
   have h1':ls b.fo a.fo=true:=t2;have h2:=cG_pos (a:=a) (b:=b) (Or.inl ⟨t1,t3⟩);rw[ltG,h1,h1'];simp;omega
theorem ltOfG (a b:Gr):ltOf cG a b=ltG a b:=ltG_c a b
theorem ltG_irr (a:Gr):ltG a a=false:=by rw[ltG,ls_irr,ls_irr];rfl
theorem ltG_trans (a b c:Gr) (h1:ltG a b=true) (h2:ltG b c=true):ltG a c=true:=by
 simp only[ltG,Bool.or_eq_true,Bool.and_eq_true,Bool.not_eq_true']at*;rcases h1 with h1|⟨h1,h1'⟩
 · rcases h2 with h2|⟨h2,h2'⟩
   · exact Or.inl (ls_trans _ _ _ h1 h2)
   · left
     cases h:ls a.fo c.fo with
     |true=>rfl
     |false=>have:=ls_ntrans _ _ _ h h2;rw[this]at h1;cases h1
 · rcases h2 with h2|⟨h2,h2'⟩
   · left
     cases h:ls a.fo c.fo with
     |true=>rfl
     |false=>have:=ls_ntrans _ _ _ h1 h;rw[this]at h2;cases h2
   · exact Or.inr ⟨ls_ntrans _ _ _ h2 h1,ls_trans _ _ _ h1' h2'⟩
theorem ltG_ntrans (a b c:Gr) (h1:ltG a b=false) (h2:ltG b c=false):ltG a c=false:=by
 simp only[ltG,Bool.or_eq_false_iff,Bool.and_eq_false_iff,Bool.not_eq_false']at*;obtain⟨h1,h1'⟩:=h1
 obtain⟨h2,h2'⟩:=h2
 refine⟨ls_ntrans _ _ _ h1 h2,?_⟩
 rcases h1' with h|h
 · left
   cases hc:ls c.fo a.fo with
   |true=>rfl
   |false=>have:=ls_ntrans _ _ _ h2 hc;rw[this]at h;cases h
 · rcases h2' with h'|h'
   · left
     cases hc:ls c.fo a.fo with
     |true=>rfl
     |false=>have:=ls_ntrans _ _ _ hc h1;rw[this]at h';cases h'
   · exact Or.inr (ls_ntrans _ _ _ h h')
theorem swoG:Sort.SWO (ltOf cG) where
 irrefl x:=by rw[ltOfG];exact ltG_irr x
 trans x y z h1 h2:=by rw[ltOfG]at*;exact ltG_trans x y z h1 h2
 ntrans x y z h1 h2:=by rw[ltOfG]at*;exact ltG_ntrans x y z h1 h2
def cellsG (e:Gr):List Value:=[.string e.fo,.string e.wh,.int .i64 e.ri]
def flatG (G:List Gr):List Value:=G.flatMap cellsG
theorem cellsG_one (e:Gr): ∀u∈cellsG e,u.oneCell'=true:=by
 intro u hu;simp only[cellsG,List.mem_cons,List.not_mem_nil,or_false]at hu;rcases hu with rfl|rfl|rfl<;>rfl
theorem flatG_get: ∀(L:List Gr) (i c:Nat) (h:i<L.length),c<3→(flatG L)[i*3+c]?=(cellsG L[i])[c]?
 |[],i,c,h,_=>absurd h (Nat.not_lt_zero _)
 |a::r,0,c,_,hc=>by
  rw[flatG,List.flatMap_cons,Nat.zero_mul,Nat.zero_add,List.getElem?_append_left (by simpa[cellsG]using hc)];rfl
 |a::r,i+1,c,h,hc=>by
  have ih:=flatG_get r i c (by simpa using h) hc;rw[flatG,List.flatMap_cons,List.getElem?_append_right (by simp[cellsG];omega)];rw[show(i+1)*3+c-(cellsG a).length=i*3+c by simp[cellsG];omega];exact ih
theorem cellsG_get (e:Gr) (c:Nat) (hc:c<3):(cellsG e)[c]?=some ((cellsG e)[c]!):=by
 have:c<(cellsG e).length:=by simpa[cellsG]using hc
 rw[List.getElem?_eq_getElem this,getElem!_pos _ c this]
theorem flatG_snoc (L:List Gr) (e:Gr):flatG L++cellsG e=flatG (L++[e]):=by simp[flatG]
theorem holdsG_own [Inhabited Gr] {w:World} {base g n cap:Nat} {T:TypeId} {L:List Gr} (h:w.ownsRow base T 3 (.slice (some ⟨g,0,none⟩) n cap) n (flatG L)) (hn:n=L.length):Sort.HoldsK cellsG 3 w g 0 L.toArray:=by
 subst hn;intro j hj;rw[Sort.size_flatK,List.size_toArray]at hj;refine⟨?_,by rw[Nat.zero_add];exact h.frozenAt j⟩
 rw[Nat.zero_add,h.cellAt j hj,id,Sort.get_flatK _ _ _ _ (by simpa using hj)];have h1:j/3<L.length:=by omega
 have h2:=flatG_get L (j/3) (j % 3) h1 (by omega);rw[show j/3*3+j % 3=j by omega]at h2;rw[h2,cellsG_get _ _ (by omega)];have e:L.toArray[j/3]! =L[j/3]:=by rw[getElem!_pos _ _ (by simpa using h1)];simp
 rw[e]
theorem liesG_holds [Inhabited Gr] {w:World} {g cap:Nat} {d:Array Gr} (hg:g<w.heap.size) (h:Sort.HoldsK cellsG 3 w g 0 d) (hc:d.size≤cap) (hc2:d.size≤1000000000000000):LiesG w (.slice (some ⟨g,0,none⟩) d.size cap) d.toList:=by
 refine⟨some ⟨g,0,none⟩,cap,by simp,by simpa using hc,by simpa using hc2,fun i hi=>⟨g,0,rfl,hg,?_⟩⟩
 have hi':i<d.size:=by simpa using hi
 have e:d[i]! =d.toList[i]:=by rw[getElem!_pos d i hi'];simp
 have key: ∀c,c<3→w.cell? ⟨g,0+i*3+c,none⟩=(cellsG d.toList[i])[c]?:=by
  intro c hc4;have hj:i*3+c<d.size*3:=by omega
  have:=(h (i*3+c) (by rw[Sort.size_flatK];exact hj)).1
  rw[id,Sort.get_flatK _ _ _ _ hj,show(i*3+c)/3=i by omega,show(i*3+c) % 3=c by omega,e,←cellsG_get _ c hc4]at this;rw[Nat.add_assoc];exact this
 exact⟨key 0 (by omega),key 1 (by omega),key 2 (by omega)⟩
end Pp
end Go.Proofs.YtppdfeehhnofaaaGreatDoor
