/- What own.Commits, own.Journal, and a keeper's journal and last answer. -/
import Derived.Test.YtppdfeehhnofaaaGreatDoorHAH
import Derived.Deep.DeepCutAuto
import Derived.Deep.RegionWith
import Derived.Deep.RegionLaw
set_option linter.unusedSimpArgs false
set_option linter.unusedVariables false
namespace Go.Proofs.YtppdfeehhnofaaaGreatDoor
open Go.RowKit

def rowO (c:Co) (u:Value):List Value:=[.int .i64 c.nu,.string c.ke,u]
def rowsO (l:List Co) (us:List Value):List (List Value):=List.zipWith rowO l us
theorem rowsO_len {l:List Co} {us:List Value} (h:us.length=l.length):(rowsO l us).length=l.length:=by simp[rowsO,h]
theorem rowsO_at {l:List Co} {us:List Value} (h:us.length=l.length) {i:Nat} (hi:i<l.length):(rowsO l us)[i]?=some (rowO l[i] (us[i]'(by omega))):=by
 rw[rowsO,List.getElem?_zipWith,List.getElem?_eq_getElem hi,List.getElem?_eq_getElem (by omega)]
theorem rowsO_set {l:List Co} {us:List Value} (h:us.length=l.length) {i:Nat} (hi:i<l.length) (u:Value):(rowsO l us).set i (rowO l[i] u)=rowsO l (us.set i u):=by
 apply List.ext_getElem?
 intro j;rw[List.getElem?_set,rowsO,rowsO,List.getElem?_zipWith,List.getElem?_zipWith,List.getElem?_set];by_cases hj:i=j
 · subst hj
   have h1:i<(List.zipWith rowO l us).length:=by simp[h];omega
   simp[h,hi,List.getElem?_eq_getElem hi,show i<us.length by omega]
 · simp[hj]
/-- The changes of commits, by their slices. -/
def ChsAt (w:World) (l:List Co) (us:List Value):Prop:=us.length=l.length∧ ∀(i:Nat) (c:Co) (u:Value),l[i]?=some c→us[i]?=some u→LiesC w u c.ch
theorem liesO_rows {w:World} {v:Value} {l:List Co} (h:LiesO w v l): ∃us,ChsAt w l us∧LiesR 3 w v (rowsO l us):=by
 obtain⟨a,cap,hv,h1,h2,h3⟩:=h
 have hex: ∀i:Fin l.length,∃u,LiesC w u l[i].ch∧ ∃b o,a=some ⟨b,o,none⟩∧b<w.heap.size∧w.cell? ⟨b,o+i*3,none⟩=some (.int .i64 l[i].nu)∧w.cell? ⟨b,o+i*3+1,none⟩=some (.string l[i].ke)∧w.cell? ⟨b,o+i*3+2,none⟩=some u:=fun i=>by
  obtain⟨b,o,ha,hb,c0,c1,u,c2,hu⟩:=h3 i i.2
  exact⟨u,hu,b,o,ha,hb,c0,c1,c2⟩
 have hlen:(List.ofFn fun i:Fin l.length=>Classical.choose (hex i)).length=l.length:=by simp
 refine⟨List.ofFn (fun i:Fin l.length=>Classical.choose (hex i)),⟨hlen,?_⟩,a,cap,by rw[rowsO_len hlen];exact hv,by rw[rowsO_len hlen];exact h1,by rw[rowsO_len hlen];exact h2,?_,?_⟩
 · intro i c u hc hu
   have hi:i<l.length:=(List.getElem?_eq_some_iff.1 hc).1;rw[List.getElem?_eq_getElem hi]at hc;injection hc with hc
   rw[List.getElem?_eq_getElem (by simpa using hi),List.getElem_ofFn]at hu;injection hu with hu
   rw[←hc,←hu];exact(Classical.choose_spec (hex ⟨i,hi⟩)).1
 · intro r hr
   obtain⟨i,hi⟩:=List.getElem?_of_mem hr
   have hil:i<l.length:=by
    have:=(List.getElem?_eq_some_iff.1 hi).1
    rw[rowsO_len hlen]at this;exact this
   rw[rowsO_at hlen hil]at hi;injection hi with hi
   rw[←hi];refine⟨rfl,fun u hu=>?_⟩
   simp only[rowO,List.mem_cons,List.not_mem_nil,or_false]at hu;rcases hu with rfl|rfl|rfl
   · rfl
   · rfl
   · rw[List.getElem_ofFn]
     obtain⟨_,_,hs,_⟩:=(Classical.choose_spec (hex ⟨i,hil⟩)).1
     rw[hs];rfl
 · intro i hi
   have hil:i<l.length:=by rw[rowsO_len hlen]at hi;exact hi
   obtain⟨b,o,ha,hb,c0,c1,c2⟩:=(Classical.choose_spec (hex ⟨i,hil⟩)).2
   refine⟨b,o,ha,hb,fun c u hu=>?_⟩
   have he:(rowsO l (List.ofFn fun i:Fin l.length=>Classical.choose (hex i)))[i]?=some (rowO l[i] (Classical.choose (hex ⟨i,hil⟩))):=by rw[rowsO_at hlen hil,List.getElem_ofFn]
   rw[List.getElem?_eq_getElem hi]at he;injection he with he
   rw[he]at hu;match c,hu with
   |0,hu=>simp[rowO]at hu;subst hu;exact c0
   |1,hu=>simp[rowO]at hu;subst hu;exact c1
   |2,hu=>simp[rowO]at hu;subst hu;exact c2
   |c+3,hu=>simp[rowO]at hu
theorem liesO_of {w:World} {v:Value} {l:List Co} {us:List Value} (hc:ChsAt w l us) (h:LiesR 3 w v (rowsO l us)):LiesO w v l:=by
 obtain⟨hlen,hch⟩:=hc
 obtain⟨a,cap,hv,h1,h2,_,h3⟩:=h
 rw[rowsO_len hlen]at hv h1 h2;refine⟨a,cap,hv,h1,h2,fun i hi=>?_⟩
 have hir:i<(rowsO l us).length:=by rw[rowsO_len hlen];exact hi
 obtain⟨b,o,ha,hb,he⟩:=h3 i hir
 have hr:=rowsO_at hlen hi;rw[List.getElem?_eq_getElem hir]at hr;injection hr with hr
 rw[hr]at he;exact⟨b,o,ha,hb,he 0 _ rfl,he 1 _ rfl,us[i]'(by omega),he 2 _ rfl,hch i _ _ (List.getElem?_eq_getElem hi) (List.getElem?_eq_getElem (by omega))⟩
/-- Commits in memory of the caller's own, their changes too. -/
def OwnO (B:Nat) (w:World) (v:Value) (l:List Co):Prop:= ∃us,ChsAt w l us∧LiesR 3 w v (rowsO l us)∧Own B w v∧ ∀u∈us,Own B w u
theorem OwnO.lies {B:Nat} {w:World} {v:Value} {l:List Co} (h:OwnO B w v l):LiesO w v l:=by
 obtain⟨us,h1,h2,_⟩:=h
 exact liesO_of h1 h2
theorem ChsAt.below {w w':World} {l:List Co} {us:List Value} (h:ChsAt w l us) (hw:Below w.heap.size w w'):ChsAt w' l us:=⟨h.1,fun i c u hc hu=>(h.2 i c u hc hu).below hw⟩
theorem OwnO.below {B:Nat} {w w':World} {v:Value} {l:List Co} (h:OwnO B w v l) (hw:Below w.heap.size w w'):OwnO B w' v l:=by
 obtain⟨us,h1,h2,h3,h4⟩:=h
 exact⟨us,h1.below hw,h2.below hw,h3.below hw,fun u hu=>(h4 u hu).below hw⟩
theorem OwnO.mono {B B':Nat} {w:World} {v:Value} {l:List Co} (h:OwnO B w v l) (hB:B'≤B):OwnO B' w v l:=by
 obtain⟨us,h1,h2,h3,h4⟩:=h
 exact⟨us,h1,h2,h3.mono hB,fun u hu=>(h4 u hu).mono hB⟩
theorem LiesR.set {n:Nat} {w:World} {a:Option Addr} {k cap b o:Nat} {R:List (List Value)} (h:LiesR n w (.slice a k cap) R) (ha:a=some ⟨b,o,none⟩) {i c:Nat} (hi:i<R.length) (hc:c<n) (u:Value) (hu:u.oneCell'=true):
    LiesR n (w.setCell ⟨b,o+i*n+c,none⟩ u) (.slice a k cap) (R.set i (R[i].set c u)):=by
 obtain⟨a',cap',hv,h1,h2,h4,h3⟩:=h
 injection hv with e1 e2 e3
 subst e1;subst e2;subst e3;refine⟨a,cap,by simp,by simpa using h1,by simpa using h2,?_,fun j hj=>?_⟩
 · intro r hr
   rcases List.mem_or_eq_of_mem_set hr with hr|rfl
   · exact h4 r hr
   · refine⟨by rw[List.length_set];exact(h4 _ (List.getElem_mem hi)).1,fun x hx=>?_⟩
     rcases List.mem_or_eq_of_mem_set hx with hx|rfl
     · exact(h4 _ (List.getElem_mem hi)).2 x hx
     · exact hu
 · have hj':j<R.length:=by simpa using hj
   obtain⟨b',o',ha',hb',he⟩:=h3 j hj'
   rw[ha]at ha';injection ha' with ha'
   injection ha' with e1 e2
   subst e1;subst e2;refine⟨b,o,ha,by simpa using hb',fun d x hx=>?_⟩
   have hn:R[j].length=n:=(h4 _ (List.getElem_mem hj')).1;by_cases hij:i=j
   · subst hij
     rw[List.getElem_set_self]at hx;by_cases hcd:c=d
     · subst hcd
       rw[List.getElem?_set_self (by rw[hn];exact hc)]at hx;injection hx with hx
       subst hx;have hold:=he c (R[i][c]'(by rw[hn];exact hc)) (List.getElem?_eq_getElem _);exact World.cell?_setCell_same' _ _ _ (by rw[hold];rfl)
     · rw[List.getElem?_set_ne hcd]at hx
       rw[World.cell?_setCell_other (h:=fun e=>hcd (by injection e with _ e2;omega))];exact he d x hx
   · rw[List.getElem_set_ne hij]at hx
     have hd:d<n:=by
      have:=(List.getElem?_eq_some_iff.1 hx).1
      rw[hn]at this;exact this
     rw[World.cell?_setCell_other (h:=fun e=>by
      injection e with _ e2
      rcases Nat.lt_or_ge i j with h|h
      · have h5:(i+1)*n≤j*n:=Nat.mul_le_mul_right n h
        rw[Nat.add_mul]at h5;omega
      · have h5:(j+1)*n≤i*n:=Nat.mul_le_mul_right n (by omega)
        rw[Nat.add_mul]at h5;omega)]
     exact he d x hx
/-- The first k changes are copied. -/
def Cl (N:Nat) (ga:Value) (wr:World) (l:List Co) (us0 us:List Value) (k:Nat):Prop:=us.length=l.length∧
 (∀(j:Nat) (c:Co) (u:Value),j<k→l[j]?=some c→us[j]?=some u→LiesC wr u c.ch∧Own N wr u∧ ∀b,u.ownBlock=some b→ga.ownBlock≠some b)∧ ∀j,k≤j→us[j]?=us0[j]?
theorem Cl.below {N:Nat} {ga:Value} {w w':World} {l:List Co} {us0 us:List Value} {k:Nat} (h:Cl N ga w l us0 us k) (hw:Below w.heap.size w w'):Cl N ga w' l us0 us k:=
 ⟨h.1,fun j c u hj hc hu=>⟨(h.2.1 j c u hj hc hu).1.below hw,(h.2.1 j c u hj hc hu).2.1.below hw,(h.2.1 j c u hj hc hu).2.2⟩,h.2.2⟩
theorem Cl.next {N:Nat} {w:World} {l:List Co} {us0 us:List Value} {k b o x n cap:Nat} {u:Value} (h:Cl N (.slice (some ⟨b,o,none⟩) n cap) w l us0 us k) (hk:k<l.length) (hu:LiesC w u l[k].ch) (ho:Own N w u) (hne: ∀g,u.ownBlock=some g→b≠g):
    Cl N (.slice (some ⟨b,o,none⟩) n cap) (w.setCell ⟨b,x,none⟩ u) l us0 (us.set k u) (k+1):=by
 obtain⟨h1,h2,h3⟩:=h
 refine⟨by rw[List.length_set];exact h1,fun j c y hj hc hy=>?_,fun j hj=>?_⟩
 · by_cases hjk:k=j
   · subst hjk
     rw[List.getElem?_set_self (by omega)]at hy;injection hy with hy
     subst hy;rw[List.getElem?_eq_getElem hk]at hc;injection hc with hc
     subst hc;exact⟨hu.nbo (nb_set _ _ _ _) (fun g hg e=>hne g hg e.symm),ho.setCell _ _ _,fun g hg e=>hne g hg (by simpa[Value.ownBlock]using e)⟩
   · rw[List.getElem?_set_ne hjk]at hy
     obtain⟨g1,g2,g3⟩:=h2 j c y (by omega) hc hy
     exact⟨g1.nbo (nb_set _ _ _ _) (fun g hg e=>g3 g hg (by simp[Value.ownBlock,e])),g2.setCell _ _ _,g3⟩
 · rw[List.getElem?_set_ne (by omega)]
   exact h3 j (by omega)
theorem Cl.done {N:Nat} {ga:Value} {w:World} {l:List Co} {us0 us:List Value} (h:Cl N ga w l us0 us l.length):ChsAt w l us∧ ∀u∈us,Own N w u:=by
 obtain⟨h1,h2,_⟩:=h
 refine⟨⟨h1,fun i c u hc hu=>(h2 i c u (List.getElem?_eq_some_iff.1 hc).1 hc hu).1⟩,fun u hu=>?_⟩
 obtain⟨i,hi⟩:=List.getElem?_of_mem hu
 have hil:i<l.length:=by have:=(List.getElem?_eq_some_iff.1 hi).1;omega
 exact(h2 i _ u hil (List.getElem?_eq_getElem hil) hi).2.1
set_option maxRecDepth 100000 in
set_option maxHeartbeats 1000000 in
theorem ownCommits_any (l:List Co) (v:Value) (w:World) (hv:LiesO w v l) (hn:l.length≤1000) (hcl: ∀c∈l,c.ch.length≤1000000000):
    Calls Tryz.prog 121 #[v] w fun e w'=> ∃u,e= .returned u∧OwnO w.heap.size w' u l∧Below w.heap.size w w':=by
 have HV:=hid hv;have HCL0:=hid hcl;clear hcl;obtain⟨us0,hch0,hR0⟩:=liesO_rows hv
 have HCH0:=hid hch0;have HR0:=hid hR0;have hl0:=hch0.1;obtain⟨_,_,rfl,_⟩:=hv
 clear hch0 hR0;go_enter Tryz.func121,Tryz.ntmps121
 go_wp2_with fail;refine(cloneO (rowsO l us0) _ _ HR0.out (by rw[rowsO_len hl0];omega)).mono ?_
 rintro e w1 ⟨u,rfl,hR1,hO1,hb1⟩;have HR1:=hid hR1;have HO1:=hid hO1;have hlr:=rowsO_len hl0;obtain⟨ga,gcap,rfl,hg1,_⟩:=hR1
 rw[hlr]at HR1 HO1 hg1⊢;clear hO1;go_wp2_with fail;go_loopw [9] (fun i wr=> ∃(k:Nat) (us:List Value),k≤l.length∧i= .int .i64 k∧Hid (LiesR 3 wr (.slice ga l.length gcap) (rowsO l us))∧Hid (Own w.heap.size wr (.slice ga l.length gcap))∧Hid (Cl w.heap.size (.slice ga l.length gcap) wr l us0 us k)∧Below w.heap.size w wr) (fun i _=>l.length-(intOf i).toNat)
 case atStart=>exact⟨0,us0,Nat.zero_le _,rfl,HR1,HO1,⟨hl0,fun j c u hj=>absurd hj (Nat.not_lt_zero _),fun j _=>rfl⟩,hb1⟩
 case round=>
  obtain⟨k,us,hk,rfl,HR,HO,HCL,hbel⟩:=hrel
  clear HR1 HO1;by_cases hlt:k<l.length
  · have hul:=HCL.out.1
    have hkr:k<(rowsO l us).length:=by rw[rowsO_len hul];exact hlt
    have hrk:=rowsO_at hul hlt;rw[List.getElem?_eq_getElem hkr]at hrk;injection hrk with hrk
    obtain⟨a',cap',hv',_,_,_,hat⟩:=HR.out
    injection hv' with e1 e2 e3
    subst e1;clear e2 e3;obtain⟨b,o,hga,hb,he⟩:=hat k hkr
    subst hga;rw[hrk]at he;have c2:=he 2 _ rfl
    have hus:us[k]'(by omega)=us0[k]'(by omega):=by
     have:=HCL.out.2.2 k (Nat.le_refl _)
     rw[List.getElem?_eq_getElem (by omega),List.getElem?_eq_getElem (by omega)]at this;injection this
    rw[hus]at c2;have hLC:=HCH0.out.2 k l[k] (us0[k]'(by omega)) (List.getElem?_eq_getElem hlt) (List.getElem?_eq_getElem (by omega));have HLC:=hid (liesR_ch.1 (hLC.below hbel));have HLN:=hid (show((l[k]).ch.map Pp.chC).length≤1000000000000 from by rw[List.length_map];exact Nat.le_trans (HCL0.out _ (List.getElem_mem hlt)) (by decide));obtain⟨xa,xc,hx,_⟩:=hLC
    rw[hx]at c2 HLC;have HRK:=hid hrk;have HNX:Hid (∀(w':World) (y:Value),Cl w.heap.size (.slice (some ⟨b,o,none⟩) l.length gcap) w' l us0 us k→LiesC w' y (l[k]).ch→Own w.heap.size w' y→(∀g,y.ownBlock=some g→b≠g)→Cl w.heap.size (.slice (some ⟨b,o,none⟩) l.length gcap) (w'.setCell ⟨b,o+k*3+2,none⟩ y) l us0 (us.set k y) (k+1)):=(fun w' y h1 h2 h3 h4=>h1.next hlt h2 h3 h4:_)
    have HRS:=hid (show∀y,(rowsO l us).set k (((rowsO l us)[k]).set 2 y)=rowsO l (us.set k y)from fun y=>by rw[hrk,←rowsO_set hul hlt];rfl);clear hrk hat he hus hx;generalize hchk:(l[k]).ch=chk at*;clear hchk;go_wp2_with fail;refine(cloneC (chk.map Pp.chC) _ _ HLC.out HLN.out).mono ?_
    rintro e w2 ⟨y,rfl,hR2,hO2,hb2⟩;have HLY:=hid (liesR_ch.2 hR2);have HOY:=hid hO2;obtain⟨ya,yc,rfl,_⟩:=HLY.out
    have HR2:=hid (HR.out.below hb2);have HO2:=hid (HO.out.below hb2);have HCL2:=hid (HCL.out.below hb2);have hb02:=below_tr hbel hb2;have hNb:w.heap.size≤b:=(HO.out b rfl).1;obtain⟨_,cur,TT,hcur⟩:=HO2.out b rfl
    have hfr:w2.frozen? ⟨b,o+k*3+2,none⟩=false:=by simp[World.frozen?,hcur]
    have d2:=(hb2.cell (p:=⟨b,o+k*3+2,none⟩) hb).trans c2;have HNE:=hid (show∀g,(Value.slice ya chk.length yc).ownBlock=some g→b≠g from fun g hg=>by have:=(HOY.out g hg).1;omega);have HOY2:=hid (HOY.out.mono (Nat.le_trans hNb (Nat.le_of_lt hb)));have HC3:=hid (HNX.out w2 _ HCL2.out HLY.out HOY2.out HNE.out);have HR3:=HR2.out.set rfl hkr (by decide:2<3) (.slice ya chk.length yc) rfl;rw[HRS.out]at HR3;have HR4:=hid HR3;have HO3:=hid (HO2.out.setCell b (o+k*3+2) (.slice ya chk.length yc));have hb03:Below w.heap.size w (w2.setCell ⟨b,o+k*3+2,none⟩ (.slice ya chk.length yc)):=hb02.setCell (p:=⟨b,o+k*3+2,none⟩) hNb _;clear hR2 hO2 HR3 hcur HNX HRS HRK;go_wp2_with fail;go_roundw
    case rel=>exact⟨k+1,_,by omega,by simp,HR4,HO3,HC3,hb03⟩
    case measure=>simp[intOf];omega
  · obtain rfl:k=l.length:=by omega
    obtain⟨h1,h2⟩:=HCL.out.done
    have HD:=hid (show OwnO w.heap.size wr (.slice ga l.length gcap) l from⟨us,h1,HR.out,HO.out,h2⟩);clear h1 h2;go_wp2_with fail;go_ret;exact⟨_,rfl,HD.out,hbel⟩
theorem OwnO.nbo {B:Nat} {W W':World} {v:Value} {l:List Co} {g:Nat} (h:OwnO B W v l) (hw:W.grownBy W' (some g)) (hg:g<B):OwnO B W' v l:=by
 obtain⟨us,h1,h2,h3,h4⟩:=h
 have k3: ∀b,v.ownBlock=some b→b≠g:=fun b hb=>by have:=(h3 b hb).1;omega
 have k4: ∀u∈us,∀b,u.ownBlock=some b→b≠g:=fun u hu b hb=>by have:=(h4 u hu b hb).1;omega
 exact⟨us,⟨h1.1,fun i c u hc hu=>(h1.2 i c u hc hu).nbo hw (k4 u (List.mem_of_getElem? hu))⟩,h2.nbo hw k3,h3.nb hw k3,fun u hu=>(h4 u hu).nb hw (k4 u hu)⟩
/-- A journal in memory of the caller's own. -/
def OwnJ (B:Nat) (w:World) (v:Value) (J:Jo):Prop:= ∃vb vc,v= .agg #[vb,.int .i64 J.first,vc]∧Lies w vb J.base∧Own B w vb∧OwnO B w vc J.cos
theorem OwnJ.lies {B:Nat} {w:World} {v:Value} {J:Jo} (h:OwnJ B w v J):LiesJ w v J:=by
 obtain⟨vb,vc,h1,h2,_,h4⟩:=h
 exact⟨vb,vc,h1,h2,h4.lies⟩
theorem OwnJ.below {B:Nat} {w w':World} {v:Value} {J:Jo} (h:OwnJ B w v J) (hw:Below w.heap.size w w'):OwnJ B w' v J:=by
 obtain⟨vb,vc,h1,h2,h3,h4⟩:=h
 exact⟨vb,vc,h1,h2.below hw,h3.below hw,h4.below hw⟩
theorem OwnJ.mono {B B':Nat} {w:World} {v:Value} {J:Jo} (h:OwnJ B w v J) (hB:B'≤B):OwnJ B' w v J:=by
 obtain⟨vb,vc,h1,h2,h3,h4⟩:=h
 exact⟨vb,vc,h1,h2,h3.mono hB,h4.mono hB⟩
set_option maxRecDepth 100000 in
set_option maxHeartbeats 1000000 in
theorem ownJournal_any (J:Jo) (v:Value) (w:World) (hv:LiesJ w v J) (hn:J.cos.length≤1000) (hbn:J.base.length≤1000) (hcl: ∀c∈J.cos,c.ch.length≤1000000000):
    Calls Tryz.prog 84 #[v] w fun e w'=> ∃u,e= .returned u∧OwnJ w.heap.size w' u J∧Below w.heap.size w w':=by
 obtain⟨vb,vc,rfl,hvb,hvc⟩:=hv
 have HVB:=hid hvb;have HVC:=hid hvc;have HCL:=hid hcl;obtain⟨ba,bc,rfl,_⟩:=hvb
 obtain⟨ca,cc,rfl,_⟩:=hvc
 clear hcl;obtain⟨wz,hwz⟩: ∃wz,wz=(w.alloc (.cells #[.slice ba J.base.length bc,.int .i64 J.first,.slice ca J.cos.length cc] 88)).alloc (.cells #[.slice none 0 0,.int .i64 0,.slice none 0 0] 88):=⟨_,rfl⟩
 have hbz:Below w.heap.size w wz:=by rw[hwz];exact((Below.refl _ _).alloc (Nat.le_refl _) _).alloc (by simp) _
 have HBX:=hid (show Cs wz w.heap.size [.slice ba J.base.length bc,.int .i64 J.first,.slice ca J.cos.length cc]from by rw[hwz];exact(Cs.new w [.slice ba J.base.length bc,.int .i64 J.first,.slice ca J.cos.length cc] _).below ((Below.refl _ _).alloc (Nat.le_refl _) _))
 have HBY:=hid (show Cs wz (w.heap.size+1) [.slice none 0 0,.int .i64 0,.slice none 0 0]from by
  have:=Cs.new (w.alloc (.cells #[.slice ba J.base.length bc,.int .i64 J.first,.slice ca J.cos.length cc] 88)) [.slice none 0 0,.int .i64 0,.slice none 0 0] 88
  rw[hwz];simpa using this)
 go_enter Tryz.func84,Tryz.ntmps84
 go_wp2_with fail;rw[←hwz];clear hwz;refine(cloneE (J.base.map Pp.cells) _ _ (liesR_en.1 (HVB.out.below hbz)) (by simp;omega)).mono ?_
 rintro e w1 ⟨u1,rfl,hR1,hO1,hb1⟩;have HL1:=hid (liesR_en.2 hR1);have HO1:=hid hO1;obtain⟨xa,xc,rfl,_⟩:=HL1.out
 have hNz:w.heap.size+1<wz.heap.size:=HBY.out.lt;have hs1:=hb1.size;have HB1:=hid (HBX.out.below hb1);have c0:=HB1.out.cell 0 rfl;have f0:=HB1.out.fr 0;have d2:=HB1.out.cell 2 rfl;obtain⟨w2,hw2⟩: ∃w2,w2=w1.setCell ⟨w.heap.size,0,none⟩ (.slice xa J.base.length xc):=⟨_,rfl⟩
 have hs2:w2.heap.size=w1.heap.size:=by rw[hw2];simp
 have HB2:=hid (show Cs w2 w.heap.size [.slice xa J.base.length xc,.int .i64 J.first,.slice ca J.cos.length cc]from by rw[hw2];exact HB1.out.set 0 _);have HY2:=hid (show Cs w2 (w.heap.size+1) [.slice none 0 0,.int .i64 0,.slice none 0 0]from by rw[hw2];exact(HBY.out.below hb1).other (by omega) _);have HL2:=hid (show Lies w2 (.slice xa J.base.length xc) J.base from by rw[hw2];exact HL1.out.nbo (nb_set _ _ _ _) (fun b hb=>by have:=(HO1.out b hb).1;omega));have HO2:=hid (show Own wz.heap.size w2 (.slice xa J.base.length xc)from by rw[hw2];exact HO1.out.setCell _ _ _);have hb2:Below w.heap.size w w2:=by rw[hw2];exact(below_tr hbz hb1).setCell (p:=⟨w.heap.size,0,none⟩) (Nat.le_refl _) _
 clear hR1 hO1;go_wp2_with fail;rw[←hw2];clear hw2 c0 f0 d2;refine(ownCommits_any J.cos _ _ (HVC.out.below hb2) hn HCL.out).mono ?_
 rintro e w3 ⟨u3,rfl,hO3,hb3⟩;have HO3:=hid hO3;obtain⟨us3,hch3,⟨ya,yc,hy,_⟩,_⟩:=hO3
 rw[rowsO_len hch3.1]at hy;subst hy;clear hch3;have hs3:=hb3.size;have HB3:=hid (HB2.out.below hb3);have HY3:=hid (HY2.out.below hb3);have c0:=HB3.out.cell 0 rfl;have c1:=HB3.out.cell 1 rfl;have c2:=HB3.out.cell 2 rfl;have f2:=HB3.out.fr 2;have y0:=HY3.out.cell 0 rfl;have y1:=HY3.out.cell 1 rfl;have y2:=HY3.out.cell 2 rfl;have g0:=HY3.out.fr 0;have g1:=HY3.out.fr 1;have g2:=HY3.out.fr 2;have hb03:=below_tr hb2 hb3;have HL3:=hid (HL2.out.below hb3);have HOB3:=hid (HO2.out.below hb3);have hne: ¬w.heap.size=w.heap.size+1:=by omega
 go_wp2_with fail;refine bodyPost_ret (v:= .agg #[.slice xa J.base.length xc,.int .i64 J.first,.slice ya J.cos.length yc]) (by simp[results,Tryz.results84,go_sem,y0,y1,y2]) rfl ⟨_,rfl,?_,?_⟩
 · have k0: ∀b,(Value.slice xa J.base.length xc).ownBlock=some b→b≠w.heap.size:=fun b hb=>by have:=(HOB3.out b hb).1;omega
   have k1: ∀b,(Value.slice xa J.base.length xc).ownBlock=some b→b≠w.heap.size+1:=fun b hb=>by have:=(HOB3.out b hb).1;omega
   refine⟨_,_,rfl,(((HL3.out.nbo (nb_set _ _ _ _) k0).nbo (nb_set _ _ _ _) k1).nbo (nb_set _ _ _ _) k1).nbo (nb_set _ _ _ _) k1,((((HOB3.out.setCell _ _ _).setCell _ _ _).setCell _ _ _).setCell _ _ _).mono (by omega),?_⟩
   exact((((HO3.out.nbo (nb_set _ _ _ _) (by omega)).nbo (nb_set _ _ _ _) (by omega)).nbo (nb_set _ _ _ _) (by omega)).nbo (nb_set _ _ _ _) (by omega)).mono (by omega)
 · exact(((hb03.setCell (p:=⟨w.heap.size,2,none⟩) (Nat.le_refl _) _).setCell (p:=⟨w.heap.size+1,0,none⟩) (Nat.le_succ _) _).setCell (p:=⟨w.heap.size+1,1,none⟩) (Nat.le_succ _) _).setCell (p:=⟨w.heap.size+1,2,none⟩) (Nat.le_succ _) _
set_option maxRecDepth 100000 in
set_option maxHeartbeats 1000000 in
theorem kJournal_any (J:Jo) (b:Nat) (vb vc vt vm:Value) (w:World) (hk:Cs w b [vb,.int .i64 J.first,vc,vt,vm]) (hvb:Lies w vb J.base) (hvc:LiesO w vc J.cos) (hn:J.cos.length≤1000) (hbn:J.base.length≤1000) (hcl: ∀c∈J.cos,c.ch.length≤1000000000):
    Calls Tryz.prog 167 #[.pointer (some ⟨b,0,none⟩)] w fun e w'=> ∃u,e= .returned u∧OwnJ w.heap.size w' u J∧Below w.heap.size w w':=by
 have HVB:=hid hvb;have HVC:=hid hvc;have HCL:=hid hcl;have hbl:=hk.lt;have k0:=hk.cell 0 rfl;have k1:=hk.cell 1 rfl;have k2:=hk.cell 2 rfl;obtain⟨ba,bc,rfl,_⟩:=hvb
 obtain⟨ca,cc,rfl,_⟩:=hvc
 clear hcl hk;obtain⟨wz,hwz⟩: ∃wz,wz=w.alloc (.cells #[.slice none 0 0,.int .i64 0,.slice none 0 0] 88):=⟨_,rfl⟩
 have hbz:Below w.heap.size w wz:=by rw[hwz];exact(Below.refl _ _).alloc (Nat.le_refl _) _
 have HBY:=hid (show Cs wz w.heap.size [.slice none 0 0,.int .i64 0,.slice none 0 0]from by rw[hwz];exact Cs.new w [.slice none 0 0,.int .i64 0,.slice none 0 0] _);have hlz:=HBY.out.lt;go_enter Tryz.func167,Tryz.ntmps167
 go_wp2_with fail;rw[←hwz];clear hwz;refine(ownJournal_any J _ _ ⟨_,_,rfl,HVB.out.below hbz,HVC.out.below hbz⟩ hn hbn HCL.out).mono ?_
 rintro e w1 ⟨u1,rfl,⟨xb,xc,rfl,hxb,hxo,hxc⟩,hb1⟩;have HXB:=hid hxb;have HXO:=hid hxo;have HXC:=hid hxc;obtain⟨ea,ec,rfl,_⟩:=hxb
 obtain⟨us3,hch3,⟨ya,yc,hy,_⟩,_⟩:=hxc
 rw[rowsO_len hch3.1]at hy;subst hy;have HY:=hid (HBY.out.below hb1);have y0:=HY.out.cell 0 rfl;have y1:=HY.out.cell 1 rfl;have y2:=HY.out.cell 2 rfl;have g0:=HY.out.fr 0;have g1:=HY.out.fr 1;have g2:=HY.out.fr 2;have hb01:=below_tr hbz hb1;clear hxo hch3;go_wp2_with fail;refine bodyPost_ret (v:= .agg #[.slice ea J.base.length ec,.int .i64 J.first,.slice ya J.cos.length yc]) (by simp[results,Tryz.results167,go_sem,y0,y1,y2]) rfl ⟨_,rfl,?_,?_⟩
 · have k0: ∀b,(Value.slice ea J.base.length ec).ownBlock=some b→b≠w.heap.size:=fun b hb=>by have:=(HXO.out b hb).1;omega
   refine⟨_,_,rfl,((HXB.out.nbo (nb_set _ _ _ _) k0).nbo (nb_set _ _ _ _) k0).nbo (nb_set _ _ _ _) k0,(((HXO.out.setCell _ _ _).setCell _ _ _).setCell _ _ _).mono (by omega),?_⟩
   exact(((HXC.out.nbo (nb_set _ _ _ _) (by omega)).nbo (nb_set _ _ _ _) (by omega)).nbo (nb_set _ _ _ _) (by omega)).mono (by omega)
 · exact((hb01.setCell (p:=⟨w.heap.size,0,none⟩) (Nat.le_refl _) _).setCell (p:=⟨w.heap.size,1,none⟩) (Nat.le_refl _) _).setCell (p:=⟨w.heap.size,2,none⟩) (Nat.le_refl _) _
set_option maxRecDepth 100000 in
set_option maxHeartbeats 1000000 in
theorem kLast_any (fi:Int) (n cap b:Nat) (vb vt vm:Value) (ca:Option Addr) (w:World) (hk:Cs w b [vb,.int .i64 fi,.slice ca n cap,vt,vm]) (h1:1≤fi) (h2:fi≤2000000) (hn:n≤1000):
    Calls Tryz.prog 124 #[.pointer (some ⟨b,0,none⟩)] w fun e w'=>e= .returned (.int .i64 (fi-1+n))∧Below w.heap.size w w':=by
 have k1:=hk.cell 1 rfl;have k2:=hk.cell 2 rfl;have e1:IntKind.i64.wrap (fi-1)=fi-1:=by rw[IntKind.wrap_i64];omega
 have e2:IntKind.i64.wrap (fi-1+(n:Int))=fi-1+n:=by rw[IntKind.wrap_i64];omega
 clear hk;go_enter Tryz.func124,Tryz.ntmps124
 go_wp2_with fail;go_region
 go_wp2_with fail;go_ret;exact⟨rfl,(Below.refl _ _).drew⟩
theorem CoAt.ne {W:World} {b o g:Nat} {c:Co} (h:CoAt W b o c) (hn:NoStr W g):b≠g:=fun hb=>hn (o+1) c.ke (hb▸h.2.1)
theorem LiesO.nb {W W':World} {v:Value} {L:List Co} {g:Nat} (h:LiesO W v L) (hw:W.grownBy W' (some g)) (hn:NoStr W g):LiesO W' v L:=by
 obtain⟨a,cap,hv,h1,h2,h3⟩:=h
 refine⟨a,cap,hv,h1,h2,fun i hi=>?_⟩
 obtain⟨b,o,ha,hb,he⟩:=h3 i hi
 have c:=cell_nb hw hb (he.ne hn);obtain⟨e0,e1,u,e2,hu⟩:=he
 exact⟨b,o,ha,Nat.lt_of_lt_of_le hb hw.size,(c _).trans e0,(c _).trans e1,u,(c _).trans e2,hu.nb hw hn⟩
theorem liesO_tail {w:World} {g o n cap:Nat} {c:Co} {cs:List Co} (h:LiesO w (.slice (some ⟨g,o,none⟩) n cap) (c::cs)):LiesO w (.slice (some ⟨g,o+3,none⟩) cs.length (cap-1)) cs:=by
 obtain⟨a,cap',hv,h1,h2,h3⟩:=h
 injection hv with e1 e2 e3
 subst e1;subst e3;simp only[List.length_cons]at h1 h2;refine⟨_,_,rfl,by omega,by omega,fun i hi=>?_⟩
 obtain⟨b,o',hb,hl,he⟩:=h3 (i+1) (by simpa using hi)
 injection hb with hb
 injection hb with e4 e5
 subst e4;subst e5;refine⟨g,o+3,rfl,hl,?_⟩
 rw[show o+3+i*3=o+(i+1)*3 by omega];simpa using he
set_option maxHeartbeats 400000 in
theorem clip_any (a:Option Addr) (n cap:Nat) (w:World) (hn:n≤cap):
    Calls Tryz.prog 203 #[.slice a n cap] w fun e w'=>e= .returned (.slice a n n)∧w'=w:=by
 have h1:(n:Int)≤cap:=by omega
 go_enter Tryz.func203,Tryz.ntmps203
 go_wp2_with fail;go_ret;exact⟨rfl,rfl⟩
set_option maxRecDepth 100000 in
set_option maxHeartbeats 4000000 in
theorem forget_any (base:List En) (fi:Int) (c:Co) (cs:List Co) (b:Nat) (vb va vt vm:Value) (B:Nat) (w:World) (hk:Cs w b [vb,.int .i64 fi,va,vt,vm]) (hno: ∀s,Value.string s∉[vb,.int .i64 fi,va,vt,vm]) (hvb:Lies w vb base) (hva:LiesO w va (c::cs)) (h1:1≤cs.length) (hs:Sized base) (hcs:SizedC 150000000000000 c.ch) (hfi:1≤fi) (hfi2:fi≤1000000) (h0:Pp.allE base c.ch fi=0) (hB:B≤b):
    Calls Tryz.prog 204 #[.pointer (some ⟨b,0,none⟩)] w fun e w'=>e= .returned (.tuple #[])∧Below B w w'∧ ∃vb' va',Cs w' b [vb',.int .i64 (fi+1),va',vt,vm]∧Lies w' vb' (Pp.allR base c.ch fi)∧LiesO w' va' cs:=by
 have HK:=hid hk;have HVB:=hid hvb;have HVA:=hid hva;have HS:=hid hs;have HCS:=hid hcs;have H0:=hid h0;have hbl:=hk.lt;have k0:=hk.cell 0 rfl;have k1:=hk.cell 1 rfl;have k2:=hk.cell 2 rfl;have f0:=hk.fr 0;have HNO:=hid hno;obtain⟨ba,bcap,rfl,_⟩:=hvb
 obtain⟨aa,acap,rfl,hacap,hacap2,hat⟩:=hva
 obtain⟨g,o,rfl,hg,c0,c1,u,c2,hu⟩:=hat 0 (by simp)
 have HU:=hid hu;obtain⟨ua,ucap,rfl,_⟩:=hu
 simp only[Nat.zero_mul,Nat.add_zero,List.getElem_cons_zero,List.length_cons]at c0 c1 c2 hacap hacap2 k2⊢;have hlen:(0:Int)<((cs.length+1:Nat):Int):=by omega
 clear hk hs hcs h0 hat hno;go_enter Tryz.func204,Tryz.ntmps204
 go_upto_region 0 with fail;go_cut [0] (fun x wx=>x= .pointer (some ⟨b,0,none⟩)∧ ∃vb',Hid (Cs wx b [vb',.int .i64 fi,.slice (some ⟨g,o,none⟩) (cs.length+1) acap,vt,vm])∧Hid (Lies wx vb' (Pp.allR base c.ch fi))∧Hid (LiesO wx (.slice (some ⟨g,o,none⟩) (cs.length+1) acap) (c::cs))∧Below B w wx)
 case first=>
  go_region_with (go_at_call 143;refine(tall_any base _ c.ch _ fi _ (HVB.out.below (Below.refl _ _).drew) HS.out (HU.out.below (Below.refl _ _).drew) HCS.out).mono ?_;rintro e wa ⟨r,rfl,hli,hba⟩;rw[H0.out];have hwa:Below w.heap.size w wa:=((Below.refl _ _).drew).trans hba;have d0:=(hwa.cell (p:=⟨b,0,none⟩) hbl).trans k0;have e0:=(hwa.frozen (p:=⟨b,0,none⟩) hbl).trans f0;have HLI:=hid hli;obtain⟨ra,rcap,rfl,_⟩:=hli)
  all_goals
   have HKA:=HK.out.below hwa;have HN:=HKA.noStr HNO.out;go_wp2_with fail;go_meet
   case rel=>exact⟨rfl,_,HKA.set 0 _,HLI.out.nb (nb_set _ _ _ _) HN,(HVA.out.below hwa).nb (nb_set _ _ _ _) HN,(hwa.mono (by omega)).setCell (p:=⟨b,0,none⟩) hB _⟩
 case rest=>
  obtain⟨rfl,vb',HC,HL,HO,hbx⟩:=hcut
  have hl:=HC.out.lt;have HL2:=hid HL.out;obtain⟨xa,xcap,rfl,_⟩:=HL.out
  have m0:=HC.out.cell 0 rfl;have m1:=HC.out.cell 1 rfl;have m2:=HC.out.cell 2 rfl;have n1:=HC.out.fr 1;have n2:=HC.out.fr 2;have hw1:IntKind.i64.wrap (fi+1)=fi+1:=by rw[IntKind.wrap_i64];omega
  have hcap1: ¬acap=1:=by omega
  have hcap3:(1:Int)≤acap:=by omega
  have hcap4:(1:Int)≤((cs.length+1:Nat):Int):=by omega
  have HN0:=hid (show∀s,Value.string s∉[.slice xa (Pp.allR base c.ch fi).length xcap,.int .i64 fi,.slice (some ⟨g,o,none⟩) (cs.length+1) acap,vt,vm]from fun s hs=>by
   simp only[List.mem_cons,List.not_mem_nil,or_false]at hs;rcases hs with h|h|h|h|h
   · cases h
   · cases h
   · cases h
   · exact HNO.out s (by simp[h])
   · exact HNO.out s (by simp[h]))
  have HC1:Hid (Cs (wc.setCell ⟨b,1,none⟩ (.int .i64 (fi+1))) b [.slice xa (Pp.allR base c.ch fi).length xcap,.int .i64 (fi+1),.slice (some ⟨g,o,none⟩) (cs.length+1) acap,vt,vm]):=HC.out.set 1 _
  have HN1:=hid (show∀s,Value.string s∉[.slice xa (Pp.allR base c.ch fi).length xcap,.int .i64 (fi+1),.slice (some ⟨g,o,none⟩) (cs.length+1) acap,vt,vm]from fun s hs=>HN0.out s (by
   simp only[List.mem_cons,List.not_mem_nil,or_false]at hs⊢;rcases hs with h|h|h|h|h
   · exact Or.inl h
   · cases h
   · exact Or.inr (Or.inr (Or.inl h))
   · exact Or.inr (Or.inr (Or.inr (Or.inl h)))
   · exact Or.inr (Or.inr (Or.inr (Or.inr h)))))
  have HT:=hid (liesO_tail HO.out);clear m0;go_wp2_with fail;go_end0
  refine⟨rfl,(hbx.setCell (p:=⟨b,1,none⟩) hB _).setCell (p:=⟨b,2,none⟩) hB _,_,_,HC1.out.set 2 _,(HL2.out.nb (nb_set _ _ _ _) (HC.out.noStr HN0.out)).nb (nb_set _ _ _ _) (HC1.out.noStr HN1.out),(HT.out.nb (nb_set _ _ _ _) (HC.out.noStr HN0.out)).nb (nb_set _ _ _ _) (HC1.out.noStr HN1.out)⟩
theorem append_full {P:Program} (w:World) (t ty e:TypeId) (i:TypeInfo) (z:Value) (size bytes:Nat) (ht:P.underlying t=some (.slice e)) (hi:P.info? e=some i) (hz:i.zero=some z)
    (hsize:i.size=size) (hby:i.bytes=bytes) (hzs:z.cells.size=size) (hsz:0<size) (a:Option Addr) (R:List (List Value)) (hR:LiesR size w (.slice a R.length R.length) R)
    (ad:Addr) (c:Nat) (r:List Value) (hr:r.length=size∧ ∀u∈r,u.oneCell'=true) (hnews: ∀j u,r[j]?=some u→w.cell? (ad.add j)=some u) (hn:R.length≤1000000000) (hb:bytes≤1000):
    ∃v' w',(Builtin.append_ #[t,t] ty #[.slice a R.length R.length,.slice (some ad) 1 c]).run P w= .ok v' w'∧LiesR size w' v' (R++[r])∧Own w.heap.size w' v'∧Below w.heap.size w w':=by
 subst hsize;subst hby;obtain⟨a',cap',hv,h1,h2,h4,h3⟩:=hR
 injection hv with e1 e2 e3
 subst e1
 have hrr: ∀x∈R++[r],x.length=i.size∧ ∀u∈x,u.oneCell'=true:=fun x hx=>by
  rcases List.mem_append.1 hx with hx|hx
  · exact h4 x hx
  · rw[List.mem_singleton]at hx;rw[hx];exact hr
 have hfl:R.flatten.length=R.length*i.size:=flatten_len (fun x hx=>(h4 x hx).1);have hmul:(R.length+1)*i.bytes≤(1000000000+1)*1000:=Nat.mul_le_mul (by omega) hb
 have fin: ∀cap,R.length+1≤cap→(w.drew.alloc (.cells (R.flatten.toArray++r.toArray++Builtin.zeroCells z.cells (cap-(R.length+1))) e)).ownsRow w.heap.size e i.size (.slice (some ⟨w.heap.size,0,none⟩) (R.length+1) cap) (R.length+1) (R++[r]).flatten→LiesR i.size (w.drew.alloc (.cells (R.flatten.toArray++r.toArray++Builtin.zeroCells z.cells (cap-(R.length+1))) e)) (.slice (some ⟨w.heap.size,0,none⟩) (R.length+1) cap) (R++[r])∧Own w.heap.size (w.drew.alloc (.cells (R.flatten.toArray++r.toArray++Builtin.zeroCells z.cells (cap-(R.length+1))) e)) (.slice (some ⟨w.heap.size,0,none⟩) (R.length+1) cap)∧Below w.heap.size w (w.drew.alloc (.cells (R.flatten.toArray++r.toArray++Builtin.zeroCells z.cells (cap-(R.length+1))) e)):=fun cap hcap ho=>
  ⟨liesR_own (by simpa using ho) (by simp;omega) hrr,own_row ho,((Below.refl _ _).drew).alloc (Nat.le_refl _) _⟩
 have own: ∀cap,R.length+1≤cap→cap≤maxLen→(w.drew.alloc (.cells (R.flatten.toArray++r.toArray++Builtin.zeroCells z.cells (cap-(R.length+1))) e)).ownsRow w.heap.size e i.size (.slice (some ⟨w.heap.size,0,none⟩) (R.length+1) cap) (R.length+1) (R++[r]).flatten:=fun cap hcap hcm=>by
  have hl:(R++[r]).flatten.length=(R.length+1)*i.size:=by
   rw[flatten_len (fun x hx=>(hrr x hx).1)];simp
  refine⟨hl,.inr ⟨w.heap.size,_,_,rfl,Nat.le_refl _,heap_alloc_new w.drew _,hcap,hcm,?_,?_⟩⟩
  · simp only[Array.size_append,List.size_toArray,size_zeroCells,hzs,hfl,hr.1]
    have:R.length*i.size+i.size+(cap-(R.length+1))*i.size=(R.length+1+(cap-(R.length+1)))*i.size:=by
     rw[Nat.add_mul,Nat.add_mul];omega
    rw[this];congr 1
    omega
  · simp only[Array.toList_append,List.append_assoc]
    rw[←hl];have e:R.flatten.toArray.toList++(r.toArray.toList++(Builtin.zeroCells z.cells (cap-(R.length+1))).toList)=(R++[r]).flatten++(Builtin.zeroCells z.cells (cap-(R.length+1))).toList:=by simp
    rw[e];exact List.take_left
 have hml:R.length+1≤maxLen:=by unfold maxLen;omega
 cases a with
 |none=>
  have hR0:R=[]:=by
   cases R with
   |nil=>rfl
   |cons s r=>obtain⟨b,o,hb,_⟩:=h3 0 (by simp);cases hb
  subst hR0;have hr2:=run_append_nil (P:=P) w t ty e i z ht hi hz ad 1 c r (by rw[hr.1,Nat.one_mul]) hnews (by decide) (by decide) (by simp at hmul⊢;omega);have hg:=own (grownCap w 1 0 e) (grownCap_ge w 1 0 e) (grownCap_le_maxLen w 1 0 e hml);have hf:=fin (grownCap w 1 0 e) (grownCap_ge w 1 0 e) hg;refine⟨_,_,hr2,?_⟩
  simpa using hf
 |some b0=>
  have holds: ∀j u,R.flatten[j]?=some u→w.cell? (b0.add j)=some u:=by
   cases R with
   |nil=>intro j u hj;simp at hj
   |cons s r=>
    obtain⟨b,o,hb,_⟩:=h3 0 (by simp)
    injection hb with hb
    subst hb
    exact liesR_cells hsz (fun r hr=>(h4 r hr).1) fun i hi=>by
     obtain⟨b',o',hb',_,he⟩:=h3 i hi
     injection hb' with hb'
     injection hb' with h1 h2
     subst h1;subst h2;exact he
  have hr2:=run_append_grow (P:=P) w t ty e i z ht hi hz b0 R.length R.length R.flatten hfl holds ad 1 c r (by rw[hr.1,Nat.one_mul]) hnews (by omega) (by omega) (growslice_fits (by omega) (by omega));have hg:=own (grownCap w (R.length+1) R.length e) (grownCap_ge w _ _ e) (grownCap_le_maxLen w _ _ e hml);exact⟨_,_,hr2,fin _ (grownCap_ge w _ _ e) hg⟩
/-- The same as one step of a region that draws. -/
theorem step_append_full {P:Program} {ops:Array Oper} {o:Oper} {a:Act} {w:World} {K:Act→World→Prop} {Q:Exit→Act→World→Prop} {E:Prop}
    (hg:o.guard=none) (s x:Operand) (t:TypeId) (hop:o.op=Op.call {callee:=Callee.builtin Builtin.append,args:= #[s,x],argTypes:= #[t,t]})
    (e:TypeId) (i:TypeInfo) (z:Value) (size bytes:Nat) (ht:P.underlying t=some (.slice e)) (hi:P.info? e=some i) (hz:i.zero=some z)
    (hsize:i.size=size) (hby:i.bytes=bytes) (hzs:z.cells.size=size) (hsz:0<size) (ao:Option Addr) (R:List (List Value)) (n:Nat) (hRn:R.length=n) (hs:a.eval s= .slice ao n n) (hR:LiesR size w (.slice ao n n) R)
    (ad:Addr) (c:Nat) (hx:a.eval x= .slice (some ad) 1 c) (r:List Value) (hr:r.length=size∧ ∀u∈r,u.oneCell'=true) (hnews: ∀j u,r[j]?=some u→w.cell? (ad.add j)=some u) (hn:R.length≤1000000000) (hb:bytes≤1000)
    (hK: ∀v' w',LiesR size w' v' (R++[r])∧Own w.heap.size w' v'∧Below w.heap.size w w'→K (a.put o.dst v') w'):
    if Region.wanted o (yielded ops a.tmps)=true then Oper.wp P o a w K Q else E:=by
 have hw:Region.wanted o (yielded ops a.tmps)=true:=by simp[Region.wanted,hg]
 rw[if_pos hw];subst hRn;obtain⟨v',w',hrun,h1⟩:=append_full (P:=P) w t o.type e i z size bytes ht hi hz hsize hby hzs hsz ao R hR ad c r hr hnews hn hb
 unfold Oper.wp;simp[execOp,hop,resolve,invoke,builtin,hs,hx,hrun,Result.andThen]
 exact hK _ _ h1
theorem LiesR.clip {n:Nat} {w:World} {a:Option Addr} {k cap:Nat} {R:List (List Value)} (h:LiesR n w (.slice a k cap) R):LiesR n w (.slice a k k) R:=by
 obtain⟨a',cap',hv,h1,h2,h3⟩:=h
 injection hv with e1 e2 e3
 subst e1;exact⟨a,k,by rw[e2],by omega,h2,h3⟩
end Go.Proofs.YtppdfeehhnofaaaGreatDoor
