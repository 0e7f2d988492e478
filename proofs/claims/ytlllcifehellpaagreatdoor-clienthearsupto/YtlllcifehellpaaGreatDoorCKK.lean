/- The paths that one of three has: a clone, and two maps laid into it. -/
import Derived.Test.YtlllcifehellpaaGreatDoorCKJ
import Derived.Test.YtlllcifehellpaaGreatDoorShelfC
import Derived.Shelf.SlMaps.Clone
import Derived.Lib.SlMapMerge
import Derived.Maps.Ext
import Derived.Maps.RangeWalk
import Derived.Laws.IdiomRangeMap
set_option linter.unusedSimpArgs false
set_option linter.unusedVariables false
namespace Go.Proofs.YtlllcifehellpaaGreatDoor
open Go.RowKit Go.Maps Go.WideMaps Go.Shelf

theorem Sp.rd_shape {v:Value} {y:DataW Unit×List MemPlace} (h:Sp.rd v=some y): ∃c:Spo,v=c.val:=by
 unfold Sp.rd at h;split at h
 · rename_i cs
   split at h
   · rename_i a t n hcs
     refine⟨⟨a,t,n⟩,?_⟩
     cases cs
     simp at hcs
     rw[hcs];rfl
   · cases h
 · cases h
theorem own_down {w:World} {B B':Nat} {e:TypeId} {size:Nat} {v:Value} {n:Nat} {xs:List Value} (h:w.ownsRow B e size v n xs) (hb:B'≤B):w.ownsRow B' e size v n xs:=by
 obtain⟨h1,h2⟩:=h
 refine⟨h1,?_⟩
 rcases h2 with h2|⟨g,cap,cur,rfl,hg,r⟩
 · exact .inl h2
 · exact .inr ⟨g,cap,cur,rfl,Nat.le_trans hb hg,r⟩
theorem merged_over {L M:List En} (hL:Sp.Rise L) (hM:Sp.Rise M) {Dout:DataW Unit} {left:Lit→Bool} (h:Merged Dout (Sp.D L) (Sp.D M) left) (hl: ∀k,left k=false) (hc:Canon Dout):Dout=Sp.D (Mg.over L M):=by
 have hr:=Mg.over_rise hL M;have aO:=Sp.apart_rise hr;have aL:=Sp.apart_rise hL;have aM:=Sp.apart_rise hM;have hat:=fun p=>Mg.at_over hL M aM p
 have hiff: ∀k,has (Sp.D (Mg.over L M)) k=true↔(has (Sp.D L) k=true∨has (Sp.D M) k=true):=by
  intro k;rw[Sp.D_has,Sp.D_has,Sp.D_has];constructor
  · rintro ⟨e,he,hk⟩
    have h1:=(Sp.at_iff aO).2 ⟨he,rfl⟩;rw[hat]at h1;cases h2:Sp.at_ M e.path.data.toList with
    |some x=>
     obtain⟨h3,h4⟩:=(Sp.at_iff aM).1 h2
     exact Or.inr ⟨x,h3,by rw[←hk,Sp.key,Sp.key,h4]⟩
    |none=>
     rw[h2]at h1;exact Or.inl ⟨e,((Sp.at_iff aL).1 h1).1,hk⟩
  · intro hh
    have: ∃p:ByteArray,Sp.key p=k∧(Sp.at_ (Mg.over L M) p.data.toList).isSome:=by
     rcases hh with⟨e,he,hk⟩|⟨e,he,hk⟩
     · refine⟨e.path,hk,?_⟩
       rw[hat];split
       · rfl
       · rw[(Sp.at_iff aL).2 ⟨he,rfl⟩];rfl
     · refine⟨e.path,hk,?_⟩
       rw[hat,(Sp.at_iff aM).2 ⟨he,rfl⟩];rfl
    obtain⟨p,hp,hs⟩:=this
    obtain⟨x,hx⟩:=Option.isSome_iff_exists.1 hs
    obtain⟨h3,h4⟩:=(Sp.at_iff aO).1 hx
    exact⟨x,h3,by rw[←hp,Sp.key,Sp.key,h4]⟩
 refine ext hc ((Sp.canonD _).canon Sp.oneKind) (fun k=>?_) (fun k z hk=>?_)
 · rw[h.1 k,hl k]
   have:=hiff k
   cases h1:has (Sp.D L) k<;>cases h2:has (Sp.D M) k<;>simp[h1,h2]at this⊢ <;>simp[this]
 · have h0:=h.1 k
   rw[hk,hl k]at h0;have h1:has (Sp.D (Mg.over L M)) k=true:=(hiff k).2 (by simpa using h0.symm);obtain⟨e,he,rfl⟩:=(Sp.D_has _ k).1 h1
   rw[h.2,hl,Sp.D_at aO,Sp.D_at aL,Sp.D_at aM,hat];cases h2:Sp.at_ M e.path.data.toList with
   |some x=>
    obtain⟨h3,h4⟩:=(Sp.at_iff aM).1 h2
    have:has (Sp.D M) (Sp.key e.path)=true:=(Sp.D_has M _).2 ⟨x,h3,by rw[Sp.key,Sp.key,h4]⟩
    rw[this];rfl
   |none=>
    have:has (Sp.D M) (Sp.key e.path)=false:=by
     rw[←Bool.not_eq_true];intro h5;obtain⟨x,hx,hxk⟩:=(Sp.D_has M _).1 h5
     exact(Sp.at_none.1 h2) x hx (Sp.key_inj hxk)
    rw[this];rfl
set_option maxRecDepth 100000 in
set_option maxHeartbeats 4000000 in
theorem copy_any {bd bs nd ns:Nat} {X Y:List En} {w:World} (hX:Sp.Rise X) (hY:Sp.Rise Y) (hd:w.ownsMap Tryz.prog 9 Sp.rd bd nd (Sp.D X)) (hs:w.ownsMap Tryz.prog 9 Sp.rd bs ns (Sp.D Y)) (hne:bd≠bs) (hroom:nd+Y.length≤1000000):
    Calls Tryz.prog 120 #[.map (some bd),.map (some bs)] w fun e w'=>e= .returned (.tuple #[])∧w'.ownsMap Tryz.prog 9 Sp.rd bd (nd+Y.length) (Sp.D (Mg.over X Y))∧w.grownBy w' (some bd):=by
 have hbd:=hd.lt;have hbs:=hs.lt;have hsz:=Sp.D_size (Sp.apart_rise hY);have hroom:nd+Maps.size (Sp.D Y)≤maxLen:=by rw[hsz];unfold maxLen;omega
 rw[←hsz];clear hsz;have HE:=hid (show∀Dout left,Merged Dout (Sp.D X) (Sp.D Y) left→(∀k,left k=false)→Canon Dout→Dout=Sp.D (Mg.over X Y)from fun Dout left h1 h2 h3=>merged_over hX hY h1 h2 h3);generalize Sp.D (Mg.over X Y)=DO at*;generalize Sp.D X=Dd at*;generalize Sp.D Y=Ds at*;have K:Keyed Tryz.prog 9:=string_keyed Tryz.underlying9;go_enter Tryz.func120,Tryz.ntmps120
 go_wp2_with (first
  |(at_range;refine wpList_range_own _ rfl _ 96 rfl 9 114 K Tryz.underlying96 Sp.rd bs ns _ rfl hs ?_;intro w0 hrg0 hg0 hs0)
  |fail)
 go_frame
 go_loopw [8] (fun _ wr => ∃ (left : Lit → Bool) (cnt : Nat) (Dout : DataW Unit), wr.ranges Tryz.prog 9 Sp.rd bs w.heap.size ns Ds left cnt ∧ cnt ≤ Maps.size Ds ∧
     wr.ownsMap Tryz.prog 9 Sp.rd bd (nd+(Maps.size Ds-cnt)) Dout∧Merged Dout Dd Ds left∧w.grownBy wr (some bd))
  (fun _ wr=>wr.rangeLeft bs w.heap.size)
 case atStart=>
  exact⟨_,_,Dd,hrg0,Nat.le_refl _,(hd.kept hg0 (by simp)).mono (by omega),merged_start Dd Ds,hg0.but _⟩
 case round=>
  obtain⟨left,cnt,Dout,hrg,hcs,hout,hM,hgw⟩:=hrel
  go_wp2_with (first
   |(at_next;refine wpList_next_ranges _ rfl _ rfl 9 K Sp.rd id Spo.val (fun key _ _=>⟨key,rfl⟩) (fun v _ h=>Sp.rd_shape h) bs w.heap.size ns _ _ _ rfl hrg ?_ ?_)
   |fail)
  · intro hc0 hl0
    go_wp2_with fail;go_end0
    subst hc0;have e:=HE.out _ _ hM hl0 (hout.canon K);subst e;exact⟨rfl,by simpa using hout,hgw⟩
  · intro x c kl yd yp w1 cnt1 hkey hlx hv hat hrg1 hlt hg1 hs1 hen
    have hout1:=hout.kept hg1 (fun e=>by have:=Option.some.inj e;omega);obtain⟨ca,ct,cv⟩:=c
    simp only[Spo.val]at hv hen⊢;have hga:=World.grownBy_alloc w1 (.cells #[.int .i64 ca,.string ct,.int .i64 cv] 114) none;obtain⟨w2,hrun2,hout2,hg2⟩:=(hout1.alloc (.cells #[.int .i64 ca,.string ct,.int .i64 cv] 114)).update K Tryz.underlying96 (by omega) hkey hv
    have hsz1:(w1.alloc (.cells #[.int .i64 ca,.string ct,.int .i64 cv] 114)).heap.size=w1.heap.size+1:=by simp
    have hrg2:=(hrg1.kept hga (fun e=>by cases e) (fun e=>by cases e)).kept hg2 (fun e=>hne (Option.some.inj e).symm) (fun e=>by have:=Option.some.inj e;omega);go_wp2_with fail;go_roundw
    case rel=>
     exact⟨_,cnt1,_,hrg2,by omega,hout2.mono (by omega),merged_step hM hout.isMap (K.key hkey) hat,((hgw.andThen hg1 (fun j hj=> .inl (by cases hj;exact Nat.le_refl _))).andThen hga (fun j hj=>by cases hj)).andThen hg2 (fun j hj=> .inr hj)⟩
    case measure=>rw[hrg2.left_eq,hrg.left_eq];exact hlt
set_option maxRecDepth 100000 in
set_option maxHeartbeats 4000000 in
theorem jpaths_any {w:World} {j bm bt bn bb nb:Nat} {vc:Value} {M T N B:List En} (h:Join w j bm bt bn vc M T N) (hb:w.ownsMap Tryz.prog 9 Sp.rd bb nb (Sp.D B)) (hB:Sp.Rise B) (hM:Sp.Rise M) (hT:Sp.Rise T) (hnb:nb≤1000) (lB:B.length≤60) (lM:M.length≤60) (lT:T.length≤60):
    Calls Tryz.prog 94 #[.pointer (some ⟨j,0,none⟩),.map (some bb)] w fun e w'=> ∃v,e= .returned v∧w'.ownsRow w.heap.size 9 1 v (Mg.uni B M T).length ((Mg.uni B M T).map (fun e=>Value.string e.path))∧Below w.heap.size w w':=by
 obtain⟨n1,l1,m1⟩:=h.mine
 obtain⟨n2,l2,m2⟩:=h.theirs
 have hbx:Cs w j [.map (some bm),.map (some bt),.map (some bn),vc]:=h.box;have c0:=hbx.cell 0 rfl;have c1:=hbx.cell 1 rfl;have HB:=hid hB;have HM:=hid hM;have HT:=hid hT;have hjl:=hbx.lt;have HX:=hid hbx;go_enter Tryz.func94,Tryz.ntmps94
 go_wp2_with fail;refine(AnyW.maps_Clone_owns Tryz.cloneK 9 Sp.rd bb nb _ w hb).mono ?_
 rintro e w1 ⟨rfl,hc1,_,hb1⟩;replace HX:=hid (HX.out.below hb1);have d0:=HX.out.cell 0 rfl;have d1:=HX.out.cell 1 rfl;have m11:=omap_below m1 hb1 m1.lt;have m21:=omap_below m2 hb1 m2.lt;have q1:=m1.lt;have q2:=m2.lt;clear c0 c1 hbx;go_wp2_with fail;refine(copy_any HB.out HM.out hc1 m11 (by omega) (by omega)).mono ?_
 rintro e w2 ⟨rfl,hc2,hg2⟩;have hb2:Below w.heap.size w w2:=hb1.grown hg2 hb1.size (fun k hk=>by injection hk with hk;omega);replace HX:=hid (HX.out.nb hg2 (by omega));have m22:=m21.kept hg2 (fun e=>by injection e with e;omega);clear d0 d1;have d1:=HX.out.cell 1 rfl;go_wp2_with fail;refine(copy_any (Mg.over_rise HB.out M) HT.out hc2 m22 (by omega) (by omega)).mono ?_
 rintro e w3 ⟨rfl,hc3,hg3⟩;have hb3:Below w.heap.size w w3:=hb2.grown hg3 hb2.size (fun k hk=>by injection hk with hk;omega);have hul:=Mg.uni_len B M T;clear d1;go_wp2_with fail;refine(paths_own hc3 (Mg.uni_rise HB.out M T) (by show(Mg.uni B M T).length≤1000;omega)).mono ?_
 rintro e w4 ⟨v,rfl,hrow,hb4⟩;go_wp2_with fail;go_ret;exact⟨v,rfl,own_down hrow hb3.size,hb3.trans (hb4.mono hb3.size)⟩
end Go.Proofs.YtlllcifehellpaaGreatDoor
