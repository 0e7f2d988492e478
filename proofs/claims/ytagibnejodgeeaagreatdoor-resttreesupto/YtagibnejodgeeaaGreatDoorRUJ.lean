/- Maps of spots and the lists that they read as: laying one more spot, and laying all spots of another map. Plain mathematics. -/
import Derived.Test.YtagibnejodgeeaaGreatDoorRUF
import Derived.Lib.SlMapMerge
import Derived.Test.YtagibnejodgeeaaGreatDoorRUI
import Derived.Test.YtagibnejodgeeaaGreatDoorRUB
import Derived.Lib.SmallJoins
import Derived.Test.YtagibnejodgeeaaGreatDoorRUC
import Derived.Test.YtagibnejodgeeaaGreatDoorRUA
set_option linter.unusedSimpArgs false
set_option linter.unusedVariables false
namespace Go.Proofs.YtagibnejodgeeaaGreatDoor
open Go.RowKit Go.Maps

namespace Sp
/-- Keys that are texts. -/
def Kd (l:Lit):Prop:= ∃b,l= .string b
theorem oneKind:OneKind Kd:=⟨fun⟨b,h⟩=>by rw[h];trivial,fun ha hb hne=>ChangeMaps.before_total ha hb hne⟩
theorem key_kd (p:ByteArray):Kd (key p):=⟨_,rfl⟩
theorem canonD (L:List En):CanonK Kd (D L):=by
 refine snoc_ind (P:=fun L=>CanonK Kd (D L)) ⟨[],rfl,List.Pairwise.nil,fun p hp=>by cases hp⟩ ?_ L
 intro L e ih;rw[D_snoc];exact canonK_put oneKind (key_kd _) _ ih
theorem D_has (L:List En) (k:Lit):has (D L) k=true↔ ∃e∈L,key e.path=k:=by
 refine snoc_ind (P:=fun L=>has (D L) k=true↔ ∃e∈L,key e.path=k) ⟨(fun h=>by cases h),fun⟨e,he,_⟩=>by cases he⟩ ?_ L
 intro L e ih;rw[D_snoc,put];by_cases hk:key e.path=k
 · subst hk
   rw[has_put_same (D_map L) (oneKind.key (key_kd _))];exact⟨fun _=>⟨e,by simp,rfl⟩,fun _=>rfl⟩
 · rw[has_put_other (fun h=>hk h.symm),ih]
   constructor
   · rintro ⟨x,hx,hxk⟩
     exact⟨x,by simp[hx],hxk⟩
   · rintro ⟨x,hx,hxk⟩
     rcases List.mem_append.1 hx with h|h
     · exact⟨x,h,hxk⟩
     · rw[List.mem_singleton]at h
       exact absurd (h▸hxk) hk
/-- A list with a spot in its place. -/
def put1 (e:En) (L:List En):List En:=Pp.ins e (L.filter (fun x=> !Pp.atB e.path.data.toList x))
abbrev Rise (L:List En):Prop:=L.Pairwise (fun x y=>Pp.lt x y=true)
theorem put1_rise {e:En} {L:List En} (h:Rise L):Rise (put1 e L):=by
 refine Pp.ins_sorted e (h.filter _) ?_
 intro y hy he;have:=(List.mem_filter.1 hy).2
 rw[Pp.atB]at this;simp[he]at this
theorem mem_put1 {e x:En} {L:List En}:x∈put1 e L↔x=e∨(x∈L∧x.path.data.toList≠e.path.data.toList):=by
 rw[put1,(Pp.ins_perm e _).mem_iff,List.mem_cons,List.mem_filter,Bool.not_eq_true',←Bool.not_eq_true,atB_iff]
theorem at_iff {L:List En} (h:Apart L) {p:List UInt8} {e:En}:at_ L p=some e↔e∈L∧e.path.data.toList=p:=by
 constructor
 · intro he
   exact⟨List.mem_of_find?_eq_some he,atB_iff.1 (List.find?_some he)⟩
 · rintro ⟨he,rfl⟩
   have h1:(at_ L e.path.data.toList).isSome:=by
    rw[at_,List.find?_isSome];exact⟨e,he,atB_iff.2 rfl⟩
   obtain⟨x,hx⟩:=Option.isSome_iff_exists.1 h1
   have hp:=atB_iff.1 (List.find?_some hx);have hm:=List.mem_of_find?_eq_some hx;rw[hx];by_cases hxe:x=e
   · rw[hxe]
   · exfalso
     rcases List.mem_iff_getElem.1 hm with⟨i,hi,rfl⟩
     rcases List.mem_iff_getElem.1 he with⟨j,hj,rfl⟩
     have hij:i≠j:=fun e=>hxe (by subst e;rfl)
     rcases Nat.lt_or_ge i j with hlt|hge
     · exact List.pairwise_iff_getElem.1 h i j hi hj hlt hp
     · exact List.pairwise_iff_getElem.1 h j i hj hi (by omega) hp.symm
theorem at_none {L:List En} {p:List UInt8}:at_ L p=none↔ ∀e∈L,e.path.data.toList≠p:=by
 rw[at_,List.find?_eq_none];exact⟨fun h e he hp=>h e he (atB_iff.2 hp),fun h e he hb=>h e he (atB_iff.1 hb)⟩
theorem at_put1 {e:En} {L:List En} (h:Rise L) (p:List UInt8):at_ (put1 e L) p=if e.path.data.toList=p then some e else at_ L p:=by
 have ha:=apart_rise h;have hb:=apart_rise (put1_rise (e:=e) h);by_cases hp:e.path.data.toList=p
 · rw[if_pos hp]
   exact(at_iff hb).2 ⟨mem_put1.2 (Or.inl rfl),hp⟩
 · rw[if_neg hp]
   cases hx:at_ L p with
   |none=>
    rw[at_none]at hx⊢;intro x hxm;rcases mem_put1.1 hxm with rfl|⟨hxl,_⟩
    · exact hp
    · exact hx x hxl
   |some x=>
    obtain⟨h1,h2⟩:=(at_iff ha).1 hx
    exact(at_iff hb).2 ⟨mem_put1.2 (Or.inr ⟨h1,fun e'=>hp (by rw[←e',h2])⟩),h2⟩
theorem D_put {L:List En} (h:Rise L) (e:En):put (D L) e=D (put1 e L):=by
 have ha:=apart_rise h;have hc:CanonK Kd (put (D L) e):=canonK_put oneKind (key_kd _) _ (canonD L);refine ext (hc.canon oneKind) ((canonD _).canon oneKind) (fun k=>Bool.eq_iff_iff.2 ?_) (fun k z hin=>?_)
 · by_cases hk:k=key e.path
   · subst hk
     rw[put,has_put_same (D_map L) (oneKind.key (key_kd _)),D_has];exact⟨fun _=>⟨e,mem_put1.2 (Or.inl rfl),rfl⟩,fun _=>rfl⟩
   · rw[put,has_put_other hk,D_has,D_has]
     constructor
     · rintro ⟨x,hx,hxk⟩
       exact⟨x,mem_put1.2 (Or.inr ⟨hx,fun e'=>hk (by rw[←hxk,key,key,e'])⟩),hxk⟩
     · rintro ⟨x,hx,hxk⟩
       rcases mem_put1.1 hx with rfl|⟨hxl,_⟩
       · exact absurd hxk.symm hk
       · exact⟨x,hxl,hxk⟩
 · by_cases hk:k=key e.path
   · subst hk
     rw[put,atKey_put_same (D_map L) (oneKind.key (key_kd _)),D_at (apart_rise (put1_rise h)),at_put1 h,if_pos rfl]
   · rw[put,has_put_other hk]at hin
     obtain⟨x,_,hxk⟩:=(D_has L k).1 hin
     subst hxk;rw[put,atKey_put_other hk,D_at ha,D_at (apart_rise (put1_rise h)),at_put1 h,if_neg (fun e'=>hk (by rw[key,key,e']))]
end Sp
end Go.Proofs.YtagibnejodgeeaaGreatDoor
namespace Go.Proofs.YtagibnejodgeeaaGreatDoor
open Go.RowKit Go.Maps Go.WideMaps

/-- What is at a path of a list, as a spot. -/
def Mg.st (L:List En) (p:List UInt8):Spo:=⟨Sp.wAt L p,Sp.tAt L p,Sp.vAt L p⟩
theorem spotSt {b n:Nat} {w:World} {L:List En} (h:w.ownsMap Tryz.prog 9 Sp.rd b n (Sp.D L)) (hL:Sp.Apart L) (p:ByteArray) (hp:p.size≤maxLen):(Instr.lookup 52 (.map (some b)) (.string p) false).run Tryz.prog w= .ok (.agg #[.int .i64 (Mg.st L p.data.toList).w,.string (Mg.st L p.data.toList).t,.int .i64 (Mg.st L p.data.toList).v]) w:=by
 have:=spotAt_any h hL p hp
 rw[Sp.val_eq]at this;exact this
/-- A joining: its box, and what its three maps hold. -/
structure Join (w:World) (j bm bt bn:Nat) (vc:Value) (M T N:List En):Prop where
 box:Cs w j [.map (some bm),.map (some bt),.map (some bn),vc]
 mine: ∃n,n≤1000000∧w.ownsMap Tryz.prog 9 Sp.rd bm n (Sp.D M)
 theirs: ∃n,n≤1000000∧w.ownsMap Tryz.prog 9 Sp.rd bt n (Sp.D T)
 now: ∃n,n≤1000000∧w.ownsMap Tryz.prog 9 Sp.rd bn n (Sp.D N)
theorem Join.below {w w':World} {j bm bt bn:Nat} {vc:Value} {M T N:List En} (h:Join w j bm bt bn vc M T N) (hw:Below w.heap.size w w'):Join w' j bm bt bn vc M T N:=by
 obtain⟨h1,⟨n1,l1,m1⟩,⟨n2,l2,m2⟩,⟨n3,l3,m3⟩⟩:=h
 exact⟨h1.below hw,⟨n1,l1,omap_below m1 hw m1.lt⟩,⟨n2,l2,omap_below m2 hw m2.lt⟩,⟨n3,l3,omap_below m3 hw m3.lt⟩⟩
namespace Mg
def free (M T N:List En) (p:List UInt8):Bool:=((st M p).w==0) && ((st T p).w==0) && ((st N p).w==0)
def ver (M T N:List En) (p:List UInt8):Int:=if lk (st N p) (st T p)=true then(st T p).v else if lk (st N p) (st M p)=true then(st M p).v else 1
end Mg
theorem Tryz.fieldVer (a:Int) (s:ByteArray) (n:Int) (W:World):(Instr.field 89 (.agg #[.int .i64 a,.string s,.int .i64 n]) 2).run Tryz.prog W= .ok (.int .i64 n) W:=by
 have h:(Instr.field 89 (.agg #[.int .i64 a,.string s,.int .i64 n]) 2).run Tryz.prog W= .ok (#[Value.int .i64 a,Value.string s,Value.int .i64 n][2]) W:=by
  simp[Instr.field,run_underlying Tryz.underlying89,asAgg,part,go_sem]
  try rfl
 exact h
set_option maxRecDepth 100000 in
set_option maxHeartbeats 2000000 in
theorem isFree_any {w:World} {j bm bt bn:Nat} {vc:Value} {M T N:List En} (h:Join w j bm bt bn vc M T N) (hM:Sp.Apart M) (hT:Sp.Apart T) (hN:Sp.Apart N) (p:ByteArray) (hp:p.size≤maxLen):
    Calls Tryz.prog 87 #[.pointer (some ⟨j,0,none⟩),.string p] w fun e w'=>e= .returned (.bool (Mg.free M T N p.data.toList))∧Below w.heap.size w w':=by
 obtain⟨h1,⟨n1,_,m1⟩,⟨n2,_,m2⟩,⟨n3,_,m3⟩⟩:=h
 have k1:=spotSt m1 hM p hp;have k2:=spotSt m2 hT p hp;have k3:=spotSt m3 hN p hp;have c0:=h1.cell 0 rfl;have c1:=h1.cell 1 rfl;have c2:=h1.cell 2 rfl;have HF:=hid (show Mg.free M T N p.data.toList=(((Mg.st M p.data.toList).w==0) && ((Mg.st T p.data.toList).w==0) && ((Mg.st N p.data.toList).w==0))from rfl);generalize Mg.st M p.data.toList=x at*;generalize Mg.st T p.data.toList=y at*;generalize Mg.st N p.data.toList=z at*;have hfd:=Tryz.fieldWhat;clear h1 m1 m2 m3;cases hx:(x.w==0)with
 |false=>
  go_enter Tryz.func87,Tryz.ntmps87
  go_wp2;go_ret;exact⟨by rw[HF.out,hx];rfl,Below.refl _ _⟩
 |true=>
  cases hy:(y.w==0)with
  |false=>
   go_enter Tryz.func87,Tryz.ntmps87
   go_wp2;go_ret;exact⟨by rw[HF.out,hx,hy];rfl,Below.refl _ _⟩
  |true=>
   go_enter Tryz.func87,Tryz.ntmps87
   go_wp2;go_ret;exact⟨by rw[HF.out,hx,hy];simp,Below.refl _ _⟩
set_option maxRecDepth 100000 in
set_option maxHeartbeats 2000000 in
theorem version_any {w:World} {j bm bt bn:Nat} {vc:Value} {M T N:List En} (h:Join w j bm bt bn vc M T N) (hM:Sp.Apart M) (hT:Sp.Apart T) (hN:Sp.Apart N) (p:ByteArray) (hp:p.size≤maxLen):
    Calls Tryz.prog 62 #[.pointer (some ⟨j,0,none⟩),.string p] w fun e w'=>e= .returned (.int .i64 (Mg.ver M T N p.data.toList))∧Below w.heap.size w w':=by
 have HJ:=hid h
 have HK:Hid (∀W,Below w.heap.size w W→(Instr.lookup 52 (.map (some bm)) (.string p) false).run Tryz.prog W= .ok (.agg #[.int .i64 (Mg.st M p.data.toList).w,.string (Mg.st M p.data.toList).t,.int .i64 (Mg.st M p.data.toList).v]) W∧(Instr.lookup 52 (.map (some bt)) (.string p) false).run Tryz.prog W= .ok (.agg #[.int .i64 (Mg.st T p.data.toList).w,.string (Mg.st T p.data.toList).t,.int .i64 (Mg.st T p.data.toList).v]) W∧(Instr.lookup 52 (.map (some bn)) (.string p) false).run Tryz.prog W= .ok (.agg #[.int .i64 (Mg.st N p.data.toList).w,.string (Mg.st N p.data.toList).t,.int .i64 (Mg.st N p.data.toList).v]) W):=(fun W hW=>by
  obtain⟨_,⟨_,_,m1⟩,⟨_,_,m2⟩,⟨_,_,m3⟩⟩:=HJ.out.below hW
  exact⟨spotSt m1 hM p hp,spotSt m2 hT p hp,spotSt m3 hN p hp⟩:_)
 have HBX:=hid h.box;obtain⟨k1,k2,k3⟩:=HK.out w (Below.refl _ _)
 have c0:=h.box.cell 0 rfl;have c1:=h.box.cell 1 rfl;have c2:=h.box.cell 2 rfl;have hfd:=Tryz.fieldVer;have HV:Hid (Mg.ver M T N p.data.toList=if Mg.lk (Mg.st N p.data.toList) (Mg.st T p.data.toList)=true then(Mg.st T p.data.toList).v else if Mg.lk (Mg.st N p.data.toList) (Mg.st M p.data.toList)=true then(Mg.st M p.data.toList).v else 1):=(rfl:_)
 generalize Mg.st M p.data.toList=x at*;generalize Mg.st T p.data.toList=y at*;generalize Mg.st N p.data.toList=z at*;clear h hM hT hN;obtain⟨wz,hwz⟩: ∃wz,wz=w.alloc (.cells #[.int .i64 z.w,.string z.t,.int .i64 z.v] 89):=⟨_,rfl⟩
 have hbz:Below w.heap.size w wz:=by rw[hwz];exact(Below.refl _ _).alloc (Nat.le_refl _) _
 have hjl:=HBX.out.lt;have HX:=hid (show Cs wz w.heap.size [.int .i64 z.w,.string z.t,.int .i64 z.v]from by rw[hwz];exact Cs.new _ [.int .i64 z.w,.string z.t,.int .i64 z.v] _);cases h1:Mg.lk z y with
 |true=>
  have HE:=hid (show Mg.ver M T N p.data.toList=y.v from by rw[HV.out,if_pos h1]);have H1:Hid (((z.w==y.w) && (z.t.toList==y.t.toList))=true):=h1;clear h1 HV;have c0':=c0;go_enter Tryz.func62,Tryz.ntmps62
  go_wp2_with fail;rw[←hwz];clear hwz k1 k2 k3 c0 c1 c2 c0';obtain⟨q1,q2,q3⟩:=HK.out wz.drew hbz.drew
  have x0:=(HX.out).cell 0 rfl;have x1:=(HX.out).cell 1 rfl;have x2:=(HX.out).cell 2 rfl;have d0:=(HBX.out.below hbz).cell 0 rfl;have d1:=(HBX.out.below hbz).cell 1 rfl;go_region_with (go_at_call 64;refine(like_any z.w y.w z.t y.t z.v y.v _).mono ?_;rintro e w1 ⟨rfl,hb1⟩;rw[H1.out])
  all_goals
   have hb01:=below_tr hbz.drew hb1;obtain⟨r1,r2,r3⟩:=HK.out w1 hb01
   have f0:=(HBX.out.below hb01).cell 0 rfl;have f1:=(HBX.out.below hb01).cell 1 rfl;go_wp2_with fail;go_ret;exact⟨by rw[HE.out]<;>rfl,hb01⟩
 |false=>
  cases h2:Mg.lk z x with
  |true=>
   have HE:=hid (show Mg.ver M T N p.data.toList=x.v from by rw[HV.out,if_neg (by simp[h1]),if_pos h2]);have H1:Hid (((z.w==y.w) && (z.t.toList==y.t.toList))=false):=h1;have H2:Hid (((z.w==x.w) && (z.t.toList==x.t.toList))=true):=h2;clear h1 h2 HV;have c0':=c0;go_enter Tryz.func62,Tryz.ntmps62
   go_wp2_with fail;rw[←hwz];clear hwz k1 k2 k3 c0 c1 c2 c0';obtain⟨q1,q2,q3⟩:=HK.out wz.drew hbz.drew
   have x0:=(HX.out).cell 0 rfl;have x1:=(HX.out).cell 1 rfl;have x2:=(HX.out).cell 2 rfl;have d0:=(HBX.out.below hbz).cell 0 rfl;have d1:=(HBX.out.below hbz).cell 1 rfl;go_region_with (go_at_call 64;refine(like_any z.w y.w z.t y.t z.v y.v _).mono ?_;rintro e w1 ⟨rfl,hb1⟩;rw[H1.out])
   all_goals
    have hb01:=below_tr hbz.drew hb1;clear q1 q2 q3 x0 x1 x2 d0 d1;have HX1:=hid (HX.out.below ((Below.refl _ _).drew.trans hb1));go_wp2_with fail;obtain⟨q1,q2,q3⟩:=HK.out w1.drew hb01.drew
    have x0:=(HX1.out).cell 0 rfl;have x1:=(HX1.out).cell 1 rfl;have x2:=(HX1.out).cell 2 rfl;have d0:=(HBX.out.below hb01).cell 0 rfl;have d1:=(HBX.out.below hb01).cell 1 rfl;go_region_with (go_at_call 64;refine(like_any z.w x.w z.t x.t z.v x.v _).mono ?_;rintro e w2 ⟨rfl,hb2⟩;rw[H2.out])
    all_goals
     have hb02:=below_tr hb01.drew hb2;obtain⟨r1,r2,r3⟩:=HK.out w2 hb02
     have f0:=(HBX.out.below hb02).cell 0 rfl;have f1:=(HBX.out.below hb02).cell 1 rfl;go_wp2_with fail;go_ret;exact⟨by rw[HE.out]<;>rfl,hb02⟩
  |false=>
   have HE:=hid (show Mg.ver M T N p.data.toList=1 from by rw[HV.out,if_neg (by simp[h1]),if_neg (by simp[h2])]);have H1:Hid (((z.w==y.w) && (z.t.toList==y.t.toList))=false):=h1;have H2:Hid (((z.w==x.w) && (z.t.toList==x.t.toList))=false):=h2;clear h1 h2 HV;have c0':=c0;go_enter Tryz.func62,Tryz.ntmps62
   go_wp2_with fail;rw[←hwz];clear hwz k1 k2 k3 c0 c1 c2 c0';obtain⟨q1,q2,q3⟩:=HK.out wz.drew hbz.drew
   have x0:=(HX.out).cell 0 rfl;have x1:=(HX.out).cell 1 rfl;have x2:=(HX.out).cell 2 rfl;have d0:=(HBX.out.below hbz).cell 0 rfl;have d1:=(HBX.out.below hbz).cell 1 rfl;go_region_with (go_at_call 64;refine(like_any z.w y.w z.t y.t z.v y.v _).mono ?_;rintro e w1 ⟨rfl,hb1⟩;rw[H1.out])
   all_goals
    have hb01:=below_tr hbz.drew hb1;clear q1 q2 q3 x0 x1 x2 d0 d1;have HX1:=hid (HX.out.below ((Below.refl _ _).drew.trans hb1));go_wp2_with fail;obtain⟨q1,q2,q3⟩:=HK.out w1.drew hb01.drew
    have x0:=(HX1.out).cell 0 rfl;have x1:=(HX1.out).cell 1 rfl;have x2:=(HX1.out).cell 2 rfl;have d0:=(HBX.out.below hb01).cell 0 rfl;have d1:=(HBX.out.below hb01).cell 1 rfl;go_region_with (go_at_call 64;refine(like_any z.w x.w z.t x.t z.v x.v _).mono ?_;rintro e w2 ⟨rfl,hb2⟩;rw[H2.out])
    all_goals
     have hb02:=below_tr hb01.drew hb2;go_wp2_with fail;go_ret;exact⟨by rw[HE.out]<;>rfl,hb02⟩
end Go.Proofs.YtagibnejodgeeaaGreatDoor
namespace Go.Proofs.YtagibnejodgeeaaGreatDoor
open Go.RowKit

set_option maxHeartbeats 400000 in
theorem joined_any (s t:ByteArray) (w:World) (hs:s.size≤1000000000000000) (ht:t.size≤1000000000000000):
    Calls Tryz.prog 108 #[.string s,.string t] w fun e w'=>e= .returned (.string ⟨(Pp.jn s.data.toList t.data.toList).toArray⟩)∧w'=w:=by
 cases hc:s.toList.isEmpty with
 |true=>
  have HP:=hid (show⟨(Pp.jn s.data.toList t.data.toList).toArray⟩=t from by rw[Lib.toList_data,List.isEmpty_iff]at hc;rw[Pp.jn,if_pos hc]);go_enter Tryz.func108,Tryz.ntmps108
  go_wp2;go_ret;exact⟨by rw[HP.out];rfl,rfl⟩
 |false=>
  have HP:=hid (show s++⟨#[47]⟩++t=⟨(Pp.jn s.data.toList t.data.toList).toArray⟩from Pp.bytes_eq (by
   rw[Lib.toList_data]at hc;rw[Joins.data_append,Joins.data_append,Pp.jn,if_neg (by intro h;rw[h]at hc;cases hc)];simp))
  go_enter Tryz.func108,Tryz.ntmps108
  go_wp2;go_ret;exact⟨by rw[←HP.out];rfl,rfl⟩
set_option maxHeartbeats 400000 in
theorem parts_any (s:ByteArray) (w:World) (hs:s.size≤1000000000000000):
    Calls Tryz.prog 104 #[.string s] w fun e w'=>e= .returned (.tuple #[.string ⟨(Pp.stem s.data.toList).toArray⟩,.string ⟨(Pp.ending s.data.toList).toArray⟩])∧Below w.heap.size w w':=by
 have go1 : ∀ i : Int, Lib.lastIndexByte s ((46 : UInt8).toNat : Int) = i → i ≤ 0 → Pp.stem s.data.toList = s.data.toList → Pp.ending s.data.toList = [] →
     Calls Tryz.prog 104 #[.string s] w fun e w'=>e= .returned (.tuple #[.string ⟨(Pp.stem s.data.toList).toArray⟩,.string ⟨(Pp.ending s.data.toList).toArray⟩])∧Below w.heap.size w w':=by
  intro i e hi h1 h2;have HE:Hid (Lib.lastIndexByte s ((46:UInt8).toNat:Int)=i):=e;have HP:=hid (show⟨(Pp.stem s.data.toList).toArray⟩=s from by rw[h1]);have HL:Hid (Pp.ending s.data.toList=[]):=h2;clear e h1 h2;go_enter Tryz.func104,Tryz.ntmps104
  go_wp2_with fail;refine(lastIdx_any s 46 _ hs).mono ?_
  rintro e w' ⟨rfl,rfl⟩;rw[HE.out];go_wp2;go_ret2;exact⟨by rw[HP.out,HL.out];rfl,Below.refl _ _⟩
 rcases Pp.last_cases s 46 with⟨e,hn⟩|⟨a,b,e,hn,hl⟩
 · exact go1 _ e (by omega) (Pp.parts_none hn).1 (Pp.parts_none hn).2
 · cases a with
   |nil=>exact go1 _ e (by simp) (by rw[hl];exact(Pp.parts_first hn).1) (by rw[hl];exact(Pp.parts_first hn).2)
   |cons a0 r=>
    have ha:1≤(a0::r).length:=by simp
    generalize a0::r=a at*;have HE:Hid (Lib.lastIndexByte s ((46:UInt8).toNat:Int)=a.length):=e;have hz:s.size=a.length+b.length+1:=by rw[Lib.size_eq,hl];simp;try omega
    have l1:(a.length:Int)≤s.size:=by omega
    have l3:0<(a.length:Int):=by omega
    have l4: ¬a=[]:=by intro h;rw[h]at ha;simp at ha
    have HP:=hid (show s.extract 0 a.length=⟨(Pp.stem s.data.toList).toArray⟩from Pp.bytes_eq (by rw[Lib.extract_data,hl,(Pp.parts_cut ha hn).1];simp));have HL:=hid (show s.extract a.length s.size=⟨(Pp.ending s.data.toList).toArray⟩from Pp.bytes_eq (by rw[Lib.extract_data,hl,(Pp.parts_cut ha hn).2,hz,List.drop_left];exact List.take_of_length_le (by simp;omega)));clear e hn hl hz go1;go_enter Tryz.func104,Tryz.ntmps104
    go_wp2_with fail;refine(lastIdx_any s 46 _ hs).mono ?_
    rintro e w' ⟨rfl,rfl⟩;rw[HE.out];go_wp2;go_region
    go_wp2;go_ret2;exact⟨by rw[HP.out,HL.out];rfl,(Below.refl _ _).drew⟩
set_option maxHeartbeats 400000 in
theorem shortened_any (s:ByteArray) (room:Int) (w:World) (hs:s.size≤1000000000000000) (h1: -1000000000000000≤room) (h2:room≤1000000000000000):
    Calls Tryz.prog 106 #[.string s,.int .i64 room] w fun e w'=>e= .returned (.string ⟨(Pp.short s.data.toList room).toArray⟩)∧Below w.heap.size w w':=by
 by_cases hr:(s.size:Int)≤room
 · have HP:=hid (show⟨(Pp.short s.data.toList room).toArray⟩=s from by rw[Pp.short,if_pos (by rw[←Lib.size_eq];exact hr)])
   go_enter Tryz.func106,Tryz.ntmps106
   go_wp2;go_ret;exact⟨by rw[HP.out];rfl,Below.refl _ _⟩
 · obtain⟨m,hm⟩: ∃m:Int,m=max room 0:=⟨_,rfl⟩
   have HP:Hid (Lib.trimRightB (s.extract 0 (max room 0).toNat).data.toList 32=Pp.short s.data.toList room):=
    (by rw[Pp.short,if_neg (by rw[←Lib.size_eq];exact hr),Lib.extract_data];simp[show(max room 0).toNat=room.toNat by omega]:Lib.trimRightB (s.extract 0 (max room 0).toNat).data.toList 32=Pp.short s.data.toList room)
   have l1:0≤max room 0:=by omega
   have l2:max room 0≤s.size:=by omega
   go_enter Tryz.func106,Tryz.ntmps106
   go_wp2_with fail;refine(Tryz.strings_TrimRight_one _ 32 (by decide) _ (by rw[Lib.size_eq,Lib.extract_data];simp;omega)).mono ?_
   rintro e w' ⟨rfl,rfl⟩;rw[HP.out];go_wp2;go_ret;exact⟨rfl,Below.refl _ _⟩
set_option maxHeartbeats 1000000 in
theorem aside_any (s:ByteArray) (n:Int) (w:World) (hs:s.size≤200000000000000):
    Calls Tryz.prog 86 #[.string s,.int .i64 n] w fun e w'=>e= .returned (.tuple #[.string ⟨(Pp.ifc (Pp.asideE s.data.toList n) (Pp.asideT s.data.toList n.toNat)).toArray⟩,.int .i64 (Pp.asideE s.data.toList n)])∧Below w.heap.size w w':=by
 by_cases hz:Pp.chk s.data.toList=0
 · have HZ:Hid (Pp.chk s.data.toList=0):=hz
   by_cases hn:n<1∨99<n
   · have HE:=hid (show Pp.asideE s.data.toList n=3 from by rw[Pp.asideE,if_pos hz,if_pos hn])
     have HR:Hid (Pp.ifc 3 (Pp.asideT s.data.toList n.toNat)=[]):=Pp.ifc_no (by decide) _;clear hz;rcases hn with hn|hn
     · go_enter Tryz.func86,Tryz.ntmps86
       go_wp2_with fail;refine(checkAll1 s _ _ (by omega)).mono ?_
       rintro e w1 ⟨rfl,hb1⟩;rw[HZ.out];go_wp2_with fail;go_ret2;exact⟨by rw[HE.out,HR.out];rfl,hb1⟩
     · go_enter Tryz.func86,Tryz.ntmps86
       go_wp2_with fail;refine(checkAll1 s _ _ (by omega)).mono ?_
       rintro e w1 ⟨rfl,hb1⟩;rw[HZ.out];go_wp2_with fail;go_ret2;exact⟨by rw[HE.out,HR.out];rfl,hb1⟩
   · obtain⟨i,rfl⟩:=Int.eq_ofNat_of_zero_le (show 0≤n by omega)
     have hi1:1≤(i:Int):=by omega
     have hi2:(i:Int)≤99:=by omega
     have b0:=Pp.dec_len i (by omega);have b1:=Pp.len_par s.data.toList;have b2:=Pp.len_lst s.data.toList;have b3:=Pp.len_stem (Pp.lst s.data.toList);have b4:=Pp.len_ending (Pp.lst s.data.toList);rw[←Lib.size_eq]at b1 b2;have hes:=Pp.asideE_in s.data.toList i hz hi1 hi2;have b5:=Pp.len_asideS s.data.toList i;have hT:=Pp.asideT_eq s.data.toList i;have hSq:=Pp.aside_room s.data.toList i;generalize Pp.asideS s.data.toList i=S at*;have HS:Hid (Pp.short (Pp.stem (Pp.lst s.data.toList)) (20-(2+((Lib.decDigits i).length:Int)+1)-(Pp.ending (Pp.lst s.data.toList)).length)=S):=hSq;have HES:Hid (Pp.asideE s.data.toList i=if S=[]then 2 else Pp.chk (Pp.asideT s.data.toList i)):=hes;have HT:Hid (Pp.asideT s.data.toList i=Pp.jn (Pp.par s.data.toList) (S++Pp.mark i++Pp.ending (Pp.lst s.data.toList))):=hT;clear hz hn hes hT hSq;go_enter Tryz.func86,Tryz.ntmps86
     go_wp2_with fail;refine(checkAll1 s _ _ (by omega)).mono ?_
     rintro e w1 ⟨rfl,hb1⟩;rw[HZ.out];go_wp2_with fail;refine(split_any s _ (by omega)).mono ?_
     rintro e w2 ⟨rfl,hb2⟩;go_wp2_with fail;refine(parts_any ⟨(Pp.lst s.data.toList).toArray⟩ _ (by rw[Pp.sz];omega)).mono ?_
     rintro e w3 ⟨rfl,hb3⟩;go_wp2_with fail;refine(Tryz.strconv_Itoa_small i (by omega) _).mono ?_
     rintro e w4 ⟨rfl,rfl⟩;go_wp2_with fail;refine(shortened_any _ _ _ (by rw[Pp.sz];omega) (by omega) (by omega)).mono ?_
     rintro e w5 ⟨rfl,hb5⟩;rw[show Pp.short _ _=S from HS.out];have hbb:Below w.heap.size w w5:=((hb1.trans (hb2.mono hb1.size)).trans (hb3.mono (Nat.le_trans hb1.size hb2.size))).trans (hb5.mono (Nat.le_trans hb1.size (Nat.le_trans hb2.size hb3.size)));clear hb1 hb2 hb3 hb5 HS;cases hq:S.isEmpty with
     |true=>
      have HE:=hid (show Pp.asideE s.data.toList i=2 from by rw[HES.out,if_pos (List.isEmpty_iff.1 hq)]);have HR:Hid (Pp.ifc 2 (Pp.asideT s.data.toList (i:Int).toNat)=[]):=Pp.ifc_no (by decide) _;go_wp2_with fail;go_ret2;exact⟨by rw[HE.out,HR.out];rfl,hbb⟩
     |false=>
      have HE:=hid (show Pp.asideE s.data.toList i=Pp.chk (Pp.asideT s.data.toList i)from by rw[HES.out,if_neg (by intro h;rw[h]at hq;cases hq)])
      have HB:Hid ((⟨S.toArray⟩:ByteArray)++(⟨#[32,40]⟩++⟨(Lib.decDigits i).toArray⟩++⟨#[41]⟩)++⟨(Pp.ending (Pp.lst s.data.toList)).toArray⟩=⟨(S++Pp.mark i++Pp.ending (Pp.lst s.data.toList)).toArray⟩):=
       (Pp.bytes_eq (by rw[Joins.data_append,Joins.data_append,Joins.data_append,Joins.data_append];simp[Pp.mark]):(⟨S.toArray⟩:ByteArray)++(⟨#[32,40]⟩++⟨(Lib.decDigits i).toArray⟩++⟨#[41]⟩)++⟨(Pp.ending (Pp.lst s.data.toList)).toArray⟩=⟨(S++Pp.mark i++Pp.ending (Pp.lst s.data.toList)).toArray⟩)
      have b6:=Pp.mark_len i;have b7:=Pp.len_jn (Pp.par s.data.toList) (S++Pp.mark i++Pp.ending (Pp.lst s.data.toList));rw[List.length_append,List.length_append,b6,←HT.out]at b7;have B8:=hid (show(S++Pp.mark i++Pp.ending (Pp.lst s.data.toList)).length≤1000000000000000 from by rw[List.length_append,List.length_append,b6];omega);clear b6;go_wp2_with fail;rw[HB.out];refine(joined_any _ ⟨(S++Pp.mark i++Pp.ending (Pp.lst s.data.toList)).toArray⟩ _ (by rw[Pp.sz];omega) (by rw[Pp.sz];exact B8.out)).mono ?_
      rintro e w6 ⟨rfl,rfl⟩;rw[show Pp.jn _ _=Pp.asideT s.data.toList i from HT.out.symm];by_cases hz:Pp.chk (Pp.asideT s.data.toList i)=0
      · have HZ2:Hid (Pp.chk (Pp.asideT s.data.toList i)=0):=hz
        have HR:Hid (Pp.ifc 0 (Pp.asideT s.data.toList (i:Int).toNat)=Pp.asideT s.data.toList i):=Pp.ifc_yes rfl _;clear hz;go_wp2_with fail;refine(checked_ok ⟨(Pp.asideT s.data.toList i).toArray⟩ _ (by rw[Pp.sz];omega) HZ2.out).mono ?_
        rintro e w7 ⟨rfl,hb7⟩;go_wp2;go_ret2;exact⟨by rw[HE.out,HZ2.out,HR.out];rfl,hbb.trans (hb7.mono hbb.size)⟩
      · have HR:Hid (Pp.ifc (Pp.chk (Pp.asideT s.data.toList i)) (Pp.asideT s.data.toList (i:Int).toNat)=[]):=Pp.ifc_no hz _
        have HZ2:Hid (¬Pp.chk (Pp.asideT s.data.toList i)=0):=hz;clear hz;go_wp2_with fail;refine(checked_no ⟨(Pp.asideT s.data.toList i).toArray⟩ _ (by rw[Pp.sz];omega) HZ2.out).mono ?_
        rintro e w7 ⟨rfl,hb7⟩;go_wp2;go_ret2;exact⟨by rw[HE.out,HR.out];rfl,hbb.trans (hb7.mono hbb.size)⟩
 · have hz2:(Pp.chk s.data.toList==0)=false:=by simpa using hz
   have HE:=hid (show Pp.asideE s.data.toList n=Pp.chk s.data.toList from by rw[Pp.asideE,if_neg hz]);have HR:Hid (Pp.ifc (Pp.chk s.data.toList) (Pp.asideT s.data.toList n.toNat)=[]):=Pp.ifc_no hz _;clear hz;go_enter Tryz.func86,Tryz.ntmps86
   go_wp2_with fail;refine(checkAll1 s _ _ (by omega)).mono ?_
   rintro e w1 ⟨rfl,hb1⟩;go_wp2;go_ret2;exact⟨by rw[HE.out,HR.out];rfl,hb1⟩
end Go.Proofs.YtagibnejodgeeaaGreatDoor
namespace Go.Proofs.YtagibnejodgeeaaGreatDoor.Pp

theorem last_split4 (l:List UInt8):(47∉l∧par l=[]∧lst l=l)∨(l=par l++47::lst l∧47∉lst l):=by
 by_cases h:47∈l.reverse
 · right
   obtain⟨a,b,ha,hab⟩:=split_at _ _ h
   have e:l=b.reverse++47::a.reverse:=by
    have:=congrArg List.reverse hab
    simpa using this
   have h2:47∉a.reverse:=by simpa using ha
   have e1:par l=b.reverse:=by rw[e,par_cut _ h2]
   have e2:lst l=a.reverse:=by rw[e,lst_cut _ h2]
   rw[e1,e2];exact⟨e,h2⟩
 · left
   have h2:47∉l:=by simpa using h
   exact⟨h2,par_none h2,lst_none h2⟩
theorem names_parts {l:List UInt8} (h:(nm l).all nameB=true):nameB (lst l)=true∧(par l=[]∨(nm (par l)).all nameB=true):=by
 rcases last_split4 l with⟨h1,e1,e2⟩|⟨e,h1⟩
 · rw[nm_none l h1]at h
   rw[e2];exact⟨by simpa using h,Or.inl e1⟩
 · rw[e,nm_app,nm_none _ h1,List.all_append]at h
   simp only[Bool.and_eq_true,List.all_cons,List.all_nil,Bool.and_true]at h;exact⟨h.2,Or.inr h.1⟩
theorem jn_names {p n:List UInt8} (hn:nameB n=true) (hp:p=[]∨(nm p).all nameB=true):(nm (jn p n)).all nameB=true:=by
 unfold jn;split
 · rw[nm_none n (no_slash hn)];simp[hn]
 · rename_i e
   rcases hp with h|h
   · exact absurd h e
   · rw[nm_app,nm_none n (no_slash hn)]
     exact all_app h (by simp[hn])
theorem name_iff (l:List UInt8):nameB l=true↔(∀c∈l,okB c=true)∧1≤l.length∧l.length≤20∧l.head?≠some 32∧l.getLast?≠some 32∧l≠[46]∧l≠[46,46]:=by
 simp only[nameB,Bool.and_eq_true,decide_eq_true_eq,bne_iff_ne,List.all_eq_true];constructor
 · rintro ⟨⟨⟨⟨⟨⟨a,b⟩,c⟩,d⟩,e⟩,f⟩,g⟩;exact⟨a,b,c,d,e,f,g⟩
 · rintro ⟨a,b,c,d,e,f,g⟩;exact⟨⟨⟨⟨⟨⟨a,b⟩,c⟩,d⟩,e⟩,f⟩,g⟩
theorem dig_ok (u:Nat):okB (UInt8.ofNat (48+u % 10))=true:=by
 rw[okB_iff,UInt8.toNat_ofNat'];omega
theorem dec_ok: ∀(n u:Nat),u<n→ ∀c∈Lib.decDigits u,okB c=true
 |0,u,h=>absurd h (Nat.not_lt_zero _)
 |n+1,u,h=>by
  intro c hc;rw[Lib.decDigits]at hc;split at hc
  · rename_i h1
    rw[List.mem_singleton]at hc;rw[hc,show 48+u=48+u % 10 by omega];exact dig_ok u
  · rcases List.mem_append.1 hc with hc|hc
    · exact dec_ok n (u/10) (by omega) c hc
    · rw[List.mem_singleton]at hc
      rw[hc];exact dig_ok u
theorem mark_ok (n:Nat): ∀c∈mark n,okB c=true:=by
 intro c hc;simp only[mark,List.mem_cons,List.mem_append,List.mem_singleton]at hc;rcases hc with rfl|rfl|hc|rfl|hc
 · decide
 · decide
 · exact dec_ok (n+1) n (Nat.lt_succ_self n) c hc
 · decide
 · cases hc
theorem stem_ending (l:List UInt8):stem l++ending l=l:=List.take_append_drop _ _
theorem trim_sub (l:List UInt8) (c:UInt8): ∃r,l=Lib.trimRightB l c++r:=by
 refine⟨(l.reverse.takeWhile (· ==c)).reverse,?_⟩
 unfold Lib.trimRightB;have:=congrArg List.reverse (List.takeWhile_append_dropWhile (p:=(· ==c)) (l:=l.reverse))
 rw[List.reverse_append,List.reverse_reverse]at this;exact this.symm
theorem short_sub (l:List UInt8) (room:Int): ∃r,l=short l room++r:=by
 unfold short;split
 · exact⟨[],by simp⟩
 · obtain⟨r,hr⟩:=trim_sub (l.take room.toNat) 32
   refine⟨r++l.drop room.toNat,?_⟩
   rw[←List.append_assoc,←hr,List.take_append_drop]
theorem short_len {l:List UInt8} {room:Int} (h:short l room≠[]):((short l room).length:Int)≤room:=by
 unfold short at h⊢;split
 · assumption
 · rename_i h1
   rw[if_neg h1]at h;have h2:=len_trim (l.take room.toNat) 32;rw[List.length_take]at h2;have h3:(Lib.trimRightB (l.take room.toNat) 32).length≠0:=fun e=>h (List.length_eq_zero_iff.1 e)
   omega
theorem aside_name {m:List UInt8} (n:Nat) (hm:nameB m=true) (h:short (stem m) (20-(mark n).length-(ending m).length)≠[]):
    nameB (short (stem m) (20-(mark n).length-(ending m).length)++mark n++ending m)=true:=by
 have hl:=short_len h;obtain⟨r,hr⟩:=short_sub (stem m) (20-(mark n).length-(ending m).length)
 have hse:=stem_ending m;generalize short (stem m) (20-(mark n).length-(ending m).length)=S at*;have hall:m=S++(r++ending m):=by rw[←List.append_assoc,←hr,hse]
 rw[name_iff]at hm⊢;obtain⟨h1,h2,h3,h4,h5,h6,h7⟩:=hm
 have hmk:4≤(mark n).length∨True:=Or.inr trivial;refine⟨fun c hc=>?_,?_,?_,?_,?_,?_,?_⟩
 · rcases List.mem_append.1 hc with hc|hc
   · rcases List.mem_append.1 hc with hc|hc
     · exact h1 c (by rw[hall];exact List.mem_append_left _ hc)
     · exact mark_ok n c hc
   · exact h1 c (by rw[←hse];exact List.mem_append_right _ hc)
 · simp[mark];omega
 · simp only[List.length_append];omega
 · cases S with
   |nil=>exact absurd rfl h
   |cons a t=>
    rw[hall]at h4;simpa using h4
 · cases he:ending m with
   |nil=>simp[mark,List.getLast?_append,List.getLast?_cons]
   |cons a t=>
    rw[he]at hse;rw[←hse]at h5;rw[List.getLast?_append]at h5⊢;cases hq:(a::t).getLast? with
    |none=>simp at hq
    |some x=>rw[hq]at h5;simpa using h5
 · intro e
   have:(40:UInt8)∈S++mark n++ending m:=by simp[mark]
   rw[e]at this;simp at this
 · intro e
   have:(40:UInt8)∈S++mark n++ending m:=by simp[mark]
   rw[e]at this;simp at this
theorem asideT_chk {l:List UInt8} (n:Nat) (h:chk l=0) (hS:asideS l n≠[]):chk (asideT l n)=if big (asideT l n)=true then 2 else 0:=by
 apply chk_big
 obtain⟨h1,h2⟩:=names_parts (chk_names h)
 rw[asideT_eq];exact jn_names (aside_name n h1 hS) h2
theorem aside_ok {l:List UInt8} {n:Int} (h:asideE l n=0):chk l=0∧1≤n∧n≤99∧asideS l n.toNat≠[]∧chk (asideT l n.toNat)=0:=by
 unfold asideE at h;split at h
 · rename_i hz
   split at h
   · simp at h
   · rename_i hn
     split at h
     · simp at h
     · rename_i hs
       exact⟨hz,by omega,by omega,hs,h⟩
 · rename_i hz;exact absurd h hz
theorem aside_par {l:List UInt8} {n:Int} (h:asideE l n=0):par (asideT l n.toNat)=par l:=by
 obtain⟨hz,_,_,hs,_⟩:=aside_ok h
 have h47:=no_slash (aside_name n.toNat (names_parts (chk_names hz)).1 hs);rw[asideT_eq];unfold jn;split
 · rename_i e;rw[e];exact par_none h47
 · exact par_cut _ h47
end Go.Proofs.YtagibnejodgeeaaGreatDoor.Pp
namespace Go.Proofs.YtagibnejodgeeaaGreatDoor
open Go.RowKit Go.Maps Go.WideMaps

theorem ownsRow_shape {w:World} {base:Nat} {e:TypeId} {size:Nat} {v:Value} {n:Nat} {xs:List Value} (h:w.ownsRow base e size v n xs): ∃a cap,v= .slice a n cap:=by
 obtain⟨_,h2⟩:=h
 rcases h2 with⟨rfl,hz⟩|⟨g,cap,cur,rfl,_⟩
 · exact⟨none,0,by rw[hz]⟩
 · exact⟨_,cap,rfl⟩
namespace Mg
/-- The first path aside that is free, from a number on. -/
def asdF (M T N:List En) (p:List UInt8):Nat→Nat→Option (List UInt8)
 |0,_=>none
 |f+1,n=>if¬Pp.asideE p n=0 then none else if free M T N (Pp.asideT p n)=true then some (Pp.asideT p n)else asdF M T N p f (n+1)
def asd (M T N:List En) (p:List UInt8):Option (List UInt8):=asdF M T N p 99 1
theorem asdF_bad {M T N:List En} {p:List UInt8} {f n:Nat} (h: ¬Pp.asideE p n=0):asdF M T N p (f+1) n=none:=by rw[asdF,if_pos h]
theorem asdF_hit {M T N:List En} {p:List UInt8} {f n:Nat} (h:Pp.asideE p n=0) (h1:free M T N (Pp.asideT p n)=true):asdF M T N p (f+1) n=some (Pp.asideT p n):=by rw[asdF,if_neg (fun x=>x h),if_pos h1]
theorem asdF_miss {M T N:List En} {p:List UInt8} {f n:Nat} (h:Pp.asideE p n=0) (h1:free M T N (Pp.asideT p n)=false):asdF M T N p (f+1) n=asdF M T N p f (n+1):=by rw[asdF,if_neg (fun x=>x h),if_neg (by simp[h1])]
/-- A file at a path. -/
def file (q:List UInt8) (s:Spo):En:=⟨⟨q.toArray⟩,false,s.t,s.v⟩
def flatP (C:List (ByteArray×ByteArray)):List Value:=C.flatMap (fun c=>[.string c.1,.string c.2])
theorem flatP_snoc (C:List (ByteArray×ByteArray)) (c:ByteArray×ByteArray):flatP C++[.string c.1,.string c.2]=flatP (C++[c]):=by simp[flatP]
end Mg
/-- A joining that may be written: its box, its maps, and its copies. -/
structure JoinM (B c:Nat) (w:World) (j bm bt bn:Nat) (vc:Value) (M T N:List En) (C:List (ByteArray×ByteArray)):Prop where
 box:w.heap[j]?=some (.cells #[.map (some bm),.map (some bt),.map (some bn),vc] 55)
 mine: ∃n,n≤1000000∧w.ownsMap Tryz.prog 9 Sp.rd bm n (Sp.D M)
 theirs: ∃n,n≤1000000∧w.ownsMap Tryz.prog 9 Sp.rd bt n (Sp.D T)
 now: ∃n,n≤c∧w.ownsMap Tryz.prog 9 Sp.rd bn n (Sp.D N)
 row:w.ownsRow B 46 2 vc C.length (Mg.flatP C)
 ne1:bm≠bn
 ne2:bt≠bn
 lej:B≤j
 len:B≤bn
theorem JoinM.join {B c:Nat} {w:World} {j bm bt bn:Nat} {vc:Value} {M T N:List En} {C:List (ByteArray×ByteArray)} (h:JoinM B c w j bm bt bn vc M T N C) (hc:c≤1000000):Join w j bm bt bn vc M T N:=by
 obtain⟨n,hn,hm⟩:=h.now
 exact⟨⟨_,h.box⟩,h.mine,h.theirs,⟨n,by omega,hm⟩⟩
theorem JoinM.below {B c:Nat} {w w':World} {j bm bt bn:Nat} {vc:Value} {M T N:List En} {C:List (ByteArray×ByteArray)} (h:JoinM B c w j bm bt bn vc M T N C) (hw:Below w.heap.size w w'):JoinM B c w' j bm bt bn vc M T N C:=by
 obtain⟨h1,⟨n1,l1,m1⟩,⟨n2,l2,m2⟩,⟨n3,l3,m3⟩,h5,h6,h7,h8,h9⟩:=h
 exact⟨(hw.block j (heap_lt h1)).trans h1,⟨n1,l1,omap_below m1 hw m1.lt⟩,⟨n2,l2,omap_below m2 hw m2.lt⟩,⟨n3,l3,omap_below m3 hw m3.lt⟩,h5.kept9 hw,h6,h7,h8,h9⟩
theorem own_ne_map {w:World} {B:Nat} {e:TypeId} {size:Nat} {v:Value} {n:Nat} {xs:List Value} {b:Nat} {k:Nat} {D:DataW Unit} (h:w.ownsRow B e size v n xs) (hm:w.ownsMap Tryz.prog 9 Sp.rd b k D):v.ownBlock≠some b:=by
 obtain⟨es,clock,hb,_⟩:=hm
 obtain⟨_,h2⟩:=h
 rcases h2 with⟨rfl,_⟩|⟨g,cap,cur,rfl,_,hg,_⟩
 · simp[Value.ownBlock]
 · intro e
   simp[Value.ownBlock]at e
   subst e;rw[hb]at hg;cases hg
theorem box_ne_map {w:World} {j b k:Nat} {vs:Array Value} {T:TypeId} {fz:Nat×Nat} {D:DataW Unit} (h:w.heap[j]?=some (.cells vs T fz)) (hm:w.ownsMap Tryz.prog 9 Sp.rd b k D):j≠b:=by
 obtain⟨es,clock,hb,_⟩:=hm
 rintro rfl;rw[hb]at h;cases h
theorem joining_copy:(55:TypeId)≠46:=by decide
theorem box_ne_row {w:World} {j B n:Nat} {vs:Array Value} {fz:Nat×Nat} {v:Value} {xs:List Value} (h:w.heap[j]?=some (.cells vs 55 fz)) (ho:w.ownsRow B 46 2 v n xs):v.ownBlock≠some j:=by
 obtain⟨_,h2⟩:=ho
 rcases h2 with⟨rfl,_⟩|⟨g,cap,cur,rfl,_,hg,_⟩
 · simp[Value.ownBlock]
 · intro e
   simp[Value.ownBlock]at e
   subst e;rw[hg]at h;injection h with h
   injection h with _ h
   exact joining_copy h.symm
/-- Behind a spot that was laid into what is there now. -/
theorem JoinM.upd {B c:Nat} {w w':World} {j bm bt bn:Nat} {vc:Value} {M T N N':List En} {C:List (ByteArray×ByteArray)} (h:JoinM B c w j bm bt bn vc M T N C) (hw:w.grownBy w' (some bn)) (hn: ∃n,n≤c+1∧w'.ownsMap Tryz.prog 9 Sp.rd bn n (Sp.D N')):JoinM B (c+1) w' j bm bt bn vc M T N' C:=by
 obtain⟨h1,⟨n1,l1,m1⟩,⟨n2,l2,m2⟩,⟨n3,l3,m3⟩,h5,h6,h7,h8,h9⟩:=h
 have hj:=box_ne_map h1 m3;refine⟨(hw.block j (heap_lt h1) (fun e=>hj (by injection e))).trans h1,⟨n1,l1,m1.kept hw (fun e=>h6 (by injection e))⟩,⟨n2,l2,m2.kept hw (fun e=>h7 (by injection e))⟩,hn,h5.kept (row:=some bn) hw (Or.inr (own_ne_map h5 m3)),h6,h7,h8,h9⟩
/-- Behind one more copy. -/
theorem JoinM.app {B c:Nat} {w w':World} {j bm bt bn:Nat} {vc v':Value} {M T N:List En} {C C':List (ByteArray×ByteArray)} (h:JoinM B c w j bm bt bn vc M T N C) (hw:w.grownBy w' vc.ownBlock) (ho:w'.ownsRow B 46 2 v' C'.length (Mg.flatP C')):JoinM B c (w'.setCell ⟨j,3,none⟩ v') j bm bt bn v' M T N C':=by
 obtain⟨h1,⟨n1,l1,m1⟩,⟨n2,l2,m2⟩,⟨n3,l3,m3⟩,h5,h6,h7,h8,h9⟩:=h
 have k1:w'.heap[j]?=some (.cells #[.map (some bm),.map (some bt),.map (some bn),vc] 55):=(hw.block j (heap_lt h1) (fun e=>box_ne_row h1 h5 e.symm)).trans h1;have p1:=m1.kept hw (fun e=>own_ne_map h5 m1 e.symm);have p2:=m2.kept hw (fun e=>own_ne_map h5 m2 e.symm);have p3:=m3.kept hw (fun e=>own_ne_map h5 m3 e.symm);have hs:=nb_set w' j 3 v';refine⟨?_,⟨n1,l1,p1.kept hs (fun e=>box_ne_map k1 p1 (by injection e with e;exact e.symm))⟩,⟨n2,l2,p2.kept hs (fun e=>box_ne_map k1 p2 (by injection e with e;exact e.symm))⟩,⟨n3,l3,p3.kept hs (fun e=>box_ne_map k1 p3 (by injection e with e;exact e.symm))⟩,ho.kept (row:=some j) hs (Or.inr (box_ne_row k1 ho)),h6,h7,h8,h9⟩
 unfold World.setCell;simp only[Array.getElem?_modify,k1,if_true,Option.map_some];rfl
/-- All but what is there now, joinings and copies lies as it did. -/
def Fr (bn:Nat) (w w':World):Prop:= ∀k o,w.heap[k]?=some o→k≠bn→(∀cs fz,o≠ .cells cs 55 fz)→(∀cs fz,o≠ .cells cs 46 fz)→w'.heap[k]?=some o
theorem Fr.of_below {bn:Nat} {w w':World} (h:Below w.heap.size w w'):Fr bn w w':=fun k o hk _ _ _=>(h.block k (heap_lt hk)).trans hk
theorem Fr.trans {bn:Nat} {a b c:World} (h1:Fr bn a b) (h2:Fr bn b c):Fr bn a c:=fun k o hk hn hj hc=>h2 k o (h1 k o hk hn hj hc) hn hj hc
theorem Fr.upd {bn:Nat} {w w':World} (h:w.grownBy w' (some bn)):Fr bn w w':=fun k o hk hn _ _=>(h.block k (heap_lt hk) (fun e=>hn (by injection e))).trans hk
theorem Fr.app {bn B n:Nat} {w w':World} {v:Value} {xs:List Value} (ho:w.ownsRow B 46 2 v n xs) (h:w.grownBy w' v.ownBlock):Fr bn w w':=fun k o hk _ _ hc=>(h.block k (heap_lt hk) (fun e=>by
 obtain⟨_,h2⟩:=ho
 rcases h2 with⟨rfl,_⟩|⟨g,cap,cur,rfl,_,hg,_⟩
 · simp[Value.ownBlock]at e
 · simp[Value.ownBlock]at e
   subst e;rw[hg]at hk;injection hk with hk
   exact hc _ _ hk.symm)).trans hk
theorem Fr.set {bn j i:Nat} {w:World} {cs:Array Value} {fz:Nat×Nat} (hj:w.heap[j]?=some (.cells cs 55 fz)) (u:Value):Fr bn w (w.setCell ⟨j,i,none⟩ u):=fun k o hk _ hn _=>((nb_set w j i u).block k (heap_lt hk) (fun e=>by
 injection e with e
 subst e;rw[hj]at hk;injection hk with hk
 exact hn _ _ hk.symm)).trans hk
theorem Tryz.infoCp:(Tryz.prog.info? 46).map (fun i=>(i.zero,i.size,i.bytes))=some (some (.agg #[.string ⟨#[]⟩,.string ⟨#[]⟩]),2,32):=by kernel_rfl
set_option maxRecDepth 100000 in
set_option maxHeartbeats 4000000 in
theorem goAside_any {B c:Nat} {w:World} {j bm bt bn:Nat} {vc:Value} {M T N:List En} {C:List (ByteArray×ByteArray)} (h:JoinM B c w j bm bt bn vc M T N C) (hM:Sp.Apart M) (hT:Sp.Apart T) (hN:Sp.Rise N) (hc:c≤100000) (hC:C.length≤100000) (p:ByteArray) (hp:p.size≤1000) (s:Spo) (hs:s.w=2):
    Calls Tryz.prog 60 #[.pointer (some ⟨j,0,none⟩),.string p,s.val] w fun e w'=>
     (Mg.asd M T N p.data.toList=none→e= .returned (.int .i64 2)∧Below w.heap.size w w')∧
     (∀q,Mg.asd M T N p.data.toList=some q→e= .returned (.int .i64 0)∧Below B w w'∧Fr bn w w'∧ ∃vc',JoinM B (c+1) w' j bm bt bn vc' M T (Sp.put1 (Mg.file q s) N) (C++[(p,⟨q.toArray⟩)])):=by
 obtain⟨i0,hi0,hz0,hz1,hz2⟩:=info_parts Tryz.infoCp
 have HJ:=hid h;have HM:=hid hM;have HT:=hid hT;have HN:=hid hN;have hjl:=heap_lt h.box;have HJB:=hid (show B≤w.heap.size from by have:=h.lej;omega);obtain⟨sw,st,sv⟩:=s
 simp only at hs;subst hs;simp only[Spo.val];clear h hM hT hN;obtain⟨wz,hwz⟩: ∃wz,wz=w.alloc (.cells #[.int .i64 2,.string st,.int .i64 sv] 89):=⟨_,rfl⟩
 have hbz:Below w.heap.size w wz:=by rw[hwz];exact(Below.refl _ _).alloc (Nat.le_refl _) _
 have HX:=hid (show Cs wz w.heap.size [.int .i64 2,.string st,.int .i64 sv]from by rw[hwz];exact Cs.new _ [.int .i64 2,.string st,.int .i64 sv] _);go_enter Tryz.func60,Tryz.ntmps60
 go_wp2_with fail;rw[←hwz];clear hwz;go_loopw [7] (fun i wr=> ∃k:Nat,1≤k∧k≤100∧i= .int .i64 k∧Hid (Mg.asd M T N p.data.toList=Mg.asdF M T N p.data.toList (100-k) k)∧Below wz.heap.size wz wr) (fun i _=>100-(intOf i).toNat)
 case atStart=>exact⟨1,Nat.le_refl _,by decide,rfl,(rfl:Mg.asd M T N p.data.toList=Mg.asdF M T N p.data.toList (100-1) 1),Below.refl _ _⟩
 case round=>
  obtain⟨k,hk1,hk2,rfl,HA,hbo⟩:=hrel
  have hbel:=below_tr hbz hbo;by_cases hk:k≤99
  · have hki:(k:Int)≤99:=by omega
    have e1:100-k=(99-k)+1:=by omega
    rw[e1]at HA;have HB:=hid (show¬Pp.asideE p.data.toList k=0→Mg.asd M T N p.data.toList=none from fun hh=>by rw[HA.out,Mg.asdF_bad hh]);have HH:=hid (show Pp.asideE p.data.toList k=0→Mg.free M T N (Pp.asideT p.data.toList k)=true→Mg.asd M T N p.data.toList=some (Pp.asideT p.data.toList k)from fun h1 h2=>by rw[HA.out,Mg.asdF_hit h1 h2]);have HMI:=hid (show Pp.asideE p.data.toList k=0→Mg.free M T N (Pp.asideT p.data.toList k)=false→Mg.asd M T N p.data.toList=Mg.asdF M T N p.data.toList (100-(k+1)) (k+1)from fun h1 h2=>by rw[HA.out,Mg.asdF_miss h1 h2];congr 1;omega);clear HA e1;go_wp2_with fail;refine(aside_any p k _ (by omega)).mono ?_
    rintro e w1 ⟨rfl,hb1⟩;rw[Int.toNat_natCast];have hb01:=below_tr hbel hb1;by_cases hE:Pp.asideE p.data.toList k=0
    · have HE:=hid hE
      have hok:=Pp.aside_ok hE;have hlen:=Pp.chk_len hok.2.2.2.2;rw[Int.toNat_natCast]at hlen
      have HQ:=hid (show(⟨(Pp.asideT p.data.toList k).toArray⟩:ByteArray).size≤maxLen from by
       show(Pp.asideT p.data.toList k).toArray.size≤_
       rw[List.size_toArray];unfold maxLen;omega)
      rw[hE,Pp.ifc_yes rfl];generalize hqq:Pp.asideT p.data.toList k=q at*;clear hE hok hlen;go_wp2_with fail;refine(isFree_any ((HJ.out.below hb01).join (by omega)) HM.out HT.out (Sp.apart_rise HN.out) ⟨q.toArray⟩ HQ.out).mono ?_
      rintro e w2 ⟨rfl,hb2⟩;have hb02:=below_tr hb01 hb2;have HJ2:=hid (HJ.out.below hb02);have HX2:=hid ((HX.out.below hbo).below (below_tr hb1 hb2));cases hfr:Mg.free M T N q with
      |true=>
       have HR:=hid (HH.out HE.out hfr);have hbx:Cs w2 j [.map (some bm),.map (some bt),.map (some bn),vc]:=⟨_,HJ2.out.box⟩
       have c2:=hbx.cell 2 rfl;have c3:=hbx.cell 3 rfl;have f3:=hbx.fr 3;have x0:=HX2.out.cell 0 rfl;have x1:=HX2.out.cell 1 rfl;have x2:=HX2.out.cell 2 rfl;obtain⟨n3,l3,m3⟩:=HJ2.out.now
       clear HB HH HMI hfr hbx;have hdr:Below w2.heap.size w2 w2.drew:=(Below.refl _ _).drew;obtain⟨w3,hrun3,hown3,hgr3⟩:=(omap_below m3 hdr m3.lt).update (string_keyed Tryz.underlying9) Tryz.underlying52 (by unfold maxLen;omega) (keyOf_string_mk Tryz.underlying9 HQ.out) (Sp.rd_mk 2 st sv)
       have HO3:=hid hown3;clear hown3;go_wp2_with fail;go_region
       have HJ3:=hid (show JoinM B (c+1) w3 j bm bt bn vc M T (Sp.put1 (Mg.file q ⟨2,st,sv⟩) N) C from(HJ2.out.below hdr).upd hgr3 ⟨n3+1,by omega,by
        rw[←Sp.D_put HN.out];exact HO3.out⟩)
       have hlt2:=(HJ2.out.len)
       have hsz3:=hgr3.size;have hb03:Below B w w3:=(((hb02.trans (hdr.mono hb02.size)).mono HJB.out)).grown hgr3 (by have:=hb02.size;have:=HJB.out;simp;omega) (fun k hk=>by injection hk with hk;omega);clear x0 x1 x2 c2 c3 f3 hrun3 HO3 HJ2 m3;have hbx:Cs w3 j [.map (some bm),.map (some bt),.map (some bn),vc]:=⟨_,HJ3.out.box⟩
       have c3:=hbx.cell 3 rfl;have f3:=hbx.fr 3;have hjl3:=hbx.lt;have HROW:=hid HJ3.out.row;obtain⟨va,vcap,rfl⟩:=ownsRow_shape HROW.out
       clear hbx;go_wp2_with (at_builtin;refine wpList_append_own _ rfl _ _ 31 rfl B 46 i0 (.agg #[.string ⟨#[]⟩,.string ⟨#[]⟩]) 2 32 Tryz.underlying31 hi0 hz0 hz1 hz2 rfl (by decide) _ _ _ rfl (HROW.out.alloc _) ⟨w3.heap.size,0,none⟩ 1 1 [.string p,.string ⟨q.toArray⟩] rfl rfl ?qc1 ?qc2 ?qc3 ?qc4 ?qc5 ?_)
       case qc1=>intro i u hi;match i,hi with|0,hi=>simp at hi;subst hi;simp[Addr.add]|1,hi=>simp at hi;subst hi;simp[Addr.add]|i+2,hi=>simp at hi
       case qc2=>intro u hu;simp at hu;rcases hu with rfl|rfl<;>rfl
       case qc3=>unfold maxLen;omega
       case qc4=>omega
       case qc5=>have:=HJ3.out.lej;simp;omega
       intro v4 w4 ho4 hgr4 hnn4;have hal:Below w3.heap.size w3 (w3.alloc (.cells #[.string p,.string ⟨q.toArray⟩] 46)):=(Below.refl _ _).alloc (Nat.le_refl _) _;have hJ4:=HJ3.out.below hal;have hbx4h:=(hgr4.block j (heap_lt hJ4.box) (fun e=>box_ne_row hJ4.box hJ4.row e.symm)).trans hJ4.box;have hbx4:Cs w4 j [.map (some bm),.map (some bt),.map (some bn),.slice va C.length vcap]:=⟨_,hbx4h⟩
       have d3:=hbx4.cell 3 rfl;have e3:=hbx4.fr 3
       have ho5:w4.ownsRow B 46 2 v4 (C++[((p,⟨q.toArray⟩):ByteArray×ByteArray)]).length (Mg.flatP (C++[((p,⟨q.toArray⟩):ByteArray×ByteArray)])):=by
        rw[←Mg.flatP_snoc,List.length_append];exact ho4
       have HJ5:=hid (hJ4.app hgr4 ho5);have HFR:=hid (show Fr bn w (w4.setCell ⟨j,3,none⟩ v4)from(((Fr.of_below (below_tr hb02 hdr)).trans (Fr.upd hgr3)).trans (Fr.of_below hal)).trans ((Fr.app hJ4.row hgr4).trans (Fr.set (hbx4h) v4)));have hszB:B≤w3.heap.size:=Nat.le_trans HJB.out hb03.size;have hb05:Below B w (w4.setCell ⟨j,3,none⟩ v4):=(((hb03.trans (hal.mono hszB)).grown hgr4 (Nat.le_trans HJB.out (Nat.le_trans hb03.size hal.size)) (fun k hk=>(hJ4.row.lt k hk).1)).setCell (p:=⟨j,3,none⟩) hJ4.lej _)
       obtain⟨v4a,v4c,rfl⟩:=ownsRow_shape ho4
       clear ho4 ho5 hgr4 hJ4 hbx4 hbx4h HJ3 HROW;go_wp2_with fail;go_ret;refine⟨?_,?_⟩
       · intro hn
         rw[HR.out]at hn;cases hn
       · intro q' hq'
         rw[HR.out]at hq';injection hq' with hq'
         rw[←hq'];exact⟨rfl,hb05,HFR.out,_,HJ5.out⟩
      |false=>
       have HR:=hid (HMI.out HE.out hfr);have hbo2:=below_tr hbo (below_tr hb1 hb2);clear HB HH HMI hfr;go_wp2_with fail;go_roundw
       case rel=>exact⟨k+1,by omega,by omega,by simp,HR,hbo2⟩
       case measure=>simp[intOf];omega
    · have HR:=hid (HB.out hE)
      have hz:(Pp.asideE p.data.toList k==0)=false:=by simpa using hE
      clear HB HH HMI;go_wp2_with fail;go_ret;exact⟨(fun _=>⟨rfl,hb01⟩),(fun q hq=>by rw[HR.out]at hq;cases hq)⟩
  · obtain rfl:k=100:=by omega
    have HR:=hid (show Mg.asd M T N p.data.toList=none from by rw[HA.out];rfl);go_wp2_with fail;go_ret;exact⟨(fun _=>⟨rfl,hbel⟩),(fun q hq=>by rw[HR.out]at hq;cases hq)⟩
end Go.Proofs.YtagibnejodgeeaaGreatDoor
