/- What package delta's parts answer of two trees: which paths go, which are made. -/
import Derived.Test.YtagibnejodgeeaaGreatDoorRUF
import Derived.Test.YtagibnejodgeeaaGreatDoorRUC
import Derived.Laws.OwnMore
import Derived.Test.YtagibnejodgeeaaGreatDoorRUB
import Derived.Test.YtagibnejodgeeaaGreatDoorRUA
import Derived.Test.YtagibnejodgeeaaGreatDoorProg
import Derived.WalkKit
import Derived.WalkSpells
import Derived.WalkLawsBesides
import Derived.Handy
set_option linter.unusedSimpArgs false
set_option linter.unusedVariables false
namespace Go.Proofs.YtagibnejodgeeaaGreatDoor
open Go.RowKit Go.Maps Go.WideMaps

namespace Sp
def wAt (L:List En) (p:List UInt8):Int:=match at_ L p with|some e=>wh e|none=>0
def tAt (L:List En) (p:List UInt8):ByteArray:=match at_ L p with|some e=>tx e|none=>⟨#[]⟩
def vAt (L:List En) (p:List UInt8):Int:=match at_ L p with|some e=>e.ver|none=>0
theorem val_eq (L:List En) (p:List UInt8):val L p= .agg #[.int .i64 (wAt L p),.string (tAt L p),.int .i64 (vAt L p)]:=by
 rw[val,wAt,tAt,vAt];cases at_ L p<;>rfl
theorem at_self {L:List En} (h:Apart L) {e:En} (he:e∈L):at_ L e.path.data.toList=some e:=by
 induction L with
 |nil=>cases he
 |cons a r ih=>
  rw[Apart,List.pairwise_cons]at h;rcases List.mem_cons.1 he with rfl|he'
  · rw[at_,List.find?_cons_of_pos (atB_iff.2 rfl)]
  · have hne: ¬Pp.atB e.path.data.toList a=true:=fun hh=>h.1 e he' (atB_iff.1 hh)
    rw[at_,List.find?_cons_of_neg hne];exact ih h.2 he'
theorem wAt_self {L:List En} (h:Apart L) {e:En} (he:e∈L):wAt L e.path.data.toList=wh e:=by rw[wAt,at_self h he]
/-- Is there a folder to be in? -/
def hasP (M:List En) (p:List UInt8):Bool:=(Pp.par p==[])||(wAt M (Pp.par p)==1)
theorem hasP_eq {M:List En} {p q:List UInt8} {a:Int} (h1:Pp.par p=q) (h2:wAt M q=a):hasP M p=((q==[])||(a==1)):=by rw[hasP,h1,h2]
def goes (M:List En) (e:En):Bool:=(wh e !=wAt M e.path.data.toList) && hasP M e.path.data.toList
def delC (e:En):Pp.Ch:=⟨4,e.path,⟨#[]⟩,⟨#[]⟩,-1⟩
def dels (L M:List En):List Pp.Ch:=(L.filter (goes M)).map delC
def newB (L:List En) (e:En):Bool:= !((wh e==wAt L e.path.data.toList) && ((tx e).toList==(tAt L e.path.data.toList).toList))
def mkC (e:En):Pp.Ch:=if e.folder=true then⟨1,e.path,⟨#[]⟩,⟨#[]⟩,-1⟩else⟨2,e.path,⟨#[]⟩,e.text,-1⟩
def mks (L M:List En):List Pp.Ch:=(M.filter (newB L)).map mkC
end Sp
theorem ownsRow_low {w:World} {B B':Nat} {e:TypeId} {size:Nat} {v:Value} {n:Nat} {xs:List Value} (h:w.ownsRow B e size v n xs) (hB:B'≤B):w.ownsRow B' e size v n xs:=by
 obtain⟨h1,h2⟩:=h
 refine⟨h1,?_⟩
 rcases h2 with h2|⟨g,cap,cur,hv,hg,r⟩
 · exact .inl h2
 · exact .inr ⟨g,cap,cur,hv,Nat.le_trans hB hg,r⟩
theorem _root_.Go.World.ownsRow.kept9 {w w':World} {B:Nat} {e:TypeId} {size:Nat} {v:Value} {n:Nat} {xs:List Value} (h:w.ownsRow B e size v n xs) (hw:Below w.heap.size w w'):w'.ownsRow B e size v n xs:=by
 obtain⟨h1,h2⟩:=h
 refine⟨h1,?_⟩
 rcases h2 with h2|⟨g,cap,cur,hv,hg,hh,r⟩
 · exact .inl h2
 · have hlt:g<w.heap.size:=by
    rcases Nat.lt_or_ge g w.heap.size with h|h
    · exact h
    · rw[Array.getElem?_eq_none h]at hh;cases hh
   exact .inr ⟨g,cap,cur,hv,hg,(hw.block g hlt).trans hh,r⟩
namespace Pp
def flatC (l:List Ch):List Value:=l.flatMap cellsC
theorem flatC_snoc (l:List Ch) (c:Ch):flatC l++cellsC c=flatC (l++[c]):=by simp[flatC]
theorem filter_hitE {L:List En} {k:Nat} (h:k<L.length) {pr:En→Bool} (hp:pr L[k]=true):(L.take (k+1)).filter pr=(L.take k).filter pr++[L[k]]:=by
 rw[List.take_succ_eq_append_getElem h,List.filter_append];simp[hp]
theorem filter_missE {L:List En} {k:Nat} (h:k<L.length) {pr:En→Bool} (hp:pr L[k]=false):(L.take (k+1)).filter pr=(L.take k).filter pr:=by
 rw[List.take_succ_eq_append_getElem h,List.filter_append];simp[hp]
end Pp

theorem Tryz.fieldWhat (a:Int) (s:ByteArray) (n:Int) (W:World):(Instr.field 89 (.agg #[.int .i64 a,.string s,.int .i64 n]) 0).run Tryz.prog W= .ok (.int .i64 a) W:=by
 have h:(Instr.field 89 (.agg #[.int .i64 a,.string s,.int .i64 n]) 0).run Tryz.prog W= .ok (#[Value.int .i64 a,Value.string s,Value.int .i64 n][0]) W:=by
  simp[Instr.field,run_underlying Tryz.underlying89,asAgg,part,go_sem]
  try rfl
 exact h
set_option maxHeartbeats 1000000 in
theorem like_any (a b:Int) (s t:ByteArray) (m n:Int) (w:World):
    Calls Tryz.prog 64 #[.agg #[.int .i64 a,.string s,.int .i64 m],.agg #[.int .i64 b,.string t,.int .i64 n]] w fun e w'=>e= .returned (.bool ((a==b) && (s.toList==t.toList)))∧Below w.heap.size w w':=by
 cases h:(a==b)with
 |false=>exact like_no a b s t m n h w
 |true=>
  go_enter Tryz.func64,Tryz.ntmps64
  go_wp2;go_ret;exact⟨by simp,((Below.refl _ _).alloc (Nat.le_refl _) _).alloc (by simp) _⟩
theorem made_any (x:En) (w:World):
    Calls Tryz.prog 65 #[.string x.path,.agg #[.int .i64 (Sp.wh x),.string (Sp.tx x),.int .i64 x.ver]] w fun e w'=>e= .returned (.agg #[.int .i64 (Sp.mkC x).k,.string (Sp.mkC x).p,.string (Sp.mkC x).q,.string (Sp.mkC x).t,.int .i64 (Sp.mkC x).b])∧Below w.heap.size w w':=by
 obtain⟨p,f,t,n⟩:=x
 cases f with
 |false=>exact made_file p t n w
 |true=>
  show Calls Tryz.prog 65 #[.string p,.agg #[.int .i64 1,.string ⟨#[]⟩,.int .i64 n]] w fun e w'=>e= .returned (.agg #[.int .i64 1,.string p,.string ⟨#[]⟩,.string ⟨#[]⟩,.int .i64 (-1)])∧Below w.heap.size w w'
  go_enter Tryz.func65,Tryz.ntmps65
  go_wp2_with fail;refine bodyPost_ret (v:= .agg #[.int .i64 1,.string p,.string ⟨#[]⟩,.string ⟨#[]⟩,.int .i64 (-1)]) (by simp[results,Tryz.results65,go_sem]) rfl ⟨rfl,?_⟩
  exact((Below.refl _ _).alloc (Nat.le_refl _) _).alloc (by simp) _
set_option maxRecDepth 100000 in
set_option maxHeartbeats 1000000 in
theorem hasParent_any {c n:Nat} {w:World} {M:List En} (h:w.ownsMap Tryz.prog 9 Sp.rd c n (Sp.D M)) (hM:Sp.Apart M) (p:ByteArray) (hp:p.size≤1000000000) (hc:Pp.chk p.data.toList=0) (hl:(Pp.par p.data.toList).length≤p.size):
    Calls Tryz.prog 63 #[.map (some c),.string p] w fun e w'=>e= .returned (.bool (Sp.hasP M p.data.toList))∧Below w.heap.size w w':=by
 have hclt:=h.lt
 have hsz:(⟨(Pp.par p.data.toList).toArray⟩:ByteArray).size≤maxLen:=by
  show(Pp.par p.data.toList).toArray.size≤_
  rw[List.size_toArray];unfold maxLen;omega
 have HLK:=hid (show∀W,Below w.heap.size w W→(Instr.lookup 52 (.map (some c)) (.string ⟨(Pp.par p.data.toList).toArray⟩) false).run Tryz.prog W= .ok (.agg #[.int .i64 (Sp.wAt M (Pp.par p.data.toList)),.string (Sp.tAt M (Pp.par p.data.toList)),.int .i64 (Sp.vAt M (Pp.par p.data.toList))]) W from fun W hW=>by
  have:=spotAt_any (omap_below h hW hclt) hM ⟨(Pp.par p.data.toList).toArray⟩ hsz
  rw[Sp.val_eq]at this;exact this)
 have HC:=hid hc;clear h hc;have hfd:=Tryz.fieldWhat;go_enter Tryz.func63,Tryz.ntmps63
 go_wp2_with fail;refine(parent_any p _ (by omega)).mono ?_
 rintro e w1 ⟨rfl,hb1⟩;rw[HC.out,Pp.ifc_yes rfl];have hlk:=HLK.out w1 hb1;generalize hqq:Pp.par p.data.toList=q at*;generalize haa:Sp.wAt M q=a at*;have HQQ:=hid (Sp.hasP_eq hqq haa);clear hqq haa;cases hq:(q==([]:List UInt8))with
 |true=>
  have hq2:((⟨q.toArray⟩:ByteArray).toList==(⟨#[]⟩:ByteArray).toList)=true:=by
   have:q=[]:=by simpa using hq
   subst this;simp
  go_wp2;go_ret;exact⟨by rw[HQQ.out,hq];simp,hb1⟩
 |false=>
  have hq2:((⟨q.toArray⟩:ByteArray).toList==(⟨#[]⟩:ByteArray).toList)=false:=by
   rw[Lib.toList_data,Lib.toList_data];simpa using hq
  go_wp2;go_ret;exact⟨by rw[HQQ.out,hq];simp,hb1⟩
set_option maxRecDepth 100000 in
set_option maxHeartbeats 4000000 in
theorem deletes_any {b c n m:Nat} {w:World} {L M:List En} (h:w.ownsMap Tryz.prog 9 Sp.rd b n (Sp.D L)) (ho:w.ownsMap Tryz.prog 9 Sp.rd c m (Sp.D M)) (hL:L.Pairwise (fun x y=>Pp.lt x y=true)) (hM:Sp.Apart M) (hn:L.length≤1000) (hp: ∀e∈L,e.path.size≤1000000000∧Pp.chk e.path.data.toList=0∧(Pp.par e.path.data.toList).length≤e.path.size):
    Calls Tryz.prog 26 #[.map (some b),.map (some c)] w fun e w'=> ∃v,e= .returned v∧w'.ownsRow w.heap.size 24 5 v (Sp.dels L M).length (Pp.flatC (Sp.dels L M))∧Below w.heap.size w w':=by
 obtain⟨i0,hi0,hz0,hz1,hz2⟩:=info_parts Tryz.infoChg
 have hblt:=h.lt;have hclt:=ho.lt;have hap:=Sp.apart_rise hL;have HB:=hid h
 have HLK:=hid (show∀x∈L,∀W,Below w.heap.size w W→(Instr.lookup 52 (.map (some b)) (.string x.path) false).run Tryz.prog W= .ok (.agg #[.int .i64 (Sp.wh x),.string (Sp.tx x),.int .i64 x.ver]) W∧(Instr.lookup 52 (.map (some c)) (.string x.path) false).run Tryz.prog W= .ok (.agg #[.int .i64 (Sp.wAt M x.path.data.toList),.string (Sp.tAt M x.path.data.toList),.int .i64 (Sp.vAt M x.path.data.toList)]) W from fun x hx W hW=>by
  have hs:x.path.size≤maxLen:=by have:=(hp x hx).1;unfold maxLen;omega
  have h1:=spotAt_any (omap_below h hW hblt) hap x.path hs;have h2:=spotAt_any (omap_below ho hW hclt) hM x.path hs;rw[Sp.val,Sp.at_self hap hx]at h1;rw[Sp.val_eq]at h2;exact⟨h1,h2⟩)
 have HHP:=hid (show∀x∈L,∀W,Below w.heap.size w W→Calls Tryz.prog 63 #[.map (some c),.string x.path] W fun e w'=>e= .returned (.bool (Sp.hasP M x.path.data.toList))∧Below W.heap.size W w' from fun x hx W hW=>hasParent_any (omap_below ho hW hclt) hM x.path (hp x hx).1 (hp x hx).2.1 (hp x hx).2.2);have HL:=hid hL;clear h ho hp hap hL;have hfd:=Tryz.fieldWhat;go_enter Tryz.func26,Tryz.ntmps26
 go_wp2_with fail;refine(paths_good HB.out HL.out hn).mono ?_
 rintro e w1 ⟨v1,rfl,⟨a1,cap1,rfl,hcap1,hcells⟩,hb1⟩;have HCL:=hid hcells;rw[List.length_map]at hcap1⊢;have hsz1:=hb1.size;clear hcells;go_wp2_with fail;go_loopw [5,11] (fun x i wr=> ∃k:Nat,k≤L.length∧i= .int .i64 k∧Below w1.heap.size w1 wr∧wr.ownsRow w1.heap.size 24 5 x (Sp.dels (L.take k) M).length (Pp.flatC (Sp.dels (L.take k) M))) (fun _ i _=>L.length-(intOf i).toNat)
 case atStart=>exact⟨0,Nat.zero_le _,rfl,Below.refl _ _,World.ownsRow_nil _ _ _ _⟩
 case round=>
  obtain⟨k,hk,rfl,hbel,hown⟩:=hrel
  have hb0r:Below w.heap.size w wr:=hb1.trans (hbel.mono hsz1);by_cases hlt:k<L.length
  · obtain⟨g,rfl,hg1,hg2,hcell⟩:=HCL.out k (by rw[List.length_map];exact hlt)
    rw[List.getElem_map]at hcell;have c0:=(hbel.cell (p:=⟨g,k,none⟩) hg2).trans hcell;have hmem:L[k]∈L:=List.getElem_mem hlt;obtain⟨hl1,hl2⟩:=HLK.out L[k] hmem wr hb0r
    have HHK:=hid (HHP.out L[k] hmem);have HHIT:=hid (show Sp.goes M L[k]=true→Sp.dels (L.take (k+1)) M=Sp.dels (L.take k) M++[Sp.delC L[k]]from fun hh=>by rw[Sp.dels,Pp.filter_hitE hlt hh,List.map_append];rfl);have HMISS:=hid (show Sp.goes M L[k]=false→Sp.dels (L.take (k+1)) M=Sp.dels (L.take k) M from fun hh=>by rw[Sp.dels,Pp.filter_missE hlt hh];rfl)
    have hXl:(Sp.dels (L.take k) M).length≤1000:=by
     have h1:(Sp.dels (L.take k) M).length≤(L.take k).length:=by rw[Sp.dels,List.length_map];exact List.length_filter_le _ _
     have h2:=List.length_take_le k L;omega
    have hrsz:=hbel.size;have HO:=hid hown;clear hown hcell hmem;generalize L[k]=x at*;generalize Sp.dels (L.take k) M=X at*;cases hne:(Sp.wh x !=Sp.wAt M x.path.data.toList)with
    |false=>
     have HX:=hid (HMISS.out (by rw[Sp.goes,hne];rfl));clear HHIT HMISS HHK;generalize Sp.wAt M x.path.data.toList=wm at*;generalize Sp.wh x=wx at*;go_wp2_with fail;go_roundw
     case rel=>exact⟨k+1,by omega,by simp,hbel,by rw[HX.out];exact HO.out⟩
     case measure=>simp[intOf];omega
    |true=>
     cases hhp:Sp.hasP M x.path.data.toList with
     |false=>
      have HX:=hid (HMISS.out (by rw[Sp.goes,hne,hhp];rfl));have HHPX:=hid hhp;clear HHIT HMISS hhp;generalize Sp.wAt M x.path.data.toList=wm at*;generalize Sp.wh x=wx at*;go_wp2_with fail;refine(HHK.out _ hb0r).mono ?_
      rintro e w2 ⟨rfl,hb2⟩;rw[HHPX.out];have hbel2:=below_trans hbel hb2;have HO2:=hid (HO.out.kept9 hb2);clear hb2 hl1 hl2 c0;go_wp2_with fail;go_roundw
      case rel=>exact⟨k+1,by omega,by simp,hbel2,by rw[HX.out];exact HO2.out⟩
      case measure=>simp[intOf];omega
     |true=>
      have HX:=hid (HHIT.out (by rw[Sp.goes,hne,hhp];rfl));have HHPX:=hid hhp;clear HHIT HMISS hhp;generalize Sp.wAt M x.path.data.toList=wm at*;generalize Sp.wh x=wx at*;go_wp2_with fail;refine(HHK.out _ hb0r).mono ?_
      rintro e w2 ⟨rfl,hb2⟩;rw[HHPX.out];have hbel2:=below_trans hbel hb2;have hO2:=HO.out.kept9 hb2;have hsz2:=hbel2.size;clear hb2 hl1 hl2 c0;go_wp2_with (at_builtin;refine wpList_append_own _ rfl _ _ 34 rfl w1.heap.size 24 i0 (.agg #[.int .i64 0,.string ⟨#[]⟩,.string ⟨#[]⟩,.string ⟨#[]⟩,.int .i64 0]) 5 64 Tryz.underlying34 hi0 hz0 hz1 hz2 rfl (by decide) _ _ _ rfl (hO2.alloc _) ⟨w2.heap.size,0,none⟩ 1 1 (Pp.cellsC (Sp.delC x)) rfl rfl (new_cellsC w2 (Sp.delC x) _) (Pp.cellsC_one _) (by unfold maxLen;omega) (by omega) (by simp;omega) ?_)
      intro v5 w5 ho5 hgr5 hnn5;have hbel5:Below w1.heap.size w1 w5:=(hbel2.alloc hbel2.size _).grown hgr5 (by simp;omega) (fun q hq=>(hO2.lt q hq).1);rw[Pp.flatC_snoc]at ho5;have HO5:=hid (show w5.ownsRow w1.heap.size 24 5 v5 (X++[Sp.delC x]).length (Pp.flatC (X++[Sp.delC x]))from by rw[List.length_append];exact ho5);clear ho5 hgr5 hnn5 hO2;go_wp2_with fail;go_roundw
      case rel=>exact⟨k+1,by omega,by simp,hbel5,by rw[HX.out];exact HO5.out⟩
      case measure=>simp[intOf];omega
  · obtain rfl:k=L.length:=by omega
    rw[List.take_length]at hown;have HO:=hid (ownsRow_low hown hsz1);clear hown;go_wp2_with fail;go_ret;exact⟨_,rfl,HO.out,hb0r⟩
end Go.Proofs.YtagibnejodgeeaaGreatDoor
namespace Go.Proofs.YtagibnejodgeeaaGreatDoor
open Go.RowKit Go.Maps Go.WideMaps

set_option maxRecDepth 100000 in
set_option maxHeartbeats 4000000 in
theorem makes_any {b c n m:Nat} {w:World} {L M:List En} (h:w.ownsMap Tryz.prog 9 Sp.rd b n (Sp.D L)) (ho:w.ownsMap Tryz.prog 9 Sp.rd c m (Sp.D M)) (hM:M.Pairwise (fun x y=>Pp.lt x y=true)) (hL:Sp.Apart L) (hn:M.length≤1000) (hp: ∀e∈M,e.path.size≤1000000000):
    Calls Tryz.prog 27 #[.map (some b),.map (some c)] w fun e w'=> ∃v,e= .returned v∧w'.ownsRow w.heap.size 24 5 v (Sp.mks L M).length (Pp.flatC (Sp.mks L M))∧Below w.heap.size w w':=by
 obtain⟨i0,hi0,hz0,hz1,hz2⟩:=info_parts Tryz.infoChg
 have hblt:=h.lt;have hclt:=ho.lt;have hap:=Sp.apart_rise hM;have HC:=hid ho
 have HLK:=hid (show∀x∈M,∀W,Below w.heap.size w W→(Instr.lookup 52 (.map (some c)) (.string x.path) false).run Tryz.prog W= .ok (.agg #[.int .i64 (Sp.wh x),.string (Sp.tx x),.int .i64 x.ver]) W∧(Instr.lookup 52 (.map (some b)) (.string x.path) false).run Tryz.prog W= .ok (.agg #[.int .i64 (Sp.wAt L x.path.data.toList),.string (Sp.tAt L x.path.data.toList),.int .i64 (Sp.vAt L x.path.data.toList)]) W from fun x hx W hW=>by
  have hs:x.path.size≤maxLen:=by have:=hp x hx;unfold maxLen;omega
  have h1:=spotAt_any (omap_below ho hW hclt) hap x.path hs;have h2:=spotAt_any (omap_below h hW hblt) hL x.path hs;rw[Sp.val,Sp.at_self hap hx]at h1;rw[Sp.val_eq]at h2;exact⟨h1,h2⟩)
 have HM:=hid hM;clear h ho hp hap hM;have hfd:=Tryz.fieldWhat;go_enter Tryz.func27,Tryz.ntmps27
 go_wp2_with fail;refine(paths_good HC.out HM.out hn).mono ?_
 rintro e w1 ⟨v1,rfl,⟨a1,cap1,rfl,hcap1,hcells⟩,hb1⟩;have HCL:=hid hcells;rw[List.length_map]at hcap1⊢;have hsz1:=hb1.size;clear hcells;go_wp2_with fail;go_loopw [5,11] (fun x i wr=> ∃k:Nat,k≤M.length∧i= .int .i64 k∧Below w1.heap.size w1 wr∧wr.ownsRow w1.heap.size 24 5 x (Sp.mks L (M.take k)).length (Pp.flatC (Sp.mks L (M.take k)))) (fun _ i _=>M.length-(intOf i).toNat)
 case atStart=>exact⟨0,Nat.zero_le _,rfl,Below.refl _ _,World.ownsRow_nil _ _ _ _⟩
 case round=>
  obtain⟨k,hk,rfl,hbel,hown⟩:=hrel
  have hb0r:Below w.heap.size w wr:=hb1.trans (hbel.mono hsz1);by_cases hlt:k<M.length
  · obtain⟨g,rfl,hg1,hg2,hcell⟩:=HCL.out k (by rw[List.length_map];exact hlt)
    rw[List.getElem_map]at hcell;have c0:=(hbel.cell (p:=⟨g,k,none⟩) hg2).trans hcell;have hmem:M[k]∈M:=List.getElem_mem hlt;obtain⟨hl1,hl2⟩:=HLK.out M[k] hmem wr hb0r
    have HLX:=hid (HLK.out M[k] hmem);have HHIT:=hid (show Sp.newB L M[k]=true→Sp.mks L (M.take (k+1))=Sp.mks L (M.take k)++[Sp.mkC M[k]]from fun hh=>by rw[Sp.mks,Pp.filter_hitE hlt hh,List.map_append];rfl);have HMISS:=hid (show Sp.newB L M[k]=false→Sp.mks L (M.take (k+1))=Sp.mks L (M.take k)from fun hh=>by rw[Sp.mks,Pp.filter_missE hlt hh];rfl)
    have hXl:(Sp.mks L (M.take k)).length≤1000:=by
     have h1:(Sp.mks L (M.take k)).length≤(M.take k).length:=by rw[Sp.mks,List.length_map];exact List.length_filter_le _ _
     have h2:=List.length_take_le k M;omega
    have hrsz:=hbel.size;have HO:=hid hown;clear hown hcell hmem;generalize M[k]=x at*;generalize Sp.mks L (M.take k)=X at*;cases hlk:((Sp.wh x==Sp.wAt L x.path.data.toList) && ((Sp.tx x).toList==(Sp.tAt L x.path.data.toList).toList))with
    |true=>
     have HX:=hid (HMISS.out (by rw[Sp.newB,hlk];rfl));have HLI:=hid hlk;clear HHIT HMISS hlk;go_wp2_with fail;refine(like_any _ _ _ _ _ _ _).mono ?_
     rintro e w2 ⟨rfl,hb2⟩;rw[HLI.out];have hbel2:=below_trans hbel hb2;have HO2:=hid (HO.out.kept9 hb2);clear hb2 hl1 hl2 c0;go_wp2_with fail;go_roundw
     case rel=>exact⟨k+1,by omega,by simp,hbel2,by rw[HX.out];exact HO2.out⟩
     case measure=>simp[intOf];omega
    |false=>
     have HX:=hid (HHIT.out (by rw[Sp.newB,hlk];rfl));have HLI:=hid hlk;clear HHIT HMISS hlk;go_wp2_with fail;refine(like_any _ _ _ _ _ _ _).mono ?_
     rintro e w2 ⟨rfl,hb2⟩;rw[HLI.out];have hbel2:=below_trans hbel hb2;have hb02:=below_trans hb0r hb2;have HO2:=hid (HO.out.kept9 hb2);clear hb2 hl1 hl2;obtain⟨hl1,hl2⟩:=HLX.out w2 hb02
     go_wp2_with fail;refine(made_any x _).mono ?_
     rintro e w3 ⟨rfl,hb3⟩;have hbel3:=below_trans hbel2 hb3;have hO3:=HO2.out.kept9 hb3;have hsz3:=hbel3.size;clear hb3 hl1 hl2 c0;go_wp2_with (at_builtin;refine wpList_append_own _ rfl _ _ 34 rfl w1.heap.size 24 i0 (.agg #[.int .i64 0,.string ⟨#[]⟩,.string ⟨#[]⟩,.string ⟨#[]⟩,.int .i64 0]) 5 64 Tryz.underlying34 hi0 hz0 hz1 hz2 rfl (by decide) _ _ _ rfl (hO3.alloc _) ⟨w3.heap.size,0,none⟩ 1 1 (Pp.cellsC (Sp.mkC x)) rfl rfl (new_cellsC w3 (Sp.mkC x) _) (Pp.cellsC_one _) (by unfold maxLen;omega) (by omega) (by simp;omega) ?_)
     intro v5 w5 ho5 hgr5 hnn5;have hbel5:Below w1.heap.size w1 w5:=(hbel3.alloc hbel3.size _).grown hgr5 (by simp;omega) (fun q hq=>(hO3.lt q hq).1);rw[Pp.flatC_snoc]at ho5;have HO5:=hid (show w5.ownsRow w1.heap.size 24 5 v5 (X++[Sp.mkC x]).length (Pp.flatC (X++[Sp.mkC x]))from by rw[List.length_append];exact ho5);clear ho5 hgr5 hnn5 hO3;go_wp2_with fail;go_roundw
     case rel=>exact⟨k+1,by omega,by simp,hbel5,by rw[HX.out];exact HO5.out⟩
     case measure=>simp[intOf];omega
  · obtain rfl:k=M.length:=by omega
    rw[List.take_length]at hown;have HO:=hid (ownsRow_low hown hsz1);clear hown;go_wp2_with fail;go_ret;exact⟨_,rfl,HO.out,hb0r⟩
end Go.Proofs.YtagibnejodgeeaaGreatDoor
namespace Go.Proofs.YtagibnejodgeeaaGreatDoor
open Go.RowKit

/-- What may be appended: nil, or so many records that lie at an address. -/
def SrcC (w:World) (sx:Value) (m size:Nat) (news:List Value):Prop:=(sx= .slice none 0 0∧m=0∧news=[])∨ ∃ad c,sx= .slice (some ad) m c∧news.length=m*size∧(∀j u,news[j]?=some u→w.cell? (ad.add j)=some u)
theorem SrcC.own {w:World} {B:Nat} {e:TypeId} {size:Nat} {v:Value} {n:Nat} {xs:List Value} (h:w.ownsRow B e size v n xs):SrcC w v n size xs:=by
 have h':=h;obtain⟨hl,h2⟩:=h
 rcases h2 with⟨rfl,rfl⟩|⟨g,cap,cur,rfl,hg,hh,hn,hm,hz,htake⟩
 · exact Or.inl ⟨rfl,rfl,List.length_eq_zero_iff.1 (by rw[hl];simp)⟩
 · refine Or.inr ⟨⟨g,0,none⟩,cap,rfl,hl,fun j u hj=>?_⟩
   have hadd:(⟨g,0,none⟩:Addr).add j=⟨g,j,none⟩:=by unfold Addr.add;split<;>simp_all
   have hlt:j<n*size:=by
    have:=(List.getElem?_eq_some_iff.1 hj).1
    omega
   rw[hadd,h'.cellAt j hlt];exact hj
theorem wpList_append_may {P:Program} {w:World} {ops:Array Oper} {rest:List Oper} {o:Oper} {a:Act} {Q:Exit→Act→World→Prop} (hgd:o.guard=none)
    (s x:Operand) (t:TypeId) (hop:o.op=Op.call {callee:=Callee.builtin Builtin.append,args:= #[s,x],argTypes:= #[t,t]})
    (base:Nat) (e:TypeId) (i:TypeInfo) (z:Value) (size bytes:Nat) (ht:P.underlying t=some (.slice e)) (hi:P.info? e=some i) (hz:i.zero=some z)
    (hsize:i.size=size) (hby:i.bytes=bytes) (hzs:z.cells.size=size) (hsz:0<size)
    (v:Value) (n:Nat) (xs:List Value) (hs:a.eval s=v) (hown:w.ownsRow base e size v n xs)
    (sx:Value) (m:Nat) (news:List Value) (hx:a.eval x=sx) (hsx:SrcC w sx m size news) (h1: ∀u∈news,u.oneCell'=true)
    (h63:n+m≤maxLen) (hbytes:(n+m)*bytes≤140737488355328) (hbase:base≤w.heap.size)
    (h: ∀v' w',w'.ownsRow base e size v' (n+m) (xs++news)→w.grownBy w' v.ownBlock→wpList P ops Q rest (a.put o.dst v') w'):
    wpList P ops Q (o::rest) a w:=by
 rcases hsx with⟨rfl,rfl,rfl⟩|⟨ad,c,rfl,hl,hnews⟩
 · refine wpList_plain hgd fun K hK=>?_
   have hrun:=run_append_owned_none (P:=P) (w:=w) base t o.type e i size ht hi v n xs hown;unfold Oper.wp;simp[execOp,hop,resolve,invoke,builtin,hs,hx,hrun,Result.andThen]
   exact hK _ _ (h v w (by simpa using hown) (World.grownBy.refl _ _))
 · exact wpList_append_own w hgd s x t hop base e i z size bytes ht hi hz hsize hby hzs hsz v n xs hs hown ad m c news hx hl hnews h1 h63 hbytes hbase fun v' w' h1 h2 _=>h v' w' h1 h2
end Go.Proofs.YtagibnejodgeeaaGreatDoor
namespace Go.Proofs.YtagibnejodgeeaaGreatDoor
open Go.RowKit Go.Maps Go.WideMaps

namespace Sp
def dfL (A B:List En):List Pp.Ch:=if dfE A B=0 then dels A B++mks A B else[]
theorem flatC_one (l:List Pp.Ch): ∀u∈Pp.flatC l,u.oneCell'=true:=by
 intro u hu;obtain⟨s,_,hs⟩:=List.mem_flatMap.1 hu
 exact Pp.cellsC_one s u hs
theorem flatC_app (a b:List Pp.Ch):Pp.flatC (a++b)=Pp.flatC a++Pp.flatC b:=by simp[Pp.flatC]
theorem dels_len (A B:List En):(dels A B).length≤A.length:=by rw[dels,List.length_map];exact List.length_filter_le _ _
theorem mks_len (A B:List En):(mks A B).length≤B.length:=by rw[mks,List.length_map];exact List.length_filter_le _ _
theorem par_le {p:List UInt8}:(Pp.par p).length≤p.length:=Pp.len_par p
end Sp

set_option maxRecDepth 100000 in
set_option maxHeartbeats 2000000 in
theorem diff_any (A B:List En) (va vb:Value) (w:World) (hA:Lies w va A) (hB:Lies w vb B) (hsA:Sized A) (hsB:Sized B):
    Calls Tryz.prog 9 #[va,vb] w fun e w'=> ∃u,e= .returned (.tuple #[u,.int .i64 (Sp.dfE A B)])∧w'.ownsRow w.heap.size 24 5 u (Sp.dfL A B).length (Pp.flatC (Sp.dfL A B))∧Below w.heap.size w w':=by
 obtain⟨i0,hi0,hz0,hz1,hz2⟩:=info_parts Tryz.infoChg
 have HVA:=hid hA;have HVB:=hid hB;have HSA:=hid hsA;have HSB:=hid hsB;clear hA hB hsA hsB;by_cases ha:Pp.treeE A=0
 · by_cases hb:Pp.treeE B=0
   · have hdz:Sp.dfE A B=0:=by rw[Sp.dfE,if_pos ha,hb]
     have HDL:=hid (show Sp.dfL A B=Sp.dels A B++Sp.mks A B from by rw[Sp.dfL,if_pos hdz]);have HDZ:=hid hdz;have hgA:=(Pp.good_iff A).1 ha;have hgB:=(Pp.good_iff B).1 hb;have HGA:=hid hgA;have HGB:=hid hgB;have hlA:=hgA.len;have hlB:=hgB.len;have hdl:=Sp.dels_len A B;have hml:=Sp.mks_len A B
     have HPA:=hid (show∀e∈A,e.path.size≤1000000000∧Pp.chk e.path.data.toList=0∧(Pp.par e.path.data.toList).length≤e.path.size from fun e he=>by
      have h1:=Pp.chk_len (Pp.entE_path (hgA.ents e he));have h2:e.path.data.toList.length=e.path.size:=by rw[Lib.size_eq]
      exact⟨by omega,Pp.entE_path (hgA.ents e he),by rw[←h2];exact Sp.par_le⟩)
     have HPB:=hid (show∀e∈B,e.path.size≤1000000000 from fun e he=>by
      have h1:=Pp.chk_len (Pp.entE_path (hgB.ents e he));have h2:e.path.data.toList.length=e.path.size:=by rw[Lib.size_eq]
      omega)
     have HTA:=hid ha;have HTB:=hid hb;clear ha hb hdz hgA hgB;go_enter Tryz.func9,Tryz.ntmps9
     go_wp2_with fail;refine(tcheck_all A _ _ HVA.out HSA.out).mono ?_
     rintro e w1 ⟨rfl,hb1⟩;rw[HTA.out];go_wp2_with fail;refine(tcheck_all B _ _ (HVB.out.below hb1) HSB.out).mono ?_
     rintro e w2 ⟨rfl,hb2⟩;rw[HTB.out];have hb02:=below_trans hb1 hb2;clear hb1 hb2;go_wp2_with fail;refine(spotOf_any A _ _ (HVA.out.below hb02) (by omega) (fun e he=>by have:=(HPA.out e he).1;unfold maxLen;omega)).mono ?_
     rintro e w3 ⟨b,rfl,hbb,hob,hb3⟩;have HOB:=hid hob;have hb03:=below_trans hb02 hb3;clear hb3 hob;go_wp2_with fail;refine(spotOf_any B _ _ (HVB.out.below hb03) (by omega) (fun e he=>by have:=HPB.out e he;unfold maxLen;omega)).mono ?_
     rintro e w4 ⟨c,rfl,hcc,hoc,hb4⟩;have HOC:=hid hoc;have HOB4:=hid (omap_below HOB.out hb4 HOB.out.lt);have hb04:=below_trans hb03 hb4;clear hb4 hoc;go_wp2_with fail;refine(deletes_any HOB4.out HOC.out HGA.out.rise (Sp.apart_rise HGB.out.rise) (by omega) HPA.out).mono ?_
     rintro e w5 ⟨v5,rfl,hr5,hb5⟩;have HOB5:=hid (omap_below HOB4.out hb5 HOB4.out.lt);have HOC5:=hid (omap_below HOC.out hb5 HOC.out.lt);have HR5:=hid hr5;have hb05:=below_trans hb04 hb5;clear hb5 hr5;go_wp2_with fail;refine(makes_any HOB5.out HOC5.out HGB.out.rise (Sp.apart_rise HGA.out.rise) (by omega) HPB.out).mono ?_
     rintro e w6 ⟨v6,rfl,hr6,hb6⟩;have HR56:=hid (HR5.out.kept9 hb6);have HR6:=hid (SrcC.own hr6);have hb06:=below_trans hb05 hb6;have hsz6:=hb06.size;have hsz4:=hb04.size;clear hb6 hr6;go_wp2_with (at_builtin;refine wpList_append_may rfl _ _ 34 rfl w.heap.size 24 i0 (.agg #[.int .i64 0,.string ⟨#[]⟩,.string ⟨#[]⟩,.string ⟨#[]⟩,.int .i64 0]) 5 64 Tryz.underlying34 hi0 hz0 hz1 hz2 rfl (by decide) v5 (Sp.dels A B).length (Pp.flatC (Sp.dels A B)) rfl (ownsRow_low HR56.out hsz4) v6 (Sp.mks A B).length (Pp.flatC (Sp.mks A B)) rfl HR6.out (Sp.flatC_one _) (by unfold maxLen;omega) (by omega) hsz6 ?_)
     intro v7 w7 ho7 hgr7;have hb07:Below w.heap.size w w7:=hb06.grown hgr7 hsz6 (fun q hq=>Nat.le_trans hsz4 (HR56.out.lt q hq).1);rw[←Sp.flatC_app]at ho7;have HO7:=hid (show w7.ownsRow w.heap.size 24 5 v7 (Sp.dfL A B).length (Pp.flatC (Sp.dfL A B))from by rw[HDL.out,List.length_append];exact ho7);clear ho7 hgr7;go_wp2_with fail;go_ret2;exact⟨_,by rw[HDZ.out];rfl,HO7.out,hb07⟩
   · have hE:Sp.dfE A B=Pp.treeE B:=by rw[Sp.dfE,if_pos ha]
     have HE:=hid hE;have HL:=hid (show Sp.dfL A B=[]from by rw[Sp.dfL,if_neg (by rw[hE];exact hb)]);have HTA:=hid ha;have hz:(Pp.treeE B==0)=false:=by simpa using hb
     clear ha hb hE;go_enter Tryz.func9,Tryz.ntmps9
     go_wp2_with fail;refine(tcheck_all A _ _ HVA.out HSA.out).mono ?_
     rintro e w1 ⟨rfl,hb1⟩;rw[HTA.out];go_wp2_with fail;refine(tcheck_all B _ _ (HVB.out.below hb1) HSB.out).mono ?_
     rintro e w2 ⟨rfl,hb2⟩;have hb02:=below_trans hb1 hb2;generalize hy:Pp.treeE B=y at*;go_wp2_with fail;go_ret2;exact⟨_,by rw[HE.out];rfl,by rw[HL.out];exact World.ownsRow_nil _ _ _ _,hb02⟩
 · have hE:Sp.dfE A B=Pp.treeE A:=by rw[Sp.dfE,if_neg ha]
   have HE:=hid hE;have HL:=hid (show Sp.dfL A B=[]from by rw[Sp.dfL,if_neg (by rw[hE];exact ha)]);have hz:(Pp.treeE A==0)=false:=by simpa using ha
   clear ha hE;go_enter Tryz.func9,Tryz.ntmps9
   go_wp2_with fail;refine(tcheck_all A _ _ HVA.out HSA.out).mono ?_
   rintro e w1 ⟨rfl,hb1⟩;generalize hy:Pp.treeE A=y at*;go_wp2_with fail;go_ret2;exact⟨_,by rw[HE.out];rfl,by rw[HL.out];exact World.ownsRow_nil _ _ _ _,hb1⟩
end Go.Proofs.YtagibnejodgeeaaGreatDoor
namespace Go.Proofs.YtagibnejodgeeaaGreatDoor
open Go.RowKit

namespace Pp
/-- The place of the first entry at a path; -1: there is none. -/
def idx (L:List En) (q:List UInt8):Int:=match L.findIdx? (atB q)with
 |some i=>(i:Int)
 |none=> -1
theorem idx_hit {L:List En} {q:List UInt8} {k:Nat} (hlt:k<L.length) (h: ∀j (h:j<L.length),j<k→atB q L[j]=false) (hp:atB q L[k]=true):(k:Int)=idx L q:=by
 have:L.findIdx? (atB q)=some k:=List.findIdx?_eq_some_iff_getElem.2 ⟨hlt,hp,fun j hj=>by rw[h j (by omega) hj];simp⟩
 rw[idx,this]
theorem idx_miss {L:List En} {q:List UInt8} (h: ∀j (h:j<L.length),atB q L[j]=false): -1=idx L q:=by
 have:L.findIdx? (atB q)=none:=List.findIdx?_eq_none_iff.2 fun x hx=>by
  obtain⟨j,hj,rfl⟩:=List.getElem_of_mem hx
  exact h j hj
 rw[idx,this]
theorem idx_cases (L:List En) (q:List UInt8):(idx L q= -1∧L.find? (atB q)=none)∨ ∃k,∃h:k<L.length,idx L q=(k:Int)∧L.find? (atB q)=some L[k]:=by
 cases hf:L.findIdx? (atB q)with
 |none=>
  refine Or.inl ⟨by rw[idx,hf],?_⟩
  rw[List.find?_eq_none];intro x hx;have:=List.findIdx?_eq_none_iff.1 hf x hx
  simp[this]
 |some k=>
  obtain⟨hlt,hp,hmin⟩:=List.findIdx?_eq_some_iff_getElem.1 hf
  refine Or.inr ⟨k,hlt,by rw[idx,hf],find_hit hlt (fun j h hj=>?_) hp⟩
  have:=hmin j hj
  simpa using this
end Pp

set_option maxHeartbeats 800000 in
theorem entryAt_any (L:List En) (v:Value) (q:ByteArray) (w:World) (hv:Lies w v L):
    Calls Tryz.prog 34 #[v,.string q] w fun e w'=>e= .returned (.int .i64 (Pp.idx L q.data.toList))∧Below w.heap.size w w':=by
 obtain⟨a,cap,rfl,hcap,hcap2,hL⟩:=hv
 have HL:Hid (∀i (h:i<L.length),∃b o,a=some ⟨b,o,none⟩∧b<w.heap.size∧EnAt w b (o+i*4) L[i]):=hL;clear hL;go_enter Tryz.func34,Tryz.ntmps34
 go_wp2_with fail;go_loopw [5] (fun i wr=> ∃k:Nat,k≤L.length∧i= .int .i64 k∧Hid (∀j (h:j<L.length),j<k→Pp.atB q.data.toList L[j]=false)∧Below w.heap.size w wr) (fun i _=>L.length-(intOf i).toNat)
 case atStart=>exact⟨0,Nat.zero_le _,rfl,(fun j _ h=>absurd h (Nat.not_lt_zero _): ∀j (h:j<L.length),j<0→Pp.atB q.data.toList L[j]=false),Below.refl _ _⟩
 case round=>
  obtain⟨k,hk,rfl,HP,hbel⟩:=hrel
  by_cases hlt:k<L.length
  · obtain⟨b,o,rfl,hb,he⟩:=HL.out k hlt
    obtain⟨c0,c1,c2,c3⟩:=he.below hb hbel
    cases hp:Pp.atB q.data.toList L[k]with
    |true=>
     have hp2:((L[k]).path.toList==q.toList)=true:=by rw[←hp,Pp.atB,Lib.toList_data,Lib.toList_data]
     have HE:=hid (show(k:Int)=Pp.idx L q.data.toList from Pp.idx_hit hlt HP.out hp);go_wp2_with fail;go_ret;exact⟨Pp.ret_int HE.out,hbel⟩
    |false=>
     have hp2:((L[k]).path.toList==q.toList)=false:=by rw[←hp,Pp.atB,Lib.toList_data,Lib.toList_data]
     go_wp2_with fail;go_roundw
     case rel=>exact⟨k+1,by omega,by simp,(fun j h1 h2=>by
      by_cases e:j=k
      · subst e;exact hp
      · exact HP.out j h1 (by omega): ∀j (h:j<L.length),j<k+1→Pp.atB q.data.toList L[j]=false),hbel⟩
     case measure=>simp[intOf];omega
  · have HE:=hid (show-1=Pp.idx L q.data.toList from Pp.idx_miss (fun j h=>HP.out j h (by omega)))
    go_wp2_with fail;go_ret;exact⟨Pp.ret_int HE.out,hbel⟩
end Go.Proofs.YtagibnejodgeeaaGreatDoor
namespace Go.Proofs.YtagibnejodgeeaaGreatDoor
open Go.RowKit

namespace Pp
theorem cls (c:UInt8):(97≤(c.toNat:Int)∧(c.toNat:Int)≤122)∨(65≤(c.toNat:Int)∧(c.toNat:Int)≤90)∨(48≤(c.toNat:Int)∧(c.toNat:Int)≤57)∨
    (c.toNat:Int)=45∨(c.toNat:Int)=95∨(c.toNat:Int)=46∨(c.toNat:Int)=40∨(c.toNat:Int)=41∨(c.toNat:Int)=32∨okB c=false:=by
 cases h:okB c with
 |false=>simp
 |true=>have:=(okB_iff c).1 h;omega
theorem not_ok (c:UInt8) (h:okB c=false):(c.toNat:Int)<32∨(32<(c.toNat:Int)∧(c.toNat:Int)<40)∨(41<(c.toNat:Int)∧(c.toNat:Int)<45)∨(46<(c.toNat:Int)∧(c.toNat:Int)<48)∨
    (57<(c.toNat:Int)∧(c.toNat:Int)<65)∨(90<(c.toNat:Int)∧(c.toNat:Int)<95)∨(95<(c.toNat:Int)∧(c.toNat:Int)<97)∨122<(c.toNat:Int):=by
 have h1: ¬(okB c=true):=by simp[h]
 rw[okB_iff]at h1;omega
def goodTo (s:ByteArray) (k:Nat):Prop:=(s.data.toList.take k).all okB=true∧ ∀j (h:j<s.size),j<k→(j=0∨j=s.size-1)→(s[j].toNat:Int)≠32
theorem good_zero (s:ByteArray):goodTo s 0:=⟨by simp,fun j h h1=>absurd h1 (Nat.not_lt_zero _)⟩
theorem good_step (s:ByteArray) (k:Nat) (hk:k<s.size) (h:goodTo s k) (h1:okB s[k]=true) (h2:(k=0∨k=s.size-1)→(s[k].toNat:Int)≠32):goodTo s (k+1):=by
 refine⟨all_snoc s k hk h.1 h1,fun j hj hj2 hj3=>?_⟩
 by_cases e:j=k
 · subst e;exact h2 hj3
 · exact h.2 j hj (by omega) hj3
theorem good_end (s:ByteArray) (h:goodTo s s.size) (h1:1≤s.size) (h2:s.size≤20) (h3:s.toList≠[46]) (h4:s.toList≠[46,46]):true=nameB s.data.toList:=
 nameB_yes s h1 h2 h3 h4 (by omega) (h.2 0 (by omega) (by omega) (Or.inl rfl)) (by omega) (h.2 (s.size-1) (by omega) (by omega) (Or.inr rfl))
  (by have:=h.1;rwa [List.take_of_length_le (by rw[←Lib.size_eq];exact Nat.le_refl _)]at this)
theorem blank_ok (c:UInt8) (h:(c.toNat:Int)=32):okB c=true:=(okB_iff c).2 (by omega)
end Pp

set_option maxRecDepth 100000 in
set_option maxHeartbeats 2000000 in
theorem rIsName_any (s:ByteArray) (w:World) (hs:s.size≤150000000000000):
    Calls Tryz.prog 66 #[.string s] w fun e w'=>e= .returned (.bool (Pp.nameB s.data.toList))∧w'=w:=by
 go_enter Tryz.func66,Tryz.ntmps66
 go_wp2_with fail;go_loop [3] (fun i=> ∃k:Nat,k≤s.size∧i= .int .i64 k∧Hid (Pp.goodTo s k)) (fun i=>s.size-(intOf i).toNat)
 case atStart=>exact⟨0,Nat.zero_le _,rfl,Pp.good_zero s⟩
 case round=>
  obtain⟨k,hk,rfl,HG⟩:=hrel
  by_cases hlt:k<s.size
  · rcases Pp.cls s[k]with⟨h1,h2⟩|⟨h1,h2⟩|⟨h1,h2⟩|h|h|h|h|h|h|h
    iterate 3
     · have HK:=hid (show Pp.okB s[k]=true from(Pp.okB_iff _).2 (by omega))
       have HB:=hid (show(k=0∨k=s.size-1)→(s[k].toNat:Int)≠32 from fun _=>by omega);go_wp2_with fail;go_round
       case rel=>exact⟨k+1,by omega,by go_num,Pp.good_step s k hlt HG.out HK.out HB.out⟩
       case measure=>simp[intOf];omega
    iterate 5
     · have HK:=hid (show Pp.okB s[k]=true from(Pp.okB_iff _).2 (by omega))
       have HB:=hid (show(k=0∨k=s.size-1)→(s[k].toNat:Int)≠32 from fun _=>by omega);go_wp2_with fail;go_round
       case rel=>exact⟨k+1,by omega,by go_num,Pp.good_step s k hlt HG.out HK.out HB.out⟩
       case measure=>simp[intOf];omega
    · have HK:=hid (show Pp.okB s[k]=true from Pp.blank_ok _ h)
      by_cases hk0:k=0
      · clear HK
        subst hk0;have HF:Hid (false=Pp.nameB s.data.toList):=Pp.nameB_head s hlt h;go_wp2_with fail;go_ret;exact⟨Pp.ret_bool HF.out,rfl⟩
      by_cases hk1:k=s.size-1
      · have HF:Hid (false=Pp.nameB s.data.toList):=Pp.nameB_last s (by omega) (by subst hk1;exact h)
        have hk2:((k:Int)==(s.size:Int)-1)=true:=by rw[beq_iff_eq];omega
        have hk3:((k:Int)==0)=false:=by rw[beq_eq_false_iff_ne];omega
        clear hk1 hk0;go_wp2_with fail;go_ret;exact⟨Pp.ret_bool HF.out,rfl⟩
      have HB:=hid (show(k=0∨k=s.size-1)→(s[k].toNat:Int)≠32 from fun e=>by omega);have hk2:((k:Int)==(s.size:Int)-1)=false:=by rw[beq_eq_false_iff_ne];omega
      have hk3:((k:Int)==0)=false:=by rw[beq_eq_false_iff_ne];omega
      clear hk1 hk0;go_wp2_with fail;go_round
      case rel=>exact⟨k+1,by omega,by go_num,Pp.good_step s k hlt HG.out HK.out HB.out⟩
      case measure=>simp[intOf];omega
    · have HF:Hid (false=Pp.nameB s.data.toList):=Pp.nameB_bad s k hlt h
      rcases Pp.not_ok _ h with g1|⟨g1,g2⟩|⟨g1,g2⟩|⟨g1,g2⟩|⟨g1,g2⟩|⟨g1,g2⟩|⟨g1,g2⟩|g1
      all_goals
       clear h;go_wp2_with fail;go_ret;exact⟨Pp.ret_bool HF.out,rfl⟩
  · obtain rfl:k=s.size:=by omega
    clear hlt hk;cases c0:s.toList.isEmpty with
    |true=>
     have HF:=hid (show false=Pp.nameB s.data.toList from Pp.nameB_no s (Or.inl (by rw[Lib.toList_data]at c0;rw[Lib.size_eq];rw[List.isEmpty_iff]at c0;rw[c0];decide)));go_wp2_with fail;go_ret;exact⟨Pp.ret_bool HF.out,rfl⟩
    |false=>
    by_cases c2:20<(s.size:Int)
    · have HF:=hid (show false=Pp.nameB s.data.toList from Pp.nameB_no s (Or.inr (Or.inl (by omega))))
      go_wp2_with fail;go_ret;exact⟨Pp.ret_bool HF.out,rfl⟩
    cases c3:(s.toList==[46])with
    |true=>
     have HF:=hid (show false=Pp.nameB s.data.toList from Pp.nameB_no s (Or.inr (Or.inr (Or.inl (by simpa using c3)))));go_wp2_with fail;go_ret;exact⟨Pp.ret_bool HF.out,rfl⟩
    |false=>
    cases c4:(s.toList==[46,46])with
    |true=>
     have HF:=hid (show false=Pp.nameB s.data.toList from Pp.nameB_no s (Or.inr (Or.inr (Or.inr (by simpa using c4)))));go_wp2_with fail;go_ret;exact⟨Pp.ret_bool HF.out,rfl⟩
    |false=>
     have HF:=hid (show true=Pp.nameB s.data.toList from Pp.good_end s HG.out (by
      rw[Lib.toList_data]at c0;rw[Lib.size_eq];cases e:s.data.toList with
      |nil=>rw[e]at c0;cases c0
      |cons _ _=>simp) (by omega) (by simpa using c3) (by simpa using c4))
     go_wp2_with fail;go_ret;exact⟨Pp.ret_bool HF.out,rfl⟩
end Go.Proofs.YtagibnejodgeeaaGreatDoor
namespace Go.Proofs.YtagibnejodgeeaaGreatDoor
open Go.RowKit

namespace Pp
def vs (l:List (List UInt8)):List Value:=l.map fun x=> .string ⟨x.toArray⟩
theorem vs_len (l:List (List UInt8)):(vs l).length=l.length:=by simp[vs]
theorem vs_snoc (l:List (List UInt8)) (x:List UInt8):vs l++[.string ⟨x.toArray⟩]=vs (l++[x]):=by simp[vs]
theorem piece (s:ByteArray) (f k:Nat):s.extract f k=⟨((s.data.toList.drop f).take (k-f)).toArray⟩:=bytes_eq (Lib.extract_data s f k)
theorem piece_end (s:ByteArray) (f:Nat):s.extract f s.size=⟨(s.data.toList.drop f).toArray⟩:=bytes_eq (by rw[Lib.extract_data];exact List.take_of_length_le (by rw[List.length_drop,←Lib.size_eq];exact Nat.le_refl _))
theorem drop_split (s:ByteArray) (f k:Nat) (hf:f≤k) (hk:k<s.size):s.data.toList.drop f=(s.data.toList.drop f).take (k-f)++s[k]::s.data.toList.drop (k+1):=by
 have hl:k<s.data.toList.length:=by simpa using hk
 conv=>lhs;rw[←List.take_append_drop (k-f) (s.data.toList.drop f)]
 rw[List.drop_drop,show f+(k-f)=k by omega,List.drop_eq_getElem_cons hl,byte_at' s k hk hl]
theorem seg_snoc (s:ByteArray) (f k:Nat) (hf:f≤k) (hk:k<s.size):(s.data.toList.drop f).take (k+1-f)=(s.data.toList.drop f).take (k-f)++[s[k]]:=by
 have hl:k<s.data.toList.length:=by simpa using hk
 have h2:k-f<(s.data.toList.drop f).length:=by rw[List.length_drop];omega
 rw[show k+1-f=(k-f)+1 by omega,List.take_succ_eq_append_getElem h2,List.getElem_drop];congr 2
 rw[←byte_at' s k hk hl];congr 1
 omega
/-- After k bytes: the names that are whole, and where the next one begins. -/
def cutTo (s:ByteArray) (dn:List (List UInt8)) (f k:Nat):Prop:=nm s.data.toList=dn++nm (s.data.toList.drop f)∧47∉(s.data.toList.drop f).take (k-f)∧dn.length≤k∧f≤k
theorem cut_zero (s:ByteArray):cutTo s [] 0 0:=⟨by simp,by simp,by simp,Nat.le_refl _⟩
theorem cut_slash (s:ByteArray) {dn:List (List UInt8)} {f k:Nat} (hk:k<s.size) (h:cutTo s dn f k) (hc:(s[k].toNat:Int)=47):cutTo s (dn++[(s.data.toList.drop f).take (k-f)]) (k+1) (k+1):=by
 have e:s[k]=47:=UInt8.toNat_inj.1 (by simpa using Int.ofNat.inj hc);refine⟨?_,by simp,by have:=h.2.2.1;simp;omega,Nat.le_refl _⟩
 have e2:=drop_split s f k h.2.2.2 hk;rw[e]at e2
 have e3:nm (s.data.toList.drop f)=(s.data.toList.drop f).take (k-f)::nm (s.data.toList.drop (k+1)):=by
  conv=>lhs;rw[e2]
  exact nm_cut _ _ h.2.1
 rw[h.1,e3];simp
theorem cut_other (s:ByteArray) {dn:List (List UInt8)} {f k:Nat} (hk:k<s.size) (h:cutTo s dn f k) (hc:(s[k].toNat:Int)≠47):cutTo s dn f (k+1):=by
 refine⟨h.1,?_,by have:=h.2.2.1;omega,by have:=h.2.2.2;omega⟩
 rw[seg_snoc s f k h.2.2.2 hk];intro hm;rcases List.mem_append.1 hm with hm|hm
 · exact h.2.1 hm
 · rw[List.mem_singleton]at hm
   exact hc (by rw[←hm];rfl)
theorem cut_end (s:ByteArray) {dn:List (List UInt8)} {f:Nat} (h:cutTo s dn f s.size):nm s.data.toList=dn++[s.data.toList.drop f]:=by
 rw[h.1,nm_none];have:=h.2.1
 rwa [List.take_of_length_le (by rw[List.length_drop,←Lib.size_eq];exact Nat.le_refl _)]at this
end Pp

theorem Tryz.infoS:(Tryz.prog.info? 9).map (fun i=>(i.zero,i.size,i.bytes))=some (some (.string ⟨#[]⟩),1,16):=by kernel_rfl
set_option maxRecDepth 100000 in
set_option maxHeartbeats 1000000 in
theorem rNames_any (s:ByteArray) (w:World) (hs:s.size≤1000000000):
    Calls Tryz.prog 38 #[.string s] w fun e w'=> ∃v,e= .returned v∧w'.ownsRow w.heap.size 9 1 v (Pp.nm s.data.toList).length (Pp.vs (Pp.nm s.data.toList))∧Below w.heap.size w w':=by
 obtain⟨i0,hi,hz0,hz1,hz2⟩:=info_parts Tryz.infoS
 go_enter Tryz.func38,Tryz.ntmps38
 go_wp2_with fail
 go_loopw [3,4,5] (fun v fr i wr=> ∃(dn:List (List UInt8)) (f k:Nat),k≤s.size∧f≤k∧dn.length≤k∧fr= .int .i64 f∧i= .int .i64 k∧wr.ownsRow w.heap.size 9 1 v dn.length (Pp.vs dn)∧Below w.heap.size w wr∧Hid (Pp.cutTo s dn f k))
  (fun _ _ i _=>s.size-(intOf i).toNat)
 case atStart=>exact⟨[],0,0,Nat.zero_le _,Nat.le_refl _,Nat.le_refl _,rfl,rfl,World.ownsRow_nil _ _ _ _,Below.refl _ _,Pp.cut_zero s⟩
 case round=>
  obtain⟨dn,f,k,hk,hf,hd,rfl,rfl,hown,hbel,HC⟩:=hrel
  by_cases hlt:k<s.size
  · cases hc:((s[k].toNat:Int)==47)with
    |true=>
     have HX:=hid (show(s[k].toNat:Int)=47 from by simpa using hc);go_wp2_with (at_builtin;refine wpList_append_own _ rfl _ _ 69 rfl w.heap.size 9 i0 (.string ⟨#[]⟩) 1 16 Tryz.underlying69 hi hz0 hz1 hz2 rfl (by decide) _ _ _ rfl (hown.alloc _) ⟨wr.heap.size,0,none⟩ 1 1 [.string (s.extract f k)] rfl rfl ?c1 ?c2 ?c3 ?c4 ?c5 ?_)
     case c1=>
      intro j u hj;match j,hj with
      |0,hj=>simp at hj;subst hj;simp[Addr.add]
     case c2=>intro u hu;simp at hu;subst hu;rfl
     case c3=>unfold maxLen;omega
     case c4=>omega
     case c5=>have:=hbel.size;simp;omega
     intro v' w1 hown' hgrow _;have hb1:Below w.heap.size w w1:=(hbel.alloc hbel.size _).grown hgrow (by have:=hbel.size;simp;omega) (fun g hg=>(hown.lt g hg).1);rw[Pp.piece,Pp.vs_snoc]at hown';have HO:Hid (w1.ownsRow w.heap.size 9 1 v' (dn.length+1) (Pp.vs (dn++[(s.data.toList.drop f).take (k-f)]))):=hown';clear hown' hgrow hown hbel;go_wp2;go_roundw
     case rel=>exact⟨dn++[(s.data.toList.drop f).take (k-f)],k+1,k+1,by omega,Nat.le_refl _,by simp;omega,by simp,by simp,by rw[List.length_append];exact HO.out,hb1,Pp.cut_slash s hlt HC.out HX.out⟩
     case measure=>simp[intOf];omega
    |false=>
     have HX:=hid (show(s[k].toNat:Int)≠47 from by simpa using hc);go_wp2_with fail;go_roundw
     case rel=>exact⟨dn,f,k+1,by omega,by omega,by omega,rfl,by simp,hown,hbel,Pp.cut_other s hlt HC.out HX.out⟩
     case measure=>simp[intOf];omega
  · obtain rfl:k=s.size:=by omega
    go_wp2_with (at_builtin;refine wpList_append_own _ rfl _ _ 69 rfl w.heap.size 9 i0 (.string ⟨#[]⟩) 1 16 Tryz.underlying69 hi hz0 hz1 hz2 rfl (by decide) _ _ _ rfl (hown.alloc _) ⟨wr.heap.size,0,none⟩ 1 1 [.string (s.extract f s.size)] rfl rfl ?d1 ?d2 ?d3 ?d4 ?d5 ?_)
    case d1=>
     intro j u hj;match j,hj with
     |0,hj=>simp at hj;subst hj;simp[Addr.add]
    case d2=>intro u hu;simp at hu;subst hu;rfl
    case d3=>unfold maxLen;omega
    case d4=>omega
    case d5=>have:=hbel.size;simp;omega
    intro v' w1 hown' hgrow _;have hb1:Below w.heap.size w w1:=(hbel.alloc hbel.size _).grown hgrow (by have:=hbel.size;simp;omega) (fun g hg=>(hown.lt g hg).1);rw[Pp.piece_end,Pp.vs_snoc]at hown';have HO:Hid (w1.ownsRow w.heap.size 9 1 v' (dn.length+1) (Pp.vs (dn++[s.data.toList.drop f]))):=hown';clear hown' hgrow hown hbel;go_wp2;go_ret;exact⟨v',rfl,by rw[Pp.cut_end s HC.out,List.length_append];exact HO.out,hb1⟩
end Go.Proofs.YtagibnejodgeeaaGreatDoor
