/- What path.checked answers. -/
import Derived.Test.YtdifomkoegmngaaGreatDoorRKB
import Derived.Test.YtdifomkoegmngaaGreatDoorRKA
import Derived.Shelf.SlSortCmp.WholeK
import Derived.Test.YtdifomkoegmngaaGreatDoorShelfS
import Derived.Lib.OwnBridge
import Derived.Deep.RegionHeld3
import Derived.Deep.RegionLaw
import Derived.Deep.DeepCutAuto
import Derived.Test.YtdifomkoegmngaaGreatDoorRKC
set_option linter.unusedSimpArgs false
set_option linter.unusedVariables false
namespace Go.Proofs.YtdifomkoegmngaaGreatDoor
open Go.RowKit

set_option maxHeartbeats 400000 in
theorem checked_ok (s:ByteArray) (w:World) (hs:s.size≤1000000000000000) (h:Pp.chk s.data.toList=0):
    Calls Tryz.prog 171 #[.string s] w fun e w'=>e= .returned (.tuple #[.string s,.int .i64 0])∧Below w.heap.size w w':=by
 have HZ:Hid (Pp.chk s.data.toList=0):=h;clear h;go_enter Tryz.func171,Tryz.ntmps171
 go_wp2_with fail;refine(check_any _ _ hs).mono ?_
 rintro e w1 ⟨rfl,hb1⟩;rw[HZ.out];go_wp2;go_ret2;exact⟨rfl,hb1⟩
set_option maxHeartbeats 400000 in
theorem checked_no (s:ByteArray) (w:World) (hs:s.size≤1000000000000000) (h: ¬Pp.chk s.data.toList=0):
    Calls Tryz.prog 171 #[.string s] w fun e w'=>e= .returned (.tuple #[.string ⟨#[]⟩,.int .i64 (Pp.chk s.data.toList)])∧Below w.heap.size w w':=by
 have hz:(Pp.chk s.data.toList==0)=false:=by simpa using h
 clear h;go_enter Tryz.func171,Tryz.ntmps171
 go_wp2_with fail;refine(check_any _ _ hs).mono ?_
 rintro e w1 ⟨rfl,hb1⟩;go_wp2;go_ret2;exact⟨rfl,hb1⟩
theorem checkAll2 (s t:ByteArray) (ty:TypeId) (w:World) (hs:s.size≤1000000000000000) (ht:t.size≤1000000000000000):
    Calls Tryz.prog 119 #[.slice (some ⟨w.heap.size,0,none⟩) 2 2] (w.alloc (.cells #[.string s,.string t] ty)) fun e w'=>e= .returned (.int .i64 (Pp.chks [s.data.toList,t.data.toList]))∧Below w.heap.size w w':=by
 refine(checkAll_any [s,t] w.heap.size 2 _ (by simp) (by simp) (fun i h=>?_) (fun i h=>?_)).mono ?_
 · match i,h with
   |0,_=>exact hs
   |1,_=>exact ht
 · match i,h with
   |0,_=>simp
   |1,_=>simp
 · rintro e w' ⟨rfl,hb⟩
   exact⟨rfl,((Below.refl _ _).alloc (Nat.le_refl _) _).trans (hb.mono (by simp))⟩
theorem checkAll3 (s t u:ByteArray) (ty:TypeId) (w:World) (hs:s.size≤1000000000000000) (ht:t.size≤1000000000000000) (hu:u.size≤1000000000000000):
    Calls Tryz.prog 119 #[.slice (some ⟨w.heap.size,0,none⟩) 3 3] (w.alloc (.cells #[.string s,.string t,.string u] ty)) fun e w'=>e= .returned (.int .i64 (Pp.chks [s.data.toList,t.data.toList,u.data.toList]))∧Below w.heap.size w w':=by
 refine(checkAll_any [s,t,u] w.heap.size 3 _ (by simp) (by simp) (fun i h=>?_) (fun i h=>?_)).mono ?_
 · match i,h with
   |0,_=>exact hs
   |1,_=>exact ht
   |2,_=>exact hu
 · match i,h with
   |0,_=>simp
   |1,_=>simp
   |2,_=>simp
 · rintro e w' ⟨rfl,hb⟩
   exact⟨rfl,((Below.refl _ _).alloc (Nat.le_refl _) _).trans (hb.mono (by simp))⟩
set_option maxHeartbeats 400000 in
theorem pwithin_any (s t:ByteArray) (w:World) (hs:s.size≤1000000000000000) (ht:t.size≤1000000000000000):
    Calls Tryz.prog 167 #[.string s,.string t] w fun e w'=>e= .returned (.bool (Pp.isInB s.data.toList t.data.toList))∧w'=w:=by
 have HI:=Pp.isIn_eq s.data.toList t.data.toList;cases hc:(s.toList==t.toList)with
 |true=>
  have HR:=hid (show true=Pp.isInB s.data.toList t.data.toList from by rw[←HI,←Lib.toList_data,←Lib.toList_data,hc];rfl);clear HI;go_enter Tryz.func167,Tryz.ntmps167
  go_wp2_with fail;go_ret;exact⟨Pp.ret_bool HR.out,rfl⟩
 |false=>
  have HR:=hid (show Lib.hasPrefix s.data.toList (t++⟨#[47]⟩).data.toList=Pp.isInB s.data.toList t.data.toList from by
   rw[←HI,Joins.data_append];rw[Lib.toList_data,Lib.toList_data]at hc;rw[hc];simp)
  clear HI;go_enter Tryz.func167,Tryz.ntmps167
  go_wp2_with fail;refine(Tryz.strings_HasPrefix _ _ _).mono ?_
  rintro e w1 ⟨rfl,rfl⟩;rw[HR.out];go_wp2;go_ret;exact⟨rfl,rfl⟩
set_option maxHeartbeats 400000 in
theorem within_any (s t:ByteArray) (w:World) (hs:s.size≤1000000000000000) (ht:t.size≤1000000000000000):
    Calls Tryz.prog 159 #[.string s,.string t] w fun e w'=>e= .returned (.tuple #[.bool (Pp.chks [s.data.toList,t.data.toList]==0 && Pp.isInB s.data.toList t.data.toList),.int .i64 (Pp.chks [s.data.toList,t.data.toList])])∧Below w.heap.size w w':=by
 cases hz:(Pp.chks [s.data.toList,t.data.toList]==0)with
 |true=>
  have HZ:=hid (show Pp.chks [s.data.toList,t.data.toList]=0 from by simpa using hz);clear hz;go_enter Tryz.func159,Tryz.ntmps159
  go_wp2_with fail;refine(checkAll2 s t _ _ hs ht).mono ?_
  rintro e w1 ⟨rfl,hb1⟩;rw[HZ.out];go_wp2_with fail;refine(pwithin_any s t _ hs ht).mono ?_
  rintro e w2 ⟨rfl,rfl⟩;go_wp2;go_ret2;exact⟨by rw[HZ.out];rfl,hb1⟩
 |false=>
  go_enter Tryz.func159,Tryz.ntmps159
  go_wp2_with fail;refine(checkAll2 s t _ _ hs ht).mono ?_
  rintro e w1 ⟨rfl,hb1⟩;go_wp2;go_ret2;exact⟨rfl,hb1⟩
namespace Pp
theorem mv_cut (p f t:ByteArray) (h:isInB p.data.toList f.data.toList=true):f.size≤p.size∧t++p.extract f.size p.size=⟨(mvT p.data.toList f.data.toList t.data.toList).toArray⟩:=by
 have hle:f.data.toList.length≤p.data.toList.length:=by
  rcases(isIn_of _ _).1 h with e|⟨r,e⟩
  · rw[e];exact Nat.le_refl _
  · rw[e];simp
 refine⟨by rw[Lib.size_eq,Lib.size_eq];exact hle,bytes_eq ?_⟩
 rw[Joins.data_append,Lib.extract_data,mvT,Lib.size_eq f,Lib.size_eq p,List.take_of_length_le (by rw[List.length_drop];exact Nat.le_refl _)]
theorem len_mv (p f t:List UInt8):(mvT p f t).length≤t.length+p.length:=by simp[mvT]
theorem mvE_no {p f t:List UInt8} (h: ¬chks [p,f,t]=0):mvE p f t=chks [p,f,t]:=by rw[mvE,if_neg h]
theorem mvE_out {p f t:List UInt8} (h:chks [p,f,t]=0) (hi:isInB p f=false):mvE p f t=5:=by rw[mvE,if_pos h,if_neg (by rw[hi];decide)]
theorem mvE_in {p f t:List UInt8} (h:chks [p,f,t]=0) (hi:isInB p f=true):mvE p f t=chk (mvT p f t):=by rw[mvE,if_pos h,if_pos hi]
end Pp

set_option maxHeartbeats 800000 in
theorem moved_any (p f t:ByteArray) (w:World) (hp:p.size≤200000000000000) (hf:f.size≤200000000000000) (ht:t.size≤200000000000000):
    Calls Tryz.prog 162 #[.string p,.string f,.string t] w fun e w'=>e= .returned (.tuple #[.string ⟨(Pp.ifc (Pp.mvE p.data.toList f.data.toList t.data.toList) (Pp.mvT p.data.toList f.data.toList t.data.toList)).toArray⟩,.int .i64 (Pp.mvE p.data.toList f.data.toList t.data.toList)])∧Below w.heap.size w w':=by
 have hlen:=Pp.len_mv p.data.toList f.data.toList t.data.toList;rw[←Lib.size_eq,←Lib.size_eq]at hlen;by_cases hz:Pp.chks [p.data.toList,f.data.toList,t.data.toList]=0
 · have HZ:Hid (Pp.chks [p.data.toList,f.data.toList,t.data.toList]=0):=hz
   cases hi:Pp.isInB p.data.toList f.data.toList with
   |false=>
    have HI:Hid (Pp.isInB p.data.toList f.data.toList=false):=hi;have HE:Hid (Pp.mvE p.data.toList f.data.toList t.data.toList=5):=Pp.mvE_out hz hi;clear hz hi;go_enter Tryz.func162,Tryz.ntmps162
    go_wp2_with fail;refine(checkAll3 p f t _ _ (by omega) (by omega) (by omega)).mono ?_
    rintro e w1 ⟨rfl,hb1⟩;rw[HZ.out];go_wp2_with fail;refine(pwithin_any p f _ (by omega) (by omega)).mono ?_
    rintro e w2 ⟨rfl,rfl⟩;rw[HI.out];go_wp2;go_ret2;exact⟨by rw[HE.out,Pp.ifc_no (by decide)];rfl,hb1⟩
   |true=>
    have HI:Hid (Pp.isInB p.data.toList f.data.toList=true):=hi;have HE:Hid (Pp.mvE p.data.toList f.data.toList t.data.toList=Pp.chk (Pp.mvT p.data.toList f.data.toList t.data.toList)):=Pp.mvE_in hz hi;obtain⟨hle,hcut⟩:=Pp.mv_cut p f t hi
    have HCUT:Hid (t++p.extract f.size p.size=⟨(Pp.mvT p.data.toList f.data.toList t.data.toList).toArray⟩):=hcut;clear hz hi hcut;have hle2:(f.size:Int)≤p.size:=by omega
    by_cases hq:Pp.chk (Pp.mvT p.data.toList f.data.toList t.data.toList)=0
    · have HQ:Hid (Pp.chk (Pp.mvT p.data.toList f.data.toList t.data.toList)=0):=hq
      clear hq;go_enter Tryz.func162,Tryz.ntmps162
      go_wp2_with fail;refine(checkAll3 p f t _ _ (by omega) (by omega) (by omega)).mono ?_
      rintro e w1 ⟨rfl,hb1⟩;rw[HZ.out];go_wp2_with fail;refine(pwithin_any p f _ (by omega) (by omega)).mono ?_
      rintro e w2 ⟨rfl,rfl⟩;rw[HI.out];go_wp2_with fail;rw[HCUT.out];refine(checked_ok ⟨(Pp.mvT p.data.toList f.data.toList t.data.toList).toArray⟩ _ (by rw[Pp.sz];omega) HQ.out).mono ?_
      rintro e w4 ⟨rfl,hb4⟩;go_wp2;go_ret2;exact⟨by rw[HE.out,HQ.out,Pp.ifc_yes rfl];rfl,below_trans hb1 hb4⟩
    · have HQ:Hid (¬Pp.chk (Pp.mvT p.data.toList f.data.toList t.data.toList)=0):=hq
      clear hq;go_enter Tryz.func162,Tryz.ntmps162
      go_wp2_with fail;refine(checkAll3 p f t _ _ (by omega) (by omega) (by omega)).mono ?_
      rintro e w1 ⟨rfl,hb1⟩;rw[HZ.out];go_wp2_with fail;refine(pwithin_any p f _ (by omega) (by omega)).mono ?_
      rintro e w2 ⟨rfl,rfl⟩;rw[HI.out];go_wp2_with fail;rw[HCUT.out];refine(checked_no ⟨(Pp.mvT p.data.toList f.data.toList t.data.toList).toArray⟩ _ (by rw[Pp.sz];omega) HQ.out).mono ?_
      rintro e w4 ⟨rfl,hb4⟩;go_wp2;go_ret2;exact⟨by rw[HE.out,Pp.ifc_no HQ.out];rfl,below_trans hb1 hb4⟩
 · have HE:Hid (Pp.mvE p.data.toList f.data.toList t.data.toList=Pp.chks [p.data.toList,f.data.toList,t.data.toList]):=Pp.mvE_no hz
   have HZ:Hid (¬Pp.chks [p.data.toList,f.data.toList,t.data.toList]=0):=hz;have hz2:(Pp.chks [p.data.toList,f.data.toList,t.data.toList]==0)=false:=by simpa using hz
   clear hz;go_enter Tryz.func162,Tryz.ntmps162
   go_wp2_with fail;refine(checkAll3 p f t _ _ (by omega) (by omega) (by omega)).mono ?_
   rintro e w1 ⟨rfl,hb1⟩;go_wp2;go_ret2;exact⟨by rw[HE.out,Pp.ifc_no HZ.out];rfl,hb1⟩
end Go.Proofs.YtdifomkoegmngaaGreatDoor
namespace Go.Proofs.YtdifomkoegmngaaGreatDoor
open Go.RowKit

set_option maxHeartbeats 400000 in
theorem not1_any (e:En) (g:Nat) (cb:Array Value) (pr:En→Bool) (b:Nat) (w:World) (hb:b<w.heap.size) (hc:w.cell? ⟨b,0,none⟩=some (.func (.func g) #[] cb)) (hg:Tells w g cb pr) (hs:e.path.size≤1000000000000000):
    Calls Tryz.prog 163 #[.agg #[.string e.path,.bool e.folder,.string e.text,.int .i64 e.ver],.pointer (some ⟨b,0,none⟩)] w fun r w'=>r= .returned (.bool (!pr e))∧Below w.heap.size w w':=by
 have hc2: ∀o,(w.alloc o).cell? ⟨b,0,none⟩=some (.func (.func g) #[] cb):=fun o=>(((Below.refl w.heap.size w).alloc (Nat.le_refl _) o).cell (p:=⟨b,0,none⟩) hb).trans hc
 have HG:Hid (Tells w g cb pr):=hg;have eg:=hg.1;clear hg;go_enter Tryz.func163,Tryz.ntmps163
 go_wp2_with fail;refine(HG.out.2 _ ((Below.refl _ _).alloc (Nat.le_refl _) _) e hs).mono ?_
 rintro r w1 ⟨rfl,hb1⟩;obtain⟨d0,d1,d2,d3,hb1w,hlt1⟩:=box4 hb1
 clear hb1 eg;go_wp2;go_ret;exact⟨rfl,hb1w⟩
set_option maxHeartbeats 400000 in
theorem not_any (g:Nat) (cb:Array Value) (pr:En→Bool) (w:World) (hg:Tells w g cb pr):
    Calls Tryz.prog 146 #[.func (.func g) #[] cb] w fun e w'=>e= .returned (.func (.func 163) #[] #[.pointer (some ⟨w.heap.size,0,none⟩)])∧Tells w' 163 #[.pointer (some ⟨w.heap.size,0,none⟩)] (fun e=> !pr e)∧Below w.heap.size w w':=by
 have HG:Hid (Tells w g cb pr):=hg;clear hg;go_enter Tryz.func146,Tryz.ntmps146
 go_wp2;go_ret;refine⟨rfl,⟨enters_of Tryz.func163 (by kernel_rfl) rfl,fun W hW e he=>?_⟩,(Below.refl _ _).alloc (Nat.le_refl _) _⟩
 exact not1_any e g cb pr w.heap.size W (Nat.lt_of_lt_of_le (by simp) hW.size) ((hW.cell (p:=⟨w.heap.size,0,none⟩) (by simp)).trans (by simp)) (HG.out.below (((Below.refl _ _).alloc (Nat.le_refl _) _).trans (hW.mono (by simp)))) he
namespace Pp
def inB (q:List UInt8) (e:En):Bool:=chks [e.path.data.toList,q]==0 && isInB e.path.data.toList q
end Pp
set_option maxHeartbeats 400000 in
theorem within1_any (e:En) (q:ByteArray) (b:Nat) (w:World) (hb:b<w.heap.size) (hc:w.cell? ⟨b,0,none⟩=some (.string q)) (hs:e.path.size≤1000000000000000) (hq:q.size≤1000000000000000):
    Calls Tryz.prog 160 #[.agg #[.string e.path,.bool e.folder,.string e.text,.int .i64 e.ver],.pointer (some ⟨b,0,none⟩)] w fun r w'=>r= .returned (.bool (Pp.inB q.data.toList e))∧Below w.heap.size w w':=by
 have hc2: ∀o,(w.alloc o).cell? ⟨b,0,none⟩=some (.string q):=fun o=>(((Below.refl w.heap.size w).alloc (Nat.le_refl _) o).cell (p:=⟨b,0,none⟩) hb).trans hc
 have HI:Hid ((Pp.chks [e.path.data.toList,q.data.toList]==0 && Pp.isInB e.path.data.toList q.data.toList)=Pp.inB q.data.toList e):=rfl;go_enter Tryz.func160,Tryz.ntmps160
 go_wp2_with fail;refine(within_any e.path q _ hs hq).mono ?_
 rintro r w1 ⟨rfl,hb1⟩;rw[HI.out];obtain⟨d0,d1,d2,d3,hb1w,hlt1⟩:=box4 hb1
 clear hb1;go_wp2;go_ret;exact⟨rfl,hb1w⟩
set_option maxHeartbeats 400000 in
theorem twithin_any (q:ByteArray) (w:World) (hq:q.size≤1000000000000000):
    Calls Tryz.prog 142 #[.string q] w fun e w'=>e= .returned (.func (.func 160) #[] #[.pointer (some ⟨w.heap.size,0,none⟩)])∧Tells w' 160 #[.pointer (some ⟨w.heap.size,0,none⟩)] (Pp.inB q.data.toList)∧Below w.heap.size w w':=by
 go_enter Tryz.func142,Tryz.ntmps142
 go_wp2;go_ret;refine⟨rfl,⟨enters_of Tryz.func160 (by kernel_rfl) rfl,fun W hW e he=>?_⟩,(Below.refl _ _).alloc (Nat.le_refl _) _⟩
 exact within1_any e q w.heap.size W (Nat.lt_of_lt_of_le (by simp) hW.size) ((hW.cell (p:=⟨w.heap.size,0,none⟩) (by simp)).trans (by simp)) he hq
set_option maxRecDepth 100000 in
set_option maxHeartbeats 1000000 in
theorem every_any (L:List En) (v:Value) (g:Nat) (cb:Array Value) (pr:En→Bool) (w:World) (hv:Lies w v L) (hg:Tells w g cb pr) (hn:L.length≤1000000000) (hs:Sized L):
    Calls Tryz.prog 107 #[v,.func (.func g) #[] cb] w fun e w'=> ∃u,e= .returned u∧w'.ownsRow w.heap.size 72 4 u (L.filter pr).length (Pp.flat (L.filter pr))∧u≠ .slice none 0 0∧Below w.heap.size w w':=by
 obtain⟨i0,hi0,hz0,hz1,hz2⟩:=info_parts Tryz.infoE
 obtain⟨a,cap,rfl,hcap,hcap2,hL⟩:=hv
 have HL:Hid (∀i (h:i<L.length),∃b o,a=some ⟨b,o,none⟩∧b<w.heap.size∧EnAt w b (o+i*4) L[i]):=hL;have HG:Hid (Tells w g cb pr):=hg;have HS:Hid (Sized L):=hs;have eg:=hg.1;clear hL hg hs;go_enter Tryz.func107,Tryz.ntmps107
 go_wp2_with (at_make;refine wpList_make_own _ rfl _ _ 22 rfl w.heap.size 72 i0 (.agg #[.string ⟨#[]⟩,.bool false,.string ⟨#[]⟩,.int .i64 0]) 4 Tryz.underlying22 hi0 hz0 hz1 .i64 .i64 (L.length:Int) L.length rfl rfl rfl ?m2 ?m3 ?m4 ?_)
 case m2=>rw[hz2];omega
 case m3=>unfold maxLen;omega
 case m4=>exact Nat.le_refl _
 intro w0 ho0 hgr0;have hb0:Below w.heap.size w w0:=(Below.refl _ _).grown hgr0 (Nat.le_refl _) (fun k hk=>by cases hk);clear hgr0;go_wp2_with fail;go_loopw [5,13] (fun u i wr=> ∃k:Nat,k≤L.length∧i= .int .i64 k∧wr.ownsRow w.heap.size 72 4 u ((L.take k).filter pr).length (Pp.flat ((L.take k).filter pr))∧u≠ .slice none 0 0∧Below w.heap.size w wr) (fun _ i _=>L.length-(intOf i).toNat)
 case atStart=>exact⟨0,Nat.zero_le _,rfl,ho0,by simp,hb0⟩
 case round=>
  obtain⟨k,hk,rfl,hown,hnn,hbel⟩:=hrel
  clear ho0 hb0
  have hlenf:((L.take k).filter pr).length≤k:=by
   have h1:=List.length_filter_le pr (L.take k);have h2:=List.length_take_le k L;omega
  by_cases hlt:k<L.length
  · obtain⟨b,o,rfl,hb,he⟩:=HL.out k hlt
    obtain⟨c0,c1,c2,c3⟩:=he.below hb hbel
    have hsz:=HS.out L[k] (List.getElem_mem hlt);cases hp:pr L[k]with
    |true=>
     have HF:Hid ((L.take (k+1)).filter pr=(L.take k).filter pr++[L[k]]):=Pp.filter_hit hlt hp;go_wp2_with fail;refine(HG.out.2 _ (hbel.alloc hbel.size _) L[k] hsz.1).mono ?_
     rintro e w1 ⟨rfl,hb1⟩;obtain⟨d0,d1,d2,d3,hb1w,hlt1⟩:=box4 hb1
     have hbel1:=below_trans hbel hb1w;have hown1:=Pp.own_below hown hb1w;rw[hp];clear hb1 c0 c1 c2 c3 eg hown hbel hb1w;go_wp2_with (at_builtin;refine wpList_append_own _ rfl _ _ 22 rfl w.heap.size 72 i0 (.agg #[.string ⟨#[]⟩,.bool false,.string ⟨#[]⟩,.int .i64 0]) 4 48 Tryz.underlying22 hi0 hz0 hz1 hz2 rfl (by decide) _ _ _ rfl (hown1.alloc _) ⟨w1.heap.size,0,none⟩ 1 1 (Pp.cells L[k]) rfl rfl ?c1 ?c2 ?c3 ?c4 ?c5 ?_)
     case c1=>exact Pp.new_cells w1 L[k] _
     case c2=>exact Pp.cells_one _
     case c3=>unfold maxLen;omega
     case c4=>omega
     case c5=>have:=hbel1.size;simp;omega
     intro v2 w2 ho2 hgr2 hnn2;have hbel2:Below w.heap.size w w2:=(hbel1.alloc hbel1.size _).grown hgr2 (by have:=hbel1.size;simp;omega) (fun q hq=>(hown1.lt q hq).1);rw[Pp.flat_snoc]at ho2;have HO:Hid (w2.ownsRow w.heap.size 72 4 v2 (((L.take k).filter pr).length+1) (Pp.flat ((L.take k).filter pr++[L[k]]))):=ho2;have hnn3:v2≠ .slice none 0 0:=by simpa using hnn2
     clear ho2 hgr2 hnn2 hown1 hbel1 d0 d1 d2 d3 hnn;go_wp2_with fail;go_roundw
     case rel=>exact⟨k+1,by omega,by simp,by rw[HF.out,List.length_append];exact HO.out,hnn3,hbel2⟩
     case measure=>simp[intOf];omega
    |false=>
     have HF:Hid ((L.take (k+1)).filter pr=(L.take k).filter pr):=Pp.filter_miss hlt hp;go_wp2_with fail;refine(HG.out.2 _ (hbel.alloc hbel.size _) L[k] hsz.1).mono ?_
     rintro e w1 ⟨rfl,hb1⟩;obtain⟨d0,d1,d2,d3,hb1w,hlt1⟩:=box4 hb1
     have hbel1:=below_trans hbel hb1w;have hown1:=Pp.own_below hown hb1w;rw[hp];clear hb1 c0 c1 c2 c3 eg hown hbel hb1w;go_wp2_with fail;go_roundw
     case rel=>exact⟨k+1,by omega,by simp,by rw[HF.out];exact hown1,hnn,hbel1⟩
     case measure=>simp[intOf];omega
  · go_wp2_with fail
    go_ret;exact⟨_,rfl,by have e:L.take k=L:=List.take_of_length_le (by omega);rw[e]at hown;exact hown,hnn,hbel⟩
end Go.Proofs.YtdifomkoegmngaaGreatDoor
namespace Go.Proofs.YtdifomkoegmngaaGreatDoor.Pp
theorem ltOf_eq (x y:En):ltOf cfE x y=lt x y:=by rw[lt_cfE];rfl
theorem swo:Sort.SWO (ltOf cfE) where
 irrefl x:=by rw[ltOf_eq];exact lt_irrefl x
 trans x y z h1 h2:=by rw[ltOf_eq]at*;exact lt_trans x y z h1 h2
 ntrans x y z h1 h2:=by rw[ltOf_eq]at*;exact lt_ntrans x y z h1 h2
end Go.Proofs.YtdifomkoegmngaaGreatDoor.Pp
namespace Go.Proofs.YtdifomkoegmngaaGreatDoor
open Go.RowKit

set_option maxHeartbeats 400000 in
theorem cmp1_any (x y:En) (W:World):Calls Tryz.prog 169 #[.agg #[.string x.path,.bool x.folder,.string x.text,.int .i64 x.ver],.agg #[.string y.path,.bool y.folder,.string y.text,.int .i64 y.ver]] W fun e w'=>e= .returned (.int .i64 (Pp.cfE x y))∧ ∃q os',w'=Sort.grow (W.drewN q) os':=by
 have HC:Hid (Lib.compareBytes x.path.data.toList y.path.data.toList=Pp.cfE x y):=rfl;go_enter Tryz.func169,Tryz.ntmps169
 go_wp2_with fail;refine(Tryz.strings_Compare _ _ _).mono ?_
 rintro e w1 ⟨rfl,rfl⟩;rw[HC.out];go_wp2;go_ret;exact⟨rfl,0,_,by rw[Sort.alloc_eq_grow,Sort.alloc_eq_grow,Sort.grow_grow];rfl⟩
namespace Pp
theorem below_grow {B:Nat} {w0 w:World} (h:Below B w0 w) (hB:B≤w.heap.size) (os:Array Obj):Below B w0 (Sort.grow w os):=
 h.trans ⟨rfl,rfl,rfl,by simp[Sort.grow],fun k hk=>by simp[Sort.grow,Array.getElem?_append_left (show k<w.heap.size by omega)]⟩
theorem flat_get: ∀(L:List En) (i c:Nat) (h:i<L.length),c<4→(flat L)[i*4+c]?=(cells L[i])[c]?
 |[],i,c,h,_=>absurd h (Nat.not_lt_zero _)
 |a::r,0,c,_,hc=>by
  rw[flat,List.flatMap_cons,Nat.zero_mul,Nat.zero_add,List.getElem?_append_left (by simpa[cells]using hc)];rfl
 |a::r,i+1,c,h,hc=>by
  have ih:=flat_get r i c (by simpa using h) hc;rw[flat,List.flatMap_cons,List.getElem?_append_right (by simp[cells];omega)];rw[show(i+1)*4+c-(cells a).length=i*4+c by simp[cells];omega];exact ih
theorem cells_get (e:En) (c:Nat) (hc:c<4):(cells e)[c]?=some ((cells e)[c]!):=by
 have:c<(cells e).length:=by simpa[cells]using hc
 rw[List.getElem?_eq_getElem this,getElem!_pos _ c this]
/-- An own row holds its entries, as the sort asks. -/
theorem holds_own [Inhabited En] {w:World} {base g n cap:Nat} {T:TypeId} {L:List En} (h:w.ownsRow base T 4 (.slice (some ⟨g,0,none⟩) n cap) n (flat L)) (hn:n=L.length):Sort.HoldsK cells 4 w g 0 L.toArray:=by
 subst hn;intro j hj;rw[Sort.size_flatK,List.size_toArray]at hj;refine⟨?_,by rw[Nat.zero_add];exact h.frozenAt j⟩
 rw[Nat.zero_add,h.cellAt j hj,id,Sort.get_flatK _ _ _ _ (by simpa using hj)];have h1:j/4<L.length:=by omega
 have h2:=flat_get L (j/4) (j % 4) h1 (by omega);rw[show j/4*4+j % 4=j by omega]at h2;rw[h2,cells_get _ _ (by omega)];have e:L.toArray[j/4]! =L[j/4]:=by rw[getElem!_pos _ _ (by simpa using h1)];simp
 rw[e]
theorem heap_sorted {α:Type} [Inhabited α] (enc:α→List Value) (k:Nat) {w:World} {g n:Nat} (d:Array α) (os:Array Obj) {cur:Array Value} {T:TypeId} {fz:Nat×Nat} (h:w.heap[g]?=some (.cells cur T fz)) (hg:g<w.heap.size): ∃cur',(sortWorldK enc k w g 0 n d os).heap[g]?=some (.cells cur' T fz):=by
 simp only[sortWorldK,Sort.putRowK,Sort.putRow,Sort.mapBlock,Sort.grow,Sort.ahead];rw[Array.getElem?_append_left (by simpa using hg),Array.getElem?_modify,if_pos rfl,h];exact⟨_,rfl⟩
theorem lies_holds [Inhabited En] {w:World} {g cap:Nat} {d:Array En} (hg:g<w.heap.size) (h:Sort.HoldsK cells 4 w g 0 d) (hc:d.size≤cap) (hc2:d.size≤1000000000000000):Lies w (.slice (some ⟨g,0,none⟩) d.size cap) d.toList:=by
 refine⟨some ⟨g,0,none⟩,cap,by simp,by simpa using hc,by simpa using hc2,fun i hi=>⟨g,0,rfl,hg,?_⟩⟩
 have hi':i<d.size:=by simpa using hi
 have e:d[i]! =d.toList[i]:=by rw[getElem!_pos d i hi'];simp
 have key: ∀c,c<4→w.cell? ⟨g,0+i*4+c,none⟩=(cells d.toList[i])[c]?:=by
  intro c hc4;have hj:i*4+c<d.size*4:=by omega
  have:=(h (i*4+c) (by rw[Sort.size_flatK];exact hj)).1
  rw[id,Sort.get_flatK _ _ _ _ hj,show(i*4+c)/4=i by omega,show(i*4+c) % 4=c by omega,e,←cells_get _ c hc4]at this;rw[Nat.add_assoc];exact this
 exact⟨key 0 (by omega),key 1 (by omega),key 2 (by omega),key 3 (by omega)⟩
end Pp

theorem hidO {p:Prop} (h:p):Hid p:=h
set_option maxHeartbeats 800000 in
theorem sortPaths_any (L:List En) (base g cap:Nat) (w:World) (ho:w.ownsRow base 72 4 (.slice (some ⟨g,0,none⟩) L.length cap) L.length (Pp.flat L)) (hn:L.length≤1000000000) (hc1:L.length≤cap) (hb:base≤g) (hg:g<w.heap.size):
    Calls Tryz.prog 161 #[.slice (some ⟨g,0,none⟩) L.length cap] w fun e w'=>e= .returned (.tuple #[])∧ ∃M:List En,M.Perm L∧M.Pairwise (fun a b=>Pp.lt b a=false)∧LiesF base w' (.slice (some ⟨g,0,none⟩) L.length cap) M∧Below base w w':=by
 have inst:Inhabited En:=⟨⟨⟨#[]⟩,false,⟨#[]⟩,0⟩⟩
 have hH:=Pp.holds_own ho rfl;have HOW:=hidO (own_row ho g rfl).2;have eg: ∀args w,(callFunc 169 args).run Tryz.prog w= .ok (.enter 169 args) w:=enters_of Tryz.func169 (by kernel_rfl) rfl;have hcon:=AnyQ.slices_SortFunc Tryz.sortE 4 Tryz.isAgg72 Tryz.sizeOf72 Pp.cells (fun _=>rfl) (fun x=>Pp.cells_one x) Pp.cfE Pp.swo 169 #[] g 0 cap L.toArray w eg (fun _ _ _ _ x y=>cmp1_any x y _) hH hg (by simp;omega);change Calls Tryz.prog 168 _ _ _ at hcon
 rw[List.size_toArray]at hcon;have HH:Hid (Sort.HoldsK Pp.cells 4 w g 0 L.toArray):=hH;clear hH ho eg;go_enter Tryz.func161,Tryz.ntmps161
 go_wp2_with fail;refine hcon.mono ?_
 rintro e w' ⟨rfl,d',n,os,hp,hsrt,rfl⟩;have HPP:Hid (Sort.PermIn 0 L.length L.toArray d'):=hp;have HSS:Hid (Sort.SortedIn (ltOf Pp.cfE) 0 L.length d'):=hsrt;clear hp hsrt hcon;go_wp2;go_end0
 have hsz:d'.size=L.length:=by have:=HPP.out.1;simpa using this
 refine⟨rfl,d'.toList,?_,?_,?_,?_⟩
 · have:=HPP.out.2.2
   rw[←hsz]at this;simp only[Array.extract_size]at this;rw[hsz,←List.size_toArray,Array.extract_size]at this;exact this
 · rw[List.pairwise_iff_getElem]
   intro i j hi hj hij;have hj':j<d'.size:=by simpa using hj
   have hi':i<d'.size:=by simpa using hi
   have:=HSS.out i j (Nat.zero_le _) hij (by omega)
   rw[Pp.ltOf_eq,getElem!_pos d' i hi',getElem!_pos d' j hj']at this;simpa using this
 · refine⟨?_,fun g' hg'=>by cases hg';obtain⟨cur,T,hh⟩:=HOW.out;exact⟨hb,(Pp.heap_sorted _ _ _ _ hh hg).imp fun _ h=>⟨T,h⟩⟩⟩
   rw[←hsz];exact Pp.lies_holds (by rw[sortWorldK];simp[Sort.grow,Sort.size_putRowK,Sort.ahead];omega) (holdsK_sortWorldK_c Pp.cells 4 w g 0 L.toArray d' n os HH.out hg (by rw[hsz];simp)) (by omega) (by omega)
 · exact Pp.below_grow (Lib.below_putRow (Below.refl base w) hb) (by simp[Sort.putRow,Sort.mapBlock,Sort.ahead];omega) os
end Go.Proofs.YtdifomkoegmngaaGreatDoor
namespace Go.Proofs.YtdifomkoegmngaaGreatDoor
open Go.RowKit

theorem step_append_own {P:Program} {ops:Array Oper} {o:Oper} {a:Act} {w:World} {K:Act→World→Prop} {Q:Exit→Act→World→Prop} {E:Prop}
    (hg:o.guard=none) (s x:Operand) (t:TypeId) (hop:o.op=Op.call {callee:=Callee.builtin Builtin.append,args:= #[s,x],argTypes:= #[t,t]})
    (base:Nat) (e:TypeId) (i:TypeInfo) (z:Value) (size bytes:Nat) (ht:P.underlying t=some (.slice e)) (hi:P.info? e=some i) (hz:i.zero=some z)
    (hsize:i.size=size) (hby:i.bytes=bytes) (hzs:z.cells.size=size) (hsz:0<size)
    (v:Value) (n:Nat) (xs:List Value) (hs:a.eval s=v) (hown:w.ownsRow base e size v n xs)
    (ad:Addr) (m c:Nat) (news:List Value) (hx:a.eval x= .slice (some ad) m c) (hl:news.length=m*size) (hnews: ∀j u,news[j]?=some u→w.cell? (ad.add j)=some u) (h1: ∀u∈news,u.oneCell'=true)
    (h63:n+m≤maxLen) (hbytes:(n+m)*bytes≤140737488355328) (hbase:base≤w.heap.size)
    (h: ∀v' w',w'.ownsRow base e size v' (n+m) (xs++news)→w.grownBy w' v.ownBlock→(v'= .slice none 0 0↔v= .slice none 0 0∧m=0)→K (a.put o.dst v') w'):
    if Region.wanted o (yielded ops a.tmps)=true then Oper.wp P o a w K Q else E:=by
 have hw:Region.wanted o (yielded ops a.tmps)=true:=by simp[Region.wanted,hg]
 rw[if_pos hw];exact wp_append_own w s x t hop base e i z size bytes ht hi hz hsize hby hzs hsz v n xs hs hown ad m c news hx hl hnews h1 h63 hbytes hbase h
theorem Pp.out_ne (x:En) (L:List En): ∀y∈L.filter (fun e=> !Pp.atB x.path.data.toList e),y.path.data.toList≠x.path.data.toList:=by
 intro y hy;have:=(List.mem_filter.1 hy).2
 simpa[Pp.atB]using this
/-- What is there but at a path. -/
def Pp.out (x:En) (L:List En):List En:=L.filter (fun e=> !Pp.atB x.path.data.toList e)
theorem Pp.own_mono {w:World} {base B:Nat} {e:TypeId} {size:Nat} {v:Value} {n:Nat} {xs:List Value} (h:w.ownsRow base e size v n xs) (hB:B≤base):w.ownsRow B e size v n xs:=by
 obtain⟨h1,h2⟩:=h
 refine⟨h1,?_⟩
 rcases h2 with h2|⟨g,cap,cur,hv,hg,r⟩
 · exact .inl h2
 · exact .inr ⟨g,cap,cur,hv,Nat.le_trans hB hg,r⟩
theorem Pp.carry {W W':World} {g:Nat} {news:List Value} (h:Below W.heap.size W W') (hg:g<W.heap.size) (hn: ∀j u,news[j]?=some u→W.cell? ((⟨g,0,none⟩:Addr).add j)=some u): ∀j u,news[j]?=some u→W'.cell? ((⟨g,0,none⟩:Addr).add j)=some u:=by
 intro j u hu;have hb:((⟨g,0,none⟩:Addr).add j).block=g:=by unfold Addr.add;split<;>rfl
 exact(h.cell (p:=(⟨g,0,none⟩:Addr).add j) (by rw[hb];exact hg)).trans (hn j u hu)
theorem new2 (w:World) (x:En) (T T':TypeId): ∀j u,(Pp.cells x)[j]?=some u→((w.alloc (.cells #[.string x.path,.bool x.folder,.string x.text,.int .i64 x.ver] T)).alloc (.cells #[.string x.path,.bool x.folder,.string x.text,.int .i64 x.ver] T')).drew.cell? ((⟨w.heap.size+1,0,none⟩:Addr).add j)=some u:=by
 intro j u hj;have h:=Pp.new_cells (w.alloc (.cells #[.string x.path,.bool x.folder,.string x.text,.int .i64 x.ver] T)) x T' j u hj;rw[show(w.alloc (.cells #[.string x.path,.bool x.folder,.string x.text,.int .i64 x.ver] T)).heap.size=w.heap.size+1 by simp]at h;exact h
theorem Pp.own_shape {w:World} {base:Nat} {T:TypeId} {v:Value} {L:List En} (h:w.ownsRow base T 4 v L.length (Pp.flat L)) (h0:L≠[]): ∃g cap,v= .slice (some ⟨g,0,none⟩) L.length cap∧base≤g∧g<w.heap.size∧L.length≤cap∧cap≤maxLen:=by
 obtain⟨hl,h2⟩:=h
 rcases h2 with⟨_,hz⟩|⟨g,cap,cur,rfl,hg,hh,hn,hm,hz,htake⟩
 · exact absurd (List.length_eq_zero_iff.1 hz) h0
 · have hlt:g<w.heap.size:=by
    rcases Nat.lt_or_ge g w.heap.size with h|h
    · exact h
    · rw[Array.getElem?_eq_none h]at hh;cases hh
   exact⟨g,cap,rfl,hg,hlt,hn,hm⟩
theorem keepBox {W W':World} (h:Below W.heap.size W W') {b:Nat} (hb:b<W.heap.size) (p:ByteArray) (f:Bool) (t:ByteArray) (n:Int) (h0:W.cell? ⟨b,0,none⟩=some (.string p)) (h1:W.cell? ⟨b,1,none⟩=some (.bool f)) (h2:W.cell? ⟨b,2,none⟩=some (.string t)) (h3:W.cell? ⟨b,3,none⟩=some (.int .i64 n)):
    W'.cell? ⟨b,0,none⟩=some (.string p)∧W'.cell? ⟨b,1,none⟩=some (.bool f)∧W'.cell? ⟨b,2,none⟩=some (.string t)∧W'.cell? ⟨b,3,none⟩=some (.int .i64 n):=
 ⟨(h.cell (p:=⟨b,0,none⟩) hb).trans h0,(h.cell (p:=⟨b,1,none⟩) hb).trans h1,(h.cell (p:=⟨b,2,none⟩) hb).trans h2,(h.cell (p:=⟨b,3,none⟩) hb).trans h3⟩
theorem keepGrown {W W':World} {row:Option Nat} (h:W.grownBy W' row) {b:Nat} (hb:some b≠row) (p:ByteArray) (f:Bool) (t:ByteArray) (n:Int) (h0:W.cell? ⟨b,0,none⟩=some (.string p)) (h1:W.cell? ⟨b,1,none⟩=some (.bool f)) (h2:W.cell? ⟨b,2,none⟩=some (.string t)) (h3:W.cell? ⟨b,3,none⟩=some (.int .i64 n)):
    W'.cell? ⟨b,0,none⟩=some (.string p)∧W'.cell? ⟨b,1,none⟩=some (.bool f)∧W'.cell? ⟨b,2,none⟩=some (.string t)∧W'.cell? ⟨b,3,none⟩=some (.int .i64 n):=
 ⟨h.cell h0 hb,h.cell h1 hb,h.cell h2 hb,h.cell h3 hb⟩
set_option maxRecDepth 100000 in
set_option maxHeartbeats 2000000 in
theorem put_own (L:List En) (v:Value) (x:En) (w:World) (hv:Lies w v L) (hn:L.length≤60) (hs:Sized L) (hx:x.path.size≤1000000000000000) (hL:L.Pairwise (fun x y=>Pp.lt x y=true)):
    Calls Tryz.prog 144 #[v,.agg #[.string x.path,.bool x.folder,.string x.text,.int .i64 x.ver]] w fun e w'=>
     (60<(Pp.out x L).length+1∧e= .returned (.tuple #[.slice none 0 0,.int .i64 2])∧Below w.heap.size w w')∨
     (¬60<(Pp.out x L).length+1∧ ∃u,e= .returned (.tuple #[u,.int .i64 0])∧LiesF w.heap.size w' u (Pp.ins x (Pp.out x L))∧Below w.heap.size w w'):=by
 obtain⟨i0,hi0,hz0,hz1,hz2⟩:=info_parts Tryz.infoE
 have HV:Hid (Lies w v L):=hv;have HS:Hid (Sized L):=hs;have HL:Hid (L.Pairwise (fun x y=>Pp.lt x y=true)):=hL;clear hv hs hL;have hfl:(L.filter (fun e=> !Pp.atB x.path.data.toList e)).length≤L.length:=List.length_filter_le _ _;go_enter Tryz.func144,Tryz.ntmps144
 go_wp2_with fail
 go_region_held3 (fun W=>W.cell? ⟨w.heap.size,0,none⟩=some (.string x.path)∧W.cell? ⟨w.heap.size,1,none⟩=some (.bool x.folder)∧W.cell? ⟨w.heap.size,2,none⟩=some (.string x.text)∧W.cell? ⟨w.heap.size,3,none⟩=some (.int .i64 x.ver)) (go_keep) (first
  |(go_at_call 122;refine(at_any _ _).mono ?_;rintro e wa ⟨rfl,hta,hba⟩;have hwa:Below w.heap.size w wa:=Below.trans (by go_grown) (hba.mono (by first|(simp;done)|(simp;omega)));have hsa:w.heap.size<wa.heap.size:=(by have:=hba.size;simp at this;omega);have kx:=keepBox (b:=w.heap.size) hba (by first|(simp;done)|(simp;omega)) x.path x.folder x.text x.ver (by simp) (by simp) (by simp) (by simp))
  |(go_at_call 146;refine(not_any _ _ (Pp.atB x.path.data.toList) _ (by first|(simpa using hta)|(simpa using hta.below ((Below.refl _ _).alloc (Nat.le_refl _) _)))).mono ?_;rintro e wb ⟨rfl,htb,hbb⟩;have hwb:Below w.heap.size w wb:=Below.trans (by go_grown) (hbb.mono (by(try simp);omega));have hsb:w.heap.size<wb.heap.size:=(by have:=hbb.size;(try simp at this);omega);have ky:=keepBox (b:=w.heap.size) hbb (by(try simp);omega) x.path x.folder x.text x.ver (by first|exact kx.1|simp[go_sem,kx,hsa]) (by first|exact kx.2.1|simp[go_sem,kx,hsa]) (by first|exact kx.2.2.1|simp[go_sem,kx,hsa]) (by first|exact kx.2.2.2|simp[go_sem,kx,hsa]);clear kx hta)
  |(go_at_call 107;refine(every_any L v _ _ (fun e=> !Pp.atB x.path.data.toList e) _ (HV.out.below (by first|exact hwb|go_grown)) (by first|(simpa using htb)|(simpa using htb.below ((Below.refl _ _).alloc (Nat.le_refl _) _))) (by omega) HS.out).mono ?_;rintro e wc ⟨u,rfl,hou,hnu,hbc⟩;have hwc:Below w.heap.size w wc:=Below.trans (by first|exact hwb|go_grown) (hbc.mono (by(try simp);omega));have hsc:w.heap.size<wc.heap.size:=(by have:=hbc.size;(try simp at this);omega);have kz:=keepBox (b:=w.heap.size) hbc (by(try simp);omega) x.path x.folder x.text x.ver (by first|exact ky.1|simp[go_sem,ky,hsb]) (by first|exact ky.2.1|simp[go_sem,ky,hsb]) (by first|exact ky.2.2.1|simp[go_sem,ky,hsb]) (by first|exact ky.2.2.2|simp[go_sem,ky,hsb]);have ho:=Pp.own_mono hou (B:=w.heap.size+1) (by(try simp);omega);clear ky htb hou)
  |(refine step_append_own rfl (.tmp 12) (.tmp 14) 22 rfl (w.heap.size+1) 72 i0 (.agg #[.string ⟨#[]⟩,.bool false,.string ⟨#[]⟩,.int .i64 0]) 4 48 Tryz.underlying22 hi0 hz0 hz1 hz2 rfl (by decide) u _ _ (by simp[Act.eval,Act.put]) (by first|exact ho|exact ho.alloc _) _ 1 1 (Pp.cells x) (by simp[Act.eval,Act.put];rfl) rfl (by first|exact Pp.new_cells wc x _|exact Pp.carry hbc (by simp) (Pp.new_cells wb x _)|exact Pp.carry hbc (by have:=hbb.size;simp at this;omega) (Pp.carry hbb (by simp) (Pp.new_cells wa x _))|exact Pp.carry hbc (by have:=hbb.size;have:=hba.size;simp at this;omega) (Pp.carry hbb (by have:=hba.size;simp at this;omega) (Pp.carry (g:=w.heap.size+1) hba (by simp) (new2 w x _ _)))) (Pp.cells_one x) (by unfold maxLen;omega) (by omega) (by(try simp);omega) ?_;intro v5 w5 ho5 hgr5 hnn5;have kq:=keepGrown (b:=w.heap.size) hgr5 (fun e=>by have:=(ho.lt _ e.symm).1;omega) x.path x.folder x.text x.ver (by first|exact kz.1|simp[go_sem,kz,hsc]) (by first|exact kz.2.1|simp[go_sem,kz,hsc]) (by first|exact kz.2.2.1|simp[go_sem,kz,hsc]) (by first|exact kz.2.2.2|simp[go_sem,kz,hsc]);clear kz))
 all_goals
  have hb5:Below w.heap.size w w5:=Below.grown (by first|exact hwc|exact hwc.alloc (Nat.le_of_lt hsc) _) hgr5 (by(try simp);omega) (fun k hk=>by have:=(ho.lt k hk).1;omega);rw[Pp.flat_snoc]at ho5
  have ho6:w5.ownsRow w.heap.size 72 4 v5 (Pp.out x L++[x]).length (Pp.flat (Pp.out x L++[x])):=by
   rw[List.length_append];exact Pp.own_mono ho5 (by omega)
  have HO:Hid (w5.ownsRow w.heap.size 72 4 v5 (Pp.out x L++[x]).length (Pp.flat (Pp.out x L++[x]))):=ho6;clear ho5 ho6 hgr5 hnn5 kq ho hnu hwc hsc hbc hbb hba hwb hwa hsa hsb;obtain⟨g,cap,rfl,hg1,hg2,hc1,hc2⟩:=Pp.own_shape HO.out (by simp)
  by_cases h60:60<((Pp.out x L++[x]).length:Int)
  · have h61:60<(Pp.out x L).length+1:=by rw[List.length_append]at h60;simp at h60;omega
    have H61:Hid (60<(Pp.out x L).length+1):=h61;clear h61;rw[List.length_append,List.length_singleton]at h60;go_wp2_with fail;go_ret2;exact Or.inl ⟨H61.out,rfl,hb5⟩
  · have H61:=hid (show¬60<(Pp.out x L).length+1 from by rw[List.length_append]at h60;simp at h60;omega)
    have hlen:(Pp.out x L++[x]).length=(Pp.out x L).length+1:=by simp
    rw[hlen]at h60 hc1;have HLEN:Hid ((Pp.out x L).length+1=(Pp.out x L++[x]).length):=hlen.symm;clear hlen;go_wp2_with fail;rw[HLEN.out];refine(sortPaths_any (Pp.out x L++[x]) w.heap.size g cap _ HO.out (by rw[←HLEN.out];omega) (by rw[←HLEN.out];omega) hg1 hg2).mono ?_
    rintro e w6 ⟨rfl,M,hp,hsrt,hli,hb6⟩
    have HM:=hid (show LiesF w.heap.size w6 (.slice (some ⟨g,0,none⟩) (Pp.out x L++[x]).length cap) (Pp.ins x (Pp.out x L))from by
     have e:=Pp.sort_ins hp hsrt (List.Pairwise.filter _ HL.out) (Pp.out_ne x L);rw[←e];exact hli)
    clear hp hsrt hli;rw[←HLEN.out];go_wp2;go_ret2;exact Or.inr ⟨H61.out,_,rfl,by rw[HLEN.out];exact HM.out,hb5.trans hb6⟩
theorem box5 {w w1:World} {a b c d e:Value} {T:TypeId} (h:Below (w.alloc (.cells #[a,b,c,d,e] T)).heap.size (w.alloc (.cells #[a,b,c,d,e] T)) w1):
    w1.cell? ⟨w.heap.size,0,none⟩=some a∧w1.cell? ⟨w.heap.size,1,none⟩=some b∧w1.cell? ⟨w.heap.size,2,none⟩=some c∧w1.cell? ⟨w.heap.size,3,none⟩=some d∧w1.cell? ⟨w.heap.size,4,none⟩=some e∧Below w.heap.size w w1∧w.heap.size<w1.heap.size:=by
 have hz:w.heap.size<(w.alloc (.cells #[a,b,c,d,e] T)).heap.size:=by simp
 refine⟨?_,?_,?_,?_,?_,((Below.refl _ _).alloc (Nat.le_refl _) _).trans (h.mono (Nat.le_of_lt hz)),Nat.lt_of_lt_of_le hz h.size⟩
 · exact(h.cell (p:=⟨w.heap.size,0,none⟩) hz).trans (by simp)
 · exact(h.cell (p:=⟨w.heap.size,1,none⟩) hz).trans (by simp)
 · exact(h.cell (p:=⟨w.heap.size,2,none⟩) hz).trans (by simp)
 · exact(h.cell (p:=⟨w.heap.size,3,none⟩) hz).trans (by simp)
 · exact(h.cell (p:=⟨w.heap.size,4,none⟩) hz).trans (by simp)
namespace Pp
def stB (q:List UInt8) (b:Int) (e:En):Bool:=decide (b<e.ver) && inB q e
end Pp

set_option maxHeartbeats 800000 in
theorem stale1_any (x:En) (q:ByteArray) (k:Int) (t u:ByteArray) (b:Int) (c d g:Nat) (cb:Array Value) (w:World) (hc:c<w.heap.size) (hd:d<w.heap.size) (h4:w.cell? ⟨c,4,none⟩=some (.int .i64 b)) (hd0:w.cell? ⟨d,0,none⟩=some (.func (.func g) #[] cb)) (hg:Tells w g cb (Pp.inB q.data.toList)) (hs:x.path.size≤1000000000000000):
    Calls Tryz.prog 143 #[.agg #[.string x.path,.bool x.folder,.string x.text,.int .i64 x.ver],.pointer (some ⟨c,0,none⟩),.pointer (some ⟨d,0,none⟩)] w fun r w'=>r= .returned (.bool (Pp.stB q.data.toList b x))∧Below w.heap.size w w':=by
 have hc2: ∀o,(w.alloc o).cell? ⟨c,4,none⟩=some (.int .i64 b):=fun o=>(((Below.refl w.heap.size w).alloc (Nat.le_refl _) o).cell (p:=⟨c,4,none⟩) hc).trans h4
 have hd2: ∀o,(w.alloc o).cell? ⟨d,0,none⟩=some (.func (.func g) #[] cb):=fun o=>(((Below.refl w.heap.size w).alloc (Nat.le_refl _) o).cell (p:=⟨d,0,none⟩) hd).trans hd0
 have HG:Hid (Tells w g cb (Pp.inB q.data.toList)):=hg;have eg:=hg.1;clear hg;by_cases hv:b<x.ver
 · have HE:=hid (show Pp.inB q.data.toList x=Pp.stB q.data.toList b x from by rw[Pp.stB];simp[hv])
   go_enter Tryz.func143,Tryz.ntmps143
   go_wp2_with fail;refine(HG.out.2 _ ((Below.refl _ _).alloc (Nat.le_refl _) _) x hs).mono ?_
   rintro r w1 ⟨rfl,hb1⟩;obtain⟨d0,d1,d2,d3,hb1w,hlt1⟩:=box4 hb1
   clear hb1 eg;go_wp2;go_ret;exact⟨Pp.ret_bool HE.out,hb1w⟩
 · have HE:=hid (show false=Pp.stB q.data.toList b x from by rw[Pp.stB];simp[hv])
   go_enter Tryz.func143,Tryz.ntmps143
   go_wp2;go_ret;exact⟨Pp.ret_bool HE.out,(Below.refl _ _).alloc (Nat.le_refl _) _⟩
set_option maxHeartbeats 1000000 in
theorem isStale_no (L:List En) (v:Value) (k:Int) (p q t:ByteArray) (b:Int) (w:World) (hv:Lies w v L) (hs:Sized L) (hp:p.size≤1000000000000000) (hb:b= -1∨L.find? (Pp.stB p.data.toList b)=none):
    Calls Tryz.prog 125 #[v,.agg #[.int .i64 k,.string p,.string q,.string t,.int .i64 b]] w fun e w'=>e= .returned (.bool false)∧Below w.heap.size w w':=by
 have HV:Hid (Lies w v L):=hv;have HS:=hid (show∀e∈L,e.path.size≤1000000000000000 from fun e he=>(hs e he).1);clear hv hs;by_cases h1:b= -1
 · subst h1
   go_enter Tryz.func125,Tryz.ntmps125
   go_wp2;go_ret;exact⟨rfl,(Below.refl _ _).alloc (Nat.le_refl _) _⟩
 · have HF:=hid (show L.find? (Pp.stB p.data.toList b)=none from hb.resolve_left h1)
   have h2:(b== -1)=false:=by simpa using h1
   clear hb;have hst: ∀(W:World) (a:Addr) (f:Fn) (x y:Array Value),(store a (.func f x y)).run Tryz.prog W=stored Tryz.prog W a (.func f x y) .plain:=fun W a f x y=>run_store Tryz.prog W a _ _ rfl
   go_enter Tryz.func125,Tryz.ntmps125
   go_wp2_with fail;refine(twithin_any p _ hp).mono ?_
   rintro e w1 ⟨rfl,ht,hb1⟩;obtain⟨c0,c1,c2,c3,c4,hbw,hlt⟩:=box5 hb1
   have HT:Hid (Tells w1 160 #[.pointer (some ⟨(w.alloc (.cells #[.int .i64 k,.string p,.string q,.string t,.int .i64 b] 53)).heap.size,0,none⟩)] (Pp.inB p.data.toList)):=ht;clear ht hb1;go_wp2_with fail;refine(first_any L v _ _ (Pp.stB p.data.toList b) _ (HV.out.below (hbw.alloc (Nat.le_of_lt hlt) _)) ⟨enters_of Tryz.func143 (by kernel_rfl) rfl,?_⟩ HS.out).mono ?_
   · intro W hW x hx
     have hW1:Below w1.heap.size w1 W:=((Below.refl _ _).alloc (Nat.le_refl _) _).trans (hW.mono (by simp));refine stale1_any x p k t q b w.heap.size w1.heap.size 160 #[.pointer (some ⟨w.heap.size+1,0,none⟩)] W (Nat.lt_of_lt_of_le hlt hW1.size) (Nat.lt_of_lt_of_le (by simp) hW.size) ((hW1.cell (p:=⟨w.heap.size,4,none⟩) hlt).trans c4) ((hW.cell (p:=⟨w1.heap.size,0,none⟩) (by simp)).trans (by simp)) ?_ hx
     have h:=HT.out.below hW1;simpa using h
   · rintro e w2 ⟨rfl,hb2⟩
     rw[HF.out,fnd];have hbw2:Below w.heap.size w w2:=(hbw.alloc (Nat.le_of_lt hlt) _).trans (hb2.mono (by simp;omega));have hlt2:w.heap.size<w2.heap.size:=by have:=hb2.size;simp at this;omega
     clear hb2 c0 c1 c2 c3 c4;go_wp2;go_ret;exact⟨rfl,hbw2.alloc (Nat.le_of_lt hlt2) _⟩
/-- What is made of a change. -/
def made (k:Int) (p t:ByteArray) (n:Int):En:=⟨p,decide (k=1),t,n⟩
end Go.Proofs.YtdifomkoegmngaaGreatDoor
namespace Go.Proofs.YtdifomkoegmngaaGreatDoor
open Go.RowKit

theorem lies_own {w:World} {base:Nat} {T:TypeId} {v:Value} {L:List En} (h:w.ownsRow base T 4 v L.length (Pp.flat L)) (hn:L.length≤1000000000000000):Lies w v L:=by
 haveI:Inhabited En:=⟨⟨⟨#[]⟩,false,⟨#[]⟩,0⟩⟩
 by_cases h0:L=[]
 · subst h0
   obtain⟨_,h2⟩:=h
   rcases h2 with⟨rfl,_⟩|⟨g,cap,cur,rfl,hg,hh,hc,_⟩
   · exact⟨none,0,rfl,Nat.le_refl _,by simp,fun i hi=>absurd hi (by simp)⟩
   · exact⟨some ⟨g,0,none⟩,cap,rfl,hc,by simp,fun i hi=>absurd hi (by simp)⟩
 · obtain⟨g,cap,rfl,hb,hg,hc,hm⟩:=Pp.own_shape h h0
   have:=Pp.lies_holds hg (Pp.holds_own h rfl) (d:=L.toArray) (cap:=cap) (by simpa using hc) (by simpa using hn)
   simpa using this
set_option maxHeartbeats 400000 in
theorem yes1_any (x:En) (w:World):
    Calls Tryz.prog 108 #[.agg #[.string x.path,.bool x.folder,.string x.text,.int .i64 x.ver]] w fun r w'=>r= .returned (.bool true)∧Below w.heap.size w w':=by
 go_enter Tryz.func108,Tryz.ntmps108
 go_wp2;go_ret;exact⟨rfl,by first|exact Below.refl _ _|exact(Below.refl _ _).alloc (Nat.le_refl _) _⟩
theorem yes_tells (w:World):Tells w 108 #[] (fun _=>true):=
 ⟨enters_of Tryz.func108 (by kernel_rfl) rfl,fun W hW x hx=>yes1_any x W⟩
set_option maxHeartbeats 1000000 in
theorem tcheck_all (L:List En) (v:Value) (w:World) (hv:Lies w v L) (hs:Sized L):
    Calls Tryz.prog 51 #[v] w fun e w'=>e= .returned (.int .i64 (Pp.treeE L))∧Below w.heap.size w w':=by
 by_cases h60:L.length≤60
 · exact tcheck_any L v w hv (by omega) hs
 · have HE:=hid (show 2=Pp.treeE L from by rw[Pp.treeE,if_pos (by omega)])
   obtain⟨a,cap,rfl,hcap,hcap2,hL⟩:=hv
   have hl:60<(L.length:Int):=by omega
   clear hL hs;go_enter Tryz.func51,Tryz.ntmps51
   go_wp2_with fail;go_ret;exact⟨Pp.ret_int HE.out,Below.refl _ _⟩
set_option maxHeartbeats 2000000 in
theorem checkChange_any (k:Int) (p q t:ByteArray) (b:Int) (w:World) (hp:p.size≤1000000000000000) (hq:q.size≤1000000000000000) (ht:t.size≤1000000000000000):
    Calls Tryz.prog 123 #[.agg #[.int .i64 k,.string p,.string q,.string t,.int .i64 b]] w fun e w'=>e= .returned (.int .i64 (Pp.chgE ⟨k,p,q,t,b⟩))∧Below w.heap.size w w':=by
 by_cases h1:k<1
 · have HE:=hid (show 7=Pp.chgE ⟨k,p,q,t,b⟩from by rw[Pp.chgE,if_pos (Or.inl h1)])
   go_enter Tryz.func123,Tryz.ntmps123
   go_wp2;go_ret;exact⟨Pp.ret_int HE.out,(Below.refl _ _).alloc (Nat.le_refl _) _⟩
 by_cases h2:4<k
 · have HE:=hid (show 7=Pp.chgE ⟨k,p,q,t,b⟩from by rw[Pp.chgE,if_pos (Or.inr h2)])
   go_enter Tryz.func123,Tryz.ntmps123
   go_wp2;go_ret;exact⟨Pp.ret_int HE.out,(Below.refl _ _).alloc (Nat.le_refl _) _⟩
 by_cases hz:Pp.chk p.data.toList=0
 · have HZ:Hid (Pp.chk p.data.toList=0):=hz
   have h4:(k=1∨k=4)∨k=2∨k=3:=by omega
   clear h1 h2;rcases h4 with h|rfl|rfl
   · have hcases:=Pp.cc14 h p q t b hz
     clear hz;rcases h with rfl|rfl
     all_goals
      rcases hcases with⟨f1,HE⟩|⟨f1,f2,HE⟩|⟨f1,f2,f3,f4,HE⟩|⟨f1,f2,f3,f4,HE⟩|⟨f1,f2,f3,f4,f5,HE⟩
     all_goals
      go_enter Tryz.func123,Tryz.ntmps123
      go_wp2_with fail;refine(check_any p _ hp).mono ?_
      rintro e w1 ⟨rfl,hb1'⟩;rw[HZ.out];obtain⟨c0,c1,c2,c3,c4,hbw,hlt⟩:=bx5 hb1'
      clear hb1';go_wp2_with fail;go_ret;exact⟨Pp.ret_int HE.out,hbw⟩
   · have hcases:=Pp.cc2 p q t b hz
     clear hz;rcases hcases with⟨f1,HE⟩|⟨f1,f2,HE⟩|⟨f1,f2,f3,HE⟩|⟨f1,f2,f3,HE⟩|⟨f1,f2,f3,f4,HE⟩
     all_goals
      go_enter Tryz.func123,Tryz.ntmps123
      go_wp2_with fail;refine(check_any p _ hp).mono ?_
      rintro e w1 ⟨rfl,hb1'⟩;rw[HZ.out];obtain⟨c0,c1,c2,c3,c4,hbw,hlt⟩:=bx5 hb1'
      clear hb1';go_wp2_with fail;go_ret;exact⟨Pp.ret_int HE.out,hbw⟩
   · by_cases hy:Pp.chk q.data.toList=0
     · have hcases:=Pp.cc3 p q t b hz hy
       have HY:Hid (Pp.chk q.data.toList=0):=hy;clear hz hy;rcases hcases with⟨f1,HE⟩|⟨f1,f2,f3,HE⟩|⟨f1,f2,f3,HE⟩|⟨f1,f2,f3,f4,HE⟩
       all_goals
        go_enter Tryz.func123,Tryz.ntmps123
        go_wp2_with fail;refine(check_any p _ hp).mono ?_
        rintro e w1 ⟨rfl,hb1'⟩;rw[HZ.out];obtain⟨c0,c1,c2,c3,c4,hbw,hlt⟩:=bx5 hb1'
        go_wp2_with fail;refine(check_any q _ hq).mono ?_
        rintro e w2 ⟨rfl,hb2'⟩;rw[HY.out];have hb02:=hb1'.trans (hb2'.mono hb1'.size);clear c0 c1 c2 c3 c4 hbw hlt hb1' hb2';obtain⟨c0,c1,c2,c3,c4,hbw,hlt⟩:=bx5 hb02
        clear hb02;go_wp2_with fail;go_ret;exact⟨Pp.ret_int HE.out,hbw⟩
     · have HE:=hid (show Pp.chk q.data.toList=Pp.chgE ⟨3,p,q,t,b⟩from by simp[Pp.chgE,hz,hy])
       have hy2:(Pp.chk q.data.toList==0)=false:=by simpa using hy
       clear hz;go_enter Tryz.func123,Tryz.ntmps123
       go_wp2_with fail;refine(check_any p _ hp).mono ?_
       rintro e w1 ⟨rfl,hb1'⟩;rw[HZ.out];obtain⟨c0,c1,c2,c3,c4,hbw,hlt⟩:=bx5 hb1'
       go_wp2_with fail;refine(check_any q _ hq).mono ?_
       rintro e w2 ⟨rfl,hb2'⟩;have hb02:=hb1'.trans (hb2'.mono hb1'.size);clear c0 c1 c2 c3 c4 hbw hlt hb1' hb2';obtain⟨c0,c1,c2,c3,c4,hbw,hlt⟩:=bx5 hb02
       clear hb02;go_wp2_with fail;go_ret;exact⟨Pp.ret_int HE.out,hbw⟩
 · have HE:=hid (show Pp.chk p.data.toList=Pp.chgE ⟨k,p,q,t,b⟩from by rw[Pp.chgE,if_neg (by simp only;omega),if_pos hz])
   have hz2:(Pp.chk p.data.toList==0)=false:=by simpa using hz
   go_enter Tryz.func123,Tryz.ntmps123
   go_wp2_with fail;refine(check_any p _ hp).mono ?_
   rintro e w1 ⟨rfl,hb1⟩;obtain⟨c0,c1,c2,c3,c4,hb,hlt⟩:=bx5 hb1
   clear hb1;go_wp2_with fail;go_ret;exact⟨Pp.ret_int HE.out,hb⟩
end Go.Proofs.YtdifomkoegmngaaGreatDoor
