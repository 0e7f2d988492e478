/- What Clean answers; the reference's SameCopies of the same copies. -/
import Derived.Test.YtagibnejodgeeaaGreatDoorRUM
import Derived.Test.YtagibnejodgeeaaGreatDoorRUC
import Derived.Test.YtagibnejodgeeaaGreatDoorRUE
import Derived.Test.YtagibnejodgeeaaGreatDoorRUN
import Derived.Test.YtagibnejodgeeaaGreatDoorRUB
import Derived.Test.YtagibnejodgeeaaGreatDoorRUS
import Derived.Test.YtagibnejodgeeaaGreatDoorRUH
import Derived.Test.YtagibnejodgeeaaGreatDoorRUO
import Derived.Deep.RegionHeld3
import Derived.Deep.RegionLaw
import Derived.Deep.DeepCutAuto
import Derived.WalkKit
set_option linter.unusedSimpArgs false
set_option linter.unusedVariables false
namespace Go.Proofs.YtagibnejodgeeaaGreatDoor
open Go.RowKit Go.Maps

set_option maxRecDepth 100000 in
set_option maxHeartbeats 1000000 in
theorem sameCopies_yes (C:Mg.CC) (v u:Value) (w:World) (hv:LiesK w v C) (hu:LiesK w u C):
    Calls Tryz.prog 17 #[v,u] w fun e w'=>e= .returned (.bool true)∧Below w.heap.size w w':=by
 obtain⟨a,cap,rfl,hcap,hcap2,hL⟩:=hv
 have HL:=hid hL;obtain⟨a',cap',rfl,hcap',_,hL'⟩:=hu
 have HL':=hid hL';clear hL hL';go_enter Tryz.func17,Tryz.ntmps17
 go_wp2_with fail;go_loopw [5] (fun i wr=> ∃k:Nat,k≤C.length∧i= .int .i64 k∧Below w.heap.size w wr) (fun i _=>C.length-(intOf i).toNat)
 case atStart=>exact⟨0,Nat.zero_le _,rfl,Below.refl _ _⟩
 case round=>
  obtain⟨k,hk,rfl,hbel⟩:=hrel
  by_cases hlt:k<C.length
  · obtain⟨b,o,rfl,hb,c0,c1⟩:=HL.out k hlt
    obtain⟨b',o',rfl,hb',d0,d1⟩:=HL'.out k hlt
    have hlt':(k:Int)<C.length:=by omega
    have x0:=(hbel.cell (p:=⟨b,o+k*2,none⟩) hb).trans c0;have x1:=(hbel.cell (p:=⟨b,o+k*2+1,none⟩) hb).trans c1;have y0:=(hbel.cell (p:=⟨b',o'+k*2,none⟩) hb').trans d0;have y1:=(hbel.cell (p:=⟨b',o'+k*2+1,none⟩) hb').trans d1;clear c0 c1 d0 d1;go_wp2_with fail;go_region
    go_wp2_with fail;go_roundw
    case rel=>exact⟨k+1,by omega,by simp,hbel.drew⟩
    case measure=>simp[intOf];omega
  · go_wp2_with fail
    go_ret;exact⟨rfl,hbel⟩
end Go.Proofs.YtagibnejodgeeaaGreatDoor
namespace Go.Proofs.YtagibnejodgeeaaGreatDoor
open Go.RowKit

set_option maxHeartbeats 1000000 in
theorem treeIs_yes (L M:List En) (v u:Value) (r:Int) (w:World) (hv:Lies w v (Pp.ifz r L)) (hu:r=0→Lies w u L):
    Calls Tryz.prog 14 #[v,.int .i64 r,.int .i64 r,u] w fun e w'=>e= .returned (.bool true)∧Below w.heap.size w w':=by
 by_cases hr:r=0
 · rw[Pp.ifz_yes hr]at hv
   have HV:=hid hv;have HU:=hid (hu hr);clear hv hu;subst hr;go_enter Tryz.func14,Tryz.ntmps14
   go_wp2_with fail;refine(same_yes L v u _ HV.out HU.out).mono ?_
   rintro e w1 ⟨rfl,hb1⟩;go_wp2;go_ret;exact⟨rfl,hb1⟩
 · rw[Pp.ifz_no hr]at hv
   have HV:=hid hv;have hz:(r==0)=false:=by simpa using hr
   clear hv hu;go_enter Tryz.func14,Tryz.ntmps14
   go_wp2_with fail;refine(same_yes [] v _ _ HV.out (lies_nil _)).mono ?_
   rintro e w1 ⟨rfl,hb1⟩;go_wp2;go_ret;exact⟨rfl,hb1⟩
end Go.Proofs.YtagibnejodgeeaaGreatDoor
namespace Go.Proofs.YtagibnejodgeeaaGreatDoor
open Go.RowKit Go.Maps

namespace Mg
def thE (B M T:List En):Int:=if Sp.dfE B M=0 then Pp.treeE T else Sp.dfE B M
theorem th_yes {B M T:List En} (h:thE B M T=0):Pp.treeE B=0∧Pp.treeE M=0∧Pp.treeE T=0:=by
 by_cases hB:Pp.treeE B=0
 · by_cases hM:Pp.treeE M=0
   · rw[thE,Sp.dfE,if_pos hB,if_pos hM]at h
     exact⟨hB,hM,h⟩
   · rw[thE,Sp.dfE,if_pos hB,if_neg hM]at h
     exact absurd h hM
 · rw[thE,Sp.dfE,if_neg hB,if_neg hB]at h
   exact absurd h hB
end Mg

end Go.Proofs.YtagibnejodgeeaaGreatDoor
namespace Go.Proofs.YtagibnejodgeeaaGreatDoor
open Go.RowKit

set_option maxHeartbeats 800000 in
theorem tapply_ok (L:List En) (v:Value) (k:Int) (p t:ByteArray) (b n:Int) (w:World) (hv:Lies w v L) (hs:Sized L) (hc:Pp.treeE L=0) (h:Fits L k p t b n):
    Calls Tryz.prog 7 #[v,.agg #[.int .i64 k,.string p,.string ⟨#[]⟩,.string t,.int .i64 b],.int .i64 n] w fun e w'=> ∃u,e= .returned (.tuple #[u,.int .i64 0])∧Lies w' u (after L k p t n)∧Below w.heap.size w w':=by
 have HV:Hid (Lies w v L):=hv;have HS:Hid (Sized L):=hs;have HF:Hid (Fits L k p t b n):=h;have HC:Hid (Pp.treeE L=0):=hc;clear hv hs h hc;go_enter Tryz.func7,Tryz.ntmps7
 go_wp2_with fail;refine(tcheck_any L v _ (HV.out.below ((Below.refl _ _).alloc (Nat.le_refl _) _)) (Nat.le_trans HF.out.room (by decide)) HS.out).mono ?_
 rintro e w1 ⟨rfl,hb1⟩;rw[HC.out];obtain⟨c0,c1,c2,c3,c4,hbw,hlt⟩:=box5 hb1
 go_wp2_with fail;refine(apply_ok L v k p t b n _ (HV.out.below hbw) HS.out HF.out).mono ?_
 rintro e w5 ⟨u,rfl,hli,hb5⟩;have HLI:Hid (Lies w5 u (after L k p t n)):=hli;have hb05:=hbw.trans (hb5.mono (Nat.le_of_lt hlt));clear hb1 hb5 hli c0 c1 c2 c3 c4;go_wp2;go_ret2;exact⟨u,rfl,HLI.out,hb05⟩
set_option maxHeartbeats 400000 in
theorem yes1_any (x:En) (w:World):
    Calls Tryz.prog 48 #[.agg #[.string x.path,.bool x.folder,.string x.text,.int .i64 x.ver]] w fun r w'=>r= .returned (.bool true)∧Below w.heap.size w w':=by
 go_enter Tryz.func48,Tryz.ntmps48
 go_wp2;go_ret;exact⟨rfl,by first|exact Below.refl _ _|exact(Below.refl _ _).alloc (Nat.le_refl _) _⟩
theorem yes_tells (w:World):Tells w 48 #[] (fun _=>true):=
 ⟨enters_of Tryz.func48 (by kernel_rfl) rfl,fun W hW x hx=>yes1_any x W⟩
set_option maxHeartbeats 1000000 in
theorem all_one (L:List En) (v:Value) (k:Int) (p t:ByteArray) (b n:Int) (g:Nat) (w:World) (hv:Lies w v L) (hs:Sized L) (hc:Pp.treeE L=0) (h:Fits L k p t b n) (hg:g<w.heap.size)
    (h0:w.cell? ⟨g,0,none⟩=some (.int .i64 k)) (h1:w.cell? ⟨g,1,none⟩=some (.string p)) (h2:w.cell? ⟨g,2,none⟩=some (.string ⟨#[]⟩)) (h3:w.cell? ⟨g,3,none⟩=some (.string t)) (h4:w.cell? ⟨g,4,none⟩=some (.int .i64 b)):
    Calls Tryz.prog 20 #[v,.slice (some ⟨g,0,none⟩) 1 1,.int .i64 n] w fun e w'=> ∃u,e= .returned (.tuple #[u,.int .i64 1,.int .i64 0])∧Lies w' u (after L k p t n)∧Below w.heap.size w w':=by
 have HV:Hid (Lies w v L):=hv;have HS:Hid (Sized L):=hs;have HF:Hid (Fits L k p t b n):=h;have HC:Hid (Pp.treeE L=0):=hc;have H0:Hid (w.cell? ⟨g,0,none⟩=some (.int .i64 k)):=h0;have H1:Hid (w.cell? ⟨g,1,none⟩=some (.string p)):=h1;have H2:Hid (w.cell? ⟨g,2,none⟩=some (.string ⟨#[]⟩)):=h2;have H3:Hid (w.cell? ⟨g,3,none⟩=some (.string t)):=h3;have H4:Hid (w.cell? ⟨g,4,none⟩=some (.int .i64 b)):=h4;clear hv hs h hc h0 h1 h2 h3 h4;go_enter Tryz.func20,Tryz.ntmps20
 go_wp2_with fail;refine(tcheck_any L v _ HV.out (Nat.le_trans HF.out.room (by decide)) HS.out).mono ?_
 rintro e w1 ⟨rfl,hb1⟩;rw[HC.out];go_wp2_with fail;refine(every_any L v _ _ (fun _=>true) _ (HV.out.below hb1) (yes_tells _) (Nat.le_trans HF.out.room (by decide)) HS.out).mono ?_
 rintro e w2 ⟨u,rfl,hou,hnu,hb2⟩;rw[show L.filter (fun _=>true)=L by simp]at hou;have HU:Hid (Lies w2 u L):=lies_own hou (Nat.le_trans HF.out.room (by decide));have hb02:=hb1.trans (hb2.mono hb1.size);clear hou hnu hb1 hb2;go_wp2_with fail;go_loopw [10,26] (fun x i wr=>((i= .int .i64 0∧Hid (Lies wr x L))∨(i= .int .i64 1∧Hid (Lies wr x (after L k p t n))))∧Below w.heap.size w wr) (fun _ i _=>1-(intOf i).toNat)
 case atStart=>exact⟨Or.inl ⟨rfl,HU⟩,hb02⟩
 case round=>
  obtain⟨⟨rfl,HX⟩|⟨rfl,HX⟩,hbel⟩:=hrel
  · have c0:=(hbel.cell (p:=⟨g,0,none⟩) hg).trans H0.out
    have c1:=(hbel.cell (p:=⟨g,1,none⟩) hg).trans H1.out;have c2:=(hbel.cell (p:=⟨g,2,none⟩) hg).trans H2.out;have c3:=(hbel.cell (p:=⟨g,3,none⟩) hg).trans H3.out;have c4:=(hbel.cell (p:=⟨g,4,none⟩) hg).trans H4.out;clear hb02;go_wp2_with fail;refine(apply_ok L _ k p t b n _ (HX.out.below ((Below.refl _ _).alloc (Nat.le_refl _) _)) HS.out HF.out).mono ?_
    rintro e w3 ⟨u3,rfl,hli,hb3⟩;obtain⟨d0,d1,d2,d3,d4,hbw,hlt⟩:=box5 hb3
    have HLI:Hid (Lies w3 u3 (after L k p t n)):=hli;have hbel3:=below_trans hbel hbw;clear hb3 hli d0 d1 d2 d3 d4 c0 c1 c2 c3 c4 hbel hbw;go_wp2_with fail;go_roundw
    case rel=>exact⟨Or.inr ⟨by simp,HLI⟩,hbel3⟩
    case measure=>simp[intOf]
  · clear hb02
    go_wp2_with fail;go_ret3;exact⟨_,rfl,HX.out,hbel⟩
def La:ByteArray:=⟨#[97]⟩
def Lab:ByteArray:=⟨#[97,47,98]⟩
def Lx:ByteArray:=⟨#[120]⟩
def T1:List En:=[made 1 La ⟨#[]⟩ 5]
theorem fitsOne1:Fits [] 1 La ⟨#[]⟩ 0 5:=⟨Or.inl ⟨rfl,rfl⟩,by decide,by decide,by decide,by decide,by decide,by decide,by decide,rfl,Or.inr rfl,by decide,by decide,List.Pairwise.nil⟩
theorem after1:after [] 1 La ⟨#[]⟩ 5=T1:=rfl
theorem fitsOne2:Fits T1 2 Lab Lx (-1) 6:=⟨Or.inr rfl,by decide,by decide,by decide,by decide,by decide,by decide,by decide,by decide,Or.inl rfl,by decide,by decide,by simp[T1]⟩
def T2:List En:=[made 1 La ⟨#[]⟩ 5,made 2 Lab Lx 6]
theorem after2:after T1 2 Lab Lx 6=T2:=by
 have h1:Pp.out (made 2 Lab Lx 6) T1=T1:=by rfl
 have h2:Pp.lt (made 1 La ⟨#[]⟩ 5) (made 2 Lab Lx 6)=true:=by rw[Pp.lt_cfE];decide
 rw[after,h1,T1,Pp.ins,h2];rfl
theorem sized0:Sized []:=fun e he=>by cases he
theorem sized1:Sized T1:=fun e he=>by
 rw[T1,List.mem_singleton]at he;subst he;exact⟨by decide,by decide⟩
theorem tree1:Pp.treeE T1=0:=by decide
set_option maxHeartbeats 1000000 in
theorem begun_yes (w:World):Calls Tryz.prog 4 #[] w fun e w'=>e= .returned (.bool true)∧Below w.heap.size w w':=by
 go_enter Tryz.func4,Tryz.ntmps4
 go_wp2_with fail;refine(tapply_ok [] _ 1 La ⟨#[]⟩ 0 5 _ ⟨none,0,rfl,Nat.le_refl _,by simp,fun i hi=>absurd hi (by simp)⟩ sized0 rfl fitsOne1).mono ?_
 rintro e w1 ⟨u,rfl,hli,hb1⟩;rw[after1]at hli;have HU:Hid (Lies w1 u T1):=hli;clear hli;go_wp2_with fail;refine(all_one T1 u 2 Lab Lx (-1) 6 w1.heap.size _ (HU.out.below ((Below.refl _ _).alloc (Nat.le_refl _) _)) sized1 tree1 fitsOne2 (by simp) (by simp) (by simp;rfl) (by simp) (by simp;rfl) (by simp)).mono ?_
 rintro e w2 ⟨u2,rfl,hli,hb2⟩;rw[after2]at hli;obtain⟨c0,c1,c2,c3,c4,hbw,hlt⟩:=box5 hb2
 have hbel:=hb1.trans (hbw.mono hb1.size);obtain⟨a,cap,rfl,hcap,hcap2,hL⟩:=hli
 obtain⟨b,o,rfl,hb,he⟩:=hL 0 (by decide)
 obtain⟨b',o',e',hb',he'⟩:=hL 1 (by decide)
 cases e'
 have k0:w2.cell? ⟨b,o+1,none⟩=some (.bool true):=by have:=he.2.1;simpa[T2,made]using this
 have k1:w2.cell? ⟨b,o+7,none⟩=some (.int .i64 6):=by have:=he'.2.2.2;simpa[T2,made]using this
 have hlen:T2.length=2:=rfl;clear he he' hL hb1 hb2 hbw hlt c0 c1 c2 c3 c4;rw[hlen]at hcap⊢;go_wp2_with fail;go_ret;exact⟨rfl,hbel⟩
set_option maxHeartbeats 2000000 in
theorem changeForm_any (k:Int) (p q t:ByteArray) (b:Int) (w:World) (hp:p.size≤1000000000) (hq:q.size≤1000000000) (ht:t.size≤1000000000000000):
    Calls Tryz.prog 33 #[.agg #[.int .i64 k,.string p,.string q,.string t,.int .i64 b]] w fun e w'=>e= .returned (.int .i64 (Pp.chgE ⟨k,p,q,t,b⟩))∧Below w.heap.size w w':=by
 by_cases h1:k<1
 · have HE:=hid (show 7=Pp.chgE ⟨k,p,q,t,b⟩from by rw[Pp.chgE,if_pos (Or.inl h1)])
   go_enter Tryz.func33,Tryz.ntmps33
   go_wp2;go_ret;exact⟨Pp.ret_int HE.out,(Below.refl _ _).alloc (Nat.le_refl _) _⟩
 by_cases h2:4<k
 · have HE:=hid (show 7=Pp.chgE ⟨k,p,q,t,b⟩from by rw[Pp.chgE,if_pos (Or.inr h2)])
   go_enter Tryz.func33,Tryz.ntmps33
   go_wp2;go_ret;exact⟨Pp.ret_int HE.out,(Below.refl _ _).alloc (Nat.le_refl _) _⟩
 by_cases hz:Pp.chk p.data.toList=0
 · have HZ:Hid (Pp.chk p.data.toList=0):=hz
   have h4:(k=1∨k=4)∨k=2∨k=3:=by omega
   clear h1 h2;rcases h4 with h|rfl|rfl
   · have hcases:=Pp.cc14 h p q t b hz
     clear hz;rcases h with rfl|rfl
     all_goals
      rcases hcases with⟨f1,HE⟩|⟨f1,f2,HE⟩|⟨f1,f2,f3,f4,HE⟩|⟨f1,f2,f3,f4,HE⟩|⟨f1,f2,f3,f4,f5,HE⟩
     all_goals
      go_enter Tryz.func33,Tryz.ntmps33
      go_wp2_with fail;refine(rCheck_any p _ hp).mono ?_
      rintro e w1 ⟨rfl,hb1'⟩;rw[HZ.out];obtain⟨c0,c1,c2,c3,c4,hbw,hlt⟩:=bx5 hb1'
      clear hb1';go_wp2_with fail;go_ret;exact⟨Pp.ret_int HE.out,hbw⟩
   · have hcases:=Pp.cc2 p q t b hz
     clear hz;rcases hcases with⟨f1,HE⟩|⟨f1,f2,HE⟩|⟨f1,f2,f3,HE⟩|⟨f1,f2,f3,HE⟩|⟨f1,f2,f3,f4,HE⟩
     all_goals
      go_enter Tryz.func33,Tryz.ntmps33
      go_wp2_with fail;refine(rCheck_any p _ hp).mono ?_
      rintro e w1 ⟨rfl,hb1'⟩;rw[HZ.out];obtain⟨c0,c1,c2,c3,c4,hbw,hlt⟩:=bx5 hb1'
      clear hb1';go_wp2_with fail;go_ret;exact⟨Pp.ret_int HE.out,hbw⟩
   · by_cases hy:Pp.chk q.data.toList=0
     · have hcases:=Pp.cc3 p q t b hz hy
       have HY:Hid (Pp.chk q.data.toList=0):=hy;clear hz hy;rcases hcases with⟨f1,HE⟩|⟨f1,f2,f3,HE⟩|⟨f1,f2,f3,HE⟩|⟨f1,f2,f3,f4,HE⟩
       all_goals
        go_enter Tryz.func33,Tryz.ntmps33
        go_wp2_with fail;refine(rCheck_any p _ hp).mono ?_
        rintro e w1 ⟨rfl,hb1'⟩;rw[HZ.out];obtain⟨c0,c1,c2,c3,c4,hbw,hlt⟩:=bx5 hb1'
        go_wp2_with fail;refine(rCheck_any q _ hq).mono ?_
        rintro e w2 ⟨rfl,hb2'⟩;rw[HY.out];have hb02:=hb1'.trans (hb2'.mono hb1'.size);clear c0 c1 c2 c3 c4 hbw hlt hb1' hb2';obtain⟨c0,c1,c2,c3,c4,hbw,hlt⟩:=bx5 hb02
        clear hb02;go_wp2_with fail;go_ret;exact⟨Pp.ret_int HE.out,hbw⟩
     · have HE:=hid (show Pp.chk q.data.toList=Pp.chgE ⟨3,p,q,t,b⟩from by simp[Pp.chgE,hz,hy])
       have hy2:(Pp.chk q.data.toList==0)=false:=by simpa using hy
       clear hz;go_enter Tryz.func33,Tryz.ntmps33
       go_wp2_with fail;refine(rCheck_any p _ hp).mono ?_
       rintro e w1 ⟨rfl,hb1'⟩;rw[HZ.out];obtain⟨c0,c1,c2,c3,c4,hbw,hlt⟩:=bx5 hb1'
       go_wp2_with fail;refine(rCheck_any q _ hq).mono ?_
       rintro e w2 ⟨rfl,hb2'⟩;have hb02:=hb1'.trans (hb2'.mono hb1'.size);clear c0 c1 c2 c3 c4 hbw hlt hb1' hb2';obtain⟨c0,c1,c2,c3,c4,hbw,hlt⟩:=bx5 hb02
       clear hb02;go_wp2_with fail;go_ret;exact⟨Pp.ret_int HE.out,hbw⟩
 · have HE:=hid (show Pp.chk p.data.toList=Pp.chgE ⟨k,p,q,t,b⟩from by rw[Pp.chgE,if_neg (by simp only;omega),if_pos hz])
   have hz2:(Pp.chk p.data.toList==0)=false:=by simpa using hz
   go_enter Tryz.func33,Tryz.ntmps33
   go_wp2_with fail;refine(rCheck_any p _ hp).mono ?_
   rintro e w1 ⟨rfl,hb1⟩;obtain⟨c0,c1,c2,c3,c4,hb,hlt⟩:=bx5 hb1
   clear hb1;go_wp2_with fail;go_ret;exact⟨Pp.ret_int HE.out,hb⟩
namespace Pp
theorem plc_err {L:List En} {k:Int} {p q t:ByteArray} {b:Int} (hk:1≤k∧k≤4) (h: ¬plcE L ⟨k,p,q,t,b⟩=0):
    (¬foldE L (par (goal ⟨k,p,q,t,b⟩))=0∧plcE L ⟨k,p,q,t,b⟩=foldE L (par (goal ⟨k,p,q,t,b⟩)))∨
    (foldE L (par (goal ⟨k,p,q,t,b⟩))=0∧(
     (k=1∧(∃j,∃h:j<L.length,idx L p.data.toList=(j:Int))∧6=plcE L ⟨k,p,q,t,b⟩)∨
     (k=2∧(∃j,∃h:j<L.length,idx L p.data.toList=(j:Int)∧(L[j]).folder=true)∧4=plcE L ⟨k,p,q,t,b⟩)∨
     ((k=3∨k=4)∧idx L p.data.toList= -1∧5=plcE L ⟨k,p,q,t,b⟩)∨
     (k=3∧(∃j,∃h:j<L.length,idx L p.data.toList=(j:Int))∧isInB q.data.toList p.data.toList=true∧3=plcE L ⟨k,p,q,t,b⟩)∨
     (k=3∧(∃j,∃h:j<L.length,idx L p.data.toList=(j:Int))∧isInB q.data.toList p.data.toList=false∧(∃j,∃h:j<L.length,idx L q.data.toList=(j:Int))∧6=plcE L ⟨k,p,q,t,b⟩))):=by
 by_cases hf:foldE L (par (goal ⟨k,p,q,t,b⟩))=0
 · refine Or.inr ⟨hf,?_⟩
   have hE:plcE L ⟨k,p,q,t,b⟩=match L.find? (atB p.data.toList)with
    |none=>if k=3∨k=4 then 5 else 0
    |some x=>if k=1 then 6 else if k=2 then(if x.folder=true then 4 else 0)
     else if k=3 then(if isInB q.data.toList p.data.toList=true then 3 else if(L.find? (atB q.data.toList)).isSome=true then 6 else 0)else 0:=by
    rw[plcE,if_neg (fun x=>x hf)];rfl
   rcases idx_cases L p.data.toList with⟨hi,hn⟩|⟨j,hj,hi,hn⟩
   · rw[hn]at hE
     have h34:k=3∨k=4:=by
      by_cases h34:k=3∨k=4
      · exact h34
      · rw[hE]at h;simp[h34]at h
     exact Or.inr (Or.inr (Or.inl ⟨h34,hi,by rw[hE];simp only[if_pos h34]⟩))
   · rw[hn]at hE
     have h4:k=1∨k=2∨k=3∨k=4:=by omega
     rcases h4 with rfl|rfl|rfl|rfl
     · exact Or.inl ⟨rfl,⟨j,hj,hi⟩,by rw[hE];rfl⟩
     · cases hx:(L[j]).folder with
       |true=>exact Or.inr (Or.inl ⟨rfl,⟨j,hj,hi,hx⟩,by rw[hE];simp[hx]⟩)
       |false=>rw[hE]at h;simp[hx]at h
     · cases hx:isInB q.data.toList p.data.toList with
       |true=>exact Or.inr (Or.inr (Or.inr (Or.inl ⟨rfl,⟨j,hj,hi⟩,rfl,by rw[hE];simp[hx]⟩)))
       |false=>
        rcases idx_cases L q.data.toList with⟨hi2,hn2⟩|⟨j2,hj2,hi2,hn2⟩
        · rw[hE]at h;simp[hx,hn2]at h
        · exact Or.inr (Or.inr (Or.inr (Or.inr ⟨rfl,⟨j,hj,hi⟩,rfl,⟨j2,hj2,hi2⟩,by rw[hE];simp[hx,hn2]⟩)))
     · rw[hE]at h;simp at h
 · exact Or.inl ⟨hf,by rw[plcE,if_pos hf]⟩
theorem plc_ok {L:List En} {k:Int} {p q t:ByteArray} {b:Int} (hk:1≤k∧k≤4) (h:plcE L ⟨k,p,q,t,b⟩=0):
    foldE L (par (goal ⟨k,p,q,t,b⟩))=0∧(
     (k=1∧idx L p.data.toList= -1)∨(k=2∧idx L p.data.toList= -1)∨
     (k=2∧ ∃j,∃h:j<L.length,idx L p.data.toList=(j:Int)∧(L[j]).folder=false)∨
     (k=3∧(∃j,∃h:j<L.length,idx L p.data.toList=(j:Int))∧isInB q.data.toList p.data.toList=false∧idx L q.data.toList= -1∧L.find? (atB q.data.toList)=none)∨
     (k=4∧ ∃j,∃h:j<L.length,idx L p.data.toList=(j:Int))):=by
 have hf:=plc_fold h;refine⟨hf,?_⟩
 have hE:plcE L ⟨k,p,q,t,b⟩=match L.find? (atB p.data.toList)with
  |none=>if k=3∨k=4 then 5 else 0
  |some x=>if k=1 then 6 else if k=2 then(if x.folder=true then 4 else 0)
   else if k=3 then(if isInB q.data.toList p.data.toList=true then 3 else if(L.find? (atB q.data.toList)).isSome=true then 6 else 0)else 0:=by
  rw[plcE,if_neg (fun x=>x hf)];rfl
 rw[hE]at h;have h4:k=1∨k=2∨k=3∨k=4:=by omega
 rcases idx_cases L p.data.toList with⟨hi,hn⟩|⟨j,hj,hi,hn⟩
 · rw[hn]at h
   rcases h4 with rfl|rfl|rfl|rfl
   · exact Or.inl ⟨rfl,hi⟩
   · exact Or.inr (Or.inl ⟨rfl,hi⟩)
   · simp at h
   · simp at h
 · rw[hn]at h
   rcases h4 with rfl|rfl|rfl|rfl
   · simp at h
   · cases hx:(L[j]).folder with
     |true=>simp[hx]at h
     |false=>exact Or.inr (Or.inr (Or.inl ⟨rfl,j,hj,hi,hx⟩))
   · cases hx:isInB q.data.toList p.data.toList with
     |true=>simp[hx]at h
     |false=>
      rcases idx_cases L q.data.toList with⟨hi2,hn2⟩|⟨j2,hj2,hi2,hn2⟩
      · exact Or.inr (Or.inr (Or.inr (Or.inl ⟨rfl,⟨j,hj,hi⟩,rfl,hi2,hn2⟩)))
      · simp[hx,hn2]at h
   · exact Or.inr (Or.inr (Or.inr (Or.inr ⟨rfl,j,hj,hi⟩)))
end Pp

set_option maxRecDepth 100000 in
set_option maxHeartbeats 1000000 in
theorem changeOf_form (L:List En) (v:Value) (k:Int) (p q t:ByteArray) (b n:Int) (w:World) (hp:p.size≤1000000000) (hq:q.size≤1000000000) (ht:t.size≤1000000000) (hc: ¬Pp.chgE ⟨k,p,q,t,b⟩=0):
    Calls Tryz.prog 13 #[v,.agg #[.int .i64 k,.string p,.string q,.string t,.int .i64 b],.int .i64 n] w fun e w'=>e= .returned (.tuple #[.slice none 0 0,.int .i64 (Pp.chgE ⟨k,p,q,t,b⟩)])∧Below w.heap.size w w':=by
 have hz:(Pp.chgE ⟨k,p,q,t,b⟩==0)=false:=by simpa using hc
 go_enter Tryz.func13,Tryz.ntmps13
 go_wp2_with fail;refine(changeForm_any k p q t b _ hp hq (by omega)).mono ?_
 rintro e w1 ⟨rfl,hb1⟩;obtain⟨c0,c1,c2,c3,c4,hbw,hlt⟩:=bx5 hb1
 clear hb1;go_wp2_with fail;go_ret2;exact⟨rfl,hbw⟩
set_option maxRecDepth 100000 in
set_option maxHeartbeats 2000000 in
theorem changeOf_place (L:List En) (v:Value) (k:Int) (p q t:ByteArray) (b n:Int) (w:World) (hv:Lies w v L) (hp:p.size≤1000000000) (hq:q.size≤1000000000) (ht:t.size≤1000000000) (hc:Pp.chgE ⟨k,p,q,t,b⟩=0) (hpl: ¬Pp.plcE L ⟨k,p,q,t,b⟩=0):
    Calls Tryz.prog 13 #[v,.agg #[.int .i64 k,.string p,.string q,.string t,.int .i64 b],.int .i64 n] w fun e w'=>e= .returned (.tuple #[.slice none 0 0,.int .i64 (Pp.plcE L ⟨k,p,q,t,b⟩)])∧Below w.heap.size w w':=by
 have HV:=hid hv;have HC:=hid hc;have hk:1≤k∧k≤4:=Pp.chg_kind hc;rcases Pp.plc_err hk hpl with⟨h0,hE⟩|⟨h0,hr⟩
 · rw[hE]
   have hz:(Pp.foldE L (Pp.par (Pp.goal ⟨k,p,q,t,b⟩))==0)=false:=by simpa using h0
   clear hE h0 hpl hc hv;by_cases h3:k=3
   · subst h3
     have hg:Pp.goal ⟨3,p,q,t,b⟩=q.data.toList:=rfl;rw[hg]at hz⊢;clear hg hk;go_enter Tryz.func13,Tryz.ntmps13
     go_wp2_with fail;refine(changeForm_any 3 p q t b _ hp hq (by omega)).mono ?_
     rintro e w1 ⟨rfl,hb1⟩;rw[HC.out];obtain⟨c0,c1,c2,c3,c4,hbw,hlt⟩:=bx5 hb1
     go_wp2_with fail;refine(parentOf_any q _ hq).mono ?_
     rintro e w2 ⟨rfl,hb2⟩;have hb02:=hbw.trans (hb2.mono (Nat.le_of_lt hlt));clear c0 c1 c2 c3 c4 hbw hlt hb1 hb2;go_wp2_with fail;refine(isFolder_any L v ⟨(Pp.par q.data.toList).toArray⟩ _ (HV.out.below hb02)).mono ?_
     rintro e w3 ⟨rfl,hb3⟩;rw[show Pp.foldE L _=Pp.foldE L (Pp.par q.data.toList)from rfl];have hb03:=hb02.trans (hb3.mono hb02.size);clear hb02 hb3;go_wp2;go_ret2;exact⟨rfl,hb03⟩
   · have hg:Pp.goal ⟨k,p,q,t,b⟩=p.data.toList:=if_neg h3
     have h3':(k==3)=false:=by simpa using h3
     rw[hg]at hz⊢;clear hg hk;go_enter Tryz.func13,Tryz.ntmps13
     go_wp2_with fail;refine(changeForm_any k p q t b _ hp hq (by omega)).mono ?_
     rintro e w1 ⟨rfl,hb1⟩;rw[HC.out];obtain⟨c0,c1,c2,c3,c4,hbw,hlt⟩:=bx5 hb1
     go_wp2_with fail;refine(parentOf_any p _ hp).mono ?_
     rintro e w2 ⟨rfl,hb2⟩;have hb02:=hbw.trans (hb2.mono (Nat.le_of_lt hlt));clear c0 c1 c2 c3 c4 hbw hlt hb1 hb2;go_wp2_with fail;refine(isFolder_any L v ⟨(Pp.par p.data.toList).toArray⟩ _ (HV.out.below hb02)).mono ?_
     rintro e w3 ⟨rfl,hb3⟩;rw[show Pp.foldE L _=Pp.foldE L (Pp.par p.data.toList)from rfl];have hb03:=hb02.trans (hb3.mono hb02.size);clear hb02 hb3;go_wp2;go_ret2;exact⟨rfl,hb03⟩
 · have H0:Hid (Pp.foldE L (Pp.par (Pp.goal ⟨k,p,q,t,b⟩))=0):=h0
   clear hpl hc h0;rcases hr with⟨rfl,⟨j,hj,hi⟩,hE⟩|⟨rfl,⟨j,hj,hi,hx⟩,hE⟩|⟨rfl|rfl,hi,hE⟩|⟨rfl,⟨j,hj,hi⟩,hx,hE⟩|⟨rfl,⟨j,hj,hi⟩,hx,⟨j2,hj2,hi2⟩,hE⟩
   · have H0':Hid (Pp.foldE L (Pp.par p.data.toList)=0):=H0.out
     have HI:=hid hi;rw[←hE];clear hE hi hv;go_enter Tryz.func13,Tryz.ntmps13
     go_wp2_with fail;refine(changeForm_any _ p q t b _ hp hq (by omega)).mono ?_
     rintro e w1 ⟨rfl,hb1⟩;rw[HC.out];obtain⟨c0,c1,c2,c3,c4,hbw,hlt⟩:=bx5 hb1
     go_wp2_with fail;refine(parentOf_any p _ hp).mono ?_
     rintro e w2 ⟨rfl,hb2⟩;have hb02:=hb1.trans (hb2.mono hb1.size);clear c0 c1 c2 c3 c4 hbw hlt hb1 hb2;obtain⟨c0,c1,c2,c3,c4,hbw,hlt⟩:=bx5 hb02
     go_wp2_with fail;refine(isFolder_any L v ⟨(Pp.par p.data.toList).toArray⟩ _ (HV.out.below hbw)).mono ?_
     rintro e w3 ⟨rfl,hb3⟩;rw[show Pp.foldE L _=0 from H0'.out];have hb03:=hb02.trans (hb3.mono hb02.size);clear c0 c1 c2 c3 c4 hbw hlt hb02 hb3;obtain⟨c0,c1,c2,c3,c4,hbw,hlt⟩:=bx5 hb03
     go_wp2_with fail;refine(entryAt_any L v p _ (HV.out.below hbw)).mono ?_
     rintro e w4 ⟨rfl,hb4⟩;rw[HI.out];have hb04:=hb03.trans (hb4.mono hb03.size);clear c0 c1 c2 c3 c4 hbw hlt hb03 hb4;obtain⟨c0,c1,c2,c3,c4,hbw,hlt⟩:=bx5 hb04
     clear hb04;go_wp2;go_ret2;exact⟨rfl,hbw⟩
   · have H0':Hid (Pp.foldE L (Pp.par p.data.toList)=0):=H0.out
     have HI:=hid hi;rw[←hE];clear hE hi;obtain⟨a,cap,rfl,hcap,hcap2,hL⟩:=hv
     obtain⟨b',o',rfl,hb',he⟩:=hL j hj
     have hjj:(j:Int)<L.length:=by omega
     clear hL;go_enter Tryz.func13,Tryz.ntmps13
     go_wp2_with fail;refine(changeForm_any _ p q t b _ hp hq (by omega)).mono ?_
     rintro e w1 ⟨rfl,hb1⟩;rw[HC.out];obtain⟨c0,c1,c2,c3,c4,hbw,hlt⟩:=bx5 hb1
     go_wp2_with fail;refine(parentOf_any p _ hp).mono ?_
     rintro e w2 ⟨rfl,hb2⟩;have hb02:=hb1.trans (hb2.mono hb1.size);clear c0 c1 c2 c3 c4 hbw hlt hb1 hb2;obtain⟨c0,c1,c2,c3,c4,hbw,hlt⟩:=bx5 hb02
     go_wp2_with fail;refine(isFolder_any L _ ⟨(Pp.par p.data.toList).toArray⟩ _ (HV.out.below hbw)).mono ?_
     rintro e w3 ⟨rfl,hb3⟩;rw[show Pp.foldE L _=0 from H0'.out];have hb03:=hb02.trans (hb3.mono hb02.size);clear c0 c1 c2 c3 c4 hbw hlt hb02 hb3;obtain⟨c0,c1,c2,c3,c4,hbw,hlt⟩:=bx5 hb03
     go_wp2_with fail;refine(entryAt_any L _ p _ (HV.out.below hbw)).mono ?_
     rintro e w4 ⟨rfl,hb4⟩;rw[HI.out];have hb04:=hb03.trans (hb4.mono hb03.size);clear c0 c1 c2 c3 c4 hbw hlt hb03 hb4;obtain⟨c0,c1,c2,c3,c4,hbw,hlt⟩:=bx5 hb04
     obtain⟨d0,d1,d2,d3⟩:=he.below hb' hbw
     rw[hx]at d1;clear hb04 hx d0 d2 d3;go_wp2;go_ret2;exact⟨rfl,hbw⟩
   · have H0':Hid (Pp.foldE L (Pp.par q.data.toList)=0):=H0.out
     have HI:=hid hi;rw[←hE];clear hE hi hv;go_enter Tryz.func13,Tryz.ntmps13
     go_wp2_with fail;refine(changeForm_any _ p q t b _ hp hq (by omega)).mono ?_
     rintro e w1 ⟨rfl,hb1⟩;rw[HC.out];obtain⟨c0,c1,c2,c3,c4,hbw,hlt⟩:=bx5 hb1
     go_wp2_with fail;refine(parentOf_any q _ hq).mono ?_
     rintro e w2 ⟨rfl,hb2⟩;have hb02:=hb1.trans (hb2.mono hb1.size);clear c0 c1 c2 c3 c4 hbw hlt hb1 hb2;obtain⟨c0,c1,c2,c3,c4,hbw,hlt⟩:=bx5 hb02
     go_wp2_with fail;refine(isFolder_any L v ⟨(Pp.par q.data.toList).toArray⟩ _ (HV.out.below hbw)).mono ?_
     rintro e w3 ⟨rfl,hb3⟩;rw[show Pp.foldE L _=0 from H0'.out];have hb03:=hb02.trans (hb3.mono hb02.size);clear c0 c1 c2 c3 c4 hbw hlt hb02 hb3;obtain⟨c0,c1,c2,c3,c4,hbw,hlt⟩:=bx5 hb03
     go_wp2_with fail;refine(entryAt_any L v p _ (HV.out.below hbw)).mono ?_
     rintro e w4 ⟨rfl,hb4⟩;rw[HI.out];have hb04:=hb03.trans (hb4.mono hb03.size);clear c0 c1 c2 c3 c4 hbw hlt hb03 hb4;obtain⟨c0,c1,c2,c3,c4,hbw,hlt⟩:=bx5 hb04
     clear hb04;go_wp2;go_ret2;exact⟨rfl,hbw⟩
   · have H0':Hid (Pp.foldE L (Pp.par p.data.toList)=0):=H0.out
     have HI:=hid hi;rw[←hE];clear hE hi hv;go_enter Tryz.func13,Tryz.ntmps13
     go_wp2_with fail;refine(changeForm_any _ p q t b _ hp hq (by omega)).mono ?_
     rintro e w1 ⟨rfl,hb1⟩;rw[HC.out];obtain⟨c0,c1,c2,c3,c4,hbw,hlt⟩:=bx5 hb1
     go_wp2_with fail;refine(parentOf_any p _ hp).mono ?_
     rintro e w2 ⟨rfl,hb2⟩;have hb02:=hb1.trans (hb2.mono hb1.size);clear c0 c1 c2 c3 c4 hbw hlt hb1 hb2;obtain⟨c0,c1,c2,c3,c4,hbw,hlt⟩:=bx5 hb02
     go_wp2_with fail;refine(isFolder_any L v ⟨(Pp.par p.data.toList).toArray⟩ _ (HV.out.below hbw)).mono ?_
     rintro e w3 ⟨rfl,hb3⟩;rw[show Pp.foldE L _=0 from H0'.out];have hb03:=hb02.trans (hb3.mono hb02.size);clear c0 c1 c2 c3 c4 hbw hlt hb02 hb3;obtain⟨c0,c1,c2,c3,c4,hbw,hlt⟩:=bx5 hb03
     go_wp2_with fail;refine(entryAt_any L v p _ (HV.out.below hbw)).mono ?_
     rintro e w4 ⟨rfl,hb4⟩;rw[HI.out];have hb04:=hb03.trans (hb4.mono hb03.size);clear c0 c1 c2 c3 c4 hbw hlt hb03 hb4;obtain⟨c0,c1,c2,c3,c4,hbw,hlt⟩:=bx5 hb04
     clear hb04;go_wp2;go_ret2;exact⟨rfl,hbw⟩
   · have H0':Hid (Pp.foldE L (Pp.par q.data.toList)=0):=H0.out
     have HI:=hid hi;have HX:=hid hx;rw[←hE];clear hE hi hv hx;go_enter Tryz.func13,Tryz.ntmps13
     go_wp2_with fail;refine(changeForm_any _ p q t b _ hp hq (by omega)).mono ?_
     rintro e w1 ⟨rfl,hb1⟩;rw[HC.out];obtain⟨c0,c1,c2,c3,c4,hbw,hlt⟩:=bx5 hb1
     go_wp2_with fail;refine(parentOf_any q _ hq).mono ?_
     rintro e w2 ⟨rfl,hb2⟩;have hb02:=hb1.trans (hb2.mono hb1.size);clear c0 c1 c2 c3 c4 hbw hlt hb1 hb2;obtain⟨c0,c1,c2,c3,c4,hbw,hlt⟩:=bx5 hb02
     go_wp2_with fail;refine(isFolder_any L v ⟨(Pp.par q.data.toList).toArray⟩ _ (HV.out.below hbw)).mono ?_
     rintro e w3 ⟨rfl,hb3⟩;rw[show Pp.foldE L _=0 from H0'.out];have hb03:=hb02.trans (hb3.mono hb02.size);clear c0 c1 c2 c3 c4 hbw hlt hb02 hb3;obtain⟨c0,c1,c2,c3,c4,hbw,hlt⟩:=bx5 hb03
     go_wp2_with fail;refine(entryAt_any L v p _ (HV.out.below hbw)).mono ?_
     rintro e w4 ⟨rfl,hb4⟩;rw[HI.out];have hb04:=hb03.trans (hb4.mono hb03.size);clear c0 c1 c2 c3 c4 hbw hlt hb03 hb4;obtain⟨c0,c1,c2,c3,c4,hbw,hlt⟩:=bx5 hb04
     go_wp2_with fail;refine(isIn_any q p _ hq hp).mono ?_
     rintro e w5 ⟨rfl,hb5⟩;rw[HX.out];have hb05:=hb04.trans (hb5.mono hb04.size);clear c0 c1 c2 c3 c4 hbw hlt hb04 hb5;obtain⟨c0,c1,c2,c3,c4,hbw,hlt⟩:=bx5 hb05
     clear hb05;go_wp2;go_ret2;exact⟨rfl,hbw⟩
   · have H0':Hid (Pp.foldE L (Pp.par q.data.toList)=0):=H0.out
     have HI:=hid hi;have HI2:=hid hi2;have HX:=hid hx;rw[←hE];clear hE hi hv hx hi2;go_enter Tryz.func13,Tryz.ntmps13
     go_wp2_with fail;refine(changeForm_any _ p q t b _ hp hq (by omega)).mono ?_
     rintro e w1 ⟨rfl,hb1⟩;rw[HC.out];obtain⟨c0,c1,c2,c3,c4,hbw,hlt⟩:=bx5 hb1
     go_wp2_with fail;refine(parentOf_any q _ hq).mono ?_
     rintro e w2 ⟨rfl,hb2⟩;have hb02:=hb1.trans (hb2.mono hb1.size);clear c0 c1 c2 c3 c4 hbw hlt hb1 hb2;obtain⟨c0,c1,c2,c3,c4,hbw,hlt⟩:=bx5 hb02
     go_wp2_with fail;refine(isFolder_any L v ⟨(Pp.par q.data.toList).toArray⟩ _ (HV.out.below hbw)).mono ?_
     rintro e w3 ⟨rfl,hb3⟩;rw[show Pp.foldE L _=0 from H0'.out];have hb03:=hb02.trans (hb3.mono hb02.size);clear c0 c1 c2 c3 c4 hbw hlt hb02 hb3;obtain⟨c0,c1,c2,c3,c4,hbw,hlt⟩:=bx5 hb03
     go_wp2_with fail;refine(entryAt_any L v p _ (HV.out.below hbw)).mono ?_
     rintro e w4 ⟨rfl,hb4⟩;rw[HI.out];have hb04:=hb03.trans (hb4.mono hb03.size);clear c0 c1 c2 c3 c4 hbw hlt hb03 hb4;obtain⟨c0,c1,c2,c3,c4,hbw,hlt⟩:=bx5 hb04
     go_wp2_with fail;refine(isIn_any q p _ hq hp).mono ?_
     rintro e w5 ⟨rfl,hb5⟩;rw[HX.out];have hb05:=hb04.trans (hb5.mono hb04.size);clear c0 c1 c2 c3 c4 hbw hlt hb04 hb5;obtain⟨c0,c1,c2,c3,c4,hbw,hlt⟩:=bx5 hb05
     go_wp2_with fail;refine(entryAt_any L v q _ (HV.out.below hbw)).mono ?_
     rintro e w6 ⟨rfl,hb6⟩;rw[HI2.out];have hb06:=hb05.trans (hb6.mono hb05.size);clear c0 c1 c2 c3 c4 hbw hlt hb05 hb6;obtain⟨c0,c1,c2,c3,c4,hbw,hlt⟩:=bx5 hb06
     clear hb06;go_wp2;go_ret2;exact⟨rfl,hbw⟩
end Go.Proofs.YtagibnejodgeeaaGreatDoor
namespace Go.Proofs.YtagibnejodgeeaaGreatDoor
open Go.RowKit

/-- May these operations be passed over, one after the other, where operation g (it writes dg) has said no? -/
def passOk (md:Region.Mode) (ops:Array Oper) (g dg:Nat):Array Bool→List (Nat×Nat)→Bool
 |_,[]=>true
 |listed,(i,d)::r=>((ops[i]?).map (fun o=>(o.dst,o.guard))==some (some d,some (g,true))) && d !=dg && Region.free md ops listed i && (Region.ready md ops listed).contains i && passOk md ops g dg (listed.setIfInBounds i true) r
def passAll:Array Bool→List (Nat×Nat)→Array Bool
 |listed,[]=>listed
 |listed,(i,_)::r=>passAll (listed.setIfInBounds i true) r
def putAll:Act→List (Nat×Nat)→Act
 |a,[]=>a
 |a,(_,d)::r=>putAll (a.put (some d) undef) r
theorem wpAnyH_pass {P:Program} {md:Region.Mode} {ops:Array Oper} {Q:Exit→Act→World→Prop} {S:World→Prop} {g dg:Nat} (hs:Region.noSelect ops=true) (hdg:(ops[g]?).bind (·.dst)=some dg)
    (hQ: ∀c a (d:Nat) v w,Q (.panic c) (Act.put a (some d) v) w→Q (.panic c) a w) {w:World} (hS:S w) {fuel:Nat}:
    ∀(l:List (Nat×Nat)) (listed:Array Bool) (a:Act),passOk md ops g dg listed l=true→a.tmps[dg]?=some (.bool false)→wpAnyH P md ops Q S fuel (passAll listed l) (putAll a l) w→wpAnyH P md ops Q S (fuel+l.length) listed a w
 |[],_,_,_,_,h=>h
 |(i,d)::r,listed,a,hok,ht,h=>by
  rw[passOk]at hok;simp only[Bool.and_eq_true,beq_iff_eq,bne_iff_ne]at hok;obtain⟨⟨⟨⟨h1,h2⟩,h3⟩,h4⟩,h5⟩:=hok
  cases ho:ops[i]? with
  |none=>rw[ho]at h1;cases h1
  |some o=>
   rw[ho]at h1;simp only[Option.map_some,Option.some.injEq,Prod.mk.injEq]at h1
   have hw:Region.wanted o (yielded ops a.tmps)=false:=by
    have hy:yielded ops a.tmps g=some false:=by
     unfold yielded;rw[hdg];simp only[Option.bind_some,ht]
    unfold Region.wanted;rw[h1.2];simp[hy]
   have ht2:(a.put (some d) undef).tmps[dg]?=some (.bool false):=by
    unfold Act.put;simp only;rw[Array.getElem?_setIfInBounds_ne (by exact h2)];exact ht
   have ih:=wpAnyH_pass hs hdg hQ hS r (listed.setIfInBounds i true) (a.put (some d) undef) h5 ht2 h;refine wpAnyH_take (i:=i) (oi:=o) (v:=undef) ho hs h3 h4 (fun c a w hh=>hQ c a d undef w (by rw[h1.1]at hh;exact hh)) (Or.inr ⟨hw,rfl⟩) hS ?_
   rw[h1.1];exact ih
/-- What is to be shown later, once for several ways that come to it. -/
structure Later (p:Prop):Prop where
 out:p
theorem later {p q:Prop} (h:Later p→q) (hp:p):q:=h ⟨hp⟩
end Go.Proofs.YtagibnejodgeeaaGreatDoor
namespace Go.Proofs.YtagibnejodgeeaaGreatDoor
open Go.RowKit

namespace Pp
theorem own_at {w:World} {base:Nat} {v:Value} {L:List (List UInt8)} (h:w.ownsRow base 9 1 v L.length (vs L)) (h0:L≠[]):
    ∃g cap,v= .slice (some ⟨g,0,none⟩) L.length cap∧base≤g∧g<w.heap.size∧ ∀i (h:i<L.length),w.cell? ⟨g,i,none⟩=some (.string ⟨(L[i]).toArray⟩):=by
 have hcopy:=h;obtain⟨hl,h2⟩:=h
 rcases h2 with⟨_,hz⟩|⟨g,cap,cur,rfl,hg,hh,hn,hm,hz,htake⟩
 · exact absurd (List.length_eq_zero_iff.1 hz) h0
 · have hlt:g<w.heap.size:=by
    rcases Nat.lt_or_ge g w.heap.size with h|h
    · exact h
    · rw[Array.getElem?_eq_none h]at hh;cases hh
   refine⟨g,cap,rfl,hg,hlt,fun i h=>?_⟩
   rw[hcopy.cellAt i (by omega)];simp[vs,h]
theorem vs_app (a b:List (List UInt8)):vs a++vs b=vs (a++b):=by simp[vs]
theorem vs_cells {w:World} {g:Nat} {L:List (List UInt8)} (h: ∀i (h:i<L.length),w.cell? ⟨g,i,none⟩=some (.string ⟨(L[i]).toArray⟩)) (o:Nat): ∀j u,(vs (L.drop o))[j]?=some u→w.cell? ((⟨g,o,none⟩:Addr).add j)=some u:=by
 intro j u hu;simp only[vs,List.getElem?_map,List.getElem?_drop,Option.map_eq_some_iff]at hu;obtain⟨x,hx,rfl⟩:=hu
 obtain⟨hlt,rfl⟩:=List.getElem?_eq_some_iff.1 hx
 have e:=h (o+j) hlt;by_cases hj:j=0
 · subst hj;simpa[Addr.add]using e
 · simpa[Addr.add,hj]using e
theorem vs_one (L:List (List UInt8)): ∀u∈vs L,u.oneCell'=true:=by
 intro u hu;simp only[vs,List.mem_map]at hu;obtain⟨x,_,rfl⟩:=hu
 rfl
end Pp

theorem pathOf_n (L:List (List UInt8)) (n g o cap:Nat) (w:World) (he:n=L.length) (hL:(Pp.join L).length≤1000000000) (hn:L.length≤1000000000) (hcell: ∀i (h:i<L.length),w.cell? ⟨g,o+i,none⟩=some (.string ⟨(L[i]).toArray⟩)):
    Calls Tryz.prog 37 #[.slice (some ⟨g,o,none⟩) n cap] w fun e w'=>e= .returned (.string ⟨(Pp.join L).toArray⟩)∧w'=w:=by
 subst he;exact pathOf_any L g o cap w hL hn hcell
end Go.Proofs.YtagibnejodgeeaaGreatDoor
namespace Go.Proofs.YtagibnejodgeeaaGreatDoor.Pp

theorem filter_step {f:En→Bool} {L:List En} {m:Nat} (hm:m<L.length):(L.take (m+1)).filter f=if f L[m]=true then(L.take m).filter f++[L[m]]else(L.take m).filter f:=by
 rw[List.take_succ_eq_append_getElem hm,List.filter_append,List.filter_cons];split<;>simp
theorem insAll_snoc (ms:List En) (x:En) (K:List En):insAll (ms++[x]) K=ins x (insAll ms K):=by rw[insAll,List.foldl_append];rfl
/-- What was moved of the first entries. -/
def mvTo (L:List En) (c:Ch) (n:Int) (m:Nat):List En:=insAll (((L.take m).filter (wi c.p.data.toList)).map (mvd c n)) (keptL L c)
theorem mvTo_all (L:List En) (c:Ch) (n:Int):mvTo L c n L.length=insAll (mvL L c n) (keptL L c):=by rw[mvTo,List.take_length];rfl
theorem mvTo_out {L:List En} {c:Ch} {n:Int} {m:Nat} (hm:m<L.length) (hw:wi c.p.data.toList L[m]=false):mvTo L c n (m+1)=mvTo L c n m:=by
 rw[mvTo,filter_step hm,if_neg (by rw[hw];decide)];rfl
theorem mvTo_in {L:List En} (hL:Good L) {c:Ch} {n:Int} {m:Nat} (hd:(keptL L c++mvL L c n).Pairwise dif) (hm:m<L.length) (hw:wi c.p.data.toList L[m]=true):putR (mvd c n L[m]) (mvTo L c n m)=mvTo L c n (m+1):=by
 have e1:goL L c=(L.take m).filter (wi c.p.data.toList)++L[m]::(L.drop (m+1)).filter (wi c.p.data.toList):=by
  have:L=L.take m++L[m]::L.drop (m+1):=by rw[List.getElem_cons_drop];exact(List.take_append_drop m L).symm
  rw[goL];conv=>lhs;rw[this]
  rw[List.filter_append,List.filter_cons,if_pos hw]
 have e2:mvL L c n=((L.take m).filter (wi c.p.data.toList)).map (mvd c n)++mvd c n L[m]::((L.drop (m+1)).filter (wi c.p.data.toList)).map (mvd c n):=by
  rw[mvL,e1,List.map_append,List.map_cons]
 rw[e2,←List.append_assoc]at hd;have hd2:=List.pairwise_append.1 hd;have hs:(mvTo L c n m).Pairwise (fun x y=>lt x y=true):=insAll_sorted _ (List.Pairwise.filter _ hL.rise) hd2.1
 have ho:outE (mvd c n L[m]) (mvTo L c n m)=mvTo L c n m:=by
  rw[outE,List.filter_eq_self];intro y hy;have hy2:y∈keptL L c++((L.take m).filter (wi c.p.data.toList)).map (mvd c n):=(insAll_perm _ _).mem_iff.1 hy;have hne:=hd2.2.2 y hy2 (mvd c n L[m]) (by simp);rw[at_no hne];rfl
 rw[putR_eq hs,ho,mvTo,mvTo,filter_step hm,if_pos hw,List.map_append,List.map_cons,List.map_nil,insAll_snoc]
theorem mvTo_len (L:List En) (c:Ch) (n:Int) (m:Nat):(mvTo L c n m).length≤L.length:=by
 have h1:(mvTo L c n m).length=(keptL L c).length+((L.take m).filter (wi c.p.data.toList)).length:=by
  rw[mvTo,(insAll_perm _ _).length_eq,List.length_append,List.length_map]
 have h2:((L.take m).filter (wi c.p.data.toList)).length≤(L.filter (wi c.p.data.toList)).length:=((List.take_sublist m L).filter _).length_le
 have h3:(keptL L c).length+(L.filter (wi c.p.data.toList)).length=L.length:=by
  rw[keptL]
  have: ∀(M:List En),(M.filter (fun e=> !wi c.p.data.toList e)).length+(M.filter (wi c.p.data.toList)).length=M.length:=by
   intro M;induction M with
   |nil=>rfl
   |cons x r ih=>
    rw[List.filter_cons,List.filter_cons];cases hx:wi c.p.data.toList x<;>simp<;>omega
  exact this L
 omega
theorem big_hit {L:List En} {c:Ch} {m:Nat} (hm:m<L.length) (hw:wi c.p.data.toList L[m]=true) (hb:big (mvP c L[m])=true):(goL L c).any (fun e=>big (mvP c e))=true:=
 List.any_eq_true.2 ⟨L[m],List.mem_filter.2 ⟨List.getElem_mem hm,hw⟩,hb⟩
theorem big_none {L:List En} {c:Ch} (h: ∀j (h:j<L.length),wi c.p.data.toList L[j]=true→big (mvP c L[j])=false):(goL L c).any (fun e=>big (mvP c e))=false:=
 List.any_eq_false.2 fun e he=>by
  obtain⟨h1,h2⟩:=List.mem_filter.1 he
  obtain⟨j,hj,rfl⟩:=List.getElem_of_mem h1
  rw[h j hj h2];decide
end Go.Proofs.YtagibnejodgeeaaGreatDoor.Pp
namespace Go.Proofs.YtagibnejodgeeaaGreatDoor
open Go.RowKit

namespace Pp
/-- What is left to tell, where a change is right by its form and its place. -/
def rstE (L:List En) (c:Ch) (n:Int):Int:=if stl L c=true then 8 else chdE L c n
theorem ins_len (x:En) (K:List En):(ins x K).length=K.length+1:=by rw[(ins_perm x K).length_eq];rfl
theorem stl_no {L:List En} {k:Int} {p q t:ByteArray} {b:Int} (hb: -1≤b) (h: ∀j (h:j<L.length),0≤b→stW p.data.toList b L[j]=false):stl L ⟨k,p,q,t,b⟩=false:=by
 rw[stl];by_cases h1:b= -1
 · simp[h1]
 · rw[List.any_eq_false.2,Bool.and_false]
   intro x hx;obtain⟨j,hj,rfl⟩:=List.getElem_of_mem hx
   rw[h j hj (by omega)];decide
theorem stl_yes {L:List En} {k:Int} {p q t:ByteArray} {b:Int} {j:Nat} (hb:0≤b) (hj:j<L.length) (h1:isInB (L[j]).path.data.toList p.data.toList=true) (h2:b<(L[j]).ver):stl L ⟨k,p,q,t,b⟩=true:=by
 rw[stl];have e:(b== -1)=false:=by simpa using (by omega: ¬b= -1)
 have:L.any (stW p.data.toList b)=true:=List.any_eq_true.2 ⟨L[j],List.getElem_mem hj,by rw[stW,wi,h1];simp[h2]⟩
 simp only[e,this];rfl
theorem stW_in {p:List UInt8} {b:Int} {e:En} (h:isInB e.path.data.toList p=false):stW p b e=false:=by rw[stW,wi,h,Bool.and_false]
theorem stW_ver {p:List UInt8} {b:Int} {e:En} (h: ¬b<e.ver):stW p b e=false:=by rw[stW];simp[h]
theorem no_text {t:ByteArray} (h:t.data.toList=[]):t=⟨#[]⟩:=by
 cases t with
 |mk d=>cases d with
  |mk l=>simp at h;subst h;rfl
end Pp

end Go.Proofs.YtagibnejodgeeaaGreatDoor
