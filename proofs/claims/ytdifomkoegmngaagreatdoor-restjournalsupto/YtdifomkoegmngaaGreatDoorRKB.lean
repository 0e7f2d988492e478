/- What strings.Cut at a slash and path.Check answer, for every text. -/
import Derived.Test.YtdifomkoegmngaaGreatDoorRKA
import Derived.Deep.QuietTactic
import Derived.BigQuiet
import Derived.RegionTactic
import Derived.Lib.SmallJoins
set_option linter.unusedSimpArgs false
set_option linter.unusedVariables false
namespace Go.Proofs.YtdifomkoegmngaaGreatDoor
open Go.RowKit

set_option maxHeartbeats 400000 in
theorem scut_miss (s:ByteArray) (w:World) (hs:s.size≤maxLen) (h:47∉s.data.toList):
    Calls Tryz.prog 89 #[.string s,.string ⟨#[47]⟩] w fun e w'=>e= .returned (.tuple #[.string s,.string ⟨#[]⟩,.bool false])∧Below w.heap.size w w':=by
 unfold maxLen at hs;have HI:Hid (Lib.indexByte s.data.toList 47= -1):=Pp.idx_none _ _ h;clear h;go_enter Tryz.func89,Tryz.ntmps89
 go_wp2_with (go_at_call 110;refine(Tryz.stringslite_Index_one _ _ _).mono ?_;rintro e w' ⟨rfl,rfl⟩;rw[HI.out])
 go_ret3;exact⟨rfl,Below.refl _ _⟩
set_option maxHeartbeats 400000 in
theorem scut_hit (s:ByteArray) (a b:List UInt8) (w:World) (hs:s.size≤maxLen) (h:47∉a) (hab:s.data.toList=a++47::b):
    Calls Tryz.prog 89 #[.string s,.string ⟨#[47]⟩] w fun e w'=>e= .returned (.tuple #[.string ⟨a.toArray⟩,.string ⟨b.toArray⟩,.bool true])∧Below w.heap.size w w':=by
 unfold maxLen at hs;have HI:=hid (show Lib.indexByte s.data.toList 47=a.length from by rw[hab];exact Pp.idx_of a b 47 h);have hz:s.size=a.length+b.length+1:=by rw[Lib.size_eq,hab];simp;try omega
 have l1:(a.length:Int)≤s.size:=by omega
 have l2:(a.length:Int)+1≤s.size:=by omega
 have HA:=hid (show s.extract 0 a.length=⟨a.toArray⟩from Pp.bytes_eq (by rw[Lib.extract_data,hab];simp));have HB:=hid (show s.extract (a.length+1) s.size=⟨b.toArray⟩from Pp.bytes_eq (by rw[Lib.extract_data,hab,hz];simp));clear h hab hz;go_enter Tryz.func89,Tryz.ntmps89
 go_wp2_with (go_at_call 110;refine(Tryz.stringslite_Index_one _ _ _).mono ?_;rintro e w' ⟨rfl,rfl⟩;rw[HI.out])
 go_region
 go_wp2;go_ret3;exact⟨by rw[HA.out,HB.out];rfl,(Below.refl _ _).drew⟩
set_option maxHeartbeats 400000 in
theorem cut_miss (s:ByteArray) (w:World) (hs:s.size≤maxLen) (h:47∉s.data.toList):
    Calls Tryz.prog 62 #[.string s,.string ⟨#[47]⟩] w fun e w'=>e= .returned (.tuple #[.string s,.string ⟨#[]⟩,.bool false])∧Below w.heap.size w w':=by
 go_enter Tryz.func62,Tryz.ntmps62
 go_wp2_with fail;refine(scut_miss s _ hs h).mono ?_
 rintro e w' ⟨rfl,hb⟩;clear hs h;go_wp2;go_ret3;exact⟨rfl,hb⟩
set_option maxHeartbeats 400000 in
theorem cut_hit (s:ByteArray) (a b:List UInt8) (w:World) (hs:s.size≤maxLen) (h:47∉a) (hab:s.data.toList=a++47::b):
    Calls Tryz.prog 62 #[.string s,.string ⟨#[47]⟩] w fun e w'=>e= .returned (.tuple #[.string ⟨a.toArray⟩,.string ⟨b.toArray⟩,.bool true])∧Below w.heap.size w w':=by
 have HAB:Hid (s.data.toList=a++47::b):=hab;clear hab;go_enter Tryz.func62,Tryz.ntmps62
 go_wp2_with fail;refine(scut_hit s a b _ hs h HAB.out).mono ?_
 rintro e w' ⟨rfl,hb⟩;clear hs h;go_wp2;go_ret3;exact⟨rfl,hb⟩
def msr (r m:Value):Nat:=match m,r with
 | .bool true,.string s=>s.size+1
 |_,_=>0
set_option maxHeartbeats 800000 in
theorem check_any (s:ByteArray) (w:World) (hs:s.size≤1000000000000000):
    Calls Tryz.prog 103 #[.string s] w fun e w'=>e= .returned (.int .i64 (Pp.chk s.data.toList))∧Below w.heap.size w w':=by
 go_enter Tryz.func103,Tryz.ntmps103
 go_wp2_with fail
 go_loopw [3, 4, 5] (fun d r m wr => ∃ (dn : List (List UInt8)) (t : ByteArray) (b : Bool), d = .int .i64 dn.length ∧ r = .string t ∧ m = .bool b ∧ dn.all Pp.nameB = true ∧ t.size ≤ s.size ∧ dn.length ≤ s.size + 1 ∧
     (b=true→Pp.nm s.data.toList=dn++Pp.nm t.data.toList)∧(b=false→Pp.nm s.data.toList=dn)∧Below w.heap.size w wr) (fun _ r m _=>msr r m)
 case atStart=>exact⟨[],s,true,rfl,rfl,rfl,rfl,Nat.le_refl _,by simp,fun _=>rfl,(fun h=>by cases h),Below.refl _ _⟩
 case round=>
  obtain⟨dn,t,b,rfl,rfl,rfl,hall,hts,hdn,h1,h2,hbel⟩:=hrel
  have HA:Hid (dn.all Pp.nameB=true):=hall;clear hall;cases b with
  |false=>
   have HN:Hid (Pp.nm s.data.toList=dn):=h2 rfl;clear h1 h2;by_cases hd:6<(dn.length:Int)
   · go_wp2_with fail
     go_ret;exact⟨Pp.ret_int (Pp.chk_two s HN.out HA.out (Or.inl hd)),hbel⟩
   by_cases hz:80<(s.size:Int)
   · go_wp2_with fail
     go_ret;exact⟨Pp.ret_int (Pp.chk_two s HN.out HA.out (Or.inr hz)),hbel⟩
   go_wp2_with fail;go_ret;exact⟨Pp.ret_int (Pp.chk_zero s HN.out HA.out (by omega) (by omega)),hbel⟩
  |true=>
   have HN:Hid (Pp.nm s.data.toList=dn++Pp.nm t.data.toList):=h1 rfl;clear h1 h2;have hlen:=Pp.len_add s t HN.out;by_cases h47:47∈t.data.toList
   · obtain⟨a,b,ha,hab⟩:=Pp.split_at _ _ h47
     have HAB:Hid (t.data.toList=a++47::b):=hab;have hz:t.size=a.length+b.length+1:=by rw[Lib.size_eq,hab];simp;try omega
     have HN2:=hid (show Pp.nm s.data.toList=dn++a::Pp.nm b from by rw[HN.out,hab,Pp.nm_cut a b ha]);clear h47 hab;cases hn:Pp.nameB a with
     |true=>
      have HM:Hid (Pp.nameB a=true):=hn;clear hn;go_wp2_with fail;refine(cut_hit t a b _ (by unfold maxLen;omega) ha HAB.out).mono ?_
      rintro e w1 ⟨rfl,hb1⟩;go_wp2_with fail;refine(isName_any ⟨a.toArray⟩ _ (by unfold maxLen;rw[Pp.sz];omega)).mono ?_
      rintro e w2 ⟨rfl,rfl⟩;simp only[HM.out];go_wp2_with fail;go_roundw
      case rel=>exact⟨dn++[a],⟨b.toArray⟩,true,by simp,rfl,rfl,Pp.all_add HA.out HM.out,by rw[Pp.sz];omega,by simp;omega,(fun _=>by rw[HN2.out];simp),(fun h=>by cases h),hbel.trans (hb1.mono hbel.size)⟩
      case measure=>simp only[msr,Pp.sz];omega
     |false=>
      have HM:Hid (Pp.nameB a=false):=hn;clear hn;go_wp2_with fail;refine(cut_hit t a b _ (by unfold maxLen;omega) ha HAB.out).mono ?_
      rintro e w1 ⟨rfl,hb1⟩;go_wp2_with fail;refine(isName_any ⟨a.toArray⟩ _ (by unfold maxLen;rw[Pp.sz];omega)).mono ?_
      rintro e w2 ⟨rfl,rfl⟩;simp only[HM.out];go_wp2_with fail;go_ret;exact⟨Pp.ret_int (Pp.chk_one s HN2.out HM.out),hbel.trans (hb1.mono hbel.size)⟩
   · have HN2:=hid (show Pp.nm s.data.toList=dn++[t.data.toList]from by rw[HN.out,Pp.nm_none _ h47])
     cases hn:Pp.nameB t.data.toList with
     |true=>
      have HM:Hid (Pp.nameB t.data.toList=true):=hn;clear hn;go_wp2_with fail;refine(cut_miss t _ (by unfold maxLen;omega) h47).mono ?_
      rintro e w1 ⟨rfl,hb1⟩;go_wp2_with fail;refine(isName_any t _ (by unfold maxLen;omega)).mono ?_
      rintro e w2 ⟨rfl,rfl⟩;simp only[HM.out];go_wp2_with fail;go_roundw
      case rel=>exact⟨dn++[t.data.toList],⟨#[]⟩,false,by simp,rfl,rfl,Pp.all_add HA.out HM.out,by rw[Lib.size_eq];simp,by simp;omega,(fun h=>by cases h),(fun _=>HN2.out),hbel.trans (hb1.mono hbel.size)⟩
      case measure=>simp only[msr];omega
     |false=>
      have HM:Hid (Pp.nameB t.data.toList=false):=hn;clear hn;go_wp2_with fail;refine(cut_miss t _ (by unfold maxLen;omega) h47).mono ?_
      rintro e w1 ⟨rfl,hb1⟩;go_wp2_with fail;refine(isName_any t _ (by unfold maxLen;omega)).mono ?_
      rintro e w2 ⟨rfl,rfl⟩;simp only[HM.out];go_wp2_with fail;go_ret;exact⟨Pp.ret_int (Pp.chk_one s HN2.out HM.out),hbel.trans (hb1.mono hbel.size)⟩
set_option maxHeartbeats 400000 in
theorem checkAll_any (ls:List ByteArray) (b cap:Nat) (w:World) (hb:b<w.heap.size) (hn:ls.length≤1000) (hs: ∀i (h:i<ls.length),(ls[i]).size≤1000000000000000)
    (hc: ∀i (h:i<ls.length),w.cell? ⟨b,i,none⟩=some (.string ls[i])):
    Calls Tryz.prog 119 #[.slice (some ⟨b,0,none⟩) ls.length cap] w fun e w'=>e= .returned (.int .i64 (Pp.chks (ls.map fun s=>s.data.toList)))∧Below w.heap.size w w':=by
 have HS:Hid (∀i (h:i<ls.length),(ls[i]).size≤1000000000000000):=hs;have HC:Hid (∀i (h:i<ls.length),w.cell? ⟨b,i,none⟩=some (.string ls[i])):=hc;clear hs hc;go_enter Tryz.func119,Tryz.ntmps119
 go_wp2_with fail;go_loopw [8] (fun i wr=> ∃k:Nat,k≤ls.length∧i= .int .i64 k∧Pp.chks (ls.map fun s=>s.data.toList)=Pp.chks ((ls.drop k).map fun s=>s.data.toList)∧Below w.heap.size w wr) (fun i _=>ls.length-(intOf i).toNat)
 case atStart=>exact⟨0,Nat.zero_le _,rfl,rfl,Below.refl _ _⟩
 case round=>
  obtain⟨k,hk,rfl,heq,hbel⟩:=hrel
  have HE:Hid (Pp.chks (ls.map fun s=>s.data.toList)=Pp.chks ((ls.drop k).map fun s=>s.data.toList)):=heq;clear heq;by_cases hlt:k<ls.length
  · have hcell:wr.cell? ⟨b,k,none⟩=some (.string ls[k]):=(hbel.cell (p:=⟨b,k,none⟩) hb).trans (HC.out k hlt)
    have HD:Hid (ls.drop k=ls[k]::ls.drop (k+1)):=List.drop_eq_getElem_cons hlt;cases hz:(Pp.chk (ls[k]).data.toList==0)with
    |true=>
     have HZ:=hid (show Pp.chk (ls[k]).data.toList=0 from by simpa using hz);clear hz;go_wp2_with fail;refine(check_any _ _ (HS.out k hlt)).mono ?_
     rintro e w1 ⟨rfl,hb1⟩;rw[HZ.out];go_wp2_with fail;go_roundw
     case rel=>exact⟨k+1,by omega,by simp,by rw[HE.out,HD.out,List.map_cons,Pp.chks,if_pos HZ.out],hbel.trans (hb1.mono hbel.size)⟩
     case measure=>simp[intOf];omega
    |false=>
     have HZ:=hid (show¬Pp.chk (ls[k]).data.toList=0 from by simpa using hz);go_wp2_with fail;refine(check_any _ _ (HS.out k hlt)).mono ?_
     rintro e w1 ⟨rfl,hb1⟩;go_wp2_with fail;go_ret;exact⟨Pp.ret_int (by rw[HE.out,HD.out,List.map_cons,Pp.chks,if_neg HZ.out]),hbel.trans (hb1.mono hbel.size)⟩
  · go_wp2_with fail
    go_ret;exact⟨Pp.ret_int (by rw[HE.out,List.drop_of_length_le (by omega)];rfl),hbel⟩
theorem below_trans {a b c:World} (h1:Below a.heap.size a b) (h2:Below b.heap.size b c):Below a.heap.size a c:=h1.trans (h2.mono h1.size)
theorem lastIdx_any (s:ByteArray) (c:UInt8) (w:World) (hs:s.size≤1000000000000000):
    Calls Tryz.prog 139 #[.string s,.string ⟨#[c]⟩] w fun e w'=>e= .returned (.int .i64 (Lib.lastIndexByte s (c.toNat:Int)))∧w'=w:=
 Tryz.strings_LastIndex_one s ⟨#[c]⟩ rfl (by omega) w
set_option maxHeartbeats 400000 in
theorem split_any (s:ByteArray) (w:World) (hs:s.size≤1000000000000000):
    Calls Tryz.prog 120 #[.string s] w fun e w'=>e= .returned (.tuple #[.string ⟨(Pp.par s.data.toList).toArray⟩,.string ⟨(Pp.lst s.data.toList).toArray⟩])∧Below w.heap.size w w':=by
 rcases Pp.last_cases s 47 with⟨e,hn⟩|⟨a,b,e,hn,hl⟩
 · have HE:Hid (Lib.lastIndexByte s ((47:UInt8).toNat:Int)= -1):=e
   have HP:=hid (show s.extract 0 0=⟨(Pp.par s.data.toList).toArray⟩from Pp.bytes_eq (by rw[Lib.extract_data,Pp.par_none hn];simp));have HL:=hid (show⟨(Pp.lst s.data.toList).toArray⟩=s from by rw[Pp.lst_none hn]);clear e hn;go_enter Tryz.func120,Tryz.ntmps120
   go_wp2_with fail;refine(lastIdx_any s 47 _ hs).mono ?_
   rintro e w' ⟨rfl,rfl⟩;rw[HE.out];go_wp2_with fail;go_region
   go_wp2;go_ret2;exact⟨by rw[show(max (-1:Int) 0).toNat=0 from rfl,HP.out,HL.out];rfl,(Below.refl _ _).drew⟩
 · have HE:Hid (Lib.lastIndexByte s ((47:UInt8).toNat:Int)=a.length):=e
   have hz:s.size=a.length+b.length+1:=by rw[Lib.size_eq,hl];simp;try omega
   have l1:(a.length:Int)≤s.size:=by omega
   have l2:(a.length:Int)+1≤s.size:=by omega
   have HP:=hid (show s.extract 0 a.length=⟨(Pp.par s.data.toList).toArray⟩from Pp.bytes_eq (by rw[Lib.extract_data,hl,Pp.par_cut a hn];simp));have HL:=hid (show s.extract (a.length+1) s.size=⟨(Pp.lst s.data.toList).toArray⟩from Pp.bytes_eq (by rw[Lib.extract_data,hl,Pp.lst_cut a hn,hz];simp));clear e hn hl hz;go_enter Tryz.func120,Tryz.ntmps120
   go_wp2_with fail;refine(lastIdx_any s 47 _ hs).mono ?_
   rintro e w' ⟨rfl,rfl⟩;rw[HE.out];go_wp2_with fail;go_region
   go_wp2;go_ret2;exact⟨by rw[HP.out,HL.out];rfl,(Below.refl _ _).drew⟩
theorem checkAll1 (s:ByteArray) (ty:TypeId) (w:World) (hs:s.size≤1000000000000000):
    Calls Tryz.prog 119 #[.slice (some ⟨w.heap.size,0,none⟩) 1 1] (w.alloc (.cells #[.string s] ty)) fun e w'=>e= .returned (.int .i64 (Pp.chk s.data.toList))∧Below w.heap.size w w':=by
 refine(checkAll_any [s] w.heap.size 1 _ (by simp) (by simp) (fun i h=>?_) (fun i h=>?_)).mono ?_
 · obtain rfl:i=0:=by simpa using h
   exact hs
 · obtain rfl:i=0:=by simpa using h
   simp
 · rintro e w' ⟨rfl,hb⟩
   refine⟨Pp.ret_int ?_,((Below.refl _ _).alloc (Nat.le_refl _) _).trans (hb.mono (by simp))⟩
   simp only[List.map,Pp.chks];split
   · rename_i h;exact h.symm
   · rfl
set_option maxHeartbeats 400000 in
theorem parent_any (s:ByteArray) (w:World) (hs:s.size≤1000000000000000):
    Calls Tryz.prog 105 #[.string s] w fun e w'=>e= .returned (.tuple #[.string ⟨(Pp.ifc (Pp.chk s.data.toList) (Pp.par s.data.toList)).toArray⟩,.int .i64 (Pp.chk s.data.toList)])∧Below w.heap.size w w':=by
 by_cases hz:Pp.chk s.data.toList=0
 · have HZ:Hid (Pp.chk s.data.toList=0):=hz
   have HR:Hid (Pp.ifc 0 (Pp.par s.data.toList)=Pp.par s.data.toList):=Pp.ifc_yes rfl _;clear hz;go_enter Tryz.func105,Tryz.ntmps105
   go_wp2_with fail;refine(checkAll1 s _ _ hs).mono ?_
   rintro e w1 ⟨rfl,hb1⟩;rw[HZ.out];go_wp2_with fail;refine(split_any s _ hs).mono ?_
   rintro e w2 ⟨rfl,hb2⟩;go_wp2;go_ret2;exact⟨by rw[HZ.out,HR.out];rfl,hb1.trans (hb2.mono hb1.size)⟩
 · have hz2:(Pp.chk s.data.toList==0)=false:=by simpa using hz
   have HR:Hid (Pp.ifc (Pp.chk s.data.toList) (Pp.par s.data.toList)=[]):=Pp.ifc_no hz _;clear hz;go_enter Tryz.func105,Tryz.ntmps105
   go_wp2_with fail;refine(checkAll1 s _ _ hs).mono ?_
   rintro e w1 ⟨rfl,hb1⟩;go_wp2;go_ret2;exact⟨by rw[HR.out];rfl,hb1⟩
namespace Pp
theorem own_below {w w':World} {base:Nat} {e:TypeId} {size:Nat} {v:Value} {n:Nat} {xs:List Value} (h:w.ownsRow base e size v n xs) (hb:Below w.heap.size w w'):w'.ownsRow base e size v n xs:=by
 obtain⟨h1,h2⟩:=h
 refine⟨h1,?_⟩
 rcases h2 with h2|⟨g,cap,cur,hv,hg,hh,r⟩
 · exact .inl h2
 · refine .inr ⟨g,cap,cur,hv,hg,?_,r⟩
   have hlt:g<w.heap.size:=by
    rcases Nat.lt_or_ge g w.heap.size with h|h
    · exact h
    · rw[Array.getElem?_eq_none h]at hh;cases hh
   rw[hb.block g hlt];exact hh
theorem empty_iff (s:ByteArray):s.toList.isEmpty=true↔s.data.toList=[]:=by rw[Lib.toList_data,List.isEmpty_iff]
theorem not_empty {s:ByteArray} (h:s.toList.isEmpty=false): ¬s.data.toList=[]:=by
 intro e;rw[←empty_iff,h]at e;cases e
end Pp


namespace Pp
end Pp
end Go.Proofs.YtdifomkoegmngaaGreatDoor
namespace Go.Proofs.YtdifomkoegmngaaGreatDoor
open Go.RowKit

set_option maxHeartbeats 400000 in
theorem checkVersion_any (n:Int) (w:World):
    Calls Tryz.prog 104 #[.int .i64 n] w fun e w'=>e= .returned (.int .i64 (Pp.verE n))∧w'=w:=by
 by_cases h1:n<1
 · have H:=hid (show 3=Pp.verE n from by rw[Pp.verE,if_pos (Or.inl h1)])
   go_enter Tryz.func104,Tryz.ntmps104
   go_wp2;go_ret;exact⟨Pp.ret_int H.out,rfl⟩
 by_cases h2:1000000<n
 · have H:=hid (show 3=Pp.verE n from by rw[Pp.verE,if_pos (Or.inr h2)])
   go_enter Tryz.func104,Tryz.ntmps104
   go_wp2;go_ret;exact⟨Pp.ret_int H.out,rfl⟩
 · have H:=hid (show 0=Pp.verE n from by rw[Pp.verE,if_neg (by omega)])
   go_enter Tryz.func104,Tryz.ntmps104
   go_wp2;go_ret;exact⟨Pp.ret_int H.out,rfl⟩
set_option maxHeartbeats 800000 in
theorem checkEntry_any (p:ByteArray) (f:Bool) (t:ByteArray) (n:Int) (w:World) (hp:p.size≤1000000000000000) (ht:t.size≤1000000000000000):
    Calls Tryz.prog 85 #[.agg #[.string p,.bool f,.string t,.int .i64 n]] w fun e w'=>e= .returned (.int .i64 (Pp.entE ⟨p,f,t,n⟩))∧Below w.heap.size w w':=by
 by_cases hz:Pp.chk p.data.toList=0
 · have HZ:Hid (Pp.chk p.data.toList=0):=hz
   have hE:Pp.entE ⟨p,f,t,n⟩=if f=true∧ ¬t.data.toList=[]then 1 else if 300<t.size then 2 else Pp.verE n:=by rw[Pp.entE,if_pos hz]
   clear hz;cases f with
   |true=>
    cases hc:t.toList.isEmpty with
    |false=>
     have HE:=hid (show 1=Pp.entE ⟨p,true,t,n⟩from by rw[hE,if_pos ⟨rfl,Pp.not_empty hc⟩]);clear hE;go_enter Tryz.func85,Tryz.ntmps85
     go_wp2_with fail;refine(check_any p _ hp).mono ?_
     rintro e w1 ⟨rfl,hb1⟩;obtain⟨c0,c1,c2,c3,hb,hlt⟩:=box4 hb1
     clear hb1;rw[HZ.out];go_wp2_with fail;go_ret;exact⟨Pp.ret_int HE.out,hb⟩
    |true=>
     have ht0:t.size=0:=by rw[Lib.size_eq,(Pp.empty_iff t).1 hc];rfl
     have HE:=hid (show Pp.entE ⟨p,true,t,n⟩=Pp.verE n from by rw[hE,if_neg (fun h=>h.2 ((Pp.empty_iff t).1 hc)),if_neg (by omega)]);clear hE;have ht1:(t.size:Int)≤300:=by omega
     clear ht0;go_enter Tryz.func85,Tryz.ntmps85
     go_wp2_with fail;refine(check_any p _ hp).mono ?_
     rintro e w1 ⟨rfl,hb1⟩;obtain⟨c0,c1,c2,c3,hb,hlt⟩:=box4 hb1
     clear hb1;rw[HZ.out];go_wp2_with fail;refine(checkVersion_any n _).mono ?_
     rintro e w2 ⟨rfl,rfl⟩;go_wp2_with fail;go_ret;exact⟨Pp.ret_int HE.out.symm,hb⟩
   |false=>
    by_cases hl:300<(t.size:Int)
    · have HE:=hid (show 2=Pp.entE ⟨p,false,t,n⟩from by rw[hE,if_neg (fun h=>by cases h.1),if_pos (by omega)])
      clear hE;go_enter Tryz.func85,Tryz.ntmps85
      go_wp2_with fail;refine(check_any p _ hp).mono ?_
      rintro e w1 ⟨rfl,hb1⟩;obtain⟨c0,c1,c2,c3,hb,hlt⟩:=box4 hb1
      clear hb1;rw[HZ.out];go_wp2_with fail;go_ret;exact⟨Pp.ret_int HE.out,hb⟩
    · have HE:=hid (show Pp.entE ⟨p,false,t,n⟩=Pp.verE n from by rw[hE,if_neg (fun h=>by cases h.1),if_neg (by omega)])
      clear hE;go_enter Tryz.func85,Tryz.ntmps85
      go_wp2_with fail;refine(check_any p _ hp).mono ?_
      rintro e w1 ⟨rfl,hb1⟩;obtain⟨c0,c1,c2,c3,hb,hlt⟩:=box4 hb1
      clear hb1;rw[HZ.out];go_wp2_with fail;refine(checkVersion_any n _).mono ?_
      rintro e w2 ⟨rfl,rfl⟩;go_wp2_with fail;go_ret;exact⟨Pp.ret_int HE.out.symm,hb⟩
 · have HE:=hid (show Pp.chk p.data.toList=Pp.entE ⟨p,f,t,n⟩from by rw[Pp.entE,if_neg hz])
   have hz2:(Pp.chk p.data.toList==0)=false:=by simpa using hz
   go_enter Tryz.func85,Tryz.ntmps85
   go_wp2_with fail;refine(check_any p _ hp).mono ?_
   rintro e w1 ⟨rfl,hb1⟩;obtain⟨c0,c1,c2,c3,hb,hlt⟩:=box4 hb1
   clear hb1;go_wp2_with fail;go_ret;exact⟨Pp.ret_int HE.out,hb⟩
namespace Pp
theorem find_hit {L:List En} {pr:En→Bool} {k:Nat} (hlt:k<L.length) (h: ∀j (h:j<L.length),j<k→pr L[j]=false) (hp:pr L[k]=true):L.find? pr=some L[k]:=by
 rw[List.find?_eq_some_iff_getElem];exact⟨hp,k,hlt,rfl,fun j hj=>by simpa using h j (by omega) hj⟩
theorem find_miss {L:List En} {pr:En→Bool} (h: ∀j (h:j<L.length),pr L[j]=false):L.find? pr=none:=by
 rw[List.find?_eq_none];intro x hx;obtain⟨j,hj,rfl⟩:=List.getElem_of_mem hx
 simpa using h j hj
end Pp

/-- A predicate on entries, as a function value. -/
def Tells (w:World) (g:Nat) (cb:Array Value) (pr:En→Bool):Prop:=
 (∀args w,(callFunc g args).run Tryz.prog w= .ok (.enter g args) w)∧
 ∀(W:World),Below w.heap.size w W→ ∀e:En,e.path.size≤1000000000000000→Calls Tryz.prog g (#[.agg #[.string e.path,.bool e.folder,.string e.text,.int .i64 e.ver]]++cb) W fun r W'=>r= .returned (.bool (pr e))∧Below W.heap.size W W'
theorem Tells.below {w w':World} {g:Nat} {cb:Array Value} {pr:En→Bool} (h:Tells w g cb pr) (hw:Below w.heap.size w w'):Tells w' g cb pr:=
 ⟨h.1,fun W hW=>h.2 W (hw.trans (hW.mono hw.size))⟩
set_option maxHeartbeats 400000 in
theorem at1_any (p:ByteArray) (f:Bool) (t:ByteArray) (n:Int) (q:ByteArray) (b:Nat) (w:World) (hb:b<w.heap.size) (hc:w.cell? ⟨b,0,none⟩=some (.string q)):
    Calls Tryz.prog 140 #[.agg #[.string p,.bool f,.string t,.int .i64 n],.pointer (some ⟨b,0,none⟩)] w fun e w'=>e= .returned (.bool (Pp.atB q.data.toList ⟨p,f,t,n⟩))∧Below w.heap.size w w':=by
 have hc2: ∀o,(w.alloc o).cell? ⟨b,0,none⟩=some (.string q):=fun o=>(((Below.refl w.heap.size w).alloc (Nat.le_refl _) o).cell (p:=⟨b,0,none⟩) hb).trans hc
 go_enter Tryz.func140,Tryz.ntmps140
 go_wp2;go_ret;exact⟨Pp.ret_bool (by rw[Pp.atB,Lib.toList_data,Lib.toList_data]),(Below.refl _ _).alloc (Nat.le_refl _) _⟩
set_option maxHeartbeats 400000 in
theorem at_any (q:ByteArray) (w:World):
    Calls Tryz.prog 122 #[.string q] w fun e w'=>e= .returned (.func (.func 140) #[] #[.pointer (some ⟨w.heap.size,0,none⟩)])∧Tells w' 140 #[.pointer (some ⟨w.heap.size,0,none⟩)] (Pp.atB q.data.toList)∧Below w.heap.size w w':=by
 go_enter Tryz.func122,Tryz.ntmps122
 go_wp2;go_ret;refine⟨rfl,⟨enters_of Tryz.func140 (by kernel_rfl) rfl,fun W hW e he=>?_⟩,(Below.refl _ _).alloc (Nat.le_refl _) _⟩
 exact at1_any e.path e.folder e.text e.ver q w.heap.size W (Nat.lt_of_lt_of_le (by simp) hW.size) ((hW.cell (p:=⟨w.heap.size,0,none⟩) (by simp)).trans (by simp))
def fnd (r:Option En):Value:=match r with
 |some x=> .tuple #[.agg #[.string x.path,.bool x.folder,.string x.text,.int .i64 x.ver],.bool true]
 |none=> .tuple #[.agg #[.string ⟨#[]⟩,.bool false,.string ⟨#[]⟩,.int .i64 0],.bool false]
set_option maxHeartbeats 800000 in
theorem first_any (L:List En) (v:Value) (g:Nat) (cb:Array Value) (pr:En→Bool) (w:World) (hv:Lies w v L) (hg:Tells w g cb pr) (hs: ∀e∈L,e.path.size≤1000000000000000):
    Calls Tryz.prog 121 #[v,.func (.func g) #[] cb] w fun e w'=>e= .returned (fnd (L.find? pr))∧Below w.heap.size w w':=by
 obtain⟨a,cap,rfl,hcap,hcap2,hL⟩:=hv
 have HL:Hid (∀i (h:i<L.length),∃b o,a=some ⟨b,o,none⟩∧b<w.heap.size∧EnAt w b (o+i*4) L[i]):=hL;have HG:Hid (Tells w g cb pr):=hg;have HS:Hid (∀e∈L,e.path.size≤1000000000000000):=hs;have eg:=hg.1;clear hL hg hs;go_enter Tryz.func121,Tryz.ntmps121
 go_wp2_with fail;go_loopw [10] (fun i wr=> ∃k:Nat,k≤L.length∧i= .int .i64 k∧Hid (∀j (h:j<L.length),j<k→pr L[j]=false)∧Below (w.alloc (.cells #[.string ⟨#[]⟩,.bool false,.string ⟨#[]⟩,.int .i64 0] 72)).heap.size (w.alloc (.cells #[.string ⟨#[]⟩,.bool false,.string ⟨#[]⟩,.int .i64 0] 72)) wr) (fun i _=>L.length-(intOf i).toNat)
 case atStart=>exact⟨0,Nat.zero_le _,rfl,(fun j _ h=>absurd h (Nat.not_lt_zero _): ∀j (h:j<L.length),j<0→pr L[j]=false),Below.refl _ _⟩
 case round=>
  obtain⟨k,hk,rfl,HP,hbel⟩:=hrel
  obtain⟨r0,r1,r2,r3,hbw,hlt0⟩:=box4 hbel
  by_cases hlt:k<L.length
  · obtain⟨b,o,rfl,hb,he⟩:=HL.out k hlt
    obtain⟨c0,c1,c2,c3⟩:=he.below hb hbw
    have hsz:=HS.out L[k] (List.getElem_mem hlt);cases hp:pr L[k]with
    |true=>
     have HF:=hid (show L.find? pr=some L[k]from Pp.find_hit hlt HP.out hp);go_wp2_with fail;refine(HG.out.2 _ (hbw.alloc (Nat.le_of_lt hlt0) _) L[k] hsz).mono ?_
     rintro e w1 ⟨rfl,hb1⟩;obtain⟨d0,d1,d2,d3,hb1w,hlt1⟩:=box4 hb1
     have hbel1:=hbel.trans (hb1w.mono hbel.size);obtain⟨s0,s1,s2,s3,hbw1,hlt2⟩:=box4 hbel1
     have f0:=box4f hbel1 0;have f1:=box4f hbel1 1;have f2:=box4f hbel1 2;have f3:=box4f hbel1 3;rw[hp];clear hb1 c0 c1 c2 c3 r0 r1 r2 r3 hbel hbel1 eg;go_wp2_with fail;refine bodyPost_ret (v:= .tuple #[.agg #[.string L[k].path,.bool L[k].folder,.string L[k].text,.int .i64 L[k].ver],.bool true]) (by simp[results,Tryz.results121,go_sem,s0,s1,s2,s3]) rfl ⟨by rw[HF.out];rfl,?_⟩
     exact(((hbw1.setCell (Nat.le_refl _) _).setCell (Nat.le_refl _) _).setCell (Nat.le_refl _) _).setCell (Nat.le_refl _) _
    |false=>
     go_wp2_with fail;refine(HG.out.2 _ (hbw.alloc (Nat.le_of_lt hlt0) _) L[k] hsz).mono ?_
     rintro e w1 ⟨rfl,hb1⟩;obtain⟨d0,d1,d2,d3,hb1w,hlt1⟩:=box4 hb1
     have hbel1:=hbel.trans (hb1w.mono hbel.size);rw[hp];clear hb1 c0 c1 c2 c3 r0 r1 r2 r3 hbel eg;go_wp2_with fail;go_roundw
     case rel=>exact⟨k+1,by omega,by simp,(fun j h1 h2=>by
      by_cases e:j=k
      · subst e;exact hp
      · exact HP.out j h1 (by omega): ∀j (h:j<L.length),j<k+1→pr L[j]=false),hbel1⟩
     case measure=>simp[intOf];omega
  · have f0:=box4f hbel 0
    have f1:=box4f hbel 1;have f2:=box4f hbel 2;have f3:=box4f hbel 3;have HF:=hid (show L.find? pr=none from Pp.find_miss (fun j h=>HP.out j h (by omega)));go_wp2_with fail;refine bodyPost_ret (v:= .tuple #[.agg #[.string ⟨#[]⟩,.bool false,.string ⟨#[]⟩,.int .i64 0],.bool false]) (by simp[results,Tryz.results121,go_sem,r0,r1,r2,r3]) rfl ⟨by rw[HF.out];rfl,?_⟩
    exact(((hbw.setCell (Nat.le_refl _) _).setCell (Nat.le_refl _) _).setCell (Nat.le_refl _) _).setCell (Nat.le_refl _) _
end Go.Proofs.YtdifomkoegmngaaGreatDoor
namespace Go.Proofs.YtdifomkoegmngaaGreatDoor
open Go.RowKit

set_option maxHeartbeats 800000 in
theorem checkFolder_any (L:List En) (v:Value) (q:ByteArray) (w:World) (hv:Lies w v L) (hs: ∀e∈L,e.path.size≤1000000000000000):
    Calls Tryz.prog 106 #[v,.string q] w fun e w'=>e= .returned (.int .i64 (Pp.foldE L q.data.toList))∧Below w.heap.size w w':=by
 have HV:Hid (Lies w v L):=hv;have HS:Hid (∀e∈L,e.path.size≤1000000000000000):=hs;clear hv hs;cases hc:q.toList.isEmpty with
 |true=>
  have HE:=hid (show 0=Pp.foldE L q.data.toList from by rw[Pp.foldE,if_pos ((Pp.empty_iff q).1 hc)]);go_enter Tryz.func106,Tryz.ntmps106
  go_wp2;go_ret;exact⟨Pp.ret_int HE.out,Below.refl _ _⟩
 |false=>
  have hne:=Pp.not_empty hc;cases hf:L.find? (Pp.atB q.data.toList)with
  |none=>
   have HF:Hid (L.find? (Pp.atB q.data.toList)=none):=hf;have HE:=hid (show 5=Pp.foldE L q.data.toList from by rw[Pp.foldE,if_neg hne,hf]);clear hf hne;go_enter Tryz.func106,Tryz.ntmps106
   go_wp2_with fail;refine(at_any q _).mono ?_
   rintro e w1 ⟨rfl,ht,hb1⟩;have HT:Hid (Tells w1 140 #[.pointer (some ⟨w.heap.size,0,none⟩)] (Pp.atB q.data.toList)):=ht;clear ht;go_wp2_with fail;refine(first_any L v _ _ _ _ (HV.out.below hb1) HT.out HS.out).mono ?_
   rintro e w2 ⟨rfl,hb2⟩;rw[HF.out,fnd];go_wp2_with fail;go_ret;exact⟨Pp.ret_int HE.out,(below_trans hb1 hb2).alloc (Nat.le_trans hb1.size hb2.size) _⟩
  |some x=>
   have HF:Hid (L.find? (Pp.atB q.data.toList)=some x):=hf;have hE:Pp.foldE L q.data.toList=if x.folder=true then 0 else 4:=by rw[Pp.foldE,if_neg hne,hf]
   clear hf hne;cases hx:x.folder with
   |true=>
    have HE:=hid (show 0=Pp.foldE L q.data.toList from by rw[hE,hx];rfl);clear hE;go_enter Tryz.func106,Tryz.ntmps106
    go_wp2_with fail;refine(at_any q _).mono ?_
    rintro e w1 ⟨rfl,ht,hb1⟩;have HT:Hid (Tells w1 140 #[.pointer (some ⟨w.heap.size,0,none⟩)] (Pp.atB q.data.toList)):=ht;clear ht;go_wp2_with fail;refine(first_any L v _ _ _ _ (HV.out.below hb1) HT.out HS.out).mono ?_
    rintro e w2 ⟨rfl,hb2⟩;rw[HF.out,fnd];go_wp2_with fail;go_ret;exact⟨Pp.ret_int HE.out,(below_trans hb1 hb2).alloc (Nat.le_trans hb1.size hb2.size) _⟩
   |false=>
    have HE:=hid (show 4=Pp.foldE L q.data.toList from by rw[hE,hx];rfl);clear hE;go_enter Tryz.func106,Tryz.ntmps106
    go_wp2_with fail;refine(at_any q _).mono ?_
    rintro e w1 ⟨rfl,ht,hb1⟩;have HT:Hid (Tells w1 140 #[.pointer (some ⟨w.heap.size,0,none⟩)] (Pp.atB q.data.toList)):=ht;clear ht;go_wp2_with fail;refine(first_any L v _ _ _ _ (HV.out.below hb1) HT.out HS.out).mono ?_
    rintro e w2 ⟨rfl,hb2⟩;rw[HF.out,fnd];go_wp2_with fail;go_ret;exact⟨Pp.ret_int HE.out,(below_trans hb1 hb2).alloc (Nat.le_trans hb1.size hb2.size) _⟩
namespace Pp
/-- Behind k entries: none had no parent; told is 4 just where one's parent is no folder. -/
def parsTo (L:List En) (k:Nat) (told:Int):Prop:=(L.take k).any (fun e=>parF L e==5)=false∧told=if(L.take k).any (fun e=>parF L e==4)=true then 4 else 0
theorem parsTo_zero (L:List En):parsTo L 0 0:=⟨by simp,by simp⟩
theorem parsTo_step {L:List En} {k:Nat} {t:Int} (hlt:k<L.length) (h:parsTo L k t) (h5:parF L L[k]≠5):parsTo L (k+1) (if parF L L[k]=4 then 4 else t):=by
 refine⟨?_,?_⟩
 · rw[List.take_succ_eq_append_getElem hlt,List.any_append,h.1];simpa using h5
 · rw[List.take_succ_eq_append_getElem hlt,List.any_append,h.2]
   by_cases e:parF L L[k]=4
   · simp[e]
   · simp[e]
theorem parsTo_hit {L:List En} {k:Nat} (hlt:k<L.length) (h5:parF L L[k]=5):5=parsE L L:=by
 rw[parsE,if_pos];rw[List.any_eq_true];exact⟨L[k],List.getElem_mem hlt,by simpa using h5⟩
theorem parsTo_end {L:List En} {k:Nat} {t:Int} (hk:L.length≤k) (h:parsTo L k t):t=parsE L L:=by
 obtain⟨h1,h2⟩:=h
 rw[List.take_of_length_le hk]at h1 h2;rw[parsE,if_neg (by rw[h1];decide),h2]
end Pp

set_option maxHeartbeats 1000000 in
theorem checkParents_any (L:List En) (v:Value) (w:World) (hv:Lies w v L) (hn:L.length≤60) (hs: ∀e∈L,e.path.size≤1000000000000000) (hc: ∀e∈L,Pp.chk e.path.data.toList=0):
    Calls Tryz.prog 87 #[v] w fun e w'=>e= .returned (.int .i64 (Pp.parsE L L))∧Below w.heap.size w w':=by
 have HV:Hid (Lies w v L):=hv;have HS:Hid (∀e∈L,e.path.size≤1000000000000000):=hs;have HC:Hid (∀e∈L,Pp.chk e.path.data.toList=0):=hc;obtain⟨a,cap,rfl,hcap,hcap2,hL⟩:=hv
 have HL:Hid (∀i (h:i<L.length),∃b o,a=some ⟨b,o,none⟩∧b<w.heap.size∧EnAt w b (o+i*4) L[i]):=hL;clear hL hs hc;go_enter Tryz.func87,Tryz.ntmps87
 go_wp2_with fail;go_loopw [3,10] (fun t i wr=> ∃(k:Nat) (told:Int),k≤L.length∧i= .int .i64 k∧t= .int .i64 told∧Hid (Pp.parsTo L k told)∧Below w.heap.size w wr) (fun _ i _=>L.length-(intOf i).toNat)
 case atStart=>exact⟨0,0,Nat.zero_le _,rfl,rfl,Pp.parsTo_zero L,Below.refl _ _⟩
 case round=>
  obtain⟨k,told,hk,rfl,rfl,HP,hbel⟩:=hrel
  by_cases hlt:k<L.length
  · obtain⟨b,o,rfl,hb,he⟩:=HL.out k hlt
    obtain⟨c0,c1,c2,c3⟩:=he.below hb hbel
    have hsz:=HS.out L[k] (List.getElem_mem hlt);have HZ:Hid (Pp.chk (L[k]).path.data.toList=0):=HC.out L[k] (List.getElem_mem hlt);have b1:=Pp.len_par (L[k]).path.data.toList;rw[←Lib.size_eq]at b1;go_wp2_with fail;refine(parent_any (L[k]).path _ hsz).mono ?_
    rintro e w1 ⟨rfl,hb1⟩;rw[HZ.out,Pp.ifc_yes rfl];obtain⟨d0,d1,d2,d3,hb1w,hlt1⟩:=box4 hb1
    have hbel1:=below_trans hbel hb1w;clear hb1 c0 c1 c2 c3 d0 d1 d2 d3;go_wp2_with fail;refine(checkFolder_any L _ ⟨(Pp.par (L[k]).path.data.toList).toArray⟩ _ (HV.out.below hbel1) HS.out).mono ?_
    rintro e w2 ⟨rfl,hb2⟩;have hbel2:=below_trans hbel1 hb2;clear hbel1 hb2 hb1w;rw[show Pp.foldE L _=Pp.parF L L[k]from rfl];by_cases h5:Pp.parF L L[k]=5
    · have H5:Hid (Pp.parF L L[k]=5):=h5
      clear h5;rw[H5.out];go_wp2_with fail;go_ret;exact⟨Pp.ret_int (Pp.parsTo_hit hlt H5.out),hbel2⟩
    · have H5:Hid (Pp.parF L L[k]≠5):=h5
      by_cases h4:Pp.parF L L[k]=4
      · have H4:Hid (Pp.parF L L[k]=4):=h4
        have HN:=hid (show Pp.parsTo L (k+1) 4 from by have:=Pp.parsTo_step hlt HP.out h5;rwa [if_pos h4]at this);clear h4 h5;rw[H4.out];go_wp2_with fail;go_roundw
        case rel=>exact⟨k+1,4,by omega,by simp,rfl,HN.out,hbel2⟩
        case measure=>simp[intOf];omega
      · have HN:=hid (show Pp.parsTo L (k+1) told from by have:=Pp.parsTo_step hlt HP.out h5;rwa [if_neg h4]at this)
        have H0:=hid (show Pp.parF L L[k]=0 from by rcases Pp.foldE_range L (Pp.par (L[k]).path.data.toList)with h|h|h;exact h;exact absurd h h4;exact absurd h h5);clear h4 h5;rw[H0.out];go_wp2_with fail;go_roundw
        case rel=>exact⟨k+1,told,by omega,by simp,rfl,HN.out,hbel2⟩
        case measure=>simp[intOf];omega
  · go_wp2_with fail
    go_ret;exact⟨Pp.ret_int (Pp.parsTo_end (by omega) HP.out),hbel⟩
end Go.Proofs.YtdifomkoegmngaaGreatDoor
namespace Go.Proofs.YtdifomkoegmngaaGreatDoor
open Go.RowKit

namespace Pp
theorem rises_iff: ∀(L:List En),risesB L=true↔ ∀i (h:i+1<L.length),lt L[i] L[i+1]=true
 |[]=>by simp[risesB]
 |[_]=>by simp[risesB]
 |a::b::r=>by
  rw[risesB,Bool.and_eq_true,rises_iff (b::r)];constructor
  · rintro ⟨h1,h2⟩ i hi
    cases i with
    |zero=>exact h1
    |succ i=>exact h2 i (by simpa using hi)
  · intro h
    exact⟨h 0 (by simp),fun i hi=>h (i+1) (by simpa using hi)⟩
theorem rises_no {L:List En} {m:Nat} (h:m+1<L.length) (hl:lt L[m] L[m+1]=false):false=risesB L:=by
 cases e:risesB L with
 |false=>rfl
 |true=>have:=(rises_iff L).1 e m h;rw[hl]at this;cases this
theorem rises_yes {L:List En} (h: ∀i (h:i+1<L.length),lt L[i] L[i+1]=true):true=risesB L:=((rises_iff L).2 h).symm
end Pp

set_option maxHeartbeats 800000 in
theorem rises_any (L:List En) (v:Value) (w:World) (hv:Lies w v L) (hn:L.length≤1000000000):
    Calls Tryz.prog 86 #[v] w fun e w'=>e= .returned (.bool (Pp.risesB L))∧Below w.heap.size w w':=by
 obtain⟨a,cap,rfl,hcap,hcap2,hL⟩:=hv
 have HL:Hid (∀i (h:i<L.length),∃b o,a=some ⟨b,o,none⟩∧b<w.heap.size∧EnAt w b (o+i*4) L[i]):=hL;clear hL;go_enter Tryz.func86,Tryz.ntmps86
 go_wp2_with fail;go_loopw [3] (fun i wr=> ∃m:Nat,m≤L.length∧i= .int .i64 ((m:Int)+1)∧Hid (∀i (h:i+1<L.length),i<m→Pp.lt L[i] L[i+1]=true)∧Below w.heap.size w wr) (fun i _=>L.length+2-(intOf i).toNat)
 case atStart=>exact⟨0,Nat.zero_le _,rfl,(fun i _ h=>absurd h (Nat.not_lt_zero _): ∀i (h:i+1<L.length),i<0→Pp.lt L[i] L[i+1]=true),Below.refl _ _⟩
 case round=>
  obtain⟨m,hm,rfl,HP,hbel⟩:=hrel
  by_cases hlt:m+1<L.length
  · obtain⟨b,o,rfl,hb,he⟩:=HL.out m (by omega)
    obtain⟨c0,c1,c2,c3⟩:=he.below hb hbel
    obtain⟨b',o',hbo,hb',he'⟩:=HL.out (m+1) hlt
    obtain⟨rfl,rfl⟩:b=b'∧o=o':=by simpa using hbo
    obtain⟨d0,d1,d2,d3⟩:=he'.below hb hbel
    have hlt2:(m:Int)+1<L.length:=by omega
    clear c1 c2 c3 d1 d2 d3 hbo;cases hl:Pp.lt L[m] L[m+1]with
    |true=>
     have hl2:Op.bytesLess (L[m]).path.toList (L[m+1]).path.toList=true:=hl;go_wp2_with fail;go_region
     go_wp2;go_roundw
     case rel=>exact⟨m+1,by omega,by simp,(fun i h1 h2=>by
      by_cases e:i=m
      · subst e;exact hl
      · exact HP.out i h1 (by omega): ∀i (h:i+1<L.length),i<m+1→Pp.lt L[i] L[i+1]=true),hbel.drew⟩
     case measure=>simp[intOf];omega
    |false=>
     have hl2:Op.bytesLess (L[m]).path.toList (L[m+1]).path.toList=false:=hl;go_wp2_with fail;go_region
     go_wp2;go_ret;exact⟨Pp.ret_bool (Pp.rises_no hlt hl),hbel.drew⟩
  · go_wp2_with fail
    go_ret;exact⟨Pp.ret_bool (Pp.rises_yes fun i h=>HP.out i h (by omega)),hbel⟩
def Sized (L:List En):Prop:= ∀e∈L,e.path.size≤1000000000000000∧e.text.size≤1000000000000000
set_option maxHeartbeats 1000000 in
theorem tcheck_any (L:List En) (v:Value) (w:World) (hv:Lies w v L) (hn:L.length≤1000000000) (hs:Sized L):
    Calls Tryz.prog 51 #[v] w fun e w'=>e= .returned (.int .i64 (Pp.treeE L))∧Below w.heap.size w w':=by
 have HV:Hid (Lies w v L):=hv;have HS:Hid (Sized L):=hs;obtain⟨a,cap,rfl,hcap,hcap2,hL⟩:=hv
 have HL:Hid (∀i (h:i<L.length),∃b o,a=some ⟨b,o,none⟩∧b<w.heap.size∧EnAt w b (o+i*4) L[i]):=hL;clear hL hs;by_cases h60:60<(L.length:Int)
 · have HE:=hid (show 2=Pp.treeE L from by rw[Pp.treeE,if_pos (by omega)])
   go_enter Tryz.func51,Tryz.ntmps51
   go_wp2_with fail;go_ret;exact⟨Pp.ret_int HE.out,Below.refl _ _⟩
 have HT:=hid (show Pp.treeE L=if Pp.entsE L=0 then(if Pp.risesB L=true then Pp.parsE L L else 4)else Pp.entsE L from by rw[Pp.treeE,if_neg (by omega)]);go_enter Tryz.func51,Tryz.ntmps51
 go_wp2_with fail;go_loopw [11] (fun i wr=> ∃k:Nat,k≤L.length∧i= .int .i64 k∧Hid (Pp.entsE L=Pp.entsE (L.drop k))∧Below w.heap.size w wr) (fun i _=>L.length-(intOf i).toNat)
 case atStart=>exact⟨0,Nat.zero_le _,rfl,(rfl:Pp.entsE L=Pp.entsE (L.drop 0)),Below.refl _ _⟩
 case round=>
  obtain⟨k,hk,rfl,HQ,hbel⟩:=hrel
  by_cases hlt:k<L.length
  · obtain⟨b,o,rfl,hb,he⟩:=HL.out k hlt
    obtain⟨c0,c1,c2,c3⟩:=he.below hb hbel
    have HD:Hid (L.drop k=L[k]::L.drop (k+1)):=List.drop_eq_getElem_cons hlt;have hsz:=HS.out L[k] (List.getElem_mem hlt);by_cases hz:Pp.entE L[k]=0
    · have HZ:Hid (Pp.entE L[k]=0):=hz
      clear hz;go_wp2_with fail;refine(checkEntry_any (L[k]).path (L[k]).folder (L[k]).text (L[k]).ver _ hsz.1 hsz.2).mono ?_
      rintro e w1 ⟨rfl,hb1⟩;rw[show Pp.entE _=0 from HZ.out];obtain⟨d0,d1,d2,d3,hb1w,hlt1⟩:=box4 hb1
      have hbel1:=below_trans hbel hb1w;clear hb1 c0 c1 c2 c3 d0 d1 d2 d3;go_wp2_with fail;go_roundw
      case rel=>exact⟨k+1,by omega,by simp,(by rw[HQ.out,HD.out,Pp.entsE,if_pos HZ.out]:Pp.entsE L=Pp.entsE (L.drop (k+1))),hbel1⟩
      case measure=>simp[intOf];omega
    · have HZ:Hid (¬Pp.entE L[k]=0):=hz
      have hz2:(Pp.entE L[k]==0)=false:=by simpa using hz
      have HE:=hid (show Pp.entE L[k]=Pp.treeE L from by
       have e1:Pp.entsE L=Pp.entE L[k]:=by rw[HQ.out,HD.out,Pp.entsE,if_neg hz]
       rw[HT.out,if_neg (by rw[e1];exact hz),e1])
      go_wp2_with fail;refine(checkEntry_any (L[k]).path (L[k]).folder (L[k]).text (L[k]).ver _ hsz.1 hsz.2).mono ?_
      rintro e w1 ⟨rfl,hb1⟩;rw[show Pp.entE _=Pp.entE L[k]from rfl];obtain⟨d0,d1,d2,d3,hb1w,hlt1⟩:=box4 hb1
      have hbel1:=below_trans hbel hb1w;clear hb1 c0 c1 c2 c3 d0 d1 d2 d3;go_wp2_with fail;go_ret;exact⟨Pp.ret_int HE.out,hbel1⟩
  · have h0:Pp.entsE L=0:=by rw[HQ.out,List.drop_of_length_le (by omega)];rfl
    have hT2:Pp.treeE L=if Pp.risesB L=true then Pp.parsE L L else 4:=by rw[HT.out,if_pos h0]
    have HC:=hid (show∀e∈L,Pp.chk e.path.data.toList=0 from fun e he=>Pp.entE_path (Pp.entsE_all h0 e he));clear h0;cases hr:Pp.risesB L with
    |true=>
     have HR:Hid (Pp.risesB L=true):=hr;have HE:=hid (show Pp.parsE L L=Pp.treeE L from by rw[hT2,if_pos hr]);clear hr hT2;go_wp2_with fail;refine(rises_any L _ _ (HV.out.below hbel) hn).mono ?_
     rintro e w1 ⟨rfl,hb1⟩;rw[HR.out];have hbel1:=below_trans hbel hb1;clear hbel hb1;go_wp2_with fail;refine(checkParents_any L _ _ (HV.out.below hbel1) (by omega) (fun e he=>(HS.out e he).1) HC.out).mono ?_
     rintro e w2 ⟨rfl,hb2⟩;go_wp2_with fail;go_ret;exact⟨Pp.ret_int HE.out,below_trans hbel1 hb2⟩
    |false=>
     have HR:Hid (Pp.risesB L=false):=hr;have HE:=hid (show 4=Pp.treeE L from by rw[hT2,if_neg (by rw[hr];decide)]);clear hr hT2;go_wp2_with fail;refine(rises_any L _ _ (HV.out.below hbel) hn).mono ?_
     rintro e w1 ⟨rfl,hb1⟩;rw[HR.out];go_wp2_with fail;go_ret;exact⟨Pp.ret_int HE.out,below_trans hbel hb1⟩
end Go.Proofs.YtdifomkoegmngaaGreatDoor
namespace Go.Proofs.YtdifomkoegmngaaGreatDoor
open Go.RowKit

namespace Pp
def cells (e:En):List Value:=[.string e.path,.bool e.folder,.string e.text,.int .i64 e.ver]
def flat (L:List En):List Value:=L.flatMap cells
theorem flat_snoc (L:List En) (e:En):flat L++cells e=flat (L++[e]):=by simp[flat]
theorem cells_one (e:En): ∀u∈cells e,u.oneCell'=true:=by
 intro u hu;simp only[cells,List.mem_cons,List.not_mem_nil,or_false]at hu;rcases hu with rfl|rfl|rfl|rfl<;>rfl
theorem new_cells (w:World) (e:En) (T:TypeId): ∀j u,(cells e)[j]?=some u→(w.alloc (.cells #[.string e.path,.bool e.folder,.string e.text,.int .i64 e.ver] T)).cell? ((⟨w.heap.size,0,none⟩:Addr).add j)=some u:=by
 intro j u hj;match j,hj with
 |0,hj=>simp[cells]at hj;subst hj;simp[Addr.add]
 |1,hj=>simp[cells]at hj;subst hj;simp[Addr.add]
 |2,hj=>simp[cells]at hj;subst hj;simp[Addr.add]
 |3,hj=>simp[cells]at hj;subst hj;simp[Addr.add]
 |j+4,hj=>simp[cells]at hj
theorem filter_hit {L:List En} {k:Nat} (h:k<L.length) {pr:En→Bool} (hp:pr L[k]=true):(L.take (k+1)).filter pr=(L.take k).filter pr++[L[k]]:=by
 rw[List.take_succ_eq_append_getElem h,List.filter_append];simp[hp]
theorem filter_miss {L:List En} {k:Nat} (h:k<L.length) {pr:En→Bool} (hp:pr L[k]=false):(L.take (k+1)).filter pr=(L.take k).filter pr:=by
 rw[List.take_succ_eq_append_getElem h,List.filter_append];simp[hp]
end Pp

theorem Tryz.infoE:(Tryz.prog.info? 72).map (fun i=>(i.zero,i.size,i.bytes))=some (some (.agg #[.string ⟨#[]⟩,.bool false,.string ⟨#[]⟩,.int .i64 0]),4,48):=by kernel_rfl
namespace Pp
theorem flat_at: ∀(L:List En) (i:Nat) (h:i<L.length) (c:Nat),c<4→(flat L)[i*4+c]?=(cells L[i])[c]?
 |[],i,h,_,_=>absurd h (by simp)
 |a::r,0,_,c,hc=>by
  show(cells a++flat r)[0*4+c]?=_
  rw[List.getElem?_append_left (by simp[cells];omega)];simp
 |a::r,i+1,h,c,hc=>by
  show(cells a++flat r)[(i+1)*4+c]?=_
  rw[List.getElem?_append_right (by simp[cells];omega)];have e:(i+1)*4+c-(cells a).length=i*4+c:=by simp[cells];omega
  rw[e,flat_at r i (by simpa using h) c hc];simp
end Pp
theorem lies_row {w:World} {base:Nat} {T:TypeId} {v:Value} {L:List En} (h:w.ownsRow base T 4 v L.length (Pp.flat L)) (hn:L.length≤1000000000000000):Lies w v L:=by
 have h':=h;obtain⟨_,h2⟩:=h
 rcases h2 with⟨rfl,hz⟩|⟨g,cap,cur,rfl,hg,hh,hc,hm,hz,htake⟩
 · have:L=[]:=List.length_eq_zero_iff.1 hz
   subst this;exact⟨none,0,rfl,Nat.le_refl _,by simp,fun i hi=>absurd hi (by simp)⟩
 · have hlt:g<w.heap.size:=by
    rcases Nat.lt_or_ge g w.heap.size with h|h
    · exact h
    · rw[Array.getElem?_eq_none h]at hh;cases hh
   refine⟨some ⟨g,0,none⟩,cap,rfl,hc,hn,fun i hi=>⟨g,0,rfl,hlt,?_⟩⟩
   have k: ∀c,c<4→w.cell? ⟨g,0+i*4+c,none⟩=(Pp.cells L[i])[c]?:=fun c hc=>by
    rw[Nat.zero_add,h'.cellAt (i*4+c) (by omega),Pp.flat_at L i hi c hc]
   exact⟨k 0 (by decide),k 1 (by decide),k 2 (by decide),k 3 (by decide)⟩
theorem heap_lt {W:World} {b:Nat} {o:Obj} (h:W.heap[b]?=some o):b<W.heap.size:=by
 rcases Nat.lt_or_ge b W.heap.size with h1|h1
 · exact h1
 · rw[Array.getElem?_eq_none h1]at h;cases h
end Go.Proofs.YtdifomkoegmngaaGreatDoor
namespace Go.Proofs.YtdifomkoegmngaaGreatDoor
open Go.RowKit

/-- The caller's own: in a block from B on, that may be written. -/
def Own (B:Nat) (w:World) (v:Value):Prop:= ∀g,v.ownBlock=some g→B≤g∧ ∃cur T,w.heap[g]?=some (.cells cur T (0,0))
theorem own_nil (B:Nat) (w:World):Own B w (.slice none 0 0):=fun g h=>by simp[Value.ownBlock]at h
theorem Own.lt {B:Nat} {w:World} {v:Value} (h:Own B w v): ∀g,v.ownBlock=some g→g<w.heap.size:=fun g hg=>by
 obtain⟨_,cur,T,hh⟩:=h g hg
 exact heap_lt hh
theorem Own.below {B:Nat} {w w':World} {v:Value} (h:Own B w v) (hw:Below w.heap.size w w'):Own B w' v:=fun g hg=>by
 obtain⟨h1,cur,T,hh⟩:=h g hg
 exact⟨h1,cur,T,(hw.block g (heap_lt hh)).trans hh⟩
theorem Own.mono {B B':Nat} {w:World} {v:Value} (h:Own B w v) (hB:B'≤B):Own B' w v:=fun g hg=>⟨Nat.le_trans hB (h g hg).1,(h g hg).2⟩
theorem own_row {w:World} {base:Nat} {e:TypeId} {size:Nat} {v:Value} {n:Nat} {xs:List Value} (h:w.ownsRow base e size v n xs):Own base w v:=by
 obtain⟨_,h2⟩:=h
 rcases h2 with⟨rfl,_⟩|⟨g,cap,cur,rfl,hg,hh,_⟩
 · exact own_nil _ _
 · intro g' hg'
   simp only[Value.ownBlock,Option.some.injEq]at hg';subst hg';exact⟨hg,cur,e,hh⟩
/-- A tree that lies in memory of its own. -/
def LiesF (B:Nat) (w:World) (v:Value) (L:List En):Prop:=Lies w v L∧Own B w v
theorem LiesF.mono {A B:Nat} {w:World} {v:Value} {L:List En} (h:LiesF B w v L) (hA:A≤B):LiesF A w v L:=⟨h.1,h.2.mono hA⟩
theorem liesF_nil (B:Nat) (w:World):LiesF B w (.slice none 0 0) []:=⟨⟨none,0,rfl,Nat.le_refl _,by simp,fun i hi=>absurd hi (by simp)⟩,own_nil _ _⟩
theorem lies_ownF {w:World} {base:Nat} {T:TypeId} {v:Value} {L:List En} (h:w.ownsRow base T 4 v L.length (Pp.flat L)) (hn:L.length≤1000000000000000):LiesF base w v L:=⟨lies_row h hn,own_row h⟩
namespace Pp
/-- Change by change: how many were made, the error, and what came. -/
def runF (n:Int):List En→List Ch→Nat×Int×List En
 |T,[]=>(0,0,T)
 |T,c::r=>if appE T c n=0 then((runF n (chdR T c n) r).1+1,(runF n (chdR T c n) r).2)else(0,appE T c n,[])
/-- What is left to do behind the first changes. -/
def Left (n:Int) (L:List En) (cs:List Ch) (S:List En) (k:Nat):Prop:=runF n L cs=((runF n S (cs.drop k)).1+k,(runF n S (cs.drop k)).2)
theorem left_zero (n:Int) (L:List En) (cs:List Ch):Left n L cs L 0:=rfl
theorem left_next {n:Int} {L:List En} {cs:List Ch} {S:List En} {k:Nat} (h:Left n L cs S k) (hk:k<cs.length) (h0:appE S cs[k] n=0):Left n L cs (chdR S cs[k] n) (k+1):=by
 rw[Left]at h⊢;rw[List.drop_eq_getElem_cons hk,runF,if_pos h0]at h;rw[h];simp only[Prod.mk.injEq,and_true];omega
theorem left_stop {n:Int} {L:List En} {cs:List Ch} {S:List En} {k:Nat} (h:Left n L cs S k) (hk:k<cs.length) (h0: ¬appE S cs[k] n=0):runF n L cs=(k,appE S cs[k] n,[]):=by
 rw[Left,List.drop_eq_getElem_cons hk,runF,if_neg h0]at h;rw[h];simp
theorem left_end {n:Int} {L:List En} {cs:List Ch} {S:List En} (h:Left n L cs S cs.length):runF n L cs=(cs.length,0,S):=by
 rw[Left,List.drop_length,runF]at h;rw[h];simp
end Pp
end Go.Proofs.YtdifomkoegmngaaGreatDoor
namespace Go.Proofs.YtdifomkoegmngaaGreatDoor
open Go.RowKit

namespace Pp
/-- All: what is wrong with the tree, then how many there are, then change by change. -/
def allE (L:List En) (cs:List Ch) (n:Int):Int:=if¬treeE L=0 then treeE L else if 20<cs.length then 2 else(runF n L cs).2.1
def allN (L:List En) (cs:List Ch) (n:Int):Nat:=if¬treeE L=0 then 0 else if 20<cs.length then 0 else(runF n L cs).1
def allR (L:List En) (cs:List Ch) (n:Int):List En:=if¬treeE L=0 then[]else if 20<cs.length then[]else(runF n L cs).2.2
theorem all_no {L:List En} (h: ¬treeE L=0) (cs:List Ch) (n:Int):allE L cs n=treeE L∧allN L cs n=0∧allR L cs n=[]:=⟨if_pos h,if_pos h,if_pos h⟩
theorem all_many {L:List En} (h:treeE L=0) {cs:List Ch} (hm:20<cs.length) (n:Int):allE L cs n=2∧allN L cs n=0∧allR L cs n=[]:=
 ⟨by rw[allE,if_neg (fun x=>x h),if_pos hm],by rw[allN,if_neg (fun x=>x h),if_pos hm],by rw[allR,if_neg (fun x=>x h),if_pos hm]⟩
theorem all_run {L:List En} (h:treeE L=0) {cs:List Ch} (hm: ¬20<cs.length) {n:Int} {k:Nat} {e:Int} {R:List En} (hr:runF n L cs=(k,e,R)):allE L cs n=e∧allN L cs n=k∧allR L cs n=R:=
 ⟨by rw[allE,if_neg (fun x=>x h),if_neg hm,hr],by rw[allN,if_neg (fun x=>x h),if_neg hm,hr],by rw[allR,if_neg (fun x=>x h),if_neg hm,hr]⟩
end Pp

theorem runF_nil (n:Int) (L:List En):Pp.runF n L []=(0,0,L):=rfl
end Go.Proofs.YtdifomkoegmngaaGreatDoor
