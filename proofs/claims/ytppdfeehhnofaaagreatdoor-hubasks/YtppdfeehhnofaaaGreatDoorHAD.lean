/- What tree.checkVersion, checkEntry answer, for every entry. -/
import Derived.Test.YtppdfeehhnofaaaGreatDoorHAA
import Derived.Test.YtppdfeehhnofaaaGreatDoorHAC
set_option linter.unusedSimpArgs false
set_option linter.unusedVariables false
namespace Go.Proofs.YtppdfeehhnofaaaGreatDoor
open Go.RowKit

set_option maxHeartbeats 400000 in
theorem checkVersion_any (n:Int) (w:World):
    Calls Tryz.prog 182 #[.int .i64 n] w fun e w'=>e= .returned (.int .i64 (Pp.verE n))∧w'=w:=by
 by_cases h1:n<1
 · have H:=hid (show 3=Pp.verE n from by rw[Pp.verE,if_pos (Or.inl h1)])
   go_enter Tryz.func182,Tryz.ntmps182
   go_wp2;go_ret;exact⟨Pp.ret_int H.out,rfl⟩
 by_cases h2:1000000<n
 · have H:=hid (show 3=Pp.verE n from by rw[Pp.verE,if_pos (Or.inr h2)])
   go_enter Tryz.func182,Tryz.ntmps182
   go_wp2;go_ret;exact⟨Pp.ret_int H.out,rfl⟩
 · have H:=hid (show 0=Pp.verE n from by rw[Pp.verE,if_neg (by omega)])
   go_enter Tryz.func182,Tryz.ntmps182
   go_wp2;go_ret;exact⟨Pp.ret_int H.out,rfl⟩
def ag (e:En):Value:= .agg #[.string e.path,.bool e.folder,.string e.text,.int .i64 e.ver]
set_option maxHeartbeats 800000 in
theorem checkEntry_any (p:ByteArray) (f:Bool) (t:ByteArray) (n:Int) (w:World) (hp:p.size≤1000000000000000) (ht:t.size≤1000000000000000):
    Calls Tryz.prog 139 #[.agg #[.string p,.bool f,.string t,.int .i64 n]] w fun e w'=>e= .returned (.int .i64 (Pp.entE ⟨p,f,t,n⟩))∧Below w.heap.size w w':=by
 by_cases hz:Pp.chk p.data.toList=0
 · have HZ:Hid (Pp.chk p.data.toList=0):=hz
   have hE:Pp.entE ⟨p,f,t,n⟩=if f=true∧ ¬t.data.toList=[]then 1 else if 300<t.size then 2 else Pp.verE n:=by rw[Pp.entE,if_pos hz]
   clear hz;cases f with
   |true=>
    cases hc:t.toList.isEmpty with
    |false=>
     have HE:=hid (show 1=Pp.entE ⟨p,true,t,n⟩from by rw[hE,if_pos ⟨rfl,Pp.not_empty hc⟩]);clear hE;go_enter Tryz.func139,Tryz.ntmps139
     go_wp2_with fail;refine(check_any p _ hp).mono ?_
     rintro e w1 ⟨rfl,hb1⟩;obtain⟨c0,c1,c2,c3,hb,hlt⟩:=box4 hb1
     clear hb1;rw[HZ.out];go_wp2_with fail;go_ret;exact⟨Pp.ret_int HE.out,hb⟩
    |true=>
     have ht0:t.size=0:=by rw[Lib.size_eq,(Pp.empty_iff t).1 hc];rfl
     have HE:=hid (show Pp.entE ⟨p,true,t,n⟩=Pp.verE n from by rw[hE,if_neg (fun h=>h.2 ((Pp.empty_iff t).1 hc)),if_neg (by omega)]);clear hE;have ht1:(t.size:Int)≤300:=by omega
     clear ht0;go_enter Tryz.func139,Tryz.ntmps139
     go_wp2_with fail;refine(check_any p _ hp).mono ?_
     rintro e w1 ⟨rfl,hb1⟩;obtain⟨c0,c1,c2,c3,hb,hlt⟩:=box4 hb1
     clear hb1;rw[HZ.out];go_wp2_with fail;refine(checkVersion_any n _).mono ?_
     rintro e w2 ⟨rfl,rfl⟩;go_wp2_with fail;go_ret;exact⟨Pp.ret_int HE.out.symm,hb⟩
   |false=>
    by_cases hl:300<(t.size:Int)
    · have HE:=hid (show 2=Pp.entE ⟨p,false,t,n⟩from by rw[hE,if_neg (fun h=>by cases h.1),if_pos (by omega)])
      clear hE;go_enter Tryz.func139,Tryz.ntmps139
      go_wp2_with fail;refine(check_any p _ hp).mono ?_
      rintro e w1 ⟨rfl,hb1⟩;obtain⟨c0,c1,c2,c3,hb,hlt⟩:=box4 hb1
      clear hb1;rw[HZ.out];go_wp2_with fail;go_ret;exact⟨Pp.ret_int HE.out,hb⟩
    · have HE:=hid (show Pp.entE ⟨p,false,t,n⟩=Pp.verE n from by rw[hE,if_neg (fun h=>by cases h.1),if_neg (by omega)])
      clear hE;go_enter Tryz.func139,Tryz.ntmps139
      go_wp2_with fail;refine(check_any p _ hp).mono ?_
      rintro e w1 ⟨rfl,hb1⟩;obtain⟨c0,c1,c2,c3,hb,hlt⟩:=box4 hb1
      clear hb1;rw[HZ.out];go_wp2_with fail;refine(checkVersion_any n _).mono ?_
      rintro e w2 ⟨rfl,rfl⟩;go_wp2_with fail;go_ret;exact⟨Pp.ret_int HE.out.symm,hb⟩
 · have HE:=hid (show Pp.chk p.data.toList=Pp.entE ⟨p,f,t,n⟩from by rw[Pp.entE,if_neg hz])
   have hz2:(Pp.chk p.data.toList==0)=false:=by simpa using hz
   go_enter Tryz.func139,Tryz.ntmps139
   go_wp2_with fail;refine(check_any p _ hp).mono ?_
   rintro e w1 ⟨rfl,hb1⟩;obtain⟨c0,c1,c2,c3,hb,hlt⟩:=box4 hb1
   clear hb1;go_wp2_with fail;go_ret;exact⟨Pp.ret_int HE.out,hb⟩
namespace Pp
theorem find_hit {L:List En} {pr:En→Bool} {k:Nat} (hlt:k<L.length) (h: ∀j (h:j<L.length),j<k→pr L[j]=false) (hp:pr L[k]=true):L.find? pr=some L[k]:=by
 rw[List.find?_eq_some_iff_getElem];exact⟨hp,k,hlt,rfl,fun j hj=>by simpa using h j (by omega) hj⟩
theorem find_miss {L:List En} {pr:En→Bool} (h: ∀j (h:j<L.length),pr L[j]=false):L.find? pr=none:=by
 rw[List.find?_eq_none];intro x hx;obtain⟨j,hj,rfl⟩:=List.getElem_of_mem hx
 simpa using h j hj
end Pp

/-- A predicate on entries, as a function value. -/
def Tells (w:World) (g:Nat) (cb:Array Value) (pr:En→Bool):Prop:=
 (∀args w,(callFunc g args).run Tryz.prog w= .ok (.enter g args) w)∧
 ∀(W:World),Below w.heap.size w W→ ∀e:En,e.path.size≤1000000000000000→Calls Tryz.prog g (#[.agg #[.string e.path,.bool e.folder,.string e.text,.int .i64 e.ver]]++cb) W fun r W'=>r= .returned (.bool (pr e))∧Below W.heap.size W W'
theorem Tells.below {w w':World} {g:Nat} {cb:Array Value} {pr:En→Bool} (h:Tells w g cb pr) (hw:Below w.heap.size w w'):Tells w' g cb pr:=
 ⟨h.1,fun W hW=>h.2 W (hw.trans (hW.mono hw.size))⟩
set_option maxHeartbeats 400000 in
theorem at1_any (p:ByteArray) (f:Bool) (t:ByteArray) (n:Int) (q:ByteArray) (b:Nat) (w:World) (hb:b<w.heap.size) (hc:w.cell? ⟨b,0,none⟩=some (.string q)):
    Calls Tryz.prog 223 #[.agg #[.string p,.bool f,.string t,.int .i64 n],.pointer (some ⟨b,0,none⟩)] w fun e w'=>e= .returned (.bool (Pp.atB q.data.toList ⟨p,f,t,n⟩))∧Below w.heap.size w w':=by
 have hc2: ∀o,(w.alloc o).cell? ⟨b,0,none⟩=some (.string q):=fun o=>(((Below.refl w.heap.size w).alloc (Nat.le_refl _) o).cell (p:=⟨b,0,none⟩) hb).trans hc
 go_enter Tryz.func223,Tryz.ntmps223
 go_wp2;go_ret;exact⟨Pp.ret_bool (by rw[Pp.atB,Lib.toList_data,Lib.toList_data]),(Below.refl _ _).alloc (Nat.le_refl _) _⟩
set_option maxHeartbeats 400000 in
theorem at_any (q:ByteArray) (w:World):
    Calls Tryz.prog 211 #[.string q] w fun e w'=>e= .returned (.func (.func 223) #[] #[.pointer (some ⟨w.heap.size,0,none⟩)])∧Tells w' 223 #[.pointer (some ⟨w.heap.size,0,none⟩)] (Pp.atB q.data.toList)∧Below w.heap.size w w':=by
 go_enter Tryz.func211,Tryz.ntmps211
 go_wp2;go_ret;refine⟨rfl,⟨enters_of Tryz.func223 (by kernel_rfl) rfl,fun W hW e he=>?_⟩,(Below.refl _ _).alloc (Nat.le_refl _) _⟩
 exact at1_any e.path e.folder e.text e.ver q w.heap.size W (Nat.lt_of_lt_of_le (by simp) hW.size) ((hW.cell (p:=⟨w.heap.size,0,none⟩) (by simp)).trans (by simp))
def fnd (r:Option En):Value:=match r with
 |some x=> .tuple #[.agg #[.string x.path,.bool x.folder,.string x.text,.int .i64 x.ver],.bool true]
 |none=> .tuple #[.agg #[.string ⟨#[]⟩,.bool false,.string ⟨#[]⟩,.int .i64 0],.bool false]
set_option maxHeartbeats 800000 in
theorem first_any (L:List En) (v:Value) (g:Nat) (cb:Array Value) (pr:En→Bool) (w:World) (hv:Lies w v L) (hg:Tells w g cb pr) (hs: ∀e∈L,e.path.size≤1000000000000000):
    Calls Tryz.prog 210 #[v,.func (.func g) #[] cb] w fun e w'=>e= .returned (fnd (L.find? pr))∧Below w.heap.size w w':=by
 obtain⟨a,cap,rfl,hcap,hcap2,hL⟩:=hv
 have HL:Hid (∀i (h:i<L.length),∃b o,a=some ⟨b,o,none⟩∧b<w.heap.size∧EnAt w b (o+i*4) L[i]):=hL;have HG:Hid (Tells w g cb pr):=hg;have HS:Hid (∀e∈L,e.path.size≤1000000000000000):=hs;have eg:=hg.1;clear hL hg hs;go_enter Tryz.func210,Tryz.ntmps210
 go_wp2_with fail;go_loopw [10] (fun i wr=> ∃k:Nat,k≤L.length∧i= .int .i64 k∧Hid (∀j (h:j<L.length),j<k→pr L[j]=false)∧Below (w.alloc (.cells #[.string ⟨#[]⟩,.bool false,.string ⟨#[]⟩,.int .i64 0] 128)).heap.size (w.alloc (.cells #[.string ⟨#[]⟩,.bool false,.string ⟨#[]⟩,.int .i64 0] 128)) wr) (fun i _=>L.length-(intOf i).toNat)
 case atStart=>exact⟨0,Nat.zero_le _,rfl,(fun j _ h=>absurd h (Nat.not_lt_zero _): ∀j (h:j<L.length),j<0→pr L[j]=false),Below.refl _ _⟩
 case round=>
  obtain⟨k,hk,rfl,HP,hbel⟩:=hrel
  obtain⟨r0,r1,r2,r3,hbw,hlt0⟩:=box4 hbel
  by_cases hlt:k<L.length
  · obtain⟨b,o,rfl,hb,he⟩:=HL.out k hlt
    obtain⟨c0,c1,c2,c3⟩:=he.below hb hbw
    have hsz:=HS.out L[k] (List.getElem_mem hlt);cases hp:pr L[k]with
    |true=>
     have HF:=hid (show L.find? pr=some L[k]from Pp.find_hit hlt HP.out hp);go_wp2_with fail;refine(HG.out.2 _ (hbw.alloc (Nat.le_of_lt hlt0) _) L[k] hsz).mono ?_
     rintro e w1 ⟨rfl,hb1⟩;obtain⟨d0,d1,d2,d3,hb1w,hlt1⟩:=box4 hb1
     have hbel1:=hbel.trans (hb1w.mono hbel.size);obtain⟨s0,s1,s2,s3,hbw1,hlt2⟩:=box4 hbel1
     have f0:=box4f hbel1 0;have f1:=box4f hbel1 1;have f2:=box4f hbel1 2;have f3:=box4f hbel1 3;rw[hp];clear hb1 c0 c1 c2 c3 r0 r1 r2 r3 hbel hbel1 eg;go_wp2_with fail;refine bodyPost_ret (v:= .tuple #[.agg #[.string L[k].path,.bool L[k].folder,.string L[k].text,.int .i64 L[k].ver],.bool true]) (by simp[results,Tryz.results210,go_sem,s0,s1,s2,s3]) rfl ⟨by rw[HF.out];rfl,?_⟩
     exact(((hbw1.setCell (Nat.le_refl _) _).setCell (Nat.le_refl _) _).setCell (Nat.le_refl _) _).setCell (Nat.le_refl _) _
    |false=>
     go_wp2_with fail;refine(HG.out.2 _ (hbw.alloc (Nat.le_of_lt hlt0) _) L[k] hsz).mono ?_
     rintro e w1 ⟨rfl,hb1⟩;obtain⟨d0,d1,d2,d3,hb1w,hlt1⟩:=box4 hb1
     have hbel1:=hbel.trans (hb1w.mono hbel.size);rw[hp];clear hb1 c0 c1 c2 c3 r0 r1 r2 r3 hbel eg;go_wp2_with fail;go_roundw
     case rel=>exact⟨k+1,by omega,by simp,(fun j h1 h2=>by
      by_cases e:j=k
      · subst e;exact hp
      · exact HP.out j h1 (by omega): ∀j (h:j<L.length),j<k+1→pr L[j]=false),hbel1⟩
     case measure=>simp[intOf];omega
  · have f0:=box4f hbel 0
    have f1:=box4f hbel 1;have f2:=box4f hbel 2;have f3:=box4f hbel 3;have HF:=hid (show L.find? pr=none from Pp.find_miss (fun j h=>HP.out j h (by omega)));go_wp2_with fail;refine bodyPost_ret (v:= .tuple #[.agg #[.string ⟨#[]⟩,.bool false,.string ⟨#[]⟩,.int .i64 0],.bool false]) (by simp[results,Tryz.results210,go_sem,r0,r1,r2,r3]) rfl ⟨by rw[HF.out];rfl,?_⟩
    exact(((hbw.setCell (Nat.le_refl _) _).setCell (Nat.le_refl _) _).setCell (Nat.le_refl _) _).setCell (Nat.le_refl _) _
end Go.Proofs.YtppdfeehhnofaaaGreatDoor
namespace Go.Proofs.YtppdfeehhnofaaaGreatDoor
open Go.RowKit

set_option maxHeartbeats 800000 in
theorem checkFolder_any (L:List En) (v:Value) (q:ByteArray) (w:World) (hv:Lies w v L) (hs: ∀e∈L,e.path.size≤1000000000000000):
    Calls Tryz.prog 184 #[v,.string q] w fun e w'=>e= .returned (.int .i64 (Pp.foldE L q.data.toList))∧Below w.heap.size w w':=by
 have HV:Hid (Lies w v L):=hv;have HS:Hid (∀e∈L,e.path.size≤1000000000000000):=hs;clear hv hs;cases hc:q.toList.isEmpty with
 |true=>
  have HE:=hid (show 0=Pp.foldE L q.data.toList from by rw[Pp.foldE,if_pos ((Pp.empty_iff q).1 hc)]);go_enter Tryz.func184,Tryz.ntmps184
  go_wp2;go_ret;exact⟨Pp.ret_int HE.out,Below.refl _ _⟩
 |false=>
  have hne:=Pp.not_empty hc;cases hf:L.find? (Pp.atB q.data.toList)with
  |none=>
   have HF:Hid (L.find? (Pp.atB q.data.toList)=none):=hf;have HE:=hid (show 5=Pp.foldE L q.data.toList from by rw[Pp.foldE,if_neg hne,hf]);clear hf hne;go_enter Tryz.func184,Tryz.ntmps184
   go_wp2_with fail;refine(at_any q _).mono ?_
   rintro e w1 ⟨rfl,ht,hb1⟩;have HT:Hid (Tells w1 223 #[.pointer (some ⟨w.heap.size,0,none⟩)] (Pp.atB q.data.toList)):=ht;clear ht;go_wp2_with fail;refine(first_any L v _ _ _ _ (HV.out.below hb1) HT.out HS.out).mono ?_
   rintro e w2 ⟨rfl,hb2⟩;rw[HF.out,fnd];go_wp2_with fail;go_ret;exact⟨Pp.ret_int HE.out,(below_trans hb1 hb2).alloc (Nat.le_trans hb1.size hb2.size) _⟩
  |some x=>
   have HF:Hid (L.find? (Pp.atB q.data.toList)=some x):=hf;have hE:Pp.foldE L q.data.toList=if x.folder=true then 0 else 4:=by rw[Pp.foldE,if_neg hne,hf]
   clear hf hne;cases hx:x.folder with
   |true=>
    have HE:=hid (show 0=Pp.foldE L q.data.toList from by rw[hE,hx];rfl);clear hE;go_enter Tryz.func184,Tryz.ntmps184
    go_wp2_with fail;refine(at_any q _).mono ?_
    rintro e w1 ⟨rfl,ht,hb1⟩;have HT:Hid (Tells w1 223 #[.pointer (some ⟨w.heap.size,0,none⟩)] (Pp.atB q.data.toList)):=ht;clear ht;go_wp2_with fail;refine(first_any L v _ _ _ _ (HV.out.below hb1) HT.out HS.out).mono ?_
    rintro e w2 ⟨rfl,hb2⟩;rw[HF.out,fnd];go_wp2_with fail;go_ret;exact⟨Pp.ret_int HE.out,(below_trans hb1 hb2).alloc (Nat.le_trans hb1.size hb2.size) _⟩
   |false=>
    have HE:=hid (show 4=Pp.foldE L q.data.toList from by rw[hE,hx];rfl);clear hE;go_enter Tryz.func184,Tryz.ntmps184
    go_wp2_with fail;refine(at_any q _).mono ?_
    rintro e w1 ⟨rfl,ht,hb1⟩;have HT:Hid (Tells w1 223 #[.pointer (some ⟨w.heap.size,0,none⟩)] (Pp.atB q.data.toList)):=ht;clear ht;go_wp2_with fail;refine(first_any L v _ _ _ _ (HV.out.below hb1) HT.out HS.out).mono ?_
    rintro e w2 ⟨rfl,hb2⟩;rw[HF.out,fnd];go_wp2_with fail;go_ret;exact⟨Pp.ret_int HE.out,(below_trans hb1 hb2).alloc (Nat.le_trans hb1.size hb2.size) _⟩
namespace Pp
/-- Behind k entries: none had no parent; told is 4 just where one's parent is no folder. -/
def parsTo (L:List En) (k:Nat) (told:Int):Prop:=(L.take k).any (fun e=>parF L e==5)=false∧told=if(L.take k).any (fun e=>parF L e==4)=true then 4 else 0
theorem parsTo_zero (L:List En):parsTo L 0 0:=⟨by simp,by simp⟩
theorem parsTo_step {L:List En} {k:Nat} {t:Int} (hlt:k<L.length) (h:parsTo L k t) (h5:parF L L[k]≠5):parsTo L (k+1) (if parF L L[k]=4 then 4 else t):=by
 refine⟨?_,?_⟩
 · rw[List.take_succ_eq_append_getElem hlt,List.any_append,h.1];simpa using h5
 · rw[List.take_succ_eq_append_getElem hlt,List.any_append,h.2]
   by_cases e:parF L L[k]=4
   · simp[e]
   · simp[e]
theorem parsTo_hit {L:List En} {k:Nat} (hlt:k<L.length) (h5:parF L L[k]=5):5=parsE L L:=by
 rw[parsE,if_pos];rw[List.any_eq_true];exact⟨L[k],List.getElem_mem hlt,by simpa using h5⟩
theorem parsTo_end {L:List En} {k:Nat} {t:Int} (hk:L.length≤k) (h:parsTo L k t):t=parsE L L:=by
 obtain⟨h1,h2⟩:=h
 rw[List.take_of_length_le hk]at h1 h2;rw[parsE,if_neg (by rw[h1];decide),h2]
end Pp

set_option maxHeartbeats 1000000 in
theorem checkParents_any (L:List En) (v:Value) (w:World) (hv:Lies w v L) (hn:L.length≤60) (hs: ∀e∈L,e.path.size≤1000000000000000) (hc: ∀e∈L,Pp.chk e.path.data.toList=0):
    Calls Tryz.prog 141 #[v] w fun e w'=>e= .returned (.int .i64 (Pp.parsE L L))∧Below w.heap.size w w':=by
 have HV:Hid (Lies w v L):=hv;have HS:Hid (∀e∈L,e.path.size≤1000000000000000):=hs;have HC:Hid (∀e∈L,Pp.chk e.path.data.toList=0):=hc;obtain⟨a,cap,rfl,hcap,hcap2,hL⟩:=hv
 have HL:Hid (∀i (h:i<L.length),∃b o,a=some ⟨b,o,none⟩∧b<w.heap.size∧EnAt w b (o+i*4) L[i]):=hL;clear hL hs hc;go_enter Tryz.func141,Tryz.ntmps141
 go_wp2_with fail;go_loopw [3,10] (fun t i wr=> ∃(k:Nat) (told:Int),k≤L.length∧i= .int .i64 k∧t= .int .i64 told∧Hid (Pp.parsTo L k told)∧Below w.heap.size w wr) (fun _ i _=>L.length-(intOf i).toNat)
 case atStart=>exact⟨0,0,Nat.zero_le _,rfl,rfl,Pp.parsTo_zero L,Below.refl _ _⟩
 case round=>
  obtain⟨k,told,hk,rfl,rfl,HP,hbel⟩:=hrel
  by_cases hlt:k<L.length
  · obtain⟨b,o,rfl,hb,he⟩:=HL.out k hlt
    obtain⟨c0,c1,c2,c3⟩:=he.below hb hbel
    have hsz:=HS.out L[k] (List.getElem_mem hlt);have HZ:Hid (Pp.chk (L[k]).path.data.toList=0):=HC.out L[k] (List.getElem_mem hlt);have b1:=Pp.len_par (L[k]).path.data.toList;rw[←Lib.size_eq]at b1;go_wp2_with fail;refine(parent_any (L[k]).path _ hsz).mono ?_
    rintro e w1 ⟨rfl,hb1⟩;rw[HZ.out,Pp.ifc_yes rfl];obtain⟨d0,d1,d2,d3,hb1w,hlt1⟩:=box4 hb1
    have hbel1:=below_trans hbel hb1w;clear hb1 c0 c1 c2 c3 d0 d1 d2 d3;go_wp2_with fail;refine(checkFolder_any L _ ⟨(Pp.par (L[k]).path.data.toList).toArray⟩ _ (HV.out.below hbel1) HS.out).mono ?_
    rintro e w2 ⟨rfl,hb2⟩;have hbel2:=below_trans hbel1 hb2;clear hbel1 hb2 hb1w;rw[show Pp.foldE L _=Pp.parF L L[k]from rfl];by_cases h5:Pp.parF L L[k]=5
    · have H5:Hid (Pp.parF L L[k]=5):=h5
      clear h5;rw[H5.out];go_wp2_with fail;go_ret;exact⟨Pp.ret_int (Pp.parsTo_hit hlt H5.out),hbel2⟩
    · have H5:Hid (Pp.parF L L[k]≠5):=h5
      by_cases h4:Pp.parF L L[k]=4
      · have H4:Hid (Pp.parF L L[k]=4):=h4
        have HN:=hid (show Pp.parsTo L (k+1) 4 from by have:=Pp.parsTo_step hlt HP.out h5;rwa [if_pos h4]at this);clear h4 h5;rw[H4.out];go_wp2_with fail;go_roundw
        case rel=>exact⟨k+1,4,by omega,by simp,rfl,HN.out,hbel2⟩
        case measure=>simp[intOf];omega
      · have HN:=hid (show Pp.parsTo L (k+1) told from by have:=Pp.parsTo_step hlt HP.out h5;rwa [if_neg h4]at this)
        have H0:=hid (show Pp.parF L L[k]=0 from by rcases Pp.foldE_range L (Pp.par (L[k]).path.data.toList)with h|h|h;exact h;exact absurd h h4;exact absurd h h5);clear h4 h5;rw[H0.out];go_wp2_with fail;go_roundw
        case rel=>exact⟨k+1,told,by omega,by simp,rfl,HN.out,hbel2⟩
        case measure=>simp[intOf];omega
  · go_wp2_with fail
    go_ret;exact⟨Pp.ret_int (Pp.parsTo_end (by omega) HP.out),hbel⟩
end Go.Proofs.YtppdfeehhnofaaaGreatDoor
namespace Go.Proofs.YtppdfeehhnofaaaGreatDoor
open Go.RowKit

namespace Pp
theorem rises_iff: ∀(L:List En),risesB L=true↔ ∀i (h:i+1<L.length),lt L[i] L[i+1]=true
 |[]=>by simp[risesB]
 |[_]=>by simp[risesB]
 |a::b::r=>by
  rw[risesB,Bool.and_eq_true,rises_iff (b::r)];constructor
  · rintro ⟨h1,h2⟩ i hi
    cases i with
    |zero=>exact h1
    |succ i=>exact h2 i (by simpa using hi)
  · intro h
    exact⟨h 0 (by simp),fun i hi=>h (i+1) (by simpa using hi)⟩
theorem rises_no {L:List En} {m:Nat} (h:m+1<L.length) (hl:lt L[m] L[m+1]=false):false=risesB L:=by
 cases e:risesB L with
 |false=>rfl
 |true=>have:=(rises_iff L).1 e m h;rw[hl]at this;cases this
theorem rises_yes {L:List En} (h: ∀i (h:i+1<L.length),lt L[i] L[i+1]=true):true=risesB L:=((rises_iff L).2 h).symm
end Pp

set_option maxHeartbeats 800000 in
theorem rises_any (L:List En) (v:Value) (w:World) (hv:Lies w v L) (hn:L.length≤1000000000):
    Calls Tryz.prog 140 #[v] w fun e w'=>e= .returned (.bool (Pp.risesB L))∧Below w.heap.size w w':=by
 obtain⟨a,cap,rfl,hcap,hcap2,hL⟩:=hv
 have HL:Hid (∀i (h:i<L.length),∃b o,a=some ⟨b,o,none⟩∧b<w.heap.size∧EnAt w b (o+i*4) L[i]):=hL;clear hL;go_enter Tryz.func140,Tryz.ntmps140
 go_wp2_with fail;go_loopw [3] (fun i wr=> ∃m:Nat,m≤L.length∧i= .int .i64 ((m:Int)+1)∧Hid (∀i (h:i+1<L.length),i<m→Pp.lt L[i] L[i+1]=true)∧Below w.heap.size w wr) (fun i _=>L.length+2-(intOf i).toNat)
 case atStart=>exact⟨0,Nat.zero_le _,rfl,(fun i _ h=>absurd h (Nat.not_lt_zero _): ∀i (h:i+1<L.length),i<0→Pp.lt L[i] L[i+1]=true),Below.refl _ _⟩
 case round=>
  obtain⟨m,hm,rfl,HP,hbel⟩:=hrel
  by_cases hlt:m+1<L.length
  · obtain⟨b,o,rfl,hb,he⟩:=HL.out m (by omega)
    obtain⟨c0,c1,c2,c3⟩:=he.below hb hbel
    obtain⟨b',o',hbo,hb',he'⟩:=HL.out (m+1) hlt
    obtain⟨rfl,rfl⟩:b=b'∧o=o':=by simpa using hbo
    obtain⟨d0,d1,d2,d3⟩:=he'.below hb hbel
    have hlt2:(m:Int)+1<L.length:=by omega
    clear c1 c2 c3 d1 d2 d3 hbo;cases hl:Pp.lt L[m] L[m+1]with
    |true=>
     have hl2:Op.bytesLess (L[m]).path.toList (L[m+1]).path.toList=true:=hl;go_wp2_with fail;go_region
     go_wp2;go_roundw
     case rel=>exact⟨m+1,by omega,by simp,(fun i h1 h2=>by
      by_cases e:i=m
      · subst e;exact hl
      · exact HP.out i h1 (by omega): ∀i (h:i+1<L.length),i<m+1→Pp.lt L[i] L[i+1]=true),hbel.drew⟩
     case measure=>simp[intOf];omega
    |false=>
     have hl2:Op.bytesLess (L[m]).path.toList (L[m+1]).path.toList=false:=hl;go_wp2_with fail;go_region
     go_wp2;go_ret;exact⟨Pp.ret_bool (Pp.rises_no hlt hl),hbel.drew⟩
  · go_wp2_with fail
    go_ret;exact⟨Pp.ret_bool (Pp.rises_yes fun i h=>HP.out i h (by omega)),hbel⟩
def Sized (L:List En):Prop:= ∀e∈L,e.path.size≤1000000000000000∧e.text.size≤1000000000000000
set_option maxHeartbeats 1000000 in
theorem tcheck_any (L:List En) (v:Value) (w:World) (hv:Lies w v L) (hn:L.length≤1000000000) (hs:Sized L):
    Calls Tryz.prog 110 #[v] w fun e w'=>e= .returned (.int .i64 (Pp.treeE L))∧Below w.heap.size w w':=by
 have HV:Hid (Lies w v L):=hv;have HS:Hid (Sized L):=hs;obtain⟨a,cap,rfl,hcap,hcap2,hL⟩:=hv
 have HL:Hid (∀i (h:i<L.length),∃b o,a=some ⟨b,o,none⟩∧b<w.heap.size∧EnAt w b (o+i*4) L[i]):=hL;clear hL hs;by_cases h60:60<(L.length:Int)
 · have HE:=hid (show 2=Pp.treeE L from by rw[Pp.treeE,if_pos (by omega)])
   go_enter Tryz.func110,Tryz.ntmps110
   go_wp2_with fail;go_ret;exact⟨Pp.ret_int HE.out,Below.refl _ _⟩
 have HT:=hid (show Pp.treeE L=if Pp.entsE L=0 then(if Pp.risesB L=true then Pp.parsE L L else 4)else Pp.entsE L from by rw[Pp.treeE,if_neg (by omega)]);go_enter Tryz.func110,Tryz.ntmps110
 go_wp2_with fail;go_loopw [11] (fun i wr=> ∃k:Nat,k≤L.length∧i= .int .i64 k∧Hid (Pp.entsE L=Pp.entsE (L.drop k))∧Below w.heap.size w wr) (fun i _=>L.length-(intOf i).toNat)
 case atStart=>exact⟨0,Nat.zero_le _,rfl,(rfl:Pp.entsE L=Pp.entsE (L.drop 0)),Below.refl _ _⟩
 case round=>
  obtain⟨k,hk,rfl,HQ,hbel⟩:=hrel
  by_cases hlt:k<L.length
  · obtain⟨b,o,rfl,hb,he⟩:=HL.out k hlt
    obtain⟨c0,c1,c2,c3⟩:=he.below hb hbel
    have HD:Hid (L.drop k=L[k]::L.drop (k+1)):=List.drop_eq_getElem_cons hlt;have hsz:=HS.out L[k] (List.getElem_mem hlt);by_cases hz:Pp.entE L[k]=0
    · have HZ:Hid (Pp.entE L[k]=0):=hz
      clear hz;go_wp2_with fail;refine(checkEntry_any (L[k]).path (L[k]).folder (L[k]).text (L[k]).ver _ hsz.1 hsz.2).mono ?_
      rintro e w1 ⟨rfl,hb1⟩;rw[show Pp.entE _=0 from HZ.out];obtain⟨d0,d1,d2,d3,hb1w,hlt1⟩:=box4 hb1
      have hbel1:=below_trans hbel hb1w;clear hb1 c0 c1 c2 c3 d0 d1 d2 d3;go_wp2_with fail;go_roundw
      case rel=>exact⟨k+1,by omega,by simp,(by rw[HQ.out,HD.out,Pp.entsE,if_pos HZ.out]:Pp.entsE L=Pp.entsE (L.drop (k+1))),hbel1⟩
      case measure=>simp[intOf];omega
    · have HZ:Hid (¬Pp.entE L[k]=0):=hz
      have hz2:(Pp.entE L[k]==0)=false:=by simpa using hz
      have HE:=hid (show Pp.entE L[k]=Pp.treeE L from by
       have e1:Pp.entsE L=Pp.entE L[k]:=by rw[HQ.out,HD.out,Pp.entsE,if_neg hz]
       rw[HT.out,if_neg (by rw[e1];exact hz),e1])
      go_wp2_with fail;refine(checkEntry_any (L[k]).path (L[k]).folder (L[k]).text (L[k]).ver _ hsz.1 hsz.2).mono ?_
      rintro e w1 ⟨rfl,hb1⟩;rw[show Pp.entE _=Pp.entE L[k]from rfl];obtain⟨d0,d1,d2,d3,hb1w,hlt1⟩:=box4 hb1
      have hbel1:=below_trans hbel hb1w;clear hb1 c0 c1 c2 c3 d0 d1 d2 d3;go_wp2_with fail;go_ret;exact⟨Pp.ret_int HE.out,hbel1⟩
  · have h0:Pp.entsE L=0:=by rw[HQ.out,List.drop_of_length_le (by omega)];rfl
    have hT2:Pp.treeE L=if Pp.risesB L=true then Pp.parsE L L else 4:=by rw[HT.out,if_pos h0]
    have HC:=hid (show∀e∈L,Pp.chk e.path.data.toList=0 from fun e he=>Pp.entE_path (Pp.entsE_all h0 e he));clear h0;cases hr:Pp.risesB L with
    |true=>
     have HR:Hid (Pp.risesB L=true):=hr;have HE:=hid (show Pp.parsE L L=Pp.treeE L from by rw[hT2,if_pos hr]);clear hr hT2;go_wp2_with fail;refine(rises_any L _ _ (HV.out.below hbel) hn).mono ?_
     rintro e w1 ⟨rfl,hb1⟩;rw[HR.out];have hbel1:=below_trans hbel hb1;clear hbel hb1;go_wp2_with fail;refine(checkParents_any L _ _ (HV.out.below hbel1) (by omega) (fun e he=>(HS.out e he).1) HC.out).mono ?_
     rintro e w2 ⟨rfl,hb2⟩;go_wp2_with fail;go_ret;exact⟨Pp.ret_int HE.out,below_trans hbel1 hb2⟩
    |false=>
     have HR:Hid (Pp.risesB L=false):=hr;have HE:=hid (show 4=Pp.treeE L from by rw[hT2,if_neg (by rw[hr];decide)]);clear hr hT2;go_wp2_with fail;refine(rises_any L _ _ (HV.out.below hbel) hn).mono ?_
     rintro e w1 ⟨rfl,hb1⟩;rw[HR.out];go_wp2_with fail;go_ret;exact⟨Pp.ret_int HE.out,below_trans hbel hb1⟩
end Go.Proofs.YtppdfeehhnofaaaGreatDoor
namespace Go.Proofs.YtppdfeehhnofaaaGreatDoor
open Go.RowKit

namespace Pp
def cells (e:En):List Value:=[.string e.path,.bool e.folder,.string e.text,.int .i64 e.ver]
def flat (L:List En):List Value:=L.flatMap cells
theorem flat_snoc (L:List En) (e:En):flat L++cells e=flat (L++[e]):=by simp[flat]
theorem cells_one (e:En): ∀u∈cells e,u.oneCell'=true:=by
 intro u hu;simp only[cells,List.mem_cons,List.not_mem_nil,or_false]at hu;rcases hu with rfl|rfl|rfl|rfl<;>rfl
theorem new_cells (w:World) (e:En) (T:TypeId): ∀j u,(cells e)[j]?=some u→(w.alloc (.cells #[.string e.path,.bool e.folder,.string e.text,.int .i64 e.ver] T)).cell? ((⟨w.heap.size,0,none⟩:Addr).add j)=some u:=by
 intro j u hj;match j,hj with
 |0,hj=>simp[cells]at hj;subst hj;simp[Addr.add]
 |1,hj=>simp[cells]at hj;subst hj;simp[Addr.add]
 |2,hj=>simp[cells]at hj;subst hj;simp[Addr.add]
 |3,hj=>simp[cells]at hj;subst hj;simp[Addr.add]
 |j+4,hj=>simp[cells]at hj
theorem filter_hit {L:List En} {k:Nat} (h:k<L.length) {pr:En→Bool} (hp:pr L[k]=true):(L.take (k+1)).filter pr=(L.take k).filter pr++[L[k]]:=by
 rw[List.take_succ_eq_append_getElem h,List.filter_append];simp[hp]
theorem filter_miss {L:List En} {k:Nat} (h:k<L.length) {pr:En→Bool} (hp:pr L[k]=false):(L.take (k+1)).filter pr=(L.take k).filter pr:=by
 rw[List.take_succ_eq_append_getElem h,List.filter_append];simp[hp]
end Pp

theorem Tryz.infoE:(Tryz.prog.info? 128).map (fun i=>(i.zero,i.size,i.bytes))=some (some (.agg #[.string ⟨#[]⟩,.bool false,.string ⟨#[]⟩,.int .i64 0]),4,48):=by kernel_rfl
namespace Pp
end Pp
end Go.Proofs.YtppdfeehhnofaaaGreatDoor
namespace Go.Proofs.YtppdfeehhnofaaaGreatDoor
open Go.RowKit

set_option maxHeartbeats 400000 in
theorem checked_ok (s:ByteArray) (w:World) (hs:s.size≤1000000000000000) (h:Pp.chk s.data.toList=0):
    Calls Tryz.prog 150 #[.string s] w fun e w'=>e= .returned (.tuple #[.string s,.int .i64 0])∧Below w.heap.size w w':=by
 have HZ:Hid (Pp.chk s.data.toList=0):=h;clear h;go_enter Tryz.func150,Tryz.ntmps150
 go_wp2_with fail;refine(check_any _ _ hs).mono ?_
 rintro e w1 ⟨rfl,hb1⟩;rw[HZ.out];go_wp2;go_ret2;exact⟨rfl,hb1⟩
set_option maxHeartbeats 400000 in
theorem checked_no (s:ByteArray) (w:World) (hs:s.size≤1000000000000000) (h: ¬Pp.chk s.data.toList=0):
    Calls Tryz.prog 150 #[.string s] w fun e w'=>e= .returned (.tuple #[.string ⟨#[]⟩,.int .i64 (Pp.chk s.data.toList)])∧Below w.heap.size w w':=by
 have hz:(Pp.chk s.data.toList==0)=false:=by simpa using h
 clear h;go_enter Tryz.func150,Tryz.ntmps150
 go_wp2_with fail;refine(check_any _ _ hs).mono ?_
 rintro e w1 ⟨rfl,hb1⟩;go_wp2;go_ret2;exact⟨rfl,hb1⟩
theorem checkAll2 (s t:ByteArray) (ty:TypeId) (w:World) (hs:s.size≤1000000000000000) (ht:t.size≤1000000000000000):
    Calls Tryz.prog 148 #[.slice (some ⟨w.heap.size,0,none⟩) 2 2] (w.alloc (.cells #[.string s,.string t] ty)) fun e w'=>e= .returned (.int .i64 (Pp.chks [s.data.toList,t.data.toList]))∧Below w.heap.size w w':=by
 refine(checkAll_any [s,t] w.heap.size 2 _ (by simp) (by simp) (fun i h=>?_) (fun i h=>?_)).mono ?_
 · match i,h with
   |0,_=>exact hs
   |1,_=>exact ht
 · match i,h with
   |0,_=>simp
   |1,_=>simp
 · rintro e w' ⟨rfl,hb⟩
   exact⟨rfl,((Below.refl _ _).alloc (Nat.le_refl _) _).trans (hb.mono (by simp))⟩
theorem checkAll3 (s t u:ByteArray) (ty:TypeId) (w:World) (hs:s.size≤1000000000000000) (ht:t.size≤1000000000000000) (hu:u.size≤1000000000000000):
    Calls Tryz.prog 148 #[.slice (some ⟨w.heap.size,0,none⟩) 3 3] (w.alloc (.cells #[.string s,.string t,.string u] ty)) fun e w'=>e= .returned (.int .i64 (Pp.chks [s.data.toList,t.data.toList,u.data.toList]))∧Below w.heap.size w w':=by
 refine(checkAll_any [s,t,u] w.heap.size 3 _ (by simp) (by simp) (fun i h=>?_) (fun i h=>?_)).mono ?_
 · match i,h with
   |0,_=>exact hs
   |1,_=>exact ht
   |2,_=>exact hu
 · match i,h with
   |0,_=>simp
   |1,_=>simp
   |2,_=>simp
 · rintro e w' ⟨rfl,hb⟩
   exact⟨rfl,((Below.refl _ _).alloc (Nat.le_refl _) _).trans (hb.mono (by simp))⟩
set_option maxHeartbeats 400000 in
theorem pwithin_any (s t:ByteArray) (w:World) (hs:s.size≤1000000000000000) (ht:t.size≤1000000000000000):
    Calls Tryz.prog 252 #[.string s,.string t] w fun e w'=>e= .returned (.bool (Pp.isInB s.data.toList t.data.toList))∧w'=w:=by
 have HI:=Pp.isIn_eq s.data.toList t.data.toList;cases hc:(s.toList==t.toList)with
 |true=>
  have HR:=hid (show true=Pp.isInB s.data.toList t.data.toList from by rw[←HI,←Lib.toList_data,←Lib.toList_data,hc];rfl);clear HI;go_enter Tryz.func252,Tryz.ntmps252
  go_wp2_with fail;go_ret;exact⟨Pp.ret_bool HR.out,rfl⟩
 |false=>
  have HR:=hid (show Lib.hasPrefix s.data.toList (t++⟨#[47]⟩).data.toList=Pp.isInB s.data.toList t.data.toList from by
   rw[←HI,Joins.data_append];rw[Lib.toList_data,Lib.toList_data]at hc;rw[hc];simp)
  clear HI;go_enter Tryz.func252,Tryz.ntmps252
  go_wp2_with fail;refine(Tryz.strings_HasPrefix _ _ _).mono ?_
  rintro e w1 ⟨rfl,rfl⟩;rw[HR.out];go_wp2;go_ret;exact⟨rfl,rfl⟩
set_option maxHeartbeats 400000 in
theorem within_any (s t:ByteArray) (w:World) (hs:s.size≤1000000000000000) (ht:t.size≤1000000000000000):
    Calls Tryz.prog 241 #[.string s,.string t] w fun e w'=>e= .returned (.tuple #[.bool (Pp.chks [s.data.toList,t.data.toList]==0 && Pp.isInB s.data.toList t.data.toList),.int .i64 (Pp.chks [s.data.toList,t.data.toList])])∧Below w.heap.size w w':=by
 cases hz:(Pp.chks [s.data.toList,t.data.toList]==0)with
 |true=>
  have HZ:=hid (show Pp.chks [s.data.toList,t.data.toList]=0 from by simpa using hz);clear hz;go_enter Tryz.func241,Tryz.ntmps241
  go_wp2_with fail;refine(checkAll2 s t _ _ hs ht).mono ?_
  rintro e w1 ⟨rfl,hb1⟩;rw[HZ.out];go_wp2_with fail;refine(pwithin_any s t _ hs ht).mono ?_
  rintro e w2 ⟨rfl,rfl⟩;go_wp2;go_ret2;exact⟨by rw[HZ.out];rfl,hb1⟩
 |false=>
  go_enter Tryz.func241,Tryz.ntmps241
  go_wp2_with fail;refine(checkAll2 s t _ _ hs ht).mono ?_
  rintro e w1 ⟨rfl,hb1⟩;go_wp2;go_ret2;exact⟨rfl,hb1⟩
namespace Pp
theorem mv_cut (p f t:ByteArray) (h:isInB p.data.toList f.data.toList=true):f.size≤p.size∧t++p.extract f.size p.size=⟨(mvT p.data.toList f.data.toList t.data.toList).toArray⟩:=by
 have hle:f.data.toList.length≤p.data.toList.length:=by
  rcases(isIn_of _ _).1 h with e|⟨r,e⟩
  · rw[e];exact Nat.le_refl _
  · rw[e];simp
 refine⟨by rw[Lib.size_eq,Lib.size_eq];exact hle,bytes_eq ?_⟩
 rw[Joins.data_append,Lib.extract_data,mvT,Lib.size_eq f,Lib.size_eq p,List.take_of_length_le (by rw[List.length_drop];exact Nat.le_refl _)]
theorem len_mv (p f t:List UInt8):(mvT p f t).length≤t.length+p.length:=by simp[mvT]
theorem mvE_no {p f t:List UInt8} (h: ¬chks [p,f,t]=0):mvE p f t=chks [p,f,t]:=by rw[mvE,if_neg h]
theorem mvE_out {p f t:List UInt8} (h:chks [p,f,t]=0) (hi:isInB p f=false):mvE p f t=5:=by rw[mvE,if_pos h,if_neg (by rw[hi];decide)]
theorem mvE_in {p f t:List UInt8} (h:chks [p,f,t]=0) (hi:isInB p f=true):mvE p f t=chk (mvT p f t):=by rw[mvE,if_pos h,if_pos hi]
end Pp

set_option maxHeartbeats 800000 in
theorem moved_any (p f t:ByteArray) (w:World) (hp:p.size≤200000000000000) (hf:f.size≤200000000000000) (ht:t.size≤200000000000000):
    Calls Tryz.prog 244 #[.string p,.string f,.string t] w fun e w'=>e= .returned (.tuple #[.string ⟨(Pp.ifc (Pp.mvE p.data.toList f.data.toList t.data.toList) (Pp.mvT p.data.toList f.data.toList t.data.toList)).toArray⟩,.int .i64 (Pp.mvE p.data.toList f.data.toList t.data.toList)])∧Below w.heap.size w w':=by
 have hlen:=Pp.len_mv p.data.toList f.data.toList t.data.toList;rw[←Lib.size_eq,←Lib.size_eq]at hlen;by_cases hz:Pp.chks [p.data.toList,f.data.toList,t.data.toList]=0
 · have HZ:Hid (Pp.chks [p.data.toList,f.data.toList,t.data.toList]=0):=hz
   cases hi:Pp.isInB p.data.toList f.data.toList with
   |false=>
    have HI:Hid (Pp.isInB p.data.toList f.data.toList=false):=hi;have HE:Hid (Pp.mvE p.data.toList f.data.toList t.data.toList=5):=Pp.mvE_out hz hi;clear hz hi;go_enter Tryz.func244,Tryz.ntmps244
    go_wp2_with fail;refine(checkAll3 p f t _ _ (by omega) (by omega) (by omega)).mono ?_
    rintro e w1 ⟨rfl,hb1⟩;rw[HZ.out];go_wp2_with fail;refine(pwithin_any p f _ (by omega) (by omega)).mono ?_
    rintro e w2 ⟨rfl,rfl⟩;rw[HI.out];go_wp2;go_ret2;exact⟨by rw[HE.out,Pp.ifc_no (by decide)];rfl,hb1⟩
   |true=>
    have HI:Hid (Pp.isInB p.data.toList f.data.toList=true):=hi;have HE:Hid (Pp.mvE p.data.toList f.data.toList t.data.toList=Pp.chk (Pp.mvT p.data.toList f.data.toList t.data.toList)):=Pp.mvE_in hz hi;obtain⟨hle,hcut⟩:=Pp.mv_cut p f t hi
    have HCUT:Hid (t++p.extract f.size p.size=⟨(Pp.mvT p.data.toList f.data.toList t.data.toList).toArray⟩):=hcut;clear hz hi hcut;have hle2:(f.size:Int)≤p.size:=by omega
    by_cases hq:Pp.chk (Pp.mvT p.data.toList f.data.toList t.data.toList)=0
    · have HQ:Hid (Pp.chk (Pp.mvT p.data.toList f.data.toList t.data.toList)=0):=hq
      clear hq;go_enter Tryz.func244,Tryz.ntmps244
      go_wp2_with fail;refine(checkAll3 p f t _ _ (by omega) (by omega) (by omega)).mono ?_
      rintro e w1 ⟨rfl,hb1⟩;rw[HZ.out];go_wp2_with fail;refine(pwithin_any p f _ (by omega) (by omega)).mono ?_
      rintro e w2 ⟨rfl,rfl⟩;rw[HI.out];go_wp2_with fail;rw[HCUT.out];refine(checked_ok ⟨(Pp.mvT p.data.toList f.data.toList t.data.toList).toArray⟩ _ (by rw[Pp.sz];omega) HQ.out).mono ?_
      rintro e w4 ⟨rfl,hb4⟩;go_wp2;go_ret2;exact⟨by rw[HE.out,HQ.out,Pp.ifc_yes rfl];rfl,below_trans hb1 hb4⟩
    · have HQ:Hid (¬Pp.chk (Pp.mvT p.data.toList f.data.toList t.data.toList)=0):=hq
      clear hq;go_enter Tryz.func244,Tryz.ntmps244
      go_wp2_with fail;refine(checkAll3 p f t _ _ (by omega) (by omega) (by omega)).mono ?_
      rintro e w1 ⟨rfl,hb1⟩;rw[HZ.out];go_wp2_with fail;refine(pwithin_any p f _ (by omega) (by omega)).mono ?_
      rintro e w2 ⟨rfl,rfl⟩;rw[HI.out];go_wp2_with fail;rw[HCUT.out];refine(checked_no ⟨(Pp.mvT p.data.toList f.data.toList t.data.toList).toArray⟩ _ (by rw[Pp.sz];omega) HQ.out).mono ?_
      rintro e w4 ⟨rfl,hb4⟩;go_wp2;go_ret2;exact⟨by rw[HE.out,Pp.ifc_no HQ.out];rfl,below_trans hb1 hb4⟩
 · have HE:Hid (Pp.mvE p.data.toList f.data.toList t.data.toList=Pp.chks [p.data.toList,f.data.toList,t.data.toList]):=Pp.mvE_no hz
   have HZ:Hid (¬Pp.chks [p.data.toList,f.data.toList,t.data.toList]=0):=hz;have hz2:(Pp.chks [p.data.toList,f.data.toList,t.data.toList]==0)=false:=by simpa using hz
   clear hz;go_enter Tryz.func244,Tryz.ntmps244
   go_wp2_with fail;refine(checkAll3 p f t _ _ (by omega) (by omega) (by omega)).mono ?_
   rintro e w1 ⟨rfl,hb1⟩;go_wp2;go_ret2;exact⟨by rw[HE.out,Pp.ifc_no HZ.out];rfl,hb1⟩
end Go.Proofs.YtppdfeehhnofaaaGreatDoor
