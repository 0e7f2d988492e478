/- What the document's own TooGreat and CheckPath answer, for every text. -/
import Derived.Test.YtagibnejodgeeaaGreatDoorRUG
import Derived.Test.YtagibnejodgeeaaGreatDoorRUA
import Derived.Test.YtagibnejodgeeaaGreatDoorRUB
import Derived.BigQuiet
import Derived.Deep.QuietTactic
import Derived.Test.YtagibnejodgeeaaGreatDoorRUF
import Derived.Test.YtagibnejodgeeaaGreatDoorRUC
set_option linter.unusedSimpArgs false
set_option linter.unusedVariables false
namespace Go.Proofs.YtagibnejodgeeaaGreatDoor
open Go.RowKit

theorem Pp.nm_mem_len: ∀(l:List UInt8) (x:List UInt8),x∈Pp.nm l→x.length≤l.length
 |[],x,h=>by simp[Pp.nm]at h;simp[h]
 |c::r,x,h=>by
  rw[Pp.nm]at h;split at h
  · rcases List.mem_cons.1 h with h|h
    · simp[h]
    · have:=Pp.nm_mem_len r x h;simp;omega
  · cases e:Pp.nm r with
    |nil=>exact absurd e (Pp.nm_ne r)
    |cons y t=>
     rw[e]at h;rcases List.mem_cons.1 h with h|h
     · have:=Pp.nm_mem_len r y (by rw[e];simp);rw[h];simp;omega
     · have:=Pp.nm_mem_len r x (by rw[e];simp[h]);simp;omega
theorem rNames_at (s:ByteArray) (w:World) (hs:s.size≤1000000000):
    Calls Tryz.prog 38 #[.string s] w fun e w'=> ∃g cap,e= .returned (.slice (some ⟨g,0,none⟩) (Pp.nm s.data.toList).length cap)∧(Pp.nm s.data.toList).length≤cap∧cap≤maxLen∧w.heap.size≤g∧g<w'.heap.size∧
     (∀i (h:i<(Pp.nm s.data.toList).length),w'.cell? ⟨g,i,none⟩=some (.string ⟨((Pp.nm s.data.toList)[i]).toArray⟩))∧Below w.heap.size w w':=by
 refine(rNames_any s w hs).mono ?_
 rintro e w' ⟨v,rfl,hown,hb⟩;obtain⟨hl,h2⟩:=hown
 rcases h2 with⟨_,h0⟩|⟨g,cap,cur,rfl,hg,hh,hn,hm,hz,htake⟩
 · exact absurd (List.length_eq_zero_iff.1 h0) (Pp.nm_ne _)
 · have hlt:g<w'.heap.size:=by
    rcases Nat.lt_or_ge g w'.heap.size with h|h
    · exact h
    · rw[Array.getElem?_eq_none h]at hh;cases hh
   refine⟨g,cap,rfl,hn,hm,hg,hlt,fun i h=>?_,hb⟩
   have ho:w'.ownsRow w.heap.size 9 1 (.slice (some ⟨g,0,none⟩) (Pp.nm s.data.toList).length cap) (Pp.nm s.data.toList).length (Pp.vs (Pp.nm s.data.toList)):=⟨hl,.inr ⟨g,cap,cur,rfl,hg,hh,hn,hm,hz,htake⟩⟩
   rw[ho.cellAt i (by omega)];simp[Pp.vs,h]
set_option maxHeartbeats 400000 in
theorem rTooGreat_any (s:ByteArray) (w:World) (hs:s.size≤1000000000):
    Calls Tryz.prog 39 #[.string s] w fun e w'=>e= .returned (.bool (Pp.big s.data.toList))∧Below w.heap.size w w':=by
 have hn:(Pp.nm s.data.toList).length≤s.size+1:=by have:=Pp.nm_len_le s.data.toList;rwa [←Lib.size_eq]at this
 have hb1:(6:Int)<(Pp.nm s.data.toList).length→true=Pp.big s.data.toList:=fun h=>by
  symm;simp only[Pp.big,Bool.or_eq_true,decide_eq_true_eq];omega
 have hb2:(80:Int)<s.size→true=Pp.big s.data.toList:=fun h=>by
  symm;simp only[Pp.big,Bool.or_eq_true,decide_eq_true_eq,←Lib.size_eq];omega
 have hb3:((Pp.nm s.data.toList).length:Int)≤6→(s.size:Int)≤80→false=Pp.big s.data.toList:=fun h1 h2=>by
  symm;simp only[Pp.big,Bool.or_eq_false_iff,decide_eq_false_iff_not,←Lib.size_eq];omega
 by_cases c1:(6:Int)<(Pp.nm s.data.toList).length
 · have H:Hid (true=Pp.big s.data.toList):=hb1 c1
   clear hb1 hb2 hb3;go_enter Tryz.func39,Tryz.ntmps39
   go_wp2_with fail;refine(rNames_at s _ hs).mono ?_
   rintro e w1 ⟨g,cap,rfl,_,_,_,_,_,hb⟩;go_wp2;go_ret;exact⟨Pp.ret_bool H.out,hb⟩
 by_cases c2:(80:Int)<s.size
 · have H:Hid (true=Pp.big s.data.toList):=hb2 c2
   clear hb1 hb2 hb3;go_enter Tryz.func39,Tryz.ntmps39
   go_wp2_with fail;refine(rNames_at s _ hs).mono ?_
   rintro e w1 ⟨g,cap,rfl,_,_,_,_,_,hb⟩;go_wp2;go_ret;exact⟨Pp.ret_bool H.out,hb⟩
 · have H:Hid (false=Pp.big s.data.toList):=hb3 (by omega) (by omega)
   clear hb1 hb2 hb3;go_enter Tryz.func39,Tryz.ntmps39
   go_wp2_with fail;refine(rNames_at s _ hs).mono ?_
   rintro e w1 ⟨g,cap,rfl,_,_,_,_,_,hb⟩;go_wp2;go_ret;exact⟨Pp.ret_bool (by rw[←H.out];simp;omega),hb⟩
set_option maxHeartbeats 600000 in
theorem rCheck_any (s:ByteArray) (w:World) (hs:s.size≤1000000000):
    Calls Tryz.prog 29 #[.string s] w fun e w'=>e= .returned (.int .i64 (Pp.chk s.data.toList))∧Below w.heap.size w w':=by
 have hn:(Pp.nm s.data.toList).length≤s.size+1:=by have:=Pp.nm_len_le s.data.toList;rwa [←Lib.size_eq]at this
 obtain⟨L,hL⟩: ∃L,L=Pp.nm s.data.toList:=⟨_,rfl⟩
 have HL:Hid (L=Pp.nm s.data.toList):=hL;rw[←hL]at hn
 have hsz: ∀i (h:i<L.length),(L[i]).length≤s.size:=by
  intro i h;have:=Pp.nm_mem_len s.data.toList L[i] (by rw[←hL];exact List.getElem_mem h)
  rwa [←Lib.size_eq]at this
 clear hL;go_enter Tryz.func29,Tryz.ntmps29
 go_wp2_with fail;refine(rNames_at s _ hs).mono ?_
 rintro e w1 ⟨g,cap,rfl,hc1,hc2,hg1,hg2,hcell,hb⟩;rw[←HL.out]at hc1 hcell⊢;have HC:Hid (∀i (h:i<L.length),w1.cell? ⟨g,i,none⟩=some (.string ⟨(L[i]).toArray⟩)):=hcell;clear hcell;go_wp2_with fail;go_loopw [4] (fun i wr=> ∃k:Nat,k≤L.length∧i= .int .i64 k∧Hid ((L.take k).all Pp.nameB=true)∧wr=w1) (fun i _=>L.length-(intOf i).toNat)
 case atStart=>exact⟨0,Nat.zero_le _,rfl,rfl,rfl⟩
 case round=>
  obtain⟨k,hk,rfl,HA,rfl⟩:=hrel
  by_cases hlt:k<L.length
  · have hce:=HC.out k hlt
    cases hnm:Pp.nameB L[k]with
    |true=>
     have HN:Hid (Pp.nameB L[k]=true):=hnm;clear hnm;go_wp2_with fail;refine(rIsName_any _ _ (by rw[Pp.sz];have:=hsz k hlt;omega)).mono ?_
     rintro e w2 ⟨rfl,rfl⟩;simp only[HN.out];go_wp2_with fail;go_roundw
     case rel=>exact⟨k+1,by omega,by simp,(by rw[List.take_succ_eq_append_getElem hlt];exact Pp.all_add HA.out HN.out:(L.take (k+1)).all Pp.nameB=true),trivial⟩
     case measure=>simp[intOf];omega
    |false=>
     have HN:Hid (Pp.nameB L[k]=false):=hnm;clear hnm;go_wp2_with fail;refine(rIsName_any _ _ (by rw[Pp.sz];have:=hsz k hlt;omega)).mono ?_
     rintro e w2 ⟨rfl,rfl⟩;simp only[HN.out];go_wp2_with fail;go_ret;exact⟨Pp.ret_int (Pp.chk_one s (dn:=L.take k) (r:=L.drop (k+1)) (n:=L[k]) (by rw[←HL.out,←List.drop_eq_getElem_cons hlt,List.take_append_drop]) HN.out),hb⟩
  · have HB:=hid (show L.all Pp.nameB=true from by have:=HA.out;rwa [List.take_of_length_le (by omega)]at this)
    cases hbig:Pp.big s.data.toList with
    |true=>
     have HG:Hid (Pp.big s.data.toList=true):=hbig;clear hbig;go_wp2_with fail;refine(rTooGreat_any s _ hs).mono ?_
     rintro e w2 ⟨rfl,hb2⟩;simp only[HG.out];go_wp2;go_ret;exact⟨Pp.ret_int (by rw[Pp.chk,←HL.out,if_pos HB.out,if_pos HG.out]),hb.trans (hb2.mono hb.size)⟩
    |false=>
     have HG:Hid (Pp.big s.data.toList=false):=hbig;clear hbig;go_wp2_with fail;refine(rTooGreat_any s _ hs).mono ?_
     rintro e w2 ⟨rfl,hb2⟩;simp only[HG.out];go_wp2;go_ret;exact⟨Pp.ret_int (by rw[Pp.chk,←HL.out,if_pos HB.out,if_neg (by rw[HG.out];decide)]),hb.trans (hb2.mono hb.size)⟩
set_option maxHeartbeats 400000 in
theorem pathOf_any (L:List (List UInt8)) (g o cap:Nat) (w:World) (hL:(Pp.join L).length≤1000000000) (hn:L.length≤1000000000) (hcell: ∀i (h:i<L.length),w.cell? ⟨g,o+i,none⟩=some (.string ⟨(L[i]).toArray⟩)):
    Calls Tryz.prog 37 #[.slice (some ⟨g,o,none⟩) L.length cap] w fun e w'=>e= .returned (.string ⟨(Pp.join L).toArray⟩)∧w'=w:=by
 have HC:Hid (∀i (h:i<L.length),w.cell? ⟨g,o+i,none⟩=some (.string ⟨(L[i]).toArray⟩)):=hcell;clear hcell;go_enter Tryz.func37,Tryz.ntmps37
 go_wp2_with fail;go_loop [3,4] (fun s i=> ∃k:Nat,k≤L.length∧i= .int .i64 k∧s= .string ⟨(Pp.join (L.take k)).toArray⟩) (fun _ i=>L.length-(intOf i).toNat)
 case atStart=>exact⟨0,Nat.zero_le _,rfl,rfl⟩
 case round=>
  obtain⟨k,hk,rfl,rfl⟩:=hrel
  by_cases hlt:k<L.length
  · have hce:=HC.out k hlt
    have b1:=Pp.join_take_le L k;have b2:=Pp.join_take_le L (k+1);have b3:=Pp.mem_join_len L k hlt;by_cases hk0:0<k
    · have HJ:Hid ((⟨(Pp.join (L.take k)).toArray⟩:ByteArray)++⟨#[47]⟩++⟨(L[k]).toArray⟩=⟨(Pp.join (L.take (k+1))).toArray⟩):=Pp.join_step L k hlt hk0
      have hk1:0<(k:Int):=by omega
      go_wp2;go_round
      case rel=>exact⟨k+1,by omega,by go_num,by rw[←HJ.out]⟩
      case measure=>simp[intOf];omega
    · obtain rfl:k=0:=by omega
      have HJ:Hid ((⟨#[]⟩:ByteArray)++⟨(L[0]).toArray⟩=⟨(Pp.join (L.take 1)).toArray⟩):=Pp.join_first L hlt;have hce0:w.cell? ⟨g,o,none⟩=some (.string ⟨(L[0]).toArray⟩):=hce;have b4:(Pp.join []).length=0:=rfl;clear hce;go_wp2;go_round
      case rel=>exact⟨0+1,by omega,by go_num,by rw[←HJ.out];rfl⟩
      case measure=>simp[intOf];omega
  · go_wp2
    go_ret;exact⟨by rw[List.take_of_length_le (by omega)];rfl,rfl⟩
set_option maxHeartbeats 400000 in
theorem parentOf_any (s:ByteArray) (w:World) (hs:s.size≤1000000000):
    Calls Tryz.prog 32 #[.string s] w fun e w'=>e= .returned (.string ⟨(Pp.par s.data.toList).toArray⟩)∧Below w.heap.size w w':=by
 have hn:(Pp.nm s.data.toList).length≤s.size+1:=by have:=Pp.nm_len_le s.data.toList;rwa [←Lib.size_eq]at this
 have hp:=Pp.len_par s.data.toList;rw[←Lib.size_eq]at hp;have h1:1≤(Pp.nm s.data.toList).length:=Nat.pos_of_ne_zero (fun e=>Pp.nm_ne _ (List.length_eq_zero_iff.1 e));have HP:Hid (Pp.join (Pp.nm s.data.toList).dropLast=Pp.par s.data.toList):=rfl;have HD:=hid (show∀i (h:i<(Pp.nm s.data.toList).dropLast.length) (h2:i<(Pp.nm s.data.toList).length),(Pp.nm s.data.toList).dropLast[i]=(Pp.nm s.data.toList)[i]from fun i h h2=>List.getElem_dropLast h);have HL:Hid ((Pp.nm s.data.toList).dropLast.length=(Pp.nm s.data.toList).length-1):=List.length_dropLast;go_enter Tryz.func32,Tryz.ntmps32
 go_wp2_with fail;refine(rNames_at s _ hs).mono ?_
 rintro e w1 ⟨g,cap,rfl,hc1,hc2,hg1,hg2,hcell,hb⟩;have HC:Hid (∀i (h:i<(Pp.nm s.data.toList).length),w1.cell? ⟨g,i,none⟩=some (.string ⟨((Pp.nm s.data.toList)[i]).toArray⟩)):=hcell;clear hcell;go_wp2_with fail;rw[←HL.out];refine(pathOf_any (Pp.nm s.data.toList).dropLast g 0 cap _ (by rw[HP.out];omega) (by rw[HL.out];omega) (fun i h=>?_)).mono ?_
 · have h2:i<(Pp.nm s.data.toList).length:=by rw[HL.out]at h;omega
   rw[Nat.zero_add,HD.out i h h2];exact HC.out i h2
 rintro e w2 ⟨rfl,rfl⟩;rw[HP.out,HL.out];go_wp2;go_ret;exact⟨rfl,hb⟩
set_option maxHeartbeats 800000 in
theorem isFolder_any (L:List En) (v:Value) (q:ByteArray) (w:World) (hv:Lies w v L):
    Calls Tryz.prog 31 #[v,.string q] w fun e w'=>e= .returned (.int .i64 (Pp.foldE L q.data.toList))∧Below w.heap.size w w':=by
 have HV:Hid (Lies w v L):=hv;cases hc:q.toList.isEmpty with
 |true=>
  have HE:=hid (show 0=Pp.foldE L q.data.toList from by rw[Pp.foldE,if_pos ((Pp.empty_iff q).1 hc)]);clear hv;go_enter Tryz.func31,Tryz.ntmps31
  go_wp2;go_ret;exact⟨Pp.ret_int HE.out,Below.refl _ _⟩
 |false=>
  have hne:=Pp.not_empty hc;rcases Pp.idx_cases L q.data.toList with⟨hi,hf⟩|⟨k,hk,hi,hf⟩
  · have HI:Hid (Pp.idx L q.data.toList= -1):=hi
    have HE:=hid (show 5=Pp.foldE L q.data.toList from by rw[Pp.foldE,if_neg hne,hf]);clear hf hne hi hv;go_enter Tryz.func31,Tryz.ntmps31
    go_wp2_with fail;refine(entryAt_any L v q _ HV.out).mono ?_
    rintro e w1 ⟨rfl,hb1⟩;rw[HI.out];go_wp2_with fail;go_ret;exact⟨Pp.ret_int HE.out,hb1⟩
  · have HI:Hid (Pp.idx L q.data.toList=(k:Int)):=hi
    have hE:Pp.foldE L q.data.toList=if(L[k]).folder=true then 0 else 4:=by rw[Pp.foldE,if_neg hne,hf]
    obtain⟨a,cap,rfl,hcap,hcap2,hL⟩:=hv
    obtain⟨b,o,rfl,hb,he⟩:=hL k hk
    have hkk:(k:Int)<L.length:=by omega
    clear hf hne hi hL;cases hx:(L[k]).folder with
    |true=>
     have HE:=hid (show 0=Pp.foldE L q.data.toList from by rw[hE,hx];rfl);clear hE;go_enter Tryz.func31,Tryz.ntmps31
     go_wp2_with fail;refine(entryAt_any L _ q _ HV.out).mono ?_
     rintro e w1 ⟨rfl,hb1⟩;rw[HI.out];obtain⟨c0,c1,c2,c3⟩:=he.below hb hb1
     rw[hx]at c1;clear hx;go_wp2_with fail;go_ret;exact⟨Pp.ret_int HE.out,hb1⟩
    |false=>
     have HE:=hid (show 4=Pp.foldE L q.data.toList from by rw[hE,hx];rfl);clear hE;go_enter Tryz.func31,Tryz.ntmps31
     go_wp2_with fail;refine(entryAt_any L _ q _ HV.out).mono ?_
     rintro e w1 ⟨rfl,hb1⟩;rw[HI.out];obtain⟨c0,c1,c2,c3⟩:=he.below hb hb1
     rw[hx]at c1;clear hx;go_wp2_with fail;go_ret;exact⟨Pp.ret_int HE.out,hb1⟩
namespace Pp
theorem ent_cases (e:En):
    (¬chk e.path.data.toList=0∧entE e=chk e.path.data.toList)∨
    (chk e.path.data.toList=0∧e.folder=true∧e.text.toList.isEmpty=false∧entE e=1)∨
    (chk e.path.data.toList=0∧e.folder=false∧300<(e.text.size:Int)∧entE e=2)∨
    (chk e.path.data.toList=0∧e.folder=true∧e.text.toList.isEmpty=true∧(e.text.size:Int)≤300∧entE e=verE e.ver)∨
    (chk e.path.data.toList=0∧e.folder=false∧(e.text.size:Int)≤300∧entE e=verE e.ver):=by
 by_cases hz:chk e.path.data.toList=0
 · refine Or.inr ?_
   have hE:entE e=if e.folder=true∧ ¬e.text.data.toList=[]then 1 else if 300<e.text.size then 2 else verE e.ver:=by rw[entE,if_pos hz]
   cases hx:e.folder with
   |true=>
    cases hc:e.text.toList.isEmpty with
    |false=>exact Or.inl ⟨hz,rfl,rfl,by rw[hE,if_pos ⟨hx,not_empty hc⟩]⟩
    |true=>
     have ht0:e.text.size=0:=by rw[Lib.size_eq,(empty_iff e.text).1 hc];rfl
     exact Or.inr (Or.inr (Or.inl ⟨hz,rfl,rfl,by omega,by rw[hE,if_neg (fun h=>h.2 ((empty_iff e.text).1 hc)),if_neg (by omega)]⟩))
   |false=>
    by_cases hl:300<e.text.size
    · exact Or.inr (Or.inl ⟨hz,rfl,by omega,by rw[hE,hx,if_neg (fun h=>by cases h.1),if_pos hl]⟩)
    · exact Or.inr (Or.inr (Or.inr ⟨hz,rfl,by omega,by rw[hE,hx,if_neg (fun h=>by cases h.1),if_neg hl]⟩))
 · exact Or.inl ⟨hz,by rw[entE,if_neg hz]⟩
theorem pars4 {L:List En} {k:Nat} (hlt:k<L.length) (h: ∀j (h:j<L.length),parF L L[j]≠5) (hk:parF L L[k]≠0):4=parsE L L:=by
 have h4:parF L L[k]=4:=by
  rcases foldE_range L (par (L[k]).path.data.toList)with h0|h0|h0
  · exact absurd h0 hk
  · exact h0
  · exact absurd h0 (h k hlt)
 have n5: ¬L.any (fun e=>parF L e==5)=true:=by
  intro h5;obtain⟨x,hx,h6⟩:=List.any_eq_true.1 h5
  obtain⟨j,hj,rfl⟩:=List.getElem_of_mem hx
  exact h j hj (by simpa using h6)
 have y4:L.any (fun e=>parF L e==4)=true:=List.any_eq_true.2 ⟨L[k],List.getElem_mem hlt,by simp[h4]⟩;rw[parsE,if_neg n5,if_pos y4]
theorem pars0 {L:List En} (h: ∀j (h:j<L.length),parF L L[j]=0):0=parsE L L:=by
 have n: ∀c:Int,c≠0→ ¬L.any (fun e=>parF L e==c)=true:=by
  intro c hc h5;obtain⟨x,hx,h6⟩:=List.any_eq_true.1 h5
  obtain⟨j,hj,rfl⟩:=List.getElem_of_mem hx
  rw[h j hj]at h6;exact hc (by simpa using h6:(0:Int)=c).symm
 rw[parsE,if_neg (n 5 (by decide)),if_neg (n 4 (by decide))]
theorem lt_flip {x y:En} (h:lt x y=true):lt y x=false∧(y.path.toList==x.path.toList)=false:=by
 constructor
 · cases h2:lt y x with
   |false=>rfl
   |true=>
    have:=lt_trans _ _ _ h h2
    rw[lt_irrefl]at this;cases this
 · rw[beq_eq_false_iff_ne]
   intro e;have e2:lt x y=lt x x:=by rw[lt,lt,e]
   rw[e2,lt_irrefl]at h;cases h
theorem lt_no {x y:En} (h:lt x y=false):lt y x=true∨(lt y x=false∧(y.path.toList==x.path.toList)=true):=by
 cases h2:lt y x with
 |true=>exact Or.inl rfl
 |false=>
  refine Or.inr ⟨rfl,?_⟩
  rw[Lib.toList_data,Lib.toList_data,lt_same h2 h];simp
theorem ver_zero {n:Int}:verE n=0↔1≤n∧n≤1000000:=by
 unfold verE;split<;>omega
end Pp

set_option maxHeartbeats 400000 in
theorem isVersion_any (n:Int) (w:World):
    Calls Tryz.prog 30 #[.int .i64 n] w fun e w'=>e= .returned (.bool (Pp.verE n==0))∧w'=w:=by
 by_cases h1:1≤n
 · by_cases h2:n≤1000000
   · have HE:=hid (show true=(Pp.verE n==0)from by rw[Pp.ver_zero.2 ⟨h1,h2⟩];rfl)
     go_enter Tryz.func30,Tryz.ntmps30
     go_wp2;go_ret;exact⟨Pp.ret_bool HE.out,rfl⟩
   · have HE:=hid (show false=(Pp.verE n==0)from by symm;rw[beq_eq_false_iff_ne];exact fun h=>h2 (Pp.ver_zero.1 h).2)
     go_enter Tryz.func30,Tryz.ntmps30
     go_wp2;go_ret;exact⟨Pp.ret_bool HE.out,rfl⟩
 · have HE:=hid (show false=(Pp.verE n==0)from by symm;rw[beq_eq_false_iff_ne];exact fun h=>h1 (Pp.ver_zero.1 h).1)
   go_enter Tryz.func30,Tryz.ntmps30
   go_wp2;go_ret;exact⟨Pp.ret_bool HE.out,rfl⟩
set_option maxHeartbeats 2000000 in
theorem rCheckTree_any (L:List En) (v:Value) (w:World) (hv:Lies w v L) (hs: ∀e∈L,e.path.size≤1000000000):
    Calls Tryz.prog 12 #[v] w fun e w'=>e= .returned (.int .i64 (Pp.treeE L))∧Below w.heap.size w w':=by
 have HV:Hid (Lies w v L):=hv;have HS:Hid (∀e∈L,e.path.size≤1000000000):=hs;obtain⟨a,cap,rfl,hcap,hcap2,hL⟩:=hv
 have HL:Hid (∀i (h:i<L.length),∃b o,a=some ⟨b,o,none⟩∧b<w.heap.size∧EnAt w b (o+i*4) L[i]):=hL;clear hL hs;by_cases h60:60<(L.length:Int)
 · have HE:=hid (show 2=Pp.treeE L from by rw[Pp.treeE,if_pos (by omega)])
   go_enter Tryz.func12,Tryz.ntmps12
   go_wp2_with fail;go_ret;exact⟨Pp.ret_int HE.out,Below.refl _ _⟩
 have HT:=hid (show Pp.treeE L=if Pp.entsE L=0 then(if Pp.risesB L=true then Pp.parsE L L else 4)else Pp.entsE L from by rw[Pp.treeE,if_neg (by omega)]);go_enter Tryz.func12,Tryz.ntmps12
 go_wp2_with fail;go_loopw [3] (fun i wr=> ∃k:Nat,k≤L.length∧i= .int .i64 k∧Hid (Pp.entsE L=Pp.entsE (L.drop k))∧Below w.heap.size w wr) (fun i _=>L.length-(intOf i).toNat)
 case atStart=>exact⟨0,Nat.zero_le _,rfl,(rfl:Pp.entsE L=Pp.entsE (L.drop 0)),Below.refl _ _⟩
 case round=>
  obtain⟨k,hk,rfl,HQ,hbel⟩:=hrel
  by_cases hlt:k<L.length
  · obtain⟨b,o,rfl,hb,he⟩:=HL.out k hlt
    obtain⟨c0,c1,c2,c3⟩:=he.below hb hbel
    have HD:Hid (L.drop k=L[k]::L.drop (k+1)):=List.drop_eq_getElem_cons hlt;have hsz:=HS.out L[k] (List.getElem_mem hlt)
    have HN := hid (show Pp.entE L[k] ≠ 0 → Pp.entE L[k] = Pp.treeE L from fun hz => by
        have e1:Pp.entsE L=Pp.entE L[k]:=by rw[HQ.out,HD.out,Pp.entsE,if_neg hz]
        rw[HT.out,if_neg (by rw[e1];exact hz),e1])
    have HG:=hid (show Pp.entE L[k]=0→Pp.entsE L=Pp.entsE (L.drop (k+1))from fun hz=>by rw[HQ.out,HD.out,Pp.entsE,if_pos hz]);rcases Pp.ent_cases L[k]with⟨hz,hE⟩|⟨hz,hx,hc,hE⟩|⟨hz,hx,hc,hE⟩|⟨hz,hx,hc,hc2,hE⟩|⟨hz,hx,hc2,hE⟩
    · have HE:=hid (show Pp.chk (L[k]).path.data.toList=Pp.treeE L from by rw[←hE];exact HN.out (by rw[hE];exact hz))
      have hz2:(Pp.chk (L[k]).path.data.toList==0)=false:=by simpa using hz
      clear hE;go_wp2_with fail;refine(rCheck_any (L[k]).path _ hsz).mono ?_
      rintro e w1 ⟨rfl,hb1⟩;have hbel1:=below_trans hbel hb1;clear c0 c1 c2 c3 hbel hb1;go_wp2_with fail;go_ret;exact⟨Pp.ret_int HE.out,hbel1⟩
    · have HE:=hid (show 1=Pp.treeE L from by rw[←HN.out (by rw[hE];decide),hE])
      have HZ:Hid (Pp.chk (L[k]).path.data.toList=0):=hz;clear hE hz;go_wp2_with fail;refine(rCheck_any (L[k]).path _ hsz).mono ?_
      rintro e w1 ⟨rfl,hb1⟩;rw[HZ.out];have hbel1:=below_trans hbel hb1;obtain⟨d0,d1,d2,d3⟩:=he.below hb hbel1
      rw[hx]at d1;clear c0 c1 c2 c3 hbel hb1 hx;go_wp2_with fail;go_ret;exact⟨Pp.ret_int HE.out,hbel1⟩
    · have HE:=hid (show 2=Pp.treeE L from by rw[←HN.out (by rw[hE];decide),hE])
      have HZ:Hid (Pp.chk (L[k]).path.data.toList=0):=hz;clear hE hz;go_wp2_with fail;refine(rCheck_any (L[k]).path _ hsz).mono ?_
      rintro e w1 ⟨rfl,hb1⟩;rw[HZ.out];have hbel1:=below_trans hbel hb1;obtain⟨d0,d1,d2,d3⟩:=he.below hb hbel1
      rw[hx]at d1;clear c0 c1 c2 c3 hbel hb1 hx;go_wp2_with fail;go_ret;exact⟨Pp.ret_int HE.out,hbel1⟩
    all_goals
     have HZ:Hid (Pp.chk (L[k]).path.data.toList=0):=hz;have HVE:Hid (Pp.entE L[k]=Pp.verE (L[k]).ver):=hE;clear hE hz;go_wp2_with fail;refine(rCheck_any (L[k]).path _ hsz).mono ?_
     rintro e w1 ⟨rfl,hb1⟩;rw[HZ.out];have hbel1:=below_trans hbel hb1;obtain⟨d0,d1,d2,d3⟩:=he.below hb hbel1
     rw[hx]at d1;clear c0 c1 c2 c3 hbel hb1 hx;go_wp2_with fail;refine(isVersion_any (L[k]).ver _).mono ?_
     rintro e w2 ⟨rfl,rfl⟩;cases hq:(Pp.verE (L[k]).ver==0)with
     |true=>
      have HR:=hid (show Pp.entsE L=Pp.entsE (L.drop (k+1))from HG.out (by rw[HVE.out];simpa using hq));clear hq;go_wp2_with fail;go_roundw
      case rel=>exact⟨k+1,by omega,by simp,HR,hbel1⟩
      case measure=>simp[intOf];omega
     |false=>
      have HE:=hid (show 3=Pp.treeE L from by
       have h0:Pp.verE (L[k]).ver≠0:=by simpa using hq
       have h3:Pp.verE (L[k]).ver=3:=by unfold Pp.verE at h0⊢;split<;>simp_all
       rw[←HN.out (by rw[HVE.out];exact h0),HVE.out,h3])
      clear hq;go_wp2_with fail;go_ret;exact⟨Pp.ret_int HE.out,hbel1⟩
  · have HX:=hid (show Pp.treeE L=if Pp.risesB L=true then Pp.parsE L L else 4 from by
     have e0:Pp.entsE L=0:=by rw[HQ.out,List.drop_eq_nil_of_le (by omega)];rfl
     rw[HT.out,if_pos e0])
    clear HQ HT;go_wp2_with fail;clear hlt hk;go_loopw [5] (fun i wr=> ∃m:Nat,m≤L.length∧i= .int .i64 ((m:Int)+1)∧Hid (∀i (h:i+1<L.length),i<m→Pp.lt L[i] L[i+1]=true)∧Below w.heap.size w wr) (fun i _=>L.length+2-(intOf i).toNat)
    case atStart=>exact⟨0,Nat.zero_le _,rfl,(fun i _ h=>absurd h (Nat.not_lt_zero _): ∀i (h:i+1<L.length),i<0→Pp.lt L[i] L[i+1]=true),hbel⟩
    case round=>
     clear hbel;obtain⟨m,hm,rfl,HP,hbel⟩:=hrel
     by_cases hlt:m+1<L.length
     · obtain⟨b,o,rfl,hb,he⟩:=HL.out m (by omega)
       obtain⟨c0,c1,c2,c3⟩:=he.below hb hbel
       obtain⟨b',o',hbo,hb',he'⟩:=HL.out (m+1) hlt
       obtain⟨rfl,rfl⟩:b=b'∧o=o':=by simpa using hbo
       obtain⟨d0,d1,d2,d3⟩:=he'.below hb hbel
       have hlt2:(m:Int)+1<L.length:=by omega
       clear c1 c2 c3 d1 d2 d3 hbo;cases hl:Pp.lt L[m] L[m+1]with
       |true=>
        have hl2:Op.bytesLess (L[m+1]).path.toList (L[m]).path.toList=false:=(Pp.lt_flip hl).1;have hl3:((L[m+1]).path.toList==(L[m]).path.toList)=false:=(Pp.lt_flip hl).2;go_wp2_with fail;go_region
        go_wp2;go_roundw
        case rel=>exact⟨m+1,by omega,by simp,(fun i h1 h2=>by
         by_cases e:i=m
         · subst e;exact hl
         · exact HP.out i h1 (by omega): ∀i (h:i+1<L.length),i<m+1→Pp.lt L[i] L[i+1]=true),hbel.drew⟩
        case measure=>simp[intOf];omega
       |false=>
        have HE:=hid (show 4=Pp.treeE L from by rw[HX.out,←Pp.rises_no hlt hl];rfl);rcases Pp.lt_no hl with hl2|⟨hl2,hl3⟩
        · have hl4:Op.bytesLess (L[m+1]).path.toList (L[m]).path.toList=true:=hl2
          go_wp2_with fail;go_region
          go_wp2;go_ret;exact⟨Pp.ret_int HE.out,hbel.drew⟩
        · have hl4:Op.bytesLess (L[m+1]).path.toList (L[m]).path.toList=false:=hl2
          go_wp2_with fail;go_region
          go_wp2;go_ret;exact⟨Pp.ret_int HE.out,hbel.drew⟩
     · have HY:=hid (show Pp.treeE L=Pp.parsE L L from by rw[HX.out,←Pp.rises_yes fun i h=>HP.out i h (by omega)];rfl)
       clear HX HP;go_wp2_with fail;clear hlt hm;go_loopw [6] (fun i wr=> ∃k:Nat,k≤L.length∧i= .int .i64 k∧Hid (∀j (h:j<L.length),j<k→Pp.parF L L[j]≠5)∧Below w.heap.size w wr) (fun i _=>L.length-(intOf i).toNat)
       case atStart=>exact⟨0,Nat.zero_le _,rfl,(fun j _ h=>absurd h (Nat.not_lt_zero _): ∀j (h:j<L.length),j<0→Pp.parF L L[j]≠5),hbel⟩
       case round=>
        clear hbel;obtain⟨k,hk,rfl,HP,hbel⟩:=hrel
        by_cases hlt:k<L.length
        · obtain⟨b,o,rfl,hb,he⟩:=HL.out k hlt
          obtain⟨c0,c1,c2,c3⟩:=he.below hb hbel
          have hsz:=HS.out L[k] (List.getElem_mem hlt);go_wp2_with fail;refine(parentOf_any (L[k]).path _ hsz).mono ?_
          rintro e w1 ⟨rfl,hb1⟩;have hbel1:=below_trans hbel hb1;clear c0 c1 c2 c3 hbel hb1;go_wp2_with fail;refine(isFolder_any L _ ⟨(Pp.par (L[k]).path.data.toList).toArray⟩ _ (HV.out.below hbel1)).mono ?_
          rintro e w2 ⟨rfl,hb2⟩;have hbel2:=below_trans hbel1 hb2;clear hbel1 hb2;rw[show Pp.foldE L _=Pp.parF L L[k]from rfl];by_cases h5:Pp.parF L L[k]=5
          · have H5:Hid (Pp.parF L L[k]=5):=h5
            have HE:=hid (show 5=Pp.treeE L from by rw[HY.out];exact Pp.parsTo_hit hlt h5);clear h5;rw[H5.out];go_wp2_with fail;go_ret;exact⟨Pp.ret_int HE.out,hbel2⟩
          · have h52:(Pp.parF L L[k]==5)=false:=by simpa using h5
            go_wp2_with fail;go_roundw
            case rel=>exact⟨k+1,by omega,by simp,(fun j h1 h2=>by
             by_cases e:j=k
             · subst e;exact h5
             · exact HP.out j h1 (by omega): ∀j (h:j<L.length),j<k+1→Pp.parF L L[j]≠5),hbel2⟩
            case measure=>simp[intOf];omega
        · have H5:=hid (show∀j (h:j<L.length),Pp.parF L L[j]≠5 from fun j h=>HP.out j h (by omega))
          clear HP;go_wp2_with fail;clear hlt hk;go_loopw [7] (fun i wr=> ∃k:Nat,k≤L.length∧i= .int .i64 k∧Hid (∀j (h:j<L.length),j<k→Pp.parF L L[j]=0)∧Below w.heap.size w wr) (fun i _=>L.length-(intOf i).toNat)
          case atStart=>exact⟨0,Nat.zero_le _,rfl,(fun j _ h=>absurd h (Nat.not_lt_zero _): ∀j (h:j<L.length),j<0→Pp.parF L L[j]=0),hbel⟩
          case round=>
           clear hbel;obtain⟨k,hk,rfl,HP,hbel⟩:=hrel
           by_cases hlt:k<L.length
           · obtain⟨b,o,rfl,hb,he⟩:=HL.out k hlt
             obtain⟨c0,c1,c2,c3⟩:=he.below hb hbel
             have hsz:=HS.out L[k] (List.getElem_mem hlt);go_wp2_with fail;refine(parentOf_any (L[k]).path _ hsz).mono ?_
             rintro e w1 ⟨rfl,hb1⟩;have hbel1:=below_trans hbel hb1;clear c0 c1 c2 c3 hbel hb1;go_wp2_with fail;refine(isFolder_any L _ ⟨(Pp.par (L[k]).path.data.toList).toArray⟩ _ (HV.out.below hbel1)).mono ?_
             rintro e w2 ⟨rfl,hb2⟩;have hbel2:=below_trans hbel1 hb2;clear hbel1 hb2;rw[show Pp.foldE L _=Pp.parF L L[k]from rfl];by_cases h0:Pp.parF L L[k]=0
             · have H0:Hid (Pp.parF L L[k]=0):=h0
               clear h0;rw[H0.out];go_wp2_with fail;go_roundw
               case rel=>exact⟨k+1,by omega,by simp,(fun j h1 h2=>by
                by_cases e:j=k
                · subst e;exact H0.out
                · exact HP.out j h1 (by omega): ∀j (h:j<L.length),j<k+1→Pp.parF L L[j]=0),hbel2⟩
               case measure=>simp[intOf];omega
             · have h02:(Pp.parF L L[k]==0)=false:=by simpa using h0
               have HE:=hid (show 4=Pp.treeE L from by rw[HY.out];exact Pp.pars4 hlt H5.out h0);go_wp2_with fail;go_ret;exact⟨Pp.ret_int HE.out,hbel2⟩
           · have HE:=hid (show 0=Pp.treeE L from by rw[HY.out];exact Pp.pars0 (fun j h=>HP.out j h (by omega)))
             go_wp2_with fail;go_ret;exact⟨Pp.ret_int HE.out,hbel⟩
end Go.Proofs.YtagibnejodgeeaaGreatDoor
namespace Go.Proofs.YtagibnejodgeeaaGreatDoor
open Go.RowKit Go.Maps Go.WideMaps

namespace Sp
def likeE (x y:En):Bool:=(x.path.toList==y.path.toList) && ((x.folder==y.folder) && (x.text.toList==y.text.toList))
def likeP (A B:List En):Prop:=A.length=B.length∧ ∀j (h:j<A.length) (h2:j<B.length),likeE A[j] B[j]=true
theorem likeE_iff {x y:En}:likeE x y=true↔x.path.data.toList=y.path.data.toList∧x.folder=y.folder∧x.text.data.toList=y.text.data.toList:=by
 rw[likeE,Lib.toList_data,Lib.toList_data,Lib.toList_data,Lib.toList_data];simp
theorem rise_eq {A B:List (List UInt8)} (hA:A.Pairwise (fun x y=>x<y)) (hB:B.Pairwise (fun x y=>x<y)) (h: ∀x,x∈A↔x∈B):A=B:=by
 induction A generalizing B with
 |nil=>
  cases B with
  |nil=>rfl
  |cons b r=>exact absurd ((h b).2 (by simp)) (by simp)
 |cons a A ih=>
  cases B with
  |nil=>exact absurd ((h a).1 (by simp)) (by simp)
  |cons b B=>
   rw[List.pairwise_cons]at hA hB
   have hab:a=b:=by
    rcases List.mem_cons.1 ((h a).1 (by simp))with e|h1
    · exact e
    · rcases List.mem_cons.1 ((h b).2 (by simp))with e|h2
      · exact e.symm
      · exact absurd (List.lt_trans (hA.1 b h2) (hB.1 a h1)) (List.lt_irrefl _)
   subst hab;congr 1
   refine ih hA.2 hB.2 fun x=>⟨fun hx=>?_,fun hx=>?_⟩
   · rcases List.mem_cons.1 ((h x).1 (by simp[hx]))with e|h1
     · subst e;exact absurd (hA.1 _ hx) (List.lt_irrefl _)
     · exact h1
   · rcases List.mem_cons.1 ((h x).2 (by simp[hx]))with e|h1
     · subst e;exact absurd (hB.1 _ hx) (List.lt_irrefl _)
     · exact h1
theorem rise_map {L:List En} (h:L.Pairwise (fun x y=>Pp.lt x y=true)):(L.map (fun e=>e.path.data.toList)).Pairwise (fun x y=>x<y):=by
 rw[List.pairwise_map];refine List.Pairwise.imp ?_ h
 intro x y hxy;rwa [Pp.lt,Lib.toList_data,Lib.toList_data,bytesLess_eq,decide_eq_true_eq]at hxy
theorem wh_cases (e:En):(e.folder=true∧wh e=1)∨(e.folder=false∧wh e=2):=by
 unfold wh;cases e.folder<;>simp
theorem wh_eq {x y:En}:wh x=wh y↔x.folder=y.folder:=by
 rcases wh_cases x with⟨h1,h2⟩|⟨h1,h2⟩<;>rcases wh_cases y with⟨h3,h4⟩|⟨h3,h4⟩<;>simp[h1,h2,h3,h4]
theorem at_mem {L:List En} {p:List UInt8} {x:En} (h:at_ L p=some x):x∈L∧x.path.data.toList=p:=⟨List.mem_of_find?_eq_some h,atB_iff.1 (List.find?_some h)⟩
theorem wAt_some {L:List En} {p:List UInt8} {e:En} (h:wh e=wAt L p): ∃x,at_ L p=some x∧x∈L∧x.path.data.toList=p∧x.folder=e.folder:=by
 rw[wAt]at h;cases hx:at_ L p with
 |none=>
  rw[hx]at h;simp only at h;rcases wh_cases e with⟨_,h2⟩|⟨_,h2⟩<;>omega
 |some x=>
  rw[hx]at h;exact⟨x,rfl,(at_mem hx).1,(at_mem hx).2,(wh_eq.1 h).symm⟩
theorem par_lt {p:List UInt8} (h:Pp.par p≠[]):(Pp.par p).length<p.length:=by
 by_cases hs:47∈p
 · obtain⟨a,b,hb,rfl⟩:=Pp.last_split hs
   rw[Pp.par_cut a hb];simp
 · exact absurd (Pp.par_none hs) h
theorem entE_text {e:En} (h:Pp.entE e=0) (hf:e.folder=true):e.text.data.toList=[]:=by
 rw[Pp.entE,if_pos (Pp.entE_path h)]at h;by_cases ht:e.text.data.toList=[]
 · exact ht
 · rw[if_pos ⟨hf,ht⟩]at h;cases h
/-- What is not gone is there. -/
theorem stays {A B:List En} (hA:Pp.Good A) (hd:dels A B=[]): ∀(n:Nat) (e:En),e∈A→e.path.data.toList.length≤n→wh e=wAt B e.path.data.toList:=by
 have hno: ∀e∈A,goes B e=false:=by
  rw[dels,List.map_eq_nil_iff,List.filter_eq_nil_iff]at hd;intro e he;simpa using hd e he
 intro n;induction n with
 |zero=>
  intro e he hl;have h1:e.path.data.toList=[]:=List.length_eq_zero_iff.1 (by omega);have h2:=hno e he
  have h3:hasP B e.path.data.toList=true:=by
   rw[hasP,h1,Pp.par_none (by simp)];rfl
  rw[goes,h3,Bool.and_true]at h2;simpa using h2
 |succ n ih=>
  intro e he hl;have h2:=hno e he
  have h3:hasP B e.path.data.toList=true:=by
   by_cases hp:Pp.par e.path.data.toList=[]
   · rw[hasP,hp];rfl
   · obtain⟨x,hx,hxp,hxf,_⟩:=Pp.fold_zero (hA.pars e he) hp
     have h4:=ih x hx (by rw[hxp];have:=par_lt hp;omega);rw[hxp]at h4;rw[hasP,←h4];simp[wh,hxf]
  rw[goes,h3,Bool.and_true]at h2;simpa using h2
end Sp
end Go.Proofs.YtagibnejodgeeaaGreatDoor
namespace Go.Proofs.YtagibnejodgeeaaGreatDoor
open Go.RowKit

set_option maxRecDepth 100000 in
set_option maxHeartbeats 2000000 in
theorem twoTrees_any (A B:List En) (va vb:Value) (w:World) (hA:Lies w va A) (hB:Lies w vb B) (hsA: ∀e∈A,e.path.size≤1000000000) (hsB: ∀e∈B,e.path.size≤1000000000):
    Calls Tryz.prog 40 #[va,vb] w fun e w'=>e= .returned (.int .i64 (Sp.dfE A B))∧Below w.heap.size w w':=by
 have HVA:=hid hA;have HVB:=hid hB;have HSA:=hid hsA;have HSB:=hid hsB;clear hA hB hsA hsB;obtain⟨y,hy⟩: ∃y,y=Pp.treeE A:=⟨_,rfl⟩
 obtain⟨z,hz⟩: ∃z,z=Sp.dfE A B:=⟨_,rfl⟩
 rw[←hz];have HY:=hid hy;have HZ:=hid hz;clear hy hz;go_enter Tryz.func40,Tryz.ntmps40
 go_wp2_with fail;refine(rCheckTree_any A _ _ HVA.out HSA.out).mono ?_
 rintro e w1 ⟨rfl,hb1⟩;rw[←HY.out];by_cases ha:y=0
 · have HE:=hid (show z=Pp.treeE B from by rw[HZ.out,Sp.dfE,if_pos (by rw[←HY.out];exact ha)])
   rw[ha];clear ha;go_wp2_with fail;refine(rCheckTree_any B _ _ (HVB.out.below hb1) HSB.out).mono ?_
   rintro e w2 ⟨rfl,hb2⟩;rw[←HE.out];have hb02:=below_trans hb1 hb2;go_wp2_with fail;go_ret;exact⟨rfl,hb02⟩
 · have HE:=hid (show z=y from by rw[HZ.out,Sp.dfE,if_neg (by rw[←HY.out];exact ha),HY.out])
   have ha2:(y==0)=false:=by simpa using ha
   go_wp2_with fail;go_ret;exact⟨by rw[HE.out];rfl,hb1⟩
set_option maxRecDepth 100000 in
set_option maxHeartbeats 2000000 in
theorem threeTrees_any (A B C:List En) (va vb vc:Value) (w:World) (hA:Lies w va A) (hB:Lies w vb B) (hC:Lies w vc C) (hsA: ∀e∈A,e.path.size≤1000000000) (hsB: ∀e∈B,e.path.size≤1000000000) (hsC: ∀e∈C,e.path.size≤1000000000):
    Calls Tryz.prog 15 #[va,vb,vc] w fun e w'=>e= .returned (.int .i64 (if Sp.dfE A B=0 then Pp.treeE C else Sp.dfE A B))∧Below w.heap.size w w':=by
 have HVA:=hid hA;have HVB:=hid hB;have HVC:=hid hC;have HSA:=hid hsA;have HSB:=hid hsB;have HSC:=hid hsC;clear hA hB hC hsA hsB hsC;obtain⟨z,hz⟩: ∃z,z=(if Sp.dfE A B=0 then Pp.treeE C else Sp.dfE A B):=⟨_,rfl⟩
 rw[←hz];have HZ:=hid hz;clear hz;go_enter Tryz.func15,Tryz.ntmps15
 go_wp2_with fail;refine(twoTrees_any A B _ _ _ HVA.out HVB.out HSA.out HSB.out).mono ?_
 rintro e w1 ⟨rfl,hb1⟩;by_cases ha:Sp.dfE A B=0
 · have HE:=hid (show z=Pp.treeE C from by rw[HZ.out,if_pos ha])
   rw[ha];clear ha;go_wp2_with fail;refine(rCheckTree_any C _ _ (HVC.out.below hb1) HSC.out).mono ?_
   rintro e w2 ⟨rfl,hb2⟩;rw[←HE.out];have hb02:=below_trans hb1 hb2;go_wp2_with fail;go_ret;exact⟨rfl,hb02⟩
 · have HE:=hid (show z=Sp.dfE A B from by rw[HZ.out,if_neg ha])
   have hE':(Sp.dfE A B==0)=false:=by simpa using ha
   rw[←HE.out]at hE'⊢;clear ha;go_wp2_with fail;go_ret;exact⟨rfl,hb1⟩
theorem own_slice {w:World} {B:Nat} {e:TypeId} {size:Nat} {v:Value} {n:Nat} {xs:List Value} (h:w.ownsRow B e size v n xs): ∃a cap,v= .slice a n cap:=by
 obtain⟨_,h2⟩:=h
 rcases h2 with⟨rfl,rfl⟩|⟨g,cap,cur,rfl,_⟩
 · exact⟨none,0,rfl⟩
 · exact⟨_,_,rfl⟩
namespace Pp
theorem flatC_at: ∀(L:List Ch) (i:Nat) (h:i<L.length) (c:Nat),c<5→(flatC L)[i*5+c]?=(cellsC L[i])[c]?
 |[],i,h,_,_=>absurd h (by simp)
 |a::r,0,_,c,hc=>by
  show(cellsC a++flatC r)[0*5+c]?=_
  rw[List.getElem?_append_left (by simp[cellsC];omega)];simp
 |a::r,i+1,h,c,hc=>by
  show(cellsC a++flatC r)[(i+1)*5+c]?=_
  rw[List.getElem?_append_right (by simp[cellsC];omega)];have e:(i+1)*5+c-(cellsC a).length=i*5+c:=by simp[cellsC];omega
  rw[e,flatC_at r i (by simpa using h) c hc];simp
end Pp
theorem liesC_row {w:World} {base:Nat} {T:TypeId} {v:Value} {L:List Pp.Ch} (h:w.ownsRow base T 5 v L.length (Pp.flatC L)) (hn:L.length≤1000000000000000):LiesC w v L:=by
 have h':=h;obtain⟨_,h2⟩:=h
 rcases h2 with⟨rfl,hz⟩|⟨g,cap,cur,rfl,hg,hh,hc,hm,hz,htake⟩
 · have:L=[]:=List.length_eq_zero_iff.1 hz
   subst this;exact⟨none,0,rfl,Nat.le_refl _,by simp,fun i hi=>absurd hi (by simp)⟩
 · have hlt:g<w.heap.size:=by
    rcases Nat.lt_or_ge g w.heap.size with h|h
    · exact h
    · rw[Array.getElem?_eq_none h]at hh;cases hh
   refine⟨some ⟨g,0,none⟩,cap,rfl,hc,hn,fun i hi=>⟨g,0,rfl,hlt,?_⟩⟩
   have k: ∀c,c<5→w.cell? ⟨g,0+i*5+c,none⟩=(Pp.cellsC L[i])[c]?:=fun c hc=>by
    rw[Nat.zero_add,h'.cellAt (i*5+c) (by omega),Pp.flatC_at L i hi c hc]
   exact⟨k 0 (by decide),k 1 (by decide),k 2 (by decide),k 3 (by decide),k 4 (by decide)⟩
end Go.Proofs.YtagibnejodgeeaaGreatDoor
namespace Go.Proofs.YtagibnejodgeeaaGreatDoor
open Go.RowKit Go.Maps Go.WideMaps

namespace Sp
/-- Is an entry at or within one that goes? -/
def inB (D:List En) (e:En):Bool:=D.any (fun d=>Pp.wi d.path.data.toList e)
def stay (A B:List En) (k:Nat):List En:=A.filter (fun e=> !inB ((A.take k).filter (goes B)) e)
theorem isIn_cases {p q:List UInt8} (h:Pp.isInB p q=true):p=q∨(q.length<p.length∧(q≠[]→Pp.par p≠[]∧Pp.isInB (Pp.par p) q=true)):=by
 rcases(Pp.isIn_of p q).1 h with h|⟨r,h⟩
 · exact Or.inl h
 · refine Or.inr ⟨by rw[h];simp,fun hq=>?_⟩
   obtain⟨a,b,hb,e,hi,hp⟩:=Pp.par_down (p:=q) (r:=r)
   rw[h,hp];refine⟨?_,hi⟩
   rcases(Pp.isIn_of a q).1 hi with h2|⟨r2,h2⟩
   · rw[h2];exact hq
   · rw[h2];simp
theorem wAt_fold {L:List En} {p:List UInt8} (hp:p≠[]) (h:Pp.foldE L p=0):wAt L p=1:=by
 obtain⟨x,hx,hxp,hxf,hf⟩:=Pp.fold_zero h hp
 rw[wAt,show at_ L p=some x from hf];show wh x=1
 simp[wh,hxf]
theorem wAt_one {L:List En} {p:List UInt8} (h:wAt L p=1): ∃x,x∈L∧x.path.data.toList=p∧x.folder=true:=by
 rw[wAt]at h;cases hx:at_ L p with
 |none=>rw[hx]at h;cases h
 |some x=>
  rw[hx]at h;refine⟨x,(at_mem hx).1,(at_mem hx).2,?_⟩
  rcases wh_cases x with⟨h1,_⟩|⟨_,h2⟩
  · exact h1
  · simp only at h;omega
/-- Above a folder are folders. -/
theorem up {L:List En} (hL:Pp.Good L) {q:List UInt8} (hq:q≠[]): ∀(n:Nat) (p:List UInt8),p.length≤n→wAt L p=1→Pp.isInB p q=true→wAt L q=1:=by
 intro n;induction n with
 |zero=>
  intro p hl h1 h2;rcases isIn_cases h2 with e|⟨h3,_⟩
  · rw[←e];exact h1
  · omega
 |succ n ih=>
  intro p hl h1 h2;rcases isIn_cases h2 with e|⟨h3,h4⟩
  · rw[←e];exact h1
  · obtain⟨h5,h6⟩:=h4 hq
    obtain⟨x,hx,hxp,_⟩:=wAt_one h1
    have h7:=hL.pars x hx;rw[hxp]at h7;have h8:=par_lt h5;exact ih _ (by omega) (wAt_fold h5 h7) h6
theorem path_ne {L:List En} (hL:Pp.Good L) {e:En} (he:e∈L):e.path.data.toList≠[]:=by
 intro h;have:=Pp.entE_path (hL.ents e he)
 rw[h]at this;exact absurd this (by decide)
theorem hasP_no {M:List En} {p:List UInt8}:hasP M p=false↔Pp.par p≠[]∧wAt M (Pp.par p)≠1:=by
 rw[hasP];simp
theorem hasP_yes {M:List En} {p:List UInt8}:hasP M p=true↔Pp.par p=[]∨wAt M (Pp.par p)=1:=by
 rw[hasP];simp
/-- What has no folder to be in is below one that goes. -/
theorem above {A B:List En} (hA:Pp.Good A): ∀(n:Nat) (p:List UInt8),p.length≤n→wAt A p=1→wAt B p≠1→ ∃d∈A,goes B d=true∧Pp.isInB p d.path.data.toList=true:=by
 intro n;induction n with
 |zero=>
  intro p hl h1 _;obtain⟨x,hx,hxp,_⟩:=wAt_one h1
  exact absurd (List.length_eq_zero_iff.1 (by omega:p.length=0)) (hxp▸path_ne hA hx)
 |succ n ih=>
  intro p hl h1 h2;obtain⟨x,hx,hxp,hxf⟩:=wAt_one h1
  cases hh:hasP B p with
  |true=>
   refine⟨x,hx,?_,by rw[hxp];exact Pp.isIn_refl p⟩
   have:wh x=1:=by simp[wh,hxf]
   rw[goes,hxp,hh,this,Bool.and_true];simpa using fun e=>h2 e.symm
  |false=>
   obtain⟨h3,h4⟩:=hasP_no.1 hh
   have h5:=hA.pars x hx;rw[hxp]at h5;have h6:=par_lt h3;obtain⟨d,hd,hg,hi⟩:=ih _ (by omega) (wAt_fold h3 h5) h4
   exact⟨d,hd,hg,Pp.par_in hi h3⟩
/-- Below one that goes there is no folder to be in. -/
theorem below {A B:List En} (hA:Pp.Good A) (hB:Pp.Good B) {e d:En} (he:e∈A) (hd:d∈A) (hg:goes B d=true) (hi:Pp.isInB e.path.data.toList d.path.data.toList=true) (hne:e.path.data.toList≠d.path.data.toList):hasP B e.path.data.toList=false:=by
 cases hh:hasP B e.path.data.toList with
 |false=>rfl
 |true=>
  exfalso
  have hq:=path_ne hA hd;rcases isIn_cases hi with h|⟨_,h⟩
  · exact hne h
  · obtain⟨h1,h2⟩:=h hq
    have h3:wAt B d.path.data.toList=1:=by
     rcases hasP_yes.1 hh with h4|h4
     · exact absurd h4 h1
     · exact up hB hq _ _ (Nat.le_refl _) h4 h2
    have h5:wAt A d.path.data.toList=1:=up hA hq _ _ (Nat.le_refl _) (wAt_fold h1 (hA.pars e he)) h2;rw[wAt_self (apart_rise hA.rise) hd]at h5;rw[goes,h3,h5]at hg;simp at hg
theorem mem_take {A:List En} {k:Nat} (hk:k<A.length) (hr:A.Pairwise (fun x y=>Pp.lt x y=true)) {d:En} (hd:d∈A) (hl:Pp.lt d A[k]=true):d∈A.take k:=by
 obtain⟨i,hi,rfl⟩:=List.getElem_of_mem hd
 rw[List.pairwise_iff_getElem]at hr
 have:i<k:=by
  rcases Nat.lt_trichotomy i k with h|h|h
  · exact h
  · subst h;rw[Pp.lt_irrefl]at hl;cases hl
  · have h2:=Pp.lt_trans _ _ _ hl (hr k i hk hi h)
    rw[Pp.lt_irrefl]at h2;cases h2
 rw[List.mem_take_iff_getElem];exact⟨i,by omega,rfl⟩
theorem lt_in {e d:En} (hi:Pp.isInB e.path.data.toList d.path.data.toList=true) (hne:e.path.data.toList≠d.path.data.toList):Pp.lt d e=true:=by
 rcases(Pp.isIn_of _ _).1 hi with h|⟨r,h⟩
 · exact absurd h hne
 · rw[Pp.lt,Lib.toList_data,Lib.toList_data,bytesLess_eq,decide_eq_true_eq,h]
   generalize d.path.data.toList=q;induction q with
   |nil=>exact List.nil_lt_cons _ _
   |cons a r ih=>rw[List.cons_append,List.cons_lt_cons_iff];exact Or.inr ⟨rfl,ih⟩
theorem take_ne {A:List En} {k:Nat} (hk:k<A.length) (hr:A.Pairwise (fun x y=>Pp.lt x y=true)) {d:En} (hd:d∈A.take k):A[k].path.data.toList≠d.path.data.toList:=by
 obtain⟨i,hi,rfl⟩:=List.mem_take_iff_getElem.1 hd
 have:=apart_rise hr
 rw[Apart,List.pairwise_iff_getElem]at this;exact fun e=>this i k (by omega) hk (by omega) e.symm
theorem inB_iff {D:List En} {e:En}:inB D e=true↔ ∃d∈D,Pp.isInB e.path.data.toList d.path.data.toList=true:=by
 rw[inB,List.any_eq_true];rfl
/-- Has the next one gone already? Just when there is no folder to be in. -/
theorem gone {A B:List En} (hA:Pp.Good A) (hB:Pp.Good B) {k:Nat} (hk:k<A.length):inB ((A.take k).filter (goes B)) A[k]= !hasP B A[k].path.data.toList:=by
 cases hh:hasP B A[k].path.data.toList with
 |true=>
  rw[Bool.not_true,←Bool.not_eq_true];intro h;obtain⟨d,hd,hi⟩:=inB_iff.1 h
  obtain⟨hd1,hd2⟩:=List.mem_filter.1 hd
  have:=below hA hB (List.getElem_mem hk) (List.mem_of_mem_take hd1) hd2 hi (take_ne hk hA.rise hd1)
  rw[hh]at this;cases this
 |false=>
  rw[Bool.not_false];obtain⟨h1,h2⟩:=hasP_no.1 hh
  obtain⟨d,hd,hg,hi⟩:=above (B:=B) hA _ _ (Nat.le_refl _) (wAt_fold h1 (hA.pars _ (List.getElem_mem hk))) h2
  have hi2:=Pp.par_in hi h1
  have hne:A[k].path.data.toList≠d.path.data.toList:=fun e=>by
   obtain⟨s,hs⟩:=Pp.isIn_pre hi
   have h3:=par_lt h1;have h4:=congrArg List.length hs;have h5:=congrArg List.length e;rw[List.length_append]at h4;omega
  exact inB_iff.2 ⟨d,List.mem_filter.2 ⟨mem_take hk hA.rise hd (lt_in hi2 hne),hg⟩,hi2⟩
theorem stay_zero (A B:List En):stay A B 0=A:=by
 rw[stay,List.filter_eq_self];intro e _;rfl
theorem stay_mem {A B:List En} (hA:Pp.Good A) (hB:Pp.Good B) {k:Nat} (hk:k<A.length):A[k]∈stay A B k↔hasP B A[k].path.data.toList=true:=by
 rw[stay,List.mem_filter,gone hA hB hk];simp
theorem stay_hit {A B:List En} {k:Nat} (hk:k<A.length) (hg:goes B A[k]=true):stay A B (k+1)=(stay A B k).filter (fun e=> !Pp.wi A[k].path.data.toList e):=by
 rw[stay,stay,Pp.filter_hitE hk hg,List.filter_filter];congr 1
 funext e
 rw[inB,inB,List.any_append];cases (List.filter (goes B) (List.take k A)).any (fun d=>Pp.wi d.path.data.toList e)<;>simp
theorem stay_miss {A B:List En} {k:Nat} (hk:k<A.length) (hg:goes B A[k]=false):stay A B (k+1)=stay A B k:=by
 rw[stay,stay,Pp.filter_missE hk hg]
theorem dels_hit {A B:List En} {k:Nat} (hk:k<A.length) (hg:goes B A[k]=true):dels (A.take (k+1)) B=dels (A.take k) B++[delC A[k]]:=by
 rw[dels,Pp.filter_hitE hk hg,List.map_append];rfl
theorem dels_miss {A B:List En} {k:Nat} (hk:k<A.length) (hg:goes B A[k]=false):dels (A.take (k+1)) B=dels (A.take k) B:=by
 rw[dels,Pp.filter_missE hk hg];rfl
theorem goes_eq {M:List En} {e:En} (h:hasP M e.path.data.toList=true):goes M e=(wh e !=wAt M e.path.data.toList):=by rw[goes,h,Bool.and_true]
theorem mks_hit {A B:List En} {k:Nat} (hk:k<B.length) (h:newB A B[k]=true):mks A (B.take (k+1))=mks A (B.take k)++[mkC B[k]]:=by
 rw[mks,Pp.filter_hitE hk h,List.map_append];rfl
theorem mks_miss {A B:List En} {k:Nat} (hk:k<B.length) (h:newB A B[k]=false):mks A (B.take (k+1))=mks A (B.take k):=by
 rw[mks,Pp.filter_missE hk h];rfl
/-- What stays is a tree. -/
theorem stay_good {A B:List En} (hA:Pp.Good A) (k:Nat):Pp.Good (stay A B k):=by
 have hr:(stay A B k).Pairwise (fun x y=>Pp.lt x y=true):=hA.rise.filter _;refine⟨Nat.le_trans (List.length_filter_le _ _) hA.len,fun e he=>hA.ents e (List.mem_filter.1 he).1,hr,fun e he=>?_⟩
 obtain⟨h1,h2⟩:=List.mem_filter.1 he
 by_cases hp:Pp.par e.path.data.toList=[]
 · rw[hp];exact Pp.fold_nil _
 · obtain⟨x,hx,hxp,hxf,_⟩:=Pp.fold_zero (hA.pars e h1) hp
   refine Pp.fold_mem hr (List.mem_filter.2 ⟨hx,?_⟩) hxp hxf
   cases hh:inB ((A.take k).filter (goes B)) x with
   |false=>rfl
   |true=>
    obtain⟨d,hd,hi⟩:=inB_iff.1 hh
    rw[hxp]at hi;have:=inB_iff.2 ⟨d,hd,Pp.par_in hi hp⟩
    rw[this]at h2;cases h2
/-- What there is at a path of the other tree, behind the deletes: what there was, if it is of the same kind. -/
theorem stay_at {A B:List En} (hA:Pp.Good A) (hB:Pp.Good B) {b:En} (hb:b∈B):
    (∀x,at_ (stay A B A.length) b.path.data.toList=some x→at_ A b.path.data.toList=some x∧x.folder=b.folder)∧
    (at_ (stay A B A.length) b.path.data.toList=none→wh b≠wAt A b.path.data.toList):=by
 have hbp:hasP B b.path.data.toList=true:=by
  rw[hasP_yes];by_cases hp:Pp.par b.path.data.toList=[]
  · exact Or.inl hp
  · exact Or.inr (wAt_fold hp (hB.pars b hb))
 have aA:=apart_rise hA.rise;have aB:=apart_rise hB.rise;constructor
 · intro x hx
   obtain⟨h1,h2⟩:=at_mem hx
   obtain⟨h3,h4⟩:=List.mem_filter.1 h1
   refine⟨by rw[←h2];exact at_self aA h3,?_⟩
   by_cases hf:x.folder=b.folder
   · exact hf
   · exfalso
     have hg:goes B x=true:=by
      rw[goes,h2,hbp,wAt_self aB hb,Bool.and_true];simpa using fun e=>hf (wh_eq.1 e)
     have:inB ((A.take A.length).filter (goes B)) x=true:=inB_iff.2 ⟨x,List.mem_filter.2 ⟨by rw[List.take_length];exact h3,hg⟩,Pp.isIn_refl _⟩
     rw[this]at h4;cases h4
 · intro hn hw
   obtain⟨x,hx,hxm,hxp,hxf⟩:=wAt_some hw
   have hst:x∈stay A B A.length:=by
    refine List.mem_filter.2 ⟨hxm,?_⟩
    cases hh:inB ((A.take A.length).filter (goes B)) x with
    |false=>rfl
    |true=>
     obtain⟨d,hd,hi⟩:=inB_iff.1 hh
     obtain⟨hd1,hd2⟩:=List.mem_filter.1 hd
     rw[List.take_length]at hd1;by_cases he:x.path.data.toList=d.path.data.toList
     · have:x=d:=hA.uniq hxm hd1 he
       subst this;rw[goes,hxp,wAt_self aB hb,wh_eq.2 hxf]at hd2;simp at hd2
     · have:=below hA hB hxm hd1 hd2 hi he
       rw[hxp,hbp]at this;cases this
   have:=at_self (apart_rise (stay_good (B:=B) hA A.length).rise) hst
   rw[hxp,hn]at this;cases this
/-- Is nothing to be made of it? -/
theorem newB_some {A:List En} {b x:En} (h:at_ A b.path.data.toList=some x) (hf:x.folder=b.folder):newB A b= !(b.folder||(x.text.toList==b.text.toList)):=by
 have h1:wAt A b.path.data.toList=wh b:=by rw[wAt,h];exact wh_eq.2 hf
 have h2:tAt A b.path.data.toList=tx x:=by rw[tAt,h]
 rw[newB,h1,h2];unfold tx;rw[hf];cases b.folder with
 |true=>simp
 |false=>
  simp
  rw[Bool.eq_iff_iff,beq_iff_eq,beq_iff_eq];exact eq_comm
theorem newB_none {A:List En} {b:En} (h:wh b≠wAt A b.path.data.toList):newB A b=true:=by
 have:(wh b==wAt A b.path.data.toList)=false:=by simpa using h
 rw[newB,this];rfl
theorem mkC_good {b:En} (h:Pp.entE b=0):mkC b=⟨if b.folder=true then 1 else 2,b.path,⟨#[]⟩,b.text,-1⟩:=by
 rw[mkC];by_cases hf:b.folder=true
 · rw[if_pos hf,if_pos hf]
   have h1:=entE_text h hf
   have h2:b.text=⟨#[]⟩:=by
    cases hb:b.text with
    |mk d=>rw[hb]at h1;cases d;simp_all
   rw[h2]
 · rw[if_neg hf,if_neg hf]
end Sp
end Go.Proofs.YtagibnejodgeeaaGreatDoor
