/- What the document's own IsIn answers, for every two texts. -/
import Derived.Test.YtagibnejodgeeaaGreatDoorRUH
import Derived.Test.YtagibnejodgeeaaGreatDoorRUN
import Derived.Test.YtagibnejodgeeaaGreatDoorRUJ
set_option linter.unusedSimpArgs false
set_option linter.unusedVariables false
namespace Go.Proofs.YtagibnejodgeeaaGreatDoor
open Go.RowKit

namespace Pp
theorem pre_short {A B:List (List UInt8)} (h:A.length<B.length):false=B.isPrefixOf A:=by
 symm
 cases e:B.isPrefixOf A with
 |false=>rfl
 |true=>have:=(List.isPrefixOf_iff_prefix.1 e).length_le;omega
theorem pre_no {A B:List (List UInt8)} {k:Nat} (hA:k<A.length) (hB:k<B.length) (h: ¬A[k]=B[k]):false=B.isPrefixOf A:=by
 symm
 cases e:B.isPrefixOf A with
 |false=>rfl
 |true=>
  obtain⟨t,ht⟩:=List.isPrefixOf_iff_prefix.1 e
  subst ht;exact absurd (by simp[List.getElem_append_left hB]) h
theorem pre_yes {A B:List (List UInt8)} (h:A.take B.length=B):true=B.isPrefixOf A:=by
 symm
 rw[List.isPrefixOf_iff_prefix];have:=List.take_prefix B.length A
 rwa [h]at this
end Pp

set_option maxHeartbeats 800000 in
theorem isIn_any (s t:ByteArray) (w:World) (hs:s.size≤1000000000) (ht:t.size≤1000000000):
    Calls Tryz.prog 35 #[.string s,.string t] w fun e w'=>e= .returned (.bool (Pp.isInB s.data.toList t.data.toList))∧Below w.heap.size w w':=by
 have hn1:(Pp.nm s.data.toList).length≤s.size+1:=by have:=Pp.nm_len_le s.data.toList;rwa [←Lib.size_eq]at this
 have hn2:(Pp.nm t.data.toList).length≤t.size+1:=by have:=Pp.nm_len_le t.data.toList;rwa [←Lib.size_eq]at this
 obtain⟨A,hA⟩: ∃L,L=Pp.nm s.data.toList:=⟨_,rfl⟩
 obtain⟨B,hB⟩: ∃L,L=Pp.nm t.data.toList:=⟨_,rfl⟩
 have HA:Hid (A=Pp.nm s.data.toList):=hA;have HB:Hid (B=Pp.nm t.data.toList):=hB;have HI:=hid (show Pp.isInB s.data.toList t.data.toList=B.isPrefixOf A from by rw[Pp.isInB,hA,hB]);rw[←hA]at hn1;rw[←hB]at hn2;clear hA hB;go_enter Tryz.func35,Tryz.ntmps35
 go_wp2_with fail;refine(rNames_at s _ hs).mono ?_
 rintro e w1 ⟨g1,c1,rfl,hc1,hc1',hg1,hg1',hcell1,hb1⟩;rw[←HA.out]at hc1 hcell1⊢;go_wp2_with fail;refine(rNames_at t _ ht).mono ?_
 rintro e w2 ⟨g2,c2,rfl,hc2,hc2',hg2,hg2',hcell2,hb2⟩;rw[←HB.out]at hc2 hcell2⊢;have HC1:=hid (show∀i (h:i<A.length),w2.cell? ⟨g1,i,none⟩=some (.string ⟨(A[i]).toArray⟩)from fun i h=>(hb2.cell (p:=⟨g1,i,none⟩) hg1').trans (hcell1 i h));have HC2:Hid (∀i (h:i<B.length),w2.cell? ⟨g2,i,none⟩=some (.string ⟨(B[i]).toArray⟩)):=hcell2;have hb:Below w.heap.size w w2:=below_trans hb1 hb2;clear hcell1 hcell2 hb1 hb2;by_cases hlen:A.length<B.length
 · have hl2:(A.length:Int)<B.length:=by omega
   go_wp2;go_ret;exact⟨Pp.ret_bool (by rw[HI.out];exact Pp.pre_short hlen),hb⟩
 · have hl2:(B.length:Int)≤A.length:=by omega
   go_wp2_with fail;go_loopw [7] (fun i wr=> ∃k:Nat,k≤B.length∧i= .int .i64 k∧Hid (A.take k=B.take k)∧Below w2.heap.size w2 wr) (fun i _=>B.length-(intOf i).toNat)
   case atStart=>exact⟨0,Nat.zero_le _,rfl,rfl,Below.refl _ _⟩
   case round=>
    obtain⟨k,hk,rfl,HE,hbel⟩:=hrel
    by_cases hlt:k<B.length
    · have hltA:k<A.length:=by omega
      have hce1:wr.cell? ⟨g1,k,none⟩=some (.string ⟨(A[k]).toArray⟩):=(hbel.cell (p:=⟨g1,k,none⟩) (show g1<w2.heap.size by omega)).trans (HC1.out k hltA);have hce2:wr.cell? ⟨g2,k,none⟩=some (.string ⟨(B[k]).toArray⟩):=(hbel.cell (p:=⟨g2,k,none⟩) hg2').trans (HC2.out k hlt);cases heq:(A[k]==B[k])with
      |true=>
       have HQ:=hid (show A[k]=B[k]from by simpa using heq);go_wp2_with fail;go_region
       go_wp2;go_roundw
       case rel=>exact⟨k+1,by omega,by simp,(by rw[List.take_succ_eq_append_getElem hltA,List.take_succ_eq_append_getElem hlt,HE.out,HQ.out]:A.take (k+1)=B.take (k+1)),hbel.drew⟩
       case measure=>simp[intOf];omega
      |false=>
       have HQ:=hid (show¬A[k]=B[k]from by simpa using heq);go_wp2_with fail;go_region
       go_wp2;go_ret;exact⟨Pp.ret_bool (by rw[HI.out];exact Pp.pre_no hltA hlt HQ.out),(below_trans hb hbel).drew⟩
    · go_wp2_with fail
      go_ret;exact⟨Pp.ret_bool (by rw[HI.out];obtain rfl:k=B.length:=(by omega);exact Pp.pre_yes (by have:=HE.out;rwa [List.take_length]at this)),below_trans hb hbel⟩
end Go.Proofs.YtagibnejodgeeaaGreatDoor
namespace Go.Proofs.YtagibnejodgeeaaGreatDoor
open Go.RowKit

set_option maxHeartbeats 400000 in
theorem rJoined_any (s t:ByteArray) (w:World) (hs:s.size≤1000000000) (ht:t.size≤1000000000):
    Calls Tryz.prog 70 #[.string s,.string t] w fun e w'=>e= .returned (.string ⟨(Pp.jn s.data.toList t.data.toList).toArray⟩)∧w'=w:=by
 cases hc:s.toList.isEmpty with
 |true=>
  have HP:=hid (show⟨(Pp.jn s.data.toList t.data.toList).toArray⟩=t from by rw[Lib.toList_data,List.isEmpty_iff]at hc;rw[Pp.jn,if_pos hc]);go_enter Tryz.func70,Tryz.ntmps70
  go_wp2;go_ret;exact⟨by rw[HP.out];rfl,rfl⟩
 |false=>
  have HP:=hid (show s++⟨#[47]⟩++t=⟨(Pp.jn s.data.toList t.data.toList).toArray⟩from Pp.bytes_eq (by
   rw[Lib.toList_data]at hc;rw[Joins.data_append,Joins.data_append,Pp.jn,if_neg (by intro h;rw[h]at hc;cases hc)];simp))
  go_enter Tryz.func70,Tryz.ntmps70
  go_wp2;go_ret;exact⟨by rw[←HP.out];rfl,rfl⟩
namespace Pp
theorem own_atW {w:World} {base:Nat} {v:Value} {L:List (List UInt8)} (h:w.ownsRow base 9 1 v L.length (vs L)) (h0:L≠[]):
    ∃g cap,v= .slice (some ⟨g,0,none⟩) L.length cap∧base≤g∧g<w.heap.size∧ ∀i (h:i<L.length),w.cell? ⟨g,i,none⟩=some (.string ⟨(L[i]).toArray⟩):=by
 have hcopy:=h;obtain⟨hl,h2⟩:=h
 rcases h2 with⟨_,hz⟩|⟨g,cap,cur,rfl,hg,hh,hn,hm,hz,htake⟩
 · exact absurd (List.length_eq_zero_iff.1 hz) h0
 · have hlt:g<w.heap.size:=by
    rcases Nat.lt_or_ge g w.heap.size with h|h
    · exact h
    · rw[Array.getElem?_eq_none h]at hh;cases hh
   refine⟨g,cap,rfl,hg,hlt,fun i h=>?_⟩
   rw[hcopy.cellAt i (by omega)];simp[vs,h]
theorem vs_appW (a b:List (List UInt8)):vs a++vs b=vs (a++b):=by simp[vs]
theorem vs_cellsW {w:World} {g:Nat} {L:List (List UInt8)} (h: ∀i (h:i<L.length),w.cell? ⟨g,i,none⟩=some (.string ⟨(L[i]).toArray⟩)) (o:Nat): ∀j u,(vs (L.drop o))[j]?=some u→w.cell? ((⟨g,o,none⟩:Addr).add j)=some u:=by
 intro j u hu;simp only[vs,List.getElem?_map,List.getElem?_drop,Option.map_eq_some_iff]at hu;obtain⟨x,hx,rfl⟩:=hu
 obtain⟨hlt,rfl⟩:=List.getElem?_eq_some_iff.1 hx
 have e:=h (o+j) hlt;by_cases hj:j=0
 · subst hj;simpa[Addr.add]using e
 · simpa[Addr.add,hj]using e
theorem vs_oneW (L:List (List UInt8)): ∀u∈vs L,u.oneCell'=true:=by
 intro u hu;simp only[vs,List.mem_map]at hu;obtain⟨x,_,rfl⟩:=hu
 rfl
end Pp

theorem pathOf_nW (L:List (List UInt8)) (n g o cap:Nat) (w:World) (he:n=L.length) (hL:(Pp.join L).length≤1000000000) (hn:L.length≤1000000000) (hcell: ∀i (h:i<L.length),w.cell? ⟨g,o+i,none⟩=some (.string ⟨(L[i]).toArray⟩)):
    Calls Tryz.prog 37 #[.slice (some ⟨g,o,none⟩) n cap] w fun e w'=>e= .returned (.string ⟨(Pp.join L).toArray⟩)∧w'=w:=by
 subst he;exact pathOf_any L g o cap w hL hn hcell
end Go.Proofs.YtagibnejodgeeaaGreatDoor
namespace Go.Proofs.YtagibnejodgeeaaGreatDoor
open Go.RowKit

namespace Pp
theorem dec_le: ∀(n u:Nat),u<n→(Lib.decDigits u).length≤u+1
 |0,u,h=>absurd h (Nat.not_lt_zero _)
 |n+1,u,h=>by
  rw[Lib.decDigits];split
  · simp
  · rename_i h1
    have:=dec_le n (u/10) (by omega)
    simp only[List.length_append,List.length_cons,List.length_nil];omega
theorem dec_small {u:Nat} (h:u<10):Lib.decDigits u=[UInt8.ofNat (48+u)]:=by rw[Lib.decDigits,dif_pos h]
theorem dec_more {u:Nat} (h: ¬u<10):Lib.decDigits u=Lib.decDigits (u/10)++[UInt8.ofNat (48+u % 10)]:=by rw[Lib.decDigits,dif_neg h]
def dg (u:Nat):UInt8:=UInt8.ofNat (48+u % 10)
theorem dig_toNat (u:Nat):(dg u).toNat=48+u % 10:=by
 rw[dg,UInt8.toNat_ofNat'];omega
theorem dec_one {u:Nat} (h:u<10):Lib.decDigits u=[dg u]:=by rw[dec_small h,dg,Nat.mod_eq_of_lt h]
theorem dec_two {u:Nat} (h: ¬u<10):Lib.decDigits u=Lib.decDigits (u/10)++[dg u]:=dec_more h
end Pp

theorem conv_one (u:Nat) (w:World) (ty:TypeId):
    (convert 116 9 (.slice (some ⟨w.heap.size,0,none⟩) 1 1)).run Tryz.prog (w.alloc (.cells #[.int .u8 (48+(u:Int) % 10)] ty))= .ok (.string ⟨#[Pp.dg u]⟩) (w.alloc (.cells #[.int .u8 (48+(u:Int) % 10)] ty)):=by
 refine run_convert_bytes_back (P:=Tryz.prog) (w.alloc (.cells #[.int .u8 (48+(u:Int) % 10)] ty)) 116 9 5 ⟨w.heap.size,0,none⟩ 1 [Pp.dg u] Tryz.underlying116 Tryz.underlying5 Tryz.underlying9 ?_
 intro j hj;match j,hj with
 |0,_=>
  have e:((Pp.dg u).toNat:Int)=48+(u:Int) % 10:=by rw[Pp.dig_toNat];omega
  simp only[List.getElem_cons_zero];rw[e];simp[Addr.add]
set_option maxHeartbeats 600000 in
theorem decimal_any (n:Nat) (w:World) (hn:n≤1000000000):
    Calls Tryz.prog 69 #[.int .i64 n] w fun e w'=>e= .returned (.string ⟨(Lib.decDigits n).toArray⟩)∧Below w.heap.size w w':=by
 have hlen:=Pp.dec_le (n+1) n (Nat.lt_succ_self n);have h0: ¬(n:Int)<0:=by omega
 go_enter Tryz.func69,Tryz.ntmps69
 go_wp2_with fail;go_loopw [0,3] (fun m r wr=> ∃(u:Nat) (l:List UInt8),m= .int .i64 u∧r= .string ⟨l.toArray⟩∧u≤n∧l.length≤n+1∧Hid (Lib.decDigits n=Lib.decDigits u++l)∧Below w.heap.size w wr) (fun m _ _=>(intOf m).toNat)
 case atStart=>exact⟨n,[],rfl,rfl,Nat.le_refl _,by simp,(by simp:Lib.decDigits n=Lib.decDigits n++[]),Below.refl _ _⟩
 case round=>
  obtain⟨u,l,rfl,rfl,hu,hl,HD,hbel⟩:=hrel
  have hcv:=fun ty=>conv_one u wr ty
  by_cases hlt:u<10
  · have HR:=hid (show(⟨#[Pp.dg u]⟩:ByteArray)++⟨l.toArray⟩=⟨(Lib.decDigits n).toArray⟩from Pp.bytes_eq (by
     rw[Joins.data_append,HD.out,Pp.dec_one hlt]))
    have hq:((u:Int)/10==0)=true:=by rw[beq_iff_eq];omega
    go_wp2_with fail;go_ret;exact⟨by rw[←HR.out];rfl,hbel.alloc hbel.size _⟩
  · have HR:=hid (show(⟨#[Pp.dg u]⟩:ByteArray)++⟨l.toArray⟩=⟨(Pp.dg u::l).toArray⟩from Pp.bytes_eq (by rw[Joins.data_append];rfl))
    have HD2:=hid (show Lib.decDigits n=Lib.decDigits (u/10)++(Pp.dg u::l)from by rw[HD.out,Pp.dec_two hlt];simp)
    have hl2:(Pp.dg u::l).length≤n+1:=by
     have:=congrArg List.length HD2.out
     rw[List.length_append]at this;omega
    have hq:((u:Int)/10==0)=false:=by rw[beq_eq_false_iff_ne];omega
    go_wp2_with fail;go_roundw
    case rel=>exact⟨u/10,Pp.dg u::l,by simp,by rw[HR.out],by omega,hl2,HD2.out,hbel.alloc hbel.size _⟩
    case measure=>simp[intOf];omega
end Go.Proofs.YtagibnejodgeeaaGreatDoor
namespace Go.Proofs.YtagibnejodgeeaaGreatDoor
open Go.RowKit

namespace Pp
theorem dot_hit_step (l:List UInt8) (k:Nat) (h1:1≤k) (h:l[k]?=some 46):dot l (k+1)=k:=by rw[dot,if_pos ⟨h1,h⟩]
theorem dot_miss_step (l:List UInt8) (k:Nat) (h: ¬l[k]?=some 46):dot l (k+1)=dot l k:=by rw[dot,if_neg (fun e=>h e.2)]
theorem dot_le (l:List UInt8): ∀k,k≤l.length→dot l k≤l.length
 |0,_=>Nat.le_refl _
 |k+1,h=>by
  rw[dot];split
  · omega
  · exact dot_le l k (by omega)
theorem dot_one (l:List UInt8):dot l 1=l.length:=by rw[dot,if_neg (by omega),dot]
theorem get_byte (s:ByteArray) (k:Nat) (hk:k<s.size):s.data.toList[k]?=some s[k]:=by
 have hl:k<s.data.toList.length:=by simpa using hk
 rw[List.getElem?_eq_getElem hl,byte_at' s k hk hl]
theorem is46 (c:UInt8):(c.toNat:Int)=46↔c=46:=by
 constructor
 · intro h;exact UInt8.toNat_inj.1 (by simpa using Int.ofNat.inj h)
 · intro h;rw[h];rfl
/-- The stem, shortened from its end: byte by byte. -/
theorem trim_eq (l:List UInt8):Lib.trimRightB l 32=if l.getLast?=some 32 then Lib.trimRightB l.dropLast 32 else l:=by
 rcases List.eq_nil_or_concat l with rfl|⟨r,c,rfl⟩
 · simp[Lib.trimRightB]
 · rw[List.concat_eq_append]
   simp only[Lib.trimRightB,List.reverse_append,List.reverse_cons,List.reverse_nil,List.nil_append,List.singleton_append,List.dropWhile_cons,List.getLast?_append,List.getLast?_singleton,List.dropLast_concat];by_cases h:c=32
   · subst h;simp
   · simp[h]
/-- What the loop keeps: what is left of the stem comes to R. -/
def leads (room:Int) (R x:List UInt8):Prop:=Lib.trimRightB (x.take room.toNat) 32=R
theorem leads_start {l:List UInt8} {room:Int} (h:room<l.length):leads room (short l room) l:=by
 rw[leads,short,if_neg (by omega)]
theorem leads_long {room:Int} {R x:List UInt8} (h:leads room R x) (hl:room<x.length):leads room R x.dropLast:=by
 unfold leads at h⊢;rw[List.dropLast_eq_take,List.take_take,show min room.toNat (x.length-1)=room.toNat by omega];exact h
theorem leads_blank {room:Int} {R x:List UInt8} (h:leads room R x) (hl:(x.length:Int)≤room) (hb:x.getLast?=some 32):leads room R x.dropLast:=by
 unfold leads at h⊢;rw[List.take_of_length_le (by omega),trim_eq,if_pos hb]at h;rw[List.take_of_length_le (by rw[List.length_dropLast];omega)];exact h
theorem leads_nil {room:Int} {R:List UInt8} (h:leads room R []):R=[]:=by
 unfold leads at h;rw[←h];simp[Lib.trimRightB]
theorem leads_end {room:Int} {R x:List UInt8} (h:leads room R x) (hl:(x.length:Int)≤room) (hb: ¬x.getLast?=some 32):R=x:=by
 unfold leads at h;rw[List.take_of_length_le (by omega),trim_eq,if_neg hb]at h;exact h.symm
theorem cut_last (X:ByteArray):(X.extract 0 (X.size-1)).data.toList=X.data.toList.dropLast:=by
 rw[Lib.extract_data,List.dropLast_eq_take,Lib.size_eq];simp
theorem last_byte (X:ByteArray) (h:X.size-1<X.size):X.data.toList.getLast?=some X[X.size-1]:=by
 have hl2:X.size-1<X.data.toList.length:=by simpa using h
 rw[List.getLast?_eq_getElem?,←Lib.size_eq,List.getElem?_eq_getElem hl2,byte_at' X _ h hl2]
theorem is32 (c:UInt8):(c.toNat:Int)=32↔c=32:=by
 constructor
 · intro h;exact UInt8.toNat_inj.1 (by simpa using Int.ofNat.inj h)
 · intro h;rw[h];rfl
def strLen (v:Value):Nat:=match v with
 | .string s=>s.size
 |_=>0
theorem lst_long {l:List UInt8} (h:chk l=0):1≤(lst l).length:=by
 have h1:=chk_names h
 have hm:lst l∈nm l:=by
  rw[lst,List.getLastD_eq_getLast?];cases e:(nm l).getLast? with
  |none=>exact absurd (List.getLast?_eq_none_iff.1 e) (nm_ne l)
  |some x=>exact List.mem_of_getLast? e
 have:=(List.all_eq_true.1 h1) _ hm
 simp only[nameB,Bool.and_eq_true,decide_eq_true_eq]at this;omega
end Pp

set_option maxRecDepth 100000 in
set_option maxHeartbeats 1000000 in
theorem asideOf_any (s:ByteArray) (n:Nat) (w:World) (hs:s.size≤1048576) (hn1:1≤(n:Int)) (hn2:(n:Int)≤99) (hz:Pp.chk s.data.toList=0):
    Calls Tryz.prog 44 #[.string s,.int .i64 n] w fun e w'=>e= .returned (.tuple #[.string ⟨(Pp.ifc (Pp.asideE s.data.toList n) (Pp.asideT s.data.toList n)).toArray⟩,.int .i64 (Pp.asideE s.data.toList n)])∧Below w.heap.size w w':=by
 have hM1:=Pp.lst_long hz;have b0:=Pp.dec_len n (by omega);have b1:=Pp.len_par s.data.toList;have b2:=Pp.len_lst s.data.toList;rw[←Lib.size_eq]at b1 b2;obtain⟨M,hM⟩: ∃M:ByteArray,M=⟨(Pp.lst s.data.toList).toArray⟩:=⟨_,rfl⟩
 have HM:Hid ((⟨(Pp.lst s.data.toList).toArray⟩:ByteArray)=M):=hM.symm;have HML:=hid (show M.data.toList=Pp.lst s.data.toList from by rw[hM]);have hMs:M.size=(Pp.lst s.data.toList).length:=by rw[hM,Pp.sz]
 have hM1':1≤M.size:=by omega
 have hM2:M.size≤1048576:=by omega
 clear hM hMs;have HZ:Hid (Pp.chk s.data.toList=0):=hz;clear hz;go_enter Tryz.func44,Tryz.ntmps44
 go_wp2_with fail;refine(lastOf_any s _ (by omega)).mono ?_
 rintro e w1 ⟨rfl,hb1⟩;rw[HM.out];go_wp2_with fail;go_loop [7,8] (fun a i=> ∃k:Nat,1≤k∧k≤M.size∧i= .int .i64 k∧a= .int .i64 (Pp.dot M.data.toList k)) (fun _ i=>M.size-(intOf i).toNat)
 case atStart=>exact⟨1,Nat.le_refl _,hM1',rfl,by rw[Pp.dot_one,←Lib.size_eq]⟩
 case round=>
  obtain⟨k,hk1,hk,rfl,rfl⟩:=hrel
  by_cases hlt:k<M.size
  · cases hc:((M[k].toNat:Int)==46)with
    |true=>
     have HD:=hid (show Pp.dot M.data.toList (k+1)=k from Pp.dot_hit_step _ k hk1 (by rw[Pp.get_byte M k hlt,(Pp.is46 M[k]).1 (by simpa using hc)]));go_wp2_with fail;go_round
     case rel=>exact⟨k+1,by omega,by omega,by go_num,by rw[HD.out]⟩
     case measure=>simp[intOf];omega
    |false=>
     have HD:=hid (show Pp.dot M.data.toList (k+1)=Pp.dot M.data.toList k from Pp.dot_miss_step _ k (by rw[Pp.get_byte M k hlt];intro e;rw[Option.some.injEq]at e;have:=(Pp.is46 M[k]).2 e;simp at hc;exact hc this));go_wp2_with fail;go_round
     case rel=>exact⟨k+1,by omega,by omega,by go_num,by rw[HD.out]⟩
     case measure=>simp[intOf];omega
  · obtain rfl:k=M.size:=by omega
    have hdle:=Pp.dot_le M.data.toList M.size (by rw[Lib.size_eq];exact Nat.le_refl _);rw[←Lib.size_eq]at hdle;have hd2:(Pp.dot M.data.toList M.size:Int)≤M.size:=by omega
    obtain⟨X0,hX0⟩: ∃X:ByteArray,X=⟨(Pp.stem (Pp.lst s.data.toList)).toArray⟩:=⟨_,rfl⟩
    have HX0:=hid (show X0.data.toList=Pp.stem (Pp.lst s.data.toList)from by rw[hX0]);have b3:X0.size≤M.size:=by rw[Lib.size_eq,HX0.out,Lib.size_eq,HML.out];exact Pp.len_stem _
    have b4:(Pp.ending (Pp.lst s.data.toList)).length≤M.size:=by rw[Lib.size_eq,HML.out];exact Pp.len_ending _
    have HS:=hid (show M.extract 0 (Pp.dot M.data.toList M.size)=X0 from by rw[hX0];exact Pp.bytes_eq (by rw[Lib.extract_data,←HML.out,Pp.stem,Lib.size_eq];simp));have HT:=hid (show M.extract (Pp.dot M.data.toList M.size) M.size=⟨(Pp.ending (Pp.lst s.data.toList)).toArray⟩from by rw[Pp.piece_end,HML.out,Pp.ending];rw[←HML.out,Lib.size_eq]);clear hX0;go_wp2_with fail;go_region
    rw[HS.out,HT.out];go_wp2_with fail;refine(decimal_any n _ (by omega)).mono ?_
    rintro e w2 ⟨rfl,hb2⟩;have hbb:Below w.heap.size w w2:=below_trans hb1.drew hb2;clear hb1 hb2;have HA:=hid (show Pp.asideS s.data.toList n=Pp.short X0.data.toList (20-(2+((Lib.decDigits n).length:Int)+1)-(Pp.ending (Pp.lst s.data.toList)).length)from by rw[HX0.out,Pp.aside_room]);by_cases hroom:20<(X0.size:Int)+(2+((Lib.decDigits n).length:Int)+1)+(Pp.ending (Pp.lst s.data.toList)).length
    · go_wp2_with fail
      go_loop [9] (fun st=> ∃X:ByteArray,st= .string X∧X.size≤X0.size∧Hid (Pp.leads (20-(2+((Lib.decDigits n).length:Int)+1)-(Pp.ending (Pp.lst s.data.toList)).length) (Pp.asideS s.data.toList n) X.data.toList)) (fun st=>Pp.strLen st)
      case atStart=>exact⟨X0,rfl,Nat.le_refl _,(by rw[HA.out];exact Pp.leads_start (by rw[←Lib.size_eq];omega):Pp.leads (20-(2+((Lib.decDigits n).length:Int)+1)-(Pp.ending (Pp.lst s.data.toList)).length) (Pp.asideS s.data.toList n) X0.data.toList)⟩
      case round=>
       obtain⟨X,rfl,hX,HLD⟩:=hrel
       cases hemp:X.toList.isEmpty with
       |true=>
        have HX:=hid (show X.data.toList=Pp.asideS s.data.toList n from by have e:=(Pp.empty_iff X).1 hemp;have h:=HLD.out;rw[e]at h⊢;exact(Pp.leads_nil h).symm);have b6:=Pp.mark_len n;have b7:=Pp.len_jn (Pp.par s.data.toList) (X.data.toList++Pp.mark n++Pp.ending (Pp.lst s.data.toList));rw[List.length_append,List.length_append,b6,←Lib.size_eq]at b7;have HTT:=hid (show Pp.jn (Pp.par s.data.toList) (X.data.toList++Pp.mark n++Pp.ending (Pp.lst s.data.toList))=Pp.asideT s.data.toList n from by rw[Pp.asideT_eq,HX.out]);rw[HTT.out]at b7;have B8:=hid (show(X.data.toList++Pp.mark n++Pp.ending (Pp.lst s.data.toList)).length≤1000000000 from by rw[List.length_append,List.length_append,b6,←Lib.size_eq];omega);clear b6
        have HB:Hid (X++(⟨#[32,40]⟩++⟨(Lib.decDigits n).toArray⟩++⟨#[41]⟩)++⟨(Pp.ending (Pp.lst s.data.toList)).toArray⟩=⟨(X.data.toList++Pp.mark n++Pp.ending (Pp.lst s.data.toList)).toArray⟩):=
         (Pp.bytes_eq (by rw[Joins.data_append,Joins.data_append,Joins.data_append,Joins.data_append];simp[Pp.mark]):X++(⟨#[32,40]⟩++⟨(Lib.decDigits n).toArray⟩++⟨#[41]⟩)++⟨(Pp.ending (Pp.lst s.data.toList)).toArray⟩=⟨(X.data.toList++Pp.mark n++Pp.ending (Pp.lst s.data.toList)).toArray⟩)
        go_wp2_with fail;refine(parentOf_any s _ (by omega)).mono ?_
        rintro e w3 ⟨rfl,hb3⟩;go_wp2_with fail;rw[HB.out];refine(rJoined_any _ ⟨(X.data.toList++Pp.mark n++Pp.ending (Pp.lst s.data.toList)).toArray⟩ _ (by rw[Pp.sz];omega) (by rw[Pp.sz];exact B8.out)).mono ?_
        rintro e w4 ⟨rfl,rfl⟩;rw[show Pp.jn _ _=Pp.asideT s.data.toList n from HTT.out];have HE:=hid (show Pp.asideE s.data.toList n=2 from by rw[Pp.asideE_in _ n HZ.out hn1 hn2,if_pos (by rw[←HX.out];exact(Pp.empty_iff X).1 hemp)]);go_wp2_with fail;go_ret2;exact⟨by rw[HE.out,Pp.ifc_no (by decide)];rfl,below_trans hbb hb3⟩
       |false=>
        have hx1:1≤X.size:=by
         rw[Lib.size_eq];exact Nat.pos_of_ne_zero (fun e=>Pp.not_empty hemp (List.length_eq_zero_iff.1 e))
        have hx2:X.size-1<X.size:=by omega
        by_cases hlong:20<(X.size:Int)+(2+((Lib.decDigits n).length:Int)+1)+(Pp.ending (Pp.lst s.data.toList)).length
        · have HN:=hid (show Pp.leads (20-(2+((Lib.decDigits n).length:Int)+1)-(Pp.ending (Pp.lst s.data.toList)).length) (Pp.asideS s.data.toList n) (X.extract 0 (X.size-1)).data.toList from by rw[Pp.cut_last];exact Pp.leads_long HLD.out (by rw[←Lib.size_eq];omega))
          have hsz:(X.extract 0 (X.size-1)).size=X.size-1:=by rw[Lib.size_eq,Pp.cut_last,List.length_dropLast,←Lib.size_eq]
          have HSZ:Hid ((X.extract 0 (X.size-1)).size=X.size-1):=hsz;clear hsz;go_wp2_with fail;go_round
          case rel=>exact⟨X.extract 0 (X.size-1),rfl,by rw[HSZ.out];omega,HN.out⟩
          case measure=>simp only[Pp.strLen];rw[HSZ.out];omega
        · cases hbl:((X[X.size-1].toNat:Int)==32)with
          |true=>
           have HN:=hid (show Pp.leads (20-(2+((Lib.decDigits n).length:Int)+1)-(Pp.ending (Pp.lst s.data.toList)).length) (Pp.asideS s.data.toList n) (X.extract 0 (X.size-1)).data.toList from by rw[Pp.cut_last];exact Pp.leads_blank HLD.out (by rw[←Lib.size_eq];omega) (by rw[Pp.last_byte X hx2,(Pp.is32 X[X.size-1]).1 (by simpa using hbl)]));have hsz:(X.extract 0 (X.size-1)).size=X.size-1:=by rw[Lib.size_eq,Pp.cut_last,List.length_dropLast,←Lib.size_eq]
           have HSZ:Hid ((X.extract 0 (X.size-1)).size=X.size-1):=hsz;clear hsz;go_wp2_with fail;go_round
           case rel=>exact⟨X.extract 0 (X.size-1),rfl,by rw[HSZ.out];omega,HN.out⟩
           case measure=>simp only[Pp.strLen];rw[HSZ.out];omega
          |false=>
           have HX:=hid (show X.data.toList=Pp.asideS s.data.toList n from(Pp.leads_end HLD.out (by rw[←Lib.size_eq];omega) (by rw[Pp.last_byte X hx2];intro e;rw[Option.some.injEq]at e;have:=(Pp.is32 X[X.size-1]).2 e;simp at hbl;exact hbl this)).symm);have b6:=Pp.mark_len n;have b7:=Pp.len_jn (Pp.par s.data.toList) (X.data.toList++Pp.mark n++Pp.ending (Pp.lst s.data.toList));rw[List.length_append,List.length_append,b6,←Lib.size_eq]at b7;have HTT:=hid (show Pp.jn (Pp.par s.data.toList) (X.data.toList++Pp.mark n++Pp.ending (Pp.lst s.data.toList))=Pp.asideT s.data.toList n from by rw[Pp.asideT_eq,HX.out]);rw[HTT.out]at b7;have B8:=hid (show(X.data.toList++Pp.mark n++Pp.ending (Pp.lst s.data.toList)).length≤1000000000 from by rw[List.length_append,List.length_append,b6,←Lib.size_eq];omega);clear b6
           have HB:Hid (X++(⟨#[32,40]⟩++⟨(Lib.decDigits n).toArray⟩++⟨#[41]⟩)++⟨(Pp.ending (Pp.lst s.data.toList)).toArray⟩=⟨(X.data.toList++Pp.mark n++Pp.ending (Pp.lst s.data.toList)).toArray⟩):=
            (Pp.bytes_eq (by rw[Joins.data_append,Joins.data_append,Joins.data_append,Joins.data_append];simp[Pp.mark]):X++(⟨#[32,40]⟩++⟨(Lib.decDigits n).toArray⟩++⟨#[41]⟩)++⟨(Pp.ending (Pp.lst s.data.toList)).toArray⟩=⟨(X.data.toList++Pp.mark n++Pp.ending (Pp.lst s.data.toList)).toArray⟩)
           go_wp2_with fail;refine(parentOf_any s _ (by omega)).mono ?_
           rintro e w3 ⟨rfl,hb3⟩;go_wp2_with fail;rw[HB.out];refine(rJoined_any _ ⟨(X.data.toList++Pp.mark n++Pp.ending (Pp.lst s.data.toList)).toArray⟩ _ (by rw[Pp.sz];omega) (by rw[Pp.sz];exact B8.out)).mono ?_
           rintro e w4 ⟨rfl,rfl⟩;rw[show Pp.jn _ _=Pp.asideT s.data.toList n from HTT.out];have hne:Pp.asideS s.data.toList n≠[]:=by rw[←HX.out];exact Pp.not_empty hemp
           have hE:Pp.asideE s.data.toList n=if Pp.big (Pp.asideT s.data.toList n)=true then 2 else 0:=by
            rw[Pp.asideE_in _ n HZ.out hn1 hn2,if_neg hne,Pp.asideT_chk n HZ.out hne]
           clear hne;cases hbig:Pp.big (Pp.asideT s.data.toList n)with
           |true=>
            have HBG:Hid (Pp.big (Pp.asideT s.data.toList n)=true):=hbig;have HE:=hid (show Pp.asideE s.data.toList n=2 from by rw[hE,hbig];rfl);clear hbig hE;go_wp2_with fail;refine(rTooGreat_any ⟨(Pp.asideT s.data.toList n).toArray⟩ _ (by rw[Pp.sz];omega)).mono ?_
            rintro e w5 ⟨rfl,hb5⟩;rw[show Pp.big _=_ from HBG.out];go_wp2_with fail;go_ret2;exact⟨by rw[HE.out,Pp.ifc_no (by decide)];rfl,below_trans (below_trans hbb hb3) hb5⟩
           |false=>
            have HBG:Hid (Pp.big (Pp.asideT s.data.toList n)=false):=hbig;have HE:=hid (show Pp.asideE s.data.toList n=0 from by rw[hE,hbig];rfl);clear hbig hE;go_wp2_with fail;refine(rTooGreat_any ⟨(Pp.asideT s.data.toList n).toArray⟩ _ (by rw[Pp.sz];omega)).mono ?_
            rintro e w5 ⟨rfl,hb5⟩;rw[show Pp.big _=_ from HBG.out];go_wp2_with fail;go_ret2;exact⟨by rw[HE.out,Pp.ifc_yes rfl];rfl,below_trans (below_trans hbb hb3) hb5⟩
    · obtain⟨X,hXe⟩: ∃X:ByteArray,X=X0:=⟨_,rfl⟩
      subst hXe;have HX:=hid (show X.data.toList=Pp.asideS s.data.toList n from by rw[HA.out,Pp.short,if_pos (by rw[←Lib.size_eq];omega)]);have b6:=Pp.mark_len n;have b7:=Pp.len_jn (Pp.par s.data.toList) (X.data.toList++Pp.mark n++Pp.ending (Pp.lst s.data.toList));rw[List.length_append,List.length_append,b6,←Lib.size_eq]at b7;have HTT:=hid (show Pp.jn (Pp.par s.data.toList) (X.data.toList++Pp.mark n++Pp.ending (Pp.lst s.data.toList))=Pp.asideT s.data.toList n from by rw[Pp.asideT_eq,HX.out]);rw[HTT.out]at b7;have B8:=hid (show(X.data.toList++Pp.mark n++Pp.ending (Pp.lst s.data.toList)).length≤1000000000 from by rw[List.length_append,List.length_append,b6,←Lib.size_eq];omega);clear b6
      have HB:Hid (X++(⟨#[32,40]⟩++⟨(Lib.decDigits n).toArray⟩++⟨#[41]⟩)++⟨(Pp.ending (Pp.lst s.data.toList)).toArray⟩=⟨(X.data.toList++Pp.mark n++Pp.ending (Pp.lst s.data.toList)).toArray⟩):=
       (Pp.bytes_eq (by rw[Joins.data_append,Joins.data_append,Joins.data_append,Joins.data_append];simp[Pp.mark]):X++(⟨#[32,40]⟩++⟨(Lib.decDigits n).toArray⟩++⟨#[41]⟩)++⟨(Pp.ending (Pp.lst s.data.toList)).toArray⟩=⟨(X.data.toList++Pp.mark n++Pp.ending (Pp.lst s.data.toList)).toArray⟩)
      go_wp2_with fail;refine(parentOf_any s _ (by omega)).mono ?_
      rintro e w3 ⟨rfl,hb3⟩;go_wp2_with fail;rw[HB.out];refine(rJoined_any _ ⟨(X.data.toList++Pp.mark n++Pp.ending (Pp.lst s.data.toList)).toArray⟩ _ (by rw[Pp.sz];omega) (by rw[Pp.sz];exact B8.out)).mono ?_
      rintro e w4 ⟨rfl,rfl⟩;rw[show Pp.jn _ _=Pp.asideT s.data.toList n from HTT.out];cases hq:X.toList.isEmpty with
      |true=>
       have HE:=hid (show Pp.asideE s.data.toList n=2 from by rw[Pp.asideE_in _ n HZ.out hn1 hn2,if_pos (by rw[←HX.out];exact(Pp.empty_iff X).1 hq)]);go_wp2_with fail;go_ret2;exact⟨by rw[HE.out,Pp.ifc_no (by decide)];rfl,below_trans hbb hb3⟩
      |false=>
       have hne:Pp.asideS s.data.toList n≠[]:=by rw[←HX.out];exact Pp.not_empty hq
       have hE:Pp.asideE s.data.toList n=if Pp.big (Pp.asideT s.data.toList n)=true then 2 else 0:=by
        rw[Pp.asideE_in _ n HZ.out hn1 hn2,if_neg hne,Pp.asideT_chk n HZ.out hne]
       clear hne;cases hbig:Pp.big (Pp.asideT s.data.toList n)with
       |true=>
        have HBG:Hid (Pp.big (Pp.asideT s.data.toList n)=true):=hbig;have HE:=hid (show Pp.asideE s.data.toList n=2 from by rw[hE,hbig];rfl);clear hbig hE;go_wp2_with fail;refine(rTooGreat_any ⟨(Pp.asideT s.data.toList n).toArray⟩ _ (by rw[Pp.sz];omega)).mono ?_
        rintro e w5 ⟨rfl,hb5⟩;rw[show Pp.big _=_ from HBG.out];go_wp2_with fail;go_ret2;exact⟨by rw[HE.out,Pp.ifc_no (by decide)];rfl,below_trans (below_trans hbb hb3) hb5⟩
       |false=>
        have HBG:Hid (Pp.big (Pp.asideT s.data.toList n)=false):=hbig;have HE:=hid (show Pp.asideE s.data.toList n=0 from by rw[hE,hbig];rfl);clear hbig hE;go_wp2_with fail;refine(rTooGreat_any ⟨(Pp.asideT s.data.toList n).toArray⟩ _ (by rw[Pp.sz];omega)).mono ?_
        rintro e w5 ⟨rfl,hb5⟩;rw[show Pp.big _=_ from HBG.out];go_wp2_with fail;go_ret2;exact⟨by rw[HE.out,Pp.ifc_yes rfl];rfl,below_trans (below_trans hbb hb3) hb5⟩
end Go.Proofs.YtagibnejodgeeaaGreatDoor
namespace Go.Proofs.YtagibnejodgeeaaGreatDoor
open Go.RowKit Go.Maps

/-- The reference's joining: boxes of mine, theirs, out, put and copies. -/
structure RJ (w0 w:World) (bm bt bo bp bc:Nat) (vm vt vo vc:Value) (M T N:List En) (C:Mg.CC):Prop where
 bel:Below w0.heap.size w0 w
 lm:Lies w0 vm M
 lt:Lies w0 vt T
 mine:w.heap[bm]?=some (.cells #[vm] 22)
 theirs:w.heap[bt]?=some (.cells #[vt] 22)
 out:w.heap[bo]?=some (.cells #[vo] 22)
 lo:w.ownsRow w0.heap.size 27 4 vo N.length (Pp.flat N)
 put: ∃F,F≠27∧F≠46∧F≠9∧w.heap[bp]?=some (.cells #[.func (.func 42) #[] #[.pointer (some ⟨bo,0,none⟩)]] F)
 copies:w.heap[bc]?=some (.cells #[vc] 31)
 row:w.ownsRow w0.heap.size 46 2 vc C.length (Mg.flatP C)
 low:w0.heap.size≤bo∧w0.heap.size≤bc
 ne:bo≠bm∧bo≠bt∧bo≠bp∧bo≠bc∧bc≠bm∧bc≠bt∧bc≠bp
theorem rj_types:(22:TypeId)≠27∧(22:TypeId)≠46∧(31:TypeId)≠27∧(31:TypeId)≠46∧(27:TypeId)≠46:=by decide
theorem own_ne_box {w:World} {B b n size:Nat} {e F:TypeId} {v:Value} {xs:List Value} {cs:Array Value} {fz:Nat×Nat} (h:w.ownsRow B e size v n xs) (hb:w.heap[b]?=some (.cells cs F fz)) (hF:F≠e):v.ownBlock≠some b:=by
 obtain⟨_,h2⟩:=h
 rcases h2 with⟨rfl,_⟩|⟨g,cap,cur,rfl,_,hg,_⟩
 · simp[Value.ownBlock]
 · intro e1
   simp[Value.ownBlock]at e1
   subst e1;rw[hg]at hb;injection hb with hb
   injection hb with _ h3
   exact hF h3.symm
theorem RJ.below {w0 w w':World} {bm bt bo bp bc:Nat} {vm vt vo vc:Value} {M T N:List En} {C:Mg.CC} (h:RJ w0 w bm bt bo bp bc vm vt vo vc M T N C) (hw:Below w.heap.size w w'):RJ w0 w' bm bt bo bp bc vm vt vo vc M T N C:=by
 obtain⟨F,f1,f2,f9,f3⟩:=h.put
 exact⟨h.bel.trans (hw.mono h.bel.size),h.lm,h.lt,(hw.block bm (heap_lt h.mine)).trans h.mine,(hw.block bt (heap_lt h.theirs)).trans h.theirs,(hw.block bo (heap_lt h.out)).trans h.out,h.lo.kept9 hw,⟨F,f1,f2,f9,(hw.block bp (heap_lt f3)).trans f3⟩,(hw.block bc (heap_lt h.copies)).trans h.copies,h.row.kept9 hw,h.low,h.ne⟩
/-- Behind a put. -/
theorem RJ.out' {w0 w:World} {bm bt bo bp bc:Nat} {vm vt vo vc u:Value} {M T N N':List En} {C:Mg.CC} (h:RJ w0 w bm bt bo bp bc vm vt vo vc M T N C) (ho:w.ownsRow w0.heap.size 27 4 u N'.length (Pp.flat N')):RJ w0 (w.setCell ⟨bo,0,none⟩ u) bm bt bo bp bc vm vt u vc M T N' C:=by
 obtain⟨F,f1,f2,f9,f3⟩:=h.put
 have hs:=nb_set w bo 0 u;have hb: ∀{b:Nat} {o:Obj},w.heap[b]?=some o→bo≠b→(w.setCell ⟨bo,0,none⟩ u).heap[b]?=some o:=fun hh hne=>(hs.block _ (heap_lt hh) (fun e=>hne (by injection e with e;exact e.symm))).trans hh
 refine⟨h.bel.setCell (p:=⟨bo,0,none⟩) h.low.1 u,h.lm,h.lt,hb h.mine h.ne.1,hb h.theirs h.ne.2.1,?_,ho.kept (row:=some bo) hs (Or.inr (own_ne_box ho h.out rj_types.1)),⟨F,f1,f2,f9,hb f3 h.ne.2.2.1⟩,hb h.copies h.ne.2.2.2.1,h.row.kept (row:=some bo) hs (Or.inr (own_ne_box h.row h.out rj_types.2.1)),h.low,h.ne⟩
 unfold World.setCell;simp only[Array.getElem?_modify,h.out,if_true,Option.map_some];rfl
/-- Behind one more copy. -/
theorem RJ.app {w0 w w':World} {bm bt bo bp bc:Nat} {vm vt vo vc v':Value} {M T N:List En} {C C':Mg.CC} (h:RJ w0 w bm bt bo bp bc vm vt vo vc M T N C) (hw:w.grownBy w' vc.ownBlock) (ho:w'.ownsRow w0.heap.size 46 2 v' C'.length (Mg.flatP C')):RJ w0 (w'.setCell ⟨bc,0,none⟩ v') bm bt bo bp bc vm vt vo v' M T N C':=by
 obtain⟨F,f1,f2,f9,f3⟩:=h.put
 have hb1: ∀{b:Nat} {cs:Array Value} {E:TypeId},w.heap[b]?=some (.cells cs E)→E≠46→w'.heap[b]?=some (.cells cs E):=fun hh hE=>(hw.block _ (heap_lt hh) (fun e=>own_ne_box h.row hh hE e.symm)).trans hh
 have hs:=nb_set w' bc 0 v';have hb: ∀{b:Nat} {o:Obj},w'.heap[b]?=some o→bc≠b→(w'.setCell ⟨bc,0,none⟩ v').heap[b]?=some o:=fun hh hne=>(hs.block _ (heap_lt hh) (fun e=>hne (by injection e with e;exact e.symm))).trans hh
 have k1:=hb1 h.mine rj_types.2.1;have k2:=hb1 h.theirs rj_types.2.1;have k3:=hb1 h.out rj_types.2.1;have k4:=hb1 f3 f2;have k5:=hb1 h.copies rj_types.2.2.2.1;have hlo:=h.lo.kept hw (row_ne_row h.row h.lo rj_types.2.2.2.2.symm).symm;have hbel:Below w0.heap.size w0 w':=h.bel.grown hw h.bel.size (fun g hg=>(h.row.lt g hg).1);refine⟨hbel.setCell (p:=⟨bc,0,none⟩) h.low.2 v',h.lm,h.lt,hb k1 h.ne.2.2.2.2.1,hb k2 h.ne.2.2.2.2.2.1,hb k3 (fun e=>h.ne.2.2.2.1 e.symm),hlo.kept (row:=some bc) hs (Or.inr (own_ne_box hlo k5 rj_types.2.2.1)),⟨F,f1,f2,f9,hb k4 h.ne.2.2.2.2.2.2⟩,?_,ho.kept (row:=some bc) hs (Or.inr (own_ne_box ho k5 rj_types.2.2.2.1)),h.low,h.ne⟩
 unfold World.setCell;simp only[Array.getElem?_modify,k5,if_true,Option.map_some];rfl
/-- All blocks but two boxes and rows of copies are as they were. -/
structure FrR (w w':World) (bo bc:Nat):Prop where
 size:w.heap.size≤w'.heap.size
 block: ∀b cs F fz,w.heap[b]?=some (.cells cs F fz)→b≠bo→b≠bc→F≠46→w'.heap[b]?=some (.cells cs F fz)
theorem FrR.refl (w:World) (bo bc:Nat):FrR w w bo bc:=⟨Nat.le_refl _,fun b cs F fz h _ _ _=>h⟩
theorem FrR.trans {w w1 w2:World} {bo bc:Nat} (h:FrR w w1 bo bc) (h1:FrR w1 w2 bo bc):FrR w w2 bo bc:=⟨Nat.le_trans h.size h1.size,fun b cs F fz hb x y z=>h1.block b cs F fz (h.block b cs F fz hb x y z) x y z⟩
theorem FrR.of_below {w w':World} {bo bc:Nat} (h:Below w.heap.size w w'):FrR w w' bo bc:=⟨h.size,fun b cs F fz hb _ _ _=>(h.block b (heap_lt hb)).trans hb⟩
theorem FrR.set1 (w:World) (bo bc:Nat) (u:Value):FrR w (w.setCell ⟨bo,0,none⟩ u) bo bc:=⟨(nb_set w bo 0 u).size,fun b cs F fz hb x _ _=>((nb_set w bo 0 u).block b (heap_lt hb) (fun e=>x (by injection e))).trans hb⟩
theorem FrR.set2 (w:World) (bo bc:Nat) (u:Value):FrR w (w.setCell ⟨bc,0,none⟩ u) bo bc:=⟨(nb_set w bc 0 u).size,fun b cs F fz hb _ y _=>((nb_set w bc 0 u).block b (heap_lt hb) (fun e=>y (by injection e))).trans hb⟩
theorem FrR.grown {w w':World} {B n bo bc:Nat} {v:Value} {xs:List Value} (h:w.ownsRow B 46 2 v n xs) (hw:w.grownBy w' v.ownBlock):FrR w w' bo bc:=⟨hw.size,fun b cs F fz hb _ _ z=>(hw.block b (heap_lt hb) (fun e=>own_ne_box h hb z e.symm)).trans hb⟩
theorem own_frR {w w':World} {B n size bo bc:Nat} {e:TypeId} {v:Value} {xs:List Value} (h:w.ownsRow B e size v n xs) (hF:FrR w w' bo bc) (he:e≠46) (h1:v.ownBlock≠some bo) (h2:v.ownBlock≠some bc):w'.ownsRow B e size v n xs:=by
 obtain⟨hl,hc⟩:=h
 rcases hc with hc|⟨g,cap,cur,rfl,hg,hh,hr⟩
 · exact⟨hl,Or.inl hc⟩
 · exact⟨hl,Or.inr ⟨g,cap,cur,rfl,hg,hF.block g _ _ _ hh (fun e=>h1 (by rw[e];rfl)) (fun e=>h2 (by rw[e];rfl)) he,hr⟩⟩
theorem rj_types9:(9:TypeId)≠46∧(22:TypeId)≠9∧(31:TypeId)≠9∧(27:TypeId)≠9:=by decide
/-- A row of texts, beside a joining. -/
theorem RJ.texts {w0 w w':World} {bm bt bo bp bc B n:Nat} {vm vt vo vc v:Value} {M T N:List En} {C:Mg.CC} {xs:List Value} (h:RJ w0 w bm bt bo bp bc vm vt vo vc M T N C) (ho:w.ownsRow B 9 1 v n xs) (hF:FrR w w' bo bc):w'.ownsRow B 9 1 v n xs:=
 own_frR ho hF rj_types9.1 (own_ne_box ho h.out rj_types9.2.1) (own_ne_box ho h.copies rj_types9.2.2.1)
/-- A row of entries, beside a joining. -/
theorem RJ.ents {w0 w w':World} {bm bt bo bp bc B n:Nat} {vm vt vo vc v:Value} {M T N:List En} {C:Mg.CC} {xs:List Value} (h:RJ w0 w bm bt bo bp bc vm vt vo vc M T N C) (ho:w.ownsRow B 27 4 v n xs) (hF:FrR w w' bo bc):w'.ownsRow B 27 4 v n xs:=
 own_frR ho hF rj_types.2.2.2.2 (own_ne_box ho h.out rj_types.1) (own_ne_box ho h.copies rj_types.2.2.1)
/-- Behind a row of texts that grew. -/
theorem RJ.row9 {w0 w w':World} {bm bt bo bp bc n:Nat} {vm vt vo vc v:Value} {M T N:List En} {C:Mg.CC} {xs:List Value} (h:RJ w0 w bm bt bo bp bc vm vt vo vc M T N C) (ho:w.ownsRow w0.heap.size 9 1 v n xs) (hw:w.grownBy w' v.ownBlock):RJ w0 w' bm bt bo bp bc vm vt vo vc M T N C:=by
 obtain⟨F,f1,f2,f9,f3⟩:=h.put
 have hb: ∀{b:Nat} {cs:Array Value} {E:TypeId},w.heap[b]?=some (.cells cs E)→E≠9→w'.heap[b]?=some (.cells cs E):=fun hh hE=>(hw.block _ (heap_lt hh) (fun e=>own_ne_box ho hh hE e.symm)).trans hh
 exact⟨h.bel.grown hw h.bel.size (fun g hg=>(ho.lt g hg).1),h.lm,h.lt,hb h.mine rj_types9.2.1,hb h.theirs rj_types9.2.1,hb h.out rj_types9.2.1,h.lo.kept hw (row_ne_row ho h.lo rj_types9.2.2.2.symm).symm,⟨F,f1,f2,f9,hb f3 f9⟩,hb h.copies rj_types9.2.2.1,h.row.kept hw (row_ne_row ho h.row rj_types9.1).symm,h.low,h.ne⟩
/-- The closure put. -/
theorem mput_rj {w0 w:World} {bm bt bo bp bc:Nat} {vm vt vo vc:Value} {M T N N':List En} {C:Mg.CC} (h:RJ w0 w bm bt bo bp bc vm vt vo vc M T N C) (hr:Sp.Rise N) (hn:N.length≤1000000) (p t:ByteArray) {k:Int} (h1:0<k→N'=Sp.put1 ⟨p,k==1,t,1⟩ N) (h2: ¬0<k→N'=N):
    Calls Tryz.prog 42 #[.string p,.int .i64 k,.string t,.pointer (some ⟨bo,0,none⟩)] w fun e w'=>e= .returned (.tuple #[])∧ ∃vo',RJ w0 w' bm bt bo bp bc vm vt vo' vc M T N' C∧FrR w w' bo bc:=by
 by_cases hk:0<k
 · refine(mput_pos (⟨_,h.out⟩:Cs w bo [vo]) (lies_own h.lo (by omega)) hr hn p t hk).mono ?_
   rintro e w' ⟨rfl,u,w1,rfl,hb1,hrow⟩;rw[h1 hk];exact⟨rfl,u,(h.below hb1).out' (own_down hrow h.bel.size),(FrR.of_below hb1).trans (FrR.set1 w1 bo bc u)⟩
 · refine(mput_no p t hk).mono ?_
   rintro e w' ⟨rfl,rfl⟩;rw[h2 hk];exact⟨rfl,vo,h,FrR.refl _ _ _⟩
theorem idx_free (L:List En) (p:List UInt8):decide (Pp.idx L p<0)=((Mg.st L p).w==0):=by
 rcases Mg.st_ways L p with⟨h1,h2⟩|⟨k,_,h1,_,h2⟩|⟨k,_,h1,_,h2⟩
 · rw[h1,h2];rfl
 · rw[h1,h2]
   have: ¬((k:Int)<0):=by omega
   simp[this]
 · rw[h1,h2]
   have: ¬((k:Int)<0):=by omega
   simp[this]
set_option maxRecDepth 100000 in
set_option maxHeartbeats 4000000 in
theorem maside_any {w0 w:World} {bm bt bo bp bc:Nat} {vm vt vo vc:Value} {M T N:List En} {C:Mg.CC} (h:RJ w0 w bm bt bo bp bc vm vt vo vc M T N C) (hr:Sp.Rise N) (hn:N.length≤1000000) (hC:C.length≤100000) (p t:ByteArray) (hp:Pp.chk p.data.toList=0):
    Calls Tryz.prog 43 #[.string p,.string t,.pointer (some ⟨bm,0,none⟩),.pointer (some ⟨bt,0,none⟩),.pointer (some ⟨bo,0,none⟩),.pointer (some ⟨bp,0,none⟩),.pointer (some ⟨bc,0,none⟩)] w fun e w'=>
     (Mg.asd M T N p.data.toList=none→e= .returned (.bool false)∧Below w.heap.size w w')∧
     (∀q,Mg.asd M T N p.data.toList=some q→e= .returned (.bool true)∧ ∃vo' vc',RJ w0 w' bm bt bo bp bc vm vt vo' vc' M T (Sp.put1 (Mg.file q ⟨2,t,1⟩) N) (C++[(p,⟨q.toArray⟩)])∧FrR w w' bo bc):=by
 obtain⟨i0,hi0,hz0,hz1,hz2⟩:=info_parts Tryz.infoCp
 have HJ:=hid h;have HR:=hid hr;have hps:=Pp.chk_len hp;rw[Array.length_toList]at hps;have hps':p.size≤80:=hps;have HP:=hid hp;clear h hr hps hp;go_enter Tryz.func43,Tryz.ntmps43
 go_wp2_with fail;go_loopw [10] (fun x wr=> ∃k:Nat,1≤k∧k≤100∧x= .int .i64 k∧Hid (Mg.asd M T N p.data.toList=Mg.asdF M T N p.data.toList (100-k) k)∧Below w.heap.size w wr) (fun x _=>100-(intOf x).toNat)
 case atStart=>exact⟨1,Nat.le_refl _,by decide,rfl,(rfl:Mg.asd M T N p.data.toList=Mg.asdF M T N p.data.toList (100-1) 1),Below.refl _ _⟩
 case round=>
  obtain⟨k,hk1,hk2,rfl,HA,hbel⟩:=hrel
  by_cases hk:k≤99
  · have hki:(k:Int)<100:=by omega
    have e1:100-k=(99-k)+1:=by omega
    rw[e1]at HA;have HB:=hid (show¬Pp.asideE p.data.toList k=0→Mg.asd M T N p.data.toList=none from fun hh=>by rw[HA.out,Mg.asdF_bad hh]);have HH:=hid (show Pp.asideE p.data.toList k=0→Mg.free M T N (Pp.asideT p.data.toList k)=true→Mg.asd M T N p.data.toList=some (Pp.asideT p.data.toList k)from fun h1 h2=>by rw[HA.out,Mg.asdF_hit h1 h2]);have HMI:=hid (show Pp.asideE p.data.toList k=0→Mg.free M T N (Pp.asideT p.data.toList k)=false→Mg.asd M T N p.data.toList=Mg.asdF M T N p.data.toList (100-(k+1)) (k+1)from fun h1 h2=>by rw[HA.out,Mg.asdF_miss h1 h2];congr 1;omega);clear HA e1;go_wp2_with fail;refine(asideOf_any p k _ (by omega) (by omega) (by omega) HP.out).mono ?_
    rintro e w1 ⟨rfl,hb1⟩;have hb01:=below_tr hbel hb1;by_cases hE:Pp.asideE p.data.toList k=0
    · have HE:=hid hE
      rw[hE,Pp.ifc_yes rfl];generalize hqq:Pp.asideT p.data.toList k=q at*;clear hE;have d0:=(show Cs w1 bm [vm]from⟨_,(HJ.out.below hb01).mine⟩).cell 0 rfl;have d1:=(show Cs w1 bt [vt]from⟨_,(HJ.out.below hb01).theirs⟩).cell 0 rfl;have d2:=(show Cs w1 bo [vo]from⟨_,(HJ.out.below hb01).out⟩).cell 0 rfl;have hf:Mg.free M T N q=(((Mg.st M q).w==0) && ((Mg.st T q).w==0) && ((Mg.st N q).w==0)):=rfl;clear d1 d2;go_wp2_with fail;refine(entryAt_any M _ ⟨q.toArray⟩ _ (HJ.out.lm.below (HJ.out.below hb01).bel)).mono ?_
      rintro e w2 ⟨rfl,hb02x⟩;have hb02:=below_tr hb01 hb02x;rw[show(⟨q.toArray⟩:ByteArray).data.toList=q from by simp];have i1:=idx_free M q;cases ha:((Mg.st M q).w==0)with
      |false=>
       have hm:Mg.free M T N q=false:=by rw[hf];simp[ha]
       have ji1: ¬Pp.idx M q<0:=by rw[ha]at i1;simpa using i1
       clear i1;have HM2:=hid (HMI.out HE.out hm);clear HB HH HMI;go_wp2_with fail;go_roundw
       case rel=>exact⟨k+1,by omega,by omega,rfl,HM2,hb02⟩
       case measure=>
        simp[intOf]
        omega
      |true=>
       have ji1:Pp.idx M q<0:=by rw[ha]at i1;simpa using i1
       clear i1;have d1:=(show Cs w2 bt [vt]from⟨_,(HJ.out.below hb02).theirs⟩).cell 0 rfl;go_wp2_with fail;refine(entryAt_any T _ ⟨q.toArray⟩ _ (HJ.out.lt.below (HJ.out.below hb02).bel)).mono ?_
       rintro e w3 ⟨rfl,hb03x⟩;have hb03:=below_tr hb02 hb03x;rw[show(⟨q.toArray⟩:ByteArray).data.toList=q from by simp];have i2:=idx_free T q;cases hb:((Mg.st T q).w==0)with
       |false=>
        have hm:Mg.free M T N q=false:=by rw[hf];simp[ha,hb]
        have ji2: ¬Pp.idx T q<0:=by rw[hb]at i2;simpa using i2
        clear i2;have HM2:=hid (HMI.out HE.out hm);clear HB HH HMI;go_wp2_with fail;go_roundw
        case rel=>exact⟨k+1,by omega,by omega,rfl,HM2,hb03⟩
        case measure=>
         simp[intOf]
         omega
       |true=>
        have ji2:Pp.idx T q<0:=by rw[hb]at i2;simpa using i2
        clear i2;have d2:=(show Cs w3 bo [vo]from⟨_,(HJ.out.below hb03).out⟩).cell 0 rfl;go_wp2_with fail;refine(entryAt_any N _ ⟨q.toArray⟩ _ (lies_own (HJ.out.below hb03).lo (by omega))).mono ?_
        rintro e w4 ⟨rfl,hb04x⟩;have hb04:=below_tr hb03 hb04x;rw[show(⟨q.toArray⟩:ByteArray).data.toList=q from by simp];have i3:=idx_free N q;cases hc:((Mg.st N q).w==0)with
        |false=>
         have hm:Mg.free M T N q=false:=by rw[hf];simp[ha,hb,hc]
         have ji3: ¬Pp.idx N q<0:=by rw[hc]at i3;simpa using i3
         clear i3;have HM2:=hid (HMI.out HE.out hm);clear HB HH HMI;go_wp2_with fail;go_roundw
         case rel=>exact⟨k+1,by omega,by omega,rfl,HM2,hb04⟩
         case measure=>
          simp[intOf]
          omega
        |true=>
         have ji3:Pp.idx N q<0:=by rw[hc]at i3;simpa using i3
         clear i3;have HFR:=hid (HH.out HE.out (by rw[hf,ha,hb,hc];rfl));clear HB HH HMI hf ha hb hc;obtain⟨F,_,_,_,f3⟩:=(HJ.out.below hb04).put
         have dp:=(show Cs w4 bp [_]from⟨_,f3⟩).cell 0 rfl;go_wp2_with fail;have hs4:w0.heap.size≤w4.heap.size:=(HJ.out.below hb04).bel.size;refine(mput_pos (⟨_,(HJ.out.below hb04).out⟩:Cs w4 bo [vo]) (lies_own (HJ.out.below hb04).lo (by omega)) HR.out (by omega) ⟨q.toArray⟩ t (by decide:(0:Int)<2)).mono ?_
         rintro e w9 ⟨rfl,u,w5,rfl,hb5,hrow5⟩;have HJ5:=hid (show RJ w0 (w5.setCell ⟨bo,0,none⟩ u) bm bt bo bp bc vm vt u vc M T (Sp.put1 (Mg.file q ⟨2,t,1⟩) N) C from((HJ.out.below hb04).below hb5).out' (own_down hrow5 hs4));have HF5:=hid (show FrR w (w5.setCell ⟨bo,0,none⟩ u) bo bc from((FrR.of_below hb04).trans (FrR.of_below hb5)).trans (FrR.set1 w5 bo bc u));generalize w5.setCell ⟨bo,0,none⟩ u=w6 at*;clear dp f3 hrow5 hb5;have hbx:Cs w6 bc [vc]:=⟨_,HJ5.out.copies⟩
         have c3:=hbx.cell 0 rfl;have f3:=hbx.fr 0;have hjl3:=hbx.lt;have HROW:=hid HJ5.out.row;obtain⟨va,vcap,rfl⟩:=ownsRow_shape HROW.out
         have hs6:=HJ5.out.bel.size;clear hbx;go_wp2_with (at_builtin;refine wpList_append_own _ rfl _ _ 31 rfl w0.heap.size 46 i0 (.agg #[.string ⟨#[]⟩,.string ⟨#[]⟩]) 2 32 Tryz.underlying31 hi0 hz0 hz1 hz2 rfl (by decide) _ _ _ rfl (HROW.out.alloc _) ⟨w6.heap.size,0,none⟩ 1 1 [.string p,.string ⟨q.toArray⟩] rfl rfl ?qc1 ?qc2 ?qc3 ?qc4 ?qc5 ?_)
         case qc1=>intro i u hi;match i,hi with|0,hi=>simp at hi;subst hi;simp[Addr.add]|1,hi=>simp at hi;subst hi;simp[Addr.add]|i+2,hi=>simp at hi
         case qc2=>intro u hu;simp at hu;rcases hu with rfl|rfl<;>rfl
         case qc3=>unfold maxLen;omega
         case qc4=>omega
         case qc5=>simp;omega
         intro v7 w7 ho7 hgr7 hnn7;have hal:Below w6.heap.size w6 (w6.alloc (.cells #[.string p,.string ⟨q.toArray⟩] 46)):=(Below.refl _ _).alloc (Nat.le_refl _) _;have hJ7:=HJ5.out.below hal;have hbx7h:=(hgr7.block bc (heap_lt hJ7.copies) (fun e=>own_ne_box hJ7.row hJ7.copies rj_types.2.2.2.1 e.symm)).trans hJ7.copies;have hbx7:Cs w7 bc [.slice va C.length vcap]:=⟨_,hbx7h⟩
         have d3:=hbx7.cell 0 rfl;have e3:=hbx7.fr 0
         have ho8:w7.ownsRow w0.heap.size 46 2 v7 (C++[((p,⟨q.toArray⟩):ByteArray×ByteArray)]).length (Mg.flatP (C++[((p,⟨q.toArray⟩):ByteArray×ByteArray)])):=by
          rw[←Mg.flatP_snoc,List.length_append];exact ho7
         have HJ8:=hid (hJ7.app hgr7 ho8);have HF8:=hid (((HF5.out.trans (FrR.of_below hal)).trans (FrR.grown hJ7.row hgr7)).trans (FrR.set2 w7 bo bc v7));obtain⟨v7a,v7c,rfl⟩:=ownsRow_shape ho7
         clear ho7 ho8 hgr7 hJ7 hbx7 hbx7h HJ5 HROW;go_wp2_with fail;go_ret;refine⟨?_,?_⟩
         · intro hn
           rw[HFR.out]at hn;cases hn
         · intro q' hq'
           rw[HFR.out]at hq';injection hq' with hq'
           rw[←hq'];exact⟨rfl,_,_,HJ8.out,HF8.out⟩
    · have HN:=hid (HB.out hE)
      have hE':(Pp.asideE p.data.toList k !=0)=true:=by simpa using hE
      clear HB HH HMI;go_wp2_with fail;go_ret;refine⟨fun _=>⟨rfl,hb01⟩,fun q hq=>?_⟩
      rw[HN.out]at hq;cases hq
  · have hke:k=100:=by omega
    subst hke;have HN:=hid (show Mg.asd M T N p.data.toList=none from HA.out);go_wp2_with fail;go_ret;refine⟨fun _=>⟨rfl,hbel⟩,fun q hq=>?_⟩
    rw[HN.out]at hq;cases hq
end Go.Proofs.YtagibnejodgeeaaGreatDoor
