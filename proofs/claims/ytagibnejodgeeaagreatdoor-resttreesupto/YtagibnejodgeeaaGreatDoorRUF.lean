/- What delta.Patch answers, for every tree and every list of changes. -/
import Derived.Test.YtagibnejodgeeaaGreatDoorRUE
import Derived.Test.YtagibnejodgeeaaGreatDoorShelfK
import Derived.Maps.OwnSet
import Derived.WalkKit
import Derived.StringKeys
import Derived.Deep.AppendLies
import Derived.Deep.RegionHeld3
import Derived.Test.YtagibnejodgeeaaGreatDoorRUA
import Derived.Sort.Walk0
set_option linter.unusedSimpArgs false
set_option linter.unusedVariables false
namespace Go.Proofs.YtagibnejodgeeaaGreatDoor
open Go.RowKit

set_option maxRecDepth 100000 in
set_option maxHeartbeats 2000000 in
theorem patch_own (L:List En) (v:Value) (cs:List Pp.Ch) (u:Value) (n:Int) (w:World) (hv:Lies w v L) (hs:Sized L) (hu:LiesC w u cs) (hcs:SizedC 150000000000000 cs):
    Calls Tryz.prog 10 #[v,u,.int .i64 n] w fun e w'=> ∃r,e= .returned (.tuple #[r,.int .i64 (Pp.patE L cs n)])∧LiesF w.heap.size w' r (Pp.patR L cs n)∧Below w.heap.size w w':=by
 have HV:=hid hv;have HS:=hid hs;have HCS:=hid hcs;obtain⟨a,cap,rfl,hcap,hcap2,hC⟩:=hu
 have HC:Hid (∀i (h:i<cs.length),∃b o,a=some ⟨b,o,none⟩∧b<w.heap.size∧ChAt w b (o+i*5) cs[i]):=hC;clear hv hs hcs hC;by_cases htr:Pp.treeE L=0
 · have HT:=hid htr
   by_cases h120:120<cs.length
   · obtain⟨hE,hR⟩:=Pp.pat_many htr h120 n
     rw[hE,hR];clear hE hR htr;have h120':120<(cs.length:Int):=by omega
     go_enter Tryz.func10,Tryz.ntmps10
     go_wp2_with fail;refine(tcheck_all L v _ HV.out HS.out).mono ?_
     rintro e w1 ⟨rfl,hb1⟩;rw[HT.out];go_wp2_with fail;go_ret2;exact⟨_,rfl,liesF_nil _ _,hb1⟩
   · have h120': ¬120<(cs.length:Int):=by omega
     have hg:=(Pp.good_iff L).1 htr;have HG:=hid hg;have hlen:=hg.len;have HRUN:=hid (show∀k e R,Pp.runF n L cs=(k,e,R)→Pp.patE L cs n=e∧Pp.patR L cs n=R from fun k e R h=>Pp.pat_run htr h120 h);clear hg htr;go_enter Tryz.func10,Tryz.ntmps10
     go_wp2_with fail;refine(tcheck_all L v _ HV.out HS.out).mono ?_
     rintro e w1 ⟨rfl,hb1⟩;rw[HT.out];go_wp2_with fail;refine(eclone_own L v _ (HV.out.below hb1) (by omega)).mono ?_
     rintro e w2 ⟨u,rfl,hou,hb2⟩;have HU:=hid (hou.mono hb1.size);have hb02:=hb1.trans (hb2.mono hb1.size);clear hou hb1 hb2;go_wp2_with fail;go_loopw [9,26] (fun x i wr=> ∃(k:Nat) (S:List En),k≤cs.length∧i= .int .i64 k∧Hid (LiesF w.heap.size wr x S)∧Hid (Pp.Good S)∧Hid (Pp.Left n L cs S k)∧Below w.heap.size w wr) (fun _ i _=>cs.length-(intOf i).toNat)
     case atStart=>exact⟨0,L,Nat.zero_le _,rfl,HU,HG,Pp.left_zero n L cs,hb02⟩
     case round=>
      obtain⟨k,S,hk,rfl,HX,HGS,HLF,hbel⟩:=hrel
      clear hb02;by_cases hlt:k<cs.length
      · obtain⟨b,o,rfl,hb,he⟩:=HC.out k hlt
        obtain⟨c0,c1,c2,c3,c4⟩:=he.below hb hbel
        have hsz:=HCS.out cs[k] (List.getElem_mem hlt);have HZ:=hid hsz;have HNX:=hid (show Pp.appE S cs[k] n=0→Pp.Left n L cs (Pp.chdR S cs[k] n) (k+1)from fun h0=>Pp.left_next HLF.out hlt h0);have HST:=hid (show¬Pp.appE S cs[k] n=0→Pp.runF n L cs=(k,Pp.appE S cs[k] n,[])from fun h0=>Pp.left_stop HLF.out hlt h0);have HGN:=hid (show Pp.appE S cs[k] n=0→Pp.Good (Pp.chdR S cs[k] n)from fun h0=>Pp.app_good HGS.out h0);clear he hsz;generalize cs[k]=ck at*;obtain⟨kk,p,q,t,bs⟩:=ck
        simp only at c0 c1 c2 c3 c4;go_wp2_with fail;refine(tapply_allO S _ kk p q t bs n _ (HX.out.1.below ((Below.refl _ _).alloc (Nat.le_refl _) _)) (Pp.good_sizedD HGS.out) HZ.out.1 HZ.out.2.1 HZ.out.2.2).mono ?_
        rintro e w3 ⟨u3,rfl,hli,hb3⟩;rw[Pp.tapE_yes ((Pp.good_iff S).2 HGS.out)];rw[Pp.tapR_yes ((Pp.good_iff S).2 HGS.out)]at hli;obtain⟨d0,d1,d2,d3,d4,hbw,hlt3⟩:=box5 hb3
        have HLI:=hid (hli.mono (A:=w.heap.size) (by have:=hbel.size;simp;omega));have hbel3:=below_trans hbel hbw;clear hb3 hli d0 d1 d2 d3 d4 c0 c1 c2 c3 c4 hbel hbw;by_cases h0:Pp.appE S ⟨kk,p,q,t,bs⟩ n=0
        · have HN:=hid (HNX.out h0)
          have HG3:=hid (HGN.out h0);have hR:Pp.appR S ⟨kk,p,q,t,bs⟩ n=Pp.chdR S ⟨kk,p,q,t,bs⟩ n:=by rw[Pp.appR,Pp.ifz_yes h0]
          have HL3:=hid (show LiesF w.heap.size w3 u3 (Pp.chdR S ⟨kk,p,q,t,bs⟩ n)from hR▸HLI.out);rw[h0];clear hR h0 HLI HNX HST HGN;go_wp2_with fail;go_roundw
          case rel=>exact⟨k+1,_,by omega,by simp,HL3,HG3,HN,hbel3⟩
          case measure=>simp[intOf];omega
        · obtain⟨hE,hR⟩:=HRUN.out _ _ _ (HST.out h0)
          have hz:(Pp.appE S ⟨kk,p,q,t,bs⟩ n==0)=false:=by simpa using h0
          have HE:=hid hE;have HR:=hid hR;clear hE hR h0 HLI HNX HST HGN;go_wp2_with fail;go_ret2;exact⟨_,by rw[HE.out];rfl,by rw[HR.out];exact liesF_nil _ _,hbel3⟩
      · obtain rfl:k=cs.length:=by omega
        obtain⟨hE,hR⟩:=HRUN.out _ _ _ (Pp.left_end HLF.out)
        have HE:=hid hE;have HR:=hid hR;clear hE hR;go_wp2_with fail;go_ret2;exact⟨_,by rw[HE.out];rfl,by rw[HR.out];exact HX.out,hbel⟩
 · obtain⟨hE,hR⟩:=Pp.pat_no htr cs n
   rw[hE,hR];have hz:(Pp.treeE L==0)=false:=by simpa using htr
   clear hE hR;go_enter Tryz.func10,Tryz.ntmps10
   go_wp2_with fail;refine(tcheck_all L v _ HV.out HS.out).mono ?_
   rintro e w1 ⟨rfl,hb1⟩;go_wp2_with fail;go_ret2;exact⟨_,rfl,liesF_nil _ _,hb1⟩
end Go.Proofs.YtagibnejodgeeaaGreatDoor
namespace Go.Proofs
open Go.RowKit Go.Maps Go.Sort Go.Shelf

theorem Tryz.sortsK (m:Nat):AnyZ.SortsIn Tryz.prog Tryz.sortedK_ren Fence.wide m:=
 ⟨fun blk off cap ss W hH hblk hsz=>callsIn_wide.2 (AnyM.slices_Sort_string Tryz.sortK blk off cap ss W hH hblk hsz),
  fun p cap W=>callsIn_wide.2 (AnyM.slices_Sort_string_none Tryz.sortK p cap W)⟩
theorem Tryz.maps_KeysK (mb:Option Nat) (W:World):CallsIn Fence.wide 5 Tryz.prog 85 #[.map mb] W fun e w'=>e= .returned (.func (.func 103) #[] #[.pointer (some ⟨W.heap.size,0,none⟩)])∧w'=W.alloc (.cells #[.map mb] 52):=
 AnyZ.keys_in Tryz.keysK Fence.wide 5 trivial rfl mb W
set_option maxHeartbeats 1000000 in
theorem Tryz.slices_SortedK {H:Type} (b nn:Nat) (D0:DataW H) (R:Value→Option (DataW H×List MemPlace)) (w:World) (hown:w.ownsMap Tryz.prog 9 R b nn D0) (hmax:Maps.size D0≤maxLen) (hbytes:Maps.size D0*16≤140737488355328):
    CallsIn Fence.wide 5 Tryz.prog 84 #[.func (.func 103) #[] #[.pointer (some ⟨w.heap.size,0,none⟩)]] (w.alloc (.cells #[.map (some b)] 52)) fun e w'=> ∃(v:Value) (ss:List (List UInt8)),e= .returned v∧ss.Perm (strKeys D0)∧
     w'.ownsRow (w.alloc (.cells #[.map (some b)] 52)).heap.size 9 1 v ss.length ((ss.mergeSort (fun x y=>decide (x≤y))).map encStr)∧(v= .slice none 0 0↔ss=[])∧Below (w.alloc (.cells #[.map (some b)] 52)).heap.size (w.alloc (.cells #[.map (some b)] 52)) w':=by
 have hbl:=hown.lt
 have hseq:SeqGives Fence.wide 2 Tryz.prog 103 #[.pointer (some ⟨w.heap.size,0,none⟩)] encStr (fun ss=>ss.Perm (strKeys D0)) (Maps.size D0) (w.alloc (.cells #[.map (some b)] 52)):=
  AnyZ.keys_gives (ρ:=Tryz.keysK_ren) {Tryz.keysK with} Fence.wide _ trivial rfl (by omega) w.heap.size b nn D0 _ (by simp) (by simp) (by
   obtain⟨es,clock,hb,Ft,hs,hD⟩:=hown
   exact⟨es,clock,(Below.heap_alloc _ _ b hbl).trans hb,Ft,hs,hD⟩)
 exact AnyZ.sorted_in Tryz.sortedK Fence.wide 5 trivial trivial trivial trivial rfl (by omega) (Tryz.sortsK _) (enters_of Tryz.func102 (by kernel_rfl) rfl) 103 #[.pointer (some ⟨w.heap.size,0,none⟩)] trivial (enters_of Tryz.func103 (by kernel_rfl) rfl) _ _ hmax hbytes _ hseq
set_option maxHeartbeats 1000000 in
theorem Tryz.paths_any {H:Type} (b nn:Nat) (D0:DataW H) (R:Value→Option (DataW H×List MemPlace)) (w:World) (hown:w.ownsMap Tryz.prog 9 R b nn D0) (hmax:Maps.size D0≤maxLen) (hbytes:Maps.size D0*16≤140737488355328):
    Calls Tryz.prog 59 #[.map (some b)] w fun e w'=> ∃(v:Value) (ss:List (List UInt8)),e= .returned v∧ss.Perm (strKeys D0)∧
     w'.ownsRow w.heap.size 9 1 v ss.length ((ss.mergeSort (fun x y=>decide (x≤y))).map encStr)∧(v= .slice none 0 0↔ss=[])∧Below w.heap.size w w':=by
 refine(callsIn_wide (n:=6)).1 ?_
 have hfK:Fence.wide.fn 85:=trivial;have hfS:Fence.wide.fn 84:=trivial;refine callsIn_of_wp Tryz.func59 rfl trivial ?_ rfl
 simp only[Tryz.ntmps59,List.size_toArray,List.length_cons,List.length_nil,Nat.reduceAdd,Nat.reduceSub,Array.replicate_succ,Array.replicate_zero,List.push_toArray,List.append_toArray,List.nil_append,List.cons_append]
 gi_wp2_with (first
  |(gi_at_call 85;refine(Tryz.maps_KeysK _ _).mono ?_;rintro e w' ⟨rfl,rfl⟩)
  |(gi_at_call 84;refine(Tryz.slices_SortedK b nn D0 R w hown hmax hbytes).mono ?_;rintro e w' ⟨v,ss,rfl,hS,hrow,hnil,hb⟩))
 go_ret;exact⟨v,ss,rfl,hS,ownsRow_base_a hrow (by simp),hnil,((Below.refl _ w).alloc (Nat.le_refl _) _).trans (hb.mono (by simp))⟩
end Go.Proofs
namespace Go.Proofs.YtagibnejodgeeaaGreatDoor
open Go.RowKit Go.Maps Go.WideMaps

namespace Sp
/-- How a spot reads. -/
def rd:Value→Option (DataW Unit×List MemPlace)
 | .agg cs=>match cs.toList with
  |[.int .i64 a,.string t,.int .i64 n]=>some (.agg [.lit (.int .i64 a),.lit (.string t.data.toList),.lit (.int .i64 n)],[])
  |_=>none
 |_=>none
def dat (a:Int) (t:ByteArray) (n:Int):DataW Unit:= .agg [.lit (.int .i64 a),.lit (.string t.data.toList),.lit (.int .i64 n)]
theorem rd_mk (a:Int) (t:ByteArray) (n:Int):rd (.agg #[.int .i64 a,.string t,.int .i64 n])=some (dat a t n,[]):=rfl
theorem rd_inv {v:Value} {a:Int} {t:ByteArray} {n:Int} {ps:List MemPlace} (h:rd v=some (dat a t n,ps)):v= .agg #[.int .i64 a,.string t,.int .i64 n]:=by
 unfold rd at h;split at h
 · rename_i cs
   split at h
   · rename_i a' t' n' hcs
     simp only[dat,Option.some.injEq,Prod.mk.injEq,DataW.agg.injEq,List.cons.injEq,DataW.lit.injEq,Lit.int.injEq,Lit.string.injEq,true_and,and_true]at h;obtain⟨⟨h1,h2,h3⟩,_⟩:=h
     have ht:t'=t:=by
      cases t';cases t
      congr 1
      exact Array.toList_inj.1 h2
     have hc:cs= #[.int .i64 a',.string t',.int .i64 n']:=by cases cs;simp at hcs;rw[hcs]
     rw[hc,h1,ht,h3]
   · cases h
 · cases h
def key (p:ByteArray):Lit:= .string p.data.toList
def one (p:ByteArray) (a:Int) (t:ByteArray) (n:Int):DataW Unit:=(DataW.map []).put (key p) (dat a t n)
theorem one_eq (p:ByteArray) (a:Int) (t:ByteArray) (n:Int):one p a t n= .map [(key p,dat a t n)]:=rfl
theorem one_keys (p:ByteArray) (a:Int) (t:ByteArray) (n:Int):strKeys (one p a t n)=[p.data.toList]:=rfl
theorem one_at (p:ByteArray) (a:Int) (t:ByteArray) (n:Int) (z:DataW Unit):(one p a t n).atKey (key p) z=dat a t n:=by
 rw[one_eq];simp[DataW.atKey,key,Lit.sameKey]
theorem none_at (k:Lit) (z:DataW Unit):(DataW.map []:DataW Unit).atKey k z=z:=rfl
end Sp
theorem Tryz.zeroSpot (w:World):(zeroValue 89).run Tryz.prog w= .ok (.agg #[.int .i64 0,.string ⟨#[]⟩,.int .i64 0]) w:=by rw[Tryz.zeroValue89]
theorem spotAt_none {b n:Nat} {w:World} (h:w.ownsMap Tryz.prog 9 Sp.rd b n (.map [])) (p:ByteArray) (hp:p.size≤maxLen):(Instr.lookup 52 (.map (some b)) (.string p) false).run Tryz.prog w= .ok (.agg #[.int .i64 0,.string ⟨#[]⟩,.int .i64 0]) w:=by
 obtain⟨v,ps,hrun,hv⟩:=h.lookup (string_keyed Tryz.underlying9) Tryz.underlying52 (Tryz.zeroSpot w) (Sp.rd_mk 0 ⟨#[]⟩ 0) (keyOf_string_mk Tryz.underlying9 hp)
 rw[Sp.none_at]at hv;rw[Sp.rd_inv hv]at hrun;exact hrun
theorem spotAt_one {b n:Nat} {w:World} {p t:ByteArray} {a m:Int} (h:w.ownsMap Tryz.prog 9 Sp.rd b n (Sp.one p a t m)) (hp:p.size≤maxLen):(Instr.lookup 52 (.map (some b)) (.string p) false).run Tryz.prog w= .ok (.agg #[.int .i64 a,.string t,.int .i64 m]) w:=by
 obtain⟨v,ps,hrun,hv⟩:=h.lookup (string_keyed Tryz.underlying9) Tryz.underlying52 (Tryz.zeroSpot w) (Sp.rd_mk 0 ⟨#[]⟩ 0) (keyOf_string_mk Tryz.underlying9 hp)
 have e:(Sp.one p a t m).atKey (.string p.data.toList) (Sp.dat 0 ⟨#[]⟩ 0)=Sp.dat a t m:=Sp.one_at p a t m _;rw[e]at hv;rw[Sp.rd_inv hv]at hrun;exact hrun
set_option maxHeartbeats 1000000 in
theorem sof_file (p t:ByteArray) (n:Int) (w:World):
    Calls Tryz.prog 57 #[.agg #[.string p,.bool false,.string t,.int .i64 n]] w fun e w'=>e= .returned (.agg #[.int .i64 2,.string t,.int .i64 n])∧Below w.heap.size w w':=by
 go_enter Tryz.func57,Tryz.ntmps57
 go_wp2_with fail;refine bodyPost_ret (v:= .agg #[.int .i64 2,.string t,.int .i64 n]) (by simp[results,Tryz.results57,go_sem]) rfl ⟨rfl,?_⟩
 first|exact((Below.refl _ _).alloc (Nat.le_refl _) _).alloc (by simp) _|(trace_state;fail)
theorem Tryz.makeSpots (n:Int) (w:World):(Instr.makeMap 52 (some (.int .i64 n))).run Tryz.prog w= .ok (.map (some w.heap.size)) (w.alloc (.map #[] 0)):=by
 simp[Instr.makeMap,run_underlying Tryz.underlying52,asInt,asIntOf,Result.andThen]
set_option maxRecDepth 100000 in
set_option maxHeartbeats 1000000 in
theorem spotOf_nil (w:World):
    Calls Tryz.prog 23 #[.slice none 0 0] w fun e w'=> ∃b,e= .returned (.map (some b))∧w.heap.size≤b∧w'.ownsMap Tryz.prog 9 Sp.rd b 0 (.map [])∧Below w.heap.size w w':=by
 have hmm:=Tryz.makeSpots;have HO:=hid (World.ownsMap_made w Tryz.prog 9 Sp.rd);have hbel:Below w.heap.size w (w.alloc (.map #[] 0)):=(Below.refl _ _).alloc (Nat.le_refl _) _;go_enter Tryz.func23,Tryz.ntmps23
 go_wp2_with fail;go_loopw [11] (fun i wr=>i= .int .i64 0∧wr=w.alloc (.map #[] 0)) (fun _ _=>0)
 case atStart=>exact⟨rfl,rfl⟩
 case round=>
  obtain⟨rfl,rfl⟩:=hrel
  go_wp2_with fail;go_ret;exact⟨_,rfl,Nat.le_refl _,HO.out,hbel⟩
set_option maxRecDepth 100000 in
set_option maxHeartbeats 2000000 in
theorem spotOf_one (p t:ByteArray) (n:Int) (v:Value) (w:World) (hv:Lies w v [⟨p,false,t,n⟩]) (hp:p.size≤maxLen):
    Calls Tryz.prog 23 #[v] w fun e w'=> ∃b,e= .returned (.map (some b))∧w.heap.size≤b∧w'.ownsMap Tryz.prog 9 Sp.rd b 1 (Sp.one p 2 t n)∧Below w.heap.size w w':=by
 obtain⟨a,cap,rfl,hcap,hcap2,hL⟩:=hv
 obtain⟨b,o,rfl,hb,he⟩:=hL 0 (by simp)
 simp only[Nat.zero_mul,Nat.add_zero,List.getElem_cons_zero]at he;clear hL;have hmm:=Tryz.makeSpots;have HO:=hid (World.ownsMap_made w Tryz.prog 9 Sp.rd);have hbel0:Below w.heap.size w (w.alloc (.map #[] 0)):=(Below.refl _ _).alloc (Nat.le_refl _) _;have HE:=hid he;clear he;simp only[List.length_cons,List.length_nil,Nat.zero_add]at hcap hcap2⊢;go_enter Tryz.func23,Tryz.ntmps23
 go_wp2_with fail;go_loopw [11] (fun i wr=>Below w.heap.size w wr∧w.heap.size<wr.heap.size∧((i= .int .i64 0∧Hid (wr.ownsMap Tryz.prog 9 Sp.rd w.heap.size 0 (.map [])))∨(i= .int .i64 1∧Hid (wr.ownsMap Tryz.prog 9 Sp.rd w.heap.size 1 (Sp.one p 2 t n))))) (fun i _=>2-(intOf i).toNat)
 case atStart=>exact⟨hbel0,by simp,Or.inl ⟨rfl,HO⟩⟩
 case round=>
  obtain⟨hbel,hszr,⟨rfl,HM⟩|⟨rfl,HM⟩⟩:=hrel
  · obtain⟨c0,c1,c2,c3⟩:=HE.out.below hb hbel
    simp only at c0 c1 c2 c3;obtain⟨wz,hwz⟩: ∃wz,wz=wr.alloc (.cells #[.string p,.bool false,.string t,.int .i64 n] 27):=⟨_,rfl⟩
    have hbz:Below wr.heap.size wr wz:=by rw[hwz];exact(Below.refl _ _).alloc (Nat.le_refl _) _
    have z0:wz.cell? ⟨wr.heap.size,0,none⟩=some (.string p):=by rw[hwz];simp
    have z1:wz.cell? ⟨wr.heap.size,1,none⟩=some (.bool false):=by rw[hwz];simp
    have z2:wz.cell? ⟨wr.heap.size,2,none⟩=some (.string t):=by rw[hwz];simp
    have z3:wz.cell? ⟨wr.heap.size,3,none⟩=some (.int .i64 n):=by rw[hwz];simp
    have hszz:wz.heap.size=wr.heap.size+1:=by rw[hwz];simp
    have HMZ:=hid (HM.out.alloc (.cells #[.string p,.bool false,.string t,.int .i64 n] 27));rw[←hwz]at HMZ;have hbel2:=below_trans hbel hbz;go_wp2_with fail;rw[←hwz];clear hwz c0 c1 c2 c3
    go_region_held3 (fun W=>W.cell? ⟨wr.heap.size,0,none⟩=some (.string p)∧W.cell? ⟨wr.heap.size,1,none⟩=some (.bool false)∧W.cell? ⟨wr.heap.size,2,none⟩=some (.string t)∧W.cell? ⟨wr.heap.size,3,none⟩=some (.int .i64 n)) (go_keep) (first
     |(go_at_call 57;refine(sof_file p t n _).mono ?_;rintro e wa ⟨rfl,hba⟩;have hza:Below wz.heap.size wz wa:=((Below.refl _ _).drew).trans hba;have hma:=hid (HMZ.out.kept (row:=none) ⟨hza.os,hza.tape,hza.output,hza.size,fun k hk _=>hza.block k hk⟩ (by simp));obtain⟨w6,hrun6,hown6,hgr6⟩:=hma.out.update (string_keyed Tryz.underlying9) Tryz.underlying52 (by unfold maxLen;omega) (keyOf_string_mk Tryz.underlying9 hp) (Sp.rd_mk 2 t n);have HO6:=hid hown6;have j0:=(hza.cell (p:=⟨wr.heap.size,0,none⟩) (by simp[hszz])).trans z0;have j1:=(hza.cell (p:=⟨wr.heap.size,1,none⟩) (by simp[hszz])).trans z1;have j2:=(hza.cell (p:=⟨wr.heap.size,2,none⟩) (by simp[hszz])).trans z2;have j3:=(hza.cell (p:=⟨wr.heap.size,3,none⟩) (by simp[hszz])).trans z3;have hsza:=hza.size;have i0:=(hgr6.cell_far ⟨wr.heap.size,0,none⟩ (by show wr.heap.size<wa.heap.size;omega) (by simp;omega)).trans j0;have i1:=(hgr6.cell_far ⟨wr.heap.size,1,none⟩ (by show wr.heap.size<wa.heap.size;omega) (by simp;omega)).trans j1;have i2:=(hgr6.cell_far ⟨wr.heap.size,2,none⟩ (by show wr.heap.size<wa.heap.size;omega) (by simp;omega)).trans j2;have i3:=(hgr6.cell_far ⟨wr.heap.size,3,none⟩ (by show wr.heap.size<wa.heap.size;omega) (by simp;omega)).trans j3;clear hown6))
    have hbel6:Below w.heap.size w w6:=(below_trans hbel2 hza).grown hgr6 (by omega) (fun k hk=>by simp at hk;omega);have hsz6:=hgr6.size;go_wp2_with fail;go_roundw
    case rel=>exact⟨hbel6,by omega,Or.inr ⟨by simp,HO6⟩⟩
    case measure=>simp[intOf]
  · go_wp2_with fail
    go_ret;exact⟨_,rfl,Nat.le_refl _,HM.out,hbel⟩
end Go.Proofs.YtagibnejodgeeaaGreatDoor
namespace Go.Proofs.YtagibnejodgeeaaGreatDoor
open Go.RowKit Go.Maps Go.WideMaps

set_option maxHeartbeats 1000000 in
theorem like_no (a b:Int) (s t:ByteArray) (m n:Int) (h:(a==b)=false) (w:World):
    Calls Tryz.prog 64 #[.agg #[.int .i64 a,.string s,.int .i64 m],.agg #[.int .i64 b,.string t,.int .i64 n]] w fun e w'=>e= .returned (.bool false)∧Below w.heap.size w w':=by
 go_enter Tryz.func64,Tryz.ntmps64
 go_wp2;go_ret;exact⟨rfl,((Below.refl _ _).alloc (Nat.le_refl _) _).alloc (by simp) _⟩
set_option maxHeartbeats 1000000 in
theorem made_file (p t:ByteArray) (n:Int) (w:World):
    Calls Tryz.prog 65 #[.string p,.agg #[.int .i64 2,.string t,.int .i64 n]] w fun e w'=>e= .returned (.agg #[.int .i64 2,.string p,.string ⟨#[]⟩,.string t,.int .i64 (-1)])∧Below w.heap.size w w':=by
 go_enter Tryz.func65,Tryz.ntmps65
 go_wp2_with fail;refine bodyPost_ret (v:= .agg #[.int .i64 2,.string p,.string ⟨#[]⟩,.string t,.int .i64 (-1)]) (by simp[results,Tryz.results65,go_sem]) rfl ⟨rfl,?_⟩
 exact((Below.refl _ _).alloc (Nat.le_refl _) _).alloc (by simp) _
/-- No path, where there is none. -/
theorem paths_none {b n:Nat} {w:World} (h:w.ownsMap Tryz.prog 9 Sp.rd b n (.map [])):
    Calls Tryz.prog 59 #[.map (some b)] w fun e w'=>e= .returned (.slice none 0 0)∧Below w.heap.size w w':=
 (Tryz.paths_any b n _ Sp.rd w h (by simp[Maps.size]) (by simp[Maps.size])).mono fun e w' ⟨v,ss,he,hp,_,hnil,hb⟩=>by
  have:ss=[]:=List.Perm.eq_nil hp
  exact⟨by rw[he,hnil.2 this],hb⟩
/-- The path, where there is one. -/
theorem paths_one {b n:Nat} {w:World} {p t:ByteArray} {a m:Int} (h:w.ownsMap Tryz.prog 9 Sp.rd b n (Sp.one p a t m)):
    Calls Tryz.prog 59 #[.map (some b)] w fun e w'=> ∃g cap,e= .returned (.slice (some ⟨g,0,none⟩) 1 cap)∧w'.cell? ⟨g,0,none⟩=some (.string p)∧1≤cap∧w.heap.size≤g∧g<w'.heap.size∧Below w.heap.size w w':=
 (Tryz.paths_any b n _ Sp.rd w h (by rw[Sp.one_eq];simp[Maps.size,maxLen]) (by rw[Sp.one_eq];simp[Maps.size])).mono fun e w' ⟨v,ss,he,hp,hrow,hnil,hb⟩=>by
  rw[Sp.one_keys]at hp;have hs:ss=[p.data.toList]:=List.perm_singleton.1 hp;subst hs;have hrow':=hrow;obtain⟨hl,h2⟩:=hrow
  rcases h2 with⟨hv,hz⟩|⟨g,cap,cur,hv,hg,hh,hn,hm,hz,htake⟩
  · exact absurd (hnil.1 hv) (by simp)
  · subst hv
    have hc:=hrow'.cellAt 0 (by simp);refine⟨g,cap,he,?_,by simpa using hn,hg,?_,hb⟩
    · rw[hc];simp[encStr]
    · rcases Nat.lt_or_ge g w'.heap.size with h|h
      · exact h
      · rw[Array.getElem?_eq_none h]at hh;cases hh
theorem omap_below {b n:Nat} {w w':World} {D:DataW Unit} {B:Nat} (h:w.ownsMap Tryz.prog 9 Sp.rd b n D) (hw:Below B w w') (hb:b<B):w'.ownsMap Tryz.prog 9 Sp.rd b n D:=by
 obtain⟨es,clock,hh,F,hs,hD⟩:=h
 exact⟨es,clock,(hw.block b hb).trans hh,F,hs,hD⟩
set_option maxRecDepth 100000 in
set_option maxHeartbeats 1000000 in
theorem deletes_none {b c n:Nat} {w:World} (h:w.ownsMap Tryz.prog 9 Sp.rd b n (.map [])):
    Calls Tryz.prog 26 #[.map (some b),.map (some c)] w fun e w'=>e= .returned (.slice none 0 0)∧Below w.heap.size w w':=by
 have HM:=hid h;clear h;go_enter Tryz.func26,Tryz.ntmps26
 go_wp2_with fail;refine(paths_none HM.out).mono ?_
 rintro e w1 ⟨rfl,hb1⟩;go_wp2_with fail;go_loopw [5,11] (fun x i wr=>x= .slice none 0 0∧i= .int .i64 0∧wr=w1) (fun _ _ _=>0)
 case atStart=>exact⟨rfl,rfl,rfl⟩
 case round=>
  obtain⟨rfl,rfl,rfl⟩:=hrel
  go_wp2_with fail;go_ret;exact⟨rfl,hb1⟩
theorem Tryz.infoChg:(Tryz.prog.info? 24).map (fun i=>(i.zero,i.size,i.bytes))=some (some (.agg #[.int .i64 0,.string ⟨#[]⟩,.string ⟨#[]⟩,.string ⟨#[]⟩,.int .i64 0]),5,64):=by kernel_rfl
namespace Pp
def cellsC (c:Ch):List Value:=[.int .i64 c.k,.string c.p,.string c.q,.string c.t,.int .i64 c.b]
theorem cellsC_one (c:Ch): ∀u∈cellsC c,u.oneCell'=true:=by
 intro u hu;simp only[cellsC,List.mem_cons,List.not_mem_nil,or_false]at hu;rcases hu with rfl|rfl|rfl|rfl|rfl<;>rfl
end Pp
theorem new_cellsC (w:World) (c:Pp.Ch) (T:TypeId): ∀j u,(Pp.cellsC c)[j]?=some u→(w.alloc (.cells #[.int .i64 c.k,.string c.p,.string c.q,.string c.t,.int .i64 c.b] T)).cell? ((⟨w.heap.size,0,none⟩:Addr).add j)=some u:=by
 intro j u hj;match j,hj with
 |0,hj=>simp[Pp.cellsC]at hj;subst hj;simp[Addr.add]
 |1,hj=>simp[Pp.cellsC]at hj;subst hj;simp[Addr.add]
 |2,hj=>simp[Pp.cellsC]at hj;subst hj;simp[Addr.add]
 |3,hj=>simp[Pp.cellsC]at hj;subst hj;simp[Addr.add]
 |4,hj=>simp[Pp.cellsC]at hj;subst hj;simp[Addr.add]
 |j+5,hj=>simp[Pp.cellsC]at hj
set_option maxRecDepth 100000 in
set_option maxHeartbeats 2000000 in
theorem makes_one {b c n m:Nat} {w:World} {p t:ByteArray} {k:Int} (h:w.ownsMap Tryz.prog 9 Sp.rd b n (.map [])) (ho:w.ownsMap Tryz.prog 9 Sp.rd c m (Sp.one p 2 t k)) (hp:p.size≤maxLen):
    Calls Tryz.prog 27 #[.map (some b),.map (some c)] w fun e w'=> ∃v,e= .returned v∧w'.ownsRow w.heap.size 24 5 v 1 (Pp.cellsC ⟨2,p,⟨#[]⟩,t,-1⟩)∧Below w.heap.size w w':=by
 obtain⟨i0,hi0,hz0,hz1,hz2⟩:=info_parts Tryz.infoChg
 have HB:=hid h;have HC:=hid ho;have hblt:=h.lt;have hclt:=ho.lt;have HLK:=hid (show∀W,Below w.heap.size w W→(Instr.lookup 52 (.map (some b)) (.string p) false).run Tryz.prog W= .ok (.agg #[.int .i64 0,.string ⟨#[]⟩,.int .i64 0]) W∧(Instr.lookup 52 (.map (some c)) (.string p) false).run Tryz.prog W= .ok (.agg #[.int .i64 2,.string t,.int .i64 k]) W from fun W hW=>⟨spotAt_none (omap_below h hW hblt) p hp,spotAt_one (omap_below ho hW hclt) hp⟩);clear h ho;go_enter Tryz.func27,Tryz.ntmps27
 go_wp2_with fail;refine(paths_one HC.out).mono ?_
 rintro e w1 ⟨g,cap,rfl,hcell,hcap,hg1,hg2,hb1⟩;have hsz1:=hb1.size;go_wp2_with fail;go_loopw [5,11] (fun x i wr=>Below w1.heap.size w1 wr∧((x= .slice none 0 0∧i= .int .i64 0)∨(i= .int .i64 1∧Hid (wr.ownsRow w.heap.size 24 5 x 1 (Pp.cellsC ⟨2,p,⟨#[]⟩,t,-1⟩))))) (fun _ i _=>2-(intOf i).toNat)
 case atStart=>exact⟨Below.refl _ _,Or.inl ⟨rfl,rfl⟩⟩
 case round=>
  obtain⟨hbel,⟨rfl,rfl⟩|⟨rfl,HX⟩⟩:=hrel
  · have hb0r:Below w.heap.size w wr:=hb1.trans (hbel.mono hsz1)
    have c0:wr.cell? ⟨g,0,none⟩=some (.string p):=(hbel.cell (p:=⟨g,0,none⟩) hg2).trans hcell;obtain⟨hl1,hl2⟩:=HLK.out wr hb0r
    go_wp2_with fail;refine(like_no 2 0 t ⟨#[]⟩ k 0 (by decide) _).mono ?_
    rintro e w2 ⟨rfl,hb2⟩;have hb02:=below_trans hb0r hb2;have hbel2:=below_trans hbel hb2;clear hl1 hl2;obtain⟨hl1,hl2⟩:=HLK.out w2 hb02
    go_wp2_with fail;refine(made_file p t k _).mono ?_
    rintro e w3 ⟨rfl,hb3⟩;have hb03:=below_trans hb02 hb3;have hbel3:=below_trans hbel2 hb3;have hsz3:=hb03.size;clear hl1 hl2;go_wp2_with (at_builtin;refine wpList_append_own _ rfl _ _ 34 rfl w.heap.size 24 i0 (.agg #[.int .i64 0,.string ⟨#[]⟩,.string ⟨#[]⟩,.string ⟨#[]⟩,.int .i64 0]) 5 64 Tryz.underlying34 hi0 hz0 hz1 hz2 rfl (by decide) (.slice none 0 0) 0 [] rfl (World.ownsRow_nil _ _ _ _) ⟨w3.heap.size,0,none⟩ 1 1 (Pp.cellsC ⟨2,p,⟨#[]⟩,t,-1⟩) rfl rfl (new_cellsC w3 ⟨2,p,⟨#[]⟩,t,-1⟩ _) (Pp.cellsC_one _) (by unfold maxLen;omega) (by omega) (by simp;omega) ?_)
    intro v5 w5 ho5 hgr5 hnn5;have hbel5:Below w1.heap.size w1 w5:=(hbel3.alloc hbel3.size _).grown hgr5 (by have:=hbel3.size;simp;omega) (fun q hq=>by simp[Value.ownBlock]at hq);have HO5:=hid (show w5.ownsRow w.heap.size 24 5 v5 1 (Pp.cellsC ⟨2,p,⟨#[]⟩,t,-1⟩)from by simpa using ho5);clear ho5 hgr5 hnn5;go_wp2_with fail;go_roundw
    case rel=>exact⟨hbel5,Or.inr ⟨by simp,HO5⟩⟩
    case measure=>simp[intOf]
  · go_wp2_with fail
    go_ret;exact⟨_,rfl,HX.out,hb1.trans (hbel.mono hsz1)⟩
end Go.Proofs.YtagibnejodgeeaaGreatDoor
namespace Go.Proofs.YtagibnejodgeeaaGreatDoor
open Go.RowKit Go.Maps Go.WideMaps

set_option maxRecDepth 100000 in
set_option maxHeartbeats 2000000 in
theorem diff_one (p t:ByteArray) (k:Int) (v:Value) (w:World) (hv:Lies w v [⟨p,false,t,k⟩]) (hp:p.size≤1000) (ht:t.size≤1000) (htr:Pp.treeE [⟨p,false,t,k⟩]=0):
    Calls Tryz.prog 9 #[.slice none 0 0,v] w fun e w'=> ∃u,e= .returned (.tuple #[u,.int .i64 0])∧w'.ownsRow w.heap.size 24 5 u 1 (Pp.cellsC ⟨2,p,⟨#[]⟩,t,-1⟩)∧Below w.heap.size w w':=by
 obtain⟨i0,hi0,hz0,hz1,hz2⟩:=info_parts Tryz.infoChg
 have HV:=hid hv;have HT:=hid htr
 have HS:=hid (show Sized [⟨p,false,t,k⟩]from fun e he=>by
  have:e=⟨p,false,t,k⟩:=by simpa using he
  subst this;exact⟨by show p.size≤_;omega,by show t.size≤_;omega⟩)
 have hpm:p.size≤maxLen:=by unfold maxLen;omega
 clear hv htr;go_enter Tryz.func9,Tryz.ntmps9
 go_wp2_with fail;refine(tcheck_all [] _ _ (lies_nil _) (fun e he=>by cases he)).mono ?_
 rintro e w1 ⟨rfl,hb1⟩;rw[show Pp.treeE []=0 from by decide];go_wp2_with fail;refine(tcheck_all _ _ _ (HV.out.below hb1) HS.out).mono ?_
 rintro e w2 ⟨rfl,hb2⟩;rw[HT.out];have hb02:=below_trans hb1 hb2;clear hb1 hb2;go_wp2_with fail;refine(spotOf_nil _).mono ?_
 rintro e w3 ⟨b,rfl,hbb,hob,hb3⟩;have HOB:=hid hob;have hb03:=below_trans hb02 hb3;clear hb3 hob;go_wp2_with fail;refine(spotOf_one p t k _ _ (HV.out.below hb03) hpm).mono ?_
 rintro e w4 ⟨c,rfl,hcc,hoc,hb4⟩;have HOC:=hid hoc;have HOB4:=hid (omap_below HOB.out hb4 HOB.out.lt);have hb04:=below_trans hb03 hb4;clear hb4 hoc;go_wp2_with fail;refine(deletes_none HOB4.out).mono ?_
 rintro e w5 ⟨rfl,hb5⟩;have HOB5:=hid (omap_below HOB4.out hb5 HOB4.out.lt);have HOC5:=hid (omap_below HOC.out hb5 HOC.out.lt);have hb05:=below_trans hb04 hb5;clear hb5;go_wp2_with fail;refine(makes_one HOB5.out HOC5.out hpm).mono ?_
 rintro e w6 ⟨u,rfl,hou,hb6⟩;have hb06:=below_trans hb05 hb6;have hsz6:=hb06.size;have hsz5:=hb05.size
 obtain⟨g,cap,hu,hgl,hgc⟩: ∃g cap,u= .slice (some ⟨g,0,none⟩) 1 cap∧g<w6.heap.size∧ ∀j x,(Pp.cellsC ⟨2,p,⟨#[]⟩,t,-1⟩)[j]?=some x→w6.cell? ((⟨g,0,none⟩:Addr).add j)=some x:=by
  have hou':=hou;obtain⟨hl,h2⟩:=hou
  rcases h2 with⟨_,hz⟩|⟨g,cap,cur,hv,hg,hh,hn,hm,hz,htake⟩
  · cases hz
  · subst hv
    refine⟨g,cap,rfl,?_,fun j x hj=>?_⟩
    · rcases Nat.lt_or_ge g w6.heap.size with h|h
      · exact h
      · rw[Array.getElem?_eq_none h]at hh;cases hh
    · have hadd:(⟨g,0,none⟩:Addr).add j=⟨g,j,none⟩:=by unfold Addr.add;split<;>simp_all
      have hlt:j<1*5:=by
       have:=(List.getElem?_eq_some_iff.1 hj).1
       simpa[Pp.cellsC]using this
      rw[hadd,hou'.cellAt j hlt];exact hj
 subst hu;have HGC:=hid hgc;clear hou hgc hb6;go_wp2_with (at_builtin;refine wpList_append_own _ rfl _ _ 34 rfl w.heap.size 24 i0 (.agg #[.int .i64 0,.string ⟨#[]⟩,.string ⟨#[]⟩,.string ⟨#[]⟩,.int .i64 0]) 5 64 Tryz.underlying34 hi0 hz0 hz1 hz2 rfl (by decide) (.slice none 0 0) 0 [] rfl (World.ownsRow_nil _ _ _ _) ⟨g,0,none⟩ 1 cap (Pp.cellsC ⟨2,p,⟨#[]⟩,t,-1⟩) rfl rfl HGC.out (Pp.cellsC_one _) (by unfold maxLen;omega) (by omega) (by omega) ?_)
 intro v7 w7 ho7 hgr7 hnn7;have hb07:Below w.heap.size w w7:=hb06.grown hgr7 hsz6 (fun q hq=>by simp[Value.ownBlock]at hq);have HO7:=hid (show w7.ownsRow w.heap.size 24 5 v7 1 (Pp.cellsC ⟨2,p,⟨#[]⟩,t,-1⟩)from by simpa using ho7);clear ho7 hgr7 hnn7;go_wp2_with fail;go_ret2;exact⟨_,rfl,HO7.out,hb07⟩
set_option maxRecDepth 100000 in
set_option maxHeartbeats 1000000 in
theorem deltaBegun_yes (w:World):Calls Tryz.prog 6 #[] w fun e w'=>e= .returned (.bool true)∧Below w.heap.size w w':=by
 have HL:=hid (show Lies (w.alloc (.cells #[.string ⟨#[97]⟩,.bool false,.string ⟨#[120]⟩,.int .i64 1] 27)) (.slice (some ⟨w.heap.size,0,none⟩) 1 1) [⟨⟨#[97]⟩,false,⟨#[120]⟩,1⟩]from⟨_,1,rfl,Nat.le_refl _,by simp,fun i hi=>by
  have:i=0:=by simpa using hi
  subst this;exact⟨w.heap.size,0,rfl,by simp,by simp,by simp,by simp,by simp⟩⟩)
 have hbw:Below w.heap.size w (w.alloc (.cells #[.string ⟨#[97]⟩,.bool false,.string ⟨#[120]⟩,.int .i64 1] 27)):=(Below.refl _ _).alloc (Nat.le_refl _) _;go_enter Tryz.func6,Tryz.ntmps6
 go_wp2_with fail;refine(diff_one ⟨#[97]⟩ ⟨#[120]⟩ 1 _ _ HL.out (by decide) (by decide) (by decide)).mono ?_
 rintro e w1 ⟨u,rfl,hou,hb1⟩;have hb01:=hbw.trans (hb1.mono (by simp));have hou':=hou;obtain⟨hl,h2⟩:=hou
 rcases h2 with⟨_,hz⟩|⟨g,cap,cur,hv,hg,hh,hn,hm,hz,htake⟩
 · cases hz
 subst hv;have c0:w1.cell? ⟨g,0,none⟩=some (.int .i64 2):=by rw[hou'.cellAt 0 (by decide)];rfl
 clear hou' hl hh htake hz;go_wp2_with fail;go_ret;exact⟨rfl,hb01⟩
end Go.Proofs.YtagibnejodgeeaaGreatDoor
namespace Go.Proofs.YtagibnejodgeeaaGreatDoor
namespace Sp
def dfE (A B:List En):Int:=if Pp.treeE A=0 then Pp.treeE B else Pp.treeE A
end Sp
end Go.Proofs.YtagibnejodgeeaaGreatDoor
namespace Go.Proofs.YtagibnejodgeeaaGreatDoor
open Go.RowKit Go.Maps Go.WideMaps Go.Proofs

theorem snoc_ind {α:Type} {P:List α→Prop} (h0:P []) (h1: ∀L e,P L→P (L++[e])) (L:List α):P L:=by
 have h: ∀R:List α,P R.reverse:=fun R=>by
  induction R with
  |nil=>exact h0
  |cons a r ih=>rw[List.reverse_cons];exact h1 _ _ ih
 have h2:=h L.reverse;rwa [List.reverse_reverse]at h2
namespace Sp
def wh (e:En):Int:=if e.folder=true then 1 else 2
def tx (e:En):ByteArray:=if e.folder=true then⟨#[]⟩else e.text
def put (m:DataW Unit) (e:En):DataW Unit:=m.put (key e.path) (dat (wh e) (tx e) e.ver)
/-- The map of a tree. -/
def D (L:List En):DataW Unit:=L.foldl put (.map [])
theorem D_snoc (L:List En) (e:En):D (L++[e])=put (D L) e:=by simp[D]
theorem key_inj {p q:ByteArray} (h:key p=key q):p.data.toList=q.data.toList:=by simpa[key]using h
theorem D_map (L:List En):IsMap (D L):=by
 have: ∀(L:List En) (m:DataW Unit),IsMap m→IsMap (L.foldl put m):=by
  intro L;induction L with
  |nil=>intro m h;exact h
  |cons e r ih=>intro m h;exact ih _ (h.put _ _)
 exact this L _ isMap_empty
/-- No two paths are the same. -/
def Apart (L:List En):Prop:=L.Pairwise (fun x y=>x.path.data.toList≠y.path.data.toList)
theorem Apart.snoc {L:List En} {e:En} (h:Apart (L++[e])):Apart L∧ ∀x∈L,x.path.data.toList≠e.path.data.toList:=by
 rw[Apart,List.pairwise_append]at h;exact⟨h.1,fun x hx=>h.2.2 x hx e (by simp)⟩
def at_ (L:List En) (p:List UInt8):Option En:=L.find? (Pp.atB p)
theorem atB_iff {p:List UInt8} {e:En}:Pp.atB p e=true↔e.path.data.toList=p:=by simp[Pp.atB]
theorem D_at {L:List En} (h:Apart L) (p:ByteArray) (z:DataW Unit):(D L).atKey (key p) z=match at_ L p.data.toList with|some e=>dat (wh e) (tx e) e.ver|none=>z:=by
 revert h
 refine snoc_ind (P:=fun L=>Apart L→(D L).atKey (key p) z=match at_ L p.data.toList with|some e=>dat (wh e) (tx e) e.ver|none=>z) (fun _=>rfl) ?_ L
 · intro L e ih h
   obtain⟨h1,h2⟩:=h.snoc
   rw[D_snoc,put];by_cases hk:key p=key e.path
   · have hp:=key_inj hk
     rw[hk,atKey_put_same (D_map L) (by simp[key,WideAt.IsKeyLit])]
     have hnone:L.find? (Pp.atB p.data.toList)=none:=by
      rw[List.find?_eq_none];intro x hx hh;exact h2 x hx ((atB_iff.1 hh).trans hp)
     have hyes:Pp.atB p.data.toList e=true:=atB_iff.2 hp.symm;rw[at_,List.find?_append,hnone];simp[hyes]
   · rw[atKey_put_other hk,ih h1]
     have hno:Pp.atB p.data.toList e=false:=by
      cases hh:Pp.atB p.data.toList e with
      |false=>rfl
      |true=>
       have:=atB_iff.1 hh
       exact absurd (by rw[key,key,this]) hk
     rw[at_,at_,List.find?_append];simp[hno]
theorem keys_put {m:DataW Unit} (hm:IsMap m) {e:En} (hne: ∀x∈strKeys m,x≠e.path.data.toList) (hs: ∃es,m= .map es∧ ∀q∈es,∃b,q.1= .string b):(strKeys (put m e)).Perm (e.path.data.toList::strKeys m):=by
 obtain⟨es,rfl,hes⟩:=hs
 have hf:(es.filter fun q=> !q.1.sameKey (key e.path))=es:=by
  rw[List.filter_eq_self];intro q hq;obtain⟨b,hb⟩:=hes q hq
  have h1:b∈strKeys (DataW.map es):=List.mem_map.2 ⟨q,hq,by rw[hb];rfl⟩;have h2:=hne b h1;rw[hb];simp[Lit.sameKey,key,h2]
 show(List.map _ (DataW.insert (key e.path,_) (es.filter fun q=> !q.1.sameKey (key e.path)))).Perm _
 rw[hf];exact((WideShapes.insert_perm _ es).map _).trans (by simp[strKeys,key,strOf])
theorem D_strs (L:List En): ∃es,D L= .map es∧ ∀q∈es,∃b,q.1= .string b:=by
 refine snoc_ind (P:=fun L=> ∃es,D L= .map es∧ ∀q∈es,∃b,q.1= .string b) ⟨[],rfl,fun q hq=>by cases hq⟩ ?_ L
 · intro L e ih
   obtain⟨es,h1,h2⟩:=ih
   rw[D_snoc,h1];refine⟨_,rfl,fun q hq=>?_⟩
   rcases List.mem_cons.1 ((WideShapes.insert_perm _ _).mem_iff.1 hq)with h|h
   · exact⟨_,by rw[h];rfl⟩
   · exact h2 q (List.mem_filter.1 h).1
theorem D_keys {L:List En} (h:Apart L):(strKeys (D L)).Perm (L.map (fun e=>e.path.data.toList)):=by
 revert h
 refine snoc_ind (P:=fun L=>Apart L→(strKeys (D L)).Perm (L.map (fun e=>e.path.data.toList))) (fun _=>List.Perm.refl _) ?_ L
 · intro L e ih h
   obtain⟨h1,h2⟩:=h.snoc
   have ih1:=ih h1;rw[D_snoc,List.map_append];refine(keys_put (D_map L) (fun x hx=>?_) (D_strs L)).trans ?_
   · obtain⟨y,hy,rfl⟩:=List.mem_map.1 (ih1.mem_iff.1 hx)
     exact h2 y hy
   · exact(ih1.cons _).trans (List.perm_append_comm (l₁:=[e.path.data.toList]))
theorem D_size {L:List En} (h:Apart L):Maps.size (D L)=L.length:=by
 obtain⟨es,h1,_⟩:=D_strs L
 have:=(D_keys h).length_eq
 rw[h1]at this⊢;simpa[strKeys,Maps.size]using this
theorem apart_rise {L:List En} (h:L.Pairwise (fun x y=>Pp.lt x y=true)):Apart L:=by
 refine List.Pairwise.imp ?_ h
 intro x y hxy e;rw[Pp.lt,Lib.toList_data,Lib.toList_data,e,bytesLess_eq]at hxy;exact List.lt_irrefl _ (of_decide_eq_true hxy)
/-- Keys, sorted: the paths as they rise. -/
theorem D_sorted {L:List En} (h:L.Pairwise (fun x y=>Pp.lt x y=true)) {ss:List (List UInt8)} (hs:ss.Perm (strKeys (D L))):ss.mergeSort (fun x y=>decide (x≤y))=L.map (fun e=>e.path.data.toList):=by
 have hp:(ss.mergeSort (fun x y=>decide (x≤y))).Perm (L.map (fun e=>e.path.data.toList)):=(List.mergeSort_perm _ _).trans (hs.trans (D_keys (apart_rise h)))
 have h1:(ss.mergeSort (fun x y=>decide (x≤y))).Pairwise (fun x y=>x≤y):=by
  have:=List.pairwise_mergeSort (le:=fun(x y:List UInt8)=>decide (x≤y)) (fun a b c h1 h2=>by simpa using List.le_trans (by simpa using h1) (by simpa using h2)) (fun a b=>by simpa using List.le_total a b) ss
  exact this.imp (fun h=>by simpa using h)
 have h2:(L.map (fun e=>e.path.data.toList)).Pairwise (fun x y=>x≤y):=by
  rw[List.pairwise_map];refine List.Pairwise.imp ?_ h
  intro x y hxy;rw[Pp.lt,Lib.toList_data,Lib.toList_data,bytesLess_eq,decide_eq_true_eq]at hxy;exact List.le_of_lt hxy
 exact hp.eq_of_pairwise (fun a b _ _ h1 h2=>List.le_antisymm h1 h2) h1 h2
end Sp
end Go.Proofs.YtagibnejodgeeaaGreatDoor
namespace Go.Proofs.YtagibnejodgeeaaGreatDoor
open Go.RowKit Go.Maps Go.WideMaps

/-- What a map answers of a path. -/
def Sp.val (L:List En) (p:List UInt8):Value:=match Sp.at_ L p with|some e=> .agg #[.int .i64 (Sp.wh e),.string (Sp.tx e),.int .i64 e.ver]|none=> .agg #[.int .i64 0,.string ⟨#[]⟩,.int .i64 0]
theorem spotAt_any {b n:Nat} {w:World} {L:List En} (h:w.ownsMap Tryz.prog 9 Sp.rd b n (Sp.D L)) (hL:Sp.Apart L) (p:ByteArray) (hp:p.size≤maxLen):(Instr.lookup 52 (.map (some b)) (.string p) false).run Tryz.prog w= .ok (Sp.val L p.data.toList) w:=by
 obtain⟨v,ps,hrun,hv⟩:=h.lookup (string_keyed Tryz.underlying9) Tryz.underlying52 (Tryz.zeroSpot w) (Sp.rd_mk 0 ⟨#[]⟩ 0) (keyOf_string_mk Tryz.underlying9 hp)
 have e:(Sp.D L).atKey (.string p.data.toList) (Sp.dat 0 ⟨#[]⟩ 0)=_:=Sp.D_at hL p _;rw[e]at hv;rw[Sp.val];cases hh:Sp.at_ L p.data.toList with
 |none=>
  rw[hh]at hv;rw[Sp.rd_inv hv]at hrun;exact hrun
 |some x=>
  rw[hh]at hv;rw[Sp.rd_inv hv]at hrun;exact hrun
set_option maxHeartbeats 1000000 in
theorem sof_any (x:En) (w:World):
    Calls Tryz.prog 57 #[.agg #[.string x.path,.bool x.folder,.string x.text,.int .i64 x.ver]] w fun e w'=>e= .returned (.agg #[.int .i64 (Sp.wh x),.string (Sp.tx x),.int .i64 x.ver])∧Below w.heap.size w w':=by
 obtain⟨p,f,t,n⟩:=x
 cases f with
 |false=>exact sof_file p t n w
 |true=>
  show Calls Tryz.prog 57 #[.agg #[.string p,.bool true,.string t,.int .i64 n]] w fun e w'=>e= .returned (.agg #[.int .i64 1,.string ⟨#[]⟩,.int .i64 n])∧Below w.heap.size w w'
  go_enter Tryz.func57,Tryz.ntmps57
  go_wp2_with fail;refine bodyPost_ret (v:= .agg #[.int .i64 1,.string ⟨#[]⟩,.int .i64 n]) (by simp[results,Tryz.results57,go_sem]) rfl ⟨rfl,?_⟩
  exact((Below.refl _ _).alloc (Nat.le_refl _) _).alloc (by simp) _
set_option maxRecDepth 100000 in
set_option maxHeartbeats 2000000 in
theorem spotOf_any (L:List En) (v:Value) (w:World) (hv:Lies w v L) (hn:L.length≤1000) (hp: ∀e∈L,e.path.size≤maxLen):
    Calls Tryz.prog 23 #[v] w fun e w'=> ∃b,e= .returned (.map (some b))∧w.heap.size≤b∧w'.ownsMap Tryz.prog 9 Sp.rd b L.length (Sp.D L)∧Below w.heap.size w w':=by
 obtain⟨a,cap,rfl,hcap,hcap2,hL⟩:=hv
 have HL:Hid (∀i (h:i<L.length),∃b o,a=some ⟨b,o,none⟩∧b<w.heap.size∧EnAt w b (o+i*4) L[i]):=hL;have HP:=hid hp;clear hL hp;have hmm:=Tryz.makeSpots;have HO:=hid (World.ownsMap_made w Tryz.prog 9 Sp.rd);have hbel0:Below w.heap.size w (w.alloc (.map #[] 0)):=(Below.refl _ _).alloc (Nat.le_refl _) _;go_enter Tryz.func23,Tryz.ntmps23
 go_wp2_with fail;go_loopw [11] (fun i wr=> ∃k:Nat,k≤L.length∧i= .int .i64 k∧Below w.heap.size w wr∧w.heap.size<wr.heap.size∧Hid (wr.ownsMap Tryz.prog 9 Sp.rd w.heap.size k (Sp.D (L.take k)))) (fun i _=>L.length-(intOf i).toNat)
 case atStart=>exact⟨0,Nat.zero_le _,rfl,hbel0,by simp,HO⟩
 case round=>
  obtain⟨k,hk,rfl,hbel,hszr,HM⟩:=hrel
  by_cases hlt:k<L.length
  · obtain⟨b,o,rfl,hb,he⟩:=HL.out k hlt
    obtain⟨c0,c1,c2,c3⟩:=he.below hb hbel
    have hpx:=HP.out L[k] (List.getElem_mem hlt);have HSN:=hid (show Sp.D (L.take (k+1))=Sp.put (Sp.D (L.take k)) L[k]from by rw[List.take_succ_eq_append_getElem hlt,Sp.D_snoc]);clear he;generalize L[k]=x at*;obtain⟨wz,hwz⟩: ∃wz,wz=wr.alloc (.cells #[.string x.path,.bool x.folder,.string x.text,.int .i64 x.ver] 27):=⟨_,rfl⟩
    have hbz:Below wr.heap.size wr wz:=by rw[hwz];exact(Below.refl _ _).alloc (Nat.le_refl _) _
    have z0:wz.cell? ⟨wr.heap.size,0,none⟩=some (.string x.path):=by rw[hwz];simp
    have z1:wz.cell? ⟨wr.heap.size,1,none⟩=some (.bool x.folder):=by rw[hwz];simp
    have z2:wz.cell? ⟨wr.heap.size,2,none⟩=some (.string x.text):=by rw[hwz];simp
    have z3:wz.cell? ⟨wr.heap.size,3,none⟩=some (.int .i64 x.ver):=by rw[hwz];simp
    have hszz:wz.heap.size=wr.heap.size+1:=by rw[hwz];simp
    have HMZ:=hid (HM.out.alloc (.cells #[.string x.path,.bool x.folder,.string x.text,.int .i64 x.ver] 27));rw[←hwz]at HMZ;have hbel2:=below_trans hbel hbz;go_wp2_with fail;rw[←hwz];clear hwz c0 c1 c2 c3
    go_region_held3 (fun W=>W.cell? ⟨wr.heap.size,0,none⟩=some (.string x.path)∧W.cell? ⟨wr.heap.size,1,none⟩=some (.bool x.folder)∧W.cell? ⟨wr.heap.size,2,none⟩=some (.string x.text)∧W.cell? ⟨wr.heap.size,3,none⟩=some (.int .i64 x.ver)) (go_keep) (first
     |(go_at_call 57;refine(sof_any x _).mono ?_;rintro e wa ⟨rfl,hba⟩;have hza:Below wz.heap.size wz wa:=((Below.refl _ _).drew).trans hba;have hma:=hid (HMZ.out.kept (row:=none) ⟨hza.os,hza.tape,hza.output,hza.size,fun k hk _=>hza.block k hk⟩ (by simp));obtain⟨w6,hrun6,hown6,hgr6⟩:=hma.out.update (string_keyed Tryz.underlying9) Tryz.underlying52 (by unfold maxLen;omega) (keyOf_string_mk Tryz.underlying9 hpx) (Sp.rd_mk (Sp.wh x) (Sp.tx x) x.ver);have HO6:=hid hown6;have j0:=(hza.cell (p:=⟨wr.heap.size,0,none⟩) (by simp[hszz])).trans z0;have j1:=(hza.cell (p:=⟨wr.heap.size,1,none⟩) (by simp[hszz])).trans z1;have j2:=(hza.cell (p:=⟨wr.heap.size,2,none⟩) (by simp[hszz])).trans z2;have j3:=(hza.cell (p:=⟨wr.heap.size,3,none⟩) (by simp[hszz])).trans z3;have hsza:=hza.size;have i0:=(hgr6.cell_far ⟨wr.heap.size,0,none⟩ (by show wr.heap.size<wa.heap.size;omega) (by simp;omega)).trans j0;have i1:=(hgr6.cell_far ⟨wr.heap.size,1,none⟩ (by show wr.heap.size<wa.heap.size;omega) (by simp;omega)).trans j1;have i2:=(hgr6.cell_far ⟨wr.heap.size,2,none⟩ (by show wr.heap.size<wa.heap.size;omega) (by simp;omega)).trans j2;have i3:=(hgr6.cell_far ⟨wr.heap.size,3,none⟩ (by show wr.heap.size<wa.heap.size;omega) (by simp;omega)).trans j3;clear hown6))
    have hbel6:Below w.heap.size w w6:=(below_trans hbel2 hza).grown hgr6 (by omega) (fun k hk=>by simp at hk;omega);have hsz6:=hgr6.size;have HO7:=hid (show w6.ownsMap Tryz.prog 9 Sp.rd w.heap.size (k+1) (Sp.D (L.take (k+1)))from by rw[HSN.out];exact HO6.out);clear HO6 HSN;go_wp2_with fail;go_roundw
    case rel=>exact⟨k+1,by omega,by simp,hbel6,by omega,HO7⟩
    case measure=>simp[intOf];omega
  · obtain rfl:k=L.length:=by omega
    have HM2:=hid (show wr.ownsMap Tryz.prog 9 Sp.rd w.heap.size L.length (Sp.D L)from by have h:=HM.out;rw[List.take_length]at h;exact h);clear HM;go_wp2_with fail;go_ret;exact⟨_,rfl,Nat.le_refl _,HM2.out,hbel⟩
/-- Texts in a slice of one's own. -/
def LiesP (B:Nat) (w:World) (v:Value) (Ps:List ByteArray):Prop:= ∃a cap,v= .slice a Ps.length cap∧Ps.length≤cap∧ ∀i (h:i<Ps.length),∃g,a=some ⟨g,0,none⟩∧B≤g∧g<w.heap.size∧w.cell? ⟨g,i,none⟩=some (.string Ps[i])
theorem paths_good {b n:Nat} {w:World} {L:List En} (h:w.ownsMap Tryz.prog 9 Sp.rd b n (Sp.D L)) (hr:L.Pairwise (fun x y=>Pp.lt x y=true)) (hn:L.length≤1000):
    Calls Tryz.prog 59 #[.map (some b)] w fun e w'=> ∃v,e= .returned v∧LiesP w.heap.size w' v (L.map (fun e=>e.path))∧Below w.heap.size w w':=by
 have hsz:=Sp.D_size (Sp.apart_rise hr);refine(Tryz.paths_any b n _ Sp.rd w h (by rw[hsz];unfold maxLen;omega) (by rw[hsz];omega)).mono fun e w' ⟨v,ss,he,hp,hrow,hnil,hb⟩=>?_
 have hl:ss.length=L.length:=by
  have h1:=hp.length_eq;have h2:=(Sp.D_keys (Sp.apart_rise hr)).length_eq;rw[List.length_map]at h2;omega
 rw[Sp.D_sorted hr hp,hl]at hrow;refine⟨v,he,?_,hb⟩
 have hrow':=hrow;obtain⟨_,h2⟩:=hrow
 rcases h2 with⟨hv,hz⟩|⟨g,cap,cur,hv,hg,hh,hn2,hm,hz,htake⟩
 · subst hv
   have:L=[]:=List.length_eq_zero_iff.1 hz
   subst this;exact⟨none,0,rfl,Nat.le_refl _,fun i hi=>absurd hi (by simp)⟩
 · subst hv
   refine⟨some ⟨g,0,none⟩,cap,by rw[List.length_map],by rw[List.length_map];exact hn2,fun i hi=>⟨g,rfl,hg,?_,?_⟩⟩
   · rcases Nat.lt_or_ge g w'.heap.size with h|h
     · exact h
     · rw[Array.getElem?_eq_none h]at hh;cases hh
   · rw[List.length_map]at hi
     rw[hrow'.cellAt i (by omega)];simp only[List.map_map,List.getElem?_map,List.getElem?_eq_getElem hi,Option.map_some,List.getElem_map,Function.comp]
end Go.Proofs.YtagibnejodgeeaaGreatDoor
