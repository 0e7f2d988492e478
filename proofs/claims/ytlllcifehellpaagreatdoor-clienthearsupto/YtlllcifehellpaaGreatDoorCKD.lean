/- What client.checked and New answer. -/
import Derived.Test.YtlllcifehellpaaGreatDoorCKC
import Derived.Test.YtlllcifehellpaaGreatDoorCKA
import Derived.Test.YtlllcifehellpaaGreatDoorShelfK
import Derived.Maps.OwnSet
import Derived.WalkKit
import Derived.Test.YtlllcifehellpaaGreatDoorCKB
import Derived.StringKeys
import Derived.Deep.AppendLies
import Derived.Deep.RegionHeld3
import Derived.Sort.Walk0
set_option linter.unusedSimpArgs false
set_option linter.unusedVariables false
namespace Go.Proofs.YtlllcifehellpaaGreatDoor
open Go.RowKit

namespace Cy
def ok (c:Cn):Cn:=if chE c=0 then c else zeroN
theorem ok_yes {c:Cn} (h:chE c=0):ok c=c:=if_pos h
theorem ok_no {c:Cn} (h: ¬chE c=0):ok c=zeroN:=if_neg h
theorem ch_parts {c:Cn} (h:chE c=0):cnE c.who c.fo=0∧Pp.treeE c.base=0∧Pp.treeE c.mine=0∧rgB c=false∧caE c.key c.ask.length=0:=by
 unfold chE at h;split at h
 · rename_i h1;exact absurd h h1
 · rename_i h1
   split at h
   · rename_i h2;exact absurd h h2
   · rename_i h2
     split at h
     · rename_i h3;exact absurd h h3
     · rename_i h3
       split at h
       · cases h
       · rename_i h4
         exact⟨Classical.not_not.1 h1,Classical.not_not.1 h2,Classical.not_not.1 h3,by simpa using h4,h⟩
theorem ca_len {key:ByteArray} {n:Nat} (h:caE key n=0):n≤20:=by
 unfold caE at h;split at h
 · cases h
 · split at h
   · cases h
   · split at h
     · cases h
     · omega
theorem ch_len {c:Cn} (h:chE c=0):c.base.length≤60∧c.mine.length≤60∧c.ask.length≤20:=by
 obtain⟨_,h2,h3,_,h5⟩:=ch_parts h
 exact⟨((Pp.good_iff _).1 h2).len,((Pp.good_iff _).1 h3).len,ca_len h5⟩
end Cy

set_option maxRecDepth 100000 in
set_option maxHeartbeats 4000000 in
theorem checked_any (c:Cn) (v:Value) (w:World) (hv:LiesN w v c) (hs:SizedN c):
    Calls Tryz.prog 10 #[v] w fun e w'=> ∃u,e= .returned (.tuple #[u,.int .i64 (Cy.chE c)])∧OwnN w.heap.size w' u (Cy.ok c)∧Below w.heap.size w w':=by
 have HV:=hid hv;have HS:=hid hs;obtain⟨vb,vm,va,rfl,lb,lm,la⟩:=hv
 obtain⟨ab,cb,rfl,_⟩:=lb
 obtain⟨am,cm,rfl,_⟩:=lm
 obtain⟨aa,ca,rfl,_⟩:=la
 clear hs;obtain⟨wz,hwz⟩: ∃wz,wz=(w.alloc (.cells #[.string c.who,.string c.fo,.slice ab c.base.length cb,.int .i64 c.cur,.slice am c.mine.length cm,.string c.key,.slice aa c.ask.length ca,.int .i64 c.keys] 25)).alloc (.cells #[.string ⟨#[]⟩,.string ⟨#[]⟩,.slice none 0 0,.int .i64 0,.slice none 0 0,.string ⟨#[]⟩,.slice none 0 0,.int .i64 0] 25):=⟨_,rfl⟩
 have hbz:Below w.heap.size w wz:=by rw[hwz];exact((Below.refl _ _).alloc (Nat.le_refl _) _).alloc (by simp) _
 have HBX:Hid (Cs wz w.heap.size [.string c.who,.string c.fo,.slice ab c.base.length cb,.int .i64 c.cur,.slice am c.mine.length cm,.string c.key,.slice aa c.ask.length ca,.int .i64 c.keys]):=(by rw[hwz];exact(Cs.new w [.string c.who,.string c.fo,.slice ab c.base.length cb,.int .i64 c.cur,.slice am c.mine.length cm,.string c.key,.slice aa c.ask.length ca,.int .i64 c.keys] _).below ((Below.refl _ _).alloc (Nat.le_refl _) _):Cs wz w.heap.size _)
 have HBY:=hid (show Cs wz (w.heap.size+1) zs from by
  have:=Cs.new (w.alloc (.cells #[.string c.who,.string c.fo,.slice ab c.base.length cb,.int .i64 c.cur,.slice am c.mine.length cm,.string c.key,.slice aa c.ask.length ca,.int .i64 c.keys] 25)) zs 25
  rw[hwz];simpa using this)
 have hNz:w.heap.size+1<wz.heap.size:=HBY.out.lt;go_enter Tryz.func10,Tryz.ntmps10
 go_wp2_with fail;rw[←hwz];clear hwz;refine(ccheck_any c _ _ (HV.out.below hbz) HS.out).mono ?_
 rintro e w1 ⟨rfl,hb1⟩;have hb01:=below_tr hbz hb1;have hs1:=hb1.size;have HX1:=hid (HBX.out.below hb1);have HY1:=hid (HBY.out.below hb1);have hne: ¬w.heap.size=w.heap.size+1:=by omega
 by_cases h0:Cy.chE c=0
 · have HZ:=hid h0
   have hlen:=Cy.ch_len h0;rw[h0];clear h0;have a0:=HX1.out.cell 0 rfl;have a1:=HX1.out.cell 1 rfl;have a2:=HX1.out.cell 2 rfl;have a3:=HX1.out.cell 3 rfl;have a4:=HX1.out.cell 4 rfl;have a5:=HX1.out.cell 5 rfl;have a6:=HX1.out.cell 6 rfl;have a7:=HX1.out.cell 7 rfl;go_wp2_with fail;refine(ownClient_any c _ _ (HV.out.below hb01) (by omega) (by omega) (by omega)).mono ?_
   rintro e w2 ⟨u,rfl,hN2,hb2⟩;have hb02:=below_tr hb01 hb2;have HY2:=hid (HY1.out.below hb2);have HN2:=hid hN2;obtain⟨vb,vm,va,rfl,⟨lb2,_⟩,⟨lm2,_⟩,la2,_⟩:=hN2
   obtain⟨xb,yb,rfl,_⟩:=lb2
   obtain⟨xm,ym,rfl,_⟩:=lm2
   obtain⟨xa,ya,rfl,_⟩:=la2
   clear a0 a1 a2 a3 a4 a5 a6 a7;have y0:=HY2.out.cell 0 rfl;have g0:=HY2.out.fr 0;have y1:=HY2.out.cell 1 rfl;have g1:=HY2.out.fr 1;have y2:=HY2.out.cell 2 rfl;have g2:=HY2.out.fr 2;have y3:=HY2.out.cell 3 rfl;have g3:=HY2.out.fr 3;have y4:=HY2.out.cell 4 rfl;have g4:=HY2.out.fr 4;have y5:=HY2.out.cell 5 rfl;have g5:=HY2.out.fr 5;have y6:=HY2.out.cell 6 rfl;have g6:=HY2.out.fr 6;have y7:=HY2.out.cell 7 rfl;have g7:=HY2.out.fr 7;go_wp2_with fail;refine bodyPost_ret (v:= .tuple #[.agg #[.string c.who,.string c.fo,.slice xb c.base.length yb,.int .i64 c.cur,.slice xm c.mine.length ym,.string c.key,.slice xa c.ask.length ya,.int .i64 c.keys],.int .i64 0]) (by simp[results,Tryz.results10,go_sem,y0,y1,y2,y3,y4,y5,y6,y7]) rfl ⟨_,by rw[HZ.out],?_,?_⟩
   · rw[Cy.ok_yes HZ.out]
     exact(HN2.out.nbo (grown_on (grown_on (grown_on (grown_on (grown_on (grown_on (grown_on (nb_set w2 (w.heap.size+1) 0 (.string c.who)) (nb_set _ (w.heap.size+1) 1 (.string c.fo))) (nb_set _ (w.heap.size+1) 2 (.slice xb c.base.length yb))) (nb_set _ (w.heap.size+1) 3 (.int .i64 c.cur))) (nb_set _ (w.heap.size+1) 4 (.slice xm c.mine.length ym))) (nb_set _ (w.heap.size+1) 5 (.string c.key))) (nb_set _ (w.heap.size+1) 6 (.slice xa c.ask.length ya))) (nb_set _ (w.heap.size+1) 7 (.int .i64 c.keys))) (by omega)).mono (by omega)
   · exact((((((((hb02.setCell (p:=⟨w.heap.size+1,0,none⟩) (Nat.le_succ _) _).setCell (p:=⟨w.heap.size+1,1,none⟩) (Nat.le_succ _) _).setCell (p:=⟨w.heap.size+1,2,none⟩) (Nat.le_succ _) _).setCell (p:=⟨w.heap.size+1,3,none⟩) (Nat.le_succ _) _).setCell (p:=⟨w.heap.size+1,4,none⟩) (Nat.le_succ _) _).setCell (p:=⟨w.heap.size+1,5,none⟩) (Nat.le_succ _) _).setCell (p:=⟨w.heap.size+1,6,none⟩) (Nat.le_succ _) _).setCell (p:=⟨w.heap.size+1,7,none⟩) (Nat.le_succ _) _)
 · have HZ:=hid (Cy.ok_no h0)
   have h0':(Cy.chE c !=0)=true:=by simpa using h0
   obtain⟨r,hr⟩: ∃r,r=Cy.chE c:=⟨_,rfl⟩
   rw[←hr]at h0'⊢;have HRE:=hid hr;clear h0 hr;have y0:=HY1.out.cell 0 rfl;have g0:=HY1.out.fr 0;have y1:=HY1.out.cell 1 rfl;have g1:=HY1.out.fr 1;have y2:=HY1.out.cell 2 rfl;have g2:=HY1.out.fr 2;have y3:=HY1.out.cell 3 rfl;have g3:=HY1.out.fr 3;have y4:=HY1.out.cell 4 rfl;have g4:=HY1.out.fr 4;have y5:=HY1.out.cell 5 rfl;have g5:=HY1.out.fr 5;have y6:=HY1.out.cell 6 rfl;have g6:=HY1.out.fr 6;have y7:=HY1.out.cell 7 rfl;have g7:=HY1.out.fr 7;go_wp2_with fail;refine bodyPost_ret (v:= .tuple #[.agg #[.string ⟨#[]⟩,.string ⟨#[]⟩,.slice none 0 0,.int .i64 0,.slice none 0 0,.string ⟨#[]⟩,.slice none 0 0,.int .i64 0],.int .i64 r]) (by simp[results,Tryz.results10,go_sem,y0,y1,y2,y3,y4,y5,y6,y7]) rfl ⟨_,by rw[HRE.out],?_,?_⟩
   · rw[HZ.out]
     exact ownN_zero _ _
   · exact((((((((hb01.setCell (p:=⟨w.heap.size+1,0,none⟩) (Nat.le_succ _) _).setCell (p:=⟨w.heap.size+1,1,none⟩) (Nat.le_succ _) _).setCell (p:=⟨w.heap.size+1,2,none⟩) (Nat.le_succ _) _).setCell (p:=⟨w.heap.size+1,3,none⟩) (Nat.le_succ _) _).setCell (p:=⟨w.heap.size+1,4,none⟩) (Nat.le_succ _) _).setCell (p:=⟨w.heap.size+1,5,none⟩) (Nat.le_succ _) _).setCell (p:=⟨w.heap.size+1,6,none⟩) (Nat.le_succ _) _).setCell (p:=⟨w.heap.size+1,7,none⟩) (Nat.le_succ _) _)
def newN (who fo:ByteArray):Cn:=⟨who,fo,[],0,[],⟨#[]⟩,[],0⟩
theorem liesN_new (who fo:ByteArray) (w:World):LiesN w (.agg #[.string who,.string fo,.slice none 0 0,.int .i64 0,.slice none 0 0,.string ⟨#[]⟩,.slice none 0 0,.int .i64 0]) (newN who fo):=
 ⟨_,_,_,rfl,lies_nil _,lies_nil _,⟨none,0,rfl,Nat.le_refl _,Nat.zero_le _,fun i h=>absurd h (by simp[newN])⟩⟩
theorem sizedN_new {who fo:ByteArray} (h1:who.size≤150000000000000) (h2:fo.size≤150000000000000):SizedN (newN who fo):=⟨h1,h2,Nat.zero_le _,(fun e he=>(by cases he)),(fun e he=>(by cases he))⟩
set_option maxRecDepth 100000 in
set_option maxHeartbeats 4000000 in
theorem cnew_any (who fo:ByteArray) (w:World) (h1:who.size≤150000000000000) (h2:fo.size≤150000000000000):
    Calls Tryz.prog 18 #[.string who,.string fo] w fun e w'=> ∃u,e= .returned (.tuple #[u,.int .i64 (Cy.chE (newN who fo))])∧OwnN w.heap.size w' u (Cy.ok (newN who fo))∧Below w.heap.size w w':=by
 obtain⟨r,hr⟩: ∃r,r=Cy.chE (newN who fo):=⟨_,rfl⟩
 have HR:=hid hr;rw[←hr];clear hr;obtain⟨wz,hwz⟩: ∃wz,wz=w.alloc (.cells #[.string ⟨#[]⟩,.string ⟨#[]⟩,.slice none 0 0,.int .i64 0,.slice none 0 0,.string ⟨#[]⟩,.slice none 0 0,.int .i64 0] 25):=⟨_,rfl⟩
 have hbz:Below w.heap.size w wz:=by rw[hwz];exact(Below.refl _ _).alloc (Nat.le_refl _) _
 have HBY:=hid (show Cs wz w.heap.size zs from by rw[hwz];exact Cs.new w zs 25);have hNz:w.heap.size<wz.heap.size:=HBY.out.lt;go_enter Tryz.func18,Tryz.ntmps18
 go_wp2_with fail;rw[←hwz];clear hwz;refine(checked_any (newN who fo) _ _ (liesN_new who fo _) (sizedN_new h1 h2)).mono ?_
 rintro e w2 ⟨u,rfl,hN2,hb2⟩;rw[←HR.out];have hb02:=below_tr hbz hb2;have HY2:=hid (HBY.out.below hb2);obtain⟨c,hc⟩: ∃c,c=Cy.ok (newN who fo):=⟨_,rfl⟩
 rw[←hc]at hN2;have HC:=hid hc;clear hc;have HN2:=hid hN2;obtain⟨vb,vm,va,rfl,⟨lb2,_⟩,⟨lm2,_⟩,la2,_⟩:=hN2
 obtain⟨xb,yb,rfl,_⟩:=lb2
 obtain⟨xm,ym,rfl,_⟩:=lm2
 obtain⟨xa,ya,rfl,_⟩:=la2
 have y0:=HY2.out.cell 0 rfl;have g0:=HY2.out.fr 0;have y1:=HY2.out.cell 1 rfl;have g1:=HY2.out.fr 1;have y2:=HY2.out.cell 2 rfl;have g2:=HY2.out.fr 2;have y3:=HY2.out.cell 3 rfl;have g3:=HY2.out.fr 3;have y4:=HY2.out.cell 4 rfl;have g4:=HY2.out.fr 4;have y5:=HY2.out.cell 5 rfl;have g5:=HY2.out.fr 5;have y6:=HY2.out.cell 6 rfl;have g6:=HY2.out.fr 6;have y7:=HY2.out.cell 7 rfl;have g7:=HY2.out.fr 7;go_wp2_with fail;refine bodyPost_ret (v:= .tuple #[.agg #[.string c.who,.string c.fo,.slice xb c.base.length yb,.int .i64 c.cur,.slice xm c.mine.length ym,.string c.key,.slice xa c.ask.length ya,.int .i64 c.keys],.int .i64 r]) (by simp[results,Tryz.results18,go_sem,y0,y1,y2,y3,y4,y5,y6,y7]) rfl ⟨_,rfl,?_,?_⟩
 · rw[←HC.out]
   exact(HN2.out.nbo (grown_on (grown_on (grown_on (grown_on (grown_on (grown_on (grown_on (nb_set w2 (w.heap.size) 0 (.string c.who)) (nb_set _ (w.heap.size) 1 (.string c.fo))) (nb_set _ (w.heap.size) 2 (.slice xb c.base.length yb))) (nb_set _ (w.heap.size) 3 (.int .i64 c.cur))) (nb_set _ (w.heap.size) 4 (.slice xm c.mine.length ym))) (nb_set _ (w.heap.size) 5 (.string c.key))) (nb_set _ (w.heap.size) 6 (.slice xa c.ask.length ya))) (nb_set _ (w.heap.size) 7 (.int .i64 c.keys))) (by omega)).mono hbz.size
 · exact((((((((hb02.setCell (p:=⟨w.heap.size,0,none⟩) (Nat.le_refl _) _).setCell (p:=⟨w.heap.size,1,none⟩) (Nat.le_refl _) _).setCell (p:=⟨w.heap.size,2,none⟩) (Nat.le_refl _) _).setCell (p:=⟨w.heap.size,3,none⟩) (Nat.le_refl _) _).setCell (p:=⟨w.heap.size,4,none⟩) (Nat.le_refl _) _).setCell (p:=⟨w.heap.size,5,none⟩) (Nat.le_refl _) _).setCell (p:=⟨w.heap.size,6,none⟩) (Nat.le_refl _) _).setCell (p:=⟨w.heap.size,7,none⟩) (Nat.le_refl _) _)
end Go.Proofs.YtlllcifehellpaaGreatDoor
namespace Go.Proofs.YtlllcifehellpaaGreatDoor
open Go.RowKit

set_option maxHeartbeats 1000000 in
theorem same_yes (L:List En) (v u:Value) (w:World) (hv:Lies w v L) (hu:Lies w u L):
    Calls Tryz.prog 44 #[v,u] w fun e w'=>e= .returned (.bool true)∧Below w.heap.size w w':=by
 obtain⟨a,cap,rfl,hcap,hcap2,hL⟩:=hv
 have HL:Hid (∀i (h:i<L.length),∃b o,a=some ⟨b,o,none⟩∧b<w.heap.size∧EnAt w b (o+i*4) L[i]):=hL;obtain⟨a',cap',rfl,hcap',_,hL'⟩:=hu
 have HL':Hid (∀i (h:i<L.length),∃b o,a'=some ⟨b,o,none⟩∧b<w.heap.size∧EnAt w b (o+i*4) L[i]):=hL';clear hL hL';go_enter Tryz.func44,Tryz.ntmps44
 go_wp2_with fail;go_loopw [5] (fun i wr=> ∃k:Nat,k≤L.length∧i= .int .i64 k∧Below w.heap.size w wr) (fun i _=>L.length-(intOf i).toNat)
 case atStart=>exact⟨0,Nat.zero_le _,rfl,Below.refl _ _⟩
 case round=>
  obtain⟨k,hk,rfl,hbel⟩:=hrel
  by_cases hlt:k<L.length
  · obtain⟨b,o,rfl,hb,he⟩:=HL.out k hlt
    obtain⟨b',o',rfl,hb',he'⟩:=HL'.out k hlt
    obtain⟨c0,c1,c2,c3⟩:=he.below hb hbel
    obtain⟨d0,d1,d2,d3⟩:=he'.below hb' hbel
    go_wp2_with fail;go_region
    go_wp2_with fail;go_roundw
    case rel=>exact⟨k+1,by omega,by simp,hbel.drew⟩
    case measure=>simp[intOf];omega
  · go_wp2_with fail
    go_ret;exact⟨rfl,hbel⟩
--@if tetherpost/tetherpostlaw.treeIs
end Go.Proofs.YtlllcifehellpaaGreatDoor
namespace Go.Proofs
open Go.RowKit Go.Maps Go.Sort Go.Shelf

theorem Tryz.sortsK (m:Nat):AnyZ.SortsIn Tryz.prog Tryz.sortedK_ren Fence.wide m:=
 ⟨fun blk off cap ss W hH hblk hsz=>callsIn_wide.2 (AnyM.slices_Sort_string Tryz.sortK blk off cap ss W hH hblk hsz),
  fun p cap W=>callsIn_wide.2 (AnyM.slices_Sort_string_none Tryz.sortK p cap W)⟩
theorem Tryz.maps_KeysK (mb:Option Nat) (W:World):CallsIn Fence.wide 5 Tryz.prog 97 #[.map mb] W fun e w'=>e= .returned (.func (.func 123) #[] #[.pointer (some ⟨W.heap.size,0,none⟩)])∧w'=W.alloc (.cells #[.map mb] 96):=
 AnyZ.keys_in Tryz.keysK Fence.wide 5 trivial rfl mb W
set_option maxHeartbeats 1000000 in
theorem Tryz.slices_SortedK {H:Type} (b nn:Nat) (D0:DataW H) (R:Value→Option (DataW H×List MemPlace)) (w:World) (hown:w.ownsMap Tryz.prog 9 R b nn D0) (hmax:Maps.size D0≤maxLen) (hbytes:Maps.size D0*16≤140737488355328):
    CallsIn Fence.wide 5 Tryz.prog 96 #[.func (.func 123) #[] #[.pointer (some ⟨w.heap.size,0,none⟩)]] (w.alloc (.cells #[.map (some b)] 96)) fun e w'=> ∃(v:Value) (ss:List (List UInt8)),e= .returned v∧ss.Perm (strKeys D0)∧
     w'.ownsRow (w.alloc (.cells #[.map (some b)] 96)).heap.size 9 1 v ss.length ((ss.mergeSort (fun x y=>decide (x≤y))).map encStr)∧(v= .slice none 0 0↔ss=[])∧Below (w.alloc (.cells #[.map (some b)] 96)).heap.size (w.alloc (.cells #[.map (some b)] 96)) w':=by
 have hbl:=hown.lt
 have hseq:SeqGives Fence.wide 2 Tryz.prog 123 #[.pointer (some ⟨w.heap.size,0,none⟩)] encStr (fun ss=>ss.Perm (strKeys D0)) (Maps.size D0) (w.alloc (.cells #[.map (some b)] 96)):=
  AnyZ.keys_gives (ρ:=Tryz.keysK_ren) {Tryz.keysK with} Fence.wide _ trivial rfl (by omega) w.heap.size b nn D0 _ (by simp) (by simp) (by
   obtain⟨es,clock,hb,Ft,hs,hD⟩:=hown
   exact⟨es,clock,(Below.heap_alloc _ _ b hbl).trans hb,Ft,hs,hD⟩)
 exact AnyZ.sorted_in Tryz.sortedK Fence.wide 5 trivial trivial trivial trivial rfl (by omega) (Tryz.sortsK _) (enters_of Tryz.func122 (by kernel_rfl) rfl) 123 #[.pointer (some ⟨w.heap.size,0,none⟩)] trivial (enters_of Tryz.func123 (by kernel_rfl) rfl) _ _ hmax hbytes _ hseq
set_option maxHeartbeats 1000000 in
theorem Tryz.paths_any {H:Type} (b nn:Nat) (D0:DataW H) (R:Value→Option (DataW H×List MemPlace)) (w:World) (hown:w.ownsMap Tryz.prog 9 R b nn D0) (hmax:Maps.size D0≤maxLen) (hbytes:Maps.size D0*16≤140737488355328):
    Calls Tryz.prog 75 #[.map (some b)] w fun e w'=> ∃(v:Value) (ss:List (List UInt8)),e= .returned v∧ss.Perm (strKeys D0)∧
     w'.ownsRow w.heap.size 9 1 v ss.length ((ss.mergeSort (fun x y=>decide (x≤y))).map encStr)∧(v= .slice none 0 0↔ss=[])∧Below w.heap.size w w':=by
 refine(callsIn_wide (n:=6)).1 ?_
 have hfK:Fence.wide.fn 97:=trivial;have hfS:Fence.wide.fn 96:=trivial;refine callsIn_of_wp Tryz.func75 rfl trivial ?_ rfl
 simp only[Tryz.ntmps75,List.size_toArray,List.length_cons,List.length_nil,Nat.reduceAdd,Nat.reduceSub,Array.replicate_succ,Array.replicate_zero,List.push_toArray,List.append_toArray,List.nil_append,List.cons_append]
 gi_wp2_with (first
  |(gi_at_call 97;refine(Tryz.maps_KeysK _ _).mono ?_;rintro e w' ⟨rfl,rfl⟩)
  |(gi_at_call 96;refine(Tryz.slices_SortedK b nn D0 R w hown hmax hbytes).mono ?_;rintro e w' ⟨v,ss,rfl,hS,hrow,hnil,hb⟩))
 go_ret;exact⟨v,ss,rfl,hS,ownsRow_base_a hrow (by simp),hnil,((Below.refl _ w).alloc (Nat.le_refl _) _).trans (hb.mono (by simp))⟩
end Go.Proofs
namespace Go.Proofs.YtlllcifehellpaaGreatDoor
open Go.RowKit Go.Maps Go.WideMaps

namespace Sp
/-- How a spot reads. -/
def rd:Value→Option (DataW Unit×List MemPlace)
 | .agg cs=>match cs.toList with
  |[.int .i64 a,.string t,.int .i64 n]=>some (.agg [.lit (.int .i64 a),.lit (.string t.data.toList),.lit (.int .i64 n)],[])
  |_=>none
 |_=>none
def dat (a:Int) (t:ByteArray) (n:Int):DataW Unit:= .agg [.lit (.int .i64 a),.lit (.string t.data.toList),.lit (.int .i64 n)]
theorem rd_mk (a:Int) (t:ByteArray) (n:Int):rd (.agg #[.int .i64 a,.string t,.int .i64 n])=some (dat a t n,[]):=rfl
theorem rd_inv {v:Value} {a:Int} {t:ByteArray} {n:Int} {ps:List MemPlace} (h:rd v=some (dat a t n,ps)):v= .agg #[.int .i64 a,.string t,.int .i64 n]:=by
 unfold rd at h;split at h
 · rename_i cs
   split at h
   · rename_i a' t' n' hcs
     simp only[dat,Option.some.injEq,Prod.mk.injEq,DataW.agg.injEq,List.cons.injEq,DataW.lit.injEq,Lit.int.injEq,Lit.string.injEq,true_and,and_true]at h;obtain⟨⟨h1,h2,h3⟩,_⟩:=h
     have ht:t'=t:=by
      cases t';cases t
      congr 1
      exact Array.toList_inj.1 h2
     have hc:cs= #[.int .i64 a',.string t',.int .i64 n']:=by cases cs;simp at hcs;rw[hcs]
     rw[hc,h1,ht,h3]
   · cases h
 · cases h
def key (p:ByteArray):Lit:= .string p.data.toList
def one (p:ByteArray) (a:Int) (t:ByteArray) (n:Int):DataW Unit:=(DataW.map []).put (key p) (dat a t n)
end Sp
theorem Tryz.zeroSpot (w:World):(zeroValue 114).run Tryz.prog w= .ok (.agg #[.int .i64 0,.string ⟨#[]⟩,.int .i64 0]) w:=by rw[Tryz.zeroValue114]
set_option maxHeartbeats 1000000 in
theorem sof_file (p t:ByteArray) (n:Int) (w:World):
    Calls Tryz.prog 73 #[.agg #[.string p,.bool false,.string t,.int .i64 n]] w fun e w'=>e= .returned (.agg #[.int .i64 2,.string t,.int .i64 n])∧Below w.heap.size w w':=by
 go_enter Tryz.func73,Tryz.ntmps73
 go_wp2_with fail;refine bodyPost_ret (v:= .agg #[.int .i64 2,.string t,.int .i64 n]) (by simp[results,Tryz.results73,go_sem]) rfl ⟨rfl,?_⟩
 first|exact((Below.refl _ _).alloc (Nat.le_refl _) _).alloc (by simp) _|(trace_state;fail)
theorem Tryz.makeSpots (n:Int) (w:World):(Instr.makeMap 96 (some (.int .i64 n))).run Tryz.prog w= .ok (.map (some w.heap.size)) (w.alloc (.map #[] 0)):=by
 simp[Instr.makeMap,run_underlying Tryz.underlying96,asInt,asIntOf,Result.andThen]
end Go.Proofs.YtlllcifehellpaaGreatDoor
namespace Go.Proofs.YtlllcifehellpaaGreatDoor
open Go.RowKit Go.Maps Go.WideMaps Go.Proofs

theorem snoc_ind {α:Type} {P:List α→Prop} (h0:P []) (h1: ∀L e,P L→P (L++[e])) (L:List α):P L:=by
 have h: ∀R:List α,P R.reverse:=fun R=>by
  induction R with
  |nil=>exact h0
  |cons a r ih=>rw[List.reverse_cons];exact h1 _ _ ih
 have h2:=h L.reverse;rwa [List.reverse_reverse]at h2
namespace Sp
def wh (e:En):Int:=if e.folder=true then 1 else 2
def tx (e:En):ByteArray:=if e.folder=true then⟨#[]⟩else e.text
def put (m:DataW Unit) (e:En):DataW Unit:=m.put (key e.path) (dat (wh e) (tx e) e.ver)
/-- The map of a tree. -/
def D (L:List En):DataW Unit:=L.foldl put (.map [])
theorem D_snoc (L:List En) (e:En):D (L++[e])=put (D L) e:=by simp[D]
theorem key_inj {p q:ByteArray} (h:key p=key q):p.data.toList=q.data.toList:=by simpa[key]using h
theorem D_map (L:List En):IsMap (D L):=by
 have: ∀(L:List En) (m:DataW Unit),IsMap m→IsMap (L.foldl put m):=by
  intro L;induction L with
  |nil=>intro m h;exact h
  |cons e r ih=>intro m h;exact ih _ (h.put _ _)
 exact this L _ isMap_empty
/-- No two paths are the same. -/
def Apart (L:List En):Prop:=L.Pairwise (fun x y=>x.path.data.toList≠y.path.data.toList)
theorem Apart.snoc {L:List En} {e:En} (h:Apart (L++[e])):Apart L∧ ∀x∈L,x.path.data.toList≠e.path.data.toList:=by
 rw[Apart,List.pairwise_append]at h;exact⟨h.1,fun x hx=>h.2.2 x hx e (by simp)⟩
def at_ (L:List En) (p:List UInt8):Option En:=L.find? (Pp.atB p)
theorem atB_iff {p:List UInt8} {e:En}:Pp.atB p e=true↔e.path.data.toList=p:=by simp[Pp.atB]
theorem D_at {L:List En} (h:Apart L) (p:ByteArray) (z:DataW Unit):(D L).atKey (key p) z=match at_ L p.data.toList with|some e=>dat (wh e) (tx e) e.ver|none=>z:=by
 revert h
 refine snoc_ind (P:=fun L=>Apart L→(D L).atKey (key p) z=match at_ L p.data.toList with|some e=>dat (wh e) (tx e) e.ver|none=>z) (fun _=>rfl) ?_ L
 · intro L e ih h
   obtain⟨h1,h2⟩:=h.snoc
   rw[D_snoc,put];by_cases hk:key p=key e.path
   · have hp:=key_inj hk
     rw[hk,atKey_put_same (D_map L) (by simp[key,WideAt.IsKeyLit])]
     have hnone:L.find? (Pp.atB p.data.toList)=none:=by
      rw[List.find?_eq_none];intro x hx hh;exact h2 x hx ((atB_iff.1 hh).trans hp)
     have hyes:Pp.atB p.data.toList e=true:=atB_iff.2 hp.symm;rw[at_,List.find?_append,hnone];simp[hyes]
   · rw[atKey_put_other hk,ih h1]
     have hno:Pp.atB p.data.toList e=false:=by
      cases hh:Pp.atB p.data.toList e with
      |false=>rfl
      |true=>
       have:=atB_iff.1 hh
       exact absurd (by rw[key,key,this]) hk
     rw[at_,at_,List.find?_append];simp[hno]
theorem keys_put {m:DataW Unit} (hm:IsMap m) {e:En} (hne: ∀x∈strKeys m,x≠e.path.data.toList) (hs: ∃es,m= .map es∧ ∀q∈es,∃b,q.1= .string b):(strKeys (put m e)).Perm (e.path.data.toList::strKeys m):=by
 obtain⟨es,rfl,hes⟩:=hs
 have hf:(es.filter fun q=> !q.1.sameKey (key e.path))=es:=by
  rw[List.filter_eq_self];intro q hq;obtain⟨b,hb⟩:=hes q hq
  have h1:b∈strKeys (DataW.map es):=List.mem_map.2 ⟨q,hq,by rw[hb];rfl⟩;have h2:=hne b h1;rw[hb];simp[Lit.sameKey,key,h2]
 show(List.map _ (DataW.insert (key e.path,_) (es.filter fun q=> !q.1.sameKey (key e.path)))).Perm _
 rw[hf];exact((WideShapes.insert_perm _ es).map _).trans (by simp[strKeys,key,strOf])
theorem D_strs (L:List En): ∃es,D L= .map es∧ ∀q∈es,∃b,q.1= .string b:=by
 refine snoc_ind (P:=fun L=> ∃es,D L= .map es∧ ∀q∈es,∃b,q.1= .string b) ⟨[],rfl,fun q hq=>by cases hq⟩ ?_ L
 · intro L e ih
   obtain⟨es,h1,h2⟩:=ih
   rw[D_snoc,h1];refine⟨_,rfl,fun q hq=>?_⟩
   rcases List.mem_cons.1 ((WideShapes.insert_perm _ _).mem_iff.1 hq)with h|h
   · exact⟨_,by rw[h];rfl⟩
   · exact h2 q (List.mem_filter.1 h).1
theorem D_keys {L:List En} (h:Apart L):(strKeys (D L)).Perm (L.map (fun e=>e.path.data.toList)):=by
 revert h
 refine snoc_ind (P:=fun L=>Apart L→(strKeys (D L)).Perm (L.map (fun e=>e.path.data.toList))) (fun _=>List.Perm.refl _) ?_ L
 · intro L e ih h
   obtain⟨h1,h2⟩:=h.snoc
   have ih1:=ih h1;rw[D_snoc,List.map_append];refine(keys_put (D_map L) (fun x hx=>?_) (D_strs L)).trans ?_
   · obtain⟨y,hy,rfl⟩:=List.mem_map.1 (ih1.mem_iff.1 hx)
     exact h2 y hy
   · exact(ih1.cons _).trans (List.perm_append_comm (l₁:=[e.path.data.toList]))
theorem D_size {L:List En} (h:Apart L):Maps.size (D L)=L.length:=by
 obtain⟨es,h1,_⟩:=D_strs L
 have:=(D_keys h).length_eq
 rw[h1]at this⊢;simpa[strKeys,Maps.size]using this
theorem apart_rise {L:List En} (h:L.Pairwise (fun x y=>Pp.lt x y=true)):Apart L:=by
 refine List.Pairwise.imp ?_ h
 intro x y hxy e;rw[Pp.lt,Lib.toList_data,Lib.toList_data,e,bytesLess_eq]at hxy;exact List.lt_irrefl _ (of_decide_eq_true hxy)
/-- Keys, sorted: the paths as they rise. -/
theorem D_sorted {L:List En} (h:L.Pairwise (fun x y=>Pp.lt x y=true)) {ss:List (List UInt8)} (hs:ss.Perm (strKeys (D L))):ss.mergeSort (fun x y=>decide (x≤y))=L.map (fun e=>e.path.data.toList):=by
 have hp:(ss.mergeSort (fun x y=>decide (x≤y))).Perm (L.map (fun e=>e.path.data.toList)):=(List.mergeSort_perm _ _).trans (hs.trans (D_keys (apart_rise h)))
 have h1:(ss.mergeSort (fun x y=>decide (x≤y))).Pairwise (fun x y=>x≤y):=by
  have:=List.pairwise_mergeSort (le:=fun(x y:List UInt8)=>decide (x≤y)) (fun a b c h1 h2=>by simpa using List.le_trans (by simpa using h1) (by simpa using h2)) (fun a b=>by simpa using List.le_total a b) ss
  exact this.imp (fun h=>by simpa using h)
 have h2:(L.map (fun e=>e.path.data.toList)).Pairwise (fun x y=>x≤y):=by
  rw[List.pairwise_map];refine List.Pairwise.imp ?_ h
  intro x y hxy;rw[Pp.lt,Lib.toList_data,Lib.toList_data,bytesLess_eq,decide_eq_true_eq]at hxy;exact List.le_of_lt hxy
 exact hp.eq_of_pairwise (fun a b _ _ h1 h2=>List.le_antisymm h1 h2) h1 h2
end Sp
end Go.Proofs.YtlllcifehellpaaGreatDoor
namespace Go.Proofs.YtlllcifehellpaaGreatDoor
open Go.RowKit Go.Maps Go.WideMaps

set_option maxHeartbeats 1000000 in
theorem like_no (a b:Int) (s t:ByteArray) (m n:Int) (h:(a==b)=false) (w:World):
    Calls Tryz.prog 101 #[.agg #[.int .i64 a,.string s,.int .i64 m],.agg #[.int .i64 b,.string t,.int .i64 n]] w fun e w'=>e= .returned (.bool false)∧Below w.heap.size w w':=by
 go_enter Tryz.func101,Tryz.ntmps101
 go_wp2;go_ret;exact⟨rfl,((Below.refl _ _).alloc (Nat.le_refl _) _).alloc (by simp) _⟩
set_option maxHeartbeats 1000000 in
theorem made_file (p t:ByteArray) (n:Int) (w:World):
    Calls Tryz.prog 111 #[.string p,.agg #[.int .i64 2,.string t,.int .i64 n]] w fun e w'=>e= .returned (.agg #[.int .i64 2,.string p,.string ⟨#[]⟩,.string t,.int .i64 (-1)])∧Below w.heap.size w w':=by
 go_enter Tryz.func111,Tryz.ntmps111
 go_wp2_with fail;refine bodyPost_ret (v:= .agg #[.int .i64 2,.string p,.string ⟨#[]⟩,.string t,.int .i64 (-1)]) (by simp[results,Tryz.results111,go_sem]) rfl ⟨rfl,?_⟩
 exact((Below.refl _ _).alloc (Nat.le_refl _) _).alloc (by simp) _
theorem omap_below {b n:Nat} {w w':World} {D:DataW Unit} {B:Nat} (h:w.ownsMap Tryz.prog 9 Sp.rd b n D) (hw:Below B w w') (hb:b<B):w'.ownsMap Tryz.prog 9 Sp.rd b n D:=by
 obtain⟨es,clock,hh,F,hs,hD⟩:=h
 exact⟨es,clock,(hw.block b hb).trans hh,F,hs,hD⟩
theorem Tryz.infoChg:(Tryz.prog.info? 53).map (fun i=>(i.zero,i.size,i.bytes))=some (some (.agg #[.int .i64 0,.string ⟨#[]⟩,.string ⟨#[]⟩,.string ⟨#[]⟩,.int .i64 0]),5,64):=by kernel_rfl
namespace Pp
def cellsC (c:Ch):List Value:=[.int .i64 c.k,.string c.p,.string c.q,.string c.t,.int .i64 c.b]
theorem cellsC_one (c:Ch): ∀u∈cellsC c,u.oneCell'=true:=by
 intro u hu;simp only[cellsC,List.mem_cons,List.not_mem_nil,or_false]at hu;rcases hu with rfl|rfl|rfl|rfl|rfl<;>rfl
end Pp
theorem new_cellsC (w:World) (c:Pp.Ch) (T:TypeId): ∀j u,(Pp.cellsC c)[j]?=some u→(w.alloc (.cells #[.int .i64 c.k,.string c.p,.string c.q,.string c.t,.int .i64 c.b] T)).cell? ((⟨w.heap.size,0,none⟩:Addr).add j)=some u:=by
 intro j u hj;match j,hj with
 |0,hj=>simp[Pp.cellsC]at hj;subst hj;simp[Addr.add]
 |1,hj=>simp[Pp.cellsC]at hj;subst hj;simp[Addr.add]
 |2,hj=>simp[Pp.cellsC]at hj;subst hj;simp[Addr.add]
 |3,hj=>simp[Pp.cellsC]at hj;subst hj;simp[Addr.add]
 |4,hj=>simp[Pp.cellsC]at hj;subst hj;simp[Addr.add]
 |j+5,hj=>simp[Pp.cellsC]at hj
end Go.Proofs.YtlllcifehellpaaGreatDoor
namespace Go.Proofs.YtlllcifehellpaaGreatDoor
open Go.RowKit Go.Maps Go.WideMaps

/-- What a map answers of a path. -/
def Sp.val (L:List En) (p:List UInt8):Value:=match Sp.at_ L p with|some e=> .agg #[.int .i64 (Sp.wh e),.string (Sp.tx e),.int .i64 e.ver]|none=> .agg #[.int .i64 0,.string ⟨#[]⟩,.int .i64 0]
theorem spotAt_any {b n:Nat} {w:World} {L:List En} (h:w.ownsMap Tryz.prog 9 Sp.rd b n (Sp.D L)) (hL:Sp.Apart L) (p:ByteArray) (hp:p.size≤maxLen):(Instr.lookup 96 (.map (some b)) (.string p) false).run Tryz.prog w= .ok (Sp.val L p.data.toList) w:=by
 obtain⟨v,ps,hrun,hv⟩:=h.lookup (string_keyed Tryz.underlying9) Tryz.underlying96 (Tryz.zeroSpot w) (Sp.rd_mk 0 ⟨#[]⟩ 0) (keyOf_string_mk Tryz.underlying9 hp)
 have e:(Sp.D L).atKey (.string p.data.toList) (Sp.dat 0 ⟨#[]⟩ 0)=_:=Sp.D_at hL p _;rw[e]at hv;rw[Sp.val];cases hh:Sp.at_ L p.data.toList with
 |none=>
  rw[hh]at hv;rw[Sp.rd_inv hv]at hrun;exact hrun
 |some x=>
  rw[hh]at hv;rw[Sp.rd_inv hv]at hrun;exact hrun
set_option maxHeartbeats 1000000 in
theorem sof_any (x:En) (w:World):
    Calls Tryz.prog 73 #[.agg #[.string x.path,.bool x.folder,.string x.text,.int .i64 x.ver]] w fun e w'=>e= .returned (.agg #[.int .i64 (Sp.wh x),.string (Sp.tx x),.int .i64 x.ver])∧Below w.heap.size w w':=by
 obtain⟨p,f,t,n⟩:=x
 cases f with
 |false=>exact sof_file p t n w
 |true=>
  show Calls Tryz.prog 73 #[.agg #[.string p,.bool true,.string t,.int .i64 n]] w fun e w'=>e= .returned (.agg #[.int .i64 1,.string ⟨#[]⟩,.int .i64 n])∧Below w.heap.size w w'
  go_enter Tryz.func73,Tryz.ntmps73
  go_wp2_with fail;refine bodyPost_ret (v:= .agg #[.int .i64 1,.string ⟨#[]⟩,.int .i64 n]) (by simp[results,Tryz.results73,go_sem]) rfl ⟨rfl,?_⟩
  exact((Below.refl _ _).alloc (Nat.le_refl _) _).alloc (by simp) _
set_option maxRecDepth 100000 in
set_option maxHeartbeats 2000000 in
theorem spotOf_any (L:List En) (v:Value) (w:World) (hv:Lies w v L) (hn:L.length≤1000) (hp: ∀e∈L,e.path.size≤maxLen):
    Calls Tryz.prog 54 #[v] w fun e w'=> ∃b,e= .returned (.map (some b))∧w.heap.size≤b∧w'.ownsMap Tryz.prog 9 Sp.rd b L.length (Sp.D L)∧Below w.heap.size w w':=by
 obtain⟨a,cap,rfl,hcap,hcap2,hL⟩:=hv
 have HL:Hid (∀i (h:i<L.length),∃b o,a=some ⟨b,o,none⟩∧b<w.heap.size∧EnAt w b (o+i*4) L[i]):=hL;have HP:=hid hp;clear hL hp;have hmm:=Tryz.makeSpots;have HO:=hid (World.ownsMap_made w Tryz.prog 9 Sp.rd);have hbel0:Below w.heap.size w (w.alloc (.map #[] 0)):=(Below.refl _ _).alloc (Nat.le_refl _) _;go_enter Tryz.func54,Tryz.ntmps54
 go_wp2_with fail;go_loopw [11] (fun i wr=> ∃k:Nat,k≤L.length∧i= .int .i64 k∧Below w.heap.size w wr∧w.heap.size<wr.heap.size∧Hid (wr.ownsMap Tryz.prog 9 Sp.rd w.heap.size k (Sp.D (L.take k)))) (fun i _=>L.length-(intOf i).toNat)
 case atStart=>exact⟨0,Nat.zero_le _,rfl,hbel0,by simp,HO⟩
 case round=>
  obtain⟨k,hk,rfl,hbel,hszr,HM⟩:=hrel
  by_cases hlt:k<L.length
  · obtain⟨b,o,rfl,hb,he⟩:=HL.out k hlt
    obtain⟨c0,c1,c2,c3⟩:=he.below hb hbel
    have hpx:=HP.out L[k] (List.getElem_mem hlt);have HSN:=hid (show Sp.D (L.take (k+1))=Sp.put (Sp.D (L.take k)) L[k]from by rw[List.take_succ_eq_append_getElem hlt,Sp.D_snoc]);clear he;generalize L[k]=x at*;obtain⟨wz,hwz⟩: ∃wz,wz=wr.alloc (.cells #[.string x.path,.bool x.folder,.string x.text,.int .i64 x.ver] 64):=⟨_,rfl⟩
    have hbz:Below wr.heap.size wr wz:=by rw[hwz];exact(Below.refl _ _).alloc (Nat.le_refl _) _
    have z0:wz.cell? ⟨wr.heap.size,0,none⟩=some (.string x.path):=by rw[hwz];simp
    have z1:wz.cell? ⟨wr.heap.size,1,none⟩=some (.bool x.folder):=by rw[hwz];simp
    have z2:wz.cell? ⟨wr.heap.size,2,none⟩=some (.string x.text):=by rw[hwz];simp
    have z3:wz.cell? ⟨wr.heap.size,3,none⟩=some (.int .i64 x.ver):=by rw[hwz];simp
    have hszz:wz.heap.size=wr.heap.size+1:=by rw[hwz];simp
    have HMZ:=hid (HM.out.alloc (.cells #[.string x.path,.bool x.folder,.string x.text,.int .i64 x.ver] 64));rw[←hwz]at HMZ;have hbel2:=below_trans hbel hbz;go_wp2_with fail;rw[←hwz];clear hwz c0 c1 c2 c3
    go_region_held3 (fun W=>W.cell? ⟨wr.heap.size,0,none⟩=some (.string x.path)∧W.cell? ⟨wr.heap.size,1,none⟩=some (.bool x.folder)∧W.cell? ⟨wr.heap.size,2,none⟩=some (.string x.text)∧W.cell? ⟨wr.heap.size,3,none⟩=some (.int .i64 x.ver)) (go_keep) (first
     |(go_at_call 73;refine(sof_any x _).mono ?_;rintro e wa ⟨rfl,hba⟩;have hza:Below wz.heap.size wz wa:=((Below.refl _ _).drew).trans hba;have hma:=hid (HMZ.out.kept (row:=none) ⟨hza.os,hza.tape,hza.output,hza.size,fun k hk _=>hza.block k hk⟩ (by simp));obtain⟨w6,hrun6,hown6,hgr6⟩:=hma.out.update (string_keyed Tryz.underlying9) Tryz.underlying96 (by unfold maxLen;omega) (keyOf_string_mk Tryz.underlying9 hpx) (Sp.rd_mk (Sp.wh x) (Sp.tx x) x.ver);have HO6:=hid hown6;have j0:=(hza.cell (p:=⟨wr.heap.size,0,none⟩) (by simp[hszz])).trans z0;have j1:=(hza.cell (p:=⟨wr.heap.size,1,none⟩) (by simp[hszz])).trans z1;have j2:=(hza.cell (p:=⟨wr.heap.size,2,none⟩) (by simp[hszz])).trans z2;have j3:=(hza.cell (p:=⟨wr.heap.size,3,none⟩) (by simp[hszz])).trans z3;have hsza:=hza.size;have i0:=(hgr6.cell_far ⟨wr.heap.size,0,none⟩ (by show wr.heap.size<wa.heap.size;omega) (by simp;omega)).trans j0;have i1:=(hgr6.cell_far ⟨wr.heap.size,1,none⟩ (by show wr.heap.size<wa.heap.size;omega) (by simp;omega)).trans j1;have i2:=(hgr6.cell_far ⟨wr.heap.size,2,none⟩ (by show wr.heap.size<wa.heap.size;omega) (by simp;omega)).trans j2;have i3:=(hgr6.cell_far ⟨wr.heap.size,3,none⟩ (by show wr.heap.size<wa.heap.size;omega) (by simp;omega)).trans j3;clear hown6))
    have hbel6:Below w.heap.size w w6:=(below_trans hbel2 hza).grown hgr6 (by omega) (fun k hk=>by simp at hk;omega);have hsz6:=hgr6.size;have HO7:=hid (show w6.ownsMap Tryz.prog 9 Sp.rd w.heap.size (k+1) (Sp.D (L.take (k+1)))from by rw[HSN.out];exact HO6.out);clear HO6 HSN;go_wp2_with fail;go_roundw
    case rel=>exact⟨k+1,by omega,by simp,hbel6,by omega,HO7⟩
    case measure=>simp[intOf];omega
  · obtain rfl:k=L.length:=by omega
    have HM2:=hid (show wr.ownsMap Tryz.prog 9 Sp.rd w.heap.size L.length (Sp.D L)from by have h:=HM.out;rw[List.take_length]at h;exact h);clear HM;go_wp2_with fail;go_ret;exact⟨_,rfl,Nat.le_refl _,HM2.out,hbel⟩
/-- Texts in a slice of one's own. -/
def LiesP (B:Nat) (w:World) (v:Value) (Ps:List ByteArray):Prop:= ∃a cap,v= .slice a Ps.length cap∧Ps.length≤cap∧ ∀i (h:i<Ps.length),∃g,a=some ⟨g,0,none⟩∧B≤g∧g<w.heap.size∧w.cell? ⟨g,i,none⟩=some (.string Ps[i])
theorem paths_good {b n:Nat} {w:World} {L:List En} (h:w.ownsMap Tryz.prog 9 Sp.rd b n (Sp.D L)) (hr:L.Pairwise (fun x y=>Pp.lt x y=true)) (hn:L.length≤1000):
    Calls Tryz.prog 75 #[.map (some b)] w fun e w'=> ∃v,e= .returned v∧LiesP w.heap.size w' v (L.map (fun e=>e.path))∧Below w.heap.size w w':=by
 have hsz:=Sp.D_size (Sp.apart_rise hr);refine(Tryz.paths_any b n _ Sp.rd w h (by rw[hsz];unfold maxLen;omega) (by rw[hsz];omega)).mono fun e w' ⟨v,ss,he,hp,hrow,hnil,hb⟩=>?_
 have hl:ss.length=L.length:=by
  have h1:=hp.length_eq;have h2:=(Sp.D_keys (Sp.apart_rise hr)).length_eq;rw[List.length_map]at h2;omega
 rw[Sp.D_sorted hr hp,hl]at hrow;refine⟨v,he,?_,hb⟩
 have hrow':=hrow;obtain⟨_,h2⟩:=hrow
 rcases h2 with⟨hv,hz⟩|⟨g,cap,cur,hv,hg,hh,hn2,hm,hz,htake⟩
 · subst hv
   have:L=[]:=List.length_eq_zero_iff.1 hz
   subst this;exact⟨none,0,rfl,Nat.le_refl _,fun i hi=>absurd hi (by simp)⟩
 · subst hv
   refine⟨some ⟨g,0,none⟩,cap,by rw[List.length_map],by rw[List.length_map];exact hn2,fun i hi=>⟨g,rfl,hg,?_,?_⟩⟩
   · rcases Nat.lt_or_ge g w'.heap.size with h|h
     · exact h
     · rw[Array.getElem?_eq_none h]at hh;cases hh
   · rw[List.length_map]at hi
     rw[hrow'.cellAt i (by omega)];simp only[List.map_map,List.getElem?_map,List.getElem?_eq_getElem hi,Option.map_some,List.getElem_map,Function.comp]
namespace Sp
def wAt (L:List En) (p:List UInt8):Int:=match at_ L p with|some e=>wh e|none=>0
def tAt (L:List En) (p:List UInt8):ByteArray:=match at_ L p with|some e=>tx e|none=>⟨#[]⟩
def vAt (L:List En) (p:List UInt8):Int:=match at_ L p with|some e=>e.ver|none=>0
theorem val_eq (L:List En) (p:List UInt8):val L p= .agg #[.int .i64 (wAt L p),.string (tAt L p),.int .i64 (vAt L p)]:=by
 rw[val,wAt,tAt,vAt];cases at_ L p<;>rfl
theorem at_self {L:List En} (h:Apart L) {e:En} (he:e∈L):at_ L e.path.data.toList=some e:=by
 induction L with
 |nil=>cases he
 |cons a r ih=>
  rw[Apart,List.pairwise_cons]at h;rcases List.mem_cons.1 he with rfl|he'
  · rw[at_,List.find?_cons_of_pos (atB_iff.2 rfl)]
  · have hne: ¬Pp.atB e.path.data.toList a=true:=fun hh=>h.1 e he' (atB_iff.1 hh)
    rw[at_,List.find?_cons_of_neg hne];exact ih h.2 he'
/-- Is there a folder to be in? -/
def hasP (M:List En) (p:List UInt8):Bool:=(Pp.par p==[])||(wAt M (Pp.par p)==1)
theorem hasP_eq {M:List En} {p q:List UInt8} {a:Int} (h1:Pp.par p=q) (h2:wAt M q=a):hasP M p=((q==[])||(a==1)):=by rw[hasP,h1,h2]
def goes (M:List En) (e:En):Bool:=(wh e !=wAt M e.path.data.toList) && hasP M e.path.data.toList
def delC (e:En):Pp.Ch:=⟨4,e.path,⟨#[]⟩,⟨#[]⟩,-1⟩
def dels (L M:List En):List Pp.Ch:=(L.filter (goes M)).map delC
def newB (L:List En) (e:En):Bool:= !((wh e==wAt L e.path.data.toList) && ((tx e).toList==(tAt L e.path.data.toList).toList))
def mkC (e:En):Pp.Ch:=if e.folder=true then⟨1,e.path,⟨#[]⟩,⟨#[]⟩,-1⟩else⟨2,e.path,⟨#[]⟩,e.text,-1⟩
def mks (L M:List En):List Pp.Ch:=(M.filter (newB L)).map mkC
end Sp
theorem ownsRow_low {w:World} {B B':Nat} {e:TypeId} {size:Nat} {v:Value} {n:Nat} {xs:List Value} (h:w.ownsRow B e size v n xs) (hB:B'≤B):w.ownsRow B' e size v n xs:=by
 obtain⟨h1,h2⟩:=h
 refine⟨h1,?_⟩
 rcases h2 with h2|⟨g,cap,cur,hv,hg,r⟩
 · exact .inl h2
 · exact .inr ⟨g,cap,cur,hv,Nat.le_trans hB hg,r⟩
theorem _root_.Go.World.ownsRow.kept9 {w w':World} {B:Nat} {e:TypeId} {size:Nat} {v:Value} {n:Nat} {xs:List Value} (h:w.ownsRow B e size v n xs) (hw:Below w.heap.size w w'):w'.ownsRow B e size v n xs:=by
 obtain⟨h1,h2⟩:=h
 refine⟨h1,?_⟩
 rcases h2 with h2|⟨g,cap,cur,hv,hg,hh,r⟩
 · exact .inl h2
 · have hlt:g<w.heap.size:=by
    rcases Nat.lt_or_ge g w.heap.size with h|h
    · exact h
    · rw[Array.getElem?_eq_none h]at hh;cases hh
   exact .inr ⟨g,cap,cur,hv,hg,(hw.block g hlt).trans hh,r⟩
namespace Pp
def flatC (l:List Ch):List Value:=l.flatMap cellsC
theorem flatC_snoc (l:List Ch) (c:Ch):flatC l++cellsC c=flatC (l++[c]):=by simp[flatC]
theorem filter_hitE {L:List En} {k:Nat} (h:k<L.length) {pr:En→Bool} (hp:pr L[k]=true):(L.take (k+1)).filter pr=(L.take k).filter pr++[L[k]]:=by
 rw[List.take_succ_eq_append_getElem h,List.filter_append];simp[hp]
theorem filter_missE {L:List En} {k:Nat} (h:k<L.length) {pr:En→Bool} (hp:pr L[k]=false):(L.take (k+1)).filter pr=(L.take k).filter pr:=by
 rw[List.take_succ_eq_append_getElem h,List.filter_append];simp[hp]
end Pp

theorem Tryz.fieldWhat (a:Int) (s:ByteArray) (n:Int) (W:World):(Instr.field 114 (.agg #[.int .i64 a,.string s,.int .i64 n]) 0).run Tryz.prog W= .ok (.int .i64 a) W:=by
 have h:(Instr.field 114 (.agg #[.int .i64 a,.string s,.int .i64 n]) 0).run Tryz.prog W= .ok (#[Value.int .i64 a,Value.string s,Value.int .i64 n][0]) W:=by
  simp[Instr.field,run_underlying Tryz.underlying114,asAgg,part,go_sem]
  try rfl
 exact h
set_option maxHeartbeats 1000000 in
theorem like_any (a b:Int) (s t:ByteArray) (m n:Int) (w:World):
    Calls Tryz.prog 101 #[.agg #[.int .i64 a,.string s,.int .i64 m],.agg #[.int .i64 b,.string t,.int .i64 n]] w fun e w'=>e= .returned (.bool ((a==b) && (s.toList==t.toList)))∧Below w.heap.size w w':=by
 cases h:(a==b)with
 |false=>exact like_no a b s t m n h w
 |true=>
  go_enter Tryz.func101,Tryz.ntmps101
  go_wp2;go_ret;exact⟨by simp,((Below.refl _ _).alloc (Nat.le_refl _) _).alloc (by simp) _⟩
theorem made_any (x:En) (w:World):
    Calls Tryz.prog 111 #[.string x.path,.agg #[.int .i64 (Sp.wh x),.string (Sp.tx x),.int .i64 x.ver]] w fun e w'=>e= .returned (.agg #[.int .i64 (Sp.mkC x).k,.string (Sp.mkC x).p,.string (Sp.mkC x).q,.string (Sp.mkC x).t,.int .i64 (Sp.mkC x).b])∧Below w.heap.size w w':=by
 obtain⟨p,f,t,n⟩:=x
 cases f with
 |false=>exact made_file p t n w
 |true=>
  show Calls Tryz.prog 111 #[.string p,.agg #[.int .i64 1,.string ⟨#[]⟩,.int .i64 n]] w fun e w'=>e= .returned (.agg #[.int .i64 1,.string p,.string ⟨#[]⟩,.string ⟨#[]⟩,.int .i64 (-1)])∧Below w.heap.size w w'
  go_enter Tryz.func111,Tryz.ntmps111
  go_wp2_with fail;refine bodyPost_ret (v:= .agg #[.int .i64 1,.string p,.string ⟨#[]⟩,.string ⟨#[]⟩,.int .i64 (-1)]) (by simp[results,Tryz.results111,go_sem]) rfl ⟨rfl,?_⟩
  exact((Below.refl _ _).alloc (Nat.le_refl _) _).alloc (by simp) _
set_option maxRecDepth 100000 in
set_option maxHeartbeats 1000000 in
theorem hasParent_any {c n:Nat} {w:World} {M:List En} (h:w.ownsMap Tryz.prog 9 Sp.rd c n (Sp.D M)) (hM:Sp.Apart M) (p:ByteArray) (hp:p.size≤1000000000) (hc:Pp.chk p.data.toList=0) (hl:(Pp.par p.data.toList).length≤p.size):
    Calls Tryz.prog 110 #[.map (some c),.string p] w fun e w'=>e= .returned (.bool (Sp.hasP M p.data.toList))∧Below w.heap.size w w':=by
 have hclt:=h.lt
 have hsz:(⟨(Pp.par p.data.toList).toArray⟩:ByteArray).size≤maxLen:=by
  show(Pp.par p.data.toList).toArray.size≤_
  rw[List.size_toArray];unfold maxLen;omega
 have HLK:=hid (show∀W,Below w.heap.size w W→(Instr.lookup 96 (.map (some c)) (.string ⟨(Pp.par p.data.toList).toArray⟩) false).run Tryz.prog W= .ok (.agg #[.int .i64 (Sp.wAt M (Pp.par p.data.toList)),.string (Sp.tAt M (Pp.par p.data.toList)),.int .i64 (Sp.vAt M (Pp.par p.data.toList))]) W from fun W hW=>by
  have:=spotAt_any (omap_below h hW hclt) hM ⟨(Pp.par p.data.toList).toArray⟩ hsz
  rw[Sp.val_eq]at this;exact this)
 have HC:=hid hc;clear h hc;have hfd:=Tryz.fieldWhat;go_enter Tryz.func110,Tryz.ntmps110
 go_wp2_with fail;refine(parent_any p _ (by omega)).mono ?_
 rintro e w1 ⟨rfl,hb1⟩;rw[HC.out,Pp.ifc_yes rfl];have hlk:=HLK.out w1 hb1;generalize hqq:Pp.par p.data.toList=q at*;generalize haa:Sp.wAt M q=a at*;have HQQ:=hid (Sp.hasP_eq hqq haa);clear hqq haa;cases hq:(q==([]:List UInt8))with
 |true=>
  have hq2:((⟨q.toArray⟩:ByteArray).toList==(⟨#[]⟩:ByteArray).toList)=true:=by
   have:q=[]:=by simpa using hq
   subst this;simp
  go_wp2;go_ret;exact⟨by rw[HQQ.out,hq];simp,hb1⟩
 |false=>
  have hq2:((⟨q.toArray⟩:ByteArray).toList==(⟨#[]⟩:ByteArray).toList)=false:=by
   rw[Lib.toList_data,Lib.toList_data];simpa using hq
  go_wp2;go_ret;exact⟨by rw[HQQ.out,hq];simp,hb1⟩
set_option maxRecDepth 100000 in
set_option maxHeartbeats 4000000 in
theorem deletes_any {b c n m:Nat} {w:World} {L M:List En} (h:w.ownsMap Tryz.prog 9 Sp.rd b n (Sp.D L)) (ho:w.ownsMap Tryz.prog 9 Sp.rd c m (Sp.D M)) (hL:L.Pairwise (fun x y=>Pp.lt x y=true)) (hM:Sp.Apart M) (hn:L.length≤1000) (hp: ∀e∈L,e.path.size≤1000000000∧Pp.chk e.path.data.toList=0∧(Pp.par e.path.data.toList).length≤e.path.size):
    Calls Tryz.prog 86 #[.map (some b),.map (some c)] w fun e w'=> ∃v,e= .returned v∧w'.ownsRow w.heap.size 53 5 v (Sp.dels L M).length (Pp.flatC (Sp.dels L M))∧Below w.heap.size w w':=by
 obtain⟨i0,hi0,hz0,hz1,hz2⟩:=info_parts Tryz.infoChg
 have hblt:=h.lt;have hclt:=ho.lt;have hap:=Sp.apart_rise hL;have HB:=hid h
 have HLK:=hid (show∀x∈L,∀W,Below w.heap.size w W→(Instr.lookup 96 (.map (some b)) (.string x.path) false).run Tryz.prog W= .ok (.agg #[.int .i64 (Sp.wh x),.string (Sp.tx x),.int .i64 x.ver]) W∧(Instr.lookup 96 (.map (some c)) (.string x.path) false).run Tryz.prog W= .ok (.agg #[.int .i64 (Sp.wAt M x.path.data.toList),.string (Sp.tAt M x.path.data.toList),.int .i64 (Sp.vAt M x.path.data.toList)]) W from fun x hx W hW=>by
  have hs:x.path.size≤maxLen:=by have:=(hp x hx).1;unfold maxLen;omega
  have h1:=spotAt_any (omap_below h hW hblt) hap x.path hs;have h2:=spotAt_any (omap_below ho hW hclt) hM x.path hs;rw[Sp.val,Sp.at_self hap hx]at h1;rw[Sp.val_eq]at h2;exact⟨h1,h2⟩)
 have HHP:=hid (show∀x∈L,∀W,Below w.heap.size w W→Calls Tryz.prog 110 #[.map (some c),.string x.path] W fun e w'=>e= .returned (.bool (Sp.hasP M x.path.data.toList))∧Below W.heap.size W w' from fun x hx W hW=>hasParent_any (omap_below ho hW hclt) hM x.path (hp x hx).1 (hp x hx).2.1 (hp x hx).2.2);have HL:=hid hL;clear h ho hp hap hL;have hfd:=Tryz.fieldWhat;go_enter Tryz.func86,Tryz.ntmps86
 go_wp2_with fail;refine(paths_good HB.out HL.out hn).mono ?_
 rintro e w1 ⟨v1,rfl,⟨a1,cap1,rfl,hcap1,hcells⟩,hb1⟩;have HCL:=hid hcells;rw[List.length_map]at hcap1⊢;have hsz1:=hb1.size;clear hcells;go_wp2_with fail;go_loopw [5,11] (fun x i wr=> ∃k:Nat,k≤L.length∧i= .int .i64 k∧Below w1.heap.size w1 wr∧wr.ownsRow w1.heap.size 53 5 x (Sp.dels (L.take k) M).length (Pp.flatC (Sp.dels (L.take k) M))) (fun _ i _=>L.length-(intOf i).toNat)
 case atStart=>exact⟨0,Nat.zero_le _,rfl,Below.refl _ _,World.ownsRow_nil _ _ _ _⟩
 case round=>
  obtain⟨k,hk,rfl,hbel,hown⟩:=hrel
  have hb0r:Below w.heap.size w wr:=hb1.trans (hbel.mono hsz1);by_cases hlt:k<L.length
  · obtain⟨g,rfl,hg1,hg2,hcell⟩:=HCL.out k (by rw[List.length_map];exact hlt)
    rw[List.getElem_map]at hcell;have c0:=(hbel.cell (p:=⟨g,k,none⟩) hg2).trans hcell;have hmem:L[k]∈L:=List.getElem_mem hlt;obtain⟨hl1,hl2⟩:=HLK.out L[k] hmem wr hb0r
    have HHK:=hid (HHP.out L[k] hmem);have HHIT:=hid (show Sp.goes M L[k]=true→Sp.dels (L.take (k+1)) M=Sp.dels (L.take k) M++[Sp.delC L[k]]from fun hh=>by rw[Sp.dels,Pp.filter_hitE hlt hh,List.map_append];rfl);have HMISS:=hid (show Sp.goes M L[k]=false→Sp.dels (L.take (k+1)) M=Sp.dels (L.take k) M from fun hh=>by rw[Sp.dels,Pp.filter_missE hlt hh];rfl)
    have hXl:(Sp.dels (L.take k) M).length≤1000:=by
     have h1:(Sp.dels (L.take k) M).length≤(L.take k).length:=by rw[Sp.dels,List.length_map];exact List.length_filter_le _ _
     have h2:=List.length_take_le k L;omega
    have hrsz:=hbel.size;have HO:=hid hown;clear hown hcell hmem;generalize L[k]=x at*;generalize Sp.dels (L.take k) M=X at*;cases hne:(Sp.wh x !=Sp.wAt M x.path.data.toList)with
    |false=>
     have HX:=hid (HMISS.out (by rw[Sp.goes,hne];rfl));clear HHIT HMISS HHK;generalize Sp.wAt M x.path.data.toList=wm at*;generalize Sp.wh x=wx at*;go_wp2_with fail;go_roundw
     case rel=>exact⟨k+1,by omega,by simp,hbel,by rw[HX.out];exact HO.out⟩
     case measure=>simp[intOf];omega
    |true=>
     cases hhp:Sp.hasP M x.path.data.toList with
     |false=>
      have HX:=hid (HMISS.out (by rw[Sp.goes,hne,hhp];rfl));have HHPX:=hid hhp;clear HHIT HMISS hhp;generalize Sp.wAt M x.path.data.toList=wm at*;generalize Sp.wh x=wx at*;go_wp2_with fail;refine(HHK.out _ hb0r).mono ?_
      rintro e w2 ⟨rfl,hb2⟩;rw[HHPX.out];have hbel2:=below_trans hbel hb2;have HO2:=hid (HO.out.kept9 hb2);clear hb2 hl1 hl2 c0;go_wp2_with fail;go_roundw
      case rel=>exact⟨k+1,by omega,by simp,hbel2,by rw[HX.out];exact HO2.out⟩
      case measure=>simp[intOf];omega
     |true=>
      have HX:=hid (HHIT.out (by rw[Sp.goes,hne,hhp];rfl));have HHPX:=hid hhp;clear HHIT HMISS hhp;generalize Sp.wAt M x.path.data.toList=wm at*;generalize Sp.wh x=wx at*;go_wp2_with fail;refine(HHK.out _ hb0r).mono ?_
      rintro e w2 ⟨rfl,hb2⟩;rw[HHPX.out];have hbel2:=below_trans hbel hb2;have hO2:=HO.out.kept9 hb2;have hsz2:=hbel2.size;clear hb2 hl1 hl2 c0;go_wp2_with (at_builtin;refine wpList_append_own _ rfl _ _ 23 rfl w1.heap.size 53 i0 (.agg #[.int .i64 0,.string ⟨#[]⟩,.string ⟨#[]⟩,.string ⟨#[]⟩,.int .i64 0]) 5 64 Tryz.underlying23 hi0 hz0 hz1 hz2 rfl (by decide) _ _ _ rfl (hO2.alloc _) ⟨w2.heap.size,0,none⟩ 1 1 (Pp.cellsC (Sp.delC x)) rfl rfl (new_cellsC w2 (Sp.delC x) _) (Pp.cellsC_one _) (by unfold maxLen;omega) (by omega) (by simp;omega) ?_)
      intro v5 w5 ho5 hgr5 hnn5;have hbel5:Below w1.heap.size w1 w5:=(hbel2.alloc hbel2.size _).grown hgr5 (by simp;omega) (fun q hq=>(hO2.lt q hq).1);rw[Pp.flatC_snoc]at ho5;have HO5:=hid (show w5.ownsRow w1.heap.size 53 5 v5 (X++[Sp.delC x]).length (Pp.flatC (X++[Sp.delC x]))from by rw[List.length_append];exact ho5);clear ho5 hgr5 hnn5 hO2;go_wp2_with fail;go_roundw
      case rel=>exact⟨k+1,by omega,by simp,hbel5,by rw[HX.out];exact HO5.out⟩
      case measure=>simp[intOf];omega
  · obtain rfl:k=L.length:=by omega
    rw[List.take_length]at hown;have HO:=hid (ownsRow_low hown hsz1);clear hown;go_wp2_with fail;go_ret;exact⟨_,rfl,HO.out,hb0r⟩
end Go.Proofs.YtlllcifehellpaaGreatDoor
namespace Go.Proofs.YtlllcifehellpaaGreatDoor
open Go.RowKit

namespace Pp
theorem flatC_at: ∀(L:List Ch) (i:Nat) (h:i<L.length) (c:Nat),c<5→(flatC L)[i*5+c]?=(cellsC L[i])[c]?
 |[],i,h,_,_=>absurd h (by simp)
 |a::r,0,_,c,hc=>by
  show(cellsC a++flatC r)[0*5+c]?=_
  rw[List.getElem?_append_left (by simp[cellsC];omega)];simp
 |a::r,i+1,h,c,hc=>by
  show(cellsC a++flatC r)[(i+1)*5+c]?=_
  rw[List.getElem?_append_right (by simp[cellsC];omega)];have e:(i+1)*5+c-(cellsC a).length=i*5+c:=by simp[cellsC];omega
  rw[e,flatC_at r i (by simpa using h) c hc];simp
end Pp
theorem liesC_row {w:World} {base:Nat} {T:TypeId} {v:Value} {L:List Pp.Ch} (h:w.ownsRow base T 5 v L.length (Pp.flatC L)) (hn:L.length≤1000000000000000):LiesC w v L:=by
 have h':=h;obtain⟨_,h2⟩:=h
 rcases h2 with⟨rfl,hz⟩|⟨g,cap,cur,rfl,hg,hh,hc,hm,hz,htake⟩
 · have:L=[]:=List.length_eq_zero_iff.1 hz
   subst this;exact⟨none,0,rfl,Nat.le_refl _,by simp,fun i hi=>absurd hi (by simp)⟩
 · have hlt:g<w.heap.size:=by
    rcases Nat.lt_or_ge g w.heap.size with h|h
    · exact h
    · rw[Array.getElem?_eq_none h]at hh;cases hh
   refine⟨some ⟨g,0,none⟩,cap,rfl,hc,hn,fun i hi=>⟨g,0,rfl,hlt,?_⟩⟩
   have k: ∀c,c<5→w.cell? ⟨g,0+i*5+c,none⟩=(Pp.cellsC L[i])[c]?:=fun c hc=>by
    rw[Nat.zero_add,h'.cellAt (i*5+c) (by omega),Pp.flatC_at L i hi c hc]
   exact⟨k 0 (by decide),k 1 (by decide),k 2 (by decide),k 3 (by decide),k 4 (by decide)⟩
end Go.Proofs.YtlllcifehellpaaGreatDoor
namespace Go.Proofs.YtlllcifehellpaaGreatDoor
open Go.RowKit

set_option maxHeartbeats 1000000 in
theorem sameChg_yes (L:List Pp.Ch) (v u:Value) (w:World) (hv:LiesC w v L) (hu:LiesC w u L):
    Calls Tryz.prog 45 #[v,u] w fun e w'=>e= .returned (.bool true)∧Below w.heap.size w w':=by
 obtain⟨a,cap,rfl,hcap,hcap2,hL⟩:=hv
 have HL:Hid (∀i (h:i<L.length),∃b o,a=some ⟨b,o,none⟩∧b<w.heap.size∧ChAt w b (o+i*5) L[i]):=hL;obtain⟨a',cap',rfl,hcap',_,hL'⟩:=hu
 have HL':Hid (∀i (h:i<L.length),∃b o,a'=some ⟨b,o,none⟩∧b<w.heap.size∧ChAt w b (o+i*5) L[i]):=hL';clear hL hL';go_enter Tryz.func45,Tryz.ntmps45
 go_wp2_with fail;go_loopw [5] (fun i wr=> ∃k:Nat,k≤L.length∧i= .int .i64 k∧Below w.heap.size w wr) (fun i _=>L.length-(intOf i).toNat)
 case atStart=>exact⟨0,Nat.zero_le _,rfl,Below.refl _ _⟩
 case round=>
  obtain⟨k,hk,rfl,hbel⟩:=hrel
  by_cases hlt:k<L.length
  · obtain⟨b,o,rfl,hb,he⟩:=HL.out k hlt
    obtain⟨b',o',rfl,hb',he'⟩:=HL'.out k hlt
    obtain⟨c0,c1,c2,c3,c4⟩:=he.below hb hbel
    obtain⟨d0,d1,d2,d3,d4⟩:=he'.below hb' hbel
    go_wp2_with fail;go_region
    go_wp2_with fail;go_roundw
    case rel=>exact⟨k+1,by omega,by simp,hbel.drew⟩
    case measure=>simp[intOf];omega
  · go_wp2_with fail
    go_ret;exact⟨rfl,hbel⟩
/-- A tree that lies where it was handed in, or in a block of entries. -/
def LiesX (B:Nat) (w:World) (y:Value) (S:List En):Prop:= ∃a cap,y= .slice a S.length cap∧S.length≤cap∧S.length≤1000000000000000∧ ∀i (h:i<S.length),∃b o,a=some ⟨b,o,none⟩∧b<w.heap.size∧(b<B∨ ∃cur fz,w.heap[b]?=some (.cells cur 64 fz))∧EnAt w b (o+i*4) S[i]
theorem LiesX.lies {B:Nat} {w:World} {y:Value} {S:List En} (h:LiesX B w y S):Lies w y S:=by
 obtain⟨a,cap,h1,h2,h3,h4⟩:=h
 exact⟨a,cap,h1,h2,h3,fun i hi=>by obtain⟨b,o,k1,k2,_,k3⟩:=h4 i hi;exact⟨b,o,k1,k2,k3⟩⟩
theorem LiesX.at {B:Nat} {w:World} {a:Option Addr} {n cap:Nat} {S:List En} (h:LiesX B w (.slice a n cap) S): ∀i (h:i<S.length),∃b o,a=some ⟨b,o,none⟩∧EnAt w b (o+i*4) S[i]:=by
 obtain⟨a',cap',h1,h2,h3,h4⟩:=h
 intro i hi;obtain⟨b,o,k1,_,_,k3⟩:=h4 i hi
 injection h1 with e1
 exact⟨b,o,e1.trans k1,k3⟩
theorem LiesX.below {B:Nat} {w w':World} {y:Value} {S:List En} (h:LiesX B w y S) (hw:Below w.heap.size w w'):LiesX B w' y S:=by
 obtain⟨a,cap,h1,h2,h3,h4⟩:=h
 refine⟨a,cap,h1,h2,h3,fun i hi=>?_⟩
 obtain⟨b,o,k1,k2,k4,k3⟩:=h4 i hi
 exact⟨b,o,k1,Nat.lt_of_lt_of_le k2 hw.size,k4.imp id (fun⟨cur,fz,hc⟩=>⟨cur,fz,(hw.block b k2).trans hc⟩),k3.below k2 hw⟩
theorem LiesX.grown {B:Nat} {w w':World} {y x:Value} {S:List En} {n:Nat} {xs:List Value} (h:LiesX B w y S) (ho:w.ownsRow B 53 5 x n xs) (hg:w.grownBy w' x.ownBlock):LiesX B w' y S:=by
 obtain⟨a,cap,h1,h2,h3,h4⟩:=h
 refine⟨a,cap,h1,h2,h3,fun i hi=>?_⟩
 obtain⟨b,o,k1,k2,k4,k3⟩:=h4 i hi
 have hne:some b≠x.ownBlock:=by
  intro e;obtain⟨_,h5⟩:=ho
  rcases h5 with⟨h6,_⟩|⟨g,cap',cur,h6,hB,hh,_⟩
  · rw[h6]at e;simp[Value.ownBlock]at e
  · rw[h6]at e
    have e2:b=g:=by simpa[Value.ownBlock]using e
    subst e2;rcases k4 with h|⟨cur2,fz,h⟩
    · omega
    · rw[hh]at h
      injection h with h
      injection h with _ h7 _
      exact absurd h7 (by decide)
 exact⟨b,o,k1,Nat.lt_of_lt_of_le k2 hg.size,k4.imp id (fun⟨cur,fz,hc⟩=>⟨cur,fz,(hg.block b k2 hne).trans hc⟩),
  (hg.cell_far ⟨b,_,none⟩ k2 hne).trans k3.1,(hg.cell_far ⟨b,_,none⟩ k2 hne).trans k3.2.1,(hg.cell_far ⟨b,_,none⟩ k2 hne).trans k3.2.2.1,(hg.cell_far ⟨b,_,none⟩ k2 hne).trans k3.2.2.2⟩
end Go.Proofs.YtlllcifehellpaaGreatDoor
