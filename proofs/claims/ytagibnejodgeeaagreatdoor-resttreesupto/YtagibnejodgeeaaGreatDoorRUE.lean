/- What tree.apply answers, where a folder is made or a file is written at a path at which nothing is, and nothing stands against it. -/
import Derived.Test.YtagibnejodgeeaaGreatDoorRUD
import Derived.Maps.AppendAt
import Derived.Test.YtagibnejodgeeaaGreatDoorRUA
import Derived.Test.YtagibnejodgeeaaGreatDoorRUB
import Derived.Test.YtagibnejodgeeaaGreatDoorRUC
set_option linter.unusedSimpArgs false
set_option linter.unusedVariables false
namespace Go.Proofs.YtagibnejodgeeaaGreatDoor
open Go.RowKit

/-- A change that nothing in a tree stands against. -/
structure Fits (L:List En) (k:Int) (p t:ByteArray) (b n:Int):Prop where
 kind:Plain k t
 size:p.size≤1000000000000000
 path:Pp.chk p.data.toList=0
 text:t.size≤300
 base1: -1≤b
 base2:b≤1000000
 vers:Pp.verE n=0
 folder:Pp.foldE L (Pp.par p.data.toList)=0
 nowhere:L.find? (Pp.atB p.data.toList)=none
 fresh:b= -1∨L.find? (Pp.stB p.data.toList b)=none
 room:L.length≤60
 room2: ¬60<(Pp.out (made k p t n) L).length+1
 sorted:L.Pairwise (fun x y=>Pp.lt x y=true)
/-- What comes of it. -/
def after (L:List En) (k:Int) (p t:ByteArray) (n:Int):List En:=Pp.ins (made k p t n) (Pp.out (made k p t n) L)
set_option maxHeartbeats 800000 in
theorem apply_ok (L:List En) (v:Value) (k:Int) (p t:ByteArray) (b n:Int) (w:World) (hv:Lies w v L) (hs:Sized L) (h:Fits L k p t b n):
    Calls Tryz.prog 22 #[v,.agg #[.int .i64 k,.string p,.string ⟨#[]⟩,.string t,.int .i64 b],.int .i64 n] w fun e w'=> ∃u,e= .returned (.tuple #[u,.int .i64 0])∧Lies w' u (after L k p t n)∧Below w.heap.size w w':=by
 have HV:Hid (Lies w v L):=hv;have HS:Hid (Sized L):=hs;have HF:Hid (Fits L k p t b n):=h;clear hv hs h;go_enter Tryz.func22,Tryz.ntmps22
 go_wp2_with fail;refine(checkVersion_any n _).mono ?_
 rintro e w1 ⟨rfl,rfl⟩;rw[HF.out.vers];go_wp2_with fail;refine(checkChange_ok k p t b _ HF.out.kind HF.out.size HF.out.path HF.out.text HF.out.base1 HF.out.base2).mono ?_
 rintro e w2 ⟨rfl,hb2⟩;obtain⟨c0,c1,c2,c3,c4,hbw2,hlt2⟩:=box5 hb2
 go_wp2_with fail;refine(checkPlace_ok L v k p t b _ (HV.out.below hbw2) HS.out HF.out.kind HF.out.size HF.out.path HF.out.folder HF.out.nowhere).mono ?_
 rintro e w3 ⟨rfl,hb3⟩;have hb03:=hb2.trans (hb3.mono hb2.size);clear c0 c1 c2 c3 c4 hbw2 hlt2;obtain⟨c0,c1,c2,c3,c4,hbw3,hlt3⟩:=box5 hb03
 clear hb3 hb2;go_wp2_with fail;refine(isStale_no L v k p ⟨#[]⟩ t b _ (HV.out.below hbw3) HS.out HF.out.size HF.out.fresh).mono ?_
 rintro e w4 ⟨rfl,hb4⟩;have hb04:=hb03.trans (hb4.mono hb03.size);clear c0 c1 c2 c3 c4 hbw3 hlt3;obtain⟨c0,c1,c2,c3,c4,hbw4,hlt4⟩:=box5 hb04
 clear hb03 hb4;go_wp2_with fail;refine(changed_ok L v k p t b n _ (HV.out.below hbw4) HF.out.room HS.out HF.out.kind HF.out.size HF.out.sorted HF.out.room2).mono ?_
 rintro e w5 ⟨u,rfl,hli,hb5⟩;have HLI:Hid (Lies w5 u (after L k p t n)):=hli;have hb05:=hbw4.trans (hb5.mono (Nat.le_of_lt hlt4));clear hb04 hb5 hli c0 c1 c2 c3 c4;go_wp2;go_ret2;exact⟨u,rfl,HLI.out,hb05⟩
theorem lies_own {w:World} {base:Nat} {T:TypeId} {v:Value} {L:List En} (h:w.ownsRow base T 4 v L.length (Pp.flat L)) (hn:L.length≤1000000000000000):Lies w v L:=by
 haveI:Inhabited En:=⟨⟨⟨#[]⟩,false,⟨#[]⟩,0⟩⟩
 by_cases h0:L=[]
 · subst h0
   obtain⟨_,h2⟩:=h
   rcases h2 with⟨rfl,_⟩|⟨g,cap,cur,rfl,hg,hh,hc,_⟩
   · exact⟨none,0,rfl,Nat.le_refl _,by simp,fun i hi=>absurd hi (by simp)⟩
   · exact⟨some ⟨g,0,none⟩,cap,rfl,hc,by simp,fun i hi=>absurd hi (by simp)⟩
 · obtain⟨g,cap,rfl,hb,hg,hc,hm⟩:=Pp.own_shape h h0
   have:=Pp.lies_holds hg (Pp.holds_own h rfl) (d:=L.toArray) (cap:=cap) (by simpa using hc) (by simpa using hn)
   simpa using this
namespace Pp
end Pp

theorem new4 (w:World) (a b c d:Value) (T:TypeId) (g:Nat) (hg:g=w.heap.size): ∀j u,[a,b,c,d][j]?=some u→(w.alloc (.cells #[a,b,c,d] T)).cell? ((⟨g,0,none⟩:Addr).add j)=some u:=by
 subst hg;intro j u hj;match j,hj with
 |0,hj=>simp at hj;subst hj;simp[Addr.add]
 |1,hj=>simp at hj;subst hj;simp[Addr.add]
 |2,hj=>simp at hj;subst hj;simp[Addr.add]
 |3,hj=>simp at hj;subst hj;simp[Addr.add]
 |j+4,hj=>simp at hj
theorem one4 (x y:ByteArray) (f:Bool) (n:Int): ∀u∈[Value.string x,.bool f,.string y,.int .i64 n],u.oneCell'=true:=by
 intro u hu;simp only[List.mem_cons,List.not_mem_nil,or_false]at hu;rcases hu with rfl|rfl|rfl|rfl<;>rfl
set_option maxRecDepth 100000 in
set_option maxHeartbeats 2000000 in
theorem move_own (L:List En) (v:Value) (p q t:ByteArray) (b n:Int) (w:World) (hv:Lies w v L) (hs:Sized L) (hp:p.size≤150000000000000) (hq:q.size≤150000000000000) (hL:Pp.Good L) (hc:Pp.chgE ⟨3,p,q,t,b⟩=0) (hf:L.find? (Pp.atB q.data.toList)=none) (x0:En) (hx0:L.find? (Pp.atB p.data.toList)=some x0):
    Calls Tryz.prog 80 #[v,.agg #[.int .i64 3,.string p,.string q,.string t,.int .i64 b],.int .i64 n] w fun e w'=>
     ((Pp.goL L ⟨3,p,q,t,b⟩).any (fun e=>Pp.big (Pp.mvP ⟨3,p,q,t,b⟩ e))=true∧e= .returned (.tuple #[.slice none 0 0,.int .i64 2])∧Below w.heap.size w w')∨
     ((Pp.goL L ⟨3,p,q,t,b⟩).any (fun e=>Pp.big (Pp.mvP ⟨3,p,q,t,b⟩ e))=false∧ ∃u,e= .returned (.tuple #[u,.int .i64 0])∧LiesF w.heap.size w' u (Pp.insAll (Pp.mvL L ⟨3,p,q,t,b⟩ n) (Pp.keptL L ⟨3,p,q,t,b⟩))∧Below w.heap.size w w'):=by
 obtain⟨i0,hi0,hz0,hz1,hz2⟩:=info_parts Tryz.infoE
 have hck: ∀e∈L,Pp.chk e.path.data.toList=0:=fun e he=>Pp.entE_path (hL.ents e he)
 have hcp:Pp.chk p.data.toList=0:=Pp.chg_path hc;have hcq:Pp.chk q.data.toList=0:=Pp.chg_to hc rfl;have HK:=hid (show L.filter (fun e=> !Pp.inB p.data.toList e)=Pp.keptL L ⟨3,p,q,t,b⟩from Pp.filter_eq fun e he=>by rw[Pp.inB_wi (hck e he) hcp]);have HG:=hid (show L.filter (Pp.inB p.data.toList)=Pp.goL L ⟨3,p,q,t,b⟩from Pp.filter_eq fun e he=>by rw[Pp.inB_wi (hck e he) hcp]);have HV:Hid (Lies w v L):=hv;have HS:Hid (Sized L):=hs;have hn:L.length≤60:=hL.len;have hkl:(Pp.keptL L ⟨3,p,q,t,b⟩).length≤L.length:=List.length_filter_le _ _;have hgl:(Pp.goL L ⟨3,p,q,t,b⟩).length≤L.length:=List.length_filter_le _ _;have HD:Hid ((Pp.keptL L ⟨3,p,q,t,b⟩++Pp.mvL L ⟨3,p,q,t,b⟩ n).Pairwise Pp.dif):=Pp.mv_dif hL n (Pp.chk_path_ne hcq) hf;have HR:=hid (show(Pp.keptL L ⟨3,p,q,t,b⟩).Pairwise (fun x y=>Pp.lt x y=true)from List.Pairwise.filter _ hL.rise)
 have HM:=hid (show∀e∈Pp.goL L ⟨3,p,q,t,b⟩,e.path.size≤1000000000∧Pp.chks [e.path.data.toList,p.data.toList,q.data.toList]=0∧Pp.isInB e.path.data.toList p.data.toList=true from fun e he=>by
  obtain⟨h1,h2⟩:=Pp.mem_goL.1 he
  exact⟨by rw[Lib.size_eq];have:=Pp.chk_len (hck e h1);omega,by simp[Pp.chks,hck e h1,hcp,hcq],h2⟩)
 have hmvl:Pp.mvL L ⟨3,p,q,t,b⟩ n=(Pp.goL L ⟨3,p,q,t,b⟩).map (Pp.mvd ⟨3,p,q,t,b⟩ n):=rfl
 have hg0:Pp.goL L ⟨3,p,q,t,b⟩≠[]:=fun e=>by
  have h1:=List.mem_of_find?_eq_some hx0;have h2:x0.path.data.toList=p.data.toList:=by have:=List.find?_some hx0;simpa[Pp.atB]using this
  have h3:x0∈Pp.goL L ⟨3,p,q,t,b⟩:=Pp.mem_goL.2 ⟨h1,by rw[h2];exact Pp.isIn_refl _⟩;rw[e]at h3;cases h3
 rw[hmvl]at HD⊢;clear hmvl hx0;generalize Pp.keptL L ⟨3,p,q,t,b⟩=K at*;generalize Pp.goL L ⟨3,p,q,t,b⟩=G at*;clear hv hs hL hc hf hck hcp hcq;go_enter Tryz.func80,Tryz.ntmps80
 go_wp2_with fail;refine(twithin_any p _ (by omega)).mono ?_
 rintro e w1 ⟨rfl,ht1,hb1⟩;obtain⟨c0,c1,c2,c3,c4,hbw,hlt⟩:=bx5 hb1
 have HT1:=hid (show Tells w1 95 #[.pointer (some ⟨w.heap.size+1,0,none⟩)] (Pp.inB p.data.toList)from by simpa using ht1);clear ht1;go_wp2_with fail;refine(not_any _ _ (Pp.inB p.data.toList) _ HT1.out).mono ?_
 rintro e w2 ⟨rfl,ht2,hb2⟩;have HT2:=hid ht2;have hb02:=hb1.trans (hb2.mono hb1.size);clear ht2 c0 c1 c2 c3 c4 hbw hlt hb1 hb2;obtain⟨c0,c1,c2,c3,c4,hbw,hlt⟩:=bx5 hb02
 have hlt2:=hlt;go_wp2_with fail;refine(every_any L v _ _ (fun e=> !Pp.inB p.data.toList e) _ (HV.out.below hbw) HT2.out (by omega) HS.out).mono ?_
 rintro e w3 ⟨u1,rfl,ho1,hn1,hb3⟩;rw[HK.out]at ho1;have hb03:=hb02.trans (hb3.mono hb02.size);clear c0 c1 c2 c3 c4 hbw hlt hb02;obtain⟨c0,c1,c2,c3,c4,hbw,hlt⟩:=bx5 hb03
 have hu1: ∀g,u1.ownBlock=some g→w.heap.size<g∧g<w3.heap.size:=fun g hg=>⟨Nat.lt_of_lt_of_le hlt2 (ho1.lt g hg).1,(ho1.lt g hg).2⟩
 have HO1:=hid (Pp.own_mono (B:=w.heap.size) ho1 (Nat.le_of_lt hlt2));clear ho1;go_wp2_with fail;refine(twithin_any p _ (by omega)).mono ?_
 rintro e w4 ⟨rfl,ht4,hb4⟩;have HT4:=hid ht4;have hb04:=hb03.trans (hb4.mono hb03.size);have HO4:=hid (Pp.own_below HO1.out hb4);have hs34:=hb4.size;clear ht4 c0 c1 c2 c3 c4 hbw hlt hb03 hb3 hb4 HO1;obtain⟨c0,c1,c2,c3,c4,hbw,hlt⟩:=bx5 hb04
 go_wp2_with fail;refine(every_any L v _ _ (Pp.inB p.data.toList) _ (HV.out.below hbw) HT4.out (by omega) HS.out).mono ?_
 rintro e w5 ⟨u2,rfl,ho2,hn2,hb5⟩;rw[HG.out]at ho2;have HO5:=hid (Pp.own_below HO4.out hb5);have hb05:=hb04.trans (hb5.mono hb04.size);have hs45:=hb5.size;clear c0 c1 c2 c3 c4 hbw hlt hb04 hb5 HO4;obtain⟨c0,c1,c2,c3,c4,hbw,hlt⟩:=bx5 hb05
 obtain⟨g2,cap2,rfl,hg2,hg2',hc2,hm2⟩:=Pp.own_shape ho2 hg0
 have HL2:=hid (show∀i (h:i<G.length),EnAt w5 g2 (i*4) G[i]from fun i h=>by
  obtain⟨a,cap,hv,_,_,hL⟩:=lies_own ho2 (by omega)
  obtain⟨b',o',ha,_,he⟩:=hL i h
  cases hv
  cases ha
  simpa using he)
 have C1:=hid c1;have C2:=hid c2;clear c0 c1 c2 c3 c4 ho2 hb05;go_wp2_with fail;go_loopw [8,25] (fun u i wr=> ∃k:Nat,k≤G.length∧i= .int .i64 k∧Hid ((G.take k).any (fun e=>Pp.big (Pp.mvP ⟨3,p,q,t,b⟩ e))=false)∧wr.ownsRow w.heap.size 27 4 u (K++(G.take k).map (Pp.mvd ⟨3,p,q,t,b⟩ n)).length (Pp.flat (K++(G.take k).map (Pp.mvd ⟨3,p,q,t,b⟩ n)))∧(∀g,u.ownBlock=some g→w.heap.size<g∧g≠g2)∧wr.heap[g2]?=w5.heap[g2]?∧wr.heap[w.heap.size]?=w5.heap[w.heap.size]?∧w5.heap.size≤wr.heap.size∧Below w.heap.size w wr) (fun _ i _=>G.length-(intOf i).toNat)
 case atStart=>exact⟨0,Nat.zero_le _,rfl,(by simp:(G.take 0).any (fun e=>Pp.big (Pp.mvP ⟨3,p,q,t,b⟩ e))=false),by simpa using HO5.out,fun g hg=>⟨(hu1 g hg).1,by have:=(hu1 g hg).2;omega⟩,rfl,rfl,Nat.le_refl _,hbw⟩
 case round=>
  obtain⟨k,hk,rfl,HA,hown,hub,hG2,hGc,hsz,hbel⟩:=hrel
  have cc: ∀o,wr.cell? ⟨g2,o,none⟩=w5.cell? ⟨g2,o,none⟩:=fun o=>World.cell?_of_block hG2
  have q1:wr.cell? ⟨w.heap.size,1,none⟩=some (.string p):=(World.cell?_of_block hGc).trans C1.out;have q2:wr.cell? ⟨w.heap.size,2,none⟩=some (.string q):=(World.cell?_of_block hGc).trans C2.out;have q1a: ∀o,(wr.alloc o).cell? ⟨w.heap.size,1,none⟩=some (.string p):=fun o=>(((Below.refl wr.heap.size wr).alloc (Nat.le_refl _) o).cell (p:=⟨w.heap.size,1,none⟩) (by show w.heap.size<_;omega)).trans q1
  have q2a: ∀o,(wr.alloc o).cell? ⟨w.heap.size,2,none⟩=some (.string q):=fun o=>(((Below.refl wr.heap.size wr).alloc (Nat.le_refl _) o).cell (p:=⟨w.heap.size,2,none⟩) (by show w.heap.size<_;omega)).trans q2
  by_cases hlk:k<G.length
  · obtain⟨e0,e1,e2,e3⟩:=HL2.out k hlk
    have c0:=(cc _).trans e0;have c1:=(cc _).trans e1;have c2:=(cc _).trans e2;have c3:=(cc _).trans e3;obtain⟨hsz1,hck,hin⟩:=HM.out G[k] (List.getElem_mem hlk)
    have hmE:=Pp.mvE_in hck hin;rw[Pp.mv_chk hck hin]at hmE
    have hany:(G.take (k+1)).any (fun e=>Pp.big (Pp.mvP ⟨3,p,q,t,b⟩ e))=Pp.big (Pp.mvP ⟨3,p,q,t,b⟩ G[k]):=by
     rw[List.take_succ_eq_append_getElem hlk,List.any_append,HA.out];simp
    have hmap:K++(G.take (k+1)).map (Pp.mvd ⟨3,p,q,t,b⟩ n)=(K++(G.take k).map (Pp.mvd ⟨3,p,q,t,b⟩ n))++[Pp.mvd ⟨3,p,q,t,b⟩ n G[k]]:=by
     rw[List.take_succ_eq_append_getElem hlk,List.map_append,List.append_assoc];rfl
    have hlen:(K++(G.take k).map (Pp.mvd ⟨3,p,q,t,b⟩ n)).length≤200:=by
     rw[List.length_append,List.length_map,List.length_take];omega
    generalize K++(G.take k).map (Pp.mvd ⟨3,p,q,t,b⟩ n)=X at*;clear cc e0 e1 e2 e3 hck hin;cases hbig:Pp.big (Pp.mvT G[k].path.data.toList p.data.toList q.data.toList)with
    |true=>
     rw[hbig,if_pos rfl]at hmE;have HE:=hid hmE;have HX:=hid (show G.any (fun e=>Pp.big (Pp.mvP ⟨3,p,q,t,b⟩ e))=true from List.any_eq_true.2 ⟨G[k],List.getElem_mem hlk,hbig⟩);clear hmE hany hmap hbig;go_wp2_with fail;refine(moved_any G[k].path p q _ (by omega) (by omega) (by omega)).mono ?_
     rintro e w6 ⟨rfl,hb6⟩;rw[HE.out,Pp.ifc_no (by decide)];obtain⟨d0,d1,d2,d3,hb6w,hlt6⟩:=box4 hb6
     have hbel6:=below_trans hbel hb6w;clear hb6 c0 c1 c2 c3 q1 q2 q1a q2a;go_wp2_with fail;go_ret2;exact Or.inl ⟨HX.out,rfl,hbel6⟩
    |false=>
     rw[hbig,if_neg (by decide)]at hmE;have HE:=hid hmE;have HA2:=hid (show(G.take (k+1)).any (fun e=>Pp.big (Pp.mvP ⟨3,p,q,t,b⟩ e))=false from hany.trans hbig);have HMP:=hid hmap;clear hmE hany hmap hbig
     have hcs : ((G[k].path.toList == p.toList) = true ∧ Hid (Pp.cells (Pp.mvd ⟨3, p, q, t, b⟩ n G[k]) = [.string ⟨(Pp.mvT G[k].path.data.toList p.data.toList q.data.toList).toArray⟩, .bool G[k].folder, .string G[k].text, .int .i64 n])) ∨
         ((G[k].path.toList==p.toList)=false∧Hid (Pp.cells (Pp.mvd ⟨3,p,q,t,b⟩ n G[k])=[.string ⟨(Pp.mvT G[k].path.data.toList p.data.toList q.data.toList).toArray⟩,.bool G[k].folder,.string G[k].text,.int .i64 G[k].ver])):=by
      cases he:(G[k].path.toList==p.toList)with
      |true=>
       have he2:G[k].path.data.toList=p.data.toList:=by rw[Lib.toList_data,Lib.toList_data]at he;simpa using he
       refine Or.inl ⟨rfl,(by rw[Pp.cells,Pp.mvd];simp only[he2,if_true,Pp.mvP]:Pp.cells (Pp.mvd ⟨3,p,q,t,b⟩ n G[k])=_)⟩
      |false=>
       have he2: ¬G[k].path.data.toList=p.data.toList:=by rw[Lib.toList_data,Lib.toList_data]at he;simpa using he
       refine Or.inr ⟨rfl,(by rw[Pp.cells,Pp.mvd];simp only[he2,if_false,Pp.mvP]:Pp.cells (Pp.mvd ⟨3,p,q,t,b⟩ n G[k])=_)⟩
     rcases hcs with⟨hpe,HC⟩|⟨hpe,HC⟩
     · go_wp2_with fail
       refine(moved_any G[k].path p q _ (by omega) (by omega) (by omega)).mono ?_
       rintro e w6 ⟨rfl,hb6⟩;rw[HE.out,Pp.ifc_yes rfl];obtain⟨d0,d1,d2,d3,hb6w,hlt6⟩:=box4 hb6
       have f0:=box4f hb6 0;have f3:=box4f hb6 3;have q1':w6.cell? ⟨w.heap.size,1,none⟩=some (.string p):=(hb6w.cell (p:=⟨w.heap.size,1,none⟩) (by show w.heap.size<_;omega)).trans q1;clear hb6 c0 c1 c2 c3 q1 q2 q1a q2a;have hbW: ∀o,Below wr.heap.size wr (((w6.setCell ⟨wr.heap.size,3,none⟩ (.int .i64 n)).setCell ⟨wr.heap.size,0,none⟩ (.string ⟨(Pp.mvT G[k].path.data.toList p.data.toList q.data.toList).toArray⟩)).alloc o):=fun o=>Below.alloc (((hb6w.setCell (p:=⟨wr.heap.size,3,none⟩) (Nat.le_refl _) _).setCell (p:=⟨wr.heap.size,0,none⟩) (Nat.le_refl _) _)) (by first|(simp;omega)|omega) o
       go_wp2_with (at_builtin;refine wpList_append_own_at _ rfl _ _ 22 rfl w.heap.size 27 i0 (.agg #[.string ⟨#[]⟩,.bool false,.string ⟨#[]⟩,.int .i64 0]) 4 48 Tryz.underlying22 hi0 hz0 hz1 hz2 rfl (by decide) _ _ _ rfl (Pp.own_below hown (hbW _)) ⟨w6.heap.size,0,none⟩ 1 1 [.string ⟨(Pp.mvT G[k].path.data.toList p.data.toList q.data.toList).toArray⟩,.bool G[k].folder,.string G[k].text,.int .i64 n] rfl rfl ?c1 ?c2 ?c3 ?c4 ?c5 ?_)
       case c1=>exact new4 _ _ _ _ _ _ _ (by simp)
       case c2=>exact one4 _ _ _ _
       case c3=>unfold maxLen;omega
       case c4=>omega
       case c5=>have:=hbel.size;simp;omega
       intro v2 w2' ho2 hgr2 hnn2 hat2;have hszW:=(hbW (.cells #[.string ⟨(Pp.mvT G[k].path.data.toList p.data.toList q.data.toList).toArray⟩,.bool G[k].folder,.string G[k].text,.int .i64 n] 27)).size;have hbel2:Below w.heap.size w w2':=(hbel.trans ((hbW _).mono hbel.size)).grown hgr2 (by have:=hbel.size;omega) (fun g hg=>Nat.le_of_lt (hub g hg).1);have hG2':w2'.heap[g2]?=w5.heap[g2]?:=((hgr2.block g2 (by omega) (fun e=>(hub g2 e.symm).2 rfl)).trans ((hbW _).block g2 (by omega))).trans hG2;have hGc':w2'.heap[w.heap.size]?=w5.heap[w.heap.size]?:=((hgr2.block w.heap.size (by have:=hbel.size;omega) (fun e=>Nat.lt_irrefl _ (hub _ e.symm).1)).trans ((hbW _).block w.heap.size (by omega))).trans hGc;have hsz':w5.heap.size≤w2'.heap.size:=Nat.le_trans hsz (Nat.le_trans hszW hgr2.size)
       have hub': ∀g,v2.ownBlock=some g→w.heap.size<g∧g≠g2:=fun g hg=>by
        rcases hat2 with h|h
        · exact hub g (h.symm.trans hg)
        · rw[h]at hg
          have e:=Option.some.inj hg;constructor<;>omega
       rw[←HC.out,Pp.flat_snoc]at ho2;have HO:Hid (w2'.ownsRow w.heap.size 27 4 v2 (X.length+1) (Pp.flat (X++[Pp.mvd ⟨3,p,q,t,b⟩ n G[k]]))):=ho2;clear ho2 hgr2 hnn2 hat2 hown hub hG2 hGc hsz hbW hszW hbel d0 d1 d2 d3 f0 f3 q1' hb6w;go_wp2_with fail;go_roundw
       case rel=>exact⟨k+1,by omega,by simp,HA2,by rw[HMP.out,List.length_append];exact HO.out,hub',hG2',hGc',hsz',hbel2⟩
       case measure=>simp[intOf];omega
     · go_wp2_with fail
       refine(moved_any G[k].path p q _ (by omega) (by omega) (by omega)).mono ?_
       rintro e w6 ⟨rfl,hb6⟩;rw[HE.out,Pp.ifc_yes rfl];obtain⟨d0,d1,d2,d3,hb6w,hlt6⟩:=box4 hb6
       have f0:=box4f hb6 0;have f3:=box4f hb6 3;have q1':w6.cell? ⟨w.heap.size,1,none⟩=some (.string p):=(hb6w.cell (p:=⟨w.heap.size,1,none⟩) (by show w.heap.size<_;omega)).trans q1;clear hb6 c0 c1 c2 c3 q1 q2 q1a q2a;have hbW: ∀o,Below wr.heap.size wr ((w6.setCell ⟨wr.heap.size,0,none⟩ (.string ⟨(Pp.mvT G[k].path.data.toList p.data.toList q.data.toList).toArray⟩)).alloc o):=fun o=>Below.alloc ((hb6w.setCell (p:=⟨wr.heap.size,0,none⟩) (Nat.le_refl _) _)) (by first|(simp;omega)|omega) o
       go_wp2_with (at_builtin;refine wpList_append_own_at _ rfl _ _ 22 rfl w.heap.size 27 i0 (.agg #[.string ⟨#[]⟩,.bool false,.string ⟨#[]⟩,.int .i64 0]) 4 48 Tryz.underlying22 hi0 hz0 hz1 hz2 rfl (by decide) _ _ _ rfl (Pp.own_below hown (hbW _)) ⟨w6.heap.size,0,none⟩ 1 1 [.string ⟨(Pp.mvT G[k].path.data.toList p.data.toList q.data.toList).toArray⟩,.bool G[k].folder,.string G[k].text,.int .i64 G[k].ver] rfl rfl ?c1 ?c2 ?c3 ?c4 ?c5 ?_)
       case c1=>exact new4 _ _ _ _ _ _ _ (by simp)
       case c2=>exact one4 _ _ _ _
       case c3=>unfold maxLen;omega
       case c4=>omega
       case c5=>have:=hbel.size;simp;omega
       intro v2 w2' ho2 hgr2 hnn2 hat2;have hszW:=(hbW (.cells #[.string ⟨(Pp.mvT G[k].path.data.toList p.data.toList q.data.toList).toArray⟩,.bool G[k].folder,.string G[k].text,.int .i64 G[k].ver] 27)).size;have hbel2:Below w.heap.size w w2':=(hbel.trans ((hbW _).mono hbel.size)).grown hgr2 (by have:=hbel.size;omega) (fun g hg=>Nat.le_of_lt (hub g hg).1);have hG2':w2'.heap[g2]?=w5.heap[g2]?:=((hgr2.block g2 (by omega) (fun e=>(hub g2 e.symm).2 rfl)).trans ((hbW _).block g2 (by omega))).trans hG2;have hGc':w2'.heap[w.heap.size]?=w5.heap[w.heap.size]?:=((hgr2.block w.heap.size (by have:=hbel.size;omega) (fun e=>Nat.lt_irrefl _ (hub _ e.symm).1)).trans ((hbW _).block w.heap.size (by omega))).trans hGc;have hsz':w5.heap.size≤w2'.heap.size:=Nat.le_trans hsz (Nat.le_trans hszW hgr2.size)
       have hub': ∀g,v2.ownBlock=some g→w.heap.size<g∧g≠g2:=fun g hg=>by
        rcases hat2 with h|h
        · exact hub g (h.symm.trans hg)
        · rw[h]at hg
          have e:=Option.some.inj hg;constructor<;>omega
       rw[←HC.out,Pp.flat_snoc]at ho2;have HO:Hid (w2'.ownsRow w.heap.size 27 4 v2 (X.length+1) (Pp.flat (X++[Pp.mvd ⟨3,p,q,t,b⟩ n G[k]]))):=ho2;clear ho2 hgr2 hnn2 hat2 hown hub hG2 hGc hsz hbW hszW hbel d0 d1 d2 d3 f0 f3 q1' hb6w;go_wp2_with fail;go_roundw
       case rel=>exact⟨k+1,by omega,by simp,HA2,by rw[HMP.out,List.length_append];exact HO.out,hub',hG2',hGc',hsz',hbel2⟩
       case measure=>simp[intOf];omega
  · have ek:G.take k=G:=List.take_of_length_le (by omega)
    rw[ek]at hown HA
    have hne:K++G.map (Pp.mvd ⟨3,p,q,t,b⟩ n)≠[]:=by
     intro e;rw[List.append_eq_nil_iff]at e;exact hg0 (List.map_eq_nil_iff.1 e.2)
    obtain⟨g,cap,rfl,hg1,hg1',hc1,hc1'⟩:=Pp.own_shape hown hne
    have hlen:(K++G.map (Pp.mvd ⟨3,p,q,t,b⟩ n)).length≤200:=by
     rw[List.length_append,List.length_map];omega
    have HO:=hid hown;have HD0:=hid HD.out;generalize hXX:K++G.map (Pp.mvd ⟨3,p,q,t,b⟩ n)=X at HO hne hlen hc1;have HX:Hid (X=K++G.map (Pp.mvd ⟨3,p,q,t,b⟩ n)):=hXX.symm;try rw[hXX]at hown
    try rw[hXX]
    clear hXX;clear hown hub hG2 hGc hsz cc q1 q2 q1a q2a ek;go_wp2_with fail;refine(sortPaths_any X w.heap.size g cap _ HO.out (by omega) hc1 hg1 hg1').mono ?_
    rintro e w6 ⟨rfl,M,hpm,hsrt,hli,hb6⟩;have HMM:Hid (LiesF w.heap.size w6 (.slice (some ⟨g,0,none⟩) X.length cap) M):=hli;have HPM:=hid hpm;have HSRT:=hid hsrt;clear hpm hsrt hli;go_wp2;go_ret2;exact Or.inr ⟨HA.out,_,rfl,by rw[←Pp.sort_all (HX.out▸HPM.out) HSRT.out HR.out HD0.out];exact HMM.out,hbel.trans hb6⟩
end Go.Proofs.YtagibnejodgeeaaGreatDoor
namespace Go.Proofs.YtagibnejodgeeaaGreatDoor
namespace Pp
def ifz (e:Int) (L:List En):List En:=if e=0 then L else[]
theorem ifz_yes {e:Int} (h:e=0) (L:List En):ifz e L=L:=if_pos h
theorem ifz_no {e:Int} (h: ¬e=0) (L:List En):ifz e L=[]:=if_neg h
end Pp
end Go.Proofs.YtagibnejodgeeaaGreatDoor
namespace Go.Proofs.YtagibnejodgeeaaGreatDoor
open Go.RowKit

namespace Pp
theorem bytes0 {t:ByteArray} (h:t.data.toList=[]):t=⟨#[]⟩:=bytes_eq h
end Pp

set_option maxHeartbeats 1000000 in
theorem changed_own (L:List En) (v:Value) (k:Int) (p q t:ByteArray) (b n:Int) (w:World) (hv:Lies w v L) (hs:Sized L) (hp:p.size≤150000000000000) (hq:q.size≤150000000000000) (hL:Pp.Good L) (hc:Pp.chgE ⟨k,p,q,t,b⟩=0) (hpl:Pp.plcE L ⟨k,p,q,t,b⟩=0):
    Calls Tryz.prog 56 #[v,.agg #[.int .i64 k,.string p,.string q,.string t,.int .i64 b],.int .i64 n] w fun e w'=> ∃u,e= .returned (.tuple #[u,.int .i64 (Pp.chdE L ⟨k,p,q,t,b⟩ n)])∧LiesF w.heap.size w' u (Pp.ifz (Pp.chdE L ⟨k,p,q,t,b⟩ n) (Pp.chdR L ⟨k,p,q,t,b⟩ n))∧Below w.heap.size w w':=by
 have hrest:=Pp.chg_rest hc;have HV:Hid (Lies w v L):=hv;have HS:Hid (Sized L):=hs;have HL:Hid (Pp.Good L):=hL;rcases Pp.plc_rest hpl (Pp.chg_kind hc)with⟨hk,h⟩|⟨hk,h⟩|⟨hk,⟨x,hx⟩,h1,h2⟩|⟨hk,x,hx⟩
 · have hk:k=1:=hk
   subst hk;have ht:t=⟨#[]⟩:=Pp.bytes0 (hrest.2.1.resolve_left (by simp));subst ht;clear hrest h hpl hc hL hs hv;have HE:=hid (show Pp.chdE L ⟨1,p,q,⟨#[]⟩,b⟩ n=if 60<(Pp.out (made 1 p ⟨#[]⟩ n) L).length+1 then 2 else 0 from rfl);have HR:=hid (show Pp.chdR L ⟨1,p,q,⟨#[]⟩,b⟩ n=Pp.ins (made 1 p ⟨#[]⟩ n) (Pp.out (made 1 p ⟨#[]⟩ n) L)from rfl);go_enter Tryz.func56,Tryz.ntmps56
   go_wp2_with fail;refine(put_own L v (made 1 p ⟨#[]⟩ n) _ (HV.out.below ((Below.refl _ _).alloc (Nat.le_refl _) _)) HL.out.len HS.out (by simp only[made];omega) HL.out.rise).mono ?_
   rintro e w1 (⟨h,rfl,hb1⟩|⟨h,u,rfl,hli,hb1⟩)
   · obtain⟨c0,c1,c2,c3,c4,hbw,hlt⟩:=bx5 hb1
     have HH:=hid h;clear h hb1 c0 c1 c2 c3 c4;go_wp2;go_ret2;refine⟨_,by rw[HE.out,if_pos HH.out];rfl,?_,hbw⟩
     rw[Pp.ifz_no (by rw[HE.out,if_pos HH.out];decide)];exact liesF_nil _ _
   · obtain⟨c0,c1,c2,c3,c4,hbw,hlt⟩:=bx5 hb1
     have HLI:=hid hli;have HH:=hid h;clear h hb1 hli c0 c1 c2 c3 c4;go_wp2;go_ret2;refine⟨_,by rw[HE.out,if_neg HH.out];rfl,?_,hbw⟩
     rw[Pp.ifz_yes (by rw[HE.out,if_neg HH.out]),HR.out];exact HLI.out.mono (by first|exact Nat.le_of_lt hlt|(simp;done)|omega|exact Nat.le_refl _)
 · have hk:k=2:=hk
   subst hk;clear hrest h hpl hc hL hs hv;have HE:=hid (show Pp.chdE L ⟨2,p,q,t,b⟩ n=if 60<(Pp.out (made 2 p t n) L).length+1 then 2 else 0 from rfl);have HR:=hid (show Pp.chdR L ⟨2,p,q,t,b⟩ n=Pp.ins (made 2 p t n) (Pp.out (made 2 p t n) L)from rfl);go_enter Tryz.func56,Tryz.ntmps56
   go_wp2_with fail;refine(put_own L v (made 2 p t n) _ (HV.out.below ((Below.refl _ _).alloc (Nat.le_refl _) _)) HL.out.len HS.out (by simp only[made];omega) HL.out.rise).mono ?_
   rintro e w1 (⟨h,rfl,hb1⟩|⟨h,u,rfl,hli,hb1⟩)
   · obtain⟨c0,c1,c2,c3,c4,hbw,hlt⟩:=bx5 hb1
     have HH:=hid h;clear h hb1 c0 c1 c2 c3 c4;go_wp2;go_ret2;refine⟨_,by rw[HE.out,if_pos HH.out];rfl,?_,hbw⟩
     rw[Pp.ifz_no (by rw[HE.out,if_pos HH.out];decide)];exact liesF_nil _ _
   · obtain⟨c0,c1,c2,c3,c4,hbw,hlt⟩:=bx5 hb1
     have HLI:=hid hli;have HH:=hid h;clear h hb1 hli c0 c1 c2 c3 c4;go_wp2;go_ret2;refine⟨_,by rw[HE.out,if_neg HH.out];rfl,?_,hbw⟩
     rw[Pp.ifz_yes (by rw[HE.out,if_neg HH.out]),HR.out];exact HLI.out.mono (by first|exact Nat.le_of_lt hlt|(simp;done)|omega|exact Nat.le_refl _)
 · have hk:k=3:=hk
   subst hk;have HE:=hid (show Pp.chdE L ⟨3,p,q,t,b⟩ n=if(Pp.goL L ⟨3,p,q,t,b⟩).any (fun e=>Pp.big (Pp.mvP ⟨3,p,q,t,b⟩ e))=true then 2 else 0 from rfl);have HR:=hid (show Pp.chdR L ⟨3,p,q,t,b⟩ n=Pp.insAll (Pp.mvL L ⟨3,p,q,t,b⟩ n) (Pp.keptL L ⟨3,p,q,t,b⟩)from rfl);have HC:=hid hc;have HX:=hid hx;have H2:=hid h2;clear hrest hpl hc hL hs hv hx h1 h2;go_enter Tryz.func56,Tryz.ntmps56
   go_wp2_with fail;refine(move_own L v p q t b n _ (HV.out.below ((Below.refl _ _).alloc (Nat.le_refl _) _)) HS.out hp hq HL.out HC.out H2.out x HX.out).mono ?_
   rintro e w1 (⟨h,rfl,hb1⟩|⟨h,u,rfl,hli,hb1⟩)
   · obtain⟨c0,c1,c2,c3,c4,hbw,hlt⟩:=bx5 hb1
     have HH:=hid h;clear h hb1 c0 c1 c2 c3 c4;go_wp2;go_ret2;refine⟨_,by rw[HE.out,if_pos HH.out];rfl,?_,hbw⟩
     rw[Pp.ifz_no (by rw[HE.out,if_pos HH.out];decide)];exact liesF_nil _ _
   · obtain⟨c0,c1,c2,c3,c4,hbw,hlt⟩:=bx5 hb1
     have HLI:=hid hli;have HH:=hid h;clear h hb1 hli c0 c1 c2 c3 c4;go_wp2;go_ret2;refine⟨_,by rw[HE.out,if_neg (by rw[HH.out];decide)];rfl,?_,hbw⟩
     rw[Pp.ifz_yes (by rw[HE.out,if_neg (by rw[HH.out];decide)]),HR.out];exact HLI.out.mono (by first|exact Nat.le_of_lt hlt|(simp;done)|omega|exact Nat.le_refl _)
 · have hk:k=4:=hk
   subst hk;have hcp:=Pp.chg_path hc;have HK:=hid (show L.filter (fun e=> !Pp.inB p.data.toList e)=Pp.keptL L ⟨4,p,q,t,b⟩from Pp.filter_eq fun e he=>by rw[Pp.inB_wi (Pp.entE_path (hL.ents e he)) hcp]);have HKL:=hid (show(Pp.keptL L ⟨4,p,q,t,b⟩).length≤L.length from List.length_filter_le _ _);clear hrest hpl hc hL hs hv hx hcp;go_enter Tryz.func56,Tryz.ntmps56
   go_wp2_with fail;refine(twithin_any p _ (by omega)).mono ?_
   rintro e w1 ⟨rfl,ht1,hb1⟩;obtain⟨c0,c1,c2,c3,c4,hbw,hlt⟩:=bx5 hb1
   have HT1:=hid (show Tells w1 95 #[.pointer (some ⟨w.heap.size+1,0,none⟩)] (Pp.inB p.data.toList)from by simpa using ht1);clear ht1;go_wp2_with fail;refine(not_any _ _ (Pp.inB p.data.toList) _ HT1.out).mono ?_
   rintro e w2 ⟨rfl,ht2,hb2⟩;have HT2:=hid ht2;have hb02:=hb1.trans (hb2.mono hb1.size);clear ht2 c0 c1 c2 c3 c4 hbw hlt hb1 hb2;obtain⟨c0,c1,c2,c3,c4,hbw,hlt⟩:=bx5 hb02
   go_wp2_with fail;refine(every_any L v _ _ (fun e=> !Pp.inB p.data.toList e) _ (HV.out.below hbw) HT2.out (Nat.le_trans HL.out.len (by decide)) HS.out).mono ?_
   rintro e w3 ⟨u1,rfl,ho1,hn1,hb3⟩;rw[HK.out]at ho1;have HLI:=hid (lies_ownF ho1 (by have:=HKL.out;have:=HL.out.len;omega));have hltF:=hlt;have hb03:=hbw.trans (hb3.mono (Nat.le_of_lt hlt));clear c0 c1 c2 c3 c4 hbw hlt hb02 hb3 ho1 hn1;go_wp2;go_ret2;exact⟨_,rfl,HLI.out.mono (Nat.le_of_lt hltF),hb03⟩
namespace Pp
def appR (L:List En) (c:Ch) (n:Int):List En:=ifz (appE L c n) (chdR L c n)
theorem app_ver {L:List En} {c:Ch} {n:Int} (h: ¬verE n=0):appE L c n=verE n:=by rw[appE,if_pos h]
theorem app_chg {L:List En} {c:Ch} {n:Int} (h:verE n=0) (h1: ¬chgE c=0):appE L c n=chgE c:=by rw[appE,if_neg (fun x=>x h),if_pos h1]
theorem app_plc {L:List En} {c:Ch} {n:Int} (h:verE n=0) (h1:chgE c=0) (h2: ¬plcE L c=0):appE L c n=plcE L c:=by rw[appE,if_neg (fun x=>x h),if_neg (fun x=>x h1),if_pos h2]
theorem app_stl {L:List En} {c:Ch} {n:Int} (h:verE n=0) (h1:chgE c=0) (h2:plcE L c=0) (h3:stl L c=true):appE L c n=8:=by rw[appE,if_neg (fun x=>x h),if_neg (fun x=>x h1),if_neg (fun x=>x h2),if_pos h3]
theorem app_chd {L:List En} {c:Ch} {n:Int} (h:verE n=0) (h1:chgE c=0) (h2:plcE L c=0) (h3:stl L c=false):appE L c n=chdE L c n:=by rw[appE,if_neg (fun x=>x h),if_neg (fun x=>x h1),if_neg (fun x=>x h2),if_neg (by rw[h3];decide)]
theorem appR_no {L:List En} {c:Ch} {n:Int} {e:Int} (h:appE L c n=e) (he: ¬e=0):appR L c n=[]:=by rw[appR,h,ifz_no he]
end Pp

set_option maxHeartbeats 1000000 in
theorem apply_own (L:List En) (v:Value) (k:Int) (p q t:ByteArray) (b n:Int) (w:World) (hv:Lies w v L) (hs:Sized L) (hp:p.size≤150000000000000) (hq:q.size≤150000000000000) (ht:t.size≤150000000000000) (hL:Pp.Good L):
    Calls Tryz.prog 22 #[v,.agg #[.int .i64 k,.string p,.string q,.string t,.int .i64 b],.int .i64 n] w fun e w'=> ∃u,e= .returned (.tuple #[u,.int .i64 (Pp.appE L ⟨k,p,q,t,b⟩ n)])∧LiesF w.heap.size w' u (Pp.appR L ⟨k,p,q,t,b⟩ n)∧Below w.heap.size w w':=by
 have HV:Hid (Lies w v L):=hv;have HS:Hid (Sized L):=hs;have HL:Hid (Pp.Good L):=hL;clear hv hs hL;by_cases hver:Pp.verE n=0
 · have HVE:=hid hver
   by_cases hchg:Pp.chgE ⟨k,p,q,t,b⟩=0
   · have HCH:=hid hchg
     by_cases hplc:Pp.plcE L ⟨k,p,q,t,b⟩=0
     · have HPL:=hid hplc
       cases hst:Pp.stl L ⟨k,p,q,t,b⟩with
       |true=>
        have hE:=Pp.app_stl hver hchg hplc hst;have HR:=hid (Pp.appR_no hE (by decide));have HE:=hid hE;have HST:=hid hst;clear hE hst hplc hchg hver;go_enter Tryz.func22,Tryz.ntmps22
        go_wp2_with fail;refine(checkVersion_any n _).mono ?_
        rintro e w1 ⟨rfl,rfl⟩;rw[HVE.out];go_wp2_with fail;refine(checkChange_any k p q t b _ (by omega) (by omega) (by omega)).mono ?_
        rintro e w2 ⟨rfl,hb2⟩;rw[HCH.out];obtain⟨c0,c1,c2,c3,c4,hbw,hlt⟩:=bx5 hb2
        go_wp2_with fail;refine(checkPlace_any L v k p q t b _ (HV.out.below hbw) (fun e he=>(HS.out e he).1) (by omega) (by omega) HCH.out).mono ?_
        rintro e w3 ⟨rfl,hb3⟩;rw[HPL.out];have hb03:=hb2.trans (hb3.mono hb2.size);clear c0 c1 c2 c3 c4 hbw hlt hb2 hb3;obtain⟨c0,c1,c2,c3,c4,hbw,hlt⟩:=bx5 hb03
        go_wp2_with fail;refine(isStale_any L v k p q t b _ (HV.out.below hbw) HS.out (by omega) (fun e he=>Pp.entE_path (HL.out.ents e he)) (Pp.chg_path HCH.out)).mono ?_
        rintro e w4 ⟨rfl,hb4⟩;rw[HST.out];have hb04:=hb03.trans (hb4.mono hb03.size);clear c0 c1 c2 c3 c4 hbw hlt hb03 hb4;obtain⟨c0,c1,c2,c3,c4,hbw,hlt⟩:=bx5 hb04
        clear hb04;go_wp2;go_ret2;exact⟨_,by rw[HE.out];rfl,by rw[HR.out];exact liesF_nil _ _,hbw⟩
       |false=>
        have hE:=Pp.app_chd hver hchg hplc hst;have HE:=hid hE;have HR:=hid (show Pp.appR L ⟨k,p,q,t,b⟩ n=Pp.ifz (Pp.chdE L ⟨k,p,q,t,b⟩ n) (Pp.chdR L ⟨k,p,q,t,b⟩ n)from by rw[Pp.appR,hE]);have HST:=hid hst;clear hE hst hplc hchg hver;go_enter Tryz.func22,Tryz.ntmps22
        go_wp2_with fail;refine(checkVersion_any n _).mono ?_
        rintro e w1 ⟨rfl,rfl⟩;rw[HVE.out];go_wp2_with fail;refine(checkChange_any k p q t b _ (by omega) (by omega) (by omega)).mono ?_
        rintro e w2 ⟨rfl,hb2⟩;rw[HCH.out];obtain⟨c0,c1,c2,c3,c4,hbw,hlt⟩:=bx5 hb2
        go_wp2_with fail;refine(checkPlace_any L v k p q t b _ (HV.out.below hbw) (fun e he=>(HS.out e he).1) (by omega) (by omega) HCH.out).mono ?_
        rintro e w3 ⟨rfl,hb3⟩;rw[HPL.out];have hb03:=hb2.trans (hb3.mono hb2.size);clear c0 c1 c2 c3 c4 hbw hlt hb2 hb3;obtain⟨c0,c1,c2,c3,c4,hbw,hlt⟩:=bx5 hb03
        go_wp2_with fail;refine(isStale_any L v k p q t b _ (HV.out.below hbw) HS.out (by omega) (fun e he=>Pp.entE_path (HL.out.ents e he)) (Pp.chg_path HCH.out)).mono ?_
        rintro e w4 ⟨rfl,hb4⟩;rw[HST.out];have hb04:=hb03.trans (hb4.mono hb03.size);clear c0 c1 c2 c3 c4 hbw hlt hb03 hb4;obtain⟨c0,c1,c2,c3,c4,hbw,hlt⟩:=bx5 hb04
        go_wp2_with fail;refine(changed_own L v k p q t b n _ (HV.out.below hbw) HS.out hp hq HL.out HCH.out HPL.out).mono ?_
        rintro e w5 ⟨u,rfl,hli,hb5⟩;have HLI:=hid (hli.mono (Nat.le_of_lt hlt));have hb05:=hbw.trans (hb5.mono (Nat.le_of_lt hlt));clear c0 c1 c2 c3 c4 hbw hlt hb04 hb5 hli;go_wp2;go_ret2;exact⟨_,by rw[HE.out];rfl,by rw[HR.out];exact HLI.out.mono (by first|exact Nat.le_of_lt hlt|(simp;done)|omega|exact Nat.le_refl _),hb05⟩
     · have hE:=Pp.app_plc hver hchg hplc
       have HR:=hid (Pp.appR_no hE hplc);have HE:=hid hE;have hz:(Pp.plcE L ⟨k,p,q,t,b⟩==0)=false:=by simpa using hplc
       clear hE hchg hver;go_enter Tryz.func22,Tryz.ntmps22
       go_wp2_with fail;refine(checkVersion_any n _).mono ?_
       rintro e w1 ⟨rfl,rfl⟩;rw[HVE.out];go_wp2_with fail;refine(checkChange_any k p q t b _ (by omega) (by omega) (by omega)).mono ?_
       rintro e w2 ⟨rfl,hb2⟩;rw[HCH.out];obtain⟨c0,c1,c2,c3,c4,hbw,hlt⟩:=bx5 hb2
       go_wp2_with fail;refine(checkPlace_any L v k p q t b _ (HV.out.below hbw) (fun e he=>(HS.out e he).1) (by omega) (by omega) HCH.out).mono ?_
       rintro e w3 ⟨rfl,hb3⟩;have hb03:=hb2.trans (hb3.mono hb2.size);clear c0 c1 c2 c3 c4 hbw hlt hb2 hb3;obtain⟨c0,c1,c2,c3,c4,hbw,hlt⟩:=bx5 hb03
       clear hb03;go_wp2;go_ret2;exact⟨_,by rw[HE.out];rfl,by rw[HR.out];exact liesF_nil _ _,hbw⟩
   · have hE:=Pp.app_chg (L:=L) hver hchg
     have HR:=hid (Pp.appR_no hE hchg);have HE:=hid hE;have hz:(Pp.chgE ⟨k,p,q,t,b⟩==0)=false:=by simpa using hchg
     clear hE hver;go_enter Tryz.func22,Tryz.ntmps22
     go_wp2_with fail;refine(checkVersion_any n _).mono ?_
     rintro e w1 ⟨rfl,rfl⟩;rw[HVE.out];go_wp2_with fail;refine(checkChange_any k p q t b _ (by omega) (by omega) (by omega)).mono ?_
     rintro e w2 ⟨rfl,hb2⟩;obtain⟨c0,c1,c2,c3,c4,hbw,hlt⟩:=bx5 hb2
     clear hb2;go_wp2;go_ret2;exact⟨_,by rw[HE.out];rfl,by rw[HR.out];exact liesF_nil _ _,hbw⟩
 · have hE:=Pp.app_ver (L:=L) (c:=⟨k,p,q,t,b⟩) hver
   have HR:=hid (Pp.appR_no hE hver);have HE:=hid hE;have hz:(Pp.verE n==0)=false:=by simpa using hver
   clear hE;go_enter Tryz.func22,Tryz.ntmps22
   go_wp2_with fail;refine(checkVersion_any n _).mono ?_
   rintro e w1 ⟨rfl,rfl⟩;go_wp2;go_ret2;exact⟨_,by rw[HE.out];rfl,by rw[HR.out];exact liesF_nil _ _,(Below.refl _ _).alloc (Nat.le_refl _) _⟩
namespace Pp
/-- Apply: what is wrong with the tree is told first. -/
def tapE (L:List En) (c:Ch) (n:Int):Int:=if treeE L=0 then appE L c n else treeE L
def tapR (L:List En) (c:Ch) (n:Int):List En:=ifz (tapE L c n) (chdR L c n)
theorem tapE_yes {L:List En} {c:Ch} {n:Int} (h:treeE L=0):tapE L c n=appE L c n:=if_pos h
theorem tapE_no {L:List En} {c:Ch} {n:Int} (h: ¬treeE L=0):tapE L c n=treeE L:=if_neg h
theorem tapR_yes {L:List En} {c:Ch} {n:Int} (h:treeE L=0):tapR L c n=appR L c n:=by rw[tapR,appR,tapE_yes h]
theorem tapR_no {L:List En} {c:Ch} {n:Int} (h: ¬treeE L=0):tapR L c n=[]:=by rw[tapR,tapE_no h,ifz_no h]
end Pp
end Go.Proofs.YtagibnejodgeeaaGreatDoor
namespace Go.Proofs.YtagibnejodgeeaaGreatDoor
open Go.RowKit

namespace Pp
theorem flat_one (L:List En): ∀u∈flat L,u.oneCell'=true:=by
 intro u hu;obtain⟨s,_,hs⟩:=List.mem_flatMap.1 hu
 exact cells_one s u hs
end Pp
theorem lies_cells {w:World} {b o:Nat} {L:List En} (h: ∀i (h:i<L.length),EnAt w b (o+i*4) L[i]): ∀j u,(Pp.flat L)[j]?=some u→w.cell? ((⟨b,o,none⟩:Addr).add j)=some u:=by
 intro j u hj
 have hjl:j<L.length*4:=by
  have:=(List.getElem?_eq_some_iff.1 hj).1
  rw[Pp.flat_len]at this;exact this
 have h1:j/4<L.length:=by omega
 have h2:j/4*4+j % 4=j:=by omega
 have h3:=Pp.flat_get L (j/4) (j % 4) h1 (by omega);rw[h2]at h3;rw[h3]at hj;obtain⟨e0,e1,e2,e3⟩:=h _ h1
 have ha:(⟨b,o,none⟩:Addr).add j=⟨b,o+j/4*4+j % 4,none⟩:=by
  rw[Addr.add_lit,Nat.add_assoc,h2]
 rw[ha];have h4:j % 4<4:=by omega
 generalize j % 4=c at*;match c,h4,hj with
 |0,_,hj=>simp[Pp.cells]at hj;subst hj;exact e0
 |1,_,hj=>simp[Pp.cells]at hj;subst hj;exact e1
 |2,_,hj=>simp[Pp.cells]at hj;subst hj;exact e2
 |3,_,hj=>simp[Pp.cells]at hj;subst hj;exact e3
set_option maxHeartbeats 1000000 in
theorem eclone_own (L:List En) (v:Value) (w:World) (hv:Lies w v L) (hn:L.length≤1000):
    Calls Tryz.prog 28 #[v] w fun e w'=> ∃u,e= .returned u∧LiesF w.heap.size w' u L∧Below w.heap.size w w':=by
 obtain⟨i0,hi0,hz0,hz1,hz2⟩:=info_parts Tryz.infoE
 obtain⟨a,cap,rfl,hcap,hcap2,hLL⟩:=hv
 have q22: ∀(w:World) (a:Option Addr) (n c n' c':Nat),(binOp .eql 22 (.slice a n c) (.slice none n' c')).run Tryz.prog w= .ok (.bool a.isNone) w:=fun w a n c n' c'=>Lib.run_eql_slice_nil w _ _ a n c n' c' Tryz.underlying22
 cases a with
 |none=>
  have hL:L=[]:=by
   cases L with
   |nil=>rfl
   |cons s r=>obtain⟨b,o,hb,_⟩:=hLL 0 (by simp);cases hb
  subst hL;go_enter Tryz.func28,Tryz.ntmps28
  go_wp2;go_ret;exact⟨_,rfl,liesF_nil _ _,Below.refl _ _⟩
 |some ad=>
  have hcells: ∀j u,(Pp.flat L)[j]?=some u→w.cell? (ad.add j)=some u:=by
   cases L with
   |nil=>intro j u hj;simp[Pp.flat]at hj
   |cons s r=>
    obtain⟨b,o,hb,_⟩:=hLL 0 (by simp)
    injection hb with hb
    subst hb
    exact lies_cells fun i hi=>by
     obtain⟨b',o',hb',_,he⟩:=hLL i hi
     injection hb' with hb'
     injection hb' with h1 h2
     subst h1;subst h2;exact he
  have HC:=hid hcells;have HFL:=hid (Pp.flat_len L);clear hcells hLL;go_enter Tryz.func28,Tryz.ntmps28
  go_wp2_with (at_builtin;refine wpList_append_own _ rfl _ _ 22 rfl w.heap.size 27 i0 (.agg #[.string ⟨#[]⟩,.bool false,.string ⟨#[]⟩,.int .i64 0]) 4 48 Tryz.underlying22 hi0 hz0 hz1 hz2 rfl (by decide) _ _ _ rfl (World.ownsRow_made w #[] 0 (Nat.le_refl _) (Nat.zero_le _) (by simp)) ad L.length cap (Pp.flat L) rfl ?qc1 ?qc2 ?qc3 ?qc4 ?qc5 ?qc6 ?_)
  case qc1=>exact HFL.out
  case qc2=>intro j u hj;exact Lib.cell?_alloc_some _ (HC.out j u hj)
  case qc3=>exact Pp.flat_one L
  case qc4=>unfold maxLen;omega
  case qc5=>omega
  case qc6=>simp
  intro v2 w2 ho2 hgr2 hnn2;have hbel2:Below w.heap.size w w2:=((Below.refl _ _).alloc (Nat.le_refl _) _).grown hgr2 (by simp) (fun k hk=>by simp[Value.ownBlock]at hk;omega);have ho3:w2.ownsRow w.heap.size 27 4 v2 L.length (Pp.flat L):=by simpa using ho2
  have HCL:=hid (show LiesF w.heap.size w2 v2 L from lies_ownF ho3 (by omega));obtain⟨⟨a2,cap2,hv2,_,_,_⟩,_⟩:=HCL.out
  clear ho2 ho3 hgr2 hnn2;go_wp2_with fail;go_ret;exact⟨_,rfl,HCL.out,hbel2⟩
end Go.Proofs.YtagibnejodgeeaaGreatDoor
namespace Go.Proofs.YtagibnejodgeeaaGreatDoor
open Go.RowKit

namespace Pp
/-- Change by change: how many were made, the error, and what came. -/
def runF (n:Int):List En→List Ch→Nat×Int×List En
 |T,[]=>(0,0,T)
 |T,c::r=>if appE T c n=0 then((runF n (chdR T c n) r).1+1,(runF n (chdR T c n) r).2)else(0,appE T c n,[])
/-- What is left to do behind the first changes. -/
def Left (n:Int) (L:List En) (cs:List Ch) (S:List En) (k:Nat):Prop:=runF n L cs=((runF n S (cs.drop k)).1+k,(runF n S (cs.drop k)).2)
theorem left_zero (n:Int) (L:List En) (cs:List Ch):Left n L cs L 0:=rfl
theorem left_next {n:Int} {L:List En} {cs:List Ch} {S:List En} {k:Nat} (h:Left n L cs S k) (hk:k<cs.length) (h0:appE S cs[k] n=0):Left n L cs (chdR S cs[k] n) (k+1):=by
 rw[Left]at h⊢;rw[List.drop_eq_getElem_cons hk,runF,if_pos h0]at h;rw[h];simp only[Prod.mk.injEq,and_true];omega
theorem left_stop {n:Int} {L:List En} {cs:List Ch} {S:List En} {k:Nat} (h:Left n L cs S k) (hk:k<cs.length) (h0: ¬appE S cs[k] n=0):runF n L cs=(k,appE S cs[k] n,[]):=by
 rw[Left,List.drop_eq_getElem_cons hk,runF,if_neg h0]at h;rw[h];simp
theorem left_end {n:Int} {L:List En} {cs:List Ch} {S:List En} (h:Left n L cs S cs.length):runF n L cs=(cs.length,0,S):=by
 rw[Left,List.drop_length,runF]at h;rw[h];simp
def Runs (n:Int) (L:List En) (cs:List Ch) (S:List En):Prop:=(runF n L cs).2=(0,S)
theorem runs_nil (n:Int) (L:List En):Runs n L [] L:=rfl
theorem runs_snoc {n:Int} {c:Ch} {S:List En} (h:appE S c n=0): ∀{cs:List Ch} {L:List En},Runs n L cs S→Runs n L (cs++[c]) (chdR S c n)
 |[],L,hr=>by
  have e:L=S:=congrArg Prod.snd (show(0,L)=((0:Int),S)from hr);subst e;show(runF n L [c]).2=_
  rw[runF,if_pos h];rfl
 |d::r,L,hr=>by
  rw[Runs,runF]at hr;by_cases hd:appE L d n=0
  · rw[if_pos hd]at hr
    have:=runs_snoc h (cs:=r) (L:=chdR L d n) hr
    show(runF n L (d::(r++[c]))).2=_
    rw[runF,if_pos hd];exact this
  · rw[if_neg hd]at hr
    exact absurd (congrArg Prod.fst hr) hd
end Pp
end Go.Proofs.YtagibnejodgeeaaGreatDoor
namespace Go.Proofs.YtagibnejodgeeaaGreatDoor
open Go.RowKit

namespace Pp
def allR (L:List En) (cs:List Ch) (n:Int):List En:=if¬treeE L=0 then[]else if 20<cs.length then[]else(runF n L cs).2.2
end Pp

end Go.Proofs.YtagibnejodgeeaaGreatDoor
namespace Go.Proofs.YtagibnejodgeeaaGreatDoor
open Go.RowKit

namespace Pp
def patE (L:List En) (cs:List Ch) (n:Int):Int:=if¬treeE L=0 then treeE L else if 120<cs.length then 2 else(runF n L cs).2.1
def patR (L:List En) (cs:List Ch) (n:Int):List En:=if¬treeE L=0 then[]else if 120<cs.length then[]else(runF n L cs).2.2
theorem pat_no {L:List En} (h: ¬treeE L=0) (cs:List Ch) (n:Int):patE L cs n=treeE L∧patR L cs n=[]:=⟨if_pos h,if_pos h⟩
theorem pat_many {L:List En} (h:treeE L=0) {cs:List Ch} (hm:120<cs.length) (n:Int):patE L cs n=2∧patR L cs n=[]:=
 ⟨by rw[patE,if_neg (fun x=>x h),if_pos hm],by rw[patR,if_neg (fun x=>x h),if_pos hm]⟩
theorem pat_run {L:List En} (h:treeE L=0) {cs:List Ch} (hm: ¬120<cs.length) {n:Int} {k:Nat} {e:Int} {R:List En} (hr:runF n L cs=(k,e,R)):patE L cs n=e∧patR L cs n=R:=
 ⟨by rw[patE,if_neg (fun x=>x h),if_neg hm,hr],by rw[patR,if_neg (fun x=>x h),if_neg hm,hr]⟩
theorem good_sizedD {R:List En} (hR:Good R):Sized R:=fun e he=>by
 have h1:=chk_len (entE_path (hR.ents e he));have h2:=hR.ents e he;refine⟨by rw[Lib.size_eq];omega,?_⟩
 rw[entE,if_pos (entE_path h2)]at h2;split at h2
 · cases h2
 · split at h2
   · cases h2
   · omega
end Pp
end Go.Proofs.YtagibnejodgeeaaGreatDoor
namespace Go.Proofs.YtagibnejodgeeaaGreatDoor
open Go.RowKit

set_option maxHeartbeats 1000000 in
theorem tapply_own (L:List En) (v:Value) (k:Int) (p q t:ByteArray) (b n:Int) (w:World) (hv:Lies w v L) (hn:L.length≤1000000000) (hs:Sized L) (hp:p.size≤150000000000000) (hq:q.size≤150000000000000) (ht:t.size≤150000000000000):
    Calls Tryz.prog 7 #[v,.agg #[.int .i64 k,.string p,.string q,.string t,.int .i64 b],.int .i64 n] w fun e w'=> ∃u,e= .returned (.tuple #[u,.int .i64 (Pp.tapE L ⟨k,p,q,t,b⟩ n)])∧LiesF w.heap.size w' u (Pp.tapR L ⟨k,p,q,t,b⟩ n)∧Below w.heap.size w w':=by
 have HV:Hid (Lies w v L):=hv;have HS:Hid (Sized L):=hs;clear hv hs;by_cases htr:Pp.treeE L=0
 · rw[Pp.tapE_yes htr,Pp.tapR_yes htr]
   have HT:=hid htr;clear htr;go_enter Tryz.func7,Tryz.ntmps7
   go_wp2_with fail;refine(tcheck_any L v _ (HV.out.below ((Below.refl _ _).alloc (Nat.le_refl _) _)) hn HS.out).mono ?_
   rintro e w1 ⟨rfl,hb1⟩;rw[HT.out];obtain⟨c0,c1,c2,c3,c4,hbw,hlt⟩:=bx5 hb1
   go_wp2_with fail;refine(apply_own L v k p q t b n _ (HV.out.below hbw) HS.out hp hq ht ((Pp.good_iff L).1 HT.out)).mono ?_
   rintro e w5 ⟨u,rfl,hli,hb5⟩;have HLI:=hid hli;have hb05:=hbw.trans (hb5.mono (Nat.le_of_lt hlt));clear hb1 hb5 hli c0 c1 c2 c3 c4;go_wp2;go_ret2;exact⟨u,rfl,HLI.out.mono (Nat.le_of_lt hlt),hb05⟩
 · rw[Pp.tapE_no htr,Pp.tapR_no htr]
   have hz:(Pp.treeE L==0)=false:=by simpa using htr
   go_enter Tryz.func7,Tryz.ntmps7
   go_wp2_with fail;refine(tcheck_any L v _ (HV.out.below ((Below.refl _ _).alloc (Nat.le_refl _) _)) hn HS.out).mono ?_
   rintro e w1 ⟨rfl,hb1⟩;obtain⟨c0,c1,c2,c3,c4,hbw,hlt⟩:=bx5 hb1
   clear hb1;go_wp2;go_ret2;exact⟨_,rfl,liesF_nil _ _,hbw⟩
set_option maxHeartbeats 1000000 in
theorem tcheck_all (L:List En) (v:Value) (w:World) (hv:Lies w v L) (hs:Sized L):
    Calls Tryz.prog 21 #[v] w fun e w'=>e= .returned (.int .i64 (Pp.treeE L))∧Below w.heap.size w w':=by
 by_cases h60:L.length≤60
 · exact tcheck_any L v w hv (by omega) hs
 · have HE:=hid (show 2=Pp.treeE L from by rw[Pp.treeE,if_pos (by omega)])
   obtain⟨a,cap,rfl,hcap,hcap2,hL⟩:=hv
   have hl:60<(L.length:Int):=by omega
   clear hL hs;go_enter Tryz.func21,Tryz.ntmps21
   go_wp2_with fail;go_ret;exact⟨Pp.ret_int HE.out,Below.refl _ _⟩
set_option maxHeartbeats 1000000 in
theorem tapply_allO (L:List En) (v:Value) (k:Int) (p q t:ByteArray) (b n:Int) (w:World) (hv:Lies w v L) (hs:Sized L) (hp:p.size≤150000000000000) (hq:q.size≤150000000000000) (ht:t.size≤150000000000000):
    Calls Tryz.prog 7 #[v,.agg #[.int .i64 k,.string p,.string q,.string t,.int .i64 b],.int .i64 n] w fun e w'=> ∃u,e= .returned (.tuple #[u,.int .i64 (Pp.tapE L ⟨k,p,q,t,b⟩ n)])∧LiesF w.heap.size w' u (Pp.tapR L ⟨k,p,q,t,b⟩ n)∧Below w.heap.size w w':=by
 by_cases h60:L.length≤60
 · exact tapply_own L v k p q t b n w hv (by omega) hs hp hq ht
 · have HV:Hid (Lies w v L):=hv
   have HS:Hid (Sized L):=hs;have htr: ¬Pp.treeE L=0:=by rw[Pp.treeE,if_pos (by omega)];decide
   clear hv hs;rw[Pp.tapE_no htr,Pp.tapR_no htr];have hz:(Pp.treeE L==0)=false:=by simpa using htr
   go_enter Tryz.func7,Tryz.ntmps7
   go_wp2_with fail;refine(tcheck_all L v _ (HV.out.below ((Below.refl _ _).alloc (Nat.le_refl _) _)) HS.out).mono ?_
   rintro e w1 ⟨rfl,hb1⟩;obtain⟨c0,c1,c2,c3,c4,hbw,hlt⟩:=bx5 hb1
   clear hb1;go_wp2;go_ret2;exact⟨_,rfl,liesF_nil _ _,hbw⟩
end Go.Proofs.YtagibnejodgeeaaGreatDoor
