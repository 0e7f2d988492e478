/- What tree.move and changed answer, for every change that is right by itself. -/
import Derived.Test.YtlllcifehellpaaGreatDoorCKF
import Derived.Maps.AppendAt
import Derived.Test.YtlllcifehellpaaGreatDoorCKA
import Derived.Test.YtlllcifehellpaaGreatDoorCKB
import Derived.Test.YtlllcifehellpaaGreatDoorCKE
set_option linter.unusedSimpArgs false
set_option linter.unusedVariables false
namespace Go.Proofs.YtlllcifehellpaaGreatDoor
open Go.RowKit

namespace Pp
end Pp

theorem new4 (w:World) (a b c d:Value) (T:TypeId) (g:Nat) (hg:g=w.heap.size): ∀j u,[a,b,c,d][j]?=some u→(w.alloc (.cells #[a,b,c,d] T)).cell? ((⟨g,0,none⟩:Addr).add j)=some u:=by
 subst hg;intro j u hj;match j,hj with
 |0,hj=>simp at hj;subst hj;simp[Addr.add]
 |1,hj=>simp at hj;subst hj;simp[Addr.add]
 |2,hj=>simp at hj;subst hj;simp[Addr.add]
 |3,hj=>simp at hj;subst hj;simp[Addr.add]
 |j+4,hj=>simp at hj
theorem one4 (x y:ByteArray) (f:Bool) (n:Int): ∀u∈[Value.string x,.bool f,.string y,.int .i64 n],u.oneCell'=true:=by
 intro u hu;simp only[List.mem_cons,List.not_mem_nil,or_false]at hu;rcases hu with rfl|rfl|rfl|rfl<;>rfl
set_option maxRecDepth 100000 in
set_option maxHeartbeats 2000000 in
theorem move_any (L:List En) (v:Value) (p q t:ByteArray) (b n:Int) (w:World) (hv:Lies w v L) (hs:Sized L) (hp:p.size≤150000000000000) (hq:q.size≤150000000000000) (hL:Pp.Good L) (hc:Pp.chgE ⟨3,p,q,t,b⟩=0) (hf:L.find? (Pp.atB q.data.toList)=none) (x0:En) (hx0:L.find? (Pp.atB p.data.toList)=some x0):
    Calls Tryz.prog 108 #[v,.agg #[.int .i64 3,.string p,.string q,.string t,.int .i64 b],.int .i64 n] w fun e w'=>
     ((Pp.goL L ⟨3,p,q,t,b⟩).any (fun e=>Pp.big (Pp.mvP ⟨3,p,q,t,b⟩ e))=true∧e= .returned (.tuple #[.slice none 0 0,.int .i64 2])∧Below w.heap.size w w')∨
     ((Pp.goL L ⟨3,p,q,t,b⟩).any (fun e=>Pp.big (Pp.mvP ⟨3,p,q,t,b⟩ e))=false∧ ∃u,e= .returned (.tuple #[u,.int .i64 0])∧Lies w' u (Pp.insAll (Pp.mvL L ⟨3,p,q,t,b⟩ n) (Pp.keptL L ⟨3,p,q,t,b⟩))∧Below w.heap.size w w'):=by
 obtain⟨i0,hi0,hz0,hz1,hz2⟩:=info_parts Tryz.infoE
 have hck: ∀e∈L,Pp.chk e.path.data.toList=0:=fun e he=>Pp.entE_path (hL.ents e he)
 have hcp:Pp.chk p.data.toList=0:=Pp.chg_path hc;have hcq:Pp.chk q.data.toList=0:=Pp.chg_to hc rfl;have HK:=hid (show L.filter (fun e=> !Pp.inB p.data.toList e)=Pp.keptL L ⟨3,p,q,t,b⟩from Pp.filter_eq fun e he=>by rw[Pp.inB_wi (hck e he) hcp]);have HG:=hid (show L.filter (Pp.inB p.data.toList)=Pp.goL L ⟨3,p,q,t,b⟩from Pp.filter_eq fun e he=>by rw[Pp.inB_wi (hck e he) hcp]);have HV:Hid (Lies w v L):=hv;have HS:Hid (Sized L):=hs;have hn:L.length≤60:=hL.len;have hkl:(Pp.keptL L ⟨3,p,q,t,b⟩).length≤L.length:=List.length_filter_le _ _;have hgl:(Pp.goL L ⟨3,p,q,t,b⟩).length≤L.length:=List.length_filter_le _ _;have HD:Hid ((Pp.keptL L ⟨3,p,q,t,b⟩++Pp.mvL L ⟨3,p,q,t,b⟩ n).Pairwise Pp.dif):=Pp.mv_dif hL n (Pp.chk_path_ne hcq) hf;have HR:=hid (show(Pp.keptL L ⟨3,p,q,t,b⟩).Pairwise (fun x y=>Pp.lt x y=true)from List.Pairwise.filter _ hL.rise)
 have HM:=hid (show∀e∈Pp.goL L ⟨3,p,q,t,b⟩,e.path.size≤1000000000∧Pp.chks [e.path.data.toList,p.data.toList,q.data.toList]=0∧Pp.isInB e.path.data.toList p.data.toList=true from fun e he=>by
  obtain⟨h1,h2⟩:=Pp.mem_goL.1 he
  exact⟨by rw[Lib.size_eq];have:=Pp.chk_len (hck e h1);omega,by simp[Pp.chks,hck e h1,hcp,hcq],h2⟩)
 have hmvl:Pp.mvL L ⟨3,p,q,t,b⟩ n=(Pp.goL L ⟨3,p,q,t,b⟩).map (Pp.mvd ⟨3,p,q,t,b⟩ n):=rfl
 have hg0:Pp.goL L ⟨3,p,q,t,b⟩≠[]:=fun e=>by
  have h1:=List.mem_of_find?_eq_some hx0;have h2:x0.path.data.toList=p.data.toList:=by have:=List.find?_some hx0;simpa[Pp.atB]using this
  have h3:x0∈Pp.goL L ⟨3,p,q,t,b⟩:=Pp.mem_goL.2 ⟨h1,by rw[h2];exact Pp.isIn_refl _⟩;rw[e]at h3;cases h3
 rw[hmvl]at HD⊢;clear hmvl hx0;generalize Pp.keptL L ⟨3,p,q,t,b⟩=K at*;generalize Pp.goL L ⟨3,p,q,t,b⟩=G at*;clear hv hs hL hc hf hck hcp hcq;go_enter Tryz.func108,Tryz.ntmps108
 go_wp2_with fail;refine(twithin_any p _ (by omega)).mono ?_
 rintro e w1 ⟨rfl,ht1,hb1⟩;obtain⟨c0,c1,c2,c3,c4,hbw,hlt⟩:=bx5 hb1
 have HT1:=hid (show Tells w1 128 #[.pointer (some ⟨w.heap.size+1,0,none⟩)] (Pp.inB p.data.toList)from by simpa using ht1);clear ht1;go_wp2_with fail;refine(not_any _ _ (Pp.inB p.data.toList) _ HT1.out).mono ?_
 rintro e w2 ⟨rfl,ht2,hb2⟩;have HT2:=hid ht2;have hb02:=hb1.trans (hb2.mono hb1.size);clear ht2 c0 c1 c2 c3 c4 hbw hlt hb1 hb2;obtain⟨c0,c1,c2,c3,c4,hbw,hlt⟩:=bx5 hb02
 have hlt2:=hlt;go_wp2_with fail;refine(every_any L v _ _ (fun e=> !Pp.inB p.data.toList e) _ (HV.out.below hbw) HT2.out (by omega) HS.out).mono ?_
 rintro e w3 ⟨u1,rfl,ho1,hn1,hb3⟩;rw[HK.out]at ho1;have hb03:=hb02.trans (hb3.mono hb02.size);clear c0 c1 c2 c3 c4 hbw hlt hb02;obtain⟨c0,c1,c2,c3,c4,hbw,hlt⟩:=bx5 hb03
 have hu1: ∀g,u1.ownBlock=some g→w.heap.size<g∧g<w3.heap.size:=fun g hg=>⟨Nat.lt_of_lt_of_le hlt2 (ho1.lt g hg).1,(ho1.lt g hg).2⟩
 have HO1:=hid (Pp.own_mono (B:=w.heap.size) ho1 (Nat.le_of_lt hlt2));clear ho1;go_wp2_with fail;refine(twithin_any p _ (by omega)).mono ?_
 rintro e w4 ⟨rfl,ht4,hb4⟩;have HT4:=hid ht4;have hb04:=hb03.trans (hb4.mono hb03.size);have HO4:=hid (Pp.own_below HO1.out hb4);have hs34:=hb4.size;clear ht4 c0 c1 c2 c3 c4 hbw hlt hb03 hb3 hb4 HO1;obtain⟨c0,c1,c2,c3,c4,hbw,hlt⟩:=bx5 hb04
 go_wp2_with fail;refine(every_any L v _ _ (Pp.inB p.data.toList) _ (HV.out.below hbw) HT4.out (by omega) HS.out).mono ?_
 rintro e w5 ⟨u2,rfl,ho2,hn2,hb5⟩;rw[HG.out]at ho2;have HO5:=hid (Pp.own_below HO4.out hb5);have hb05:=hb04.trans (hb5.mono hb04.size);have hs45:=hb5.size;clear c0 c1 c2 c3 c4 hbw hlt hb04 hb5 HO4;obtain⟨c0,c1,c2,c3,c4,hbw,hlt⟩:=bx5 hb05
 obtain⟨g2,cap2,rfl,hg2,hg2',hc2,hm2⟩:=Pp.own_shape ho2 hg0
 have HL2:=hid (show∀i (h:i<G.length),EnAt w5 g2 (i*4) G[i]from fun i h=>by
  obtain⟨a,cap,hv,_,_,hL⟩:=lies_own ho2 (by omega)
  obtain⟨b',o',ha,_,he⟩:=hL i h
  cases hv
  cases ha
  simpa using he)
 have C1:=hid c1;have C2:=hid c2;clear c0 c1 c2 c3 c4 ho2 hb05;go_wp2_with fail;go_loopw [8,25] (fun u i wr=> ∃k:Nat,k≤G.length∧i= .int .i64 k∧Hid ((G.take k).any (fun e=>Pp.big (Pp.mvP ⟨3,p,q,t,b⟩ e))=false)∧wr.ownsRow w.heap.size 64 4 u (K++(G.take k).map (Pp.mvd ⟨3,p,q,t,b⟩ n)).length (Pp.flat (K++(G.take k).map (Pp.mvd ⟨3,p,q,t,b⟩ n)))∧(∀g,u.ownBlock=some g→w.heap.size<g∧g≠g2)∧wr.heap[g2]?=w5.heap[g2]?∧wr.heap[w.heap.size]?=w5.heap[w.heap.size]?∧w5.heap.size≤wr.heap.size∧Below w.heap.size w wr) (fun _ i _=>G.length-(intOf i).toNat)
 case atStart=>exact⟨0,Nat.zero_le _,rfl,(by simp:(G.take 0).any (fun e=>Pp.big (Pp.mvP ⟨3,p,q,t,b⟩ e))=false),by simpa using HO5.out,fun g hg=>⟨(hu1 g hg).1,by have:=(hu1 g hg).2;omega⟩,rfl,rfl,Nat.le_refl _,hbw⟩
 case round=>
  obtain⟨k,hk,rfl,HA,hown,hub,hG2,hGc,hsz,hbel⟩:=hrel
  have cc: ∀o,wr.cell? ⟨g2,o,none⟩=w5.cell? ⟨g2,o,none⟩:=fun o=>World.cell?_of_block hG2
  have q1:wr.cell? ⟨w.heap.size,1,none⟩=some (.string p):=(World.cell?_of_block hGc).trans C1.out;have q2:wr.cell? ⟨w.heap.size,2,none⟩=some (.string q):=(World.cell?_of_block hGc).trans C2.out;have q1a: ∀o,(wr.alloc o).cell? ⟨w.heap.size,1,none⟩=some (.string p):=fun o=>(((Below.refl wr.heap.size wr).alloc (Nat.le_refl _) o).cell (p:=⟨w.heap.size,1,none⟩) (by show w.heap.size<_;omega)).trans q1
  have q2a: ∀o,(wr.alloc o).cell? ⟨w.heap.size,2,none⟩=some (.string q):=fun o=>(((Below.refl wr.heap.size wr).alloc (Nat.le_refl _) o).cell (p:=⟨w.heap.size,2,none⟩) (by show w.heap.size<_;omega)).trans q2
  by_cases hlk:k<G.length
  · obtain⟨e0,e1,e2,e3⟩:=HL2.out k hlk
    have c0:=(cc _).trans e0;have c1:=(cc _).trans e1;have c2:=(cc _).trans e2;have c3:=(cc _).trans e3;obtain⟨hsz1,hck,hin⟩:=HM.out G[k] (List.getElem_mem hlk)
    have hmE:=Pp.mvE_in hck hin;rw[Pp.mv_chk hck hin]at hmE
    have hany:(G.take (k+1)).any (fun e=>Pp.big (Pp.mvP ⟨3,p,q,t,b⟩ e))=Pp.big (Pp.mvP ⟨3,p,q,t,b⟩ G[k]):=by
     rw[List.take_succ_eq_append_getElem hlk,List.any_append,HA.out];simp
    have hmap:K++(G.take (k+1)).map (Pp.mvd ⟨3,p,q,t,b⟩ n)=(K++(G.take k).map (Pp.mvd ⟨3,p,q,t,b⟩ n))++[Pp.mvd ⟨3,p,q,t,b⟩ n G[k]]:=by
     rw[List.take_succ_eq_append_getElem hlk,List.map_append,List.append_assoc];rfl
    have hlen:(K++(G.take k).map (Pp.mvd ⟨3,p,q,t,b⟩ n)).length≤200:=by
     rw[List.length_append,List.length_map,List.length_take];omega
    generalize K++(G.take k).map (Pp.mvd ⟨3,p,q,t,b⟩ n)=X at*;clear cc e0 e1 e2 e3 hck hin;cases hbig:Pp.big (Pp.mvT G[k].path.data.toList p.data.toList q.data.toList)with
    |true=>
     rw[hbig,if_pos rfl]at hmE;have HE:=hid hmE;have HX:=hid (show G.any (fun e=>Pp.big (Pp.mvP ⟨3,p,q,t,b⟩ e))=true from List.any_eq_true.2 ⟨G[k],List.getElem_mem hlk,hbig⟩);clear hmE hany hmap hbig;go_wp2_with fail;refine(moved_any G[k].path p q _ (by omega) (by omega) (by omega)).mono ?_
     rintro e w6 ⟨rfl,hb6⟩;rw[HE.out,Pp.ifc_no (by decide)];obtain⟨d0,d1,d2,d3,hb6w,hlt6⟩:=box4 hb6
     have hbel6:=below_trans hbel hb6w;clear hb6 c0 c1 c2 c3 q1 q2 q1a q2a;go_wp2_with fail;go_ret2;exact Or.inl ⟨HX.out,rfl,hbel6⟩
    |false=>
     rw[hbig,if_neg (by decide)]at hmE;have HE:=hid hmE;have HA2:=hid (show(G.take (k+1)).any (fun e=>Pp.big (Pp.mvP ⟨3,p,q,t,b⟩ e))=false from hany.trans hbig);have HMP:=hid hmap;clear hmE hany hmap hbig
     have hcs : ((G[k].path.toList == p.toList) = true ∧ Hid (Pp.cells (Pp.mvd ⟨3, p, q, t, b⟩ n G[k]) = [.string ⟨(Pp.mvT G[k].path.data.toList p.data.toList q.data.toList).toArray⟩, .bool G[k].folder, .string G[k].text, .int .i64 n])) ∨
         ((G[k].path.toList==p.toList)=false∧Hid (Pp.cells (Pp.mvd ⟨3,p,q,t,b⟩ n G[k])=[.string ⟨(Pp.mvT G[k].path.data.toList p.data.toList q.data.toList).toArray⟩,.bool G[k].folder,.string G[k].text,.int .i64 G[k].ver])):=by
      cases he:(G[k].path.toList==p.toList)with
      |true=>
       have he2:G[k].path.data.toList=p.data.toList:=by rw[Lib.toList_data,Lib.toList_data]at he;simpa using he
       refine Or.inl ⟨rfl,(by rw[Pp.cells,Pp.mvd];simp only[he2,if_true,Pp.mvP]:Pp.cells (Pp.mvd ⟨3,p,q,t,b⟩ n G[k])=_)⟩
      |false=>
       have he2: ¬G[k].path.data.toList=p.data.toList:=by rw[Lib.toList_data,Lib.toList_data]at he;simpa using he
       refine Or.inr ⟨rfl,(by rw[Pp.cells,Pp.mvd];simp only[he2,if_false,Pp.mvP]:Pp.cells (Pp.mvd ⟨3,p,q,t,b⟩ n G[k])=_)⟩
     rcases hcs with⟨hpe,HC⟩|⟨hpe,HC⟩
     · go_wp2_with fail
       refine(moved_any G[k].path p q _ (by omega) (by omega) (by omega)).mono ?_
       rintro e w6 ⟨rfl,hb6⟩;rw[HE.out,Pp.ifc_yes rfl];obtain⟨d0,d1,d2,d3,hb6w,hlt6⟩:=box4 hb6
       have f0:=box4f hb6 0;have f3:=box4f hb6 3;have q1':w6.cell? ⟨w.heap.size,1,none⟩=some (.string p):=(hb6w.cell (p:=⟨w.heap.size,1,none⟩) (by show w.heap.size<_;omega)).trans q1;clear hb6 c0 c1 c2 c3 q1 q2 q1a q2a;have hbW: ∀o,Below wr.heap.size wr (((w6.setCell ⟨wr.heap.size,3,none⟩ (.int .i64 n)).setCell ⟨wr.heap.size,0,none⟩ (.string ⟨(Pp.mvT G[k].path.data.toList p.data.toList q.data.toList).toArray⟩)).alloc o):=fun o=>Below.alloc (((hb6w.setCell (p:=⟨wr.heap.size,3,none⟩) (Nat.le_refl _) _).setCell (p:=⟨wr.heap.size,0,none⟩) (Nat.le_refl _) _)) (by first|(simp;omega)|omega) o
       go_wp2_with (at_builtin;refine wpList_append_own_at _ rfl _ _ 22 rfl w.heap.size 64 i0 (.agg #[.string ⟨#[]⟩,.bool false,.string ⟨#[]⟩,.int .i64 0]) 4 48 Tryz.underlying22 hi0 hz0 hz1 hz2 rfl (by decide) _ _ _ rfl (Pp.own_below hown (hbW _)) ⟨w6.heap.size,0,none⟩ 1 1 [.string ⟨(Pp.mvT G[k].path.data.toList p.data.toList q.data.toList).toArray⟩,.bool G[k].folder,.string G[k].text,.int .i64 n] rfl rfl ?c1 ?c2 ?c3 ?c4 ?c5 ?_)
       case c1=>exact new4 _ _ _ _ _ _ _ (by simp)
       case c2=>exact one4 _ _ _ _
       case c3=>unfold maxLen;omega
       case c4=>omega
       case c5=>have:=hbel.size;simp;omega
       intro v2 w2' ho2 hgr2 hnn2 hat2;have hszW:=(hbW (.cells #[.string ⟨(Pp.mvT G[k].path.data.toList p.data.toList q.data.toList).toArray⟩,.bool G[k].folder,.string G[k].text,.int .i64 n] 64)).size;have hbel2:Below w.heap.size w w2':=(hbel.trans ((hbW _).mono hbel.size)).grown hgr2 (by have:=hbel.size;omega) (fun g hg=>Nat.le_of_lt (hub g hg).1);have hG2':w2'.heap[g2]?=w5.heap[g2]?:=((hgr2.block g2 (by omega) (fun e=>(hub g2 e.symm).2 rfl)).trans ((hbW _).block g2 (by omega))).trans hG2;have hGc':w2'.heap[w.heap.size]?=w5.heap[w.heap.size]?:=((hgr2.block w.heap.size (by have:=hbel.size;omega) (fun e=>Nat.lt_irrefl _ (hub _ e.symm).1)).trans ((hbW _).block w.heap.size (by omega))).trans hGc;have hsz':w5.heap.size≤w2'.heap.size:=Nat.le_trans hsz (Nat.le_trans hszW hgr2.size)
       have hub': ∀g,v2.ownBlock=some g→w.heap.size<g∧g≠g2:=fun g hg=>by
        rcases hat2 with h|h
        · exact hub g (h.symm.trans hg)
        · rw[h]at hg
          have e:=Option.some.inj hg;constructor<;>omega
       rw[←HC.out,Pp.flat_snoc]at ho2;have HO:Hid (w2'.ownsRow w.heap.size 64 4 v2 (X.length+1) (Pp.flat (X++[Pp.mvd ⟨3,p,q,t,b⟩ n G[k]]))):=ho2;clear ho2 hgr2 hnn2 hat2 hown hub hG2 hGc hsz hbW hszW hbel d0 d1 d2 d3 f0 f3 q1' hb6w;go_wp2_with fail;go_roundw
       case rel=>exact⟨k+1,by omega,by simp,HA2,by rw[HMP.out,List.length_append];exact HO.out,hub',hG2',hGc',hsz',hbel2⟩
       case measure=>simp[intOf];omega
     · go_wp2_with fail
       refine(moved_any G[k].path p q _ (by omega) (by omega) (by omega)).mono ?_
       rintro e w6 ⟨rfl,hb6⟩;rw[HE.out,Pp.ifc_yes rfl];obtain⟨d0,d1,d2,d3,hb6w,hlt6⟩:=box4 hb6
       have f0:=box4f hb6 0;have f3:=box4f hb6 3;have q1':w6.cell? ⟨w.heap.size,1,none⟩=some (.string p):=(hb6w.cell (p:=⟨w.heap.size,1,none⟩) (by show w.heap.size<_;omega)).trans q1;clear hb6 c0 c1 c2 c3 q1 q2 q1a q2a;have hbW: ∀o,Below wr.heap.size wr ((w6.setCell ⟨wr.heap.size,0,none⟩ (.string ⟨(Pp.mvT G[k].path.data.toList p.data.toList q.data.toList).toArray⟩)).alloc o):=fun o=>Below.alloc ((hb6w.setCell (p:=⟨wr.heap.size,0,none⟩) (Nat.le_refl _) _)) (by first|(simp;omega)|omega) o
       go_wp2_with (at_builtin;refine wpList_append_own_at _ rfl _ _ 22 rfl w.heap.size 64 i0 (.agg #[.string ⟨#[]⟩,.bool false,.string ⟨#[]⟩,.int .i64 0]) 4 48 Tryz.underlying22 hi0 hz0 hz1 hz2 rfl (by decide) _ _ _ rfl (Pp.own_below hown (hbW _)) ⟨w6.heap.size,0,none⟩ 1 1 [.string ⟨(Pp.mvT G[k].path.data.toList p.data.toList q.data.toList).toArray⟩,.bool G[k].folder,.string G[k].text,.int .i64 G[k].ver] rfl rfl ?c1 ?c2 ?c3 ?c4 ?c5 ?_)
       case c1=>exact new4 _ _ _ _ _ _ _ (by simp)
       case c2=>exact one4 _ _ _ _
       case c3=>unfold maxLen;omega
       case c4=>omega
       case c5=>have:=hbel.size;simp;omega
       intro v2 w2' ho2 hgr2 hnn2 hat2;have hszW:=(hbW (.cells #[.string ⟨(Pp.mvT G[k].path.data.toList p.data.toList q.data.toList).toArray⟩,.bool G[k].folder,.string G[k].text,.int .i64 G[k].ver] 64)).size;have hbel2:Below w.heap.size w w2':=(hbel.trans ((hbW _).mono hbel.size)).grown hgr2 (by have:=hbel.size;omega) (fun g hg=>Nat.le_of_lt (hub g hg).1);have hG2':w2'.heap[g2]?=w5.heap[g2]?:=((hgr2.block g2 (by omega) (fun e=>(hub g2 e.symm).2 rfl)).trans ((hbW _).block g2 (by omega))).trans hG2;have hGc':w2'.heap[w.heap.size]?=w5.heap[w.heap.size]?:=((hgr2.block w.heap.size (by have:=hbel.size;omega) (fun e=>Nat.lt_irrefl _ (hub _ e.symm).1)).trans ((hbW _).block w.heap.size (by omega))).trans hGc;have hsz':w5.heap.size≤w2'.heap.size:=Nat.le_trans hsz (Nat.le_trans hszW hgr2.size)
       have hub': ∀g,v2.ownBlock=some g→w.heap.size<g∧g≠g2:=fun g hg=>by
        rcases hat2 with h|h
        · exact hub g (h.symm.trans hg)
        · rw[h]at hg
          have e:=Option.some.inj hg;constructor<;>omega
       rw[←HC.out,Pp.flat_snoc]at ho2;have HO:Hid (w2'.ownsRow w.heap.size 64 4 v2 (X.length+1) (Pp.flat (X++[Pp.mvd ⟨3,p,q,t,b⟩ n G[k]]))):=ho2;clear ho2 hgr2 hnn2 hat2 hown hub hG2 hGc hsz hbW hszW hbel d0 d1 d2 d3 f0 f3 q1' hb6w;go_wp2_with fail;go_roundw
       case rel=>exact⟨k+1,by omega,by simp,HA2,by rw[HMP.out,List.length_append];exact HO.out,hub',hG2',hGc',hsz',hbel2⟩
       case measure=>simp[intOf];omega
  · have ek:G.take k=G:=List.take_of_length_le (by omega)
    rw[ek]at hown HA
    have hne:K++G.map (Pp.mvd ⟨3,p,q,t,b⟩ n)≠[]:=by
     intro e;rw[List.append_eq_nil_iff]at e;exact hg0 (List.map_eq_nil_iff.1 e.2)
    obtain⟨g,cap,rfl,hg1,hg1',hc1,hc1'⟩:=Pp.own_shape hown hne
    have hlen:(K++G.map (Pp.mvd ⟨3,p,q,t,b⟩ n)).length≤200:=by
     rw[List.length_append,List.length_map];omega
    have HO:=hid hown;have HD0:=hid HD.out;generalize hXX:K++G.map (Pp.mvd ⟨3,p,q,t,b⟩ n)=X at HO hne hlen hc1;have HX:Hid (X=K++G.map (Pp.mvd ⟨3,p,q,t,b⟩ n)):=hXX.symm;try rw[hXX]at hown
    try rw[hXX]
    clear hXX;clear hown hub hG2 hGc hsz cc q1 q2 q1a q2a ek;go_wp2_with fail;refine(sortPaths_any X w.heap.size g cap _ HO.out (by omega) hc1 hg1 hg1').mono ?_
    rintro e w6 ⟨rfl,M,hpm,hsrt,hli,hb6⟩;have HMM:Hid (Lies w6 (.slice (some ⟨g,0,none⟩) X.length cap) M):=hli;have HPM:=hid hpm;have HSRT:=hid hsrt;clear hpm hsrt hli;go_wp2;go_ret2;exact Or.inr ⟨HA.out,_,rfl,by rw[←Pp.sort_all (HX.out▸HPM.out) HSRT.out HR.out HD0.out];exact HMM.out,hbel.trans hb6⟩
end Go.Proofs.YtlllcifehellpaaGreatDoor
namespace Go.Proofs.YtlllcifehellpaaGreatDoor
namespace Pp
def ifz (e:Int) (L:List En):List En:=if e=0 then L else[]
theorem ifz_yes {e:Int} (h:e=0) (L:List En):ifz e L=L:=if_pos h
theorem ifz_no {e:Int} (h: ¬e=0) (L:List En):ifz e L=[]:=if_neg h
end Pp
end Go.Proofs.YtlllcifehellpaaGreatDoor
namespace Go.Proofs.YtlllcifehellpaaGreatDoor
open Go.RowKit

namespace Pp
theorem bytes0 {t:ByteArray} (h:t.data.toList=[]):t=⟨#[]⟩:=bytes_eq h
end Pp

set_option maxHeartbeats 1000000 in
theorem changed_any (L:List En) (v:Value) (k:Int) (p q t:ByteArray) (b n:Int) (w:World) (hv:Lies w v L) (hs:Sized L) (hp:p.size≤150000000000000) (hq:q.size≤150000000000000) (hL:Pp.Good L) (hc:Pp.chgE ⟨k,p,q,t,b⟩=0) (hpl:Pp.plcE L ⟨k,p,q,t,b⟩=0):
    Calls Tryz.prog 85 #[v,.agg #[.int .i64 k,.string p,.string q,.string t,.int .i64 b],.int .i64 n] w fun e w'=> ∃u,e= .returned (.tuple #[u,.int .i64 (Pp.chdE L ⟨k,p,q,t,b⟩ n)])∧Lies w' u (Pp.ifz (Pp.chdE L ⟨k,p,q,t,b⟩ n) (Pp.chdR L ⟨k,p,q,t,b⟩ n))∧Below w.heap.size w w':=by
 have hrest:=Pp.chg_rest hc;have HV:Hid (Lies w v L):=hv;have HS:Hid (Sized L):=hs;have HL:Hid (Pp.Good L):=hL;rcases Pp.plc_rest hpl (Pp.chg_kind hc)with⟨hk,h⟩|⟨hk,h⟩|⟨hk,⟨x,hx⟩,h1,h2⟩|⟨hk,x,hx⟩
 · have hk:k=1:=hk
   subst hk;have ht:t=⟨#[]⟩:=Pp.bytes0 (hrest.2.1.resolve_left (by simp));subst ht;clear hrest h hpl hc hL hs hv;have HE:=hid (show Pp.chdE L ⟨1,p,q,⟨#[]⟩,b⟩ n=if 60<(Pp.out (made 1 p ⟨#[]⟩ n) L).length+1 then 2 else 0 from rfl);have HR:=hid (show Pp.chdR L ⟨1,p,q,⟨#[]⟩,b⟩ n=Pp.ins (made 1 p ⟨#[]⟩ n) (Pp.out (made 1 p ⟨#[]⟩ n) L)from rfl);go_enter Tryz.func85,Tryz.ntmps85
   go_wp2_with fail;refine(put_any L v (made 1 p ⟨#[]⟩ n) _ (HV.out.below ((Below.refl _ _).alloc (Nat.le_refl _) _)) HL.out.len HS.out (by simp only[made];omega) HL.out.rise).mono ?_
   rintro e w1 (⟨h,rfl,hb1⟩|⟨h,u,rfl,hli,hb1⟩)
   · obtain⟨c0,c1,c2,c3,c4,hbw,hlt⟩:=bx5 hb1
     have HH:=hid h;clear h hb1 c0 c1 c2 c3 c4;go_wp2;go_ret2;refine⟨_,by rw[HE.out,if_pos HH.out];rfl,?_,hbw⟩
     rw[Pp.ifz_no (by rw[HE.out,if_pos HH.out];decide)];exact lies_nil _
   · obtain⟨c0,c1,c2,c3,c4,hbw,hlt⟩:=bx5 hb1
     have HLI:=hid hli;have HH:=hid h;clear h hb1 hli c0 c1 c2 c3 c4;go_wp2;go_ret2;refine⟨_,by rw[HE.out,if_neg HH.out];rfl,?_,hbw⟩
     rw[Pp.ifz_yes (by rw[HE.out,if_neg HH.out]),HR.out];exact HLI.out
 · have hk:k=2:=hk
   subst hk;clear hrest h hpl hc hL hs hv;have HE:=hid (show Pp.chdE L ⟨2,p,q,t,b⟩ n=if 60<(Pp.out (made 2 p t n) L).length+1 then 2 else 0 from rfl);have HR:=hid (show Pp.chdR L ⟨2,p,q,t,b⟩ n=Pp.ins (made 2 p t n) (Pp.out (made 2 p t n) L)from rfl);go_enter Tryz.func85,Tryz.ntmps85
   go_wp2_with fail;refine(put_any L v (made 2 p t n) _ (HV.out.below ((Below.refl _ _).alloc (Nat.le_refl _) _)) HL.out.len HS.out (by simp only[made];omega) HL.out.rise).mono ?_
   rintro e w1 (⟨h,rfl,hb1⟩|⟨h,u,rfl,hli,hb1⟩)
   · obtain⟨c0,c1,c2,c3,c4,hbw,hlt⟩:=bx5 hb1
     have HH:=hid h;clear h hb1 c0 c1 c2 c3 c4;go_wp2;go_ret2;refine⟨_,by rw[HE.out,if_pos HH.out];rfl,?_,hbw⟩
     rw[Pp.ifz_no (by rw[HE.out,if_pos HH.out];decide)];exact lies_nil _
   · obtain⟨c0,c1,c2,c3,c4,hbw,hlt⟩:=bx5 hb1
     have HLI:=hid hli;have HH:=hid h;clear h hb1 hli c0 c1 c2 c3 c4;go_wp2;go_ret2;refine⟨_,by rw[HE.out,if_neg HH.out];rfl,?_,hbw⟩
     rw[Pp.ifz_yes (by rw[HE.out,if_neg HH.out]),HR.out];exact HLI.out
 · have hk:k=3:=hk
   subst hk;have HE:=hid (show Pp.chdE L ⟨3,p,q,t,b⟩ n=if(Pp.goL L ⟨3,p,q,t,b⟩).any (fun e=>Pp.big (Pp.mvP ⟨3,p,q,t,b⟩ e))=true then 2 else 0 from rfl);have HR:=hid (show Pp.chdR L ⟨3,p,q,t,b⟩ n=Pp.insAll (Pp.mvL L ⟨3,p,q,t,b⟩ n) (Pp.keptL L ⟨3,p,q,t,b⟩)from rfl);have HC:=hid hc;have HX:=hid hx;have H2:=hid h2;clear hrest hpl hc hL hs hv hx h1 h2;go_enter Tryz.func85,Tryz.ntmps85
   go_wp2_with fail;refine(move_any L v p q t b n _ (HV.out.below ((Below.refl _ _).alloc (Nat.le_refl _) _)) HS.out hp hq HL.out HC.out H2.out x HX.out).mono ?_
   rintro e w1 (⟨h,rfl,hb1⟩|⟨h,u,rfl,hli,hb1⟩)
   · obtain⟨c0,c1,c2,c3,c4,hbw,hlt⟩:=bx5 hb1
     have HH:=hid h;clear h hb1 c0 c1 c2 c3 c4;go_wp2;go_ret2;refine⟨_,by rw[HE.out,if_pos HH.out];rfl,?_,hbw⟩
     rw[Pp.ifz_no (by rw[HE.out,if_pos HH.out];decide)];exact lies_nil _
   · obtain⟨c0,c1,c2,c3,c4,hbw,hlt⟩:=bx5 hb1
     have HLI:=hid hli;have HH:=hid h;clear h hb1 hli c0 c1 c2 c3 c4;go_wp2;go_ret2;refine⟨_,by rw[HE.out,if_neg (by rw[HH.out];decide)];rfl,?_,hbw⟩
     rw[Pp.ifz_yes (by rw[HE.out,if_neg (by rw[HH.out];decide)]),HR.out];exact HLI.out
 · have hk:k=4:=hk
   subst hk;have hcp:=Pp.chg_path hc;have HK:=hid (show L.filter (fun e=> !Pp.inB p.data.toList e)=Pp.keptL L ⟨4,p,q,t,b⟩from Pp.filter_eq fun e he=>by rw[Pp.inB_wi (Pp.entE_path (hL.ents e he)) hcp]);have HKL:=hid (show(Pp.keptL L ⟨4,p,q,t,b⟩).length≤L.length from List.length_filter_le _ _);clear hrest hpl hc hL hs hv hx hcp;go_enter Tryz.func85,Tryz.ntmps85
   go_wp2_with fail;refine(twithin_any p _ (by omega)).mono ?_
   rintro e w1 ⟨rfl,ht1,hb1⟩;obtain⟨c0,c1,c2,c3,c4,hbw,hlt⟩:=bx5 hb1
   have HT1:=hid (show Tells w1 128 #[.pointer (some ⟨w.heap.size+1,0,none⟩)] (Pp.inB p.data.toList)from by simpa using ht1);clear ht1;go_wp2_with fail;refine(not_any _ _ (Pp.inB p.data.toList) _ HT1.out).mono ?_
   rintro e w2 ⟨rfl,ht2,hb2⟩;have HT2:=hid ht2;have hb02:=hb1.trans (hb2.mono hb1.size);clear ht2 c0 c1 c2 c3 c4 hbw hlt hb1 hb2;obtain⟨c0,c1,c2,c3,c4,hbw,hlt⟩:=bx5 hb02
   go_wp2_with fail;refine(every_any L v _ _ (fun e=> !Pp.inB p.data.toList e) _ (HV.out.below hbw) HT2.out (Nat.le_trans HL.out.len (by decide)) HS.out).mono ?_
   rintro e w3 ⟨u1,rfl,ho1,hn1,hb3⟩;rw[HK.out]at ho1;have HLI:=hid (lies_own ho1 (by have:=HKL.out;have:=HL.out.len;omega));have hb03:=hbw.trans (hb3.mono (Nat.le_of_lt hlt));clear c0 c1 c2 c3 c4 hbw hlt hb02 hb3 ho1 hn1;go_wp2;go_ret2;exact⟨_,rfl,HLI.out,hb03⟩
namespace Pp
def appR (L:List En) (c:Ch) (n:Int):List En:=ifz (appE L c n) (chdR L c n)
theorem app_ver {L:List En} {c:Ch} {n:Int} (h: ¬verE n=0):appE L c n=verE n:=by rw[appE,if_pos h]
theorem app_chg {L:List En} {c:Ch} {n:Int} (h:verE n=0) (h1: ¬chgE c=0):appE L c n=chgE c:=by rw[appE,if_neg (fun x=>x h),if_pos h1]
theorem app_plc {L:List En} {c:Ch} {n:Int} (h:verE n=0) (h1:chgE c=0) (h2: ¬plcE L c=0):appE L c n=plcE L c:=by rw[appE,if_neg (fun x=>x h),if_neg (fun x=>x h1),if_pos h2]
theorem app_stl {L:List En} {c:Ch} {n:Int} (h:verE n=0) (h1:chgE c=0) (h2:plcE L c=0) (h3:stl L c=true):appE L c n=8:=by rw[appE,if_neg (fun x=>x h),if_neg (fun x=>x h1),if_neg (fun x=>x h2),if_pos h3]
theorem app_chd {L:List En} {c:Ch} {n:Int} (h:verE n=0) (h1:chgE c=0) (h2:plcE L c=0) (h3:stl L c=false):appE L c n=chdE L c n:=by rw[appE,if_neg (fun x=>x h),if_neg (fun x=>x h1),if_neg (fun x=>x h2),if_neg (by rw[h3];decide)]
theorem appR_no {L:List En} {c:Ch} {n:Int} {e:Int} (h:appE L c n=e) (he: ¬e=0):appR L c n=[]:=by rw[appR,h,ifz_no he]
end Pp

set_option maxHeartbeats 1000000 in
theorem apply_any (L:List En) (v:Value) (k:Int) (p q t:ByteArray) (b n:Int) (w:World) (hv:Lies w v L) (hs:Sized L) (hp:p.size≤150000000000000) (hq:q.size≤150000000000000) (ht:t.size≤150000000000000) (hL:Pp.Good L):
    Calls Tryz.prog 63 #[v,.agg #[.int .i64 k,.string p,.string q,.string t,.int .i64 b],.int .i64 n] w fun e w'=> ∃u,e= .returned (.tuple #[u,.int .i64 (Pp.appE L ⟨k,p,q,t,b⟩ n)])∧Lies w' u (Pp.appR L ⟨k,p,q,t,b⟩ n)∧Below w.heap.size w w':=by
 have HV:Hid (Lies w v L):=hv;have HS:Hid (Sized L):=hs;have HL:Hid (Pp.Good L):=hL;clear hv hs hL;by_cases hver:Pp.verE n=0
 · have HVE:=hid hver
   by_cases hchg:Pp.chgE ⟨k,p,q,t,b⟩=0
   · have HCH:=hid hchg
     by_cases hplc:Pp.plcE L ⟨k,p,q,t,b⟩=0
     · have HPL:=hid hplc
       cases hst:Pp.stl L ⟨k,p,q,t,b⟩with
       |true=>
        have hE:=Pp.app_stl hver hchg hplc hst;have HR:=hid (Pp.appR_no hE (by decide));have HE:=hid hE;have HST:=hid hst;clear hE hst hplc hchg hver;go_enter Tryz.func63,Tryz.ntmps63
        go_wp2_with fail;refine(checkVersion_any n _).mono ?_
        rintro e w1 ⟨rfl,rfl⟩;rw[HVE.out];go_wp2_with fail;refine(checkChange_any k p q t b _ (by omega) (by omega) (by omega)).mono ?_
        rintro e w2 ⟨rfl,hb2⟩;rw[HCH.out];obtain⟨c0,c1,c2,c3,c4,hbw,hlt⟩:=bx5 hb2
        go_wp2_with fail;refine(checkPlace_any L v k p q t b _ (HV.out.below hbw) (fun e he=>(HS.out e he).1) (by omega) (by omega) HCH.out).mono ?_
        rintro e w3 ⟨rfl,hb3⟩;rw[HPL.out];have hb03:=hb2.trans (hb3.mono hb2.size);clear c0 c1 c2 c3 c4 hbw hlt hb2 hb3;obtain⟨c0,c1,c2,c3,c4,hbw,hlt⟩:=bx5 hb03
        go_wp2_with fail;refine(isStale_any L v k p q t b _ (HV.out.below hbw) HS.out (by omega) (fun e he=>Pp.entE_path (HL.out.ents e he)) (Pp.chg_path HCH.out)).mono ?_
        rintro e w4 ⟨rfl,hb4⟩;rw[HST.out];have hb04:=hb03.trans (hb4.mono hb03.size);clear c0 c1 c2 c3 c4 hbw hlt hb03 hb4;obtain⟨c0,c1,c2,c3,c4,hbw,hlt⟩:=bx5 hb04
        clear hb04;go_wp2;go_ret2;exact⟨_,by rw[HE.out];rfl,by rw[HR.out];exact lies_nil _,hbw⟩
       |false=>
        have hE:=Pp.app_chd hver hchg hplc hst;have HE:=hid hE;have HR:=hid (show Pp.appR L ⟨k,p,q,t,b⟩ n=Pp.ifz (Pp.chdE L ⟨k,p,q,t,b⟩ n) (Pp.chdR L ⟨k,p,q,t,b⟩ n)from by rw[Pp.appR,hE]);have HST:=hid hst;clear hE hst hplc hchg hver;go_enter Tryz.func63,Tryz.ntmps63
        go_wp2_with fail;refine(checkVersion_any n _).mono ?_
        rintro e w1 ⟨rfl,rfl⟩;rw[HVE.out];go_wp2_with fail;refine(checkChange_any k p q t b _ (by omega) (by omega) (by omega)).mono ?_
        rintro e w2 ⟨rfl,hb2⟩;rw[HCH.out];obtain⟨c0,c1,c2,c3,c4,hbw,hlt⟩:=bx5 hb2
        go_wp2_with fail;refine(checkPlace_any L v k p q t b _ (HV.out.below hbw) (fun e he=>(HS.out e he).1) (by omega) (by omega) HCH.out).mono ?_
        rintro e w3 ⟨rfl,hb3⟩;rw[HPL.out];have hb03:=hb2.trans (hb3.mono hb2.size);clear c0 c1 c2 c3 c4 hbw hlt hb2 hb3;obtain⟨c0,c1,c2,c3,c4,hbw,hlt⟩:=bx5 hb03
        go_wp2_with fail;refine(isStale_any L v k p q t b _ (HV.out.below hbw) HS.out (by omega) (fun e he=>Pp.entE_path (HL.out.ents e he)) (Pp.chg_path HCH.out)).mono ?_
        rintro e w4 ⟨rfl,hb4⟩;rw[HST.out];have hb04:=hb03.trans (hb4.mono hb03.size);clear c0 c1 c2 c3 c4 hbw hlt hb03 hb4;obtain⟨c0,c1,c2,c3,c4,hbw,hlt⟩:=bx5 hb04
        go_wp2_with fail;refine(changed_any L v k p q t b n _ (HV.out.below hbw) HS.out hp hq HL.out HCH.out HPL.out).mono ?_
        rintro e w5 ⟨u,rfl,hli,hb5⟩;have HLI:=hid hli;have hb05:=hbw.trans (hb5.mono (Nat.le_of_lt hlt));clear c0 c1 c2 c3 c4 hbw hlt hb04 hb5 hli;go_wp2;go_ret2;exact⟨_,by rw[HE.out];rfl,by rw[HR.out];exact HLI.out,hb05⟩
     · have hE:=Pp.app_plc hver hchg hplc
       have HR:=hid (Pp.appR_no hE hplc);have HE:=hid hE;have hz:(Pp.plcE L ⟨k,p,q,t,b⟩==0)=false:=by simpa using hplc
       clear hE hchg hver;go_enter Tryz.func63,Tryz.ntmps63
       go_wp2_with fail;refine(checkVersion_any n _).mono ?_
       rintro e w1 ⟨rfl,rfl⟩;rw[HVE.out];go_wp2_with fail;refine(checkChange_any k p q t b _ (by omega) (by omega) (by omega)).mono ?_
       rintro e w2 ⟨rfl,hb2⟩;rw[HCH.out];obtain⟨c0,c1,c2,c3,c4,hbw,hlt⟩:=bx5 hb2
       go_wp2_with fail;refine(checkPlace_any L v k p q t b _ (HV.out.below hbw) (fun e he=>(HS.out e he).1) (by omega) (by omega) HCH.out).mono ?_
       rintro e w3 ⟨rfl,hb3⟩;have hb03:=hb2.trans (hb3.mono hb2.size);clear c0 c1 c2 c3 c4 hbw hlt hb2 hb3;obtain⟨c0,c1,c2,c3,c4,hbw,hlt⟩:=bx5 hb03
       clear hb03;go_wp2;go_ret2;exact⟨_,by rw[HE.out];rfl,by rw[HR.out];exact lies_nil _,hbw⟩
   · have hE:=Pp.app_chg (L:=L) hver hchg
     have HR:=hid (Pp.appR_no hE hchg);have HE:=hid hE;have hz:(Pp.chgE ⟨k,p,q,t,b⟩==0)=false:=by simpa using hchg
     clear hE hver;go_enter Tryz.func63,Tryz.ntmps63
     go_wp2_with fail;refine(checkVersion_any n _).mono ?_
     rintro e w1 ⟨rfl,rfl⟩;rw[HVE.out];go_wp2_with fail;refine(checkChange_any k p q t b _ (by omega) (by omega) (by omega)).mono ?_
     rintro e w2 ⟨rfl,hb2⟩;obtain⟨c0,c1,c2,c3,c4,hbw,hlt⟩:=bx5 hb2
     clear hb2;go_wp2;go_ret2;exact⟨_,by rw[HE.out];rfl,by rw[HR.out];exact lies_nil _,hbw⟩
 · have hE:=Pp.app_ver (L:=L) (c:=⟨k,p,q,t,b⟩) hver
   have HR:=hid (Pp.appR_no hE hver);have HE:=hid hE;have hz:(Pp.verE n==0)=false:=by simpa using hver
   clear hE;go_enter Tryz.func63,Tryz.ntmps63
   go_wp2_with fail;refine(checkVersion_any n _).mono ?_
   rintro e w1 ⟨rfl,rfl⟩;go_wp2;go_ret2;exact⟨_,by rw[HE.out];rfl,by rw[HR.out];exact lies_nil _,(Below.refl _ _).alloc (Nat.le_refl _) _⟩
namespace Pp
/-- Apply: what is wrong with the tree is told first. -/
def tapE (L:List En) (c:Ch) (n:Int):Int:=if treeE L=0 then appE L c n else treeE L
def tapR (L:List En) (c:Ch) (n:Int):List En:=ifz (tapE L c n) (chdR L c n)
theorem tapE_yes {L:List En} {c:Ch} {n:Int} (h:treeE L=0):tapE L c n=appE L c n:=if_pos h
theorem tapE_no {L:List En} {c:Ch} {n:Int} (h: ¬treeE L=0):tapE L c n=treeE L:=if_neg h
theorem tapR_yes {L:List En} {c:Ch} {n:Int} (h:treeE L=0):tapR L c n=appR L c n:=by rw[tapR,appR,tapE_yes h]
theorem tapR_no {L:List En} {c:Ch} {n:Int} (h: ¬treeE L=0):tapR L c n=[]:=by rw[tapR,tapE_no h,ifz_no h]
end Pp
end Go.Proofs.YtlllcifehellpaaGreatDoor
namespace Go.Proofs.YtlllcifehellpaaGreatDoor
open Go.RowKit

set_option maxHeartbeats 1000000 in
theorem tapply_any (L:List En) (v:Value) (k:Int) (p q t:ByteArray) (b n:Int) (w:World) (hv:Lies w v L) (hn:L.length≤1000000000) (hs:Sized L) (hp:p.size≤150000000000000) (hq:q.size≤150000000000000) (ht:t.size≤150000000000000):
    Calls Tryz.prog 41 #[v,.agg #[.int .i64 k,.string p,.string q,.string t,.int .i64 b],.int .i64 n] w fun e w'=> ∃u,e= .returned (.tuple #[u,.int .i64 (Pp.tapE L ⟨k,p,q,t,b⟩ n)])∧Lies w' u (Pp.tapR L ⟨k,p,q,t,b⟩ n)∧Below w.heap.size w w':=by
 have HV:Hid (Lies w v L):=hv;have HS:Hid (Sized L):=hs;clear hv hs;by_cases htr:Pp.treeE L=0
 · rw[Pp.tapE_yes htr,Pp.tapR_yes htr]
   have HT:=hid htr;clear htr;go_enter Tryz.func41,Tryz.ntmps41
   go_wp2_with fail;refine(tcheck_any L v _ (HV.out.below ((Below.refl _ _).alloc (Nat.le_refl _) _)) hn HS.out).mono ?_
   rintro e w1 ⟨rfl,hb1⟩;rw[HT.out];obtain⟨c0,c1,c2,c3,c4,hbw,hlt⟩:=bx5 hb1
   go_wp2_with fail;refine(apply_any L v k p q t b n _ (HV.out.below hbw) HS.out hp hq ht ((Pp.good_iff L).1 HT.out)).mono ?_
   rintro e w5 ⟨u,rfl,hli,hb5⟩;have HLI:=hid hli;have hb05:=hbw.trans (hb5.mono (Nat.le_of_lt hlt));clear hb1 hb5 hli c0 c1 c2 c3 c4;go_wp2;go_ret2;exact⟨u,rfl,HLI.out,hb05⟩
 · rw[Pp.tapE_no htr,Pp.tapR_no htr]
   have hz:(Pp.treeE L==0)=false:=by simpa using htr
   go_enter Tryz.func41,Tryz.ntmps41
   go_wp2_with fail;refine(tcheck_any L v _ (HV.out.below ((Below.refl _ _).alloc (Nat.le_refl _) _)) hn HS.out).mono ?_
   rintro e w1 ⟨rfl,hb1⟩;obtain⟨c0,c1,c2,c3,c4,hbw,hlt⟩:=bx5 hb1
   clear hb1;go_wp2;go_ret2;exact⟨_,rfl,lies_nil _,hbw⟩
set_option maxHeartbeats 1000000 in
theorem tapply_all (L:List En) (v:Value) (k:Int) (p q t:ByteArray) (b n:Int) (w:World) (hv:Lies w v L) (hs:Sized L) (hp:p.size≤150000000000000) (hq:q.size≤150000000000000) (ht:t.size≤150000000000000):
    Calls Tryz.prog 41 #[v,.agg #[.int .i64 k,.string p,.string q,.string t,.int .i64 b],.int .i64 n] w fun e w'=> ∃u,e= .returned (.tuple #[u,.int .i64 (Pp.tapE L ⟨k,p,q,t,b⟩ n)])∧Lies w' u (Pp.tapR L ⟨k,p,q,t,b⟩ n)∧Below w.heap.size w w':=by
 by_cases h60:L.length≤60
 · exact tapply_any L v k p q t b n w hv (by omega) hs hp hq ht
 · have HV:Hid (Lies w v L):=hv
   have HS:Hid (Sized L):=hs;have htr: ¬Pp.treeE L=0:=by rw[Pp.treeE,if_pos (by omega)];decide
   clear hv hs;rw[Pp.tapE_no htr,Pp.tapR_no htr];have hz:(Pp.treeE L==0)=false:=by simpa using htr
   go_enter Tryz.func41,Tryz.ntmps41
   go_wp2_with fail;refine(tcheck_all L v _ (HV.out.below ((Below.refl _ _).alloc (Nat.le_refl _) _)) HS.out).mono ?_
   rintro e w1 ⟨rfl,hb1⟩;obtain⟨c0,c1,c2,c3,c4,hbw,hlt⟩:=bx5 hb1
   clear hb1;go_wp2;go_ret2;exact⟨_,rfl,lies_nil _,hbw⟩
/-- A tree that lies in no box without a Bool. -/
theorem Lies.offbox {W W':World} {v:Value} {L:List En} {b:Nat} {cs:List Value} (h:Lies W v L) (hc:Cs W b cs) (hnb: ∀x,Value.bool x∉cs) (hw:W.grownBy W' (some b)):Lies W' v L:=by
 obtain⟨a,cap,rfl,h1,h2,h3⟩:=h
 refine⟨a,cap,rfl,h1,h2,fun i hi=>?_⟩
 obtain⟨g,o,rfl,hb,he⟩:=h3 i hi
 have hne:g≠b:=by
  rintro rfl;obtain⟨T,hh⟩:=hc
  have h5:=he.2.1;simp[World.cell?,hh]at h5
  exact hnb _ (List.mem_of_getElem? h5)
 have c:=cell_nb hw hb hne;exact⟨g,o,rfl,Nat.lt_of_lt_of_le hb hw.size,(c _).trans he.1,(c _).trans he.2.1,(c _).trans he.2.2.1,(c _).trans he.2.2.2⟩
namespace Cy
def edE (c:Cn) (x:Pp.Ch):Int:=if¬chE c=0 then chE c else if¬x.b= -1 then 3 else Pp.tapE c.mine x 1
def edR (c:Cn) (x:Pp.Ch):Cn:=if edE c x=0 then⟨c.who,c.fo,c.base,c.cur,Pp.tapR c.mine x 1,c.key,c.ask,c.keys⟩else zeroN
end Cy

set_option maxRecDepth 100000 in
set_option maxHeartbeats 8000000 in
theorem edit_any (c:Cn) (x:Pp.Ch) (v:Value) (w:World) (hv:LiesN w v c) (hs:SizedN c) (hp:x.p.size≤150000000000000) (hq:x.q.size≤150000000000000) (ht:x.t.size≤150000000000000):
    Calls Tryz.prog 19 #[v,.agg #[.int .i64 x.k,.string x.p,.string x.q,.string x.t,.int .i64 x.b]] w fun e w'=> ∃u,e= .returned (.tuple #[u,.int .i64 (Cy.edE c x)])∧LiesN w' u (Cy.edR c x)∧Below w.heap.size w w':=by
 have HV:=hid hv;have HS:=hid hs;obtain⟨vb,vm,va,rfl,lb,lm,la⟩:=hv
 obtain⟨ab,cb,rfl,_⟩:=lb
 obtain⟨am,cm,rfl,_⟩:=lm
 obtain⟨aa,ca,rfl,_⟩:=la
 obtain⟨r,hr⟩: ∃r,r=Cy.edE c x:=⟨_,rfl⟩
 rw[←hr];have HR:=hid hr;clear hr hs;obtain⟨wa,hwa⟩: ∃wa,wa=w.alloc (.cells #[.string c.who,.string c.fo,.slice ab c.base.length cb,.int .i64 c.cur,.slice am c.mine.length cm,.string c.key,.slice aa c.ask.length ca,.int .i64 c.keys] 25):=⟨_,rfl⟩
 obtain⟨wb,hwb⟩: ∃wb,wb=wa.alloc (.cells #[.int .i64 x.k,.string x.p,.string x.q,.string x.t,.int .i64 x.b] 53):=⟨_,rfl⟩
 obtain⟨wz,hwz⟩: ∃wz,wz=wb.alloc (.cells #[.string ⟨#[]⟩,.string ⟨#[]⟩,.slice none 0 0,.int .i64 0,.slice none 0 0,.string ⟨#[]⟩,.slice none 0 0,.int .i64 0] 25):=⟨_,rfl⟩
 have sa:wa.heap.size=w.heap.size+1:=by rw[hwa];simp
 have sb:wb.heap.size=w.heap.size+1+1:=by rw[hwb];simp[sa]
 have bwa:Below w.heap.size w wa:=by rw[hwa];exact(Below.refl _ _).alloc (Nat.le_refl _) _
 have bwb:Below wa.heap.size wa wb:=by rw[hwb];exact(Below.refl _ _).alloc (Nat.le_refl _) _
 have bwz:Below wb.heap.size wb wz:=by rw[hwz];exact(Below.refl _ _).alloc (Nat.le_refl _) _
 have hbz:Below w.heap.size w wz:=below_tr bwa (below_tr bwb bwz);have HX:Hid (Cs wz w.heap.size [.string c.who,.string c.fo,.slice ab c.base.length cb,.int .i64 c.cur,.slice am c.mine.length cm,.string c.key,.slice aa c.ask.length ca,.int .i64 c.keys]):=(((by rw[hwa];exact Cs.new w [.string c.who,.string c.fo,.slice ab c.base.length cb,.int .i64 c.cur,.slice am c.mine.length cm,.string c.key,.slice aa c.ask.length ca,.int .i64 c.keys] _:Cs wa w.heap.size [.string c.who,.string c.fo,.slice ab c.base.length cb,.int .i64 c.cur,.slice am c.mine.length cm,.string c.key,.slice aa c.ask.length ca,.int .i64 c.keys]).below bwb).below bwz:Cs wz w.heap.size _)
 have HC:Hid (Cs wz (w.heap.size+1) [.int .i64 x.k,.string x.p,.string x.q,.string x.t,.int .i64 x.b]):=((by rw[←sa,hwb];exact Cs.new wa [.int .i64 x.k,.string x.p,.string x.q,.string x.t,.int .i64 x.b] _:Cs wb (w.heap.size+1) [.int .i64 x.k,.string x.p,.string x.q,.string x.t,.int .i64 x.b]).below bwz:Cs wz (w.heap.size+1) _)
 have HY:=hid (show Cs wz (w.heap.size+1+1) zs from by rw[←sb,hwz];exact Cs.new wb zs _);have hNz:w.heap.size+1+1<wz.heap.size:=HY.out.lt;have hwzz:(((w.alloc (.cells #[.string c.who,.string c.fo,.slice ab c.base.length cb,.int .i64 c.cur,.slice am c.mine.length cm,.string c.key,.slice aa c.ask.length ca,.int .i64 c.keys] 25)).alloc (.cells #[.int .i64 x.k,.string x.p,.string x.q,.string x.t,.int .i64 x.b] 53)).alloc (.cells #[.string ⟨#[]⟩,.string ⟨#[]⟩,.slice none 0 0,.int .i64 0,.slice none 0 0,.string ⟨#[]⟩,.slice none 0 0,.int .i64 0] 25))=wz:=by rw[hwz,hwb,hwa]
 have HWZ:=hid hwzz;clear hwa hwb hwz bwa bwb bwz sa sb hwzz;go_enter Tryz.func19,Tryz.ntmps19
 go_wp2_with fail;rw[HWZ.out];clear HWZ;refine(checked_any c _ _ (HV.out.below hbz) HS.out).mono ?_
 rintro e w1 ⟨u1,rfl,hN1,hb1⟩;have hs1:=hb1.size;have HX1:=hid (HX.out.below hb1);have HC1:=hid (HC.out.below hb1);have HY1:=hid (HY.out.below hb1);obtain⟨d,hd⟩: ∃d,d=Cy.ok c:=⟨_,rfl⟩
 rw[←hd]at hN1;have HD:=hid hd;have HN1:=hid hN1;obtain⟨vb,vm,va,rfl,⟨lb1,ob1⟩,⟨lm1,om1⟩,la1,oa1⟩:=hN1
 have HLB1:=hid (And.intro lb1 ob1);have HLM1:=hid (And.intro lm1 om1);have HLA1:=hid (And.intro la1 oa1);clear ob1 om1 oa1;obtain⟨eb,fb,rfl,_⟩:=lb1
 obtain⟨em,fm,rfl,_⟩:=lm1
 obtain⟨ea,fa,rfl,_⟩:=la1
 clear hd;obtain⟨w2,hw2⟩: ∃w2,w2=((((((((w1.setCell ⟨w.heap.size,0,none⟩ (.string d.who)).setCell ⟨w.heap.size,1,none⟩ (.string d.fo)).setCell ⟨w.heap.size,2,none⟩ (.slice eb d.base.length fb)).setCell ⟨w.heap.size,3,none⟩ (.int .i64 d.cur)).setCell ⟨w.heap.size,4,none⟩ (.slice em d.mine.length fm)).setCell ⟨w.heap.size,5,none⟩ (.string d.key)).setCell ⟨w.heap.size,6,none⟩ (.slice ea d.ask.length fa)).setCell ⟨w.heap.size,7,none⟩ (.int .i64 d.keys)):=⟨_,rfl⟩
 have hg2:w1.grownBy w2 (some w.heap.size):=by rw[hw2];exact(grown_on (grown_on (grown_on (grown_on (grown_on (grown_on (grown_on (nb_set w1 (w.heap.size) 0 (.string d.who)) (nb_set _ (w.heap.size) 1 (.string d.fo))) (nb_set _ (w.heap.size) 2 (.slice eb d.base.length fb))) (nb_set _ (w.heap.size) 3 (.int .i64 d.cur))) (nb_set _ (w.heap.size) 4 (.slice em d.mine.length fm))) (nb_set _ (w.heap.size) 5 (.string d.key))) (nb_set _ (w.heap.size) 6 (.slice ea d.ask.length fa))) (nb_set _ (w.heap.size) 7 (.int .i64 d.keys)))
 have HX2:Hid (Cs w2 w.heap.size [.string d.who,.string d.fo,.slice eb d.base.length fb,.int .i64 d.cur,.slice em d.mine.length fm,.string d.key,.slice ea d.ask.length fa,.int .i64 d.keys]):=(by rw[hw2];exact((((((((HX1.out.set 0 (.string d.who)).set 1 (.string d.fo)).set 2 (.slice eb d.base.length fb)).set 3 (.int .i64 d.cur)).set 4 (.slice em d.mine.length fm)).set 5 (.string d.key)).set 6 (.slice ea d.ask.length fa)).set 7 (.int .i64 d.keys)):Cs w2 w.heap.size _)
 have HC2:=hid (HC1.out.nb hg2 (by omega));have HY2:=hid (HY1.out.nb hg2 (by omega));have kk: ∀{W:World} {u:Value},Own wz.heap.size W u→ ∀b,u.ownBlock=some b→b≠w.heap.size:=fun h b hb=>by have:=(h b hb).1;omega
 have kz: ∀{W:World} {u:Value},Own wz.heap.size W u→ ∀b,u.ownBlock=some b→b≠w.heap.size+1+1:=fun h b hb=>by have:=(h b hb).1;omega
 have HLB2:=hid (And.intro (HLB1.out.1.nbo hg2 (kk HLB1.out.2)) (HLB1.out.2.nb hg2 (kk HLB1.out.2)));have HLM2:=hid (And.intro (HLM1.out.1.nbo hg2 (kk HLM1.out.2)) (HLM1.out.2.nb hg2 (kk HLM1.out.2)));have HLA2:=hid (And.intro (HLA1.out.1.nbo hg2 (kk HLA1.out.2)) (HLA1.out.2.nb hg2 (kk HLA1.out.2)));have HKK:=hid (show∀(W:World) (u:Value),Own wz.heap.size W u→ ∀b,u.ownBlock=some b→b≠w.heap.size from fun W u h b hb=>kk h b hb);have HKZ:=hid (show∀(W:World) (u:Value),Own wz.heap.size W u→ ∀b,u.ownBlock=some b→b≠w.heap.size+1+1 from fun W u h b hb=>kz h b hb);clear kk kz;have hb2:Below w.heap.size w w2:=by rw[hw2];exact(((((((((below_tr hbz hb1).setCell (p:=⟨w.heap.size,0,none⟩) (Nat.le_refl _) _).setCell (p:=⟨w.heap.size,1,none⟩) (Nat.le_refl _) _).setCell (p:=⟨w.heap.size,2,none⟩) (Nat.le_refl _) _).setCell (p:=⟨w.heap.size,3,none⟩) (Nat.le_refl _) _).setCell (p:=⟨w.heap.size,4,none⟩) (Nat.le_refl _) _).setCell (p:=⟨w.heap.size,5,none⟩) (Nat.le_refl _) _).setCell (p:=⟨w.heap.size,6,none⟩) (Nat.le_refl _) _).setCell (p:=⟨w.heap.size,7,none⟩) (Nat.le_refl _) _)
 have hs2:=hg2.size;have p0:=HX1.out.cell 0 rfl;have p1:=HX1.out.cell 1 rfl;have p2:=HX1.out.cell 2 rfl;have p3:=HX1.out.cell 3 rfl;have p4:=HX1.out.cell 4 rfl;have p5:=HX1.out.cell 5 rfl;have p6:=HX1.out.cell 6 rfl;have p7:=HX1.out.cell 7 rfl;have f0:=HX1.out.fr 0;have f1:=HX1.out.fr 1;have f2:=HX1.out.fr 2;have f3:=HX1.out.fr 3;have f4:=HX1.out.fr 4;have f5:=HX1.out.fr 5;have f6:=HX1.out.fr 6;have f7:=HX1.out.fr 7;by_cases h0:Cy.chE c=0
 · have hde:=hid (show d=c from by rw[HD.out,Cy.ok_yes h0])
   have H0:=hid h0;rw[h0];clear h0;have k4:=HC2.out.cell 4 rfl;by_cases hx:x.b= -1
   · have hxb:=hid hx
     go_upto_region 4 with fail;rw[←hw2];clear hw2 p0 p1 p2 p3 p4 p5 p6 p7 f0 f1 f2 f3 f4 f5 f6 f7;have x4:=HX2.out.cell 4 rfl;have z0:=HC2.out.cell 0 rfl;have z1:=HC2.out.cell 1 rfl;have z2:=HC2.out.cell 2 rfl;have z3:=HC2.out.cell 3 rfl;have hs0:=hid HS.out;have hxi:(x.b== -1)=true:=by simpa using hx
     clear hx;go_wp2_with fail;refine(tapply_all d.mine _ x.k x.p x.q x.t x.b 1 _ HLM2.out.1 (by rw[hde.out];exact HS.out.mine) hp hq ht).mono ?_
     rintro e w3 ⟨u3,rfl,hl3,hb3⟩;have HL3:=hid hl3;obtain⟨ua,uc,rfl,_⟩:=hl3
     have hs3:=hb3.size;have HX3:=hid (HX2.out.below hb3);have HY3:=hid (HY2.out.below hb3);clear x4 z0 z1 z2 z3 k4;obtain⟨w4,hw4⟩: ∃w4,w4=w3.setCell ⟨w.heap.size,4,none⟩ (.slice ua (Pp.tapR d.mine ⟨x.k,x.p,x.q,x.t,x.b⟩ 1).length uc):=⟨_,rfl⟩
     have hg4:w3.grownBy w4 (some w.heap.size):=by rw[hw4];exact nb_set _ _ _ _
     have HX4:Hid (Cs w4 w.heap.size [.string d.who,.string d.fo,.slice eb d.base.length fb,.int .i64 d.cur,.slice ua (Pp.tapR d.mine ⟨x.k,x.p,x.q,x.t,x.b⟩ 1).length uc,.string d.key,.slice ea d.ask.length fa,.int .i64 d.keys]):=(by rw[hw4];exact HX3.out.set 4 _:Cs w4 w.heap.size _)
     have HY4:=hid (HY3.out.nb hg4 (by omega));have hb4:Below w.heap.size w w4:=by rw[hw4];exact(below_tr hb2 hb3).setCell (p:=⟨w.heap.size,4,none⟩) (Nat.le_refl _) _
     have hs4:=hg4.size;have HLM4:=hid (show Lies w4 (.slice ua (Pp.tapR d.mine ⟨x.k,x.p,x.q,x.t,x.b⟩ 1).length uc) (Pp.tapR d.mine ⟨x.k,x.p,x.q,x.t,x.b⟩ 1)from HL3.out.offbox HX3.out (fun z hz=>by simp at hz) hg4);have HLB4:=hid (And.intro ((HLB2.out.1.below hb3).nbo hg4 (HKK.out _ _ HLB2.out.2)) ((HLB2.out.2.below hb3).nb hg4 (HKK.out _ _ HLB2.out.2)));have HLA4:=hid (And.intro ((HLA2.out.1.below hb3).nbo hg4 (HKK.out _ _ HLA2.out.2)) ((HLA2.out.2.below hb3).nb hg4 (HKK.out _ _ HLA2.out.2)));have c4:=HX3.out.cell 4 rfl;have f4:=HX3.out.fr 4;by_cases hy:Pp.tapE d.mine ⟨x.k,x.p,x.q,x.t,x.b⟩ 1=0
     · have HOK:=hid (show Cy.edR c x=⟨d.who,d.fo,d.base,d.cur,Pp.tapR d.mine ⟨x.k,x.p,x.q,x.t,x.b⟩ 1,d.key,d.ask,d.keys⟩∧r=0 from by
        have h3:Cy.edE c x=0:=by rw[Cy.edE,if_neg (fun z=>z H0.out),if_neg (fun z=>z hxb.out),←hde.out];exact hy
        exact⟨by rw[Cy.edR,if_pos h3,hde.out],by rw[HR.out,h3]⟩)
       rw[hy];clear hy;go_upto_region 9 with fail;rw[←hw4];clear hw4 c4 f4;have p0:=HX4.out.cell 0 rfl;have p1:=HX4.out.cell 1 rfl;have p2:=HX4.out.cell 2 rfl;have p3:=HX4.out.cell 3 rfl;have p4:=HX4.out.cell 4 rfl;have p5:=HX4.out.cell 5 rfl;have p6:=HX4.out.cell 6 rfl;have p7:=HX4.out.cell 7 rfl;have y0:=HY4.out.cell 0 rfl;have y1:=HY4.out.cell 1 rfl;have y2:=HY4.out.cell 2 rfl;have y3:=HY4.out.cell 3 rfl;have y4:=HY4.out.cell 4 rfl;have y5:=HY4.out.cell 5 rfl;have y6:=HY4.out.cell 6 rfl;have y7:=HY4.out.cell 7 rfl;have g0:=HY4.out.fr 0;have g1:=HY4.out.fr 1;have g2:=HY4.out.fr 2;have g3:=HY4.out.fr 3;have g4:=HY4.out.fr 4;have g5:=HY4.out.fr 5;have g6:=HY4.out.fr 6;have g7:=HY4.out.fr 7;have hne: ¬w.heap.size=w.heap.size+1+1:=by omega
       go_wp2_with fail;refine bodyPost_ret (v:= .tuple #[.agg #[.string d.who,.string d.fo,.slice eb d.base.length fb,.int .i64 d.cur,.slice ua (Pp.tapR d.mine ⟨x.k,x.p,x.q,x.t,x.b⟩ 1).length uc,.string d.key,.slice ea d.ask.length fa,.int .i64 d.keys],.int .i64 0]) (by simp[results,Tryz.results19,go_sem,y0,y1,y2,y3,y4,y5,y6,y7]) rfl ⟨_,by rw[HOK.out.2],?_,?_⟩
       · rw[HOK.out.1]
         have hgz:w4.grownBy _ (some (w.heap.size+1+1)):=(grown_on (grown_on (grown_on (grown_on (grown_on (grown_on (grown_on (nb_set w4 (w.heap.size+1+1) 0 (.string d.who)) (nb_set _ (w.heap.size+1+1) 1 (.string d.fo))) (nb_set _ (w.heap.size+1+1) 2 (.slice eb d.base.length fb))) (nb_set _ (w.heap.size+1+1) 3 (.int .i64 d.cur))) (nb_set _ (w.heap.size+1+1) 4 (.slice ua (Pp.tapR d.mine ⟨x.k,x.p,x.q,x.t,x.b⟩ 1).length uc))) (nb_set _ (w.heap.size+1+1) 5 (.string d.key))) (nb_set _ (w.heap.size+1+1) 6 (.slice ea d.ask.length fa))) (nb_set _ (w.heap.size+1+1) 7 (.int .i64 d.keys)))
         exact⟨_,_,_,rfl,HLB4.out.1.nbo hgz (HKZ.out _ _ HLB4.out.2),HLM4.out.offbox HY4.out (fun z hz=>by simp at hz) hgz,HLA4.out.1.nbo hgz (HKZ.out _ _ HLA4.out.2)⟩
       · exact((((((((hb4.setCell (p:=⟨w.heap.size+1+1,0,none⟩) (by show _≤w.heap.size+1+1;omega) _).setCell (p:=⟨w.heap.size+1+1,1,none⟩) (by show _≤w.heap.size+1+1;omega) _).setCell (p:=⟨w.heap.size+1+1,2,none⟩) (by show _≤w.heap.size+1+1;omega) _).setCell (p:=⟨w.heap.size+1+1,3,none⟩) (by show _≤w.heap.size+1+1;omega) _).setCell (p:=⟨w.heap.size+1+1,4,none⟩) (by show _≤w.heap.size+1+1;omega) _).setCell (p:=⟨w.heap.size+1+1,5,none⟩) (by show _≤w.heap.size+1+1;omega) _).setCell (p:=⟨w.heap.size+1+1,6,none⟩) (by show _≤w.heap.size+1+1;omega) _).setCell (p:=⟨w.heap.size+1+1,7,none⟩) (by show _≤w.heap.size+1+1;omega) _)
     · have HZR:=hid (show Cy.edR c x=zeroN∧r=Pp.tapE d.mine ⟨x.k,x.p,x.q,x.t,x.b⟩ 1 from by
        have h3:Cy.edE c x=Pp.tapE d.mine ⟨x.k,x.p,x.q,x.t,x.b⟩ 1:=by rw[Cy.edE,if_neg (fun z=>z H0.out),if_neg (fun z=>z hxb.out),←hde.out]
        exact⟨by rw[Cy.edR,if_neg (by rw[h3];exact hy)],by rw[HR.out,h3]⟩)
       have hy':(Pp.tapE d.mine ⟨x.k,x.p,x.q,x.t,x.b⟩ 1 !=0)=true:=by simpa using hy
       obtain⟨q,hq'⟩: ∃q,q=Pp.tapE d.mine ⟨x.k,x.p,x.q,x.t,x.b⟩ 1:=⟨_,rfl⟩
       rw[←hq']at HZR hy'⊢;clear hy hq';go_upto_region 8 with fail;rw[←hw4];clear hw4 c4 f4;have y0:=HY4.out.cell 0 rfl;have y1:=HY4.out.cell 1 rfl;have y2:=HY4.out.cell 2 rfl;have y3:=HY4.out.cell 3 rfl;have y4:=HY4.out.cell 4 rfl;have y5:=HY4.out.cell 5 rfl;have y6:=HY4.out.cell 6 rfl;have y7:=HY4.out.cell 7 rfl;have g0:=HY4.out.fr 0;have g1:=HY4.out.fr 1;have g2:=HY4.out.fr 2;have g3:=HY4.out.fr 3;have g4:=HY4.out.fr 4;have g5:=HY4.out.fr 5;have g6:=HY4.out.fr 6;have g7:=HY4.out.fr 7;go_wp2_with fail;refine bodyPost_ret (v:= .tuple #[.agg #[.string ⟨#[]⟩,.string ⟨#[]⟩,.slice none 0 0,.int .i64 0,.slice none 0 0,.string ⟨#[]⟩,.slice none 0 0,.int .i64 0],.int .i64 q]) (by simp[results,Tryz.results19,go_sem,y0,y1,y2,y3,y4,y5,y6,y7]) rfl ⟨_,by rw[HZR.out.2],?_,?_⟩
       · rw[HZR.out.1]
         exact(ownN_zero 0 _).lies
       · exact((((((((hb4.setCell (p:=⟨w.heap.size+1+1,0,none⟩) (by show _≤w.heap.size+1+1;omega) _).setCell (p:=⟨w.heap.size+1+1,1,none⟩) (by show _≤w.heap.size+1+1;omega) _).setCell (p:=⟨w.heap.size+1+1,2,none⟩) (by show _≤w.heap.size+1+1;omega) _).setCell (p:=⟨w.heap.size+1+1,3,none⟩) (by show _≤w.heap.size+1+1;omega) _).setCell (p:=⟨w.heap.size+1+1,4,none⟩) (by show _≤w.heap.size+1+1;omega) _).setCell (p:=⟨w.heap.size+1+1,5,none⟩) (by show _≤w.heap.size+1+1;omega) _).setCell (p:=⟨w.heap.size+1+1,6,none⟩) (by show _≤w.heap.size+1+1;omega) _).setCell (p:=⟨w.heap.size+1+1,7,none⟩) (by show _≤w.heap.size+1+1;omega) _)
   · have HZR:=hid (show Cy.edR c x=zeroN∧r=3 from by
      have h3:Cy.edE c x=3:=by rw[Cy.edE,if_neg (fun z=>z H0.out),if_pos hx]
      exact⟨by rw[Cy.edR,if_neg (by rw[h3];decide)],by rw[HR.out,h3]⟩)
     go_upto_region 4 with fail;rw[←hw2];clear hw2 p0 p1 p2 p3 p4 p5 p6 p7 f0 f1 f2 f3 f4 f5 f6 f7;have hxi:(x.b != -1)=true:=by simpa using hx
     clear hx;have y0:=HY2.out.cell 0 rfl;have y1:=HY2.out.cell 1 rfl;have y2:=HY2.out.cell 2 rfl;have y3:=HY2.out.cell 3 rfl;have y4:=HY2.out.cell 4 rfl;have y5:=HY2.out.cell 5 rfl;have y6:=HY2.out.cell 6 rfl;have y7:=HY2.out.cell 7 rfl;have g0:=HY2.out.fr 0;have g1:=HY2.out.fr 1;have g2:=HY2.out.fr 2;have g3:=HY2.out.fr 3;have g4:=HY2.out.fr 4;have g5:=HY2.out.fr 5;have g6:=HY2.out.fr 6;have g7:=HY2.out.fr 7;go_wp2_with fail;refine bodyPost_ret (v:= .tuple #[.agg #[.string ⟨#[]⟩,.string ⟨#[]⟩,.slice none 0 0,.int .i64 0,.slice none 0 0,.string ⟨#[]⟩,.slice none 0 0,.int .i64 0],.int .i64 3]) (by simp[results,Tryz.results19,go_sem,y0,y1,y2,y3,y4,y5,y6,y7]) rfl ⟨_,by rw[HZR.out.2],?_,?_⟩
     · rw[HZR.out.1]
       exact(ownN_zero 0 _).lies
     · exact((((((((hb2.setCell (p:=⟨w.heap.size+1+1,0,none⟩) (by show _≤w.heap.size+1+1;omega) _).setCell (p:=⟨w.heap.size+1+1,1,none⟩) (by show _≤w.heap.size+1+1;omega) _).setCell (p:=⟨w.heap.size+1+1,2,none⟩) (by show _≤w.heap.size+1+1;omega) _).setCell (p:=⟨w.heap.size+1+1,3,none⟩) (by show _≤w.heap.size+1+1;omega) _).setCell (p:=⟨w.heap.size+1+1,4,none⟩) (by show _≤w.heap.size+1+1;omega) _).setCell (p:=⟨w.heap.size+1+1,5,none⟩) (by show _≤w.heap.size+1+1;omega) _).setCell (p:=⟨w.heap.size+1+1,6,none⟩) (by show _≤w.heap.size+1+1;omega) _).setCell (p:=⟨w.heap.size+1+1,7,none⟩) (by show _≤w.heap.size+1+1;omega) _)
 · have HZR:=hid (show Cy.edR c x=zeroN∧r=Cy.chE c from by
    have h3:Cy.edE c x=Cy.chE c:=by rw[Cy.edE,if_pos h0]
    exact⟨by rw[Cy.edR,if_neg (by rw[h3];exact h0)],by rw[HR.out,h3]⟩)
   have h0':(Cy.chE c !=0)=true:=by simpa using h0
   obtain⟨q,hq⟩: ∃q,q=Cy.chE c:=⟨_,rfl⟩
   rw[←hq]at HZR h0'⊢;clear h0 hq;go_upto_region 3 with fail;rw[←hw2];clear hw2 p0 p1 p2 p3 p4 p5 p6 p7 f0 f1 f2 f3 f4 f5 f6 f7;have y0:=HY2.out.cell 0 rfl;have y1:=HY2.out.cell 1 rfl;have y2:=HY2.out.cell 2 rfl;have y3:=HY2.out.cell 3 rfl;have y4:=HY2.out.cell 4 rfl;have y5:=HY2.out.cell 5 rfl;have y6:=HY2.out.cell 6 rfl;have y7:=HY2.out.cell 7 rfl;have g0:=HY2.out.fr 0;have g1:=HY2.out.fr 1;have g2:=HY2.out.fr 2;have g3:=HY2.out.fr 3;have g4:=HY2.out.fr 4;have g5:=HY2.out.fr 5;have g6:=HY2.out.fr 6;have g7:=HY2.out.fr 7;go_wp2_with fail;refine bodyPost_ret (v:= .tuple #[.agg #[.string ⟨#[]⟩,.string ⟨#[]⟩,.slice none 0 0,.int .i64 0,.slice none 0 0,.string ⟨#[]⟩,.slice none 0 0,.int .i64 0],.int .i64 q]) (by simp[results,Tryz.results19,go_sem,y0,y1,y2,y3,y4,y5,y6,y7]) rfl ⟨_,by rw[HZR.out.2],?_,?_⟩
   · rw[HZR.out.1]
     exact(ownN_zero 0 _).lies
   · exact((((((((hb2.setCell (p:=⟨w.heap.size+1+1,0,none⟩) (by show _≤w.heap.size+1+1;omega) _).setCell (p:=⟨w.heap.size+1+1,1,none⟩) (by show _≤w.heap.size+1+1;omega) _).setCell (p:=⟨w.heap.size+1+1,2,none⟩) (by show _≤w.heap.size+1+1;omega) _).setCell (p:=⟨w.heap.size+1+1,3,none⟩) (by show _≤w.heap.size+1+1;omega) _).setCell (p:=⟨w.heap.size+1+1,4,none⟩) (by show _≤w.heap.size+1+1;omega) _).setCell (p:=⟨w.heap.size+1+1,5,none⟩) (by show _≤w.heap.size+1+1;omega) _).setCell (p:=⟨w.heap.size+1+1,6,none⟩) (by show _≤w.heap.size+1+1;omega) _).setCell (p:=⟨w.heap.size+1+1,7,none⟩) (by show _≤w.heap.size+1+1;omega) _)
end Go.Proofs.YtlllcifehellpaaGreatDoor
namespace Go.Proofs.YtlllcifehellpaaGreatDoor
namespace Sp
def dfE (A B:List En):Int:=if Pp.treeE A=0 then Pp.treeE B else Pp.treeE A
end Sp
end Go.Proofs.YtlllcifehellpaaGreatDoor
