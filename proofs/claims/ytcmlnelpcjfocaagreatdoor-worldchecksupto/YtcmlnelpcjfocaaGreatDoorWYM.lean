/- What tree.move and changed answer, for every change that is right by itself. -/
import Derived.Test.YtcmlnelpcjfocaaGreatDoorWYL
import Derived.Maps.AppendAt
import Derived.Test.YtcmlnelpcjfocaaGreatDoorWYK
import Derived.Test.YtcmlnelpcjfocaaGreatDoorWYJ
set_option linter.unusedSimpArgs false
set_option linter.unusedVariables false
namespace Go.Proofs.YtcmlnelpcjfocaaGreatDoor
open Go.RowKit Go.Proofs.Tryz
set_option maxHeartbeats 4000000
set_option maxRecDepth 100000
theorem vJ (w:World) (a b c d:Value) (T:TypeId) (g:Nat) (y:g=w.heap.size): ∀j u,[a,b,c,d][j]?=some u→(w.alloc (.cells #[a,b,c,d] T)).cell? ((⟨g,0,none⟩:Addr).add j)=some u:=by
 subst y;intro j u f;match j,f with
 |0,f=>simp at f;subst f;simp[Addr.add]
 |1,f=>simp at f;subst f;simp[Addr.add]
 |2,f=>simp at f;subst f;simp[Addr.add]
 |3,f=>simp at f;subst f;simp[Addr.add]
 |j+4,f=>simp at f
theorem vK (x y:ByteArray) (f:Bool) (n:Int): ∀u∈[Value.string x,.bool f,.string y,.int .i64 n],u.oneCell'=true:=by
 intro u d;simp only[List.mem_cons,List.not_mem_nil,or_false]at d;rcases d with rfl|rfl|rfl|rfl<;>rfl
theorem BV (L:List En) (v:Value) (p q t:ByteArray) (b n:Int) (w:World) (hv:an w v L) (hs:da L) (hp:p.size≤150000000000000) (hq:q.size≤150000000000000) (hL:Pp.Good L) (hc:aQ ⟨3,p,q,t,b⟩=0) (hf:L.find? (aO q.data.toList)=none) (x0:En) (IV:L.find? (aO p.data.toList)=some x0):
    Calls prog 279 #[v,.agg #[.int .i64 3,.string p,.string q,.string t,.int .i64 b],.int .i64 n] w fun e w'=>
     ((dw L ⟨3,p,q,t,b⟩).any (fun e=>Pp.big (cn ⟨3,p,q,t,b⟩ e))=true∧e= .returned (.tuple #[.slice none 0 0,.int .i64 2])∧Below w.heap.size w w')∨
     ((dw L ⟨3,p,q,t,b⟩).any (fun e=>Pp.big (cn ⟨3,p,q,t,b⟩ e))=false∧ ∃u,e= .returned (.tuple #[u,.int .i64 0])∧is w.heap.size w' u (fC (fB L ⟨3,p,q,t,b⟩ n) (cW L ⟨3,p,q,t,b⟩))∧Below w.heap.size w w'):=by
 obtain⟨aZ,J7,Jf,Jg,Jh⟩:=info_parts Tryz.infoE
 have O: ∀e∈L,az e.path.data.toList=0:=fun e he=>gv (hL.ents e he)
 have IH:az p.data.toList=0:=iJ hc;have IT:az q.data.toList=0:=me hc rfl;have HK:=hid (show L.filter (fun e=> !eE p.data.toList e)=cW L ⟨3,p,q,t,b⟩from qY fun e he=>by rw[oC (O e he) IH]);have HG:=hid (show L.filter (eE p.data.toList)=dw L ⟨3,p,q,t,b⟩from qY fun e he=>by rw[oC (O e he) IH]);have HV:Hid (an w v L):=hv;have HS:Hid (da L):=hs;have hn:L.length≤60:=hL.len;have JE:(cW L ⟨3,p,q,t,b⟩).length≤L.length:=List.length_filter_le _ _;have JD:(dw L ⟨3,p,q,t,b⟩).length≤L.length:=List.length_filter_le _ _;have HD:Hid ((cW L ⟨3,p,q,t,b⟩++fB L ⟨3,p,q,t,b⟩ n).Pairwise gJ):=qg hL n (n9 IT) hf;have HR:=hid (show(cW L ⟨3,p,q,t,b⟩).Pairwise (fun x y=>Pp.lt x y=true)from List.Pairwise.filter _ hL.rise)
 have HM:=hid (show∀e∈dw L ⟨3,p,q,t,b⟩,e.path.size≤1000000000∧cd [e.path.data.toList,p.data.toList,q.data.toList]=0∧aU e.path.data.toList p.data.toList=true from fun e he=>by
  obtain⟨h1,h2⟩:=jU.1 he
  exact⟨by rw[Lib.size_eq];have:=kK (O e h1);omega,by simp[cd,O e h1,IH,IT],h2⟩)
 have IP:fB L ⟨3,p,q,t,b⟩ n=(dw L ⟨3,p,q,t,b⟩).map (bx ⟨3,p,q,t,b⟩ n):=rfl
 have J5:dw L ⟨3,p,q,t,b⟩≠[]:=fun e=>by
  have h1:=List.mem_of_find?_eq_some IV;have h2:x0.path.data.toList=p.data.toList:=by have:=List.find?_some IV;simpa[aO]using this
  have h3:x0∈dw L ⟨3,p,q,t,b⟩:=jU.2 ⟨h1,by rw[h2];exact zU _⟩;rw[e]at h3;cases h3
 rw[IP]at HD⊢;clear IP IV;generalize cW L ⟨3,p,q,t,b⟩=K at*;generalize dw L ⟨3,p,q,t,b⟩=G at*;clear hv hs hL hc hf O IH IT;go_enter func279,ntmps279
 go_wp2_with fail;refine(nk p _ (by omega)).mono ?_
 rintro e w1 ⟨rfl,Jb,IE⟩;obtain⟨c0,c1,c2,c3,c4,I,P⟩:=aw IE
 have Jp:=hid (show dk w1 321 #[.pointer (some ⟨w.heap.size+1,0,none⟩)] (eE p.data.toList)from by simpa using Jb);clear Jb;go_wp2_with fail;refine(qq _ _ (eE p.data.toList) _ Jp.out).mono ?_
 rintro e w2 ⟨rfl,Jc,J2⟩;have Jq:=hid Jc;have I0:=IE.trans (J2.mono IE.size);clear Jc c0 c1 c2 c3 c4 I P IE J2;obtain⟨c0,c1,c2,c3,c4,I,P⟩:=aw I0
 have IM:=P;go_wp2_with fail;refine(nl L v _ _ (fun e=> !eE p.data.toList e) _ (HV.out.below I) Jq.out (by omega) HS.out).mono ?_
 rintro e w3 ⟨u1,rfl,Iz,JG,J3⟩;rw[HK.out]at Iz;have I5:=I0.trans (J3.mono I0.size);clear c0 c1 c2 c3 c4 I P I0;obtain⟨c0,c1,c2,c3,c4,I,P⟩:=aw I5
 have Je: ∀g,u1.ownBlock=some g→w.heap.size<g∧g<w3.heap.size:=fun g T=>⟨Nat.lt_of_lt_of_le IM (Iz.lt g T).1,(Iz.lt g T).2⟩
 have IZ:=hid (Pp.own_mono (B:=w.heap.size) Iz (Nat.le_of_lt IM));clear Iz;go_wp2_with fail;refine(nk p _ (by omega)).mono ?_
 rintro e w4 ⟨rfl,Jd,IF⟩;have Jr:=hid Jd;have I6:=I5.trans (IF.mono I5.size);have J0:=hid (gK IZ.out IF);have Jy:=IF.size;clear Jd c0 c1 c2 c3 c4 I P I5 J3 IF IZ;obtain⟨c0,c1,c2,c3,c4,I,P⟩:=aw I6
 go_wp2_with fail;refine(nl L v _ _ (eE p.data.toList) _ (HV.out.below I) Jr.out (by omega) HS.out).mono ?_
 rintro e w5 ⟨u2,rfl,H,JH,IG⟩;rw[HG.out]at H;have Jl:=hid (gK J0.out IG);have IK:=I6.trans (IG.mono I6.size);have Jz:=IG.size;clear c0 c1 c2 c3 c4 I P I6 IG J0;obtain⟨c0,c1,c2,c3,c4,I,P⟩:=aw IK
 obtain⟨Q,Jv,rfl,JC,Jx,JB,JF⟩:=Pp.own_shape H J5
 have Jj:=hid (show∀i (h:i<G.length),dp w5 Q (i*4) G[i]from fun i h=>by
  obtain⟨a,IR,hv,_,_,hL⟩:=kP H (by omega)
  obtain⟨b',o',ha,_,he⟩:=hL i h
  cases hv
  cases ha
  simpa using he)
 have C1:=hid c1;have C2:=hid c2;clear c0 c1 c2 c3 c4 H IK;go_wp2_with fail;go_loopw [8,25] (fun u i wr=> ∃k:Nat,k≤G.length∧i= .int .i64 k∧Hid ((G.take k).any (fun e=>Pp.big (cn ⟨3,p,q,t,b⟩ e))=false)∧wr.ownsRow w.heap.size 107 4 u (K++(G.take k).map (bx ⟨3,p,q,t,b⟩ n)).length (cr (K++(G.take k).map (bx ⟨3,p,q,t,b⟩ n)))∧(∀g,u.ownBlock=some g→w.heap.size<g∧g≠Q)∧wr.heap[Q]?=w5.heap[Q]?∧wr.heap[w.heap.size]?=w5.heap[w.heap.size]?∧w5.heap.size≤wr.heap.size∧Below w.heap.size w wr) (fun _ i _=>G.length-(intOf i).toNat)
 case atStart=>exact⟨0,Nat.zero_le _,rfl,(by simp:(G.take 0).any (fun e=>Pp.big (cn ⟨3,p,q,t,b⟩ e))=false),by simpa using Jl.out,fun g T=>⟨(Je g T).1,by have:=(Je g T).2;omega⟩,rfl,rfl,Nat.le_refl _,I⟩
 case round=>
  obtain⟨k,hk,rfl,HA,E,hub,I7,V,IA,d⟩:=hrel
  have cc: ∀o,wr.cell? ⟨Q,o,none⟩=w5.cell? ⟨Q,o,none⟩:=fun o=>World.cell?_of_block I7
  have q1:wr.cell? ⟨w.heap.size,1,none⟩=some (.string p):=(World.cell?_of_block V).trans C1.out;have bZ:wr.cell? ⟨w.heap.size,2,none⟩=some (.string q):=(World.cell?_of_block V).trans C2.out;have II: ∀o,(wr.alloc o).cell? ⟨w.heap.size,1,none⟩=some (.string p):=fun o=>(((Below.refl wr.heap.size wr).alloc (Nat.le_refl _) o).cell (p:=⟨w.heap.size,1,none⟩) (by show w.heap.size<_;omega)).trans q1
  have IJ: ∀o,(wr.alloc o).cell? ⟨w.heap.size,2,none⟩=some (.string q):=fun o=>(((Below.refl wr.heap.size wr).alloc (Nat.le_refl _) o).cell (p:=⟨w.heap.size,2,none⟩) (by show w.heap.size<_;omega)).trans bZ
  by_cases Iw:k<G.length
  · obtain⟨aL,e1,aE,e3⟩:=Jj.out k Iw
    have c0:=(cc _).trans aL;have c1:=(cc _).trans e1;have c2:=(cc _).trans aE;have c3:=(cc _).trans e3;obtain⟨JA,O,IU⟩:=HM.out G[k] (List.getElem_mem Iw)
    have Z:=uC O IU;rw[tL O IU]at Z
    have Iv:(G.take (k+1)).any (fun e=>Pp.big (cn ⟨3,p,q,t,b⟩ e))=Pp.big (cn ⟨3,p,q,t,b⟩ G[k]):=by
     rw[List.take_succ_eq_append_getElem Iw,List.any_append,HA.out];simp
    have Ix:K++(G.take (k+1)).map (bx ⟨3,p,q,t,b⟩ n)=(K++(G.take k).map (bx ⟨3,p,q,t,b⟩ n))++[bx ⟨3,p,q,t,b⟩ n G[k]]:=by
     rw[List.take_succ_eq_append_getElem Iw,List.map_append,List.append_assoc];rfl
    have IL:(K++(G.take k).map (bx ⟨3,p,q,t,b⟩ n)).length≤200:=by
     rw[List.length_append,List.length_map,List.length_take];omega
    generalize K++(G.take k).map (bx ⟨3,p,q,t,b⟩ n)=X at*;clear cc aL e1 aE e3 O IU;cases N:Pp.big (bW G[k].path.data.toList p.data.toList q.data.toList)with
    |true=>
     rw[N,if_pos rfl]at Z;have HE:=hid Z;have HX:=hid (show G.any (fun e=>Pp.big (cn ⟨3,p,q,t,b⟩ e))=true from List.any_eq_true.2 ⟨G[k],List.getElem_mem Iw,N⟩);clear Z Iv Ix N;go_wp2_with fail;refine(qp G[k].path p q _ (by omega) (by omega) (by omega)).mono ?_
     rintro e w6 ⟨rfl,z⟩;rw[HE.out,m7 (by decide)];obtain⟨d0,d1,d2,d3,A,IN⟩:=dO z
     have IS:=bn d A;clear z c0 c1 c2 c3 q1 bZ II IJ;go_wp2_with fail;go_ret2;exact Or.inl ⟨HX.out,rfl,IS⟩
    |false=>
     rw[N,if_neg (by decide)]at Z;have HE:=hid Z;have IX:=hid (show(G.take (k+1)).any (fun e=>Pp.big (cn ⟨3,p,q,t,b⟩ e))=false from Iv.trans N);have IY:=hid Ix;clear Z Iv Ix N
     have Js : ((G[k].path.toList == p.toList) = true ∧ Hid (Pp.cells (bx ⟨3, p, q, t, b⟩ n G[k]) = [.string ⟨(bW G[k].path.data.toList p.data.toList q.data.toList).toArray⟩, .bool G[k].folder, .string G[k].text, .int .i64 n])) ∨
         ((G[k].path.toList==p.toList)=false∧Hid (Pp.cells (bx ⟨3,p,q,t,b⟩ n G[k])=[.string ⟨(bW G[k].path.data.toList p.data.toList q.data.toList).toArray⟩,.bool G[k].folder,.string G[k].text,.int .i64 G[k].ver])):=by
      cases he:(G[k].path.toList==p.toList)with
      |true=>
       have gm:G[k].path.data.toList=p.data.toList:=by rw[Lib.toList_data,Lib.toList_data]at he;simpa using he
       refine Or.inl ⟨rfl,(by rw[Pp.cells,bx];simp only[gm,if_true,cn]:Pp.cells (bx ⟨3,p,q,t,b⟩ n G[k])=_)⟩
      |false=>
       have gm: ¬G[k].path.data.toList=p.data.toList:=by rw[Lib.toList_data,Lib.toList_data]at he;simpa using he
       refine Or.inr ⟨rfl,(by rw[Pp.cells,bx];simp only[gm,if_false,cn]:Pp.cells (bx ⟨3,p,q,t,b⟩ n G[k])=_)⟩
     rcases Js with⟨Ju,HC⟩|⟨Ju,HC⟩
     · go_wp2_with fail
       refine(qp G[k].path p q _ (by omega) (by omega) (by omega)).mono ?_
       rintro e w6 ⟨rfl,z⟩;rw[HE.out,gu rfl];obtain⟨d0,d1,d2,d3,A,IN⟩:=dO z
       have f0:=ip z 0;have f3:=ip z 3;have IW:w6.cell? ⟨w.heap.size,1,none⟩=some (.string p):=(A.cell (p:=⟨w.heap.size,1,none⟩) (by show w.heap.size<_;omega)).trans q1;clear z c0 c1 c2 c3 q1 bZ II IJ;have F: ∀o,Below wr.heap.size wr (((w6.setCell ⟨wr.heap.size,3,none⟩ (.int .i64 n)).setCell ⟨wr.heap.size,0,none⟩ (.string ⟨(bW G[k].path.data.toList p.data.toList q.data.toList).toArray⟩)).alloc o):=fun o=>Below.alloc (((A.setCell (p:=⟨wr.heap.size,3,none⟩) (Nat.le_refl _) _).setCell (p:=⟨wr.heap.size,0,none⟩) (Nat.le_refl _) _)) (by first|(simp;omega)|omega) o
       go_wp2_with (at_builtin;refine wpList_append_own_at _ rfl _ _ 44 rfl w.heap.size 107 aZ (.agg #[.string ⟨#[]⟩,.bool false,.string ⟨#[]⟩,.int .i64 0]) 4 48 underlying44 J7 Jf Jg Jh rfl (by decide) _ _ _ rfl (gK E (F _)) ⟨w6.heap.size,0,none⟩ 1 1 [.string ⟨(bW G[k].path.data.toList p.data.toList q.data.toList).toArray⟩,.bool G[k].folder,.string G[k].text,.int .i64 n] rfl rfl ?c1 ?c2 ?c3 ?c4 ?c5 ?_)
       case c1=>exact vJ _ _ _ _ _ _ _ (by simp)
       case c2=>exact vK _ _ _ _
       case c3=>unfold maxLen;omega
       case c4=>omega
       case c5=>have:=d.size;simp;omega
       intro v2 J H f Iy S;have U:=(F (.cells #[.string ⟨(bW G[k].path.data.toList p.data.toList q.data.toList).toArray⟩,.bool G[k].folder,.string G[k].text,.int .i64 n] 107)).size;have Y:Below w.heap.size w J:=(d.trans ((F _).mono d.size)).grown f (by have:=d.size;omega) (fun g T=>Nat.le_of_lt (hub g T).1);have I8:J.heap[Q]?=w5.heap[Q]?:=((f.block Q (by omega) (fun e=>(hub Q e.symm).2 rfl)).trans ((F _).block Q (by omega))).trans I7;have I9:J.heap[w.heap.size]?=w5.heap[w.heap.size]?:=((f.block w.heap.size (by have:=d.size;omega) (fun e=>Nat.lt_irrefl _ (hub _ e.symm).1)).trans ((F _).block w.heap.size (by omega))).trans V;have IB:w5.heap.size≤J.heap.size:=Nat.le_trans IA (Nat.le_trans U f.size)
       have IC: ∀g,v2.ownBlock=some g→w.heap.size<g∧g≠Q:=fun g T=>by
        rcases S with h|h
        · exact hub g (h.symm.trans T)
        · rw[h]at T
          have e:=Option.some.inj T;constructor<;>omega
       rw[←HC.out,iq]at H;have HO:Hid (J.ownsRow w.heap.size 107 4 v2 (X.length+1) (cr (X++[bx ⟨3,p,q,t,b⟩ n G[k]]))):=H;clear H f Iy S E hub I7 V IA F U d d0 d1 d2 d3 f0 f3 IW A;go_wp2_with fail;go_roundw
       case rel=>exact⟨k+1,by omega,by simp,IX,by rw[IY.out,List.length_append];exact HO.out,IC,I8,I9,IB,Y⟩
       case measure=>simp[intOf];omega
     · go_wp2_with fail
       refine(qp G[k].path p q _ (by omega) (by omega) (by omega)).mono ?_
       rintro e w6 ⟨rfl,z⟩;rw[HE.out,gu rfl];obtain⟨d0,d1,d2,d3,A,IN⟩:=dO z
       have f0:=ip z 0;have f3:=ip z 3;have IW:w6.cell? ⟨w.heap.size,1,none⟩=some (.string p):=(A.cell (p:=⟨w.heap.size,1,none⟩) (by show w.heap.size<_;omega)).trans q1;clear z c0 c1 c2 c3 q1 bZ II IJ;have F: ∀o,Below wr.heap.size wr ((w6.setCell ⟨wr.heap.size,0,none⟩ (.string ⟨(bW G[k].path.data.toList p.data.toList q.data.toList).toArray⟩)).alloc o):=fun o=>Below.alloc ((A.setCell (p:=⟨wr.heap.size,0,none⟩) (Nat.le_refl _) _)) (by first|(simp;omega)|omega) o
       go_wp2_with (at_builtin;refine wpList_append_own_at _ rfl _ _ 44 rfl w.heap.size 107 aZ (.agg #[.string ⟨#[]⟩,.bool false,.string ⟨#[]⟩,.int .i64 0]) 4 48 underlying44 J7 Jf Jg Jh rfl (by decide) _ _ _ rfl (gK E (F _)) ⟨w6.heap.size,0,none⟩ 1 1 [.string ⟨(bW G[k].path.data.toList p.data.toList q.data.toList).toArray⟩,.bool G[k].folder,.string G[k].text,.int .i64 G[k].ver] rfl rfl ?c1 ?c2 ?c3 ?c4 ?c5 ?_)
       case c1=>exact vJ _ _ _ _ _ _ _ (by simp)
       case c2=>exact vK _ _ _ _
       case c3=>unfold maxLen;omega
       case c4=>omega
       case c5=>have:=d.size;simp;omega
       intro v2 J H f Iy S;have U:=(F (.cells #[.string ⟨(bW G[k].path.data.toList p.data.toList q.data.toList).toArray⟩,.bool G[k].folder,.string G[k].text,.int .i64 G[k].ver] 107)).size;have Y:Below w.heap.size w J:=(d.trans ((F _).mono d.size)).grown f (by have:=d.size;omega) (fun g T=>Nat.le_of_lt (hub g T).1);have I8:J.heap[Q]?=w5.heap[Q]?:=((f.block Q (by omega) (fun e=>(hub Q e.symm).2 rfl)).trans ((F _).block Q (by omega))).trans I7;have I9:J.heap[w.heap.size]?=w5.heap[w.heap.size]?:=((f.block w.heap.size (by have:=d.size;omega) (fun e=>Nat.lt_irrefl _ (hub _ e.symm).1)).trans ((F _).block w.heap.size (by omega))).trans V;have IB:w5.heap.size≤J.heap.size:=Nat.le_trans IA (Nat.le_trans U f.size)
       have IC: ∀g,v2.ownBlock=some g→w.heap.size<g∧g≠Q:=fun g T=>by
        rcases S with h|h
        · exact hub g (h.symm.trans T)
        · rw[h]at T
          have e:=Option.some.inj T;constructor<;>omega
       rw[←HC.out,iq]at H;have HO:Hid (J.ownsRow w.heap.size 107 4 v2 (X.length+1) (cr (X++[bx ⟨3,p,q,t,b⟩ n G[k]]))):=H;clear H f Iy S E hub I7 V IA F U d d0 d1 d2 d3 f0 f3 IW A;go_wp2_with fail;go_roundw
       case rel=>exact⟨k+1,by omega,by simp,IX,by rw[IY.out,List.length_append];exact HO.out,IC,I8,I9,IB,Y⟩
       case measure=>simp[intOf];omega
  · have ek:G.take k=G:=List.take_of_length_le (by omega)
    rw[ek]at E HA
    have J9:K++G.map (bx ⟨3,p,q,t,b⟩ n)≠[]:=by
     intro e;rw[List.append_eq_nil_iff]at e;exact J5 (List.map_eq_nil_iff.1 e.2)
    obtain⟨g,IR,rfl,Jt,J6,J4,Jw⟩:=Pp.own_shape E J9
    have IL:(K++G.map (bx ⟨3,p,q,t,b⟩ n)).length≤200:=by
     rw[List.length_append,List.length_map];omega
    have HO:=hid E;have Ji:=hid HD.out;generalize ID:K++G.map (bx ⟨3,p,q,t,b⟩ n)=X at HO J9 IL J4;have HX:Hid (X=K++G.map (bx ⟨3,p,q,t,b⟩ n)):=ID.symm;try rw[ID]at E
    try rw[ID]
    clear ID;clear E hub I7 V IA cc q1 bZ II IJ ek;go_wp2_with fail;refine(uI X w.heap.size g IR _ HO.out (by omega) J4 Jt J6).mono ?_
    rintro e w6 ⟨rfl,M,Ja,IQ,J8,z⟩;have Jk:Hid (is w.heap.size w6 (.slice (some ⟨g,0,none⟩) X.length IR) M):=J8;have Jm:=hid Ja;have J1:=hid IQ;clear Ja IQ J8;go_wp2;go_ret2;exact Or.inr ⟨HA.out,_,rfl,by rw[←zQ (HX.out▸Jm.out) J1.out HR.out Ji.out];exact Jk.out,d.trans z⟩
theorem BW {t:ByteArray} (h:t.data.toList=[]):t=⟨#[]⟩:=dN h
theorem BX (L:List En) (v:Value) (k:Int) (p q t:ByteArray) (b n:Int) (w:World) (hv:an w v L) (hs:da L) (hp:p.size≤150000000000000) (hq:q.size≤150000000000000) (U:Pp.Good L) (Q:aQ ⟨k,p,q,t,b⟩=0) (O:bP L ⟨k,p,q,t,b⟩=0):
    Calls prog 231 #[v,.agg #[.int .i64 k,.string p,.string q,.string t,.int .i64 b],.int .i64 n] w fun e w'=> ∃u,e= .returned (.tuple #[u,.int .i64 (gx L ⟨k,p,q,t,b⟩ n)])∧is w.heap.size w' u (kI (gx L ⟨k,p,q,t,b⟩ n) (cQ L ⟨k,p,q,t,b⟩ n))∧Below w.heap.size w w':=by
 have z:=kH Q;have HV:Hid (an w v L):=hv;have HS:Hid (da L):=hs;have S:Hid (Pp.Good L):=U;rcases qf O (jT Q)with⟨M,h⟩|⟨M,h⟩|⟨M,⟨x,hx⟩,h1,h2⟩|⟨M,x,hx⟩
 · have M:k=1:=M
   subst M;have ht:t=⟨#[]⟩:=BW (z.2.1.resolve_left (by simp));subst ht;clear z h O Q U hs hv;have N:=hid (show gx L ⟨1,p,q,⟨#[]⟩,b⟩ n=if 60<(Pp.out (jw 1 p ⟨#[]⟩ n) L).length+1 then 2 else 0 from rfl);have V:=hid (show cQ L ⟨1,p,q,⟨#[]⟩,b⟩ n=cg (jw 1 p ⟨#[]⟩ n) (Pp.out (jw 1 p ⟨#[]⟩ n) L)from rfl);go_enter func231,ntmps231
   go_wp2_with fail;refine(vC L v (jw 1 p ⟨#[]⟩ n) _ (HV.out.below ((Below.refl _ _).alloc (Nat.le_refl _) _)) S.out.len HS.out (by simp only[jw];omega) S.out.rise).mono ?_
   rintro e w1 (⟨h,rfl,d⟩|⟨h,u,rfl,E,d⟩)
   · obtain⟨G,H,I,J,K,f,y⟩:=aw d
     have A:=hid h;clear h d G H I J K;go_wp2;go_ret2;refine⟨_,by rw[N.out,if_pos A.out];rfl,?_,f⟩
     rw[ni (by rw[N.out,if_pos A.out];decide)];exact lu _ _
   · obtain⟨G,H,I,J,K,f,y⟩:=aw d
     have F:=hid E;have A:=hid h;clear h d E G H I J K;go_wp2;go_ret2;refine⟨_,by rw[N.out,if_neg A.out];rfl,?_,f⟩
     rw[nh (by rw[N.out,if_neg A.out]),V.out];exact F.out.mono (by first|exact Nat.le_of_lt y|(simp;done)|omega|exact Nat.le_refl _)
 · have M:k=2:=M
   subst M;clear z h O Q U hs hv;have N:=hid (show gx L ⟨2,p,q,t,b⟩ n=if 60<(Pp.out (jw 2 p t n) L).length+1 then 2 else 0 from rfl);have V:=hid (show cQ L ⟨2,p,q,t,b⟩ n=cg (jw 2 p t n) (Pp.out (jw 2 p t n) L)from rfl);go_enter func231,ntmps231
   go_wp2_with fail;refine(vC L v (jw 2 p t n) _ (HV.out.below ((Below.refl _ _).alloc (Nat.le_refl _) _)) S.out.len HS.out (by simp only[jw];omega) S.out.rise).mono ?_
   rintro e w1 (⟨h,rfl,d⟩|⟨h,u,rfl,E,d⟩)
   · obtain⟨G,H,I,J,K,f,y⟩:=aw d
     have A:=hid h;clear h d G H I J K;go_wp2;go_ret2;refine⟨_,by rw[N.out,if_pos A.out];rfl,?_,f⟩
     rw[ni (by rw[N.out,if_pos A.out];decide)];exact lu _ _
   · obtain⟨G,H,I,J,K,f,y⟩:=aw d
     have F:=hid E;have A:=hid h;clear h d E G H I J K;go_wp2;go_ret2;refine⟨_,by rw[N.out,if_neg A.out];rfl,?_,f⟩
     rw[nh (by rw[N.out,if_neg A.out]),V.out];exact F.out.mono (by first|exact Nat.le_of_lt y|(simp;done)|omega|exact Nat.le_refl _)
 · have M:k=3:=M
   subst M;have N:=hid (show gx L ⟨3,p,q,t,b⟩ n=if(dw L ⟨3,p,q,t,b⟩).any (fun e=>Pp.big (cn ⟨3,p,q,t,b⟩ e))=true then 2 else 0 from rfl);have V:=hid (show cQ L ⟨3,p,q,t,b⟩ n=fC (fB L ⟨3,p,q,t,b⟩ n) (cW L ⟨3,p,q,t,b⟩)from rfl);have HC:=hid Q;have HX:=hid hx;have H2:=hid h2;clear z O Q U hs hv hx h1 h2;go_enter func231,ntmps231
   go_wp2_with fail;refine(BV L v p q t b n _ (HV.out.below ((Below.refl _ _).alloc (Nat.le_refl _) _)) HS.out hp hq S.out HC.out H2.out x HX.out).mono ?_
   rintro e w1 (⟨h,rfl,d⟩|⟨h,u,rfl,E,d⟩)
   · obtain⟨G,H,I,J,K,f,y⟩:=aw d
     have A:=hid h;clear h d G H I J K;go_wp2;go_ret2;refine⟨_,by rw[N.out,if_pos A.out];rfl,?_,f⟩
     rw[ni (by rw[N.out,if_pos A.out];decide)];exact lu _ _
   · obtain⟨G,H,I,J,K,f,y⟩:=aw d
     have F:=hid E;have A:=hid h;clear h d E G H I J K;go_wp2;go_ret2;refine⟨_,by rw[N.out,if_neg (by rw[A.out];decide)];rfl,?_,f⟩
     rw[nh (by rw[N.out,if_neg (by rw[A.out];decide)]),V.out];exact F.out.mono (by first|exact Nat.le_of_lt y|(simp;done)|omega|exact Nat.le_refl _)
 · have M:k=4:=M
   subst M;have I0:=iJ Q;have HK:=hid (show L.filter (fun e=> !eE p.data.toList e)=cW L ⟨4,p,q,t,b⟩from qY fun e he=>by rw[oC (gv (U.ents e he)) I0]);have I8:=hid (show(cW L ⟨4,p,q,t,b⟩).length≤L.length from List.length_filter_le _ _);clear z O Q U hs hv hx I0;go_enter func231,ntmps231
   go_wp2_with fail;refine(nk p _ (by omega)).mono ?_
   rintro e w1 ⟨rfl,I6,d⟩;obtain⟨G,H,I,J,K,f,y⟩:=aw d
   have I9:=hid (show dk w1 321 #[.pointer (some ⟨w.heap.size+1,0,none⟩)] (eE p.data.toList)from by simpa using I6);clear I6;go_wp2_with fail;refine(qq _ _ (eE p.data.toList) _ I9.out).mono ?_
   rintro e w2 ⟨rfl,I7,Y⟩;have Iv:=hid I7;have P:=d.trans (Y.mono d.size);clear I7 G H I J K f y d Y;obtain⟨G,H,I,J,K,f,y⟩:=aw P
   go_wp2_with fail;refine(nl L v _ _ (fun e=> !eE p.data.toList e) _ (HV.out.below f) Iv.out (Nat.le_trans S.out.len (by decide)) HS.out).mono ?_
   rintro e w3 ⟨u1,rfl,T,Iw,Z⟩;rw[HK.out]at T;have F:=hid (AO T (by have:=I8.out;have:=S.out.len;omega));have I5:=y;have X:=f.trans (Z.mono (Nat.le_of_lt y));clear G H I J K f y P Z T Iw;go_wp2;go_ret2;exact⟨_,rfl,F.out.mono (Nat.le_of_lt I5),X⟩
def kQ (L:List En) (c:ay) (n:Int):List En:=kI (bX L c n) (cQ L c n)
theorem qZ {L:List En} {c:ay} {n:Int} (h: ¬bi n=0):bX L c n=bi n:=by rw[bX,if_pos h]
theorem vL {L:List En} {c:ay} {n:Int} (h:bi n=0) (d: ¬aQ c=0):bX L c n=aQ c:=by rw[bX,if_neg (fun x=>x h),if_pos d]
theorem vM {L:List En} {c:ay} {n:Int} (h:bi n=0) (d:aQ c=0) (f: ¬bP L c=0):bX L c n=bP L c:=by rw[bX,if_neg (fun x=>x h),if_neg (fun x=>x d),if_pos f]
theorem BY {L:List En} {c:ay} {n:Int} (h:bi n=0) (d:aQ c=0) (f:bP L c=0) (y:dP L c=true):bX L c n=8:=by rw[bX,if_neg (fun x=>x h),if_neg (fun x=>x d),if_neg (fun x=>x f),if_pos y]
theorem BZ {L:List En} {c:ay} {n:Int} (h:bi n=0) (d:aQ c=0) (f:bP L c=0) (y:dP L c=false):bX L c n=gx L c n:=by rw[bX,if_neg (fun x=>x h),if_neg (fun x=>x d),if_neg (fun x=>x f),if_neg (by rw[y];decide)]
theorem oD {L:List En} {c:ay} {n:Int} {e:Int} (h:bX L c n=e) (d: ¬e=0):kQ L c n=[]:=by rw[kQ,h,ni d]
theorem B0 (L:List En) (v:Value) (k:Int) (p q t:ByteArray) (b n:Int) (w:World) (hv:an w v L) (hs:da L) (hp:p.size≤150000000000000) (hq:q.size≤150000000000000) (ht:t.size≤150000000000000) (hL:Pp.Good L):
    Calls prog 198 #[v,.agg #[.int .i64 k,.string p,.string q,.string t,.int .i64 b],.int .i64 n] w fun e w'=> ∃u,e= .returned (.tuple #[u,.int .i64 (bX L ⟨k,p,q,t,b⟩ n)])∧is w.heap.size w' u (kQ L ⟨k,p,q,t,b⟩ n)∧Below w.heap.size w w':=by
 have HV:Hid (an w v L):=hv;have Z:Hid (da L):=hs;have HL:Hid (Pp.Good L):=hL;clear hv hs hL;by_cases y:bi n=0
 · have U:=hid y
   by_cases E:aQ ⟨k,p,q,t,b⟩=0
   · have G:=hid E
     by_cases F:bP L ⟨k,p,q,t,b⟩=0
     · have X:=hid F
       cases P:dP L ⟨k,p,q,t,b⟩with
       |true=>
        have ae:=BY y E F P;have T:=hid (oD ae (by decide));have S:=hid ae;have Y:=hid P;clear ae P F E y;go_enter func198,ntmps198
        go_wp2_with fail;refine(lp n _).mono ?_
        rintro e w1 ⟨rfl,rfl⟩;rw[U.out];go_wp2_with fail;refine(oy k p q t b _ (by omega) (by omega) (by omega)).mono ?_
        rintro e w2 ⟨rfl,z⟩;rw[G.out];obtain⟨J,K,M,N,O,d,A⟩:=aw z
        go_wp2_with fail;refine(qV L v k p q t b _ (HV.out.below d) (fun e V=>(Z.out e V).1) (by omega) (by omega) G.out).mono ?_
        rintro e w3 ⟨rfl,I⟩;rw[X.out];have f:=z.trans (I.mono z.size);clear J K M N O d A z I;obtain⟨J,K,M,N,O,d,A⟩:=aw f
        go_wp2_with fail;refine(vH L v k p q t b _ (HV.out.below d) Z.out (by omega) (fun e V=>gv (HL.out.ents e V)) (iJ G.out)).mono ?_
        rintro e w4 ⟨rfl,Q⟩;rw[Y.out];have H:=f.trans (Q.mono f.size);clear J K M N O d A f Q;obtain⟨J,K,M,N,O,d,A⟩:=aw H
        clear H;go_wp2;go_ret2;exact⟨_,by rw[S.out];rfl,by rw[T.out];exact lu _ _,d⟩
       |false=>
        have ae:=BZ y E F P;have S:=hid ae;have T:=hid (show kQ L ⟨k,p,q,t,b⟩ n=kI (gx L ⟨k,p,q,t,b⟩ n) (cQ L ⟨k,p,q,t,b⟩ n)from by rw[kQ,ae]);have Y:=hid P;clear ae P F E y;go_enter func198,ntmps198
        go_wp2_with fail;refine(lp n _).mono ?_
        rintro e w1 ⟨rfl,rfl⟩;rw[U.out];go_wp2_with fail;refine(oy k p q t b _ (by omega) (by omega) (by omega)).mono ?_
        rintro e w2 ⟨rfl,z⟩;rw[G.out];obtain⟨J,K,M,N,O,d,A⟩:=aw z
        go_wp2_with fail;refine(qV L v k p q t b _ (HV.out.below d) (fun e V=>(Z.out e V).1) (by omega) (by omega) G.out).mono ?_
        rintro e w3 ⟨rfl,I⟩;rw[X.out];have f:=z.trans (I.mono z.size);clear J K M N O d A z I;obtain⟨J,K,M,N,O,d,A⟩:=aw f
        go_wp2_with fail;refine(vH L v k p q t b _ (HV.out.below d) Z.out (by omega) (fun e V=>gv (HL.out.ents e V)) (iJ G.out)).mono ?_
        rintro e w4 ⟨rfl,Q⟩;rw[Y.out];have H:=f.trans (Q.mono f.size);clear J K M N O d A f Q;obtain⟨J,K,M,N,O,d,A⟩:=aw H
        go_wp2_with fail;refine(BX L v k p q t b n _ (HV.out.below d) Z.out hp hq HL.out G.out X.out).mono ?_
        rintro e w5 ⟨u,rfl,I6,I5⟩;have I7:=hid (I6.mono (Nat.le_of_lt A));have I0:=d.trans (I5.mono (Nat.le_of_lt A));clear J K M N O d A H I5 I6;go_wp2;go_ret2;exact⟨_,by rw[S.out];rfl,by rw[T.out];exact I7.out.mono (by first|exact Nat.le_of_lt A|(simp;done)|omega|exact Nat.le_refl _),I0⟩
     · have ae:=vM y E F
       have T:=hid (oD ae F);have S:=hid ae;have hz:(bP L ⟨k,p,q,t,b⟩==0)=false:=by simpa using F
       clear ae E y;go_enter func198,ntmps198
       go_wp2_with fail;refine(lp n _).mono ?_
       rintro e w1 ⟨rfl,rfl⟩;rw[U.out];go_wp2_with fail;refine(oy k p q t b _ (by omega) (by omega) (by omega)).mono ?_
       rintro e w2 ⟨rfl,z⟩;rw[G.out];obtain⟨J,K,M,N,O,d,A⟩:=aw z
       go_wp2_with fail;refine(qV L v k p q t b _ (HV.out.below d) (fun e V=>(Z.out e V).1) (by omega) (by omega) G.out).mono ?_
       rintro e w3 ⟨rfl,I⟩;have f:=z.trans (I.mono z.size);clear J K M N O d A z I;obtain⟨J,K,M,N,O,d,A⟩:=aw f
       clear f;go_wp2;go_ret2;exact⟨_,by rw[S.out];rfl,by rw[T.out];exact lu _ _,d⟩
   · have ae:=vL (L:=L) y E
     have T:=hid (oD ae E);have S:=hid ae;have hz:(aQ ⟨k,p,q,t,b⟩==0)=false:=by simpa using E
     clear ae y;go_enter func198,ntmps198
     go_wp2_with fail;refine(lp n _).mono ?_
     rintro e w1 ⟨rfl,rfl⟩;rw[U.out];go_wp2_with fail;refine(oy k p q t b _ (by omega) (by omega) (by omega)).mono ?_
     rintro e w2 ⟨rfl,z⟩;obtain⟨J,K,M,N,O,d,A⟩:=aw z
     clear z;go_wp2;go_ret2;exact⟨_,by rw[S.out];rfl,by rw[T.out];exact lu _ _,d⟩
 · have ae:=qZ (L:=L) (c:=⟨k,p,q,t,b⟩) y
   have T:=hid (oD ae y);have S:=hid ae;have hz:(bi n==0)=false:=by simpa using y
   clear ae;go_enter func198,ntmps198
   go_wp2_with fail;refine(lp n _).mono ?_
   rintro e w1 ⟨rfl,rfl⟩;go_wp2;go_ret2;exact⟨_,by rw[S.out];rfl,by rw[T.out];exact lu _ _,(Below.refl _ _).alloc (Nat.le_refl _) _⟩
theorem B2 (L:List En) (v:Value) (k:Int) (p q t:ByteArray) (b n:Int) (w:World) (H:an w v L) (F:da L) (A:p.size≤150000000000000) (E:q.size≤150000000000000) (G:t.size≤150000000000000) (z:Pp.Good L):
    Calls prog 198 #[v,.agg #[.int .i64 k,.string p,.string q,.string t,.int .i64 b],.int .i64 n] w fun e w'=> ∃u,e= .returned (.tuple #[u,.int .i64 (bX L ⟨k,p,q,t,b⟩ n)])∧an w' u (kQ L ⟨k,p,q,t,b⟩ n)∧Below w.heap.size w w':=
 (B0 L v k p q t b n w H F A E G z).mono fun _ _ ⟨u,d,f,y⟩=>⟨u,d,f.1,y⟩
def nA (c:Cn):Rq:=if bo c=0 then⟨2,c.who,c.fo,⟨#[]⟩,⟨#[]⟩,⟨#[]⟩,c.cur,0,0,[]⟩else qi
theorem B3 (c:Cn) (v:Value) (w:World) (S:fU w v c) (Q:iO c):
    Calls prog 119 #[v] w fun e w'=> ∃u,e= .returned (.tuple #[u,.int .i64 (bo c)])∧jV w' u (nA c)∧Below w.heap.size w w':=by
 have HV:=hid S;have HS:=hid Q;obtain⟨vb,vm,va,rfl,lb,lm,la⟩:=S
 obtain⟨J,N,rfl,_⟩:=lb
 obtain⟨K,bh,rfl,_⟩:=lm
 obtain⟨I,M,rfl,_⟩:=la
 clear Q;obtain⟨F,f⟩: ∃F,F=(w.alloc (.cells #[.string c.who,.string c.fo,.slice J c.base.length N,.int .i64 c.cur,.slice K c.mine.length bh,.string c.key,.slice I c.ask.length M,.int .i64 c.keys] 47)).alloc (.cells #[.int .i64 0,.string ⟨#[]⟩,.string ⟨#[]⟩,.string ⟨#[]⟩,.string ⟨#[]⟩,.string ⟨#[]⟩,.int .i64 0,.int .i64 0,.int .i64 0,.slice none 0 0] 61):=⟨_,rfl⟩
 have G:Below w.heap.size w F:=by rw[f];exact((Below.refl _ _).alloc (Nat.le_refl _) _).alloc (by simp) _
 have HX:Hid (Cs F w.heap.size [.string c.who,.string c.fo,.slice J c.base.length N,.int .i64 c.cur,.slice K c.mine.length bh,.string c.key,.slice I c.ask.length M,.int .i64 c.keys]):=(by rw[f];exact(Cs.new w [.string c.who,.string c.fo,.slice J c.base.length N,.int .i64 c.cur,.slice K c.mine.length bh,.string c.key,.slice I c.ask.length M,.int .i64 c.keys] _).below ((Below.refl _ _).alloc (Nat.le_refl _) _):Cs F w.heap.size _)
 have HY:=hid (show Cs F (w.heap.size+1) zq from by
  have:=Cs.new (w.alloc (.cells #[.string c.who,.string c.fo,.slice J c.base.length N,.int .i64 c.cur,.slice K c.mine.length bh,.string c.key,.slice I c.ask.length M,.int .i64 c.keys] 47)) zq 61
  rw[f];simpa using this)
 go_enter func119,ntmps119
 go_wp2_with fail;rw[←f];clear f;refine(qA c _ _ (HV.out.below G) HS.out).mono ?_
 rintro e w1 ⟨rfl,E⟩;have y:=ag G E;have z:=hid (HX.out.below E);have d:=hid (HY.out.below E);have T:=d.out.cell 0 rfl;have U:=d.out.cell 1 rfl;have al:=d.out.cell 2 rfl;have V:=d.out.cell 3 rfl;have X:=d.out.cell 4 rfl;have Y:=d.out.cell 5 rfl;have Z:=d.out.cell 6 rfl;have y7:=d.out.cell 7 rfl;have y8:=d.out.cell 8 rfl;have y9:=d.out.cell 9 rfl;have g0:=d.out.fr 0;have g1:=d.out.fr 1;have g2:=d.out.fr 2;have g3:=d.out.fr 3;have g4:=d.out.fr 4;have g5:=d.out.fr 5;have g6:=d.out.fr 6;have g7:=d.out.fr 7;have g8:=d.out.fr 8;have g9:=d.out.fr 9;by_cases A:bo c=0
 · have H:=hid (show nA c=⟨2,c.who,c.fo,⟨#[]⟩,⟨#[]⟩,⟨#[]⟩,c.cur,0,0,[]⟩∧bo c=0 from⟨if_pos A,A⟩)
   rw[A];clear A;have p0:=z.out.cell 0 rfl;have p1:=z.out.cell 1 rfl;have p3:=z.out.cell 3 rfl;go_wp2_with fail;refine bodyPost_ret (v:= .tuple #[.agg #[.int .i64 2,.string c.who,.string c.fo,.string ⟨#[]⟩,.string ⟨#[]⟩,.string ⟨#[]⟩,.int .i64 c.cur,.int .i64 0,.int .i64 0,.slice none 0 0],.int .i64 0]) (by simp[results,results119,go_sem,T,U,al,V,X,Y,Z,y7,y8,y9]) rfl ⟨_,by rw[H.out.2],?_,?_⟩
   · rw[H.out.1]
     exact⟨_,rfl,uj _⟩
   · exact((((((((((y.setCell (p:=⟨w.heap.size+1,0,none⟩) (Nat.le_succ _) _).setCell (p:=⟨w.heap.size+1,1,none⟩) (Nat.le_succ _) _).setCell (p:=⟨w.heap.size+1,2,none⟩) (Nat.le_succ _) _).setCell (p:=⟨w.heap.size+1,3,none⟩) (Nat.le_succ _) _).setCell (p:=⟨w.heap.size+1,4,none⟩) (Nat.le_succ _) _).setCell (p:=⟨w.heap.size+1,5,none⟩) (Nat.le_succ _) _).setCell (p:=⟨w.heap.size+1,6,none⟩) (Nat.le_succ _) _).setCell (p:=⟨w.heap.size+1,7,none⟩) (Nat.le_succ _) _).setCell (p:=⟨w.heap.size+1,8,none⟩) (Nat.le_succ _) _).setCell (p:=⟨w.heap.size+1,9,none⟩) (Nat.le_succ _) _)
 · have H:=hid (show nA c=qi from if_neg A)
   have O:(bo c !=0)=true:=by simpa using A
   obtain⟨r,P⟩: ∃r,r=bo c:=⟨_,rfl⟩
   rw[←P]at O⊢;have HR:=hid P;clear A P;go_wp2_with fail;refine bodyPost_ret (v:= .tuple #[.agg #[.int .i64 0,.string ⟨#[]⟩,.string ⟨#[]⟩,.string ⟨#[]⟩,.string ⟨#[]⟩,.string ⟨#[]⟩,.int .i64 0,.int .i64 0,.int .i64 0,.slice none 0 0],.int .i64 r]) (by simp[results,results119,go_sem,T,U,al,V,X,Y,Z,y7,y8,y9]) rfl ⟨_,by rw[HR.out],?_,?_⟩
   · rw[H.out]
     exact Am _
   · exact((((((((((y.setCell (p:=⟨w.heap.size+1,0,none⟩) (Nat.le_succ _) _).setCell (p:=⟨w.heap.size+1,1,none⟩) (Nat.le_succ _) _).setCell (p:=⟨w.heap.size+1,2,none⟩) (Nat.le_succ _) _).setCell (p:=⟨w.heap.size+1,3,none⟩) (Nat.le_succ _) _).setCell (p:=⟨w.heap.size+1,4,none⟩) (Nat.le_succ _) _).setCell (p:=⟨w.heap.size+1,5,none⟩) (Nat.le_succ _) _).setCell (p:=⟨w.heap.size+1,6,none⟩) (Nat.le_succ _) _).setCell (p:=⟨w.heap.size+1,7,none⟩) (Nat.le_succ _) _).setCell (p:=⟨w.heap.size+1,8,none⟩) (Nat.le_succ _) _).setCell (p:=⟨w.heap.size+1,9,none⟩) (Nat.le_succ _) _)
end Go.Proofs.YtcmlnelpcjfocaaGreatDoor
