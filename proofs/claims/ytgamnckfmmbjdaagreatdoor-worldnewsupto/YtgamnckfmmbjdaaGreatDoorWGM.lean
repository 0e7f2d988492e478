/- What tree.move and changed answer, for every change that is right by itself. -/
import Derived.Test.YtgamnckfmmbjdaaGreatDoorWGK
import Derived.Maps.AppendAt
set_option linter.unusedSimpArgs false
set_option linter.unusedVariables false
namespace Go.Proofs.YtgamnckfmmbjdaaGreatDoor
open Go.RowKit Go.Proofs.Tryz
set_option maxHeartbeats 2000000
set_option maxRecDepth 100000
theorem qG (w:World) (a b c d:Value) (T:TypeId) (g:Nat) (f:g=w.heap.size): ∀j u,[a,b,c,d][j]?=some u→(w.alloc (.cells #[a,b,c,d] T)).cell? ((⟨g,0,none⟩:Addr).add j)=some u:=by
 subst f;intro j u e;match j,e with
 |0,e=>simp at e;subst e;simp[Addr.add]
 |1,e=>simp at e;subst e;simp[Addr.add]
 |2,e=>simp at e;subst e;simp[Addr.add]
 |3,e=>simp at e;subst e;simp[Addr.add]
 |j+4,e=>simp at e
theorem qH (x y:ByteArray) (f:Bool) (n:Int): ∀u∈[Value.string x,.bool f,.string y,.int .i64 n],u.oneCell'=true:=by
 intro u a;simp only[List.mem_cons,List.not_mem_nil,or_false]at a;rcases a with rfl|rfl|rfl|rfl<;>rfl
theorem vT (L:List En) (v:Value) (p q t:ByteArray) (b n:Int) (w:World) (hv:aj w v L) (hs:cP L) (hp:p.size≤150000000000000) (hq:q.size≤150000000000000) (hL:Pp.Good L) (hc:aC ⟨3,p,q,t,b⟩=0) (hf:L.find? (aE q.data.toList)=none) (x0:En) (CZ:L.find? (aE p.data.toList)=some x0):
    Calls prog 276 #[v,.agg #[.int .i64 3,.string p,.string q,.string t,.int .i64 b],.int .i64 n] w fun e w'=>
     ((ct L ⟨3,p,q,t,b⟩).any (fun e=>Pp.big (bv ⟨3,p,q,t,b⟩ e))=true∧e= .returned (.tuple #[.slice none 0 0,.int .i64 2])∧Below w.heap.size w w')∨
     ((ct L ⟨3,p,q,t,b⟩).any (fun e=>Pp.big (bv ⟨3,p,q,t,b⟩ e))=false∧ ∃u,e= .returned (.tuple #[u,.int .i64 0])∧fx w.heap.size w' u (dP (dO L ⟨3,p,q,t,b⟩ n) (bQ L ⟨3,p,q,t,b⟩))∧Below w.heap.size w w'):=by
 obtain⟨aQ,De,Dm,Dn,Do⟩:=info_parts Tryz.infoE
 have N: ∀e∈L,al e.path.data.toList=0:=fun e he=>fJ (hL.ents e he)
 have CM:al p.data.toList=0:=fN hc;have CX:al q.data.toList=0:=jt hc rfl;have HK:=hid (show L.filter (fun e=> !dk p.data.toList e)=bQ L ⟨3,p,q,t,b⟩from nJ fun e he=>by rw[lu (N e he) CM]);have HG:=hid (show L.filter (dk p.data.toList)=ct L ⟨3,p,q,t,b⟩from nJ fun e he=>by rw[lu (N e he) CM]);have HV:Hid (aj w v L):=hv;have HS:Hid (cP L):=hs;have hn:L.length≤60:=hL.len;have DJ:(bQ L ⟨3,p,q,t,b⟩).length≤L.length:=List.length_filter_le _ _;have DI:(ct L ⟨3,p,q,t,b⟩).length≤L.length:=List.length_filter_le _ _;have HD:Hid ((bQ L ⟨3,p,q,t,b⟩++dO L ⟨3,p,q,t,b⟩ n).Pairwise eV):=mI hL n (kQ CX) hf;have HR:=hid (show(bQ L ⟨3,p,q,t,b⟩).Pairwise (fun x y=>Pp.lt x y=true)from List.Pairwise.filter _ hL.rise)
 have HM:=hid (show∀e∈ct L ⟨3,p,q,t,b⟩,e.path.size≤1000000000∧bq [e.path.data.toList,p.data.toList,q.data.toList]=0∧aI e.path.data.toList p.data.toList=true from fun e he=>by
  obtain⟨h1,h2⟩:=gV.1 he
  exact⟨by rw[Lib.size_eq];have:=js (N e h1);omega,by simp[bq,N e h1,CM,CX],h2⟩)
 have CT:dO L ⟨3,p,q,t,b⟩ n=(ct L ⟨3,p,q,t,b⟩).map (aX ⟨3,p,q,t,b⟩ n):=rfl
 have Dc:ct L ⟨3,p,q,t,b⟩≠[]:=fun e=>by
  have h1:=List.mem_of_find?_eq_some CZ;have h2:x0.path.data.toList=p.data.toList:=by have:=List.find?_some CZ;simpa[aE]using this
  have h3:x0∈ct L ⟨3,p,q,t,b⟩:=gV.2 ⟨h1,by rw[h2];exact tS _⟩;rw[e]at h3;cases h3
 rw[CT]at HD⊢;clear CT CZ;generalize bQ L ⟨3,p,q,t,b⟩=K at*;generalize ct L ⟨3,p,q,t,b⟩=G at*;clear hv hs hL hc hf N CM CX;go_enter func276,ntmps276
 go_wp2_with fail;refine(kf p _ (by omega)).mono ?_
 rintro e w1 ⟨rfl,Di,CJ⟩;obtain⟨c0,c1,c2,c3,c4,H,O⟩:=ak CJ
 have Du:=hid (show cj w1 312 #[.pointer (some ⟨w.heap.size+1,0,none⟩)] (dk p.data.toList)from by simpa using Di);clear Di;go_wp2_with fail;refine(mQ _ _ (dk p.data.toList) _ Du.out).mono ?_
 rintro e w2 ⟨rfl,Dj,D9⟩;have Dv:=hid Dj;have Z:=CJ.trans (D9.mono CJ.size);clear Dj c0 c1 c2 c3 c4 H O CJ D9;obtain⟨c0,c1,c2,c3,c4,H,O⟩:=ak Z
 have CR:=O;go_wp2_with fail;refine(kg L v _ _ (fun e=> !dk p.data.toList e) _ (HV.out.below H) Dv.out (by omega) HS.out).mono ?_
 rintro e w3 ⟨u1,rfl,CE,DL,Da⟩;rw[HK.out]at CE;have C3:=Z.trans (Da.mono Z.size);clear c0 c1 c2 c3 c4 H O Z;obtain⟨c0,c1,c2,c3,c4,H,O⟩:=ak C3
 have Dl: ∀g,u1.ownBlock=some g→w.heap.size<g∧g<w3.heap.size:=fun g S=>⟨Nat.lt_of_lt_of_le CR (CE.lt g S).1,(CE.lt g S).2⟩
 have D6:=hid (Pp.own_mono (B:=w.heap.size) CE (Nat.le_of_lt CR));clear CE;go_wp2_with fail;refine(kf p _ (by omega)).mono ?_
 rintro e w4 ⟨rfl,Dk,CK⟩;have Dw:=hid Dk;have C4:=C3.trans (CK.mono C3.size);have D7:=hid (eI D6.out CK);have DD:=CK.size;clear Dk c0 c1 c2 c3 c4 H O C3 Da CK D6;obtain⟨c0,c1,c2,c3,c4,H,O⟩:=ak C4
 go_wp2_with fail;refine(kg L v _ _ (dk p.data.toList) _ (HV.out.below H) Dw.out (by omega) HS.out).mono ?_
 rintro e w5 ⟨u2,rfl,F,DM,CL⟩;rw[HG.out]at F;have Ds:=hid (eI D7.out CL);have CP:=C4.trans (CL.mono C4.size);have DE:=CL.size;clear c0 c1 c2 c3 c4 H O C4 CL D7;obtain⟨c0,c1,c2,c3,c4,H,O⟩:=ak CP
 obtain⟨P,DA,rfl,DH,DC,DG,DK⟩:=Pp.own_shape F Dc
 have Dq:=hid (show∀i (h:i<G.length),cM w5 P (i*4) G[i]from fun i h=>by
  obtain⟨a,CV,hv,_,_,hL⟩:=iw F (by omega)
  obtain⟨b',o',ha,_,he⟩:=hL i h
  cases hv
  cases ha
  simpa using he)
 have C1:=hid c1;have C2:=hid c2;clear c0 c1 c2 c3 c4 F CP;go_wp2_with fail;go_loopw [8,25] (fun u i wr=> ∃k:Nat,k≤G.length∧i= .int .i64 k∧Hid ((G.take k).any (fun e=>Pp.big (bv ⟨3,p,q,t,b⟩ e))=false)∧wr.ownsRow w.heap.size 108 4 u (K++(G.take k).map (aX ⟨3,p,q,t,b⟩ n)).length (bw (K++(G.take k).map (aX ⟨3,p,q,t,b⟩ n)))∧(∀g,u.ownBlock=some g→w.heap.size<g∧g≠P)∧wr.heap[P]?=w5.heap[P]?∧wr.heap[w.heap.size]?=w5.heap[w.heap.size]?∧w5.heap.size≤wr.heap.size∧Below w.heap.size w wr) (fun _ i _=>G.length-(intOf i).toNat)
 case atStart=>exact⟨0,Nat.zero_le _,rfl,(by simp:(G.take 0).any (fun e=>Pp.big (bv ⟨3,p,q,t,b⟩ e))=false),by simpa using Ds.out,fun g S=>⟨(Dl g S).1,by have:=(Dl g S).2;omega⟩,rfl,rfl,Nat.le_refl _,H⟩
 case round=>
  obtain⟨k,hk,rfl,HA,A,hub,C5,U,CF,d⟩:=hrel
  have cc: ∀o,wr.cell? ⟨P,o,none⟩=w5.cell? ⟨P,o,none⟩:=fun o=>World.cell?_of_block C5
  have q1:wr.cell? ⟨w.heap.size,1,none⟩=some (.string p):=(World.cell?_of_block U).trans C1.out;have bP:wr.cell? ⟨w.heap.size,2,none⟩=some (.string q):=(World.cell?_of_block U).trans C2.out;have CN: ∀o,(wr.alloc o).cell? ⟨w.heap.size,1,none⟩=some (.string p):=fun o=>(((Below.refl wr.heap.size wr).alloc (Nat.le_refl _) o).cell (p:=⟨w.heap.size,1,none⟩) (by show w.heap.size<_;omega)).trans q1
  have CO: ∀o,(wr.alloc o).cell? ⟨w.heap.size,2,none⟩=some (.string q):=fun o=>(((Below.refl wr.heap.size wr).alloc (Nat.le_refl _) o).cell (p:=⟨w.heap.size,2,none⟩) (by show w.heap.size<_;omega)).trans bP
  by_cases C9:k<G.length
  · obtain⟨aP,ay,e2,e3⟩:=Dq.out k C9
    have c0:=(cc _).trans aP;have c1:=(cc _).trans ay;have c2:=(cc _).trans e2;have c3:=(cc _).trans e3;obtain⟨DF,N,CY⟩:=HM.out G[k] (List.getElem_mem C9)
    have Y:=pQ N CY;rw[pe N CY]at Y
    have C8:(G.take (k+1)).any (fun e=>Pp.big (bv ⟨3,p,q,t,b⟩ e))=Pp.big (bv ⟨3,p,q,t,b⟩ G[k]):=by
     rw[List.take_succ_eq_append_getElem C9,List.any_append,HA.out];simp
    have CC:K++(G.take (k+1)).map (aX ⟨3,p,q,t,b⟩ n)=(K++(G.take k).map (aX ⟨3,p,q,t,b⟩ n))++[aX ⟨3,p,q,t,b⟩ n G[k]]:=by
     rw[List.take_succ_eq_append_getElem C9,List.map_append,List.append_assoc];rfl
    have CQ:(K++(G.take k).map (aX ⟨3,p,q,t,b⟩ n)).length≤200:=by
     rw[List.length_append,List.length_map,List.length_take];omega
    generalize K++(G.take k).map (aX ⟨3,p,q,t,b⟩ n)=X at*;clear cc aP ay e2 e3 N CY;cases J:Pp.big (bm G[k].path.data.toList p.data.toList q.data.toList)with
    |true=>
     rw[J,if_pos rfl]at Y;have HE:=hid Y;have HX:=hid (show G.any (fun e=>Pp.big (bv ⟨3,p,q,t,b⟩ e))=true from List.any_eq_true.2 ⟨G[k],List.getElem_mem C9,J⟩);clear Y C8 CC J;go_wp2_with fail;refine(mP G[k].path p q _ (by omega) (by omega) (by omega)).mono ?_
     rintro e w6 ⟨rfl,j⟩;rw[HE.out,jQ (by decide)];obtain⟨d0,d1,d2,d3,z,CS⟩:=cN j
     have CW:=bj d z;clear j c0 c1 c2 c3 q1 bP CN CO;go_wp2_with fail;go_ret2;exact Or.inl ⟨HX.out,rfl,CW⟩
    |false=>
     rw[J,if_neg (by decide)]at Y;have HE:=hid Y;have D4:=hid (show(G.take (k+1)).any (fun e=>Pp.big (bv ⟨3,p,q,t,b⟩ e))=false from C8.trans J);have D5:=hid CC;clear Y C8 CC J
     have Dx : ((G[k].path.toList == p.toList) = true ∧ Hid (Pp.cells (aX ⟨3, p, q, t, b⟩ n G[k]) = [.string ⟨(bm G[k].path.data.toList p.data.toList q.data.toList).toArray⟩, .bool G[k].folder, .string G[k].text, .int .i64 n])) ∨
         ((G[k].path.toList==p.toList)=false∧Hid (Pp.cells (aX ⟨3,p,q,t,b⟩ n G[k])=[.string ⟨(bm G[k].path.data.toList p.data.toList q.data.toList).toArray⟩,.bool G[k].folder,.string G[k].text,.int .i64 G[k].ver])):=by
      cases he:(G[k].path.toList==p.toList)with
      |true=>
       have fG:G[k].path.data.toList=p.data.toList:=by rw[Lib.toList_data,Lib.toList_data]at he;simpa using he
       refine Or.inl ⟨rfl,(by rw[Pp.cells,aX];simp only[fG,if_true,bv]:Pp.cells (aX ⟨3,p,q,t,b⟩ n G[k])=_)⟩
      |false=>
       have fG: ¬G[k].path.data.toList=p.data.toList:=by rw[Lib.toList_data,Lib.toList_data]at he;simpa using he
       refine Or.inr ⟨rfl,(by rw[Pp.cells,aX];simp only[fG,if_false,bv]:Pp.cells (aX ⟨3,p,q,t,b⟩ n G[k])=_)⟩
     rcases Dx with⟨Dz,HC⟩|⟨Dz,HC⟩
     · go_wp2_with fail
       refine(mP G[k].path p q _ (by omega) (by omega) (by omega)).mono ?_
       rintro e w6 ⟨rfl,j⟩;rw[HE.out,eH rfl];obtain⟨d0,d1,d2,d3,z,CS⟩:=cN j
       have f0:=fs j 0;have f3:=fs j 3;have D3:w6.cell? ⟨w.heap.size,1,none⟩=some (.string p):=(z.cell (p:=⟨w.heap.size,1,none⟩) (by show w.heap.size<_;omega)).trans q1;clear j c0 c1 c2 c3 q1 bP CN CO;have E: ∀o,Below wr.heap.size wr (((w6.setCell ⟨wr.heap.size,3,none⟩ (.int .i64 n)).setCell ⟨wr.heap.size,0,none⟩ (.string ⟨(bm G[k].path.data.toList p.data.toList q.data.toList).toArray⟩)).alloc o):=fun o=>Below.alloc (((z.setCell (p:=⟨wr.heap.size,3,none⟩) (Nat.le_refl _) _).setCell (p:=⟨wr.heap.size,0,none⟩) (Nat.le_refl _) _)) (by first|(simp;omega)|omega) o
       go_wp2_with (at_builtin;refine wpList_append_own_at _ rfl _ _ 47 rfl w.heap.size 108 aQ (.agg #[.string ⟨#[]⟩,.bool false,.string ⟨#[]⟩,.int .i64 0]) 4 48 underlying47 De Dm Dn Do rfl (by decide) _ _ _ rfl (eI A (E _)) ⟨w6.heap.size,0,none⟩ 1 1 [.string ⟨(bm G[k].path.data.toList p.data.toList q.data.toList).toArray⟩,.bool G[k].folder,.string G[k].text,.int .i64 n] rfl rfl ?c1 ?c2 ?c3 ?c4 ?c5 ?_)
       case c1=>exact qG _ _ _ _ _ _ _ (by simp)
       case c2=>exact qH _ _ _ _
       case c3=>unfold maxLen;omega
       case c4=>omega
       case c5=>have:=d.size;simp;omega
       intro v2 I F f CD Q;have T:=(E (.cells #[.string ⟨(bm G[k].path.data.toList p.data.toList q.data.toList).toArray⟩,.bool G[k].folder,.string G[k].text,.int .i64 n] 108)).size;have V:Below w.heap.size w I:=(d.trans ((E _).mono d.size)).grown f (by have:=d.size;omega) (fun g S=>Nat.le_of_lt (hub g S).1);have C6:I.heap[P]?=w5.heap[P]?:=((f.block P (by omega) (fun e=>(hub P e.symm).2 rfl)).trans ((E _).block P (by omega))).trans C5;have C7:I.heap[w.heap.size]?=w5.heap[w.heap.size]?:=((f.block w.heap.size (by have:=d.size;omega) (fun e=>Nat.lt_irrefl _ (hub _ e.symm).1)).trans ((E _).block w.heap.size (by omega))).trans U;have CG:w5.heap.size≤I.heap.size:=Nat.le_trans CF (Nat.le_trans T f.size)
       have CH: ∀g,v2.ownBlock=some g→w.heap.size<g∧g≠P:=fun g S=>by
        rcases Q with h|h
        · exact hub g (h.symm.trans S)
        · rw[h]at S
          have e:=Option.some.inj S;constructor<;>omega
       rw[←HC.out,fv]at F;have HO:Hid (I.ownsRow w.heap.size 108 4 v2 (X.length+1) (bw (X++[aX ⟨3,p,q,t,b⟩ n G[k]]))):=F;clear F f CD Q A hub C5 U CF E T d d0 d1 d2 d3 f0 f3 D3 z;go_wp2_with fail;go_roundw
       case rel=>exact⟨k+1,by omega,by simp,D4,by rw[D5.out,List.length_append];exact HO.out,CH,C6,C7,CG,V⟩
       case measure=>simp[intOf];omega
     · go_wp2_with fail
       refine(mP G[k].path p q _ (by omega) (by omega) (by omega)).mono ?_
       rintro e w6 ⟨rfl,j⟩;rw[HE.out,eH rfl];obtain⟨d0,d1,d2,d3,z,CS⟩:=cN j
       have f0:=fs j 0;have f3:=fs j 3;have D3:w6.cell? ⟨w.heap.size,1,none⟩=some (.string p):=(z.cell (p:=⟨w.heap.size,1,none⟩) (by show w.heap.size<_;omega)).trans q1;clear j c0 c1 c2 c3 q1 bP CN CO;have E: ∀o,Below wr.heap.size wr ((w6.setCell ⟨wr.heap.size,0,none⟩ (.string ⟨(bm G[k].path.data.toList p.data.toList q.data.toList).toArray⟩)).alloc o):=fun o=>Below.alloc ((z.setCell (p:=⟨wr.heap.size,0,none⟩) (Nat.le_refl _) _)) (by first|(simp;omega)|omega) o
       go_wp2_with (at_builtin;refine wpList_append_own_at _ rfl _ _ 47 rfl w.heap.size 108 aQ (.agg #[.string ⟨#[]⟩,.bool false,.string ⟨#[]⟩,.int .i64 0]) 4 48 underlying47 De Dm Dn Do rfl (by decide) _ _ _ rfl (eI A (E _)) ⟨w6.heap.size,0,none⟩ 1 1 [.string ⟨(bm G[k].path.data.toList p.data.toList q.data.toList).toArray⟩,.bool G[k].folder,.string G[k].text,.int .i64 G[k].ver] rfl rfl ?c1 ?c2 ?c3 ?c4 ?c5 ?_)
       case c1=>exact qG _ _ _ _ _ _ _ (by simp)
       case c2=>exact qH _ _ _ _
       case c3=>unfold maxLen;omega
       case c4=>omega
       case c5=>have:=d.size;simp;omega
       intro v2 I F f CD Q;have T:=(E (.cells #[.string ⟨(bm G[k].path.data.toList p.data.toList q.data.toList).toArray⟩,.bool G[k].folder,.string G[k].text,.int .i64 G[k].ver] 108)).size;have V:Below w.heap.size w I:=(d.trans ((E _).mono d.size)).grown f (by have:=d.size;omega) (fun g S=>Nat.le_of_lt (hub g S).1);have C6:I.heap[P]?=w5.heap[P]?:=((f.block P (by omega) (fun e=>(hub P e.symm).2 rfl)).trans ((E _).block P (by omega))).trans C5;have C7:I.heap[w.heap.size]?=w5.heap[w.heap.size]?:=((f.block w.heap.size (by have:=d.size;omega) (fun e=>Nat.lt_irrefl _ (hub _ e.symm).1)).trans ((E _).block w.heap.size (by omega))).trans U;have CG:w5.heap.size≤I.heap.size:=Nat.le_trans CF (Nat.le_trans T f.size)
       have CH: ∀g,v2.ownBlock=some g→w.heap.size<g∧g≠P:=fun g S=>by
        rcases Q with h|h
        · exact hub g (h.symm.trans S)
        · rw[h]at S
          have e:=Option.some.inj S;constructor<;>omega
       rw[←HC.out,fv]at F;have HO:Hid (I.ownsRow w.heap.size 108 4 v2 (X.length+1) (bw (X++[aX ⟨3,p,q,t,b⟩ n G[k]]))):=F;clear F f CD Q A hub C5 U CF E T d d0 d1 d2 d3 f0 f3 D3 z;go_wp2_with fail;go_roundw
       case rel=>exact⟨k+1,by omega,by simp,D4,by rw[D5.out,List.length_append];exact HO.out,CH,C6,C7,CG,V⟩
       case measure=>simp[intOf];omega
  · have ek:G.take k=G:=List.take_of_length_le (by omega)
    rw[ek]at A HA
    have Dg:K++G.map (aX ⟨3,p,q,t,b⟩ n)≠[]:=by
     intro e;rw[List.append_eq_nil_iff]at e;exact Dc (List.map_eq_nil_iff.1 e.2)
    obtain⟨g,CV,rfl,Dy,Dd,Db,DB⟩:=Pp.own_shape A Dg
    have CQ:(K++G.map (aX ⟨3,p,q,t,b⟩ n)).length≤200:=by
     rw[List.length_append,List.length_map];omega
    have HO:=hid A;have Dp:=hid HD.out;generalize CI:K++G.map (aX ⟨3,p,q,t,b⟩ n)=X at HO Dg CQ Db;have HX:Hid (X=K++G.map (aX ⟨3,p,q,t,b⟩ n)):=CI.symm;try rw[CI]at A
    try rw[CI]
    clear CI;clear A hub C5 U CF cc q1 bP CN CO ek;go_wp2_with fail;refine(qj X w.heap.size g CV _ HO.out (by omega) Db Dy Dd).mono ?_
    rintro e w6 ⟨rfl,M,Dh,CU,Df,j⟩;have Dr:Hid (fx w.heap.size w6 (.slice (some ⟨g,0,none⟩) X.length CV) M):=Df;have Dt:=hid Dh;have D8:=hid CU;clear Dh CU Df;go_wp2;go_ret2;exact Or.inr ⟨HA.out,_,rfl,by rw[←tO (HX.out▸Dt.out) D8.out HR.out Dp.out];exact Dr.out,d.trans j⟩
theorem vU {t:ByteArray} (h:t.data.toList=[]):t=⟨#[]⟩:=dZ h
theorem vV (L:List En) (v:Value) (k:Int) (p q t:ByteArray) (b n:Int) (w:World) (hv:aj w v L) (Z:cP L) (hp:p.size≤150000000000000) (hq:q.size≤150000000000000) (Q:Pp.Good L) (N:aC ⟨k,p,q,t,b⟩=0) (K:be L ⟨k,p,q,t,b⟩=0):
    Calls prog 228 #[v,.agg #[.int .i64 k,.string p,.string q,.string t,.int .i64 b],.int .i64 n] w fun e w'=> ∃u,e= .returned (.tuple #[u,.int .i64 (et L ⟨k,p,q,t,b⟩ n)])∧fx w.heap.size w' u (kd (et L ⟨k,p,q,t,b⟩ n) (bN L ⟨k,p,q,t,b⟩ n))∧Below w.heap.size w w':=by
 have j:=iu N;have HV:Hid (aj w v L):=hv;have HS:Hid (cP L):=Z;have O:Hid (Pp.Good L):=Q;rcases mH K (gU N)with⟨I,h⟩|⟨I,h⟩|⟨I,⟨x,hx⟩,h1,h2⟩|⟨I,x,hx⟩
 · have I:k=1:=I
   subst I;have ht:t=⟨#[]⟩:=vU (j.2.1.resolve_left (by simp));subst ht;clear j h K N Q Z hv;have J:=hid (show et L ⟨1,p,q,⟨#[]⟩,b⟩ n=if 60<(Pp.out (gD 1 p ⟨#[]⟩ n) L).length+1 then 2 else 0 from rfl);have S:=hid (show bN L ⟨1,p,q,⟨#[]⟩,b⟩ n=br (gD 1 p ⟨#[]⟩ n) (Pp.out (gD 1 p ⟨#[]⟩ n) L)from rfl);go_enter func228,ntmps228
   go_wp2_with fail;refine(qk L v (gD 1 p ⟨#[]⟩ n) _ (HV.out.below ((Below.refl _ _).alloc (Nat.le_refl _) _)) O.out.len HS.out (by simp only[gD];omega) O.out.rise).mono ?_
   rintro e w1 (⟨h,rfl,a⟩|⟨h,u,rfl,y,a⟩)
   · obtain⟨A,E,F,G,H,d,f⟩:=ak a
     have o:=hid h;clear h a A E F G H;go_wp2;go_ret2;refine⟨_,by rw[J.out,if_pos o.out];rfl,?_,d⟩
     rw[kX (by rw[J.out,if_pos o.out];decide)];exact iS _ _
   · obtain⟨A,E,F,G,H,d,f⟩:=ak a
     have z:=hid y;have o:=hid h;clear h a y A E F G H;go_wp2;go_ret2;refine⟨_,by rw[J.out,if_neg o.out];rfl,?_,d⟩
     rw[kW (by rw[J.out,if_neg o.out]),S.out];exact z.out.mono (by first|exact Nat.le_of_lt f|(simp;done)|omega|exact Nat.le_refl _)
 · have I:k=2:=I
   subst I;clear j h K N Q Z hv;have J:=hid (show et L ⟨2,p,q,t,b⟩ n=if 60<(Pp.out (gD 2 p t n) L).length+1 then 2 else 0 from rfl);have S:=hid (show bN L ⟨2,p,q,t,b⟩ n=br (gD 2 p t n) (Pp.out (gD 2 p t n) L)from rfl);go_enter func228,ntmps228
   go_wp2_with fail;refine(qk L v (gD 2 p t n) _ (HV.out.below ((Below.refl _ _).alloc (Nat.le_refl _) _)) O.out.len HS.out (by simp only[gD];omega) O.out.rise).mono ?_
   rintro e w1 (⟨h,rfl,a⟩|⟨h,u,rfl,y,a⟩)
   · obtain⟨A,E,F,G,H,d,f⟩:=ak a
     have o:=hid h;clear h a A E F G H;go_wp2;go_ret2;refine⟨_,by rw[J.out,if_pos o.out];rfl,?_,d⟩
     rw[kX (by rw[J.out,if_pos o.out];decide)];exact iS _ _
   · obtain⟨A,E,F,G,H,d,f⟩:=ak a
     have z:=hid y;have o:=hid h;clear h a y A E F G H;go_wp2;go_ret2;refine⟨_,by rw[J.out,if_neg o.out];rfl,?_,d⟩
     rw[kW (by rw[J.out,if_neg o.out]),S.out];exact z.out.mono (by first|exact Nat.le_of_lt f|(simp;done)|omega|exact Nat.le_refl _)
 · have I:k=3:=I
   subst I;have J:=hid (show et L ⟨3,p,q,t,b⟩ n=if(ct L ⟨3,p,q,t,b⟩).any (fun e=>Pp.big (bv ⟨3,p,q,t,b⟩ e))=true then 2 else 0 from rfl);have S:=hid (show bN L ⟨3,p,q,t,b⟩ n=dP (dO L ⟨3,p,q,t,b⟩ n) (bQ L ⟨3,p,q,t,b⟩)from rfl);have HC:=hid N;have HX:=hid hx;have H2:=hid h2;clear j K N Q Z hv hx h1 h2;go_enter func228,ntmps228
   go_wp2_with fail;refine(vT L v p q t b n _ (HV.out.below ((Below.refl _ _).alloc (Nat.le_refl _) _)) HS.out hp hq O.out HC.out H2.out x HX.out).mono ?_
   rintro e w1 (⟨h,rfl,a⟩|⟨h,u,rfl,y,a⟩)
   · obtain⟨A,E,F,G,H,d,f⟩:=ak a
     have o:=hid h;clear h a A E F G H;go_wp2;go_ret2;refine⟨_,by rw[J.out,if_pos o.out];rfl,?_,d⟩
     rw[kX (by rw[J.out,if_pos o.out];decide)];exact iS _ _
   · obtain⟨A,E,F,G,H,d,f⟩:=ak a
     have z:=hid y;have o:=hid h;clear h a y A E F G H;go_wp2;go_ret2;refine⟨_,by rw[J.out,if_neg (by rw[o.out];decide)];rfl,?_,d⟩
     rw[kW (by rw[J.out,if_neg (by rw[o.out];decide)]),S.out];exact z.out.mono (by first|exact Nat.le_of_lt f|(simp;done)|omega|exact Nat.le_refl _)
 · have I:k=4:=I
   subst I;have X:=fN N;have HK:=hid (show L.filter (fun e=> !dk p.data.toList e)=bQ L ⟨4,p,q,t,b⟩from nJ fun e he=>by rw[lu (fJ (Q.ents e he)) X]);have C5:=hid (show(bQ L ⟨4,p,q,t,b⟩).length≤L.length from List.length_filter_le _ _);clear j K N Q Z hv hx X;go_enter func228,ntmps228
   go_wp2_with fail;refine(kf p _ (by omega)).mono ?_
   rintro e w1 ⟨rfl,C3,a⟩;obtain⟨A,E,F,G,H,d,f⟩:=ak a
   have C6:=hid (show cj w1 312 #[.pointer (some ⟨w.heap.size+1,0,none⟩)] (dk p.data.toList)from by simpa using C3);clear C3;go_wp2_with fail;refine(mQ _ _ (dk p.data.toList) _ C6.out).mono ?_
   rintro e w2 ⟨rfl,C4,U⟩;have C7:=hid C4;have M:=a.trans (U.mono a.size);clear C4 A E F G H d f a U;obtain⟨A,E,F,G,H,d,f⟩:=ak M
   go_wp2_with fail;refine(kg L v _ _ (fun e=> !dk p.data.toList e) _ (HV.out.below d) C7.out (Nat.le_trans O.out.len (by decide)) HS.out).mono ?_
   rintro e w3 ⟨u1,rfl,P,C8,V⟩;rw[HK.out]at P;have z:=hid (uA P (by have:=C5.out;have:=O.out.len;omega));have Y:=f;have T:=d.trans (V.mono (Nat.le_of_lt f));clear A E F G H d f M V P C8;go_wp2;go_ret2;exact⟨_,rfl,z.out.mono (Nat.le_of_lt Y),T⟩
def ix (L:List En) (c:ar) (n:Int):List En:=kd (bn L c n) (bN L c n)
theorem nL {L:List En} {c:ar} {n:Int} (h: ¬aM n=0):bn L c n=aM n:=by rw[bn,if_pos h]
theorem qI {L:List En} {c:ar} {n:Int} (h:aM n=0) (a: ¬aC c=0):bn L c n=aC c:=by rw[bn,if_neg (fun x=>x h),if_pos a]
theorem qJ {L:List En} {c:ar} {n:Int} (h:aM n=0) (a:aC c=0) (d: ¬be L c=0):bn L c n=be L c:=by rw[bn,if_neg (fun x=>x h),if_neg (fun x=>x a),if_pos d]
theorem vW {L:List En} {c:ar} {n:Int} (h:aM n=0) (a:aC c=0) (d:be L c=0) (e:cO L c=true):bn L c n=8:=by rw[bn,if_neg (fun x=>x h),if_neg (fun x=>x a),if_neg (fun x=>x d),if_pos e]
theorem vX {L:List En} {c:ar} {n:Int} (h:aM n=0) (a:aC c=0) (d:be L c=0) (e:cO L c=false):bn L c n=et L c n:=by rw[bn,if_neg (fun x=>x h),if_neg (fun x=>x a),if_neg (fun x=>x d),if_neg (by rw[e];decide)]
theorem lx {L:List En} {c:ar} {n:Int} {e:Int} (h:bn L c n=e) (a: ¬e=0):ix L c n=[]:=by rw[ix,h,kX a]
theorem vY (L:List En) (v:Value) (k:Int) (p q t:ByteArray) (b n:Int) (w:World) (hv:aj w v L) (hs:cP L) (hp:p.size≤150000000000000) (hq:q.size≤150000000000000) (ht:t.size≤150000000000000) (hL:Pp.Good L):
    Calls prog 190 #[v,.agg #[.int .i64 k,.string p,.string q,.string t,.int .i64 b],.int .i64 n] w fun e w'=> ∃u,e= .returned (.tuple #[u,.int .i64 (bn L ⟨k,p,q,t,b⟩ n)])∧fx w.heap.size w' u (ix L ⟨k,p,q,t,b⟩ n)∧Below w.heap.size w w':=by
 have X:Hid (aj w v L):=hv;have V:Hid (cP L):=hs;have HL:Hid (Pp.Good L):=hL;clear hv hs hL;by_cases f:aM n=0
 · have Q:=hid f
   by_cases y:aC ⟨k,p,q,t,b⟩=0
   · have A:=hid y
     by_cases z:be L ⟨k,p,q,t,b⟩=0
     · have T:=hid z
       cases M:cO L ⟨k,p,q,t,b⟩with
       |true=>
        have ae:=vW f y z M;have P:=hid (lx ae (by decide));have O:=hid ae;have U:=hid M;clear ae M z y f;go_enter func190,ntmps190
        go_wp2_with fail;refine(iN n _).mono ?_
        rintro e w1 ⟨rfl,rfl⟩;rw[Q.out];go_wp2_with fail;refine(lj k p q t b _ (by omega) (by omega) (by omega)).mono ?_
        rintro e w2 ⟨rfl,j⟩;rw[A.out];obtain⟨G,H,I,J,K,a,o⟩:=ak j
        go_wp2_with fail;refine(mV L v k p q t b _ (X.out.below a) (fun e S=>(V.out e S).1) (by omega) (by omega) A.out).mono ?_
        rintro e w3 ⟨rfl,F⟩;rw[T.out];have d:=j.trans (F.mono j.size);clear G H I J K a o j F;obtain⟨G,H,I,J,K,a,o⟩:=ak d
        go_wp2_with fail;refine(qA L v k p q t b _ (X.out.below a) V.out (by omega) (fun e S=>fJ (HL.out.ents e S)) (fN A.out)).mono ?_
        rintro e w4 ⟨rfl,N⟩;rw[U.out];have E:=d.trans (N.mono d.size);clear G H I J K a o d N;obtain⟨G,H,I,J,K,a,o⟩:=ak E
        clear E;go_wp2;go_ret2;exact⟨_,by rw[O.out];rfl,by rw[P.out];exact iS _ _,a⟩
       |false=>
        have ae:=vX f y z M;have O:=hid ae;have P:=hid (show ix L ⟨k,p,q,t,b⟩ n=kd (et L ⟨k,p,q,t,b⟩ n) (bN L ⟨k,p,q,t,b⟩ n)from by rw[ix,ae]);have U:=hid M;clear ae M z y f;go_enter func190,ntmps190
        go_wp2_with fail;refine(iN n _).mono ?_
        rintro e w1 ⟨rfl,rfl⟩;rw[Q.out];go_wp2_with fail;refine(lj k p q t b _ (by omega) (by omega) (by omega)).mono ?_
        rintro e w2 ⟨rfl,j⟩;rw[A.out];obtain⟨G,H,I,J,K,a,o⟩:=ak j
        go_wp2_with fail;refine(mV L v k p q t b _ (X.out.below a) (fun e S=>(V.out e S).1) (by omega) (by omega) A.out).mono ?_
        rintro e w3 ⟨rfl,F⟩;rw[T.out];have d:=j.trans (F.mono j.size);clear G H I J K a o j F;obtain⟨G,H,I,J,K,a,o⟩:=ak d
        go_wp2_with fail;refine(qA L v k p q t b _ (X.out.below a) V.out (by omega) (fun e S=>fJ (HL.out.ents e S)) (fN A.out)).mono ?_
        rintro e w4 ⟨rfl,N⟩;rw[U.out];have E:=d.trans (N.mono d.size);clear G H I J K a o d N;obtain⟨G,H,I,J,K,a,o⟩:=ak E
        go_wp2_with fail;refine(vV L v k p q t b n _ (X.out.below a) V.out hp hq HL.out A.out T.out).mono ?_
        rintro e w5 ⟨u,rfl,C3,Z⟩;have C4:=hid (C3.mono (Nat.le_of_lt o));have Y:=a.trans (Z.mono (Nat.le_of_lt o));clear G H I J K a o E Z C3;go_wp2;go_ret2;exact⟨_,by rw[O.out];rfl,by rw[P.out];exact C4.out.mono (by first|exact Nat.le_of_lt o|(simp;done)|omega|exact Nat.le_refl _),Y⟩
     · have ae:=qJ f y z
       have P:=hid (lx ae z);have O:=hid ae;have hz:(be L ⟨k,p,q,t,b⟩==0)=false:=by simpa using z
       clear ae y f;go_enter func190,ntmps190
       go_wp2_with fail;refine(iN n _).mono ?_
       rintro e w1 ⟨rfl,rfl⟩;rw[Q.out];go_wp2_with fail;refine(lj k p q t b _ (by omega) (by omega) (by omega)).mono ?_
       rintro e w2 ⟨rfl,j⟩;rw[A.out];obtain⟨G,H,I,J,K,a,o⟩:=ak j
       go_wp2_with fail;refine(mV L v k p q t b _ (X.out.below a) (fun e S=>(V.out e S).1) (by omega) (by omega) A.out).mono ?_
       rintro e w3 ⟨rfl,F⟩;have d:=j.trans (F.mono j.size);clear G H I J K a o j F;obtain⟨G,H,I,J,K,a,o⟩:=ak d
       clear d;go_wp2;go_ret2;exact⟨_,by rw[O.out];rfl,by rw[P.out];exact iS _ _,a⟩
   · have ae:=qI (L:=L) f y
     have P:=hid (lx ae y);have O:=hid ae;have hz:(aC ⟨k,p,q,t,b⟩==0)=false:=by simpa using y
     clear ae f;go_enter func190,ntmps190
     go_wp2_with fail;refine(iN n _).mono ?_
     rintro e w1 ⟨rfl,rfl⟩;rw[Q.out];go_wp2_with fail;refine(lj k p q t b _ (by omega) (by omega) (by omega)).mono ?_
     rintro e w2 ⟨rfl,j⟩;obtain⟨G,H,I,J,K,a,o⟩:=ak j
     clear j;go_wp2;go_ret2;exact⟨_,by rw[O.out];rfl,by rw[P.out];exact iS _ _,a⟩
 · have ae:=nL (L:=L) (c:=⟨k,p,q,t,b⟩) f
   have P:=hid (lx ae f);have O:=hid ae;have hz:(aM n==0)=false:=by simpa using f
   clear ae;go_enter func190,ntmps190
   go_wp2_with fail;refine(iN n _).mono ?_
   rintro e w1 ⟨rfl,rfl⟩;go_wp2;go_ret2;exact⟨_,by rw[O.out];rfl,by rw[P.out];exact iS _ _,(Below.refl _ _).alloc (Nat.le_refl _) _⟩
theorem vZ (L:List En) (v:Value) (k:Int) (p q t:ByteArray) (b n:Int) (w:World) (E:aj w v L) (z:cP L) (o:p.size≤150000000000000) (y:q.size≤150000000000000) (A:t.size≤150000000000000) (j:Pp.Good L):
    Calls prog 190 #[v,.agg #[.int .i64 k,.string p,.string q,.string t,.int .i64 b],.int .i64 n] w fun e w'=> ∃u,e= .returned (.tuple #[u,.int .i64 (bn L ⟨k,p,q,t,b⟩ n)])∧aj w' u (ix L ⟨k,p,q,t,b⟩ n)∧Below w.heap.size w w':=
 (vY L v k p q t b n w E z o y A j).mono fun _ _ ⟨u,a,d,f⟩=>⟨u,a,d.1,f⟩
end Go.Proofs.YtgamnckfmmbjdaaGreatDoor
