/- What the reference's ChangeOf answers, of changes that move. -/
import Derived.Test.YtdlpjlfefjipkaaGreatHFO
set_option linter.unusedSimpArgs false
set_option linter.unusedVariables false
namespace Go.Proofs.YtdlpjlfefjipkaaGreat
open Go.RowKit Go.Proofs.Tryz
set_option maxHeartbeats 12000000
set_option maxRecDepth 100000
theorem Au (L:List En) (v:Value) (p q t:ByteArray) (b n:Int) (w:World) (hv:aF w v L) (hs: ∀e∈L,e.path.size≤1000000000) (hp:p.size≤1000000000) (hq:q.size≤1000000000) (ht:t.size≤1000000000) (hL:Pp.Good L) (hc:aQ ⟨3,p,q,t,b⟩=0) (H0:Hid (aO L (aI q.data.toList)=0)) (j:Nat) (hj:j<L.length) (HI:Hid (cW L p.data.toList=(j:Int))) (GB:Hid (a8 q.data.toList p.data.toList=false)) (Gy:Hid (cW L q.data.toList= -1)) (Gm:L.find? (aR q.data.toList)=none):
    Calls prog 85 #[v,.agg #[.int .i64 3,p,.string q,.string t,.int .i64 b],n] w fun e w'=> ∃u,e= .returned (.tuple #[u,.int .i64 (Pp.rstE L ⟨3,p,q,t,b⟩ n)])∧(Pp.rstE L ⟨3,p,q,t,b⟩ n=0→aF w' u (cN L ⟨3,p,q,t,b⟩ n))∧Below w.heap.size w w':=by
 obtain⟨i0,GN,GQ,GR,GS⟩:=info_parts Tryz.infoE
 have HV:=hid hv;have HC:=hid hc;have HS:=hid hs;have HR:=hid hL.rise;have Hd:=hid hL;have H9:L.length≤60:=hL.len;have GK: -1≤b:=(jG hc).2.2.2.1;have Hr:t.size≤1000000000:=by exact ht
 have HE:=hid (show fk L ⟨3,p,q,t,b⟩ n=if(dw L ⟨3,p,q,t,b⟩).any (fun e=>bv (cp ⟨3,p,q,t,b⟩ e))=true then 2 else 0 from rfl);have HQ:=hid (show cN L ⟨3,p,q,t,b⟩ n=dF L ⟨3,p,q,t,b⟩ n L.length from(Aa L ⟨3,p,q,t,b⟩ n).symm);have G0:=hid (show dF L ⟨3,p,q,t,b⟩ n 0=L.filter (fun e=> !bf p.data.toList e)from rfl);have Gj:aD p.data.toList=0:=hD hc;have FQ:aD q.data.toList=0:=kV hc rfl;have HD:Hid ((cT L ⟨3,p,q,t,b⟩++eM L ⟨3,p,q,t,b⟩ n).Pairwise fZ):=oO hL n (mS FQ) Gm;have Hx:p.size≤80:=by rw[Lib.size_eq];exact k7 Gj
 have Hz:q.size≤80:=by rw[Lib.size_eq];exact k7 FQ
 have Gx:=hid (show∀e∈L,e.path.size≤80 from fun e he=>by rw[Lib.size_eq];exact k7 (gY (hL.ents e he)));have FE:=hid (show∀y (h:y<L.length),bf p.data.toList L[y]=true→gm (bG ⟨3,p,q,t,b⟩ n L[y]) (dF L ⟨3,p,q,t,b⟩ n y)=dF L ⟨3,p,q,t,b⟩ n (y+1)from fun y h hw=>Ac hL HD.out h hw);have Fl:=hid (show∀y (h:y<L.length),bf p.data.toList L[y]=false→dF L ⟨3,p,q,t,b⟩ n (y+1)=dF L ⟨3,p,q,t,b⟩ n y from fun y h hw=>Ab h hw);have F5:=hid (show∀y,(dF L ⟨3,p,q,t,b⟩ n y).length≤L.length from fun y=>Ad L _ n y);have Hp:(j:Int)<L.length:=by omega
 clear Gj FQ Gm;obtain⟨a,Hf,rfl,GZ,GM,G9⟩:=hv
 have HL:Hid (∀i (h:i<L.length),∃b o,a=some ⟨b,o,none⟩∧b<w.heap.size∧dJ w b (o+i*4) L[i]):=G9;obtain⟨C,hC⟩: ∃C:aE,C=⟨3,p,q,t,b⟩:=⟨_,rfl⟩
 rw[←hC]at HC HE HQ G0 HD FE Fl F5⊢;have ES:=hid hC;clear hC G9 hL hs hc;go_enter func85,ntmps85
 go_wp2_with fail;refine(fM _ p q _ b _ hp hq (by omega)).mono ?_
 rintro e w1 ⟨rfl,EI⟩;rw[←ES.out,HC.out];obtain⟨c0,c1,c2,c3,c4,H,E4⟩:=aC EI
 go_wp2_with fail;refine(fv q _ hq).mono ?_
 rintro e w2 ⟨rfl,Gc⟩;have F6:=EI.trans (Gc.mono EI.size);clear c0 c1 c2 c3 c4 H E4 EI Gc;obtain⟨c0,c1,c2,c3,c4,H,E4⟩:=aC F6
 go_wp2_with fail;refine(fw L _ ⟨(aI q.data.toList).toArray⟩ _ (HV.out.below H)).mono ?_
 rintro e w3 ⟨rfl,Gd⟩;rw[show aO L _=0 from H0.out];have F7:=F6.trans (Gd.mono F6.size);clear c0 c1 c2 c3 c4 H E4 F6 Gd;obtain⟨c0,c1,c2,c3,c4,H,E4⟩:=aC F7
 go_wp2_with fail;refine(eX L _ p _ (HV.out.below H)).mono ?_
 rintro e w4 ⟨rfl,Ge⟩;rw[HI.out];have F8:=F7.trans (Ge.mono F7.size);clear c0 c1 c2 c3 c4 H E4 F7 Ge;obtain⟨c0,c1,c2,c3,c4,H,E4⟩:=aC F8
 go_wp2_with fail;refine(eZ q p _ hq hp).mono ?_
 rintro e w5 ⟨rfl,F⟩;rw[GB.out];have F9:=F8.trans (F.mono F8.size);clear c0 c1 c2 c3 c4 H E4 F8 F;obtain⟨c0,c1,c2,c3,c4,H,E4⟩:=aC F9
 go_wp2_with fail;refine(eX L _ q _ (HV.out.below H)).mono ?_
 rintro e w6 ⟨rfl,Gf⟩;rw[Gy.out];have FG:=F9.trans (Gf.mono F9.size);clear c0 c1 c2 c3 c4 H E4 F9 Gf;obtain⟨c0,c1,c2,c3,c4,H,E4⟩:=aC FG
 have HB:=hid FG;go_wp2_with fail;clear c0 c1 c2 c3 c4 H E4;go_loopw [11] (fun i wr=> ∃m:Nat,m≤L.length∧i= .int .i64 m∧Hid (∀j (h:j<L.length),j<m→da p.data.toList b L[j]=false)∧(b<0→m=0)∧Below w6.heap.size w6 wr) (fun i _=>L.length-(intOf i).toNat)
 case atStart=>exact⟨0,Nat.zero_le _,rfl,(fun j _ h=>absurd h (Nat.not_lt_zero _): ∀j (h:j<L.length),j<0→da p.data.toList b L[j]=false),fun _=>rfl,aw⟩
 case round=>
  obtain⟨m,hm,rfl,HP,GP,Q⟩:=hrel
  have Fm:=HB.out.trans (Q.mono HB.out.size);obtain⟨c0,c1,c2,c3,c4,H,E4⟩:=aC Fm
  clear GP;go_upto_region 22 with fail;go_cut [100] (fun t W=>t= .bool (decide (m<L.length∧0≤b))∧W=wr)
  case first=>
   by_cases h1:m<L.length
   · have GH:(m:Int)<L.length:=by omega
     by_cases h2:0≤b
     · have HD:=hid (decide_eq_true (p:=m<L.length∧0≤b) ⟨h1,h2⟩)
       go_wp2;go_meet
       case rel=>exact⟨by rw[HD.out],rfl⟩
     · have HD:=hid (decide_eq_false (p:=m<L.length∧0≤b) (fun h=>h2 h.2))
       go_wp2;go_meet
       case rel=>exact⟨by rw[HD.out],rfl⟩
   · have GH: ¬(m:Int)<L.length:=by omega
     have HD:=hid (decide_eq_false (p:=m<L.length∧0≤b) (fun h=>h1 h.1));go_wp2;go_meet
     case rel=>exact⟨by rw[HD.out],rfl⟩
  case rest=>
  obtain⟨rfl,Gk⟩:=hcut
  have Gl:=Gk.symm;subst Gl;clear Gk;by_cases FA:m<L.length∧0≤b
  · rw[decide_eq_true FA]
    obtain⟨FB,GJ⟩:=FA
    obtain⟨b1,o1,Fi,EI,he⟩:=HL.out m FB
    first|subst Fi|(have Gb:=Option.some.inj Fi;injection Gb with e1 e2 e3;have GF:=e1.symm;have GG:=e2.symm;subst GF;subst GG)
    obtain⟨d0,d1,d2,d3⟩:=he.below EI H
    have EX:b1<wr.heap.size:=Nat.lt_of_lt_of_le EI H.size;cases E3:a8 (L[m]).path.data.toList p.data.toList with
    |false=>
     have Fh:=hid E3;have EM:=hid (mi (b:=b) (e:=L[m]) E3);clear E3;go_wp2_with fail;refine wp_region_held_drew (S:=fun W=>W.cell? ⟨b1,o1+m*4,none⟩=some (.string L[m].path)∧W.cell? ⟨w.heap.size,1,none⟩=some (.string p)) (by kernel_rfl) ⟨by simpa using d0,by simpa using c1⟩ (fun A=>?_)
     refine tk 0 ⟨some 103,Op.move (Operand.tmp 0),33,_,_,none⟩ A ?_
     try simp only[pu]
     refine tk 1 ⟨some 104,Op.move (Operand.tmp 11),3,_,_,none⟩ A ?_
     try simp only[pu]
     refine tk 2 ⟨some 105,Op.indexAddr 33 (Operand.tmp 103) (Operand.tmp 104),0,_,_,none⟩ A ?_
     try simp only[pu]
     refine tk 3 ⟨some 106,Op.fieldAddr 145 (Operand.tmp 105) 0,0,_,_,none⟩ A ?_
     try simp only[pu]
     refine tk 4 ⟨some 107,Op.load 9 (Operand.tmp 106),9,_,_,none⟩ A ?_
     try simp only[pu]
     refine tk 5 ⟨some 108,Op.fieldAddr 83 (Operand.tmp 4) 1,0,_,_,none⟩ A ?_
     try simp only[pu]
     refine tk 6 ⟨some 109,Op.load 9 (Operand.tmp 108),9,_,_,none⟩ A ?_
     try simp only[pu]
     refine wpAnyH_ready (rs:=[7]) (by kernel_rfl) (by simp) ?_
     refine AllReadyH.cons rfl (fun K E=>?_) AllReadyH.nil
     go_simp
     refine(eZ L[m].path p _ (HS.out _ (List.getElem_mem FB)) hp).mono ?_
     rintro e O ⟨rfl,Z⟩;rw[Fh.out];have k1:O.cell? ⟨b1,o1+m*4,none⟩=some (.string L[m].path):=(Z.cell (p:=⟨b1,o1+m*4,none⟩) EX).trans d0;have k2:O.cell? ⟨w.heap.size,1,none⟩=some (.string p):=(Z.cell (p:=⟨w.heap.size,1,none⟩) E4).trans c1;go_wp2_with fail;refine E.out _ _ ⟨k1,k2⟩ (fun A=>?_)
     clear E K;try simp only[pu]
     refine tk 8 ⟨some 111,Op.move (Operand.tmp 110),4,_,_,none⟩ A ?_
     try simp only[pu]
     refine lk (g:=8) (dg:=111) (by kernel_rfl) (by kernel_rfl) (fun _ _ _ _ _ h=>h) A (fuel:=1) [(9,112),(10,113),(11,114),(12,115),(13,116),(14,117),(15,118),(16,119)] _ _ (by kernel_rfl) (by kernel_rfl) ?_
     simp only[kp,kr,Act.put,List.setIfInBounds_toArray,List.set_cons_zero,List.set_cons_succ];refine tk 17 ⟨some 120,Op.pick (Operand.tmp 111) (Operand.tmp 119) (Operand.const (Value.bool false)),4,_,_,none⟩ A ?_
     try simp only[pu]
     refine wpAnyH_done (by kernel_rfl) ?_ _
     have EP:Below w6.heap.size w6 O:=Q.drew.trans (Z.mono Q.drew.size);go_wp2;go_roundw
     case rel=>exact⟨m+1,by omega,by simp,(fun j h1 h2=>by
      by_cases e:j=m
      · subst e;exact EM.out
      · exact HP.out j h1 (by omega): ∀j (h:j<L.length),j<m+1→da p.data.toList b L[j]=false),fun h=>absurd h (by omega),EP⟩
     case measure=>simp[intOf];omega
    |true=>
     have Fh:=hid E3;have HY:=hid (show b<(L[m]).ver→ ∀(k:Int) (q t:ByteArray),dL L ⟨k,p,q,t,b⟩=true from fun Ff k q t=>mh GJ FB E3 Ff);clear E3;go_wp2_with fail
     go_region_held3 (fun W=>W.cell? ⟨b1,o1+m*4,none⟩=some (.string L[m].path)∧W.cell? ⟨w.heap.size,1,none⟩=some (.string p)∧W.cell? ⟨b1,o1+m*4+3,none⟩=some (.int .i64 L[m].ver)∧W.cell? ⟨w.heap.size,4,none⟩=some (.int .i64 b)) (go_keep) (first
      |(go_at_call 114;refine(eZ L[m].path p _ (HS.out _ (List.getElem_mem FB)) hp).mono ?_;rintro e O ⟨rfl,Z⟩;rw[Fh.out];have k1:O.cell? ⟨b1,o1+m*4,none⟩=some (.string L[m].path):=(Z.cell (p:=⟨b1,o1+m*4,none⟩) EX).trans d0;have k2:O.cell? ⟨w.heap.size,1,none⟩=some (.string p):=(Z.cell (p:=⟨w.heap.size,1,none⟩) E4).trans c1;have k3:O.cell? ⟨b1,o1+m*4+3,none⟩=some (.int .i64 L[m].ver):=(Z.cell (p:=⟨b1,o1+m*4+3,none⟩) EX).trans d3;have k4:O.cell? ⟨w.heap.size,4,none⟩=some (.int .i64 b):=(Z.cell (p:=⟨w.heap.size,4,none⟩) E4).trans c4))
     by_cases Ff:b<(L[m]).ver
     · have EM:=hid (HY.out Ff)
       have Gh:Below w.heap.size w O:=H.drew.trans (Z.mono H.drew.size);go_wp2_with fail;go_ret2;exact⟨_,by rw[Pp.rstE,if_pos (by rw[ES.out];exact EM.out _ _ _)];rfl,fun h=>by rw[Pp.rstE,if_pos (by rw[ES.out];exact EM.out _ _ _)]at h;exact absurd h (by decide),Gh⟩
     · have EM:=hid (mj (p:=p.data.toList) (b:=b) (e:=L[m]) Ff)
       have EP:Below w6.heap.size w6 O:=Q.drew.trans (Z.mono Q.drew.size);go_wp2;go_roundw
       case rel=>exact⟨m+1,by omega,by simp,(fun j h1 h2=>by
        by_cases e:j=m
        · subst e;exact EM.out
        · exact HP.out j h1 (by omega): ∀j (h:j<L.length),j<m+1→da p.data.toList b L[j]=false),fun h=>absurd h (by omega),EP⟩
       case measure=>simp[intOf];omega
  · have hN:dL L C=false:=by
     rw[ES.out];exact me GK (fun j h h0=>HP.out j h (by omega))
    have HN:=hid hN;rw[decide_eq_false FA];clear hN FA HP hm
    all_goals
     go_wp2_with fail;have FM:=hid Fm;have Gw:=hid H;have Gq:=E4;have Gg:=H.size;clear c0 c1 c2 c3 c4 E4 Q H Fm;obtain⟨wf,FV⟩: ∃wf,wf=wr:=⟨_,rfl⟩
     rw[←FV];rw[←FV]at FM Gw Gq Gg;clear FV;go_loopw [12,13] (fun o i wr=> ∃x:Nat,x≤L.length∧i= .int .i64 x∧wr.ownsRow wf.heap.size 145 4 o ((L.take x).filter (fun e=> !bf p.data.toList e)).length (cq ((L.take x).filter (fun e=> !bf p.data.toList e)))∧Below wf.heap.size wf wr) (fun _ i _=>L.length-(intOf i).toNat)
     case atStart=>exact⟨0,Nat.zero_le _,rfl,World.ownsRow_nil _ _ _ _,aw⟩
     case round=>
      obtain⟨x,hx,rfl,F0,Q⟩:=hrel
      have Fp:=FM.out.trans (Q.mono FM.out.size);obtain⟨c0,c1,c2,c3,c4,H,E4⟩:=aC Fp
      by_cases FR:x<L.length
      · obtain⟨b1,o1,Fi,EI,he⟩:=HL.out x FR
        subst Fi;obtain⟨d0,d1,d2,d3⟩:=he.below EI H
        have EX:b1<wr.heap.size:=Nat.lt_of_lt_of_le EI H.size;have Hj:((L.take x).filter (fun e=> !bf p.data.toList e)).length≤60:=Nat.le_trans (List.length_filter_le _ _) (by rw[List.length_take];omega);have Fe:=nG (f:=fun e=> !bf p.data.toList e) FR;go_wp2_with fail
        go_region_held3 (fun W=>W.cell? ⟨b1,o1+x*4,none⟩=some (.string L[x].path)∧W.cell? ⟨w.heap.size,1,none⟩=some (.string p)) (go_keep) (first
         |(go_at_call 114;refine(eZ L[x].path p _ (HS.out _ (List.getElem_mem FR)) hp).mono ?_;rintro e O ⟨rfl,Z⟩;have k1:O.cell? ⟨b1,o1+x*4,none⟩=some (.string L[x].path):=(Z.cell (p:=⟨b1,o1+x*4,none⟩) EX).trans d0;have k2:O.cell? ⟨w.heap.size,1,none⟩=some (.string p):=(Z.cell (p:=⟨w.heap.size,1,none⟩) E4).trans c1))
        have ER:=gh F0.drew Z;have U:Below wf.heap.size wf O:=Q.drew.trans (Z.mono Q.drew.size);have FI:Below w.heap.size w O:=H.drew.trans (Z.mono H.drew.size);clear c0 c1 c2 c3 c4 Fp F0 Q H d0 d1 d2 d3 E4 EX;cases E3:bf p.data.toList L[x]with
        |true=>
         have E6:a8 (L[x]).path.data.toList p.data.toList=true:=E3;have EM:=hid (show(L.take (x+1)).filter (fun e=> !bf p.data.toList e)=(L.take x).filter (fun e=> !bf p.data.toList e)from by rw[Fe];simp[E3]);have HO:=hid ER;clear Fe E3 ER k1 k2 Z;rw[E6];clear E6;go_wp2;go_roundw
         case rel=>exact⟨x+1,by omega,by simp,by rw[EM.out];exact HO.out,U⟩
         case measure=>simp[intOf];omega
        |false=>
         have E6:a8 (L[x]).path.data.toList p.data.toList=false:=E3;have EM:=hid (show(L.take (x+1)).filter (fun e=> !bf p.data.toList e)=(L.take x).filter (fun e=> !bf p.data.toList e)++[L[x]]from by rw[Fe];simp[E3]);obtain⟨d0,d1,d2,d3⟩:=he.below EI FI
         generalize (L.take x).filter (fun e=> !bf p.data.toList e)=X at*;clear Fe E3 k1 k2 Z;rw[E6];clear E6;go_wp2_with (at_builtin;refine wpList_append_own _ rfl _ _ 33 rfl wf.heap.size 145 i0 (.agg #[.string ⟨#[]⟩,false,.string ⟨#[]⟩,ah]) 4 48 underlying33 GN GQ GR GS rfl (by decide) _ _ _ rfl (ER.alloc _) ⟨O.heap.size,0,none⟩ 1 1 (Pp.cells L[x]) rfl rfl (gi O L[x] _) (gH _) (by unfold maxLen;omega) (by omega) (by have:=U.size;simp at this⊢;omega) ?_)
         intro v2 w2 FS FJ Gs;have EP:Below wf.heap.size wf w2:=(U.alloc U.size _).grown FJ (by have:=U.size;simp at this⊢;omega) (fun g hg=>by have:=(ER.lt g hg).1;simp;omega);rw[gG]at FS;have Fs:w2.ownsRow wf.heap.size 145 4 v2 (X++[L[x]]).length (cq (X++[L[x]])):=by rw[List.length_append];exact FS
         have HO:=hid Fs;clear FS FJ Gs Fs ER U FI d0 d1 d2 d3 he;go_wp2;go_roundw
         case rel=>exact⟨x+1,by omega,by simp,by rw[EM.out];exact HO.out,EP⟩
         case measure=>simp[intOf];omega
      · have eL:L.take x=L:=List.take_of_length_le (by omega)
        rw[eL]at F0;have HO:=hid F0;clear eL F0;go_wp2_with fail;have G8:=(G0.out▸hid (jI HO.out (by have:=List.length_filter_le (fun e=> !bf p.data.toList e) L;omega)):Hid (aF wr _ (dF L C n 0)))
        clear HO;obtain⟨wg,Gu⟩: ∃wg,wg=wr:=⟨_,rfl⟩
        rw[←Gu]at G8 Q Fp H E4⊢;clear c0 c1 c2 c3 c4 Gu;have Fg:=hid Fp;clear Fp Q H;go_loopw [12,14] (fun o i wr=> ∃y:Nat,y≤L.length∧i= .int .i64 y∧Hid (aF wr o (dF L C n y))∧Hid (∀j (h:j<L.length),j<y→bf p.data.toList L[j]=true→bv (cp C L[j])=false)∧Below wg.heap.size wg wr) (fun _ i _=>L.length-(intOf i).toNat)
        case atStart=>exact⟨0,Nat.zero_le _,rfl,G8,(fun j _ h=>absurd h (Nat.not_lt_zero _): ∀j (h:j<L.length),j<0→bf p.data.toList L[j]=true→bv (cp C L[j])=false),aw⟩
        case round=>
         obtain⟨y,hy,rfl,HU,Fv,Q⟩:=hrel
         have Fq:=Fg.out.trans (Q.mono Fg.out.size);obtain⟨c0,c1,c2,c3,c4,H,EJ⟩:=aC Fq
         by_cases Fj:y<L.length
         · obtain⟨b1,o1,Fi,EI,he⟩:=HL.out y Fj
           subst Fi;obtain⟨d0,d1,d2,d3⟩:=he.below EI H
           have EX:b1<wr.heap.size:=Nat.lt_of_lt_of_le EI H.size;go_wp2_with fail
           go_region_held3 (fun W=>W.cell? ⟨b1,o1+y*4,none⟩=some (.string L[y].path)∧W.cell? ⟨w.heap.size,1,none⟩=some (.string p)) (go_keep) (first
            |(go_at_call 114;refine(eZ L[y].path p _ (HS.out _ (List.getElem_mem Fj)) hp).mono ?_;rintro e O ⟨rfl,Z⟩;have k1:O.cell? ⟨b1,o1+y*4,none⟩=some (.string L[y].path):=(Z.cell (p:=⟨b1,o1+y*4,none⟩) EX).trans d0;have k2:O.cell? ⟨w.heap.size,1,none⟩=some (.string p):=(Z.cell (p:=⟨w.heap.size,1,none⟩) EJ).trans c1))
           have U:Below wg.heap.size wg O:=Q.drew.trans (Z.mono Q.drew.size);have G4:=hid (HU.out.below ( aw.drew.trans Z));clear c0 c1 c2 c3 c4 Fq Q H d0 d1 d2 d3 EJ EX HU k1 k2 Z;have Fq:=Fg.out.trans (U.mono Fg.out.size);obtain⟨c0,c1,c2,c3,c4,H,EJ⟩:=aC Fq
           cases E3:bf p.data.toList L[y]with
           |false=>
            have E6:a8 (L[y]).path.data.toList p.data.toList=false:=E3;have EM:=hid (Fl.out y Fj E3)
            have Fk:=hid (show∀j (h:j<L.length),j<y+1→bf p.data.toList L[j]=true→bv (cp C L[j])=false from fun j h1 h2 h3=>by
             by_cases e:j=y
             · subst e;rw[E3]at h3;cases h3
             · exact Fv.out j h1 (by omega) h3)
            clear E3;rw[E6];clear E6;go_wp2;go_roundw
            case rel=>exact⟨y+1,by omega,by simp,(by rw[EM.out];exact G4.out:aF _ _ (dF L C n (y+1))),Fk,U⟩
            case measure=>simp[intOf];omega
           |true=>
            have E6:a8 (L[y]).path.data.toList p.data.toList=true:=E3;have Fh:=hid E3;obtain⟨d0,d1,d2,d3⟩:=he.below EI H
            have Hy:(L[y]).path.size≤80:=Gx.out _ (List.getElem_mem Fj);have HJ:=hid (show cr (az q.data.toList++(az (L[y]).path.data.toList).drop (az p.data.toList).length)=cp C L[y]from by rw[ES.out];exact xt _ E6)
            have Hq:(cp C L[y]).length≤160:=by
             rw[ES.out];have:=st (L[y]).path.data.toList p.data.toList q.data.toList
             rw[←Lib.size_eq,←Lib.size_eq]at this;exact Nat.le_trans this (by omega)
            have Hk:(az p.data.toList).length≤(az (L[y]).path.data.toList).length:=by
             have:(az p.data.toList).isPrefixOf (az (L[y]).path.data.toList)=true:=E6
             exact(List.isPrefixOf_iff_prefix.1 this).length_le
            have Hv:(az q.data.toList).length≤q.size+1:=by have:=i6 q.data.toList;rwa [←Lib.size_eq]at this
            have Hw:(az (L[y]).path.data.toList).length≤(L[y]).path.size+1:=by have:=i6 (L[y]).path.data.toList;rwa [←Lib.size_eq]at this
            have He:=hid (show bG C n L[y]=⟨⟨(cp C L[y]).toArray⟩,L[y].folder,L[y].text,(bG C n L[y]).ver⟩from rfl);obtain⟨i1,ET,EU,EV,EW⟩:=info_parts Tryz.infoS
            rw[E6];clear E3 E6;go_upto_if 173 with fail;go_cut [15] (fun x W=>x= .pointer (some ⟨O.heap.size,0,none⟩)∧Hid (W.cell? ⟨O.heap.size,0,none⟩=some (.string L[y].path)∧W.cell? ⟨O.heap.size,1,none⟩=some (.bool L[y].folder)∧W.cell? ⟨O.heap.size,2,none⟩=some (.string L[y].text)∧W.cell? ⟨O.heap.size,3,none⟩=some (.int .i64 (bG C n L[y]).ver)∧W.frozen? ⟨O.heap.size,0,none⟩=false)∧Below O.heap.size O W∧O.heap.size<W.heap.size)
            case first=>
             cases FC:((L[y]).path.toList==p.toList)with
             |true=>
              have FU:(bG C n L[y]).ver=n:=by
               rw[ES.out];have Ft:(L[y]).path.data.toList=p.data.toList:=by rw[Lib.toList_data,Lib.toList_data]at FC;simpa using FC
               exact if_pos Ft
              go_wp2;go_meet
              case rel=>exact⟨rfl,⟨by simp,by simp,by simp,by rw[FU];simp,World.frozen?_alloc_at _ _ _ _ rfl⟩,ak,by simp⟩
             |false=>
              have FU:(bG C n L[y]).ver=(L[y]).ver:=by
               rw[ES.out];have Ft: ¬(L[y]).path.data.toList=p.data.toList:=fun e=>by rw[Lib.toList_data,Lib.toList_data,e]at FC;simp at FC
               exact if_neg Ft
              go_wp2;go_meet
              case rel=>exact⟨rfl,⟨by simp,by simp,by simp,by rw[FU];simp,World.frozen?_alloc_at _ _ _ _ rfl⟩,ak,by simp⟩
            case rest=>
             obtain⟨rfl,G7,Fy,EH⟩:=hcut
             obtain⟨J,Gv⟩: ∃J,J=wc:=⟨_,rfl⟩
             rw[←Gv]at G7 Fy EH⊢;obtain⟨x0,x1,x2,x3,Gn⟩:=G7.out
             go_upto_region 40 with fail;have d:w.heap.size<J.heap.size:=Nat.lt_trans EJ EH;have s1:J.cell? ⟨w.heap.size,1,none⟩=some (.string p):=(Fy.cell (p:=⟨w.heap.size,1,none⟩) EJ).trans c1;have s2:J.cell? ⟨w.heap.size,2,none⟩=some (.string q):=(Fy.cell (p:=⟨w.heap.size,2,none⟩) EJ).trans c2;have GC:=c1;have GD:=c2;have Ho:wg.heap.size≤O.heap.size:=U.size;have F1:Below J.heap.size J J.drew:= aw.drew;clear c0 c1 c2 c3 c4 Fq H Gv d0 d1 d2 d3 he;refine wp_region_held_drew (S:=fun W=>W.cell? ⟨w.heap.size,1,none⟩=some (.string p)∧W.cell? ⟨w.heap.size,2,none⟩=some (.string q)) (by kernel_rfl) ⟨by simpa using s1,by simpa using s2⟩ (fun A=>?_)
             change wpAnyH _ _ _ _ _ 17 #[false,false,false,false,false,false,false,false,false,false,false,false,false,false,false,false,false] _ _
             refine tk 1 ⟨some 177,Op.fieldAddr 83 (Operand.tmp 4) 2,0,_,_,none⟩ A ?_
             try simp only[pu]
             refine tk 2 ⟨some 178,Op.load 9 (Operand.tmp 177),9,_,_,none⟩ A ?_
             try simp only[pu]
             refine tk 5 ⟨some 181,Op.fieldAddr 145 (Operand.tmp 15) 0,0,_,_,none⟩ A ?_
             try simp only[pu]
             refine tk 8 ⟨some 184,Op.fieldAddr 83 (Operand.tmp 4) 1,0,_,_,none⟩ A ?_
             try simp only[pu]
             refine tk 9 ⟨some 185,Op.load 9 (Operand.tmp 184),9,_,_,none⟩ A ?_
             try simp only[pu]
             refine tJ (p:=?_) (fun rest=>?_) ?_
             rotate_left
             · refine wpAnyH_ready (rs:=[0,3,6]) (by kernel_rfl) (by simp) ?_
               refine AllReadyH.cons rfl (fun K E=>?_) (AllReadyH.cons rfl (fun K E=>?_) (AllReadyH.cons rfl (fun K E=>?_) AllReadyH.nil))
               · go_simp
                 generalize E2:(World.alloc J (.cells #[] 9)).drew=wz;have B:Below J.heap.size J wz:=E2▸ ak.drew;have G:wz.ownsRow J.heap.size 9 1 (.slice (some ⟨J.heap.size,0,none⟩) 0 0) 0 []:=E2▸(World.ownsRow_made J #[] 0 ax (by decide) rfl).drew;clear E2;generalize Value.slice (some (Addr.mk _ 0 none)) 0 0=E7 at G⊢;refine E.out _ _ ⟨(B.cell (p:=⟨w.heap.size,1,none⟩) d).trans s1,(B.cell (p:=⟨w.heap.size,2,none⟩) d).trans s2⟩ (fun s=>?_)
                 clear s E K;try simp only[pu]
                 refine wpAnyH_ready (rs:=[3,6]) (by kernel_rfl) (by simp) ?_
                 refine AllReadyH.cons rfl (fun K E=>?_) (AllReadyH.cons rfl (fun K E=>?_) AllReadyH.nil)
                 · go_simp
                   refine(fI q _ (by omega)).mono ?_
                   rintro e wn ⟨g4,E5,rfl,E9,V,EN,E0,I,R⟩;go_wp2_with fail;have z:Below J.heap.size J wn:=B.trans (R.mono B.size);have P:=hid I;clear I;have EK:=gh G R;clear G;have G:=EK;clear EK;clear R;refine E.out _ _ ⟨(z.cell (p:=⟨w.heap.size,1,none⟩) d).trans s1,(z.cell (p:=⟨w.heap.size,2,none⟩) d).trans s2⟩ (fun s=>?_)
                   clear s E K;try simp only[pu]
                   refine wpAnyH_ready (rs:=[4,6]) (by kernel_rfl) (by simp) ?_
                   refine AllReadyH.cons rfl (fun K E=>?_) (AllReadyH.cons rfl (fun K E=>?_) AllReadyH.nil)
                   · refine gK rfl (.tmp 176) (.tmp 179) 65 rfl J.heap.size 9 i1 (.string ⟨#[]⟩) 1 16 underlying65 ET EU EV EW rfl (by decide) _ _ _ rfl G ⟨g4,0,none⟩ (az q.data.toList).length E5 (Pp.vs (az q.data.toList)) rfl (by simp[Pp.vs]) (js (L:=az q.data.toList) P.out 0) (iO _) (by unfold maxLen;omega) (by omega) z.size ?_
                     intro v5 w5 T N E1;have F:Below J.heap.size J w5:=z.grown N z.size (fun k hk=>(G.lt k hk).1);rw[Nat.zero_add,List.nil_append]at T;clear N E1;refine E.out _ _ ⟨(F.cell (p:=⟨w.heap.size,1,none⟩) d).trans s1,(F.cell (p:=⟨w.heap.size,2,none⟩) d).trans s2⟩ (fun s=>?_)
                     clear s E K;try simp only[pu]
                     refine wpAnyH_ready (rs:=[6]) (by kernel_rfl) (by simp) ?_
                     refine AllReadyH.cons rfl (fun K E=>?_) AllReadyH.nil
                     have f0:w5.cell? ⟨O.heap.size,0,none⟩=some (.string L[y].path):=(F.cell (p:=⟨O.heap.size,0,none⟩) EH).trans x0;go_simp
                     clear f0;refine E.out _ _ ⟨(F.cell (p:=⟨w.heap.size,1,none⟩) d).trans s1,(F.cell (p:=⟨w.heap.size,2,none⟩) d).trans s2⟩ (fun s=>?_)
                     clear s E K;try simp only[pu]
                     generalize Value.slice (some (Addr.mk g4 0 none)) _ E5=Y;clear G P;try clear z
                     try clear B
                     clear EN E0 E9 V;revert T F
                     revert w5 v5 Y E7
                     exact rest.out
                   · have f0:wn.cell? ⟨O.heap.size,0,none⟩=some (.string L[y].path):=(z.cell (p:=⟨O.heap.size,0,none⟩) EH).trans x0
                     go_simp
                     clear f0;refine E.out _ _ ⟨(z.cell (p:=⟨w.heap.size,1,none⟩) d).trans s1,(z.cell (p:=⟨w.heap.size,2,none⟩) d).trans s2⟩ (fun s=>?_)
                     clear s E K;try simp only[pu]
                     refine wpAnyH_ready (rs:=[4]) (by kernel_rfl) (by simp) ?_
                     refine AllReadyH.cons rfl (fun K E=>?_) AllReadyH.nil
                     refine gK rfl (.tmp 176) (.tmp 179) 65 rfl J.heap.size 9 i1 (.string ⟨#[]⟩) 1 16 underlying65 ET EU EV EW rfl (by decide) _ _ _ rfl G ⟨g4,0,none⟩ (az q.data.toList).length E5 (Pp.vs (az q.data.toList)) rfl (by simp[Pp.vs]) (js (L:=az q.data.toList) P.out 0) (iO _) (by unfold maxLen;omega) (by omega) z.size ?_
                     intro v5 w5 T N E1;have F:Below J.heap.size J w5:=z.grown N z.size (fun k hk=>(G.lt k hk).1);rw[Nat.zero_add,List.nil_append]at T;clear N E1;refine E.out _ _ ⟨(F.cell (p:=⟨w.heap.size,1,none⟩) d).trans s1,(F.cell (p:=⟨w.heap.size,2,none⟩) d).trans s2⟩ (fun s=>?_)
                     clear s E K;try simp only[pu]
                     generalize Value.slice (some (Addr.mk g4 0 none)) _ E5=Y;clear G P;try clear z
                     try clear B
                     clear EN E0 E9 V;revert T F
                     revert w5 v5 Y E7
                     exact rest.out
                 · have f0:wz.cell? ⟨O.heap.size,0,none⟩=some (.string L[y].path):=(B.cell (p:=⟨O.heap.size,0,none⟩) EH).trans x0
                   go_simp
                   clear f0;refine E.out _ _ ⟨(B.cell (p:=⟨w.heap.size,1,none⟩) d).trans s1,(B.cell (p:=⟨w.heap.size,2,none⟩) d).trans s2⟩ (fun s=>?_)
                   clear s E K;try simp only[pu]
                   refine wpAnyH_ready (rs:=[3]) (by kernel_rfl) (by simp) ?_
                   refine AllReadyH.cons rfl (fun K E=>?_) AllReadyH.nil
                   go_simp
                   refine(fI q _ (by omega)).mono ?_
                   rintro e wn ⟨g4,E5,rfl,E9,V,EN,E0,I,R⟩;go_wp2_with fail;have z:Below J.heap.size J wn:=B.trans (R.mono B.size);have P:=hid I;clear I;have EK:=gh G R;clear G;have G:=EK;clear EK;clear R;refine E.out _ _ ⟨(z.cell (p:=⟨w.heap.size,1,none⟩) d).trans s1,(z.cell (p:=⟨w.heap.size,2,none⟩) d).trans s2⟩ (fun s=>?_)
                   clear s E K;try simp only[pu]
                   refine wpAnyH_ready (rs:=[4]) (by kernel_rfl) (by simp) ?_
                   refine AllReadyH.cons rfl (fun K E=>?_) AllReadyH.nil
                   refine gK rfl (.tmp 176) (.tmp 179) 65 rfl J.heap.size 9 i1 (.string ⟨#[]⟩) 1 16 underlying65 ET EU EV EW rfl (by decide) _ _ _ rfl G ⟨g4,0,none⟩ (az q.data.toList).length E5 (Pp.vs (az q.data.toList)) rfl (by simp[Pp.vs]) (js (L:=az q.data.toList) P.out 0) (iO _) (by unfold maxLen;omega) (by omega) z.size ?_
                   intro v5 w5 T N E1;have F:Below J.heap.size J w5:=z.grown N z.size (fun k hk=>(G.lt k hk).1);rw[Nat.zero_add,List.nil_append]at T;clear N E1;refine E.out _ _ ⟨(F.cell (p:=⟨w.heap.size,1,none⟩) d).trans s1,(F.cell (p:=⟨w.heap.size,2,none⟩) d).trans s2⟩ (fun s=>?_)
                   clear s E K;try simp only[pu]
                   generalize Value.slice (some (Addr.mk g4 0 none)) _ E5=Y;clear G P;try clear z
                   try clear B
                   clear EN E0 E9 V;revert T F
                   revert w5 v5 Y E7
                   exact rest.out
               · go_simp
                 refine(fI q _ (by omega)).mono ?_
                 rintro e wn ⟨g4,E5,rfl,E9,V,EN,E0,I,R⟩;go_wp2_with fail;have z:Below J.heap.size J wn:=F1.trans (R.mono F1.size);have P:=hid I;clear I;clear R;refine E.out _ _ ⟨(z.cell (p:=⟨w.heap.size,1,none⟩) d).trans s1,(z.cell (p:=⟨w.heap.size,2,none⟩) d).trans s2⟩ (fun s=>?_)
                 clear s E K;try simp only[pu]
                 refine wpAnyH_ready (rs:=[0,6]) (by kernel_rfl) (by simp) ?_
                 refine AllReadyH.cons rfl (fun K E=>?_) (AllReadyH.cons rfl (fun K E=>?_) AllReadyH.nil)
                 · go_simp
                   generalize E2:World.alloc wn (.cells #[] 9)=wz;have B:Below J.heap.size J wz:=E2▸z.alloc z.size _;have G:wz.ownsRow J.heap.size 9 1 (.slice (some ⟨wn.heap.size,0,none⟩) 0 0) 0 []:=E2▸Pp.own_mono (World.ownsRow_made wn #[] 0 ax (by decide) rfl) z.size;have EL:Below wn.heap.size wn wz:=E2▸ak;have EZ: ∀i (h:i<(az q.data.toList).length),wz.cell? ⟨g4,i,none⟩=some (.string ⟨((az q.data.toList)[i]).toArray⟩):=fun i h=>(EL.cell (p:=⟨g4,i,none⟩) E0).trans (P.out i h)
                   clear P;have P:=hid EZ;clear EL EZ;clear E2;generalize Value.slice (some (Addr.mk _ 0 none)) 0 0=E7 at G⊢;refine E.out _ _ ⟨(B.cell (p:=⟨w.heap.size,1,none⟩) d).trans s1,(B.cell (p:=⟨w.heap.size,2,none⟩) d).trans s2⟩ (fun s=>?_)
                   clear s E K;try simp only[pu]
                   refine wpAnyH_ready (rs:=[4,6]) (by kernel_rfl) (by simp) ?_
                   refine AllReadyH.cons rfl (fun K E=>?_) (AllReadyH.cons rfl (fun K E=>?_) AllReadyH.nil)
                   · refine gK rfl (.tmp 176) (.tmp 179) 65 rfl J.heap.size 9 i1 (.string ⟨#[]⟩) 1 16 underlying65 ET EU EV EW rfl (by decide) _ _ _ rfl G ⟨g4,0,none⟩ (az q.data.toList).length E5 (Pp.vs (az q.data.toList)) rfl (by simp[Pp.vs]) (js (L:=az q.data.toList) P.out 0) (iO _) (by unfold maxLen;omega) (by omega) B.size ?_
                     intro v5 w5 T N E1;have F:Below J.heap.size J w5:=B.grown N B.size (fun k hk=>(G.lt k hk).1);rw[Nat.zero_add,List.nil_append]at T;clear N E1;refine E.out _ _ ⟨(F.cell (p:=⟨w.heap.size,1,none⟩) d).trans s1,(F.cell (p:=⟨w.heap.size,2,none⟩) d).trans s2⟩ (fun s=>?_)
                     clear s E K;try simp only[pu]
                     refine wpAnyH_ready (rs:=[6]) (by kernel_rfl) (by simp) ?_
                     refine AllReadyH.cons rfl (fun K E=>?_) AllReadyH.nil
                     have f0:w5.cell? ⟨O.heap.size,0,none⟩=some (.string L[y].path):=(F.cell (p:=⟨O.heap.size,0,none⟩) EH).trans x0;go_simp
                     clear f0;refine E.out _ _ ⟨(F.cell (p:=⟨w.heap.size,1,none⟩) d).trans s1,(F.cell (p:=⟨w.heap.size,2,none⟩) d).trans s2⟩ (fun s=>?_)
                     clear s E K;try simp only[pu]
                     generalize Value.slice (some (Addr.mk g4 0 none)) _ E5=Y;clear G P;try clear z
                     try clear B
                     clear EN E0 E9 V;revert T F
                     revert w5 v5 Y E7
                     exact rest.out
                   · have f0:wz.cell? ⟨O.heap.size,0,none⟩=some (.string L[y].path):=(B.cell (p:=⟨O.heap.size,0,none⟩) EH).trans x0
                     go_simp
                     clear f0;refine E.out _ _ ⟨(B.cell (p:=⟨w.heap.size,1,none⟩) d).trans s1,(B.cell (p:=⟨w.heap.size,2,none⟩) d).trans s2⟩ (fun s=>?_)
                     clear s E K;try simp only[pu]
                     refine wpAnyH_ready (rs:=[4]) (by kernel_rfl) (by simp) ?_
                     refine AllReadyH.cons rfl (fun K E=>?_) AllReadyH.nil
                     refine gK rfl (.tmp 176) (.tmp 179) 65 rfl J.heap.size 9 i1 (.string ⟨#[]⟩) 1 16 underlying65 ET EU EV EW rfl (by decide) _ _ _ rfl G ⟨g4,0,none⟩ (az q.data.toList).length E5 (Pp.vs (az q.data.toList)) rfl (by simp[Pp.vs]) (js (L:=az q.data.toList) P.out 0) (iO _) (by unfold maxLen;omega) (by omega) B.size ?_
                     intro v5 w5 T N E1;have F:Below J.heap.size J w5:=B.grown N B.size (fun k hk=>(G.lt k hk).1);rw[Nat.zero_add,List.nil_append]at T;clear N E1;refine E.out _ _ ⟨(F.cell (p:=⟨w.heap.size,1,none⟩) d).trans s1,(F.cell (p:=⟨w.heap.size,2,none⟩) d).trans s2⟩ (fun s=>?_)
                     clear s E K;try simp only[pu]
                     generalize Value.slice (some (Addr.mk g4 0 none)) _ E5=Y;clear G P;try clear z
                     try clear B
                     clear EN E0 E9 V;revert T F
                     revert w5 v5 Y E7
                     exact rest.out
                 · have f0:wn.cell? ⟨O.heap.size,0,none⟩=some (.string L[y].path):=(z.cell (p:=⟨O.heap.size,0,none⟩) EH).trans x0
                   go_simp
                   clear f0;refine E.out _ _ ⟨(z.cell (p:=⟨w.heap.size,1,none⟩) d).trans s1,(z.cell (p:=⟨w.heap.size,2,none⟩) d).trans s2⟩ (fun s=>?_)
                   clear s E K;try simp only[pu]
                   refine wpAnyH_ready (rs:=[0]) (by kernel_rfl) (by simp) ?_
                   refine AllReadyH.cons rfl (fun K E=>?_) AllReadyH.nil
                   go_simp
                   generalize E2:World.alloc wn (.cells #[] 9)=wz;have B:Below J.heap.size J wz:=E2▸z.alloc z.size _;have G:wz.ownsRow J.heap.size 9 1 (.slice (some ⟨wn.heap.size,0,none⟩) 0 0) 0 []:=E2▸Pp.own_mono (World.ownsRow_made wn #[] 0 ax (by decide) rfl) z.size;have EL:Below wn.heap.size wn wz:=E2▸ak;have EZ: ∀i (h:i<(az q.data.toList).length),wz.cell? ⟨g4,i,none⟩=some (.string ⟨((az q.data.toList)[i]).toArray⟩):=fun i h=>(EL.cell (p:=⟨g4,i,none⟩) E0).trans (P.out i h)
                   clear P;have P:=hid EZ;clear EL EZ;clear E2;generalize Value.slice (some (Addr.mk _ 0 none)) 0 0=E7 at G⊢;refine E.out _ _ ⟨(B.cell (p:=⟨w.heap.size,1,none⟩) d).trans s1,(B.cell (p:=⟨w.heap.size,2,none⟩) d).trans s2⟩ (fun s=>?_)
                   clear s E K;try simp only[pu]
                   refine wpAnyH_ready (rs:=[4]) (by kernel_rfl) (by simp) ?_
                   refine AllReadyH.cons rfl (fun K E=>?_) AllReadyH.nil
                   refine gK rfl (.tmp 176) (.tmp 179) 65 rfl J.heap.size 9 i1 (.string ⟨#[]⟩) 1 16 underlying65 ET EU EV EW rfl (by decide) _ _ _ rfl G ⟨g4,0,none⟩ (az q.data.toList).length E5 (Pp.vs (az q.data.toList)) rfl (by simp[Pp.vs]) (js (L:=az q.data.toList) P.out 0) (iO _) (by unfold maxLen;omega) (by omega) B.size ?_
                   intro v5 w5 T N E1;have F:Below J.heap.size J w5:=B.grown N B.size (fun k hk=>(G.lt k hk).1);rw[Nat.zero_add,List.nil_append]at T;clear N E1;refine E.out _ _ ⟨(F.cell (p:=⟨w.heap.size,1,none⟩) d).trans s1,(F.cell (p:=⟨w.heap.size,2,none⟩) d).trans s2⟩ (fun s=>?_)
                   clear s E K;try simp only[pu]
                   generalize Value.slice (some (Addr.mk g4 0 none)) _ E5=Y;clear G P;try clear z
                   try clear B
                   clear EN E0 E9 V;revert T F
                   revert w5 v5 Y E7
                   exact rest.out
               · have f0:J.drew.cell? ⟨O.heap.size,0,none⟩=some (.string L[y].path):=(F1.cell (p:=⟨O.heap.size,0,none⟩) EH).trans x0
                 go_simp
                 clear f0;refine E.out _ _ ⟨(F1.cell (p:=⟨w.heap.size,1,none⟩) d).trans s1,(F1.cell (p:=⟨w.heap.size,2,none⟩) d).trans s2⟩ (fun s=>?_)
                 clear s E K;try simp only[pu]
                 refine wpAnyH_ready (rs:=[0,3]) (by kernel_rfl) (by simp) ?_
                 refine AllReadyH.cons rfl (fun K E=>?_) (AllReadyH.cons rfl (fun K E=>?_) AllReadyH.nil)
                 · go_simp
                   generalize E2:(World.alloc J (.cells #[] 9)).drew=wz;have B:Below J.heap.size J wz:=E2▸ ak.drew;have G:wz.ownsRow J.heap.size 9 1 (.slice (some ⟨J.heap.size,0,none⟩) 0 0) 0 []:=E2▸(World.ownsRow_made J #[] 0 ax (by decide) rfl).drew;clear E2;generalize Value.slice (some (Addr.mk _ 0 none)) 0 0=E7 at G⊢;refine E.out _ _ ⟨(B.cell (p:=⟨w.heap.size,1,none⟩) d).trans s1,(B.cell (p:=⟨w.heap.size,2,none⟩) d).trans s2⟩ (fun s=>?_)
                   clear s E K;try simp only[pu]
                   refine wpAnyH_ready (rs:=[3]) (by kernel_rfl) (by simp) ?_
                   refine AllReadyH.cons rfl (fun K E=>?_) AllReadyH.nil
                   go_simp
                   refine(fI q _ (by omega)).mono ?_
                   rintro e wn ⟨g4,E5,rfl,E9,V,EN,E0,I,R⟩;go_wp2_with fail;have z:Below J.heap.size J wn:=B.trans (R.mono B.size);have P:=hid I;clear I;have EK:=gh G R;clear G;have G:=EK;clear EK;clear R;refine E.out _ _ ⟨(z.cell (p:=⟨w.heap.size,1,none⟩) d).trans s1,(z.cell (p:=⟨w.heap.size,2,none⟩) d).trans s2⟩ (fun s=>?_)
                   clear s E K;try simp only[pu]
                   refine wpAnyH_ready (rs:=[4]) (by kernel_rfl) (by simp) ?_
                   refine AllReadyH.cons rfl (fun K E=>?_) AllReadyH.nil
                   refine gK rfl (.tmp 176) (.tmp 179) 65 rfl J.heap.size 9 i1 (.string ⟨#[]⟩) 1 16 underlying65 ET EU EV EW rfl (by decide) _ _ _ rfl G ⟨g4,0,none⟩ (az q.data.toList).length E5 (Pp.vs (az q.data.toList)) rfl (by simp[Pp.vs]) (js (L:=az q.data.toList) P.out 0) (iO _) (by unfold maxLen;omega) (by omega) z.size ?_
                   intro v5 w5 T N E1;have F:Below J.heap.size J w5:=z.grown N z.size (fun k hk=>(G.lt k hk).1);rw[Nat.zero_add,List.nil_append]at T;clear N E1;refine E.out _ _ ⟨(F.cell (p:=⟨w.heap.size,1,none⟩) d).trans s1,(F.cell (p:=⟨w.heap.size,2,none⟩) d).trans s2⟩ (fun s=>?_)
                   clear s E K;try simp only[pu]
                   generalize Value.slice (some (Addr.mk g4 0 none)) _ E5=Y;clear G P;try clear z
                   try clear B
                   clear EN E0 E9 V;revert T F
                   revert w5 v5 Y E7
                   exact rest.out
                 · go_simp
                   refine(fI q _ (by omega)).mono ?_
                   rintro e wn ⟨g4,E5,rfl,E9,V,EN,E0,I,R⟩;go_wp2_with fail;have z:Below J.heap.size J wn:=F1.trans (R.mono F1.size);have P:=hid I;clear I;clear R;refine E.out _ _ ⟨(z.cell (p:=⟨w.heap.size,1,none⟩) d).trans s1,(z.cell (p:=⟨w.heap.size,2,none⟩) d).trans s2⟩ (fun s=>?_)
                   clear s E K;try simp only[pu]
                   refine wpAnyH_ready (rs:=[0]) (by kernel_rfl) (by simp) ?_
                   refine AllReadyH.cons rfl (fun K E=>?_) AllReadyH.nil
                   go_simp
                   generalize E2:World.alloc wn (.cells #[] 9)=wz;have B:Below J.heap.size J wz:=E2▸z.alloc z.size _;have G:wz.ownsRow J.heap.size 9 1 (.slice (some ⟨wn.heap.size,0,none⟩) 0 0) 0 []:=E2▸Pp.own_mono (World.ownsRow_made wn #[] 0 ax (by decide) rfl) z.size;have EL:Below wn.heap.size wn wz:=E2▸ak;have EZ: ∀i (h:i<(az q.data.toList).length),wz.cell? ⟨g4,i,none⟩=some (.string ⟨((az q.data.toList)[i]).toArray⟩):=fun i h=>(EL.cell (p:=⟨g4,i,none⟩) E0).trans (P.out i h)
                   clear P;have P:=hid EZ;clear EL EZ;clear E2;generalize Value.slice (some (Addr.mk _ 0 none)) 0 0=E7 at G⊢;refine E.out _ _ ⟨(B.cell (p:=⟨w.heap.size,1,none⟩) d).trans s1,(B.cell (p:=⟨w.heap.size,2,none⟩) d).trans s2⟩ (fun s=>?_)
                   clear s E K;try simp only[pu]
                   refine wpAnyH_ready (rs:=[4]) (by kernel_rfl) (by simp) ?_
                   refine AllReadyH.cons rfl (fun K E=>?_) AllReadyH.nil
                   refine gK rfl (.tmp 176) (.tmp 179) 65 rfl J.heap.size 9 i1 (.string ⟨#[]⟩) 1 16 underlying65 ET EU EV EW rfl (by decide) _ _ _ rfl G ⟨g4,0,none⟩ (az q.data.toList).length E5 (Pp.vs (az q.data.toList)) rfl (by simp[Pp.vs]) (js (L:=az q.data.toList) P.out 0) (iO _) (by unfold maxLen;omega) (by omega) B.size ?_
                   intro v5 w5 T N E1;have F:Below J.heap.size J w5:=B.grown N B.size (fun k hk=>(G.lt k hk).1);rw[Nat.zero_add,List.nil_append]at T;clear N E1;refine E.out _ _ ⟨(F.cell (p:=⟨w.heap.size,1,none⟩) d).trans s1,(F.cell (p:=⟨w.heap.size,2,none⟩) d).trans s2⟩ (fun s=>?_)
                   clear s E K;try simp only[pu]
                   generalize Value.slice (some (Addr.mk g4 0 none)) _ E5=Y;clear G P;try clear z
                   try clear B
                   clear EN E0 E9 V;revert T F
                   revert w5 v5 Y E7
                   exact rest.out
             intro E7 v5 w5 Y T F;have G2:=hid T;clear T;refine wpAnyH_ready (rs:=[7]) (by kernel_rfl) (by simp) ?_
             refine AllReadyH.cons rfl (fun K E=>?_) AllReadyH.nil
             go_simp
             refine(fI (L[y]).path _ (by omega)).mono ?_
             rintro e w7 ⟨g6,c6,rfl,GL,Gi,Hl,Gp,Fb,FN⟩;go_wp2_with fail;have G3:=hid (gh G2.out FN);have EY:Below J.heap.size J w7:=F.trans (FN.mono F.size);have FW:=hid Fb;clear Fb FN G2;refine E.out _ _ ⟨(EY.cell (p:=⟨w.heap.size,1,none⟩) d).trans s1,(EY.cell (p:=⟨w.heap.size,2,none⟩) d).trans s2⟩ (fun s=>?_)
             clear s E K;try simp only[pu]
             refine wpAnyH_ready (rs:=[10]) (by kernel_rfl) (by simp) ?_
             refine AllReadyH.cons rfl (fun K E=>?_) AllReadyH.nil
             go_simp
             refine(fI p _ (by omega)).mono ?_
             rintro e w8 ⟨g7,c7,rfl,Hh,GY,Hm,H6,Fz,Fx⟩;go_wp2_with fail;have Fw:=hid (gh G3.out Fx);have EQ:Below J.heap.size J w8:=EY.trans (Fx.mono EY.size);have FY:=hid (show∀i (h:i<(az (L[y]).path.data.toList).length),w8.cell? ⟨g6,i,none⟩=some (.string ⟨((az (L[y]).path.data.toList)[i]).toArray⟩)from fun i h=>(Fx.cell (p:=⟨g6,i,none⟩) Gp).trans (FW.out i h));clear Fz Fx G3 FW EY;refine E.out _ _ ⟨(EQ.cell (p:=⟨w.heap.size,1,none⟩) d).trans s1,(EQ.cell (p:=⟨w.heap.size,2,none⟩) d).trans s2⟩ (fun A=>?_)
             clear E K;try simp only[pu]
             refine tk 11 ⟨some 187,Op.call ⟨Callee.builtin Builtin.len,#[Operand.tmp 186],#[65]⟩,3,_,_,none⟩ A ?_
             try simp only[pu]
             have Ht:((az p.data.toList).length:Int)≤(az (L[y]).path.data.toList).length:=by omega
             have Hs:((az (L[y]).path.data.toList).length:Int)≤c6:=by omega
             by_cases Hi:c6=(az p.data.toList).length
             all_goals
              refine tk 12 ⟨some 188,Op.slice 65 (Operand.tmp 183) (some (Operand.tmp 187)) none none,65,_,_,none⟩ A ?_
              try simp only[pu]
              refine wpAnyH_ready (rs:=[13]) (by kernel_rfl) (by simp) ?_
              refine AllReadyH.cons rfl (fun K E=>?_) AllReadyH.nil
              first
               |refine gK rfl (.tmp 180) (.tmp 188) 65 rfl J.heap.size 9 i1 (.string ⟨#[]⟩) 1 16 underlying65 ET EU EV EW rfl (by decide) _ _ _ rfl Fw.out ⟨g6,0,none⟩ _ _ (Pp.vs ((az (L[y]).path.data.toList).drop (az p.data.toList).length)) rfl (by simp[Pp.vs]) (by intro j u hj;rw[List.drop_of_length_le (by omega)]at hj;simp[Pp.vs]at hj) (iO _) (by unfold maxLen;omega) (by omega) EQ.size ?_
               |refine gK rfl (.tmp 180) (.tmp 188) 65 rfl J.heap.size 9 i1 (.string ⟨#[]⟩) 1 16 underlying65 ET EU EV EW rfl (by decide) _ _ _ rfl Fw.out ⟨g6,(az p.data.toList).length,none⟩ _ _ (Pp.vs ((az (L[y]).path.data.toList).drop (az p.data.toList).length)) rfl (by simp[Pp.vs]) (js FY.out _) (iO _) (by unfold maxLen;omega) (by omega) EQ.size ?_
              intro v9 w9 FT FK Gt;have E8:Below J.heap.size J w9:=EQ.grown FK EQ.size (fun k hk=>(Fw.out.lt k hk).1);rw[zZ]at FT
              have FL:w9.ownsRow J.heap.size 9 1 v9 (az q.data.toList++(az (L[y]).path.data.toList).drop (az p.data.toList).length).length (Pp.vs (az q.data.toList++(az (L[y]).path.data.toList).drop (az p.data.toList).length)):=by
               rw[List.length_append,List.length_drop];exact FT
              obtain⟨g8,c8,rfl,Hn,H7,Fc⟩:=zY FL (by intro e;exact jB _ (List.append_eq_nil_iff.1 e).1)
              have FZ:=hid Fc;clear Fc FL FT FK Gt Fw FY;refine E.out _ _ ⟨(E8.cell (p:=⟨w.heap.size,1,none⟩) d).trans s1,(E8.cell (p:=⟨w.heap.size,2,none⟩) d).trans s2⟩ (fun s=>?_)
              clear s E K;try simp only[pu]
              refine wpAnyH_ready (rs:=[14]) (by kernel_rfl) (by simp) ?_
              refine AllReadyH.cons rfl (fun K E=>?_) AllReadyH.nil
              go_simp
              refine(z7 (az q.data.toList++(az (L[y]).path.data.toList).drop (az p.data.toList).length) _ g8 0 c8 _ (by rw[List.length_append,List.length_drop]) (by rw[HJ.out];omega) (by rw[List.length_append,List.length_drop];omega) (fun i h=>by rw[Nat.zero_add];exact FZ.out i h)).mono ?_
              rintro e GU ⟨rfl,rfl⟩;rw[HJ.out];clear FZ;go_wp2_with fail;refine E.out _ _ ⟨(E8.cell (p:=⟨w.heap.size,1,none⟩) d).trans s1,(E8.cell (p:=⟨w.heap.size,2,none⟩) d).trans s2⟩ (fun A=>?_)
              clear E K;try simp only[pu]
              refine tk 15 ⟨some 191,Op.fieldAddr 145 (Operand.tmp 15) 0,0,_,_,none⟩ A ?_
              try simp only[pu]
              refine wpAnyH_ready (rs:=[16]) (by kernel_rfl) (by simp) ?_
              refine AllReadyH.cons rfl (fun K E=>?_) AllReadyH.nil
              have z0:=(E8.cell (p:=⟨O.heap.size,0,none⟩) EH).trans x0;have z9:=(E8.frozen (p:=⟨O.heap.size,0,none⟩) EH).trans Gn;go_simp
              generalize F4:World.setCell GU _ _=wt;have Fo:Below O.heap.size O wt:=F4▸(Fy.trans (E8.mono (Nat.le_of_lt EH))).setCell ax _;have y0:wt.cell? ⟨O.heap.size,0,none⟩=some (.string ⟨(cp C L[y]).toArray⟩):=by rw[←F4];simp[go_sem,z0]
              have y1:wt.cell? ⟨O.heap.size,1,none⟩=some (.bool L[y].folder):=by rw[←F4,World.cell?_setCell_other _ _ _ _ (by simp)];exact(E8.cell (p:=⟨O.heap.size,1,none⟩) EH).trans x1
              have y2:wt.cell? ⟨O.heap.size,2,none⟩=some (.string L[y].text):=by rw[←F4,World.cell?_setCell_other _ _ _ _ (by simp)];exact(E8.cell (p:=⟨O.heap.size,2,none⟩) EH).trans x2
              have y3:wt.cell? ⟨O.heap.size,3,none⟩=some (.int .i64 (bG C n L[y]).ver):=by rw[←F4,World.cell?_setCell_other _ _ _ _ (by simp)];exact(E8.cell (p:=⟨O.heap.size,3,none⟩) EH).trans x3
              have r1:wt.cell? ⟨w.heap.size,1,none⟩=some (.string p):=(Fo.cell (p:=⟨w.heap.size,1,none⟩) EJ).trans GC;have r2:wt.cell? ⟨w.heap.size,2,none⟩=some (.string q):=(Fo.cell (p:=⟨w.heap.size,2,none⟩) EJ).trans GD;have FD:O.heap.size<wt.heap.size:=by rw[←F4];simp;exact Nat.lt_of_lt_of_le EH E8.size
              clear z0 z9 F4;refine E.out _ _ ⟨r1,r2⟩ (fun s=>?_)
              clear s E K;try simp only[pu]
              refine wpAnyH_done (by kernel_rfl) ?_ _
              have G5:=hid (G4.out.below Fo);have F2:Below wg.heap.size wg wt:=U.trans (Fo.mono U.size);clear A E8 EQ F Fo r1 r2 s1 s2 x0 x1 x2 x3 Gn;go_wp2_with fail;refine(pi ⟨(cp C L[y]).toArray⟩ _ (by rw[i7];omega)).mono ?_
              rintro e GV ⟨rfl,EO⟩;rw[show bv _=bv (cp C L[y])from rfl];have F3:Below wg.heap.size wg GV:=F2.trans (EO.mono F2.size);have q0:=(EO.cell (p:=⟨O.heap.size,0,none⟩) FD).trans y0;have q1:=(EO.cell (p:=⟨O.heap.size,1,none⟩) FD).trans y1;have q2:=(EO.cell (p:=⟨O.heap.size,2,none⟩) FD).trans y2;have q3:=(EO.cell (p:=⟨O.heap.size,3,none⟩) FD).trans y3;have G6:=hid (G5.out.below EO);clear y0 y1 y2 y3 EO F2 G5;cases Fa:bv (cp C L[y])with
              |true=>
               have HX:=hid (show Pp.rstE L C n=2 from by rw[Pp.rstE,if_neg (by rw[HN.out];decide),HE.out,if_pos (Ae Fj (by rw[ES.out];exact Fh.out) Fa)]);have FP:=(aC (Fg.out.trans (F3.mono Fg.out.size))).2.2.2.2.2.1;clear Fa;go_wp2_with fail;go_ret2;exact⟨_,by rw[HX.out];rfl,fun h=>absurd (HX.out.symm.trans h) (by decide),FP⟩
              |false=>
               have Fk:=hid (show∀j (h:j<L.length),j<y+1→bf p.data.toList L[j]=true→bv (cp C L[j])=false from fun j h1 h2 h3=>by
                by_cases e:j=y
                · subst e;exact Fa
                · exact Fv.out j h1 (by omega) h3)
               have Ha:=F5.out y;have Hc:=F5.out (y+1);have GA:=hid (FE.out y Fj Fh.out);clear Fa;go_wp2_with fail;refine(nt (dF L C n y) _ (bG C n L[y]) _ G6.out (by omega)).mono ?_
               rintro e GW ⟨u,rfl,ho,FH⟩;rw[GA.out]at ho;have Gz:=hid (jI ho (by omega));have FO:Below wg.heap.size wg GW:=F3.trans (FH.mono F3.size);clear ho FH q0 q1 q2 q3 G6;go_wp2;go_roundw
               case rel=>exact⟨y+1,by omega,by simp,Gz,Fk,FO⟩
               case measure=>simp[intOf];omega
         · have eY:y=L.length:=by omega
           have Ga:=Af (L:=L) (c:=C) (fun j h hw=>Fv.out j h (by omega) (by rw[ES.out]at hw;exact hw));have HX:=hid (show Pp.rstE L C n=0 from by rw[Pp.rstE,if_neg (by rw[HN.out];decide),HE.out,if_neg (by rw[Ga];decide)]);rw[eY,←HQ.out]at HU;have GO:=F5.out L.length;rw[←HQ.out]at GO;have G1:=HU;obtain⟨a6,GX,hu,GL,Gi,_⟩:=HU.out
           subst hu;generalize GI:cN L C n=M at*;have Hg: ¬60<(M.length:Int):=by omega
           clear Ga eY Fv;go_wp2_with fail;go_ret2;exact⟨_,by rw[HX.out];rfl,fun _=>by first|exact G1.out|(rw[GI];exact G1.out),H⟩
end Go.Proofs.YtdlpjlfefjipkaaGreat
