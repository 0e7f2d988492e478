/- What journal.checkKnown, reset, checkOn and Follow answer, for every tree, cursor and page. -/
import Derived.Test.YtlllcifehellpaaGreatDoorCKM
import Derived.Test.YtlllcifehellpaaGreatDoorCKC
import Derived.Test.YtlllcifehellpaaGreatDoorCKB
import Derived.Deep.RegionHeld3
import Derived.Test.YtlllcifehellpaaGreatDoorCKH
set_option linter.unusedSimpArgs false
set_option linter.unusedVariables false
namespace Go.Proofs.YtlllcifehellpaaGreatDoor
open Go.RowKit

set_option maxRecDepth 100000 in
set_option maxHeartbeats 1000000 in
theorem checkKnown_any (T:List En) (v:Value) (c:Int) (w:World) (hv:Lies w v T) (hs:Sized T):
    Calls Tryz.prog 50 #[v,.int .i64 c] w fun e w'=>e= .returned (.int .i64 (Jn.knE T c))∧Below w.heap.size w w':=by
 have HV:=hid hv;have HS:=hid hs;clear hv hs;by_cases ht:Pp.treeE T=0
 · have HT:=hid ht
   have HK:=hid (Jn.kn_cur (c:=c) ht);clear ht;by_cases c1:c<0
   · have HE:=hid (show Jn.curE c=3 from by rw[Jn.curE,if_pos (Or.inl c1)])
     go_enter Tryz.func50,Tryz.ntmps50
     go_wp2_with fail;refine(tcheck_all T v _ HV.out HS.out).mono ?_
     rintro e w1 ⟨rfl,hb1⟩;rw[HT.out];go_wp2_with fail;go_ret;exact⟨by rw[HK.out,HE.out];rfl,hb1⟩
   by_cases c2:1000000<c
   · have HE:=hid (show Jn.curE c=3 from by rw[Jn.curE,if_pos (Or.inr c2)])
     go_enter Tryz.func50,Tryz.ntmps50
     go_wp2_with fail;refine(tcheck_all T v _ HV.out HS.out).mono ?_
     rintro e w1 ⟨rfl,hb1⟩;rw[HT.out];go_wp2_with fail;go_ret;exact⟨by rw[HK.out,HE.out];rfl,hb1⟩
   · have HE:=hid (show Jn.curE c=0 from by rw[Jn.curE,if_neg (by omega)])
     go_enter Tryz.func50,Tryz.ntmps50
     go_wp2_with fail;refine(tcheck_all T v _ HV.out HS.out).mono ?_
     rintro e w1 ⟨rfl,hb1⟩;rw[HT.out];go_wp2_with fail;go_ret;exact⟨by rw[HK.out,HE.out];rfl,hb1⟩
 · have HK:=hid (Jn.kn_tree (c:=c) ht)
   have hz:(Pp.treeE T==0)=false:=by simpa using ht
   go_enter Tryz.func50,Tryz.ntmps50
   go_wp2_with fail;refine(tcheck_all T v _ HV.out HS.out).mono ?_
   rintro e w1 ⟨rfl,hb1⟩;go_wp2_with fail;go_ret;exact⟨by rw[HK.out];rfl,hb1⟩
set_option maxRecDepth 100000 in
set_option maxHeartbeats 2000000 in
theorem reset_any (P:Pg) (v:Value) (w:World) (hv:LiesPg w v P) (hs:Sized P.tree):
    Calls Tryz.prog 51 #[v] w fun e w'=> ∃r,e= .returned (.tuple #[r,.int .i64 (if Jn.rstE P=0 then P.cur else 0),.int .i64 (Jn.rstE P)])∧Lies w' r (Pp.ifz (Jn.rstE P) P.tree)∧Below w.heap.size w w':=by
 obtain⟨vt,vc,rfl,hvt,hvc⟩:=hv
 have HVT:=hid hvt;have HS:=hid hs;obtain⟨a1,b1,rfl,_⟩:=hvt
 obtain⟨a2,b2,rfl,_⟩:=hvc
 clear hs;obtain⟨wz,hwz⟩: ∃wz,wz=w.alloc (.cells #[.bool P.reset,.slice a1 P.tree.length b1,.slice a2 P.cos.length b2,.int .i64 P.cur,.bool P.more] 29):=⟨_,rfl⟩
 have hbz:Below w.heap.size w wz:=by rw[hwz];exact(Below.refl _ _).alloc (Nat.le_refl _) _
 have HBX:=hid (show Cs wz w.heap.size [.bool P.reset,.slice a1 P.tree.length b1,.slice a2 P.cos.length b2,.int .i64 P.cur,.bool P.more]from by rw[hwz];exact Cs.new w [.bool P.reset,.slice a1 P.tree.length b1,.slice a2 P.cos.length b2,.int .i64 P.cur,.bool P.more] _);have hlz:=HBX.out.lt;by_cases hk:Jn.knE P.tree P.cur=0
 · have HK:=hid hk
   have hg:=(Pp.good_iff P.tree).1 (Jn.kn_zero hk).1;have hlen:=hg.len;clear hg;by_cases h1:0<P.cos.length
   · have HE:=hid (Jn.rst_form hk (Or.inl h1))
     have h1':0<(P.cos.length:Int):=by omega
     clear hk;obtain⟨cu,hcu⟩: ∃cu,cu=(if Jn.rstE P=0 then P.cur else 0):=⟨_,rfl⟩
     have hcu2:cu=0:=by rw[hcu,HE.out];rfl
     rw[←hcu,hcu2];clear hcu hcu2;go_enter Tryz.func51,Tryz.ntmps51
     go_wp2_with fail;rw[←hwz];clear hwz;refine(checkKnown_any P.tree _ P.cur _ (HVT.out.below hbz) HS.out).mono ?_
     rintro e w1 ⟨rfl,hb1⟩;rw[HK.out];have x2:=(HBX.out.below hb1).cell 2 rfl;have hb01:=below_tr hbz hb1;go_wp2_with fail;go_ret3;exact⟨_,by rw[HE.out];rfl,by rw[HE.out];exact lies_nil _,hb01⟩
   · have h1': ¬0<(P.cos.length:Int):=by omega
     cases hm:P.more with
     |true=>
      have HE:=hid (Jn.rst_form hk (Or.inr hm));clear hk;obtain⟨cu,hcu⟩: ∃cu,cu=(if Jn.rstE P=0 then P.cur else 0):=⟨_,rfl⟩
      have hcu2:cu=0:=by rw[hcu,HE.out];rfl
      rw[←hcu,hcu2];clear hcu hcu2;rw[hm]at hwz HBX;go_enter Tryz.func51,Tryz.ntmps51
      go_wp2_with fail;rw[←hwz];clear hwz;refine(checkKnown_any P.tree _ P.cur _ (HVT.out.below hbz) HS.out).mono ?_
      rintro e w1 ⟨rfl,hb1⟩;rw[HK.out];have x2:=(HBX.out.below hb1).cell 2 rfl;have x4:=(HBX.out.below hb1).cell 4 rfl;have hb01:=below_tr hbz hb1;go_wp2_with fail;go_ret3;exact⟨_,by rw[HE.out];rfl,by rw[HE.out];exact lies_nil _,hb01⟩
     |false=>
      have HE:=hid (Jn.rst_ok hk (fun h=>h.elim h1 (fun h=>by rw[hm]at h;cases h)));clear hk;obtain⟨cu,hcu⟩: ∃cu,cu=(if Jn.rstE P=0 then P.cur else 0):=⟨_,rfl⟩
      have hcu2:cu=P.cur:=by rw[hcu,HE.out];rfl
      rw[←hcu,hcu2];clear hcu hcu2;rw[hm]at hwz HBX;go_enter Tryz.func51,Tryz.ntmps51
      go_wp2_with fail;rw[←hwz];clear hwz;refine(checkKnown_any P.tree _ P.cur _ (HVT.out.below hbz) HS.out).mono ?_
      rintro e w1 ⟨rfl,hb1⟩;rw[HK.out];have HX1:=hid (HBX.out.below hb1);have x1:=HX1.out.cell 1 rfl;have x2:=HX1.out.cell 2 rfl;have x3:=HX1.out.cell 3 rfl;have x4:=HX1.out.cell 4 rfl;have hb01:=below_tr hbz hb1;have hl1:=HX1.out.lt;have HVT1:=hid (HVT.out.below hb01);go_wp2_with fail
      go_region_held3 (fun W=>W.cell? ⟨w.heap.size,1,none⟩=some (.slice a1 P.tree.length b1)∧W.cell? ⟨w.heap.size,3,none⟩=some (.int .i64 P.cur)) (go_keep) (first
       |(go_at_call 49;refine(cloneE (P.tree.map Pp.cells) _ _ (liesR_en.1 (HVT1.out.below (Below.refl _ _).drew)) (by rw[List.length_map];omega)).mono ?_;rintro e wa ⟨u,rfl,hR,_,hba⟩;have hza:Below w1.heap.size w1 wa:=((Below.refl _ _).drew).trans hba;have j1:=(hza.cell (p:=⟨w.heap.size,1,none⟩) hl1).trans x1;have j3:=(hza.cell (p:=⟨w.heap.size,3,none⟩) hl1).trans x3))
      have HL:=hid (liesR_en.2 hR);have hb02:=below_tr hb01 hza;go_wp2_with fail;go_ret3;exact⟨_,by rw[HE.out];rfl,by rw[HE.out];exact HL.out,hb02⟩
 · have HE:=hid (Jn.rst_kn hk)
   have hz:(Jn.knE P.tree P.cur==0)=false:=by simpa using hk
   obtain⟨cu,hcu⟩: ∃cu,cu=(if Jn.rstE P=0 then P.cur else 0):=⟨_,rfl⟩
   have hcu2:cu=0:=by rw[hcu,HE.out,if_neg hk]
   rw[←hcu,hcu2];clear hcu hcu2;have HN:=hid (show Pp.ifz (Jn.rstE P) P.tree=[]from by rw[HE.out,Pp.ifz_no hk]);go_enter Tryz.func51,Tryz.ntmps51
   go_wp2_with fail;rw[←hwz];clear hwz;refine(checkKnown_any P.tree _ P.cur _ (HVT.out.below hbz) HS.out).mono ?_
   rintro e w1 ⟨rfl,hb1⟩;have hb01:=below_tr hbz hb1;go_wp2_with fail;go_ret3;exact⟨_,by rw[HE.out];rfl,by rw[HN.out];exact lies_nil _,hb01⟩
set_option maxRecDepth 100000 in
set_option maxHeartbeats 2000000 in
theorem checkOn_any (P:Pg) (v:Value) (c:Int) (w:World) (hv:LiesPg w v P) (h1:0≤c) (h2:c≤1000000):
    Calls Tryz.prog 52 #[v,.int .i64 c] w fun e w'=>e= .returned (.int .i64 (Jn.onE P c))∧Below w.heap.size w w':=by
 obtain⟨vt,vc,rfl,hvt,hvc⟩:=hv
 obtain⟨a1,b1,rfl,_⟩:=hvt
 obtain⟨a2,b2,rfl,hcap,hcap2,hat⟩:=hvc
 have HC:Hid (∀i (h:i<P.cos.length),∃b o,a2=some ⟨b,o,none⟩∧b<w.heap.size∧CoAt w b (o+i*3) P.cos[i]):=hat;clear hat;obtain⟨wz,hwz⟩: ∃wz,wz=w.alloc (.cells #[.bool P.reset,.slice a1 P.tree.length b1,.slice a2 P.cos.length b2,.int .i64 P.cur,.bool P.more] 29):=⟨_,rfl⟩
 have hbz:Below w.heap.size w wz:=by rw[hwz];exact(Below.refl _ _).alloc (Nat.le_refl _) _
 have HBX:=hid (show Cs wz w.heap.size [.bool P.reset,.slice a1 P.tree.length b1,.slice a2 P.cos.length b2,.int .i64 P.cur,.bool P.more]from by rw[hwz];exact Cs.new w [.bool P.reset,.slice a1 P.tree.length b1,.slice a2 P.cos.length b2,.int .i64 P.cur,.bool P.more] _);have hlz:=HBX.out.lt;by_cases t0:P.tree=[]
 · have t1: ¬0<(P.tree.length:Int):=by rw[t0];simp
   by_cases t2:10<P.cos.length
   · have HE:=hid (Jn.on_many (c:=c) t0 t2)
     have t2':10<(P.cos.length:Int):=by omega
     clear t0;go_enter Tryz.func52,Tryz.ntmps52
     go_wp2_with fail;rw[←hwz];go_ret;exact⟨by rw[HE.out];rfl,hbz⟩
   · have t2': ¬10<(P.cos.length:Int):=by omega
     have HBAD:=hid (show Jn.numsB c P.cos=false→Jn.onE P c=4 from fun h=>Jn.on_nums t0 t2 h);have HCU:=hid (show Jn.numsB c P.cos=true→ ¬P.cur=c+P.cos.length→Jn.onE P c=4 from fun h h3=>Jn.on_cur t0 t2 h h3);have HOK:=hid (show Jn.numsB c P.cos=true→P.cur=c+P.cos.length→Jn.onE P c=0 from fun h h3=>Jn.on_ok t0 t2 h h3);clear t0;go_enter Tryz.func52,Tryz.ntmps52
     go_wp2_with fail;rw[←hwz];clear hwz;go_loopw [1,18] (fun x i wr=> ∃k:Nat,k≤P.cos.length∧i= .int .i64 k∧x= .int .i64 (c+k)∧Hid (Jn.NumsAt c P.cos k)∧Below wz.heap.size wz wr) (fun _ i _=>P.cos.length-(intOf i).toNat)
     case atStart=>exact⟨0,Nat.zero_le _,rfl,by simp,Jn.nums_zero c P.cos,Below.refl _ _⟩
     case round=>
      obtain⟨k,hk,rfl,rfl,HN,hbel⟩:=hrel
      have hb0:=below_tr hbz hbel;by_cases hlt:k<P.cos.length
      · obtain⟨b,o,rfl,hb,he⟩:=HC.out k hlt
        obtain⟨c0,c1,u,c2,hu⟩:=he.below hb hb0
        have HNX:=hid (show P.cos[k].nu=c+k+1→Jn.NumsAt c P.cos (k+1)from fun h=>Jn.nums_next HN.out hlt h);have HNB:=hid (show¬P.cos[k].nu=c+k+1→Jn.onE P c=4 from fun h=>HBAD.out (Jn.nums_bad HN.out hlt h));clear he;generalize P.cos[k]=ck at*;obtain⟨nu,ke,ch⟩:=ck
        simp only at c0 c1 c2 hu;obtain⟨ua,ucap,rfl,_⟩:=hu
        have e1:IntKind.i64.wrap (c+(k:Int)+1)=c+k+1:=by rw[IntKind.wrap_i64];omega
        have hby:Below wr.heap.size wr (wr.alloc (.cells #[.int .i64 nu,.string ke,.slice ua ch.length ucap] 68)):=(Below.refl _ _).alloc (Nat.le_refl _) _;have hb2:=below_tr hbel hby;have hb02:=below_tr hb0 hby;by_cases hnu:nu=c+k+1
        · have HN2:=hid (HNX.out hnu)
          subst hnu;clear HNX HNB;go_wp2_with fail;go_roundw
          case rel=>exact⟨k+1,by omega,by simp,by simp;omega,HN2,hb2⟩
          case measure=>simp[intOf];omega
        · have HE:=hid (HNB.out hnu)
          have hz:(nu==c+k+1)=false:=by simpa using hnu
          clear HNX HNB hnu;go_wp2_with fail;go_ret;exact⟨by rw[HE.out];rfl,hb02⟩
      · obtain rfl:k=P.cos.length:=by omega
        have hnb:=Jn.nums_end HN.out;have x3:=(HBX.out.below hbel).cell 3 rfl;by_cases hcu:P.cur=c+P.cos.length
        · have HE:=hid (HOK.out hnb hcu)
          have hz:(P.cur==c+(P.cos.length:Int))=true:=by simpa using hcu
          clear hcu hnb;go_wp2_with fail;go_ret;exact⟨by rw[HE.out];rfl,hb0⟩
        · have HE:=hid (HCU.out hnb hcu)
          have hz:(P.cur==c+(P.cos.length:Int))=false:=by simpa using hcu
          clear hcu hnb;go_wp2_with fail;go_ret;exact⟨by rw[HE.out];rfl,hb0⟩
 · have HE:=hid (Jn.on_tree (c:=c) t0)
   have t1:0<(P.tree.length:Int):=by have:=List.length_pos_iff.2 t0;omega
   clear t0;go_enter Tryz.func52,Tryz.ntmps52
   go_wp2_with fail;rw[←hwz];go_ret;exact⟨by rw[HE.out];rfl,hbz⟩
set_option maxRecDepth 100000 in
set_option maxHeartbeats 4000000 in
theorem follow_any (T:List En) (v:Value) (c:Int) (P:Pg) (vp:Value) (w:World) (hv:Lies w v T) (hs:Sized T) (hp:LiesPg w vp P) (hps:Sized P.tree) (hpc:SizedO 150000000000000 P.cos):
    Calls Tryz.prog 24 #[v,.int .i64 c,vp] w fun e w'=> ∃r,e= .returned (.tuple #[r,.int .i64 (Jn.folN T c P),.int .i64 (Jn.folE T c P)])∧Lies w' r (Jn.folR T c P)∧Below w.heap.size w w':=by
 have HV:=hid hv;have HS:=hid hs;have HPP:=hid hp;have HPS:=hid hps;have HPC:=hid hpc;obtain⟨vt,vc,rfl,hvt,hvc⟩:=hp
 obtain⟨a1,b1,rfl,_⟩:=hvt
 obtain⟨a2,b2,rfl,hcap,hcap2,hat⟩:=hvc
 have HC:Hid (∀i (h:i<P.cos.length),∃b o,a2=some ⟨b,o,none⟩∧b<w.heap.size∧CoAt w b (o+i*3) P.cos[i]):=hat;clear hat hs hps hpc;obtain⟨va,vcap,rfl,_⟩:=hv
 obtain⟨wz,hwz⟩: ∃wz,wz=w.alloc (.cells #[.bool P.reset,.slice a1 P.tree.length b1,.slice a2 P.cos.length b2,.int .i64 P.cur,.bool P.more] 29):=⟨_,rfl⟩
 have hbz:Below w.heap.size w wz:=by rw[hwz];exact(Below.refl _ _).alloc (Nat.le_refl _) _
 have HBX:=hid (show Cs wz w.heap.size [.bool P.reset,.slice a1 P.tree.length b1,.slice a2 P.cos.length b2,.int .i64 P.cur,.bool P.more]from by rw[hwz];exact Cs.new w [.bool P.reset,.slice a1 P.tree.length b1,.slice a2 P.cos.length b2,.int .i64 P.cur,.bool P.more] _);have hlz:=HBX.out.lt;by_cases hk:Jn.knE T c=0
 · have HK:=hid hk
   obtain⟨htr,k1,k2⟩:=Jn.kn_zero hk
   have hG:=(Pp.good_iff T).1 htr;have HG:=hid hG;have hlen:=hG.len;clear htr hG;cases hr:P.reset with
   |true=>
    have hE:=Jn.fol_reset hk hr;have HE:=hid hE
    have HRN:=hid (show Jn.folN T c P=(if Jn.rstE P=0 then P.cur else 0)∧Jn.folR T c P=Pp.ifz (Jn.rstE P) P.tree from by
     by_cases h0:Jn.rstE P=0
     · have:=Jn.fol_okR (hE.trans h0) hr
       rw[this.1,this.2,if_pos h0,Pp.ifz_yes h0];exact⟨rfl,rfl⟩
     · have:=Jn.fol_bad hE h0
       rw[this.1,this.2,if_neg h0,Pp.ifz_no h0];exact⟨rfl,rfl⟩)
    rw[HRN.out.1,HRN.out.2,HE.out];rw[hr]at hwz HBX HPP;obtain⟨cu,hcu⟩: ∃cu,cu=(if Jn.rstE P=0 then P.cur else 0):=⟨_,rfl⟩
    rw[←hcu];have HCUE:=hid hcu;clear hcu hE hk HRN HE;go_enter Tryz.func24,Tryz.ntmps24
    go_wp2_with fail;rw[←hwz];clear hwz;refine(checkKnown_any T _ c _ (HV.out.below hbz) HS.out).mono ?_
    rintro e w1 ⟨rfl,hb1⟩;rw[HK.out];have HX1:=hid (HBX.out.below hb1);have x0:=HX1.out.cell 0 rfl;have x1:=HX1.out.cell 1 rfl;have x2:=HX1.out.cell 2 rfl;have x3:=HX1.out.cell 3 rfl;have x4:=HX1.out.cell 4 rfl;have hb01:=below_tr hbz hb1;have HPP1:=hid (show LiesPg w1 (.agg #[.bool true,.slice a1 P.tree.length b1,.slice a2 P.cos.length b2,.int .i64 P.cur,.bool P.more]) P from HPP.out.below hb01);go_wp2_with fail;refine(reset_any P _ _ HPP1.out HPS.out).mono ?_
    rintro e w2 ⟨r,rfl,hli,hb2⟩;rw[←HCUE.out];have HLI:=hid hli;have hb02:=below_tr hb01 hb2;clear hli;go_wp2_with fail;go_ret3;exact⟨_,rfl,HLI.out,hb02⟩
   |false=>
    have HPPF:=hid (show LiesPg w (.agg #[.bool false,.slice a1 P.tree.length b1,.slice a2 P.cos.length b2,.int .i64 P.cur,.bool P.more]) P from by have:=HPP.out;rw[hr]at this;exact this);rw[hr]at hwz HBX;by_cases ho:Jn.onE P c=0
    · have HO:=hid ho
      have hE:=Jn.fol_run hk hr ho;have HEE:=hid hE
      have HST:=hid (show∀e,Jn.folF T P.cos=(e,[])→ ¬e=0→Jn.folE T c P=e∧Jn.folR T c P=[]∧Jn.folN T c P=0 from fun e h he=>by
       have h2:Jn.folE T c P=e:=by rw[hE,h]
       exact⟨h2,(Jn.fol_bad h2 he).1,(Jn.fol_bad h2 he).2⟩)
      have HEN:=hid (show∀S,Jn.folF T P.cos=(0,S)→Jn.folE T c P=0∧Jn.folR T c P=S∧Jn.folN T c P=P.cur from fun S h=>by
       have h2:Jn.folE T c P=0:=by rw[hE,h]
       have h3:=Jn.fol_okF h2 hr;exact⟨h2,by rw[h3.1,h],h3.2⟩)
      clear hE hk ho HEE;go_enter Tryz.func24,Tryz.ntmps24
      go_wp2_with fail;rw[←hwz];clear hwz;refine(checkKnown_any T _ c _ (HV.out.below hbz) HS.out).mono ?_
      rintro e w1 ⟨rfl,hb1⟩;rw[HK.out];have HX1:=hid (HBX.out.below hb1);have x0:=HX1.out.cell 0 rfl;have x1:=HX1.out.cell 1 rfl;have x2:=HX1.out.cell 2 rfl;have x3:=HX1.out.cell 3 rfl;have x4:=HX1.out.cell 4 rfl;have hb01:=below_tr hbz hb1;go_wp2_with fail;refine(checkOn_any P _ c _ (HPPF.out.below hb01) k1 k2).mono ?_
      rintro e w2 ⟨rfl,hb2⟩;rw[HO.out];have hb02:=below_tr hb01 hb2;have HX2:=hid (HX1.out.below hb2);clear x0 x1 x2 x3 x4;go_wp2_with fail;refine(cloneE (T.map Pp.cells) _ _ (liesR_en.1 (HV.out.below hb02)) (by rw[List.length_map];omega)).mono ?_
      rintro e w3 ⟨u,rfl,hR,_,hb3⟩;have HU3:=hid (liesR_en.2 hR);have HX3:=hid (HX2.out.below hb3);have x2:=HX3.out.cell 2 rfl;have hb03:=below_tr hb02 hb3;clear hR;go_wp2_with fail;go_loopw [11,39] (fun x i wr=> ∃(k:Nat) (S:List En),k≤P.cos.length∧i= .int .i64 k∧Hid (Lies wr x S)∧Hid (Pp.Good S)∧Hid (Jn.LeftF T P.cos S k)∧Hid (Cs wr w.heap.size [.bool false,.slice a1 P.tree.length b1,.slice a2 P.cos.length b2,.int .i64 P.cur,.bool P.more])∧Below w.heap.size w wr) (fun _ i _=>P.cos.length-(intOf i).toNat)
      case atStart=>exact⟨0,T,Nat.zero_le _,rfl,HU3,HG,Jn.leftF_zero T P.cos,HX3,hb03⟩
      case round=>
       obtain⟨k,S,hk,rfl,HX,HGS,HLF,HXr,hbel⟩:=hrel
       clear HU3 HX3 hb03 x2;by_cases hlt:k<P.cos.length
       · obtain⟨b,o,rfl,hb,he⟩:=HC.out k hlt
         obtain⟨c0,c1,y,c2,hy⟩:=he.below hb hbel
         have HZ:=hid (HPC.out P.cos[k] (List.getElem_mem hlt));have HNX:=hid (show Pp.allE S P.cos[k].ch P.cos[k].nu=0→Jn.LeftF T P.cos (Pp.allR S P.cos[k].ch P.cos[k].nu) (k+1)from fun h0=>Jn.leftF_next HLF.out hlt h0);have HSP:=hid (show¬Pp.allE S P.cos[k].ch P.cos[k].nu=0→Jn.folF T P.cos=(Pp.allE S P.cos[k].ch P.cos[k].nu,[])from fun h0=>Jn.leftF_stop HLF.out hlt h0);clear he;generalize P.cos[k]=ck at*;obtain⟨nu,ke,ch⟩:=ck
         simp only at c0 c1 c2 hy;have HY:=hid hy;obtain⟨ua,ucap,rfl,_⟩:=hy
         have hby:Below wr.heap.size wr (wr.alloc (.cells #[.int .i64 nu,.string ke,.slice ua ch.length ucap] 68)):=(Below.refl _ _).alloc (Nat.le_refl _) _;have hb2:=below_tr hbel hby;go_wp2_with fail;refine(tall_any S _ ch _ nu _ (HX.out.below hby) (Pp.good_sized HGS.out) (HY.out.below hby) HZ.out.2).mono ?_
         rintro e w4 ⟨r,rfl,hli,hb4⟩;have HLI:=hid hli;have hbr4:=below_tr hby hb4;have hb04:=below_tr hbel hbr4;have HX4:=hid (HXr.out.below hbr4);clear hli hb4;by_cases h0:Pp.allE S ch nu=0
         · have HN:=hid (HNX.out h0)
           have HG4:=hid (Jn.all_good h0);rw[h0];clear h0 HNX HSP;go_wp2_with fail;go_roundw
           case rel=>exact⟨k+1,_,by omega,by simp,HLI,HG4,HN,HX4,hb04⟩
           case measure=>simp[intOf];omega
         · obtain⟨q1,q2,q3⟩:=HST.out _ (HSP.out h0) h0
           have HQ1:=hid q1;have HQ2:=hid q2;have HQ3:=hid q3;have hz:(Pp.allE S ch nu==0)=false:=by simpa using h0
           clear q1 q2 q3 h0 HNX HSP;go_wp2_with fail;go_ret3;exact⟨_,by rw[HQ1.out,HQ3.out];rfl,by rw[HQ2.out];exact lies_nil _,hb04⟩
       · obtain rfl:k=P.cos.length:=by omega
         obtain⟨q1,q2,q3⟩:=HEN.out _ (Jn.leftF_end HLF.out)
         have HQ1:=hid q1;have HQ2:=hid q2;have HQ3:=hid q3;have x3:=HXr.out.cell 3 rfl;clear q1 q2 q3;have HXD:=hid (HX.out.below (Below.refl _ _).drew);have hbd:=below_tr hbel (Below.refl _ _).drew;go_wp2_with fail;go_region
         go_wp2_with fail;go_ret3;exact⟨_,by rw[HQ1.out,HQ3.out];rfl,by rw[HQ2.out];exact HXD.out,hbd⟩
    · have HE:=hid (Jn.fol_on hk hr ho)
      obtain⟨q2,q3⟩:=Jn.fol_bad HE.out ho
      have HQ2:=hid q2;have HQ3:=hid q3;have hz:(Jn.onE P c==0)=false:=by simpa using ho
      clear hk ho q2 q3;go_enter Tryz.func24,Tryz.ntmps24
      go_wp2_with fail;rw[←hwz];clear hwz;refine(checkKnown_any T _ c _ (HV.out.below hbz) HS.out).mono ?_
      rintro e w1 ⟨rfl,hb1⟩;rw[HK.out];have HX1:=hid (HBX.out.below hb1);have x0:=HX1.out.cell 0 rfl;have x1:=HX1.out.cell 1 rfl;have x2:=HX1.out.cell 2 rfl;have x3:=HX1.out.cell 3 rfl;have x4:=HX1.out.cell 4 rfl;have hb01:=below_tr hbz hb1;go_wp2_with fail;refine(checkOn_any P _ c _ (HPPF.out.below hb01) k1 k2).mono ?_
      rintro e w2 ⟨rfl,hb2⟩;have hb02:=below_tr hb01 hb2;go_wp2_with fail;go_ret3;exact⟨_,by rw[HE.out,HQ3.out];rfl,by rw[HQ2.out];exact lies_nil _,hb02⟩
 · have HE:=hid (Jn.fol_kn (P:=P) hk)
   obtain⟨q2,q3⟩:=Jn.fol_bad HE.out hk
   have HQ2:=hid q2;have HQ3:=hid q3;have hz:(Jn.knE T c==0)=false:=by simpa using hk
   clear hk q2 q3;go_enter Tryz.func24,Tryz.ntmps24
   go_wp2_with fail;rw[←hwz];clear hwz;refine(checkKnown_any T _ c _ (HV.out.below hbz) HS.out).mono ?_
   rintro e w1 ⟨rfl,hb1⟩;have hb01:=below_tr hbz hb1;go_wp2_with fail;go_ret3;exact⟨_,by rw[HE.out,HQ3.out];rfl,by rw[HQ2.out];exact lies_nil _,hb01⟩
theorem LiesK.nbo {W W':World} {v:Value} {C:Mg.CC} {g:Nat} (h:LiesK W v C) (hw:W.grownBy W' (some g)) (hn: ∀b,v.ownBlock=some b→b≠g):LiesK W' v C:=by
 obtain⟨a,cap,rfl,h1,h2,h3⟩:=h
 refine⟨a,cap,rfl,h1,h2,fun i hi=>?_⟩
 obtain⟨b,o,rfl,hb,c1,c2⟩:=h3 i hi
 have c:=cell_nb hw hb (hn b rfl);exact⟨b,o,rfl,Nat.lt_of_lt_of_le hb hw.size,(c _).trans c1,(c _).trans c2⟩
namespace Jn
theorem run_goodH {n:Int}: ∀(l:List Pp.Ch) (T:List En),Pp.Good T→(Pp.runF n T l).2.1=0→Pp.Good (Pp.runF n T l).2.2
 |[],T,hT,_=>hT
 |c::r,T,hT,h=>by
  rw[Pp.runF]at h⊢;by_cases h0:Pp.appE T c n=0
  · rw[if_pos h0]at h⊢
    exact run_goodH r _ (Pp.app_good hT h0) h
  · rw[if_neg h0]at h;exact absurd h h0
theorem all_goodH {T:List En} {l:List Pp.Ch} {n:Int} (hT:Pp.Good T) (h:Pp.allE T l n=0):Pp.Good (Pp.allR T l n):=by
 have ht:=(Pp.good_iff _).2 hT;rw[Pp.allE,if_neg (fun x=>x ht)]at h;rw[Pp.allR,if_neg (fun x=>x ht)];by_cases h20:20<l.length
 · rw[if_pos h20]at h;cases h
 · rw[if_neg h20]at h
   rw[if_neg h20];exact run_goodH l T hT h
theorem folF_good: ∀(l:List Co) (T:List En),Pp.Good T→(folF T l).1=0→Pp.Good (folF T l).2
 |[],T,hT,_=>hT
 |c::r,T,hT,h=>by
  rw[folF]at h⊢;by_cases h0:Pp.allE T c.ch c.nu=0
  · rw[if_pos h0]at h⊢
    exact folF_good r _ (all_goodH hT h0) h
  · rw[if_neg h0]at h;exact absurd h h0
theorem fol_good {T:List En} {c:Int} {P:Pg} (h:folE T c P=0):Pp.Good (folR T c P):=by
 have hk:knE T c=0:=by
  by_cases hk:knE T c=0
  · exact hk
  · rw[fol_kn hk]at h;exact h
 have hT:=(Pp.good_iff _).1 (kn_zero hk).1;cases hr:P.reset with
 |true=>
  rw[(fol_okR h hr).1];rw[fol_reset hk hr]at h
  have h1:knE P.tree P.cur=0:=by
   by_cases h1:knE P.tree P.cur=0
   · exact h1
   · rw[rst_kn h1]at h;exact h
  exact(Pp.good_iff _).1 (kn_zero h1).1
 |false=>
  rw[(fol_okF h hr).1];by_cases ho:onE P c=0
  · rw[fol_run hk hr ho]at h
    exact folF_good _ _ hT h
  · rw[fol_on hk hr ho]at h;exact absurd h ho
end Jn
namespace Cy
def tnE (c:Cn) (a:An):Int:=if¬a.err=0 then a.err else if a.pg.reset=true∧a.pg.cur<c.cur then 4 else if¬Jn.folE c.base c.cur a.pg=0 then Jn.folE c.base c.cur a.pg else Mg.mE c.base c.mine (Jn.folR c.base c.cur a.pg)
def tnC (c:Cn) (a:An):Cn:=if tnE c a=0 then⟨c.who,c.fo,Jn.folR c.base c.cur a.pg,Jn.folN c.base c.cur a.pg,Mg.mT c.base c.mine (Jn.folR c.base c.cur a.pg),c.key,c.ask,c.keys⟩else zeroN
def tnK (c:Cn) (a:An):Mg.CC:=if tnE c a=0 then Mg.mC c.base c.mine (Jn.folR c.base c.cur a.pg)else[]
end Cy


set_option maxRecDepth 100000 in
set_option maxHeartbeats 8000000 in
theorem turn_any (c:Cn) (a:An) (v va:Value) (w:World) (hv:LiesN w v c) (ha:LiesA w va a) (hs:SizedN c) (hsa:SizedA a) (hgb:Pp.treeE c.base=0):
    Calls Tryz.prog 11 #[v,va] w fun e w'=> ∃u vk,e= .returned (.tuple #[u,vk,.int .i64 (Cy.tnE c a)])∧LiesN w' u (Cy.tnC c a)∧LiesK w' vk (Cy.tnK c a)∧Own w.heap.size w' vk∧Below w.heap.size w w':=by
 have HS:=hid hs;have HSA:=hid hsa;have HGB:=hid hgb;have HV:=hid hv;have HA:=hid ha;obtain⟨vb,vm,vq,rfl,lb,lm,la⟩:=hv
 have HLB:=hid lb;have HLM:=hid lm;have HLC:=hid la;obtain⟨ab,cb,rfl,_⟩:=lb
 obtain⟨am,cm,rfl,_⟩:=lm
 obtain⟨aa,ca,rfl,_⟩:=la
 obtain⟨vt,vc,rfl,lt,lc⟩:=ha
 have HLT:=hid lt;have HLO:=hid lc;obtain⟨xt,yt,rfl,_⟩:=lt
 obtain⟨xc,yc,rfl⟩:=liesO_shape lc
 clear hs hsa lc hgb;obtain⟨r,hr⟩: ∃r,r=Cy.tnE c a:=⟨_,rfl⟩
 rw[←hr];have HR:=hid hr;clear hr;have HZE:=hid (show¬r=0→r=r∧Cy.tnC c a=zeroN∧Cy.tnK c a=[]from fun h=>by rw[HR.out]at h;exact⟨rfl,by rw[Cy.tnC,if_neg h],by rw[Cy.tnK,if_neg h]⟩);obtain⟨wa,hwa⟩: ∃wa,wa=w.alloc (.cells #[.string c.who,.string c.fo,.slice ab c.base.length cb,.int .i64 c.cur,.slice am c.mine.length cm,.string c.key,.slice aa c.ask.length ca,.int .i64 c.keys] 25):=⟨_,rfl⟩
 obtain⟨wb,hwb⟩: ∃wb,wb=wa.alloc (.cells #[.int .i64 a.err,.int .i64 a.num,.bool a.pg.reset,.slice xt a.pg.tree.length yt,.slice xc a.pg.cos.length yc,.int .i64 a.pg.cur,.bool a.pg.more] 31):=⟨_,rfl⟩
 obtain⟨wz,hwz⟩: ∃wz,wz=wb.alloc (.cells #[.string ⟨#[]⟩,.string ⟨#[]⟩,.slice none 0 0,.int .i64 0,.slice none 0 0,.string ⟨#[]⟩,.slice none 0 0,.int .i64 0] 25):=⟨_,rfl⟩
 have sa:wa.heap.size=w.heap.size+1:=by rw[hwa];simp
 have sb:wb.heap.size=w.heap.size+1+1:=by rw[hwb];simp[sa]
 have bwa:Below w.heap.size w wa:=by rw[hwa];exact(Below.refl _ _).alloc (Nat.le_refl _) _
 have bwb:Below wa.heap.size wa wb:=by rw[hwb];exact(Below.refl _ _).alloc (Nat.le_refl _) _
 have bwz:Below wb.heap.size wb wz:=by rw[hwz];exact(Below.refl _ _).alloc (Nat.le_refl _) _
 have hbz:Below w.heap.size w wz:=below_tr bwa (below_tr bwb bwz);have HX:Hid (Cs wz w.heap.size [.string c.who,.string c.fo,.slice ab c.base.length cb,.int .i64 c.cur,.slice am c.mine.length cm,.string c.key,.slice aa c.ask.length ca,.int .i64 c.keys]):=(((by rw[hwa];exact Cs.new w [.string c.who,.string c.fo,.slice ab c.base.length cb,.int .i64 c.cur,.slice am c.mine.length cm,.string c.key,.slice aa c.ask.length ca,.int .i64 c.keys] _:Cs wa w.heap.size [.string c.who,.string c.fo,.slice ab c.base.length cb,.int .i64 c.cur,.slice am c.mine.length cm,.string c.key,.slice aa c.ask.length ca,.int .i64 c.keys]).below bwb).below bwz:Cs wz w.heap.size _)
 have HC:Hid (Cs wz (w.heap.size+1) [.int .i64 a.err,.int .i64 a.num,.bool a.pg.reset,.slice xt a.pg.tree.length yt,.slice xc a.pg.cos.length yc,.int .i64 a.pg.cur,.bool a.pg.more]):=((by rw[←sa,hwb];exact Cs.new wa [.int .i64 a.err,.int .i64 a.num,.bool a.pg.reset,.slice xt a.pg.tree.length yt,.slice xc a.pg.cos.length yc,.int .i64 a.pg.cur,.bool a.pg.more] _:Cs wb (w.heap.size+1) [.int .i64 a.err,.int .i64 a.num,.bool a.pg.reset,.slice xt a.pg.tree.length yt,.slice xc a.pg.cos.length yc,.int .i64 a.pg.cur,.bool a.pg.more]).below bwz:Cs wz (w.heap.size+1) _)
 have HY:=hid (show Cs wz (w.heap.size+1+1) zs from by rw[←sb,hwz];exact Cs.new wb zs _);have hNz:w.heap.size+1+1<wz.heap.size:=HY.out.lt;have hwzz:(((w.alloc (.cells #[.string c.who,.string c.fo,.slice ab c.base.length cb,.int .i64 c.cur,.slice am c.mine.length cm,.string c.key,.slice aa c.ask.length ca,.int .i64 c.keys] 25)).alloc (.cells #[.int .i64 a.err,.int .i64 a.num,.bool a.pg.reset,.slice xt a.pg.tree.length yt,.slice xc a.pg.cos.length yc,.int .i64 a.pg.cur,.bool a.pg.more] 31)).alloc (.cells #[.string ⟨#[]⟩,.string ⟨#[]⟩,.slice none 0 0,.int .i64 0,.slice none 0 0,.string ⟨#[]⟩,.slice none 0 0,.int .i64 0] 25))=wz:=by rw[hwz,hwb,hwa]
 have HWZ:=hid hwzz;have n1: ¬w.heap.size=w.heap.size+1+1:=by omega
 have n2: ¬w.heap.size+1=w.heap.size+1+1:=by omega
 have n3: ¬w.heap.size+1+1=w.heap.size+1:=by omega
 clear hwa hwb hwz bwa bwb bwz sa sb hwzz;by_cases he:a.err=0
 · by_cases hrs:a.pg.reset=true∧a.pg.cur<c.cur
   · have hr4:r=4:=by rw[HR.out,Cy.tnE,if_neg (fun x=>x he),if_pos hrs]
     have HZ4:=hid (HZE.out (by rw[hr4];decide));subst hr4;have heb:(a.err==0)=true:=by simpa using he
     have heb2:(a.err !=0)=false:=by simpa using he
     have HRS:=hid hrs;clear he hrs;go_enter Tryz.func11,Tryz.ntmps11
     go_upto_region 1 with fail;rw[HWZ.out];clear HWZ;obtain⟨hr1,hr2⟩:=HRS.out
     have p3:=HX.out.cell 3 rfl;have t0:=HC.out.cell 0 rfl;have t2:=HC.out.cell 2 rfl;have t5:=HC.out.cell 5 rfl;have y0:=HY.out.cell 0 rfl;have g0:=HY.out.fr 0;have y1:=HY.out.cell 1 rfl;have g1:=HY.out.fr 1;have y2:=HY.out.cell 2 rfl;have g2:=HY.out.fr 2;have y3:=HY.out.cell 3 rfl;have g3:=HY.out.fr 3;have y4:=HY.out.cell 4 rfl;have g4:=HY.out.fr 4;have y5:=HY.out.cell 5 rfl;have g5:=HY.out.fr 5;have y6:=HY.out.cell 6 rfl;have g6:=HY.out.fr 6;have y7:=HY.out.cell 7 rfl;have g7:=HY.out.fr 7;go_wp2_with fail;refine bodyPost_ret (v:= .tuple #[.agg #[.string ⟨#[]⟩,.string ⟨#[]⟩,.slice none 0 0,.int .i64 0,.slice none 0 0,.string ⟨#[]⟩,.slice none 0 0,.int .i64 0],.slice none 0 0,.int .i64 4]) (by simp[results,Tryz.results11,go_sem,y0,y1,y2,y3,y4,y5,y6,y7]) rfl ⟨_,_,rfl,?_,?_,own_nil _ _,?_⟩
     · rw[(HZ4.out).2.1];exact(ownN_zero 0 _).lies
     · rw[(HZ4.out).2.2];exact LiesK.nil _
     · exact(bs8 (b:=w.heap.size+1+1) hbz (by show _≤w.heap.size+1+1;omega))
   · have heb:(a.err==0)=true:=by simpa using he
     have heb2:(a.err !=0)=false:=by simpa using he
     have HRR:=hid (show r=if¬Jn.folE c.base c.cur a.pg=0 then Jn.folE c.base c.cur a.pg else Mg.mE c.base c.mine (Jn.folR c.base c.cur a.pg)from by rw[HR.out,Cy.tnE,if_neg (fun x=>x he),if_neg hrs])
     have hgo:a.pg.reset=false∨(a.pg.reset=true∧ ¬a.pg.cur<c.cur):=by
      cases h:a.pg.reset with
      |false=>exact Or.inl rfl
      |true=>exact Or.inr ⟨rfl,fun x=>hrs ⟨h,x⟩⟩
     have HGO:=hid hgo;clear he hrs hgo;rcases HGO.out with hg1|⟨hg1,hg2⟩
     · have HG1:=hid hg1
       clear hg1;clear HGO;go_enter Tryz.func11,Tryz.ntmps11
       go_upto_region 1 with fail;rw[HWZ.out];clear HWZ;have hg1:=HG1.out;have p2:=HX.out.cell 2 rfl;have p3:=HX.out.cell 3 rfl;have t0:=HC.out.cell 0 rfl;have t1:=HC.out.cell 1 rfl;have t2:=HC.out.cell 2 rfl;have t3:=HC.out.cell 3 rfl;have t4:=HC.out.cell 4 rfl;have t5:=HC.out.cell 5 rfl;have t6:=HC.out.cell 6 rfl;go_wp2_with fail;refine(follow_any c.base _ c.cur a.pg _ _ (HLB.out.below hbz) HS.out.base ⟨_,_,by rw[HG1.out],HLT.out.below hbz,HLO.out.below hbz⟩ HSA.out.tree HSA.out.cos).mono ?_
       rintro e w1 ⟨u1,rfl,hl1,hb1⟩;have hb01:=below_tr hbz hb1;have HX1:=hid (HX.out.below hb1);have HY1:=hid (HY.out.below hb1);have s1:=hb1.size;clear p2 p3 t0 t1 t2 t3 t4 t5 t6;by_cases hf:Jn.folE c.base c.cur a.pg=0
       · have HF:=hid hf
         rw[hf];clear hf;obtain⟨T,hT⟩: ∃T,T=Jn.folR c.base c.cur a.pg:=⟨_,rfl⟩
         rw[←hT]at hl1;have HT:=hid hT;have HTG:=hid (show Pp.Good T from by rw[hT];exact Jn.fol_good HF.out);obtain⟨nn,hnn⟩: ∃nn,nn=Jn.folN c.base c.cur a.pg:=⟨_,rfl⟩
         rw[←hnn];have HNN:=hid hnn;clear hT hnn;have HL1:=hid hl1;obtain⟨ta,tc,rfl,_⟩:=hl1
         have p2:=HX1.out.cell 2 rfl;have p4:=HX1.out.cell 4 rfl;go_wp2_with fail;refine(merge_own c.base c.mine T _ _ _ _ (HLB.out.below hb01) (HLM.out.below hb01) HL1.out HS.out.base HS.out.mine (Pp.good_sized HTG.out)).mono ?_
         rintro e w2 ⟨ve,vk,rfl,hl2,hk2,⟨ho2,ho3⟩,hb2⟩;have hb02:=below_tr hb01 hb2;have HX2:=hid (HX1.out.below hb2);have HY2:=hid (HY1.out.below hb2);have HL2:=hid (HL1.out.below hb2);have s2:=hb2.size;clear p2 p4;by_cases hm:Mg.mE c.base c.mine T=0
         · have HOK:=hid (show r=0∧Cy.tnC c a=⟨c.who,c.fo,T,nn,Mg.mT c.base c.mine T,c.key,c.ask,c.keys⟩∧Cy.tnK c a=Mg.mC c.base c.mine T from by
            have h3:r=0:=by rw[HRR.out,if_neg (fun x=>x HF.out),←HT.out];exact hm
            have h4:Cy.tnE c a=0:=by rw[←HR.out];exact h3
            exact⟨h3,by rw[Cy.tnC,if_pos h4,HT.out,HNN.out],by rw[Cy.tnK,if_pos h4,HT.out]⟩)
           rw[hm];have h0r:=HOK.out.1;subst h0r;clear hm;obtain⟨X,hX⟩: ∃X,X=Mg.mT c.base c.mine T:=⟨_,rfl⟩
           rw[←hX]at hl2;obtain⟨C,hC⟩: ∃C,C=Mg.mC c.base c.mine T:=⟨_,rfl⟩
           rw[←hC]at hk2;have HXC:=hid (show X=Mg.mT c.base c.mine T∧C=Mg.mC c.base c.mine T from⟨hX,hC⟩);have HV2:=hid hl2;have HK2:=hid hk2;have HO3:=hid ho3;obtain⟨ea,ec,rfl,_⟩:=hl2
           obtain⟨ka,kc,rfl,_⟩:=hk2
           clear hX hC ho2 ho3;obtain⟨w3,hw3⟩: ∃w3,w3=((w2.setCell ⟨w.heap.size,2,none⟩ (.slice ta T.length tc)).setCell ⟨w.heap.size,4,none⟩ (.slice ea X.length ec)).setCell ⟨w.heap.size,3,none⟩ (.int .i64 nn):=⟨_,rfl⟩
           have g3:w2.grownBy w3 (some w.heap.size):=by rw[hw3];exact grown_on (grown_on (nb_set w2 w.heap.size 2 _) (nb_set _ w.heap.size 4 _)) (nb_set _ w.heap.size 3 _)
           have HX3:Hid (Cs w3 w.heap.size [.string c.who,.string c.fo,.slice ta T.length tc,.int .i64 nn,.slice ea X.length ec,.string c.key,.slice aa c.ask.length ca,.int .i64 c.keys]):=(by rw[hw3];exact((HX2.out.set 2 _).set 4 _).set 3 _:Cs w3 w.heap.size _)
           have HY3:=hid (HY2.out.nb g3 (by omega));have HL3:=hid (HL2.out.offbox HX2.out (fun z hz=>by simp at hz) g3);have HV3:=hid (HV2.out.offbox HX2.out (fun z hz=>by simp at hz) g3);have HK3:=hid (HK2.out.nbo g3 (fun b hb=>by have:=(HO3.out b hb).1;omega));have HP3:=hid (HO3.out.nb g3 (fun b hb=>by have:=(HO3.out b hb).1;omega));have hb3:Below w.heap.size w w3:=by rw[hw3];exact((hb02.setCell (p:=⟨w.heap.size,2,none⟩) (Nat.le_refl _) _).setCell (p:=⟨w.heap.size,4,none⟩) (Nat.le_refl _) _).setCell (p:=⟨w.heap.size,3,none⟩) (Nat.le_refl _) _
           have s3:=g3.size;have p2:=HX2.out.cell 2 rfl;have f2:=HX2.out.fr 2;have p3:=HX2.out.cell 3 rfl;have f3:=HX2.out.fr 3;have p4:=HX2.out.cell 4 rfl;have f4:=HX2.out.fr 4;go_upto_region 12 with fail;rw[←hw3];clear hw3 p2 p3 p4 f2 f3 f4;have p0:=HX3.out.cell 0 rfl;have p1:=HX3.out.cell 1 rfl;have p2:=HX3.out.cell 2 rfl;have p3:=HX3.out.cell 3 rfl;have p4:=HX3.out.cell 4 rfl;have p5:=HX3.out.cell 5 rfl;have p6:=HX3.out.cell 6 rfl;have p7:=HX3.out.cell 7 rfl;have y0:=HY3.out.cell 0 rfl;have g0:=HY3.out.fr 0;have y1:=HY3.out.cell 1 rfl;have g1:=HY3.out.fr 1;have y2:=HY3.out.cell 2 rfl;have g2:=HY3.out.fr 2;have y3:=HY3.out.cell 3 rfl;have g3:=HY3.out.fr 3;have y4:=HY3.out.cell 4 rfl;have g4:=HY3.out.fr 4;have y5:=HY3.out.cell 5 rfl;have g5:=HY3.out.fr 5;have y6:=HY3.out.cell 6 rfl;have g6:=HY3.out.fr 6;have y7:=HY3.out.cell 7 rfl;have g7:=HY3.out.fr 7;go_wp2_with fail;have gz:w3.grownBy _ (some (w.heap.size+1+1)):=(grown_on (grown_on (grown_on (grown_on (grown_on (grown_on (grown_on (nb_set w3 (w.heap.size+1+1) 0 (.string c.who)) (nb_set _ (w.heap.size+1+1) 1 (.string c.fo))) (nb_set _ (w.heap.size+1+1) 2 (.slice ta T.length tc))) (nb_set _ (w.heap.size+1+1) 3 (.int .i64 nn))) (nb_set _ (w.heap.size+1+1) 4 (.slice ea X.length ec))) (nb_set _ (w.heap.size+1+1) 5 (.string c.key))) (nb_set _ (w.heap.size+1+1) 6 (.slice aa c.ask.length ca))) (nb_set _ (w.heap.size+1+1) 7 (.int .i64 c.keys)))
           have hbl:=((((((((hb3.setCell (p:=⟨w.heap.size+1+1,0,none⟩) (by show _≤w.heap.size+1+1;omega) (.string c.who)).setCell (p:=⟨w.heap.size+1+1,1,none⟩) (by show _≤w.heap.size+1+1;omega) (.string c.fo)).setCell (p:=⟨w.heap.size+1+1,2,none⟩) (by show _≤w.heap.size+1+1;omega) (.slice ta T.length tc)).setCell (p:=⟨w.heap.size+1+1,3,none⟩) (by show _≤w.heap.size+1+1;omega) (.int .i64 nn)).setCell (p:=⟨w.heap.size+1+1,4,none⟩) (by show _≤w.heap.size+1+1;omega) (.slice ea X.length ec)).setCell (p:=⟨w.heap.size+1+1,5,none⟩) (by show _≤w.heap.size+1+1;omega) (.string c.key)).setCell (p:=⟨w.heap.size+1+1,6,none⟩) (by show _≤w.heap.size+1+1;omega) (.slice aa c.ask.length ca)).setCell (p:=⟨w.heap.size+1+1,7,none⟩) (by show _≤w.heap.size+1+1;omega) (.int .i64 c.keys))
           refine bodyPost_ret (v:= .tuple #[.agg #[.string c.who,.string c.fo,.slice ta T.length tc,.int .i64 nn,.slice ea X.length ec,.string c.key,.slice aa c.ask.length ca,.int .i64 c.keys],.slice ka C.length kc,.int .i64 0]) (by simp[results,Tryz.results11,go_sem,y0,y1,y2,y3,y4,y5,y6,y7]) rfl ⟨_,_,rfl,?_,?_,?_,hbl⟩
           · rw[HOK.out.2.1,←HXC.out.1]
             exact⟨_,_,_,rfl,HL3.out.offbox HY3.out (fun z hz=>by simp at hz) gz,HV3.out.offbox HY3.out (fun z hz=>by simp at hz) gz,HLC.out.below hbl⟩
           · rw[HOK.out.2.2,←HXC.out.2]
             exact HK3.out.nbo gz (fun b hb=>by have:=(HP3.out b hb).1;omega)
           · exact(HP3.out.nb gz (fun b hb=>by have:=(HP3.out b hb).1;omega)).mono (by omega)
         · have hrm:r=Mg.mE c.base c.mine T:=by rw[HRR.out,if_neg (fun x=>x HF.out),←HT.out]
           have HZ4:=hid (HZE.out (by rw[hrm];exact hm));have hmb:(r !=0)=true:=by rw[hrm];simpa using hm
           rw[←hrm];clear hrm hm hl2 hk2 ho2 ho3;have y0:=HY2.out.cell 0 rfl;have g0:=HY2.out.fr 0;have y1:=HY2.out.cell 1 rfl;have g1:=HY2.out.fr 1;have y2:=HY2.out.cell 2 rfl;have g2:=HY2.out.fr 2;have y3:=HY2.out.cell 3 rfl;have g3:=HY2.out.fr 3;have y4:=HY2.out.cell 4 rfl;have g4:=HY2.out.fr 4;have y5:=HY2.out.cell 5 rfl;have g5:=HY2.out.fr 5;have y6:=HY2.out.cell 6 rfl;have g6:=HY2.out.fr 6;have y7:=HY2.out.cell 7 rfl;have g7:=HY2.out.fr 7;go_wp2_with fail;refine bodyPost_ret (v:= .tuple #[.agg #[.string ⟨#[]⟩,.string ⟨#[]⟩,.slice none 0 0,.int .i64 0,.slice none 0 0,.string ⟨#[]⟩,.slice none 0 0,.int .i64 0],.slice none 0 0,.int .i64 r]) (by simp[results,Tryz.results11,go_sem,y0,y1,y2,y3,y4,y5,y6,y7]) rfl ⟨_,_,rfl,?_,?_,own_nil _ _,?_⟩
           · rw[(HZ4.out).2.1];exact(ownN_zero 0 _).lies
           · rw[(HZ4.out).2.2];exact LiesK.nil _
           · exact(bs8 (b:=w.heap.size+1+1) hb02 (by show _≤w.heap.size+1+1;omega))
       · have hrm:r=Jn.folE c.base c.cur a.pg:=by rw[HRR.out,if_pos hf]
         have HZ4:=hid (HZE.out (by rw[hrm];exact hf));have hmb:(r !=0)=true:=by rw[hrm];simpa using hf
         rw[←hrm];clear hrm hf hl1;have y0:=HY1.out.cell 0 rfl;have g0:=HY1.out.fr 0;have y1:=HY1.out.cell 1 rfl;have g1:=HY1.out.fr 1;have y2:=HY1.out.cell 2 rfl;have g2:=HY1.out.fr 2;have y3:=HY1.out.cell 3 rfl;have g3:=HY1.out.fr 3;have y4:=HY1.out.cell 4 rfl;have g4:=HY1.out.fr 4;have y5:=HY1.out.cell 5 rfl;have g5:=HY1.out.fr 5;have y6:=HY1.out.cell 6 rfl;have g6:=HY1.out.fr 6;have y7:=HY1.out.cell 7 rfl;have g7:=HY1.out.fr 7;go_wp2_with fail;refine bodyPost_ret (v:= .tuple #[.agg #[.string ⟨#[]⟩,.string ⟨#[]⟩,.slice none 0 0,.int .i64 0,.slice none 0 0,.string ⟨#[]⟩,.slice none 0 0,.int .i64 0],.slice none 0 0,.int .i64 r]) (by simp[results,Tryz.results11,go_sem,y0,y1,y2,y3,y4,y5,y6,y7]) rfl ⟨_,_,rfl,?_,?_,own_nil _ _,?_⟩
         · rw[(HZ4.out).2.1];exact(ownN_zero 0 _).lies
         · rw[(HZ4.out).2.2];exact LiesK.nil _
         · exact(bs8 (b:=w.heap.size+1+1) hb01 (by show _≤w.heap.size+1+1;omega))
     · have HG1:=hid hg1
       clear hg1;clear HGO;go_enter Tryz.func11,Tryz.ntmps11
       go_upto_region 1 with fail;rw[HWZ.out];clear HWZ;have hg1:=HG1.out;have p2:=HX.out.cell 2 rfl;have p3:=HX.out.cell 3 rfl;have t0:=HC.out.cell 0 rfl;have t1:=HC.out.cell 1 rfl;have t2:=HC.out.cell 2 rfl;have t3:=HC.out.cell 3 rfl;have t4:=HC.out.cell 4 rfl;have t5:=HC.out.cell 5 rfl;have t6:=HC.out.cell 6 rfl;go_wp2_with fail;refine(follow_any c.base _ c.cur a.pg _ _ (HLB.out.below hbz) HS.out.base ⟨_,_,by rw[HG1.out],HLT.out.below hbz,HLO.out.below hbz⟩ HSA.out.tree HSA.out.cos).mono ?_
       rintro e w1 ⟨u1,rfl,hl1,hb1⟩;have hb01:=below_tr hbz hb1;have HX1:=hid (HX.out.below hb1);have HY1:=hid (HY.out.below hb1);have s1:=hb1.size;clear p2 p3 t0 t1 t2 t3 t4 t5 t6;by_cases hf:Jn.folE c.base c.cur a.pg=0
       · have HF:=hid hf
         rw[hf];clear hf;obtain⟨T,hT⟩: ∃T,T=Jn.folR c.base c.cur a.pg:=⟨_,rfl⟩
         rw[←hT]at hl1;have HT:=hid hT;have HTG:=hid (show Pp.Good T from by rw[hT];exact Jn.fol_good HF.out);obtain⟨nn,hnn⟩: ∃nn,nn=Jn.folN c.base c.cur a.pg:=⟨_,rfl⟩
         rw[←hnn];have HNN:=hid hnn;clear hT hnn;have HL1:=hid hl1;obtain⟨ta,tc,rfl,_⟩:=hl1
         have p2:=HX1.out.cell 2 rfl;have p4:=HX1.out.cell 4 rfl;go_wp2_with fail;refine(merge_own c.base c.mine T _ _ _ _ (HLB.out.below hb01) (HLM.out.below hb01) HL1.out HS.out.base HS.out.mine (Pp.good_sized HTG.out)).mono ?_
         rintro e w2 ⟨ve,vk,rfl,hl2,hk2,⟨ho2,ho3⟩,hb2⟩;have hb02:=below_tr hb01 hb2;have HX2:=hid (HX1.out.below hb2);have HY2:=hid (HY1.out.below hb2);have HL2:=hid (HL1.out.below hb2);have s2:=hb2.size;clear p2 p4;by_cases hm:Mg.mE c.base c.mine T=0
         · have HOK:=hid (show r=0∧Cy.tnC c a=⟨c.who,c.fo,T,nn,Mg.mT c.base c.mine T,c.key,c.ask,c.keys⟩∧Cy.tnK c a=Mg.mC c.base c.mine T from by
            have h3:r=0:=by rw[HRR.out,if_neg (fun x=>x HF.out),←HT.out];exact hm
            have h4:Cy.tnE c a=0:=by rw[←HR.out];exact h3
            exact⟨h3,by rw[Cy.tnC,if_pos h4,HT.out,HNN.out],by rw[Cy.tnK,if_pos h4,HT.out]⟩)
           rw[hm];have h0r:=HOK.out.1;subst h0r;clear hm;obtain⟨X,hX⟩: ∃X,X=Mg.mT c.base c.mine T:=⟨_,rfl⟩
           rw[←hX]at hl2;obtain⟨C,hC⟩: ∃C,C=Mg.mC c.base c.mine T:=⟨_,rfl⟩
           rw[←hC]at hk2;have HXC:=hid (show X=Mg.mT c.base c.mine T∧C=Mg.mC c.base c.mine T from⟨hX,hC⟩);have HV2:=hid hl2;have HK2:=hid hk2;have HO3:=hid ho3;obtain⟨ea,ec,rfl,_⟩:=hl2
           obtain⟨ka,kc,rfl,_⟩:=hk2
           clear hX hC ho2 ho3;obtain⟨w3,hw3⟩: ∃w3,w3=((w2.setCell ⟨w.heap.size,2,none⟩ (.slice ta T.length tc)).setCell ⟨w.heap.size,4,none⟩ (.slice ea X.length ec)).setCell ⟨w.heap.size,3,none⟩ (.int .i64 nn):=⟨_,rfl⟩
           have g3:w2.grownBy w3 (some w.heap.size):=by rw[hw3];exact grown_on (grown_on (nb_set w2 w.heap.size 2 _) (nb_set _ w.heap.size 4 _)) (nb_set _ w.heap.size 3 _)
           have HX3:Hid (Cs w3 w.heap.size [.string c.who,.string c.fo,.slice ta T.length tc,.int .i64 nn,.slice ea X.length ec,.string c.key,.slice aa c.ask.length ca,.int .i64 c.keys]):=(by rw[hw3];exact((HX2.out.set 2 _).set 4 _).set 3 _:Cs w3 w.heap.size _)
           have HY3:=hid (HY2.out.nb g3 (by omega));have HL3:=hid (HL2.out.offbox HX2.out (fun z hz=>by simp at hz) g3);have HV3:=hid (HV2.out.offbox HX2.out (fun z hz=>by simp at hz) g3);have HK3:=hid (HK2.out.nbo g3 (fun b hb=>by have:=(HO3.out b hb).1;omega));have HP3:=hid (HO3.out.nb g3 (fun b hb=>by have:=(HO3.out b hb).1;omega));have hb3:Below w.heap.size w w3:=by rw[hw3];exact((hb02.setCell (p:=⟨w.heap.size,2,none⟩) (Nat.le_refl _) _).setCell (p:=⟨w.heap.size,4,none⟩) (Nat.le_refl _) _).setCell (p:=⟨w.heap.size,3,none⟩) (Nat.le_refl _) _
           have s3:=g3.size;have p2:=HX2.out.cell 2 rfl;have f2:=HX2.out.fr 2;have p3:=HX2.out.cell 3 rfl;have f3:=HX2.out.fr 3;have p4:=HX2.out.cell 4 rfl;have f4:=HX2.out.fr 4;go_upto_region 12 with fail;rw[←hw3];clear hw3 p2 p3 p4 f2 f3 f4;have p0:=HX3.out.cell 0 rfl;have p1:=HX3.out.cell 1 rfl;have p2:=HX3.out.cell 2 rfl;have p3:=HX3.out.cell 3 rfl;have p4:=HX3.out.cell 4 rfl;have p5:=HX3.out.cell 5 rfl;have p6:=HX3.out.cell 6 rfl;have p7:=HX3.out.cell 7 rfl;have y0:=HY3.out.cell 0 rfl;have g0:=HY3.out.fr 0;have y1:=HY3.out.cell 1 rfl;have g1:=HY3.out.fr 1;have y2:=HY3.out.cell 2 rfl;have g2:=HY3.out.fr 2;have y3:=HY3.out.cell 3 rfl;have g3:=HY3.out.fr 3;have y4:=HY3.out.cell 4 rfl;have g4:=HY3.out.fr 4;have y5:=HY3.out.cell 5 rfl;have g5:=HY3.out.fr 5;have y6:=HY3.out.cell 6 rfl;have g6:=HY3.out.fr 6;have y7:=HY3.out.cell 7 rfl;have g7:=HY3.out.fr 7;go_wp2_with fail;have gz:w3.grownBy _ (some (w.heap.size+1+1)):=(grown_on (grown_on (grown_on (grown_on (grown_on (grown_on (grown_on (nb_set w3 (w.heap.size+1+1) 0 (.string c.who)) (nb_set _ (w.heap.size+1+1) 1 (.string c.fo))) (nb_set _ (w.heap.size+1+1) 2 (.slice ta T.length tc))) (nb_set _ (w.heap.size+1+1) 3 (.int .i64 nn))) (nb_set _ (w.heap.size+1+1) 4 (.slice ea X.length ec))) (nb_set _ (w.heap.size+1+1) 5 (.string c.key))) (nb_set _ (w.heap.size+1+1) 6 (.slice aa c.ask.length ca))) (nb_set _ (w.heap.size+1+1) 7 (.int .i64 c.keys)))
           have hbl:=((((((((hb3.setCell (p:=⟨w.heap.size+1+1,0,none⟩) (by show _≤w.heap.size+1+1;omega) (.string c.who)).setCell (p:=⟨w.heap.size+1+1,1,none⟩) (by show _≤w.heap.size+1+1;omega) (.string c.fo)).setCell (p:=⟨w.heap.size+1+1,2,none⟩) (by show _≤w.heap.size+1+1;omega) (.slice ta T.length tc)).setCell (p:=⟨w.heap.size+1+1,3,none⟩) (by show _≤w.heap.size+1+1;omega) (.int .i64 nn)).setCell (p:=⟨w.heap.size+1+1,4,none⟩) (by show _≤w.heap.size+1+1;omega) (.slice ea X.length ec)).setCell (p:=⟨w.heap.size+1+1,5,none⟩) (by show _≤w.heap.size+1+1;omega) (.string c.key)).setCell (p:=⟨w.heap.size+1+1,6,none⟩) (by show _≤w.heap.size+1+1;omega) (.slice aa c.ask.length ca)).setCell (p:=⟨w.heap.size+1+1,7,none⟩) (by show _≤w.heap.size+1+1;omega) (.int .i64 c.keys))
           refine bodyPost_ret (v:= .tuple #[.agg #[.string c.who,.string c.fo,.slice ta T.length tc,.int .i64 nn,.slice ea X.length ec,.string c.key,.slice aa c.ask.length ca,.int .i64 c.keys],.slice ka C.length kc,.int .i64 0]) (by simp[results,Tryz.results11,go_sem,y0,y1,y2,y3,y4,y5,y6,y7]) rfl ⟨_,_,rfl,?_,?_,?_,hbl⟩
           · rw[HOK.out.2.1,←HXC.out.1]
             exact⟨_,_,_,rfl,HL3.out.offbox HY3.out (fun z hz=>by simp at hz) gz,HV3.out.offbox HY3.out (fun z hz=>by simp at hz) gz,HLC.out.below hbl⟩
           · rw[HOK.out.2.2,←HXC.out.2]
             exact HK3.out.nbo gz (fun b hb=>by have:=(HP3.out b hb).1;omega)
           · exact(HP3.out.nb gz (fun b hb=>by have:=(HP3.out b hb).1;omega)).mono (by omega)
         · have hrm:r=Mg.mE c.base c.mine T:=by rw[HRR.out,if_neg (fun x=>x HF.out),←HT.out]
           have HZ4:=hid (HZE.out (by rw[hrm];exact hm));have hmb:(r !=0)=true:=by rw[hrm];simpa using hm
           rw[←hrm];clear hrm hm hl2 hk2 ho2 ho3;have y0:=HY2.out.cell 0 rfl;have g0:=HY2.out.fr 0;have y1:=HY2.out.cell 1 rfl;have g1:=HY2.out.fr 1;have y2:=HY2.out.cell 2 rfl;have g2:=HY2.out.fr 2;have y3:=HY2.out.cell 3 rfl;have g3:=HY2.out.fr 3;have y4:=HY2.out.cell 4 rfl;have g4:=HY2.out.fr 4;have y5:=HY2.out.cell 5 rfl;have g5:=HY2.out.fr 5;have y6:=HY2.out.cell 6 rfl;have g6:=HY2.out.fr 6;have y7:=HY2.out.cell 7 rfl;have g7:=HY2.out.fr 7;go_wp2_with fail;refine bodyPost_ret (v:= .tuple #[.agg #[.string ⟨#[]⟩,.string ⟨#[]⟩,.slice none 0 0,.int .i64 0,.slice none 0 0,.string ⟨#[]⟩,.slice none 0 0,.int .i64 0],.slice none 0 0,.int .i64 r]) (by simp[results,Tryz.results11,go_sem,y0,y1,y2,y3,y4,y5,y6,y7]) rfl ⟨_,_,rfl,?_,?_,own_nil _ _,?_⟩
           · rw[(HZ4.out).2.1];exact(ownN_zero 0 _).lies
           · rw[(HZ4.out).2.2];exact LiesK.nil _
           · exact(bs8 (b:=w.heap.size+1+1) hb02 (by show _≤w.heap.size+1+1;omega))
       · have hrm:r=Jn.folE c.base c.cur a.pg:=by rw[HRR.out,if_pos hf]
         have HZ4:=hid (HZE.out (by rw[hrm];exact hf));have hmb:(r !=0)=true:=by rw[hrm];simpa using hf
         rw[←hrm];clear hrm hf hl1;have y0:=HY1.out.cell 0 rfl;have g0:=HY1.out.fr 0;have y1:=HY1.out.cell 1 rfl;have g1:=HY1.out.fr 1;have y2:=HY1.out.cell 2 rfl;have g2:=HY1.out.fr 2;have y3:=HY1.out.cell 3 rfl;have g3:=HY1.out.fr 3;have y4:=HY1.out.cell 4 rfl;have g4:=HY1.out.fr 4;have y5:=HY1.out.cell 5 rfl;have g5:=HY1.out.fr 5;have y6:=HY1.out.cell 6 rfl;have g6:=HY1.out.fr 6;have y7:=HY1.out.cell 7 rfl;have g7:=HY1.out.fr 7;go_wp2_with fail;refine bodyPost_ret (v:= .tuple #[.agg #[.string ⟨#[]⟩,.string ⟨#[]⟩,.slice none 0 0,.int .i64 0,.slice none 0 0,.string ⟨#[]⟩,.slice none 0 0,.int .i64 0],.slice none 0 0,.int .i64 r]) (by simp[results,Tryz.results11,go_sem,y0,y1,y2,y3,y4,y5,y6,y7]) rfl ⟨_,_,rfl,?_,?_,own_nil _ _,?_⟩
         · rw[(HZ4.out).2.1];exact(ownN_zero 0 _).lies
         · rw[(HZ4.out).2.2];exact LiesK.nil _
         · exact(bs8 (b:=w.heap.size+1+1) hb01 (by show _≤w.heap.size+1+1;omega))
 · have hre:r=a.err:=by rw[HR.out,Cy.tnE,if_pos he]
   have HZ4:=hid (HZE.out (by rw[hre];exact he));have heb:(a.err==0)=false:=by simpa using he
   have heb2:(a.err !=0)=true:=by simpa using he
   rw[hre];clear he hre;go_enter Tryz.func11,Tryz.ntmps11
   go_upto_region 1 with fail;rw[HWZ.out];clear HWZ;have t0:=HC.out.cell 0 rfl;have y0:=HY.out.cell 0 rfl;have g0:=HY.out.fr 0;have y1:=HY.out.cell 1 rfl;have g1:=HY.out.fr 1;have y2:=HY.out.cell 2 rfl;have g2:=HY.out.fr 2;have y3:=HY.out.cell 3 rfl;have g3:=HY.out.fr 3;have y4:=HY.out.cell 4 rfl;have g4:=HY.out.fr 4;have y5:=HY.out.cell 5 rfl;have g5:=HY.out.fr 5;have y6:=HY.out.cell 6 rfl;have g6:=HY.out.fr 6;have y7:=HY.out.cell 7 rfl;have g7:=HY.out.fr 7;go_upto_region 2 with fail;go_region_held3 (fun W=>W.cell? ⟨w.heap.size+1,0,none⟩=some (.int .i64 a.err)) (go_keep) (fail)
   all_goals
    go_wp2_with fail;refine bodyPost_ret (v:= .tuple #[.agg #[.string ⟨#[]⟩,.string ⟨#[]⟩,.slice none 0 0,.int .i64 0,.slice none 0 0,.string ⟨#[]⟩,.slice none 0 0,.int .i64 0],.slice none 0 0,.int .i64 a.err]) (by simp[results,Tryz.results11,go_sem,y0,y1,y2,y3,y4,y5,y6,y7]) rfl ⟨_,_,rfl,?_,?_,own_nil _ _,?_⟩
    · rw[HZ4.out.2.1];exact(ownN_zero 0 _).lies
    · rw[HZ4.out.2.2];exact LiesK.nil _
    · exact(bs8 (b:=w.heap.size+1+1) hbz (by show _≤w.heap.size+1+1;omega)).drew
end Go.Proofs.YtlllcifehellpaaGreatDoor
