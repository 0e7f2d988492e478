/- What journal.keep answers, for every journal. -/
import Derived.Test.YtppdfeehhnofaaaGreatDoorHAG
import Derived.Test.YtppdfeehhnofaaaGreatDoorHAE
import Derived.Test.YtppdfeehhnofaaaGreatDoorHAC
import Derived.Laws.OwnMore
import Derived.Test.YtppdfeehhnofaaaGreatDoorHAD
set_option linter.unusedSimpArgs false
set_option linter.unusedVariables false
namespace Go.Proofs.YtppdfeehhnofaaaGreatDoor
open Go.RowKit Go.Maps Go.WideMaps

/-- A keeper of a journal that passes Check. -/
def Keeps (w:World) (p:Value) (B:Nat) (v:Value) (J:Jo):Prop:= ∃b mb vb vc nn,p= .pointer (some ⟨b,0,none⟩)∧v= .agg #[vb,.int .i64 J.first,vc]∧B≤b∧B≤mb∧Kp w b mb vb J.first vc (Jn.tree J) nn (Jn.D J.cos)∧nn≤30
theorem Keeps.below {w w':World} {p:Value} {B:Nat} {v:Value} {J:Jo} (h:Keeps w p B v J) (hw:Below w.heap.size w w'):Keeps w' p B v J:=by
 obtain⟨b,mb,vb,vc,nn,h1,h2,h3,h4,h6,h7⟩:=h
 exact⟨b,mb,vb,vc,nn,h1,h2,h3,h4,h6.below hw,h7⟩
theorem nostr_slice {a:Option Addr} {n c:Nat} (s:ByteArray):Value.slice a n c≠ .string s:=fun h=>by cases h
namespace Jn
theorem co_zero {c:Co} {n:Int} (h:coE c n=0):c.nu=n∧n≤1000000∧Pp.keyB c.ke.data.toList=true∧0<c.ch.length:=by
 rcases co_cases c n with⟨_,hE⟩|⟨_,_,hE⟩|⟨_,_,_,hE⟩|⟨_,_,_,_,hE⟩|⟨h1,h2,h3,h4,_⟩
 · rw[hE]at h;cases h
 · rw[hE]at h;cases h
 · rw[hE]at h;cases h
 · rw[hE]at h;cases h
 · refine⟨h1,by omega,?_,h4⟩
   cases hb:Pp.keyB c.ke.data.toList with
   |true=>rfl
   |false=>rw[Pp.keyE_no hb]at h3;cases h3
theorem wf_num {n:Int} (h1: -9223372036854775808≤n) (h2:n≤9223372036854775807):(Lit.int .i64 n).wf=true:=by
 have e1:IntKind.i64.min= -9223372036854775808:=by decide
 have e2:IntKind.i64.max=9223372036854775807:=by decide
 simp only[Lit.wf,e1,e2,Bool.and_eq_true,decide_eq_true_eq];exact⟨h1,h2⟩
end Jn

theorem Tryz.makeNumbers (w:World):(Instr.makeMap 76 none).run Tryz.prog w= .ok (.map (some w.heap.size)) (w.alloc (.map #[] 0)):=by
 simp[Instr.makeMap,run_underlying Tryz.underlying76,Result.andThen]
set_option maxRecDepth 100000 in
set_option maxHeartbeats 4000000 in
theorem keep_any (J:Jo) (v:Value) (w:World) (hv:LiesJ w v J) (hs:Sized J.base) (hcs:SizedO 150000000000000 J.cos):
    Calls Tryz.prog 68 #[v] w fun e w'=> ∃p,e= .returned (.tuple #[p,.int .i64 (Jn.chkE J)])∧(Jn.chkE J=0→Keeps w' p w.heap.size v J)∧(¬Jn.chkE J=0→p= .pointer none)∧Below w.heap.size w w':=by
 obtain⟨vb,vc,rfl,hvb,hvc⟩:=hv
 have hmm:=Tryz.makeNumbers;have HVB:=hid hvb;have HVC:=hid hvc;have HS:=hid hs;have HCS:=hid hcs;obtain⟨cb,ccap,rfl,hccap,hccap2,hC⟩:=hvc
 obtain⟨ba,bcap,rfl,hbcap,hbcap2,_⟩:=hvb
 have HC:Hid (∀i (h:i<J.cos.length),∃b o,cb=some ⟨b,o,none⟩∧b<w.heap.size∧CoAt w b (o+i*3) J.cos[i]):=hC;clear hC hs hcs;obtain⟨wz,hwz⟩: ∃wz,wz=((w.alloc (.cells #[.slice ba J.base.length bcap,.int .i64 J.first,.slice cb J.cos.length ccap] 88)).alloc (.map #[] 0)).alloc (.cells #[.slice ba J.base.length bcap,.int .i64 J.first,.slice cb J.cos.length ccap,.slice ba J.base.length bcap,.map (some (w.heap.size+1))] 147):=⟨_,rfl⟩
 have hbz:Below w.heap.size w wz:=by rw[hwz];exact(((Below.refl _ _).alloc (Nat.le_refl _) _).alloc (by simp) _).alloc (by simp;omega) _
 have hsz:w.heap.size+1+1<wz.heap.size:=by rw[hwz];simp
 have HK0:=hid (show Kp wz (w.heap.size+1+1) (w.heap.size+1) (.slice ba J.base.length bcap) J.first (.slice cb J.cos.length ccap) J.base 0 (.map [])from by
  refine⟨.slice ba J.base.length bcap,?_,HVB.out.below hbz,?_,by omega⟩
  · have:=Cs.new ((w.alloc (.cells #[.slice ba J.base.length bcap,.int .i64 J.first,.slice cb J.cos.length ccap] 88)).alloc (.map #[] 0)) [.slice ba J.base.length bcap,.int .i64 J.first,.slice cb J.cos.length ccap,.slice ba J.base.length bcap,.map (some (w.heap.size+1))] 147
    rw[hwz];simpa using this
  · have:=(World.ownsMap_made (w.alloc (.cells #[.slice ba J.base.length bcap,.int .i64 J.first,.slice cb J.cos.length ccap] 88)) Tryz.prog 9 (plainElem (H:=Unit) Tryz.prog 3)).alloc (.cells #[.slice ba J.base.length bcap,.int .i64 J.first,.slice cb J.cos.length ccap,.slice ba J.base.length bcap,.map (some (w.heap.size+1))] 147)
    rw[hwz];simpa using this)
 by_cases ht:Pp.treeE J.base=0
 · have HT:=hid ht
   by_cases hf:Pp.verE J.first=0
   · have hf1:=Jn.ver_iff.1 hf
     by_cases hm:30<J.cos.length
     · have HE:=hid (Jn.chk_many ht hf hm)
       have hm':30<(J.cos.length:Int):=by omega
       obtain⟨f1,f2⟩:=hf1
       clear ht hf;go_enter Tryz.func68,Tryz.ntmps68
       go_wp2_with fail;rw[←hwz];clear hwz;refine(tcheck_all J.base _ _ (HVB.out.below hbz) HS.out).mono ?_
       rintro e w1 ⟨rfl,hb1⟩;rw[HT.out];obtain⟨vt1,HB1,_⟩:=HK0.out.below hb1
       have c1:=HB1.cell 1 rfl;have c2:=HB1.cell 2 rfl;clear HB1;go_wp2_with fail;go_ret2;exact⟨_,by rw[HE.out];rfl,(fun h=>by rw[HE.out]at h;exact absurd h (by decide)),fun _=>rfl,below_tr hbz hb1⟩
     · have hm': ¬30<(J.cos.length:Int):=by omega
       obtain⟨f1,f2⟩:=hf1
       have HG:=hid ((Pp.good_iff J.base).1 ht);have HRUN:=hid (show∀e T,Jn.runJ J.first J.base J.cos=(e,T)→ ¬e=0→Jn.chkE J=e from fun e T h he=>Jn.chk_run ht hf hm h he);have HTW:=hid (show∀T,Jn.runJ J.first J.base J.cos=(0,T)→ ¬Jn.Apart J.cos→Jn.chkE J=6 from fun T h ha=>Jn.chk_twice ht hf hm h ha);have HOK:=hid (show∀T,Jn.runJ J.first J.base J.cos=(0,T)→Jn.Apart J.cos→Jn.chkE J=0∧Jn.tree J=T from fun T h ha=>⟨Jn.chk_ok ht hf hm h ha,Jn.tree_of h⟩);clear ht hf;go_enter Tryz.func68,Tryz.ntmps68
       go_wp2_with fail;rw[←hwz];clear hwz;refine(tcheck_all J.base _ _ (HVB.out.below hbz) HS.out).mono ?_
       rintro e w1 ⟨rfl,hb1⟩;rw[HT.out];have HK1:=hid (HK0.out.below hb1);obtain⟨vt1,HB1,_⟩:=HK1.out
       have c1:=HB1.cell 1 rfl;have c2:=HB1.cell 2 rfl;clear HB1;have hb01:=below_tr hbz hb1;have hsz1:w.heap.size+1+1<w1.heap.size:=Nat.lt_of_lt_of_le hsz hb1.size;clear hb1;go_wp2_with fail;go_loopw [52] (fun i wr=> ∃k:Nat,k≤J.cos.length∧i= .int .i64 k∧Hid (Kp wr (w.heap.size+1+1) (w.heap.size+1) (.slice ba J.base.length bcap) J.first (.slice cb J.cos.length ccap) (Jn.trAt J k) k (Jn.D (J.cos.take k)))∧Hid (Jn.LeftJ J (Jn.trAt J k) k)∧Hid (Pp.Good (Jn.trAt J k))∧Below w.heap.size w wr∧w.heap.size+1+1<wr.heap.size) (fun i _=>J.cos.length-(intOf i).toNat)
       case atStart=>exact⟨0,Nat.zero_le _,rfl,by rw[Jn.trAt_zero,List.take_zero];exact HK1,by rw[Jn.trAt_zero];exact Jn.left_zero J,by rw[Jn.trAt_zero];exact HG,hb01,hsz1⟩
       case round=>
        obtain⟨k,hk,rfl,HK,HL,HGS,hbel,hszr⟩:=hrel
        clear hb01 hsz1 c1 c2;by_cases hlt:k<J.cos.length
        · obtain⟨b,o,rfl,hb,he⟩:=HC.out k hlt
          obtain⟨c0,c1,u,c2,hu⟩:=he.below hb hbel
          have HZ:=hid (HCS.out J.cos[k] (List.getElem_mem hlt));have HBAD:=hid (show¬Jn.coE J.cos[k] (J.first+k)=0→Jn.chkE J=Jn.coE J.cos[k] (J.first+k)from fun h0=>HRUN.out _ _ (Jn.left_bad HL.out hlt h0) h0);have HALL:=hid (show Jn.coE J.cos[k] (J.first+k)=0→ ¬Pp.allE (Jn.trAt J k) J.cos[k].ch J.cos[k].nu=0→Jn.chkE J=Pp.allE (Jn.trAt J k) J.cos[k].ch J.cos[k].nu from fun h0 h1=>HRUN.out _ _ (Jn.left_all HL.out hlt h0 h1) h1);have HNX:=hid (show Jn.coE J.cos[k] (J.first+k)=0→Pp.allE (Jn.trAt J k) J.cos[k].ch J.cos[k].nu=0→Jn.LeftJ J (Jn.trAt J (k+1)) (k+1)from fun h0 h1=>by rw[Jn.trAt_succ hlt];exact Jn.left_next HL.out hlt h0 h1);have HTR:Hid (Jn.trAt J (k+1)=Pp.allR (Jn.trAt J k) J.cos[k].ch J.cos[k].nu):=Jn.trAt_succ hlt;have HD:Hid (Jn.D (J.cos.take (k+1))=(Jn.D (J.cos.take k)).put (Jn.key J.cos[k].ke) (Jn.num J.cos[k].nu)):=Jn.D_take hlt;clear he;generalize J.cos[k]=ck at*;obtain⟨nu,ke,ch⟩:=ck
          simp only at c0 c1 c2 hu;have HKE:=hid (show ke.size≤maxLen from by have:ke.size≤150000000000000:=HZ.out.1;unfold maxLen;omega);have HU:=hid hu;obtain⟨ua,ucap,rfl,_,_,_⟩:=hu
          obtain⟨wy,hwy⟩: ∃wy,wy=wr.alloc (.cells #[.int .i64 nu,.string ke,.slice ua ch.length ucap] 132):=⟨_,rfl⟩
          have hby:Below wr.heap.size wr wy:=by rw[hwy];exact(Below.refl _ _).alloc (Nat.le_refl _) _
          have y0:wy.cell? ⟨wr.heap.size,0,none⟩=some (.int .i64 nu):=by rw[hwy];simp
          have y1:wy.cell? ⟨wr.heap.size,1,none⟩=some (.string ke):=by rw[hwy];simp
          have y2:wy.cell? ⟨wr.heap.size,2,none⟩=some (.slice ua ch.length ucap):=by rw[hwy];simp
          have hszy:wr.heap.size<wy.heap.size:=by rw[hwy];simp
          have HKY:=hid (HK.out.below hby);obtain⟨vt,hB,_⟩:=HKY.out
          have y3:=hB.cell 1 rfl;clear hB;have hwrap:IntKind.i64.wrap (J.first+(k:Int))=J.first+k:=by rw[IntKind.wrap_i64];omega
          go_wp2_with fail;rw[←hwy];clear hwy c0 c1 c2
          go_region_held3 (fun W=>W.cell? ⟨wr.heap.size,0,none⟩=some (.int .i64 nu)∧W.cell? ⟨wr.heap.size,1,none⟩=some (.string ke)∧W.cell? ⟨wr.heap.size,2,none⟩=some (.slice ua ch.length ucap)∧W.cell? ⟨w.heap.size+1+1,1,none⟩=some (.int .i64 J.first)) (go_keep) (first
           |(go_at_call 111;refine(checkCommit_any ⟨nu,ke,ch⟩ _ (J.first+k) _ (HU.out.below (below_tr hby (Below.refl _ _).drew)) HKE.out).mono ?_;rintro e wa ⟨rfl,hba⟩;have hya:Below wy.heap.size wy wa:=((Below.refl _ _).drew).trans hba;have j0:=(hya.cell (p:=⟨wr.heap.size,0,none⟩) hszy).trans y0;have j1:=(hya.cell (p:=⟨wr.heap.size,1,none⟩) hszy).trans y1;have j2:=(hya.cell (p:=⟨wr.heap.size,2,none⟩) hszy).trans y2;have j3:=(hya.cell (p:=⟨w.heap.size+1+1,1,none⟩) (Nat.lt_trans hszr hszy)).trans y3))
          have hbela:=below_tr hbel (below_tr hby hya);have HKA:=hid (HKY.out.below hya);have HUA:=hid (HU.out.below (below_tr hby hya));have hsza:=hya.size;by_cases h0:Jn.coE ⟨nu,ke,ch⟩ (J.first+k)=0
          · obtain⟨n1,n2,_,_⟩:=Jn.co_zero h0
            have hnu:(Lit.int .i64 nu).wf=true:=Jn.wf_num (by simp only at n1;omega) (by simp only at n1;omega);have HNW:=hid hnu;clear n1 n2 hnu;have HA:=hid (HALL.out h0);have HN:=hid (HNX.out h0);have HSZ:=hid (Pp.good_sized HGS.out);have HKM:=hid (show k<maxLen from by unfold maxLen;omega);have HI1:=hid (show w.heap.size≤w.heap.size+1+1 from by omega);have HI2:=hid (show w.heap.size≤w.heap.size+1 from by omega);rw[h0];clear h0 HBAD HALL HNX;go_wp2_with fail;refine(take_any ⟨nu,ke,ch⟩ (.slice ua ch.length ucap) (w.heap.size+1+1) (w.heap.size+1) k (.slice ba J.base.length bcap) (.slice (some ⟨b,o,none⟩) J.cos.length ccap) J.first (Jn.trAt J k) (Jn.D (J.cos.take k)) wa HUA.out HZ.out.2 HKE.out HNW.out HKA.out HSZ.out HKM.out nostr_slice nostr_slice).mono ?_
            rintro e w4 ⟨rfl,hn4,hK4⟩;have hb4:Below w.heap.size wa w4:=hn4.to (by omega) HI1.out HI2.out;clear hn4;have HK4:=hid hK4;have hbel4:=hbela.trans hb4;have hsz4:=hb4.size;clear hK4 hb4;by_cases h1:Pp.allE (Jn.trAt J k) ch nu=0
            · have HK5:=HK4.out h1
              simp only at HK5;rw[←HTR.out,←HD.out]at HK5;have HK6:=hid HK5;have HL6:=hid (HN.out h1);have HG6:=hid (show Pp.Good (Jn.trAt J (k+1))from by rw[HTR.out];exact Jn.all_good h1);rw[h1];clear h1 HK5 HK4 HA HN HTR HD;go_wp2_with fail;go_roundw
              case rel=>exact⟨k+1,by omega,by simp,HK6,HL6,HG6,hbel4,by omega⟩
              case measure=>simp[intOf];omega
            · have HE:=hid (HA.out h1)
              have H1:=hid h1;have hz:(Pp.allE (Jn.trAt J k) ch nu==0)=false:=by simpa using h1
              clear h1 HK4 HA HN HTR HD;go_wp2_with fail;go_ret2;exact⟨_,by rw[HE.out];rfl,fun h=>absurd (HE.out▸h) H1.out,fun _=>rfl,hbel4⟩
          · have HE:=hid (HBAD.out h0)
            have hz:(Jn.coE ⟨nu,ke,ch⟩ (J.first+k)==0)=false:=by simpa using h0
            have H0:=hid h0;clear h0 HBAD HALL HNX HTR HD;go_wp2_with fail;go_ret2;exact⟨_,by rw[HE.out];rfl,fun h=>absurd (HE.out▸h) H0.out,fun _=>rfl,hbela⟩
        · obtain rfl:k=J.cos.length:=by omega
          rw[List.take_length]at HK;have hr:=Jn.left_end HL.out;obtain⟨vt,hB,hLt,hM,hne⟩:=HK.out
          have c2:=hB.cell 2 rfl;have c4:=hB.cell 4 rfl;have hlen:=fun ty=>hM.drew.len Tryz.underlying76 ty
          have hds:=Jn.D_size J.cos;by_cases hap:Jn.Apart J.cos
          · have hsz:(Maps.size (Jn.D J.cos):Int)=J.cos.length:=by rw[hds.2.2 hap]
            obtain⟨hE,hT⟩:=HOK.out _ hr hap
            have HE:=hid hE;have HKK:=hid (show Keeps wr (.pointer (some ⟨w.heap.size+1+1,0,none⟩)) w.heap.size (.agg #[.slice ba J.base.length bcap,.int .i64 J.first,.slice cb J.cos.length ccap]) J from⟨w.heap.size+1+1,w.heap.size+1,_,_,J.cos.length,rfl,rfl,by omega,by omega,by rw[hT];exact HK.out,by omega⟩);clear hE hT hr hB hLt hM hds hap;go_wp2_with fail;go_region
            have HKD:=hid (HKK.out.below (Below.refl _ _).drew);have hbd:=below_tr hbel (Below.refl _ _).drew;go_wp2_with fail;go_ret2;exact⟨_,by rw[HE.out];rfl,fun _=>HKD.out,fun h=>absurd HE.out h,hbd⟩
          · have hsz:(Maps.size (Jn.D J.cos):Int)<J.cos.length:=by
             rcases Nat.lt_or_ge (Maps.size (Jn.D J.cos)) J.cos.length with h|h
             · omega
             · exact absurd (hds.2.1 (by omega)) hap
            have HE:=hid (HTW.out _ hr hap);clear hr hB hLt hM hds hap;have hbd:=below_tr hbel (Below.refl _ _).drew;go_wp2_with fail;go_region
            go_wp2_with fail;go_ret2;exact⟨_,by rw[HE.out];rfl,(fun h=>by rw[HE.out]at h;exact absurd h (by decide)),fun _=>rfl,hbd⟩
   · have HE:=hid (Jn.chk_first ht hf)
     have hf':J.first<1∨1000000<J.first:=by
      rcases Int.lt_or_le J.first 1 with h|h
      · exact Or.inl h
      · rcases Int.lt_or_le 1000000 J.first with h2|h2
        · exact Or.inr h2
        · exact absurd (Jn.ver_iff.2 ⟨h,h2⟩) hf
     clear ht hf;rcases hf' with hf'|hf'
     all_goals
      try (have hf2: ¬J.first<1:=by omega)
      go_enter Tryz.func68,Tryz.ntmps68
      go_wp2_with fail;rw[←hwz];clear hwz;refine(tcheck_all J.base _ _ (HVB.out.below hbz) HS.out).mono ?_
      rintro e w1 ⟨rfl,hb1⟩;rw[HT.out];obtain⟨vt1,HB1,_⟩:=HK0.out.below hb1
      have c1:=HB1.cell 1 rfl;clear HB1;go_wp2_with fail;go_ret2;exact⟨_,by rw[HE.out];rfl,(fun h=>by rw[HE.out]at h;exact absurd h (by decide)),fun _=>rfl,below_tr hbz hb1⟩
 · have hzz:(Pp.treeE J.base==0)=false:=by simpa using ht
   have HE:=hid (Jn.chk_tree ht);have HN:=hid ht;go_enter Tryz.func68,Tryz.ntmps68
   go_wp2_with fail;rw[←hwz];clear hwz;refine(tcheck_all J.base _ _ (HVB.out.below hbz) HS.out).mono ?_
   rintro e w1 ⟨rfl,hb1⟩;go_wp2_with fail;go_ret2;exact⟨_,by rw[HE.out];rfl,fun h=>absurd (HE.out▸h) HN.out,fun _=>rfl,below_tr hbz hb1⟩
end Go.Proofs.YtppdfeehhnofaaaGreatDoor
namespace Go.Proofs.YtppdfeehhnofaaaGreatDoor
open Go.RowKit

def NoStrV (w:World) (v:Value):Prop:= ∀g,v.ownBlock=some g→NoStr w g
theorem NoStr.keep {w w':World} {g:Nat} (h:NoStr w g) (hb:w'.heap[g]?=w.heap[g]?):NoStr w' g:=by
 intro o s;rw[World.cell?_of_block (w:=w) (a:=⟨g,o,none⟩) hb];exact h o s
theorem NoStrV.below {w w':World} {v:Value} (h:NoStrV w v) (hl: ∀g,v.ownBlock=some g→g<w.heap.size) (hw:Below w.heap.size w w'):NoStrV w' v:=fun g hg=>(h g hg).keep (hw.block g (hl g hg))
theorem Lies.row {w w':World} {x v:Value} {L:List En} (h:Lies w x L) (hg:w.grownBy w' v.ownBlock) (hn:NoStrV w v):Lies w' x L:=by
 cases hv:v.ownBlock with
 |none=>
  rw[hv]at hg;exact h.below ⟨hg.os,hg.tape,hg.output,hg.size,fun k hk=>hg.block k hk (by simp)⟩
 |some g=>
  rw[hv]at hg;exact h.nb hg (hn g hv)
/-- A slice whose elements have these cells, n each. -/
def LiesR (n:Nat) (w:World) (v:Value) (R:List (List Value)):Prop:= ∃a cap,v= .slice a R.length cap∧R.length≤cap∧R.length≤1000000000000000∧(∀r∈R,r.length=n∧ ∀u∈r,u.oneCell'=true)∧
 ∀i (h:i<R.length),∃b o,a=some ⟨b,o,none⟩∧b<w.heap.size∧ ∀c u,R[i][c]?=some u→w.cell? ⟨b,o+i*n+c,none⟩=some u
/-- The caller's own: in a block from B on, that may be written. -/
def Own (B:Nat) (w:World) (v:Value):Prop:= ∀g,v.ownBlock=some g→B≤g∧ ∃cur T,w.heap[g]?=some (.cells cur T (0,0))
theorem own_nil (B:Nat) (w:World):Own B w (.slice none 0 0):=fun g h=>by simp[Value.ownBlock]at h
theorem Own.lt {B:Nat} {w:World} {v:Value} (h:Own B w v): ∀g,v.ownBlock=some g→g<w.heap.size:=fun g hg=>by
 obtain⟨_,cur,T,hh⟩:=h g hg
 exact heap_lt hh
theorem Own.below {B:Nat} {w w':World} {v:Value} (h:Own B w v) (hw:Below w.heap.size w w'):Own B w' v:=fun g hg=>by
 obtain⟨h1,cur,T,hh⟩:=h g hg
 exact⟨h1,cur,T,(hw.block g (heap_lt hh)).trans hh⟩
theorem Own.mono {B B':Nat} {w:World} {v:Value} (h:Own B w v) (hB:B'≤B):Own B' w v:=fun g hg=>⟨Nat.le_trans hB (h g hg).1,(h g hg).2⟩
theorem own_row {w:World} {base:Nat} {e:TypeId} {size:Nat} {v:Value} {n:Nat} {xs:List Value} (h:w.ownsRow base e size v n xs):Own base w v:=by
 obtain⟨_,h2⟩:=h
 rcases h2 with⟨rfl,_⟩|⟨g,cap,cur,rfl,hg,hh,_⟩
 · exact own_nil _ _
 · intro g' hg'
   simp only[Value.ownBlock,Option.some.injEq]at hg';subst hg';exact⟨hg,cur,e,hh⟩
theorem LiesR.below {n:Nat} {w w':World} {v:Value} {R:List (List Value)} (h:LiesR n w v R) (hw:Below w.heap.size w w'):LiesR n w' v R:=by
 obtain⟨a,cap,hv,h1,h2,h4,h3⟩:=h
 refine⟨a,cap,hv,h1,h2,h4,fun i hi=>?_⟩
 obtain⟨b,o,ha,hb,he⟩:=h3 i hi
 exact⟨b,o,ha,Nat.lt_of_lt_of_le hb hw.size,fun c u hu=>(hw.cell (p:=⟨b,o+i*n+c,none⟩) hb).trans (he c u hu)⟩
theorem flatten_len {n:Nat}: ∀{R:List (List Value)},(∀r∈R,r.length=n)→R.flatten.length=R.length*n
 |[],_=>by simp
 |r::R,h=>by
  rw[List.flatten_cons,List.length_append,h r (by simp),flatten_len (fun x hx=>h x (by simp[hx])),List.length_cons,Nat.add_mul];omega
theorem flatten_at {n:Nat}: ∀{R:List (List Value)} (i c:Nat) (h:i<R.length),(∀r∈R,r.length=n)→c<n→R.flatten[i*n+c]?=R[i][c]?
 |[],i,c,h,_,_=>absurd h (Nat.not_lt_zero _)
 |r::R,0,c,_,hr,hc=>by
  rw[List.flatten_cons,Nat.zero_mul,Nat.zero_add,List.getElem?_append_left (by rw[hr r (by simp)];exact hc)];rfl
 |r::R,i+1,c,h,hr,hc=>by
  have hl:=hr r (by simp);rw[List.flatten_cons,List.getElem?_append_right (by rw[hl,Nat.add_mul];omega),hl];have e:(i+1)*n+c-n=i*n+c:=by rw[Nat.add_mul];omega
  rw[e,flatten_at i c (by simpa using h) (fun x hx=>hr x (by simp[hx])) hc];rfl
theorem liesR_cells {n:Nat} (hn:0<n) {w:World} {b o:Nat} {R:List (List Value)} (hr: ∀r∈R,r.length=n) (h: ∀i (h:i<R.length),∀c u,R[i][c]?=some u→w.cell? ⟨b,o+i*n+c,none⟩=some u): ∀j u,R.flatten[j]?=some u→w.cell? ((⟨b,o,none⟩:Addr).add j)=some u:=by
 intro j u hj
 have hjl:j<R.length*n:=by
  have:=(List.getElem?_eq_some_iff.1 hj).1
  rw[flatten_len hr]at this;exact this
 have h1:j/n<R.length:=(Nat.div_lt_iff_lt_mul hn).2 hjl;have h2:j/n*n+j % n=j:=Nat.div_add_mod' j n;have h3:=flatten_at (j/n) (j % n) h1 hr (Nat.mod_lt _ hn);rw[h2,hj]at h3;have h4:=h _ h1 _ u h3.symm;rw[Addr.add_lit];rw[Nat.add_assoc,h2]at h4;exact h4
theorem liesR_own {n:Nat} {w:World} {base:Nat} {T:TypeId} {v:Value} {R:List (List Value)} (h:w.ownsRow base T n v R.length R.flatten) (hn:R.length≤1000000000000000) (hr: ∀r∈R,r.length=n∧ ∀u∈r,u.oneCell'=true):LiesR n w v R:=by
 have h':=h;obtain⟨_,h2⟩:=h
 rcases h2 with⟨rfl,hz⟩|⟨g,cap,cur,rfl,hg,hh,hc,hm,hz,htake⟩
 · have:R=[]:=List.length_eq_zero_iff.1 hz
   subst this;exact⟨none,0,rfl,Nat.le_refl _,by simp,by simp,fun i hi=>absurd hi (by simp)⟩
 · refine⟨some ⟨g,0,none⟩,cap,rfl,hc,hn,hr,fun i hi=>⟨g,0,rfl,heap_lt hh,fun c u hu=>?_⟩⟩
   have hc':c<n:=by
    have:=(List.getElem?_eq_some_iff.1 hu).1
    rw[(hr _ (List.getElem_mem hi)).1]at this;exact this
   have hlt:i*n+c<R.length*n:=by
    have h5:(i+1)*n≤R.length*n:=Nat.mul_le_mul_right n hi;rw[Nat.add_mul]at h5;omega
   rw[Nat.zero_add,h'.cellAt (i*n+c) hlt,flatten_at i c hi (fun r hr'=>(hr r hr').1) hc'];exact hu
theorem flatten_one {n:Nat} {R:List (List Value)} (hr: ∀r∈R,r.length=n∧ ∀u∈r,u.oneCell'=true): ∀u∈R.flatten,u.oneCell'=true:=by
 intro u hu;obtain⟨r,h1,h2⟩:=List.mem_flatten.1 hu
 exact(hr r h1).2 u h2
namespace Pp
def chC (c:Ch):List Value:=[.int .i64 c.k,.string c.p,.string c.q,.string c.t,.int .i64 c.b]
end Pp
theorem liesR_en {w:World} {v:Value} {L:List En}:Lies w v L↔LiesR 4 w v (L.map Pp.cells):=by
 constructor
 · rintro ⟨a,cap,hv,h1,h2,h3⟩
   refine⟨a,cap,by simpa using hv,by simpa using h1,by simpa using h2,?_,fun i hi=>?_⟩
   · intro r hr
     obtain⟨e,_,rfl⟩:=List.mem_map.1 hr
     exact⟨rfl,Pp.cells_one e⟩
   · obtain⟨b,o,ha,hb,he⟩:=h3 i (by simpa using hi)
     refine⟨b,o,ha,hb,fun c u hu=>?_⟩
     rw[List.getElem_map]at hu;obtain⟨e0,e1,e2,e3⟩:=he
     match c,hu with
     |0,hu=>simp[Pp.cells]at hu;subst hu;exact e0
     |1,hu=>simp[Pp.cells]at hu;subst hu;exact e1
     |2,hu=>simp[Pp.cells]at hu;subst hu;exact e2
     |3,hu=>simp[Pp.cells]at hu;subst hu;exact e3
     |c+4,hu=>simp[Pp.cells]at hu
 · rintro ⟨a,cap,hv,h1,h2,_,h3⟩
   refine⟨a,cap,by simpa using hv,by simpa using h1,by simpa using h2,fun i hi=>?_⟩
   obtain⟨b,o,ha,hb,he⟩:=h3 i (by simpa using hi)
   rw[List.getElem_map]at he;exact⟨b,o,ha,hb,he 0 _ rfl,he 1 _ rfl,he 2 _ rfl,he 3 _ rfl⟩
theorem liesR_ch {w:World} {v:Value} {L:List Pp.Ch}:LiesC w v L↔LiesR 5 w v (L.map Pp.chC):=by
 constructor
 · rintro ⟨a,cap,hv,h1,h2,h3⟩
   refine⟨a,cap,by simpa using hv,by simpa using h1,by simpa using h2,?_,fun i hi=>?_⟩
   · intro r hr
     obtain⟨e,_,rfl⟩:=List.mem_map.1 hr
     refine⟨rfl,fun u hu=>?_⟩
     simp only[Pp.chC,List.mem_cons,List.not_mem_nil,or_false]at hu;rcases hu with rfl|rfl|rfl|rfl|rfl<;>rfl
   · obtain⟨b,o,ha,hb,he⟩:=h3 i (by simpa using hi)
     refine⟨b,o,ha,hb,fun c u hu=>?_⟩
     rw[List.getElem_map]at hu;obtain⟨e0,e1,e2,e3,e4⟩:=he
     match c,hu with
     |0,hu=>simp[Pp.chC]at hu;subst hu;exact e0
     |1,hu=>simp[Pp.chC]at hu;subst hu;exact e1
     |2,hu=>simp[Pp.chC]at hu;subst hu;exact e2
     |3,hu=>simp[Pp.chC]at hu;subst hu;exact e3
     |4,hu=>simp[Pp.chC]at hu;subst hu;exact e4
     |c+5,hu=>simp[Pp.chC]at hu
 · rintro ⟨a,cap,hv,h1,h2,_,h3⟩
   refine⟨a,cap,by simpa using hv,by simpa using h1,by simpa using h2,fun i hi=>?_⟩
   obtain⟨b,o,ha,hb,he⟩:=h3 i (by simpa using hi)
   rw[List.getElem_map]at he;exact⟨b,o,ha,hb,he 0 _ rfl,he 1 _ rfl,he 2 _ rfl,he 3 _ rfl,he 4 _ rfl⟩
theorem Tryz.infoRE:(Tryz.prog.info? 128).map (fun i=>(i.zero,i.size,i.bytes))=some (some (.agg #[.string ⟨#[]⟩,.bool false,.string ⟨#[]⟩,.int .i64 0]),4,48):=by kernel_rfl
set_option maxHeartbeats 1000000 in
theorem cloneE (R:List (List Value)) (v:Value) (w:World) (hv:LiesR 4 w v R) (hn:R.length≤1000000000000):
    Calls Tryz.prog 69 #[v] w fun e w'=> ∃u,e= .returned u∧LiesR 4 w' u R∧Own w.heap.size w' u∧Below w.heap.size w w':=by
 obtain⟨i0,hi0,hz0,hz1,hz2⟩:=info_parts Tryz.infoRE
 obtain⟨a,cap,rfl,hcap,hcap2,hR,hLL⟩:=hv
 have HR:=hid hR;have q22: ∀(w:World) (a:Option Addr) (n c n' c':Nat),(binOp .eql 38 (.slice a n c) (.slice none n' c')).run Tryz.prog w= .ok (.bool a.isNone) w:=fun w a n c n' c'=>Lib.run_eql_slice_nil w _ _ a n c n' c' Tryz.underlying38
 cases a with
 |none=>
  have hL:R=[]:=by
   cases R with
   |nil=>rfl
   |cons s r=>obtain⟨b,o,hb,_⟩:=hLL 0 (by simp);cases hb
  subst hL;clear hR;go_enter Tryz.func69,Tryz.ntmps69
  go_wp2;go_ret;exact⟨_,rfl,⟨none,0,rfl,Nat.le_refl _,by simp,HR.out,fun i h=>absurd h (by simp)⟩,own_nil _ _,Below.refl _ _⟩
 |some ad=>
  have hcells: ∀j u,R.flatten[j]?=some u→w.cell? (ad.add j)=some u:=by
   cases R with
   |nil=>intro j u hj;simp at hj
   |cons s r=>
    obtain⟨b,o,hb,_⟩:=hLL 0 (by simp)
    injection hb with hb
    subst hb
    exact liesR_cells (by decide) (fun r hr=>(hR r hr).1) fun i hi=>by
     obtain⟨b',o',hb',_,he⟩:=hLL i hi
     injection hb' with hb'
     injection hb' with h1 h2
     subst h1;subst h2;exact he
  have HC:=hid hcells;have HFL:=hid (flatten_len (fun r hr=>(hR r hr).1):R.flatten.length=R.length*4);clear hcells hLL hR;go_enter Tryz.func69,Tryz.ntmps69
  go_wp2_with (at_builtin;refine wpList_append_own _ rfl _ _ 38 rfl w.heap.size 128 i0 (.agg #[.string ⟨#[]⟩,.bool false,.string ⟨#[]⟩,.int .i64 0]) 4 48 Tryz.underlying38 hi0 hz0 hz1 hz2 rfl (by decide) _ _ _ rfl (World.ownsRow_made w #[] 0 (Nat.le_refl _) (Nat.zero_le _) (by simp)) ad R.length cap R.flatten rfl ?qc1 ?qc2 ?qc3 ?qc4 ?qc5 ?qc6 ?_)
  case qc1=>exact HFL.out
  case qc2=>intro j u hj;exact Lib.cell?_alloc_some _ (HC.out j u hj)
  case qc3=>exact flatten_one HR.out
  case qc4=>unfold maxLen;omega
  case qc5=>omega
  case qc6=>simp
  intro v2 w2 ho2 hgr2 hnn2;have hbel2:Below w.heap.size w w2:=((Below.refl _ _).alloc (Nat.le_refl _) _).grown hgr2 (by simp) (fun k hk=>by simp[Value.ownBlock]at hk;omega);have ho3:w2.ownsRow w.heap.size 128 4 v2 R.length R.flatten:=by simpa using ho2
  have HCL:=hid (liesR_own ho3 (by omega) HR.out);have HOW:=hid (own_row ho3);obtain⟨a2,cap2,hv2,_,_,_⟩:=HCL.out
  clear ho2 ho3 hgr2 hnn2;go_wp2_with fail;go_ret;exact⟨_,rfl,HCL.out,HOW.out,hbel2⟩
theorem Tryz.infoRC:(Tryz.prog.info? 54).map (fun i=>(i.zero,i.size,i.bytes))=some (some (.agg #[.int .i64 0,.string ⟨#[]⟩,.string ⟨#[]⟩,.string ⟨#[]⟩,.int .i64 0]),5,64):=by kernel_rfl
set_option maxHeartbeats 1000000 in
theorem cloneC (R:List (List Value)) (v:Value) (w:World) (hv:LiesR 5 w v R) (hn:R.length≤1000000000000):
    Calls Tryz.prog 158 #[v] w fun e w'=> ∃u,e= .returned u∧LiesR 5 w' u R∧Own w.heap.size w' u∧Below w.heap.size w w':=by
 obtain⟨i0,hi0,hz0,hz1,hz2⟩:=info_parts Tryz.infoRC
 obtain⟨a,cap,rfl,hcap,hcap2,hR,hLL⟩:=hv
 have HR:=hid hR;have q22: ∀(w:World) (a:Option Addr) (n c n' c':Nat),(binOp .eql 29 (.slice a n c) (.slice none n' c')).run Tryz.prog w= .ok (.bool a.isNone) w:=fun w a n c n' c'=>Lib.run_eql_slice_nil w _ _ a n c n' c' Tryz.underlying29
 cases a with
 |none=>
  have hL:R=[]:=by
   cases R with
   |nil=>rfl
   |cons s r=>obtain⟨b,o,hb,_⟩:=hLL 0 (by simp);cases hb
  subst hL;clear hR;go_enter Tryz.func158,Tryz.ntmps158
  go_wp2;go_ret;exact⟨_,rfl,⟨none,0,rfl,Nat.le_refl _,by simp,HR.out,fun i h=>absurd h (by simp)⟩,own_nil _ _,Below.refl _ _⟩
 |some ad=>
  have hcells: ∀j u,R.flatten[j]?=some u→w.cell? (ad.add j)=some u:=by
   cases R with
   |nil=>intro j u hj;simp at hj
   |cons s r=>
    obtain⟨b,o,hb,_⟩:=hLL 0 (by simp)
    injection hb with hb
    subst hb
    exact liesR_cells (by decide) (fun r hr=>(hR r hr).1) fun i hi=>by
     obtain⟨b',o',hb',_,he⟩:=hLL i hi
     injection hb' with hb'
     injection hb' with h1 h2
     subst h1;subst h2;exact he
  have HC:=hid hcells;have HFL:=hid (flatten_len (fun r hr=>(hR r hr).1):R.flatten.length=R.length*5);clear hcells hLL hR;go_enter Tryz.func158,Tryz.ntmps158
  go_wp2_with (at_builtin;refine wpList_append_own _ rfl _ _ 29 rfl w.heap.size 54 i0 (.agg #[.int .i64 0,.string ⟨#[]⟩,.string ⟨#[]⟩,.string ⟨#[]⟩,.int .i64 0]) 5 64 Tryz.underlying29 hi0 hz0 hz1 hz2 rfl (by decide) _ _ _ rfl (World.ownsRow_made w #[] 0 (Nat.le_refl _) (Nat.zero_le _) (by simp)) ad R.length cap R.flatten rfl ?qc1 ?qc2 ?qc3 ?qc4 ?qc5 ?qc6 ?_)
  case qc1=>exact HFL.out
  case qc2=>intro j u hj;exact Lib.cell?_alloc_some _ (HC.out j u hj)
  case qc3=>exact flatten_one HR.out
  case qc4=>unfold maxLen;omega
  case qc5=>omega
  case qc6=>simp
  intro v2 w2 ho2 hgr2 hnn2;have hbel2:Below w.heap.size w w2:=((Below.refl _ _).alloc (Nat.le_refl _) _).grown hgr2 (by simp) (fun k hk=>by simp[Value.ownBlock]at hk;omega);have ho3:w2.ownsRow w.heap.size 54 5 v2 R.length R.flatten:=by simpa using ho2
  have HCL:=hid (liesR_own ho3 (by omega) HR.out);have HOW:=hid (own_row ho3);obtain⟨a2,cap2,hv2,_,_,_⟩:=HCL.out
  clear ho2 ho3 hgr2 hnn2;go_wp2_with fail;go_ret;exact⟨_,rfl,HCL.out,HOW.out,hbel2⟩
theorem LiesC.nbo {W W':World} {v:Value} {L:List Pp.Ch} {g:Nat} (h:LiesC W v L) (hw:W.grownBy W' (some g)) (hn: ∀b,v.ownBlock=some b→b≠g):LiesC W' v L:=by
 obtain⟨a,cap,rfl,h1,h2,h3⟩:=h
 refine⟨a,cap,rfl,h1,h2,fun i hi=>?_⟩
 obtain⟨b,o,rfl,hb,he⟩:=h3 i hi
 have c:=cell_nb hw hb (hn b rfl);exact⟨b,o,rfl,Nat.lt_of_lt_of_le hb hw.size,(c _).trans he.1,(c _).trans he.2.1,(c _).trans he.2.2.1,(c _).trans he.2.2.2.1,(c _).trans he.2.2.2.2⟩
theorem Own.nb {B:Nat} {w w':World} {v:Value} {g:Nat} (h:Own B w v) (hw:w.grownBy w' (some g)) (hn: ∀b,v.ownBlock=some b→b≠g):Own B w' v:=fun b hb=>by
 obtain⟨h1,cur,T,hh⟩:=h b hb
 exact⟨h1,cur,T,(hw.block b (heap_lt hh) (fun e=>hn b hb (by injection e))).trans hh⟩
theorem Own.setCell {B:Nat} {w:World} {v:Value} (h:Own B w v) (b o:Nat) (u:Value):Own B (w.setCell ⟨b,o,none⟩ u) v:=fun g hg=>by
 obtain⟨h1,cur,T,hh⟩:=h g hg
 by_cases hb:b=g
 · subst hb
   refine⟨h1,cur.setIfInBounds o u,T,?_⟩
   unfold World.setCell;simp only[Array.getElem?_modify,hh,if_true,Option.map_some];rfl
 · exact⟨h1,cur,T,((nb_set w b o u).block g (heap_lt hh) (fun e=>hb (by injection e with e;exact e.symm))).trans hh⟩
theorem Lies.nbo {W W':World} {v:Value} {L:List En} {g:Nat} (h:Lies W v L) (hw:W.grownBy W' (some g)) (hn: ∀b,v.ownBlock=some b→b≠g):Lies W' v L:=by
 obtain⟨a,cap,rfl,h1,h2,h3⟩:=h
 refine⟨a,cap,rfl,h1,h2,fun i hi=>?_⟩
 obtain⟨b,o,rfl,hb,he⟩:=h3 i hi
 have c:=cell_nb hw hb (hn b rfl);exact⟨b,o,rfl,Nat.lt_of_lt_of_le hb hw.size,(c _).trans he.1,(c _).trans he.2.1,(c _).trans he.2.2.1,(c _).trans he.2.2.2⟩
theorem LiesR.nbo {n:Nat} {W W':World} {v:Value} {R:List (List Value)} {g:Nat} (h:LiesR n W v R) (hw:W.grownBy W' (some g)) (hn: ∀b,v.ownBlock=some b→b≠g):LiesR n W' v R:=by
 obtain⟨a,cap,rfl,h1,h2,h4,h3⟩:=h
 refine⟨a,cap,rfl,h1,h2,h4,fun i hi=>?_⟩
 obtain⟨b,o,rfl,hb,he⟩:=h3 i hi
 have c:=cell_nb hw hb (hn b rfl);exact⟨b,o,rfl,Nat.lt_of_lt_of_le hb hw.size,fun d u hu=>(c _).trans (he d u hu)⟩
theorem grown_on {a b c:World} {g:Nat} (h:a.grownBy b (some g)) (k:b.grownBy c (some g)):a.grownBy c (some g):=⟨k.os.trans h.os,k.tape.trans h.tape,k.output.trans h.output,Nat.le_trans h.size k.size,fun x hx hn=>(k.block x (Nat.lt_of_lt_of_le hx h.size) hn).trans (h.block x hx hn)⟩
end Go.Proofs.YtppdfeehhnofaaaGreatDoor
namespace Go.Proofs.YtppdfeehhnofaaaGreatDoor
open Go.RowKit

theorem Tryz.infoRO:(Tryz.prog.info? 132).map (fun i=>(i.zero,i.size,i.bytes))=some (some (.agg #[.int .i64 0,.string ⟨#[]⟩,.slice none 0 0]),3,48):=by kernel_rfl
set_option maxHeartbeats 1000000 in
theorem cloneO (R:List (List Value)) (v:Value) (w:World) (hv:LiesR 3 w v R) (hn:R.length≤1000000000000):
    Calls Tryz.prog 157 #[v] w fun e w'=> ∃u,e= .returned u∧LiesR 3 w' u R∧Own w.heap.size w' u∧Below w.heap.size w w':=by
 obtain⟨i0,hi0,hz0,hz1,hz2⟩:=info_parts Tryz.infoRO
 obtain⟨a,cap,rfl,hcap,hcap2,hR,hLL⟩:=hv
 have HR:=hid hR;have q22: ∀(w:World) (a:Option Addr) (n c n' c':Nat),(binOp .eql 39 (.slice a n c) (.slice none n' c')).run Tryz.prog w= .ok (.bool a.isNone) w:=fun w a n c n' c'=>Lib.run_eql_slice_nil w _ _ a n c n' c' Tryz.underlying39
 cases a with
 |none=>
  have hL:R=[]:=by
   cases R with
   |nil=>rfl
   |cons s r=>obtain⟨b,o,hb,_⟩:=hLL 0 (by simp);cases hb
  subst hL;clear hR;go_enter Tryz.func157,Tryz.ntmps157
  go_wp2;go_ret;exact⟨_,rfl,⟨none,0,rfl,Nat.le_refl _,by simp,HR.out,fun i h=>absurd h (by simp)⟩,own_nil _ _,Below.refl _ _⟩
 |some ad=>
  have hcells: ∀j u,R.flatten[j]?=some u→w.cell? (ad.add j)=some u:=by
   cases R with
   |nil=>intro j u hj;simp at hj
   |cons s r=>
    obtain⟨b,o,hb,_⟩:=hLL 0 (by simp)
    injection hb with hb
    subst hb
    exact liesR_cells (by decide) (fun r hr=>(hR r hr).1) fun i hi=>by
     obtain⟨b',o',hb',_,he⟩:=hLL i hi
     injection hb' with hb'
     injection hb' with h1 h2
     subst h1;subst h2;exact he
  have HC:=hid hcells;have HFL:=hid (flatten_len (fun r hr=>(hR r hr).1):R.flatten.length=R.length*3);clear hcells hLL hR;go_enter Tryz.func157,Tryz.ntmps157
  go_wp2_with (at_builtin;refine wpList_append_own _ rfl _ _ 39 rfl w.heap.size 132 i0 (.agg #[.int .i64 0,.string ⟨#[]⟩,.slice none 0 0]) 3 48 Tryz.underlying39 hi0 hz0 hz1 hz2 rfl (by decide) _ _ _ rfl (World.ownsRow_made w #[] 0 (Nat.le_refl _) (Nat.zero_le _) (by simp)) ad R.length cap R.flatten rfl ?qc1 ?qc2 ?qc3 ?qc4 ?qc5 ?qc6 ?_)
  case qc1=>exact HFL.out
  case qc2=>intro j u hj;exact Lib.cell?_alloc_some _ (HC.out j u hj)
  case qc3=>exact flatten_one HR.out
  case qc4=>unfold maxLen;omega
  case qc5=>omega
  case qc6=>simp
  intro v2 w2 ho2 hgr2 hnn2;have hbel2:Below w.heap.size w w2:=((Below.refl _ _).alloc (Nat.le_refl _) _).grown hgr2 (by simp) (fun k hk=>by simp[Value.ownBlock]at hk;omega);have ho3:w2.ownsRow w.heap.size 132 3 v2 R.length R.flatten:=by simpa using ho2
  have HCL:=hid (liesR_own ho3 (by omega) HR.out);have HOW:=hid (own_row ho3);obtain⟨a2,cap2,hv2,_,_,_⟩:=HCL.out
  clear ho2 ho3 hgr2 hnn2;go_wp2_with fail;go_ret;exact⟨_,rfl,HCL.out,HOW.out,hbel2⟩
end Go.Proofs.YtppdfeehhnofaaaGreatDoor
