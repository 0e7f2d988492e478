/- What the reference's CommitOf answers, for every journal that passes Check. -/
import Derived.Test.YtdifomkoegmngaaGreatDoorRKP
import Derived.Test.YtdifomkoegmngaaGreatDoorRKN
set_option linter.unusedSimpArgs false
set_option linter.unusedVariables false
namespace Go.Proofs.YtdifomkoegmngaaGreatDoor
open Go.RowKit

theorem liesJ_zero (w:World):LiesJ w (.agg #[.slice none 0 0,.int .i64 0,.slice none 0 0]) Jn.zeroJ:=⟨_,_,rfl,lies_nil _,liesO_nil _⟩
namespace Jn
/-- None of the first k commits bears a key. -/
def noK (l:List Co) (p:List UInt8) (k:Nat):Prop:= ∀x∈l.take k,¬x.ke.data.toList=p
theorem noK_zero (l:List Co) (p:List UInt8):noK l p 0:=fun x hx=>by simp at hx
theorem noK_succ {l:List Co} {p:List UInt8} {k:Nat} (h:noK l p k) (hk:k<l.length) (hne: ¬l[k].ke.data.toList=p):noK l p (k+1):=by
 intro x hx;rw[List.take_succ_eq_append_getElem hk,List.mem_append,List.mem_singleton]at hx;rcases hx with hx|rfl
 · exact h x hx
 · exact hne
theorem noK_found {l:List Co} {p:List UInt8} {k:Nat} (h:noK l p k) (hk:k<l.length) (he:l[k].ke.data.toList=p):hasB l p=true∧numOf l p=l[k].nu:=by
 have hf:l.find? (fun c=>c.ke.data.toList==p)=some l[k]:=by
  have e:l=l.take k++l[k]::l.drop (k+1):=by rw[←List.drop_eq_getElem_cons hk,List.take_append_drop]
  have h1:(l.take k).find? (fun c=>c.ke.data.toList==p)=none:=by
   rw[List.find?_eq_none];intro x hx hh;exact h x hx (by simpa using hh)
  have h2:(l.take k++l[k]::l.drop (k+1)).find? (fun c=>c.ke.data.toList==p)=some l[k]:=by
   rw[List.find?_append,h1,List.find?_cons,he];simp
  rwa [←e]at h2
 refine⟨?_,by rw[numOf,hf]⟩
 rw[hasB,List.any_eq_true];exact⟨l[k],List.getElem_mem hk,by simp[he]⟩
theorem noK_end {l:List Co} {p:List UInt8} (h:noK l p l.length):hasB l p=false:=by
 rw[hasB,List.any_eq_false];intro x hx hh;exact h x (by rw[List.take_length];exact hx) (by simpa using hh)
theorem new_nil {J:Jo}:newE J []=1:=by rw[newE,if_pos rfl]
theorem new_range {J:Jo} {l:List Pp.Ch} (h: ¬l=[]) (h1:1000000<last J+1):newE J l=3:=by rw[newE,if_neg h,if_pos h1]
theorem new_all {J:Jo} {l:List Pp.Ch} (h: ¬l=[]) (h1: ¬1000000<last J+1):newE J l=Pp.allE (tree J) l (last J+1):=by rw[newE,if_neg h,if_neg h1]
end Jn

set_option maxRecDepth 100000 in
set_option maxHeartbeats 16000000 in
theorem commitOf_any (J:Jo) (v:Value) (key:ByteArray) (l:List Pp.Ch) (u:Value) (w:World) (hv:LiesJ w v J) (hu:LiesC w u l) (hp: ∀e∈J.base,e.path.size≤1000000000) (hcs:SizedO 1000000000 J.cos) (hls:SizedC 1000000000 l) (hke:key.size≤maxLen) (h0:Jn.chkE J=0):
    Calls Tryz.prog 14 #[v,.string key,u] w fun e w'=> ∃r,e= .returned (.tuple #[r,.int .i64 (Jn.comN J key l),.int .i64 (Jn.comE J key l)])∧LiesJ w' r (Jn.comR J key l)∧Below w.heap.size w w':=by
 have HV:=hid hv;have HU:=hid hu;have HP:=hid hp;have HCS:=hid hcs;have HLS:=hid hls;obtain⟨i0,hi0,hz0,hz1,hz2⟩:=info_parts Tryz.infoCo
 obtain⟨vb,vc,rfl,hvb,hvc⟩:=hv
 have HVB:=hid hvb;have HVC:=hid hvc;obtain⟨ba,bcap,rfl,_⟩:=hvb
 obtain⟨ca,ccap,rfl,hccap,hccap2,hC⟩:=hvc
 have HC:Hid (∀i (h:i<J.cos.length),∃b o,ca=some ⟨b,o,none⟩∧b<w.heap.size∧CoAt w b (o+i*3) J.cos[i]):=hC;obtain⟨ua,ucap,rfl,hucap,hucap2,_⟩:=hu
 clear hp hcs hls hC;obtain⟨wz,hwz⟩: ∃wz,wz=(w.alloc (.cells #[.slice ba J.base.length bcap,.int .i64 J.first,.slice ca J.cos.length ccap] 25)).alloc (.cells #[.slice none 0 0,.int .i64 0,.slice none 0 0] 25):=⟨_,rfl⟩
 have hbz:Below w.heap.size w wz:=by rw[hwz];exact((Below.refl _ _).alloc (Nat.le_refl _) _).alloc (by simp) _
 have HBX:=hid (show Cs wz w.heap.size [.slice ba J.base.length bcap,.int .i64 J.first,.slice ca J.cos.length ccap]from by rw[hwz];exact(Cs.new w [.slice ba J.base.length bcap,.int .i64 J.first,.slice ca J.cos.length ccap] _).below ((Below.refl _ _).alloc (Nat.le_refl _) _))
 have HBY:=hid (show Cs wz (w.heap.size+1) [.slice none 0 0,.int .i64 0,.slice none 0 0]from by
  have:=Cs.new (w.alloc (.cells #[.slice ba J.base.length bcap,.int .i64 J.first,.slice ca J.cos.length ccap] 25)) [.slice none 0 0,.int .i64 0,.slice none 0 0] 25
  rw[hwz];simpa using this)
 have hNz:=HBY.out.lt;have H0:=hid h0;have hpp:=Jn.chk_parts h0;obtain⟨f1,f2⟩:=Jn.ver_iff.1 hpp.2.1
 have h30:=hpp.2.2.1;have hlj:Jn.last J+1=J.first+J.cos.length:=by rw[Jn.last];omega
 have HLJ:=hid hlj;have HG:=hid (Jn.tree_good h0);have HGB:=hid ((Pp.good_iff J.base).1 hpp.1);have e1:IntKind.i64.wrap (J.first+(J.cos.length:Int))=J.first+J.cos.length:=by rw[IntKind.wrap_i64];omega
 clear hpp hlj;cases hkb:Pp.keyB key.data.toList with
 |false=>
  obtain⟨hE,hN,hR⟩:=Jn.com_key (l:=l) h0 hkb
  have HE:=hid hE;have HN:=hid hN;have HR:=hid hR;have HKB:=hid hkb;clear hE hN hR hkb h0;go_enter Tryz.func14,Tryz.ntmps14
  go_wp2_with fail;rw[←hwz];clear hwz;refine(isKey_any key _ hke).mono ?_
  rintro e w2 ⟨rfl,hw⟩;rw[hw,HKB.out];clear hw w2;have y0:=HBY.out.cell 0 rfl;have y1:=HBY.out.cell 1 rfl;have y2:=HBY.out.cell 2 rfl;have g0:=HBY.out.fr 0;have g1:=HBY.out.fr 1;have g2:=HBY.out.fr 2;go_wp2_with fail;refine bodyPost_ret (v:= .tuple #[.agg #[.slice none 0 0,.int .i64 0,.slice none 0 0],.int .i64 0,.int .i64 1]) (by simp[results,Tryz.results14,go_sem,y0,y1,y2]) rfl ⟨_,by rw[HN.out,HE.out],?_,?_⟩
  · rw[HR.out]
    exact liesJ_zero _
  · exact(((hbz.setCell (p:=⟨w.heap.size+1,0,none⟩) (Nat.le_succ _) _).setCell (p:=⟨w.heap.size+1,1,none⟩) (Nat.le_succ _) _).setCell (p:=⟨w.heap.size+1,2,none⟩) (Nat.le_succ _) _)
 |true=>
  have HKB:=hid hkb
  have HFD:=hid (show∀k (hk:k<J.cos.length),Jn.noK J.cos key.data.toList k→J.cos[k].ke.data.toList=key.data.toList→Jn.comE J key l=0∧Jn.comN J key l=J.cos[k].nu∧Jn.comR J key l=J from fun k hk hn he=>by
   obtain⟨a,b⟩:=Jn.noK_found hn hk he
   obtain⟨x,y,z⟩:=Jn.com_has (l:=l) h0 hkb a
   exact⟨x,by rw[y,b],z⟩)
  have HNW:=hid (show Jn.noK J.cos key.data.toList J.cos.length→Jn.comE J key l=Jn.newE J l∧(¬Jn.newE J l=0→Jn.comN J key l=0∧Jn.comR J key l=Jn.zeroJ)∧(Jn.newE J l=0→Jn.comN J key l=Jn.last J+1∧Jn.comR J key l=Jn.addJ J key l)from fun hn=>by
   have hh:=Jn.noK_end hn;have e:=Jn.com_new (l:=l) h0 hkb hh;refine⟨e,fun h=>Jn.com_bad (by rw[e];exact h),fun h=>(Jn.com_add h0 hkb hh h).2⟩)
  clear hkb h0;go_enter Tryz.func14,Tryz.ntmps14
  go_wp2_with fail;rw[←hwz];clear hwz;refine(isKey_any key _ hke).mono ?_
  rintro e w2 ⟨rfl,hw⟩;rw[hw,HKB.out];clear hw w2;go_wp2_with fail;go_loopw [9] (fun x wr=> ∃k:Nat,k≤J.cos.length∧x= .int .i64 k∧Hid (Jn.noK J.cos key.data.toList k)∧Below wz.heap.size wz wr) (fun x _=>J.cos.length-(intOf x).toNat)
  case atStart=>exact⟨0,Nat.zero_le _,rfl,(Jn.noK_zero _ _:Jn.noK J.cos key.data.toList 0),Below.refl _ _⟩
  case round=>
   obtain⟨k,hk,rfl,HNK,hbo⟩:=hrel
   have hbel:=below_tr hbz hbo;have HB1:=hid (HBX.out.below hbo);have HY1:=hid (HBY.out.below hbo);have c0:=HB1.out.cell 0 rfl;have c1:=HB1.out.cell 1 rfl;have c2:=HB1.out.cell 2 rfl;by_cases hlt:k<J.cos.length
   · obtain⟨b,o,rfl,hb,he⟩:=HC.out k hlt
     obtain⟨d0,d1,_⟩:=he.below hb hbel
     have HF:=hid (HFD.out k hlt HNK.out);have HS:=hid (show¬J.cos[k].ke.data.toList=key.data.toList→Jn.noK J.cos key.data.toList (k+1)from fun h=>Jn.noK_succ HNK.out hlt h);clear he HFD HNW;generalize J.cos[k]=ck at*;obtain⟨nu,ke,ch⟩:=ck
     simp only at d0 d1;cases hkk:(ke.toList==key.toList)with
     |true=>
      have hF:=HF.out (by simpa[Lib.toList_data]using hkk);have HE:=hid hF.1;have HN:Hid (Jn.comN J key l=nu):=hF.2.1;have HR:=hid hF.2.2;clear hF HF HS;have y0:=HY1.out.cell 0 rfl;have y1:=HY1.out.cell 1 rfl;have y2:=HY1.out.cell 2 rfl;have g0:=HY1.out.fr 0;have g1:=HY1.out.fr 1;have g2:=HY1.out.fr 2;go_wp2_with fail;have hbne: ¬b=w.heap.size+1:=by omega
      go_region
      go_wp2_with fail;refine bodyPost_ret (v:= .tuple #[.agg #[.slice ba J.base.length bcap,.int .i64 J.first,.slice (some ⟨b,o,none⟩) J.cos.length ccap],.int .i64 nu,.int .i64 0]) (by simp[results,Tryz.results14,go_sem,y0,y1,y2]) rfl ⟨_,by rw[HN.out,HE.out],?_,?_⟩
      · rw[HR.out]
        exact HV.out.below ((((hbel.setCell (p:=⟨w.heap.size+1,0,none⟩) (Nat.le_succ _) _).setCell (p:=⟨w.heap.size+1,1,none⟩) (Nat.le_succ _) _).setCell (p:=⟨w.heap.size+1,2,none⟩) (Nat.le_succ _) _)).drew
      · exact((((hbel.setCell (p:=⟨w.heap.size+1,0,none⟩) (Nat.le_succ _) _).setCell (p:=⟨w.heap.size+1,1,none⟩) (Nat.le_succ _) _).setCell (p:=⟨w.heap.size+1,2,none⟩) (Nat.le_succ _) _)).drew
     |false=>
      have HS2:=hid (HS.out (by simpa[Lib.toList_data]using hkk));clear HF HS;go_wp2_with fail;go_roundw
      case rel=>exact⟨k+1,by omega,by simp,HS2,hbo⟩
      case measure=>simp[intOf];omega
   · have hkl:k=J.cos.length:=by omega
     have HW:=HNW.out (by rw[←hkl];exact HNK.out);have HE:=hid HW.1;have HBAD:=hid HW.2.1;have HOK:=hid HW.2.2;clear HW HNW HFD HNK;have hlt2: ¬(k:Int)<(J.cos.length:Int):=by omega
     clear hkl hlt;by_cases hl:l=[]
     · subst hl
       have HB:=hid (HBAD.out (by rw[Jn.new_nil];decide));have HE1:=hid (show Jn.comE J key []=1 from by rw[HE.out,Jn.new_nil]);clear HBAD HOK HE;have y0:=HY1.out.cell 0 rfl;have y1:=HY1.out.cell 1 rfl;have y2:=HY1.out.cell 2 rfl;have g0:=HY1.out.fr 0;have g1:=HY1.out.fr 1;have g2:=HY1.out.fr 2;go_wp2_with fail;refine bodyPost_ret (v:= .tuple #[.agg #[.slice none 0 0,.int .i64 0,.slice none 0 0],.int .i64 0,.int .i64 1]) (by simp[results,Tryz.results14,go_sem,y0,y1,y2]) rfl ⟨_,by rw[HB.out.1,HE1.out],?_,?_⟩
       · rw[HB.out.2]
         exact liesJ_zero _
       · exact(((hbel.setCell (p:=⟨w.heap.size+1,0,none⟩) (Nat.le_succ _) _).setCell (p:=⟨w.heap.size+1,1,none⟩) (Nat.le_succ _) _).setCell (p:=⟨w.heap.size+1,2,none⟩) (Nat.le_succ _) _)
     · have hll:((l.length:Int)==0)=false:=by
        rw[beq_eq_false_iff_ne];intro h;exact hl (List.length_eq_zero_iff.1 (by omega))
       by_cases hm:1000000<J.first+(J.cos.length:Int)
       · have hn3:=Jn.new_range (J:=J) hl (by rw[HLJ.out];exact hm)
         have HB:=hid (HBAD.out (by rw[hn3];decide));have HE1:=hid (show Jn.comE J key l=3 from by rw[HE.out,hn3]);clear HBAD HOK HE hn3 hl;have y0:=HY1.out.cell 0 rfl;have y1:=HY1.out.cell 1 rfl;have y2:=HY1.out.cell 2 rfl;have g0:=HY1.out.fr 0;have g1:=HY1.out.fr 1;have g2:=HY1.out.fr 2;go_wp2_with fail;refine bodyPost_ret (v:= .tuple #[.agg #[.slice none 0 0,.int .i64 0,.slice none 0 0],.int .i64 0,.int .i64 3]) (by simp[results,Tryz.results14,go_sem,y0,y1,y2]) rfl ⟨_,by rw[HB.out.1,HE1.out],?_,?_⟩
         · rw[HB.out.2]
           exact liesJ_zero _
         · exact(((hbel.setCell (p:=⟨w.heap.size+1,0,none⟩) (Nat.le_succ _) _).setCell (p:=⟨w.heap.size+1,1,none⟩) (Nat.le_succ _) _).setCell (p:=⟨w.heap.size+1,2,none⟩) (Nat.le_succ _) _)
       · have hn4:=Jn.new_all (J:=J) hl (by rw[HLJ.out];exact hm)
         rw[hn4]at HE HBAD HOK;rw[HLJ.out]at HE HBAD HOK;clear hn4 hl;go_wp2_with fail;refine(treeOf_any J _ _ (HV.out.below hbel) HP.out HCS.out H0.out).mono ?_
         rintro e w3 ⟨u3,rfl,hu3,hb3⟩;have HT3:=hid hu3;obtain⟨ta,tcap,rfl,_⟩:=hu3
         have hb03:=below_tr hbel hb3;have HB3:=hid (HB1.out.below hb3);have HY3:=hid (HY1.out.below hb3);clear c0 c1 c2;go_wp2_with fail;refine(rAllOf_any (Jn.tree J) _ l _ (J.first+(J.cos.length:Int)) _ HT3.out HG.out (HU.out.below hb03) HLS.out).mono ?_
         rintro e w4 ⟨r4,rfl,_,hb4⟩;have hb04:=below_tr hb03 hb4;have HB4:=hid (HB3.out.below hb4);have HY4:=hid (HY3.out.below hb4);have y0:=HY4.out.cell 0 rfl;have y1:=HY4.out.cell 1 rfl;have y2:=HY4.out.cell 2 rfl;have g0:=HY4.out.fr 0;have g1:=HY4.out.fr 1;have g2:=HY4.out.fr 2;by_cases hall:Pp.allE (Jn.tree J) l (J.first+(J.cos.length:Int))=0
         · have HO:=hid (HOK.out hall)
           have HE1:=hid (show Jn.comE J key l=0 from by rw[HE.out,hall]);rw[hall];clear HBAD HOK HE hall;have c0:=HB4.out.cell 0 rfl;have c1:=HB4.out.cell 1 rfl;have c2:=HB4.out.cell 2 rfl;go_wp2_with fail;obtain⟨us,hch,hR⟩:=liesO_rows HVC.out
           have HCH:=hid hch;have HR1:=hid (flatten_one (rowsO_one hch));have HR2:=hid (show∀u∈[Value.int .i64 (J.first+(J.cos.length:Int)),.string key,.slice ua l.length ucap],u.oneCell'=true from fun u hu=>by simp at hu;rcases hu with rfl|rfl|rfl<;>rfl)
           have HSRC:=hid (show∀W,Below w4.heap.size w4 W→Src3 W (.slice ca J.cos.length ccap) J.cos.length 3 (rowsO J.cos us).flatten from fun W hW=>by
            have h:=Src3.lies (hR.below (below_tr hb04 hW));rw[rowsO_len hch.1]at h;exact h)
           clear hch hR y0 y1 y2 g0 g1 g2;refine wp_region_held_drew (S:=fun W=>W.cell? ⟨w.heap.size,0,none⟩=some (.slice ba J.base.length bcap)∧W.cell? ⟨w.heap.size,1,none⟩=some (.int .i64 J.first)∧W.cell? ⟨w.heap.size,2,none⟩=some (.slice ca J.cos.length ccap)) (by kernel_rfl) ⟨by simpa using c0,by simpa using c1,by simpa using c2⟩ (fun hHeld=>?_)
           change wpAnyH _ _ _ _ _ 17 #[false,false,false,false,false,false,false,false,false,false,false,false,false,false,false,false,false] _ _
           have hc0:Below w4.heap.size w4 w4.drew:=(Below.refl _ _).drew;generalize w4.drew=k0 at hHeld hc0⊢;clear c0 c1 c2;refine wpAnyH_take (i:=0) (oi:=⟨some 67,Op.fieldAddr 25 (Operand.tmp 3) 0,0,_,_,none⟩) (v:=?_) rfl (by kernel_rfl) (by kernel_rfl) (by kernel_rfl) (fun _ _ _ h=>h) (Or.inl ⟨by rfl,?_⟩) hHeld ?_
           rotate_left
           · (intro W hSw;obtain⟨t0,t1,t2⟩:=hSw;go_simp<;>with_reducible rfl)
           try simp only[Act.put,List.setIfInBounds_toArray,List.set_cons_zero,List.set_cons_succ]
           refine wpAnyH_take (i:=1) (oi:=⟨some 68,Op.load 22 (Operand.tmp 67),22,_,_,none⟩) (v:=?_) rfl (by kernel_rfl) (by kernel_rfl) (by kernel_rfl) (fun _ _ _ h=>h) (Or.inl ⟨by rfl,?_⟩) hHeld ?_
           rotate_left
           · (intro W hSw;obtain⟨t0,t1,t2⟩:=hSw;go_simp<;>with_reducible rfl)
           try simp only[Act.put,List.setIfInBounds_toArray,List.set_cons_zero,List.set_cons_succ]
           refine wpAnyH_take (i:=2) (oi:=⟨some 69,Op.fieldAddr 25 (Operand.tmp 3) 1,0,_,_,none⟩) (v:=?_) rfl (by kernel_rfl) (by kernel_rfl) (by kernel_rfl) (fun _ _ _ h=>h) (Or.inl ⟨by rfl,?_⟩) hHeld ?_
           rotate_left
           · (intro W hSw;obtain⟨t0,t1,t2⟩:=hSw;go_simp<;>with_reducible rfl)
           try simp only[Act.put,List.setIfInBounds_toArray,List.set_cons_zero,List.set_cons_succ]
           refine wpAnyH_take (i:=3) (oi:=⟨some 70,Op.load 3 (Operand.tmp 69),3,_,_,none⟩) (v:=?_) rfl (by kernel_rfl) (by kernel_rfl) (by kernel_rfl) (fun _ _ _ h=>h) (Or.inl ⟨by rfl,?_⟩) hHeld ?_
           rotate_left
           · (intro W hSw;obtain⟨t0,t1,t2⟩:=hSw;go_simp<;>with_reducible rfl)
           try simp only[Act.put,List.setIfInBounds_toArray,List.set_cons_zero,List.set_cons_succ]
           refine wpAnyH_take (i:=5) (oi:=⟨some 72,Op.fieldAddr 25 (Operand.tmp 3) 2,0,_,_,none⟩) (v:=?_) rfl (by kernel_rfl) (by kernel_rfl) (by kernel_rfl) (fun _ _ _ h=>h) (Or.inl ⟨by rfl,?_⟩) hHeld ?_
           rotate_left
           · (intro W hSw;obtain⟨t0,t1,t2⟩:=hSw;go_simp<;>with_reducible rfl)
           try simp only[Act.put,List.setIfInBounds_toArray,List.set_cons_zero,List.set_cons_succ]
           refine wpAnyH_take (i:=6) (oi:=⟨some 73,Op.load 23 (Operand.tmp 72),23,_,_,none⟩) (v:=?_) rfl (by kernel_rfl) (by kernel_rfl) (by kernel_rfl) (fun _ _ _ h=>h) (Or.inl ⟨by rfl,?_⟩) hHeld ?_
           rotate_left
           · (intro W hSw;obtain⟨t0,t1,t2⟩:=hSw;go_simp<;>with_reducible rfl)
           try simp only[Act.put,List.setIfInBounds_toArray,List.set_cons_zero,List.set_cons_succ]
           refine wpAnyH_take (i:=8) (oi:=⟨some 75,Op.move (Operand.tmp 10),3,_,_,none⟩) (v:=?_) rfl (by kernel_rfl) (by kernel_rfl) (by kernel_rfl) (fun _ _ _ h=>h) (Or.inl ⟨by rfl,?_⟩) hHeld ?_
           rotate_left
           · (intro W hSw;obtain⟨t0,t1,t2⟩:=hSw;go_simp<;>with_reducible rfl)
           try simp only[Act.put,List.setIfInBounds_toArray,List.set_cons_zero,List.set_cons_succ]
           refine wpAnyH_take (i:=9) (oi:=⟨some 76,Op.move (Operand.tmp 1),9,_,_,none⟩) (v:=?_) rfl (by kernel_rfl) (by kernel_rfl) (by kernel_rfl) (fun _ _ _ h=>h) (Or.inl ⟨by rfl,?_⟩) hHeld ?_
           rotate_left
           · (intro W hSw;obtain⟨t0,t1,t2⟩:=hSw;go_simp<;>with_reducible rfl)
           try simp only[Act.put,List.setIfInBounds_toArray,List.set_cons_zero,List.set_cons_succ]
           refine wpAnyH_take (i:=10) (oi:=⟨some 77,Op.move (Operand.tmp 2),26,_,_,none⟩) (v:=?_) rfl (by kernel_rfl) (by kernel_rfl) (by kernel_rfl) (fun _ _ _ h=>h) (Or.inl ⟨by rfl,?_⟩) hHeld ?_
           rotate_left
           · (intro W hSw;obtain⟨t0,t1,t2⟩:=hSw;go_simp<;>with_reducible rfl)
           try simp only[Act.put,List.setIfInBounds_toArray,List.set_cons_zero,List.set_cons_succ]
           refine wpAnyH_take (i:=11) (oi:=⟨some 78,Op.build 84 #[(0,Operand.tmp 75),(1,Operand.tmp 76),(2,Operand.tmp 77)],84,_,_,none⟩) (v:=?_) rfl (by kernel_rfl) (by kernel_rfl) (by kernel_rfl) (fun _ _ _ h=>h) (Or.inl ⟨by rfl,?_⟩) hHeld ?_
           rotate_left
           · (intro W hSw;obtain⟨t0,t1,t2⟩:=hSw;go_simp<;>with_reducible rfl)
           try simp only[Act.put,List.setIfInBounds_toArray,List.set_cons_zero,List.set_cons_succ]
           refine later (p:=?_) (fun rest=>?_) ?_
           rotate_left
           · skip
             refine wpAnyH_ready (rs:=[4,12,15]) (by kernel_rfl) (by simp) ?_
             refine AllReadyH.cons (o:=⟨some 71,Op.buildSlice 23 0 #[],23,_,_,none⟩) rfl (fun K hK=>?_) (AllReadyH.cons (o:=⟨some 79,Op.buildSlice 23 1 #[(0,Operand.tmp 78)],23,_,_,none⟩) rfl (fun K hK=>?_) (AllReadyH.cons (o:=⟨some 14,Op.alloc 25,0,_,_,none⟩) rfl (fun K hK=>?_) (AllReadyH.nil)))
             · skip
               go_simp
               generalize hwz:World.alloc k0 (.cells #[] 84)=k1;have hz:Below k0.heap.size k0 k1:=hwz▸(Below.refl _ _).alloc (Nat.le_refl _) _;have hc1:Below w4.heap.size w4 k1:=below_tr hc0 hz;have e71:EmpC w4.heap.size k1 (.slice (some ⟨k0.heap.size,0,none⟩) 0 0):=EmpC.new hwz hc0.size;clear hwz hz;generalize Value.slice (some (Addr.mk k0.heap.size 0 none)) 0 0=v71 at e71⊢;try clear hc0
               try clear k0
               refine hK.out _ _ ⟨(HB4.out.below hc1).cell 0 rfl,(HB4.out.below hc1).cell 1 rfl,(HB4.out.below hc1).cell 2 rfl⟩ (fun hzz=>?_)
               clear hzz hK K;try simp only[Act.put,List.setIfInBounds_toArray,List.set_cons_zero,List.set_cons_succ]
               refine wpAnyH_ready (rs:=[7,12,15]) (by kernel_rfl) (by simp) ?_
               refine AllReadyH.cons (o:=⟨some 74,Op.call ⟨Callee.builtin Builtin.append,#[Operand.tmp 71,Operand.tmp 73],#[23,23]⟩,23,_,_,none⟩) rfl (fun K hK=>?_) (AllReadyH.cons (o:=⟨some 79,Op.buildSlice 23 1 #[(0,Operand.tmp 78)],23,_,_,none⟩) rfl (fun K hK=>?_) (AllReadyH.cons (o:=⟨some 14,Op.alloc 25,0,_,_,none⟩) rfl (fun K hK=>?_) (AllReadyH.nil)))
               · skip
                 refine step_append_src rfl (.tmp 71) (.tmp 73) 23 rfl w4.heap.size 84 i0 (.agg #[.int .i64 0,.string ⟨#[]⟩,.slice none 0 0]) 3 48 Tryz.underlying23 hi0 hz0 hz1 hz2 rfl (by decide) v71 0 [] rfl e71.own (.slice ca J.cos.length ccap) J.cos.length (rowsO J.cos us).flatten rfl (HSRC.out k1 hc1) HR1.out (by unfold maxLen;omega) (by omega) hc1.size ?_
                 intro v74 k2 ho hgr;have o74:k2.ownsRow w4.heap.size 84 3 v74 J.cos.length (rowsO J.cos us).flatten:=(by rw[Nat.zero_add,List.nil_append]at ho;exact ho)
                 have hc2:Below w4.heap.size w4 k2:=hc1.grown hgr hc1.size (fun k hk=>(e71.own.lt k hk).1);clear ho hgr e71;try clear hc1
                 try clear k1
                 refine hK.out _ _ ⟨(HB4.out.below hc2).cell 0 rfl,(HB4.out.below hc2).cell 1 rfl,(HB4.out.below hc2).cell 2 rfl⟩ (fun hzz=>?_)
                 clear hzz hK K;try simp only[Act.put,List.setIfInBounds_toArray,List.set_cons_zero,List.set_cons_succ]
                 refine wpAnyH_ready (rs:=[12,15]) (by kernel_rfl) (by simp) ?_
                 refine AllReadyH.cons (o:=⟨some 79,Op.buildSlice 23 1 #[(0,Operand.tmp 78)],23,_,_,none⟩) rfl (fun K hK=>?_) (AllReadyH.cons (o:=⟨some 14,Op.alloc 25,0,_,_,none⟩) rfl (fun K hK=>?_) (AllReadyH.nil))
                 · skip
                   go_simp
                   generalize hwz:World.alloc k2 (.cells #[Value.int .i64 (J.first+(J.cos.length:Int)),.string key,.slice ua l.length ucap] 84)=k3;have hz:Below k2.heap.size k2 k3:=hwz▸(Below.refl _ _).alloc (Nat.le_refl _) _;have hc3:Below w4.heap.size w4 k3:=below_tr hc2 hz;have n79:NewC k3 (.slice (some ⟨k2.heap.size,0,none⟩) 1 1) [Value.int .i64 (J.first+(J.cos.length:Int)),.string key,.slice ua l.length ucap]:=NewC.new (r:=[Value.int .i64 (J.first+(J.cos.length:Int)),.string key,.slice ua l.length ucap]) hwz;replace o74:=ownsRow_below o74 hz;clear hwz hz;generalize Value.slice (some (Addr.mk k2.heap.size 0 none)) 1 1=v79 at n79⊢;try clear hc2
                   try clear k2
                   refine hK.out _ _ ⟨(HB4.out.below hc3).cell 0 rfl,(HB4.out.below hc3).cell 1 rfl,(HB4.out.below hc3).cell 2 rfl⟩ (fun hzz=>?_)
                   clear hzz hK K;try simp only[Act.put,List.setIfInBounds_toArray,List.set_cons_zero,List.set_cons_succ]
                   refine wpAnyH_ready (rs:=[13,15]) (by kernel_rfl) (by simp) ?_
                   refine AllReadyH.cons (o:=⟨some 80,Op.call ⟨Callee.builtin Builtin.append,#[Operand.tmp 74,Operand.tmp 79],#[23,23]⟩,23,_,_,none⟩) rfl (fun K hK=>?_) (AllReadyH.cons (o:=⟨some 14,Op.alloc 25,0,_,_,none⟩) rfl (fun K hK=>?_) (AllReadyH.nil))
                   · skip
                     refine step_append_src rfl (.tmp 74) (.tmp 79) 23 rfl w4.heap.size 84 i0 (.agg #[.int .i64 0,.string ⟨#[]⟩,.slice none 0 0]) 3 48 Tryz.underlying23 hi0 hz0 hz1 hz2 rfl (by decide) v74 J.cos.length (rowsO J.cos us).flatten rfl o74 v79 1 [Value.int .i64 (J.first+(J.cos.length:Int)),.string key,.slice ua l.length ucap] rfl (n79.src rfl) HR2.out (by unfold maxLen;omega) (by omega) hc3.size ?_
                     intro v80 k4 ho hgr;have o80:k4.ownsRow w4.heap.size 84 3 v80 (J.cos.length+1) ((rowsO J.cos us).flatten++[Value.int .i64 (J.first+(J.cos.length:Int)),.string key,.slice ua l.length ucap]):=ho;have hc4:Below w4.heap.size w4 k4:=hc3.grown hgr hc3.size (fun k hk=>(o74.lt k hk).1);clear ho hgr o74 n79;obtain⟨a80,cap80,rfl⟩:=ownsRow_shape o80
                     try clear hc3
                     try clear k3
                     refine hK.out _ _ ⟨(HB4.out.below hc4).cell 0 rfl,(HB4.out.below hc4).cell 1 rfl,(HB4.out.below hc4).cell 2 rfl⟩ (fun hHeld=>?_)
                     clear hK K;try simp only[Act.put,List.setIfInBounds_toArray,List.set_cons_zero,List.set_cons_succ]
                     refine wpAnyH_take (i:=14) (oi:=⟨some 81,Op.build 25 #[(0,Operand.tmp 68),(1,Operand.tmp 70),(2,Operand.tmp 80)],25,_,_,none⟩) (v:=?_) rfl (by kernel_rfl) (by kernel_rfl) (by kernel_rfl) (fun _ _ _ h=>h) (Or.inl ⟨by rfl,?_⟩) hHeld ?_
                     rotate_left
                     · (intro W hSw;obtain⟨t0,t1,t2⟩:=hSw;go_simp<;>with_reducible rfl)
                     try simp only[Act.put,List.setIfInBounds_toArray,List.set_cons_zero,List.set_cons_succ]
                     clear hHeld;refine wpAnyH_ready (rs:=[15]) (by kernel_rfl) (by simp) ?_
                     refine AllReadyH.cons (o:=⟨some 14,Op.alloc 25,0,_,_,none⟩) rfl (fun K hK=>?_) (AllReadyH.nil)
                     · skip
                       go_simp
                       generalize hwz:World.alloc k4 (.cells #[.slice none 0 0,.int .i64 0,.slice none 0 0] 25)=k5;have hz:Below k4.heap.size k4 k5:=hwz▸(Below.refl _ _).alloc (Nat.le_refl _) _;have hc5:Below w4.heap.size w4 k5:=below_tr hc4 hz;have x14:BoxC w4.heap.size k5 k4.heap.size:=BoxC.new hwz hc4.size;replace o80:=ownsRow_below o80 hz;clear hwz hz;generalize k4.heap.size=b14 at x14⊢;try clear hc4
                       try clear k4
                       refine hK.out _ _ ⟨(HB4.out.below hc5).cell 0 rfl,(HB4.out.below hc5).cell 1 rfl,(HB4.out.below hc5).cell 2 rfl⟩ (fun hzz=>?_)
                       clear hzz hK K;try simp only[Act.put,List.setIfInBounds_toArray,List.set_cons_zero,List.set_cons_succ]
                       revert x14
                       revert o80
                       revert hc5
                       revert k5
                       revert b14
                       revert cap80
                       revert a80
                       revert v79
                       revert v74
                       revert v71
                       exact rest.out
                   · skip
                     go_simp
                     generalize hwz:World.alloc k3 (.cells #[.slice none 0 0,.int .i64 0,.slice none 0 0] 25)=k4;have hz:Below k3.heap.size k3 k4:=hwz▸(Below.refl _ _).alloc (Nat.le_refl _) _;have hc4:Below w4.heap.size w4 k4:=below_tr hc3 hz;have x14:BoxC w4.heap.size k4 k3.heap.size:=BoxC.new hwz hc3.size;replace n79:=n79.below hz;replace o74:=ownsRow_below o74 hz;clear hwz hz;generalize k3.heap.size=b14 at x14⊢;try clear hc3
                     try clear k3
                     refine hK.out _ _ ⟨(HB4.out.below hc4).cell 0 rfl,(HB4.out.below hc4).cell 1 rfl,(HB4.out.below hc4).cell 2 rfl⟩ (fun hzz=>?_)
                     clear hzz hK K;try simp only[Act.put,List.setIfInBounds_toArray,List.set_cons_zero,List.set_cons_succ]
                     refine wpAnyH_ready (rs:=[13]) (by kernel_rfl) (by simp) ?_
                     refine AllReadyH.cons (o:=⟨some 80,Op.call ⟨Callee.builtin Builtin.append,#[Operand.tmp 74,Operand.tmp 79],#[23,23]⟩,23,_,_,none⟩) rfl (fun K hK=>?_) (AllReadyH.nil)
                     · skip
                       refine step_append_src rfl (.tmp 74) (.tmp 79) 23 rfl w4.heap.size 84 i0 (.agg #[.int .i64 0,.string ⟨#[]⟩,.slice none 0 0]) 3 48 Tryz.underlying23 hi0 hz0 hz1 hz2 rfl (by decide) v74 J.cos.length (rowsO J.cos us).flatten rfl o74 v79 1 [Value.int .i64 (J.first+(J.cos.length:Int)),.string key,.slice ua l.length ucap] rfl (n79.src rfl) HR2.out (by unfold maxLen;omega) (by omega) hc4.size ?_
                       intro v80 k5 ho hgr;have o80:k5.ownsRow w4.heap.size 84 3 v80 (J.cos.length+1) ((rowsO J.cos us).flatten++[Value.int .i64 (J.first+(J.cos.length:Int)),.string key,.slice ua l.length ucap]):=ho;have hc5:Below w4.heap.size w4 k5:=hc4.grown hgr hc4.size (fun k hk=>(o74.lt k hk).1);replace x14:=x14.gr o74 hgr;clear ho hgr o74 n79;obtain⟨a80,cap80,rfl⟩:=ownsRow_shape o80
                       try clear hc4
                       try clear k4
                       refine hK.out _ _ ⟨(HB4.out.below hc5).cell 0 rfl,(HB4.out.below hc5).cell 1 rfl,(HB4.out.below hc5).cell 2 rfl⟩ (fun hHeld=>?_)
                       clear hK K;try simp only[Act.put,List.setIfInBounds_toArray,List.set_cons_zero,List.set_cons_succ]
                       refine wpAnyH_take (i:=14) (oi:=⟨some 81,Op.build 25 #[(0,Operand.tmp 68),(1,Operand.tmp 70),(2,Operand.tmp 80)],25,_,_,none⟩) (v:=?_) rfl (by kernel_rfl) (by kernel_rfl) (by kernel_rfl) (fun _ _ _ h=>h) (Or.inl ⟨by rfl,?_⟩) hHeld ?_
                       rotate_left
                       · (intro W hSw;obtain⟨t0,t1,t2⟩:=hSw;go_simp<;>with_reducible rfl)
                       try simp only[Act.put,List.setIfInBounds_toArray,List.set_cons_zero,List.set_cons_succ]
                       clear hHeld;revert x14
                       revert o80
                       revert hc5
                       revert k5
                       revert b14
                       revert cap80
                       revert a80
                       revert v79
                       revert v74
                       revert v71
                       exact rest.out
                 · skip
                   go_simp
                   generalize hwz:World.alloc k2 (.cells #[.slice none 0 0,.int .i64 0,.slice none 0 0] 25)=k3;have hz:Below k2.heap.size k2 k3:=hwz▸(Below.refl _ _).alloc (Nat.le_refl _) _;have hc3:Below w4.heap.size w4 k3:=below_tr hc2 hz;have x14:BoxC w4.heap.size k3 k2.heap.size:=BoxC.new hwz hc2.size;replace o74:=ownsRow_below o74 hz;clear hwz hz;generalize k2.heap.size=b14 at x14⊢;try clear hc2
                   try clear k2
                   refine hK.out _ _ ⟨(HB4.out.below hc3).cell 0 rfl,(HB4.out.below hc3).cell 1 rfl,(HB4.out.below hc3).cell 2 rfl⟩ (fun hzz=>?_)
                   clear hzz hK K;try simp only[Act.put,List.setIfInBounds_toArray,List.set_cons_zero,List.set_cons_succ]
                   refine wpAnyH_ready (rs:=[12]) (by kernel_rfl) (by simp) ?_
                   refine AllReadyH.cons (o:=⟨some 79,Op.buildSlice 23 1 #[(0,Operand.tmp 78)],23,_,_,none⟩) rfl (fun K hK=>?_) (AllReadyH.nil)
                   · skip
                     go_simp
                     generalize hwz:World.alloc k3 (.cells #[Value.int .i64 (J.first+(J.cos.length:Int)),.string key,.slice ua l.length ucap] 84)=k4;have hz:Below k3.heap.size k3 k4:=hwz▸(Below.refl _ _).alloc (Nat.le_refl _) _;have hc4:Below w4.heap.size w4 k4:=below_tr hc3 hz;have n79:NewC k4 (.slice (some ⟨k3.heap.size,0,none⟩) 1 1) [Value.int .i64 (J.first+(J.cos.length:Int)),.string key,.slice ua l.length ucap]:=NewC.new (r:=[Value.int .i64 (J.first+(J.cos.length:Int)),.string key,.slice ua l.length ucap]) hwz;replace o74:=ownsRow_below o74 hz;replace x14:=x14.below hz;clear hwz hz;generalize Value.slice (some (Addr.mk k3.heap.size 0 none)) 1 1=v79 at n79⊢;try clear hc3
                     try clear k3
                     refine hK.out _ _ ⟨(HB4.out.below hc4).cell 0 rfl,(HB4.out.below hc4).cell 1 rfl,(HB4.out.below hc4).cell 2 rfl⟩ (fun hzz=>?_)
                     clear hzz hK K;try simp only[Act.put,List.setIfInBounds_toArray,List.set_cons_zero,List.set_cons_succ]
                     refine wpAnyH_ready (rs:=[13]) (by kernel_rfl) (by simp) ?_
                     refine AllReadyH.cons (o:=⟨some 80,Op.call ⟨Callee.builtin Builtin.append,#[Operand.tmp 74,Operand.tmp 79],#[23,23]⟩,23,_,_,none⟩) rfl (fun K hK=>?_) (AllReadyH.nil)
                     · skip
                       refine step_append_src rfl (.tmp 74) (.tmp 79) 23 rfl w4.heap.size 84 i0 (.agg #[.int .i64 0,.string ⟨#[]⟩,.slice none 0 0]) 3 48 Tryz.underlying23 hi0 hz0 hz1 hz2 rfl (by decide) v74 J.cos.length (rowsO J.cos us).flatten rfl o74 v79 1 [Value.int .i64 (J.first+(J.cos.length:Int)),.string key,.slice ua l.length ucap] rfl (n79.src rfl) HR2.out (by unfold maxLen;omega) (by omega) hc4.size ?_
                       intro v80 k5 ho hgr;have o80:k5.ownsRow w4.heap.size 84 3 v80 (J.cos.length+1) ((rowsO J.cos us).flatten++[Value.int .i64 (J.first+(J.cos.length:Int)),.string key,.slice ua l.length ucap]):=ho;have hc5:Below w4.heap.size w4 k5:=hc4.grown hgr hc4.size (fun k hk=>(o74.lt k hk).1);replace x14:=x14.gr o74 hgr;clear ho hgr o74 n79;obtain⟨a80,cap80,rfl⟩:=ownsRow_shape o80
                       try clear hc4
                       try clear k4
                       refine hK.out _ _ ⟨(HB4.out.below hc5).cell 0 rfl,(HB4.out.below hc5).cell 1 rfl,(HB4.out.below hc5).cell 2 rfl⟩ (fun hHeld=>?_)
                       clear hK K;try simp only[Act.put,List.setIfInBounds_toArray,List.set_cons_zero,List.set_cons_succ]
                       refine wpAnyH_take (i:=14) (oi:=⟨some 81,Op.build 25 #[(0,Operand.tmp 68),(1,Operand.tmp 70),(2,Operand.tmp 80)],25,_,_,none⟩) (v:=?_) rfl (by kernel_rfl) (by kernel_rfl) (by kernel_rfl) (fun _ _ _ h=>h) (Or.inl ⟨by rfl,?_⟩) hHeld ?_
                       rotate_left
                       · (intro W hSw;obtain⟨t0,t1,t2⟩:=hSw;go_simp<;>with_reducible rfl)
                       try simp only[Act.put,List.setIfInBounds_toArray,List.set_cons_zero,List.set_cons_succ]
                       clear hHeld;revert x14
                       revert o80
                       revert hc5
                       revert k5
                       revert b14
                       revert cap80
                       revert a80
                       revert v79
                       revert v74
                       revert v71
                       exact rest.out
               · skip
                 go_simp
                 generalize hwz:World.alloc k1 (.cells #[Value.int .i64 (J.first+(J.cos.length:Int)),.string key,.slice ua l.length ucap] 84)=k2;have hz:Below k1.heap.size k1 k2:=hwz▸(Below.refl _ _).alloc (Nat.le_refl _) _;have hc2:Below w4.heap.size w4 k2:=below_tr hc1 hz;have n79:NewC k2 (.slice (some ⟨k1.heap.size,0,none⟩) 1 1) [Value.int .i64 (J.first+(J.cos.length:Int)),.string key,.slice ua l.length ucap]:=NewC.new (r:=[Value.int .i64 (J.first+(J.cos.length:Int)),.string key,.slice ua l.length ucap]) hwz;replace e71:=e71.below hz;clear hwz hz;generalize Value.slice (some (Addr.mk k1.heap.size 0 none)) 1 1=v79 at n79⊢;try clear hc1
                 try clear k1
                 refine hK.out _ _ ⟨(HB4.out.below hc2).cell 0 rfl,(HB4.out.below hc2).cell 1 rfl,(HB4.out.below hc2).cell 2 rfl⟩ (fun hzz=>?_)
                 clear hzz hK K;try simp only[Act.put,List.setIfInBounds_toArray,List.set_cons_zero,List.set_cons_succ]
                 refine wpAnyH_ready (rs:=[7,15]) (by kernel_rfl) (by simp) ?_
                 refine AllReadyH.cons (o:=⟨some 74,Op.call ⟨Callee.builtin Builtin.append,#[Operand.tmp 71,Operand.tmp 73],#[23,23]⟩,23,_,_,none⟩) rfl (fun K hK=>?_) (AllReadyH.cons (o:=⟨some 14,Op.alloc 25,0,_,_,none⟩) rfl (fun K hK=>?_) (AllReadyH.nil))
                 · skip
                   refine step_append_src rfl (.tmp 71) (.tmp 73) 23 rfl w4.heap.size 84 i0 (.agg #[.int .i64 0,.string ⟨#[]⟩,.slice none 0 0]) 3 48 Tryz.underlying23 hi0 hz0 hz1 hz2 rfl (by decide) v71 0 [] rfl e71.own (.slice ca J.cos.length ccap) J.cos.length (rowsO J.cos us).flatten rfl (HSRC.out k2 hc2) HR1.out (by unfold maxLen;omega) (by omega) hc2.size ?_
                   intro v74 k3 ho hgr;have o74:k3.ownsRow w4.heap.size 84 3 v74 J.cos.length (rowsO J.cos us).flatten:=(by rw[Nat.zero_add,List.nil_append]at ho;exact ho)
                   have hc3:Below w4.heap.size w4 k3:=hc2.grown hgr hc2.size (fun k hk=>(e71.own.lt k hk).1);replace n79:=n79.gr (by simp) e71 hgr;clear ho hgr e71;try clear hc2
                   try clear k2
                   refine hK.out _ _ ⟨(HB4.out.below hc3).cell 0 rfl,(HB4.out.below hc3).cell 1 rfl,(HB4.out.below hc3).cell 2 rfl⟩ (fun hzz=>?_)
                   clear hzz hK K;try simp only[Act.put,List.setIfInBounds_toArray,List.set_cons_zero,List.set_cons_succ]
                   refine wpAnyH_ready (rs:=[13,15]) (by kernel_rfl) (by simp) ?_
                   refine AllReadyH.cons (o:=⟨some 80,Op.call ⟨Callee.builtin Builtin.append,#[Operand.tmp 74,Operand.tmp 79],#[23,23]⟩,23,_,_,none⟩) rfl (fun K hK=>?_) (AllReadyH.cons (o:=⟨some 14,Op.alloc 25,0,_,_,none⟩) rfl (fun K hK=>?_) (AllReadyH.nil))
                   · skip
                     refine step_append_src rfl (.tmp 74) (.tmp 79) 23 rfl w4.heap.size 84 i0 (.agg #[.int .i64 0,.string ⟨#[]⟩,.slice none 0 0]) 3 48 Tryz.underlying23 hi0 hz0 hz1 hz2 rfl (by decide) v74 J.cos.length (rowsO J.cos us).flatten rfl o74 v79 1 [Value.int .i64 (J.first+(J.cos.length:Int)),.string key,.slice ua l.length ucap] rfl (n79.src rfl) HR2.out (by unfold maxLen;omega) (by omega) hc3.size ?_
                     intro v80 k4 ho hgr;have o80:k4.ownsRow w4.heap.size 84 3 v80 (J.cos.length+1) ((rowsO J.cos us).flatten++[Value.int .i64 (J.first+(J.cos.length:Int)),.string key,.slice ua l.length ucap]):=ho;have hc4:Below w4.heap.size w4 k4:=hc3.grown hgr hc3.size (fun k hk=>(o74.lt k hk).1);clear ho hgr o74 n79;obtain⟨a80,cap80,rfl⟩:=ownsRow_shape o80
                     try clear hc3
                     try clear k3
                     refine hK.out _ _ ⟨(HB4.out.below hc4).cell 0 rfl,(HB4.out.below hc4).cell 1 rfl,(HB4.out.below hc4).cell 2 rfl⟩ (fun hHeld=>?_)
                     clear hK K;try simp only[Act.put,List.setIfInBounds_toArray,List.set_cons_zero,List.set_cons_succ]
                     refine wpAnyH_take (i:=14) (oi:=⟨some 81,Op.build 25 #[(0,Operand.tmp 68),(1,Operand.tmp 70),(2,Operand.tmp 80)],25,_,_,none⟩) (v:=?_) rfl (by kernel_rfl) (by kernel_rfl) (by kernel_rfl) (fun _ _ _ h=>h) (Or.inl ⟨by rfl,?_⟩) hHeld ?_
                     rotate_left
                     · (intro W hSw;obtain⟨t0,t1,t2⟩:=hSw;go_simp<;>with_reducible rfl)
                     try simp only[Act.put,List.setIfInBounds_toArray,List.set_cons_zero,List.set_cons_succ]
                     clear hHeld;refine wpAnyH_ready (rs:=[15]) (by kernel_rfl) (by simp) ?_
                     refine AllReadyH.cons (o:=⟨some 14,Op.alloc 25,0,_,_,none⟩) rfl (fun K hK=>?_) (AllReadyH.nil)
                     · skip
                       go_simp
                       generalize hwz:World.alloc k4 (.cells #[.slice none 0 0,.int .i64 0,.slice none 0 0] 25)=k5;have hz:Below k4.heap.size k4 k5:=hwz▸(Below.refl _ _).alloc (Nat.le_refl _) _;have hc5:Below w4.heap.size w4 k5:=below_tr hc4 hz;have x14:BoxC w4.heap.size k5 k4.heap.size:=BoxC.new hwz hc4.size;replace o80:=ownsRow_below o80 hz;clear hwz hz;generalize k4.heap.size=b14 at x14⊢;try clear hc4
                       try clear k4
                       refine hK.out _ _ ⟨(HB4.out.below hc5).cell 0 rfl,(HB4.out.below hc5).cell 1 rfl,(HB4.out.below hc5).cell 2 rfl⟩ (fun hzz=>?_)
                       clear hzz hK K;try simp only[Act.put,List.setIfInBounds_toArray,List.set_cons_zero,List.set_cons_succ]
                       revert x14
                       revert o80
                       revert hc5
                       revert k5
                       revert b14
                       revert cap80
                       revert a80
                       revert v79
                       revert v74
                       revert v71
                       exact rest.out
                   · skip
                     go_simp
                     generalize hwz:World.alloc k3 (.cells #[.slice none 0 0,.int .i64 0,.slice none 0 0] 25)=k4;have hz:Below k3.heap.size k3 k4:=hwz▸(Below.refl _ _).alloc (Nat.le_refl _) _;have hc4:Below w4.heap.size w4 k4:=below_tr hc3 hz;have x14:BoxC w4.heap.size k4 k3.heap.size:=BoxC.new hwz hc3.size;replace n79:=n79.below hz;replace o74:=ownsRow_below o74 hz;clear hwz hz;generalize k3.heap.size=b14 at x14⊢;try clear hc3
                     try clear k3
                     refine hK.out _ _ ⟨(HB4.out.below hc4).cell 0 rfl,(HB4.out.below hc4).cell 1 rfl,(HB4.out.below hc4).cell 2 rfl⟩ (fun hzz=>?_)
                     clear hzz hK K;try simp only[Act.put,List.setIfInBounds_toArray,List.set_cons_zero,List.set_cons_succ]
                     refine wpAnyH_ready (rs:=[13]) (by kernel_rfl) (by simp) ?_
                     refine AllReadyH.cons (o:=⟨some 80,Op.call ⟨Callee.builtin Builtin.append,#[Operand.tmp 74,Operand.tmp 79],#[23,23]⟩,23,_,_,none⟩) rfl (fun K hK=>?_) (AllReadyH.nil)
                     · skip
                       refine step_append_src rfl (.tmp 74) (.tmp 79) 23 rfl w4.heap.size 84 i0 (.agg #[.int .i64 0,.string ⟨#[]⟩,.slice none 0 0]) 3 48 Tryz.underlying23 hi0 hz0 hz1 hz2 rfl (by decide) v74 J.cos.length (rowsO J.cos us).flatten rfl o74 v79 1 [Value.int .i64 (J.first+(J.cos.length:Int)),.string key,.slice ua l.length ucap] rfl (n79.src rfl) HR2.out (by unfold maxLen;omega) (by omega) hc4.size ?_
                       intro v80 k5 ho hgr;have o80:k5.ownsRow w4.heap.size 84 3 v80 (J.cos.length+1) ((rowsO J.cos us).flatten++[Value.int .i64 (J.first+(J.cos.length:Int)),.string key,.slice ua l.length ucap]):=ho;have hc5:Below w4.heap.size w4 k5:=hc4.grown hgr hc4.size (fun k hk=>(o74.lt k hk).1);replace x14:=x14.gr o74 hgr;clear ho hgr o74 n79;obtain⟨a80,cap80,rfl⟩:=ownsRow_shape o80
                       try clear hc4
                       try clear k4
                       refine hK.out _ _ ⟨(HB4.out.below hc5).cell 0 rfl,(HB4.out.below hc5).cell 1 rfl,(HB4.out.below hc5).cell 2 rfl⟩ (fun hHeld=>?_)
                       clear hK K;try simp only[Act.put,List.setIfInBounds_toArray,List.set_cons_zero,List.set_cons_succ]
                       refine wpAnyH_take (i:=14) (oi:=⟨some 81,Op.build 25 #[(0,Operand.tmp 68),(1,Operand.tmp 70),(2,Operand.tmp 80)],25,_,_,none⟩) (v:=?_) rfl (by kernel_rfl) (by kernel_rfl) (by kernel_rfl) (fun _ _ _ h=>h) (Or.inl ⟨by rfl,?_⟩) hHeld ?_
                       rotate_left
                       · (intro W hSw;obtain⟨t0,t1,t2⟩:=hSw;go_simp<;>with_reducible rfl)
                       try simp only[Act.put,List.setIfInBounds_toArray,List.set_cons_zero,List.set_cons_succ]
                       clear hHeld;revert x14
                       revert o80
                       revert hc5
                       revert k5
                       revert b14
                       revert cap80
                       revert a80
                       revert v79
                       revert v74
                       revert v71
                       exact rest.out
                 · skip
                   go_simp
                   generalize hwz:World.alloc k2 (.cells #[.slice none 0 0,.int .i64 0,.slice none 0 0] 25)=k3;have hz:Below k2.heap.size k2 k3:=hwz▸(Below.refl _ _).alloc (Nat.le_refl _) _;have hc3:Below w4.heap.size w4 k3:=below_tr hc2 hz;have x14:BoxC w4.heap.size k3 k2.heap.size:=BoxC.new hwz hc2.size;replace e71:=e71.below hz;replace n79:=n79.below hz;clear hwz hz;generalize k2.heap.size=b14 at x14⊢;try clear hc2
                   try clear k2
                   refine hK.out _ _ ⟨(HB4.out.below hc3).cell 0 rfl,(HB4.out.below hc3).cell 1 rfl,(HB4.out.below hc3).cell 2 rfl⟩ (fun hzz=>?_)
                   clear hzz hK K;try simp only[Act.put,List.setIfInBounds_toArray,List.set_cons_zero,List.set_cons_succ]
                   refine wpAnyH_ready (rs:=[7]) (by kernel_rfl) (by simp) ?_
                   refine AllReadyH.cons (o:=⟨some 74,Op.call ⟨Callee.builtin Builtin.append,#[Operand.tmp 71,Operand.tmp 73],#[23,23]⟩,23,_,_,none⟩) rfl (fun K hK=>?_) (AllReadyH.nil)
                   · skip
                     refine step_append_src rfl (.tmp 71) (.tmp 73) 23 rfl w4.heap.size 84 i0 (.agg #[.int .i64 0,.string ⟨#[]⟩,.slice none 0 0]) 3 48 Tryz.underlying23 hi0 hz0 hz1 hz2 rfl (by decide) v71 0 [] rfl e71.own (.slice ca J.cos.length ccap) J.cos.length (rowsO J.cos us).flatten rfl (HSRC.out k3 hc3) HR1.out (by unfold maxLen;omega) (by omega) hc3.size ?_
                     intro v74 k4 ho hgr;have o74:k4.ownsRow w4.heap.size 84 3 v74 J.cos.length (rowsO J.cos us).flatten:=(by rw[Nat.zero_add,List.nil_append]at ho;exact ho)
                     have hc4:Below w4.heap.size w4 k4:=hc3.grown hgr hc3.size (fun k hk=>(e71.own.lt k hk).1);replace n79:=n79.gr (by simp) e71 hgr;replace x14:=x14.gr e71.own hgr;clear ho hgr e71;try clear hc3
                     try clear k3
                     refine hK.out _ _ ⟨(HB4.out.below hc4).cell 0 rfl,(HB4.out.below hc4).cell 1 rfl,(HB4.out.below hc4).cell 2 rfl⟩ (fun hzz=>?_)
                     clear hzz hK K;try simp only[Act.put,List.setIfInBounds_toArray,List.set_cons_zero,List.set_cons_succ]
                     refine wpAnyH_ready (rs:=[13]) (by kernel_rfl) (by simp) ?_
                     refine AllReadyH.cons (o:=⟨some 80,Op.call ⟨Callee.builtin Builtin.append,#[Operand.tmp 74,Operand.tmp 79],#[23,23]⟩,23,_,_,none⟩) rfl (fun K hK=>?_) (AllReadyH.nil)
                     · skip
                       refine step_append_src rfl (.tmp 74) (.tmp 79) 23 rfl w4.heap.size 84 i0 (.agg #[.int .i64 0,.string ⟨#[]⟩,.slice none 0 0]) 3 48 Tryz.underlying23 hi0 hz0 hz1 hz2 rfl (by decide) v74 J.cos.length (rowsO J.cos us).flatten rfl o74 v79 1 [Value.int .i64 (J.first+(J.cos.length:Int)),.string key,.slice ua l.length ucap] rfl (n79.src rfl) HR2.out (by unfold maxLen;omega) (by omega) hc4.size ?_
                       intro v80 k5 ho hgr;have o80:k5.ownsRow w4.heap.size 84 3 v80 (J.cos.length+1) ((rowsO J.cos us).flatten++[Value.int .i64 (J.first+(J.cos.length:Int)),.string key,.slice ua l.length ucap]):=ho;have hc5:Below w4.heap.size w4 k5:=hc4.grown hgr hc4.size (fun k hk=>(o74.lt k hk).1);replace x14:=x14.gr o74 hgr;clear ho hgr o74 n79;obtain⟨a80,cap80,rfl⟩:=ownsRow_shape o80
                       try clear hc4
                       try clear k4
                       refine hK.out _ _ ⟨(HB4.out.below hc5).cell 0 rfl,(HB4.out.below hc5).cell 1 rfl,(HB4.out.below hc5).cell 2 rfl⟩ (fun hHeld=>?_)
                       clear hK K;try simp only[Act.put,List.setIfInBounds_toArray,List.set_cons_zero,List.set_cons_succ]
                       refine wpAnyH_take (i:=14) (oi:=⟨some 81,Op.build 25 #[(0,Operand.tmp 68),(1,Operand.tmp 70),(2,Operand.tmp 80)],25,_,_,none⟩) (v:=?_) rfl (by kernel_rfl) (by kernel_rfl) (by kernel_rfl) (fun _ _ _ h=>h) (Or.inl ⟨by rfl,?_⟩) hHeld ?_
                       rotate_left
                       · (intro W hSw;obtain⟨t0,t1,t2⟩:=hSw;go_simp<;>with_reducible rfl)
                       try simp only[Act.put,List.setIfInBounds_toArray,List.set_cons_zero,List.set_cons_succ]
                       clear hHeld;revert x14
                       revert o80
                       revert hc5
                       revert k5
                       revert b14
                       revert cap80
                       revert a80
                       revert v79
                       revert v74
                       revert v71
                       exact rest.out
               · skip
                 go_simp
                 generalize hwz:World.alloc k1 (.cells #[.slice none 0 0,.int .i64 0,.slice none 0 0] 25)=k2;have hz:Below k1.heap.size k1 k2:=hwz▸(Below.refl _ _).alloc (Nat.le_refl _) _;have hc2:Below w4.heap.size w4 k2:=below_tr hc1 hz;have x14:BoxC w4.heap.size k2 k1.heap.size:=BoxC.new hwz hc1.size;replace e71:=e71.below hz;clear hwz hz;generalize k1.heap.size=b14 at x14⊢;try clear hc1
                 try clear k1
                 refine hK.out _ _ ⟨(HB4.out.below hc2).cell 0 rfl,(HB4.out.below hc2).cell 1 rfl,(HB4.out.below hc2).cell 2 rfl⟩ (fun hzz=>?_)
                 clear hzz hK K;try simp only[Act.put,List.setIfInBounds_toArray,List.set_cons_zero,List.set_cons_succ]
                 refine wpAnyH_ready (rs:=[7,12]) (by kernel_rfl) (by simp) ?_
                 refine AllReadyH.cons (o:=⟨some 74,Op.call ⟨Callee.builtin Builtin.append,#[Operand.tmp 71,Operand.tmp 73],#[23,23]⟩,23,_,_,none⟩) rfl (fun K hK=>?_) (AllReadyH.cons (o:=⟨some 79,Op.buildSlice 23 1 #[(0,Operand.tmp 78)],23,_,_,none⟩) rfl (fun K hK=>?_) (AllReadyH.nil))
                 · skip
                   refine step_append_src rfl (.tmp 71) (.tmp 73) 23 rfl w4.heap.size 84 i0 (.agg #[.int .i64 0,.string ⟨#[]⟩,.slice none 0 0]) 3 48 Tryz.underlying23 hi0 hz0 hz1 hz2 rfl (by decide) v71 0 [] rfl e71.own (.slice ca J.cos.length ccap) J.cos.length (rowsO J.cos us).flatten rfl (HSRC.out k2 hc2) HR1.out (by unfold maxLen;omega) (by omega) hc2.size ?_
                   intro v74 k3 ho hgr;have o74:k3.ownsRow w4.heap.size 84 3 v74 J.cos.length (rowsO J.cos us).flatten:=(by rw[Nat.zero_add,List.nil_append]at ho;exact ho)
                   have hc3:Below w4.heap.size w4 k3:=hc2.grown hgr hc2.size (fun k hk=>(e71.own.lt k hk).1);replace x14:=x14.gr e71.own hgr;clear ho hgr e71;try clear hc2
                   try clear k2
                   refine hK.out _ _ ⟨(HB4.out.below hc3).cell 0 rfl,(HB4.out.below hc3).cell 1 rfl,(HB4.out.below hc3).cell 2 rfl⟩ (fun hzz=>?_)
                   clear hzz hK K;try simp only[Act.put,List.setIfInBounds_toArray,List.set_cons_zero,List.set_cons_succ]
                   refine wpAnyH_ready (rs:=[12]) (by kernel_rfl) (by simp) ?_
                   refine AllReadyH.cons (o:=⟨some 79,Op.buildSlice 23 1 #[(0,Operand.tmp 78)],23,_,_,none⟩) rfl (fun K hK=>?_) (AllReadyH.nil)
                   · skip
                     go_simp
                     generalize hwz:World.alloc k3 (.cells #[Value.int .i64 (J.first+(J.cos.length:Int)),.string key,.slice ua l.length ucap] 84)=k4;have hz:Below k3.heap.size k3 k4:=hwz▸(Below.refl _ _).alloc (Nat.le_refl _) _;have hc4:Below w4.heap.size w4 k4:=below_tr hc3 hz;have n79:NewC k4 (.slice (some ⟨k3.heap.size,0,none⟩) 1 1) [Value.int .i64 (J.first+(J.cos.length:Int)),.string key,.slice ua l.length ucap]:=NewC.new (r:=[Value.int .i64 (J.first+(J.cos.length:Int)),.string key,.slice ua l.length ucap]) hwz;replace o74:=ownsRow_below o74 hz;replace x14:=x14.below hz;clear hwz hz;generalize Value.slice (some (Addr.mk k3.heap.size 0 none)) 1 1=v79 at n79⊢;try clear hc3
                     try clear k3
                     refine hK.out _ _ ⟨(HB4.out.below hc4).cell 0 rfl,(HB4.out.below hc4).cell 1 rfl,(HB4.out.below hc4).cell 2 rfl⟩ (fun hzz=>?_)
                     clear hzz hK K;try simp only[Act.put,List.setIfInBounds_toArray,List.set_cons_zero,List.set_cons_succ]
                     refine wpAnyH_ready (rs:=[13]) (by kernel_rfl) (by simp) ?_
                     refine AllReadyH.cons (o:=⟨some 80,Op.call ⟨Callee.builtin Builtin.append,#[Operand.tmp 74,Operand.tmp 79],#[23,23]⟩,23,_,_,none⟩) rfl (fun K hK=>?_) (AllReadyH.nil)
                     · skip
                       refine step_append_src rfl (.tmp 74) (.tmp 79) 23 rfl w4.heap.size 84 i0 (.agg #[.int .i64 0,.string ⟨#[]⟩,.slice none 0 0]) 3 48 Tryz.underlying23 hi0 hz0 hz1 hz2 rfl (by decide) v74 J.cos.length (rowsO J.cos us).flatten rfl o74 v79 1 [Value.int .i64 (J.first+(J.cos.length:Int)),.string key,.slice ua l.length ucap] rfl (n79.src rfl) HR2.out (by unfold maxLen;omega) (by omega) hc4.size ?_
                       intro v80 k5 ho hgr;have o80:k5.ownsRow w4.heap.size 84 3 v80 (J.cos.length+1) ((rowsO J.cos us).flatten++[Value.int .i64 (J.first+(J.cos.length:Int)),.string key,.slice ua l.length ucap]):=ho;have hc5:Below w4.heap.size w4 k5:=hc4.grown hgr hc4.size (fun k hk=>(o74.lt k hk).1);replace x14:=x14.gr o74 hgr;clear ho hgr o74 n79;obtain⟨a80,cap80,rfl⟩:=ownsRow_shape o80
                       try clear hc4
                       try clear k4
                       refine hK.out _ _ ⟨(HB4.out.below hc5).cell 0 rfl,(HB4.out.below hc5).cell 1 rfl,(HB4.out.below hc5).cell 2 rfl⟩ (fun hHeld=>?_)
                       clear hK K;try simp only[Act.put,List.setIfInBounds_toArray,List.set_cons_zero,List.set_cons_succ]
                       refine wpAnyH_take (i:=14) (oi:=⟨some 81,Op.build 25 #[(0,Operand.tmp 68),(1,Operand.tmp 70),(2,Operand.tmp 80)],25,_,_,none⟩) (v:=?_) rfl (by kernel_rfl) (by kernel_rfl) (by kernel_rfl) (fun _ _ _ h=>h) (Or.inl ⟨by rfl,?_⟩) hHeld ?_
                       rotate_left
                       · (intro W hSw;obtain⟨t0,t1,t2⟩:=hSw;go_simp<;>with_reducible rfl)
                       try simp only[Act.put,List.setIfInBounds_toArray,List.set_cons_zero,List.set_cons_succ]
                       clear hHeld;revert x14
                       revert o80
                       revert hc5
                       revert k5
                       revert b14
                       revert cap80
                       revert a80
                       revert v79
                       revert v74
                       revert v71
                       exact rest.out
                 · skip
                   go_simp
                   generalize hwz:World.alloc k2 (.cells #[Value.int .i64 (J.first+(J.cos.length:Int)),.string key,.slice ua l.length ucap] 84)=k3;have hz:Below k2.heap.size k2 k3:=hwz▸(Below.refl _ _).alloc (Nat.le_refl _) _;have hc3:Below w4.heap.size w4 k3:=below_tr hc2 hz;have n79:NewC k3 (.slice (some ⟨k2.heap.size,0,none⟩) 1 1) [Value.int .i64 (J.first+(J.cos.length:Int)),.string key,.slice ua l.length ucap]:=NewC.new (r:=[Value.int .i64 (J.first+(J.cos.length:Int)),.string key,.slice ua l.length ucap]) hwz;replace e71:=e71.below hz;replace x14:=x14.below hz;clear hwz hz;generalize Value.slice (some (Addr.mk k2.heap.size 0 none)) 1 1=v79 at n79⊢;try clear hc2
                   try clear k2
                   refine hK.out _ _ ⟨(HB4.out.below hc3).cell 0 rfl,(HB4.out.below hc3).cell 1 rfl,(HB4.out.below hc3).cell 2 rfl⟩ (fun hzz=>?_)
                   clear hzz hK K;try simp only[Act.put,List.setIfInBounds_toArray,List.set_cons_zero,List.set_cons_succ]
                   refine wpAnyH_ready (rs:=[7]) (by kernel_rfl) (by simp) ?_
                   refine AllReadyH.cons (o:=⟨some 74,Op.call ⟨Callee.builtin Builtin.append,#[Operand.tmp 71,Operand.tmp 73],#[23,23]⟩,23,_,_,none⟩) rfl (fun K hK=>?_) (AllReadyH.nil)
                   · skip
                     refine step_append_src rfl (.tmp 71) (.tmp 73) 23 rfl w4.heap.size 84 i0 (.agg #[.int .i64 0,.string ⟨#[]⟩,.slice none 0 0]) 3 48 Tryz.underlying23 hi0 hz0 hz1 hz2 rfl (by decide) v71 0 [] rfl e71.own (.slice ca J.cos.length ccap) J.cos.length (rowsO J.cos us).flatten rfl (HSRC.out k3 hc3) HR1.out (by unfold maxLen;omega) (by omega) hc3.size ?_
                     intro v74 k4 ho hgr;have o74:k4.ownsRow w4.heap.size 84 3 v74 J.cos.length (rowsO J.cos us).flatten:=(by rw[Nat.zero_add,List.nil_append]at ho;exact ho)
                     have hc4:Below w4.heap.size w4 k4:=hc3.grown hgr hc3.size (fun k hk=>(e71.own.lt k hk).1);replace n79:=n79.gr (by simp) e71 hgr;replace x14:=x14.gr e71.own hgr;clear ho hgr e71;try clear hc3
                     try clear k3
                     refine hK.out _ _ ⟨(HB4.out.below hc4).cell 0 rfl,(HB4.out.below hc4).cell 1 rfl,(HB4.out.below hc4).cell 2 rfl⟩ (fun hzz=>?_)
                     clear hzz hK K;try simp only[Act.put,List.setIfInBounds_toArray,List.set_cons_zero,List.set_cons_succ]
                     refine wpAnyH_ready (rs:=[13]) (by kernel_rfl) (by simp) ?_
                     refine AllReadyH.cons (o:=⟨some 80,Op.call ⟨Callee.builtin Builtin.append,#[Operand.tmp 74,Operand.tmp 79],#[23,23]⟩,23,_,_,none⟩) rfl (fun K hK=>?_) (AllReadyH.nil)
                     · skip
                       refine step_append_src rfl (.tmp 74) (.tmp 79) 23 rfl w4.heap.size 84 i0 (.agg #[.int .i64 0,.string ⟨#[]⟩,.slice none 0 0]) 3 48 Tryz.underlying23 hi0 hz0 hz1 hz2 rfl (by decide) v74 J.cos.length (rowsO J.cos us).flatten rfl o74 v79 1 [Value.int .i64 (J.first+(J.cos.length:Int)),.string key,.slice ua l.length ucap] rfl (n79.src rfl) HR2.out (by unfold maxLen;omega) (by omega) hc4.size ?_
                       intro v80 k5 ho hgr;have o80:k5.ownsRow w4.heap.size 84 3 v80 (J.cos.length+1) ((rowsO J.cos us).flatten++[Value.int .i64 (J.first+(J.cos.length:Int)),.string key,.slice ua l.length ucap]):=ho;have hc5:Below w4.heap.size w4 k5:=hc4.grown hgr hc4.size (fun k hk=>(o74.lt k hk).1);replace x14:=x14.gr o74 hgr;clear ho hgr o74 n79;obtain⟨a80,cap80,rfl⟩:=ownsRow_shape o80
                       try clear hc4
                       try clear k4
                       refine hK.out _ _ ⟨(HB4.out.below hc5).cell 0 rfl,(HB4.out.below hc5).cell 1 rfl,(HB4.out.below hc5).cell 2 rfl⟩ (fun hHeld=>?_)
                       clear hK K;try simp only[Act.put,List.setIfInBounds_toArray,List.set_cons_zero,List.set_cons_succ]
                       refine wpAnyH_take (i:=14) (oi:=⟨some 81,Op.build 25 #[(0,Operand.tmp 68),(1,Operand.tmp 70),(2,Operand.tmp 80)],25,_,_,none⟩) (v:=?_) rfl (by kernel_rfl) (by kernel_rfl) (by kernel_rfl) (fun _ _ _ h=>h) (Or.inl ⟨by rfl,?_⟩) hHeld ?_
                       rotate_left
                       · (intro W hSw;obtain⟨t0,t1,t2⟩:=hSw;go_simp<;>with_reducible rfl)
                       try simp only[Act.put,List.setIfInBounds_toArray,List.set_cons_zero,List.set_cons_succ]
                       clear hHeld;revert x14
                       revert o80
                       revert hc5
                       revert k5
                       revert b14
                       revert cap80
                       revert a80
                       revert v79
                       revert v74
                       revert v71
                       exact rest.out
             · skip
               go_simp
               generalize hwz:World.alloc k0 (.cells #[Value.int .i64 (J.first+(J.cos.length:Int)),.string key,.slice ua l.length ucap] 84)=k1;have hz:Below k0.heap.size k0 k1:=hwz▸(Below.refl _ _).alloc (Nat.le_refl _) _;have hc1:Below w4.heap.size w4 k1:=below_tr hc0 hz;have n79:NewC k1 (.slice (some ⟨k0.heap.size,0,none⟩) 1 1) [Value.int .i64 (J.first+(J.cos.length:Int)),.string key,.slice ua l.length ucap]:=NewC.new (r:=[Value.int .i64 (J.first+(J.cos.length:Int)),.string key,.slice ua l.length ucap]) hwz;clear hwz hz;generalize Value.slice (some (Addr.mk k0.heap.size 0 none)) 1 1=v79 at n79⊢;try clear hc0
               try clear k0
               refine hK.out _ _ ⟨(HB4.out.below hc1).cell 0 rfl,(HB4.out.below hc1).cell 1 rfl,(HB4.out.below hc1).cell 2 rfl⟩ (fun hzz=>?_)
               clear hzz hK K;try simp only[Act.put,List.setIfInBounds_toArray,List.set_cons_zero,List.set_cons_succ]
               refine wpAnyH_ready (rs:=[4,15]) (by kernel_rfl) (by simp) ?_
               refine AllReadyH.cons (o:=⟨some 71,Op.buildSlice 23 0 #[],23,_,_,none⟩) rfl (fun K hK=>?_) (AllReadyH.cons (o:=⟨some 14,Op.alloc 25,0,_,_,none⟩) rfl (fun K hK=>?_) (AllReadyH.nil))
               · skip
                 go_simp
                 generalize hwz:World.alloc k1 (.cells #[] 84)=k2;have hz:Below k1.heap.size k1 k2:=hwz▸(Below.refl _ _).alloc (Nat.le_refl _) _;have hc2:Below w4.heap.size w4 k2:=below_tr hc1 hz;have e71:EmpC w4.heap.size k2 (.slice (some ⟨k1.heap.size,0,none⟩) 0 0):=EmpC.new hwz hc1.size;replace n79:=n79.below hz;clear hwz hz;generalize Value.slice (some (Addr.mk k1.heap.size 0 none)) 0 0=v71 at e71⊢;try clear hc1
                 try clear k1
                 refine hK.out _ _ ⟨(HB4.out.below hc2).cell 0 rfl,(HB4.out.below hc2).cell 1 rfl,(HB4.out.below hc2).cell 2 rfl⟩ (fun hzz=>?_)
                 clear hzz hK K;try simp only[Act.put,List.setIfInBounds_toArray,List.set_cons_zero,List.set_cons_succ]
                 refine wpAnyH_ready (rs:=[7,15]) (by kernel_rfl) (by simp) ?_
                 refine AllReadyH.cons (o:=⟨some 74,Op.call ⟨Callee.builtin Builtin.append,#[Operand.tmp 71,Operand.tmp 73],#[23,23]⟩,23,_,_,none⟩) rfl (fun K hK=>?_) (AllReadyH.cons (o:=⟨some 14,Op.alloc 25,0,_,_,none⟩) rfl (fun K hK=>?_) (AllReadyH.nil))
                 · skip
                   refine step_append_src rfl (.tmp 71) (.tmp 73) 23 rfl w4.heap.size 84 i0 (.agg #[.int .i64 0,.string ⟨#[]⟩,.slice none 0 0]) 3 48 Tryz.underlying23 hi0 hz0 hz1 hz2 rfl (by decide) v71 0 [] rfl e71.own (.slice ca J.cos.length ccap) J.cos.length (rowsO J.cos us).flatten rfl (HSRC.out k2 hc2) HR1.out (by unfold maxLen;omega) (by omega) hc2.size ?_
                   intro v74 k3 ho hgr;have o74:k3.ownsRow w4.heap.size 84 3 v74 J.cos.length (rowsO J.cos us).flatten:=(by rw[Nat.zero_add,List.nil_append]at ho;exact ho)
                   have hc3:Below w4.heap.size w4 k3:=hc2.grown hgr hc2.size (fun k hk=>(e71.own.lt k hk).1);replace n79:=n79.gr (by simp) e71 hgr;clear ho hgr e71;try clear hc2
                   try clear k2
                   refine hK.out _ _ ⟨(HB4.out.below hc3).cell 0 rfl,(HB4.out.below hc3).cell 1 rfl,(HB4.out.below hc3).cell 2 rfl⟩ (fun hzz=>?_)
                   clear hzz hK K;try simp only[Act.put,List.setIfInBounds_toArray,List.set_cons_zero,List.set_cons_succ]
                   refine wpAnyH_ready (rs:=[13,15]) (by kernel_rfl) (by simp) ?_
                   refine AllReadyH.cons (o:=⟨some 80,Op.call ⟨Callee.builtin Builtin.append,#[Operand.tmp 74,Operand.tmp 79],#[23,23]⟩,23,_,_,none⟩) rfl (fun K hK=>?_) (AllReadyH.cons (o:=⟨some 14,Op.alloc 25,0,_,_,none⟩) rfl (fun K hK=>?_) (AllReadyH.nil))
                   · skip
                     refine step_append_src rfl (.tmp 74) (.tmp 79) 23 rfl w4.heap.size 84 i0 (.agg #[.int .i64 0,.string ⟨#[]⟩,.slice none 0 0]) 3 48 Tryz.underlying23 hi0 hz0 hz1 hz2 rfl (by decide) v74 J.cos.length (rowsO J.cos us).flatten rfl o74 v79 1 [Value.int .i64 (J.first+(J.cos.length:Int)),.string key,.slice ua l.length ucap] rfl (n79.src rfl) HR2.out (by unfold maxLen;omega) (by omega) hc3.size ?_
                     intro v80 k4 ho hgr;have o80:k4.ownsRow w4.heap.size 84 3 v80 (J.cos.length+1) ((rowsO J.cos us).flatten++[Value.int .i64 (J.first+(J.cos.length:Int)),.string key,.slice ua l.length ucap]):=ho;have hc4:Below w4.heap.size w4 k4:=hc3.grown hgr hc3.size (fun k hk=>(o74.lt k hk).1);clear ho hgr o74 n79;obtain⟨a80,cap80,rfl⟩:=ownsRow_shape o80
                     try clear hc3
                     try clear k3
                     refine hK.out _ _ ⟨(HB4.out.below hc4).cell 0 rfl,(HB4.out.below hc4).cell 1 rfl,(HB4.out.below hc4).cell 2 rfl⟩ (fun hHeld=>?_)
                     clear hK K;try simp only[Act.put,List.setIfInBounds_toArray,List.set_cons_zero,List.set_cons_succ]
                     refine wpAnyH_take (i:=14) (oi:=⟨some 81,Op.build 25 #[(0,Operand.tmp 68),(1,Operand.tmp 70),(2,Operand.tmp 80)],25,_,_,none⟩) (v:=?_) rfl (by kernel_rfl) (by kernel_rfl) (by kernel_rfl) (fun _ _ _ h=>h) (Or.inl ⟨by rfl,?_⟩) hHeld ?_
                     rotate_left
                     · (intro W hSw;obtain⟨t0,t1,t2⟩:=hSw;go_simp<;>with_reducible rfl)
                     try simp only[Act.put,List.setIfInBounds_toArray,List.set_cons_zero,List.set_cons_succ]
                     clear hHeld;refine wpAnyH_ready (rs:=[15]) (by kernel_rfl) (by simp) ?_
                     refine AllReadyH.cons (o:=⟨some 14,Op.alloc 25,0,_,_,none⟩) rfl (fun K hK=>?_) (AllReadyH.nil)
                     · skip
                       go_simp
                       generalize hwz:World.alloc k4 (.cells #[.slice none 0 0,.int .i64 0,.slice none 0 0] 25)=k5;have hz:Below k4.heap.size k4 k5:=hwz▸(Below.refl _ _).alloc (Nat.le_refl _) _;have hc5:Below w4.heap.size w4 k5:=below_tr hc4 hz;have x14:BoxC w4.heap.size k5 k4.heap.size:=BoxC.new hwz hc4.size;replace o80:=ownsRow_below o80 hz;clear hwz hz;generalize k4.heap.size=b14 at x14⊢;try clear hc4
                       try clear k4
                       refine hK.out _ _ ⟨(HB4.out.below hc5).cell 0 rfl,(HB4.out.below hc5).cell 1 rfl,(HB4.out.below hc5).cell 2 rfl⟩ (fun hzz=>?_)
                       clear hzz hK K;try simp only[Act.put,List.setIfInBounds_toArray,List.set_cons_zero,List.set_cons_succ]
                       revert x14
                       revert o80
                       revert hc5
                       revert k5
                       revert b14
                       revert cap80
                       revert a80
                       revert v79
                       revert v74
                       revert v71
                       exact rest.out
                   · skip
                     go_simp
                     generalize hwz:World.alloc k3 (.cells #[.slice none 0 0,.int .i64 0,.slice none 0 0] 25)=k4;have hz:Below k3.heap.size k3 k4:=hwz▸(Below.refl _ _).alloc (Nat.le_refl _) _;have hc4:Below w4.heap.size w4 k4:=below_tr hc3 hz;have x14:BoxC w4.heap.size k4 k3.heap.size:=BoxC.new hwz hc3.size;replace n79:=n79.below hz;replace o74:=ownsRow_below o74 hz;clear hwz hz;generalize k3.heap.size=b14 at x14⊢;try clear hc3
                     try clear k3
                     refine hK.out _ _ ⟨(HB4.out.below hc4).cell 0 rfl,(HB4.out.below hc4).cell 1 rfl,(HB4.out.below hc4).cell 2 rfl⟩ (fun hzz=>?_)
                     clear hzz hK K;try simp only[Act.put,List.setIfInBounds_toArray,List.set_cons_zero,List.set_cons_succ]
                     refine wpAnyH_ready (rs:=[13]) (by kernel_rfl) (by simp) ?_
                     refine AllReadyH.cons (o:=⟨some 80,Op.call ⟨Callee.builtin Builtin.append,#[Operand.tmp 74,Operand.tmp 79],#[23,23]⟩,23,_,_,none⟩) rfl (fun K hK=>?_) (AllReadyH.nil)
                     · skip
                       refine step_append_src rfl (.tmp 74) (.tmp 79) 23 rfl w4.heap.size 84 i0 (.agg #[.int .i64 0,.string ⟨#[]⟩,.slice none 0 0]) 3 48 Tryz.underlying23 hi0 hz0 hz1 hz2 rfl (by decide) v74 J.cos.length (rowsO J.cos us).flatten rfl o74 v79 1 [Value.int .i64 (J.first+(J.cos.length:Int)),.string key,.slice ua l.length ucap] rfl (n79.src rfl) HR2.out (by unfold maxLen;omega) (by omega) hc4.size ?_
                       intro v80 k5 ho hgr;have o80:k5.ownsRow w4.heap.size 84 3 v80 (J.cos.length+1) ((rowsO J.cos us).flatten++[Value.int .i64 (J.first+(J.cos.length:Int)),.string key,.slice ua l.length ucap]):=ho;have hc5:Below w4.heap.size w4 k5:=hc4.grown hgr hc4.size (fun k hk=>(o74.lt k hk).1);replace x14:=x14.gr o74 hgr;clear ho hgr o74 n79;obtain⟨a80,cap80,rfl⟩:=ownsRow_shape o80
                       try clear hc4
                       try clear k4
                       refine hK.out _ _ ⟨(HB4.out.below hc5).cell 0 rfl,(HB4.out.below hc5).cell 1 rfl,(HB4.out.below hc5).cell 2 rfl⟩ (fun hHeld=>?_)
                       clear hK K;try simp only[Act.put,List.setIfInBounds_toArray,List.set_cons_zero,List.set_cons_succ]
                       refine wpAnyH_take (i:=14) (oi:=⟨some 81,Op.build 25 #[(0,Operand.tmp 68),(1,Operand.tmp 70),(2,Operand.tmp 80)],25,_,_,none⟩) (v:=?_) rfl (by kernel_rfl) (by kernel_rfl) (by kernel_rfl) (fun _ _ _ h=>h) (Or.inl ⟨by rfl,?_⟩) hHeld ?_
                       rotate_left
                       · (intro W hSw;obtain⟨t0,t1,t2⟩:=hSw;go_simp<;>with_reducible rfl)
                       try simp only[Act.put,List.setIfInBounds_toArray,List.set_cons_zero,List.set_cons_succ]
                       clear hHeld;revert x14
                       revert o80
                       revert hc5
                       revert k5
                       revert b14
                       revert cap80
                       revert a80
                       revert v79
                       revert v74
                       revert v71
                       exact rest.out
                 · skip
                   go_simp
                   generalize hwz:World.alloc k2 (.cells #[.slice none 0 0,.int .i64 0,.slice none 0 0] 25)=k3;have hz:Below k2.heap.size k2 k3:=hwz▸(Below.refl _ _).alloc (Nat.le_refl _) _;have hc3:Below w4.heap.size w4 k3:=below_tr hc2 hz;have x14:BoxC w4.heap.size k3 k2.heap.size:=BoxC.new hwz hc2.size;replace e71:=e71.below hz;replace n79:=n79.below hz;clear hwz hz;generalize k2.heap.size=b14 at x14⊢;try clear hc2
                   try clear k2
                   refine hK.out _ _ ⟨(HB4.out.below hc3).cell 0 rfl,(HB4.out.below hc3).cell 1 rfl,(HB4.out.below hc3).cell 2 rfl⟩ (fun hzz=>?_)
                   clear hzz hK K;try simp only[Act.put,List.setIfInBounds_toArray,List.set_cons_zero,List.set_cons_succ]
                   refine wpAnyH_ready (rs:=[7]) (by kernel_rfl) (by simp) ?_
                   refine AllReadyH.cons (o:=⟨some 74,Op.call ⟨Callee.builtin Builtin.append,#[Operand.tmp 71,Operand.tmp 73],#[23,23]⟩,23,_,_,none⟩) rfl (fun K hK=>?_) (AllReadyH.nil)
                   · skip
                     refine step_append_src rfl (.tmp 71) (.tmp 73) 23 rfl w4.heap.size 84 i0 (.agg #[.int .i64 0,.string ⟨#[]⟩,.slice none 0 0]) 3 48 Tryz.underlying23 hi0 hz0 hz1 hz2 rfl (by decide) v71 0 [] rfl e71.own (.slice ca J.cos.length ccap) J.cos.length (rowsO J.cos us).flatten rfl (HSRC.out k3 hc3) HR1.out (by unfold maxLen;omega) (by omega) hc3.size ?_
                     intro v74 k4 ho hgr;have o74:k4.ownsRow w4.heap.size 84 3 v74 J.cos.length (rowsO J.cos us).flatten:=(by rw[Nat.zero_add,List.nil_append]at ho;exact ho)
                     have hc4:Below w4.heap.size w4 k4:=hc3.grown hgr hc3.size (fun k hk=>(e71.own.lt k hk).1);replace n79:=n79.gr (by simp) e71 hgr;replace x14:=x14.gr e71.own hgr;clear ho hgr e71;try clear hc3
                     try clear k3
                     refine hK.out _ _ ⟨(HB4.out.below hc4).cell 0 rfl,(HB4.out.below hc4).cell 1 rfl,(HB4.out.below hc4).cell 2 rfl⟩ (fun hzz=>?_)
                     clear hzz hK K;try simp only[Act.put,List.setIfInBounds_toArray,List.set_cons_zero,List.set_cons_succ]
                     refine wpAnyH_ready (rs:=[13]) (by kernel_rfl) (by simp) ?_
                     refine AllReadyH.cons (o:=⟨some 80,Op.call ⟨Callee.builtin Builtin.append,#[Operand.tmp 74,Operand.tmp 79],#[23,23]⟩,23,_,_,none⟩) rfl (fun K hK=>?_) (AllReadyH.nil)
                     · skip
                       refine step_append_src rfl (.tmp 74) (.tmp 79) 23 rfl w4.heap.size 84 i0 (.agg #[.int .i64 0,.string ⟨#[]⟩,.slice none 0 0]) 3 48 Tryz.underlying23 hi0 hz0 hz1 hz2 rfl (by decide) v74 J.cos.length (rowsO J.cos us).flatten rfl o74 v79 1 [Value.int .i64 (J.first+(J.cos.length:Int)),.string key,.slice ua l.length ucap] rfl (n79.src rfl) HR2.out (by unfold maxLen;omega) (by omega) hc4.size ?_
                       intro v80 k5 ho hgr;have o80:k5.ownsRow w4.heap.size 84 3 v80 (J.cos.length+1) ((rowsO J.cos us).flatten++[Value.int .i64 (J.first+(J.cos.length:Int)),.string key,.slice ua l.length ucap]):=ho;have hc5:Below w4.heap.size w4 k5:=hc4.grown hgr hc4.size (fun k hk=>(o74.lt k hk).1);replace x14:=x14.gr o74 hgr;clear ho hgr o74 n79;obtain⟨a80,cap80,rfl⟩:=ownsRow_shape o80
                       try clear hc4
                       try clear k4
                       refine hK.out _ _ ⟨(HB4.out.below hc5).cell 0 rfl,(HB4.out.below hc5).cell 1 rfl,(HB4.out.below hc5).cell 2 rfl⟩ (fun hHeld=>?_)
                       clear hK K;try simp only[Act.put,List.setIfInBounds_toArray,List.set_cons_zero,List.set_cons_succ]
                       refine wpAnyH_take (i:=14) (oi:=⟨some 81,Op.build 25 #[(0,Operand.tmp 68),(1,Operand.tmp 70),(2,Operand.tmp 80)],25,_,_,none⟩) (v:=?_) rfl (by kernel_rfl) (by kernel_rfl) (by kernel_rfl) (fun _ _ _ h=>h) (Or.inl ⟨by rfl,?_⟩) hHeld ?_
                       rotate_left
                       · (intro W hSw;obtain⟨t0,t1,t2⟩:=hSw;go_simp<;>with_reducible rfl)
                       try simp only[Act.put,List.setIfInBounds_toArray,List.set_cons_zero,List.set_cons_succ]
                       clear hHeld;revert x14
                       revert o80
                       revert hc5
                       revert k5
                       revert b14
                       revert cap80
                       revert a80
                       revert v79
                       revert v74
                       revert v71
                       exact rest.out
               · skip
                 go_simp
                 generalize hwz:World.alloc k1 (.cells #[.slice none 0 0,.int .i64 0,.slice none 0 0] 25)=k2;have hz:Below k1.heap.size k1 k2:=hwz▸(Below.refl _ _).alloc (Nat.le_refl _) _;have hc2:Below w4.heap.size w4 k2:=below_tr hc1 hz;have x14:BoxC w4.heap.size k2 k1.heap.size:=BoxC.new hwz hc1.size;replace n79:=n79.below hz;clear hwz hz;generalize k1.heap.size=b14 at x14⊢;try clear hc1
                 try clear k1
                 refine hK.out _ _ ⟨(HB4.out.below hc2).cell 0 rfl,(HB4.out.below hc2).cell 1 rfl,(HB4.out.below hc2).cell 2 rfl⟩ (fun hzz=>?_)
                 clear hzz hK K;try simp only[Act.put,List.setIfInBounds_toArray,List.set_cons_zero,List.set_cons_succ]
                 refine wpAnyH_ready (rs:=[4]) (by kernel_rfl) (by simp) ?_
                 refine AllReadyH.cons (o:=⟨some 71,Op.buildSlice 23 0 #[],23,_,_,none⟩) rfl (fun K hK=>?_) (AllReadyH.nil)
                 · skip
                   go_simp
                   generalize hwz:World.alloc k2 (.cells #[] 84)=k3;have hz:Below k2.heap.size k2 k3:=hwz▸(Below.refl _ _).alloc (Nat.le_refl _) _;have hc3:Below w4.heap.size w4 k3:=below_tr hc2 hz;have e71:EmpC w4.heap.size k3 (.slice (some ⟨k2.heap.size,0,none⟩) 0 0):=EmpC.new hwz hc2.size;replace n79:=n79.below hz;replace x14:=x14.below hz;clear hwz hz;generalize Value.slice (some (Addr.mk k2.heap.size 0 none)) 0 0=v71 at e71⊢;try clear hc2
                   try clear k2
                   refine hK.out _ _ ⟨(HB4.out.below hc3).cell 0 rfl,(HB4.out.below hc3).cell 1 rfl,(HB4.out.below hc3).cell 2 rfl⟩ (fun hzz=>?_)
                   clear hzz hK K;try simp only[Act.put,List.setIfInBounds_toArray,List.set_cons_zero,List.set_cons_succ]
                   refine wpAnyH_ready (rs:=[7]) (by kernel_rfl) (by simp) ?_
                   refine AllReadyH.cons (o:=⟨some 74,Op.call ⟨Callee.builtin Builtin.append,#[Operand.tmp 71,Operand.tmp 73],#[23,23]⟩,23,_,_,none⟩) rfl (fun K hK=>?_) (AllReadyH.nil)
                   · skip
                     refine step_append_src rfl (.tmp 71) (.tmp 73) 23 rfl w4.heap.size 84 i0 (.agg #[.int .i64 0,.string ⟨#[]⟩,.slice none 0 0]) 3 48 Tryz.underlying23 hi0 hz0 hz1 hz2 rfl (by decide) v71 0 [] rfl e71.own (.slice ca J.cos.length ccap) J.cos.length (rowsO J.cos us).flatten rfl (HSRC.out k3 hc3) HR1.out (by unfold maxLen;omega) (by omega) hc3.size ?_
                     intro v74 k4 ho hgr;have o74:k4.ownsRow w4.heap.size 84 3 v74 J.cos.length (rowsO J.cos us).flatten:=(by rw[Nat.zero_add,List.nil_append]at ho;exact ho)
                     have hc4:Below w4.heap.size w4 k4:=hc3.grown hgr hc3.size (fun k hk=>(e71.own.lt k hk).1);replace n79:=n79.gr (by simp) e71 hgr;replace x14:=x14.gr e71.own hgr;clear ho hgr e71;try clear hc3
                     try clear k3
                     refine hK.out _ _ ⟨(HB4.out.below hc4).cell 0 rfl,(HB4.out.below hc4).cell 1 rfl,(HB4.out.below hc4).cell 2 rfl⟩ (fun hzz=>?_)
                     clear hzz hK K;try simp only[Act.put,List.setIfInBounds_toArray,List.set_cons_zero,List.set_cons_succ]
                     refine wpAnyH_ready (rs:=[13]) (by kernel_rfl) (by simp) ?_
                     refine AllReadyH.cons (o:=⟨some 80,Op.call ⟨Callee.builtin Builtin.append,#[Operand.tmp 74,Operand.tmp 79],#[23,23]⟩,23,_,_,none⟩) rfl (fun K hK=>?_) (AllReadyH.nil)
                     · skip
                       refine step_append_src rfl (.tmp 74) (.tmp 79) 23 rfl w4.heap.size 84 i0 (.agg #[.int .i64 0,.string ⟨#[]⟩,.slice none 0 0]) 3 48 Tryz.underlying23 hi0 hz0 hz1 hz2 rfl (by decide) v74 J.cos.length (rowsO J.cos us).flatten rfl o74 v79 1 [Value.int .i64 (J.first+(J.cos.length:Int)),.string key,.slice ua l.length ucap] rfl (n79.src rfl) HR2.out (by unfold maxLen;omega) (by omega) hc4.size ?_
                       intro v80 k5 ho hgr;have o80:k5.ownsRow w4.heap.size 84 3 v80 (J.cos.length+1) ((rowsO J.cos us).flatten++[Value.int .i64 (J.first+(J.cos.length:Int)),.string key,.slice ua l.length ucap]):=ho;have hc5:Below w4.heap.size w4 k5:=hc4.grown hgr hc4.size (fun k hk=>(o74.lt k hk).1);replace x14:=x14.gr o74 hgr;clear ho hgr o74 n79;obtain⟨a80,cap80,rfl⟩:=ownsRow_shape o80
                       try clear hc4
                       try clear k4
                       refine hK.out _ _ ⟨(HB4.out.below hc5).cell 0 rfl,(HB4.out.below hc5).cell 1 rfl,(HB4.out.below hc5).cell 2 rfl⟩ (fun hHeld=>?_)
                       clear hK K;try simp only[Act.put,List.setIfInBounds_toArray,List.set_cons_zero,List.set_cons_succ]
                       refine wpAnyH_take (i:=14) (oi:=⟨some 81,Op.build 25 #[(0,Operand.tmp 68),(1,Operand.tmp 70),(2,Operand.tmp 80)],25,_,_,none⟩) (v:=?_) rfl (by kernel_rfl) (by kernel_rfl) (by kernel_rfl) (fun _ _ _ h=>h) (Or.inl ⟨by rfl,?_⟩) hHeld ?_
                       rotate_left
                       · (intro W hSw;obtain⟨t0,t1,t2⟩:=hSw;go_simp<;>with_reducible rfl)
                       try simp only[Act.put,List.setIfInBounds_toArray,List.set_cons_zero,List.set_cons_succ]
                       clear hHeld;revert x14
                       revert o80
                       revert hc5
                       revert k5
                       revert b14
                       revert cap80
                       revert a80
                       revert v79
                       revert v74
                       revert v71
                       exact rest.out
             · skip
               go_simp
               generalize hwz:World.alloc k0 (.cells #[.slice none 0 0,.int .i64 0,.slice none 0 0] 25)=k1;have hz:Below k0.heap.size k0 k1:=hwz▸(Below.refl _ _).alloc (Nat.le_refl _) _;have hc1:Below w4.heap.size w4 k1:=below_tr hc0 hz;have x14:BoxC w4.heap.size k1 k0.heap.size:=BoxC.new hwz hc0.size;clear hwz hz;generalize k0.heap.size=b14 at x14⊢;try clear hc0
               try clear k0
               refine hK.out _ _ ⟨(HB4.out.below hc1).cell 0 rfl,(HB4.out.below hc1).cell 1 rfl,(HB4.out.below hc1).cell 2 rfl⟩ (fun hzz=>?_)
               clear hzz hK K;try simp only[Act.put,List.setIfInBounds_toArray,List.set_cons_zero,List.set_cons_succ]
               refine wpAnyH_ready (rs:=[4,12]) (by kernel_rfl) (by simp) ?_
               refine AllReadyH.cons (o:=⟨some 71,Op.buildSlice 23 0 #[],23,_,_,none⟩) rfl (fun K hK=>?_) (AllReadyH.cons (o:=⟨some 79,Op.buildSlice 23 1 #[(0,Operand.tmp 78)],23,_,_,none⟩) rfl (fun K hK=>?_) (AllReadyH.nil))
               · skip
                 go_simp
                 generalize hwz:World.alloc k1 (.cells #[] 84)=k2;have hz:Below k1.heap.size k1 k2:=hwz▸(Below.refl _ _).alloc (Nat.le_refl _) _;have hc2:Below w4.heap.size w4 k2:=below_tr hc1 hz;have e71:EmpC w4.heap.size k2 (.slice (some ⟨k1.heap.size,0,none⟩) 0 0):=EmpC.new hwz hc1.size;replace x14:=x14.below hz;clear hwz hz;generalize Value.slice (some (Addr.mk k1.heap.size 0 none)) 0 0=v71 at e71⊢;try clear hc1
                 try clear k1
                 refine hK.out _ _ ⟨(HB4.out.below hc2).cell 0 rfl,(HB4.out.below hc2).cell 1 rfl,(HB4.out.below hc2).cell 2 rfl⟩ (fun hzz=>?_)
                 clear hzz hK K;try simp only[Act.put,List.setIfInBounds_toArray,List.set_cons_zero,List.set_cons_succ]
                 refine wpAnyH_ready (rs:=[7,12]) (by kernel_rfl) (by simp) ?_
                 refine AllReadyH.cons (o:=⟨some 74,Op.call ⟨Callee.builtin Builtin.append,#[Operand.tmp 71,Operand.tmp 73],#[23,23]⟩,23,_,_,none⟩) rfl (fun K hK=>?_) (AllReadyH.cons (o:=⟨some 79,Op.buildSlice 23 1 #[(0,Operand.tmp 78)],23,_,_,none⟩) rfl (fun K hK=>?_) (AllReadyH.nil))
                 · skip
                   refine step_append_src rfl (.tmp 71) (.tmp 73) 23 rfl w4.heap.size 84 i0 (.agg #[.int .i64 0,.string ⟨#[]⟩,.slice none 0 0]) 3 48 Tryz.underlying23 hi0 hz0 hz1 hz2 rfl (by decide) v71 0 [] rfl e71.own (.slice ca J.cos.length ccap) J.cos.length (rowsO J.cos us).flatten rfl (HSRC.out k2 hc2) HR1.out (by unfold maxLen;omega) (by omega) hc2.size ?_
                   intro v74 k3 ho hgr;have o74:k3.ownsRow w4.heap.size 84 3 v74 J.cos.length (rowsO J.cos us).flatten:=(by rw[Nat.zero_add,List.nil_append]at ho;exact ho)
                   have hc3:Below w4.heap.size w4 k3:=hc2.grown hgr hc2.size (fun k hk=>(e71.own.lt k hk).1);replace x14:=x14.gr e71.own hgr;clear ho hgr e71;try clear hc2
                   try clear k2
                   refine hK.out _ _ ⟨(HB4.out.below hc3).cell 0 rfl,(HB4.out.below hc3).cell 1 rfl,(HB4.out.below hc3).cell 2 rfl⟩ (fun hzz=>?_)
                   clear hzz hK K;try simp only[Act.put,List.setIfInBounds_toArray,List.set_cons_zero,List.set_cons_succ]
                   refine wpAnyH_ready (rs:=[12]) (by kernel_rfl) (by simp) ?_
                   refine AllReadyH.cons (o:=⟨some 79,Op.buildSlice 23 1 #[(0,Operand.tmp 78)],23,_,_,none⟩) rfl (fun K hK=>?_) (AllReadyH.nil)
                   · skip
                     go_simp
                     generalize hwz:World.alloc k3 (.cells #[Value.int .i64 (J.first+(J.cos.length:Int)),.string key,.slice ua l.length ucap] 84)=k4;have hz:Below k3.heap.size k3 k4:=hwz▸(Below.refl _ _).alloc (Nat.le_refl _) _;have hc4:Below w4.heap.size w4 k4:=below_tr hc3 hz;have n79:NewC k4 (.slice (some ⟨k3.heap.size,0,none⟩) 1 1) [Value.int .i64 (J.first+(J.cos.length:Int)),.string key,.slice ua l.length ucap]:=NewC.new (r:=[Value.int .i64 (J.first+(J.cos.length:Int)),.string key,.slice ua l.length ucap]) hwz;replace o74:=ownsRow_below o74 hz;replace x14:=x14.below hz;clear hwz hz;generalize Value.slice (some (Addr.mk k3.heap.size 0 none)) 1 1=v79 at n79⊢;try clear hc3
                     try clear k3
                     refine hK.out _ _ ⟨(HB4.out.below hc4).cell 0 rfl,(HB4.out.below hc4).cell 1 rfl,(HB4.out.below hc4).cell 2 rfl⟩ (fun hzz=>?_)
                     clear hzz hK K;try simp only[Act.put,List.setIfInBounds_toArray,List.set_cons_zero,List.set_cons_succ]
                     refine wpAnyH_ready (rs:=[13]) (by kernel_rfl) (by simp) ?_
                     refine AllReadyH.cons (o:=⟨some 80,Op.call ⟨Callee.builtin Builtin.append,#[Operand.tmp 74,Operand.tmp 79],#[23,23]⟩,23,_,_,none⟩) rfl (fun K hK=>?_) (AllReadyH.nil)
                     · skip
                       refine step_append_src rfl (.tmp 74) (.tmp 79) 23 rfl w4.heap.size 84 i0 (.agg #[.int .i64 0,.string ⟨#[]⟩,.slice none 0 0]) 3 48 Tryz.underlying23 hi0 hz0 hz1 hz2 rfl (by decide) v74 J.cos.length (rowsO J.cos us).flatten rfl o74 v79 1 [Value.int .i64 (J.first+(J.cos.length:Int)),.string key,.slice ua l.length ucap] rfl (n79.src rfl) HR2.out (by unfold maxLen;omega) (by omega) hc4.size ?_
                       intro v80 k5 ho hgr;have o80:k5.ownsRow w4.heap.size 84 3 v80 (J.cos.length+1) ((rowsO J.cos us).flatten++[Value.int .i64 (J.first+(J.cos.length:Int)),.string key,.slice ua l.length ucap]):=ho;have hc5:Below w4.heap.size w4 k5:=hc4.grown hgr hc4.size (fun k hk=>(o74.lt k hk).1);replace x14:=x14.gr o74 hgr;clear ho hgr o74 n79;obtain⟨a80,cap80,rfl⟩:=ownsRow_shape o80
                       try clear hc4
                       try clear k4
                       refine hK.out _ _ ⟨(HB4.out.below hc5).cell 0 rfl,(HB4.out.below hc5).cell 1 rfl,(HB4.out.below hc5).cell 2 rfl⟩ (fun hHeld=>?_)
                       clear hK K;try simp only[Act.put,List.setIfInBounds_toArray,List.set_cons_zero,List.set_cons_succ]
                       refine wpAnyH_take (i:=14) (oi:=⟨some 81,Op.build 25 #[(0,Operand.tmp 68),(1,Operand.tmp 70),(2,Operand.tmp 80)],25,_,_,none⟩) (v:=?_) rfl (by kernel_rfl) (by kernel_rfl) (by kernel_rfl) (fun _ _ _ h=>h) (Or.inl ⟨by rfl,?_⟩) hHeld ?_
                       rotate_left
                       · (intro W hSw;obtain⟨t0,t1,t2⟩:=hSw;go_simp<;>with_reducible rfl)
                       try simp only[Act.put,List.setIfInBounds_toArray,List.set_cons_zero,List.set_cons_succ]
                       clear hHeld;revert x14
                       revert o80
                       revert hc5
                       revert k5
                       revert b14
                       revert cap80
                       revert a80
                       revert v79
                       revert v74
                       revert v71
                       exact rest.out
                 · skip
                   go_simp
                   generalize hwz:World.alloc k2 (.cells #[Value.int .i64 (J.first+(J.cos.length:Int)),.string key,.slice ua l.length ucap] 84)=k3;have hz:Below k2.heap.size k2 k3:=hwz▸(Below.refl _ _).alloc (Nat.le_refl _) _;have hc3:Below w4.heap.size w4 k3:=below_tr hc2 hz;have n79:NewC k3 (.slice (some ⟨k2.heap.size,0,none⟩) 1 1) [Value.int .i64 (J.first+(J.cos.length:Int)),.string key,.slice ua l.length ucap]:=NewC.new (r:=[Value.int .i64 (J.first+(J.cos.length:Int)),.string key,.slice ua l.length ucap]) hwz;replace e71:=e71.below hz;replace x14:=x14.below hz;clear hwz hz;generalize Value.slice (some (Addr.mk k2.heap.size 0 none)) 1 1=v79 at n79⊢;try clear hc2
                   try clear k2
                   refine hK.out _ _ ⟨(HB4.out.below hc3).cell 0 rfl,(HB4.out.below hc3).cell 1 rfl,(HB4.out.below hc3).cell 2 rfl⟩ (fun hzz=>?_)
                   clear hzz hK K;try simp only[Act.put,List.setIfInBounds_toArray,List.set_cons_zero,List.set_cons_succ]
                   refine wpAnyH_ready (rs:=[7]) (by kernel_rfl) (by simp) ?_
                   refine AllReadyH.cons (o:=⟨some 74,Op.call ⟨Callee.builtin Builtin.append,#[Operand.tmp 71,Operand.tmp 73],#[23,23]⟩,23,_,_,none⟩) rfl (fun K hK=>?_) (AllReadyH.nil)
                   · skip
                     refine step_append_src rfl (.tmp 71) (.tmp 73) 23 rfl w4.heap.size 84 i0 (.agg #[.int .i64 0,.string ⟨#[]⟩,.slice none 0 0]) 3 48 Tryz.underlying23 hi0 hz0 hz1 hz2 rfl (by decide) v71 0 [] rfl e71.own (.slice ca J.cos.length ccap) J.cos.length (rowsO J.cos us).flatten rfl (HSRC.out k3 hc3) HR1.out (by unfold maxLen;omega) (by omega) hc3.size ?_
                     intro v74 k4 ho hgr;have o74:k4.ownsRow w4.heap.size 84 3 v74 J.cos.length (rowsO J.cos us).flatten:=(by rw[Nat.zero_add,List.nil_append]at ho;exact ho)
                     have hc4:Below w4.heap.size w4 k4:=hc3.grown hgr hc3.size (fun k hk=>(e71.own.lt k hk).1);replace n79:=n79.gr (by simp) e71 hgr;replace x14:=x14.gr e71.own hgr;clear ho hgr e71;try clear hc3
                     try clear k3
                     refine hK.out _ _ ⟨(HB4.out.below hc4).cell 0 rfl,(HB4.out.below hc4).cell 1 rfl,(HB4.out.below hc4).cell 2 rfl⟩ (fun hzz=>?_)
                     clear hzz hK K;try simp only[Act.put,List.setIfInBounds_toArray,List.set_cons_zero,List.set_cons_succ]
                     refine wpAnyH_ready (rs:=[13]) (by kernel_rfl) (by simp) ?_
                     refine AllReadyH.cons (o:=⟨some 80,Op.call ⟨Callee.builtin Builtin.append,#[Operand.tmp 74,Operand.tmp 79],#[23,23]⟩,23,_,_,none⟩) rfl (fun K hK=>?_) (AllReadyH.nil)
                     · skip
                       refine step_append_src rfl (.tmp 74) (.tmp 79) 23 rfl w4.heap.size 84 i0 (.agg #[.int .i64 0,.string ⟨#[]⟩,.slice none 0 0]) 3 48 Tryz.underlying23 hi0 hz0 hz1 hz2 rfl (by decide) v74 J.cos.length (rowsO J.cos us).flatten rfl o74 v79 1 [Value.int .i64 (J.first+(J.cos.length:Int)),.string key,.slice ua l.length ucap] rfl (n79.src rfl) HR2.out (by unfold maxLen;omega) (by omega) hc4.size ?_
                       intro v80 k5 ho hgr;have o80:k5.ownsRow w4.heap.size 84 3 v80 (J.cos.length+1) ((rowsO J.cos us).flatten++[Value.int .i64 (J.first+(J.cos.length:Int)),.string key,.slice ua l.length ucap]):=ho;have hc5:Below w4.heap.size w4 k5:=hc4.grown hgr hc4.size (fun k hk=>(o74.lt k hk).1);replace x14:=x14.gr o74 hgr;clear ho hgr o74 n79;obtain⟨a80,cap80,rfl⟩:=ownsRow_shape o80
                       try clear hc4
                       try clear k4
                       refine hK.out _ _ ⟨(HB4.out.below hc5).cell 0 rfl,(HB4.out.below hc5).cell 1 rfl,(HB4.out.below hc5).cell 2 rfl⟩ (fun hHeld=>?_)
                       clear hK K;try simp only[Act.put,List.setIfInBounds_toArray,List.set_cons_zero,List.set_cons_succ]
                       refine wpAnyH_take (i:=14) (oi:=⟨some 81,Op.build 25 #[(0,Operand.tmp 68),(1,Operand.tmp 70),(2,Operand.tmp 80)],25,_,_,none⟩) (v:=?_) rfl (by kernel_rfl) (by kernel_rfl) (by kernel_rfl) (fun _ _ _ h=>h) (Or.inl ⟨by rfl,?_⟩) hHeld ?_
                       rotate_left
                       · (intro W hSw;obtain⟨t0,t1,t2⟩:=hSw;go_simp<;>with_reducible rfl)
                       try simp only[Act.put,List.setIfInBounds_toArray,List.set_cons_zero,List.set_cons_succ]
                       clear hHeld;revert x14
                       revert o80
                       revert hc5
                       revert k5
                       revert b14
                       revert cap80
                       revert a80
                       revert v79
                       revert v74
                       revert v71
                       exact rest.out
               · skip
                 go_simp
                 generalize hwz:World.alloc k1 (.cells #[Value.int .i64 (J.first+(J.cos.length:Int)),.string key,.slice ua l.length ucap] 84)=k2;have hz:Below k1.heap.size k1 k2:=hwz▸(Below.refl _ _).alloc (Nat.le_refl _) _;have hc2:Below w4.heap.size w4 k2:=below_tr hc1 hz;have n79:NewC k2 (.slice (some ⟨k1.heap.size,0,none⟩) 1 1) [Value.int .i64 (J.first+(J.cos.length:Int)),.string key,.slice ua l.length ucap]:=NewC.new (r:=[Value.int .i64 (J.first+(J.cos.length:Int)),.string key,.slice ua l.length ucap]) hwz;replace x14:=x14.below hz;clear hwz hz;generalize Value.slice (some (Addr.mk k1.heap.size 0 none)) 1 1=v79 at n79⊢;try clear hc1
                 try clear k1
                 refine hK.out _ _ ⟨(HB4.out.below hc2).cell 0 rfl,(HB4.out.below hc2).cell 1 rfl,(HB4.out.below hc2).cell 2 rfl⟩ (fun hzz=>?_)
                 clear hzz hK K;try simp only[Act.put,List.setIfInBounds_toArray,List.set_cons_zero,List.set_cons_succ]
                 refine wpAnyH_ready (rs:=[4]) (by kernel_rfl) (by simp) ?_
                 refine AllReadyH.cons (o:=⟨some 71,Op.buildSlice 23 0 #[],23,_,_,none⟩) rfl (fun K hK=>?_) (AllReadyH.nil)
                 · skip
                   go_simp
                   generalize hwz:World.alloc k2 (.cells #[] 84)=k3;have hz:Below k2.heap.size k2 k3:=hwz▸(Below.refl _ _).alloc (Nat.le_refl _) _;have hc3:Below w4.heap.size w4 k3:=below_tr hc2 hz;have e71:EmpC w4.heap.size k3 (.slice (some ⟨k2.heap.size,0,none⟩) 0 0):=EmpC.new hwz hc2.size;replace n79:=n79.below hz;replace x14:=x14.below hz;clear hwz hz;generalize Value.slice (some (Addr.mk k2.heap.size 0 none)) 0 0=v71 at e71⊢;try clear hc2
                   try clear k2
                   refine hK.out _ _ ⟨(HB4.out.below hc3).cell 0 rfl,(HB4.out.below hc3).cell 1 rfl,(HB4.out.below hc3).cell 2 rfl⟩ (fun hzz=>?_)
                   clear hzz hK K;try simp only[Act.put,List.setIfInBounds_toArray,List.set_cons_zero,List.set_cons_succ]
                   refine wpAnyH_ready (rs:=[7]) (by kernel_rfl) (by simp) ?_
                   refine AllReadyH.cons (o:=⟨some 74,Op.call ⟨Callee.builtin Builtin.append,#[Operand.tmp 71,Operand.tmp 73],#[23,23]⟩,23,_,_,none⟩) rfl (fun K hK=>?_) (AllReadyH.nil)
                   · skip
                     refine step_append_src rfl (.tmp 71) (.tmp 73) 23 rfl w4.heap.size 84 i0 (.agg #[.int .i64 0,.string ⟨#[]⟩,.slice none 0 0]) 3 48 Tryz.underlying23 hi0 hz0 hz1 hz2 rfl (by decide) v71 0 [] rfl e71.own (.slice ca J.cos.length ccap) J.cos.length (rowsO J.cos us).flatten rfl (HSRC.out k3 hc3) HR1.out (by unfold maxLen;omega) (by omega) hc3.size ?_
                     intro v74 k4 ho hgr;have o74:k4.ownsRow w4.heap.size 84 3 v74 J.cos.length (rowsO J.cos us).flatten:=(by rw[Nat.zero_add,List.nil_append]at ho;exact ho)
                     have hc4:Below w4.heap.size w4 k4:=hc3.grown hgr hc3.size (fun k hk=>(e71.own.lt k hk).1);replace n79:=n79.gr (by simp) e71 hgr;replace x14:=x14.gr e71.own hgr;clear ho hgr e71;try clear hc3
                     try clear k3
                     refine hK.out _ _ ⟨(HB4.out.below hc4).cell 0 rfl,(HB4.out.below hc4).cell 1 rfl,(HB4.out.below hc4).cell 2 rfl⟩ (fun hzz=>?_)
                     clear hzz hK K;try simp only[Act.put,List.setIfInBounds_toArray,List.set_cons_zero,List.set_cons_succ]
                     refine wpAnyH_ready (rs:=[13]) (by kernel_rfl) (by simp) ?_
                     refine AllReadyH.cons (o:=⟨some 80,Op.call ⟨Callee.builtin Builtin.append,#[Operand.tmp 74,Operand.tmp 79],#[23,23]⟩,23,_,_,none⟩) rfl (fun K hK=>?_) (AllReadyH.nil)
                     · skip
                       refine step_append_src rfl (.tmp 74) (.tmp 79) 23 rfl w4.heap.size 84 i0 (.agg #[.int .i64 0,.string ⟨#[]⟩,.slice none 0 0]) 3 48 Tryz.underlying23 hi0 hz0 hz1 hz2 rfl (by decide) v74 J.cos.length (rowsO J.cos us).flatten rfl o74 v79 1 [Value.int .i64 (J.first+(J.cos.length:Int)),.string key,.slice ua l.length ucap] rfl (n79.src rfl) HR2.out (by unfold maxLen;omega) (by omega) hc4.size ?_
                       intro v80 k5 ho hgr;have o80:k5.ownsRow w4.heap.size 84 3 v80 (J.cos.length+1) ((rowsO J.cos us).flatten++[Value.int .i64 (J.first+(J.cos.length:Int)),.string key,.slice ua l.length ucap]):=ho;have hc5:Below w4.heap.size w4 k5:=hc4.grown hgr hc4.size (fun k hk=>(o74.lt k hk).1);replace x14:=x14.gr o74 hgr;clear ho hgr o74 n79;obtain⟨a80,cap80,rfl⟩:=ownsRow_shape o80
                       try clear hc4
                       try clear k4
                       refine hK.out _ _ ⟨(HB4.out.below hc5).cell 0 rfl,(HB4.out.below hc5).cell 1 rfl,(HB4.out.below hc5).cell 2 rfl⟩ (fun hHeld=>?_)
                       clear hK K;try simp only[Act.put,List.setIfInBounds_toArray,List.set_cons_zero,List.set_cons_succ]
                       refine wpAnyH_take (i:=14) (oi:=⟨some 81,Op.build 25 #[(0,Operand.tmp 68),(1,Operand.tmp 70),(2,Operand.tmp 80)],25,_,_,none⟩) (v:=?_) rfl (by kernel_rfl) (by kernel_rfl) (by kernel_rfl) (fun _ _ _ h=>h) (Or.inl ⟨by rfl,?_⟩) hHeld ?_
                       rotate_left
                       · (intro W hSw;obtain⟨t0,t1,t2⟩:=hSw;go_simp<;>with_reducible rfl)
                       try simp only[Act.put,List.setIfInBounds_toArray,List.set_cons_zero,List.set_cons_succ]
                       clear hHeld;revert x14
                       revert o80
                       revert hc5
                       revert k5
                       revert b14
                       revert cap80
                       revert a80
                       revert v79
                       revert v74
                       revert v71
                       exact rest.out
           intro v71 v74 v79 a80 cap80 b14 cw hc o80 x14;have hb0c:=below_tr hb04 hc;have HX0:=hid x14.cs;have HB5:=hid (HB4.out.below hc);have HY5:=hid (HY4.out.below hc);have hwlt:w.heap.size<w4.heap.size:=HB4.out.lt;have hylt:w.heap.size+1<w4.heap.size:=HY4.out.lt;have hb14:=x14.1;have hne0: ¬w.heap.size=b14:=by omega
           have hne1: ¬w.heap.size+1=b14:=by omega
           have hle14:w.heap.size≤b14:=by omega
           have HLC:=hid (show LiesO cw (.slice a80 (J.cos.length+1) cap80) (J.cos++[Jn.newC J key l])from by
            have e:(rowsO (J.cos++[Jn.newC J key l]) (us++[.slice ua l.length ucap])).flatten=(rowsO J.cos us).flatten++[Value.int .i64 (J.first+(J.cos.length:Int)),.string key,.slice ua l.length ucap]:=by
             rw[rowsO_snoc HCH.out.1,List.flatten_append];simp[rowO,Jn.newC,HLJ.out]
            rw[←e]at o80;exact liesO_owned (w0:=w) o80 (by simp) (by simp;omega) ((HCH.out.snoc (c:=Jn.newC J key l) HU.out).below hb0c))
           have hcap80:J.cos.length+1≤cap80:=by
            obtain⟨a',cap',hv',h1,_⟩:=HLC.out
            injection hv' with _ _ ec
            rw[ec];simpa using h1
           clear o80 HSRC HR1 HR2 x14;have t0:=HX0.out.cell 0 rfl;have t1:=HX0.out.cell 1 rfl;have t2:=HX0.out.cell 2 rfl;have s0:=HX0.out.fr 0;have s1:=HX0.out.fr 1;have s2:=HX0.out.fr 2;have q0:=HB5.out.cell 0 rfl;have q1:=HB5.out.cell 1 rfl;have q2:=HB5.out.cell 2 rfl;refine wpAnyH_ready (rs:=[16]) (by kernel_rfl) (by simp) ?_
           refine AllReadyH.cons (o:=⟨none,Op.store 25 (Operand.tmp 14) (Operand.tmp 81),0,_,_,none⟩) rfl (fun K hK=>?_) AllReadyH.nil
           go_simp
           refine hK.out _ _ ⟨by simpa[go_sem,hne0]using q0,by simpa[go_sem,hne0]using q1,by simpa[go_sem,hne0]using q2⟩ (fun hzz=>?_)
           clear hzz hK K;try simp only[Act.put,List.setIfInBounds_toArray,List.set_cons_zero,List.set_cons_succ]
           refine wpAnyH_done (by kernel_rfl) ?_ _
           clear t0 t1 t2 s0 s1 s2 q0 q1 q2;obtain⟨ws,hws⟩: ∃ws,ws=((cw.setCell ⟨b14,0,none⟩ (.slice ba J.base.length bcap)).setCell ⟨b14,1,none⟩ (.int .i64 J.first)).setCell ⟨b14,2,none⟩ (.slice a80 (J.cos.length+1) cap80):=⟨_,rfl⟩
           have hX1:=HX0.out.set 0 (.slice ba J.base.length bcap);have hX2:=hX1.set 1 (.int .i64 J.first);have hX3:=hX2.set 2 (.slice a80 (J.cos.length+1) cap80);have HOX:=hid (show Cs ws b14 [.slice ba J.base.length bcap,.int .i64 J.first,.slice a80 (J.cos.length+1) cap80]from by rw[hws];exact hX3)
           have HLX:=hid (show LiesO ws (.slice a80 (J.cos.length+1) cap80) (J.cos++[Jn.newC J key l])from by
            rw[hws];exact((HLC.out.nb (nb_set _ _ _ _) (HX0.out.noStr (by intro s hs;simp at hs))).nb (nb_set _ _ _ _) (hX1.noStr (by intro s hs;simp at hs))).nb (nb_set _ _ _ _) (hX2.noStr (by intro s hs;simp at hs)))
           have HB6:=hid (show Cs ws w.heap.size [.slice ba J.base.length bcap,.int .i64 J.first,.slice ca J.cos.length ccap]from by rw[hws];exact((HB5.out.nb (nb_set _ _ _ _) hne0).nb (nb_set _ _ _ _) hne0).nb (nb_set _ _ _ _) hne0);have HY6:=hid (show Cs ws (w.heap.size+1) [.slice none 0 0,.int .i64 0,.slice none 0 0]from by rw[hws];exact((HY5.out.nb (nb_set _ _ _ _) hne1).nb (nb_set _ _ _ _) hne1).nb (nb_set _ _ _ _) hne1);have hb0s:Below w.heap.size w ws:=by rw[hws];exact((hb0c.setCell (p:=⟨b14,0,none⟩) hle14 _).setCell (p:=⟨b14,1,none⟩) hle14 _).setCell (p:=⟨b14,2,none⟩) hle14 _
           rw[←hws];clear hws hX1 hX2 hX3 HX0 HLC HB5 HY5 hc hb0c;have o0:=HOX.out.cell 0 rfl;have o1:=HOX.out.cell 1 rfl;have o2:=HOX.out.cell 2 rfl;have y0:=HY6.out.cell 0 rfl;have y1:=HY6.out.cell 1 rfl;have y2:=HY6.out.cell 2 rfl;have g0:=HY6.out.fr 0;have g1:=HY6.out.fr 1;have g2:=HY6.out.fr 2;by_cases h31:30<J.cos.length+1
           · have h31':30<(J.cos.length:Int)+1:=by omega
             obtain⟨c,r,hcr⟩: ∃c r,J.cos=c::r:=by
              cases hc:J.cos with
              |nil=>rw[hc]at h31;simp at h31
              |cons c r=>exact⟨c,r,rfl⟩
             have hrl:r.length+1=J.cos.length:=by rw[hcr];simp
             have hfst:=Jn.run_first (n:=J.first) (T:=J.base) (c:=c) (r:=r) (by rw[←hcr,(Jn.chk_parts H0.out).2.2.2.1]);have hnu:=(Jn.co_zero hfst.1).1;have HA0:=hid (show Pp.allE J.base c.ch J.first=0 from by rw[←hnu];exact hfst.2);have HAD:=hid (show Jn.addJ J key l=⟨Pp.allR J.base c.ch J.first,J.first+1,r++[Jn.newC J key l]⟩from by rw[Jn.addJ,Jn.cutJ,if_pos (by show 30<(J.cos++[Jn.newC J key l]).length;simp;omega)];simp only[hcr,List.cons_append]);have HCC:Hid (SizedC 1000000000 c.ch):=(HCS.out c (by rw[hcr];simp)).2;have HCA:=hid (show J.cos++[Jn.newC J key l]=c::(r++[Jn.newC J key l])from by rw[hcr];rfl);have HRN:=hid (show(r++[Jn.newC J key l]).length=J.cos.length from by simp;omega);clear hfst hnu hcr;have hL:=HLX.out;rw[HCA.out]at hL;have HL0:=hid hL
             have hex: ∃g o u7,a80=some ⟨g,o,none⟩∧g<ws.heap.size∧ ¬g=b14∧ws.cell? ⟨g,o+2,none⟩=some u7∧LiesC ws u7 c.ch:=by
              obtain⟨a',cap',hv',_,_,hat⟩:=hL
              injection hv' with ea _ _
              obtain⟨g,o,hgo,hg,_,d1,u7,d2,hu7⟩:=hat 0 (by simp)
              exact⟨g,o,u7,ea.trans hgo,hg,fun e=>(HOX.out.noStr (by intro s hs;simp at hs)) _ _ (e▸d1),by simpa using d2,by simpa using hu7⟩
             obtain⟨g,o,u7,rfl,hg,hgne,hd2,hu8⟩:=hex
             have HU8:=hid hu8;obtain⟨xa8,xc8,rfl,_⟩:=hu8
             clear hL HCA;have b0:=HB6.out.cell 0 rfl;have b1:=HB6.out.cell 1 rfl;have hlt14:=HOX.out.lt;have hltb:=HB6.out.lt;have n0:=HOX.out.fr 0;have h0l:(0:Int)<(J.cos.length:Int)+1:=by omega
             have HRL2:=hid hrl;clear hrl;go_upto_region 18 with fail;refine wp_region_held_drew (S:=fun W=>W.cell? ⟨w.heap.size,0,none⟩=some (.slice ba J.base.length bcap)∧W.cell? ⟨w.heap.size,1,none⟩=some (.int .i64 J.first)∧W.cell? ⟨b14,2,none⟩=some (.slice (some ⟨g,o,none⟩) (J.cos.length+1) cap80)∧W.cell? ⟨g,o+2,none⟩=some (.slice xa8 c.ch.length xc8)) (by kernel_rfl) ⟨by simpa using b0,by simpa using b1,by simpa using o2,by simpa using hd2⟩ (fun hHeld=>?_)
             change wpAnyH _ _ _ _ _ 16 #[false,false,false,false,false,false,false,false,false,false,false,false,false,false,false,false] _ _
             have hz0:Below ws.heap.size ws ws.drew:=(Below.refl _ _).drew;generalize ws.drew=z0 at hHeld hz0⊢;refine wpAnyH_take (i:=0) (oi:=⟨some 87,Op.fieldAddr 25 (Operand.tmp 3) 0,0,_,_,none⟩) (v:=?_) rfl (by kernel_rfl) (by kernel_rfl) (by kernel_rfl) (fun _ _ _ h=>h) (Or.inl ⟨by rfl,?_⟩) hHeld ?_
             rotate_left
             · (intro W hSw;obtain⟨t0,t1,t2,t3⟩:=hSw;go_simp<;>with_reducible rfl)
             try simp only[Act.put,List.setIfInBounds_toArray,List.set_cons_zero,List.set_cons_succ]
             refine wpAnyH_take (i:=1) (oi:=⟨some 88,Op.load 22 (Operand.tmp 87),22,_,_,none⟩) (v:=?_) rfl (by kernel_rfl) (by kernel_rfl) (by kernel_rfl) (fun _ _ _ h=>h) (Or.inl ⟨by rfl,?_⟩) hHeld ?_
             rotate_left
             · (intro W hSw;obtain⟨t0,t1,t2,t3⟩:=hSw;go_simp<;>with_reducible rfl)
             try simp only[Act.put,List.setIfInBounds_toArray,List.set_cons_zero,List.set_cons_succ]
             refine wpAnyH_take (i:=2) (oi:=⟨some 89,Op.fieldAddr 25 (Operand.tmp 14) 2,0,_,_,none⟩) (v:=?_) rfl (by kernel_rfl) (by kernel_rfl) (by kernel_rfl) (fun _ _ _ h=>h) (Or.inl ⟨by rfl,?_⟩) hHeld ?_
             rotate_left
             · (intro W hSw;obtain⟨t0,t1,t2,t3⟩:=hSw;go_simp<;>with_reducible rfl)
             try simp only[Act.put,List.setIfInBounds_toArray,List.set_cons_zero,List.set_cons_succ]
             refine wpAnyH_take (i:=3) (oi:=⟨some 90,Op.load 23 (Operand.tmp 89),23,_,_,none⟩) (v:=?_) rfl (by kernel_rfl) (by kernel_rfl) (by kernel_rfl) (fun _ _ _ h=>h) (Or.inl ⟨by rfl,?_⟩) hHeld ?_
             rotate_left
             · (intro W hSw;obtain⟨t0,t1,t2,t3⟩:=hSw;go_simp<;>with_reducible rfl)
             try simp only[Act.put,List.setIfInBounds_toArray,List.set_cons_zero,List.set_cons_succ]
             refine wpAnyH_take (i:=4) (oi:=⟨some 91,Op.indexAddr 23 (Operand.tmp 90) (Operand.const (Value.int IntKind.i64 0)),0,_,_,none⟩) (v:=?_) rfl (by kernel_rfl) (by kernel_rfl) (by kernel_rfl) (fun _ _ _ h=>h) (Or.inl ⟨by rfl,?_⟩) hHeld ?_
             rotate_left
             · (intro W hSw;obtain⟨t0,t1,t2,t3⟩:=hSw;go_simp<;>with_reducible rfl)
             try simp only[Act.put,List.setIfInBounds_toArray,List.set_cons_zero,List.set_cons_succ]
             refine wpAnyH_take (i:=5) (oi:=⟨some 92,Op.fieldAddr 84 (Operand.tmp 91) 2,0,_,_,none⟩) (v:=?_) rfl (by kernel_rfl) (by kernel_rfl) (by kernel_rfl) (fun _ _ _ h=>h) (Or.inl ⟨by rfl,?_⟩) hHeld ?_
             rotate_left
             · (intro W hSw;obtain⟨t0,t1,t2,t3⟩:=hSw;go_simp<;>with_reducible rfl)
             try simp only[Act.put,List.setIfInBounds_toArray,List.set_cons_zero,List.set_cons_succ]
             refine wpAnyH_take (i:=6) (oi:=⟨some 93,Op.load 26 (Operand.tmp 92),26,_,_,none⟩) (v:=?_) rfl (by kernel_rfl) (by kernel_rfl) (by kernel_rfl) (fun _ _ _ h=>h) (Or.inl ⟨by rfl,?_⟩) hHeld ?_
             rotate_left
             · (intro W hSw;obtain⟨t0,t1,t2,t3⟩:=hSw;go_simp<;>with_reducible rfl)
             try simp only[Act.put,List.setIfInBounds_toArray,List.set_cons_zero,List.set_cons_succ]
             refine wpAnyH_take (i:=7) (oi:=⟨some 94,Op.fieldAddr 25 (Operand.tmp 3) 1,0,_,_,none⟩) (v:=?_) rfl (by kernel_rfl) (by kernel_rfl) (by kernel_rfl) (fun _ _ _ h=>h) (Or.inl ⟨by rfl,?_⟩) hHeld ?_
             rotate_left
             · (intro W hSw;obtain⟨t0,t1,t2,t3⟩:=hSw;go_simp<;>with_reducible rfl)
             try simp only[Act.put,List.setIfInBounds_toArray,List.set_cons_zero,List.set_cons_succ]
             refine wpAnyH_take (i:=8) (oi:=⟨some 95,Op.load 3 (Operand.tmp 94),3,_,_,none⟩) (v:=?_) rfl (by kernel_rfl) (by kernel_rfl) (by kernel_rfl) (fun _ _ _ h=>h) (Or.inl ⟨by rfl,?_⟩) hHeld ?_
             rotate_left
             · (intro W hSw;obtain⟨t0,t1,t2,t3⟩:=hSw;go_simp<;>with_reducible rfl)
             try simp only[Act.put,List.setIfInBounds_toArray,List.set_cons_zero,List.set_cons_succ]
             refine wpAnyH_ready (rs:=[9]) (by kernel_rfl) (by simp) ?_
             refine AllReadyH.cons (o:=⟨some 96,Op.call ⟨Callee.value (Operand.func 42),#[Operand.tmp 88,Operand.tmp 93,Operand.tmp 95],#[22,26,3]⟩,_,_,_,none⟩) rfl (fun K hK=>?_) AllReadyH.nil
             go_simp
             refine(rAllOf_any J.base _ c.ch _ J.first _ (HVB.out.below (below_tr hb0s hz0)) HGB.out (HU8.out.below hz0) HCC.out).mono ?_
             rintro e wa ⟨r6,rfl,hli,hba⟩;rw[HA0.out];have hl6:=hli HA0.out;have HL6:=hid hl6;obtain⟨xa6,xc6,rfl,_⟩:=hl6
             have hwa:Below ws.heap.size ws wa:=below_tr hz0 hba;have e0:=(hwa.cell (p:=⟨b14,0,none⟩) hlt14).trans o0;have e1':=(hwa.cell (p:=⟨b14,1,none⟩) hlt14).trans o1;have e2':=(hwa.cell (p:=⟨b14,2,none⟩) hlt14).trans o2;have n0':=(hwa.frozen (p:=⟨b14,0,none⟩) hlt14).trans n0;have f0':=(hwa.cell (p:=⟨w.heap.size,0,none⟩) hltb).trans b0;have f1':=(hwa.cell (p:=⟨w.heap.size,1,none⟩) hltb).trans b1;have f2':=(hwa.cell (p:=⟨g,o+2,none⟩) hg).trans hd2;go_wp2_with fail;clear hli hba hz0;refine hK.out _ _ ⟨f0',f1',e2',f2'⟩ (fun hHeld=>?_)
             clear hK K;try simp only[Act.put,List.setIfInBounds_toArray,List.set_cons_zero,List.set_cons_succ]
             refine wpAnyH_take (i:=10) (oi:=⟨some 86,Op.move (Operand.tmp 96),_,_,_,none⟩) (v:=?_) rfl (by kernel_rfl) (by kernel_rfl) (by kernel_rfl) (fun _ _ _ h=>h) (Or.inl ⟨by rfl,?_⟩) hHeld ?_
             rotate_left
             · (intro W hSw;obtain⟨t0,t1,t2,t3⟩:=hSw;go_simp<;>with_reducible rfl)
             try simp only[Act.put,List.setIfInBounds_toArray,List.set_cons_zero,List.set_cons_succ]
             refine wpAnyH_take (i:=11) (oi:=⟨some 97,Op.extract (Operand.tmp 86) 0,_,_,_,none⟩) (v:=?_) rfl (by kernel_rfl) (by kernel_rfl) (by kernel_rfl) (fun _ _ _ h=>h) (Or.inl ⟨by rfl,?_⟩) hHeld ?_
             rotate_left
             · (intro W hSw;obtain⟨t0,t1,t2,t3⟩:=hSw;go_simp<;>with_reducible rfl)
             try simp only[Act.put,List.setIfInBounds_toArray,List.set_cons_zero,List.set_cons_succ]
             refine wpAnyH_take (i:=12) (oi:=⟨some 98,Op.extract (Operand.tmp 86) 1,_,_,_,none⟩) (v:=?_) rfl (by kernel_rfl) (by kernel_rfl) (by kernel_rfl) (fun _ _ _ h=>h) (Or.inl ⟨by rfl,?_⟩) hHeld ?_
             rotate_left
             · (intro W hSw;obtain⟨t0,t1,t2,t3⟩:=hSw;go_simp<;>with_reducible rfl)
             try simp only[Act.put,List.setIfInBounds_toArray,List.set_cons_zero,List.set_cons_succ]
             refine wpAnyH_take (i:=13) (oi:=⟨some 99,Op.extract (Operand.tmp 86) 2,_,_,_,none⟩) (v:=?_) rfl (by kernel_rfl) (by kernel_rfl) (by kernel_rfl) (fun _ _ _ h=>h) (Or.inl ⟨by rfl,?_⟩) hHeld ?_
             rotate_left
             · (intro W hSw;obtain⟨t0,t1,t2,t3⟩:=hSw;go_simp<;>with_reducible rfl)
             try simp only[Act.put,List.setIfInBounds_toArray,List.set_cons_zero,List.set_cons_succ]
             refine wpAnyH_take (i:=14) (oi:=⟨some 100,Op.fieldAddr 25 (Operand.tmp 14) 0,0,_,_,none⟩) (v:=?_) rfl (by kernel_rfl) (by kernel_rfl) (by kernel_rfl) (fun _ _ _ h=>h) (Or.inl ⟨by rfl,?_⟩) hHeld ?_
             rotate_left
             · (intro W hSw;obtain⟨t0,t1,t2,t3⟩:=hSw;go_simp<;>with_reducible rfl)
             try simp only[Act.put,List.setIfInBounds_toArray,List.set_cons_zero,List.set_cons_succ]
             refine wpAnyH_ready (rs:=[15]) (by kernel_rfl) (by simp) ?_
             refine AllReadyH.cons (o:=⟨none,Op.store 22 (Operand.tmp 100) (Operand.tmp 97),0,_,_,none⟩) rfl (fun K hK=>?_) AllReadyH.nil
             go_simp
             refine hK.out _ _ ⟨by simpa[go_sem,hne0]using f0',by simpa[go_sem,hne0]using f1',by simpa[go_sem]using e2',by simpa[go_sem,hgne]using f2'⟩ (fun hzz=>?_)
             clear hzz hK K;try simp only[Act.put,List.setIfInBounds_toArray,List.set_cons_zero,List.set_cons_succ]
             refine wpAnyH_done (by kernel_rfl) ?_ _
             obtain⟨wc,hwc⟩: ∃wc,wc=wa.setCell ⟨b14,0,none⟩ (.slice xa6 (Pp.allR J.base c.ch J.first).length xc6):=⟨_,rfl⟩
             have hKA:=HOX.out.below hwa;have hN:=hKA.noStr (by intro s hs;simp at hs);have HC7:=hid (show Cs wc b14 [.slice xa6 (Pp.allR J.base c.ch J.first).length xc6,.int .i64 J.first,.slice (some ⟨g,o,none⟩) (J.cos.length+1) cap80]from by rw[hwc];exact hKA.set 0 _);have HL7:=hid (show Lies wc (.slice xa6 (Pp.allR J.base c.ch J.first).length xc6) (Pp.allR J.base c.ch J.first)from by rw[hwc];exact HL6.out.nb (nb_set _ _ _ _) hN);have HO7:=hid (show LiesO wc (.slice (some ⟨g,o,none⟩) (J.cos.length+1) cap80) (c::(r++[Jn.newC J key l]))from by rw[hwc];exact(HL0.out.below hwa).nb (nb_set _ _ _ _) hN);have HY7:=hid (show Cs wc (w.heap.size+1) [.slice none 0 0,.int .i64 0,.slice none 0 0]from by rw[hwc];exact(HY6.out.below hwa).nb (nb_set _ _ _ _) hne1);have hb07:Below w.heap.size w wc:=by rw[hwc];exact(below_tr hb0s hwa).setCell (p:=⟨b14,0,none⟩) hle14 _
             rw[←hwc];clear hwc hKA hN hHeld e0 e1' e2' n0' f0' f1' f2' b0 b1 o0 o1 o2 hd2 y0 y1 y2 g0 g1 g2 n0 HL0 HL6 HU8 HOX HLX HB6 HY6 hwa hb0s hlt14 hltb;have m0:=HC7.out.cell 0 rfl;have m1:=HC7.out.cell 1 rfl;have m2:=HC7.out.cell 2 rfl;have n1:=HC7.out.fr 1;have n2:=HC7.out.fr 2;have y0:=HY7.out.cell 0 rfl;have y1:=HY7.out.cell 1 rfl;have y2:=HY7.out.cell 2 rfl;have g0:=HY7.out.fr 0;have g1:=HY7.out.fr 1;have g2:=HY7.out.fr 2;have hw1:IntKind.i64.wrap (J.first+1)=J.first+1:=by rw[IntKind.wrap_i64];omega
             have hcap1: ¬cap80=1:=by omega
             have hcap3:(1:Int)≤cap80:=by omega
             have hcap4:(1:Int)≤(J.cos.length:Int)+1:=by omega
             have HT:=hid (liesO_tail HO7.out);rw[HRN.out]at HT;have HC8:=hid (HC7.out.set 1 (.int .i64 (J.first+1)));have HC9:=hid (HC8.out.set 2 (.slice (some ⟨g,o+3,none⟩) J.cos.length (cap80-1)));have HY9:=hid ((HY7.out.nb (nb_set wc b14 1 (.int .i64 (J.first+1))) hne1).nb (nb_set _ b14 2 (.slice (some ⟨g,o+3,none⟩) J.cos.length (cap80-1))) hne1);have HYA:=hid (HY9.out.set 0 (.slice xa6 (Pp.allR J.base c.ch J.first).length xc6));have HYB:=hid (HYA.out.set 1 (.int .i64 (J.first+1)));have hb09:=(hb07.setCell (p:=⟨b14,1,none⟩) hle14 (.int .i64 (J.first+1))).setCell (p:=⟨b14,2,none⟩) hle14 (.slice (some ⟨g,o+3,none⟩) J.cos.length (cap80-1));have HLF:=hid ((((HL7.out.nb (nb_set _ _ _ _) (HC7.out.noStr (by intro s hs;simp at hs))).nb (nb_set _ _ _ _) (HC8.out.noStr (by intro s hs;simp at hs))).nb (nb_set _ _ _ _) (HY9.out.noStr (by intro s hs;simp at hs))).nb (nb_set _ _ _ _) (HYA.out.noStr (by intro s hs;simp at hs))|>.nb (nb_set _ (w.heap.size+1) 2 (.slice (some ⟨g,o+3,none⟩) J.cos.length (cap80-1))) (HYB.out.noStr (by intro s hs;simp at hs)));have HTF:=hid ((((HT.out.nb (nb_set _ _ _ _) (HC7.out.noStr (by intro s hs;simp at hs))).nb (nb_set _ _ _ _) (HC8.out.noStr (by intro s hs;simp at hs))).nb (nb_set _ _ _ _) (HY9.out.noStr (by intro s hs;simp at hs))).nb (nb_set _ _ _ _) (HYA.out.noStr (by intro s hs;simp at hs))|>.nb (nb_set _ (w.heap.size+1) 2 (.slice (some ⟨g,o+3,none⟩) J.cos.length (cap80-1))) (HYB.out.noStr (by intro s hs;simp at hs)));go_wp2_with fail;refine bodyPost_ret (v:= .tuple #[.agg #[.slice xa6 (Pp.allR J.base c.ch J.first).length xc6,.int .i64 (J.first+1),.slice (some ⟨g,o+3,none⟩) J.cos.length (cap80-1)],.int .i64 (J.first+(J.cos.length:Int)),.int .i64 0]) (by simp[results,Tryz.results14,go_sem,y0,y1,y2]) rfl ⟨_,by rw[HO.out.1,HE1.out],?_,?_⟩
             · rw[HO.out.2,HAD.out]
               exact⟨_,_,rfl,HLF.out,HTF.out⟩
             · exact(((hb09.setCell (p:=⟨w.heap.size+1,0,none⟩) (Nat.le_succ _) _).setCell (p:=⟨w.heap.size+1,1,none⟩) (Nat.le_succ _) _).setCell (p:=⟨w.heap.size+1,2,none⟩) (Nat.le_succ _) _)
           · have h31': ¬30<(J.cos.length:Int)+1:=by omega
             have HAD:=hid (show Jn.addJ J key l=⟨J.base,J.first,J.cos++[Jn.newC J key l]⟩from by
              rw[Jn.addJ,Jn.cutJ,if_neg];simp;omega)
             have hY1:=HY6.out.set 0 (.slice ba J.base.length bcap);have hY2:=hY1.set 1 (.int .i64 J.first);have HY7:=hid hY2;have HY8:=hid hY1;clear hY1 hY2;go_wp2_with fail;refine bodyPost_ret (v:= .tuple #[.agg #[.slice ba J.base.length bcap,.int .i64 J.first,.slice a80 (J.cos.length+1) cap80],.int .i64 (J.first+(J.cos.length:Int)),.int .i64 0]) (by simp[results,Tryz.results14,go_sem,y0,y1,y2]) rfl ⟨_,by rw[HO.out.1,HE1.out],?_,?_⟩
             · rw[HO.out.2,HAD.out]
               exact⟨_,_,rfl,HVB.out.below (((hb0s.setCell (p:=⟨w.heap.size+1,0,none⟩) (Nat.le_succ _) _).setCell (p:=⟨w.heap.size+1,1,none⟩) (Nat.le_succ _) _).setCell (p:=⟨w.heap.size+1,2,none⟩) (Nat.le_succ _) _),by simpa using ((HLX.out.nb (nb_set _ _ _ _) (HY6.out.noStr (by intro s hs;simp at hs))).nb (nb_set _ _ _ _) (HY8.out.noStr (by intro s hs;simp at hs))).nb (nb_set _ _ _ _) (HY7.out.noStr (by intro s hs;simp at hs))⟩
             · exact(((hb0s.setCell (p:=⟨w.heap.size+1,0,none⟩) (Nat.le_succ _) _).setCell (p:=⟨w.heap.size+1,1,none⟩) (Nat.le_succ _) _).setCell (p:=⟨w.heap.size+1,2,none⟩) (Nat.le_succ _) _)
         · have HB:=hid (HBAD.out hall)
           have hz:(Pp.allE (Jn.tree J) l (J.first+(J.cos.length:Int))==0)=false:=by simpa using hall
           clear HBAD HOK;go_wp2_with fail;refine bodyPost_ret (v:= .tuple #[.agg #[.slice none 0 0,.int .i64 0,.slice none 0 0],.int .i64 0,.int .i64 (Pp.allE (Jn.tree J) l (J.first+(J.cos.length:Int)))]) (by simp[results,Tryz.results14,go_sem,y0,y1,y2]) rfl ⟨_,by rw[HB.out.1,HE.out],?_,?_⟩
           · rw[HB.out.2]
             exact liesJ_zero _
           · exact(((hb04.setCell (p:=⟨w.heap.size+1,0,none⟩) (Nat.le_succ _) _).setCell (p:=⟨w.heap.size+1,1,none⟩) (Nat.le_succ _) _).setCell (p:=⟨w.heap.size+1,2,none⟩) (Nat.le_succ _) _)
end Go.Proofs.YtdifomkoegmngaaGreatDoor
